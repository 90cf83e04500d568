import PyProof.Rows.All
import Wide.All
import OpenK.AllK
import Wide.FinOn
import HandS.ForMost
import HandS.ForExc
import HandS.IsInst
import HandS.StrMore
import PyProof.Rows.StrCut
import PyProof.StrOps2
import PyProof.ListStr
import HandS.Codes
import HandS.ExcInit
import HandS.ExcValue
import HandS.ExcIs
import HandS.ExcField
import HandS.Set
import HandS.Strs
import PyProof.Rows.SetFrom
import HandS.Walk
import HandS.Style
import HandS.Dict
import HandS.DictComp
import KE.KEqDict
import HandS.Replace
import PyProof.Rows.StrLawsPart
import HandS.Text
import KE.KRevSl
import HandS.TupAny
import HandS.TupMul
import PySem.Challenge.RW_rescans_k02_expanders_recognized
set_option Elab.async false
set_option linter.all false
set_option maxRecDepth 100000
set_option maxHeartbeats 8000000
/-! A def's promise where it is known that no container is being shown (guards): repr of containers can be told then. -/
namespace G
open PySem PySem.Spec PyProof.Rows L2

/-- as FnOk, but asked only where nothing is being shown -/
structure FnG (P : Program) (w : World) (K : PySem.W.Frag) (mg : Str → Option Value) (base : Heap) (CX : CXT) (k : Nat)
    (f : Addr) (fd : FuncData) (ps : List Str) (sp : Sp) : Prop where
  len : ∀ vs H Q E, sp vs H Q E → vs.length = ps.length
  run : ∀ (A : Around) (outer : List Env) (s : Shared) (H : Hp) (args : Args) (us : List Value) (vs : List V) (Q : VK) (E : XK),
    A.guards = some [] → Room k A → Env0 P w K mg base A outer s H → BindsTo s fd args (ps.zip us) → Vals vs us → sp vs H Q E →
      codeAny (model P w) A (.call (.ref f) args) (CR CX outer P w H s Q E) s

theorem _root_.L2.FnOk.g {P w K mg base CX k f fd ps sp} (F : FnOk P w K mg base CX k f fd ps sp) : FnG P w K mg base CX k f fd ps sp :=
  ⟨F.len, fun A outer s H args us vs Q E _ => F.run A outer s H args us vs Q E⟩

theorem FnG.imp {P w K mg base CX k f fd ps sp sp'} (F : FnG P w K mg base CX k f fd ps sp)
    (h : ∀ vs H Q E, sp' vs H Q E → sp vs H Q E) : FnG P w K mg base CX k f fd ps sp' :=
  ⟨fun vs H Q E q => F.len _ _ _ _ (h _ _ _ _ q), fun A o s H ar us vs Q E g r e b v q => F.run A o s H ar us vs Q E g r e b v (h _ _ _ _ q)⟩

section
variable {X : Cx} {CX : CXT} {k : Nat} {f : Addr} {fd : FuncData} {ps : List Str} {sp : Sp} {dvs : List V} {ds : List Value} {E : XK} {x : Str} {p pos : Pos} {e : Expr} {es : List Expr} {t : TA}

theorem run_fnG {pins σ H s Q us vs} (F : FnG X.prog X.w X.K X.mg X.base CX k f fd ps sp) (gd : X.A.guards = some []) (hr : Room k X.A)
    (hb : Binds X.K fd ps ds) (hd : Vals dvs ds) (hx : Passes CX X E) (I : Inv X pins σ H s) (r : Vals vs us) (h : sp (vs ++ dvs) H Q E) :
    wpAny (model X.prog X.w) X.A (call (.ref f) us) (EP X pins σ Q) X.xe s := by
  have rr := r.append hd
  have ll : (us ++ ds).length = ps.length := rr.length ▸ F.len _ _ _ _ h
  refine wpAny_call (codeAny_mono (F.run _ _ _ _ ⟨us, []⟩ _ _ Q E gd hr I.env0 (hb s us I.kIn ll) rr h) ?_)
  intro res t' hq
  cases res with
  | error er => exact hx pins σ H s er t' I hq
  | ok fl =>
    cases fl with
    | ret u => exact I.after hq
    | next => exact (show False from hq).elim
    | brk => exact (show False from hq).elim
    | cont => exact (show False from hq).elim

theorem pe_callG (F : FnG X.prog X.w X.K X.mg X.base CX k f fd ps sp) (gd : X.A.guards = some []) (hr : Room k X.A) (hg : Gl X x)
    (hm : X.mg x = some (.ref f)) (hk : PySem.W.keepIn X.K (.ref f) = true) (hb : Binds X.K fd ps ds) (hd : Vals dvs ds) (hx : Passes CX X E)
    (ha : PA X (e :: es) t) (hdb : (x == ("__debug__" : Str)) = false := by decide)
    (he : starEach (e :: es) X.env = (false, eval e X.env) :: starEach es X.env := by rfl)
    (hpl : (backTo pos (starEach es X.env)).any (·.1) = false := by rfl) :
    PE X (.Call (.Name x p) (e :: es) [] pos) (tCall sp dvs E t) := by
  constructor
  intro pins s σ H Q I h
  refine wpAny_Call_Name_kw (ld_glob I hg hm ?_ hdb)
  refine PySem.W.callWith_K (h₀ := X.base) I.ok.mod.kin hk ?_ he hpl
  refine thn (ha.run pos pins s σ H _ I h) ?_
  rintro us s1 ⟨vs, H1, I1, r, q⟩
  exact ⟨I1.kIn, run_fnG F gd hr hb hd hx I1 r q⟩

theorem pe_callG0 (F : FnG X.prog X.w X.K X.mg X.base CX k f fd ps sp) (gd : X.A.guards = some []) (hr : Room k X.A) (hg : Gl X x)
    (hm : X.mg x = some (.ref f)) (hk : PySem.W.keepIn X.K (.ref f) = true) (hb : Binds X.K fd ps ds) (hd : Vals dvs ds) (hx : Passes CX X E)
    (hdb : (x == ("__debug__" : Str)) = false := by decide) : PE X (.Call (.Name x p) [] [] pos) (tCall sp dvs E tNil) := by
  constructor
  intro pins s σ H Q I h
  refine wpAny_Call_Name_kw (ld_glob I hg hm ?_ hdb)
  exact PySem.W.callWith_K0 I.kIn hk (run_fnG (us := []) F gd hr hb hd hx I .nil h)
end

/-- a def by its body, where nothing is being shown -/
theorem fn_ofG {CX : CXT} {P : Program} {w : World} {K : PySem.W.Frag} {mg : Str → Option Value} {base : Heap} {k : Nat} {f : Addr} {name qual : Str}
    {params : Arguments} {body : List Stmt} {scope : Scope} {dV kV doc pm cdv ct oc : Value} {an od : Option Addr} {osl : Array (Option Value)} {N ps : List Str} {sp : Sp}
    (lk : K.lookup f = some ⟨oc, od, .func (PySem.W.fnOf name qual params body scope dV kV doc pm an cdv ct), osl⟩)
    (hcd : PySem.W.codeIn K cdv qual = true) (S : FnScope N ps scope) (len : ∀ vs H Q E, sp vs H Q E → vs.length = ps.length)
    (hbody : ∀ (A : Around) (outer : List Env) (s : Shared) (H : Hp) (vs : List V) (Q : VK) (E : XK), A.guards = some [] →
      Room k (A.deeper (envOfC qual scope s.heap.objs.size f cdv)) → sp vs H Q E →
      ∃ t, PSs (cxOf CX P w K mg base N qual scope f cdv A outer s H E) body t ∧ t { nx := fun _ H' => Q .non H', rt := Q } (start N vs) H) :
    FnG P w K mg base CX (k + 1) f (PySem.W.fnOf name qual params body scope dV kV doc pm an cdv ct) ps sp := by
  refine ⟨len, ?_⟩
  intro A outer s H args us vs Q E gd hr e0 hb r hsp
  have inK : K.In s.heap := e0.mod.kin.keeps fun b o q => (e0.bs b o q).1
  have nolim : s.heap.NoLimit := e0.mod.nolimit.keeps fun b o q => (e0.bs b o q).1
  refine codeAny_call_function hr.depth (inK _ _ lk) rfl S.co S.gen rfl (PySem.W.codeRec_of inK hcd) (hb _ _ _ _ ?_)
  refine wpAny_newFunctionEnv_cells S.kind ?_ ?_
  · rintro ⟨n, v⟩ hy
    have q := S.par n (List.of_mem_zip hy).1
    exact q.imp id fun z => ⟨z, PySem.W.cellsFrom_some _ _ _ (.inl z)⟩
  · rintro env rfl s1 x
    refine ⟨nolim.keeps x.toInCall.keep, codeAny_func ?_⟩
    obtain ⟨t, ht, hq⟩ := hbody A outer s H vs Q E gd (hr.deeper _) hsp
    have I := inv_start (CX := CX) (E := E) (mg := mg) (base := base) S hr.hd e0 (len _ _ _ _ hsp) r x
    refine wpAny_mono (ht.run [] s1 _ H _ I hq) ?_ fun _ _ z => z
    intro fl s' hs
    have fin : ∀ {σ' : L2.St} {H' : Hp} {v : V} {u : Value}, Inv (cxOf CX P w K mg base N qual scope f cdv A outer s H E) [] σ' H' s' →
        RelV v u → Q v H' → CE outer P w H s Q u s' := by
      intro σ' H' v u J rv z
      exact ⟨v, H', J.os, J.bare, J.base, J.hok, rv, z⟩
    cases fl with
    | ret u =>
      obtain ⟨v, σ', H', J, rv, z⟩ := hs
      exact fin J rv z
    | next =>
      obtain ⟨σ', H', J, z⟩ := hs
      exact fin (v := V.non) (u := Value.none) J rfl z
    | brk =>
      obtain ⟨_, _, _, z⟩ := hs
      exact False.elim z
    | cont =>
      obtain ⟨_, _, _, z⟩ := hs
      exact False.elim z

theorem _root_.L2.Fun.okG {P w K mg base} {x qual : Str} {st : Stmt} {f : Addr} {fd : FuncData} {N ps : List Str} {k : Nat} {sp : Sp} (F : Fun K x qual st f fd)
    (S : FnScope N ps (defScope st)) (len : ∀ vs H Q E, sp vs H Q E → vs.length = ps.length)
    (hbody : ∀ (cdv : Value) (A : Around) (outer : List Env) (s : Shared) (H : Hp) (vs : List V) (Q : VK) (E : XK), A.guards = some [] →
      Room k (A.deeper (envOfC qual (defScope st) s.heap.objs.size f cdv)) → sp vs H Q E →
      ∃ t, PSs (cxOf CX0 P w K mg base N qual (defScope st) f cdv A outer s H E).nox (defBody st) t ∧ t { nx := fun _ H' => Q .non H', rt := Q } (start N vs) H) :
    FnG P w K mg base CX0 (k + 1) f fd ps sp := by
  obtain ⟨oc, od, kV, doc, pm, an, cdv, ct, osl, rfl, lk, hcd⟩ := F.ex
  refine fn_ofG lk hcd S len ?_
  intro A outer s H vs Q E gd hr hsp
  obtain ⟨t, h, q⟩ := hbody cdv A outer s H vs Q E gd hr hsp
  exact ⟨t, h.nox, q⟩

theorem _root_.L2.Fun.okXG {P w K mg base} {x qual : Str} {st : Stmt} {f : Addr} {fd : FuncData} {N ps : List Str} {k : Nat} {sp : Sp} (F : Fun K x qual st f fd)
    (S : FnScope N ps (defScope st)) (len : ∀ vs H Q E, sp vs H Q E → vs.length = ps.length)
    (hbody : ∀ (cdv : Value) (A : Around) (outer : List Env) (s : Shared) (H : Hp) (vs : List V) (Q : VK) (E : XK), A.guards = some [] →
      Room k (A.deeper (envOfC qual (defScope st) s.heap.objs.size f cdv)) → sp vs H Q E →
      ∃ t, PSs (cxOf (L2.CX P w) P w K mg base N qual (defScope st) f cdv A outer s H E) (defBody st) t ∧ t { nx := fun _ H' => Q .non H', rt := Q } (start N vs) H) :
    FnG P w K mg base (L2.CX P w) (k + 1) f fd ps sp := by
  obtain ⟨oc, od, kV, doc, pm, an, cdv, ct, osl, rfl, lk, hcd⟩ := F.ex
  exact fn_ofG lk hcd S len fun A outer s H vs Q E gd hr hsp => hbody cdv A outer s H vs Q E gd hr hsp

/-! ### the law's own call -/
theorem law_callG {P : Program} {w : World} {K : PySem.W.Frag} {mg mb : Str → Option Value} {CX : CXT} {k : Nat} {fa a : Addr} {fd : FuncData} {x : Str} {sp : Sp}
    {z : Shared} {vs : List Value} {ns : List Int} (inK : K.In z.heap) (hns : z.heap.Ns mainGlobals mg) (hb : z.heap.Ns builtinsNs mb)
    (hbb : ∀ y : Str, y ≠ "__name__" → mb y = bootBuiltins y) (nolim : z.heap.NoLimit) (hgen : z.gens = #[])
    (ha : z.heap.get? a = some { cls := .type "list", data := .seq vs.toArray }) (hi : IntsAre vs ns) (hl : ns.length ≤ sizeLine) (hr : Room k callerA)
    (F : ∀ base : Heap, K.In base → base.Ns mainGlobals mg → FnG P w K mg base CX k fa fd [x] sp)
    (hbind : ∀ (s : Shared) (u : Value), BindsTo s fd ⟨[u], []⟩ [(x, u)])
    (hsp : ∀ H : Hp, Only H → SqL K H a (ns.map V.int) → sp [.ref a] H (fun v _ => v = .bl true) fun _ _ _ => False)
    (hCX : ∀ H e s', CX [] H z (fun _ _ _ => False) e s' → False) :
    codeAny (model P w) callerA (.call (.ref fa) ⟨[.ref a], []⟩) (fun r s' => r = .ok (.ret (.bool true)) ∧ OldK z.heap s'.heap ∧ s'.os = z.os ∧ AllBare s'.gens) z := by
  have rv := vals_ints hi
  have lv := hi.length
  have main : ∀ H : Hp, Only H → SqL K H a (ns.map V.int) → HOk P w H z.heap → (∀ b, H b ≠ none → b = a) → (H a ≠ none → K.lookup a = none) →
      codeAny (model P w) callerA (.call (.ref fa) ⟨[.ref a], []⟩) (fun r s' => r = .ok (.ret (.bool true)) ∧ OldK z.heap s'.heap ∧ s'.os = z.os ∧ AllBare s'.gens) z := by
    intro H only hS ok at_a free_a
    have nd : ∀ {b : Addr} {o : Obj} {es : Array DictEntry} {ep : Nat}, z.heap.get? b = some o → o.data = .dict es ep → H b = none := by
      intro b o es ep e d
      refine Option.eq_none_iff_forall_ne_some.mpr fun u q => ?_
      obtain rfl : b = a := at_a b (q ▸ Option.some_ne_none u)
      rw [ha] at e
      cases e
      cases (show Data.seq vs.toArray _ = Data.dict es ep from d)
    have ns_of : ∀ {b : Addr} {m : Str → Option Value}, z.heap.Ns b m → (hidT z.heap H).Ns b m := by
      rintro b m ⟨o, es, ep, e, d, r⟩
      exact ⟨o, es, ep, hidT_get e (nd e d), d, r⟩
    have inB : K.In (hidT z.heap H) := by
      intro b o e
      refine hidT_get (inK b o e) (Option.eq_none_iff_forall_ne_some.mpr fun u q => ?_)
      obtain rfl : b = a := at_a b (q ▸ Option.some_ne_none u)
      rw [free_a (q ▸ Option.some_ne_none u)] at e
      cases e
    obtain ⟨mc, l1, l2⟩ := nolim
    have hM : Mod K mg (hidT z.heap H) := ⟨inB, ns_of hns, ⟨mb, ns_of hb, hbb⟩, ⟨mc, ns_of l1, l2⟩⟩
    have e0 : Env0 P w K mg (hidT z.heap H) callerA [] z H :=
      ⟨rfl, hM, fun b o e => of_hidT e, Nat.le_of_eq (hidT_size _ _), trivial, fun b hb => (List.not_mem_nil hb).elim, ok, .of_eq hgen⟩
    refine codeAny_mono ((F _ inB (ns_of hns)).run callerA [] z H _ [.ref a] [.ref a] _ _ rfl hr e0 (hbind z (.ref a)) (.cons rfl .nil) (hsp H only hS)) ?_
    intro r s' h
    cases r with
    | error e => exact (hCX H e s' h).elim
    | ok fl =>
     cases fl with
     | next => exact (show False from h).elim
     | brk => exact (show False from h).elim
     | cont => exact (show False from h).elim
     | ret u =>
      obtain ⟨v, H', os, bare, un, hok', r', q⟩ := h
      obtain rfl : v = .bl true := q
      obtain rfl : u = Value.bool true := r'
      refine ⟨rfl, OldK.of_keep fun b o e => ?_, os, bare⟩
      cases q : H b with
      | none => exact un.keep b o e q List.not_mem_nil List.not_mem_nil
      | some u =>
        rcases only b with y | ⟨ob, xs, y⟩
        · exact absurd (q.symm.trans y) (Option.some_ne_none u)
        · obtain ⟨e1, _⟩ := ok b _ y
          obtain ⟨e2, _⟩ := hok' b _ (un.frzs b ob _ y)
          rw [e] at e1
          cases e1
          exact e2
  cases hk : K.lookup a with
  | some o =>
    have e := inK a o hk
    rw [ha] at e
    cases e
    refine main (fun _ => none) (fun _ => .inl rfl) (.inr ⟨_, vs.toArray, _, hk, rfl, rfl, rfl, ?_, by simpa using rv⟩) (fun b u q => nomatch q) (fun b q => absurd rfl q) fun q => absurd rfl q
    rw [List.size_toArray, lv]
    exact hl
  | none =>
    have here : (fun b => if b = a then some (HO.frz { cls := .type "list", data := .seq vs.toArray } (.lst (ns.map V.int))) else none) a =
        some (HO.frz { cls := .type "list", data := .seq vs.toArray } (.lst (ns.map V.int))) := if_pos rfl
    refine main (fun b => if b = a then some (.frz { cls := .type "list", data := .seq vs.toArray } (.lst (ns.map V.int))) else none) ?_ (.inl (.inr ⟨_, here⟩)) ?_ ?_ fun _ => hk
    · intro b
      by_cases hb : b = a
      · exact .inr ⟨_, _, if_pos hb⟩
      · exact .inl (if_neg hb)
    · intro b u q
      by_cases hb : b = a
      · cases (if_pos hb).symm.trans q
        subst hb
        exact ⟨ha, by rw [List.length_map]; exact hl, vs, _, rv, ha⟩
      · cases (if_neg hb).symm.trans q
    · intro b q
      by_cases hb : b = a
      · exact hb
      · exact absurd (if_neg hb) q

theorem walk_ofG {l : PySem.W.OpenLaw} {n k : Nat} {q : Program} {loose : List Str} {XP : (Str → Option Value) → Heap → Prop} {YP : World → Heap → Prop} {d : DefRec}
    {K : Params → PySem.W.Frag} {CX : World → CXT} {sp : PySem.W.Frag → Sp} {x : Str} (hn : l.most = some n) (hn2 : n ≤ sizeLine) (hdf : d.params.defaults = [])
    (hr : Room k callerA) (hY : ∀ (w : World) (h : Heap), YP w h → (K w.params).In h)
    (F : ∀ (w : World) (mg : Str → Option Value) (fa : Addr) (h : Heap), (K w.params).In h → h.Ns mainGlobals mg → mg d.name = some (.ref fa) →
      ∃ fd : FuncData, (∀ (s : Shared) (u : Value), BindsTo s fd ⟨[u], []⟩ [(x, u)]) ∧
        ∀ base : Heap, (K w.params).In base → base.Ns mainGlobals mg → FnG l.prog w (K w.params) mg base (CX w) k fa fd [x] (sp (K w.params)))
    (hsp : ∀ (K : PySem.W.Frag) (H : Hp) (a : Addr) (ns : List Int), ns.length ≤ n → Only H → SqL K H a (ns.map V.int) →
      sp K [.ref a] H (fun v _ => v = .bl true) fun _ _ _ => False)
    (hCX : ∀ (w : World) (H : Hp) (s : Shared) (e : Value) (s' : Shared), CX w [] H s (fun _ _ _ => False) e s' → False) :
    PySem.W.WalkO q loose XP YP l.row.toRowW d [] (fun f vs => PySem.call f vs) := by
  refine Att.attach_call hn hdf ?_
  intro w s₀ s₁ mg mb fa o pm cd doc a vs ns G Y ho hd hcd hmg hobj hints hlen hg
  obtain ⟨fd, hb, hF⟩ := F w mg fa _ (hY w _ Y) G.T.g hmg
  exact law_callG (hY w _ Y) G.T.g G.T.b G.T.builtins G.T.nolimit hg hobj hints (Nat.le_trans hlen hn2) hr hF hb (fun H h1 h2 => hsp _ H a ns hlen h1 h2) fun H e s' => hCX w H s₁ e s'

end G

/-! Data of any depth (empty dicts too), the heap without one mutable list (the pot), repr of data. -/
namespace Lk
open PySem PySem.Spec PyProof.Rows L2 G

/-! ### the heap without the pot -/
def sans (H : Hp) (a : Addr) : Hp := fun b => if b = a then none else H b
theorem sans_ne {H : Hp} {a b : Addr} (h : b ≠ a) : sans H a b = H b := if_neg h
theorem sans_self {H : Hp} {a : Addr} : sans H a a = none := if_pos rfl
theorem sans_some {H : Hp} {a b : Addr} {o : HO} (h : sans H a b = some o) : b ≠ a ∧ H b = some o := by
  by_cases e : b = a
  · subst e
    rw [sans_self] at h
    cases h
  · exact ⟨e, (sans_ne e).symm.trans h⟩
theorem sans_of {H : Hp} {a b : Addr} {o : HO} (h : b ≠ a) (e : H b = some o) : sans H a b = some o := (sans_ne h).trans e
theorem sans_same {H : Hp} {a : Addr} : Same (sans H a) H := fun _ _ h => (sans_some h).2
/-- all but the pot stands as it stood -/
def Sm (a : Addr) (H H' : Hp) : Prop := Same (sans H a) (sans H' a)
theorem Sm.refl {a H} : Sm a H H := Same.refl _
theorem Sm.trans {a H H1 H2} (x : Sm a H H1) (y : Sm a H1 H2) : Sm a H H2 := Same.trans x y
theorem Sm.of {a H H'} (x : Same H H') : Sm a H H' := fun b o h => by
  obtain ⟨n, e⟩ := sans_some h
  exact sans_of n (x b o e)
theorem same_new {H : Hp} {p : Addr} {o : HO} (h : H p = none) : Same H (upd H p o) := fun b u e => (upd_ne (ne_of_none e h)).trans e
theorem Sm.new {a : Addr} {H : Hp} {p : Addr} {o : HO} (h : H p = none) : Sm a H (upd H p o) := Sm.of (same_new h)
theorem Sm.pot {a : Addr} {H : Hp} {o : HO} : Sm a H (upd H a o) := fun b u h => by
  obtain ⟨n, e⟩ := sans_some h
  exact sans_of n ((upd_ne n).trans e)
theorem Sm.upd {a : Addr} {H H' : Hp} {p : Addr} {o : HO} (s : Sm a H H') (h : sans H a p = none) : Sm a H (upd H' p o) := fun b u e => by
  have q := s b u e
  obtain ⟨n, q'⟩ := sans_some q
  have nb : b ≠ p := fun z => by
    rw [z, h] at e
    cases e
  exact sans_of n ((upd_ne nb).trans q')
theorem Sm.same {a H H'} (x : Sm a H H') : Same (sans H a) H' := Same.trans x sans_same

/-! ### reading under Same -/
theorem rd_mono {H H' : Hp} (s : Same H H') {a : Addr} {u : HO} (h : Rd H a u) : Rd H' a u := h.imp (s _ _) fun ⟨o, e⟩ => ⟨o, s _ _ e⟩
theorem seqL {K : PySem.W.Frag} {H H' : Hp} (s : Same H H') {a : Addr} {xs : List V} (h : SqL K H a xs) : SqL K H' a xs := h.imp (rd_mono s) id
theorem seqT {K : PySem.W.Frag} {H H' : Hp} (s : Same H H') {a : Addr} {xs : List V} (h : SqT K H a xs) : SqT K H' a xs := h.imp (rd_mono s) id

/-! ### data -/
mutual
inductive Dq (K : PySem.W.Frag) (H : Hp) : V → PyData → Prop
  | non : Dq K H .non .none
  | bl (b : Bool) : Dq K H (.bl b) (.bool b)
  | int (i : Int) : Dq K H (.int i) (.int i)
  | str (x : Str) : Dq K H (.str x) (.str x)
  | lst {a : Addr} {xs : List V} {ds : List PyData} : SqL K H a xs → DqAll K H xs ds → Dq K H (.ref a) (.list ds)
  | tup {a : Addr} {xs : List V} {ds : List PyData} : SqT K H a xs → DqAll K H xs ds → Dq K H (.ref a) (.tuple ds)
  | emp {a : Addr} : H a = some (.dK []) → Dq K H (.ref a) (.dict [])
inductive DqAll (K : PySem.W.Frag) (H : Hp) : List V → List PyData → Prop
  | nil : DqAll K H [] []
  | cons {v : V} {vs : List V} {d : PyData} {ds : List PyData} : Dq K H v d → DqAll K H vs ds → DqAll K H (v :: vs) (d :: ds)
end
mutual
theorem Dq.mono {K : PySem.W.Frag} {H H' : Hp} (s : Same H H') : ∀ {v : V} {d : PyData}, Dq K H v d → Dq K H' v d
  | _, _, .non => .non
  | _, _, .bl b => .bl b
  | _, _, .int i => .int i
  | _, _, .str x => .str x
  | _, _, .lst h t => .lst (seqL s h) (DqAll.mono s t)
  | _, _, .tup h t => .tup (seqT s h) (DqAll.mono s t)
  | _, _, .emp h => .emp (s _ _ h)
theorem DqAll.mono {K : PySem.W.Frag} {H H' : Hp} (s : Same H H') : ∀ {vs : List V} {ds : List PyData}, DqAll K H vs ds → DqAll K H' vs ds
  | _, _, .nil => .nil
  | _, _, .cons h t => .cons (Dq.mono s h) (DqAll.mono s t)
end
theorem DqAll.length {K : PySem.W.Frag} {H : Hp} : ∀ {vs : List V} {ds : List PyData}, DqAll K H vs ds → vs.length = ds.length
  | _, _, .nil => rfl
  | _, _, .cons _ t => congrArg (· + 1) t.length
theorem DqAll.get {K : PySem.W.Frag} {H : Hp} : ∀ {vs : List V} {ds : List PyData} {i : Nat} {v : V}, DqAll K H vs ds → vs[i]? = some v → ∃ d, ds[i]? = some d ∧ Dq K H v d
  | _, _, _, _, .nil, e => by simp at e
  | _, _, 0, _, .cons h _, e => by
    obtain rfl := Option.some.inj e
    exact ⟨_, rfl, h⟩
  | _, _, i + 1, _, .cons _ t, e => DqAll.get (i := i) t e
theorem DqAll.append {K : PySem.W.Frag} {H : Hp} : ∀ {vs ws : List V} {ds es : List PyData}, DqAll K H vs ds → DqAll K H ws es → DqAll K H (vs ++ ws) (ds ++ es)
  | _, _, _, _, .nil, s => s
  | _, _, _, _, .cons h t, s => .cons h (t.append s)
theorem DqAll.take {K : PySem.W.Frag} {H : Hp} : ∀ {vs : List V} {ds : List PyData} (n : Nat), DqAll K H vs ds → DqAll K H (vs.take n) (ds.take n)
  | _, _, 0, _ => .nil
  | _, _, _ + 1, .nil => .nil
  | _, _, n + 1, .cons h t => .cons h (t.take n)
theorem DqAll.drop {K : PySem.W.Frag} {H : Hp} : ∀ {vs : List V} {ds : List PyData} (n : Nat), DqAll K H vs ds → DqAll K H (vs.drop n) (ds.drop n)
  | _, _, 0, h => h
  | _, _, _ + 1, .nil => .nil
  | _, _, n + 1, .cons _ t => t.drop n
theorem DqAll.rep {K : PySem.W.Frag} {H : Hp} {v : V} {d : PyData} (h : Dq K H v d) : ∀ n, DqAll K H (List.replicate n v) (List.replicate n d)
  | 0 => .nil
  | n + 1 => .cons h (DqAll.rep h n)

/-! ### the type of data -/
def tyName : PyData → String
  | .none => "NoneType"
  | .bool _ => "bool"
  | .int _ => "int"
  | .str _ => "str"
  | .list _ => "list"
  | .tuple _ => "tuple"
  | .dict _ => "dict"
theorem tyx_seqL {K : PySem.W.Frag} {H : Hp} {a : Addr} {xs : List V} (h : SqL K H a xs) : TyX K H (.ref a) (.type "list") := by
  rcases h with (h | ⟨o, h⟩) | ⟨o, _, _, h, hc, _⟩
  · exact .base (.lst h)
  · exact .base (.frz h)
  · exact .kList h hc
theorem tyx_seqT {K : PySem.W.Frag} {H : Hp} {a : Addr} {xs : List V} (h : SqT K H a xs) : TyX K H (.ref a) (.type "tuple") := by
  rcases h with (h | ⟨o, h⟩) | ⟨o, _, _, h, hc, _⟩
  · exact .base (.tup h)
  · exact .fTuple h
  · exact .kTuple h hc
theorem Dq.ty {K : PySem.W.Frag} {H : Hp} {v : V} {d : PyData} (h : Dq K H v d) : TyX K H v (.type (tyName d)) := by
  cases h with
  | non => exact .base .non
  | bl b => exact .base (.bl b)
  | int i => exact .base (.int i)
  | str x => exact .base (.str x)
  | lst h _ => exact tyx_seqL h
  | tup h _ => exact tyx_seqT h
  | emp h => exact .base (.dK h)
/-- isinstance(x, T) of data, T a built-in class -/
def isA (T : String) (d : PyData) : Bool := (kitB (tyName d) T).getD false
theorem Dq.isi {K : PySem.W.Frag} {H : Hp} {v : V} {d : PyData} {T : String} {Q : VK} (h : Dq K H v d) (k : (kitB (tyName d) T).isSome = true) (q : Q (.bl (isA T d)) H) :
    rIsi K [v, .ty T] H Q := by
  obtain ⟨b, e⟩ := Option.isSome_iff_exists.mp k
  have eb : isA T d = b := by
    unfold isA
    rw [e]
    exact rfl
  rw [eb] at q
  exact ⟨v, .ty T, _, _, b, rfl, .ty T, h.ty, kit_ty e, q⟩

/-! ### repr of data -/
mutual
def hasList : PyData → Bool
  | .list _ => true
  | .tuple xs => hasListAll xs
  | _ => false
def hasListAll : List PyData → Bool
  | [] => false
  | x :: xs => hasList x || hasListAll xs
end
section
variable {X : Cx} {pins : List (Addr × Obj)} {σ : L2.St} {H : Hp} {s : Shared}
mutual
theorem Dq.reads (I : Inv X pins σ H s) : ∀ (d : PyData) (v : V) (u : Value), Dq X.K H v d → RelV v u → ∃ as, Reads s.heap u d as ∧ (hasList d = false → sysModules ∉ as)
  | .none, _, _, h, r => by
    cases h
    cases r
    exact ⟨_, Reads.none, fun _ => List.not_mem_nil⟩
  | .bool b, _, _, h, r => by
    cases h
    cases r
    exact ⟨_, Reads.bool b, fun _ => List.not_mem_nil⟩
  | .int i, _, _, h, r => by
    cases h
    obtain ⟨t, rfl⟩ := r
    exact ⟨_, Reads.int i t, fun _ => List.not_mem_nil⟩
  | .str x, _, _, h, r => by
    cases h
    obtain ⟨t, rfl⟩ := r
    exact ⟨_, Reads.str x t, fun _ => List.not_mem_nil⟩
  | .list ds, _, _, h, r => by
    cases h with
    | lst hs ha =>
      cases r
      obtain ⟨its, rv, ⟨o, n, ho, hc, _, hd⟩, _⟩ := I.list hs
      obtain ⟨as, hr, _⟩ := DqAll.reads I ds _ its ha rv
      exact ⟨_, Reads.list ho hc hd hr, fun q => by
        unfold hasList at q
        cases q⟩
  | .tuple ds, _, _, h, r => by
    cases h with
    | tup hs ha =>
      cases r
      obtain ⟨its, rv, ⟨o, ho, hc, n, hd⟩, _⟩ := I.tuple hs
      obtain ⟨as, hr, hm⟩ := DqAll.reads I ds _ its ha rv
      exact ⟨_, Reads.tuple ho hc hd hr, fun q => hm (by
        unfold hasList at q
        exact q)⟩
  | .dict kvs, _, _, h, r => by
    cases h with
    | emp he =>
      cases r
      obtain ⟨_, ns, vs, kv, o, es, ep, ho, hx, hd, _, hp, _⟩ := I.hok _ _ he
      cases kv
      have en : es.toList = [] := List.eq_nil_of_length_eq_zero (by
        rw [hp.length]
        exact rfl)
      refine ⟨_, Reads.dict (as := []) (bs := []) ho hx.1 hd (by
        rw [en]
        exact .nil) (by
        rw [en]
        exact .nil), fun _ => ?_⟩
      intro z
      have z' : sysModules ∈ [_] := z
      rw [List.mem_singleton] at z'
      rw [← z'] at ns
      simp at ns
theorem DqAll.reads (I : Inv X pins σ H s) : ∀ (ds : List PyData) (vs : List V) (us : List Value), DqAll X.K H vs ds → Vals vs us → ∃ as, ReadsAll s.heap us ds as ∧ (hasListAll ds = false → sysModules ∉ as)
  | [], _, _, h, r => by
    cases h
    cases r
    exact ⟨_, ReadsAll.nil, fun _ => List.not_mem_nil⟩
  | d :: ds, _, _, h, r => by
    cases h with
    | cons h1 h2 =>
      cases r with
      | cons r1 r2 =>
        obtain ⟨as, q1, m1⟩ := Dq.reads I d _ _ h1 r1
        obtain ⟨bs, q2, m2⟩ := DqAll.reads I ds _ _ h2 r2
        refine ⟨_, ReadsAll.cons q1 q2, fun q => ?_⟩
        unfold hasListAll at q
        rw [Bool.or_eq_false_iff] at q
        intro z
        rcases List.mem_append.mp z with z | z
        · exact m1 q.1 z
        · exact m2 q.2 z
end
end
/-- what repr is asked of here: shallow enough, short enough, no list and dict together -/
def ReprOk (d : PyData) : Prop := d.showable = true ∧ (d.hasDict = true → hasList d = false) ∧ d.depth ≤ 60 ∧ d.shown.length ≤ sizeLine
def rRepr (K : PySem.W.Frag) : List V → Hp → VK → Prop := fun xs H Q => ∃ v d, xs = [v] ∧ Dq K H v d ∧ ReprOk d ∧ Q (.str d.shown) H
theorem call_repr_data {X : Cx} (gd : X.A.guards = some []) (hu : X.A.units + 64 < cLine) : CallR X (.builtin "repr") (rRepr X.K) := by
  intro pins s σ H xs us Q I r h
  obtain ⟨v, d, rfl, hd, ⟨hs, hl, h60, hz⟩, q⟩ := h
  obtain ⟨u, rfl, rv⟩ : ∃ u, us = [u] ∧ RelV v u := by
    cases r with
    | cons a b =>
      cases b
      exact ⟨_, rfl, a⟩
  have fin : ∀ (h' : Heap) (t t' : Nat), (∀ b o, s.heap.get? b = some o → h'.get? b = some o) → EP X pins σ Q (.str d.shown t) { s with heap := h', toks := t' } :=
    fun h' t t' k => ⟨.str d.shown, H, I.kept k, ⟨t, rfl⟩, q⟩
  have big : ∀ a, u = .ref a → wpAny (model X.prog X.w) X.A (call (.builtin "repr") [u]) (EP X pins σ Q) X.xe s := by
    rintro a rfl
    obtain ⟨as, hr, hm⟩ := Dq.reads I d v _ hd rv
    exact repr_of_reads' hr hs (fun z => hm (hl z)) gd (by omega) (fun _ _ e => e) (fun h' t tk k => fin h' t tk k) hz
  cases hd with
  | non =>
    cases rv
    exact PySem.P.repr_of_none (fin s.heap _ _ fun _ _ e => e)
  | bl b =>
    cases rv
    refine PySem.P.repr_of_bool (b := b) ?_
    have e : (if b = true then ("True" : Str) else "False") = PyData.shown (.bool b) := by
      unfold PyData.shown
      exact rfl
    have f := fin s.heap s.toks (s.toks + 1) fun _ _ e => e
    rw [← e] at f
    exact f
  | int i =>
    obtain ⟨t, rfl⟩ := rv
    refine PySem.P.repr_of_int (a := i) (by
      unfold PyData.showable at hs
      exact of_decide_eq_true hs) ?_
    have f := fin s.heap s.toks (s.toks + 1) fun _ _ e => e
    unfold PyData.shown at f
    exact f
  | str x =>
    obtain ⟨t, rfl⟩ := rv
    unfold PyData.shown at hz
    refine PySem.P.repr_of_str (x := x) ?_ hz
    have f := fin s.heap s.toks (s.toks + 1) fun _ _ e => e
    unfold PyData.shown at f
    exact f
  | lst h1 h2 => exact big _ rv
  | tup h1 h2 => exact big _ rv
  | emp h1 => exact big _ rv
end Lk

/-! Texts: signs of a text as values, list of a text, a text repeated, strip. -/
namespace Lk
open PySem PySem.Spec PyProof.Rows L2 G PySem.Builtin.Str PySem.Builtin

/-- a text by its codes -/
abbrev tx (l : List Nat) : Str := ⟨l.toArray⟩
theorem tx_of (x : Str) : x = tx x.cps.toList := rfl
theorem tx_inj {a b : List Nat} (h : tx a = tx b) : a = b := by
  have := congrArg (fun s : Str => s.cps.toList) h
  simpa using this
theorem str_ext {x y : Str} (h : x.cps.toList = y.cps.toList) : x = y := by
  cases x
  cases y
  simp at h
  subst h
  rfl
/-- a text's signs, as values -/
def sg (z : Str) : List V := z.cps.toList.map fun c => V.str ⟨#[c]⟩
theorem sg_len (z : Str) : (sg z).length = z.length := by
  unfold sg
  rw [List.length_map]
  exact rfl

theorem vals_of_get : ∀ {xs : List V} {us : List Value}, xs.length = us.length → (∀ (i : Nat) (x : V) (u : Value), xs[i]? = some x → us[i]? = some u → RelV x u) → Vals xs us
  | [], [], _, _ => .nil
  | _ :: _, [], h, _ => by simp at h
  | [], _ :: _, h, _ => by simp at h
  | x :: xs, u :: us, h, k => .cons (k 0 x u rfl rfl) (vals_of_get (by simpa using h) fun i a b e f => k (i + 1) a b (by simpa using e) (by simpa using f))

section
variable {X : Cx}
/-- list(s), s a text -/
def rListS : List V → Hp → VK → Prop := fun xs H Q => ∃ z : Str, xs = [.str z] ∧ z.length ≤ sizeLine ∧ ∀ l, H l = none → Q (.ref l) (upd H l (.lst (sg z)))
theorem call_list_ofS (hc : X.calm = true) : CallR X (.type "list") rListS := by
  intro pins s σ H xs us Q I r h
  obtain ⟨z, rfl, hz, q⟩ := h
  obtain ⟨u, rfl, t, rfl⟩ : ∃ u, us = [u] ∧ ∃ t, u = Value.str z t := by
    cases r with
    | cons a b =>
      cases b
      exact ⟨_, rfl, a⟩
  refine call_list_str (I.ok.hd hc) z t ?_ hz
  intro h' tk acc c kp e hacc
  obtain ⟨n1, n2⟩ := hacc
  have v : Vals (sg z) acc.toList := by
    refine vals_of_get (by rw [sg_len, Array.length_toList, n1]; rfl) fun i x u e1 e2 => ?_
    unfold sg at e1
    rw [List.getElem?_map, Option.map_eq_some_iff] at e1
    obtain ⟨c, ec, rfl⟩ := e1
    rw [Array.getElem?_toList] at e2
    obtain ⟨c', tu, ec', rfl⟩ := n2 i u e2
    rw [Array.getElem?_toList] at ec
    rw [ec] at ec'
    cases ec'
    exact ⟨tu, rfl⟩
  refine ⟨.ref s.heap.objs.size, upd H s.heap.objs.size (.lst (sg z)), I.laid (t' := tk) kp (Nat.le_refl _) ?_, rfl, q _ (I.hok.fresh (Nat.le_refl _))⟩
  exact ⟨by rw [sg_len]; exact hz, acc.toList, c, v, by simpa using e⟩

/-- s repeated -/
def repS (z : Str) : Nat → Str
  | 0 => tx []
  | n + 1 => tx (z.cps.toList ++ (repS z n).cps.toList)
theorem repS_codes (z : Str) : ∀ n, (repS z n).cps.toList = (List.replicate n z.cps.toList).flatten
  | 0 => rfl
  | n + 1 => by
    unfold repS
    rw [List.replicate_succ, List.flatten_cons, ← repS_codes z n]
theorem rep_fold (c : Array Nat) : ∀ (n : Nat) (acc : Array Nat), ((List.replicate n c).foldl (· ++ ·) acc).toList = acc.toList ++ (List.replicate n c.toList).flatten
  | 0, acc => by simp
  | n + 1, acc => by
    rw [List.replicate_succ, List.foldl_cons, rep_fold c n, Array.toList_append, List.replicate_succ, List.flatten_cons, List.append_assoc]
theorem repS_eq (z : Str) (n : Nat) : (⟨(List.replicate n z.cps).foldl (· ++ ·) #[]⟩ : Str) = repS z n := by
  refine str_ext ?_
  rw [repS_codes]
  show ((List.replicate n z.cps).foldl (· ++ ·) #[]).toList = _
  rw [rep_fold]
  simp
theorem repS_len (z : Str) (n : Nat) : (repS z n).length = n * z.length := by
  show (repS z n).cps.size = _
  rw [← Array.length_toList, repS_codes]
  simp [Str.length]
theorem repS_one (z : Str) : repS z 1 = z := by
  refine str_ext ?_
  rw [repS_codes]
  simp
theorem repS_empty {z : Str} (h : z.length = 0) (n : Nat) : repS z n = z := by
  have e : z.cps.toList = [] := List.eq_nil_of_length_eq_zero (by simpa [Str.length] using h)
  refine str_ext ?_
  rw [repS_codes, e]
  simp
/-- s * n -/
def rMulS : R2 := fun x y H Q => ∃ (z : Str) (n : Nat), x = .str z ∧ y = .int (n : Int) ∧ z.length * n ≤ 16777216 ∧ n ≤ 16777216 ∧ Q (.str (repS z n)) H
theorem op_mulS : OpR X (binaryOp .Mult) rMulS := by
  intro pins s σ H x y v u Q I rx ry h
  obtain ⟨z, n, rfl, rfl, hz, hn, q⟩ := h
  obtain ⟨t, rfl⟩ := rx
  obtain ⟨t', rfl⟩ := ry
  refine PySem.P.mul_str (x := z) (n := (n : Int)) ?_ ?_ ?_ ?_
  · have e1 : ¬ ((n : Int) < -(2 ^ 63 : Int)) := by omega
    have e2 : ¬ ((n : Int) ≥ 2 ^ 63) := by omega
    rw [decide_eq_false e1, decide_eq_false e2]
    exact rfl
  · intro h1 _ h2
    have h3 : (1 : Int) ≤ n := by omega
    have hb : (z.length : Int) * n ≤ 16777216 := by
      have := Int.ofNat_le.mpr hz
      rw [Int.natCast_mul] at this
      exact this
    have h4 : (z.length : Int) ≤ (2 ^ 63 - 1) / n := by
      refine (Int.le_ediv_iff_mul_le (by omega)).mpr ?_
      exact Int.le_trans hb (by decide)
    omega
  · intro _ _
    unfold tooLong
    rw [Int.toNat_natCast]
    refine decide_eq_false ?_
    rw [sizeLine_eq]
    omega
  · have fin : ∀ (t t' : Nat), EP X pins σ Q (.str (repS z n) t) { s with toks := t' } := fun t t' => ⟨.str (repS z n), H, I.tok _, ⟨t, rfl⟩, q⟩
    by_cases h1 : (n : Int) < 1
    · rw [if_pos h1]
      have e : n = 0 := by omega
      subst e
      exact ⟨by decide, fin _ _⟩
    · rw [if_neg h1]
      by_cases h2 : ((n : Int) == 1 || z.length == 0) = true
      · rw [if_pos h2]
        have e : repS z n = z := by
          rw [Bool.or_eq_true, beq_iff_eq, beq_iff_eq] at h2
          rcases h2 with h2 | h2
          · have : n = 1 := by omega
            subst this
            exact repS_one z
          · exact repS_empty h2 n
        have f := fin t s.toks
        rw [e] at f
        exact f
      · rw [if_neg h2]
        rw [Int.toNat_natCast, repS_eq]
        refine ⟨?_, fin _ _⟩
        rw [repS_len, sizeLine_eq, Nat.mul_comm]
        exact hz
end

/-! ### strip leaves nothing just where all signs are among the given ones -/
theorem getD_mem {z : Str} {k : Nat} (h : k < z.length) : z.cps.getD k 0 ∈ z.cps.toList := by
  have h' : k < z.cps.size := h
  simp [Array.getD, h']
theorem mem_getD {z : Str} {c : Nat} (h : c ∈ z.cps.toList) : ∃ k, k < z.length ∧ z.cps.getD k 0 = c := by
  obtain ⟨k, hk, e⟩ := List.getElem_of_mem h
  have h' : k < z.cps.size := by simpa using hk
  refine ⟨k, h', ?_⟩
  simp [Array.getD, h']
  simpa using e
theorem stripBy_none (goes : Nat → Bool) (z : Str) : (Txt.stripBy goes true true z).length = 0 ↔ ∀ c ∈ z.cps.toList, goes c = true := by
  rw [stripBy_eq]
  obtain ⟨a0, a1, a2⟩ := lo_facts goes z
  obtain ⟨b0, b1, b2, b3⟩ := hi_facts goes z (stripLo goes true z) a0
  generalize stripLo goes true z = lo at *
  generalize stripHi goes true z lo = hi at *
  have len : (strSub z lo hi).length = hi - lo := by
    show (z.cps.extract lo hi).size = _
    have h1 : hi ≤ z.cps.size := b1
    rw [Array.size_extract]
    omega
  rw [len]
  constructor
  · intro h c hc
    obtain ⟨k, hk, rfl⟩ := mem_getD hc
    by_cases h1 : k < lo
    · exact a1 k h1
    · exact b2 k (by omega) hk
  · intro h
    by_cases h1 : lo = hi
    · omega
    · rcases a2 with h2 | h2
      · omega
      · have := h _ (getD_mem (z := z) (k := lo) (by omega))
        rw [h2] at this
        cases this
/-- all signs of z are among those of s -/
def allIn (s z : Str) : Bool := z.cps.toList.all fun c => s.cps.toList.contains c
theorem strip_none (z s : Str) : decide (V.str (Txt.stripChars z s) = V.str (tx [])) = allIn s z := by
  have h := stripBy_none s.cps.contains z
  have e : (∀ c ∈ z.cps.toList, s.cps.contains c = true) ↔ allIn s z = true := by
    unfold allIn
    rw [List.all_eq_true]
    simp
  rw [e] at h
  have f : V.str (Txt.stripChars z s) = V.str (tx []) ↔ (Txt.stripChars z s).length = 0 := by
    constructor
    · intro q
      rw [V.str.inj q]
      rfl
    · intro q
      refine congrArg V.str (str_ext ?_)
      exact List.eq_nil_of_length_eq_zero (by simpa [Str.length] using q)
  by_cases q : allIn s z = true
  · rw [q]
    exact decide_eq_true (f.mpr (h.mpr q))
  · rw [Bool.eq_false_iff.mpr q]
    exact decide_eq_false fun z' => q (h.mp (f.mp z'))
end Lk
namespace Lk
open PySem PySem.Spec PyProof.Rows L2 G
def isStr : PyData → Bool | .str _ => true | _ => false
def isInt : PyData → Bool | .int _ => true | .bool _ => true | _ => false
def isBool : PyData → Bool | .bool _ => true | _ => false
def isTup : PyData → Bool | .tuple _ => true | _ => false
def isLst : PyData → Bool | .list _ => true | _ => false
section
variable {K : PySem.W.Frag} {H : Hp} {v : V} {d : PyData} {Q : VK}
theorem kit_NoneType_str : kitB "NoneType" "str" = some false := by decide +kernel
theorem kit_bool_str : kitB "bool" "str" = some false := by decide +kernel
theorem kit_int_str : kitB "int" "str" = some false := by decide +kernel
theorem kit_str_str : kitB "str" "str" = some true := by decide +kernel
theorem kit_list_str : kitB "list" "str" = some false := by decide +kernel
theorem kit_tuple_str : kitB "tuple" "str" = some false := by decide +kernel
theorem kit_dict_str : kitB "dict" "str" = some false := by decide +kernel
theorem kStr : ∀ d : PyData, PySem.W.kitOne K (.type (tyName d)) (.type "str") = some (isStr d)
  | .none => kit_ty kit_NoneType_str
  | .bool _ => kit_ty kit_bool_str
  | .int _ => kit_ty kit_int_str
  | .str _ => kit_ty kit_str_str
  | .list _ => kit_ty kit_list_str
  | .tuple _ => kit_ty kit_tuple_str
  | .dict _ => kit_ty kit_dict_str
theorem kit_NoneType_int : kitB "NoneType" "int" = some false := by decide +kernel
theorem kit_bool_int : kitB "bool" "int" = some true := by decide +kernel
theorem kit_int_int : kitB "int" "int" = some true := by decide +kernel
theorem kit_str_int : kitB "str" "int" = some false := by decide +kernel
theorem kit_list_int : kitB "list" "int" = some false := by decide +kernel
theorem kit_tuple_int : kitB "tuple" "int" = some false := by decide +kernel
theorem kit_dict_int : kitB "dict" "int" = some false := by decide +kernel
theorem kInt : ∀ d : PyData, PySem.W.kitOne K (.type (tyName d)) (.type "int") = some (isInt d)
  | .none => kit_ty kit_NoneType_int
  | .bool _ => kit_ty kit_bool_int
  | .int _ => kit_ty kit_int_int
  | .str _ => kit_ty kit_str_int
  | .list _ => kit_ty kit_list_int
  | .tuple _ => kit_ty kit_tuple_int
  | .dict _ => kit_ty kit_dict_int
theorem kit_NoneType_bool : kitB "NoneType" "bool" = some false := by decide +kernel
theorem kit_bool_bool : kitB "bool" "bool" = some true := by decide +kernel
theorem kit_int_bool : kitB "int" "bool" = some false := by decide +kernel
theorem kit_str_bool : kitB "str" "bool" = some false := by decide +kernel
theorem kit_list_bool : kitB "list" "bool" = some false := by decide +kernel
theorem kit_tuple_bool : kitB "tuple" "bool" = some false := by decide +kernel
theorem kit_dict_bool : kitB "dict" "bool" = some false := by decide +kernel
theorem kBool : ∀ d : PyData, PySem.W.kitOne K (.type (tyName d)) (.type "bool") = some (isBool d)
  | .none => kit_ty kit_NoneType_bool
  | .bool _ => kit_ty kit_bool_bool
  | .int _ => kit_ty kit_int_bool
  | .str _ => kit_ty kit_str_bool
  | .list _ => kit_ty kit_list_bool
  | .tuple _ => kit_ty kit_tuple_bool
  | .dict _ => kit_ty kit_dict_bool
theorem kit_NoneType_tuple : kitB "NoneType" "tuple" = some false := by decide +kernel
theorem kit_bool_tuple : kitB "bool" "tuple" = some false := by decide +kernel
theorem kit_int_tuple : kitB "int" "tuple" = some false := by decide +kernel
theorem kit_str_tuple : kitB "str" "tuple" = some false := by decide +kernel
theorem kit_list_tuple : kitB "list" "tuple" = some false := by decide +kernel
theorem kit_tuple_tuple : kitB "tuple" "tuple" = some true := by decide +kernel
theorem kit_dict_tuple : kitB "dict" "tuple" = some false := by decide +kernel
theorem kTup : ∀ d : PyData, PySem.W.kitOne K (.type (tyName d)) (.type "tuple") = some (isTup d)
  | .none => kit_ty kit_NoneType_tuple
  | .bool _ => kit_ty kit_bool_tuple
  | .int _ => kit_ty kit_int_tuple
  | .str _ => kit_ty kit_str_tuple
  | .list _ => kit_ty kit_list_tuple
  | .tuple _ => kit_ty kit_tuple_tuple
  | .dict _ => kit_ty kit_dict_tuple
theorem kit_NoneType_list : kitB "NoneType" "list" = some false := by decide +kernel
theorem kit_bool_list : kitB "bool" "list" = some false := by decide +kernel
theorem kit_int_list : kitB "int" "list" = some false := by decide +kernel
theorem kit_str_list : kitB "str" "list" = some false := by decide +kernel
theorem kit_list_list : kitB "list" "list" = some true := by decide +kernel
theorem kit_tuple_list : kitB "tuple" "list" = some false := by decide +kernel
theorem kit_dict_list : kitB "dict" "list" = some false := by decide +kernel
theorem kLst : ∀ d : PyData, PySem.W.kitOne K (.type (tyName d)) (.type "list") = some (isLst d)
  | .none => kit_ty kit_NoneType_list
  | .bool _ => kit_ty kit_bool_list
  | .int _ => kit_ty kit_int_list
  | .str _ => kit_ty kit_str_list
  | .list _ => kit_ty kit_list_list
  | .tuple _ => kit_ty kit_tuple_list
  | .dict _ => kit_ty kit_dict_list
end
/-- is_word -/
def isWord (s : Str) : PyData → Bool
  | .str z => allIn s z
  | _ => false
end Lk
namespace Lk
open PySem PySem.Spec PyProof.Rows L2 G
/-! ### slices by places within, the longest common beginning -/
theorem cutS_nat (z : Str) (a b : Nat) (ha : a ≤ z.length) (hb : b ≤ z.length) : cutS z (some (a : Int)) (some (b : Int)) = tx ((z.cps.toList.drop a).take (b - a)) := by
  unfold cutS
  rw [HT.sIx_nat, HT.sIx_nat, Nat.min_eq_left ha, Nat.min_eq_left hb]
theorem cutS_to (z : Str) (b : Nat) (hb : b ≤ z.length) : cutS z none (some (b : Int)) = tx (z.cps.toList.take b) := by
  unfold cutS
  rw [HT.sIx_nat, HT.sIx_none, Nat.min_eq_left hb]
  rfl
theorem cutV_nat (xs : List V) (a b : Nat) (ha : a ≤ xs.length) (hb : b ≤ xs.length) : cutV xs (some (a : Int)) (some (b : Int)) = (xs.drop a).take (b - a) := by
  unfold cutV
  rw [HT.sIx_nat, HT.sIx_nat, Nat.min_eq_left ha, Nat.min_eq_left hb]
theorem cutV_to (xs : List V) (b : Nat) : cutV xs none (some (b : Int)) = xs.take b := by
  unfold cutV
  rw [HT.sIx_nat, HT.sIx_none]
  show (xs.take (min b xs.length - 0)) = _
  rw [Nat.sub_zero]
  by_cases h : b ≤ xs.length
  · rw [Nat.min_eq_left h]
  · rw [Nat.min_eq_right (by omega), List.take_of_length_le (Nat.le_refl _), List.take_of_length_le (by omega)]

def lcp : List Nat → List Nat → List Nat
  | a :: as, b :: bs => if a = b then a :: lcp as bs else []
  | _, _ => []
theorem lcp_len_le : ∀ as bs : List Nat, (lcp as bs).length ≤ as.length ∧ (lcp as bs).length ≤ bs.length
  | [], bs => by simp [lcp]
  | a :: as, [] => by simp [lcp]
  | a :: as, b :: bs => by
    unfold lcp
    by_cases h : a = b
    · rw [if_pos h]
      have := lcp_len_le as bs
      simp
      exact this
    · rw [if_neg h]
      simp
theorem lcp_take : ∀ (as bs : List Nat) (k : Nat), k ≤ as.length → k ≤ bs.length → (as.take k = bs.take k ↔ k ≤ (lcp as bs).length)
  | [], bs, k, h1, _ => by
    have : k = 0 := by simpa using h1
    subst this
    simp
  | a :: as, [], k, _, h2 => by
    have : k = 0 := by simpa using h2
    subst this
    simp
  | a :: as, b :: bs, 0, _, _ => by simp
  | a :: as, b :: bs, k + 1, h1, h2 => by
    have ih := lcp_take as bs k (by simpa using h1) (by simpa using h2)
    unfold lcp
    rw [List.take_succ_cons, List.take_succ_cons]
    by_cases h : a = b
    · subst h
      rw [if_pos rfl, List.length_cons]
      constructor
      · intro q
        have := ih.mp (List.cons.inj q).2
        omega
      · intro q
        rw [ih.mpr (by omega)]
    · rw [if_neg h]
      constructor
      · intro q
        exact absurd (List.cons.inj q).1 h
      · intro q
        simp at q
theorem lcp_is : ∀ as bs : List Nat, lcp as bs = as.take (lcp as bs).length
  | [], bs => by simp [lcp]
  | a :: as, [] => by simp [lcp]
  | a :: as, b :: bs => by
    have ih := lcp_is as bs
    unfold lcp
    by_cases h : a = b
    · rw [if_pos h, List.length_cons, List.take_succ_cons, ← ih]
    · rw [if_neg h]
      simp
/-- the longest text with which both begin -/
def comS (x y : Str) : Str := tx (lcp x.cps.toList y.cps.toList)
/-- one step of halving: the two parts between are the same just if the beginnings are -/
theorem part_eq {as bs : List Nat} {lo mid : Nat} (hlm : lo ≤ mid) (h : as.take lo = bs.take lo) :
    (as.drop lo).take (mid - lo) = (bs.drop lo).take (mid - lo) ↔ as.take mid = bs.take mid := by
  have e : ∀ l : List Nat, l.take mid = l.take lo ++ (l.drop lo).take (mid - lo) := fun l => by
    have := List.take_add (l := l) (i := lo) (j := mid - lo)
    rw [show lo + (mid - lo) = mid by omega] at this
    exact this
  constructor
  · intro q
    rw [e as, e bs, q, h]
  · intro q
    rw [e as, e bs, h] at q
    exact List.append_cancel_left q
end Lk

/-! The pot of numbers that a law draws from. -/
namespace Lk
open PySem PySem.Spec PyProof.Rows L2 G

theorem seqL_ne {K : PySem.W.Frag} {H : Hp} {a : Addr} {xs : List V} {o : HO} (h : SqL K (sans H a) a xs) : K.lookup a ≠ none := by
  rcases h with (h | ⟨o, h⟩) | ⟨o, its, n, h, _⟩
  · rw [sans_self] at h
    cases h
  · rw [sans_self] at h
    cases h
  · rw [h]
    exact Option.some_ne_none _
/-- at a the pot: its cells' list at c, three numbers -/
def PotAt (H : Hp) (a c : Addr) : Prop := ∃ (p x y : Int), H a = some (.lst [.ref c, .int p, .int x, .int y])
def Cells (K : PySem.W.Frag) (H : Hp) (a c : Addr) : Prop := ∃ ns : List Int, SqL K (sans H a) c (ns.map V.int) ∧ ns.length ≤ 63
structure Pot (K : PySem.W.Frag) (H : Hp) (a c : Addr) : Prop where
  at_ : PotAt H a c
  cells : Cells K H a c
theorem Cells.mono {K : PySem.W.Frag} {H H' : Hp} {a c : Addr} (s : Sm a H H') (h : Cells K H a c) : Cells K H' a c := by
  obtain ⟨ns, h, l⟩ := h
  exact ⟨ns, seqL s h, l⟩
theorem Pot.to {K : PySem.W.Frag} {H H' : Hp} {a c : Addr} (h : Pot K H a c) (s : Sm a H H') (p : PotAt H' a c) : Pot K H' a c := ⟨p, h.cells.mono s⟩
theorem PotAt.ne {H : Hp} {a c p : Addr} (h : PotAt H a c) (n : H p = none) : p ≠ a := by
  obtain ⟨_, _, _, e⟩ := h
  exact (ne_of_none e n).symm
theorem PotAt.upd {H : Hp} {a c p : Addr} {o : HO} (h : PotAt H a c) (n : p ≠ a) : PotAt (upd H p o) a c := by
  obtain ⟨x, y, z, e⟩ := h
  exact ⟨x, y, z, (upd_ne n.symm).trans e⟩
theorem PotAt.same {H H' : Hp} {a c : Addr} (h : PotAt H a c) (s : Same H H') : PotAt H' a c := by
  obtain ⟨x, y, z, e⟩ := h
  exact ⟨x, y, z, s _ _ e⟩
theorem Pot.ne {K : PySem.W.Frag} {H : Hp} {a c p : Addr} (h : Pot K H a c) (n : H p = none) : p ≠ a := h.at_.ne n
theorem Pot.same {K : PySem.W.Frag} {H H' : Hp} {a c : Addr} (h : Pot K H a c) (s : Same H H') : Pot K H' a c := h.to (Sm.of s) (h.at_.same s)
theorem Pot.new {K : PySem.W.Frag} {H : Hp} {a c p : Addr} {o : HO} (h : Pot K H a c) (n : H p = none) : Pot K (L2.upd H p o) a c := h.same (same_new n)
/-- _law_below: some number from 0 on below the bound; all but the pot stands -/
def spBelow (K : PySem.W.Frag) : Sp := fun vs H Q _ => ∃ (a c : Addr) (b : Int), vs = [.ref a, .int b] ∧ Pot K H a c ∧ 1 ≤ b ∧ b < 1073741824 ∧
  ∀ (H' : Hp) (k : Int), Sm a H H' → Pot K H' a c → 0 ≤ k → k < b → Q (.int k) H'
/-- _law_pick: some item of a list, of a tuple or of a text -/
def spPick (K : PySem.W.Frag) : Sp := fun vs H Q _ => ∃ (a c : Addr) (v : V) (xs : List V), vs = [.ref a, v] ∧ Pot K H a c ∧ xs ≠ [] ∧
  ((∃ l, v = .ref l ∧ SqL K (sans H a) l xs) ∨ (∃ l, v = .ref l ∧ SqT K (sans H a) l xs) ∨ (∃ z : Str, v = .str z ∧ xs = sg z ∧ z.length ≤ sizeLine)) ∧ xs.length < 1073741824 ∧
  ∀ (H' : Hp) (x : V), Sm a H H' → Pot K H' a c → x ∈ xs → Q x H'
theorem dq_ints {K : PySem.W.Frag} {H : Hp} : ∀ ns : List Int, DpAll K H (ns.map V.int) (ns.map PyData.int)
  | [] => .nil
  | n :: ns => .cons (.int n) (dq_ints ns)
theorem shaped_ints (ns : List Int) : SeqAt.shaped (.list (ns.map PyData.int)) = true := by
  have h1 : ∀ l : List Int, PyData.canLayAll0 (l.map PyData.int) = true := fun l => by
    induction l with
    | nil => rfl
    | cons n r ih =>
      rw [List.map_cons]
      unfold PyData.canLayAll0
      rw [ih, Bool.and_true]
      rfl
  have h2 : ∀ l : List Int, PyData.depthAll (l.map PyData.int) = 0 := fun l => by
    induction l with
    | nil => rfl
    | cons n r ih =>
      rw [List.map_cons]
      unfold PyData.depthAll
      rw [ih]
      rfl
  unfold SeqAt.shaped
  rw [Bool.and_eq_true]
  constructor
  · unfold PyData.canLay0
    exact h1 ns
  · unfold PyData.depth
    rw [h2]
    exact rfl
theorem sg_get {z : Str} {k : Nat} (h : k < (sg z).length) : ∃ c, (sg z)[k] = .str (tx [c]) ∧ z.cps.toList[k]? = some c := by
  unfold sg at h ⊢
  rw [List.length_map] at h
  refine ⟨z.cps.toList[k], ?_, List.getElem?_eq_getElem h⟩
  rw [List.getElem_map]
end Lk
namespace Lk
open PySem PySem.Spec PyProof.Rows L2 G
theorem ixN_nat {n j : Nat} (h : j < n) : ixN n (j : Int) = some j := by
  unfold ixN
  rw [if_pos (by omega)]
  simp
  exact h
end Lk
namespace Lk
open PySem PySem.Spec PyProof.Rows L2 G PySem.Builtin.Str PySem.Builtin
/-- the texts one behind another -/
def catS (ys : List Str) : List Nat := (ys.map fun y => y.cps.toList).flatten
theorem glue_fold : ∀ (rest : List Str) (acc : Array Nat), (rest.foldl (fun acc p => acc ++ (tx []).cps ++ p.cps) acc).toList = acc.toList ++ catS rest
  | [], acc => by simp [catS]
  | y :: r, acc => by
    rw [List.foldl_cons, glue_fold r]
    simp [catS]
theorem join_empty (ys : List Str) : Txt.join (tx []) ys = tx (catS ys) := by
  refine str_ext ?_
  unfold Txt.join
  cases ys with
  | nil => rfl
  | cons y r =>
    show ((r.foldl (fun acc p => acc ++ (tx []).cps ++ p.cps) y.cps)).toList = _
    rw [glue_fold]
    simp [catS]
end Lk
namespace Lk
open PySem PySem.Spec PyProof.Rows L2 G
theorem catS_ones : ∀ l : List Nat, catS (l.map fun c => tx [c]) = l
  | [] => rfl
  | c :: r => by
    have ih := catS_ones r
    unfold catS at ih ⊢
    rw [List.map_cons, List.map_cons, List.flatten_cons, ih]
    rfl
theorem sum_ones : ∀ l : List Nat, ((l.map fun c => tx [c]).map (·.length)).sum = l.length
  | [] => rfl
  | c :: r => by
    rw [List.map_cons, List.map_cons, List.sum_cons, sum_ones r, List.length_cons]
    show 1 + r.length = _
    omega
end Lk

/-! Exceptions of own classes as values: made (with and without an own __init__), asked by isinstance, their fields read. -/
namespace Lk
open PySem PySem.Spec PySem.Calls PyProof.Rows L2 G

/-- at a an exception of the class at D: one without a dict, or one with its dict at d -/
def ExAt (H : Hp) (a D : Addr) : Prop := H a = some (ExO (.ref D) a) ∨ ∃ d, H a = some (exo a D (some d)) ∧ ∃ fs, H d = some (exd d fs)
theorem ExAt.mono {H H' : Hp} {a D : Addr} (s : Same H H') (h : ExAt H a D) : ExAt H' a D :=
  h.imp (s _ _) fun ⟨d, e, fs, f⟩ => ⟨d, s _ _ e, fs, s _ _ f⟩

section
open PySem.W
variable {prog : Program} {w : World} {A : Around} {E : Value → Shared → Prop} {s : Shared} {K : Frag} {x D : Addr}

theorem exc_class {ox : Obj} {od : Option Obj} {Q : Option Value → Shared → Prop} (T : ExcC K D) (X : K.In s.heap) (I : InstAt s.heap x ox D od)
    (q : Q (some (.ref D)) { s with toks := s.toks + 1 }) : wpAny (model prog w) A (getAttr? (.ref x) "__class__") Q E s := by
  have found : findObj K D od "__class__" = some (.bind (.builtin "getset_descriptor.__get__") (.builtin "object.__class__")) := by
    obtain ⟨cd, hc, _⟩ := any_some T.hd
    unfold findObj
    rw [hc, Option.bind_some, T.ha, Option.bind_some]
    simp [T.hn, T.ht]
  obtain ⟨hp, g, d, t, os⟩ := s
  have t0 := I.type (M := model prog w)
  have t1 := looks_findIn (M := model prog w) X T.hg
  have t2 := looks_findIn (M := model prog w) X T.hk
  have t3 := looks_find (M := model prog w) X I found
  have isExc : Looks (model prog w) hp (isInstance (.ref x) (.type "BaseException")) true := t0.andThen (looks_subIn X T.hs)
  have no1 : (Value.builtin "BaseException.__getattribute__" == Value.builtin "object.__getattribute__") = false := by decide +kernel
  have no2 : (onTheHeap (Value.ref D) && Value.builtin "BaseException.__getattribute__" == Value.builtin "object.__getattribute__") = false := by
    rw [no1]
    exact rfl
  have no3 : (false && onTheHeap (Value.builtin "BaseException.__getattribute__")) = false := rfl
  unfold getAttr?
  unfold getAttrBy?
  unfold getAttrBy
  refine wpAny_bind (wpAny_mkText (wpAny_bind (wpAny_attempt (wpAny_holding ?_))))
  refine wpAny_bind (t0.at (wpAny_bind (t1.at ?_)))
  show wpAny _ _ (if (onTheHeap (Value.ref D) && Value.builtin "BaseException.__getattribute__" == Value.builtin "object.__getattribute__") = true then _ else _) _ _ _
  rw [no2]
  rw [if_neg Bool.false_ne_true]
  unfold getAttrByItsOwn
  unfold hookBefore
  refine wpAny_bind ?_
  rw [if_pos (show onTheHeap (Value.ref D) = true from rfl)]
  refine t2.at (wpAny_bind (wpAny_attempt (wpAny_holding ?_)))
  unfold callGetattribute
  rw [no3]
  rw [if_neg Bool.false_ne_true]
  unfold boundAndCalled
  rw [PySem.F.excAttr_ValueError.ga.bind (.ref x)]
  refine wpAny_bind (wpAny_pure ?_)
  show wpAny _ _ (call (.builtin "BaseException.__getattribute__") [.ref x, .str "__class__" t]) _ _ _
  refine wpAny_call (codeAny_call_builtin PySem.F.excAttr_ValueError.ga.plain PySem.F.entry_bexc_ga ?_)
  refine @check_slot (model prog w) _ _ ⟨hp, g, d, t + 1, os⟩ "BaseException.__getattribute__" "BaseException" "__getattribute__"
    (.ref x) [.str "__class__" t] [] _ (by decide +kernel) (by decide +kernel) isExc (PySem.F.args_bexc_ga (.ref x) (.str "__class__" t)) ?_
  unfold Builtin.«object.__getattribute__»
  refine wpAny_bind (wpAny_of_eq (a := ((Value.ref x : Value), [Value.str "__class__" t])) ?_ ?_)
  · first
      | rfl
      | (simp only [slotArgs]; rfl)
  refine wpAny_bind (wpAny_pure (wpAny_bind (t0.at (wpAny_bind (t3.at ?_)))))
  show wpAny _ _ (holding [Value.builtin "object.__class__"] (call (.builtin "getset_descriptor.__get__") [.builtin "object.__class__", .ref x, .ref D]) >>= ret) _ _ _
  refine wpAny_bind (wpAny_holding (wpAny_call (class_get (s := ⟨hp, g, d, t + 1, os⟩) (ox := ox) (od := od) X I T.hm ?_)))
  refine wpAny_pure ?_
  show wpAny _ _ (handedOut (.ref D)) _ _ _
  rw [handedOut_of (v := .ref D) rfl]
  first
    | exact wpAny_pure (wpAny_pure q)
    | exact wpAny_pure q
    | exact wpAny_pure (wpAny_bind (wpAny_pure (wpAny_pure q)))

theorem exc_kit (T : ExcC K D) : KitX K (.ref x) (.ref D) (fun h => ∃ ox od, InstAt h x ox D od) := by
  obtain ⟨cdD, hcD, _⟩ := any_some T.hd
  unfold clsIn at hcD
  split at hcD
  · rename_i c' d' cd' sl' ho
    constructor
    · rintro _ _ _ ⟨ox, od, I⟩
      exact I.type
    · intro M h X _ A' Q' E' s' k q
      unfold isType loadHead
      exact wpAny_bind (wpAny_loadPart (k _ _ (X _ _ ho)) (wpAny_pure q))
    · intro h tp dd its n sl X htp
      rw [Bool.eq_false_iff]
      intro q
      obtain rfl : D = tp := Value.ref.inj (beq_iff_eq.mp q)
      cases (X _ _ ho).symm.trans htp
    · rintro prog w A E Q s X ⟨ox, od, I⟩ k
      exact exc_class T X I k
  · cases hcD
end

theorem ExAt.inst {X : Cx} {pins : List (Addr × Obj)} {σ : L2.St} {H : Hp} {s : Shared} {a D : Addr} (I : Inv X pins σ H s) (h : ExAt H a D) : ∃ ox od, PySem.W.InstAt s.heap a ox D od := by
  rcases h with h | ⟨d, h, fs, hd⟩
  · have z : ObjOk X.prog X.w H s.heap a (ExO (.ref D) a) := I.hok a _ h
    obtain ⟨⟨oe, vs, e, ⟨hc, hn⟩, hdt, _⟩, _, _⟩ := z
    refine ⟨oe, none, e, hc, ?_, ?_⟩
    · unfold PySem.W.notCls
      rw [hdt] <;> rfl
    · rw [hn]
      trivial
  · obtain ⟨t1, e⟩ := exo_at I.hok h
    obtain ⟨mA, hns, _⟩ := exd_at I.hok hd
    obtain ⟨o, es, ep, ho, _⟩ := hns
    exact ⟨_, some o, e, rfl, rfl, ho⟩

section
variable {X : Cx}
/-- isinstance(e, c), e an exception as a value -/
def rIsX (K : PySem.W.Frag) : List V → Hp → VK → Prop := fun xs H Q => ∃ (a D : Addr) (c : V) (cv : Value) (b : Bool), xs = [.ref a, c] ∧ ExAt H a D ∧ ExcC K D ∧ ClsV c cv ∧ PySem.W.kitOne K (.ref D) cv = some b ∧ Q (.bl b) H
theorem call_isX : CallR X (.builtin "isinstance") (rIsX X.K) := by
  intro pins s σ H xs us Q I r h
  obtain ⟨a, D, c, cv, b, rfl, ha, T, hc, e, q⟩ := h
  cases r with
  | cons rx rr =>
    cases rr with
    | cons rt rr =>
      cases rr
      cases rx
      cases hc.eq rt
      exact PySem.W.kia_one (exc_kit T) I.kIn (ha.inst I) e (fun z => nomatch z) fun tk => ⟨.bl b, H, I.tok tk, rfl, q⟩
/-- isinstance(e, (c1, c2, ..)) -/
def rIsXT (K : PySem.W.Frag) : List V → Hp → VK → Prop := fun xs H Q => ∃ (a D tp : Addr) (cs : List V) (us : List Value) (b : Bool), xs = [.ref a, .ref tp] ∧ ExAt H a D ∧ ExcC K D ∧ H tp = some (.tup cs) ∧ Paired ClsV cs us ∧ PySem.W.kitAny K (.ref D) us = some b ∧ Q (.bl b) H
theorem call_isXT : CallR X (.builtin "isinstance") (rIsXT X.K) := by
  intro pins s σ H xs us Q I r h
  obtain ⟨a, D, tp, cs, ws, b, rfl, ha, T, hT, hc, e, q⟩ := h
  cases r with
  | cons rx rr =>
    cases rr with
    | cons rt rr =>
      cases rr
      cases rx
      cases rt
      have z : ObjOk X.prog X.w H s.heap tp (.tup cs) := I.hok tp _ hT
      obtain ⟨_, its, rv, ⟨oc, od, dt, sl⟩, h1, h2, n, h3⟩ := z
      simp only at h2 h3
      subst h2 h3
      obtain rfl := ClsV.all hc rv
      exact PySem.W.kia_tup (exc_kit T) I.kIn (ha.inst I) h1 e (fun z => nomatch z) fun tk => ⟨.bl b, H, I.tok tk, rfl, q⟩

/-- e.f of an exception with its own dict -/
def tXv (K : PySem.W.Frag) (f : Str) (te : TE) : TE := fun σ H Q => te σ H fun x H1 => ∃ (a C d : Addr) (fs : List (Str × V)) (v : V), x = .ref a ∧ XfC K C ∧ PySem.W.findIn K (.ref C) f = some none ∧
  H1 a = some (exo a C (some d)) ∧ H1 d = some (exd d fs) ∧ fs.lookup f = some v ∧ Q v H1
theorem pe_xv {e : Expr} {te : TE} {pos : Pos} {n : Str} (he : PE X e te) (hb : attributeBase e n X.env (eval e X.env) = eval e X.env := by rfl) : PE X (.Attribute e n pos) (tXv X.K n te) := by
  constructor
  intro pins s σ H Q I h
  refine attr_of hb (thn (he.run pins s σ H _ I h) ?_)
  rintro u s1 ⟨x, H1, I1, rx, a, C, d, fs, v, rfl, T, hno, ea, ed, hl, q⟩
  obtain rfl : u = Value.ref a := rx
  obtain ⟨t1, hoe⟩ := exo_at I1.hok ea
  obtain ⟨mA, hns, rel⟩ := exd_at I1.hok ed
  obtain ⟨od, hod, hlk⟩ := lookIn_ns hns
  have hv : RelO (some v) (mA n) := hl ▸ rel n
  obtain ⟨u, hu, ru⟩ := RelO.some_of hv
  have J : PySem.W.InstAt s1.heap a _ C (some od) := ⟨hoe, rfl, rfl, hod⟩
  exact HandSPX.exc_get I1.kIn J T.ga T.gg T.exC (PySem.W.findObj_own T.hdC hno rfl (by rw [hlk, hu])) (handed_of ru) ⟨v, H1, I1.tok _, ru, q⟩

/-- C(e, ..) as a value, C's own __init__ keeping sp -/
def tMkV (C : Addr) (sp : Sp) (ta : TA) : TE := fun σ H Q => ta σ H fun vs H1 => vs.length ≤ 1000 ∧ ∀ a, H1 a = none → sp (.ref a :: vs) (upd H1 a (exo a C none)) (fun v H2 => v = .non ∧ Q (.ref a) H2) (fun _ _ _ => False)
variable {e : Expr} {es : List Expr} {ta : TA} {p pos : Pos}
theorem pe_mkV {CX : CXT} {x : Str} {C fI : Addr} {k : Nat} {fd : FuncData} {ps : List Str} {sp : Sp} (T : OexC X.K C)
    (iC : PySem.W.findIn X.K (.ref C) "__init__" = some (some (.ref fI))) (tI : PySem.W.typeIn X.K (.ref fI) = some (.type "function"))
    (F1 : FnOk X.prog X.w X.K X.mg X.base CX k fI fd ps sp) (hr : Room (k + 1) X.A) (hb : Binds X.K fd ps []) (hx : Passes CX X (fun _ _ _ => False))
    (hg : Gl X x) (hm : X.mg x = some (.ref C)) (ha : PA X (e :: es) ta) (hdb : (x == ("__debug__" : Str)) = false := by decide)
    (he : starEach (e :: es) X.env = (false, eval e X.env) :: starEach es X.env := by rfl) (hpl : (backTo pos (starEach es X.env)).any (·.1) = false := by rfl) :
    PE X (.Call (.Name x p) (e :: es) [] pos) (tMkV C sp ta) := by
  constructor
  intro pins s σ H Q I h
  obtain ⟨nm, q, N, bs, bm, sn, sub, ab, col, dd, k0, k1, k2, k3, k5, hC, hbm⟩ := T.cls
  refine wpAny_Call_Name_kw (ld_glob I hg hm ?_ hdb)
  refine PySem.W.callWith_K (h₀ := X.base) I.ok.mod.kin T.kC (thn (ha.run pos pins s σ H _ I h) ?_) he hpl
  rintro us s1 ⟨vs, H1, I1, r1, hz, q1⟩
  refine ⟨I1.kIn, ?_⟩
  show wpAny _ _ (call (.ref C) us) _ _ _
  obtain ⟨hp, g, dr, tk, os⟩ := s1
  have big : hp.objs.size ≤ hp.objs.size + 1 := Nat.le_succ _
  have hq := q1 (hp.objs.size + 1) (I1.hok.fresh big)
  have kk : ∀ b o, hp.get? b = some o → ((hp.push (PySem.W.kdv_tup us)).push (PySem.HandSPX.excO C hp.objs.size)).get? b = some o :=
    fun b o e => Heap.get?_push_of_some _ (Heap.get?_push_of_some _ e)
  have here : ((hp.push (PySem.W.kdv_tup us)).push (PySem.HandSPX.excO C hp.objs.size)).get? (hp.objs.size + 1) = some (PySem.HandSPX.excO C hp.objs.size) := by heap_get
  have I2 := I1.laid (t' := tk) (a := hp.objs.size + 1) (o := exo (hp.objs.size + 1) C none) kk big (L2.exo_ok here)
  have r2 : Vals (V.ref (hp.objs.size + 1) :: vs) (Value.ref (hp.objs.size + 1) :: us) := .cons rfl r1
  have ll : (Value.ref (hp.objs.size + 1) :: us).length = ps.length := r2.length.symm.trans (F1.len _ _ _ _ hq)
  have hus : us.length ≤ sizeLine := by
    rw [← Paired.length r1, sizeLine_eq]
    omega
  have hbb := hb _ (Value.ref (hp.objs.size + 1) :: us) I2.kIn (by rw [List.append_nil]; exact ll)
  rw [List.append_nil] at hbb
  refine wpAny_call (PySem.HandSPX.call_own F.excBase_ValueError (fun Y => PySem.HandSPX.refsVE_contains Y bm hbm) (I1.kIn _ _ hC)
    (PySem.W.looks_findIn I1.kIn iC) (fun self => PySem.W.bind_fn I1.kIn self tI) hus ?_)
  refine codeAny_mono (F1.run _ X.stack _ _ ⟨Value.ref (hp.objs.size + 1) :: us, []⟩ _ _ _ (fun _ _ _ => False) (hr.make C us []) (I2.env0.make C us []) hbb r2 hq) ?_
  intro r s' hq'
  cases r with
  | error er => exact hx pins σ _ _ er s' I2 hq'
  | ok fl =>
    cases fl with
    | next => exact (show False from hq').elim
    | brk => exact (show False from hq').elim
    | cont => exact (show False from hq').elim
    | ret u =>
      obtain ⟨v, H2, os2, bare2, un2, hok2, rv, ev, q2⟩ := hq'
      subst ev
      obtain ⟨h2, g2, d2, t2, os'⟩ := s'
      obtain rfl : os' = os := os2
      exact ⟨rv, .ref (hp.objs.size + 1), H2, I2.call (h' := h2) (g' := g2) (d' := d2) (t' := t2) (ch := []) un2 hok2 bare2 (fun b z => absurd z (by simp)), rfl, q2⟩
end
end Lk
namespace Lk
open PySem PySem.Spec PySem.Calls PyProof.Rows L2 G
/-- what the class D is to each of the classes -/
def RowK (K : PySem.W.Frag) (D : Addr) : List Addr → List Bool → Prop
  | c :: cs, b :: bs => PySem.W.kitOne K (.ref D) (.ref c) = some b ∧ RowK K D cs bs
  | _, _ => True
theorem refs_one {a : Addr} : PySem.HandSPX.refsVE [.ref a, .type "ValueError", .type "Exception", .type "BaseException", .type "object"] = true := by
  show PySem.HandSPX.refsVE [.type "ValueError", .type "Exception", .type "BaseException", .type "object"] = true
  decide +kernel
def veRest : List Value := [.type "ValueError", .type "Exception", .type "BaseException", .type "object"]
/-- all but a stands -/
def But (a : Addr) (H H' : Hp) : Prop := ∀ b o, b ≠ a → H b = some o → H' b = some o
theorem But.same {a : Addr} {H H' : Hp} {o : HO} (n : H a = none) (h : But a (upd H a o) H') : Same H H' := fun b u e =>
  h b u (ne_of_none e n) ((upd_ne (ne_of_none e n)).trans e)
/-- __init__ of an error with one field -/
def spInit1 (K : PySem.W.Frag) (C : Addr) (f : Str) : Sp := fun vs H Q _ => ∃ (a : Addr) (v : V), vs = [.ref a, v] ∧ H a = some (exo a C none) ∧
  ∀ (H' : Hp) (d : Addr), But a H H' → H' a = some (exo a C (some d)) → H' d = some (exd d [(f, v)]) → Q .non H'
def spInit2 (K : PySem.W.Frag) (C : Addr) (f g : Str) : Sp := fun vs H Q _ => ∃ (a : Addr) (v u : V), vs = [.ref a, v, u] ∧ H a = some (exo a C none) ∧
  ∀ (H' : Hp) (d : Addr), But a H H' → H' a = some (exo a C (some d)) → H' d = some (exd d [(g, u), (f, v)]) → Q .non H'
/-- __init__ of NoOutcome with a list: a copy of it is kept -/
def spInitL (K : PySem.W.Frag) (C : Addr) (f g : Str) : Sp := fun vs H Q _ => ∃ (a l : Addr) (v : V) (xs : List V), vs = [.ref a, v, .ref l] ∧ H a = some (exo a C none) ∧ SqL K H l xs ∧
  ∀ (H' : Hp) (d n : Addr), But a H H' → H' a = some (exo a C (some d)) → H' d = some (exd d [(g, .ref n), (f, v)]) → H' n = some (.lst xs) → H n = none → Q .non H'
end Lk
namespace Lk
open PySem L2
theorem exo_ne_lst {e C : Addr} {d : Option Addr} {xs : List V} : exo e C d ≠ .lst xs := fun z => by
  have z' : HO.ext _ = HO.lst xs := z
  cases z'
theorem exo_ne_tup {e C : Addr} {d : Option Addr} {xs : List V} : exo e C d ≠ .tup xs := exo_tup
end Lk
namespace Lk
open PySem L2
theorem bools_dp {K : PySem.W.Frag} {H : Hp} : ∀ bs : List Bool, DpAll K H (bs.map V.bl) (bs.map PyData.bool)
  | [] => .nil
  | b :: bs => .cons (.bl b) (bools_dp bs)
theorem bools_lay : ∀ l : List Bool, PyData.canLayAll0 (l.map PyData.bool) = true
  | [] => rfl
  | b :: r => by
    rw [List.map_cons]
    unfold PyData.canLayAll0
    rw [bools_lay r, Bool.and_true]
    rfl
theorem bools_depth : ∀ l : List Bool, PyData.depthAll (l.map PyData.bool) = 0
  | [] => rfl
  | b :: r => by
    rw [List.map_cons]
    unfold PyData.depthAll
    rw [bools_depth r]
    rfl
theorem bools_shaped (l : List Bool) : SeqAt.shaped (.list (l.map PyData.bool)) = true := by
  unfold SeqAt.shaped
  rw [Bool.and_eq_true]
  constructor
  · unfold PyData.canLay0
    exact bools_lay l
  · unfold PyData.depth
    rw [bools_depth]
    exact rfl
theorem ne_refl {d : PyData} (h : SeqAt.shaped d = true) : (!PyData.eqv d d) = false := by
  rw [SeqAt.eqv_refl d (SeqAt.canLay_of_shaped h)]
  rfl
theorem if_false {c : Bool} {A B : Prop} (hc : c = false) (h : B) : if c = true then A else B := by
  rw [hc]
  exact iteF h
theorem if_true {c : Bool} {A B : Prop} (hc : c = true) (h : A) : if c = true then A else B := by
  rw [hc]
  exact iteT h
end Lk
namespace Lk
open PySem PySem.Spec PyProof.Rows L2 G
/-- small texts of usual signs -/
def SmallS (z : Str) : Prop := 0 < z.length ∧ z.length ≤ 10 ∧ ∀ c ∈ z.cps.toList, c < 1000
theorem cat_codes (a b : Str) : (a ++ b).cps.toList = a.cps.toList ++ b.cps.toList := by
  show (a.cps ++ b.cps).toList = _
  rw [Array.toList_append]
theorem cat_len (a b : Str) : (a ++ b).length = a.length + b.length := by
  show (a.cps ++ b.cps).size = _
  rw [Array.size_append]
  rfl
theorem cutS_all (z : Str) (b : Nat) : cutS z none (some (b : Int)) = tx (z.cps.toList.take b) := by
  unfold cutS
  rw [HT.sIx_nat, HT.sIx_none, List.drop_zero, Nat.sub_zero]
  have e : z.cps.toList.length = z.length := by simp [Str.length]
  by_cases h : b ≤ z.length
  · rw [Nat.min_eq_left h]
  · rw [Nat.min_eq_right (by omega), List.take_of_length_le (by omega), List.take_of_length_le (by omega)]
theorem tx_len (l : List Nat) : (tx l).length = l.length := by simp [Str.length]
theorem tx_codes (l : List Nat) : (tx l).cps.toList = l := by simp
theorem lcp_comm : ∀ a b : List Nat, lcp a b = lcp b a
  | [], [] => rfl
  | [], b :: bs => by simp [lcp]
  | a :: as, [] => by simp [lcp]
  | a :: as, b :: bs => by
    unfold lcp
    by_cases h : a = b
    · rw [if_pos h, if_pos h.symm, lcp_comm as bs, h]
    · rw [if_neg h, if_neg fun z => h z.symm]
/-- data that repr shows: small leaves, not too much of it -/
structure Shows (d : PyData) : Prop where
  leaves : d.leavesShort 13 = true
  weight : d.weight ≤ 1048576
  shape : d.showable = true
  dict : d.hasDict = true → hasList d = false
  depth : d.depth ≤ 60
theorem Shows.ok {d : PyData} (h : Shows d) : ReprOk d :=
  ⟨h.shape, h.dict, h.depth, PyData.shown_fits (by decide) (by decide) h.leaves h.weight⟩
theorem shows_str {z : Str} (h1 : z.length ≤ 100000) (h2 : ∀ c ∈ z.cps.toList, c < 1000) : Shows (.str z) where
  leaves := by
    unfold PyData.leavesShort
    rw [List.all_eq_true]
    intro c hc
    exact decide_eq_true (Nat.lt_trans (h2 c hc) (by decide))
  weight := by
    unfold PyData.weight
    exact Nat.le_trans h1 (by decide)
  shape := by unfold PyData.showable; rfl
  dict := fun h => by
    unfold PyData.hasDict at h
    cases h
  depth := by unfold PyData.depth; exact Nat.zero_le _
theorem shows_bool (b : Bool) : Shows (.bool b) where
  leaves := by unfold PyData.leavesShort; rfl
  weight := by unfold PyData.weight; exact Nat.zero_le _
  shape := by unfold PyData.showable; rfl
  dict := fun h => by
    unfold PyData.hasDict at h
    cases h
  depth := by unfold PyData.depth; exact Nat.zero_le _
theorem shows_none : Shows .none where
  leaves := by unfold PyData.leavesShort; rfl
  weight := by unfold PyData.weight; exact Nat.zero_le _
  shape := by unfold PyData.showable; rfl
  dict := fun h => by
    unfold PyData.hasDict at h
    cases h
  depth := by unfold PyData.depth; exact Nat.zero_le _
theorem shows_zero : Shows (.int 0) where
  leaves := by unfold PyData.leavesShort; decide +kernel
  weight := by unfold PyData.weight; decide
  shape := by unfold PyData.showable; decide
  dict := fun h => by
    unfold PyData.hasDict at h
    cases h
  depth := by unfold PyData.depth; exact Nat.zero_le _
theorem shows_emp : Shows (.dict []) where
  leaves := by unfold PyData.leavesShort PyData.leavesShortKv; rfl
  weight := by unfold PyData.weight PyData.weightKv; exact Nat.zero_le _
  shape := by unfold PyData.showable PyData.showableKv; rfl
  dict := fun _ => by unfold hasList; rfl
  depth := by unfold PyData.depth PyData.depthKv; decide
theorem shows_tup1 {z : Str} (h1 : z.length ≤ 100000) (h2 : ∀ c ∈ z.cps.toList, c < 1000) : Shows (.tuple [.str z]) where
  leaves := by
    have h := (shows_str h1 h2).leaves
    simp only [PyData.leavesShort, PyData.leavesShortAll, Bool.and_true] at h ⊢
    exact h
  weight := by
    have h := (shows_str h1 h2).weight
    simp only [PyData.weight, PyData.weightAll] at h ⊢
    have : z.cps.size ≤ 100000 := h1
    omega
  shape := by simp [PyData.showable, PyData.showableAll]
  dict := fun h => by simp [PyData.hasDict, PyData.hasDictAll] at h
  depth := by simp [PyData.depth, PyData.depthAll]
theorem shows_lst1 {z : Str} (h1 : z.length ≤ 100000) (h2 : ∀ c ∈ z.cps.toList, c < 1000) : Shows (.list [.str z]) where
  leaves := by
    have h := (shows_str h1 h2).leaves
    simp only [PyData.leavesShort, PyData.leavesShortAll, Bool.and_true] at h ⊢
    exact h
  weight := by
    have h := (shows_str h1 h2).weight
    simp only [PyData.weight, PyData.weightAll] at h ⊢
    have : z.cps.size ≤ 100000 := h1
    omega
  shape := by simp [PyData.showable, PyData.showableAll]
  dict := fun h => by simp [PyData.hasDict, PyData.hasDictAll] at h
  depth := by simp [PyData.depth, PyData.depthAll]
theorem rep_mem {z : Str} {n c : Nat} (h : c ∈ (repS z n).cps.toList) : c ∈ z.cps.toList := by
  rw [repS_codes] at h
  obtain ⟨l, hl, hc⟩ := List.mem_flatten.mp h
  rw [(List.mem_replicate.mp hl).2] at hc
  exact hc
/-- the ones for the signs that are not among s -/
def strange (s : Str) (l : List Nat) : List Nat := l.filter fun c => !s.cps.toList.contains c
theorem strange_nil (s z : Str) : strange s z.cps.toList = [] ↔ allIn s z = true := by
  unfold strange allIn
  rw [List.filter_eq_nil_iff, List.all_eq_true]
  simp
theorem eqv_nil_ints (ns : List Int) : PyData.eqv (.list (ns.map PyData.int)) (.list []) = decide (ns = []) := by
  cases ns with
  | nil => simp [PyData.eqv, PyData.eqvAll]
  | cons n r => simp [PyData.eqv, PyData.eqvAll]
end Lk
namespace Lk
open PySem PySem.Spec PyProof.Rows L2 G
theorem and_str {d : PyData} {z : Str} {t : TE} {σ : L2.St} {Q : VK} {H : Hp} (h : ∀ y, d = .str y → ∀ Q' : VK, (∀ H', Same H H' → Q' (.bl (allIn z y)) H') → t σ H Q')
    (k : ∀ H', Same H H' → Q (.bl (isWord z d)) H') : if isStr d = true then t σ H Q else Q (.bl false) H := by
  cases d with
  | str y => exact iteT (h y rfl Q k)
  | none => exact iteF (k _ (Same.refl _))
  | bool _ => exact iteF (k _ (Same.refl _))
  | int _ => exact iteF (k _ (Same.refl _))
  | list _ => exact iteF (k _ (Same.refl _))
  | tuple _ => exact iteF (k _ (Same.refl _))
  | dict _ => exact iteF (k _ (Same.refl _))
theorem ne_same {x : V} : (!decide (x = x)) = false := by simp
end Lk
namespace Lk
open PySem L2
theorem strange_in {s : Str} {c : Nat} (l : List Nat) (h : c ∈ s.cps.toList) : strange s (l ++ [c]) = strange s l := by
  unfold strange
  rw [List.filter_append]
  have e : s.cps.toList.contains c = true := List.contains_iff_mem.mpr h
  rw [List.filter_cons_of_neg (by rw [e]; decide), List.filter_nil, List.append_nil]
theorem strange_out {s : Str} {c : Nat} (l : List Nat) (h : ¬ c ∈ s.cps.toList) : strange s (l ++ [c]) = strange s l ++ [c] := by
  unfold strange
  rw [List.filter_append]
  have e : s.cps.toList.contains c = false := by
    rw [Bool.eq_false_iff]
    exact fun z => h (List.contains_iff_mem.mp z)
  rw [List.filter_cons_of_pos (by rw [e]; decide), List.filter_nil]
end Lk

/-! set(text) and sorted of it. -/
namespace Ls
open PySem PySem.Spec PyProof.Rows L2 Lk

def one (c : Nat) : Str := ⟨#[c]⟩
def keyT (e : Int × Value) : Str := match e.2 with | .str k _ => k | _ => one 0
def GoodT (w : World) (e : Int × Value) : Prop := ∃ k tk, e.2 = Value.str k tk ∧ e.1 = hashStr w k
/-- at a a set that holds just the texts of l -/
def SetT (w : World) (h : Heap) (a : Addr) (l : List Str) : Prop :=
  ∃ o es ep t, h.get? a = some o ∧ o.ExactSet ∧ o.data = .set es ep t ∧ (∀ e ∈ es.toList, GoodT w e) ∧ (es.toList.map keyT).Nodup ∧
    (∀ k, k ∈ l ↔ k ∈ es.toList.map keyT) ∧ es.size < scanBound ∧ t.fits es.size = true ∧ es.size ≤ l.length ∧ Ris t.place.toList ∧
    (w.params.followText "set-order" = true ∨ t.led = true)
section
variable {P : Program} {w : World} {h h' : Heap} {a : Addr} {l : List Str}
theorem SetT.at_ (R : SetT w h a l) (k : ∀ o, h.get? a = some o → h'.get? a = some o) : SetT w h' a l := by
  obtain ⟨o, es, ep, t, eo, r⟩ := R
  exact ⟨o, es, ep, t, k o eo, r⟩
theorem str_is (k : Str) (u : Tok) : (PySem.strKind P w).is k (.str k u) = true := by
  show Value.isStrOf k (.str k u) = true
  unfold Value.isStrOf
  exact beq_self_eq_true k
theorem good_elemsT {l : List (Int × Value)} (g : ∀ e ∈ l, GoodT w e) : ElemsOf (PySem.strKind P w) l := fun e he => by
  obtain ⟨k, tk, q1, q2⟩ := g e he
  refine ⟨⟨k, ?_, q2⟩, ?_⟩
  · rw [q1]
    exact str_is k tk
  · rw [q1] <;> rfl
theorem good_isT {e : Int × Value} (g : GoodT w e) (k : Str) : (PySem.strKind P w).is k e.2 = true ↔ keyT e = k := by
  obtain ⟨k0, tk, q1, _⟩ := g
  unfold keyT
  rw [q1]
  show (Value.isStrOf k (.str k0 tk) = true) ↔ k0 = k
  unfold Value.isStrOf
  exact beq_iff_eq
theorem good_memT {l : List (Int × Value)} (g : ∀ e ∈ l, GoodT w e) (k : Str) : k ∈ l.map keyT ↔ ∃ e ∈ l, (PySem.strKind P w).is k e.2 = true := by
  rw [List.mem_map]
  constructor
  · rintro ⟨e, he, q⟩
    exact ⟨e, he, (good_isT (g e he) k).2 q⟩
  · rintro ⟨e, he, q⟩
    exact ⟨e, he, (good_isT (g e he) k).1 q⟩
end

section
variable {P : Program} {w : World} {A : Around} {E : Value → Shared → Prop} {s : Shared} {a : Addr} {l : List Str}
theorem addT_tail {g : Bool → Sem Unit} (hg : ∀ (b : Bool) (s₁ : Shared) (Q' : Unit → Shared → Prop), Q' () s₁ → wpAny (model P w) A (g b) Q' E s₁)
    {o : Obj} {es : Array (Int × Value)} {ep : Nat} {t : SetTable} (eo : s.heap.get? a = some o) (ex : o.ExactSet) (ed : o.data = .set es ep t)
    {fs : Array (Int × Value)} {u : SetTable} {l' : List Str} (g1 : ∀ e ∈ fs.toList, GoodT w e) (nd1 : (fs.toList.map keyT).Nodup) (m1 : ∀ k, k ∈ l' ↔ k ∈ fs.toList.map keyT)
    (b1 : fs.size < scanBound) (f1 : u.fits fs.size = true) (z1 : fs.size ≤ l'.length) (r1 : Ris u.place.toList) (o1 : w.params.followText "set-order" = true ∨ u.led = true)
    {dummy : Bool} {R : Option Bool → Shared → Prop} (hR : ∀ h', Heap.SameBut a s.heap h' → SetT w h' a l' → R (some true) { s with heap := h' }) :
    wpAny (model P w) A (do
        storeSet a fs u
        if (!dummy && u.tooFull) = true then do
            g (relayAll u fs (SetTable.grown fs.size)).2.2
            storeSet a (relayAll u fs (SetTable.grown fs.size)).1 (relayAll u fs (SetTable.grown fs.size)).2.1
            pure (some true)
          else pure (some true)) R E s := by
  refine wpAny_bind (wpAny_storeSet_of eo ed ?_ (fits_of_scanBound b1))
  have eo1 := store_at (es' := fs) (t' := u) eo ed
  have sb := Heap.SameBut.update s.heap a (Obj.putSet fs u)
  split
  · have pm := relayAll_perm u fs (SetTable.grown fs.size)
    have ff := relayAll_fits u fs (SetTable.grown fs.size)
    have rr := relayAll_ris u fs (SetTable.grown fs.size)
    have le := relayAll_led u fs (SetTable.grown fs.size)
    generalize relayAll u fs (SetTable.grown fs.size) = Z at pm ff rr le ⊢
    obtain ⟨gs, v, gave⟩ := Z
    dsimp only at pm ff rr le ⊢
    have sz : gs.size = fs.size := by
      rw [← Array.length_toList, pm.length_eq, Array.length_toList]
    have b2 : gs.size < scanBound := sz ▸ b1
    refine wpAny_bind (hg _ _ _ ?_)
    refine wpAny_bind (wpAny_storeSet_of eo1 rfl ?_ (fits_of_scanBound b2))
    have eo2 := store_at (es' := gs) (t' := v) eo1 rfl
    refine wpAny_pure (hR _ (sb.trans (Heap.SameBut.update _ a _)) ⟨_, gs, _, v, eo2, ex, rfl, fun e he => g1 e (pm.mem_iff.mp he), ?_, fun k => ?_, b2, ff, sz ▸ z1, rr, ?_⟩)
    · exact (pm.map keyT).nodup_iff.mpr nd1
    · exact (m1 k).trans (pm.map keyT).mem_iff.symm
    · exact o1.imp id fun z => le.trans z
  · exact wpAny_pure (hR _ sb ⟨_, fs, _, u, eo1, ex, rfl, g1, nd1, m1, b1, f1, z1, r1, o1⟩)

theorem addT_hashed {k : Str} {tk : Tok} {Q : Bool → Shared → Prop} (R : SetT w s.heap a l) (room : l.length + 1 < scanBound)
    (hQ : ∀ b h', Heap.SameBut a s.heap h' → SetT w h' a (l ++ [k]) → Q b { s with heap := h' }) :
    wpAny (model P w) A (setAddHashed a (.str k tk) ((PySem.strKind P w).hash k)) Q E s := by
  obtain ⟨o, es, ep, t, eo, ex, ed, g, nd, em, eb, ef, en, er, el⟩ := R
  have isk : (PySem.strKind P w).is k (.str k tk) = true := str_is k tk
  have scn : (Value.str k tk).scannable = true := rfl
  have els : ElemsOf (PySem.strKind P w) es.toList := good_elemsT g
  unfold setAddHashed
  unfold setAddHashedIn
  refine wpAny_holding (wpAny_bind (wpAny_setState_of eo ed ef ?_))
  dsimp only
  rw [byScan_of scn eb els]
  simp only [↓reduceIte]
  unfold setAddByScan
  refine wpAny_bind (wpAny_bind (wpAny_rule (wpAny_bind (wpAny_setScan_of isk eo ed ef els ?_))))
  cases fi : List.findIdx? (fun e => (PySem.strKind P w).is k e.2) es.toList with
  | some j =>
    dsimp only
    obtain ⟨hj, pj, _⟩ := List.findIdx?_eq_some_iff_getElem.mp fi
    have kin : k ∈ l := (em k).2 ((good_memT (P := P) (w := w) g k).2 ⟨es.toList[j], List.getElem_mem hj, pj⟩)
    refine wpAny_pure (wpAny_pure (hQ _ s.heap (Heap.SameBut.refl a s.heap) ⟨o, es, ep, t, eo, ex, ed, g, nd, fun i => ?_, eb, ef, ?_, er, el⟩))
    · rw [← em i, List.mem_append, List.mem_singleton]
      exact ⟨fun z => z.elim id fun e => e ▸ kin, .inl⟩
    · rw [List.length_append]
      exact Nat.le_trans en (Nat.le_add_right _ _)
  | none =>
    dsimp only
    have kout : k ∉ es.toList.map keyT := fun z => by
      obtain ⟨e, he, q⟩ := (good_memT (P := P) (w := w) g k).1 z
      have c := List.findIdx?_eq_none_iff.mp fi e he
      rw [q] at c
      cases c
    have gw : ∀ (b : Bool) {s₁ : Shared} {Q' : Unit → Shared → Prop}, Q' () s₁ → wpAny (model P w) A (match b with | true => rule "set.scan.the-table-gave-way" | false => pure ()) Q' E s₁ := by
      intro b s₁ Q' q
      cases b
      · exact wpAny_pure q
      · exact wpAny_rule q
    have pm := layNew_perm t es ((PySem.strKind P w).hash k) (.str k tk)
    have f1 := layNew_fits t es ((PySem.strKind P w).hash k) (.str k tk)
    have r1 := layNew_ris t es ((PySem.strKind P w).hash k) (.str k tk) er
    have l1 := layNew_led t es ((PySem.strKind P w).hash k) (.str k tk)
    generalize layNew t es ((PySem.strKind P w).hash k) (.str k tk) = Z at pm f1 r1 l1 ⊢
    obtain ⟨fs, u, dummy, gave⟩ := Z
    dsimp only at pm f1 r1 l1 ⊢
    rw [Array.toList_push] at pm
    have pc : fs.toList.Perm (((PySem.strKind P w).hash k, Value.str k tk) :: es.toList) := pm.trans (List.perm_append_singleton _ _)
    have pk : (fs.toList.map keyT).Perm (k :: es.toList.map keyT) := pc.map keyT
    have g1 : ∀ e ∈ fs.toList, GoodT w e := fun e he => by
      rcases List.mem_cons.mp (pc.mem_iff.mp he) with z | z
      · rw [z]
        exact ⟨k, tk, rfl, rfl⟩
      · exact g e z
    have n1 : (fs.toList.map keyT).Nodup := pk.nodup_iff.mpr (List.nodup_cons.mpr ⟨kout, nd⟩)
    have m1 : ∀ i, i ∈ l ++ [k] ↔ i ∈ fs.toList.map keyT := fun i => by
      rw [List.mem_append, List.mem_singleton, em i, pk.mem_iff, List.mem_cons]
      exact Or.comm
    have sz : fs.size = es.size + 1 := by
      rw [← Array.length_toList, pc.length_eq, List.length_cons, Array.length_toList]
    have z1 : fs.size ≤ (l ++ [k]).length := by
      rw [sz, List.length_append]
      exact Nat.succ_le_succ en
    have b1 : fs.size < scanBound := by omega
    have o1 : w.params.followText "set-order" = true ∨ u.led = true := el.imp id fun z => l1.trans z
    have gg : ∀ (b : Bool) (s₁ : Shared) (Q' : Unit → Shared → Prop), Q' () s₁ → wpAny (model P w) A (match b with | true => rule "set.scan.the-table-gave-way" | false => pure ()) Q' E s₁ := fun b s₁ Q' q => gw b q
    refine wpAny_bind (gw _ ?_)
    split
    · refine wpAny_bind ?_
      rw [hashByValue_scannable 8 scn]
      refine wpAny_pure (addT_tail ?_ eo ex ed g1 n1 m1 b1 ?_ z1 ?_ ?_ ?_)
      · intro b s₁ Q' q
        cases b <;> first | exact wpAny_pure q | exact wpAny_rule q
      · first | (split <;> first | exact f1 | exact SetTable.fits_plain_off f1) | exact f1
      · first | (split <;> exact r1) | exact r1
      · first | (split <;> exact o1) | exact o1
      · intro h' sb r
        dsimp only
        exact wpAny_pure (hQ _ h' sb r)
    · refine wpAny_bind (wpAny_pure ?_)
      simp only [↓reduceIte]
      refine addT_tail ?_ eo ex ed g1 n1 m1 b1 f1 z1 r1 o1 ?_
      · intro b s₁ Q' q
        cases b <;> first | exact wpAny_pure q | exact wpAny_rule q
      · intro h' sb r
        dsimp only
        exact wpAny_pure (hQ _ h' sb r)

theorem freshT {h : Heap} (w : World) : SetT w (h.push { cls := .type "set", dict := none, data := .set #[] 0 (.fresh 0 0 (!w.params.followText "set-order")) }) h.objs.size [] := by
  refine ⟨_, #[], 0, _, Heap.get?_push_size _ rfl, ⟨rfl, rfl, rfl⟩, rfl, ?_, ?_, ?_, by decide, rfl, Nat.le_refl _, List.Pairwise.nil, ?_⟩
  · intro e he
    simp at he
  · simp
  · intro k
    simp
  · show _ ∨ (!w.params.followText "set-order") = true
    cases w.params.followText "set-order"
    · exact .inr rfl
    · exact .inl rfl

theorem newT (v : Value) {Q₁ : Value → Shared → Prop}
    (q : Q₁ (.ref s.heap.objs.size) { s with heap := s.heap.push { cls := .type "set", dict := none, data := .set #[] 0 (.fresh 0 0 (!w.params.followText "set-order")) } }) :
    codeAny (model P w) A (.call (.builtin "set.__new__") ⟨[.type "set", v], []⟩) (wants Q₁ E) s := by
  refine codeAny_of_tree ?_
  show wpAny _ A.in1 (do checkBuiltinCall "set.__new__" ⟨[.type "set", v], []⟩; again (.builtin "set.__new__" ⟨[.type "set", v], []⟩)) _ _ s
  refine wpAny_bind (wpAny_of_eq (PySem.F.newCall_set_1 v) (wpAny_pure ⟨plainId_quiet PySem.F.plain_set_new _, codeAny_builtin PySem.F.entry_set_new ?_⟩))
  rw [Around.under_plainId PySem.F.plain_set_new _]
  unfold Builtin.«set.__new__»
  unfold Builtin.Frozenset.newClass
  have selfsub := sub_set_self
  obtain ⟨hp, g, d, tk, os⟩ := s
  dsimp only
  wp_walk
  refine wpAny_askSetting (wpAny_pure ?_)
  dsimp only
  simp only [newObj]
  exact wpAny_bind (wpAny_alloc (wpAny_pure (wpAny_pure q)))
end
end Ls

/-! set(text), sorted of it: the loop, the calls, the rules. -/
namespace Ls
open PySem PySem.Spec PyProof.Rows L2 Lk

section
variable {P : Program} {w : World} {A : Around} {R : Result → Shared → Prop} {I : Addr} {fp wr : List Addr} {G : Array GenState → Array GenState → Prop} {n : Nat} {St : Nat → Shared → Prop}
def signsT (x : Str) : List Str := x.cps.toList.map one
theorem loopT {x : Str} (W : WalksS P w A.in1 I fp wr G n (SignAt x) St) (S : Addr) (hSf : S ∉ fp) (hsz : x.cps.size = n) (hb : n + 1 < scanBound) :
    ∀ (k i : Nat) (s : Shared), n - i = k → i ≤ n → St i s → SetT w s.heap S ((signsT x).take i) →
      (∀ s', Moved (S :: wr) G s s' → SetT w s'.heap S (signsT x) → R (.ok (.ret .none)) s') →
      codeAny (model P w) A (.builtin "set.update.loop" ⟨[.ref S, .ref I], []⟩) R s := by
  have hSw : S ∉ wr := fun h => hSf (W.sub _ h)
  have hsub : ∀ b ∈ wr, b ∈ S :: wr := fun b hb => List.mem_cons_of_mem _ hb
  have hlen : (signsT x).length = n := by
    unfold signsT
    rw [List.length_map, Array.length_toList, hsz]
  intro k
  induction k with
  | zero =>
    intro i s hk hi hst hS hR
    have hin : i = n := by omega
    subst hin
    refine codeAny_builtin F.entry_set_update_loop ?_
    rw [Around.under_plainId F.plain_set_update_loop _]
    show wpAny _ A.in1 (pyNext (.ref I) >>= _) _ _ s
    refine wpAny_bind (W.done s _ _ hst fun s' hm => ?_)
    show wpAny _ A.in1 (ret Value.none) _ _ s'
    refine wpAny_pure (hR s' (hm.mono hsub) ?_)
    rw [List.take_of_length_le (Nat.le_of_eq hlen)] at hS
    exact hS.at_ fun o e => hm.heap S o hSw e
  | succ k ih =>
    intro i s hk hi hst hS hR
    have hlt : i < n := by omega
    refine codeAny_builtin F.entry_set_update_loop ?_
    rw [Around.under_plainId F.plain_set_update_loop _]
    show wpAny _ A.in1 (pyNext (.ref I) >>= _) _ _ s
    refine wpAny_bind (W.item i s _ _ hlt hst fun v s' hP hst' hm => ?_)
    obtain ⟨c, t, ec, ev⟩ := hP
    subst ev
    have hS' : SetT w s'.heap S ((signsT x).take i) := hS.at_ fun o e => hm.heap S o hSw e
    show wpAny _ A.in1 (holding [Value.str (one c) t] (setAdd S (.str (one c) t)) >>= _) _ _ s'
    refine wpAny_bind (wpAny_holding ?_)
    unfold setAdd
    refine wpAny_holding ?_
    refine wpAny_bind ((PySem.strKind P w).pyHash (k := one c) (str_is _ _) ?_)
    have room : ((signsT x).take i).length + 1 < scanBound := by
      rw [List.length_take]
      omega
    have et : (signsT x).take i ++ [one c] = (signsT x).take (i + 1) := by
      rw [List.take_succ]
      unfold signsT
      rw [List.getElem?_map, Array.getElem?_toList, ec]
      rfl
    refine addT_hashed (s := { s' with toks := s'.toks + 1 }) hS' room fun b h' sb hS2 => ?_
    rw [et] at hS2
    refine wpAny_pure ⟨plainId_quiet F.plain_set_update_loop _, ih (i + 1) _ (by omega) hlt (W.frame _ s' _ _ hst' (Nat.le_succ _) fun b hb o e => ?_) hS2 fun s'' hm'' hS'' => ?_⟩
    · rw [sb.2 b (fun h : b = S => hSf (by rw [← h]; exact hb))]
      exact e
    · refine hR s'' (Moved.trans W.gtrans ((hm.mono hsub).then_heap (Nat.le_succ _) fun b o hb e => ?_) hm'') hS''
      rw [sb.2 b (fun h : b = S => hb (by rw [h]; exact List.mem_cons_self))]
      exact e
end

section
variable {P : Program} {w : World} {A : Around} {E : Value → Shared → Prop} {s : Shared}
theorem sub_str_set : isSubtype (.type "str") (.type "set") = pure false := by rw [isSubtype_type]; kernel_rfl
theorem sub_str_frozenset : isSubtype (.type "str") (.type "frozenset") = pure false := by rw [isSubtype_type]; kernel_rfl

theorem call_setT {x : Str} {t0 : Tok} {Q : Value → Shared → Prop} (hh : A.handled = none) (hb : x.cps.size + 1 < scanBound)
    (h : ∀ (h' : Heap) (tk : Nat), SetT w h' s.heap.objs.size (signsT x) → (∀ b o, b < s.heap.objs.size → s.heap.get? b = some o → h'.get? b = some o) →
      Q (.ref s.heap.objs.size) { s with heap := h', toks := tk }) :
    wpAny (model P w) A (call (.type "set") [.str x t0]) Q E s := by
  obtain ⟨c, tl, hmro⟩ := F.called_set.mro
  have hmade := F.called_set.made
  have hsub := F.called_set.sub
  refine wpAny_call (codeAny_of_tree ?_)
  show wpAny _ _ (callAny (.type "set") _) _ _ _
  refine wpAny_pure ⟨Code.quiet_builtin _ (by decide +kernel), codeAny_builtin F.entry_type_call ?_⟩
  rw [Around.under_plain (weight_type_call_type "set" [.str x t0] []) rfl]
  have h1 := F.called_set.notType
  have h2 := F.called_set.canCreate
  have hct := F.typeCall_set_1 (.str x t0)
  repeat (any_goals (first | assumption | wp_step))
  refine codeAny_mono (newT (.str x t0) (E := E) (Q₁ := fun obj s₁ => obj = .ref s.heap.objs.size ∧ s₁ = { s with heap := s.heap.push { cls := .type "set", dict := none, data := .set #[] 0 (.fresh 0 0 (!w.params.followText "set-order")) } }) ⟨rfl, rfl⟩) fun r s₁ hr => ?_
  cases r with
  | error e => exact hr
  | ok fl =>
    cases fl with
    | ret obj =>
      obtain ⟨rfl, rfl⟩ := hr
      have hF := freshT (h := s.heap) w
      generalize eo : ({ cls := .type "set", dict := none, data := .set #[] 0 (.fresh 0 0 (!w.params.followText "set-order")) } : Obj) = ob at hF ⊢
      have hcls : ob.cls = .type "set" := by
        rw [← eo]
      have hS : (s.heap.push ob).get? s.heap.objs.size = some ob := Heap.get?_push_size _ (by rw [← eo] <;> rfl)
      have hT : Shared.TypeIs { s with heap := s.heap.push ob } (.ref s.heap.objs.size) "set" := ⟨_, hS, hcls⟩
      have hli := F.called_set.init.lookup
      have hbi := F.called_set.init.bind (.ref s.heap.objs.size)
      have hS0 := hS
      rw [← eo] at hS hT hF ⊢
      repeat (any_goals (first | assumption | wp_step))
      refine codeAny_mono (codeAny_call_builtin (R := wants (fun r s₂ => r = .none ∧ ∃ h' tk, s₂ = { s with heap := h', toks := tk } ∧ SetT w h' s.heap.objs.size (signsT x) ∧
          (∀ b o, b < s.heap.objs.size → s.heap.get? b = some o → h'.get? b = some o)) E) F.called_set.init.plain F.entry_set_init (check_set_init_1 hT ?_)) fun r₂ s₂ hr₂ => ?_
      · have hsls := sub_str_set
        have hslf := sub_str_frozenset
        have hne : (Value.type "str" == Value.type "dict") = false := by decide
        unfold Builtin.«set.__init__» noKeywords Builtin.Frozenset.updateFrom
        generalize hPI : pyIter = PI
        wp_walk
        subst hPI
        refine wpAny_pyIter_str fun o St W hst => ?_
        refine wpAny_bind (wpAny_runValue ?_)
        have hh3 : A.in1.in1.in1.handled = none := by simp [hh]
        generalize eH : s.heap.push { cls := .type "set", dict := none, data := .set #[] 0 (.fresh 0 0 (!w.params.followText "set-order")) } = H1 at W hst hF ⊢
        have hH1 : H1.objs.size = s.heap.objs.size + 1 := by rw [← eH, Heap.size_push]
        have hSf : s.heap.objs.size ∉ [H1.objs.size] := fun hm => by
          rw [List.mem_singleton.mp hm] at hH1
          exact absurd hH1 (Nat.ne_of_lt (Nat.lt_succ_self _))
        refine loopT (W _ hh3).toS s.heap.objs.size hSf rfl hb (x.cps.size - 0) 0 _ (by omega) (Nat.zero_le _) hst ?hS0 ?hR
        case hS0 => exact hF.at_ fun u e => Heap.get?_push_of_some _ e
        case hR =>
          intro s' hm hS'
          obtain ⟨h', g', d', tk', os'⟩ := s'
          have eg : g' = s.gens := hm.gens
          have ed : d' = s.drawn := hm.drawn
          have eo : os' = s.os := hm.os
          subst eg; subst ed; subst eo
          show wpAny _ _ _ _ _ _
          refine wpAny_pure ?_
          show wpAny _ _ (ret Value.none) _ _ _
          refine wpAny_pure ⟨rfl, h', tk', rfl, hS', fun b o hb e => ?_⟩
          have hb1 : b ≠ s.heap.objs.size := Nat.ne_of_lt hb
          have hb2 : b ≠ H1.objs.size := by
            rw [hH1]
            exact Nat.ne_of_lt (Nat.lt_succ_of_lt hb)
          refine hm.heap b o (by simp only [List.mem_cons, List.mem_singleton, List.not_mem_nil, or_false, not_or]; exact ⟨hb1, hb2⟩) (Heap.get?_push_of_some _ ?_)
          rw [← eH]
          exact Heap.get?_push_of_some _ e
      · cases r₂ with
        | error e => exact hr₂
        | ok fl₂ =>
          cases fl₂ with
          | ret r =>
            obtain ⟨rfl, h', tk, rfl, hS', hk'⟩ := hr₂
            repeat (any_goals (first | assumption | wp_step))
            exact h _ _ hS' hk'
          | _ => exact hr₂.elim
    | _ => exact hr.elim
end
end Ls

namespace Ls
open PySem PySem.Spec PyProof.Rows L2 Lk

section
variable {P : Program} {w : World} {A : Around} {E : Value → Shared → Prop} {s : Shared} {a : Addr} {l : List Str}
theorem sorted_setT {Q : Value → Shared → Prop} (R : SetT w s.heap a l) (hh : A.handled = none) (h64 : l.length < 64)
    (hQ : ∀ s' p (out : Array Value) (c : Nat) (ns : List Str), (∀ b o, s.heap.get? b = some o → s'.heap.get? b = some o) → s'.gens = s.gens → s'.os = s.os → s.heap.objs.size ≤ p →
      s'.heap.get? p = some (seqObj "list" out c) → StrsAre out.toList ns → sortedS ns = true → ns.Nodup → (∀ k, k ∈ ns ↔ k ∈ l) → ns.length ≤ l.length → Q (.ref p) s') :
    wpAny (model P w) A (call (.builtin "sorted") [.ref a]) Q E s := by
  obtain ⟨o, es, ep, t, ho, hex, hd, g, nd, hm, hb, hf, hn, hr, hl⟩ := R
  refine Calls.call_function_entry kind_sorted plain_sorted entry_sorted (args_sorted1 _) ?_
  unfold Builtin.«sorted»
  refine wpAny_bind (m := checkCount "sorted" 1 1 _) (wpAny_pure ?_)
  refine wpAny_bind (collect_set (A := A.in1) hh ⟨o, ho, hex.1, hd⟩ hf hb hr hl fun s1 vs k1 hz g1 o1 pm => ?_)
  have hvl : vs.length = es.size := by rw [pm.length_eq, List.length_map, Array.length_toList]
  have hstr : ∀ v ∈ vs, ∃ k tk, v = Value.str k tk := fun v hv => by
    obtain ⟨e, he, q⟩ := List.mem_map.mp (pm.mem_iff.mp hv)
    obtain ⟨k, tk, h1, _⟩ := g e he
    exact ⟨k, tk, by rw [← q]; exact h1⟩
  have hS : StrsAre vs (vs.map strOf) := strsAre_map vs hstr
  have ek : (es.toList.map (·.2)).map strOf = es.toList.map keyT := by
    rw [List.map_map]
    refine List.map_congr_left fun e he => ?_
    obtain ⟨k, tk, h1, _⟩ := g e he
    show strOf e.2 = keyT e
    unfold keyT
    rw [h1] <;> rfl
  have pk : (vs.map strOf).Perm (es.toList.map keyT) := by
    have q := pm.map strOf
    rw [ek] at q
    exact q
  have h64' : vs.length < 64 := by omega
  refine wpAny_bind (wpAny_newList ?_ (by rw [sizeLine_eq]; omega))
  have hoL : (s1.heap.push (seqObj "list" vs.toArray 0)).get? s1.heap.objs.size = some (seqObj "list" vs.toArray 0) := Heap.get?_push_size _ rfl
  refine wpAny_bind (wpAny_holding (wpAny_call_entry slot_list_sort ⟨_, hoL, rfl⟩ entry_list_sort
    (list_sort_treeK strKind_oneLt hoL hS.keysOf (fun v₁ v₂ rest e => keyKind_strs (by rw [← e]; exact hS)) h64' fun st' hp hs => ⟨_, rfl, ?_⟩) (args_list_sort _)))
  obtain ⟨ns, a1, a2, a3⟩ := sorted_out_str hS hp hs
  obtain ⟨c, hc⟩ := sortedHeap_at (vs := vs) (out := (arrOf st').map (·.2)) hoL
  have pn : ns.Perm (es.toList.map keyT) := a2.trans pk
  refine wpAny_pure ⟨_, rfl, hQ _ s1.heap.objs.size _ c ns (fun b u e => ?_) g1 o1 hz hc a1 a3 (pn.nodup_iff.mpr nd) (fun k => by rw [pn.mem_iff, ← hm k]) ?_⟩
  · have q := k1 b u e
    have hlt := Heap.lt_size q
    show (sortedHeap (s1.heap.push (seqObj "list" vs.toArray 0)) s1.heap.objs.size vs _).get? b = some u
    rw [sortedHeap_old (Nat.ne_of_lt hlt) (by rw [size_push']; exact Nat.lt_succ_of_lt hlt)]
    exact Heap.get?_push_of_some _ q
  · rw [pn.length_eq, List.length_map, Array.length_toList]
    exact hn
end


/-- ascending, each once -/
def ascB (x : Str) : Bool := decide (x.cps.toList.Pairwise (· < ·))
theorem rising_le : ∀ (c : Nat) (cs : List Nat), risingS (one c) (cs.map one) = true → (∀ d ∈ cs, c ≤ d) ∧ cs.Pairwise (· ≤ ·)
  | _, [], _ => ⟨fun d h => (List.not_mem_nil h).elim, List.Pairwise.nil⟩
  | c, d :: cs, h => by
    have h' : (!ltCps [d] [c] && risingS (one d) (cs.map one)) = true := h
    rw [Bool.and_eq_true] at h'
    obtain ⟨h1, h2⟩ := h'
    obtain ⟨a, b⟩ := rising_le d cs h2
    have e : ¬ d < c := fun z => by
      rw [ltCps_eq] at h1
      have q : ([d] : List Nat) < [c] := List.cons_lt_cons_iff.mpr (.inl z)
      rw [decide_eq_true q] at h1
      cases h1
    have e' : c ≤ d := Nat.le_of_not_lt e
    refine ⟨fun k hk => ?_, List.pairwise_cons.mpr ⟨a, b⟩⟩
    rcases List.mem_cons.mp hk with z | z
    · rw [z]
      exact e'
    · exact Nat.le_trans e' (a k z)
theorem sorted_le : ∀ (cs : List Nat), sortedS (cs.map one) = true → cs.Pairwise (· ≤ ·)
  | [], _ => List.Pairwise.nil
  | c :: cs, h => List.pairwise_cons.mpr (rising_le c cs h)
theorem lt_of_le_nodupN : ∀ l : List Nat, l.Pairwise (· ≤ ·) → l.Nodup → l.Pairwise (· < ·)
  | [], _, _ => List.Pairwise.nil
  | x :: l, h, d => by
    obtain ⟨h1, h2⟩ := List.pairwise_cons.mp h
    obtain ⟨d1, d2⟩ := List.nodup_cons.mp d
    refine List.pairwise_cons.mpr ⟨fun y hy => ?_, lt_of_le_nodupN l h2 d2⟩
    have a := h1 y hy
    have b : x ≠ y := fun z => d1 (z ▸ hy)
    omega
theorem eq_of_strict : ∀ (l m : List Nat), l.Pairwise (· < ·) → m.Pairwise (· < ·) → (∀ k, k ∈ l ↔ k ∈ m) → l = m
  | [], [], _, _, _ => rfl
  | [], b :: m, _, _, h => (List.not_mem_nil ((h b).2 List.mem_cons_self)).elim
  | a :: l, [], _, _, h => (List.not_mem_nil ((h a).1 List.mem_cons_self)).elim
  | a :: l, b :: m, h1, h2, h => by
    obtain ⟨p1, p2⟩ := List.pairwise_cons.mp h1
    obtain ⟨q1, q2⟩ := List.pairwise_cons.mp h2
    have e : a = b := by
      have x := (h a).1 List.mem_cons_self
      have y := (h b).2 List.mem_cons_self
      rcases List.mem_cons.mp x with z | z
      · exact z
      · rcases List.mem_cons.mp y with z' | z'
        · exact z'.symm
        · have u := q1 a z
          have v := p1 b z'
          omega
    subst e
    refine congrArg (a :: ·) (eq_of_strict l m p2 q2 fun k => ⟨fun z => ?_, fun z => ?_⟩)
    · rcases List.mem_cons.mp ((h k).1 (List.mem_cons_of_mem _ z)) with q | q
      · exact absurd (p1 k z) (by omega)
      · exact q
    · rcases List.mem_cons.mp ((h k).2 (List.mem_cons_of_mem _ z)) with q | q
      · exact absurd (q1 k z) (by omega)
      · exact q
theorem one_inj {a b : Nat} (h : one a = one b) : a = b := by
  have e : (one a).cps.toList = (one b).cps.toList := congrArg (fun z : Str => z.cps.toList) h
  exact (List.cons.inj e).1
theorem nodup_of_map : ∀ cs : List Nat, (cs.map one).Nodup → cs.Nodup
  | [], _ => List.nodup_nil
  | c :: cs, h => by
    rw [List.map_cons] at h
    obtain ⟨a, b⟩ := List.nodup_cons.mp h
    exact List.nodup_cons.mpr ⟨fun z => a (List.mem_map_of_mem z), nodup_of_map cs b⟩
theorem ones_of {x : Str} : ∀ (ns : List Str), (∀ k ∈ ns, k ∈ signsT x) → ∃ cs : List Nat, ns = cs.map one
  | [], _ => ⟨[], rfl⟩
  | n :: ns, h => by
    obtain ⟨c, _, e⟩ := List.mem_map.mp (h n List.mem_cons_self)
    obtain ⟨cs, e'⟩ := ones_of ns fun k hk => h k (List.mem_cons_of_mem _ hk)
    exact ⟨c :: cs, by rw [List.map_cons, ← e', e]⟩
/-- what sorted of a text's signs tells -/
theorem sorted_signs {x : Str} {ns : List Str} (h1 : sortedS ns = true) (h2 : ns.Nodup) (h3 : ∀ k, k ∈ ns ↔ k ∈ signsT x) :
    ∃ cs : List Nat, ns = cs.map one ∧ (cs = x.cps.toList ↔ ascB x = true) ∧ (∀ c ∈ cs, c ∈ x.cps.toList) := by
  obtain ⟨cs, e⟩ := ones_of (x := x) ns fun k hk => (h3 k).1 hk
  subst e
  have nd : cs.Nodup := nodup_of_map cs h2
  have lt := lt_of_le_nodupN cs (sorted_le cs h1) nd
  have mem : ∀ c ∈ cs, c ∈ x.cps.toList := fun c q => by
    obtain ⟨d, hd, e⟩ := List.mem_map.mp ((h3 (one c)).1 (List.mem_map_of_mem q))
    rw [← one_inj e]
    exact hd
  refine ⟨cs, rfl, ⟨fun z => ?_, fun z => ?_⟩, mem⟩
  · unfold ascB
    rw [← z]
    exact decide_eq_true lt
  · refine eq_of_strict _ _ lt (of_decide_eq_true z) fun k => ⟨fun q => ?_, fun q => ?_⟩
    · obtain ⟨c, hc, e⟩ := List.mem_map.mp ((h3 (one k)).1 (List.mem_map_of_mem q))
      rw [← one_inj e]
      exact hc
    · obtain ⟨c, hc, e⟩ := List.mem_map.mp ((h3 (one k)).2 (List.mem_map_of_mem q))
      rw [← one_inj e]
      exact hc

/-! ### the rules -/
def SetS (w : World) (a : Addr) (l : List Str) : HO := .ext fun h => SetT w h a l
section
variable {X : Cx}
theorem setS_new {w : World} {P : Program} {H : Hp} {h : Heap} {a : Addr} {l : List Str} (R : SetT w h a l) : ObjOk P w H h a (SetS w a l) := by
  have ⟨o, _, _, _, ho, _⟩ := R
  exact ⟨R, ⟨o, ho⟩, fun h1 h2 p k => SetT.at_ p k⟩
theorem setS_get {pins : List (Addr × Obj)} {σ : L2.St} {H : Hp} {s : Shared} {a : Addr} {l : List Str} (I : Inv X pins σ H s) (ha : H a = some (SetS X.w a l)) : SetT X.w s.heap a l := (I.hok a _ ha).1
/-- set(text) -/
def rSetT (w : World) : List V → Hp → VK → Prop := fun xs H Q => ∃ x : Str, xs = [.str x] ∧ x.cps.size < 64 ∧ ∀ p, H p = none → Q (.ref p) (upd H p (SetS w p (signsT x)))
theorem cr_setT (hc : X.calm = true) : CallR X (.type "set") (rSetT X.w) := by
  intro pins s σ H xs us Q I r h
  obtain ⟨x, rfl, hx, q⟩ := h
  obtain ⟨u, rfl, t, rfl⟩ := vals1 r
  refine call_setT (I.ok.hd hc) (by unfold scanBound; omega) fun h' tk S k => ?_
  exact ⟨.ref _, upd H s.heap.objs.size (SetS X.w s.heap.objs.size (signsT x)), I.laid (t' := tk) (fun b u e => k b u (Heap.lt_size e) e) (Nat.le_refl _) (setS_new S), rfl, q _ (I.hok.fresh (Nat.le_refl _))⟩
/-- sorted(set(text)) -/
def rSortedT (w : World) : List V → Hp → VK → Prop := fun vs H Q => ∃ (a : Addr) (x : Str), vs = [V.ref a] ∧ H a = some (SetS w a (signsT x)) ∧ x.cps.size < 64 ∧
  ∀ (cs : List Nat) (p : Addr), (cs = x.cps.toList ↔ ascB x = true) → (∀ c ∈ cs, c ∈ x.cps.toList) → cs.length ≤ x.cps.size → H p = none → Q (.ref p) (upd H p (.lst ((cs.map one).map V.str)))
theorem cr_sortedT (hc : X.calm = true) : CallR X (.builtin "sorted") (rSortedT X.w) := by
  intro pins s σ H vs us Q I r h
  obtain ⟨a, x, rfl, ha, h64, q⟩ := h
  have R := setS_get I ha
  have hsz : (signsT x).length = x.cps.size := by
    unfold signsT
    rw [List.length_map, Array.length_toList]
  rw [Vals.ref1 r]
  refine sorted_setT R (I.ok.hd hc) (by rw [hsz] <;> exact h64) fun s' p out c ns k g o hp hg hi hs hm hl hz => ?_
  obtain ⟨cs, e, iff, mem⟩ := sorted_signs hs hm hl
  subst e
  rw [hsz, List.length_map] at hz
  have hlen : ((cs.map one).map V.str).length ≤ sizeLine := by rw [List.length_map, List.length_map, sizeLine_eq]; omega
  have hn : H p = none := I.hok.fresh hp
  have J : Inv X pins σ (upd H p (.lst ((cs.map one).map V.str))) { s with heap := s'.heap, gens := s'.gens, drawn := s'.drawn, toks := s'.toks } :=
    I.call (ch := []) (Un.laid k hp hn) (I.hok.laid k hp ⟨hlen, out.toList, c, vals_of_strs hi, hg⟩) (by rw [g]; exact I.bare) (fun _ z => nomatch z)
  have e : s' = { s with heap := s'.heap, gens := s'.gens, drawn := s'.drawn, toks := s'.toks } := by
    cases s'
    cases s
    cases o
    rfl
  rw [e]
  exact ⟨.ref p, _, J, rfl, q cs p iff mem hz hn⟩
/-- joining signs tells the text just if they are its signs -/
theorem catS_ones (cs : List Nat) : True := trivial
end
end Ls

/-! What an expander is, told of data. -/
namespace Lk
open PySem PySem.Spec PyProof.Rows L2 G
def Light (d : PyData) : Prop := d.weight ≤ 1048576
theorem light_str {z : Str} (h : Light (.str z)) : z.length ≤ sizeLine := by
  unfold Light PyData.weight at h
  exact Nat.le_trans h (by decide)
theorem weight_mem : ∀ {ds : List PyData} {d : PyData}, d ∈ ds → d.weight ≤ PyData.weightAll ds
  | e :: ds, d, h => by
    have u : PyData.weightAll (e :: ds) = e.weight + 1 + PyData.weightAll ds := by simp only [PyData.weightAll]
    rw [u]
    rcases List.mem_cons.mp h with z | z
    · rw [z]
      omega
    · have := weight_mem z
      omega
theorem light_tup {ds : List PyData} (h : Light (.tuple ds)) : ∀ d ∈ ds, Light d := fun d hd => by
  unfold Light at h ⊢
  have u : PyData.weight (.tuple ds) = PyData.weightAll ds := by simp only [PyData.weight]
  rw [u] at h
  exact Nat.le_trans (weight_mem hd) h
theorem weightAll_len : ∀ ds : List PyData, ds.length ≤ PyData.weightAll ds
  | [] => Nat.zero_le _
  | e :: ds => by
    have u : PyData.weightAll (e :: ds) = e.weight + 1 + PyData.weightAll ds := by simp only [PyData.weightAll]
    have := weightAll_len ds
    rw [u, List.length_cons]
    omega
theorem light_len {ds : List PyData} (h : Light (.tuple ds)) : ds.length ≤ 1048576 := by
  unfold Light at h
  have u : PyData.weight (.tuple ds) = PyData.weightAll ds := by simp only [PyData.weight]
  rw [u] at h
  exact Nat.le_trans (weightAll_len ds) h
/-- a word of so many signs at most -/
def shortB (s : Str) : PyData → Bool
  | .str z => allIn s z && decide (z.length ≤ 2000)
  | _ => false
def countB (n : Int) : PyData → Bool
  | .int i => decide (0 ≤ i) && decide (i < n)
  | _ => false
def isNone : PyData → Bool
  | .none => true
  | _ => false
def moveB (s : Str) (n : Int) : PyData → Bool
  | .tuple [a, b, c] => shortB s a && (shortB s b && countB n c)
  | _ => false
def stateB (s : Str) (n : Int) : PyData → Bool
  | .tuple [.tuple ms, last] => decide (ms.length = s.length) && ((isNone last || shortB s last) && ms.all fun m => isNone m || moveB s n m)
  | _ => false
def statesB (s : Str) : PyData → Bool
  | .tuple ss => (decide (1 ≤ ss.length) && decide (ss.length ≤ 60)) && ss.all (stateB s (ss.length : Nat))
  | _ => false
def signsB : PyData → Bool
  | .str z => allIn "abcdefghijklmnopqrstuvwxyz" z && ((decide (1 ≤ z.length) && decide (z.length ≤ 4)) && Ls.ascB z)
  | _ => false
def expB : PyData → Bool
  | .tuple [.str s, f, t] => signsB (.str s) && (shortB s f && statesB s t)
  | _ => false
theorem dq_tup {K : PySem.W.Frag} {H : Hp} {v : V} {d : PyData} (h : Dq K H v d) (e : isTup d = true) : ∃ a xs ds, v = .ref a ∧ d = .tuple ds ∧ SqT K H a xs ∧ DqAll K H xs ds := by
  cases h with
  | tup h1 h2 => exact ⟨_, _, _, rfl, rfl, h1, h2⟩
  | _ => cases e
theorem dq_str {K : PySem.W.Frag} {H : Hp} {v : V} {d : PyData} (h : Dq K H v d) (e : isStr d = true) : ∃ z, v = .str z ∧ d = .str z := by
  cases h with
  | str z => exact ⟨z, rfl, rfl⟩
  | _ => cases e
end Lk
namespace Lk
open PySem PySem.Spec PyProof.Rows L2 G
theorem moveB_tup {s : Str} {n : Int} {d : PyData} (e : isTup d = false) : moveB s n d = false := by
  cases d with
  | tuple _ => cases e
  | _ => rfl
theorem moveB_len {s : Str} {n : Int} {ds : List PyData} (e : ds.length ≠ 3) : moveB s n (.tuple ds) = false := by
  unfold moveB
  split
  · rename_i q
    injection q with q
    rw [q] at e
    exact absurd rfl e
  · rfl
theorem ne_int (a b : Int) : (!decide (V.int a = V.int b)) = !decide (a = b) := by
  congr 1
  exact decide_eq_decide.mpr ⟨fun z => V.int.inj z, fun z => congrArg V.int z⟩
theorem DqAll.three {K : PySem.W.Frag} {H : Hp} {xs : List V} {ds : List PyData} (h : DqAll K H xs ds) (e : xs.length = 3) :
    ∃ x y z d1 d2 d3, xs = [x, y, z] ∧ ds = [d1, d2, d3] ∧ Dq K H x d1 ∧ Dq K H y d2 ∧ Dq K H z d3 := by
  cases h with
  | nil => cases e
  | cons h1 t =>
    cases t with
    | nil => cases e
    | cons h2 t =>
      cases t with
      | nil => cases e
      | cons h3 t =>
        cases t with
        | nil => exact ⟨_, _, _, _, _, _, rfl, rfl, h1, h2, h3⟩
        | cons _ t => simp at e
theorem DqAll.two {K : PySem.W.Frag} {H : Hp} {xs : List V} {ds : List PyData} (h : DqAll K H xs ds) (e : xs.length = 2) :
    ∃ x y d1 d2, xs = [x, y] ∧ ds = [d1, d2] ∧ Dq K H x d1 ∧ Dq K H y d2 := by
  cases h with
  | nil => cases e
  | cons h1 t =>
    cases t with
    | nil => cases e
    | cons h2 t =>
      cases t with
      | nil => exact ⟨_, _, _, _, rfl, rfl, h1, h2⟩
      | cons _ t => simp at e
end Lk
namespace Lk
open PySem PySem.Spec PyProof.Rows L2 G
section
variable {K : PySem.W.Frag} {a D : Addr} {xs : List V} {ds : List PyData} {g : TG} {tt : TT} {te : TE} {vs : List Nat} {σ : L2.St} {H : Hp} {Qd : Hp → Prop}
theorem dqAll_get' {H : Hp} {i : Nat} {x : V} (hA : DqAll K H xs ds) (h : xs[i]? = some x) : ∃ d, ds[i]? = some d ∧ d ∈ ds ∧ ds.take (i + 1) = ds.take i ++ [d] ∧ Dq K H x d := by
  obtain ⟨d, e, q⟩ := hA.get h
  refine ⟨d, e, List.mem_of_getElem? e, ?_, q⟩
  rw [List.take_add_one, e]
  exact rfl
/-- what is told of each item of a tuple of data, in a list -/
theorem lc_bools (f : PyData → Bool) (hT : SqT K H a xs) (hA : DqAll K H xs ds) (nD : H D = none) (hlen : xs.length ≤ 1048576)
    (hs : ∀ x d H' (Nxt : V → Hp → Prop) (Els : Hp → Prop), Same H H' → Dq K H' x d → d ∈ ds → (∀ H4, Same H' H4 → Nxt (.bl (f d)) H4) →
      g x (wipe σ vs) H' fun σ2 H2 => wipe σ2 vs = wipe σ vs ∧ tt σ2 H2 fun b H3 => if b = true then te σ2 H3 Nxt else Els H3)
    (hd : ∀ H', Same H H' → H' D = some (.lst ((ds.map f).map V.bl)) → Qd H') :
    ∃ W : Nat → Nat → Hp → Prop, (∃ m, W 0 m (upd H D (.lst []))) ∧ ∀ i m H, W i m H →
      ((Itt K a).stop i H ∧ Qd H) ∨ ((Itt K a).go i H ∧ ∃ Nx : Hp → Prop, (∀ H', Nx H' → ∃ m', m' < m ∧ W (i + 1) m' H') ∧ ∀ x H', (Itt K a).yld i H x H' → g x (wipe σ vs) H' fun σ2 H2 => wipe σ2 vs = wipe σ vs ∧ tt σ2 H2 fun b H3 =>
        if b = true then te σ2 H3 fun y H4 => ∃ acc, H4 D = some (.lst acc) ∧ acc.length < sizeLine ∧ Nx (upd H4 D (.lst (acc ++ [y]))) else Nx H3) := by
  refine lc_tup (xs := xs) (fun i H' => Same H H' ∧ H' D = some (.lst (((ds.take i).map f).map V.bl))) ⟨same_new nD, upd_same⟩ (fun _ _ _ p => seqT p.1 hT) ?_ ?_
  · rintro i x H1 hx ⟨s1, hD⟩
    obtain ⟨d, e, m, t, q⟩ := dqAll_get' hA hx
    have hi : i < xs.length := (List.getElem?_eq_some_iff.mp hx).1
    refine hs x d H1 _ _ s1 (q.mono s1) m fun H4 s4 => ⟨_, s4 _ _ hD, ?_, fun b o eo => (upd_ne (ne_of_none eo nD)).trans (s4 _ _ (s1 b o eo)), ?_⟩
    · rw [List.length_map, List.length_map, List.length_take]
      refine Nat.lt_of_le_of_lt (Nat.min_le_left _ _) ?_
      exact Nat.lt_of_lt_of_le hi (Nat.le_trans hlen (by decide))
    · rw [upd_same, t, List.map_append, List.map_append]
      rfl
  · rintro H1 ⟨s1, hD⟩
    refine hd H1 s1 ?_
    rw [hD, List.take_of_length_le (Nat.le_of_eq hA.length.symm)]
/-- a one for each item of a tuple of data of which it is not told -/
def onesOf (f : PyData → Bool) (ds : List PyData) : List Int := (ds.filter fun d => !f d).map fun _ => 1
theorem onesOf_nil (f : PyData → Bool) (ds : List PyData) : decide (onesOf f ds = []) = ds.all f := by
  unfold onesOf
  rw [Bool.eq_iff_iff, decide_eq_true_eq, List.map_eq_nil_iff, List.filter_eq_nil_iff, List.all_eq_true]
  simp
theorem lc_ones (f : PyData → Bool) (hT : SqT K H a xs) (hA : DqAll K H xs ds) (nD : H D = none) (hlen : xs.length ≤ 1048576)
    (hs : ∀ x d H' (Nxt : V → Hp → Prop) (Els : Hp → Prop), Same H H' → Dq K H' x d → d ∈ ds → (f d = false → ∀ H4, Same H' H4 → Nxt (.int 1) H4) → (f d = true → ∀ H4, Same H' H4 → Els H4) →
      g x (wipe σ vs) H' fun σ2 H2 => wipe σ2 vs = wipe σ vs ∧ tt σ2 H2 fun b H3 => if b = true then te σ2 H3 Nxt else Els H3)
    (hd : ∀ H', Same H H' → H' D = some (.lst ((onesOf f ds).map V.int)) → Qd H') :
    ∃ W : Nat → Nat → Hp → Prop, (∃ m, W 0 m (upd H D (.lst []))) ∧ ∀ i m H, W i m H →
      ((Itt K a).stop i H ∧ Qd H) ∨ ((Itt K a).go i H ∧ ∃ Nx : Hp → Prop, (∀ H', Nx H' → ∃ m', m' < m ∧ W (i + 1) m' H') ∧ ∀ x H', (Itt K a).yld i H x H' → g x (wipe σ vs) H' fun σ2 H2 => wipe σ2 vs = wipe σ vs ∧ tt σ2 H2 fun b H3 =>
        if b = true then te σ2 H3 fun y H4 => ∃ acc, H4 D = some (.lst acc) ∧ acc.length < sizeLine ∧ Nx (upd H4 D (.lst (acc ++ [y]))) else Nx H3) := by
  refine lc_tup (xs := xs) (fun i H' => Same H H' ∧ H' D = some (.lst ((onesOf f (ds.take i)).map V.int))) ⟨same_new nD, upd_same⟩ (fun _ _ _ p => seqT p.1 hT) ?_ ?_
  · rintro i x H1 hx ⟨s1, hD⟩
    obtain ⟨d, e, m, t, q⟩ := dqAll_get' hA hx
    have hi : i < xs.length := (List.getElem?_eq_some_iff.mp hx).1
    refine hs x d H1 _ _ s1 (q.mono s1) m (fun ef H4 s4 => ⟨_, s4 _ _ hD, ?_, fun b o eo => (upd_ne (ne_of_none eo nD)).trans (s4 _ _ (s1 b o eo)), ?_⟩) (fun ef H4 s4 => ⟨Same.trans s1 s4, ?_⟩)
    · unfold onesOf
      rw [List.length_map, List.length_map]
      refine Nat.lt_of_le_of_lt (List.length_filter_le _ _) ?_
      rw [List.length_take]
      refine Nat.lt_of_le_of_lt (Nat.min_le_left _ _) ?_
      exact Nat.lt_of_lt_of_le hi (Nat.le_trans hlen (by decide))
    · rw [upd_same, t]
      unfold onesOf
      rw [List.filter_append, List.filter_cons_of_pos (by rw [ef] <;> rfl), List.filter_nil, List.map_append, List.map_append]
      rfl
    · rw [s4 _ _ hD, t]
      unfold onesOf
      rw [List.filter_append, List.filter_cons_of_neg (by rw [ef]; decide), List.filter_nil, List.append_nil]
  · rintro H1 ⟨s1, hD⟩
    refine hd H1 s1 ?_
    rw [hD, List.take_of_length_le (Nat.le_of_eq hA.length.symm)]
end
section
variable {D : Addr} {z s : Str} {g : TG} {tt : TT} {te : TE} {vs : List Nat} {σ : L2.St} {H : Hp} {Qd : Hp → Prop}
/-- a one for each sign of a text that is not among some -/
theorem lc_strange (nD : H D = none) (hlen : z.length ≤ 1048576)
    (hs : ∀ c H' (Nxt : V → Hp → Prop) (Els : Hp → Prop), Same H H' → (decide (c ∈ s.cps.toList) = false → Nxt (.int 1) H') → (decide (c ∈ s.cps.toList) = true → Els H') →
      g (.str ⟨#[c]⟩) (wipe σ vs) H' fun σ2 H2 => wipe σ2 vs = wipe σ vs ∧ tt σ2 H2 fun b H3 => if b = true then te σ2 H3 Nxt else Els H3)
    (hd : ∀ H', Same H H' → H' D = some (.lst (((strange s z.cps.toList).map fun _ => (1 : Int)).map V.int)) → Qd H') :
    ∃ W : Nat → Nat → Hp → Prop, (∃ m, W 0 m (upd H D (.lst []))) ∧ ∀ i m H, W i m H →
      ((Its z).stop i H ∧ Qd H) ∨ ((Its z).go i H ∧ ∃ Nx : Hp → Prop, (∀ H', Nx H' → ∃ m', m' < m ∧ W (i + 1) m' H') ∧ ∀ x H', (Its z).yld i H x H' → g x (wipe σ vs) H' fun σ2 H2 => wipe σ2 vs = wipe σ vs ∧ tt σ2 H2 fun b H3 =>
        if b = true then te σ2 H3 fun y H4 => ∃ acc, H4 D = some (.lst acc) ∧ acc.length < sizeLine ∧ Nx (upd H4 D (.lst (acc ++ [y]))) else Nx H3) := by
  have el : z.cps.toList.length = z.length := by simp [Str.length]
  refine lc_it walk_str (fun j H' => Same H H' ∧ H' D = some (.lst (((strange s (z.cps.toList.take j)).map fun _ => (1 : Int)).map V.int))) ⟨same_new nD, upd_same⟩ (fun _ _ _ _ => trivial) ?_ ?_
  · rintro j v H1 H2 hj ⟨s1, hD⟩ ⟨rfl, cc, hcc, rfl⟩
    have et : z.cps.toList.take (j + 1) = z.cps.toList.take j ++ [cc] := by
      rw [List.take_add_one]
      have : z.cps.toList[j]? = some cc := by simpa using hcc
      rw [this]
      rfl
    refine hs cc H2 _ _ s1 (fun e => ⟨_, hD, ?_, fun b o e => (upd_ne (ne_of_none e nD)).trans (s1 b o e), ?_⟩) (fun e => ⟨s1, ?_⟩)
    · rw [List.length_map, List.length_map]
      refine Nat.lt_of_le_of_lt (List.length_filter_le _ _) ?_
      rw [List.length_take, el]
      exact Nat.lt_of_le_of_lt (Nat.min_le_right _ _) (Nat.lt_of_le_of_lt hlen (by decide))
    · rw [upd_same, et, strange_out _ (of_decide_eq_false e), List.map_append, List.map_append]
      rfl
    · rw [et, strange_in _ (of_decide_eq_true e)]
      exact hD
  · rintro H1 ⟨s1, hD⟩
    refine hd H1 s1 ?_
    rw [List.take_of_length_le (by rw [el]; exact Nat.le_refl _)] at hD
    exact hD
theorem strange_ones (s z : Str) : decide (((strange s z.cps.toList).map fun _ => (1 : Int)) = []) = allIn s z := by
  have h := strange_nil s z
  rw [Bool.eq_iff_iff, decide_eq_true_eq, List.map_eq_nil_iff]
  exact h
end
/-- not a tuple, or not of so many items -/
theorem stateB_tup {s : Str} {n : Int} {d : PyData} (e : isTup d = false) : stateB s n d = false := by
  cases d with
  | tuple _ => cases e
  | _ => rfl
theorem stateB_len {s : Str} {n : Int} {ds : List PyData} (e : ds.length ≠ 2) : stateB s n (.tuple ds) = false := by
  unfold stateB
  split
  · rename_i q
    injection q with q
    rw [q] at e
    exact absurd rfl e
  · rfl
theorem stateB_first {s : Str} {n : Int} {d e : PyData} (h : isTup d = false) : stateB s n (.tuple [d, e]) = false := by
  cases d with
  | tuple _ => cases h
  | _ => rfl
theorem statesB_tup {s : Str} {d : PyData} (e : isTup d = false) : statesB s d = false := by
  cases d with
  | tuple _ => cases e
  | _ => rfl
theorem expB_tup {d : PyData} (e : isTup d = false) : expB d = false := by
  cases d with
  | tuple _ => cases e
  | _ => rfl
theorem expB_len {ds : List PyData} (e : ds.length ≠ 3) : expB (.tuple ds) = false := by
  unfold expB
  split
  · rename_i q
    injection q with q
    rw [q] at e
    exact absurd rfl e
  · rfl
theorem expB_first {d e f : PyData} (h : isStr d = false) : expB (.tuple [d, e, f]) = false := by
  cases d with
  | str _ => cases h
  | _ => rfl
theorem isNone_non {K : PySem.W.Frag} {H : Hp} {v : V} {d : PyData} (h : Dq K H v d) : decide (v = .non) = isNone d := by
  cases h <;> first | rfl | exact decide_eq_false (fun z => by cases z)
end Lk
namespace Lk
theorem two_ways {c : Bool} {A R : Prop} (r : R) (h : c = true → R → A) : if c = true then A else R := by
  cases e : c with
  | true => exact h e r
  | false => exact r
theorem tt_and (b : Bool) : (true && b) = b := rfl
theorem ff_and (b : Bool) : (false && b) = false := rfl
theorem tt_or (b : Bool) : (true || b) = true := rfl
theorem ff_or (b : Bool) : (false || b) = b := rfl
end Lk
namespace Lk
open PySem PySem.Spec PyProof.Rows L2 G
theorem canLay_one {c : Nat} (h : c < 1000) : PyData.canLay0 (.str (Ls.one c)) = true := by
  unfold PyData.canLay0
  show (#[c] : Array Nat).all (· < 0x110000) = true
  simp
  omega
theorem eqvAll_strs : ∀ l m : List Str, PyData.eqvAll (l.map PyData.str) (m.map PyData.str) = decide (l = m)
  | [], [] => by simp [PyData.eqvAll]
  | [], b :: m => by simp [PyData.eqvAll]
  | a :: l, [] => by simp [PyData.eqvAll]
  | a :: l, b :: m => by
    have ih := eqvAll_strs l m
    rw [List.map_cons, List.map_cons]
    simp only [PyData.eqvAll, PyData.eqv]
    rw [ih, Bool.eq_iff_iff]
    simp
theorem eqv_strs (l m : List Str) : PyData.eqv (.list (l.map PyData.str)) (.list (m.map PyData.str)) = decide (l = m) := by
  simp only [PyData.eqv]
  exact eqvAll_strs l m
theorem dq_strs {K : PySem.W.Frag} {H : Hp} : ∀ ns : List Str, DpAll K H (ns.map V.str) (ns.map PyData.str)
  | [] => .nil
  | n :: ns => .cons (.str n) (dq_strs ns)
theorem shaped_ones (ns : List Nat) (h : ∀ c ∈ ns, c < 1000) : SeqAt.shaped (.list ((ns.map Ls.one).map PyData.str)) = true := by
  have h1 : ∀ l : List Nat, (∀ c ∈ l, c < 1000) → PyData.canLayAll0 ((l.map Ls.one).map PyData.str) = true := fun l => by
    induction l with
    | nil =>
      intro _
      rfl
    | cons n r ih =>
      intro h
      rw [List.map_cons, List.map_cons]
      unfold PyData.canLayAll0
      rw [ih fun c hc => h c (List.mem_cons_of_mem _ hc), Bool.and_true]
      have hn := h n (List.mem_cons_self ..)
      exact canLay_one hn
  have h2 : ∀ l : List Str, PyData.depthAll (l.map PyData.str) = 0 := fun l => by
    induction l with
    | nil => rfl
    | cons n r ih =>
      rw [List.map_cons]
      unfold PyData.depthAll
      rw [ih]
      rfl
  unfold SeqAt.shaped
  rw [Bool.and_eq_true]
  constructor
  · unfold PyData.canLay0
    exact h1 ns h
  · unfold PyData.depth
    rw [h2]
    exact rfl
theorem sg_ones (z : Str) : sg z = (z.cps.toList.map Ls.one).map V.str := by
  unfold sg
  rw [List.map_map]
  rfl
theorem ones_eq {l m : List Nat} : l.map Ls.one = m.map Ls.one ↔ l = m := by
  constructor
  · intro h
    induction l generalizing m with
    | nil =>
      cases m with
      | nil => rfl
      | cons b m => cases h
    | cons a l ih =>
      cases m with
      | nil => cases h
      | cons b m =>
        rw [List.map_cons, List.map_cons] at h
        obtain ⟨h1, h2⟩ := List.cons.inj h
        rw [Ls.one_inj h1, ih h2]
  · intro h
    rw [h]
theorem asc_eq {x : Str} {cs : List Nat} (h : cs = x.cps.toList ↔ Ls.ascB x = true) : decide (x.cps.toList.map Ls.one = cs.map Ls.one) = Ls.ascB x := by
  rw [Bool.eq_iff_iff, decide_eq_true_eq, ones_eq, ← h]
  exact eq_comm
theorem asc_join {x : Str} {cs : List Nat} (h : cs = x.cps.toList ↔ Ls.ascB x = true) : (!decide (V.str (Txt.join (tx []) (cs.map Ls.one)) = V.str x)) = !Ls.ascB x := by
  congr 1
  rw [join_empty]
  have e : catS (cs.map Ls.one) = cs := catS_ones cs
  rw [e, Bool.eq_iff_iff, decide_eq_true_eq, ← h]
  constructor
  · intro z
    rw [← V.str.inj z]
  · intro z
    rw [z]
end Lk
namespace Lk
open PySem
theorem small_letters {z : Str} (h : allIn "abcdefghijklmnopqrstuvwxyz" z = true) : ∀ c ∈ z.cps.toList, c < 1000 := by
  intro c hc
  unfold allIn at h
  have q := List.contains_iff_mem.mp (List.all_eq_true.mp h c hc)
  have all : ∀ d ∈ ("abcdefghijklmnopqrstuvwxyz" : Str).cps.toList, d < 1000 := by decide +kernel
  exact all c q
end Lk
namespace Lk
open PySem PySem.Spec PyProof.Rows L2 G
def rLenSeq (K : PySem.W.Frag) : List V → Hp → VK → Prop := fun xs H Q => ∃ p ys, xs = [.ref p] ∧ (SqL K H p ys ∨ SqT K H p ys) ∧ Q (.int ys.length) H
end Lk
namespace Lk
open PySem
theorem signs_four {s : Str} (h : signsB (.str s) = true) : s.length ≤ 4 := by
  have h : (allIn "abcdefghijklmnopqrstuvwxyz" s && ((decide (1 ≤ s.length) && decide (s.length ≤ 4)) && Ls.ascB s)) = true := h
  simp only [Bool.and_eq_true, decide_eq_true_eq] at h
  exact h.2.1.2
end Lk
namespace Lk
open PySem PySem.Spec PyProof.Rows L2 G
theorem two_waysH {H : Hp} {c : Bool} {A : Prop} {R : Hp → Prop} (r : ∀ H0, Same H H0 → R H0) (h : c = true → (∀ H0, Same H H0 → R H0) → A) : if c = true then A else R H := by
  cases e : c with
  | true => exact h e r
  | false => exact r H (Same.refl H)
end Lk

/-! A dict with pairs as keys against the empty one. -/
namespace Lk
open PySem PySem.Spec PyProof.Rows L2
section
variable {P : Program} {w : World} {K : Type} [DecidableEq K] {knd : HeapKind P w K} {A : Around} {E : Value → Shared → Prop} {s : Shared}
theorem same_pairs0 {nm : String} {a b : Addr} {ka kb : List (K × Addr × Value)} {Q : Bool → Shared → Prop} (ha : (a == sysModules) = false) (hb : (b == sysModules) = false)
    (da : s.heap.DictOfH knd a ka) (db : s.heap.DictOfH knd b kb) (h0 : kb = []) (h : Q ka.isEmpty s) : wpAny (model P w) A (Builtin.Dict.samePairs nm a b) Q E s := by
  obtain ⟨oa, es, ep, hoa, _, hda, hea, _⟩ := da
  obtain ⟨ob, es', ep', hob, _, hdb, heb, _⟩ := db
  have hla : es.size = ka.length := size_of_entries hea
  have hlb : es'.size = 0 := by rw [size_of_entries heb, h0]; rfl
  unfold Builtin.Dict.samePairs Builtin.Dict.showsAll
  rw [if_neg (show ¬ (a == sysModules) = true by rw [ha]; exact Bool.false_ne_true), if_neg (show ¬ (b == sysModules) = true by rw [hb]; exact Bool.false_ne_true)]
  refine wpAny_bind (wpAny_pure (wpAny_bind (wpAny_pure ?_)))
  refine wpAny_bind (wpAny_dictEntries hoa hda ?_)
  dsimp only
  refine wpAny_bind (wpAny_dictEntries hob hdb ?_)
  by_cases hsz : es.size = es'.size
  case neg =>
    rw [if_pos (by simpa using hsz)]
    have e : ka.isEmpty = false := by
      cases ka with
      | nil => exact absurd (hla.trans hlb.symm) hsz
      | cons _ _ => rfl
    rw [e] at h
    exact wpAny_bind (wpAny_rule (wpAny_pure h))
  case pos =>
    have e : ka.isEmpty = true := by
      cases ka with
      | nil => rfl
      | cons x r =>
        rw [hsz, hlb] at hla
        cases hla
    rw [e] at h
    rw [if_neg (by rw [hsz]; simp)]
    refine wpAny_bind (wpAny_dictEpoch hoa hda ?_)
    refine wpAny_bind ?_
    rw [Std.Legacy.Range.forIn_eq_forIn_range']
    simp only [Std.Legacy.Range.size, Nat.sub_zero, Nat.add_sub_cancel, Nat.div_one]
    have e0 : es.size = 0 := hsz.trans hlb
    rw [e0]
    simp only [List.range'_zero, List.forIn_nil]
    exact wpAny_pure (wpAny_pure h)
theorem ne_pairs0 {a b : Addr} {ka kb : List (K × Addr × Value)} {Q : Value → Shared → Prop} (ha : (a == sysModules) = false) (hb : (b == sysModules) = false)
    (da : s.heap.DictOfH knd a ka) (db : s.heap.DictOfH knd b kb) (h0 : kb = []) (hu : A.units < cLine) (h : Q (.bool (!ka.isEmpty)) s) :
    wpAny (model P w) A (compareOp .NotEq (.ref a) (.ref b)) Q E s := by
  refine wpAny_richCompare_same_room (op := .NotEq) da.typeIs db.typeIs PySem.F.slot_dict_ne (wpAny_call_entry PySem.F.slot_dict_ne da.typeIs PySem.F.entry_dict_ne ?_ (PySem.F.args_dict_ne_2 _ _)) hu
  show wpAny _ _ (Builtin.Dict.dictSlotArgs "__ne__" ⟨[.ref a, .ref b], []⟩ >>= _) _ _ s
  refine wpAny_bind ?_
  unfold Builtin.Dict.dictSlotArgs
  refine wpAny_bind (PySem.wpAny_notOrdered_dict da.typeIs ?_)
  show wpAny _ _ (pure (Value.ref a, Value.ref b)) _ _ s
  refine wpAny_pure ?_
  refine wpAny_bind (wpAny_isInstance (T := "dict") db.typeIs PySem.F.sub_dict_dict ?_)
  simp only [Bool.not_true, Bool.false_eq_true, if_false]
  refine wpAny_bind (wpAny_pure (wpAny_bind (wpAny_pure ?_)))
  refine wpAny_bind (same_pairs0 ha hb da db h0 ?_)
  refine wpAny_pure ⟨_, rfl, ?_, ?_⟩
  · exact fun x => nomatch x
  · simpa using h
end
section
variable {X : Cx}
def rNeT0 : R2 := fun x y H Q => ∃ a b kvs, x = .ref a ∧ y = .ref b ∧ H a = some (.dT kvs) ∧ H b = some (.dT []) ∧ Q (.bl (!kvs.isEmpty)) H
theorem op_neT0 (hu : X.A.units < cLine) : OpR X (compareOp .NotEq) rNeT0 := by
  intro pins s σ H x y v u Q I rx ry h
  obtain ⟨a, b, kvs, rfl, rfl, ea, eb, q⟩ := h
  obtain rfl : v = Value.ref a := rx
  obtain rfl : u = Value.ref b := ry
  obtain ⟨_, ya, va, ra, da⟩ := dt_of I.hok ea
  obtain ⟨_, yb, vb, rb, db⟩ := dt_of I.hok eb
  have e0 : vb = [] := by
    cases rb
    rfl
  have e1 : va.isEmpty = kvs.isEmpty := by cases ra <;> rfl
  refine ne_pairs0 ya yb da db e0 hu ?_
  rw [e1]
  exact ⟨.bl (!kvs.isEmpty), H, I, rfl, q⟩
end
end Lk

/-! Drawn expanders, told of data; calls and sizes. -/
namespace Lk
open PySem PySem.Spec PyProof.Rows L2 G
/-- a text of so many signs of z at most -/
def WordOf (z w : Str) (n : Nat) : Prop := w.length ≤ n ∧ ∀ c ∈ w.cps.toList, c ∈ z.cps.toList
def MoveD (z : Str) (n : Nat) (d : PyData) : Prop := d = .none ∨ ∃ (a b : Str) (g : Nat), d = .tuple [.str a, .str b, .int (g : Int)] ∧ WordOf z a 3 ∧ WordOf z b 3 ∧ g < n
def StateD (z : Str) (n : Nat) (d : PyData) : Prop := ∃ (ms : List PyData) (l : PyData), d = .tuple [.tuple ms, l] ∧ ms.length = z.length ∧ (∀ m ∈ ms, MoveD z n m) ∧ (l = .none ∨ ∃ w, l = .str w ∧ WordOf z w 3)
/-- signs: one to four letters, ascending -/
def SignsP (z : Str) : Prop := signsB (.str z) = true
/-- as they are drawn: no y among them -/
def SignsD (z : Str) : Prop := SignsP z ∧ 121 ∉ z.cps.toList
def ExpD (d : PyData) : Prop := ∃ (z f : Str) (ss : List PyData), d = .tuple [.str z, .str f, .tuple ss] ∧ SignsD z ∧ WordOf z f 3 ∧ 1 ≤ ss.length ∧ ss.length ≤ 4 ∧ ∀ s ∈ ss, StateD z ss.length s
theorem SignsP.small {z : Str} (h : SignsP z) : 1 ≤ z.length ∧ z.length ≤ 4 ∧ ∀ c ∈ z.cps.toList, c < 1000 := by
  have h : (allIn "abcdefghijklmnopqrstuvwxyz" z && ((decide (1 ≤ z.length) && decide (z.length ≤ 4)) && Ls.ascB z)) = true := h
  rw [Bool.and_eq_true, Bool.and_eq_true, Bool.and_eq_true, decide_eq_true_eq, decide_eq_true_eq] at h
  exact ⟨h.2.1.1, h.2.1.2, small_letters h.1⟩
theorem SignsD.small {z : Str} (h : SignsD z) : 1 ≤ z.length ∧ z.length ≤ 4 ∧ ∀ c ∈ z.cps.toList, c < 1000 := h.1.small
/-- items of a tuple of data -/
theorem Dq.items {K : PySem.W.Frag} {H : Hp} {v : V} {ds : List PyData} (h : Dq K H v (.tuple ds)) : ∃ a xs, v = .ref a ∧ SqT K H a xs ∧ DqAll K H xs ds := by
  cases h with
  | tup h1 h2 => exact ⟨_, _, rfl, h1, h2⟩
theorem DqAll.one {K : PySem.W.Frag} {H : Hp} {xs : List V} {d : PyData} {ds : List PyData} (h : DqAll K H xs (d :: ds)) : ∃ x ys, xs = x :: ys ∧ Dq K H x d ∧ DqAll K H ys ds := by
  cases h with
  | cons h1 h2 => exact ⟨_, _, rfl, h1, h2⟩
theorem DqAll.none {K : PySem.W.Frag} {H : Hp} {xs : List V} (h : DqAll K H xs []) : xs = [] := by
  cases h
  rfl
theorem Dq.strV {K : PySem.W.Frag} {H : Hp} {v : V} {z : Str} (h : Dq K H v (.str z)) : v = .str z := by
  cases h
  rfl
theorem Dq.intV {K : PySem.W.Frag} {H : Hp} {v : V} {i : Int} (h : Dq K H v (.int i)) : v = .int i := by
  cases h
  rfl
theorem Dq.noneV {K : PySem.W.Frag} {H : Hp} {v : V} (h : Dq K H v .none) : v = .non := by
  cases h
  rfl
/-- a call: a new pair of a state and a sign -/
def CallV (z : Str) (n : Nat) (H : Hp) (x : V) : Prop := ∃ (p : Addr) (i c : Nat), x = .ref p ∧ H p = some (.tup [.int (i : Int), .str (Ls.one c)]) ∧ i < n ∧ c ∈ z.cps.toList
theorem CallV.mono {z : Str} {n : Nat} {H H' : Hp} {x : V} (h : CallV z n H x) (s : Same H H') : CallV z n H' x := by
  obtain ⟨p, i, c, e, t, r⟩ := h
  exact ⟨p, i, c, e, s _ _ t, r⟩
def CallsL (z : Str) (n : Nat) (H : Hp) (l : Addr) (k : Nat) : Prop := ∃ xs, H l = some (.lst xs) ∧ xs.length ≤ k ∧ ∀ x ∈ xs, CallV z n H x
theorem CallsL.mono {z : Str} {n k : Nat} {H H' : Hp} {l : Addr} (h : CallsL z n H l k) (s : Same H H') : CallsL z n H' l k := by
  obtain ⟨xs, e, hl, q⟩ := h
  exact ⟨xs, s _ _ e, hl, fun x hx => (q x hx).mono s⟩
/-- an expander as it lies -/
structure ExpV (K : PySem.W.Frag) (H : Hp) (v : V) (z f : Str) (ss : List PyData) : Prop where
  it : ∃ a y t xs, v = .ref a ∧ SqT K H a [.str z, .str f, .ref t] ∧ y = V.ref t ∧ SqT K H t xs ∧ DqAll K H xs ss
theorem expV_of {K : PySem.W.Frag} {H : Hp} {v : V} {z f : Str} {ss : List PyData} (h : Dq K H v (.tuple [.str z, .str f, .tuple ss])) :
    ∃ a t xs, v = .ref a ∧ SqT K H a [.str z, .str f, .ref t] ∧ SqT K H t xs ∧ DqAll K H xs ss := by
  obtain ⟨a, xs, rfl, h1, h2⟩ := h.items
  obtain ⟨x, ys, rfl, hx, h2⟩ := h2.one
  obtain ⟨y, ys, rfl, hy, h2⟩ := h2.one
  obtain ⟨u, ys, rfl, hu, h2⟩ := h2.one
  obtain rfl := h2.none
  obtain rfl := hx.strV
  obtain rfl := hy.strV
  obtain ⟨t, zs, rfl, h3, h4⟩ := hu.items
  exact ⟨a, t, zs, rfl, h1, h3, h4⟩
end Lk
namespace Lk
open PySem PySem.Spec PyProof.Rows L2 G
theorem unit1 {n : Nat} (h : n + 64 < cLine) : n + 1 < cLine := Nat.lt_of_le_of_lt (by omega) h
/-- the place of a sign of z -/
theorem place_of {z : Str} {c : Nat} (h : c ∈ z.cps.toList) : ∃ i rest, Builtin.Str.occurrences z (Ls.one c) 0 z.length 1 = i :: rest ∧ i < z.length := by
  have e := PySem.StrLaws.found_one z c
  rw [decide_eq_true h] at e
  cases q : Builtin.Str.occurrences z (Ls.one c) 0 z.length 1 with
  | nil =>
    have e' : (!(Builtin.Str.occurrences z (Ls.one c) 0 z.length 1).isEmpty) = true := e
    rw [q] at e'
    cases e'
  | cons i rest =>
    have s := (PySem.StrLaws.occ_spec z (Ls.one c) 0 z.length 1 i (by rw [q]; exact List.mem_cons_self ..)).1
    have l : (Ls.one c).length = 1 := rfl
    exact ⟨i, rest, rfl, by omega⟩
/-- what stands at a call: how many signs, and the state or nothing -/
def SizeV (H : Hp) (v : V) : Prop := ∃ (p : Addr) (a : Int) (h : V), v = .ref p ∧ H p = some (.tup [.int a, h]) ∧ (h = .non ∨ ∃ g : Int, h = .int g)
theorem SizeV.mono {H H' : Hp} {v : V} (h : SizeV H v) (s : Same H H') : SizeV H' v := by
  obtain ⟨p, a, x, e, t, r⟩ := h
  exact ⟨p, a, x, e, s _ _ t, r⟩
def Sizes (H : Hp) (d : Addr) (k : Nat) : Prop := ∃ kvs : List (List Key × V), H d = some (.dT kvs) ∧ kvs.length ≤ k ∧ ∀ kv ∈ kvs, SizeV (sans H d) kv.2
theorem Sizes.mono {H H' : Hp} {d : Addr} {k k' : Nat} (h : Sizes H d k) (s : Same H H') (hk : k ≤ k') : Sizes H' d k' := by
  obtain ⟨kvs, e, l, q⟩ := h
  exact ⟨kvs, s _ _ e, Nat.le_trans l hk, fun kv hkv => (q kv hkv).mono (Sm.of s)⟩
theorem val_mem {kvs : List (List Key × V)} {k : List Key} {v : V} (h : valV kvs k = some v) : ∃ kv ∈ kvs, kv.2 = v := by
  unfold valV at h
  rw [Option.map_eq_some_iff] at h
  obtain ⟨kv, e, r⟩ := h
  exact ⟨kv, List.mem_of_find?_eq_some e, r⟩
theorem put_mem {kvs : List (List Key × V)} {k : List Key} {v : V} {kv : List Key × V} (h : kv ∈ putK kvs k v) : kv ∈ kvs ∨ kv.2 = v := by
  unfold putK at h
  split at h
  · obtain ⟨x, hx, e⟩ := List.mem_map.mp h
    split at e
    · right
      rw [← e]
    · left
      rw [← e]
      exact hx
  · rcases List.mem_append.mp h with z | z
    · exact .inl z
    · right
      rw [List.mem_singleton.mp z]
end Lk
namespace Lk
open PySem PySem.Spec PyProof.Rows L2 G
theorem Sm.same_of {d : Addr} {H H1 H2 : Hp} (s : Same H H1) (sm : Sm d H1 H2) (nd : H d = none) : Same H H2 := fun b o e =>
  (sans_some (sm b o (sans_of (fun z => by
    rw [z, nd] at e
    cases e) (s b o e)))).2
theorem Sm.at_ {d b : Addr} {H1 H2 : Hp} {o : HO} (sm : Sm d H1 H2) (n : b ≠ d) (e : H1 b = some o) : H2 b = some o := (sans_some (sm b o (sans_of n e))).2
/-- the parts of a drawn state -/
theorem stateV {K : PySem.W.Frag} {H : Hp} {z : Str} {n : Nat} {x : V} {d : PyData} (h : Dq K H x d) (s : StateD z n d) : ∃ (p m : Addr) (l : V) (ms : List V) (es : List PyData),
    x = .ref p ∧ SqT K H p [.ref m, l] ∧ SqT K H m ms ∧ DqAll K H ms es ∧ es.length = z.length ∧ (∀ e ∈ es, MoveD z n e) := by
  obtain ⟨es, l, rfl, hl, hm, _⟩ := s
  obtain ⟨p, xs, rfl, h1, h2⟩ := h.items
  obtain ⟨y, ys, rfl, hy, h2⟩ := h2.one
  obtain ⟨u, ys, rfl, hu, h2⟩ := h2.one
  obtain rfl := h2.none
  obtain ⟨m, ms, rfl, h3, h4⟩ := hy.items
  exact ⟨p, m, u, ms, es, rfl, h1, h3, h4, hl, hm⟩
/-- the parts of a drawn move -/
theorem moveV {K : PySem.W.Frag} {H : Hp} {z : Str} {n : Nat} {x : V} {d : PyData} (h : Dq K H x d) (s : MoveD z n d) : x = .non ∨ ∃ (p : Addr) (a b : Str) (g : Nat),
    x = .ref p ∧ SqT K H p [.str a, .str b, .int (g : Int)] ∧ WordOf z a 3 ∧ WordOf z b 3 ∧ g < n := by
  rcases s with rfl | ⟨a, b, g, rfl, ha, hb, hg⟩
  · exact .inl h.noneV
  · obtain ⟨p, ps, rfl, hp, hp2⟩ := h.items
    obtain ⟨x1, ps, rfl, hx1, hp2⟩ := hp2.one
    obtain ⟨x2, ps, rfl, hx2, hp2⟩ := hp2.one
    obtain ⟨x3, ps, rfl, hx3, hp2⟩ := hp2.one
    obtain rfl := hp2.none
    obtain rfl := hx1.strV
    obtain rfl := hx2.strV
    obtain rfl := hx3.intV
    exact .inr ⟨p, a, b, g, rfl, hp, ha, hb, hg⟩
theorem dqAll_at {K : PySem.W.Frag} {H : Hp} {xs : List V} {ds : List PyData} {i : Nat} (h : DqAll K H xs ds) (hi : i < ds.length) : ∃ x d, xs[i]? = some x ∧ d ∈ ds ∧ Dq K H x d := by
  have hx : i < xs.length := by rw [h.length]; exact hi
  have e := List.getElem?_eq_getElem hx
  obtain ⟨d, _, m, _, q⟩ := dqAll_get' h e
  exact ⟨xs[i], d, e, m, q⟩
/-- here: nothing, or a state -/
def HereV (v : V) : Prop := v = .non ∨ ∃ g : Int, v = .int g
end Lk
namespace Lk
open PySem PySem.Spec PyProof.Rows L2 G
theorem unit0 {n : Nat} (h : n + 64 < cLine) : n < cLine := Nat.lt_of_le_of_lt (by omega) h
theorem sans_upd {H : Hp} {a b : Addr} {o : HO} (n : b ≠ a) : sans (upd H b o) a = upd (sans H a) b o := by
  funext x
  by_cases e : x = b
  · subst e
    rw [sans_ne n, upd_same, upd_same]
  · by_cases e2 : x = a
    · subst e2
      rw [sans_self, upd_ne e, sans_self]
    · rw [sans_ne e2, upd_ne e, upd_ne e, sans_ne e2]
/-- data that lie outside the pot and one list -/
abbrev out2 (H : Hp) (a b : Addr) : Hp := sans (sans H a) b
theorem out2_sm {H H' : Hp} {a b : Addr} (s : Sm a H H') : Same (out2 H a b) (out2 H' a b) := Sm.of s
theorem out2_upd {H : Hp} {a b : Addr} {o : HO} (n : b ≠ a) : Same (out2 H a b) (out2 (upd H b o) a b) := by
  unfold out2
  rw [sans_upd n]
  exact Sm.pot
theorem signs_a : SignsD "a" := by unfold SignsD SignsP; decide +kernel
theorem signs_ab : SignsD "ab" := by unfold SignsD SignsP; decide +kernel
theorem signs_bz : SignsD "bz" := by unfold SignsD SignsP; decide +kernel
theorem signs_abc : SignsD "abc" := by unfold SignsD SignsP; decide +kernel
theorem signs_abcz : SignsD "abcz" := by unfold SignsD SignsP; decide +kernel
theorem word_tx {z : Str} {l : List Nat} {n : Nat} (h : l.length ≤ n) (hc : ∀ c ∈ l, c ∈ z.cps.toList) : WordOf z (tx l) n := ⟨by rw [tx_len]; exact h, fun c h => hc c (by rw [tx_codes] at h; exact h)⟩
theorem word_empty (z : Str) (n : Nat) : WordOf z "" n := ⟨Nat.zero_le _, fun c h => by cases h⟩
theorem val_some {kvs : List (List Key × V)} {k : List Key} {v : V} (h : (k, v) ∈ kvs) : ∃ w, valV kvs k = some w := by
  have e := valV_any k kvs
  have t : (kvs.any fun kv => decide (kv.1 = k)) = true := List.any_eq_true.mpr ⟨(k, v), h, decide_eq_true rfl⟩
  rw [t] at e
  exact Option.isSome_iff_exists.mp e.symm
/-- a list that grows behind the pot; its items lie outside it, the pot and X -/
abbrev out3 (H : Hp) (a M X : Addr) : Hp := sans (out2 H a M) X
theorem out3_sm {H H' : Hp} {a M X : Addr} (s : Sm a H H') : Same (out3 H a M X) (out3 H' a M X) := Sm.of (out2_sm s)
structure Grows (K : PySem.W.Frag) (H : Hp) (a M X : Addr) (n : Nat) (G : PyData → Prop) : Prop where
  it : ∃ us es, H M = some (.lst us) ∧ us.length = n ∧ DqAll K (out3 H a M X) us es ∧ ∀ e ∈ es, G e
theorem Grows.sm {K : PySem.W.Frag} {H H' : Hp} {a M X : Addr} {n : Nat} {G : PyData → Prop} (h : Grows K H a M X n G) (ne : M ≠ a) (s : Sm a H H') : Grows K H' a M X n G := by
  obtain ⟨us, es, e, l, d, q⟩ := h.it
  exact ⟨us, es, s.at_ ne e, l, d.mono (out3_sm s), q⟩
theorem Grows.new {K : PySem.W.Frag} {H : Hp} {a M X : Addr} {G : PyData → Prop} (h : H M = some (.lst [])) : Grows K H a M X 0 G := ⟨[], [], h, rfl, .nil, fun _ h => (List.not_mem_nil h).elim⟩
theorem Grows.add {K : PySem.W.Frag} {H : Hp} {a M X : Addr} {n : Nat} {G : PyData → Prop} (h : Grows K H a M X n G) (ne : M ≠ a) {x : V} {d : PyData} (hx : Dq K (out3 H a M X) x d) (hG : G d) :
    ∃ us, H M = some (.lst us) ∧ us.length = n ∧ Grows K (L2.upd H M (.lst (us ++ [x]))) a M X (n + 1) G := by
  obtain ⟨us, es, e, l, dd, q⟩ := h.it
  refine ⟨us, e, l, us ++ [x], es ++ [d], upd_same, by rw [List.length_append, l]; rfl, (dd.append (.cons hx .nil)).mono (Sm.of (out2_upd ne)), fun y hy => ?_⟩
  rcases List.mem_append.mp hy with z | z
  · exact q y z
  · rw [List.mem_singleton.mp z]
    exact hG
/-- a new tuple lies outside them -/
theorem out3_tup {K : PySem.W.Frag} {H : Hp} {a M X p : Addr} {xs : List V} (pa : p ≠ a) (pM : p ≠ M) (pX : p ≠ X) : SqT K (out3 (upd H p (.tup xs)) a M X) p xs := SqT.of (sans_of pX (sans_of pM (sans_of pa upd_same)))
theorem out3_swap {H : Hp} {a M X : Addr} : Same (out3 H a M X) (out3 H a X X) := fun b o e => by
  obtain ⟨n1, e1⟩ := sans_some e
  obtain ⟨n2, e2⟩ := sans_some e1
  exact sans_of n1 (sans_of n1 e2)
theorem out3_in {H : Hp} {a M X : Addr} : Same (out3 H a M X) (sans H a) := Same.trans sans_same sans_same
end Lk
namespace Lk
open PySem PySem.Spec PyProof.Rows L2 G
theorem seqT_out {K : PySem.W.Frag} {H : Hp} {a D : Addr} {xs ys : List V} (h : SqT K H a xs) (hD : H D = some (.lst ys)) : SqT K (sans H D) a xs := by
  rcases h with (h | ⟨o, h⟩) | h
  · exact .inl (.inl (sans_of (fun z => by
      rw [z, hD] at h
      cases h) h))
  · exact .inl (.inr ⟨o, sans_of (fun z => by
      rw [z, hD] at h
      cases h) h⟩)
  · exact .inr h
mutual
/-- data without a list lie outside any list -/
theorem Dq.out {K : PySem.W.Frag} {H : Hp} {D : Addr} {ys : List V} (hD : H D = some (.lst ys)) : ∀ {v : V} {d : PyData}, Dq K H v d → hasList d = false → Dq K (sans H D) v d
  | _, _, .non, _ => .non
  | _, _, .bl b, _ => .bl b
  | _, _, .int i, _ => .int i
  | _, _, .str x, _ => .str x
  | _, _, .lst h t, n => by
    unfold hasList at n
    cases n
  | _, _, .tup h t, n => .tup (seqT_out h hD) (DqAll.out hD t (by
    unfold hasList at n
    exact n))
  | _, _, .emp h, _ => .emp (sans_of (fun z => by
      rw [z, hD] at h
      cases h) h)
theorem DqAll.out {K : PySem.W.Frag} {H : Hp} {D : Addr} {ys : List V} (hD : H D = some (.lst ys)) : ∀ {vs : List V} {ds : List PyData}, DqAll K H vs ds → hasListAll ds = false → DqAll K (sans H D) vs ds
  | _, _, .nil, _ => .nil
  | _, _, .cons h t, n => by
    unfold hasListAll at n
    obtain ⟨n1, n2⟩ := Bool.or_eq_false_iff.mp n
    exact .cons (Dq.out hD h n1) (DqAll.out hD t n2)
end
theorem hasListAll_of : ∀ {ds : List PyData}, (∀ d ∈ ds, hasList d = false) → hasListAll ds = false
  | [], _ => by unfold hasListAll; rfl
  | d :: ds, h => by
    unfold hasListAll
    rw [h d (List.mem_cons_self ..), hasListAll_of fun e he => h e (List.mem_cons_of_mem _ he)]
    rfl
theorem MoveD.flat {z : Str} {n : Nat} {d : PyData} (h : MoveD z n d) : hasList d = false := by
  rcases h with rfl | ⟨a, b, g, rfl, _⟩
  · unfold hasList
    rfl
  · simp [hasList, hasListAll]
theorem StateD.flat {z : Str} {n : Nat} {d : PyData} (h : StateD z n d) : hasList d = false := by
  obtain ⟨ms, l, rfl, _, hm, hl⟩ := h
  have e1 : hasListAll ms = false := hasListAll_of fun d hd => (hm d hd).flat
  have e2 : hasList l = false := by
    rcases hl with rfl | ⟨w, rfl, _⟩ <;> simp [hasList]
  simp [hasList, hasListAll, e1, e2]
theorem ExpD.flat {d : PyData} (h : ExpD d) : hasList d = false := by
  obtain ⟨z, f, ss, rfl, _, _, _, _, hs⟩ := h
  have e1 : hasListAll ss = false := hasListAll_of fun d hd => (hs d hd).flat
  simp [hasList, hasListAll, e1]
end Lk

/-! A text backwards. -/
namespace Lk
open PySem PySem.Spec PyProof.Rows L2
def revS (z : Str) : Str := ⟨z.cps.toList.reverse.toArray⟩
theorem revS_len (z : Str) : (revS z).length = z.length := by
  show (z.cps.toList.reverse.toArray).size = z.cps.size
  simp
theorem rev_picked (z : Str) : ((Builtin.Str.strSliceIndices none none (-1) z.length).filterMap (z.cps[·]?)).toArray = z.cps.toList.reverse.toArray := by
  have e : Builtin.Str.strSliceIndices none none (-1) z.length = sliceRange ((z.cps.size : Int) - 1) (-1) (-1) := rfl
  rw [e, PySem.W.krv_sliceRange, PySem.W.krv_range, List.filterMap_reverse, PySem.W.krv_all]
def tRevS (te : TE) : TE := fun σ H Q => te σ H fun x H1 => ∃ z, x = .str z ∧ z.length ≤ sizeLine ∧ Q (.str (revS z)) H1
section
variable {X : Cx}
theorem pe_revS {e : Expr} {te : TE} {k : Nat} {p1 p2 p3 pos : Pos} (he : PE X e te) : PE X (.Subscript e (.Slice none none (some (.UnaryOp .USub (.Constant (.int 1) k p1) p2)) p3) pos) (tRevS te) := by
  refine ⟨fun pins s σ H Q I h => ?_⟩
  refine Subscript_ (thn (he.run pins s σ H _ I h) fun v s1 ⟨x, H1, I1, r1, q1⟩ => ?_)
  obtain ⟨z, ex, hz, q⟩ := q1
  subst ex
  obtain ⟨t, rfl⟩ := r1
  have hst : PO X (some (.UnaryOp .USub (.Constant (.int 1) k p1) p2)) (tPart (tUn (rU fun i => .int (-i)) (tC (.int 1)))) := po_some (pe_un un_neg pe_int)
  refine wpAny_Slice (thn (po_none.run pins s1 σ H1 (fun o H2 => o = none ∧ H2 = H1) I1 ⟨rfl, rfl⟩) fun vl s2 ⟨l, H2, I2, pl, el, e2⟩ => ?_)
  subst el e2
  refine thn (po_none.run pins s2 σ H2 (fun o H3 => o = none ∧ H3 = H2) I2 ⟨rfl, rfl⟩) fun vu s3 ⟨u, H3, I3, pu, eu, e3⟩ => ?_
  subst eu e3
  refine thn (hst.run pins s3 σ H3 (fun o H4 => o = some (-1) ∧ H4 = H3) I3 ⟨1, rfl, -1, rfl, rfl, rfl⟩) fun vs s4 ⟨o, H4, I4, ps, eo, e4⟩ => ?_
  subst eo e4
  have I5 : Inv X pins σ H4 { s4 with heap := s4.heap.push { cls := .type "slice", data := .fields #[vl, vu, vs] } } := I4.kept (t' := s4.toks) fun b ob q => Heap.get?_push_of_some _ q
  show wpAny (model X.prog X.w) X.A (subscriptTail e (.Slice none none (some (.UnaryOp .USub (.Constant (.int 1) k p1) p2)) p3) (.str z t) (.ref s4.heap.objs.size)) (EP X pins σ Q) X.xe { s4 with heap := s4.heap.push { cls := .type "slice", data := .fields #[vl, vu, vs] } }
  refine tail_any (ops := [.str z t, .ref s4.heap.objs.size]) (typeIs_str _ _ _) (F.slot_str_getitem.lookup) ?_ (by with_unfolding_all rfl)
  obtain ⟨l, rfl, el⟩ := IsPart.raw pl
  obtain ⟨u, rfl, eu⟩ := IsPart.raw pu
  obtain ⟨w, rfl, ew⟩ := IsPart.raw ps
  cases l with
  | some l => cases el
  | none =>
    cases u with
    | some u => cases eu
    | none =>
      cases w with
      | none => cases ew
      | some w =>
        obtain ⟨w, tw⟩ := w
        have e1 : w = -1 := by
          first | exact Option.some.inj ew | exact (Option.some.inj ew).symm
        subst e1
        refine wpAny_getItem_str_slice (l := none) (u := none) (st := some (-1, tw)) ⟨_, Heap.get?_push_size _ rfl, rfl, rfl⟩ rfl ?_
        show Made.post (if ((-1 : Int) == 1 && _) = true then Made.val (.str z t) else Made.str ⟨((Builtin.Str.strSliceIndices none none (-1) z.length).filterMap (z.cps[·]?)).toArray⟩) (EP X pins σ Q) _
        rw [if_neg (by simp), rev_picked]
        exact ⟨by show (revS z).length ≤ sizeLine; rw [revS_len]; exact hz, .str (revS z), H4, I5.tok _, ⟨_, rfl⟩, q⟩
end
end Lk

/-! How large and deep data are; parts and sums of tuples of data behind a pot. -/
namespace Lk
open PySem PySem.Spec PyProof.Rows L2 G
/-- k: without dicts, else without lists; so deep, so heavy at most -/
structure Qk (k : Bool) (n B : Nat) (d : PyData) : Prop where
  leaves : d.leavesShort 13 = true
  shape : d.showable = true
  depth : d.depth ≤ n
  weight : d.weight ≤ B
  noD : k = true → d.hasDict = false
  noL : k = false → hasList d = false
theorem Qk.mono {k : Bool} {n n' B B' : Nat} {d : PyData} (h : Qk k n B d) (hn : n ≤ n') (hB : B ≤ B') : Qk k n' B' d :=
  ⟨h.leaves, h.shape, Nat.le_trans h.depth hn, Nat.le_trans h.weight hB, h.noD, h.noL⟩
theorem Qk.shows {k : Bool} {n B : Nat} {d : PyData} (h : Qk k n B d) (hn : n ≤ 60) (hB : B ≤ 1048576) : Shows d :=
  ⟨h.leaves, Nat.le_trans h.weight hB, h.shape, fun e => by
    cases k with
    | true =>
      rw [h.noD rfl] at e
      cases e
    | false => exact h.noL rfl, Nat.le_trans h.depth hn⟩
theorem Qk.light {k : Bool} {n B : Nat} {d : PyData} (h : Qk k n B d) (hB : B ≤ 1048576) : Light d := Nat.le_trans h.weight hB
section
variable {k : Bool} {n B : Nat} {ds : List PyData}
theorem all_leaves : ∀ {ds : List PyData}, (∀ d ∈ ds, Qk k n B d) → PyData.leavesShortAll 13 ds = true
  | [], _ => by simp [PyData.leavesShortAll]
  | d :: ds, h => by
    simp only [PyData.leavesShortAll]
    rw [(h d (List.mem_cons_self ..)).leaves, all_leaves fun e he => h e (List.mem_cons_of_mem _ he)]
    rfl
theorem all_shape : ∀ {ds : List PyData}, (∀ d ∈ ds, Qk k n B d) → PyData.showableAll ds = true
  | [], _ => by simp [PyData.showableAll]
  | d :: ds, h => by
    simp only [PyData.showableAll]
    rw [(h d (List.mem_cons_self ..)).shape, all_shape fun e he => h e (List.mem_cons_of_mem _ he)]
    rfl
theorem all_depth : ∀ {ds : List PyData}, (∀ d ∈ ds, Qk k n B d) → PyData.depthAll ds ≤ n
  | [], _ => by simp [PyData.depthAll]
  | d :: ds, h => by
    simp only [PyData.depthAll]
    exact Nat.max_le.mpr ⟨(h d (List.mem_cons_self ..)).depth, all_depth fun e he => h e (List.mem_cons_of_mem _ he)⟩
theorem all_weight : ∀ {ds : List PyData}, (∀ d ∈ ds, Qk k n B d) → PyData.weightAll ds ≤ ds.length * (B + 1)
  | [], _ => by simp [PyData.weightAll]
  | d :: ds, h => by
    have h1 := (h d (List.mem_cons_self ..)).weight
    have h2 := all_weight fun e he => h e (List.mem_cons_of_mem _ he)
    simp only [PyData.weightAll]
    rw [List.length_cons, Nat.succ_mul]
    omega
theorem all_noD : ∀ {ds : List PyData}, (∀ d ∈ ds, Qk true n B d) → PyData.hasDictAll ds = false
  | [], _ => by simp [PyData.hasDictAll]
  | d :: ds, h => by
    simp only [PyData.hasDictAll]
    rw [(h d (List.mem_cons_self ..)).noD rfl, all_noD fun e he => h e (List.mem_cons_of_mem _ he)]
    rfl
theorem Qk.tup {B' : Nat} (h : ∀ d ∈ ds, Qk k n B d) (hB : ds.length * (B + 1) ≤ B') : Qk k (n + 1) B' (.tuple ds) where
  leaves := by
    simp only [PyData.leavesShort]
    exact all_leaves h
  shape := by
    simp only [PyData.showable]
    exact all_shape h
  depth := by
    simp only [PyData.depth]
    have := all_depth h
    omega
  weight := by
    simp only [PyData.weight]
    exact Nat.le_trans (all_weight h) hB
  noD := fun e => by
    subst e
    simp only [PyData.hasDict]
    exact all_noD h
  noL := fun e => by
    subst e
    simp only [hasList]
    exact hasListAll_of fun d hd => (h d hd).noL rfl
theorem Qk.lst {B' : Nat} (h : ∀ d ∈ ds, Qk true n B d) (hB : ds.length * (B + 1) ≤ B') : Qk true (n + 1) B' (.list ds) where
  leaves := by
    simp only [PyData.leavesShort]
    exact all_leaves h
  shape := by
    simp only [PyData.showable]
    exact all_shape h
  depth := by
    simp only [PyData.depth]
    have := all_depth h
    omega
  weight := by
    simp only [PyData.weight]
    exact Nat.le_trans (all_weight h) hB
  noD := fun _ => by
    simp only [PyData.hasDict]
    exact all_noD h
  noL := fun e => by cases e
end
theorem Qk.str {k : Bool} {n B : Nat} {z : Str} (h1 : z.length ≤ B) (h2 : ∀ c ∈ z.cps.toList, c < 1000) : Qk k n B (.str z) where
  leaves := by
    simp only [PyData.leavesShort]
    rw [List.all_eq_true]
    intro c hc
    exact decide_eq_true (Nat.lt_trans (h2 c hc) (by decide))
  shape := by simp only [PyData.showable]
  depth := by simp only [PyData.depth]; exact Nat.zero_le _
  weight := by simp only [PyData.weight]; exact h1
  noD := fun _ => by simp only [PyData.hasDict]
  noL := fun _ => by simp only [hasList]
theorem Qk.none {k : Bool} {n B : Nat} : Qk k n B .none where
  leaves := by simp only [PyData.leavesShort]
  shape := by simp only [PyData.showable]
  depth := by simp only [PyData.depth]; exact Nat.zero_le _
  weight := by simp only [PyData.weight]; exact Nat.zero_le _
  noD := fun _ => by simp only [PyData.hasDict]
  noL := fun _ => by simp only [hasList]
theorem Qk.bool {k : Bool} {n B : Nat} (b : Bool) : Qk k n B (.bool b) where
  leaves := by simp only [PyData.leavesShort]
  shape := by simp only [PyData.showable]
  depth := by simp only [PyData.depth]; exact Nat.zero_le _
  weight := by simp only [PyData.weight]; exact Nat.zero_le _
  noD := fun _ => by simp only [PyData.hasDict]
  noL := fun _ => by simp only [hasList]
theorem Qk.int {k : Bool} {n B : Nat} {i : Int} (h1 : -1 ≤ i) (h2 : i ≤ 4) (hB : 3 ≤ B) : Qk k n B (.int i) := by
  have all : i = -1 ∨ i = 0 ∨ i = 1 ∨ i = 2 ∨ i = 3 ∨ i = 4 := by omega
  have go : ∀ j : Int, (PyData.int j).leavesShort 13 = true → (PyData.int j).showable = true → (PyData.int j).weight ≤ 3 → Qk k n B (.int j) := fun j a b c =>
    ⟨a, b, by simp only [PyData.depth]; exact Nat.zero_le _, Nat.le_trans c hB, fun _ => by simp only [PyData.hasDict], fun _ => by simp only [hasList]⟩
  rcases all with rfl | rfl | rfl | rfl | rfl | rfl
  all_goals exact go _ (by unfold PyData.leavesShort; decide +kernel) (by unfold PyData.showable; decide +kernel) (by unfold PyData.weight; decide +kernel)
theorem Qk.emp {n B : Nat} (hn : 1 ≤ n) : Qk false n B (.dict []) where
  leaves := by unfold PyData.leavesShort PyData.leavesShortKv; rfl
  shape := by unfold PyData.showable PyData.showableKv; rfl
  depth := by unfold PyData.depth PyData.depthKv; exact hn
  weight := by unfold PyData.weight PyData.weightKv; exact Nat.zero_le _
  noD := fun e => by cases e
  noL := fun _ => by unfold hasList; rfl
/-- drawn parts are light -/
theorem WordOf.q {k : Bool} {n B m : Nat} {z w : Str} (h : WordOf z w m) (hz : ∀ c ∈ z.cps.toList, c < 1000) (hB : m ≤ B) : Qk k n B (.str w) := Qk.str (Nat.le_trans h.1 hB) fun c hc => hz c (h.2 c hc)
theorem MoveD.q {k : Bool} {z : Str} {m : Nat} {d : PyData} (h : MoveD z m d) (hz : ∀ c ∈ z.cps.toList, c < 1000) (hm : m ≤ 4) : Qk k 1 12 d := by
  rcases h with rfl | ⟨a, b, g, rfl, ha, hb, hg⟩
  · exact .none
  · refine Qk.tup (n := 0) (B := 3) (fun d hd => ?_) (by show 3 * 4 ≤ 12; decide)
    simp only [List.mem_cons, List.not_mem_nil, or_false] at hd
    rcases hd with rfl | rfl | rfl
    · exact ha.q hz (Nat.le_refl _)
    · exact hb.q hz (Nat.le_refl _)
    · exact .int (by omega) (by omega) (Nat.le_refl _)
theorem StateD.parts {k : Bool} {z : Str} {m : Nat} {ms : List PyData} {l : PyData} (h : StateD z m (.tuple [.tuple ms, l])) (hz : ∀ c ∈ z.cps.toList, c < 1000) (hm : m ≤ 4) :
    ms.length = z.length ∧ (∀ d ∈ ms, Qk k 1 12 d) ∧ Qk k 2 52 l := by
  obtain ⟨ms', l', e, h1, h2, h3⟩ := h
  injection e with e
  injection e with e1 e
  injection e with e2 _
  injection e1 with e1
  subst e1 e2
  refine ⟨h1, fun d hd => (h2 d hd).q hz hm, ?_⟩
  rcases h3 with rfl | ⟨w, rfl, hw⟩
  · exact .none
  · exact hw.q hz (by decide)
theorem StateD.q {k : Bool} {z : Str} {m : Nat} {d : PyData} (h : StateD z m d) (hz : ∀ c ∈ z.cps.toList, c < 1000) (hz4 : z.length ≤ 4) (hm : m ≤ 4) : Qk k 3 106 d := by
  obtain ⟨ms, l, rfl, _⟩ := id h
  obtain ⟨h1, h2, h3⟩ := h.parts (k := k) hz hm
  refine Qk.tup (n := 2) (B := 52) (fun d hd => ?_) (by show 2 * 53 ≤ 106; decide)
  simp only [List.mem_cons, List.not_mem_nil, or_false] at hd
  rcases hd with rfl | rfl
  · exact Qk.tup h2 (by rw [h1]; omega)
  · exact h3
end Lk
namespace Lk
open PySem PySem.Spec PyProof.Rows L2 G
theorem new_tup {K : PySem.W.Frag} {H : Hp} {a c p : Addr} {xs : List V} {ds : List PyData} (hp : PotAt H a c) (np : H p = none) (h : DqAll K (sans H a) xs ds) : Dq K (sans (upd H p (.tup xs)) a) (.ref p) (.tuple ds) :=
  .tup (SqT.of (sans_of (hp.ne np) upd_same)) (h.mono (Sm.new np))
theorem new_lst {K : PySem.W.Frag} {H : Hp} {a c p : Addr} {xs : List V} {ds : List PyData} (hp : PotAt H a c) (np : H p = none) (h : DqAll K (sans H a) xs ds) : Dq K (sans (upd H p (.lst xs)) a) (.ref p) (.list ds) :=
  .lst (SqL.of (sans_of (hp.ne np) upd_same)) (h.mono (Sm.new np))
theorem new_emp {K : PySem.W.Frag} {H : Hp} {a c p : Addr} (hp : PotAt H a c) (np : H p = none) : Dq K (sans (upd H p (.dK [])) a) (.ref p) (.dict []) :=
  .emp (sans_of (hp.ne np) upd_same)
theorem DqAll.nil_iff {K : PySem.W.Frag} {H : Hp} {xs : List V} {ds : List PyData} (h : DqAll K H xs ds) : xs = [] ↔ ds = [] := by
  cases h <;> simp
/-- t + u -/
theorem catP {K : PySem.W.Frag} {H : Hp} {a c : Addr} {x y : V} {ds es : List PyData} {Q : VK} (hp : PotAt H a c) (hx : Dq K (sans H a) x (.tuple ds)) (hy : Dq K (sans H a) y (.tuple es)) (hz : ds.length + es.length ≤ 100000)
    (q : ∀ (H' : Hp) (v : V), Same H H' → Dq K (sans H' a) v (.tuple (ds ++ es)) → Q v H') : rCatA K x y H Q := by
  obtain ⟨p, xs, rfl, h1, h2⟩ := hx.items
  obtain ⟨r, ys, rfl, h3, h4⟩ := hy.items
  refine ⟨p, r, xs, ys, rfl, rfl, seqT sans_same h1, seqT sans_same h3, ?_, fun e => ?_, fun e1 e2 => ?_, fun _ _ u nu => ?_⟩
  · rw [h2.length, h4.length]
    exact Nat.le_trans hz (by decide)
  · have e' := h2.nil_iff.mp e
    subst e'
    exact q H _ (Same.refl H) hy
  · have e' := h4.nil_iff.mp e2
    subst e'
    rw [List.append_nil] at q
    exact q H _ (Same.refl H) hx
  · exact q _ _ (same_new nu) (new_tup hp nu (h2.append h4))
theorem cutV_from (xs : List V) (n : Nat) : cutV xs (some (n : Int)) none = xs.drop n := by
  unfold cutV
  rw [HT.sIx_nat, HT.sIx_none]
  by_cases h : n ≤ xs.length
  · rw [Nat.min_eq_left h, List.take_of_length_le (by rw [List.length_drop] <;> omega)]
  · rw [Nat.min_eq_right (by omega), List.drop_eq_nil_of_le (Nat.le_refl _), List.drop_eq_nil_of_le (by omega), List.take_nil]
/-- t[:n], t[n:] -/
theorem slTo {K : PySem.W.Frag} {H : Hp} {a c : Addr} {x : V} {ds : List PyData} {n : Nat} {Q : VK} (hp : PotAt H a c) (hx : Dq K (sans H a) x (.tuple ds))
    (q : ∀ (H' : Hp) (v : V), Same H H' → Dq K (sans H' a) v (.tuple (ds.take n)) → Q v H') : rSlA K x none (some (n : Int)) H Q := by
  obtain ⟨p, xs, rfl, h1, h2⟩ := hx.items
  refine ⟨p, xs, rfl, seqT sans_same h1, fun e => ?_, fun _ u nu => ?_⟩
  · have e2 := e.2
    rw [HT.sIx_nat] at e2
    have e3 : ds.take n = ds := List.take_of_length_le (by rw [← h2.length]; omega)
    rw [e3] at q
    exact q H _ (Same.refl H) hx
  · rw [cutV_to]
    exact q _ _ (same_new nu) (new_tup hp nu (h2.take n))
theorem slFrom {K : PySem.W.Frag} {H : Hp} {a c : Addr} {x : V} {ds : List PyData} {n : Nat} {Q : VK} (hp : PotAt H a c) (hx : Dq K (sans H a) x (.tuple ds))
    (q : ∀ (H' : Hp) (v : V), Same H H' → Dq K (sans H' a) v (.tuple (ds.drop n)) → Q v H') : rSlA K x (some (n : Int)) none H Q := by
  obtain ⟨p, xs, rfl, h1, h2⟩ := hx.items
  refine ⟨p, xs, rfl, seqT sans_same h1, fun e => ?_, fun _ u nu => ?_⟩
  · have e1 := e.1
    rw [HT.sIx_nat] at e1
    have e3 : ds.drop n = ds := by
      by_cases z : n = 0
      · rw [z]
        rfl
      · have l : ds.length = 0 := by rw [← h2.length]; omega
        rw [List.eq_nil_of_length_eq_zero l, List.drop_nil]
    rw [e3] at q
    exact q H _ (Same.refl H) hx
  · rw [cutV_from]
    exact q _ _ (same_new nu) (new_tup hp nu (h2.drop n))
theorem DqAll.reps {K : PySem.W.Frag} {H : Hp} {xs : List V} {ds : List PyData} (h : DqAll K H xs ds) : ∀ n, DqAll K H (List.replicate n xs).flatten (List.replicate n ds).flatten
  | 0 => .nil
  | n + 1 => by
    rw [List.replicate_succ, List.flatten_cons, List.replicate_succ, List.flatten_cons]
    exact h.append (h.reps n)
/-- t * n -/
theorem repP {K : PySem.W.Frag} {H : Hp} {a c : Addr} {x : V} {ds : List PyData} {n : Nat} {Q : VK} (hp : PotAt H a c) (hx : Dq K (sans H a) x (.tuple ds)) (h0 : ds ≠ []) (h1 : ds.length ≤ 1000) (n2 : 2 ≤ n) (n3 : n ≤ 1000)
    (q : ∀ (H' : Hp) (v : V), Same H H' → Dq K (sans H' a) v (.tuple (List.replicate n ds).flatten) → Q v H') : rRepT K x (.int (n : Int)) H Q := by
  obtain ⟨p, xs, rfl, h2, h3⟩ := hx.items
  refine ⟨p, (n : Int), xs, rfl, rfl, seqT sans_same h2, fun e => h0 (h3.nil_iff.mp e), by omega, by omega, by rw [h3.length]; exact h1, fun u nu => ?_⟩
  rw [Int.toNat_natCast]
  exact q _ _ (same_new nu) (new_tup hp nu (h3.reps n))
end Lk
namespace Lk
open PySem PySem.Spec PyProof.Rows L2 G
theorem DqAll.mem {K : PySem.W.Frag} {H : Hp} : ∀ {xs : List V} {ds : List PyData} {x : V}, DqAll K H xs ds → x ∈ xs → ∃ d ∈ ds, Dq K H x d
  | _, _, _, .nil, h => (List.not_mem_nil h).elim
  | _, _, _, .cons h t, m => by
    rcases List.mem_cons.mp m with z | z
    · rw [z]
      exact ⟨_, List.mem_cons_self .., h⟩
    · obtain ⟨d, hd, q⟩ := DqAll.mem t z
      exact ⟨d, List.mem_cons_of_mem _ hd, q⟩
/-- one more item, in a heap that has grown -/
theorem DqAll.more {K : PySem.W.Frag} {H H' : Hp} {a : Addr} {xs : List V} {ds : List PyData} {x : V} {d : PyData} (h : DqAll K (sans H a) xs ds) (s : Same H H') (hx : Dq K (sans H' a) x d) : DqAll K (sans H' a) (xs ++ [x]) (ds ++ [d]) :=
  (h.mono (Sm.of s)).append (.cons hx .nil)
/-- some size or other -/
def Bad (n B : Nat) (d : PyData) : Prop := ∃ k, Qk k n B d
theorem Bad.of {k : Bool} {n B n' B' : Nat} {d : PyData} (h : Qk k n B d) (hn : n ≤ n') (hB : B ≤ B') : Bad n' B' d := ⟨k, h.mono hn hB⟩
def odds : List PyData := [.none, .int 0, .str "A", .str "ab c", .list [.str "a"], .tuple [.str "a"], .bool true, .str "y", .str (repS "a" 2001), .str "", .dict []]
theorem odds_bad : ∀ d ∈ odds, Bad 1 2001 d := by
  intro d hd
  have sa : ∀ k : Bool, ∀ e ∈ [PyData.str "a"], Qk k 0 1 e := fun k e he => by
    rw [List.mem_singleton.mp he]
    exact .str (by decide) (by decide +kernel)
  simp only [odds, List.mem_cons, List.not_mem_nil, or_false] at hd
  rcases hd with rfl | rfl | rfl | rfl | rfl | rfl | rfl | rfl | rfl | rfl | rfl
  · exact ⟨true, .none⟩
  · exact ⟨true, .int (by decide) (by decide) (by decide)⟩
  · exact ⟨true, .str (by decide) (by decide +kernel)⟩
  · exact ⟨true, .str (by decide) (by decide +kernel)⟩
  · exact ⟨true, (Qk.lst (sa true) (Nat.le_refl _)).mono (Nat.le_refl _) (by decide)⟩
  · exact ⟨true, (Qk.tup (sa true) (Nat.le_refl _)).mono (Nat.le_refl _) (by decide)⟩
  · exact ⟨true, .bool true⟩
  · exact ⟨true, .str (by decide) (by decide +kernel)⟩
  · refine ⟨true, .str (by rw [repS_len]; decide) fun c hc => ?_⟩
    have all : ∀ c ∈ ("a" : Str).cps.toList, c < 1000 := by decide +kernel
    exact all c (rep_mem hc)
  · exact ⟨true, .str (by decide) (by decide +kernel)⟩
  · exact ⟨false, .emp (Nat.le_refl _)⟩
end Lk
namespace Lk
open PySem PySem.Spec PyProof.Rows L2 G
theorem tup3 {k : Bool} {n B B' : Nat} {x y w : PyData} (hx : Qk k n B x) (hy : Qk k n B y) (hw : Qk k n B w) (hB : 3 * (B + 1) ≤ B') : Qk k (n + 1) B' (.tuple [x, y, w]) := by
  refine Qk.tup (n := n) (B := B) (fun d hd => ?_) hB
  simp only [List.mem_cons, List.not_mem_nil, or_false] at hd
  rcases hd with rfl | rfl | rfl
  · exact hx
  · exact hy
  · exact hw
theorem tup2 {k : Bool} {n B B' : Nat} {x y : PyData} (hx : Qk k n B x) (hy : Qk k n B y) (hB : 2 * (B + 1) ≤ B') : Qk k (n + 1) B' (.tuple [x, y]) := by
  refine Qk.tup (n := n) (B := B) (fun d hd => ?_) hB
  simp only [List.mem_cons, List.not_mem_nil, or_false] at hd
  rcases hd with rfl | rfl
  · exact hx
  · exact hy
theorem tup0 {k : Bool} {n B : Nat} : Qk k (n + 1) B (.tuple []) := Qk.tup (n := n) (B := B) (fun d hd => (List.not_mem_nil hd).elim) (by show 0 * _ ≤ _; omega)
theorem Bad.k {k : Bool} {n B : Nat} {d : PyData} (h : Qk k n B d) : Bad n B d := ⟨k, h⟩
theorem str_small {k : Bool} {n B : Nat} {z : Str} (h1 : z.length ≤ B) (h2 : ∀ c ∈ z.cps.toList, c < 1000) : Qk k n B (.str z) := Qk.str h1 h2
end Lk
namespace Lk
open PySem PySem.Spec PyProof.Rows L2 G
/-- the first item of a tuple of data -/
theorem Dq.head {K : PySem.W.Frag} {H : Hp} {x : V} {d : PyData} {ds : List PyData} (h : Dq K H x (.tuple (d :: ds))) : ∃ p y ys, x = .ref p ∧ SqT K H p (y :: ys) ∧ Dq K H y d := by
  obtain ⟨p, xs, rfl, h1, h2⟩ := h.items
  obtain ⟨y, ys, rfl, hy, _⟩ := h2.one
  exact ⟨p, y, ys, rfl, h1, hy⟩
/-- an item in the middle of a tuple put in -/
theorem mid_bad {k : Bool} {n B : Nat} {ds es : List PyData} {x d : PyData} (h1 : ∀ e ∈ ds, Qk k n B e) (h2 : ∀ e ∈ es, Qk k n B e) (hx : Qk k n B x) (h : d ∈ ds ++ [x] ++ es) : Qk k n B d := by
  rcases List.mem_append.mp h with h | h
  · rcases List.mem_append.mp h with h | h
    · exact h1 d h
    · rw [List.mem_singleton.mp h]
      exact hx
  · exact h2 d h
end Lk
namespace Lk
open PySem PySem.Spec PyProof.Rows L2 G
theorem repI {K : PySem.W.Frag} {H : Hp} {a c : Addr} {x : V} {ds : List PyData} {m : Int} {Q : VK} (n : Nat) (hm : (n : Int) = m) (hp : PotAt H a c) (hx : Dq K (sans H a) x (.tuple ds)) (h0 : ds ≠ []) (h1 : ds.length ≤ 1000) (n2 : 2 ≤ n) (n3 : n ≤ 1000)
    (q : ∀ (H' : Hp) (v : V), Same H H' → Dq K (sans H' a) v (.tuple (List.replicate n ds).flatten) → Q v H') : rRepT K x (.int m) H Q := by
  subst hm
  exact repP hp hx h0 h1 n2 n3 q
end Lk
namespace Lk
open PySem PySem.Spec PyProof.Rows L2 G
theorem slFromI {K : PySem.W.Frag} {H : Hp} {a c : Addr} {x : V} {ds : List PyData} {m : Int} {Q : VK} (n : Nat) (hm : (n : Int) = m) (hp : PotAt H a c) (hx : Dq K (sans H a) x (.tuple ds))
    (q : ∀ (H' : Hp) (v : V), Same H H' → Dq K (sans H' a) v (.tuple (ds.drop n)) → Q v H') : rSlA K x (some m) none H Q := by
  subst hm
  exact slFrom hp hx q
theorem slToI {K : PySem.W.Frag} {H : Hp} {a c : Addr} {x : V} {ds : List PyData} {m : Int} {Q : VK} (n : Nat) (hm : (n : Int) = m) (hp : PotAt H a c) (hx : Dq K (sans H a) x (.tuple ds))
    (q : ∀ (H' : Hp) (v : V), Same H H' → Dq K (sans H' a) v (.tuple (ds.take n)) → Q v H') : rSlA K x none (some m) H Q := by
  subst hm
  exact slTo hp hx q
end Lk
namespace Lk
theorem or_ways {c : Bool} {A R : Prop} (r : A) (h : A → R) : if c = true then A else R := by
  cases c with
  | true => exact r
  | false => exact h r
end Lk
namespace Lk
open PySem PySem.Spec PyProof.Rows L2 G
theorem DqAll.set {K : PySem.W.Frag} {H : Hp} {x : V} {d : PyData} (hx : Dq K H x d) : ∀ {xs : List V} {ds : List PyData} (i : Nat), DqAll K H xs ds → DqAll K H (xs.set i x) (ds.set i d)
  | _, _, _, .nil => .nil
  | _, _, 0, .cons _ t => .cons hx t
  | _, _, i + 1, .cons h t => .cons h (t.set hx i)
end Lk

/-! A tuple times a number from 1 on. -/
namespace Lk
open PySem PySem.Spec PyProof.Rows L2 G
theorem tuple_mul1 (l : Addr) (items : Array Value) (n : Nat) (sl : Array (Option Value)) (dd : Option Addr) (u : Tok) :
    Meets (Builtin.«tuple.__mul__» ⟨[.ref l, .int 1 u], []⟩) (fun _ R s => s.heap.get? l = some { cls := .type "tuple", dict := dd, data := .seq items n, slots := sl } ∧
      R (.ok (.ret (Value.ref l))) s) :=
  .of_wp fun prog w A R s h => by
    obtain ⟨hp, g, d, tk, os⟩ := s
    obtain ⟨hl, h⟩ := h
    have f1 := AutoSeq1.idx_int
    wp_walk using wpAny_loadPart' hl
    exact ⟨_, rfl, h⟩
def rRepU (K : PySem.W.Frag) : R2 := fun x y H Q => ∃ l k xs, x = .ref l ∧ y = .int k ∧ SqT K H l xs ∧ xs ≠ [] ∧ 1 ≤ k ∧ k ≤ 1000 ∧ xs.length ≤ 1000 ∧ (k = 1 → Q (.ref l) H) ∧ (2 ≤ k → ∀ p, H p = none → Q (.ref p) (upd H p (.tup (List.replicate k.toNat xs).flatten)))
section
variable {X : Cx}
theorem op_repU : OpR X (binaryOp .Mult) (rRepU X.K) := by
  intro pins s σ H x y v u Q I rx ry h
  obtain ⟨l, k, xs, rfl, rfl, hT, hne, h1, h2, hz, q1, q2⟩ := h
  by_cases hk : k = 1
  · subst hk
    cases rx
    obtain ⟨t, rfl⟩ := ry
    obtain ⟨its, r, ⟨⟨cls, dd, data, sl⟩, ho, hc, n, hd⟩, hs⟩ := I.tuple hT
    simp only at hc hd
    subst hc hd
    refine wpAny_binaryOp_repeat_ref (T := "tuple") (U := "int") (by decide) ⟨_, ho, rfl⟩ (fun s' => typeIs_int s' 1 t) noFill_tuple_mul F.fills_int_mul F.slot_int_rmul repeat_tuple F.slot_int_index.lookup
      (call_meets F.slot_int_rmul (typeIs_int s 1 t) F.entry_int_rmul (F.args_int_rmul_2 _ _) (int_rmul_tuple 1 t l its.toArray n dd sl)
        ⟨ho, rfl, ⟨_, ho, rfl⟩, call_meets F.slot_tuple_mul ⟨_, ho, rfl⟩ F.entry_tuple_mul (F.args_tuple_mul_2 _ _) (tuple_mul1 l its.toArray n sl dd t) ⟨ho, ?_⟩⟩)
    exact ⟨.ref l, H, I, rfl, q1 rfl⟩
  · exact op_repT pins s σ H _ _ v u Q I rx ry ⟨l, k, xs, rfl, rfl, hT, hne, by omega, h2, hz, q2 (by omega)⟩
end
/-- t * n, n from 1 on -/
theorem repU {K : PySem.W.Frag} {H : Hp} {a c : Addr} {x : V} {ds : List PyData} {m : Int} {Q : VK} (n : Nat) (hm : (n : Int) = m) (hp : PotAt H a c) (hx : Dq K (sans H a) x (.tuple ds)) (h0 : ds ≠ []) (h1 : ds.length ≤ 1000) (n1 : 1 ≤ n) (n3 : n ≤ 1000)
    (q : ∀ (H' : Hp) (v : V), Same H H' → Dq K (sans H' a) v (.tuple (List.replicate n ds).flatten) → Q v H') : rRepU K x (.int m) H Q := by
  subst hm
  obtain ⟨p, xs, rfl, h2, h3⟩ := hx.items
  refine ⟨p, (n : Int), xs, rfl, rfl, seqT sans_same h2, fun e => h0 (h3.nil_iff.mp e), by omega, by omega, by rw [h3.length]; exact h1, fun e => ?_, fun _ u nu => ?_⟩
  · obtain rfl : n = 1 := by omega
    rw [List.replicate_one, List.flatten_cons, List.flatten_nil, List.append_nil] at q
    exact q H _ (Same.refl H) hx
  · rw [Int.toNat_natCast]
    exact q _ _ (same_new nu) (new_tup hp nu (h3.reps n))
theorem rep_mem' {α : Type} {n : Nat} {l : List α} {x : α} (h : x ∈ (List.replicate n l).flatten) : x ∈ l := by
  obtain ⟨k, hk, hx⟩ := List.mem_flatten.mp h
  rw [(List.mem_replicate.mp hk).2] at hx
  exact hx
theorem rep_len {α : Type} {n : Nat} {l : List α} : (List.replicate n l).flatten.length = n * l.length := by
  rw [List.length_flatten, List.map_replicate, List.sum_replicate_nat]
end Lk
namespace Lk
open PySem PySem.Spec PyProof.Rows L2 G
/-- a pick from a new list of data -/
theorem pick_new {K : PySem.W.Frag} {H : Hp} {a c l : Addr} {xs : List V} {ds : List PyData} {Q : VK} (hp : Pot K H a c) (nl : H l = none) (h : DqAll K (sans H a) xs ds) (h0 : ds ≠ []) (h1 : ds.length < 1073741824)
    (q : ∀ (H' : Hp) (x : V) (d : PyData), Sm a H H' → Pot K H' a c → d ∈ ds → Dq K (sans H' a) x d → Q x H') : spPick K [.ref a, .ref l] (upd H l (.lst xs)) Q E0 := by
  refine ⟨a, c, .ref l, xs, rfl, hp.new nl, fun e => h0 (h.nil_iff.mp e), .inl ⟨l, rfl, SqL.of (sans_of (hp.ne nl) upd_same)⟩, by rw [h.length]; exact h1, fun H' x sm hp' hx => ?_⟩
  obtain ⟨d, hd, hq⟩ := h.mem hx
  have s : Sm a H H' := (Sm.new nl).trans sm
  exact q H' x d s hp' hd (hq.mono s)
/-- a text of data -/
def Txt (n : Nat) (z : Str) : Prop := z.length ≤ n ∧ ∀ c ∈ z.cps.toList, c < 1000
theorem Txt.q {k : Bool} {m n B : Nat} {z : Str} (h : Txt n z) (hB : n ≤ B) : Qk k m B (.str z) := .str (Nat.le_trans h.1 hB) h.2
theorem Txt.line {n : Nat} {z : Str} (h : Txt n z) (hn : n ≤ 1000000) : z.length ≤ sizeLine := Nat.le_trans h.1 (Nat.le_trans hn (by decide))
theorem txt_empty (n : Nat) : Txt n "" := ⟨Nat.zero_le _, fun c h => by cases h⟩
theorem Txt.rep {n m : Nat} {z : Str} (h : Txt n z) {B : Nat} (hB : m * n ≤ B) : Txt B (repS z m) := ⟨by
  rw [repS_len]
  exact Nat.le_trans (Nat.mul_le_mul (Nat.le_refl _) h.1) hB, fun c hc => h.2 c (rep_mem hc)⟩
end Lk
namespace Lk
open PySem PySem.Spec PyProof.Rows L2 G
/-- a new tuple of data behind the pot, the heap by a name -/
theorem tupK {K : PySem.W.Frag} {H : Hp} {a c p : Addr} {xs : List V} {ds : List PyData} (hp : Pot K H a c) (np : H p = none) (h : DqAll K (sans H a) xs ds) :
    ∃ H', H' = upd H p (.tup xs) ∧ Same H H' ∧ Dq K (sans H' a) (.ref p) (.tuple ds) ∧ Pot K H' a c := ⟨_, rfl, same_new np, new_tup hp.at_ np h, hp.new np⟩
theorem lstK {K : PySem.W.Frag} {H : Hp} {a c p : Addr} {xs : List V} {ds : List PyData} (hp : Pot K H a c) (np : H p = none) (h : DqAll K (sans H a) xs ds) :
    ∃ H', H' = upd H p (.lst xs) ∧ Same H H' ∧ Dq K (sans H' a) (.ref p) (.list ds) ∧ Pot K H' a c ∧ H' p = some (.lst xs) := ⟨_, rfl, same_new np, new_lst hp.at_ np h, hp.new np, upd_same⟩
theorem empK {K : PySem.W.Frag} {H : Hp} {a c p : Addr} (hp : Pot K H a c) (np : H p = none) :
    ∃ H', H' = upd H p (.dK []) ∧ Same H H' ∧ Dq K (sans H' a) (.ref p) (.dict []) ∧ Pot K H' a c := ⟨_, rfl, same_new np, new_emp hp.at_ np, hp.new np⟩
end Lk

namespace K02
open PySem PySem.Spec PyProof.Rows L2 G Lk
/-! ### the text by places -/
def top (i : Nat) : Stmt := PySem.Challenge.pw_rescans_k02_expanders_recognized.main.body.getD i (.Pass ⟨0, 0, 0, 0⟩)
abbrev s_is_word : Stmt := top 1
abbrev N_is_word : List Str := ["signs", "thing"]
theorem sc_is_word : FnScope N_is_word ["signs", "thing"] (defScope s_is_word) := ⟨rfl, rfl, rfl, by decide +kernel, rfl, by decide +kernel, by decide +kernel⟩
abbrev s_is_expander : Stmt := top 7
abbrev N_is_expander : List Str := ["thing", "signs", "first", "states"]
theorem sc_is_expander : FnScope N_is_expander ["thing"] (defScope s_is_expander) := ⟨rfl, rfl, rfl, by decide +kernel, rfl, by decide +kernel, by decide +kernel⟩
abbrev s_is_number : Stmt := top 8
abbrev N_is_number : List Str := ["many", "thing"]
theorem sc_is_number : FnScope N_is_number ["many", "thing"] (defScope s_is_number) := ⟨rfl, rfl, rfl, by decide +kernel, rfl, by decide +kernel, by decide +kernel⟩
abbrev s_is_whole : Stmt := top 9
abbrev N_is_whole : List Str := ["thing"]
theorem sc_is_whole : FnScope N_is_whole ["thing"] (defScope s_is_whole) := ⟨rfl, rfl, rfl, by decide +kernel, rfl, by decide +kernel, by decide +kernel⟩
abbrev s_are_signs : Stmt := top 10
abbrev N_are_signs : List Str := ["thing"]
theorem sc_are_signs : FnScope N_are_signs ["thing"] (defScope s_are_signs) := ⟨rfl, rfl, rfl, by decide +kernel, rfl, by decide +kernel, by decide +kernel⟩
abbrev s_is_short_word : Stmt := top 11
abbrev N_is_short_word : List Str := ["signs", "thing"]
theorem sc_is_short_word : FnScope N_is_short_word ["signs", "thing"] (defScope s_is_short_word) := ⟨rfl, rfl, rfl, by decide +kernel, rfl, by decide +kernel, by decide +kernel⟩
abbrev s_are_states : Stmt := top 12
abbrev N_are_states : List Str := ["signs", "thing", "state"]
theorem sc_are_states : FnScope N_are_states ["signs", "thing"] (defScope s_are_states) := ⟨rfl, rfl, rfl, by decide +kernel, rfl, by decide +kernel, by decide +kernel⟩
abbrev s_is_state : Stmt := top 13
abbrev N_is_state : List Str := ["signs", "many", "thing", "moves", "last", "move"]
theorem sc_is_state : FnScope N_is_state ["signs", "many", "thing"] (defScope s_is_state) := ⟨rfl, rfl, rfl, by decide +kernel, rfl, by decide +kernel, by decide +kernel⟩
abbrev s_is_move : Stmt := top 14
abbrev N_is_move : List Str := ["signs", "many", "thing", "done", "back", "goal"]
theorem sc_is_move : FnScope N_is_move ["signs", "many", "thing"] (defScope s_is_move) := ⟨rfl, rfl, rfl, by decide +kernel, rfl, by decide +kernel, by decide +kernel⟩
abbrev s_Lkneaded : Stmt := top 16
abbrev N_Lkneaded : List Str := ["seed", "lap", "prime", "amount", "again"]
theorem sc_Lkneaded : FnScope N_Lkneaded ["seed", "lap"] (defScope s_Lkneaded) := ⟨rfl, rfl, rfl, by decide +kernel, rfl, by decide +kernel, by decide +kernel⟩
abbrev s_Lpot_of : Stmt := top 17
abbrev N_Lpot_of : List Str := ["script", "cells", "place", "cell"]
theorem sc_Lpot_of : FnScope N_Lpot_of ["script"] (defScope s_Lpot_of) := ⟨rfl, rfl, rfl, by decide +kernel, rfl, by decide +kernel, by decide +kernel⟩
abbrev s_Lbelow : Stmt := top 18
abbrev N_Lbelow : List Str := ["pot", "bound", "found", "amount", "cells", "place"]
theorem sc_Lbelow : FnScope N_Lbelow ["pot", "bound"] (defScope s_Lbelow) := ⟨rfl, rfl, rfl, by decide +kernel, rfl, by decide +kernel, by decide +kernel⟩
abbrev s_Lpick : Stmt := top 19
abbrev N_Lpick : List Str := ["pot", "items"]
theorem sc_Lpick : FnScope N_Lpick ["pot", "items"] (defScope s_Lpick) := ⟨rfl, rfl, rfl, by decide +kernel, rfl, by decide +kernel, by decide +kernel⟩
abbrev s_Lsome_word : Stmt := top 20
abbrev N_Lsome_word : List Str := ["pot", "signs", "limit", "lap"]
theorem sc_Lsome_word : FnScope N_Lsome_word ["pot", "signs", "limit"] (defScope s_Lsome_word) := ⟨rfl, rfl, rfl, by decide +kernel, rfl, by decide +kernel, by decide +kernel⟩
abbrev s_Lsome_expander : Stmt := top 21
abbrev N_Lsome_expander : List Str := ["pot", "many", "signs", "state", "found", "spans", "count", "kind", "states", "moves", "sign", "last", "back", "done", "move", "call"]
theorem sc_Lsome_expander : FnScope N_Lsome_expander ["pot", "many"] (defScope s_Lsome_expander) := ⟨rfl, rfl, rfl, by decide +kernel, rfl, by decide +kernel, by decide +kernel⟩
abbrev s_Lplainer : Stmt := top 22
abbrev N_Lplainer : List Str := ["state", "move"]
theorem sc_Lplainer : FnScope N_Lplainer ["state"] (defScope s_Lplainer) := ⟨rfl, rfl, rfl, by decide +kernel, rfl, by decide +kernel, by decide +kernel⟩
abbrev s_Lcalls : Stmt := top 23
abbrev N_Lcalls : List Str := ["expander", "found", "state", "sign"]
theorem sc_Lcalls : FnScope N_Lcalls ["expander"] (defScope s_Lcalls) := ⟨rfl, rfl, rfl, by decide +kernel, rfl, by decide +kernel, by decide +kernel⟩
abbrev s_Lsizes : Stmt := top 24
abbrev N_Lsizes : List Str := ["expander", "found", "lap", "state", "sign", "move", "one", "size", "here", "more"]
theorem sc_Lsizes : FnScope N_Lsizes ["expander"] (defScope s_Lsizes) := ⟨rfl, rfl, rfl, by decide +kernel, rfl, by decide +kernel, by decide +kernel⟩
abbrev s_Lis_short : Stmt := top 25
abbrev N_Lis_short : List Str := ["signs", "thing", "sign"]
theorem sc_Lis_short : FnScope N_Lis_short ["signs", "thing"] (defScope s_Lis_short) := ⟨rfl, rfl, rfl, by decide +kernel, rfl, by decide +kernel, by decide +kernel⟩
abbrev s_Lis_count : Stmt := top 26
abbrev N_Lis_count : List Str := ["thing", "bound"]
theorem sc_Lis_count : FnScope N_Lis_count ["thing", "bound"] (defScope s_Lis_count) := ⟨rfl, rfl, rfl, by decide +kernel, rfl, by decide +kernel, by decide +kernel⟩
abbrev s_Lis_move : Stmt := top 27
abbrev N_Lis_move : List Str := ["signs", "many", "thing"]
theorem sc_Lis_move : FnScope N_Lis_move ["signs", "many", "thing"] (defScope s_Lis_move) := ⟨rfl, rfl, rfl, by decide +kernel, rfl, by decide +kernel, by decide +kernel⟩
abbrev s_Lis_state : Stmt := top 28
abbrev N_Lis_state : List Str := ["signs", "many", "thing", "move"]
theorem sc_Lis_state : FnScope N_Lis_state ["signs", "many", "thing"] (defScope s_Lis_state) := ⟨rfl, rfl, rfl, by decide +kernel, rfl, by decide +kernel, by decide +kernel⟩
abbrev s_Lis_expander : Stmt := top 29
abbrev N_Lis_expander : List Str := ["thing", "letters", "signs", "states", "state", "sign"]
theorem sc_Lis_expander : FnScope N_Lis_expander ["thing"] (defScope s_Lis_expander) := ⟨rfl, rfl, rfl, by decide +kernel, rfl, by decide +kernel, by decide +kernel⟩
abbrev s_Lspoilt : Stmt := top 30
abbrev N_Lspoilt : List Str := ["pot", "expander", "odd", "spot", "signs", "first", "states", "choice", "at", "some", "moves", "last", "state", "place", "move"]
theorem sc_Lspoilt : FnScope N_Lspoilt ["pot", "expander"] (defScope s_Lspoilt) := ⟨rfl, rfl, rfl, by decide +kernel, rfl, by decide +kernel, by decide +kernel⟩
abbrev s_law : Stmt := top 31
abbrev N_law : List Str := ["script", "pot", "turn", "expander", "wide", "some", "word", "move", "moves", "thing", "before", "last"]
theorem sc_law : FnScope N_law ["script"] (defScope s_law) := ⟨rfl, rfl, rfl, by decide +kernel, rfl, by decide +kernel, by decide +kernel⟩
/-! ### what the top leaves -/
set_option maxHeartbeats 0 in
structure Tx (K : PySem.W.Frag) (mg : Str → Option Value) where
  a_is_word : Addr
  fd_is_word : FuncData
  g_is_word : mg "is_word" = some (.ref a_is_word)
  F_is_word : Fun K "is_word" "is_word" s_is_word a_is_word fd_is_word
  b_is_word : Binds K fd_is_word ["signs", "thing"] []
  a_is_expander : Addr
  fd_is_expander : FuncData
  g_is_expander : mg "is_expander" = some (.ref a_is_expander)
  F_is_expander : Fun K "is_expander" "is_expander" s_is_expander a_is_expander fd_is_expander
  b_is_expander : Binds K fd_is_expander ["thing"] []
  a_is_number : Addr
  fd_is_number : FuncData
  g_is_number : mg "is_number" = some (.ref a_is_number)
  F_is_number : Fun K "is_number" "is_number" s_is_number a_is_number fd_is_number
  b_is_number : Binds K fd_is_number ["many", "thing"] []
  a_is_whole : Addr
  fd_is_whole : FuncData
  g_is_whole : mg "is_whole" = some (.ref a_is_whole)
  F_is_whole : Fun K "is_whole" "is_whole" s_is_whole a_is_whole fd_is_whole
  b_is_whole : Binds K fd_is_whole ["thing"] []
  a__are_signs : Addr
  fd__are_signs : FuncData
  g__are_signs : mg "_are_signs" = some (.ref a__are_signs)
  F__are_signs : Fun K "_are_signs" "_are_signs" s_are_signs a__are_signs fd__are_signs
  b__are_signs : Binds K fd__are_signs ["thing"] []
  a__is_short_word : Addr
  fd__is_short_word : FuncData
  g__is_short_word : mg "_is_short_word" = some (.ref a__is_short_word)
  F__is_short_word : Fun K "_is_short_word" "_is_short_word" s_is_short_word a__is_short_word fd__is_short_word
  b__is_short_word : Binds K fd__is_short_word ["signs", "thing"] []
  a__are_states : Addr
  fd__are_states : FuncData
  g__are_states : mg "_are_states" = some (.ref a__are_states)
  F__are_states : Fun K "_are_states" "_are_states" s_are_states a__are_states fd__are_states
  b__are_states : Binds K fd__are_states ["signs", "thing"] []
  a__is_state : Addr
  fd__is_state : FuncData
  g__is_state : mg "_is_state" = some (.ref a__is_state)
  F__is_state : Fun K "_is_state" "_is_state" s_is_state a__is_state fd__is_state
  b__is_state : Binds K fd__is_state ["signs", "many", "thing"] []
  a__is_move : Addr
  fd__is_move : FuncData
  g__is_move : mg "_is_move" = some (.ref a__is_move)
  F__is_move : Fun K "_is_move" "_is_move" s_is_move a__is_move fd__is_move
  b__is_move : Binds K fd__is_move ["signs", "many", "thing"] []
  a__law_kneaded : Addr
  fd__law_kneaded : FuncData
  g__law_kneaded : mg "_law_kneaded" = some (.ref a__law_kneaded)
  F__law_kneaded : Fun K "_law_kneaded" "_law_kneaded" s_Lkneaded a__law_kneaded fd__law_kneaded
  b__law_kneaded : Binds K fd__law_kneaded ["seed", "lap"] []
  a__law_pot_of : Addr
  fd__law_pot_of : FuncData
  g__law_pot_of : mg "_law_pot_of" = some (.ref a__law_pot_of)
  F__law_pot_of : Fun K "_law_pot_of" "_law_pot_of" s_Lpot_of a__law_pot_of fd__law_pot_of
  b__law_pot_of : Binds K fd__law_pot_of ["script"] []
  a__law_below : Addr
  fd__law_below : FuncData
  g__law_below : mg "_law_below" = some (.ref a__law_below)
  F__law_below : Fun K "_law_below" "_law_below" s_Lbelow a__law_below fd__law_below
  b__law_below : Binds K fd__law_below ["pot", "bound"] []
  a__law_pick : Addr
  fd__law_pick : FuncData
  g__law_pick : mg "_law_pick" = some (.ref a__law_pick)
  F__law_pick : Fun K "_law_pick" "_law_pick" s_Lpick a__law_pick fd__law_pick
  b__law_pick : Binds K fd__law_pick ["pot", "items"] []
  a__law_some_word : Addr
  fd__law_some_word : FuncData
  g__law_some_word : mg "_law_some_word" = some (.ref a__law_some_word)
  F__law_some_word : Fun K "_law_some_word" "_law_some_word" s_Lsome_word a__law_some_word fd__law_some_word
  b__law_some_word : Binds K fd__law_some_word ["pot", "signs", "limit"] []
  a__law_some_expander : Addr
  fd__law_some_expander : FuncData
  g__law_some_expander : mg "_law_some_expander" = some (.ref a__law_some_expander)
  F__law_some_expander : Fun K "_law_some_expander" "_law_some_expander" s_Lsome_expander a__law_some_expander fd__law_some_expander
  b__law_some_expander : Binds K fd__law_some_expander ["pot", "many"] []
  a__law_plainer : Addr
  fd__law_plainer : FuncData
  g__law_plainer : mg "_law_plainer" = some (.ref a__law_plainer)
  F__law_plainer : Fun K "_law_plainer" "_law_plainer" s_Lplainer a__law_plainer fd__law_plainer
  b__law_plainer : Binds K fd__law_plainer ["state"] []
  a__law_calls : Addr
  fd__law_calls : FuncData
  g__law_calls : mg "_law_calls" = some (.ref a__law_calls)
  F__law_calls : Fun K "_law_calls" "_law_calls" s_Lcalls a__law_calls fd__law_calls
  b__law_calls : Binds K fd__law_calls ["expander"] []
  a__law_sizes : Addr
  fd__law_sizes : FuncData
  g__law_sizes : mg "_law_sizes" = some (.ref a__law_sizes)
  F__law_sizes : Fun K "_law_sizes" "_law_sizes" s_Lsizes a__law_sizes fd__law_sizes
  b__law_sizes : Binds K fd__law_sizes ["expander"] []
  a__law_is_short : Addr
  fd__law_is_short : FuncData
  g__law_is_short : mg "_law_is_short" = some (.ref a__law_is_short)
  F__law_is_short : Fun K "_law_is_short" "_law_is_short" s_Lis_short a__law_is_short fd__law_is_short
  b__law_is_short : Binds K fd__law_is_short ["signs", "thing"] []
  a__law_is_count : Addr
  fd__law_is_count : FuncData
  g__law_is_count : mg "_law_is_count" = some (.ref a__law_is_count)
  F__law_is_count : Fun K "_law_is_count" "_law_is_count" s_Lis_count a__law_is_count fd__law_is_count
  b__law_is_count : Binds K fd__law_is_count ["thing", "bound"] []
  a__law_is_move : Addr
  fd__law_is_move : FuncData
  g__law_is_move : mg "_law_is_move" = some (.ref a__law_is_move)
  F__law_is_move : Fun K "_law_is_move" "_law_is_move" s_Lis_move a__law_is_move fd__law_is_move
  b__law_is_move : Binds K fd__law_is_move ["signs", "many", "thing"] []
  a__law_is_state : Addr
  fd__law_is_state : FuncData
  g__law_is_state : mg "_law_is_state" = some (.ref a__law_is_state)
  F__law_is_state : Fun K "_law_is_state" "_law_is_state" s_Lis_state a__law_is_state fd__law_is_state
  b__law_is_state : Binds K fd__law_is_state ["signs", "many", "thing"] []
  a__law_is_expander : Addr
  fd__law_is_expander : FuncData
  g__law_is_expander : mg "_law_is_expander" = some (.ref a__law_is_expander)
  F__law_is_expander : Fun K "_law_is_expander" "_law_is_expander" s_Lis_expander a__law_is_expander fd__law_is_expander
  b__law_is_expander : Binds K fd__law_is_expander ["thing"] []
  a__law_spoilt : Addr
  fd__law_spoilt : FuncData
  g__law_spoilt : mg "_law_spoilt" = some (.ref a__law_spoilt)
  F__law_spoilt : Fun K "_law_spoilt" "_law_spoilt" s_Lspoilt a__law_spoilt fd__law_spoilt
  b__law_spoilt : Binds K fd__law_spoilt ["pot", "expander"] []
  a_law : Addr
  fd_law : FuncData
  g_law : mg "law" = some (.ref a_law)
  F_law : Fun K "law" "law" s_law a_law fd_law
  b_law : Binds K fd_law ["script"] []
  z_abs : mg "abs" = none
  z_all : mg "all" = none
  z_bool : mg "bool" = none
  z_enumerate : mg "enumerate" = none
  z_int : mg "int" = none
  z_isinstance : mg "isinstance" = none
  z_len : mg "len" = none
  z_list : mg "list" = none
  z_max : mg "max" = none
  z_range : mg "range" = none
  z_repr : mg "repr" = none
  z_set : mg "set" = none
  z_sorted : mg "sorted" = none
  z_str : mg "str" = none
  z_tuple : mg "tuple" = none
  t_LETTERS : Tok
  m_LETTERS : mg "LETTERS" = some (.str "abcdefghijklmnopqrstuvwxyz" t_LETTERS)
  t_MOST_SIGNS : Tok
  m_MOST_SIGNS : mg "MOST_SIGNS" = some (.int 4 t_MOST_SIGNS)
  t_MOST_STATES : Tok
  m_MOST_STATES : mg "MOST_STATES" = some (.int 60 t_MOST_STATES)
  t_MOST_WORD : Tok
  m_MOST_WORD : mg "MOST_WORD" = some (.int 2000 t_MOST_WORD)
end K02

namespace K02
open PySem PySem.Spec PyProof.Rows L2 G Lk
section
variable {P : Program} {w : World} {K : PySem.W.Frag} {mg : Str → Option Value} {base : Heap}
def sp_Lkneaded (K : PySem.W.Frag) : Sp := fun vs H Q _ => ∃ (a b : Int), vs = [.int a, .int b] ∧ ∀ k : Int, Q (.int k) H
/-- def _law_kneaded(seed, lap): -/
theorem ok_Lkneaded (T : Tx K mg) : FnOk P w K mg base CX0 1 T.a__law_kneaded T.fd__law_kneaded ["seed", "lap"] (sp_Lkneaded K) := by
  refine T.F__law_kneaded.ok sc_Lkneaded (fun vs H Q E h => ?_) (fun cdv A outer s H vs Q E hr h => ?_)
  · obtain ⟨_, _, rfl, _⟩ := h
    rfl
  · refine ⟨_, (pss_cons (ps_set (i := 2) sc_Lkneaded.nd rfl (by first | exact Or.inl rfl | exact Or.inr rfl) pe_int)
    (pss_cons (ps_set (i := 3) sc_Lkneaded.nd rfl (by first | exact Or.inl rfl | exact Or.inr rfl) (pe_op op_mod (pe_callTy call_int1 (by rfl) T.z_int (by decide +kernel) (pa_cons (pe_op op_add (pe_op op_add (pe_op op_mul (pv 0) pe_int) (pe_op op_mul (pv 1) pe_int)) pe_int) pa_nil)) (pv 2)))
    (pss_cons (ps_for PassesOwn.never rfl (pi_range1 (by rfl) T.z_range (pa_cons pe_int pa_nil)) (pg_name (i := 4) sc_Lkneaded.nd rfl (by first | exact Or.inl rfl | exact Or.inr rfl))
      (pss_one (ps_set (i := 3) sc_Lkneaded.nd rfl (by first | exact Or.inl rfl | exact Or.inr rfl) (pe_op op_mod (pe_callTy call_int1 (by rfl) T.z_int (by decide +kernel) (pa_cons (pe_op op_add (pe_op op_add (pe_op op_add (pe_op op_mul (pv 3) (pv 3)) (pe_op op_mul pe_int (pv 3))) (pe_op op_mul pe_int (pv 4))) (pv 1)) pa_nil)) (pv 2)))))
    (pss_one (ps_ret (pe_op op_add (pe_op op_mul (pv 3) (pv 2)) (pe_op op_mod (pe_callTy call_int1 (by rfl) T.z_int (by decide +kernel) (pa_cons (pe_op op_add (pe_op op_mul (pv 3) pe_int) (pv 1)) pa_nil)) (pv 2)))))))), ?_⟩
    obtain ⟨a, b, rfl, q⟩ := h
    have hp : (0 : Int) < 2305843009213693907 := by decide
    have lim : ∀ z : Int, -(2 ^ 64) < z % 2305843009213693907 ∧ z % 2305843009213693907 < 2 ^ 64 := fun z =>
      ⟨Int.lt_of_lt_of_le (by decide) (Int.emod_nonneg z (by decide)), Int.lt_trans (Int.emod_lt_of_pos z hp) (by decide)⟩
    refine ⟨_, rfl, _, _, rfl, rfl, .inr ⟨by decide, by decide⟩, _, rfl, _, _, rfl, rfl, .inr ⟨by decide, by decide⟩, _, _, rfl, rfl, _, _, rfl, rfl, .inl ⟨_, rfl, ?_⟩⟩
    refine ⟨_, rfl, _, _, rfl, rfl, hp, ?_⟩
    refine ⟨4, rfl, by decide, by decide, for_range (n := 4) (fun _ σ H' => ∃ (m : Int) (t : Option V), σ = [some (.int a), some (.int b), some (.int 2305843009213693907), some (.int m), t] ∧ H' = H ∧ -(2 ^ 64) < m ∧ m < 2 ^ 64)
      ⟨_, none, rfl, rfl, (lim _).1, (lim _).2⟩ ?_ ?_⟩
    · rintro i σ H' hi ⟨m, t, rfl, rfl, h1, h2⟩
      refine ⟨_, rfl, _, rfl, _, _, rfl, rfl, .inl ⟨h1, h2⟩, _, rfl, _, _, rfl, rfl, .inl ⟨by decide, by decide⟩, _, _, rfl, rfl, _, rfl, _, _, rfl, rfl, .inl ⟨by decide, by decide⟩, _, _, rfl, rfl, _, rfl, _, _, rfl, rfl, .inl ⟨_, rfl, ?_⟩⟩
      exact ⟨_, rfl, _, _, rfl, rfl, hp, _, _, rfl, rfl, (lim _).1, (lim _).2⟩
    · rintro σ H' ⟨m, t, rfl, rfl, h1, h2⟩
      refine ⟨_, rfl, _, rfl, _, _, rfl, rfl, .inl ⟨h1, h2⟩, _, rfl, _, _, rfl, rfl, .inr ⟨by decide, by decide⟩, _, rfl, _, _, rfl, rfl, .inl ⟨_, rfl, ?_⟩⟩
      exact ⟨_, rfl, _, _, rfl, rfl, hp, _, _, rfl, rfl, q _⟩
end
end K02

namespace K02
open PySem PySem.Spec PyProof.Rows L2 G Lk
section
variable {P : Program} {w : World} {K : PySem.W.Frag} {mg : Str → Option Value} {base : Heap}
def sp_Lbelow (K : PySem.W.Frag) : Sp := spBelow K
/-- def _law_below(pot, bound): -/
theorem ok_Lbelow (T : Tx K mg) : FnOk P w K mg base CX0 2 T.a__law_below T.fd__law_below ["pot", "bound"] (sp_Lbelow K) := by
  refine T.F__law_below.ok sc_Lbelow (fun vs H Q E h => ?_) (fun cdv A outer s H vs Q E hr h => ?_)
  · obtain ⟨_, _, _, rfl, _⟩ := h
    rfl
  · refine ⟨_, (C8.pss_cut (ps_if (pt_cmpR op_lt (pe_ix ix_list (pv 0) pe_int (fun _ _ => rfl)) (pv 1) (nomark _))
      (pss_cons (ps_par (i := 4) (j := 5) (by rfl) sc_Lbelow.nd rfl rfl (by decide) rfl rfl (pa_cons (pe_ix ix_list (pv 0) pe_int (fun _ _ => rfl)) (pa_cons (pe_ix ix_list (pv 0) pe_int (fun _ _ => rfl)) pa_nil)) (by rfl))
    (C8.pss_cut (ps_set (i := 3) sc_Lbelow.nd rfl (by first | exact Or.inl rfl | exact Or.inr rfl) (pe_ifExp (pt_cmpR (op_neD hr.units) (pv 4) (pe_lst pa_nil) (nomark _)) (pe_ix ix_list (pv 4) (pe_op op_mod (pv 5) (pe_callB call_len_seq (by rfl) T.z_len PySem.boot_len (pa_cons (pv 4) pa_nil))) (fun _ _ => rfl)) pe_int))
    (C8.pss_cut (ps_if (PW.pt (pw_or (pt_cmpR op_ge (pv 5) (pe_callB call_len_seq (by rfl) T.z_len PySem.boot_len (pa_cons (pv 4) pa_nil)) (nomark _)) (pw_or1 (pt_cmpR op_lt (pv 3) (pe_op op_pow pe_int pe_int) (nomark _)))))
      (pss_one (ps_set (i := 3) sc_Lbelow.nd rfl (by first | exact Or.inl rfl | exact Or.inr rfl) (pe_call (ok_Lkneaded T) (hr.mono (by decide)) (by rfl) T.g__law_kneaded T.F__law_kneaded.kp T.b__law_kneaded .nil pass0 (pa_cons (pe_op op_mod (pe_callTy call_int1 (by rfl) T.z_int (by decide +kernel) (pa_cons (pv 3) pa_nil)) pe_int) (pa_cons (pv 5) pa_nil)))))
      pss_nil)
    (pss_cons (ps_asg (pe_op op_add (pv 5) pe_int) (pg_sub (pv 0) pe_int set_list))
    (pss_cons (ps_asg (pv 3) (pg_sub (pv 0) pe_int set_list))
    (pss_one (ps_asg (pv 3) (pg_sub (pv 0) pe_int set_list))))))))
      pss_nil)
    (pss_cons (ps_set (i := 2) sc_Lbelow.nd rfl (by first | exact Or.inl rfl | exact Or.inr rfl) (pe_op op_mod (pe_callTy call_int1 (by rfl) T.z_int (by decide +kernel) (pa_cons (pe_ix ix_list (pv 0) pe_int (fun _ _ => rfl)) pa_nil)) (pv 1)))
    (pss_cons (ps_asg (pe_op op_fdiv (pe_ix ix_list (pv 0) pe_int (fun _ _ => rfl)) (pv 1)) (pg_sub (pv 0) pe_int set_list))
    (pss_cons (ps_asg (pe_op op_fdiv (pe_ix ix_list (pv 0) pe_int (fun _ _ => rfl)) (pv 1)) (pg_sub (pv 0) pe_int set_list))
    (pss_one (ps_ret (pv 2))))))), ?_⟩
    obtain ⟨a, c, b, rfl, hp, b1, b2, q⟩ := h
    obtain ⟨⟨p, x, y, ha⟩, ns, hc, hl⟩ := id hp
    have hc0 : SqL K H c (ns.map V.int) := seqL sans_same hc
    refine ⟨fun σ H' => ∃ s2 s3 s4 s5 : Option V, σ = [some (.ref a), some (.int b), s2, s3, s4, s5] ∧ Sm a H H' ∧ ∃ p x y : Int, H' a = some (.lst [.ref c, .int p, .int x, .int y]), ?_, ?_⟩
    · refine ⟨_, rfl, a, _, _, _, rfl, rfl, SqL.of ha, atI_nat (j := 3) rfl, _, rfl, _, _, rfl, rfl, _, rfl, ite2 (fun _ => ?_) (fun _ => ?_)⟩
      · refine ⟨_, rfl, a, _, _, _, rfl, rfl, SqL.of ha, atI_nat (j := 0) rfl, _, rfl, a, _, _, _, rfl, rfl, SqL.of ha, atI_nat (j := 1) rfl, _, _, rfl, ?_⟩
        refine ⟨fun σ H' => ∃ m : Int, σ = [some (.ref a), some (.int b), none, some (.int m), some (.ref c), some (.int p)] ∧ Same H H', ?_, ?_⟩
        · refine ⟨_, rfl, Nat.zero_le _, fun l nl => ?_⟩
          have s1 : Same H (upd H l (.lst [])) := same_new nl
          have hc1 : SqL K (upd H l (.lst [])) c (ns.map V.int) := seqL s1 hc0
          refine ⟨.list (ns.map PyData.int), .list [], .lst hc1 (dq_ints ns), .lst (SqL.of upd_same) .nil, shaped_ints ns, shaped_ints [], _, rfl, ?_⟩
          refine ite2 (fun e => ?_) (fun _ => ⟨0, rfl, s1⟩)
          have hpos : 0 < ns.length := by
            cases ns with
            | nil => exact absurd e (by decide)
            | cons n r => exact Nat.succ_pos _
          have hpi : (0 : Int) < (((ns.map V.int).length : Nat) : Int) := by
            rw [List.length_map]
            omega
          have h1 : (p % (((ns.map V.int).length : Nat) : Int)).toNat < ns.length := by
            have z1 := Int.emod_nonneg p (Int.ne_of_gt hpi)
            have z2 := Int.emod_lt_of_pos p hpi
            rw [List.length_map] at z1 z2 ⊢
            omega
          have e3 := atI_nat (xs := ns.map V.int) (j := (p % (((ns.map V.int).length : Nat) : Int)).toNat) (v := .int ns[(p % (((ns.map V.int).length : Nat) : Int)).toNat]) (by rw [List.getElem?_map, List.getElem?_eq_getElem h1]; rfl)
          have z1 := Int.emod_nonneg p (Int.ne_of_gt hpi)
          rw [Int.toNat_of_nonneg z1] at e3
          exact ⟨_, rfl, _, rfl, _, rfl, c, _, rfl, .inl hc1, _, _, rfl, rfl, hpi, c, _, _, _, rfl, rfl, hc1, e3, _, rfl, s1⟩
        · rintro σ H1 ⟨m, rfl, s1⟩
          have hc1 : SqL K H1 c (ns.map V.int) := seqL s1 hc0
          have ha1 := s1 _ _ ha
          refine ⟨fun σ H' => ∃ m : Int, σ = [some (.ref a), some (.int b), none, some (.int m), some (.ref c), some (.int p)] ∧ H' = H1, ?_, ?_⟩
          · refine ⟨_, rfl, _, rfl, c, _, rfl, .inl hc1, _, _, rfl, rfl, _, rfl, ite2 (fun _ => ?_) (fun _ => ?_)⟩
            · refine iteT ⟨_, rfl, .inl ⟨_, rfl, _, _, rfl, rfl, (show (0 : Int) < 982451629 by decide), _, rfl, _, _, rfl, fun k => ⟨k, rfl, rfl⟩⟩⟩
            · refine ⟨_, rfl, _, _, rfl, rfl, ⟨by decide, by decide, by decide⟩, _, _, rfl, rfl, _, rfl, ite2 (fun _ => ?_) (fun _ => ?_)⟩
              · exact ⟨_, rfl, .inl ⟨_, rfl, _, _, rfl, rfl, (show (0 : Int) < 982451629 by decide), _, rfl, _, _, rfl, fun k => ⟨k, rfl, rfl⟩⟩⟩
              · exact ⟨m, rfl, rfl⟩
          · rintro σ H2 ⟨m, rfl, rfl⟩
            refine ⟨_, rfl, _, _, rfl, rfl, _, rfl, a, _, _, 1, rfl, rfl, ha1, rfl, ?_⟩
            refine ⟨_, rfl, _, rfl, a, _, _, 2, rfl, rfl, upd_same, rfl, ?_⟩
            refine ⟨_, rfl, _, rfl, a, _, _, 3, rfl, rfl, upd_same, rfl, ?_⟩
            exact ⟨_, _, _, _, rfl, (((Sm.of s1).trans Sm.pot).trans Sm.pot).trans Sm.pot, _, _, _, upd_same⟩
      · exact ⟨_, _, _, _, rfl, Sm.refl, p, x, y, ha⟩
    · rintro σ H1 ⟨s2, s3, s4, s5, rfl, sm, p, x, y, ha1⟩
      have hb : (0 : Int) < b := by omega
      refine ⟨_, rfl, a, _, _, _, rfl, rfl, SqL.of ha1, atI_nat (j := 2) rfl, .inl ⟨_, rfl, _, rfl, _, _, rfl, rfl, hb, ?_⟩⟩
      refine ⟨_, rfl, a, _, _, _, rfl, rfl, SqL.of ha1, atI_nat (j := 2) rfl, _, rfl, _, _, rfl, rfl, ⟨hb, b2⟩, _, rfl, a, _, _, 2, rfl, rfl, ha1, rfl, ?_⟩
      refine ⟨_, rfl, a, _, _, _, rfl, rfl, SqL.of upd_same, atI_nat (j := 3) rfl, _, rfl, _, _, rfl, rfl, ⟨hb, b2⟩, _, rfl, a, _, _, 3, rfl, rfl, upd_same, rfl, ?_⟩
      have sm2 := (sm.trans Sm.pot).trans (Sm.pot (H := upd H1 a (.lst [.ref c, .int p, .int (x / b), .int y])) (o := .lst [.ref c, .int p, .int (x / b), .int (y / b)]))
      refine ⟨_, rfl, q _ _ sm2 (hp.to sm2 ⟨p, x / b, y / b, upd_same⟩) (Int.emod_nonneg x (by omega)) (Int.emod_lt_of_pos x hb)⟩
end
end K02

namespace K02
open PySem PySem.Spec PyProof.Rows L2 G Lk
section
variable {P : Program} {w : World} {K : PySem.W.Frag} {mg : Str → Option Value} {base : Heap}
def sp_Lcalls (K : PySem.W.Frag) : Sp := fun vs H Q _ => ∃ (v : V) (z f : Str) (ss : List PyData), vs = [v] ∧ Dq K H v (.tuple [.str z, .str f, .tuple ss]) ∧ z.length ≤ 4 ∧ ss.length ≤ 4 ∧
  ∀ (H' : Hp) (l : Addr), Same H H' → H l = none → CallsL z ss.length H' l 16 → Q (.ref l) H'
/-- def _law_calls(expander): -/
theorem ok_Lcalls (T : Tx K mg) : FnOk P w K mg base CX0 1 T.a__law_calls T.fd__law_calls ["expander"] (sp_Lcalls K) := by
  refine T.F__law_calls.ok sc_Lcalls (fun vs H Q E h => ?_) (fun cdv A outer s H vs Q E hr h => ?_)
  · obtain ⟨_, _, _, _, rfl, _⟩ := h
    rfl
  · refine ⟨_, (pss_cons (ps_set (i := 1) sc_Lcalls.nd rfl (by first | exact Or.inl rfl | exact Or.inr rfl) (pe_lst pa_nil))
    (pss_cons (ps_for PassesOwn.never rfl (pi_range1 (by rfl) T.z_range (pa_cons (pe_callB call_len_seq (by rfl) T.z_len PySem.boot_len (pa_cons (pe_ix ix_tup (pv 0) pe_int (fun _ _ => rfl)) pa_nil)) pa_nil)) (pg_name (i := 2) sc_Lcalls.nd rfl (by first | exact Or.inl rfl | exact Or.inr rfl))
      (pss_one (ps_set (i := 1) sc_Lcalls.nd rfl (by first | exact Or.inl rfl | exact Or.inr rfl) (pe_op op_cat (pv 1) (pe_lc (own := [("sign", 3)]) (g := gName 3) (by rfl) sc_Lcalls.nd (pi_str (pe_ix ix_tup (pv 0) pe_int (fun _ _ => rfl))) (blkOk_by (own := [("sign", 3)]) (N := N_Lcalls) (sc := defScope s_Lcalls) (by decide +kernel)) (fun _ _ _ _ _ => pg_name (i := 3) sc_Lcalls.nd rfl (by first | exact Or.inl rfl | exact Or.inr rfl)) (fun _ _ _ _ _ => pts_nil) (fun _ _ _ _ _ => (pe_tup (pa_cons (pv 2) (pa_cons (pv 3) pa_nil)))))))))
    (pss_one (ps_ret (pv 1))))), ?_⟩
    obtain ⟨v, z, f, ss, rfl, hd, hz, hs, q⟩ := h
    obtain ⟨a, t, xs, rfl, h1, h2, h3⟩ := expV_of hd
    have hl := h3.length
    refine ⟨Nat.zero_le _, fun l nl => ?_⟩
    have s1 := same_new (o := .lst []) nl
    refine ⟨_, rfl, a, _, 2, _, rfl, rfl, seqT s1 h1, rfl, t, xs, rfl, .inr (seqT s1 h2), (xs.length : Nat), rfl, by omega, by omega, ?_⟩
    refine for_range (n := xs.length) (fun i σ H' => ∃ (l : Addr) (s2 : Option V), σ = [some (.ref a), some (.ref l), s2, none] ∧ Same H H' ∧ H l = none ∧ CallsL z ss.length H' l (i * 4)) ⟨l, none, rfl, s1, nl, [], upd_same, Nat.le_refl _, fun x hx => (List.not_mem_nil hx).elim⟩ ?_ ?_
    · rintro i σ H1 hi ⟨l, s2, rfl, s3, nl, ys, hy, ly, hc⟩
      refine ⟨_, rfl, _, rfl, a, _, 0, _, rfl, rfl, seqT s3 h1, rfl, z, rfl, fun D nD => ?_⟩
      have el : z.cps.toList.length = z.length := by simp [Str.length]
      refine lc_it walk_str (fun j H' => Same H1 H' ∧ ∃ us, H' D = some (.lst us) ∧ us.length = j ∧ ∀ x ∈ us, CallV z ss.length H' x) ⟨same_new nD, [], upd_same, rfl, fun x hx => (List.not_mem_nil hx).elim⟩ (fun _ _ _ _ => trivial) ?_ ?_
      · rintro j v H2 H3 hj ⟨s4, us, hu, lu, hcu⟩ ⟨rfl, c, hcc, rfl⟩
        have hcz : c ∈ z.cps.toList := List.mem_of_getElem? (by simpa using hcc)
        refine ⟨rfl, _, rfl, _, rfl, (by show 2 ≤ sizeLine; decide), fun p np => ?_⟩
        have s5 := same_new (o := .tup [.int (0 + ((i : Nat) : Int)), .str ⟨#[c]⟩]) np
        have nDp : D ≠ p := ne_of_none hu np
        refine ⟨us, (upd_ne nDp).trans hu, ?_, ?_⟩
        · have hz' : z.cps.size = z.length := rfl
          refine Nat.lt_of_le_of_lt (show us.length ≤ 4 by omega) (by decide)
        · have s6 : Same H3 (upd (upd H3 p (.tup [.int (0 + ((i : Nat) : Int)), .str ⟨#[c]⟩])) D (.lst (us ++ [.ref p]))) ∨ True := .inr trivial
          have keep : ∀ b o, b ≠ D → H3 b = some o → upd (upd H3 p (.tup [.int (0 + ((i : Nat) : Int)), .str ⟨#[c]⟩])) D (.lst (us ++ [.ref p])) b = some o := fun b o hb e => (upd_ne hb).trans (s5 _ _ e)
          have hp' : upd (upd H3 p (.tup [.int (0 + ((i : Nat) : Int)), .str ⟨#[c]⟩])) D (.lst (us ++ [.ref p])) p = some (.tup [.int (i : Int), .str (Ls.one c)]) := by
            rw [upd_ne nDp.symm, upd_same, Int.zero_add]
            rfl
          refine ⟨fun b o e => keep b o (ne_of_none e nD) (s4 b o e), us ++ [.ref p], upd_same, by rw [List.length_append, lu]; rfl, fun x hx => ?_⟩
          rcases List.mem_append.mp hx with hx | hx
          · obtain ⟨p', i', c', e1, e2, r⟩ := hcu x hx
            refine ⟨p', i', c', e1, keep p' _ (fun z => ?_) e2, r⟩
            rw [z, hu] at e2
            cases e2
          · rw [List.mem_singleton.mp hx]
            exact ⟨p, i, c, rfl, hp', by omega, hcz⟩
      · rintro H2 ⟨s4, us, hu, lu, hcu⟩
        have hyl := s4 _ _ hy
        have lu' : us.length ≤ 4 := by
          have hz' : z.cps.size = z.length := rfl
          omega
        refine ⟨l, D, ys, us, rfl, rfl, hyl, hu, ?_, fun p np => ?_⟩
        · refine Nat.le_trans (show ys.length + us.length ≤ 100 by omega) (by decide)
        · have s5 := same_new (o := .lst (ys ++ us)) np
          have sA := Same.trans s4 s5
          refine ⟨p, _, rfl, Same.trans s3 sA, ?_, ys ++ us, upd_same, ?_, fun x hx => ?_⟩
          · cases e : H p with
            | none => rfl
            | some o =>
              have := s4 _ _ (s3 _ _ e)
              rw [np] at this
              cases this
          · rw [List.length_append]
            omega
          · rcases List.mem_append.mp hx with hx | hx
            · exact (hc x hx).mono sA
            · exact (hcu x hx).mono s5
    · rintro σ H1 ⟨l, s2, rfl, s3, nl, ys, hy, ly, hc⟩
      exact ⟨_, rfl, q H1 l s3 nl ⟨ys, hy, by omega, hc⟩⟩
end
end K02

namespace K02
open PySem PySem.Spec PyProof.Rows L2 G Lk
section
variable {P : Program} {w : World} {K : PySem.W.Frag} {mg : Str → Option Value} {base : Heap}
def sp_Lis_count (K : PySem.W.Frag) : Sp := fun vs H Q _ => ∃ (n : Int) (v : V) (d : PyData), vs = [v, .int n] ∧ Dq K H v d ∧ Q (.bl (countB n d)) H
/-- def _law_is_count(thing, bound): -/
theorem ok_Lis_count (T : Tx K mg) : FnOk P w K mg base CX0 1 T.a__law_is_count T.fd__law_is_count ["thing", "bound"] (sp_Lis_count K) := by
  refine T.F__law_is_count.ok sc_Lis_count (fun vs H Q E h => ?_) (fun cdv A outer s H vs Q E hr h => ?_)
  · obtain ⟨_, _, _, rfl, _⟩ := h
    rfl
  · refine ⟨_, (pss_one (ps_ret (pe_and (pe_callB call_isi (by rfl) T.z_isinstance (by decide +kernel) (pa_cons (pv 0) (pa_cons (pe_bltn (v := .ty "int") (by rfl) T.z_int (by decide +kernel) rfl) pa_nil))) (pe_and (pe_not (pe_callB call_isi (by rfl) T.z_isinstance (by decide +kernel) (pa_cons (pv 0) (pa_cons (pe_bltn (v := .ty "bool") (by rfl) T.z_bool (by decide +kernel) rfl) pa_nil)))) (pe_one (pe_chain op_le op_lt pe_int (pv 0) (pv 1))))))), ?_⟩
    obtain ⟨n, v, d, rfl, hd, q⟩ := h
    refine ⟨v, rfl, v, .ty "int", _, _, _, rfl, .ty "int", hd.ty, kInt d, _, rfl, ?_⟩
    cases hd with
    | int i =>
      have q : Q (.bl (decide (0 ≤ i) && decide (i < n))) H := q
      refine iteT ⟨.int i, rfl, .int i, .ty "bool", _, _, _, rfl, .ty "bool", .base (.int i), kBool (.int i), _, rfl, _, rfl, ?_⟩
      refine iteT ⟨_, rfl, 0, i, rfl, rfl, _, rfl, ?_⟩
      cases e : decide (0 ≤ i) with
      | false =>
        rw [e] at q
        exact iteF q
      | true =>
        rw [e] at q
        exact iteT ⟨_, rfl, i, n, rfl, rfl, q⟩
    | bl b =>
      refine iteT ⟨.bl b, rfl, .bl b, .ty "bool", _, _, _, rfl, .ty "bool", .base (.bl b), kBool (.bool b), _, rfl, _, rfl, ?_⟩
      exact iteF q
    | non => exact iteF q
    | str z => exact iteF q
    | lst _ _ => exact iteF q
    | tup _ _ => exact iteF q
    | emp _ => exact iteF q
end
end K02

namespace K02
open PySem PySem.Spec PyProof.Rows L2 G Lk
section
variable {P : Program} {w : World} {K : PySem.W.Frag} {mg : Str → Option Value} {base : Heap}
def sp_Lis_short (K : PySem.W.Frag) : Sp := fun vs H Q _ => ∃ (s : Str) (v : V) (d : PyData), vs = [.str s, v] ∧ Dq K H v d ∧ Light d ∧ ∀ H', Same H H' → Q (.bl (shortB s d)) H'
theorem short_lt (s z : Str) : shortB s (.str z) = (decide (((z.length : Nat) : Int) < 2001) && allIn s z) := by
  show (allIn s z && decide (z.length ≤ 2000)) = _
  rw [Bool.and_comm]
  congr 1
  exact decide_eq_decide.mpr ⟨fun x => by omega, fun x => by omega⟩
/-- def _law_is_short(signs, thing): -/
theorem ok_Lis_short (T : Tx K mg) : FnOk P w K mg base CX0 1 T.a__law_is_short T.fd__law_is_short ["signs", "thing"] (sp_Lis_short K) := by
  refine T.F__law_is_short.ok sc_Lis_short (fun vs H Q E h => ?_) (fun cdv A outer s H vs Q E hr h => ?_)
  · obtain ⟨_, _, _, rfl, _⟩ := h
    rfl
  · refine ⟨_, (pss_one (ps_ret (pe_and (pe_callB call_isi (by rfl) T.z_isinstance (by decide +kernel) (pa_cons (pv 1) (pa_cons (pe_bltn (v := .ty "str") (by rfl) T.z_str (by decide +kernel) rfl) pa_nil))) (pe_and (pe_cmpR op_lt (pe_callB call_len_str (by rfl) T.z_len PySem.boot_len (pa_cons (pv 1) pa_nil)) pe_int (nomark _)) (pe_one (pe_cmpR (op_eqD hr.units) (pe_lc (own := [("sign", 2)]) (g := gName 2) (by rfl) sc_Lis_short.nd (pi_str (pv 1)) (blkOk_by (own := [("sign", 2)]) (N := N_Lis_short) (sc := defScope s_Lis_short) (by decide +kernel)) (fun _ _ _ _ _ => pg_name (i := 2) sc_Lis_short.nd rfl (by first | exact Or.inl rfl | exact Or.inr rfl)) (fun _ _ _ _ _ => (pts_one (pt_cmpR op_notIn_sign (pv 2) (pv 0) (by rfl)))) (fun _ _ _ _ _ => pe_int)) (pe_lst pa_nil) (nomark _))))))), ?_⟩
    obtain ⟨s, v, d, rfl, hd, hz, q⟩ := h
    refine ⟨v, rfl, v, .ty "str", _, _, _, rfl, .ty "str", hd.ty, kStr d, _, rfl, ?_⟩
    cases hd with
    | str z =>
      rw [short_lt] at q
      refine iteT ⟨_, rfl, z, rfl, light_str hz, _, _, rfl, rfl, _, rfl, ?_⟩
      cases e : decide (((z.length : Nat) : Int) < 2001) with
      | false =>
        rw [e] at q
        exact iteF (q H (Same.refl H))
      | true =>
        rw [e, tt_and] at q
        have hl := of_decide_eq_true e
        refine iteT ⟨_, rfl, z, rfl, fun D nD => ?_⟩
        refine lc_strange (s := s) nD (by omega) (fun c H1 Nxt Els s1 k1 k2 => ?_) (fun H1 s1 hD => ?_)
        · refine ⟨rfl, _, rfl, _, rfl, c, s, rfl, rfl, _, rfl, ?_⟩
          cases ec : decide (c ∈ s.cps.toList) with
          | true => exact iteF (k2 ec)
          | false => exact iteT (k1 ec)
        · refine ⟨Nat.zero_le _, fun l nl => ?_⟩
          have s2 := same_new (o := .lst []) nl
          refine ⟨.list (((strange s z.cps.toList).map fun _ => (1 : Int)).map PyData.int), .list [], .lst (SqL.of (s2 _ _ hD)) (dq_ints _), .lst (SqL.of upd_same) .nil, shaped_ints _, shaped_ints [], ?_⟩
          rw [eqv_nil_ints, strange_ones]
          exact q _ (Same.trans s1 s2)
    | non => exact iteF (q H (Same.refl H))
    | bl b => exact iteF (q H (Same.refl H))
    | int i => exact iteF (q H (Same.refl H))
    | lst _ _ => exact iteF (q H (Same.refl H))
    | tup _ _ => exact iteF (q H (Same.refl H))
    | emp _ => exact iteF (q H (Same.refl H))
end
end K02

namespace K02
open PySem PySem.Spec PyProof.Rows L2 G Lk
section
variable {P : Program} {w : World} {K : PySem.W.Frag} {mg : Str → Option Value} {base : Heap}
def sp_Lis_move (K : PySem.W.Frag) : Sp := fun vs H Q _ => ∃ (s : Str) (n : Int) (v : V) (d : PyData), vs = [.str s, .int n, v] ∧ Dq K H v d ∧ Light d ∧ ∀ H', Same H H' → Q (.bl (isNone d || moveB s n d)) H'
/-- def _law_is_move(signs, many, thing): -/
theorem ok_Lis_move (T : Tx K mg) : FnOk P w K mg base CX0 2 T.a__law_is_move T.fd__law_is_move ["signs", "many", "thing"] (sp_Lis_move K) := by
  refine T.F__law_is_move.ok sc_Lis_move (fun vs H Q E h => ?_) (fun cdv A outer s H vs Q E hr h => ?_)
  · obtain ⟨_, _, _, _, rfl, _⟩ := h
    rfl
  · refine ⟨_, (pss_cons (ps_if (pt_cmpR op_isN (pv 2) pe_non (nomark _))
      (pss_one (ps_ret pe_bl))
      pss_nil)
    (pss_cons (ps_if (PW.pt (pw_or (pt_not (pt_val (pe_callB call_isi (by rfl) T.z_isinstance (by decide +kernel) (pa_cons (pv 2) (pa_cons (pe_bltn (v := .ty "tuple") (by rfl) T.z_tuple (by decide +kernel) rfl) pa_nil))))) (pw_or (pt_cmpR op_ne (pe_callB call_len_seq (by rfl) T.z_len PySem.boot_len (pa_cons (pv 2) pa_nil)) pe_int (nomark _)) (pw_or1 (pt_not (pt_val (pe_call (ok_Lis_count T) (hr.mono (by decide)) (by rfl) T.g__law_is_count T.F__law_is_count.kp T.b__law_is_count .nil pass0 (pa_cons (pe_ix ix_tup (pv 2) pe_int (fun _ _ => rfl)) (pa_cons (pv 1) pa_nil)))))))))
      (pss_one (ps_ret pe_bl))
      pss_nil)
    (pss_one (ps_ret (pe_and (pe_call (ok_Lis_short T) (hr.mono (by decide)) (by rfl) T.g__law_is_short T.F__law_is_short.kp T.b__law_is_short .nil pass0 (pa_cons (pv 0) (pa_cons (pe_ix ix_tup (pv 2) pe_int (fun _ _ => rfl)) pa_nil))) (pe_one (pe_call (ok_Lis_short T) (hr.mono (by decide)) (by rfl) T.g__law_is_short T.F__law_is_short.kp T.b__law_is_short .nil pass0 (pa_cons (pv 0) (pa_cons (pe_ix ix_tup (pv 2) pe_int (fun _ _ => rfl)) pa_nil))))))))), ?_⟩
    obtain ⟨s, n, v, d, rfl, hd, hz, q⟩ := h
    refine ⟨v, rfl, rfl, _, rfl, ?_⟩
    rw [isNone_non hd]
    cases e0 : isNone d with
    | true =>
      rw [e0] at q
      exact iteT (q H (Same.refl H))
    | false =>
      rw [e0, ff_or] at q
      refine iteF ⟨v, rfl, v, .ty "tuple", _, _, _, rfl, .ty "tuple", hd.ty, kTup d, _, rfl, ?_⟩
      cases e : isTup d with
      | false =>
        rw [moveB_tup e] at q
        exact iteT (iteT (q H (Same.refl H)))
      | true =>
        obtain ⟨a, xs, ds, rfl, rfl, ht, ha⟩ := dq_tup hd e
        refine iteF ⟨_, rfl, a, xs, rfl, .inr ht, rfl, _, rfl, ?_⟩
        rw [Lk.ne_int]
        by_cases hl : xs.length = 3
        · rw [decide_eq_true (show ((xs.length : Nat) : Int) = 3 by omega)]
          refine iteF ?_
          obtain ⟨x, y, z, d1, d2, d3, rfl, rfl, h1, h2, h3⟩ := ha.three hl
          have hw := light_tup hz
          have q : ∀ H', Same H H' → Q (.bl (shortB s d1 && (shortB s d2 && countB n d3))) H' := q
          refine ⟨_, rfl, a, _, 2, z, rfl, rfl, ht, rfl, _, rfl, n, z, d3, rfl, h3, _, rfl, ?_⟩
          cases e3 : countB n d3 with
          | false =>
            rw [e3, Bool.and_false, Bool.and_false] at q
            exact iteT (q H (Same.refl H))
          | true =>
            rw [e3, Bool.and_true] at q
            refine iteF ⟨_, rfl, _, rfl, a, _, 0, x, rfl, rfl, ht, rfl, s, x, d1, rfl, h1, hw d1 (by simp), fun H1 s1 => ⟨_, rfl, ?_⟩⟩
            cases e1 : shortB s d1 with
            | false =>
              rw [e1] at q
              exact iteF (q H1 s1)
            | true =>
              rw [e1, tt_and] at q
              exact iteT ⟨_, rfl, _, rfl, a, _, 1, y, rfl, rfl, seqT s1 ht, rfl, s, y, d2, rfl, h2.mono s1, hw d2 (by simp), fun H2 s2 => q H2 (Same.trans s1 s2)⟩
        · rw [decide_eq_false (show ¬ ((xs.length : Nat) : Int) = 3 by omega)]
          rw [moveB_len (fun z => hl (ha.length.trans z))] at q
          exact iteT (iteT (q H (Same.refl H)))
end
end K02

namespace K02
open PySem PySem.Spec PyProof.Rows L2 G Lk
section
variable {P : Program} {w : World} {K : PySem.W.Frag} {mg : Str → Option Value} {base : Heap}
def sp_Lis_state (K : PySem.W.Frag) : Sp := fun vs H Q _ => ∃ (s : Str) (n : Int) (v : V) (d : PyData), vs = [.str s, .int n, v] ∧ Dq K H v d ∧ Light d ∧ s.length ≤ 4 ∧ ∀ H', Same H H' → Q (.bl (stateB s n d)) H'
/-- def _law_is_state(signs, many, thing): -/
theorem ok_Lis_state (T : Tx K mg) : FnOk P w K mg base CX0 3 T.a__law_is_state T.fd__law_is_state ["signs", "many", "thing"] (sp_Lis_state K) := by
  refine T.F__law_is_state.ok sc_Lis_state (fun vs H Q E h => ?_) (fun cdv A outer s H vs Q E hr h => ?_)
  · obtain ⟨_, _, _, _, rfl, _⟩ := h
    rfl
  · refine ⟨_, (pss_cons (ps_if (PW.pt (pw_or (pt_not (pt_val (pe_callB call_isi (by rfl) T.z_isinstance (by decide +kernel) (pa_cons (pv 2) (pa_cons (pe_bltn (v := .ty "tuple") (by rfl) T.z_tuple (by decide +kernel) rfl) pa_nil))))) (pw_or (pt_cmpR op_ne (pe_callB call_len_seq (by rfl) T.z_len PySem.boot_len (pa_cons (pv 2) pa_nil)) pe_int (nomark _)) (pw_or1 (pt_not (pt_val (pe_callB call_isi (by rfl) T.z_isinstance (by decide +kernel) (pa_cons (pe_ix ix_tup (pv 2) pe_int (fun _ _ => rfl)) (pa_cons (pe_bltn (v := .ty "tuple") (by rfl) T.z_tuple (by decide +kernel) rfl) pa_nil)))))))))
      (pss_one (ps_ret pe_bl))
      pss_nil)
    (pss_cons (ps_if (pt_cmpR op_ne (pe_callB call_len_seq (by rfl) T.z_len PySem.boot_len (pa_cons (pe_ix ix_tup (pv 2) pe_int (fun _ _ => rfl)) pa_nil)) (pe_callB call_len_str (by rfl) T.z_len PySem.boot_len (pa_cons (pv 0) pa_nil)) (nomark _))
      (pss_one (ps_ret pe_bl))
      pss_nil)
    (pss_cons (ps_if (PW.pt (pw_and (pt_cmpR op_notN (pe_ix ix_tup (pv 2) pe_int (fun _ _ => rfl)) pe_non (nomark _)) (pw_and1 (pt_not (pt_val (pe_call (ok_Lis_short T) (hr.mono (by decide)) (by rfl) T.g__law_is_short T.F__law_is_short.kp T.b__law_is_short .nil pass0 (pa_cons (pv 0) (pa_cons (pe_ix ix_tup (pv 2) pe_int (fun _ _ => rfl)) pa_nil))))))))
      (pss_one (ps_ret pe_bl))
      pss_nil)
    (pss_one (ps_ret (pe_cmpR (op_eqD hr.units) (pe_lc (own := [("move", 3)]) (g := gName 3) (by rfl) sc_Lis_state.nd (pi_tup (pe_ix ix_tup (pv 2) pe_int (fun _ _ => rfl))) (blkOk_by (own := [("move", 3)]) (N := N_Lis_state) (sc := defScope s_Lis_state) (by decide +kernel)) (fun _ _ _ _ _ => pg_name (i := 3) sc_Lis_state.nd rfl (by first | exact Or.inl rfl | exact Or.inr rfl)) (fun _ _ _ _ _ => (pts_one (pt_not (pt_val (pe_call (ok_Lis_move T) (hr.mono (by decide)) (by rfl) T.g__law_is_move T.F__law_is_move.kp T.b__law_is_move .nil pass0 (pa_cons (pv 0) (pa_cons (pv 1) (pa_cons (pv 3) pa_nil)))))))) (fun _ _ _ _ _ => pe_int)) (pe_lst pa_nil) (nomark _))))))), ?_⟩
    obtain ⟨s, n, v, d, rfl, hd, hz, hs4, q⟩ := h
    refine ⟨v, rfl, v, .ty "tuple", _, _, _, rfl, .ty "tuple", hd.ty, kTup d, _, rfl, ?_⟩
    cases e : isTup d with
    | false =>
      rw [stateB_tup e] at q
      exact iteT (iteT (q H (Same.refl H)))
    | true =>
      obtain ⟨a, xs, ds, rfl, rfl, ht, ha⟩ := dq_tup hd e
      refine iteF ⟨_, rfl, a, xs, rfl, .inr ht, rfl, _, rfl, ?_⟩
      rw [Lk.ne_int]
      by_cases hl : xs.length = 2
      · rw [decide_eq_true (show ((xs.length : Nat) : Int) = 2 by omega)]
        refine iteF ?_
        obtain ⟨x, y, d1, d2, rfl, rfl, h1, h2⟩ := ha.two hl
        have hw := light_tup hz
        refine ⟨_, rfl, a, _, 0, x, rfl, rfl, ht, rfl, x, .ty "tuple", _, _, _, rfl, .ty "tuple", h1.ty, kTup d1, _, rfl, ?_⟩
        cases e1 : isTup d1 with
        | false =>
          rw [stateB_first e1] at q
          exact iteT (q H (Same.refl H))
        | true =>
          obtain ⟨a1, ms, es, rfl, rfl, ht1, ha1⟩ := dq_tup h1 e1
          have hw1 := hw _ (List.mem_cons_self ..)
          refine iteF ⟨_, rfl, a, _, 0, _, rfl, rfl, ht, rfl, a1, ms, rfl, .inr ht1, _, rfl, s, rfl, Nat.le_trans hs4 (by decide), rfl, _, rfl, ?_⟩
          rw [Lk.ne_int]
          have q : ∀ H', Same H H' → Q (.bl (decide (es.length = s.length) && ((isNone d2 || shortB s d2) && es.all fun m => isNone m || moveB s n m))) H' := q
          by_cases hl1 : ms.length = s.length
          · rw [decide_eq_true (show ((ms.length : Nat) : Int) = ((s.length : Nat) : Int) by omega)]
            rw [decide_eq_true (show es.length = s.length from ha1.length.symm.trans hl1)] at q
            refine iteF ?_
            rw [tt_and] at q
            refine ⟨_, rfl, a, _, 1, y, rfl, rfl, ht, rfl, rfl, _, rfl, ?_⟩
            rw [isNone_non h2]
            cases e4 : isNone d2 with
            | true =>
              rw [e4, tt_or, tt_and] at q
              refine iteF ?_
              refine ⟨_, rfl, a, _, 0, _, rfl, rfl, seqT (Same.refl H) ht, rfl, a1, rfl, ⟨_, seqT (Same.refl H) ht1⟩, fun D nD => ?_⟩
              refine lc_ones (fun m => isNone m || moveB s n m) (seqT (Same.refl H) ht1) (ha1.mono (Same.refl H)) nD (by omega) (fun x d H2 Nxt Els s2 hx hm k1 k2 => ?_) (fun H2 s2 hD => ?_)
              · refine ⟨rfl, _, rfl, _, rfl, x, rfl, s, n, x, d, rfl, hx, light_tup hw1 d hm, fun H3 s3 => ⟨_, rfl, ?_⟩⟩
                cases e4 : isNone d || moveB s n d with
                | true => exact iteF (k2 e4 H3 s3)
                | false => exact iteT (k1 e4 H3 s3)
              · refine ⟨Nat.zero_le _, fun l nl => ?_⟩
                have s3 := same_new (o := .lst []) nl
                refine ⟨.list ((onesOf (fun m => isNone m || moveB s n m) es).map PyData.int), .list [], .lst (SqL.of (s3 _ _ hD)) (dq_ints _), .lst (SqL.of upd_same) .nil, shaped_ints _, shaped_ints [], ?_⟩
                rw [eqv_nil_ints, onesOf_nil]
                exact q _ (Same.trans (Same.refl H) (Same.trans s2 s3))
            | false =>
              rw [e4, ff_or] at q
              refine iteT ⟨_, rfl, _, rfl, a, _, 1, y, rfl, rfl, ht, rfl, s, y, d2, rfl, h2, hw d2 (by simp), fun H1 s1 => ⟨_, rfl, ?_⟩⟩
              cases e5 : shortB s d2 with
              | false =>
                rw [e5, ff_and] at q
                exact iteT (q H1 s1)
              | true =>
                rw [e5, tt_and] at q
                refine iteF ?_
                refine ⟨_, rfl, a, _, 0, _, rfl, rfl, seqT s1 ht, rfl, a1, rfl, ⟨_, seqT s1 ht1⟩, fun D nD => ?_⟩
                refine lc_ones (fun m => isNone m || moveB s n m) (seqT s1 ht1) (ha1.mono s1) nD (by omega) (fun x d H2 Nxt Els s2 hx hm k1 k2 => ?_) (fun H2 s2 hD => ?_)
                · refine ⟨rfl, _, rfl, _, rfl, x, rfl, s, n, x, d, rfl, hx, light_tup hw1 d hm, fun H3 s3 => ⟨_, rfl, ?_⟩⟩
                  cases e4 : isNone d || moveB s n d with
                  | true => exact iteF (k2 e4 H3 s3)
                  | false => exact iteT (k1 e4 H3 s3)
                · refine ⟨Nat.zero_le _, fun l nl => ?_⟩
                  have s3 := same_new (o := .lst []) nl
                  refine ⟨.list ((onesOf (fun m => isNone m || moveB s n m) es).map PyData.int), .list [], .lst (SqL.of (s3 _ _ hD)) (dq_ints _), .lst (SqL.of upd_same) .nil, shaped_ints _, shaped_ints [], ?_⟩
                  rw [eqv_nil_ints, onesOf_nil]
                  exact q _ (Same.trans s1 (Same.trans s2 s3))
          · rw [decide_eq_false (show ¬ ((ms.length : Nat) : Int) = ((s.length : Nat) : Int) by omega)]
            rw [decide_eq_false (show ¬ es.length = s.length from fun z => hl1 (ha1.length.trans z))] at q
            exact iteT (q H (Same.refl H))
      · rw [decide_eq_false (show ¬ ((xs.length : Nat) : Int) = 2 by omega)]
        rw [stateB_len (fun z => hl (ha.length.trans z))] at q
        exact iteT (iteT (q H (Same.refl H)))
end
end K02

namespace K02
open PySem PySem.Spec PyProof.Rows L2 G Lk
section
variable {P : Program} {w : World} {K : PySem.W.Frag} {mg : Str → Option Value} {base : Heap}
def sp_Lis_expander (K : PySem.W.Frag) : Sp := fun vs H Q _ => ∃ (v : V) (d : PyData), vs = [v] ∧ Dq K H v d ∧ Light d ∧ ∀ H', Same H H' → Q (.bl (expB d)) H'
/-- def _law_is_expander(thing): -/
theorem ok_Lis_expander (T : Tx K mg) : FnOk P w K mg base CX0 4 T.a__law_is_expander T.fd__law_is_expander ["thing"] (sp_Lis_expander K) := by
  refine T.F__law_is_expander.ok sc_Lis_expander (fun vs H Q E h => ?_) (fun cdv A outer s H vs Q E hr h => ?_)
  · obtain ⟨_, _, rfl, _⟩ := h
    rfl
  · refine ⟨_, (pss_cons (ps_if (PW.pt (pw_or (pt_not (pt_val (pe_callB call_isi (by rfl) T.z_isinstance (by decide +kernel) (pa_cons (pv 0) (pa_cons (pe_bltn (v := .ty "tuple") (by rfl) T.z_tuple (by decide +kernel) rfl) pa_nil))))) (pw_or (pt_cmpR op_ne (pe_callB call_len_seq (by rfl) T.z_len PySem.boot_len (pa_cons (pv 0) pa_nil)) pe_int (nomark _)) (pw_or (pt_not (pt_val (pe_callB call_isi (by rfl) T.z_isinstance (by decide +kernel) (pa_cons (pe_ix ix_tup (pv 0) pe_int (fun _ _ => rfl)) (pa_cons (pe_bltn (v := .ty "str") (by rfl) T.z_str (by decide +kernel) rfl) pa_nil))))) (pw_or1 (pt_not (pt_chain op_le op_le pe_int (pe_callB call_len_str (by rfl) T.z_len PySem.boot_len (pa_cons (pe_ix ix_tup (pv 0) pe_int (fun _ _ => rfl)) pa_nil)) pe_int)))))))
      (pss_one (ps_ret pe_bl))
      pss_nil)
    (pss_cons (ps_asg (pe_tup (pa_cons pe_str (pa_cons (pe_ix ix_tup (pv 0) pe_int (fun _ _ => rfl)) (pa_cons (pe_ix ix_tup (pv 0) pe_int (fun _ _ => rfl)) pa_nil)))) (pg_tup rfl (pgs_cons (pg_name (i := 1) sc_Lis_expander.nd rfl (by first | exact Or.inl rfl | exact Or.inr rfl)) (pgs_cons (pg_name (i := 2) sc_Lis_expander.nd rfl (by first | exact Or.inl rfl | exact Or.inr rfl)) (pgs_cons (pg_name (i := 3) sc_Lis_expander.nd rfl (by first | exact Or.inl rfl | exact Or.inr rfl)) pgs_nil)))))
    (pss_cons (ps_if (PW.pt (pw_or (pt_cmpR (op_neD hr.units) (pe_lc (own := [("sign", 5)]) (g := gName 5) (by rfl) sc_Lis_expander.nd (pi_str (pv 2)) (blkOk_by (own := [("sign", 5)]) (N := N_Lis_expander) (sc := defScope s_Lis_expander) (by decide +kernel)) (fun _ _ _ _ _ => pg_name (i := 5) sc_Lis_expander.nd rfl (by first | exact Or.inl rfl | exact Or.inr rfl)) (fun _ _ _ _ _ => (pts_one (pt_cmpR op_notIn_sign (pv 5) (pv 1) (by rfl)))) (fun _ _ _ _ _ => pe_int)) (pe_lst pa_nil) (nomark _)) (pw_or1 (pt_cmpR op_ne (pe_join pe_str (pe_callB (Ls.cr_sortedT rfl) (by rfl) T.z_sorted (by decide +kernel) (pa_cons (pe_callTy (Ls.cr_setT rfl) (by rfl) T.z_set (by decide +kernel) (pa_cons (pv 2) pa_nil)) pa_nil))) (pv 2) (nomark _)))))
      (pss_one (ps_ret pe_bl))
      pss_nil)
    (pss_cons (ps_if (PW.pt (pw_or (pt_not (pt_val (pe_call (ok_Lis_short T) (hr.mono (by decide)) (by rfl) T.g__law_is_short T.F__law_is_short.kp T.b__law_is_short .nil pass0 (pa_cons (pv 2) (pa_cons (pe_ix ix_tup (pv 0) pe_int (fun _ _ => rfl)) pa_nil))))) (pw_or (pt_not (pt_val (pe_callB call_isi (by rfl) T.z_isinstance (by decide +kernel) (pa_cons (pv 3) (pa_cons (pe_bltn (v := .ty "tuple") (by rfl) T.z_tuple (by decide +kernel) rfl) pa_nil))))) (pw_or1 (pt_not (pt_chain op_le op_le pe_int (pe_callB call_len_seq (by rfl) T.z_len PySem.boot_len (pa_cons (pv 3) pa_nil)) pe_int))))))
      (pss_one (ps_ret pe_bl))
      pss_nil)
    (pss_one (ps_ret (pe_cmpR (op_eqD hr.units) (pe_lc (own := [("state", 4)]) (g := gName 4) (by rfl) sc_Lis_expander.nd (pi_tup (pv 3)) (blkOk_by (own := [("state", 4)]) (N := N_Lis_expander) (sc := defScope s_Lis_expander) (by decide +kernel)) (fun _ _ _ _ _ => pg_name (i := 4) sc_Lis_expander.nd rfl (by first | exact Or.inl rfl | exact Or.inr rfl)) (fun _ _ _ _ _ => (pts_one (pt_not (pt_val (pe_call (ok_Lis_state T) (hr.mono (by decide)) (by rfl) T.g__law_is_state T.F__law_is_state.kp T.b__law_is_state .nil pass0 (pa_cons (pv 2) (pa_cons (pe_callB (call_len_seq : CallR _ _ (rLenSeq K)) (by rfl) T.z_len PySem.boot_len (pa_cons (pv 3) pa_nil)) (pa_cons (pv 4) pa_nil)))))))) (fun _ _ _ _ _ => pe_int)) (pe_lst pa_nil) (nomark _)))))))), ?_⟩
    obtain ⟨v, d, rfl, hd, hz, q⟩ := h
    refine ⟨v, rfl, v, .ty "tuple", _, _, _, rfl, .ty "tuple", hd.ty, kTup d, _, rfl, ?_⟩
    cases e : isTup d with
    | false =>
      rw [expB_tup e] at q
      exact iteT (iteT (q H (Same.refl H)))
    | true =>
      obtain ⟨a, xs, ds, rfl, rfl, ht, ha⟩ := dq_tup hd e
      refine iteF ⟨_, rfl, a, xs, rfl, .inr ht, rfl, _, rfl, ?_⟩
      rw [Lk.ne_int]
      by_cases hl : xs.length = 3
      · rw [decide_eq_true (show ((xs.length : Nat) : Int) = 3 by omega)]
        refine iteF ?_
        obtain ⟨x, y, z, d1, d2, d3, rfl, rfl, h1, h2, h3⟩ := ha.three hl
        have hw := light_tup hz
        refine ⟨_, rfl, a, _, 0, x, rfl, rfl, ht, rfl, x, .ty "str", _, _, _, rfl, .ty "str", h1.ty, kStr d1, _, rfl, ?_⟩
        cases e1 : isStr d1 with
        | false =>
          rw [expB_first e1] at q
          exact iteT (iteT (q H (Same.refl H)))
        | true =>
          obtain ⟨s, rfl, rfl⟩ := dq_str h1 e1
          have hs := light_str (hw _ (List.mem_cons_self ..))
          have q : ∀ H', Same H H' → Q (.bl ((allIn "abcdefghijklmnopqrstuvwxyz" s && ((decide (1 ≤ s.length) && decide (s.length ≤ 4)) && Ls.ascB s)) && (shortB s d2 && statesB s d3))) H' := q
          have no : (decide (1 ≤ s.length) && decide (s.length ≤ 4)) = false → Q (.bl false) H := fun e => by
            have q := q H (Same.refl H)
            rw [e, ff_and, Bool.and_false, ff_and] at q
            exact q
          refine iteF ⟨_, rfl, a, _, 0, _, rfl, rfl, ht, rfl, s, rfl, hs, 1, _, rfl, rfl, _, rfl, ?_⟩
          by_cases l1 : 1 ≤ s.length
          · rw [decide_eq_true (show (1 : Int) ≤ ((s.length : Nat) : Int) by omega)]
            refine iteT ⟨_, _, rfl, rfl, _, rfl, ?_⟩
            by_cases l2 : s.length ≤ 4
            · rw [decide_eq_true (show ((s.length : Nat) : Int) ≤ 4 by omega)]
              rw [decide_eq_true l1, decide_eq_true l2, tt_and, tt_and] at q
              refine iteF ⟨_, rfl, a, _, 0, _, rfl, rfl, ht, rfl, _, rfl, a, _, 2, z, rfl, rfl, ht, rfl, (by show 3 ≤ sizeLine; decide), fun t nt => ?_⟩
              have s0 := same_new (o := .tup [.str "abcdefghijklmnopqrstuvwxyz", .str s, z]) nt
              refine ⟨t, _, rfl, SqT.of upd_same, rfl, _, _, rfl, _, _, rfl, _, _, rfl, rfl, ?_⟩
              refine ⟨_, rfl, s, rfl, fun D nD => ?_⟩
              refine lc_strange (s := "abcdefghijklmnopqrstuvwxyz") nD (by omega) (fun c H1 Nxt Els s1 k1 k2 => ?_) (fun H1 s1 hD => ?_)
              · refine ⟨rfl, _, rfl, _, rfl, c, _, rfl, rfl, _, rfl, ?_⟩
                cases ec : decide (c ∈ ("abcdefghijklmnopqrstuvwxyz" : Str).cps.toList) with
                | true => exact iteF (k2 ec)
                | false => exact iteT (k1 ec)
              · refine ⟨Nat.zero_le _, fun l nl => ?_⟩
                have s2 := same_new (o := .lst []) nl
                have sA := Same.trans s0 (Same.trans s1 s2)
                refine ⟨.list (((strange "abcdefghijklmnopqrstuvwxyz" s.cps.toList).map fun _ => (1 : Int)).map PyData.int), .list [], .lst (SqL.of (s2 _ _ hD)) (dq_ints _), .lst (SqL.of upd_same) .nil, shaped_ints _, shaped_ints [], _, rfl, ?_⟩
                rw [eqv_nil_ints, strange_ones]
                cases e2 : allIn "abcdefghijklmnopqrstuvwxyz" s with
                | false =>
                  rw [e2, ff_and, ff_and] at q
                  exact iteT (iteT (q _ sA))
                | true =>
                  rw [e2, tt_and] at q
                  refine iteF ?_
                  refine ⟨⟨_, rfl⟩, _, rfl, s, rfl, (by have : s.cps.size = s.length := rfl; omega), fun S nS => ?_⟩
                  have s3 := same_new (o := Ls.SetS w S (Ls.signsT s)) nS
                  refine ⟨S, s, rfl, upd_same, (by have : s.cps.size = s.length := rfl; omega), fun cs p iff mem lc np => ?_⟩
                  have s4 := same_new (o := .lst ((cs.map Ls.one).map V.str)) np
                  have sB := Same.trans sA (Same.trans s3 s4)
                  refine ⟨tx [], p, cs.map Ls.one, rfl, rfl, .inl (SqL.of upd_same), ?_, ?_⟩
                  · have e5 : ((cs.map Ls.one).map (·.length)).sum = cs.length := sum_ones cs
                    rw [e5]
                    show _ + _ * 0 ≤ _
                    have : s.cps.size = s.length := rfl
                    omega
                  refine ⟨_, rfl, rfl, _, rfl, ?_⟩
                  rw [asc_join iff]
                  cases e3 : Ls.ascB s with
                  | false =>
                    rw [e3, ff_and] at q
                    exact iteT (q _ sB)
                  | true =>
                    rw [e3, tt_and] at q
                    refine iteF ?_
                    refine ⟨_, rfl, _, rfl, a, _, 1, y, rfl, rfl, seqT sB ht, rfl, s, y, d2, rfl, h2.mono sB, hw d2 (by simp), fun H2 s5 => ⟨_, rfl, ?_⟩⟩
                    have sC := Same.trans sB s5
                    have h3' := h3.mono sC
                    cases e4 : shortB s d2 with
                    | false =>
                      rw [e4, ff_and] at q
                      exact iteT (iteT (q _ sC))
                    | true =>
                      rw [e4, tt_and] at q
                      refine iteF ⟨_, rfl, z, .ty "tuple", _, _, _, rfl, .ty "tuple", h3'.ty, kTup d3, _, rfl, ?_⟩
                      cases e5 : isTup d3 with
                      | false =>
                        rw [statesB_tup e5] at q
                        exact iteT (iteT (q _ sC))
                      | true =>
                        obtain ⟨a3, zs, es, rfl, rfl, ht3, ha3⟩ := dq_tup h3' e5
                        have hw3 : Light (.tuple es) := hw _ (by simp)
                        have q : ∀ H', Same H H' → Q (.bl ((decide (1 ≤ es.length) && decide (es.length ≤ 60)) && es.all (stateB s (es.length : Nat)))) H' := q
                        have hl3 := ha3.length
                        refine iteF ⟨_, rfl, a3, zs, rfl, .inr ht3, 1, _, rfl, rfl, _, rfl, ?_⟩
                        by_cases l3 : 1 ≤ es.length
                        · rw [decide_eq_true l3, tt_and] at q
                          rw [decide_eq_true (show (1 : Int) ≤ ((zs.length : Nat) : Int) by omega)]
                          refine iteT ⟨_, _, rfl, rfl, _, rfl, ?_⟩
                          by_cases l4 : es.length ≤ 60
                          · rw [decide_eq_true l4, tt_and] at q
                            rw [decide_eq_true (show ((zs.length : Nat) : Int) ≤ 60 by omega)]
                            refine iteF ⟨_, rfl, a3, rfl, ⟨_, ht3⟩, fun D2 nD2 => ?_⟩
                            refine lc_ones (stateB s (es.length : Nat)) ht3 ha3 nD2 (by omega) (fun x d H3 Nxt Els s6 hx hm k1 k2 => ?_) (fun H3 s6 hD3 => ?_)
                            · refine ⟨rfl, _, rfl, _, rfl, a3, zs, rfl, .inr (seqT s6 ht3), _, rfl, s, ((es.length : Nat) : Int), x, d, ?_, hx, light_tup hw3 d hm, l2, fun H4 s7 => ⟨_, rfl, ?_⟩⟩
                              · rw [hl3] <;> rfl
                              · cases e6 : stateB s (es.length : Nat) d with
                                | true => exact iteF (k2 e6 H4 s7)
                                | false => exact iteT (k1 e6 H4 s7)
                            · refine ⟨Nat.zero_le _, fun l2 nl2 => ?_⟩
                              have s7 := same_new (o := .lst []) nl2
                              refine ⟨.list ((onesOf (stateB s (es.length : Nat)) es).map PyData.int), .list [], .lst (SqL.of (s7 _ _ hD3)) (dq_ints _), .lst (SqL.of upd_same) .nil, shaped_ints _, shaped_ints [], ?_⟩
                              rw [eqv_nil_ints, onesOf_nil]
                              exact q _ (Same.trans sC (Same.trans s6 s7))
                          · rw [decide_eq_false l4, ff_and] at q
                            rw [decide_eq_false (show ¬ ((zs.length : Nat) : Int) ≤ 60 by omega)]
                            exact iteT (q _ sC)
                        · rw [decide_eq_false l3, ff_and, ff_and] at q
                          rw [decide_eq_false (show ¬ (1 : Int) ≤ ((zs.length : Nat) : Int) by omega)]
                          exact iteF ⟨_, rfl, iteT (q _ sC)⟩
            · rw [decide_eq_false (show ¬ ((s.length : Nat) : Int) ≤ 4 by omega)]
              exact iteT (no (by rw [decide_eq_false l2, Bool.and_false]))
          · rw [decide_eq_false (show ¬ (1 : Int) ≤ ((s.length : Nat) : Int) by omega)]
            exact iteF ⟨_, rfl, iteT (no (by rw [decide_eq_false l1, ff_and]))⟩
      · rw [decide_eq_false (show ¬ ((xs.length : Nat) : Int) = 3 by omega)]
        rw [expB_len (fun z => hl (ha.length.trans z))] at q
        exact iteT (iteT (q H (Same.refl H)))
end
end K02

namespace K02
open PySem PySem.Spec PyProof.Rows L2 G Lk
section
variable {P : Program} {w : World} {K : PySem.W.Frag} {mg : Str → Option Value} {base : Heap}
def sp_Lpick (K : PySem.W.Frag) : Sp := spPick K
/-- def _law_pick(pot, items): -/
theorem ok_Lpick (T : Tx K mg) : FnOk P w K mg base CX0 3 T.a__law_pick T.fd__law_pick ["pot", "items"] (sp_Lpick K) := by
  refine T.F__law_pick.ok sc_Lpick (fun vs H Q E h => ?_) (fun cdv A outer s H vs Q E hr h => ?_)
  · obtain ⟨_, _, _, _, rfl, _⟩ := h
    rfl
  · refine ⟨_, (pss_one (ps_ret (pe_ix ix_seq (pv 1) (pe_call (ok_Lbelow T) (hr.mono (by decide)) (by rfl) T.g__law_below T.F__law_below.kp T.b__law_below .nil pass0 (pa_cons (pv 0) (pa_cons (pe_callB call_len (by rfl) T.z_len PySem.boot_len (pa_cons (pv 1) pa_nil)) pa_nil))) (fun _ _ => rfl)))), ?_⟩
    obtain ⟨a, c, v, xs, rfl, hp, hne, hx, hl, q⟩ := h
    have hpos : 0 < xs.length := List.length_pos_iff.mpr hne
    refine ⟨_, rfl, _, rfl, _, rfl, ?_⟩
    have fin : ∀ (H' : Hp) (k : Int), 0 ≤ k → k < (xs.length : Int) → ∃ x, xs[k.toNat]? = some x ∧ atI xs k = some x ∧ x ∈ xs := fun H' k k0 k1 => by
      have hk : k.toNat < xs.length := by omega
      refine ⟨xs[k.toNat], List.getElem?_eq_getElem hk, ?_, List.getElem_mem hk⟩
      have e := atI_nat (xs := xs) (j := k.toNat) (List.getElem?_eq_getElem hk)
      rw [show ((k.toNat : Nat) : Int) = k by omega] at e
      exact e
    rcases hx with ⟨l, rfl, h1⟩ | ⟨l, rfl, h1⟩ | ⟨z, rfl, rfl, hz⟩
    · refine ⟨_, xs.length, rfl, .inl ⟨_, seqL sans_same h1, rfl⟩, a, c, _, rfl, hp, by omega, by omega, fun H' k sm hp' k0 k1 => ?_⟩
      obtain ⟨x, e1, e2, e3⟩ := fin H' k k0 k1
      exact .inl ⟨l, xs, k, x, rfl, rfl, seqL sm.same h1, e2, q H' x sm hp' e3⟩
    · refine ⟨_, xs.length, rfl, .inr ⟨_, seqT sans_same h1, rfl⟩, a, c, _, rfl, hp, by omega, by omega, fun H' k sm hp' k0 k1 => ?_⟩
      obtain ⟨x, e1, e2, e3⟩ := fin H' k k0 k1
      exact .inr (.inl ⟨l, xs, k, x, rfl, rfl, seqT sm.same h1, e2, q H' x sm hp' e3⟩)
    · refine ⟨_, z.length, rfl, ⟨hz, rfl⟩, a, c, _, rfl, hp, by rw [sg_len] at hpos; omega, by rw [sg_len] at hl; omega, fun H' k sm hp' k0 k1 => ?_⟩
      have hk : k.toNat < (sg z).length := by rw [sg_len]; omega
      obtain ⟨c, e1, e2⟩ := sg_get hk
      have e3 := atI_nat (xs := z.cps.toList) (j := k.toNat) e2
      rw [show ((k.toNat : Nat) : Int) = k by omega] at e3
      exact .inr (.inr ⟨z, k, c, rfl, rfl, hz, e3, q H' _ sm hp' (e1 ▸ List.getElem_mem hk)⟩)
end
end K02

namespace K02
open PySem PySem.Spec PyProof.Rows L2 G Lk
section
variable {P : Program} {w : World} {K : PySem.W.Frag} {mg : Str → Option Value} {base : Heap}
def sp_Lplainer (K : PySem.W.Frag) : Sp := fun vs H Q _ => ∃ (v : V) (d : PyData) (z : Str) (n : Nat), vs = [v] ∧ Dq K H v d ∧ StateD z n d ∧ z.length ≤ 4 ∧
  ∀ (H' : Hp) (v' : V) (d' : PyData), Same H H' → Dq K H' v' d' → StateD z n d' → Q v' H'
/-- def _law_plainer(state): -/
theorem ok_Lplainer (T : Tx K mg) : FnOk P w K mg base CX0 1 T.a__law_plainer T.fd__law_plainer ["state"] (sp_Lplainer K) := by
  refine T.F__law_plainer.ok sc_Lplainer (fun vs H Q E h => ?_) (fun cdv A outer s H vs Q E hr h => ?_)
  · obtain ⟨_, _, _, _, rfl, _⟩ := h
    rfl
  · refine ⟨_, (pss_one (ps_ret (pe_tup (pa_cons (pe_callTy call_tuple_of (by rfl) T.z_tuple (by decide +kernel) (pa_cons (pe_lc (own := [("move", 1)]) (g := gName 1) (by rfl) sc_Lplainer.nd (pi_tup (pe_ix ix_tup (pv 0) pe_int (fun _ _ => rfl))) (blkOk_by (own := [("move", 1)]) (N := N_Lplainer) (sc := defScope s_Lplainer) (by decide +kernel)) (fun _ _ _ _ _ => pg_name (i := 1) sc_Lplainer.nd rfl (by first | exact Or.inl rfl | exact Or.inr rfl)) (fun _ _ _ _ _ => pts_nil) (fun _ _ _ _ _ => (pe_ifExp (pt_cmpR op_isN (pv 1) pe_non (nomark _)) pe_non (pe_tup (pa_cons (pe_ix (ix_tup : IxR _ (rIxT K)) (pv 1) pe_int (fun _ _ => rfl)) (pa_cons pe_str (pa_cons (pe_ix (ix_tup : IxR _ (rIxT K)) (pv 1) pe_int (fun _ _ => rfl)) pa_nil))))))) pa_nil)) (pa_cons (pe_ix ix_tup (pv 0) pe_int (fun _ _ => rfl)) pa_nil))))), ?_⟩
    obtain ⟨v, d, z, n, rfl, hd, ⟨ms, l, rfl, hm, hms, hl⟩, hz, q⟩ := h
    obtain ⟨a, xs, rfl, h1, h2⟩ := hd.items
    obtain ⟨x, ys, rfl, hx, h2⟩ := h2.one
    obtain ⟨y, ys, rfl, hy, h2⟩ := h2.one
    obtain rfl := h2.none
    obtain ⟨t, zs, rfl, h3, h4⟩ := hx.items
    have hlen := h4.length
    refine ⟨_, rfl, a, _, 0, _, rfl, rfl, h1, rfl, t, rfl, ⟨_, h3⟩, fun D nD => ?_⟩
    refine lc_tup (xs := zs) (fun i H' => Same H H' ∧ ∃ us es, H' D = some (.lst us) ∧ us.length = i ∧ DqAll K (sans H' D) us es ∧ ∀ d ∈ es, MoveD z n d) ⟨same_new nD, [], [], upd_same, rfl, .nil, fun _ h => (List.not_mem_nil h).elim⟩ (fun _ _ _ p => seqT p.1 h3) ?_ ?_
    · rintro i m H1 hmi ⟨s1, us, es, hu, lu, hA, hE⟩
      obtain ⟨e, he, hem, _, hq⟩ := dqAll_get' (h4.mono s1) hmi
      have hi : i < zs.length := (List.getElem?_eq_some_iff.mp hmi).1
      have fin : ∀ (H2 : Hp) (y' : V) (e' : PyData), Same H1 H2 → Dq K (sans H2 D) y' e' → MoveD z n e' → ∃ acc, H2 D = some (.lst acc) ∧ acc.length < sizeLine ∧
          (Same H (upd H2 D (.lst (acc ++ [y']))) ∧ ∃ us es, upd H2 D (.lst (acc ++ [y'])) D = some (.lst us) ∧ us.length = i + 1 ∧ DqAll K (sans (upd H2 D (.lst (acc ++ [y']))) D) us es ∧ ∀ d ∈ es, MoveD z n d) := fun H2 y' e' s2 hy' hm' => by
        refine ⟨us, s2 _ _ hu, Nat.lt_of_le_of_lt (show us.length ≤ 4 by omega) (by decide), fun b o eb => (upd_ne (ne_of_none eb nD)).trans (s2 _ _ (s1 _ _ eb)), us ++ [y'], es ++ [e'], upd_same, by rw [List.length_append, lu]; rfl, ?_, ?_⟩
        · have sm : Sm D H2 (upd H2 D (.lst (us ++ [y']))) := Sm.pot
          exact ((hA.mono (Sm.of s2)).mono sm).append (.cons (hy'.mono sm) .nil)
        · intro d hd
          rcases List.mem_append.mp hd with z | z
          · exact hE d z
          · rw [List.mem_singleton.mp z]
            exact hm'
      rcases hms e hem with rfl | ⟨b, c, g, rfl, hb, hc, hg⟩
      · obtain rfl := hq.noneV
        refine ⟨rfl, _, rfl, rfl, _, rfl, ?_⟩
        exact iteT (fin H1 .non .none (Same.refl _) .non (.inl rfl))
      · obtain ⟨p, ps, rfl, hp, hp2⟩ := hq.items
        obtain ⟨x1, ps, rfl, hx1, hp2⟩ := hp2.one
        obtain ⟨x2, ps, rfl, hx2, hp2⟩ := hp2.one
        obtain ⟨x3, ps, rfl, hx3, hp2⟩ := hp2.one
        obtain rfl := hp2.none
        obtain rfl := hx1.strV
        obtain rfl := hx2.strV
        obtain rfl := hx3.intV
        refine ⟨rfl, _, rfl, rfl, _, rfl, ?_⟩
        refine iteF ⟨_, rfl, p, _, 0, _, rfl, rfl, hp, rfl, _, rfl, p, _, 2, _, rfl, rfl, hp, rfl, (by show 3 ≤ sizeLine; decide), fun r nr => ?_⟩
        have nrD : r ≠ D := (ne_of_none hu nr).symm
        refine fin _ _ (.tuple [.str b, .str "", .int (g : Int)]) (same_new nr) ?_ (.inr ⟨b, "", g, rfl, hb, ⟨Nat.zero_le _, fun c h => by cases h⟩, hg⟩)
        exact .tup (SqT.of (sans_of nrD upd_same)) (.cons (.str _) (.cons (.str _) (.cons (.int _) .nil)))
    · rintro H1 ⟨s1, us, es, hu, lu, hA, hE⟩
      refine ⟨D, us, rfl, .inl ⟨SqL.of hu, fun p np => ?_⟩⟩
      have s2 := same_new (o := .tup us) np
      refine ⟨_, rfl, a, _, 1, y, rfl, rfl, seqT (Same.trans s1 s2) h1, rfl, (by show 2 ≤ sizeLine; decide), fun r nr => ?_⟩
      have s3 := same_new (o := .tup [.ref p, y]) nr
      have sA := Same.trans s1 (Same.trans s2 s3)
      refine q _ _ (.tuple [.tuple es, l]) sA ?_ ⟨es, l, rfl, ?_, hE, hl⟩
      · refine .tup (SqT.of upd_same) (.cons (.tup (SqT.of (s3 _ _ upd_same)) ?_) (.cons (hy.mono sA) .nil))
        exact (hA.mono sans_same).mono (Same.trans s2 s3)
      · rw [← hA.length, lu, hlen, hm]
end
end K02

namespace K02
open PySem PySem.Spec PyProof.Rows L2 G Lk
section
variable {P : Program} {w : World} {K : PySem.W.Frag} {mg : Str → Option Value} {base : Heap}
/-- a new pot -/
def sp_Lpot_of (K : PySem.W.Frag) : Sp := fun vs H Q _ => ∃ (a : Addr) (ns : List Int), vs = [.ref a] ∧ SqL K H a (ns.map V.int) ∧ ns.length ≤ 63 ∧
  ∀ (H' : Hp) (p c : Addr), Same H H' → H p = none → Pot K H' p c → Q (.ref p) H'
/-- def _law_pot_of(script): -/
theorem ok_Lpot_of (T : Tx K mg) : FnOk P w K mg base CX0 1 T.a__law_pot_of T.fd__law_pot_of ["script"] (sp_Lpot_of K) := by
  refine T.F__law_pot_of.ok sc_Lpot_of (fun vs H Q E h => ?_) (fun cdv A outer s H vs Q E hr h => ?_)
  · obtain ⟨_, _, rfl, _⟩ := h
    rfl
  · refine ⟨_, (pss_cons (ps_setLc (i := 1) (own := [("cell", 3)]) (g := gName 3) (by rfl) sc_Lpot_of.nd rfl rfl (sw_true rfl rfl rfl (by decide +kernel)) (pi_list (pe_slice sl_list (pv 0) po_none (po_some pe_int))) (blkOk_by (own := [("cell", 3)]) (N := N_Lpot_of) (sc := defScope s_Lpot_of) (by decide +kernel)) (fun _ _ _ _ _ => pg_name (i := 3) sc_Lpot_of.nd rfl (by first | exact Or.inl rfl | exact Or.inr rfl)) (fun _ _ _ _ _ => pts_nil) (fun _ _ _ _ _ => (pe_callB call_abs (by rfl) T.z_abs (by decide +kernel) (pa_cons (pv 3) pa_nil))))
    (pss_cons (ps_for PassesOwn.never rfl (pi_enum (by rfl) T.z_enumerate (pa_cons (pe_slice sl_list (pv 0) (po_some pe_int) (po_some pe_int)) pa_nil)) (pg_tup rfl (pgs_cons (pg_name (i := 2) sc_Lpot_of.nd rfl (by first | exact Or.inl rfl | exact Or.inr rfl)) (pgs_cons (pg_name (i := 3) sc_Lpot_of.nd rfl (by first | exact Or.inl rfl | exact Or.inr rfl)) pgs_nil)))
      (pss_one (ps_asg (pe_op op_add (pe_ix ix_list (pv 1) (pe_op op_mod (pv 2) pe_int) (fun _ _ => rfl)) (pe_callB call_abs (by rfl) T.z_abs (by decide +kernel) (pa_cons (pv 3) pa_nil))) (pg_sub (pv 1) (pe_op op_mod (pv 2) pe_int) set_list))))
    (pss_one (ps_ret (pe_lst (pa_cons (pv 1) (pa_cons pe_int (pa_cons pe_int (pa_cons pe_int pa_nil))))))))), ?_⟩
    obtain ⟨a, ns, rfl, hS, hlen, q⟩ := h
    refine ⟨_, rfl, _, rfl, a, _, rfl, hS, fun e ne => ?_⟩
    have s1 : Same H (upd H e (.lst (cutV (ns.map V.int) none (some 17)))) := same_new ne
    have e17 : cutV (ns.map V.int) none (some 17) = (ns.take 17).map V.int := by
      rw [show (17 : Int) = ((17 : Nat) : Int) from rfl, cutV_to, List.map_take]
    have hE : (upd H e (.lst (cutV (ns.map V.int) none (some 17)))) e = some (.lst ((ns.take 17).map V.int)) := by
      rw [upd_same, e17]
    generalize upd H e (.lst (cutV (ns.map V.int) none (some 17))) = H1 at s1 hE
    refine ⟨e, rfl, ⟨_, SqL.of hE⟩, fun D hD => ?_⟩
    have neD : e ≠ D := ne_of_none hE hD
    refine lc_list (K := K) (a := e) (xs := (ns.take 17).map V.int) (fun i H' => Same H1 H' ∧ ∃ ms : List Int, ms.length = i ∧ H' D = some (.lst (ms.map V.int)))
      ⟨same_new hD, [], rfl, upd_same⟩ (fun i H' _ ⟨s, _⟩ => seqL s (SqL.of hE)) ?_ ?_
    · rintro i x H' hi ⟨s, ms, hm, hD'⟩
      obtain ⟨n, rfl⟩ : ∃ n, x = V.int n := by
        rw [List.getElem?_map, Option.map_eq_some_iff] at hi
        obtain ⟨n, _, rfl⟩ := hi
        exact ⟨n, rfl⟩
      have h17 : i < 17 := by
        have z := (List.getElem?_eq_some_iff.mp hi).1
        rw [List.length_map, List.length_take] at z
        omega
      refine ⟨rfl, _, rfl, _, rfl, _, hD', ?_, ?_, ms ++ [if n < 0 then -n else n], ?_, ?_⟩
      · rw [List.length_map, hm]
        exact Nat.lt_trans h17 (by decide)
      · exact fun b o z => (upd_ne (ne_of_none z hD)).trans (s b o z)
      · rw [List.length_append, hm]
        rfl
      · rw [upd_same, List.map_append]
        rfl
    · rintro H2 ⟨s2, ms, hm, hD2⟩
      rw [List.length_map, List.length_take] at hm
      have sH : Same H H2 := s1.trans s2
      have hDH : H D = none := s1.free hD
      have hS2 : SqL K H2 a (ns.map V.int) := sH.seq hS
      refine ⟨_, rfl, _, rfl, _, rfl, a, _, rfl, hS2, fun f nf => ?_⟩
      have nDf : D ≠ f := ne_of_none hD2 nf
      have e43 : cutV (ns.map V.int) (some 17) (some 60) = ((ns.drop 17).take 43).map V.int := by
        unfold cutV
        rw [show (17 : Int) = ((17 : Nat) : Int) from rfl, show (60 : Int) = ((60 : Nat) : Int) from rfl, HT.sIx_nat, HT.sIx_nat, List.map_take, List.map_drop, List.length_map]
        by_cases c : 17 ≤ ns.length
        · rw [Nat.min_eq_left c]
          by_cases c2 : 60 ≤ ns.length
          · rw [Nat.min_eq_left c2]
          · rw [Nat.min_eq_right (by omega : ns.length ≤ 60), List.take_of_length_le (by rw [List.length_drop, List.length_map]; omega), List.take_of_length_le (by rw [List.length_drop, List.length_map]; omega)]
        · rw [Nat.min_eq_right (by omega : ns.length ≤ 17), List.drop_of_length_le (by rw [List.length_map]; omega), List.drop_of_length_le (by rw [List.length_map]; omega)]
          simp
      have s3 : Same H (upd H2 f (.lst (cutV (ns.map V.int) (some 17) (some 60)))) := sH.trans (same_new nf)
      have hF : (upd H2 f (.lst (cutV (ns.map V.int) (some 17) (some 60)))) f = some (.lst (((ns.drop 17).take 43).map V.int)) := by
        rw [upd_same, e43]
      have hD3 : (upd H2 f (.lst (cutV (ns.map V.int) (some 17) (some 60)))) D = some (.lst (ms.map V.int)) := by
        rw [upd_ne nDf]
        exact hD2
      generalize upd H2 f (.lst (cutV (ns.map V.int) (some 17) (some 60))) = H3 at s3 hF hD3
      refine ⟨f, _, rfl, SqL.of hF, ?_⟩
      generalize hg : (ns.drop 17).take 43 = gs at hF
      have h17 : 0 < gs.length → ms.length = 17 := fun z => by
        rw [← hg, List.length_take, List.length_drop] at z
        omega
      refine ⟨fun i m σ H' => ∃ (t2 t3 : Option V) (ks : List Int), σ = [some (.ref a), some (.ref D), t2, t3] ∧ m = gs.length - i ∧ Same H H' ∧ H' f = some (.lst (gs.map V.int)) ∧ H' D = some (.lst (ks.map V.int)) ∧ ks.length = ms.length,
        ⟨gs.length, none, none, ms, rfl, rfl, s3, hF, hD3, rfl⟩, ?_⟩
      rintro i m σ H' ⟨t2, t3, ks, rfl, em, sm, ef, ed, ek⟩
      by_cases hi : i < gs.length
      · have hg1 : (gs.map V.int)[i]? = some (.int gs[i]) := by
          rw [List.getElem?_map, List.getElem?_eq_getElem hi]
          rfl
        refine .inr ⟨⟨_, _, SqL.of ef, hg1⟩, fun σ' H'' => ∃ (t2 t3 : Option V) (ks : List Int), σ' = [some (.ref a), some (.ref D), t2, t3] ∧ Same H H'' ∧ H'' f = some (.lst (gs.map V.int)) ∧ H'' D = some (.lst (ks.map V.int)) ∧ ks.length = ms.length, ?_, ?_⟩
        · rintro σ' H'' ⟨u2, u3, ls, e1, e2, e3, e4, e5⟩
          exact ⟨gs.length - (i + 1), by omega, u2, u3, ls, e1, rfl, e2, e3, e4, e5⟩
        · rintro v H'' ⟨T0, x, rfl, nT, rfl, fx⟩
          obtain rfl : x = .int gs[i] := Option.some.inj ((fx _ (SqL.of ef)).symm.trans hg1)
          have nDT : D ≠ T0 := ne_of_none ed nT
          have nfT : f ≠ T0 := ne_of_none ef nT
          have hk := h17 (by omega)
          have sT : Same H' (upd H' T0 (.tup [.int ((i : Nat) : Int), .int gs[i]])) := same_new nT
          refine ⟨T0, _, rfl, SqT.of upd_same, rfl, _, _, rfl, _, _, rfl, rfl, ?_⟩
          have p17 : (0 : Int) < 17 := by decide
          have hz : (((i : Nat) : Int) % 17).toNat < ks.length := by
            have z1 := Int.emod_nonneg ((i : Nat) : Int) (by decide : (17 : Int) ≠ 0)
            have z2 := Int.emod_lt_of_pos ((i : Nat) : Int) p17
            omega
          have ez := Int.toNat_of_nonneg (Int.emod_nonneg ((i : Nat) : Int) (by decide : (17 : Int) ≠ 0))
          have e3 := atI_nat (xs := ks.map V.int) (j := (((i : Nat) : Int) % 17).toNat) (v := .int ks[(((i : Nat) : Int) % 17).toNat]) (by rw [List.getElem?_map, List.getElem?_eq_getElem hz]; rfl)
          have e4 : ixN (ks.map V.int).length (((i : Nat) : Int) % 17) = some (((i : Nat) : Int) % 17).toNat := by
            have z := ixN_nat (n := (ks.map V.int).length) (j := (((i : Nat) : Int) % 17).toNat) (by rw [List.length_map]; exact hz)
            rw [ez] at z
            exact z
          rw [ez] at e3
          have ed2 : (upd H' T0 (.tup [.int ((i : Nat) : Int), .int gs[i]])) D = some (.lst (ks.map V.int)) := sT _ _ ed
          refine ⟨_, rfl, _, rfl, _, _, rfl, rfl, p17, D, _, _, _, rfl, rfl, SqL.of ed2, e3, _, rfl, _, rfl, _, _, rfl, rfl, _, rfl, _, rfl, _, _, rfl, rfl, p17, D, _, _, _, rfl, rfl, ed2, e4, ?_⟩
          refine ⟨_, _, ks.set (((i : Nat) : Int) % 17).toNat (ks[(((i : Nat) : Int) % 17).toNat] + (if gs[i] < 0 then -gs[i] else gs[i])), rfl, ?_, ?_, ?_, ?_⟩
          · exact fun b o z => (upd_ne (ne_of_none z hDH)).trans (sT _ _ (sm b o z))
          · rw [upd_ne nDf.symm]
            exact sT _ _ ef
          · rw [upd_same, List.map_set]
          · rw [List.length_set]
            exact ek
      · refine .inl ⟨⟨_, SqL.of ef, by rw [List.length_map]; omega⟩, ?_⟩
        refine ⟨_, rfl, (by show 4 ≤ sizeLine; decide), fun p np => ?_⟩
        have nDp : D ≠ p := ne_of_none ed np
        refine q _ p D (sm.trans (same_new np)) (sm.free np) ⟨⟨0, 0, 0, upd_same⟩, ks, ?_, ?_⟩
        · refine SqL.of (sans_of nDp ?_)
          rw [upd_ne nDp]
          exact ed
        · omega
end
end K02

namespace K02
open PySem PySem.Spec PyProof.Rows L2 G Lk
section
variable {P : Program} {w : World} {K : PySem.W.Frag} {mg : Str → Option Value} {base : Heap}
def sp_Lsizes (K : PySem.W.Frag) : Sp := fun vs H Q _ => ∃ (v : V) (z f : Str) (ss : List PyData), vs = [v] ∧ Dq K H v (.tuple [.str z, .str f, .tuple ss]) ∧ SignsD z ∧ ss.length ≤ 4 ∧ (∀ s ∈ ss, StateD z ss.length s) ∧
  ∀ (H' : Hp) (d : Addr), Same H H' → H d = none → Sizes H' d 256 → Q (.ref d) H'
/-- def _law_sizes(expander): -/
theorem ok_Lsizes (T : Tx K mg) : FnOk P w K mg base CX0 2 T.a__law_sizes T.fd__law_sizes ["expander"] (sp_Lsizes K) := by
  refine T.F__law_sizes.ok sc_Lsizes (fun vs H Q E h => ?_) (fun cdv A outer s H vs Q E hr h => ?_)
  · obtain ⟨_, _, _, _, rfl, _⟩ := h
    rfl
  · refine ⟨_, (pss_cons (ps_set (i := 1) sc_Lsizes.nd rfl (by first | exact Or.inl rfl | exact Or.inr rfl) pe_dnewT)
    (pss_cons (ps_for PassesOwn.never rfl (pi_range1 (by rfl) T.z_range (pa_cons (pe_op op_mul (pe_callB call_len_seq (by rfl) T.z_len PySem.boot_len (pa_cons (pe_ix ix_tup (pv 0) pe_int (fun _ _ => rfl)) pa_nil)) (pe_callB call_len_str (by rfl) T.z_len PySem.boot_len (pa_cons (pe_ix ix_tup (pv 0) pe_int (fun _ _ => rfl)) pa_nil))) pa_nil)) (pg_name (i := 2) sc_Lsizes.nd rfl (by first | exact Or.inl rfl | exact Or.inr rfl))
      (pss_one (ps_for PassesOwn.never rfl (pi_list (pe_call (ok_Lcalls T) (hr.mono (by decide)) (by rfl) T.g__law_calls T.F__law_calls.kp T.b__law_calls .nil pass0 (pa_cons (pv 0) pa_nil))) (pg_tup rfl (pgs_cons (pg_name (i := 3) sc_Lsizes.nd rfl (by first | exact Or.inl rfl | exact Or.inr rfl)) (pgs_cons (pg_name (i := 4) sc_Lsizes.nd rfl (by first | exact Or.inl rfl | exact Or.inr rfl)) pgs_nil)))
      (pss_cons (ps_set (i := 5) sc_Lsizes.nd rfl (by first | exact Or.inl rfl | exact Or.inr rfl) (pe_ix ix_tup (pe_ix ix_tup (pe_ix ix_tup (pe_ix ix_tup (pv 0) pe_int (fun _ _ => rfl)) (pv 3) (fun _ _ => rfl)) pe_int (fun _ _ => rfl)) (pe_bm PySem.F.plainAttrs_str PySem.F.slot_str_index PySem.F.type_str_index mt_sindex (pe_ix ix_tup (pv 0) pe_int (fun _ _ => rfl)) (pa_cons (pv 4) pa_nil)) (fun _ _ => rfl)))
    (pss_one (ps_if (PW.pt (pw_and (pt_cmpR op_notN (pv 5) pe_non (nomark _)) (pw_and1 (pt_cmp (pc_dnotin (unit1 hr.units) (pe_tup (pa_cons (pv 3) (pa_cons (pv 4) pa_nil))) (pv 1))))))
      (pss_cons (ps_par (i := 7) (j := 8) (by rfl) sc_Lsizes.nd rfl rfl (by decide) rfl rfl (pa_cons (pe_callB call_len_str (by rfl) T.z_len PySem.boot_len (pa_cons (pe_ix ix_tup (pv 5) pe_int (fun _ _ => rfl)) pa_nil)) (pa_cons (pe_ix ix_tup (pv 5) pe_int (fun _ _ => rfl)) pa_nil)) (by rfl))
    (pss_cons (ps_for PassesOwn.never rfl (pi_str (pe_ix ix_tup (pv 5) pe_int (fun _ _ => rfl))) (pg_name (i := 6) sc_Lsizes.nd rfl (by first | exact Or.inl rfl | exact Or.inr rfl))
      (C8.pss_cut (ps_set (i := 9) sc_Lsizes.nd rfl (by first | exact Or.inl rfl | exact Or.inr rfl) (pe_ifExp (pt_cmpR op_notN (pv 8) pe_non (nomark _)) (pe_dget2 (unit1 hr.units) (pv 1) (pe_tup (pa_cons (pv 8) (pa_cons (pv 6) pa_nil))) (pe_tup (pa_cons pe_int (pa_cons pe_non pa_nil))) ⟨rfl, rfl, rfl, rfl⟩) (pe_tup (pa_cons pe_int (pa_cons pe_non pa_nil)))))
    (pss_one (ps_par (i := 7) (j := 8) (by rfl) sc_Lsizes.nd rfl rfl (by decide) rfl rfl (pa_cons (pe_op op_add (pv 7) (pe_ix ix_tup (pv 9) pe_int (fun _ _ => rfl))) (pa_cons (pe_ix ix_tup (pv 9) pe_int (fun _ _ => rfl)) pa_nil)) (by rfl)))))
    (pss_one (ps_if (pt_cmpR op_notN (pv 8) pe_non (nomark _))
      (pss_one (ps_dput (unit1 hr.units) (pv 1) (pe_tup (pa_cons (pv 3) (pa_cons (pv 4) pa_nil))) (pe_tup (pa_cons (pv 7) (pa_cons (pv 8) pa_nil))) (by rfl)))
      pss_nil))))
      pss_nil))))))
    (pss_one (ps_ret (pv 1))))), ?_⟩
    obtain ⟨v, z, f, ss, rfl, hd, hz, h4, hss, q⟩ := h
    obtain ⟨z1, z4, zc⟩ := hz.small
    have hzl : z.length ≤ sizeLine := Nat.le_trans z4 (by decide)
    obtain ⟨a, t, xs, rfl, ht, hts, hA⟩ := expV_of hd
    have hl := hA.length
    intro d nd
    have s0 := same_new (o := .dT []) nd
    have hN : ((xs.length : Nat) : Int) * ((z.length : Nat) : Int) = ((xs.length * z.length : Nat) : Int) := by rw [Int.natCast_mul]
    have hN2 : xs.length * z.length ≤ 4 * 4 := Nat.mul_le_mul (by omega) z4
    refine ⟨_, rfl, a, _, 2, _, rfl, rfl, seqT s0 ht, rfl, t, xs, rfl, .inr (seqT s0 hts), _, rfl, a, _, 0, _, rfl, rfl, seqT s0 ht, rfl, z, rfl, hzl, _, _, rfl, rfl, .inl ⟨by omega, by omega⟩, _, rfl, by omega, by omega, ?_⟩
    rw [hN, Int.toNat_natCast]
    refine for_range (n := xs.length * z.length) (fun i σ H' => ∃ s2 s3 s4 s5 s6 s7 s8 s9 : Option V, σ = [some (.ref a), some (.ref d), s2, s3, s4, s5, s6, s7, s8, s9] ∧ Same H H' ∧ Sizes H' d (16 * i))
      ⟨_, _, _, _, _, _, _, _, rfl, s0, [], upd_same, Nat.le_refl _, fun kv h => (List.not_mem_nil h).elim⟩ ?_ ?_
    · rintro i σ H1 hi ⟨s2, s3, s4, s5, s6, s7, s8, s9, rfl, sH1, hF⟩
      refine ⟨_, rfl, _, z, f, ss, rfl, hd.mono sH1, z4, h4, fun H2 l sH2 nl hc => ?_⟩
      obtain ⟨ys, hy, ly, hcv⟩ := hc
      have hF2 := hF.mono sH2 (Nat.le_refl _)
      have dl : l ≠ d := fun e => by
        obtain ⟨_, e', _⟩ := hF2
        rw [← e, hy] at e'
        cases e'
      refine ⟨l, rfl, ⟨ys, SqL.of hy⟩, for_list (xs := ys) (fun j σ H' => ∃ s2 s3 s4 s5 s6 s7 s8 s9 : Option V, σ = [some (.ref a), some (.ref d), s2, s3, s4, s5, s6, s7, s8, s9] ∧ Same H H' ∧ Sm d H2 H' ∧ Sizes H' d (16 * i + j))
        ⟨_, _, _, _, _, _, _, _, rfl, Same.trans sH1 sH2, Sm.refl, hF2⟩ (fun j σ H' _ ⟨_, _, _, _, _, _, _, _, _, _, sm, _⟩ => SqL.of (sm.at_ dl hy)) ?_ ?_⟩
      · rintro j x σ H3 hx ⟨s2, s3, s4, s5, s6, s7, s8, s9, rfl, sH3, sm3, kvs, hd3, lk, hkv⟩
        have hj : j < ys.length := (List.getElem?_eq_some_iff.mp hx).1
        obtain ⟨p, i0, c, rfl, hp, hi0, hc0⟩ := hcv x (List.mem_of_getElem? hx)
        have pd : ∀ {b : Addr} {us : List V} {G : Hp} {ks : List (List Key × V)}, G d = some (.dT ks) → G b = some (.tup us) → b ≠ d := fun e1 e2 e => by
          rw [e, e1] at e2
          cases e2
        have hp3 : H3 p = some (.tup [.int (i0 : Int), .str (Ls.one c)]) := by
          obtain ⟨_, e', _⟩ := hF2
          exact sm3.at_ (pd e' hp) hp
        obtain ⟨xi, di, hxi, hdi, hqi⟩ := dqAll_at hA hi0
        obtain ⟨pi, mi, li, ms, es, rfl, hpi, hmi, hms, les, hes⟩ := stateV hqi (hss di hdi)
        obtain ⟨k, rest, hocc, hk⟩ := place_of hc0
        obtain ⟨mv, md, hmv, hmd, hmq⟩ := dqAll_at hms (by rw [les]; exact hk)
        refine ⟨p, _, rfl, SqT.of hp3, rfl, _, _, rfl, _, _, rfl, rfl, ?_⟩
        refine ⟨_, rfl, a, _, 2, _, rfl, rfl, seqT sH3 ht, rfl, _, rfl, t, xs, (i0 : Int), _, rfl, rfl, seqT sH3 hts, atI_nat hxi, pi, _, 0, _, rfl, rfl, seqT sH3 hpi, rfl, _, rfl, a, _, 0, _, rfl, rfl, seqT sH3 ht, rfl, rfl, _, rfl, z, Ls.one c, k, rest, rfl, rfl, hocc, mi, ms, (k : Int), mv, rfl, rfl, seqT sH3 hmi, atI_nat hmv, ?_⟩
        have skip : ∀ (H' : Hp) (s2 s3 s4 s5 s6 s7 s8 s9 : Option V), Same H3 H' → ∃ t2 t3 t4 t5 t6 t7 t8 t9 : Option V, [some (V.ref a), some (V.ref d), s2, s3, s4, s5, s6, s7, s8, s9] = [some (.ref a), some (.ref d), t2, t3, t4, t5, t6, t7, t8, t9] ∧ Same H H' ∧ Sm d H2 H' ∧ Sizes H' d (16 * i + (j + 1)) := fun H' s2 s3 s4 s5 s6 s7 s8 s9 s => by
          refine ⟨_, _, _, _, _, _, _, _, rfl, Same.trans sH3 s, sm3.trans (Sm.of s), kvs, s _ _ hd3, by omega, fun kv h => (hkv kv h).mono (Sm.of s)⟩
        rcases moveV hmq (hes md hmd) with rfl | ⟨pm, m1, m2, g, rfl, hpm, hm1, hm2, hg⟩
        · refine ⟨_, rfl, rfl, _, rfl, ?_⟩
          exact iteF (iteF (skip H3 _ _ _ _ _ _ _ _ (Same.refl H3)))
        · refine ⟨_, rfl, rfl, _, rfl, ?_⟩
          refine iteT ⟨_, rfl, _, rfl, (by show 2 ≤ sizeLine; decide), fun p2 np2 => ?_⟩
          have s4 := same_new (o := .tup [.int (i0 : Int), .str (Ls.one c)]) np2
          refine ⟨_, rfl, d, valV kvs [.inl (i0 : Int), .inr (Ls.one c)], rfl, DGet.t (k := [.inl (i0 : Int), .inr (Ls.one c)]) (s4 _ _ hd3) upd_same, _, rfl, ?_⟩
          have hd4 := s4 _ _ hd3
          revert s4 hd4
          generalize upd H3 p2 (.tup [.int (i0 : Int), .str (Ls.one c)]) = H4
          intro s4 hd4
          have hkv4 : ∀ kv ∈ kvs, SizeV (sans H4 d) kv.2 := fun kv h => (hkv kv h).mono (Sm.of s4)
          have sH4 := Same.trans sH3 s4
          cases hv : valV kvs [.inl (i0 : Int), .inr (Ls.one c)] with
          | some w' => exact iteF (skip H4 _ _ _ _ _ _ _ _ s4)
          | none =>
            have hpm4 := seqT sH4 hpm
            refine iteT ⟨_, rfl, pm, _, 0, _, rfl, rfl, hpm4, rfl, m1, rfl, Nat.le_trans hm1.1 (by decide), _, rfl, pm, _, 2, _, rfl, rfl, hpm4, rfl, _, _, rfl, ?_⟩
            refine ⟨_, rfl, pm, _, 1, _, rfl, rfl, hpm4, rfl, m2, rfl, ?_⟩
            refine for_it walk_str (fun k σ H' => ∃ (s2 s6 s9 : Option V) (sz : Int) (hr : V), σ = [some (.ref a), some (.ref d), s2, some (.int (i0 : Int)), some (.str (Ls.one c)), some (.ref pm), s6, some (.int sz), some hr, s9] ∧ HereV hr ∧ Sm d H4 H' ∧ H' d = some (.dT kvs))
              ⟨_, _, _, _, _, rfl, .inr ⟨_, rfl⟩, Sm.refl, hd4⟩ (fun _ _ _ _ _ => trivial) ?_ ?_
            · rintro k1 x σ H5 H6 hk1 ⟨s2, s6, s9, sz, hr, rfl, hhr, sm5, hd5⟩ ⟨rfl, c1, hc1, rfl⟩
              refine ⟨fun σ H' => ∃ (r : Addr) (b : Int) (h2 : V), σ = [some (.ref a), some (.ref d), s2, some (.int (i0 : Int)), some (.str (Ls.one c)), some (.ref pm), some (.str (Ls.one c1)), some (.int sz), some hr, some (.ref r)] ∧ H' r = some (.tup [.int b, h2]) ∧ HereV h2 ∧ Same H6 H', ?_, ?_⟩
              · refine ⟨_, rfl, rfl, _, rfl, ?_⟩
                rcases hhr with rfl | ⟨g1, rfl⟩
                · refine iteF ⟨(by show 2 ≤ sizeLine; decide), fun r nr => ?_⟩
                  exact ⟨r, 0, .non, rfl, upd_same, .inl rfl, same_new nr⟩
                · refine iteT ⟨_, rfl, d, rfl, .inr ⟨kvs, .inl hd5⟩, _, rfl, _, rfl, (by show 2 ≤ sizeLine; decide), fun p3 np3 => ?_⟩
                  have s7 := same_new (o := .tup [.int g1, .str (Ls.one c1)]) np3
                  refine ⟨(by show 2 ≤ sizeLine; decide), fun p4 np4 => ?_⟩
                  have s8 := same_new (o := .tup [.int 0, .non]) np4
                  have sA := Same.trans s7 s8
                  refine ⟨valV kvs [.inl g1, .inr (Ls.one c1)], DGet.t (k := [.inl g1, .inr (Ls.one c1)]) (sA _ _ hd5) (s8 _ _ upd_same), ?_⟩
                  cases hv1 : valV kvs [.inl g1, .inr (Ls.one c1)] with
                  | none => exact ⟨p4, 0, .non, rfl, upd_same, .inl rfl, sA⟩
                  | some w' =>
                    obtain ⟨kv, hkvm, rfl⟩ := val_mem hv1
                    obtain ⟨pw, b, h2, e1, e2, e3⟩ := (hkv4 kv hkvm).mono sm5
                    rw [e1]
                    exact ⟨pw, b, h2, rfl, sA _ _ (sans_some e2).2, e3, sA⟩
              · rintro σ H7 ⟨r, b, h2, rfl, hr2, hh2, s7⟩
                refine ⟨_, rfl, _, rfl, r, _, 0, _, rfl, rfl, SqT.of hr2, rfl, _, _, rfl, rfl, _, rfl, r, _, 1, _, rfl, rfl, SqT.of hr2, rfl, _, _, rfl, ?_⟩
                exact ⟨_, _, _, _, _, rfl, hh2, sm5.trans (Sm.of s7), s7 _ _ hd5⟩
            · rintro σ H5 ⟨s2, s6, s9, sz, hr, rfl, hhr, sm5, hd5⟩
              refine ⟨_, rfl, rfl, _, rfl, ?_⟩
              have sH5 := Sm.same_of sH4 sm5 nd
              have smA := (sm3.trans (Sm.of s4)).trans sm5
              rcases hhr with rfl | ⟨g1, rfl⟩
              · refine iteF ?_
                exact ⟨_, _, _, _, _, _, _, _, rfl, sH5, smA, kvs, hd5, by omega, fun kv h => (hkv4 kv h).mono sm5⟩
              · refine iteT ⟨_, rfl, _, rfl, (by show 2 ≤ sizeLine; decide), fun p5 np5 => ?_⟩
                have s6 := same_new (o := .tup [.int sz, .int g1]) np5
                refine ⟨_, rfl, _, rfl, _, rfl, (by show 2 ≤ sizeLine; decide), fun p6 np6 => ?_⟩
                have s7 := same_new (o := .tup [.int (i0 : Int), .str (Ls.one c)]) np6
                have sB := Same.trans s6 s7
                have hd7 := sB _ _ hd5
                have hp5 : upd (upd H5 p5 (.tup [.int sz, .int g1])) p6 (.tup [.int (i0 : Int), .str (Ls.one c)]) p5 = some (.tup [.int sz, .int g1]) := s7 _ _ upd_same
                refine ⟨d, _, rfl, DPut.t (k := [.inl (i0 : Int), .inr (Ls.one c)]) hd7 upd_same (Nat.lt_of_le_of_lt (show kvs.length ≤ 300 by omega) (by decide)), ?_⟩
                have smP : Sm d (upd (upd H5 p5 (.tup [.int sz, .int g1])) p6 (.tup [.int (i0 : Int), .str (Ls.one c)])) (upd (upd (upd H5 p5 (.tup [.int sz, .int g1])) p6 (.tup [.int (i0 : Int), .str (Ls.one c)])) d (.dT (putK kvs [.inl (i0 : Int), .inr (Ls.one c)] (.ref p5)))) := Sm.pot
                refine ⟨_, _, _, _, _, _, _, _, rfl, Sm.same_of (Same.trans sH5 sB) smP nd, (smA.trans (Sm.of sB)).trans smP, _, upd_same, ?_, fun kv h => ?_⟩
                · have := length_putK kvs [.inl (i0 : Int), .inr (Ls.one c)] (.ref p5)
                  omega
                · rcases put_mem h with h | h
                  · exact (((hkv4 kv h).mono sm5).mono (Sm.of sB)).mono smP
                  · rw [h]
                    have n5 : p5 ≠ d := pd hd7 hp5
                    exact SizeV.mono ⟨p5, sz, .int g1, rfl, sans_of n5 hp5, .inr ⟨g1, rfl⟩⟩ smP
      · rintro σ H3 ⟨s2, s3, s4, s5, s6, s7, s8, s9, rfl, sH3, sm3, hF3⟩
        refine ⟨_, _, _, _, _, _, _, _, rfl, sH3, ?_⟩
        obtain ⟨kvs, e, lk, hkv⟩ := hF3
        exact ⟨kvs, e, by omega, hkv⟩
    · rintro σ H1 ⟨s2, s3, s4, s5, s6, s7, s8, s9, rfl, sH1, kvs, e, lk, hkv⟩
      exact ⟨_, rfl, q H1 d sH1 nd ⟨kvs, e, by omega, hkv⟩⟩
end
end K02

namespace K02
open PySem PySem.Spec PyProof.Rows L2 G Lk
section
variable {P : Program} {w : World} {K : PySem.W.Frag} {mg : Str → Option Value} {base : Heap}
def sp_Lsome_word (K : PySem.W.Frag) : Sp := fun vs H Q _ => ∃ (a c : Addr) (z : Str) (m : Int), vs = [.ref a, .str z, .int m] ∧ Pot K H a c ∧ 0 < z.length ∧ z.length ≤ 1000 ∧ 0 ≤ m ∧ m ≤ 1000 ∧
  ∀ (H' : Hp) (l : List Nat), Sm a H H' → Pot K H' a c → (l.length : Int) ≤ m → (∀ c ∈ l, c ∈ z.cps.toList) → Q (.str (tx l)) H'
/-- def _law_some_word(pot, signs, limit): -/
theorem ok_Lsome_word (T : Tx K mg) : FnOk P w K mg base CX0 4 T.a__law_some_word T.fd__law_some_word ["pot", "signs", "limit"] (sp_Lsome_word K) := by
  refine T.F__law_some_word.ok sc_Lsome_word (fun vs H Q E h => ?_) (fun cdv A outer s H vs Q E hr h => ?_)
  · obtain ⟨_, _, _, _, rfl, _⟩ := h
    rfl
  · refine ⟨_, (pss_one (ps_ret (pe_join pe_str (pe_lc (own := [("lap", 3)]) (g := gName 3) (by rfl) sc_Lsome_word.nd (pi_range1 (by rfl) T.z_range (pa_cons (pe_call (ok_Lbelow T) (hr.mono (by decide)) (by rfl) T.g__law_below T.F__law_below.kp T.b__law_below .nil pass0 (pa_cons (pv 0) (pa_cons (pe_op op_add (pv 2) pe_int) pa_nil))) pa_nil)) (blkOk_by (own := [("lap", 3)]) (N := N_Lsome_word) (sc := defScope s_Lsome_word) (by decide +kernel)) (fun _ _ _ _ _ => pg_name (i := 3) sc_Lsome_word.nd rfl (by first | exact Or.inl rfl | exact Or.inr rfl)) (fun _ _ _ _ _ => pts_nil) (fun _ _ _ _ _ => (pe_call (ok_Lpick T) (hr.mono (by decide)) (by rfl) T.g__law_pick T.F__law_pick.kp T.b__law_pick .nil pass0 (pa_cons (pv 0) (pa_cons (pv 1) pa_nil)))))))), ?_⟩
    obtain ⟨a, c, z, m, rfl, hp, z0, z1, m0, m1, q⟩ := h
    have hzl : z.length ≤ sizeLine := Nat.le_trans z1 (by decide)
    refine ⟨⟨_, rfl⟩, _, rfl, _, rfl, _, _, rfl, rfl, a, c, _, rfl, hp, by omega, by omega, fun H1 k sm1 hp1 k0 k1 => ?_⟩
    refine ⟨k, rfl, by omega, by omega, fun D nD => ?_⟩
    have nDa := hp1.ne nD
    refine lc_range (lo := 0) (n := k.toNat) (fun i H' => Sm a H1 H' ∧ PotAt H' a c ∧ ∃ l : List Nat, l.length = i ∧ (∀ c ∈ l, c ∈ z.cps.toList) ∧ H' D = some (.lst ((l.map fun c => tx [c]).map V.str))) ?_ ?_ ?_
    · exact ⟨Sm.new nD, hp1.at_.upd nDa, [], rfl, fun _ h => (List.not_mem_nil h).elim, upd_same⟩
    · rintro i H2 hi ⟨sm2, hp2, l, hl, hc, hD⟩
      refine ⟨rfl, _, rfl, _, rfl, ?_⟩
      refine ⟨a, c, .str z, sg z, rfl, hp1.to sm2 hp2, ?_, .inr (.inr ⟨z, rfl, rfl, hzl⟩), by rw [sg_len]; omega, fun H4 x sm4 hp4 hx => ?_⟩
      · intro e
        have := sg_len z
        rw [e] at this
        exact absurd this.symm (Nat.ne_of_gt z0)
      · obtain ⟨c, hcz, rfl⟩ : ∃ c, c ∈ z.cps.toList ∧ x = .str (tx [c]) := by
          unfold sg at hx
          obtain ⟨c, h1, h2⟩ := List.mem_map.mp hx
          exact ⟨c, h1, h2.symm⟩
        have hD4 : H4 D = some (.lst ((l.map fun c => tx [c]).map V.str)) := (sans_some (sm4 D _ (sans_of nDa hD))).2
        refine ⟨_, hD4, ?_, ?_, hp4.at_.upd nDa, l ++ [c], ?_, ?_, ?_⟩
        · rw [List.length_map, List.length_map, hl]
          refine Nat.lt_of_lt_of_le (show i < 1001 by omega) (by decide)
        · exact (sm2.trans sm4).upd (by rw [sans_ne nDa]; exact nD)
        · rw [List.length_append, hl]
          rfl
        · intro d hd
          rcases List.mem_append.mp hd with h | h
          · exact hc d h
          · rw [List.mem_singleton.mp h]
            exact hcz
        · rw [upd_same, List.map_append, List.map_append]
          rfl
    · rintro H2 ⟨sm2, hp2, l, hl, hc, hD⟩
      refine ⟨tx [], D, l.map fun c => tx [c], rfl, rfl, .inl (SqL.of hD), ?_, ?_⟩
      · rw [sum_ones]
        show _ + _ * 0 ≤ _
        omega
      · rw [join_empty, catS_ones]
        exact q _ l (sm1.trans sm2) (hp1.to sm2 hp2) (by omega) hc
end
end K02

namespace K02
open PySem PySem.Spec PyProof.Rows L2 G Lk
section
variable {P : Program} {w : World} {K : PySem.W.Frag} {mg : Str → Option Value} {base : Heap}
def sp_Lsome_expander (K : PySem.W.Frag) : Sp := fun vs H Q _ => ∃ (a c : Addr) (m : Int), vs = [.ref a, .int m] ∧ Pot K H a c ∧ 1 ≤ m ∧ m ≤ 4 ∧
  ∀ (H' : Hp) (v : V) (d : PyData), Sm a H H' → Pot K H' a c → Dq K (sans H' a) v d → ExpD d → Q v H'
/-- def _law_some_expander(pot, many): -/
theorem ok_Lsome_expander (T : Tx K mg) : FnOk P w K mg base CX0 5 T.a__law_some_expander T.fd__law_some_expander ["pot", "many"] (sp_Lsome_expander K) := by
  refine T.F__law_some_expander.ok sc_Lsome_expander (fun vs H Q E h => ?_) (fun cdv A outer s H vs Q E hr h => ?_)
  · obtain ⟨_, _, _, rfl, _⟩ := h
    rfl
  · refine ⟨_, (pss_cons (ps_set (i := 2) sc_Lsome_expander.nd rfl (by first | exact Or.inl rfl | exact Or.inr rfl) (pe_call (ok_Lpick T) (hr.mono (by decide)) (by rfl) T.g__law_pick T.F__law_pick.kp T.b__law_pick .nil pass0 (pa_cons (pv 0) (pa_cons (pe_lst (pa_cons pe_str (pa_cons pe_str (pa_cons pe_str (pa_cons pe_str (pa_cons pe_str (pa_cons pe_str (pa_cons pe_str pa_nil)))))))) pa_nil))))
    (pss_cons (ps_par3 (i := 6) (j := 7) (l := 8) (by rfl) sc_Lsome_expander.nd rfl rfl rfl (by decide) (by decide) (by decide) rfl rfl rfl (pa_cons (pe_op op_add pe_int (pe_call (ok_Lbelow T) (hr.mono (by decide)) (by rfl) T.g__law_below T.F__law_below.kp T.b__law_below .nil pass0 (pa_cons (pv 0) (pa_cons (pv 1) pa_nil)))) (pa_cons (pe_call (ok_Lbelow T) (hr.mono (by decide)) (by rfl) T.g__law_below T.F__law_below.kp T.b__law_below .nil pass0 (pa_cons (pv 0) (pa_cons pe_int pa_nil))) (pa_cons (pe_lst pa_nil) pa_nil))) (by rfl))
    (pss_cons (ps_for PassesOwn.never rfl (pi_range1 (by rfl) T.z_range (pa_cons (pv 6) pa_nil)) (pg_name (i := 3) sc_Lsome_expander.nd rfl (by first | exact Or.inl rfl | exact Or.inr rfl))
      (pss_cons (ps_set (i := 9) sc_Lsome_expander.nd rfl (by first | exact Or.inl rfl | exact Or.inr rfl) (pe_lst pa_nil))
    (pss_cons (ps_for PassesOwn.never rfl (pi_str (pv 2)) (pg_name (i := 10) sc_Lsome_expander.nd rfl (by first | exact Or.inl rfl | exact Or.inr rfl))
      (C8.pss_cut (ps_set (i := 12) sc_Lsome_expander.nd rfl (by first | exact Or.inl rfl | exact Or.inr rfl) (pe_ifExp (PW.pt (pw_and (pt_cmpR op_gt (pv 7) pe_int (nomark _)) (pw_and1 (pt_cmpR op_eq (pe_call (ok_Lbelow T) (hr.mono (by decide)) (by rfl) T.g__law_below T.F__law_below.kp T.b__law_below .nil pass0 (pa_cons (pv 0) (pa_cons pe_int pa_nil))) pe_int (nomark _))))) (pe_call (ok_Lsome_word T) (hr.mono (by decide)) (by rfl) T.g__law_some_word T.F__law_some_word.kp T.b__law_some_word .nil pass0 (pa_cons (pv 0) (pa_cons (pv 2) (pa_cons pe_int pa_nil)))) pe_str))
    (pss_cons (ps_set (i := 13) sc_Lsome_expander.nd rfl (by first | exact Or.inl rfl | exact Or.inr rfl) (pe_call (ok_Lpick T) (hr.mono (by decide)) (by rfl) T.g__law_pick T.F__law_pick.kp T.b__law_pick .nil pass0 (pa_cons (pv 0) (pa_cons (pe_lst (pa_cons pe_str (pa_cons (pv 10) (pa_cons (pe_call (ok_Lsome_word T) (hr.mono (by decide)) (by rfl) T.g__law_some_word T.F__law_some_word.kp T.b__law_some_word .nil pass0 (pa_cons (pv 0) (pa_cons (pv 2) (pa_cons pe_int pa_nil)))) (pa_cons (pe_call (ok_Lsome_word T) (hr.mono (by decide)) (by rfl) T.g__law_some_word T.F__law_some_word.kp T.b__law_some_word .nil pass0 (pa_cons (pv 0) (pa_cons (pv 2) (pa_cons pe_int pa_nil)))) pa_nil))))) pa_nil))))
    (pss_cons (ps_set (i := 14) sc_Lsome_expander.nd rfl (by first | exact Or.inl rfl | exact Or.inr rfl) (pe_tup (pa_cons (pv 13) (pa_cons (pv 12) (pa_cons (pe_call (ok_Lbelow T) (hr.mono (by decide)) (by rfl) T.g__law_below T.F__law_below.kp T.b__law_below .nil pass0 (pa_cons (pv 0) (pa_cons (pv 6) pa_nil))) pa_nil)))))
    (pss_one (ps_expr (pe_bm PySem.F.plainAttrs_list PySem.F.slot_list_append PySem.F.type_list_append mt_append (pv 9) (pa_cons (pe_ifExp (pt_cmpR op_eq (pe_call (ok_Lbelow T) (hr.mono (by decide)) (by rfl) T.g__law_below T.F__law_below.kp T.b__law_below .nil pass0 (pa_cons (pv 0) (pa_cons pe_int pa_nil))) pe_int (nomark _)) pe_non (pv 14)) pa_nil))))))))
    (C8.pss_cut (ps_set (i := 11) sc_Lsome_expander.nd rfl (by first | exact Or.inl rfl | exact Or.inr rfl) (pe_ifExp (pt_cmpR op_eq (pe_call (ok_Lbelow T) (hr.mono (by decide)) (by rfl) T.g__law_below T.F__law_below.kp T.b__law_below .nil pass0 (pa_cons (pv 0) (pa_cons pe_int pa_nil))) pe_int (nomark _)) pe_non (pe_call (ok_Lsome_word T) (hr.mono (by decide)) (by rfl) T.g__law_some_word T.F__law_some_word.kp T.b__law_some_word .nil pass0 (pa_cons (pv 0) (pa_cons (pv 2) (pa_cons pe_int pa_nil))))))
    (pss_one (ps_expr (pe_bm PySem.F.plainAttrs_list PySem.F.slot_list_append PySem.F.type_list_append mt_append (pv 8) (pa_cons (pe_tup (pa_cons (pe_callTy call_tuple_of (by rfl) T.z_tuple (by decide +kernel) (pa_cons (pv 9) pa_nil)) (pa_cons (pv 11) pa_nil))) pa_nil))))))))
    (pss_cons (ps_set (i := 4) sc_Lsome_expander.nd rfl (by first | exact Or.inl rfl | exact Or.inr rfl) (pe_tup (pa_cons (pv 2) (pa_cons (pe_call (ok_Lsome_word T) (hr.mono (by decide)) (by rfl) T.g__law_some_word T.F__law_some_word.kp T.b__law_some_word .nil pass0 (pa_cons (pv 0) (pa_cons (pv 2) (pa_cons pe_int pa_nil)))) (pa_cons (pe_callTy call_tuple_of (by rfl) T.z_tuple (by decide +kernel) (pa_cons (pv 8) pa_nil)) pa_nil)))))
    (pss_cons (ps_set (i := 5) sc_Lsome_expander.nd rfl (by first | exact Or.inl rfl | exact Or.inr rfl) (pe_call (ok_Lsizes T) (hr.mono (by decide)) (by rfl) T.g__law_sizes T.F__law_sizes.kp T.b__law_sizes .nil pass0 (pa_cons (pv 4) pa_nil)))
    (C8.pss_cut (ps_if (PW.pt (pw_and (pt_cmpR (op_neT0 (unit0 hr.units)) (pv 5) pe_dnewT (nomark _)) (pw_and1 (pt_cmpR op_gt (pe_callB (cr_max rfl) (by rfl) T.z_max (by decide +kernel) (pa_cons (pe_lock (pe_lc (own := [("call", 15)]) (g := gName 15) (by rfl) sc_Lsome_expander.nd (pi_keys (pv 5)) (blkOk_by (own := [("call", 15)]) (N := N_Lsome_expander) (sc := defScope s_Lsome_expander) (by decide +kernel)) (fun _ _ _ _ _ => pg_name (i := 15) sc_Lsome_expander.nd rfl (by first | exact Or.inl rfl | exact Or.inr rfl)) (fun _ _ _ _ _ => pts_nil) (fun _ _ _ _ _ => (pe_ix (ix_tup : IxR _ (rIxT K)) (pe_dget (unit1 hr.units) (pv 5) (pv 15) (fun _ _ => rfl)) pe_int (fun _ _ => rfl))))) pa_nil)) pe_int (nomark _)))))
      (pss_one (ps_set (i := 4) sc_Lsome_expander.nd rfl (by first | exact Or.inl rfl | exact Or.inr rfl) (pe_tup (pa_cons (pv 2) (pa_cons (pe_ix ix_tup (pv 4) pe_int (fun _ _ => rfl)) (pa_cons (pe_callTy call_tuple_of (by rfl) T.z_tuple (by decide +kernel) (pa_cons (pe_lc (own := [("state", 3)]) (g := gName 3) (by rfl) sc_Lsome_expander.nd (pi_list (pv 8)) (blkOk_by (own := [("state", 3)]) (N := N_Lsome_expander) (sc := defScope s_Lsome_expander) (by decide +kernel)) (fun _ _ _ _ _ => pg_name (i := 3) sc_Lsome_expander.nd rfl (by first | exact Or.inl rfl | exact Or.inr rfl)) (fun _ _ _ _ _ => pts_nil) (fun _ _ _ _ _ => (pe_call (ok_Lplainer T) (hr.mono (by decide)) (by rfl) T.g__law_plainer T.F__law_plainer.kp T.b__law_plainer .nil pass0 (pa_cons (pv 3) pa_nil)))) pa_nil)) pa_nil))))))
      pss_nil)
    (pss_one (ps_ret (pv 4))))))))), ?_⟩
    obtain ⟨a, c, m, rfl, hp, m1, m4, q⟩ := h
    refine ⟨_, rfl, (by show 7 ≤ sizeLine; decide), fun l nl => ?_⟩
    refine ⟨a, c, .ref l, _, rfl, hp.new (o := .lst [.str "a", .str "ab", .str "ab", .str "bz", .str "abc", .str "ab", .str "abcz"]) nl, by simp, .inl ⟨l, rfl, SqL.of (sans_of (hp.ne nl) upd_same)⟩, by decide, fun H1 x sm1 hp1 hx => ?_⟩
    have sm1 := (Sm.new nl).trans sm1
    obtain ⟨z, rfl, hz⟩ : ∃ z, x = .str z ∧ SignsD z := by
      simp only [List.mem_cons, List.not_mem_nil, or_false] at hx
      rcases hx with rfl | rfl | rfl | rfl | rfl | rfl | rfl
      · exact ⟨_, rfl, signs_a⟩
      · exact ⟨_, rfl, signs_ab⟩
      · exact ⟨_, rfl, signs_ab⟩
      · exact ⟨_, rfl, signs_bz⟩
      · exact ⟨_, rfl, signs_abc⟩
      · exact ⟨_, rfl, signs_ab⟩
      · exact ⟨_, rfl, signs_abcz⟩
    obtain ⟨z1, z4, zc⟩ := hz.small
    have z1000 : z.length ≤ 1000 := by omega
    refine ⟨_, rfl, _, rfl, a, c, m, rfl, hp1, m1, by omega, fun H2 k sm2 hp2 k0 k1 => ?_⟩
    obtain ⟨k, rfl⟩ := Int.eq_ofNat_of_zero_le k0
    refine ⟨_, _, rfl, rfl, _, rfl, a, c, 4, rfl, hp2, by decide, by decide, fun H3 kind sm3 hp3 _ _ => ?_⟩
    have sm3 := (sm1.trans sm2).trans sm3
    refine ⟨Nat.zero_le _, fun S nS => ⟨_, _, _, rfl, ?_⟩⟩
    have Sa := hp3.ne nS
    have smS := sm3.trans (Sm.new (o := .lst []) nS)
    have hpS := hp3.new (o := .lst []) nS
    have gS : Grows K (upd H3 S (.lst [])) a S S 0 (StateD z (1 + k)) := Grows.new upd_same
    revert smS hpS gS
    generalize upd H3 S (.lst []) = H4
    intro smS hpS gS
    have hSa : S ≠ a := Sa
    have nS0 : sans H a S = none := by
      rw [sans_ne Sa]
      cases e : H S with
      | none => rfl
      | some o =>
        have := sm3.at_ Sa e
        rw [nS] at this
        cases this
    have en : (1 : Int) + ((k : Nat) : Int) = ((1 + k : Nat) : Int) := by omega
    refine ⟨_, rfl, _, rfl, by omega, by omega, ?_⟩
    rw [show ((1 : Int) + ((k : Nat) : Int)).toNat = 1 + k by omega]
    refine for_range (n := 1 + k) (fun i σ H' => ∃ s3 s9 s10 s11 s12 s13 s14 : Option V, σ = [some (.ref a), some (.int m), some (.str z), s3, none, none, some (.int (1 + (k : Int))), some (.int kind), some (.ref S), s9, s10, s11, s12, s13, s14, none] ∧ Sm a H H' ∧ Pot K H' a c ∧ Grows K H' a S S i (StateD z (1 + k)))
      ⟨_, _, _, _, _, _, _, rfl, smS, hpS, gS⟩ ?_ ?_
    · rintro i σ H5 hi ⟨s3, s9, s10, s11, s12, s13, s14, rfl, smA, hpA, gA⟩
      refine ⟨Nat.zero_le _, fun M nM => ?_⟩
      have Ma := hpA.ne nM
      have MS : S ≠ M := by
        obtain ⟨us, es, e, _⟩ := gA.it
        exact ne_of_none e nM
      have smM := Sm.new (a := a) (o := .lst []) nM
      have hpM := hpA.new (o := .lst []) nM
      have gM : Grows K (upd H5 M (.lst [])) a M S 0 (MoveD z (1 + k)) := Grows.new upd_same
      have nM' : sans H5 a M = none := by
        rw [sans_ne Ma]
        exact nM
      revert smM hpM gM
      generalize upd H5 M (.lst []) = H6
      intro smM hpM gM
      refine ⟨_, rfl, z, rfl, for_it walk_str (fun j σ H' => ∃ s10 s12 s13 s14 : Option V, σ = [some (.ref a), some (.int m), some (.str z), some (.int (0 + (i : Int))), none, none, some (.int (1 + (k : Int))), some (.int kind), some (.ref S), some (.ref M), s10, s11, s12, s13, s14, none] ∧ Sm a H5 H' ∧ Pot K H' a c ∧ Grows K H' a M S j (MoveD z (1 + k)))
        ⟨_, _, _, _, rfl, smM, hpM, gM⟩ (fun _ _ _ _ _ => trivial) ?_ ?_⟩
      · rintro j x σ H7 H8 hj ⟨s10, s12, s13, s14, rfl, smB, hpB, gB⟩ ⟨rfl, c1, hc1, rfl⟩
        have hc1z : c1 ∈ z.cps.toList := List.mem_of_getElem? (by simpa using hc1)
        refine ⟨fun σ H' => ∃ b : Str, WordOf z b 3 ∧ σ = [some (.ref a), some (.int m), some (.str z), some (.int (0 + (i : Int))), none, none, some (.int (1 + (k : Int))), some (.int kind), some (.ref S), some (.ref M), some (.str ⟨#[c1]⟩), s11, some (.str b), s13, s14, none] ∧ Sm a H8 H' ∧ Pot K H' a c, ?_, ?_⟩
        · refine ⟨_, rfl, _, _, rfl, rfl, _, rfl, ite2 (fun _ => ?_) (fun _ => ?_)⟩
          · refine ⟨_, rfl, a, c, 2, rfl, hpB, by decide, by decide, fun H9 k2 smk hpk _ _ => ⟨rfl, _, rfl, ite2 (fun _ => ?_) (fun _ => ?_)⟩⟩
            · exact ⟨_, rfl, _, rfl, a, c, z, 3, rfl, hpk, z1, z1000, by decide, by decide, fun H10 l smw hpw hl hc => ⟨tx l, word_tx (by omega) hc, rfl, smk.trans smw, hpw⟩⟩
            · exact ⟨"", word_empty z 3, rfl, smk, hpk⟩
          · exact iteF ⟨"", word_empty z 3, rfl, Sm.refl, hpB⟩
        · rintro σ H9 ⟨b, hb, rfl, smb, hpb⟩
          refine ⟨_, rfl, _, rfl, _, rfl, _, rfl, a, c, z, 2, rfl, hpb, z1, z1000, by decide, by decide, fun H10 l1 sm10 hp10 hl1 hk1 => ⟨_, rfl, _, rfl, a, c, z, 2, rfl, hp10, z1, z1000, by decide, by decide, fun H11 l2 sm11 hp11 hl2 hk2 => ⟨(by show 4 ≤ sizeLine; decide), fun L nL => ?_⟩⟩⟩
          refine ⟨a, c, .ref L, _, rfl, hp11.new (o := .lst [.str "", .str ⟨#[c1]⟩, .str (tx l1), .str (tx l2)]) nL, by simp, .inl ⟨L, rfl, SqL.of (sans_of (hp11.ne nL) upd_same)⟩, by show 4 < 1073741824; decide, fun H12 x sm12 hp12 hx => ?_⟩
          have smC := ((smb.trans (sm10.trans sm11)).trans (Sm.new nL)).trans sm12
          obtain ⟨y, rfl, hy⟩ : ∃ y, x = .str y ∧ WordOf z y 3 := by
            simp only [List.mem_cons, List.not_mem_nil, or_false] at hx
            rcases hx with rfl | rfl | rfl | rfl
            · exact ⟨_, rfl, word_empty z 3⟩
            · refine ⟨_, rfl, (by show 1 ≤ 3; decide), fun d hd => ?_⟩
              have hd' : d ∈ [c1] := hd
              rw [List.mem_singleton.mp hd']
              exact hc1z
            · exact ⟨_, rfl, word_tx (by omega) hk1⟩
            · exact ⟨_, rfl, word_tx (by omega) hk2⟩
          refine ⟨_, rfl, _, rfl, _, rfl, _, rfl, a, c, _, rfl, hp12, by omega, by omega, fun H13 g sm13 hp13 g0 g1 => ⟨(by show 3 ≤ sizeLine; decide), fun p np => ?_⟩⟩
          have smD := (smC.trans sm13)
          have smE := smB.trans smD
          obtain ⟨us0, es0, eM, _⟩ := (gB.sm Ma smD).it
          have pM : p ≠ M := (ne_of_none eM np).symm
          have pa := hp13.ne np
          obtain ⟨us1, es1, eS, _⟩ := (gA.sm hSa (smE)).it
          have pS : p ≠ S := (ne_of_none eS np).symm
          have gC := (gB.sm Ma smD).sm Ma (Sm.new (o := .tup [.str y, .str b, .int g]) np)
          have hpC := hp13.new (o := .tup [.str y, .str b, .int g]) np
          have smF := smE.trans (Sm.new (o := .tup [.str y, .str b, .int g]) np)
          have hT : SqT K (out3 (upd H13 p (.tup [.str y, .str b, .int g])) a M S) p [.str y, .str b, .int g] := out3_tup pa pM pS
          revert gC hpC smF hT
          generalize upd H13 p (.tup [.str y, .str b, .int g]) = H14
          intro gC hpC smF hT
          obtain ⟨g, rfl⟩ := Int.eq_ofNat_of_zero_le g0
          have fin : ∀ (H' : Hp) (x : V) (d : PyData), Sm a H14 H' → Pot K H' a c → Dq K (out3 H14 a M S) x d → MoveD z (1 + k) d → ∃ l xs w', V.ref M = .ref l ∧ [x] = [w'] ∧ H' l = some (.lst xs) ∧ xs.length < sizeLine ∧
              ∃ s10 s12 s13 s14 : Option V, [some (V.ref a), some (V.int m), some (V.str z), some (V.int (0 + (i : Int))), none, none, some (V.int (1 + (k : Int))), some (V.int kind), some (V.ref S), some (V.ref M), some (V.str ⟨#[c1]⟩), s11, some (V.str b), some (V.str y), some (V.ref p), none] = [some (.ref a), some (.int m), some (.str z), some (.int (0 + (i : Int))), none, none, some (.int (1 + (k : Int))), some (.int kind), some (.ref S), some (.ref M), s10, s11, s12, s13, s14, none] ∧
                Sm a H5 (upd H' l (.lst (xs ++ [w']))) ∧ Pot K (upd H' l (.lst (xs ++ [w']))) a c ∧ Grows K (upd H' l (.lst (xs ++ [w']))) a M S (j + 1) (MoveD z (1 + k)) := fun H' x d s hp' hx hG => by
            obtain ⟨us, e, lu, gD⟩ := (gC.sm Ma s).add Ma (hx.mono (out3_sm s)) hG
            have smG : Sm a H5 (upd H' M (.lst (us ++ [x]))) := (smF.trans s).upd nM'
            exact ⟨M, us, x, rfl, rfl, e, Nat.lt_of_le_of_lt (show us.length ≤ 4 by have : z.cps.size = z.length := rfl; omega) (by decide), _, _, _, _, rfl, smG, hpA.to smG (hp'.at_.upd Ma), gD⟩
          have hty : ∃ us, SqL K H14 M us := by
            obtain ⟨us, _, e, _⟩ := gC.it
            exact ⟨us, SqL.of e⟩
          refine ⟨_, rfl, .inl ⟨rfl, hty⟩, _, rfl, a, c, 8, rfl, hpC, by decide, by decide, fun H15 k8 sm15 hp15 _ _ => ⟨rfl, _, rfl, ite2 (fun _ => ?_) (fun _ => ⟨_, rfl, ?_⟩)⟩⟩
          · exact fin H15 .non .none sm15 hp15 .non (.inl rfl)
          · exact fin H15 (.ref p) (.tuple [.str y, .str b, .int (g : Int)]) sm15 hp15 (.tup hT (.cons (.str _) (.cons (.str _) (.cons (.int _) .nil)))) (.inr ⟨y, b, g, rfl, hy, hb, by omega⟩)
      · rintro σ H7 ⟨s10, s12, s13, s14, rfl, smB, hpB, gB⟩
        have gB : Grows K H7 a M S z.length (MoveD z (1 + k)) := gB
        refine ⟨fun σ H' => ∃ (lv : V) (ld : PyData), σ = [some (.ref a), some (.int m), some (.str z), some (.int (0 + (i : Int))), none, none, some (.int (1 + (k : Int))), some (.int kind), some (.ref S), some (.ref M), s10, some lv, s12, s13, s14, none] ∧ (∀ G : Hp, Dq K G lv ld) ∧ (ld = .none ∨ ∃ w, ld = .str w ∧ WordOf z w 3) ∧ Sm a H7 H' ∧ Pot K H' a c, ?_, ?_⟩
        · refine ⟨_, rfl, a, c, 5, rfl, hpB, by decide, by decide, fun H8 k5 sm8 hp8 _ _ => ⟨rfl, _, rfl, ite2 (fun _ => ?_) (fun _ => ?_)⟩⟩
          · exact ⟨.non, .none, rfl, fun _ => .non, .inl rfl, sm8, hp8⟩
          · exact ⟨_, rfl, _, rfl, a, c, z, 2, rfl, hp8, z1, z1000, by decide, by decide, fun H9 l sm9 hp9 hl hc => ⟨.str (tx l), .str (tx l), rfl, fun _ => .str _, .inr ⟨tx l, rfl, word_tx (by omega) hc⟩, sm8.trans sm9, hp9⟩⟩
        · rintro σ H8 ⟨lv, ld, rfl, hlv, hld, sm8, hp8⟩
          have smC := smB.trans sm8
          have gC := gB.sm Ma sm8
          obtain ⟨us, es, eM, lM, dM, qM⟩ := gC.it
          have hty : ∃ us, SqL K H8 S us := by
            obtain ⟨us, _, e, _⟩ := (gA.sm hSa smC).it
            exact ⟨us, SqL.of e⟩
          refine ⟨_, rfl, .inl ⟨rfl, hty⟩, _, rfl, M, us, rfl, .inl ⟨SqL.of eM, fun p np => ?_⟩⟩
          have pa := hp8.ne np
          have pM : p ≠ M := (ne_of_none eM np).symm
          obtain ⟨us1, es1, eS, _⟩ := (gA.sm hSa smC).it
          have pS : p ≠ S := (ne_of_none eS np).symm
          have hT1 : Dq K (out3 (upd H8 p (.tup us)) a M S) (.ref p) (.tuple es) := .tup (out3_tup pa pM pS) (dM.mono (out3_sm (Sm.new np)))
          have smD := smC.trans (Sm.new (o := .tup us) np)
          have hpD := hp8.new (o := .tup us) np
          have eS1 : upd H8 p (.tup us) S = some (.lst us1) := (upd_ne pS.symm).trans eS
          have eM1 : upd H8 p (.tup us) M = some (.lst us) := (upd_ne pM.symm).trans eM
          revert hT1 smD hpD eS1 eM1
          generalize upd H8 p (.tup us) = H9
          intro hT1 smD hpD eS1 eM1
          refine ⟨_, rfl, (by show 2 ≤ sizeLine; decide), fun r nr => ?_⟩
          have ra := hpD.ne nr
          have rS : r ≠ S := (ne_of_none eS1 nr).symm
          have rM : r ≠ M := (ne_of_none eM1 nr).symm
          have hT2 : Dq K (out3 (upd H9 r (.tup [.ref p, lv])) a M S) (.ref r) (.tuple [.tuple es, ld]) := .tup (out3_tup ra rM rS) (.cons (hT1.mono (out3_sm (Sm.new nr))) (.cons (hlv _) .nil))
          have smE := smD.trans (Sm.new (o := .tup [.ref p, lv]) nr)
          have hpE := hpD.new (o := .tup [.ref p, lv]) nr
          revert hT2 smE hpE
          generalize upd H9 r (.tup [.ref p, lv]) = H10
          intro hT2 smE hpE
          have hst : StateD z (1 + k) (.tuple [.tuple es, ld]) := ⟨es, ld, rfl, by rw [← dM.length]; exact lM, qM, hld⟩
          obtain ⟨us2, e2, l2, gE⟩ := (gA.sm hSa smE).add hSa (hT2.mono out3_swap) hst
          refine ⟨S, us2, _, rfl, rfl, e2, Nat.lt_of_le_of_lt (show us2.length ≤ 4 by omega) (by decide), ?_⟩
          have smZ : Sm a H (upd H10 S (.lst (us2 ++ [.ref r]))) := (smA.trans smE).upd nS0
          exact ⟨_, _, _, _, _, _, _, rfl, smZ, hp.to smZ (hpE.at_.upd hSa), gE⟩
    · rintro σ H5 ⟨s3, s9, s10, s11, s12, s13, s14, rfl, smA, hpA, gA⟩
      refine ⟨_, rfl, _, rfl, _, rfl, a, c, z, 2, rfl, hpA, z1, z1000, by decide, by decide, fun H6 l sm6 hp6 hl6 hc6 => ?_⟩
      obtain ⟨us, es, eS, lS, dS, qS⟩ := (gA.sm hSa sm6).it
      refine ⟨_, rfl, S, us, rfl, .inl ⟨SqL.of eS, fun p np => ?_⟩⟩
      have s7 := same_new (o := .tup us) np
      refine ⟨(by show 3 ≤ sizeLine; decide), fun r nr => ?_⟩
      have s8 := same_new (o := .tup [.str z, .str (tx l), .ref p]) nr
      have les : es.length = 1 + k := by rw [← dS.length]; exact lS
      have hS6 : DqAll K H6 us es := ((dS.mono sans_same).mono sans_same).mono sans_same
      have dq8 : Dq K (upd (upd H6 p (.tup us)) r (.tup [.str z, .str (tx l), .ref p])) (.ref r) (.tuple [.str z, .str (tx l), .tuple es]) :=
        .tup (SqT.of upd_same) (.cons (.str _) (.cons (.str _) (.cons (.tup (SqT.of (s8 _ _ upd_same)) (hS6.mono (Same.trans s7 s8))) .nil)))
      have hr8 : upd (upd H6 p (.tup us)) r (.tup [.str z, .str (tx l), .ref p]) r = some (.tup [.str z, .str (tx l), .ref p]) := upd_same
      have sA := Same.trans s7 s8
      have eS8 := sA _ _ eS
      have hS8 := hS6.mono sA
      have sm8 := (smA.trans sm6).trans (Sm.of sA)
      have hp8 := hp6.same sA
      revert dq8 hr8 eS8 hS8 sm8 hp8
      generalize upd (upd H6 p (.tup us)) r (.tup [.str z, .str (tx l), .ref p]) = H8
      intro dq8 hr8 eS8 hS8 sm8 hp8
      have hx8 : ExpD (.tuple [.str z, .str (tx l), .tuple es]) := ⟨z, tx l, es, rfl, hz, word_tx (by omega) hc6, by omega, by omega, fun s hs => by rw [les]; exact qS s hs⟩
      refine ⟨_, rfl, _, z, tx l, es, rfl, dq8, hz, by omega, (fun s hs => by rw [les]; exact qS s hs), fun H9 d s9 nd hsz => ?_⟩
      obtain ⟨kvs, hd9, lk, hkv⟩ := hsz
      have sm9 := sm8.trans (Sm.of s9)
      have hp9 := hp8.same s9
      have fin : ∀ (H' : Hp) (v : V) (e : PyData), Same H9 H' → Dq K H' v e → ExpD e → Dq K (sans H' a) v e ∧ ExpD e ∧ Sm a H H' ∧ Pot K H' a c := fun H' v e s hv he => by
        have hp' := hp9.same s
        obtain ⟨x, y, w', e0⟩ := hp'.at_
        exact ⟨hv.out e0 he.flat, he, sm9.trans (Sm.of s), hp'⟩
      refine ⟨fun σ H' => ∃ (v : V) (e : PyData) (s3 s5 s9 s10 s11 s12 s13 s14 : Option V), σ = [some (.ref a), some (.int m), some (.str z), s3, some v, s5, some (.int (1 + (k : Int))), some (.int kind), some (.ref S), s9, s10, s11, s12, s13, s14, none] ∧ Dq K (sans H' a) v e ∧ ExpD e ∧ Sm a H H' ∧ Pot K H' a c, ?_, ?_⟩
      · refine ⟨_, rfl, fun p1 np1 => ?_⟩
        have s10 := same_new (o := .dT []) np1
        have hd10 := s10 _ _ hd9
        refine ⟨d, p1, kvs, rfl, rfl, hd10, upd_same, _, rfl, ?_⟩
        revert s10 hd10
        generalize upd H9 p1 (.dT []) = H10
        intro s10 hd10
        have dq10 := dq8.mono (Same.trans s9 s10)
        cases hem : kvs.isEmpty with
        | true => exact iteF (iteF ⟨_, _, _, _, _, _, _, _, _, _, rfl, fin H10 _ _ s10 dq10 hx8⟩)
        | false =>
          refine iteT ⟨d, .dT kvs, hd10, trivial, fun od => ?_⟩
          have hF : upd H10 d (.frz od (.dT kvs)) d = some (.frz od (.dT kvs)) := upd_same
          have oF : ∀ b o, b ≠ d → H10 b = some o → upd H10 d (.frz od (.dT kvs)) b = some o := fun b o n e => (upd_ne n).trans e
          revert hF oF
          generalize upd H10 d (.frz od (.dT kvs)) = HF
          intro hF oF
          refine ⟨_, rfl, d, od, rfl, .inr ⟨kvs, hF, fun D nD => ?_⟩⟩
          have nDd : D ≠ d := fun e => by
            rw [e, hF] at nD
            cases nD
          refine lc_it walk_keysT (fun j H' => Same HF H' ∧ ∃ ns : List Int, H' D = some (.lst (ns.map V.int)) ∧ ns.length = j) ⟨same_new nD, [], upd_same, rfl⟩ (fun _ _ _ p => p.1 _ _ hF) ?_ ?_
          · rintro j x H11 H12 hj ⟨s12, ns, hD, ln⟩ ⟨rfl, kk, w0, q0, hk, rfl, hq⟩
            obtain ⟨w', hw⟩ := val_some (List.mem_of_getElem? hk)
            obtain ⟨kv, hkvm, rfl⟩ := val_mem hw
            obtain ⟨p2, n0, h0, e1, e2, _⟩ := hkv kv hkvm
            obtain ⟨n2, e2⟩ := sans_some e2
            have e3 := s12 _ _ (oF _ _ n2 (s10 _ _ e2))
            refine ⟨rfl, _, rfl, _, rfl, d, kv.2, rfl, .inr ⟨kvs, kk, q0, .inr ⟨od, s12 _ _ hF⟩, rfl, hq, hw.symm⟩, p2, _, 0, _, e1, rfl, SqT.of e3, rfl, ns.map V.int, hD, ?_, ?_, ns ++ [n0], ?_, ?_⟩
            · rw [List.length_map, ln]
              exact Nat.lt_of_lt_of_le (show j < 300 by omega) (by decide)
            · exact fun b o e => (upd_ne (ne_of_none e nD)).trans (s12 b o e)
            · rw [upd_same, List.map_append]
              rfl
            · rw [List.length_append, ln]
              rfl
          · rintro H11 ⟨s11, ns, hD, ln⟩
            refine ⟨s11 _ _ hF, D, ns, rfl, SqL.of ((upd_ne nDd).trans hD), ?_, fun mx _ _ => ?_⟩
            · rw [ln]
              cases kvs with
              | nil => cases hem
              | cons _ _ => exact Nat.succ_pos _
            · have s12 : Same H9 (upd H11 d (.dT kvs)) := fun b o e => by
                by_cases n : b = d
                · rw [n] at e ⊢
                  rw [hd9] at e
                  rw [upd_same]
                  exact e
                · exact (upd_ne n).trans (s11 _ _ (oF _ _ n (s10 _ _ e)))
              revert s12
              generalize upd H11 d (.dT kvs) = H12
              intro s12
              have dq12 := dq8.mono (Same.trans s9 s12)
              refine ⟨_, _, rfl, rfl, _, rfl, ite2 (fun _ => ?_) (fun _ => ?_)⟩
              · have hr12 := s12 _ _ (s9 _ _ hr8)
                have eS12 := s12 _ _ (s9 _ _ eS8)
                have hS12 := hS8.mono (Same.trans s9 s12)
                refine ⟨_, rfl, _, rfl, r, _, 1, _, rfl, rfl, SqT.of hr12, rfl, _, rfl, S, rfl, ⟨_, SqL.of eS12⟩, fun D2 nD2 => ?_⟩
                refine lc_list (xs := us) (fun j H' => Same H12 H' ∧ ∃ vs ds, H' D2 = some (.lst vs) ∧ vs.length = j ∧ DqAll K (sans H' D2) vs ds ∧ ∀ d ∈ ds, StateD z (1 + k) d) ⟨same_new nD2, [], [], upd_same, rfl, .nil, fun _ h => (List.not_mem_nil h).elim⟩ (fun _ _ _ p => SqL.of (p.1 _ _ eS12)) ?_ ?_
                · rintro j x H13 hx ⟨s13, vs, ds, hD2, lv, hA, hG⟩
                  obtain ⟨dx, _, hdx, _, hqx⟩ := dqAll_get' (hS12.mono s13) hx
                  have hj : j < us.length := (List.getElem?_eq_some_iff.mp hx).1
                  refine ⟨rfl, _, rfl, x, dx, z, 1 + k, rfl, hqx, qS dx hdx, z4, fun H14 v' d' s14 hv' hs' => ?_⟩
                  have e14 := s14 _ _ hD2
                  have smP : Sm D2 H14 (upd H14 D2 (.lst (vs ++ [v']))) := Sm.pot
                  refine ⟨vs, e14, ?_, fun b o e => (upd_ne (ne_of_none e nD2)).trans (s14 _ _ (s13 b o e)), vs ++ [v'], ds ++ [d'], upd_same, ?_, ?_, ?_⟩
                  · rw [lv]
                    exact Nat.lt_of_lt_of_le (show j < 300 by omega) (by decide)
                  · rw [List.length_append, lv]
                    rfl
                  · exact ((hA.mono (Sm.of s14)).mono smP).append (.cons ((hv'.out e14 hs'.flat).mono smP) .nil)
                  · intro e he
                    rcases List.mem_append.mp he with h | h
                    · exact hG e h
                    · rw [List.mem_singleton.mp h]
                      exact hs'
                · rintro H13 ⟨s13, vs, ds, hD2, lv, hA, hG⟩
                  refine ⟨D2, vs, rfl, .inl ⟨SqL.of hD2, fun p2 np2 => ?_⟩⟩
                  have s14 := same_new (o := .tup vs) np2
                  refine ⟨(by show 3 ≤ sizeLine; decide), fun r2 nr2 => ?_⟩
                  have s15 := same_new (o := .tup [.str z, .str (tx l), .ref p2]) nr2
                  have lds : ds.length = 1 + k := by rw [← hA.length, lv, lS]
                  have hA' : DqAll K H13 vs ds := hA.mono sans_same
                  have dq15 : Dq K (upd (upd H13 p2 (.tup vs)) r2 (.tup [.str z, .str (tx l), .ref p2])) (.ref r2) (.tuple [.str z, .str (tx l), .tuple ds]) :=
                    .tup (SqT.of upd_same) (.cons (.str _) (.cons (.str _) (.cons (.tup (SqT.of (s15 _ _ upd_same)) (hA'.mono (Same.trans s14 s15))) .nil)))
                  exact ⟨_, _, _, _, _, _, _, _, _, _, rfl, fin _ _ _ (Same.trans s12 (Same.trans s13 (Same.trans s14 s15))) dq15 ⟨z, tx l, ds, rfl, hz, word_tx (by omega) hc6, by omega, by omega, fun s hs => by rw [lds]; exact hG s hs⟩⟩
              · exact ⟨_, _, _, _, _, _, _, _, _, _, rfl, fin H12 _ _ s12 dq12 hx8⟩
      · rintro σ H10 ⟨v, e, s3, s5, s9, s10, s11, s12, s13, s14, rfl, dq, he, sm, hpq⟩
        exact ⟨_, rfl, q H10 v e sm hpq dq he⟩
end
end K02

namespace K02
open PySem PySem.Spec PyProof.Rows L2 G Lk
section
variable {P : Program} {w : World} {K : PySem.W.Frag} {mg : Str → Option Value} {base : Heap}
def sp_Lspoilt (K : PySem.W.Frag) : Sp := fun vs H Q _ => ∃ (a c : Addr) (v : V) (d : PyData), vs = [.ref a, v] ∧ Pot K H a c ∧ Dq K (sans H a) v d ∧ ExpD d ∧
  ∀ (H' : Hp) (v' : V) (d' : PyData), Sm a H H' → Pot K H' a c → Dq K (sans H' a) v' d' → Bad 8 1000000 d' → Q v' H'
/-- def _law_spoilt(pot, expander): -/
theorem ok_Lspoilt (T : Tx K mg) : FnOk P w K mg base CX0 4 T.a__law_spoilt T.fd__law_spoilt ["pot", "expander"] (sp_Lspoilt K) := by
  refine T.F__law_spoilt.ok sc_Lspoilt (fun vs H Q E h => ?_) (fun cdv A outer s H vs Q E hr h => ?_)
  · obtain ⟨_, _, _, _, rfl, _⟩ := h
    rfl
  · refine ⟨_, (pss_cons (ps_asg (pv 1) (pg_tup rfl (pgs_cons (pg_name (i := 4) sc_Lspoilt.nd rfl (by first | exact Or.inl rfl | exact Or.inr rfl)) (pgs_cons (pg_name (i := 5) sc_Lspoilt.nd rfl (by first | exact Or.inl rfl | exact Or.inr rfl)) (pgs_cons (pg_name (i := 6) sc_Lspoilt.nd rfl (by first | exact Or.inl rfl | exact Or.inr rfl)) pgs_nil)))))
    (pss_cons (ps_par (i := 7) (j := 8) (by rfl) sc_Lspoilt.nd rfl rfl (by decide) rfl rfl (pa_cons (pe_call (ok_Lbelow T) (hr.mono (by decide)) (by rfl) T.g__law_below T.F__law_below.kp T.b__law_below .nil pass0 (pa_cons (pv 0) (pa_cons pe_int pa_nil))) (pa_cons (pe_call (ok_Lbelow T) (hr.mono (by decide)) (by rfl) T.g__law_below T.F__law_below.kp T.b__law_below .nil pass0 (pa_cons (pv 0) (pa_cons (pe_callB call_len_seq (by rfl) T.z_len PySem.boot_len (pa_cons (pv 6) pa_nil)) pa_nil))) pa_nil)) (by rfl))
    (pss_cons (ps_set (i := 2) sc_Lspoilt.nd rfl (by first | exact Or.inl rfl | exact Or.inr rfl) (pe_call (ok_Lpick T) (hr.mono (by decide)) (by rfl) T.g__law_pick T.F__law_pick.kp T.b__law_pick .nil pass0 (pa_cons (pv 0) (pa_cons (pe_lst (pa_cons pe_non (pa_cons pe_int (pa_cons pe_str (pa_cons pe_str (pa_cons (pe_lst (pa_cons pe_str pa_nil)) (pa_cons (pe_tup (pa_cons pe_str pa_nil)) (pa_cons pe_bl (pa_cons pe_str (pa_cons (pe_op op_mulS pe_str pe_int) (pa_cons pe_str (pa_cons pe_dnewK pa_nil)))))))))))) pa_nil))))
    (pss_cons (ps_if (pt_cmpR op_eq (pv 7) pe_int (nomark _))
      (pss_cons (ps_set (i := 9) sc_Lspoilt.nd rfl (by first | exact Or.inl rfl | exact Or.inr rfl) (pe_lst (pa_cons pe_non (pa_cons (pe_slice sl_tupA (pv 1) po_none (po_some pe_int)) (pa_cons (pe_callTy call_list_of (by rfl) T.z_list (by decide +kernel) (pa_cons (pv 1) pa_nil)) (pa_cons (pe_op op_catA (pv 1) (pe_tup (pa_cons (pe_tup pa_nil) pa_nil))) (pa_cons (pv 6) (pa_cons pe_dnewK pa_nil))))))))
    (pss_one (ps_ret (pe_call (ok_Lpick T) (hr.mono (by decide)) (by rfl) T.g__law_pick T.F__law_pick.kp T.b__law_pick .nil pass0 (pa_cons (pv 0) (pa_cons (pe_op op_cat (pv 9) (pe_lst (pa_cons (pe_tup (pa_cons (pv 4) (pa_cons (pv 5) (pa_cons (pe_callTy call_list_of (by rfl) T.z_list (by decide +kernel) (pa_cons (pv 6) pa_nil)) pa_nil)))) pa_nil))) pa_nil))))))
      pss_nil)
    (pss_cons (ps_if (pt_cmpR op_eq (pv 7) pe_int (nomark _))
      (pss_cons (ps_set (i := 9) sc_Lspoilt.nd rfl (by first | exact Or.inl rfl | exact Or.inr rfl) (pe_lst (pa_cons (pe_op op_add_str (pe_revS (pv 4)) pe_str) (pa_cons pe_str (pa_cons pe_str (pa_cons (pe_op op_add_str (pv 4) (pv 4)) (pa_cons pe_str (pa_cons (pe_tup (pa_cons pe_str (pa_cons pe_str pa_nil))) (pa_cons pe_non (pa_cons pe_str pa_nil))))))))))
    (pss_one (ps_ret (pe_tup (pa_cons (pe_call (ok_Lpick T) (hr.mono (by decide)) (by rfl) T.g__law_pick T.F__law_pick.kp T.b__law_pick .nil pass0 (pa_cons (pv 0) (pa_cons (pv 9) pa_nil))) (pa_cons (pv 5) (pa_cons (pv 6) pa_nil)))))))
      pss_nil)
    (pss_cons (ps_if (pt_cmpR op_eq (pv 7) pe_int (nomark _))
      (pss_one (ps_ret (pe_tup (pa_cons (pv 4) (pa_cons (pv 2) (pa_cons (pv 6) pa_nil))))))
      pss_nil)
    (pss_cons (ps_if (pt_cmpR op_eq (pv 7) pe_int (nomark _))
      (pss_cons (ps_set (i := 9) sc_Lspoilt.nd rfl (by first | exact Or.inl rfl | exact Or.inr rfl) (pe_lst (pa_cons (pe_tup pa_nil) (pa_cons (pe_op op_repT (pv 6) pe_int) (pa_cons (pe_op op_catA (pv 6) (pe_tup (pa_cons pe_non pa_nil))) (pa_cons (pe_op op_catA (pe_op op_catA (pe_slice sl_tupA (pv 6) po_none (po_some (pv 8))) (pe_tup (pa_cons (pv 2) pa_nil))) (pe_slice sl_tupA (pv 6) (po_some (pv 8)) po_none)) (pa_cons (pe_ix ix_tup (pv 6) pe_int (fun _ _ => rfl)) pa_nil)))))))
    (pss_one (ps_ret (pe_tup (pa_cons (pv 4) (pa_cons (pv 5) (pa_cons (pe_call (ok_Lpick T) (hr.mono (by decide)) (by rfl) T.g__law_pick T.F__law_pick.kp T.b__law_pick .nil pass0 (pa_cons (pv 0) (pa_cons (pv 9) pa_nil))) pa_nil)))))))
      pss_nil)
    (pss_cons (ps_asg (pe_ix ix_tup (pv 6) (pv 8) (fun _ _ => rfl)) (pg_tup rfl (pgs_cons (pg_name (i := 10) sc_Lspoilt.nd rfl (by first | exact Or.inl rfl | exact Or.inr rfl)) (pgs_cons (pg_name (i := 11) sc_Lspoilt.nd rfl (by first | exact Or.inl rfl | exact Or.inr rfl)) pgs_nil))))
    (pss_cons (ps_set (i := 3) sc_Lspoilt.nd rfl (by first | exact Or.inl rfl | exact Or.inr rfl) (pe_call (ok_Lbelow T) (hr.mono (by decide)) (by rfl) T.g__law_below T.F__law_below.kp T.b__law_below .nil pass0 (pa_cons (pv 0) (pa_cons (pe_callB call_len_seq (by rfl) T.z_len PySem.boot_len (pa_cons (pv 10) pa_nil)) pa_nil))))
    (C8.pss_cut (ps_if (pt_cmpR op_eq (pv 7) pe_int (nomark _))
      (pss_cons (ps_set (i := 9) sc_Lspoilt.nd rfl (by first | exact Or.inl rfl | exact Or.inr rfl) (pe_lst (pa_cons (pe_tup (pa_cons (pv 10) (pa_cons (pv 2) pa_nil))) (pa_cons (pe_tup (pa_cons (pe_callTy call_list_of (by rfl) T.z_list (by decide +kernel) (pa_cons (pv 10) pa_nil)) (pa_cons (pv 11) pa_nil))) (pa_cons (pe_tup (pa_cons (pe_slice sl_tupA (pv 10) (po_some pe_int) po_none) (pa_cons (pv 11) pa_nil))) (pa_cons (pe_tup (pa_cons (pe_op op_catA (pv 10) (pe_tup (pa_cons pe_non pa_nil))) (pa_cons (pv 11) pa_nil))) (pa_cons (pe_tup (pa_cons (pv 10) pa_nil)) pa_nil)))))))
    (pss_one (ps_set (i := 12) sc_Lspoilt.nd rfl (by first | exact Or.inl rfl | exact Or.inr rfl) (pe_call (ok_Lpick T) (hr.mono (by decide)) (by rfl) T.g__law_pick T.F__law_pick.kp T.b__law_pick .nil pass0 (pa_cons (pv 0) (pa_cons (pe_op op_cat (pv 9) (pe_lst (pa_cons (pe_lst (pa_cons (pv 10) (pa_cons (pv 11) pa_nil))) (pa_cons (pe_tup (pa_cons (pv 10) (pa_cons (pv 11) (pa_cons (pv 11) pa_nil)))) (pa_cons (pe_tup (pa_cons (pv 10) (pa_cons (pv 11) (pa_cons pe_non pa_nil)))) pa_nil))))) pa_nil))))))
      (pss_one (ps_if (PW.pt (pw_or (pt_cmpR op_eq (pv 7) pe_int (nomark _)) (pw_or1 (pt_cmpR op_isN (pe_ix ix_tup (pv 10) (pv 3) (fun _ _ => rfl)) pe_non (nomark _)))))
      (pss_one (ps_set (i := 12) sc_Lspoilt.nd rfl (by first | exact Or.inl rfl | exact Or.inr rfl) (pe_tup (pa_cons (pe_op op_catA (pe_op op_catA (pe_slice sl_tupA (pv 10) po_none (po_some (pv 3))) (pe_tup (pa_cons (pe_call (ok_Lpick T) (hr.mono (by decide)) (by rfl) T.g__law_pick T.F__law_pick.kp T.b__law_pick .nil pass0 (pa_cons (pv 0) (pa_cons (pe_lst (pa_cons (pv 2) (pa_cons (pe_tup (pa_cons pe_str (pa_cons pe_str (pa_cons (pe_callB call_len_seq (by rfl) T.z_len PySem.boot_len (pa_cons (pv 6) pa_nil)) pa_nil)))) (pa_cons (pe_tup (pa_cons pe_str (pa_cons pe_str pa_nil))) pa_nil)))) pa_nil))) pa_nil))) (pe_slice sl_tupA (pv 10) (po_some (pe_op op_add (pv 3) pe_int)) po_none)) (pa_cons (pv 11) pa_nil)))))
      (pss_cons (ps_par (i := 13) (j := 14) (by rfl) sc_Lspoilt.nd rfl rfl (by decide) rfl rfl (pa_cons (pe_call (ok_Lbelow T) (hr.mono (by decide)) (by rfl) T.g__law_below T.F__law_below.kp T.b__law_below .nil pass0 (pa_cons (pv 0) (pa_cons pe_int pa_nil))) (pa_cons (pe_callTy call_list_of (by rfl) T.z_list (by decide +kernel) (pa_cons (pe_ix ix_tup (pv 10) (pv 3) (fun _ _ => rfl)) pa_nil)) pa_nil)) (by rfl))
    (pss_cons (ps_asg (pe_call (ok_Lpick T) (hr.mono (by decide)) (by rfl) T.g__law_pick T.F__law_pick.kp T.b__law_pick .nil pass0 (pa_cons (pv 0) (pa_cons (pe_lst (pa_cons (pv 2) (pa_cons (pv 2) (pa_cons (pe_callB call_len_seq (by rfl) T.z_len PySem.boot_len (pa_cons (pv 6) pa_nil)) (pa_cons (pe_op op_sub pe_int pe_int) (pa_cons pe_bl (pa_cons pe_str pa_nil))))))) pa_nil))) (pg_sub (pv 14) (pv 13) set_list))
    (pss_cons (ps_set (i := 9) sc_Lspoilt.nd rfl (by first | exact Or.inl rfl | exact Or.inr rfl) (pe_lst (pa_cons (pe_callTy call_tuple_of (by rfl) T.z_tuple (by decide +kernel) (pa_cons (pv 14) pa_nil)) (pa_cons (pe_callTy call_tuple_of (by rfl) T.z_tuple (by decide +kernel) (pa_cons (pv 14) pa_nil)) (pa_cons (pe_callTy call_list_of (by rfl) T.z_list (by decide +kernel) (pa_cons (pe_ix ix_tup (pv 10) (pv 3) (fun _ _ => rfl)) pa_nil)) (pa_cons (pe_op op_catA (pe_ix ix_tup (pv 10) (pv 3) (fun _ _ => rfl)) (pe_tup (pa_cons pe_int pa_nil))) (pa_cons (pe_op op_catA (pe_ix ix_tup (pv 10) (pv 3) (fun _ _ => rfl)) (pe_tup (pa_cons pe_str pa_nil))) pa_nil)))))))
    (pss_one (ps_set (i := 12) sc_Lspoilt.nd rfl (by first | exact Or.inl rfl | exact Or.inr rfl) (pe_tup (pa_cons (pe_op op_catA (pe_op op_catA (pe_slice sl_tupA (pv 10) po_none (po_some (pv 3))) (pe_tup (pa_cons (pe_call (ok_Lpick T) (hr.mono (by decide)) (by rfl) T.g__law_pick T.F__law_pick.kp T.b__law_pick .nil pass0 (pa_cons (pv 0) (pa_cons (pv 9) pa_nil))) pa_nil))) (pe_slice sl_tupA (pv 10) (po_some (pe_op op_add (pv 3) pe_int)) po_none)) (pa_cons (pv 11) pa_nil)))))))))))
    (pss_one (ps_ret (pe_tup (pa_cons (pv 4) (pa_cons (pv 5) (pa_cons (pe_op op_catA (pe_op op_catA (pe_slice sl_tupA (pv 6) po_none (po_some (pv 8))) (pe_tup (pa_cons (pv 12) pa_nil))) (pe_slice sl_tupA (pv 6) (po_some (pe_op op_add (pv 8) pe_int)) po_none)) pa_nil)))))))))))))))), ?_⟩
    obtain ⟨a, c, v, d, rfl, hp, hd, ⟨z, f, ss, rfl, hz, hf, l1, l4, hss⟩, q⟩ := h
    obtain ⟨z1, z4, zc⟩ := hz.small
    obtain ⟨e, t, xs, rfl, ht, hts, hA⟩ := expV_of hd
    have hl := hA.length
    have hT0 : Dq K (sans H a) (.ref t) (.tuple ss) := .tup hts hA
    refine ⟨_, rfl, e, _, rfl, seqT sans_same ht, rfl, _, _, rfl, _, _, rfl, _, _, rfl, rfl, ?_⟩
    refine ⟨_, rfl, a, c, 9, rfl, hp, by decide, by decide, fun H1 ch sm1 hp1 ch0 ch9 => ⟨_, rfl, _, rfl, t, xs, rfl, .inr (seqT sm1.same hts), a, c, _, rfl, hp1, by omega, by omega, fun H2 ati sm2 hp2 at0 at1 => ⟨_, _, rfl, ?_⟩⟩⟩
    obtain ⟨i, rfl⟩ := Int.eq_ofNat_of_zero_le at0
    have sm2 := sm1.trans sm2
    have smT := hT0.mono sm2
    have smE := hd.mono sm2
    clear sm1 hp1
    refine ⟨_, rfl, (by show 1 ≤ sizeLine; decide), fun p1 np1 => ?_⟩
    have s3 := same_new (o := .lst [.str "a"]) np1
    have h3 : Dq K (sans (upd H2 p1 (.lst [.str "a"])) a) (.ref p1) (.list [.str "a"]) := new_lst hp2.at_ np1 (.cons (.str _) .nil)
    have hp3 := hp2.new (o := .lst [.str "a"]) np1
    revert s3 h3 hp3
    generalize upd H2 p1 (.lst [.str "a"]) = H3
    intro s3 h3 hp3
    refine ⟨(by show 1 ≤ sizeLine; decide), fun p2 np2 => ?_⟩
    have s4 := same_new (o := .tup [.str "a"]) np2
    have h4 : Dq K (sans (upd H3 p2 (.tup [.str "a"])) a) (.ref p2) (.tuple [.str "a"]) := new_tup hp3.at_ np2 (.cons (.str _) .nil)
    have hp4 := hp3.new (o := .tup [.str "a"]) np2
    revert s4 h4 hp4
    generalize upd H3 p2 (.tup [.str "a"]) = H4
    intro s4 h4 hp4
    refine ⟨"a", 2001, rfl, rfl, by decide, by decide, fun p3 np3 => ?_⟩
    have s5 := same_new (o := .dK []) np3
    have h5 : Dq K (sans (upd H4 p3 (.dK [])) a) (.ref p3) (.dict []) := new_emp hp4.at_ np3
    have hp5 := hp4.new (o := .dK []) np3
    revert s5 h5 hp5
    generalize upd H4 p3 (.dK []) = H5
    intro s5 h5 hp5
    refine ⟨(by show 11 ≤ sizeLine; decide), fun L nL => ?_⟩
    have s6 := same_new (o := .lst [.non, .int 0, .str "A", .str "ab c", .ref p1, .ref p2, .bl true, .str "y", .str (repS "a" 2001), .str "", .ref p3]) nL
    have hO : DqAll K (sans H5 a) [.non, .int 0, .str "A", .str "ab c", .ref p1, .ref p2, .bl true, .str "y", .str (repS "a" 2001), .str "", .ref p3] odds :=
      .cons .non (.cons (.int _) (.cons (.str _) (.cons (.str _) (.cons (h3.mono (Sm.of (Same.trans s4 s5))) (.cons (h4.mono (Sm.of s5)) (.cons (.bl _) (.cons (.str _) (.cons (.str _) (.cons (.str _) (.cons h5 .nil))))))))))
    refine ⟨a, c, .ref L, _, rfl, hp5.new nL, by simp, .inl ⟨L, rfl, SqL.of (sans_of (hp5.ne nL) upd_same)⟩, by show 11 < 1073741824; decide, fun H6 od sm6 hp6 hod => ?_⟩
    have smA : Sm a H H6 := sm2.trans (((Sm.of (a := a) (Same.trans s3 (Same.trans s4 s5))).trans (Sm.of s6)).trans sm6)
    obtain ⟨dd, hdm, hdd⟩ := hO.mem hod
    have hdd := (hdd.mono (Sm.of s6)).mono sm6
    have hbad := odds_bad dd hdm
    have hT := hT0.mono smA
    have hE := hd.mono smA
    have fin : ∀ (H' : Hp) (v' : V) (d' : PyData), Sm a H6 H' → Pot K H' a c → Dq K (sans H' a) v' d' → Bad 8 1000000 d' → Q v' H' := fun H' v' d' s h1 h2 h3 => q H' v' d' (smA.trans s) h1 h2 h3
    have qs : ∀ (k : Bool), ∀ s ∈ ss, Qk k 3 106 s := fun k s hs => (hss s hs).q zc z4 l4
    have qT : ∀ (k : Bool), Qk k 4 428 (.tuple ss) := fun k => Qk.tup (qs k) (by omega)
    have qz : ∀ (k : Bool) (n B : Nat), 4 ≤ B → Qk k n B (.str z) := fun k n B h => .str (by omega) zc
    have qf : ∀ (k : Bool) (n B : Nat), 3 ≤ B → Qk k n B (.str f) := fun k n B h => hf.q zc h
    clear hO hod h3 h4 h5 s3 s4 s5 s6 hp3 hp4 hp5 sm2 sm6 smT smE hp2 q hd hp
    refine ⟨_, rfl, rfl, _, rfl, ite2 (fun _ => ?_) (fun _ => ?_)⟩
    · refine ⟨_, rfl, _, rfl, slTo (n := 2) hp6.at_ hE fun H7 v7 s7 h7 => ?_⟩
      have hp7 := hp6.same s7
      have hE7 := hE.mono (Sm.of s7)
      obtain ⟨e', ys, e1, hye, hya⟩ := hE7.items
      refine ⟨_, rfl, e', ys, by rw [e1], .inr (seqT sans_same hye), fun p8 np8 => ?_⟩
      have s8 := same_new (o := .lst ys) np8
      have h8 := new_lst hp7.at_ np8 hya
      have hp8 := hp7.new (o := .lst ys) np8
      revert s8 h8 hp8
      generalize upd H7 p8 (.lst ys) = H8
      intro s8 h8 hp8
      refine ⟨_, rfl, Nat.zero_le _, fun p9 np9 => ?_⟩
      have s9 := same_new (o := .tup []) np9
      have h9 : Dq K (sans (upd H8 p9 (.tup [])) a) (.ref p9) (.tuple []) := new_tup hp8.at_ np9 .nil
      have hp9 := hp8.new (o := .tup []) np9
      revert s9 h9 hp9
      generalize upd H8 p9 (.tup []) = H9
      intro s9 h9 hp9
      refine ⟨(by show 1 ≤ sizeLine; decide), fun p10 np10 => ?_⟩
      have s10 := same_new (o := .tup [.ref p9]) np10
      have h10 : Dq K (sans (upd H9 p10 (.tup [.ref p9])) a) (.ref p10) (.tuple [.tuple []]) := new_tup hp9.at_ np10 (.cons h9 .nil)
      have hp10 := hp9.new (o := .tup [.ref p9]) np10
      revert s10 h10 hp10
      generalize upd H9 p10 (.tup [.ref p9]) = H10
      intro s10 h10 hp10
      have sB := Same.trans s7 (Same.trans s8 (Same.trans s9 s10))
      refine catP hp10.at_ (hE.mono (Sm.of sB)) h10 (by show 3 + 1 ≤ 100000; decide) fun H11 v11 s11 h11 => ?_
      have hp11 := hp10.same s11
      refine ⟨_, rfl, fun p12 np12 => ?_⟩
      have s12 := same_new (o := .dK []) np12
      have h12 : Dq K (sans (upd H11 p12 (.dK [])) a) (.ref p12) (.dict []) := new_emp hp11.at_ np12
      have hp12 := hp11.new (o := .dK []) np12
      revert s12 h12 hp12
      generalize upd H11 p12 (.dK []) = H12
      intro s12 h12 hp12
      have sC := Same.trans sB (Same.trans s11 s12)
      have hL : DqAll K (sans H12 a) [.non, v7, .ref p8, v11, .ref t, .ref p12] [.none, .tuple [.str z, .str f], .list [.str z, .str f, .tuple ss], .tuple [.str z, .str f, .tuple ss, .tuple []], .tuple ss, .dict []] :=
        .cons .non (.cons (h7.mono (Sm.of (Same.trans (Same.trans s8 (Same.trans s9 s10)) (Same.trans s11 s12)))) (.cons (h8.mono (Sm.of (Same.trans (Same.trans s9 s10) (Same.trans s11 s12)))) (.cons (h11.mono (Sm.of s12)) (.cons (hT.mono (Sm.of sC)) (.cons h12 .nil)))))
      refine ⟨(by show 6 ≤ sizeLine; decide), fun p13 np13 => ?_⟩
      have s13 := same_new (o := .lst [.non, v7, .ref p8, v11, .ref t, .ref p12]) np13
      have e13 : upd H12 p13 (.lst [.non, v7, .ref p8, v11, .ref t, .ref p12]) p13 = some (.lst [.non, v7, .ref p8, v11, .ref t, .ref p12]) := upd_same
      have hp13 := hp12.new (o := .lst [.non, v7, .ref p8, v11, .ref t, .ref p12]) np13
      revert s13 e13 hp13
      generalize upd H12 p13 (.lst [.non, v7, .ref p8, v11, .ref t, .ref p12]) = H13
      intro s13 e13 hp13
      have hT13 := hT.mono (Sm.of (a := a) (Same.trans sC s13))
      obtain ⟨t', ws, e2, hwt, hwa⟩ := hT13.items
      refine ⟨_, rfl, _, rfl, _, rfl, _, rfl, _, rfl, t', ws, by rw [e2], .inr (seqT sans_same hwt), fun p14 np14 => ?_⟩
      have s14 := same_new (o := .lst ws) np14
      have h14 := new_lst hp13.at_ np14 hwa
      have hp14 := hp13.new (o := .lst ws) np14
      revert s14 h14 hp14
      generalize upd H13 p14 (.lst ws) = H14
      intro s14 h14 hp14
      refine ⟨(by show 3 ≤ sizeLine; decide), fun p15 np15 => ?_⟩
      have s15 := same_new (o := .tup [.str z, .str f, .ref p14]) np15
      have h15 : Dq K (sans (upd H14 p15 (.tup [.str z, .str f, .ref p14])) a) (.ref p15) (.tuple [.str z, .str f, .list ss]) := new_tup hp14.at_ np15 (.cons (.str _) (.cons (.str _) (.cons h14 .nil)))
      have hp15 := hp14.new (o := .tup [.str z, .str f, .ref p14]) np15
      revert s15 h15 hp15
      generalize upd H14 p15 (.tup [.str z, .str f, .ref p14]) = H15
      intro s15 h15 hp15
      refine ⟨(by show 1 ≤ sizeLine; decide), fun p16 np16 => ?_⟩
      have s16 := same_new (o := .lst [.ref p15]) np16
      have e16 : upd H15 p16 (.lst [.ref p15]) p16 = some (.lst [.ref p15]) := upd_same
      have hp16 := hp15.new (o := .lst [.ref p15]) np16
      revert s16 e16 hp16
      generalize upd H15 p16 (.lst [.ref p15]) = H16
      intro s16 e16 hp16
      have sD := Same.trans s14 (Same.trans s15 s16)
      refine ⟨p13, p16, _, _, rfl, rfl, sD _ _ e13, e16, (by show 6 + 1 ≤ sizeLine; decide), fun p17 np17 => ?_⟩
      have s17 := same_new (o := .lst ([.non, v7, .ref p8, v11, .ref t, .ref p12] ++ [.ref p15])) np17
      refine ⟨a, c, .ref p17, _, rfl, hp16.new np17, by simp, .inl ⟨p17, rfl, SqL.of (sans_of (hp16.ne np17) upd_same)⟩, by show 7 < 1073741824; decide, fun H18 x sm18 hp18 hx => ?_⟩
      have hL2 := (hL.mono (Sm.of (a := a) (Same.trans s13 (Same.trans s14 s15)))).append (.cons h15 .nil)
      obtain ⟨d', hd', hq'⟩ := hL2.mem hx
      have smX : Sm a H15 H18 := (Sm.of (Same.trans s16 s17)).trans sm18
      refine fin H18 x d' ((Sm.of (Same.trans sC (Same.trans s13 (Same.trans s14 s15)))).trans smX) hp18 (hq'.mono smX) ?_
      have q3 : ∀ k : Bool, ∀ d ∈ [PyData.str z, .str f, .tuple ss], Qk k 4 428 d := fun k d hd => by
        simp only [List.mem_cons, List.not_mem_nil, or_false] at hd
        rcases hd with rfl | rfl | rfl
        · exact qz k 4 428 (by decide)
        · exact qf k 4 428 (by decide)
        · exact qT k
      simp only [List.cons_append, List.nil_append, List.mem_cons, List.not_mem_nil, or_false] at hd'
      rcases hd' with rfl | rfl | rfl | rfl | rfl | rfl | rfl
      · exact ⟨true, .none⟩
      · exact Bad.of (tup2 (k := true) (qz true 0 4 (by decide)) (qf true 0 4 (by decide)) (Nat.le_refl _)) (by decide) (by decide)
      · exact Bad.of (Qk.lst (q3 true) (Nat.le_refl _)) (by decide) (by show 3 * 429 ≤ 1000000; decide)
      · refine Bad.of (Qk.tup (k := true) (n := 4) (B := 428) (fun d hd => ?_) (Nat.le_refl _)) (by decide) (by show 4 * 429 ≤ 1000000; decide)
        rcases List.mem_append.mp (show d ∈ [PyData.str z, .str f, .tuple ss] ++ [.tuple []] from hd) with h | h
        · exact q3 true d h
        · rw [List.mem_singleton.mp h]
          exact tup0
      · exact Bad.of (qT true) (by decide) (by decide)
      · exact ⟨false, .emp (by decide)⟩
      · refine Bad.of (tup3 (k := true) (n := 4) (B := 428) (qz true 4 428 (by decide)) (qf true 4 428 (by decide)) (Qk.lst (qs true) (by omega)) (Nat.le_refl _)) (by decide) (by decide)
    refine ⟨_, rfl, rfl, _, rfl, ite2 (fun _ => ?_) (fun _ => ?_)⟩
    · refine ⟨_, rfl, z, rfl, Nat.le_trans z4 (by decide), revS z, "a", rfl, rfl, ?_, ?_⟩
      · rw [revS_len]
        exact Nat.le_trans (show z.length + 1 ≤ 5 by omega) (by decide)
      refine ⟨_, rfl, _, rfl, z, z, rfl, rfl, Nat.le_trans (show z.length + z.length ≤ 8 by omega) (by decide), (by show 2 ≤ sizeLine; decide), fun p7 np7 => ?_⟩
      have s7 := same_new (o := .tup [.str "a", .str "b"]) np7
      have h7 : Dq K (sans (upd H6 p7 (.tup [.str "a", .str "b"])) a) (.ref p7) (.tuple [.str "a", .str "b"]) := new_tup hp6.at_ np7 (.cons (.str _) (.cons (.str _) .nil))
      have hp7 := hp6.new (o := .tup [.str "a", .str "b"]) np7
      revert s7 h7 hp7
      generalize upd H6 p7 (.tup [.str "a", .str "b"]) = H7
      intro s7 h7 hp7
      have hL : DqAll K (sans H7 a) [.str (revS z ++ "a"), .str "abcde", .str "", .str (z ++ z), .str "AB", .ref p7, .non, .str "ba"] [.str (revS z ++ "a"), .str "abcde", .str "", .str (z ++ z), .str "AB", .tuple [.str "a", .str "b"], .none, .str "ba"] :=
        .cons (.str _) (.cons (.str _) (.cons (.str _) (.cons (.str _) (.cons (.str _) (.cons h7 (.cons .non (.cons (.str _) .nil)))))))
      refine ⟨(by show 8 ≤ sizeLine; decide), fun p8 np8 => ?_⟩
      have s8 := same_new (o := .lst [.str (revS z ++ "a"), .str "abcde", .str "", .str (z ++ z), .str "AB", .ref p7, .non, .str "ba"]) np8
      refine ⟨_, rfl, _, rfl, a, c, .ref p8, _, rfl, hp7.new np8, by simp, .inl ⟨p8, rfl, SqL.of (sans_of (hp7.ne np8) upd_same)⟩, by show 8 < 1073741824; decide, fun H9 x sm9 hp9 hx => ?_⟩
      obtain ⟨d', hd', hq'⟩ := hL.mem hx
      have smX : Sm a H7 H9 := (Sm.of s8).trans sm9
      have hq9 := hq'.mono smX
      have smY : Sm a H6 H9 := (Sm.of s7).trans smX
      refine ⟨_, rfl, _, rfl, (by show 3 ≤ sizeLine; decide), fun p10 np10 => ?_⟩
      refine fin _ _ (.tuple [d', .str f, .tuple ss]) (smY.trans (Sm.new np10)) (hp9.new np10) (new_tup hp9.at_ np10 (.cons hq9 (.cons (.str _) (.cons (hT.mono smY) .nil)))) ?_
      have q8 : Qk true 4 428 d' := by
        simp only [List.mem_cons, List.not_mem_nil, or_false] at hd'
        rcases hd' with rfl | rfl | rfl | rfl | rfl | rfl | rfl | rfl
        · refine .str ?_ fun c hc => ?_
          · rw [cat_len, revS_len]
            show z.length + 1 ≤ 428
            omega
          · rw [cat_codes] at hc
            rcases List.mem_append.mp hc with h | h
            · exact zc c (by simpa [revS] using h)
            · have all : ∀ c ∈ ("a" : Str).cps.toList, c < 1000 := by decide +kernel
              exact all c h
        · exact .str (by decide) (by decide +kernel)
        · exact .str (by decide) (by decide +kernel)
        · refine .str ?_ fun c hc => ?_
          · rw [cat_len]
            omega
          · rw [cat_codes] at hc
            rcases List.mem_append.mp hc with h | h
            · exact zc c h
            · exact zc c h
        · exact .str (by decide) (by decide +kernel)
        · exact (tup2 (k := true) (n := 3) (B := 100) (.str (by decide) (by decide +kernel)) (.str (by decide) (by decide +kernel)) (Nat.le_refl _)).mono (by decide) (by decide)
        · exact .none
        · exact .str (by decide) (by decide +kernel)
      exact Bad.of (tup3 (k := true) q8 (qf true 4 428 (by decide)) (qT true) (Nat.le_refl _)) (by decide) (by decide)
    refine ⟨_, rfl, rfl, _, rfl, ite2 (fun _ => ?_) (fun _ => ?_)⟩
    · refine ⟨_, rfl, _, rfl, _, rfl, (by show 3 ≤ sizeLine; decide), fun p7 np7 => ?_⟩
      refine fin _ _ (.tuple [.str z, dd, .tuple ss]) (Sm.new np7) (hp6.new np7) (new_tup hp6.at_ np7 (.cons (.str _) (.cons hdd (.cons hT .nil)))) ?_
      obtain ⟨k, hk⟩ := hbad
      exact Bad.of (tup3 (k := k) (n := 4) (B := 2001) (qz k 4 2001 (by decide)) (hk.mono (by decide) (by decide)) ((qT k).mono (by decide) (by decide)) (Nat.le_refl _)) (by decide) (by decide)
    refine ⟨_, rfl, rfl, _, rfl, ite2 (fun _ => ?_) (fun _ => ?_)⟩
    · refine ⟨Nat.zero_le _, fun p7 np7 => ?_⟩
      have s7 := same_new (o := .tup []) np7
      have h7 : Dq K (sans (upd H6 p7 (.tup [])) a) (.ref p7) (.tuple []) := new_tup hp6.at_ np7 .nil
      have hp7 := hp6.new (o := .tup []) np7
      revert s7 h7 hp7
      generalize upd H6 p7 (.tup []) = H7
      intro s7 h7 hp7
      have ssne : ss ≠ [] := fun e => by
        rw [e] at l1
        exact absurd l1 (by decide)
      refine ⟨_, rfl, ?_⟩
      dsimp only [tC]
      refine repI 61 (by rfl) hp7.at_ (hT.mono (Sm.of s7)) ssne (by omega) (by decide) (by decide) fun H8 v8 s8 h8 => ?_
      have hp8 := hp7.same s8
      have sA := Same.trans s7 s8
      refine ⟨_, rfl, (by show 1 ≤ sizeLine; decide), fun p9 np9 => ?_⟩
      have s9 := same_new (o := .tup [.non]) np9
      have h9 : Dq K (sans (upd H8 p9 (.tup [.non])) a) (.ref p9) (.tuple [.none]) := new_tup hp8.at_ np9 (.cons .non .nil)
      have hp9 := hp8.new (o := .tup [.non]) np9
      revert s9 h9 hp9
      generalize upd H8 p9 (.tup [.non]) = H9
      intro s9 h9 hp9
      have sB := Same.trans sA s9
      refine catP hp9.at_ (hT.mono (Sm.of sB)) h9 (by show ss.length + 1 ≤ 100000; omega) fun H10 v10 s10 h10 => ?_
      have hp10 := hp9.same s10
      have sC := Same.trans sB s10
      refine ⟨_, rfl, _, rfl, _, rfl, slTo (n := i) hp10.at_ (hT.mono (Sm.of sC)) fun H11 v11 s11 h11 => ?_⟩
      have hp11 := hp10.same s11
      have sD := Same.trans sC s11
      refine ⟨_, rfl, (by show 1 ≤ sizeLine; decide), fun p12 np12 => ?_⟩
      have s12 := same_new (o := .tup [od]) np12
      have h12 : Dq K (sans (upd H11 p12 (.tup [od])) a) (.ref p12) (.tuple [dd]) := new_tup hp11.at_ np12 (.cons (hdd.mono (Sm.of sD)) .nil)
      have hp12 := hp11.new (o := .tup [od]) np12
      revert s12 h12 hp12
      generalize upd H11 p12 (.tup [od]) = H12
      intro s12 h12 hp12
      have sE := Same.trans sD s12
      have lt1 : (ss.take i).length ≤ 4 := by
        rw [List.length_take]
        omega
      have lt2 : (ss.drop i).length ≤ 4 := by
        rw [List.length_drop]
        omega
      refine catP hp12.at_ (h11.mono (Sm.of s12)) h12 (by show (ss.take i).length + 1 ≤ 100000; omega) fun H13 v13 s13 h13 => ?_
      have hp13 := hp12.same s13
      have sF := Same.trans sE s13
      refine ⟨_, rfl, _, rfl, _, rfl, ?_⟩
      dsimp only [tNoPart]
      refine slFrom (n := i) hp13.at_ (hT.mono (Sm.of sF)) fun H14 v14 s14 h14 => ?_
      have hp14 := hp13.same s14
      have sG := Same.trans sF s14
      refine catP hp14.at_ (h13.mono (Sm.of s14)) h14 (by rw [List.length_append]; show (ss.take i).length + 1 + (ss.drop i).length ≤ 100000; omega) fun H15 v15 s15 h15 => ?_
      have hp15 := hp14.same s15
      have sH := Same.trans sG s15
      obtain ⟨s0, sr, ess⟩ : ∃ s0 sr, ss = s0 :: sr := by
        cases ss with
        | nil => exact absurd rfl ssne
        | cons x y => exact ⟨x, y, rfl⟩
      have hT15 := hT.mono (Sm.of (a := a) sH)
      rw [ess] at hT15
      obtain ⟨t', y0, yr, et, ht', hy0⟩ := hT15.head
      refine ⟨_, rfl, t', _, 0, y0, by rw [et], rfl, seqT sans_same ht', atI_nat (j := 0) rfl, ?_⟩
      have sI := Same.trans s14 s15
      have hL : DqAll K (sans H15 a) [.ref p7, v8, v10, v15, y0] [.tuple [], .tuple (List.replicate 61 ss).flatten, .tuple (ss ++ [.none]), .tuple (ss.take i ++ [dd] ++ ss.drop i), s0] :=
        .cons (h7.mono (Sm.of (Same.trans s8 (Same.trans s9 (Same.trans s10 (Same.trans s11 (Same.trans s12 (Same.trans s13 sI)))))))) (.cons (h8.mono (Sm.of (Same.trans s9 (Same.trans s10 (Same.trans s11 (Same.trans s12 (Same.trans s13 sI))))))) (.cons (h10.mono (Sm.of (Same.trans s11 (Same.trans s12 (Same.trans s13 sI))))) (.cons h15 (.cons hy0 .nil))))
      refine ⟨(by show 5 ≤ sizeLine; decide), fun p16 np16 => ?_⟩
      have s16 := same_new (o := .lst [.ref p7, v8, v10, v15, y0]) np16
      refine ⟨_, rfl, _, rfl, _, rfl, _, rfl, a, c, .ref p16, _, rfl, hp15.new np16, by simp, .inl ⟨p16, rfl, SqL.of (sans_of (hp15.ne np16) upd_same)⟩, by show 5 < 1073741824; decide, fun H17 x sm17 hp17 hx => ?_⟩
      obtain ⟨d', hd', hq'⟩ := hL.mem hx
      have smX : Sm a H15 H17 := (Sm.of s16).trans sm17
      have smY : Sm a H6 H17 := (Sm.of sH).trans smX
      refine ⟨(by show 3 ≤ sizeLine; decide), fun p18 np18 => ?_⟩
      refine fin _ _ (.tuple [.str z, .str f, d']) (smY.trans (Sm.new np18)) (hp17.new np18) (new_tup hp17.at_ np18 (.cons (.str _) (.cons (.str _) (.cons (hq'.mono smX) .nil)))) ?_
      obtain ⟨k, hk⟩ := hbad
      have q8 : Qk k 4 26108 d' := by
        simp only [List.mem_cons, List.not_mem_nil, or_false] at hd'
        rcases hd' with rfl | rfl | rfl | rfl | rfl
        · exact tup0
        · refine Qk.tup (n := 3) (B := 106) (fun d hd => ?_) ?_
          · obtain ⟨l, hl, hdl⟩ := List.mem_flatten.mp hd
            rw [(List.mem_replicate.mp hl).2] at hdl
            exact qs k d hdl
          · rw [List.length_flatten, List.map_replicate, List.sum_replicate_nat]
            omega
        · refine Qk.tup (n := 3) (B := 106) (fun d hd => ?_) (by rw [List.length_append]; show (ss.length + 1) * 107 ≤ 26108; omega)
          rcases List.mem_append.mp hd with h | h
          · exact qs k d h
          · rw [List.mem_singleton.mp h]
            exact .none
        · refine Qk.tup (n := 3) (B := 2001) (fun d hd => ?_) (by rw [List.length_append, List.length_append]; show ((ss.take i).length + 1 + (ss.drop i).length) * 2002 ≤ 26108; omega)
          exact mid_bad (fun e he => (qs k e (List.mem_of_mem_take he)).mono (by decide) (by decide)) (fun e he => (qs k e (List.mem_of_mem_drop he)).mono (by decide) (by decide)) (hk.mono (by decide) (by decide)) hd
        · exact (qs k d' (by rw [ess]; exact List.mem_cons_self ..)).mono (by decide) (by decide)
      exact Bad.of (tup3 (k := k) (qz k 4 26108 (by decide)) (qf k 4 26108 (by decide)) q8 (Nat.le_refl _)) (by decide) (by decide)
    obtain ⟨t', ws, et, hwt, hwa⟩ := hT.items
    cases et
    have hi : i < ss.length := by omega
    obtain ⟨x0, d0, ex0, hd0, hq0⟩ := dqAll_at hwa hi
    obtain ⟨es, ld, rfl, les, hes, hld⟩ := id (hss d0 hd0)
    have parts := fun k : Bool => (hss _ hd0).parts (k := k) zc l4
    obtain ⟨p0, us0, rfl, hp0, hq1⟩ := hq0.items
    obtain ⟨mv, us0, rfl, hM, hq1⟩ := hq1.one
    obtain ⟨lv, us0, rfl, hLd, hq1⟩ := hq1.one
    obtain rfl := hq1.none
    obtain ⟨m0, ms, rfl, hm0, hms⟩ := hM.items
    have lms : ms.length = z.length := hms.length.trans les
    refine ⟨_, rfl, _, rfl, t, ws, (i : Int), _, rfl, rfl, seqT sans_same hwt, atI_nat ex0, p0, _, rfl, seqT sans_same hp0, rfl, _, _, rfl, _, _, rfl, rfl, ?_⟩
    refine ⟨_, rfl, _, rfl, m0, ms, rfl, .inr (seqT sans_same hm0), a, c, _, rfl, hp6, by omega, by omega, fun H7 spi sm7 hp7 sp0 sp1 => ?_⟩
    obtain ⟨j, rfl⟩ := Int.eq_ofNat_of_zero_le sp0
    have hT := hT.mono sm7
    have hM := hM.mono sm7
    have hLd := hLd.mono sm7
    have hdd := hdd.mono sm7
    refine ⟨fun σ H' => ∃ (sv : V) (sd : PyData) (s9 s13 s14 : Option V), σ = [some (.ref a), some (.ref e), some od, some (.int (j : Int)), some (.str z), some (.str f), some (.ref t), some (.int ch), some (.int (i : Int)), s9, some (.ref m0), some lv, some sv, s13, s14] ∧ Dq K (sans H' a) sv sd ∧ Bad 4 64074 sd ∧ Sm a H7 H' ∧ Pot K H' a c, ?_, ?_⟩
    · refine ⟨_, rfl, rfl, _, rfl, ite2 (fun _ => ?_) (fun _ => ?_)⟩
      · refine ⟨_, rfl, _, rfl, (by show 2 ≤ sizeLine; decide), fun p8 np8 => ?_⟩
        have s8 := same_new (o := .tup [.ref m0, od]) np8
        have h8 : Dq K (sans (upd H7 p8 (.tup [.ref m0, od])) a) (.ref p8) (.tuple [.tuple es, dd]) := new_tup hp7.at_ np8 (.cons hM (.cons hdd .nil))
        have hp8 := hp7.new (o := .tup [.ref m0, od]) np8
        revert s8 h8 hp8
        generalize upd H7 p8 (.tup [.ref m0, od]) = H8
        intro s8 h8 hp8
        have hM8 := hM.mono (Sm.of (a := a) s8)
        obtain ⟨m8, ms8, e8, hq8, hA8⟩ := hM8.items
        refine ⟨_, rfl, m8, ms8, by rw [e8], .inr (seqT sans_same hq8), fun p9 np9 => ?_⟩
        have s9 := same_new (o := .lst ms8) np9
        have h9 : Dq K (sans (upd H8 p9 (.lst ms8)) a) (.ref p9) (.list es) := new_lst hp8.at_ np9 hA8
        have hp9 := hp8.new (o := .lst ms8) np9
        revert s9 h9 hp9
        generalize upd H8 p9 (.lst ms8) = H9
        intro s9 h9 hp9
        refine ⟨_, rfl, (by show 2 ≤ sizeLine; decide), fun p10 np10 => ?_⟩
        have t9 := Same.trans s8 s9
        have s10 := same_new (o := .tup [.ref p9, lv]) np10
        have h10 : Dq K (sans (upd H9 p10 (.tup [.ref p9, lv])) a) (.ref p10) (.tuple [.list es, ld]) := new_tup hp9.at_ np10 (.cons h9 (.cons (hLd.mono (Sm.of t9)) .nil))
        have hp10 := hp9.new (o := .tup [.ref p9, lv]) np10
        revert s10 h10 hp10
        generalize upd H9 p10 (.tup [.ref p9, lv]) = H10
        intro s10 h10 hp10
        have t10 := Same.trans t9 s10
        refine ⟨_, rfl, _, rfl, ?_⟩
        dsimp only [tNoPart]
        refine slFromI 1 (by rfl) hp10.at_ (hM.mono (Sm.of t10)) fun H11 v11 s11 h11 => ?_
        have hp11 := hp10.same s11
        have t11 := Same.trans t10 s11
        refine ⟨_, rfl, (by show 2 ≤ sizeLine; decide), fun p12 np12 => ?_⟩
        have s12 := same_new (o := .tup [v11, lv]) np12
        have h12 : Dq K (sans (upd H11 p12 (.tup [v11, lv])) a) (.ref p12) (.tuple [.tuple (es.drop 1), ld]) := new_tup hp11.at_ np12 (.cons h11 (.cons (hLd.mono (Sm.of t11)) .nil))
        have hp12 := hp11.new (o := .tup [v11, lv]) np12
        revert s12 h12 hp12
        generalize upd H11 p12 (.tup [v11, lv]) = H12
        intro s12 h12 hp12
        have t12 := Same.trans t11 s12
        refine ⟨_, rfl, (by show 1 ≤ sizeLine; decide), fun p13 np13 => ?_⟩
        have s13 := same_new (o := .tup [.non]) np13
        have h13 : Dq K (sans (upd H12 p13 (.tup [.non])) a) (.ref p13) (.tuple [.none]) := new_tup hp12.at_ np13 (.cons .non .nil)
        have hp13 := hp12.new (o := .tup [.non]) np13
        revert s13 h13 hp13
        generalize upd H12 p13 (.tup [.non]) = H13
        intro s13 h13 hp13
        have t13 := Same.trans t12 s13
        refine catP hp13.at_ (hM.mono (Sm.of t13)) h13 (by show es.length + 1 ≤ 100000; omega) fun H14 v14 s14 h14 => ?_
        have hp14 := hp13.same s14
        have t14 := Same.trans t13 s14
        refine ⟨_, rfl, (by show 2 ≤ sizeLine; decide), fun p15 np15 => ?_⟩
        have s15 := same_new (o := .tup [v14, lv]) np15
        have h15 : Dq K (sans (upd H14 p15 (.tup [v14, lv])) a) (.ref p15) (.tuple [.tuple (es ++ [.none]), ld]) := new_tup hp14.at_ np15 (.cons h14 (.cons (hLd.mono (Sm.of t14)) .nil))
        have hp15 := hp14.new (o := .tup [v14, lv]) np15
        revert s15 h15 hp15
        generalize upd H14 p15 (.tup [v14, lv]) = H15
        intro s15 h15 hp15
        have t15 := Same.trans t14 s15
        refine ⟨_, rfl, (by show 1 ≤ sizeLine; decide), fun p16 np16 => ?_⟩
        have s16 := same_new (o := .tup [.ref m0]) np16
        have h16 : Dq K (sans (upd H15 p16 (.tup [.ref m0])) a) (.ref p16) (.tuple [.tuple es]) := new_tup hp15.at_ np16 (.cons (hM.mono (Sm.of t15)) .nil)
        have hp16 := hp15.new (o := .tup [.ref m0]) np16
        revert s16 h16 hp16
        generalize upd H15 p16 (.tup [.ref m0]) = H16
        intro s16 h16 hp16
        have t16 := Same.trans t15 s16
        have u15 := Same.trans s15 s16
        have u12 := Same.trans s12 (Same.trans s13 (Same.trans s14 u15))
        have u10 := Same.trans s10 (Same.trans s11 u12)
        have hL : DqAll K (sans H16 a) [.ref p8, .ref p10, .ref p12, .ref p15, .ref p16] [.tuple [.tuple es, dd], .tuple [.list es, ld], .tuple [.tuple (es.drop 1), ld], .tuple [.tuple (es ++ [.none]), ld], .tuple [.tuple es]] :=
          .cons (h8.mono (Sm.of (Same.trans s9 u10))) (.cons (h10.mono (Sm.of (Same.trans s11 u12))) (.cons (h12.mono (Sm.of (Same.trans s13 (Same.trans s14 u15)))) (.cons (h15.mono (Sm.of s16)) (.cons h16 .nil))))
        refine ⟨(by show 5 ≤ sizeLine; decide), fun p17 np17 => ?_⟩
        have e17 : upd H16 p17 (.lst [.ref p8, .ref p10, .ref p12, .ref p15, .ref p16]) p17 = some (.lst [.ref p8, .ref p10, .ref p12, .ref p15, .ref p16]) := upd_same
        have s17 := same_new (o := .lst [.ref p8, .ref p10, .ref p12, .ref p15, .ref p16]) np17
        have hp17 := hp16.new (o := .lst [.ref p8, .ref p10, .ref p12, .ref p15, .ref p16]) np17
        revert e17 s17 hp17
        generalize upd H16 p17 (.lst [.ref p8, .ref p10, .ref p12, .ref p15, .ref p16]) = H17
        intro e17 s17 hp17
        have t17 := Same.trans t16 s17
        refine ⟨_, rfl, _, rfl, _, rfl, _, rfl, (by show 2 ≤ sizeLine; decide), fun p18 np18 => ?_⟩
        have s18 := same_new (o := .lst [.ref m0, lv]) np18
        have h18 : Dq K (sans (upd H17 p18 (.lst [.ref m0, lv])) a) (.ref p18) (.list [.tuple es, ld]) := new_lst hp17.at_ np18 (.cons (hM.mono (Sm.of t17)) (.cons (hLd.mono (Sm.of t17)) .nil))
        have hp18 := hp17.new (o := .lst [.ref m0, lv]) np18
        revert s18 h18 hp18
        generalize upd H17 p18 (.lst [.ref m0, lv]) = H18
        intro s18 h18 hp18
        have t18 := Same.trans t17 s18
        refine ⟨_, rfl, _, rfl, _, rfl, (by show 3 ≤ sizeLine; decide), fun p19 np19 => ?_⟩
        have s19 := same_new (o := .tup [.ref m0, lv, lv]) np19
        have h19 : Dq K (sans (upd H18 p19 (.tup [.ref m0, lv, lv])) a) (.ref p19) (.tuple [.tuple es, ld, ld]) := new_tup hp18.at_ np19 (.cons (hM.mono (Sm.of t18)) (.cons (hLd.mono (Sm.of t18)) (.cons (hLd.mono (Sm.of t18)) .nil)))
        have hp19 := hp18.new (o := .tup [.ref m0, lv, lv]) np19
        revert s19 h19 hp19
        generalize upd H18 p19 (.tup [.ref m0, lv, lv]) = H19
        intro s19 h19 hp19
        have t19 := Same.trans t18 s19
        refine ⟨_, rfl, _, rfl, (by show 3 ≤ sizeLine; decide), fun p20 np20 => ?_⟩
        have s20 := same_new (o := .tup [.ref m0, lv, .non]) np20
        have h20 : Dq K (sans (upd H19 p20 (.tup [.ref m0, lv, .non])) a) (.ref p20) (.tuple [.tuple es, ld, .none]) := new_tup hp19.at_ np20 (.cons (hM.mono (Sm.of t19)) (.cons (hLd.mono (Sm.of t19)) (.cons .non .nil)))
        have hp20 := hp19.new (o := .tup [.ref m0, lv, .non]) np20
        revert s20 h20 hp20
        generalize upd H19 p20 (.tup [.ref m0, lv, .non]) = H20
        intro s20 h20 hp20
        have hL2 : DqAll K (sans H20 a) ([.ref p8, .ref p10, .ref p12, .ref p15, .ref p16] ++ [.ref p18, .ref p19, .ref p20]) ([.tuple [.tuple es, dd], .tuple [.list es, ld], .tuple [.tuple (es.drop 1), ld], .tuple [.tuple (es ++ [.none]), ld], .tuple [.tuple es]] ++ [.list [.tuple es, ld], .tuple [.tuple es, ld, ld], .tuple [.tuple es, ld, .none]]) :=
          (hL.mono (Sm.of (Same.trans s17 (Same.trans s18 (Same.trans s19 s20))))).append (.cons (h18.mono (Sm.of (Same.trans s19 s20))) (.cons (h19.mono (Sm.of s20)) (.cons h20 .nil)))
        refine ⟨(by show 3 ≤ sizeLine; decide), fun p21 np21 => ?_⟩
        have s21 := same_new (o := .lst [.ref p18, .ref p19, .ref p20]) np21
        have e21 : upd H20 p21 (.lst [.ref p18, .ref p19, .ref p20]) p21 = some (.lst [.ref p18, .ref p19, .ref p20]) := upd_same
        have hp21 := hp20.new (o := .lst [.ref p18, .ref p19, .ref p20]) np21
        revert s21 e21 hp21
        generalize upd H20 p21 (.lst [.ref p18, .ref p19, .ref p20]) = H21
        intro s21 e21 hp21
        refine ⟨p17, p21, _, _, rfl, rfl, s21 _ _ (s20 _ _ (s19 _ _ (s18 _ _ e17))), e21, (by show 5 + 3 ≤ sizeLine; decide), fun p22 np22 => ?_⟩
        have s22 := same_new (o := .lst ([.ref p8, .ref p10, .ref p12, .ref p15, .ref p16] ++ [.ref p18, .ref p19, .ref p20])) np22
        refine ⟨a, c, .ref p22, _, rfl, hp21.new np22, by simp, .inl ⟨p22, rfl, SqL.of (sans_of (hp21.ne np22) upd_same)⟩, by show 8 < 1073741824; decide, fun H23 x sm23 hp23 hx => ?_⟩
        obtain ⟨d', hd', hq'⟩ := hL2.mem hx
        have smX : Sm a H20 H23 := (Sm.of (Same.trans s21 s22)).trans sm23
        refine ⟨x, d', _, _, _, rfl, hq'.mono smX, ?_, (Sm.of (Same.trans t19 s20)).trans smX, hp23⟩
        obtain ⟨k, hk⟩ := hbad
        have qM : ∀ k : Bool, Qk k 2 52 (.tuple es) := fun k => Qk.tup (parts k).2.1 (by rw [les]; omega)
        have qL : ∀ k : Bool, Qk k 2 52 ld := fun k => (parts k).2.2
        have qM1 : ∀ k : Bool, Qk k 2 65 (.tuple (es.drop 1)) := fun k => Qk.tup (fun d hd => (parts k).2.1 d (List.mem_of_mem_drop hd)) (by rw [List.length_drop, les]; omega)
        have qM2 : ∀ k : Bool, Qk k 2 65 (.tuple (es ++ [.none])) := fun k => Qk.tup (n := 1) (B := 12) (fun d hd => by
          rcases List.mem_append.mp hd with h | h
          · exact (parts k).2.1 d h
          · rw [List.mem_singleton.mp h]
            exact .none) (by rw [List.length_append, les]; show (z.length + 1) * 13 ≤ 65; omega)
        have qN : Qk true 2 52 (.list es) := Qk.lst (parts true).2.1 (by rw [les]; omega)
        simp only [List.cons_append, List.nil_append, List.mem_cons, List.not_mem_nil, or_false] at hd'
        rcases hd' with rfl | rfl | rfl | rfl | rfl | rfl | rfl | rfl
        · exact Bad.of (tup2 (k := k) (n := 2) (B := 2001) ((qM k).mono (by decide) (by decide)) (hk.mono (by decide) (by decide)) (Nat.le_refl _)) (by decide) (by decide)
        · exact Bad.of (tup2 (k := true) qN (qL true) (Nat.le_refl _)) (by decide) (by decide)
        · exact Bad.of (tup2 (k := true) (qM1 true) ((qL true).mono (by decide) (by decide)) (Nat.le_refl _)) (by decide) (by decide)
        · exact Bad.of (tup2 (k := true) (qM2 true) ((qL true).mono (by decide) (by decide)) (Nat.le_refl _)) (by decide) (by decide)
        · refine Bad.of (Qk.tup (k := true) (n := 2) (B := 52) (fun d hd => ?_) (Nat.le_refl _)) (by decide) (by show 1 * 53 ≤ 64074; decide)
          rw [List.mem_singleton.mp hd]
          exact qM true
        · refine Bad.of (Qk.lst (n := 2) (B := 52) (fun d hd => ?_) (Nat.le_refl _)) (by decide) (by show 2 * 53 ≤ 64074; decide)
          simp only [List.mem_cons, List.not_mem_nil, or_false] at hd
          rcases hd with rfl | rfl
          · exact qM true
          · exact qL true
        · exact Bad.of (tup3 (k := true) (qM true) (qL true) (qL true) (Nat.le_refl _)) (by decide) (by decide)
        · exact Bad.of (tup3 (k := true) (qM true) (qL true) .none (Nat.le_refl _)) (by decide) (by decide)
      · obtain ⟨m7, ms7, e7, hq7, hA7⟩ := hM.items
        cases e7
        have hj : j < es.length := by omega
        obtain ⟨mj, dj, emj, hdj, hqj⟩ := dqAll_at hA7 hj
        have lt1 : (es.take j).length ≤ 4 := by
          rw [List.length_take]
          omega
        have lt2 : (es.drop (j + 1)).length ≤ 4 := by
          rw [List.length_drop]
          omega
        have stBad : ∀ (k : Bool) {d : PyData}, Qk k 2 8008 d → Bad 4 64074 (.tuple [.tuple (es.take j ++ [d] ++ es.drop (j + 1)), ld]) := fun k d hk => by
          refine Bad.of (tup2 (k := k) (n := 3) (B := 32036) (Qk.tup (n := 2) (B := 8008) (fun d hd => ?_) ?_) (((parts k).2.2).mono (by decide) (by decide)) (Nat.le_refl _)) (by decide) (by decide)
          · exact mid_bad (fun e he => ((parts k).2.1 e (List.mem_of_mem_take he)).mono (by decide) (by decide)) (fun e he => ((parts k).2.1 e (List.mem_of_mem_drop he)).mono (by decide) (by decide)) hk hd
          · have ll : (es.take j ++ [d] ++ es.drop (j + 1)).length ≤ 4 := by
              rw [List.length_append, List.length_append, List.length_take, List.length_drop]
              show min j es.length + 1 + (es.length - (j + 1)) ≤ 4
              omega
            exact Nat.le_trans (Nat.mul_le_mul_right _ ll) (by decide)
        refine ⟨_, rfl, rfl, _, rfl, ?_⟩
        refine or_ways ?_ (fun hA => ?_)
        · refine iteT ?_
          refine ⟨_, rfl, _, rfl, _, rfl, slToI j (by rfl) hp7.at_ hM fun H8 v8 s8 h8 => ?_⟩
          have hp8 := hp7.same s8
          have hT8 := hT.mono (Sm.of (a := a) s8)
          obtain ⟨t8, ws8, e8, hq8, hA8⟩ := hT8.items
          refine ⟨_, rfl, _, rfl, _, rfl, t8, ws8, by rw [e8], .inr (seqT sans_same hq8), (by show 3 ≤ sizeLine; decide), fun p9 np9 => ?_⟩
          have s9 := same_new (o := .tup [.str "", .str "", .int ((ws8.length : Nat) : Int)]) np9
          have h9 : Dq K (sans (upd H8 p9 (.tup [.str "", .str "", .int ((ws8.length : Nat) : Int)])) a) (.ref p9) (.tuple [.str "", .str "", .int ((ws8.length : Nat) : Int)]) := new_tup hp8.at_ np9 (.cons (.str _) (.cons (.str _) (.cons (.int _) .nil)))
          have hp9 := hp8.new (o := .tup [.str "", .str "", .int ((ws8.length : Nat) : Int)]) np9
          revert s9 h9 hp9
          generalize upd H8 p9 (.tup [.str "", .str "", .int ((ws8.length : Nat) : Int)]) = H9
          intro s9 h9 hp9
          refine ⟨(by show 2 ≤ sizeLine; decide), fun p10 np10 => ?_⟩
          have s10 := same_new (o := .tup [.str "", .str ""]) np10
          have h10 : Dq K (sans (upd H9 p10 (.tup [.str "", .str ""])) a) (.ref p10) (.tuple [.str "", .str ""]) := new_tup hp9.at_ np10 (.cons (.str _) (.cons (.str _) .nil))
          have hp10 := hp9.new (o := .tup [.str "", .str ""]) np10
          revert s10 h10 hp10
          generalize upd H9 p10 (.tup [.str "", .str ""]) = H10
          intro s10 h10 hp10
          have t10 := Same.trans s8 (Same.trans s9 s10)
          have hL : DqAll K (sans H10 a) [od, .ref p9, .ref p10] [dd, .tuple [.str "", .str "", .int ((ws8.length : Nat) : Int)], .tuple [.str "", .str ""]] := .cons (hdd.mono (Sm.of t10)) (.cons (h9.mono (Sm.of s10)) (.cons h10 .nil))
          refine ⟨(by show 3 ≤ sizeLine; decide), fun p11 np11 => ?_⟩
          have s11 := same_new (o := .lst [od, .ref p9, .ref p10]) np11
          refine ⟨a, c, .ref p11, _, rfl, hp10.new np11, by simp, .inl ⟨p11, rfl, SqL.of (sans_of (hp10.ne np11) upd_same)⟩, by show 3 < 1073741824; decide, fun H12 x sm12 hp12 hx => ?_⟩
          obtain ⟨d', hd', hq'⟩ := hL.mem hx
          have smX : Sm a H10 H12 := (Sm.of s11).trans sm12
          have hit := hq'.mono smX
          have smI : Sm a H7 H12 := (Sm.of t10).trans smX
          have hfr : Dq K (sans H12 a) v8 (.tuple (es.take j)) := (h8.mono (Sm.of (Same.trans s9 s10))).mono smX
          have hitb : ∃ k, Qk k 2 8008 d' := by
            have l8 : ws8.length ≤ 4 := by
              rw [hA8.length]
              exact l4
            simp only [List.mem_cons, List.not_mem_nil, or_false] at hd'
            rcases hd' with rfl | rfl | rfl
            · obtain ⟨k, hk⟩ := hbad
              exact ⟨k, hk.mono (by decide) (by decide)⟩
            · exact ⟨true, (tup3 (k := true) (n := 0) (B := 3) (.str (by decide) (by decide +kernel)) (.str (by decide) (by decide +kernel)) (.int (by omega) (by omega) (Nat.le_refl _)) (Nat.le_refl _)).mono (by decide) (by decide)⟩
            · exact ⟨true, (tup2 (k := true) (n := 0) (B := 3) (.str (by decide) (by decide +kernel)) (.str (by decide) (by decide +kernel)) (Nat.le_refl _)).mono (by decide) (by decide)⟩
          refine ⟨(by show 1 ≤ sizeLine; decide), fun p13 np13 => ?_⟩
          have s13 := same_new (o := .tup [x]) np13
          have h13 : Dq K (sans (upd H12 p13 (.tup [x])) a) (.ref p13) (.tuple [d']) := new_tup hp12.at_ np13 (.cons hit .nil)
          have hp13 := hp12.new (o := .tup [x]) np13
          revert s13 h13 hp13
          generalize upd H12 p13 (.tup [x]) = H13
          intro s13 h13 hp13
          have hf13 := hfr.mono (Sm.of (a := a) s13)
          refine catP hp13.at_ hf13 h13 (by show (es.take j).length + 1 ≤ 100000; omega) fun H14 v14 s14 h14 => ?_
          have hp14 := hp13.same s14
          have smT := smI.trans (Sm.of (a := a) (Same.trans s13 s14))
          refine ⟨_, rfl, _, rfl, _, _, rfl, rfl, _, rfl, ?_⟩
          dsimp only [tNoPart]
          refine slFromI (j + 1) (by rfl) hp14.at_ (hM.mono smT) fun H15 v15 s15 h15 => ?_
          have hp15 := hp14.same s15
          refine catP hp15.at_ (h14.mono (Sm.of s15)) h15 (by rw [List.length_append]; show (es.take j).length + 1 + (es.drop (j + 1)).length ≤ 100000; omega) fun H16 v16 s16 h16 => ?_
          have hp16 := hp15.same s16
          have smU := smT.trans (Sm.of (a := a) (Same.trans s15 s16))
          refine ⟨_, rfl, (by show 2 ≤ sizeLine; decide), fun p17 np17 => ?_⟩
          refine ⟨.ref p17, .tuple [.tuple (es.take j ++ [d'] ++ es.drop (j + 1)), ld], _, _, _, rfl, new_tup hp16.at_ np17 (.cons h16 (.cons (hLd.mono smU) .nil)), ?_, smU.trans (Sm.new np17), hp16.new np17⟩
          obtain ⟨k, hk⟩ := hitb
          exact stBad k hk
        · refine ⟨_, rfl, _, rfl, m0, ms7, (j : Int), mj, rfl, rfl, seqT sans_same hq7, atI_nat emj, rfl, _, rfl, ?_⟩
          rcases moveV hqj (hes dj hdj) with rfl | ⟨pm, m1, m2, g, rfl, hpm, hm1, hm2, hg⟩
          · exact hA
          refine iteF ?_
          have hPm : Dq K (sans H7 a) (.ref pm) (.tuple [.str m1, .str m2, .int (g : Int)]) := .tup hpm (.cons (.str _) (.cons (.str _) (.cons (.int _) .nil)))
          refine ⟨_, rfl, a, c, 3, rfl, hp7, by decide, by decide, fun H8 pli sm8 hp8 pl0 pl3 => ?_⟩
          obtain ⟨pl, rfl⟩ := Int.eq_ofNat_of_zero_le pl0
          refine ⟨_, rfl, _, rfl, m0, ms7, (j : Int), _, rfl, rfl, seqT sm8.same hq7, atI_nat emj, pm, _, rfl, .inr (seqT sm8.same hpm), fun p9 np9 => ⟨_, _, rfl, ?_⟩⟩
          have p9a := hp8.ne np9
          have np9' : sans H8 a p9 = none := by
            rw [sans_ne p9a]
            exact np9
          have s9 := same_new (o := .lst [.str m1, .str m2, .int (g : Int)]) np9
          have e9 : upd H8 p9 (.lst [.str m1, .str m2, .int (g : Int)]) p9 = some (.lst [.str m1, .str m2, .int (g : Int)]) := upd_same
          have hp9 := hp8.new (o := .lst [.str m1, .str m2, .int (g : Int)]) np9
          revert s9 e9 hp9
          generalize upd H8 p9 (.lst [.str m1, .str m2, .int (g : Int)]) = H9
          intro s9 e9 hp9
          have hT8 := hT.mono sm8
          obtain ⟨t8, ws8, e8, hq8, hA8⟩ := hT8.items
          have l8 : ws8.length ≤ 4 := by
            rw [hA8.length]
            exact l4
          have hL : DqAll K (sans H8 a) [od, od, .int ((ws8.length : Nat) : Int), .int (0 - 1), .bl true, .str "0"] [dd, dd, .int ((ws8.length : Nat) : Int), .int (0 - 1), .bool true, .str "0"] :=
            .cons (hdd.mono sm8) (.cons (hdd.mono sm8) (.cons (.int _) (.cons (.int _) (.cons (.bl _) (.cons (.str _) .nil)))))
          refine ⟨_, rfl, _, rfl, _, rfl, _, rfl, t8, ws8, by rw [e8], .inr (seqT (Same.trans sans_same s9) hq8), _, _, rfl, rfl, (by show 6 ≤ sizeLine; decide), fun p10 np10 => ?_⟩
          have s10 := same_new (o := .lst [od, od, .int ((ws8.length : Nat) : Int), .int (0 - 1), .bl true, .str "0"]) np10
          refine ⟨a, c, .ref p10, _, rfl, hp9.new np10, by simp, .inl ⟨p10, rfl, SqL.of (sans_of (hp9.ne np10) upd_same)⟩, by show 6 < 1073741824; decide, fun H11 x sm11 hp11 hx => ?_⟩
          obtain ⟨d', hd', hq'⟩ := hL.mem hx
          have smX : Sm a H9 H11 := (Sm.of s10).trans sm11
          have e11 := smX.at_ p9a e9
          refine ⟨_, rfl, _, rfl, p9, _, _, pl, rfl, rfl, e11, ixN_nat (by show pl < 3; omega), ?_⟩
          have sm12 : Sm a H8 (upd H11 p9 (.lst (List.set [.str m1, .str m2, .int (g : Int)] pl x))) := ((Sm.of s9).trans smX).upd np9'
          have hp12 : Pot K (upd H11 p9 (.lst (List.set [.str m1, .str m2, .int (g : Int)] pl x))) a c := hp8.to sm12 (hp11.at_.upd p9a)
          have qd : ∃ k, Qk k 1 2001 d' := by
            simp only [List.mem_cons, List.not_mem_nil, or_false] at hd'
            rcases hd' with rfl | rfl | rfl | rfl | rfl | rfl
            · exact hbad
            · exact hbad
            · exact ⟨true, .int (by omega) (by omega) (by decide)⟩
            · exact ⟨true, .int (by decide) (by decide) (by decide)⟩
            · exact ⟨true, .bool true⟩
            · exact ⟨true, .str (by decide) (by decide +kernel)⟩
          have qm : ∀ k : Bool, ∀ d ∈ [PyData.str m1, .str m2, .int (g : Int)], Qk k 0 3 d := fun k d hd => by
            simp only [List.mem_cons, List.not_mem_nil, or_false] at hd
            rcases hd with rfl | rfl | rfl
            · exact hm1.q zc (Nat.le_refl _)
            · exact hm2.q zc (Nat.le_refl _)
            · exact .int (by omega) (by omega) (Nat.le_refl _)
          have hus : ∃ (us : List V) (ds : List PyData), upd H11 p9 (.lst (List.set [.str m1, .str m2, .int (g : Int)] pl x)) p9 = some (.lst us) ∧ DqAll K (sans (upd H11 p9 (.lst (List.set [.str m1, .str m2, .int (g : Int)] pl x))) a) us ds ∧ ∃ k, Qk k 2 8008 (.tuple ds) := by
            refine ⟨_, _, upd_same, DqAll.set (hq'.mono sm12) pl (DqAll.cons (.str m1) (.cons (.str m2) (.cons (.int (g : Int)) .nil))), ?_⟩
            obtain ⟨k, hk⟩ := qd
            refine ⟨k, Qk.tup (n := 1) (B := 2001) (fun d hd => ?_) ?_⟩
            · rcases List.mem_or_eq_of_mem_set hd with h | h
              · exact (qm k d h).mono (by decide) (by decide)
              · rw [h]
                exact hk
            · rw [List.length_set]
              show 3 * 2002 ≤ 8008
              decide
          revert sm12 hp12 hus
          generalize upd H11 p9 (.lst (List.set [.str m1, .str m2, .int (g : Int)] pl x)) = H12
          intro sm12 hp12 ⟨us, ds, e12, hus, qus⟩
          have w12 := sm8.trans sm12
          refine ⟨_, rfl, p9, us, rfl, .inl ⟨SqL.of e12, fun p13 np13 => ?_⟩⟩
          have s13 := same_new (o := .tup us) np13
          have h13 : Dq K (sans (upd H12 p13 (.tup us)) a) (.ref p13) (.tuple ds) := new_tup hp12.at_ np13 hus
          have hp13 := hp12.new (o := .tup us) np13
          revert s13 h13 hp13
          generalize upd H12 p13 (.tup us) = H13
          intro s13 h13 hp13
          have e13 := s13 _ _ e12
          refine ⟨_, rfl, p9, us, rfl, .inl ⟨SqL.of e13, fun p14 np14 => ?_⟩⟩
          have s14 := same_new (o := .tup us) np14
          have h14 : Dq K (sans (upd H13 p14 (.tup us)) a) (.ref p14) (.tuple ds) := new_tup hp13.at_ np14 (hus.mono (Sm.of s13))
          have hp14 := hp13.new (o := .tup us) np14
          revert s14 h14 hp14
          generalize upd H13 p14 (.tup us) = H14
          intro s14 h14 hp14
          have w14 := w12.trans (Sm.of (a := a) (Same.trans s13 s14))
          refine ⟨_, rfl, _, rfl, m0, ms7, (j : Int), _, rfl, rfl, seqT w14.same hq7, atI_nat emj, pm, _, rfl, .inr (seqT w14.same hpm), fun p15 np15 => ?_⟩
          have s15 := same_new (o := .lst [.str m1, .str m2, .int (g : Int)]) np15
          have h15 : Dq K (sans (upd H14 p15 (.lst [.str m1, .str m2, .int (g : Int)])) a) (.ref p15) (.list [.str m1, .str m2, .int (g : Int)]) := new_lst hp14.at_ np15 (.cons (.str _) (.cons (.str _) (.cons (.int _) .nil)))
          have hp15 := hp14.new (o := .lst [.str m1, .str m2, .int (g : Int)]) np15
          revert s15 h15 hp15
          generalize upd H14 p15 (.lst [.str m1, .str m2, .int (g : Int)]) = H15
          intro s15 h15 hp15
          have w15 := w14.trans (Sm.of (a := a) s15)
          refine ⟨_, rfl, _, rfl, m0, ms7, (j : Int), _, rfl, rfl, seqT w15.same hq7, atI_nat emj, (by show 1 ≤ sizeLine; decide), fun p16 np16 => ?_⟩
          have s16 := same_new (o := .tup [.int 0]) np16
          have h16 : Dq K (sans (upd H15 p16 (.tup [.int 0])) a) (.ref p16) (.tuple [.int 0]) := new_tup hp15.at_ np16 (.cons (.int _) .nil)
          have hp16 := hp15.new (o := .tup [.int 0]) np16
          revert s16 h16 hp16
          generalize upd H15 p16 (.tup [.int 0]) = H16
          intro s16 h16 hp16
          have w16 := w15.trans (Sm.of (a := a) s16)
          refine catP hp16.at_ (hPm.mono w16) h16 (by show 3 + 1 ≤ 100000; decide) fun H17 v17 s17 h17 => ?_
          have hp17 := hp16.same s17
          have w17 := w16.trans (Sm.of (a := a) s17)
          refine ⟨_, rfl, _, rfl, m0, ms7, (j : Int), _, rfl, rfl, seqT w17.same hq7, atI_nat emj, (by show 1 ≤ sizeLine; decide), fun p18 np18 => ?_⟩
          have s18 := same_new (o := .tup [.str ""]) np18
          have h18 : Dq K (sans (upd H17 p18 (.tup [.str ""])) a) (.ref p18) (.tuple [.str ""]) := new_tup hp17.at_ np18 (.cons (.str _) .nil)
          have hp18 := hp17.new (o := .tup [.str ""]) np18
          revert s18 h18 hp18
          generalize upd H17 p18 (.tup [.str ""]) = H18
          intro s18 h18 hp18
          have w18 := w17.trans (Sm.of (a := a) s18)
          refine catP hp18.at_ (hPm.mono w18) h18 (by show 3 + 1 ≤ 100000; decide) fun H19 v19 s19 h19 => ?_
          have hp19 := hp18.same s19
          have w19 := w18.trans (Sm.of (a := a) s19)
          have u18 := Same.trans s18 s19
          have u16 := Same.trans s16 (Same.trans s17 u18)
          have hL2 : DqAll K (sans H19 a) [.ref p13, .ref p14, .ref p15, v17, v19] [.tuple ds, .tuple ds, .list [.str m1, .str m2, .int (g : Int)], .tuple ([.str m1, .str m2, .int (g : Int)] ++ [.int 0]), .tuple ([.str m1, .str m2, .int (g : Int)] ++ [.str ""])] :=
            .cons (h13.mono (Sm.of (Same.trans s14 (Same.trans s15 u16)))) (.cons (h14.mono (Sm.of (Same.trans s15 u16))) (.cons (h15.mono (Sm.of u16)) (.cons (h17.mono (Sm.of u18)) (.cons h19 .nil))))
          refine ⟨(by show 5 ≤ sizeLine; decide), fun p20 np20 => ?_⟩
          have s20 := same_new (o := .lst [.ref p13, .ref p14, .ref p15, v17, v19]) np20
          have e20 : upd H19 p20 (.lst [.ref p13, .ref p14, .ref p15, v17, v19]) p20 = some (.lst [.ref p13, .ref p14, .ref p15, v17, v19]) := upd_same
          have p20a := hp19.ne np20
          have hp20 := hp19.new (o := .lst [.ref p13, .ref p14, .ref p15, v17, v19]) np20
          revert s20 e20 hp20
          generalize upd H19 p20 (.lst [.ref p13, .ref p14, .ref p15, v17, v19]) = H20
          intro s20 e20 hp20
          have w20 := w19.trans (Sm.of (a := a) s20)
          refine ⟨_, rfl, _, rfl, _, rfl, slToI j (by rfl) hp20.at_ (hM.mono w20) fun H21 v21 s21 h21 => ?_⟩
          have hp21 := hp20.same s21
          refine ⟨_, rfl, _, rfl, a, c, .ref p20, _, rfl, hp21, by simp, .inl ⟨p20, rfl, SqL.of (sans_of p20a (s21 _ _ e20))⟩, by show 5 < 1073741824; decide, fun H22 x2 sm22 hp22 hx2 => ?_⟩
          obtain ⟨d2, hd2, hq2⟩ := hL2.mem hx2
          have smY : Sm a H19 H22 := (Sm.of (Same.trans s20 s21)).trans sm22
          have hit := hq2.mono smY
          have smI : Sm a H7 H22 := w19.trans smY
          have hfr : Dq K (sans H22 a) v21 (.tuple (es.take j)) := h21.mono sm22
          have hitb : ∃ k, Qk k 2 8008 d2 := by
            simp only [List.mem_cons, List.not_mem_nil, or_false] at hd2
            rcases hd2 with rfl | rfl | rfl | rfl | rfl
            · exact qus
            · exact qus
            · exact ⟨true, (Qk.lst (qm true) (Nat.le_refl _)).mono (by decide) (by show 3 * 4 ≤ 8008; decide)⟩
            · refine ⟨true, (Qk.tup (k := true) (n := 0) (B := 3) (fun d hd => ?_) (Nat.le_refl _)).mono (by decide) (by show 4 * 4 ≤ 8008; decide)⟩
              rcases List.mem_append.mp hd with h | h
              · exact qm true d h
              · rw [List.mem_singleton.mp h]
                exact .int (by decide) (by decide) (by decide)
            · refine ⟨true, (Qk.tup (k := true) (n := 0) (B := 3) (fun d hd => ?_) (Nat.le_refl _)).mono (by decide) (by show 4 * 4 ≤ 8008; decide)⟩
              rcases List.mem_append.mp hd with h | h
              · exact qm true d h
              · rw [List.mem_singleton.mp h]
                exact .str (by decide) (by decide +kernel)
          refine ⟨(by show 1 ≤ sizeLine; decide), fun p23 np23 => ?_⟩
          have s23 := same_new (o := .tup [x2]) np23
          have h23 : Dq K (sans (upd H22 p23 (.tup [x2])) a) (.ref p23) (.tuple [d2]) := new_tup hp22.at_ np23 (.cons hit .nil)
          have hp23 := hp22.new (o := .tup [x2]) np23
          revert s23 h23 hp23
          generalize upd H22 p23 (.tup [x2]) = H23
          intro s23 h23 hp23
          have hf23 := hfr.mono (Sm.of (a := a) s23)
          refine catP hp23.at_ hf23 h23 (by show (es.take j).length + 1 ≤ 100000; omega) fun H24 v24 s24 h24 => ?_
          have hp24 := hp23.same s24
          have smT := smI.trans (Sm.of (a := a) (Same.trans s23 s24))
          refine ⟨_, rfl, _, rfl, _, _, rfl, rfl, _, rfl, ?_⟩
          dsimp only [tNoPart]
          refine slFromI (j + 1) (by rfl) hp24.at_ (hM.mono smT) fun H25 v25 s25 h25 => ?_
          have hp25 := hp24.same s25
          refine catP hp25.at_ (h24.mono (Sm.of s25)) h25 (by rw [List.length_append]; show (es.take j).length + 1 + (es.drop (j + 1)).length ≤ 100000; omega) fun H26 v26 s26 h26 => ?_
          have hp26 := hp25.same s26
          have smU := smT.trans (Sm.of (a := a) (Same.trans s25 s26))
          refine ⟨_, rfl, (by show 2 ≤ sizeLine; decide), fun p27 np27 => ?_⟩
          refine ⟨.ref p27, .tuple [.tuple (es.take j ++ [d2] ++ es.drop (j + 1)), ld], _, _, _, rfl, new_tup hp26.at_ np27 (.cons h26 (.cons (hLd.mono smU) .nil)), ?_, smU.trans (Sm.new np27), hp26.new np27⟩
          obtain ⟨k, hk⟩ := hitb
          exact stBad k hk
    · rintro σ H8 ⟨sv, sd, s9, s13, s14, rfl, hsv, ⟨k, hk⟩, sm8, hp8⟩
      have hT8 := hT.mono sm8
      refine ⟨_, rfl, _, rfl, _, rfl, _, rfl, _, rfl, slToI i (by rfl) hp8.at_ hT8 fun H9 v9 s9 h9 => ?_⟩
      have hp9 := hp8.same s9
      refine ⟨_, rfl, (by show 1 ≤ sizeLine; decide), fun p10 np10 => ?_⟩
      have s10 := same_new (o := .tup [sv]) np10
      have h10 : Dq K (sans (upd H9 p10 (.tup [sv])) a) (.ref p10) (.tuple [sd]) := new_tup hp9.at_ np10 (.cons (hsv.mono (Sm.of s9)) .nil)
      have hp10 := hp9.new (o := .tup [sv]) np10
      revert s10 h10 hp10
      generalize upd H9 p10 (.tup [sv]) = H10
      intro s10 h10 hp10
      have lt1 : (ss.take i).length ≤ 4 := by
        rw [List.length_take]
        omega
      have lt2 : (ss.drop (i + 1)).length ≤ 4 := by
        rw [List.length_drop]
        omega
      refine catP hp10.at_ (h9.mono (Sm.of s10)) h10 (by show (ss.take i).length + 1 ≤ 100000; omega) fun H11 v11 s11 h11 => ?_
      have hp11 := hp10.same s11
      have sA := Same.trans s9 (Same.trans s10 s11)
      refine ⟨_, rfl, _, rfl, _, _, rfl, rfl, _, rfl, ?_⟩
      dsimp only [tNoPart]
      refine slFromI (i + 1) (by rfl) hp11.at_ (hT8.mono (Sm.of sA)) fun H12 v12 s12 h12 => ?_
      have hp12 := hp11.same s12
      refine catP hp12.at_ (h11.mono (Sm.of s12)) h12 (by rw [List.length_append]; show (ss.take i).length + 1 + (ss.drop (i + 1)).length ≤ 100000; omega) fun H13 v13 s13 h13 => ?_
      have hp13 := hp12.same s13
      refine ⟨(by show 3 ≤ sizeLine; decide), fun p14 np14 => ?_⟩
      refine fin _ _ (.tuple [.str z, .str f, .tuple (ss.take i ++ [sd] ++ ss.drop (i + 1))]) ((sm7.trans sm8).trans ((Sm.of (Same.trans sA (Same.trans s12 s13))).trans (Sm.new np14))) (hp13.new np14) (new_tup hp13.at_ np14 (.cons (.str _) (.cons (.str _) (.cons h13 .nil)))) ?_
      have qX : Qk k 5 320375 (.tuple (ss.take i ++ [sd] ++ ss.drop (i + 1))) := by
        refine Qk.tup (n := 4) (B := 64074) (fun d hd => ?_) ?_
        · exact mid_bad (fun e he => (qs k e (List.mem_of_mem_take he)).mono (by decide) (by decide)) (fun e he => (qs k e (List.mem_of_mem_drop he)).mono (by decide) (by decide)) hk hd
        · have ll : (ss.take i ++ [sd] ++ ss.drop (i + 1)).length ≤ 4 := by
            rw [List.length_append, List.length_append, List.length_take, List.length_drop]
            show min i ss.length + 1 + (ss.length - (i + 1)) ≤ 4
            omega
          exact Nat.le_trans (Nat.mul_le_mul_right _ ll) (by decide)
      exact Bad.of (tup3 (k := k) (qz k 5 320375 (by decide)) (qf k 5 320375 (by decide)) qX (Nat.le_refl _)) (by decide) (by decide)
end
end K02

namespace K02
open PySem PySem.Spec PyProof.Rows L2 G Lk
section
variable {P : Program} {w : World} {K : PySem.W.Frag} {mg : Str → Option Value} {base : Heap}
/-- is_word of a text and data -/
def sp_is_word (K : PySem.W.Frag) : Sp := fun vs H Q _ => ∃ (s : Str) (v : V) (d : PyData), vs = [.str s, v] ∧ Dq K H v d ∧ (∀ z, d = .str z → z.length ≤ sizeLine) ∧ Q (.bl (isWord s d)) H
/-- def is_word(signs, thing): -/
theorem ok_is_word (T : Tx K mg) : FnOk P w K mg base CX0 1 T.a_is_word T.fd_is_word ["signs", "thing"] (sp_is_word K) := by
  refine T.F_is_word.ok sc_is_word (fun vs H Q E h => ?_) (fun cdv A outer s H vs Q E hr h => ?_)
  · obtain ⟨_, _, _, rfl, _⟩ := h
    rfl
  · refine ⟨_, (pss_one (ps_ret (pe_and (pe_callB call_isi (by rfl) T.z_isinstance (by decide +kernel) (pa_cons (pv 1) (pa_cons (pe_bltn (v := .ty "str") (by rfl) T.z_str (by decide +kernel) rfl) pa_nil))) (pe_one (pe_cmpR op_eq (pe_bm PySem.F.plainAttrs_str PySem.F.slot_str_strip PySem.F.type_str_strip mt_stripChars (pv 1) (pa_cons (pv 0) pa_nil)) pe_str (nomark _)))))), ?_⟩
    obtain ⟨s, v, d, rfl, hd, hz, q⟩ := h
    refine ⟨v, rfl, v, .ty "str", _, _, _, rfl, .ty "str", hd.ty, kStr d, _, rfl, ?_⟩
    cases hd with
    | str z =>
      refine iteT ⟨.str z, rfl, rfl, .str s, rfl, z, s, rfl, rfl, hz z rfl, ?_⟩
      refine ⟨rfl, ?_⟩
      show Q (.bl (decide (V.str (Txt.stripChars z s) = V.str (tx [])))) H
      rw [strip_none]
      exact q
    | non => exact iteF q
    | bl b => exact iteF q
    | int i => exact iteF q
    | lst _ _ => exact iteF q
    | tup _ _ => exact iteF q
    | emp _ => exact iteF q
end
end K02

namespace K02
open PySem PySem.Spec PyProof.Rows L2 G Lk
section
variable {P : Program} {w : World} {K : PySem.W.Frag} {mg : Str → Option Value} {base : Heap}
def sp_are_signs (K : PySem.W.Frag) : Sp := fun vs H Q _ => ∃ (v : V) (d : PyData), vs = [v] ∧ Dq K H v d ∧ Light d ∧ ∀ H', Same H H' → Q (.bl (signsB d)) H'
/-- def _are_signs(thing): -/
theorem ok_are_signs (T : Tx K mg) : FnOk P w K mg base CX0 2 T.a__are_signs T.fd__are_signs ["thing"] (sp_are_signs K) := by
  refine T.F__are_signs.ok sc_are_signs (fun vs H Q E h => ?_) (fun cdv A outer s H vs Q E hr h => ?_)
  · obtain ⟨_, _, rfl, _⟩ := h
    rfl
  · refine ⟨_, (pss_cons (ps_if (PW.pt (pw_or (pt_not (pt_val (pe_call (ok_is_word T) (hr.mono (by decide)) (by rfl) T.g_is_word T.F_is_word.kp T.b_is_word .nil pass0 (pa_cons (pe_glob (v := .str "abcdefghijklmnopqrstuvwxyz") (by rfl) T.m_LETTERS ⟨_, rfl⟩) (pa_cons (pv 0) pa_nil))))) (pw_or1 (pt_not (pt_chain op_le op_le pe_int (pe_callB call_len_str (by rfl) T.z_len PySem.boot_len (pa_cons (pv 0) pa_nil)) (pe_glob (v := .int 4) (by rfl) T.m_MOST_SIGNS ⟨_, rfl⟩))))))
      (pss_one (ps_ret pe_bl))
      pss_nil)
    (pss_one (ps_ret (pe_cmpR (op_eqD hr.units) (pe_callTy (call_list_ofS rfl) (by rfl) T.z_list (by decide +kernel) (pa_cons (pv 0) pa_nil)) (pe_callB (Ls.cr_sortedT rfl) (by rfl) T.z_sorted (by decide +kernel) (pa_cons (pe_callTy (Ls.cr_setT rfl) (by rfl) T.z_set (by decide +kernel) (pa_cons (pv 0) pa_nil)) pa_nil)) (nomark _))))), ?_⟩
    obtain ⟨v, d, rfl, hd, hz, q⟩ := h
    refine ⟨v, rfl, "abcdefghijklmnopqrstuvwxyz", v, d, rfl, hd, (fun z e => light_str (e ▸ hz)), _, rfl, ?_⟩
    have no : signsB d = false → Q (.bl false) H := fun e => by
      have q := q H (Same.refl H)
      rw [e] at q
      exact q
    cases hd with
    | str z =>
      have q : ∀ H', Same H H' → Q (.bl (allIn "abcdefghijklmnopqrstuvwxyz" z && ((decide (1 ≤ z.length) && decide (z.length ≤ 4)) && Ls.ascB z))) H' := q
      show if (!allIn "abcdefghijklmnopqrstuvwxyz" z) = true then _ else _
      cases e : allIn "abcdefghijklmnopqrstuvwxyz" z with
      | false =>
        rw [e] at q
        exact iteT (iteT (q H (Same.refl H)))
      | true =>
        rw [e, tt_and] at q
        refine iteF ⟨_, rfl, z, rfl, light_str hz, 1, _, rfl, rfl, _, rfl, ?_⟩
        by_cases e1 : 1 ≤ z.length
        · rw [decide_eq_true e1, tt_and] at q
          rw [decide_eq_true (show (1 : Int) ≤ ((z.length : Nat) : Int) by omega)]
          refine iteT ⟨_, _, rfl, rfl, _, rfl, ?_⟩
          by_cases e2 : z.length ≤ 4
          · rw [decide_eq_true e2, tt_and] at q
            rw [decide_eq_true (show ((z.length : Nat) : Int) ≤ 4 by omega)]
            refine iteF ⟨_, rfl, z, rfl, light_str hz, fun l nl => ?_⟩
            have s1 := same_new (o := .lst (sg z)) nl
            refine ⟨_, rfl, z, rfl, (by have : z.cps.size = z.length := rfl; omega), fun S nS => ?_⟩
            have s2 := same_new (o := Ls.SetS w S (Ls.signsT z)) nS
            refine ⟨S, z, rfl, upd_same, (by have : z.cps.size = z.length := rfl; omega), fun cs p iff mem lc np => ?_⟩
            have s3 := same_new (o := .lst ((cs.map Ls.one).map V.str)) np
            have small : ∀ c ∈ z.cps.toList, c < 1000 := small_letters e
            refine ⟨.list ((z.cps.toList.map Ls.one).map PyData.str), .list ((cs.map Ls.one).map PyData.str), .lst (SqL.of (s3 _ _ (s2 _ _ ?_))) (dq_strs _), .lst (SqL.of upd_same) (dq_strs _), shaped_ones _ small, shaped_ones _ fun c hc => small c (mem c hc), ?_⟩
            · rw [upd_same, sg_ones]
            · rw [eqv_strs, asc_eq iff]
              exact q _ (Same.trans s1 (Same.trans s2 s3))
          · rw [decide_eq_false e2, ff_and] at q
            rw [decide_eq_false (show ¬ ((z.length : Nat) : Int) ≤ 4 by omega)]
            exact iteT (q H (Same.refl H))
        · rw [decide_eq_false e1, ff_and, ff_and] at q
          rw [decide_eq_false (show ¬ (1 : Int) ≤ ((z.length : Nat) : Int) by omega)]
          exact iteF ⟨_, rfl, iteT (q H (Same.refl H))⟩
    | non => exact iteT (iteT (no rfl))
    | bl b => exact iteT (iteT (no rfl))
    | int i => exact iteT (iteT (no rfl))
    | lst _ _ => exact iteT (iteT (no rfl))
    | tup _ _ => exact iteT (iteT (no rfl))
    | emp _ => exact iteT (iteT (no rfl))
end
end K02

namespace K02
open PySem PySem.Spec PyProof.Rows L2 G Lk
section
variable {P : Program} {w : World} {K : PySem.W.Frag} {mg : Str → Option Value} {base : Heap}
/-- an integer -/
def wholeB : PyData → Bool
  | .int _ => true
  | _ => false
def sp_is_whole (K : PySem.W.Frag) : Sp := fun vs H Q _ => ∃ (v : V) (d : PyData), vs = [v] ∧ Dq K H v d ∧ Q (.bl (wholeB d)) H
/-- def is_whole(thing): -/
theorem ok_is_whole (T : Tx K mg) : FnOk P w K mg base CX0 1 T.a_is_whole T.fd_is_whole ["thing"] (sp_is_whole K) := by
  refine T.F_is_whole.ok sc_is_whole (fun vs H Q E h => ?_) (fun cdv A outer s H vs Q E hr h => ?_)
  · obtain ⟨_, _, rfl, _⟩ := h
    rfl
  · refine ⟨_, (pss_one (ps_ret (pe_and (pe_callB call_isi (by rfl) T.z_isinstance (by decide +kernel) (pa_cons (pv 0) (pa_cons (pe_bltn (v := .ty "int") (by rfl) T.z_int (by decide +kernel) rfl) pa_nil))) (pe_one (pe_not (pe_callB call_isi (by rfl) T.z_isinstance (by decide +kernel) (pa_cons (pv 0) (pa_cons (pe_bltn (v := .ty "bool") (by rfl) T.z_bool (by decide +kernel) rfl) pa_nil)))))))), ?_⟩
    obtain ⟨v, d, rfl, hd, q⟩ := h
    refine ⟨v, rfl, v, .ty "int", _, _, _, rfl, .ty "int", hd.ty, kInt d, _, rfl, ?_⟩
    cases hd with
    | int i => exact iteT ⟨.int i, rfl, .int i, .ty "bool", _, _, _, rfl, .ty "bool", .base (.int i), kBool (.int i), _, rfl, q⟩
    | bl b => exact iteT ⟨.bl b, rfl, .bl b, .ty "bool", _, _, _, rfl, .ty "bool", .base (.bl b), kBool (.bool b), _, rfl, q⟩
    | non => exact iteF q
    | str z => exact iteF q
    | lst _ _ => exact iteF q
    | tup _ _ => exact iteF q
    | emp _ => exact iteF q
end
end K02

namespace K02
open PySem PySem.Spec PyProof.Rows L2 G Lk
section
variable {P : Program} {w : World} {K : PySem.W.Frag} {mg : Str → Option Value} {base : Heap}
def sp_is_number (K : PySem.W.Frag) : Sp := fun vs H Q _ => ∃ (n : Int) (v : V) (d : PyData), vs = [.int n, v] ∧ Dq K H v d ∧ Q (.bl (countB n d)) H
/-- def is_number(many, thing): -/
theorem ok_is_number (T : Tx K mg) : FnOk P w K mg base CX0 2 T.a_is_number T.fd_is_number ["many", "thing"] (sp_is_number K) := by
  refine T.F_is_number.ok sc_is_number (fun vs H Q E h => ?_) (fun cdv A outer s H vs Q E hr h => ?_)
  · obtain ⟨_, _, _, rfl, _⟩ := h
    rfl
  · refine ⟨_, (pss_one (ps_ret (pe_and (pe_call (ok_is_whole T) (hr.mono (by decide)) (by rfl) T.g_is_whole T.F_is_whole.kp T.b_is_whole .nil pass0 (pa_cons (pv 1) pa_nil)) (pe_one (pe_chain op_le op_lt pe_int (pv 1) (pv 0)))))), ?_⟩
    obtain ⟨n, v, d, rfl, hd, q⟩ := h
    refine ⟨_, rfl, v, d, rfl, hd, _, rfl, ?_⟩
    cases hd with
    | int i =>
      have q : Q (.bl (decide (0 ≤ i) && decide (i < n))) H := q
      refine iteT ⟨_, rfl, 0, i, rfl, rfl, _, rfl, ?_⟩
      cases e : decide (0 ≤ i) with
      | false =>
        rw [e] at q
        exact iteF q
      | true =>
        rw [e] at q
        exact iteT ⟨_, rfl, i, n, rfl, rfl, q⟩
    | bl b => exact iteF q
    | non => exact iteF q
    | str z => exact iteF q
    | lst _ _ => exact iteF q
    | tup _ _ => exact iteF q
    | emp _ => exact iteF q
end
end K02

namespace K02
open PySem PySem.Spec PyProof.Rows L2 G Lk
section
variable {P : Program} {w : World} {K : PySem.W.Frag} {mg : Str → Option Value} {base : Heap}
def sp_is_short_word (K : PySem.W.Frag) : Sp := fun vs H Q _ => ∃ (s : Str) (v : V) (d : PyData), vs = [.str s, v] ∧ Dq K H v d ∧ Light d ∧ Q (.bl (shortB s d)) H
/-- def _is_short_word(signs, thing): -/
theorem ok_is_short_word (T : Tx K mg) : FnOk P w K mg base CX0 2 T.a__is_short_word T.fd__is_short_word ["signs", "thing"] (sp_is_short_word K) := by
  refine T.F__is_short_word.ok sc_is_short_word (fun vs H Q E h => ?_) (fun cdv A outer s H vs Q E hr h => ?_)
  · obtain ⟨_, _, _, rfl, _⟩ := h
    rfl
  · refine ⟨_, (pss_one (ps_ret (pe_and (pe_call (ok_is_word T) (hr.mono (by decide)) (by rfl) T.g_is_word T.F_is_word.kp T.b_is_word .nil pass0 (pa_cons (pv 0) (pa_cons (pv 1) pa_nil))) (pe_one (pe_cmpR op_le (pe_callB call_len_str (by rfl) T.z_len PySem.boot_len (pa_cons (pv 1) pa_nil)) (pe_glob (v := .int 2000) (by rfl) T.m_MOST_WORD ⟨_, rfl⟩) (nomark _)))))), ?_⟩
    obtain ⟨s, v, d, rfl, hd, hz, q⟩ := h
    refine ⟨.str s, rfl, v, rfl, s, v, d, rfl, hd, (fun z e => light_str (e ▸ hz)), _, rfl, ?_⟩
    cases hd with
    | str z =>
      have q : Q (.bl (allIn s z && decide (z.length ≤ 2000))) H := q
      show if allIn s z = true then _ else _
      cases e : allIn s z with
      | false =>
        rw [e] at q
        exact iteF q
      | true =>
        rw [e] at q
        refine iteT ⟨.str z, rfl, z, rfl, light_str hz, _, _, rfl, rfl, ?_⟩
        have e2 : decide (((z.length : Nat) : Int) ≤ 2000) = (true && decide (z.length ≤ 2000)) := by
          rw [Bool.true_and]
          exact decide_eq_decide.mpr ⟨fun x => by omega, fun x => by omega⟩
        show Q (.bl (decide (((z.length : Nat) : Int) ≤ 2000))) H
        rw [e2]
        exact q
    | non => exact iteF q
    | bl b => exact iteF q
    | int i => exact iteF q
    | lst _ _ => exact iteF q
    | tup _ _ => exact iteF q
    | emp _ => exact iteF q
end
end K02

namespace K02
open PySem PySem.Spec PyProof.Rows L2 G Lk
section
variable {P : Program} {w : World} {K : PySem.W.Frag} {mg : Str → Option Value} {base : Heap}
def sp_is_move (K : PySem.W.Frag) : Sp := fun vs H Q _ => ∃ (s : Str) (n : Int) (v : V) (d : PyData), vs = [.str s, .int n, v] ∧ Dq K H v d ∧ Light d ∧ Q (.bl (moveB s n d)) H
/-- def _is_move(signs, many, thing): -/
theorem ok_is_move (T : Tx K mg) : FnOk P w K mg base CX0 3 T.a__is_move T.fd__is_move ["signs", "many", "thing"] (sp_is_move K) := by
  refine T.F__is_move.ok sc_is_move (fun vs H Q E h => ?_) (fun cdv A outer s H vs Q E hr h => ?_)
  · obtain ⟨_, _, _, _, rfl, _⟩ := h
    rfl
  · refine ⟨_, (pss_cons (ps_if (PW.pt (pw_or (pt_not (pt_val (pe_callB call_isi (by rfl) T.z_isinstance (by decide +kernel) (pa_cons (pv 2) (pa_cons (pe_bltn (v := .ty "tuple") (by rfl) T.z_tuple (by decide +kernel) rfl) pa_nil))))) (pw_or1 (pt_cmpR op_ne (pe_callB call_len_seq (by rfl) T.z_len PySem.boot_len (pa_cons (pv 2) pa_nil)) pe_int (nomark _)))))
      (pss_one (ps_ret pe_bl))
      pss_nil)
    (pss_cons (ps_asg (pv 2) (pg_tup rfl (pgs_cons (pg_name (i := 3) sc_is_move.nd rfl (by first | exact Or.inl rfl | exact Or.inr rfl)) (pgs_cons (pg_name (i := 4) sc_is_move.nd rfl (by first | exact Or.inl rfl | exact Or.inr rfl)) (pgs_cons (pg_name (i := 5) sc_is_move.nd rfl (by first | exact Or.inl rfl | exact Or.inr rfl)) pgs_nil)))))
    (pss_cons (ps_if (PW.pt (pw_or (pt_not (pt_val (pe_call (ok_is_short_word T) (hr.mono (by decide)) (by rfl) T.g__is_short_word T.F__is_short_word.kp T.b__is_short_word .nil pass0 (pa_cons (pv 0) (pa_cons (pv 3) pa_nil))))) (pw_or1 (pt_not (pt_val (pe_call (ok_is_short_word T) (hr.mono (by decide)) (by rfl) T.g__is_short_word T.F__is_short_word.kp T.b__is_short_word .nil pass0 (pa_cons (pv 0) (pa_cons (pv 4) pa_nil))))))))
      (pss_one (ps_ret pe_bl))
      pss_nil)
    (pss_one (ps_ret (pe_call (ok_is_number T) (hr.mono (by decide)) (by rfl) T.g_is_number T.F_is_number.kp T.b_is_number .nil pass0 (pa_cons (pv 1) (pa_cons (pv 5) pa_nil)))))))), ?_⟩
    obtain ⟨s, n, v, d, rfl, hd, hz, q⟩ := h
    refine ⟨v, rfl, v, .ty "tuple", _, _, _, rfl, .ty "tuple", hd.ty, kTup d, _, rfl, ?_⟩
    cases e : isTup d with
    | false =>
      rw [moveB_tup e] at q
      exact iteT (iteT q)
    | true =>
      obtain ⟨a, xs, ds, rfl, rfl, ht, ha⟩ := dq_tup hd e
      refine iteF ⟨_, rfl, a, xs, rfl, .inr ht, rfl, _, rfl, ?_⟩
      rw [Lk.ne_int]
      by_cases hl : xs.length = 3
      · rw [decide_eq_true (show ((xs.length : Nat) : Int) = 3 by omega)]
        refine iteF ?_
        obtain ⟨x, y, z, d1, d2, d3, rfl, rfl, h1, h2, h3⟩ := ha.three hl
        have hw := light_tup hz
        refine ⟨_, rfl, a, _, rfl, ht, rfl, x, _, rfl, y, _, rfl, z, _, rfl, rfl, ?_⟩
        refine ⟨_, rfl, x, rfl, s, x, d1, rfl, h1, hw d1 (by simp), _, rfl, ?_⟩
        have q : Q (.bl (shortB s d1 && (shortB s d2 && countB n d3))) H := q
        cases e1 : shortB s d1 with
        | false =>
          rw [e1] at q
          exact iteT (iteT q)
        | true =>
          rw [e1] at q
          refine iteF ⟨_, rfl, y, rfl, s, y, d2, rfl, h2, hw d2 (by simp), _, rfl, ?_⟩
          cases e2 : shortB s d2 with
          | false =>
            rw [e2] at q
            exact iteT q
          | true =>
            rw [e2] at q
            exact iteF ⟨_, rfl, z, rfl, n, z, d3, rfl, h3, q⟩
      · rw [decide_eq_false (show ¬ ((xs.length : Nat) : Int) = 3 by omega)]
        rw [moveB_len (fun z => hl (ha.length.trans z))] at q
        exact iteT q
end
end K02

namespace K02
open PySem PySem.Spec PyProof.Rows L2 G Lk
section
variable {P : Program} {w : World} {K : PySem.W.Frag} {mg : Str → Option Value} {base : Heap}
def sp_is_state (K : PySem.W.Frag) : Sp := fun vs H Q _ => ∃ (s : Str) (n : Int) (v : V) (d : PyData), vs = [.str s, .int n, v] ∧ Dq K H v d ∧ Light d ∧ s.length ≤ 4 ∧ ∀ H', Same H H' → Q (.bl (stateB s n d)) H'
/-- def _is_state(signs, many, thing): -/
theorem ok_is_state (T : Tx K mg) : FnOk P w K mg base CX0 4 T.a__is_state T.fd__is_state ["signs", "many", "thing"] (sp_is_state K) := by
  refine T.F__is_state.ok sc_is_state (fun vs H Q E h => ?_) (fun cdv A outer s H vs Q E hr h => ?_)
  · obtain ⟨_, _, _, _, rfl, _⟩ := h
    rfl
  · refine ⟨_, (pss_cons (ps_if (PW.pt (pw_or (pt_not (pt_val (pe_callB call_isi (by rfl) T.z_isinstance (by decide +kernel) (pa_cons (pv 2) (pa_cons (pe_bltn (v := .ty "tuple") (by rfl) T.z_tuple (by decide +kernel) rfl) pa_nil))))) (pw_or1 (pt_cmpR op_ne (pe_callB call_len_seq (by rfl) T.z_len PySem.boot_len (pa_cons (pv 2) pa_nil)) pe_int (nomark _)))))
      (pss_one (ps_ret pe_bl))
      pss_nil)
    (pss_cons (ps_asg (pv 2) (pg_tup rfl (pgs_cons (pg_name (i := 3) sc_is_state.nd rfl (by first | exact Or.inl rfl | exact Or.inr rfl)) (pgs_cons (pg_name (i := 4) sc_is_state.nd rfl (by first | exact Or.inl rfl | exact Or.inr rfl)) pgs_nil))))
    (pss_cons (ps_if (PW.pt (pw_or (pt_not (pt_val (pe_callB call_isi (by rfl) T.z_isinstance (by decide +kernel) (pa_cons (pv 3) (pa_cons (pe_bltn (v := .ty "tuple") (by rfl) T.z_tuple (by decide +kernel) rfl) pa_nil))))) (pw_or1 (pt_cmpR op_ne (pe_callB call_len_seq (by rfl) T.z_len PySem.boot_len (pa_cons (pv 3) pa_nil)) (pe_callB call_len_str (by rfl) T.z_len PySem.boot_len (pa_cons (pv 0) pa_nil)) (nomark _)))))
      (pss_one (ps_ret pe_bl))
      pss_nil)
    (pss_cons (ps_if (PW.pt (pw_and (pt_cmpR op_notN (pv 4) pe_non (nomark _)) (pw_and1 (pt_not (pt_val (pe_call (ok_is_short_word T) (hr.mono (by decide)) (by rfl) T.g__is_short_word T.F__is_short_word.kp T.b__is_short_word .nil pass0 (pa_cons (pv 0) (pa_cons (pv 4) pa_nil))))))))
      (pss_one (ps_ret pe_bl))
      pss_nil)
    (pss_one (ps_ret (pe_callB (cr_all rfl) (by rfl) T.z_all (by decide +kernel) (pa_cons (pe_lc (own := [("move", 5)]) (g := gName 5) (by rfl) sc_is_state.nd (pi_tup (pv 3)) (blkOk_by (own := [("move", 5)]) (N := N_is_state) (sc := defScope s_is_state) (by decide +kernel)) (fun _ _ _ _ _ => pg_name (i := 5) sc_is_state.nd rfl (by first | exact Or.inl rfl | exact Or.inr rfl)) (fun _ _ _ _ _ => pts_nil) (fun _ _ _ _ _ => (pe_or (pe_cmpR op_isN (pv 5) pe_non (nomark _)) (pe_one (pe_call (ok_is_move T) (hr.mono (by decide)) (by rfl) T.g__is_move T.F__is_move.kp T.b__is_move .nil pass0 (pa_cons (pv 0) (pa_cons (pv 1) (pa_cons (pv 5) pa_nil)))))))) pa_nil)))))))), ?_⟩
    obtain ⟨s, n, v, d, rfl, hd, hz, hs4, q⟩ := h
    refine ⟨v, rfl, v, .ty "tuple", _, _, _, rfl, .ty "tuple", hd.ty, kTup d, _, rfl, ?_⟩
    cases e : isTup d with
    | false =>
      rw [stateB_tup e] at q
      exact iteT (iteT (q H (Same.refl H)))
    | true =>
      obtain ⟨a, xs, ds, rfl, rfl, ht, ha⟩ := dq_tup hd e
      refine iteF ⟨_, rfl, a, xs, rfl, .inr ht, rfl, _, rfl, ?_⟩
      rw [Lk.ne_int]
      by_cases hl : xs.length = 2
      · rw [decide_eq_true (show ((xs.length : Nat) : Int) = 2 by omega)]
        refine iteF ?_
        obtain ⟨x, y, d1, d2, rfl, rfl, h1, h2⟩ := ha.two hl
        have hw := light_tup hz
        refine ⟨_, rfl, a, _, rfl, ht, rfl, x, _, rfl, y, _, rfl, rfl, ?_⟩
        refine ⟨x, rfl, x, .ty "tuple", _, _, _, rfl, .ty "tuple", h1.ty, kTup d1, _, rfl, ?_⟩
        cases e1 : isTup d1 with
        | false =>
          rw [stateB_first e1] at q
          exact iteT (iteT (q H (Same.refl H)))
        | true =>
          obtain ⟨a1, ms, es, rfl, rfl, ht1, ha1⟩ := dq_tup h1 e1
          have hw1 := hw _ (List.mem_cons_self ..)
          refine iteF ⟨_, rfl, a1, ms, rfl, .inr ht1, _, rfl, s, rfl, Nat.le_trans hs4 (by decide), rfl, _, rfl, ?_⟩
          rw [Lk.ne_int]
          have q : ∀ H', Same H H' → Q (.bl (decide (es.length = s.length) && ((isNone d2 || shortB s d2) && es.all fun m => isNone m || moveB s n m))) H' := q
          by_cases hl1 : ms.length = s.length
          · rw [decide_eq_true (show ((ms.length : Nat) : Int) = ((s.length : Nat) : Int) by omega)]
            rw [decide_eq_true (show es.length = s.length from ha1.length.symm.trans hl1)] at q
            refine iteF ?_
            rw [tt_and] at q
            refine ⟨y, rfl, rfl, _, rfl, ?_⟩
            rw [isNone_non h2]
            cases e3 : isNone d2 || shortB s d2 with
            | false =>
              rw [e3, ff_and] at q
              obtain ⟨e4, e5⟩ := Bool.or_eq_false_iff.mp e3
              rw [e4]
              refine iteT ⟨_, rfl, y, rfl, s, y, d2, rfl, h2, hw d2 (by simp), _, rfl, ?_⟩
              rw [e5]
              exact iteT (q H (Same.refl H))
            | true =>
              rw [e3, tt_and] at q
              refine two_ways ?_ (fun ec rest => ⟨_, rfl, y, rfl, s, y, d2, rfl, h2, hw d2 (by simp), _, rfl, ?_⟩)
              · refine ⟨_, rfl, a1, rfl, ⟨_, ht1⟩, fun D nD => ?_⟩
                refine lc_bools (fun m => isNone m || moveB s n m) ht1 ha1 nD (by omega) (fun x d H1 Nxt Els s1 hx hm k => ?_) (fun H1 s1 hD => ?_)
                · refine ⟨rfl, x, rfl, rfl, _, rfl, ?_⟩
                  rw [isNone_non hx]
                  have k := k H1 (Same.refl H1)
                  cases e4 : isNone d with
                  | true =>
                    rw [e4] at k
                    exact iteT k
                  | false =>
                    rw [e4] at k
                    exact iteF ⟨_, rfl, _, rfl, x, rfl, s, n, x, d, rfl, hx, light_tup hw1 d hm, k⟩
                · refine ⟨D, _, rfl, SqL.of hD, ?_⟩
                  have ea : (es.map fun m => isNone m || moveB s n m).all id = es.all fun m => isNone m || moveB s n m := by
                    rw [List.all_map]
                    rfl
                  rw [ea]
                  exact q H1 s1
              · have e4 : isNone d2 = false := by
                  cases z : isNone d2 with
                  | false => rfl
                  | true =>
                    rw [z] at ec
                    cases ec
                rw [e4, ff_or] at e3
                rw [e3]
                exact iteF rest
          · rw [decide_eq_false (show ¬ ((ms.length : Nat) : Int) = ((s.length : Nat) : Int) by omega)]
            rw [decide_eq_false (show ¬ es.length = s.length from fun z => hl1 (ha1.length.trans z))] at q
            exact iteT (q H (Same.refl H))
      · rw [decide_eq_false (show ¬ ((xs.length : Nat) : Int) = 2 by omega)]
        rw [stateB_len (fun z => hl (ha.length.trans z))] at q
        exact iteT (q H (Same.refl H))
end
end K02

namespace K02
open PySem PySem.Spec PyProof.Rows L2 G Lk
section
variable {P : Program} {w : World} {K : PySem.W.Frag} {mg : Str → Option Value} {base : Heap}
def sp_are_states (K : PySem.W.Frag) : Sp := fun vs H Q _ => ∃ (s : Str) (v : V) (d : PyData), vs = [.str s, v] ∧ Dq K H v d ∧ Light d ∧ s.length ≤ 4 ∧ ∀ H', Same H H' → Q (.bl (statesB s d)) H'
/-- def _are_states(signs, thing): -/
theorem ok_are_states (T : Tx K mg) : FnOk P w K mg base CX0 5 T.a__are_states T.fd__are_states ["signs", "thing"] (sp_are_states K) := by
  refine T.F__are_states.ok sc_are_states (fun vs H Q E h => ?_) (fun cdv A outer s H vs Q E hr h => ?_)
  · obtain ⟨_, _, _, rfl, _⟩ := h
    rfl
  · refine ⟨_, (pss_cons (ps_if (PW.pt (pw_or (pt_not (pt_val (pe_callB call_isi (by rfl) T.z_isinstance (by decide +kernel) (pa_cons (pv 1) (pa_cons (pe_bltn (v := .ty "tuple") (by rfl) T.z_tuple (by decide +kernel) rfl) pa_nil))))) (pw_or1 (pt_not (pt_chain op_le op_le pe_int (pe_callB call_len_seq (by rfl) T.z_len PySem.boot_len (pa_cons (pv 1) pa_nil)) (pe_glob (v := .int 60) (by rfl) T.m_MOST_STATES ⟨_, rfl⟩))))))
      (pss_one (ps_ret pe_bl))
      pss_nil)
    (pss_one (ps_ret (pe_callB (cr_all rfl) (by rfl) T.z_all (by decide +kernel) (pa_cons (pe_lc (own := [("state", 2)]) (g := gName 2) (by rfl) sc_are_states.nd (pi_tup (pv 1)) (blkOk_by (own := [("state", 2)]) (N := N_are_states) (sc := defScope s_are_states) (by decide +kernel)) (fun _ _ _ _ _ => pg_name (i := 2) sc_are_states.nd rfl (by first | exact Or.inl rfl | exact Or.inr rfl)) (fun _ _ _ _ _ => pts_nil) (fun _ _ _ _ _ => (pe_call (ok_is_state T) (hr.mono (by decide)) (by rfl) T.g__is_state T.F__is_state.kp T.b__is_state .nil pass0 (pa_cons (pv 0) (pa_cons (pe_callB (call_len_seq : CallR _ _ (rLenSeq K)) (by rfl) T.z_len PySem.boot_len (pa_cons (pv 1) pa_nil)) (pa_cons (pv 2) pa_nil)))))) pa_nil))))), ?_⟩
    obtain ⟨s, v, d, rfl, hd, hz, hs4, q⟩ := h
    refine ⟨v, rfl, v, .ty "tuple", _, _, _, rfl, .ty "tuple", hd.ty, kTup d, _, rfl, ?_⟩
    cases e : isTup d with
    | false =>
      rw [statesB_tup e] at q
      exact iteT (iteT (q H (Same.refl H)))
    | true =>
      obtain ⟨a, xs, ds, rfl, rfl, ht, ha⟩ := dq_tup hd e
      have q : ∀ H', Same H H' → Q (.bl ((decide (1 ≤ ds.length) && decide (ds.length ≤ 60)) && ds.all (stateB s (ds.length : Nat)))) H' := q
      have hl := ha.length
      refine iteF ⟨_, rfl, a, xs, rfl, .inr ht, 1, _, rfl, rfl, _, rfl, ?_⟩
      by_cases e1 : 1 ≤ ds.length
      · rw [decide_eq_true e1, tt_and] at q
        rw [decide_eq_true (show (1 : Int) ≤ ((xs.length : Nat) : Int) by omega)]
        refine iteT ⟨_, _, rfl, rfl, _, rfl, ?_⟩
        by_cases e2 : ds.length ≤ 60
        · rw [decide_eq_true e2, tt_and] at q
          rw [decide_eq_true (show ((xs.length : Nat) : Int) ≤ 60 by omega)]
          refine iteF ⟨_, rfl, a, rfl, ⟨_, ht⟩, fun D nD => ?_⟩
          refine lc_bools (stateB s (ds.length : Nat)) ht ha nD (by omega) (fun x d H1 Nxt Els s1 hx hm k => ?_) (fun H1 s1 hD => ?_)
          · refine ⟨rfl, _, rfl, _, rfl, a, xs, rfl, .inr (seqT s1 ht), x, rfl, s, _, x, d, ?_, hx, light_tup hz d hm, hs4, k⟩
            rw [hl] <;> rfl
          · refine ⟨D, _, rfl, SqL.of hD, ?_⟩
            have ea : (ds.map (stateB s (ds.length : Nat))).all id = ds.all (stateB s (ds.length : Nat)) := by
              rw [List.all_map]
              rfl
            rw [ea]
            exact q H1 s1
        · rw [decide_eq_false e2, ff_and] at q
          rw [decide_eq_false (show ¬ ((xs.length : Nat) : Int) ≤ 60 by omega)]
          exact iteT (q H (Same.refl H))
      · rw [decide_eq_false e1, ff_and, ff_and] at q
        rw [decide_eq_false (show ¬ (1 : Int) ≤ ((xs.length : Nat) : Int) by omega)]
        exact iteF ⟨_, rfl, iteT (q H (Same.refl H))⟩
end
end K02

namespace K02
open PySem PySem.Spec PyProof.Rows L2 G Lk
section
variable {P : Program} {w : World} {K : PySem.W.Frag} {mg : Str → Option Value} {base : Heap}
def sp_is_expander (K : PySem.W.Frag) : Sp := fun vs H Q _ => ∃ (v : V) (d : PyData), vs = [v] ∧ Dq K H v d ∧ Light d ∧ ∀ H', Same H H' → Q (.bl (expB d)) H'
/-- def is_expander(thing): -/
theorem ok_is_expander (T : Tx K mg) : FnOk P w K mg base CX0 6 T.a_is_expander T.fd_is_expander ["thing"] (sp_is_expander K) := by
  refine T.F_is_expander.ok sc_is_expander (fun vs H Q E h => ?_) (fun cdv A outer s H vs Q E hr h => ?_)
  · obtain ⟨_, _, rfl, _⟩ := h
    rfl
  · refine ⟨_, (pss_cons (ps_if (PW.pt (pw_or (pt_not (pt_val (pe_callB call_isi (by rfl) T.z_isinstance (by decide +kernel) (pa_cons (pv 0) (pa_cons (pe_bltn (v := .ty "tuple") (by rfl) T.z_tuple (by decide +kernel) rfl) pa_nil))))) (pw_or1 (pt_cmpR op_ne (pe_callB call_len_seq (by rfl) T.z_len PySem.boot_len (pa_cons (pv 0) pa_nil)) pe_int (nomark _)))))
      (pss_one (ps_ret pe_bl))
      pss_nil)
    (pss_cons (ps_asg (pv 0) (pg_tup rfl (pgs_cons (pg_name (i := 1) sc_is_expander.nd rfl (by first | exact Or.inl rfl | exact Or.inr rfl)) (pgs_cons (pg_name (i := 2) sc_is_expander.nd rfl (by first | exact Or.inl rfl | exact Or.inr rfl)) (pgs_cons (pg_name (i := 3) sc_is_expander.nd rfl (by first | exact Or.inl rfl | exact Or.inr rfl)) pgs_nil)))))
    (pss_one (ps_ret (pe_and (pe_call (ok_are_signs T) (hr.mono (by decide)) (by rfl) T.g__are_signs T.F__are_signs.kp T.b__are_signs .nil pass0 (pa_cons (pv 1) pa_nil)) (pe_and (pe_call (ok_is_short_word T) (hr.mono (by decide)) (by rfl) T.g__is_short_word T.F__is_short_word.kp T.b__is_short_word .nil pass0 (pa_cons (pv 1) (pa_cons (pv 2) pa_nil))) (pe_one (pe_call (ok_are_states T) (hr.mono (by decide)) (by rfl) T.g__are_states T.F__are_states.kp T.b__are_states .nil pass0 (pa_cons (pv 1) (pa_cons (pv 3) pa_nil)))))))))), ?_⟩
    obtain ⟨v, d, rfl, hd, hz, q⟩ := h
    refine ⟨v, rfl, v, .ty "tuple", _, _, _, rfl, .ty "tuple", hd.ty, kTup d, _, rfl, ?_⟩
    cases e : isTup d with
    | false =>
      rw [expB_tup e] at q
      exact iteT (iteT (q H (Same.refl H)))
    | true =>
      obtain ⟨a, xs, ds, rfl, rfl, ht, ha⟩ := dq_tup hd e
      refine iteF ⟨_, rfl, a, xs, rfl, .inr ht, rfl, _, rfl, ?_⟩
      rw [Lk.ne_int]
      by_cases hl : xs.length = 3
      · rw [decide_eq_true (show ((xs.length : Nat) : Int) = 3 by omega)]
        refine iteF ?_
        obtain ⟨x, y, z, d1, d2, d3, rfl, rfl, h1, h2, h3⟩ := ha.three hl
        have hw := light_tup hz
        refine ⟨_, rfl, a, _, rfl, ht, rfl, x, _, rfl, y, _, rfl, z, _, rfl, rfl, ?_⟩
        refine ⟨x, rfl, x, d1, rfl, h1, hw d1 (by simp), fun H1 s1 => ⟨_, rfl, ?_⟩⟩
        cases e1 : isStr d1 with
        | false =>
          rw [expB_first e1] at q
          have e2 : signsB d1 = false := by
            cases d1 with
            | str _ => cases e1
            | _ => rfl
          rw [e2]
          exact iteF (q H1 s1)
        | true =>
          obtain ⟨s, rfl, rfl⟩ := dq_str h1 e1
          have q : ∀ H', Same H H' → Q (.bl (signsB (.str s) && (shortB s d2 && statesB s d3))) H' := q
          cases e2 : signsB (.str s) with
          | false =>
            rw [e2] at q
            exact iteF (q H1 s1)
          | true =>
            have h4 : s.length ≤ 4 := signs_four e2
            rw [e2, tt_and] at q
            refine iteT ⟨_, rfl, y, rfl, s, y, d2, rfl, h2.mono s1, hw d2 (by simp), _, rfl, ?_⟩
            cases e3 : shortB s d2 with
            | false =>
              rw [e3] at q
              exact iteF (q H1 s1)
            | true =>
              rw [e3, tt_and] at q
              exact iteT ⟨_, rfl, z, rfl, s, z, d3, rfl, h3.mono s1, hw d3 (by simp), h4, fun H2 s2 => q H2 (Same.trans s1 s2)⟩
      · rw [decide_eq_false (show ¬ ((xs.length : Nat) : Int) = 3 by omega)]
        rw [expB_len (fun z => hl (ha.length.trans z))] at q
        exact iteT (q H (Same.refl H))
end
end K02

namespace K02
open PySem PySem.Spec PyProof.Rows L2 G Lk
section
variable {P : Program} {w : World} {K : PySem.W.Frag} {mg : Str → Option Value} {base : Heap}
def sp_law (K : PySem.W.Frag) : Sp := fun vs H Q _ => ∃ (a : Addr) (ns : List Int), vs = [.ref a] ∧ SqL K H a (ns.map V.int) ∧ ns.length ≤ 63 ∧ ∀ H', Q (.bl true) H'
/-- def law(script): -/
theorem ok_law (T : Tx K mg) : FnG P w K mg base CX0 7 T.a_law T.fd_law ["script"] (sp_law K) := by
  refine T.F_law.okG sc_law (fun vs H Q E h => ?_) (fun cdv A outer s H vs Q E gd hr h => ?_)
  · obtain ⟨_, _, rfl, _⟩ := h
    rfl
  · refine ⟨_, (pss_cons (ps_set (i := 1) sc_law.nd rfl (by first | exact Or.inl rfl | exact Or.inr rfl) (pe_call (ok_Lpot_of T) (hr.mono (by decide)) (by rfl) T.g__law_pot_of T.F__law_pot_of.kp T.b__law_pot_of .nil pass0 (pa_cons (pv 0) pa_nil)))
    (pss_cons (ps_for PassesOwn.never rfl (pi_range1 (by rfl) T.z_range (pa_cons pe_int pa_nil)) (pg_name (i := 2) sc_law.nd rfl (by first | exact Or.inl rfl | exact Or.inr rfl))
      (pss_cons (ps_set (i := 3) sc_law.nd rfl (by first | exact Or.inl rfl | exact Or.inr rfl) (pe_call (ok_Lsome_expander T) (hr.mono (by decide)) (by rfl) T.g__law_some_expander T.F__law_some_expander.kp T.b__law_some_expander .nil pass0 (pa_cons (pv 1) (pa_cons pe_int pa_nil))))
    (pss_cons (ps_set (i := 4) sc_law.nd rfl (by first | exact Or.inl rfl | exact Or.inr rfl) (pe_tup (pa_cons (pe_ix ix_tup (pv 3) pe_int (fun _ _ => rfl)) (pa_cons (pe_ix ix_tup (pv 3) pe_int (fun _ _ => rfl)) (pa_cons (pe_slice sl_tupA (pe_op op_repT (pe_ix ix_tup (pv 3) pe_int (fun _ _ => rfl)) pe_int) po_none (po_some (pe_call (ok_Lpick T) (hr.mono (by decide)) (by rfl) T.g__law_pick T.F__law_pick.kp T.b__law_pick .nil pass0 (pa_cons (pv 1) (pa_cons (pe_lst (pa_cons pe_int (pa_cons pe_int (pa_cons pe_int pa_nil)))) pa_nil))))) pa_nil)))))
    (pss_cons (ps_set (i := 5) sc_law.nd rfl (by first | exact Or.inl rfl | exact Or.inr rfl) (pe_lst (pa_cons (pe_tup (pa_cons pe_str (pa_cons (pe_ix ix_tup (pv 3) pe_int (fun _ _ => rfl)) (pa_cons (pe_callTy call_tuple_of (by rfl) T.z_tuple (by decide +kernel) (pa_cons (pe_lc (own := [("moves", 8), ("last", 11)]) (g := gTup K 2 (gCons (gName 8) (gCons (gName 11) gNil))) (by rfl) sc_law.nd (pi_tup (pe_ix ix_tup (pv 3) pe_int (fun _ _ => rfl))) (blkOk_by (own := [("moves", 8), ("last", 11)]) (N := N_law) (sc := defScope s_law) (by decide +kernel)) (fun _ _ _ _ _ => (pg_tup rfl (pgs_cons (pg_name (i := 8) sc_law.nd rfl (by first | exact Or.inl rfl | exact Or.inr rfl)) (pgs_cons (pg_name (i := 11) sc_law.nd rfl (by first | exact Or.inl rfl | exact Or.inr rfl)) pgs_nil)))) (fun _ _ _ _ _ => pts_nil) (fun _ _ _ _ _ => (pe_tup (pa_cons (pe_slice (sl_tupA : SlR _ (rSlA K)) (pe_op (op_repT : OpR _ _ (rRepT K)) (pv 8) pe_int) po_none (po_some pe_int)) (pa_cons (pv 11) pa_nil))))) pa_nil)) pa_nil)))) pa_nil)))
    (pss_cons (ps_set (i := 6) sc_law.nd rfl (by first | exact Or.inl rfl | exact Or.inr rfl) (pe_op op_mulS (pe_ix ix_str (pe_ix ix_tup (pv 3) pe_int (fun _ _ => rfl)) pe_int (fun _ _ => rfl)) (pe_call (ok_Lpick T) (hr.mono (by decide)) (by rfl) T.g__law_pick T.F__law_pick.kp T.b__law_pick .nil pass0 (pa_cons (pv 1) (pa_cons (pe_lst (pa_cons pe_int (pa_cons pe_int (pa_cons pe_int pa_nil)))) pa_nil)))))
    (pss_cons (ps_set (i := 7) sc_law.nd rfl (by first | exact Or.inl rfl | exact Or.inr rfl) (pe_tup (pa_cons (pe_call (ok_Lpick T) (hr.mono (by decide)) (by rfl) T.g__law_pick T.F__law_pick.kp T.b__law_pick .nil pass0 (pa_cons (pv 1) (pa_cons (pe_lst (pa_cons (pv 6) (pa_cons pe_str pa_nil))) pa_nil))) (pa_cons (pe_call (ok_Lpick T) (hr.mono (by decide)) (by rfl) T.g__law_pick T.F__law_pick.kp T.b__law_pick .nil pass0 (pa_cons (pv 1) (pa_cons (pe_lst (pa_cons (pv 6) (pa_cons pe_str pa_nil))) pa_nil))) (pa_cons pe_int pa_nil)))))
    (pss_cons (ps_set (i := 8) sc_law.nd rfl (by first | exact Or.inl rfl | exact Or.inr rfl) (pe_op op_repU (pe_tup (pa_cons (pv 7) pa_nil)) (pe_callB call_len_str (by rfl) T.z_len PySem.boot_len (pa_cons (pe_ix ix_tup (pv 3) pe_int (fun _ _ => rfl)) pa_nil))))
    (pss_cons (ps_expr (pe_bm PySem.F.plainAttrs_list PySem.F.slot_list_append PySem.F.type_list_append mt_append (pv 5) (pa_cons (pe_tup (pa_cons (pe_ix ix_tup (pv 3) pe_int (fun _ _ => rfl)) (pa_cons (pe_call (ok_Lpick T) (hr.mono (by decide)) (by rfl) T.g__law_pick T.F__law_pick.kp T.b__law_pick .nil pass0 (pa_cons (pv 1) (pa_cons (pe_lst (pa_cons (pv 6) (pa_cons pe_str pa_nil))) pa_nil))) (pa_cons (pe_tup (pa_cons (pe_tup (pa_cons (pv 8) (pa_cons (pe_call (ok_Lpick T) (hr.mono (by decide)) (by rfl) T.g__law_pick T.F__law_pick.kp T.b__law_pick .nil pass0 (pa_cons (pv 1) (pa_cons (pe_lst (pa_cons (pv 6) (pa_cons pe_non pa_nil))) pa_nil))) pa_nil))) pa_nil)) pa_nil)))) pa_nil)))
    (pss_cons (ps_expr (pe_bm PySem.F.plainAttrs_list PySem.F.slot_list_append PySem.F.type_list_append mt_append (pv 5) (pa_cons (pe_tup (pa_cons (pe_ix ix_tup (pv 3) pe_int (fun _ _ => rfl)) (pa_cons pe_str (pa_cons (pe_op op_repU (pe_tup (pa_cons (pe_tup (pa_cons (pe_op op_repU (pe_tup (pa_cons pe_non pa_nil)) (pe_callB call_len_str (by rfl) T.z_len PySem.boot_len (pa_cons (pe_ix ix_tup (pv 3) pe_int (fun _ _ => rfl)) pa_nil))) (pa_cons (pe_slice sl_str (pv 6) po_none (po_some pe_int)) pa_nil))) pa_nil)) (pe_call (ok_Lpick T) (hr.mono (by decide)) (by rfl) T.g__law_pick T.F__law_pick.kp T.b__law_pick .nil pass0 (pa_cons (pv 1) (pa_cons (pe_lst (pa_cons pe_int (pa_cons pe_int pa_nil))) pa_nil)))) pa_nil)))) pa_nil)))
    (pss_cons (ps_set (i := 5) sc_law.nd rfl (by first | exact Or.inl rfl | exact Or.inr rfl) (pe_op op_cat (pv 5) (pe_lst (pa_cons (pv 3) (pa_cons (pe_call (ok_Lspoilt T) (hr.mono (by decide)) (by rfl) T.g__law_spoilt T.F__law_spoilt.kp T.b__law_spoilt .nil pass0 (pa_cons (pv 1) (pa_cons (pv 3) pa_nil))) (pa_cons (pe_call (ok_Lspoilt T) (hr.mono (by decide)) (by rfl) T.g__law_spoilt T.F__law_spoilt.kp T.b__law_spoilt .nil pass0 (pa_cons (pv 1) (pa_cons (pv 3) pa_nil))) (pa_cons (pv 4) (pa_cons pe_non (pa_cons (pe_tup pa_nil) (pa_cons (pe_lst pa_nil) (pa_cons pe_dnewK (pa_cons pe_str (pa_cons pe_int pa_nil)))))))))))))
    (pss_one (ps_for PassesOwn.never rfl (pi_list (pv 5)) (pg_name (i := 9) sc_law.nd rfl (by first | exact Or.inl rfl | exact Or.inr rfl))
      (pss_cons (ps_set (i := 10) sc_law.nd rfl (by first | exact Or.inl rfl | exact Or.inr rfl) (pe_callB (call_repr_data gd hr.units) (by rfl) T.z_repr (by decide +kernel) (pa_cons (pv 9) pa_nil)))
    (pss_one (ps_if (PW.pt (pw_or (pt_cmpR op_ne (pe_callB (call_repr_data gd hr.units) (by rfl) T.z_repr (by decide +kernel) (pa_cons (pe_call (ok_is_expander T) (hr.mono (by decide)) (by rfl) T.g_is_expander T.F_is_expander.kp T.b_is_expander .nil pass0 (pa_cons (pv 9) pa_nil)) pa_nil)) (pe_callB (call_repr_data gd hr.units) (by rfl) T.z_repr (by decide +kernel) (pa_cons (pe_call (ok_Lis_expander T) (hr.mono (by decide)) (by rfl) T.g__law_is_expander T.F__law_is_expander.kp T.b__law_is_expander .nil pass0 (pa_cons (pv 9) pa_nil)) pa_nil)) (nomark _)) (pw_or1 (pt_cmpR op_ne (pe_callB (call_repr_data gd hr.units) (by rfl) T.z_repr (by decide +kernel) (pa_cons (pv 9) pa_nil)) (pv 10) (nomark _)))))
      (pss_one (ps_ret pe_bl))
      pss_nil)))))))))))))))
    (pss_one (ps_ret pe_bl)))), ?_⟩
    obtain ⟨a, ns, rfl, hS, hlen, q⟩ := h
    refine ⟨_, rfl, a, ns, rfl, hS, hlen, fun H1 p c s1 np hp1 => ?_⟩
    refine ⟨14, rfl, by decide, by decide, for_range (n := 14) (fun _ σ H' => ∃ t2 t3 t4 t5 t6 t7 t8 t9 t10 t11 : Option V, σ = [some (.ref a), some (.ref p), t2, t3, t4, t5, t6, t7, t8, t9, t10, t11] ∧ Pot K H' p c)
      ⟨_, _, _, _, _, _, _, _, _, _, rfl, hp1⟩ ?_ (fun σ H' _ => q H')⟩
    rintro i σ H3 hi ⟨t2, t3, t4, t5, t6, t7, t8, t9, t10, t11, rfl, hp3⟩
    refine ⟨_, rfl, p, c, 4, rfl, hp3, by decide, by decide, fun H4 v d sm4 hp4 hd hD => ?_⟩
    obtain ⟨z, f, ss, rfl, hz, hf, l1, l4, hss⟩ := id hD
    obtain ⟨z1, z4, zc⟩ := hz.small
    obtain ⟨e, t, xs, rfl, ht, hts, hA⟩ := expV_of hd
    have hT : Dq K (sans H4 p) (.ref t) (.tuple ss) := .tup hts hA
    have ssne : ss ≠ [] := fun e => by
      rw [e] at l1
      exact absurd l1 (by decide)
    have qs : ∀ (k : Bool), ∀ s ∈ ss, Qk k 3 106 s := fun k s hs => (hss s hs).q zc z4 l4
    have qz : ∀ (k : Bool) (n B : Nat), 4 ≤ B → Qk k n B (.str z) := fun k n B h => .str (by omega) zc
    have qf : ∀ (k : Bool) (n B : Nat), 3 ≤ B → Qk k n B (.str f) := fun k n B h => hf.q zc h
    refine ⟨_, rfl, e, _, _, _, rfl, rfl, seqT sans_same ht, rfl, _, rfl, e, _, _, _, rfl, rfl, seqT sans_same ht, rfl, _, rfl, e, _, _, _, rfl, rfl, seqT sans_same ht, rfl, ?_⟩
    dsimp only [tC]
    refine repI 60 (by rfl) hp4.at_ hT ssne (by omega) (by decide) (by decide) fun H5 v5 s5 h5 => ?_
    have hp5 := hp4.same s5
    refine ⟨_, rfl, (by show 3 ≤ sizeLine; decide), fun l nl => ?_⟩
    have s6 := same_new (o := .lst [.int 59, .int 60, .int 61]) nl
    refine ⟨p, c, .ref l, _, rfl, hp5.new nl, by simp, .inl ⟨l, rfl, SqL.of (sans_of (hp5.ne nl) upd_same)⟩, (by show 3 < 1073741824; decide), fun H6 x sm6 hp6 hx => ?_⟩
    obtain ⟨n6, rfl, hn1, hn2⟩ : ∃ n : Nat, x = .int (n : Int) ∧ 59 ≤ n ∧ n ≤ 61 := by
      simp only [List.mem_cons, List.not_mem_nil, or_false] at hx
      rcases hx with rfl | rfl | rfl
      · exact ⟨59, rfl, by decide, by decide⟩
      · exact ⟨60, rfl, by decide, by decide⟩
      · exact ⟨61, rfl, by decide, by decide⟩
    have sm56 : Sm p H5 H6 := (Sm.of s6).trans sm6
    refine ⟨_, rfl, ?_⟩
    refine slToI n6 rfl hp6.at_ (h5.mono sm56) fun H7 v7 s7 h7 => ?_
    have hp7 := hp6.same s7
    have sm47 : Sm p H4 H7 := ((Sm.of s5).trans sm56).trans (Sm.of s7)
    refine ⟨(by show 3 ≤ sizeLine; decide), fun w nw => ?_⟩
    have hw := new_tup hp7.at_ nw (.cons (.str z) (.cons (.str f) (.cons h7 .nil)))
    have sm48 : Sm p H4 (upd H7 w (.tup [.str z, .str f, v7])) := sm47.trans (Sm.new nw)
    have hp8 := hp7.new (o := .tup [.str z, .str f, v7]) nw
    have qw : Bad 8 1000000 (.tuple [.str z, .str f, .tuple ((List.replicate 60 ss).flatten.take n6)]) := by
      refine Bad.of (tup3 (k := true) (n := 4) (B := 6540) (qz true 4 _ (by decide)) (qf true 4 _ (by decide)) (Qk.tup (n := 3) (B := 106) (fun d hd => qs true d (rep_mem' (List.mem_of_mem_take hd))) ?_) (Nat.le_refl _)) (by decide) (by decide)
      rw [List.length_take]
      have := Nat.min_le_left n6 (List.replicate 60 ss).flatten.length
      have : min n6 (List.replicate 60 ss).flatten.length * 107 ≤ 61 * 107 := Nat.mul_le_mul (by omega) (Nat.le_refl _)
      omega
    revert hw sm48 hp8
    generalize upd H7 w (.tup [.str z, .str f, v7]) = H8
    intro hw sm48 hp8
    have hT8 := hT.mono sm48
    have hd8 := hd.mono sm48
    have ht8 := seqT sm48 ht
    clear sm47 hp7 h7 s7 sm56 hp6 sm6 s6 h5 s5 hp5 hd hT ht hts hA hp4 hp3
    obtain ⟨t0, xs0, et0, hts8, hA8⟩ := hT8.items
    cases et0
    have hts8 := seqT sans_same hts8
    have ht8' := seqT sans_same ht8
    refine ⟨_, rfl, e, _, _, _, rfl, rfl, ht8', rfl, _, rfl, e, _, _, _, rfl, rfl, ht8', rfl, t, rfl, ⟨_, hts8⟩, fun D nD => ?_⟩
    have nDp : D ≠ p := hp8.ne nD
    have zs4 : ∀ {m : Nat}, m = z.length → 1 ≤ m ∧ m ≤ 4 := fun e => by omega
    refine lc_tup (xs := xs0) (fun j H' => Same H8 H' ∧ ∃ vs ds, H' D = some (.lst vs) ∧ vs.length = j ∧ DqAll K (out2 H' p D) vs ds ∧ ∀ d ∈ ds, ∀ k, Qk k 3 106 d) ⟨same_new nD, [], [], upd_same, rfl, .nil, fun _ h => (List.not_mem_nil h).elim⟩ (fun _ _ _ h => seqT h.1 hts8) ?_ ?_
    · rintro j x H9 hx ⟨s9, vs, ds, hD9, lv, hA9, hG⟩
      obtain ⟨dx, _, hdx, _, hqx⟩ := dqAll_get' (hA8.mono (Sm.of (a := p) s9)) hx
      have hj : j < xs0.length := (List.getElem?_eq_some_iff.mp hx).1
      have hl0 : xs0.length ≤ 4 := by rw [hA8.length]; exact l4
      obtain ⟨ms, ld, rfl, lms, hms, hld⟩ := id (hss dx hdx)
      have parts := fun k : Bool => (hss _ hdx).parts (k := k) zc l4
      obtain ⟨u, us, rfl, hu, hq1⟩ := hqx.items
      obtain ⟨mv, us', rfl, hM, hq1⟩ := hq1.one
      obtain ⟨lv', us'', rfl, hL, hq1⟩ := hq1.one
      obtain rfl := hq1.none
      have hp9 := hp8.same s9
      obtain ⟨zm1, zm4⟩ := zs4 lms
      have msne : ms ≠ [] := fun e => by
        rw [e] at zm1
        exact absurd zm1 (by decide)
      refine ⟨u, _, rfl, seqT sans_same hu, rfl, mv, _, rfl, lv', _, rfl, rfl, rfl, ?_⟩
      refine ⟨_, rfl, ?_⟩
      dsimp only [tC]
      refine repI 4 (by rfl) hp9.at_ hM msne (by omega) (by decide) (by decide) fun H10 v10 s10 h10 => ?_
      have hp10 := hp9.same s10
      refine ⟨_, rfl, ?_⟩
      refine slToI 4 (by rfl) hp10.at_ h10 fun H11 v11 s11 h11 => ?_
      have hp11 := hp10.same s11
      refine ⟨_, rfl, (by show 2 ≤ sizeLine; decide), fun r nr => ?_⟩
      have s12 := same_new (o := .tup [v11, lv']) nr
      have h12 := new_tup hp11.at_ nr (.cons h11 (.cons (hL.mono (Sm.of (Same.trans s10 s11))) .nil))
      have sA : Same H9 (upd H11 r (.tup [v11, lv'])) := Same.trans s10 (Same.trans s11 s12)
      revert s12 h12 sA
      generalize upd H11 r (.tup [v11, lv']) = H12
      intro s12 h12 sA
      have e12 := sA _ _ hD9
      have q12 : ∀ k, Qk k 3 106 (.tuple [.tuple ((List.replicate 4 ms).flatten.take 4), ld]) := fun k => tup2 (k := k) (n := 2) (B := 52) (Qk.tup (n := 1) (B := 12) (fun d hd => (parts k).2.1 d (rep_mem' (List.mem_of_mem_take hd))) (by
        rw [List.length_take]
        have := Nat.min_le_left 4 (List.replicate 4 ms).flatten.length
        omega)) (parts k).2.2 (Nat.le_refl _)
      have o12 := h12.out (sans_of nDp e12) ((q12 false).noL rfl)
      have sU : Same (out2 H12 p D) (out2 (upd H12 D (.lst (vs ++ [.ref r]))) p D) := out2_upd nDp
      refine ⟨vs, e12, ?_, fun b o eb => (upd_ne (ne_of_none eb nD)).trans (sA _ _ (s9 _ _ eb)), vs ++ [.ref r], ds ++ [_], upd_same, ?_, ((hA9.mono (out2_sm (Sm.of sA))).mono sU).append (.cons (o12.mono sU) .nil), ?_⟩
      · rw [lv]
        exact Nat.lt_of_lt_of_le (show j < 300 by omega) (by decide)
      · rw [List.length_append, lv]
        rfl
      · intro d hd
        rcases List.mem_append.mp hd with h | h
        · exact hG d h
        · rw [List.mem_singleton.mp h]
          exact q12
    · rintro H9 ⟨s9, vs, ds, hD9, lv, hA9, hG⟩
      have ldn : ds.length ≤ 4 := by
        rw [← hA9.length, lv, hA8.length]
        exact l4
      refine ⟨D, vs, rfl, .inl ⟨SqL.of hD9, fun p2 np2 => ?_⟩⟩
      have hp9 := hp8.same s9
      have s10 := same_new (o := .tup vs) np2
      have h10 : Dq K (sans (upd H9 p2 (.tup vs)) p) (.ref p2) (.tuple ds) := new_tup hp9.at_ np2 (hA9.mono sans_same)
      have hp10 := hp9.new (o := .tup vs) np2
      revert s10 h10 hp10
      generalize upd H9 p2 (.tup vs) = H10
      intro s10 h10 hp10
      refine ⟨(by show 3 ≤ sizeLine; decide), fun r nr => ?_⟩
      have s11 := same_new (o := .tup [.str "abcz", .str f, .ref p2]) nr
      have h11 : Dq K (sans (upd H10 r (.tup [.str "abcz", .str f, .ref p2])) p) (.ref r) (.tuple [.str "abcz", .str f, .tuple ds]) := new_tup hp10.at_ nr (.cons (.str _) (.cons (.str _) (.cons h10 .nil)))
      have hp11 := hp10.new (o := .tup [.str "abcz", .str f, .ref p2]) nr
      revert s11 h11 hp11
      generalize upd H10 r (.tup [.str "abcz", .str f, .ref p2]) = H11
      intro s11 h11 hp11
      have q11 : ∀ k, Qk k 5 1290 (.tuple [.str "abcz", .str f, .tuple ds]) := fun k => (tup3 (k := k) (n := 4) (B := 428) (.str (by decide) (by decide +kernel)) (qf k 4 _ (by decide)) (Qk.tup (fun d hd => hG d hd k) (by omega)) (Nat.le_refl _)).mono (by decide) (by decide)
      have smB : Sm p H8 H11 := Sm.of (Same.trans s9 (Same.trans s10 s11))
      have hd11 := hd8.mono smB
      have ht11 := seqT smB ht8
      have hw11 := hw.mono smB
      clear hp10 h10 s11 s10 hp9 hA9 hD9 s9 hA8 hts8 hT8 hd8 hw ht8 ht8' hp8 nD nDp smB
      refine ⟨(by show 1 ≤ sizeLine; decide), fun L nL => ?_⟩
      have nLp : L ≠ p := hp11.ne nL
      have hL0 : upd H11 L (.lst [.ref r]) L = some (.lst [.ref r]) := upd_same
      have smL : Sm p H11 (upd H11 L (.lst [.ref r])) := Sm.new nL
      have hpL := hp11.new (o := .lst [.ref r]) nL
      have hAL : DqAll K (out2 (upd H11 L (.lst [.ref r])) p L) [.ref r] [_] := .cons ((h11.mono smL).out (sans_of nLp hL0) ((q11 false).noL rfl)) .nil
      have nLs : sans H11 p L = none := (sans_ne nLp).trans nL
      revert hL0 smL hpL hAL
      generalize upd H11 L (.lst [.ref r]) = H12
      intro hL0 smL hpL hAL
      -- word
      have htl := seqT sans_same (seqT smL ht11)
      have hzl : z.length ≤ sizeLine := Nat.le_trans z4 (by decide)
      obtain ⟨c0, hc0⟩ : ∃ c0, z.cps.toList[0]? = some c0 := by
        have e : z.cps.toList.length = z.length := by simp [Str.length]
        exact ⟨_, List.getElem?_eq_getElem (by omega)⟩
      refine ⟨_, rfl, e, _, _, _, rfl, rfl, htl, rfl, z, _, c0, rfl, rfl, hzl, atI_nat (j := 0) hc0, ?_⟩
      refine ⟨_, rfl, (by show 3 ≤ sizeLine; decide), fun l1' nl1 => ?_⟩
      refine pick_new hpL nl1 (.cons (.int 200) (.cons (.int 201) (.cons (.int 2000) .nil))) (by simp) (by show 3 < 1073741824; decide) fun H13 x dx sm13 hp13 hdx hqx => ?_
      obtain ⟨nx, rfl, hnx⟩ : ∃ n : Nat, x = .int (n : Int) ∧ n ≤ 2000 := by
        simp only [List.mem_cons, List.not_mem_nil, or_false] at hdx
        rcases hdx with rfl | rfl | rfl
        · exact ⟨200, hqx.intV, by decide⟩
        · exact ⟨201, hqx.intV, by decide⟩
        · exact ⟨2000, hqx.intV, by decide⟩
      have one : (⟨#[c0]⟩ : Str).length = 1 := rfl
      refine ⟨_, nx, rfl, rfl, by rw [one]; omega, by omega, ?_⟩
      have t0 : Txt 1 (⟨#[c0]⟩ : Str) := ⟨Nat.le_refl _, fun c hc => by
        have e : (⟨#[c0]⟩ : Str).cps.toList = [c0] := rfl
        rw [e] at hc
        rw [List.mem_singleton.mp hc]
        exact zc c0 (List.mem_of_getElem? hc0)⟩
      have hwd : Txt 2000 (repS (⟨#[c0]⟩ : Str) nx) := t0.rep (by omega)
      revert hwd
      generalize repS (⟨#[c0]⟩ : Str) nx = w0
      intro hwd
      have sts : ∀ {x : V} {d : PyData} {H : Hp}, d ∈ [PyData.str w0, PyData.str ""] → Dq K H x d → ∃ y : Str, x = .str y ∧ Txt 2000 y := fun h hq => by
        simp only [List.mem_cons, List.not_mem_nil, or_false] at h
        rcases h with rfl | rfl
        · exact ⟨_, hq.strV, hwd⟩
        · exact ⟨_, hq.strV, txt_empty _⟩
      -- move
      refine ⟨_, rfl, _, rfl, (by show 2 ≤ sizeLine; decide), fun l2 nl2 => ?_⟩
      refine pick_new hp13 nl2 (.cons (.str w0) (.cons (.str "") .nil)) (by simp) (by show 2 < 1073741824; decide) fun H14 x dx sm14 hp14 hdx hqx => ?_
      obtain ⟨y1, rfl, hy1⟩ := sts hdx hqx
      refine ⟨_, rfl, _, rfl, (by show 2 ≤ sizeLine; decide), fun l3 nl3 => ?_⟩
      refine pick_new hp14 nl3 (.cons (.str w0) (.cons (.str "") .nil)) (by simp) (by show 2 < 1073741824; decide) fun H15 x dx sm15 hp15 hdx hqx => ?_
      obtain ⟨y2, rfl, hy2⟩ := sts hdx hqx
      refine ⟨(by show 3 ≤ sizeLine; decide), fun r3 nr3 => ?_⟩
      have h16 : Dq K (sans (upd H15 r3 (.tup [.str y1, .str y2, .int 0])) p) (.ref r3) (.tuple [.str y1, .str y2, .int 0]) := new_tup hp15.at_ nr3 (.cons (.str _) (.cons (.str _) (.cons (.int 0) .nil)))
      have hp16 := hp15.new (o := .tup [.str y1, .str y2, .int 0]) nr3
      have sm16 : Sm p H12 (upd H15 r3 (.tup [.str y1, .str y2, .int 0])) := ((sm13.trans sm14).trans sm15).trans (Sm.new nr3)
      have qm : ∀ k, Qk k 1 6003 (.tuple [.str y1, .str y2, .int 0]) := fun k => tup3 (k := k) (n := 0) (B := 2000) (hy1.q (Nat.le_refl _)) (hy2.q (Nat.le_refl _)) (.int (by decide) (by decide) (by decide)) (by decide)
      revert h16 hp16 sm16
      generalize upd H15 r3 (.tup [.str y1, .str y2, .int 0]) = H16
      intro h16 hp16 sm16
      -- moves
      have ht16 := seqT (smL.trans sm16) ht11
      refine ⟨_, rfl, (by show 1 ≤ sizeLine; decide), fun r4 nr4 => ?_⟩
      have s17 := same_new (o := .tup [.ref r3]) nr4
      have h17 := new_tup hp16.at_ nr4 (.cons h16 .nil)
      have hp17 := hp16.new (o := .tup [.ref r3]) nr4
      revert s17 h17 hp17
      generalize upd H16 r4 (.tup [.ref r3]) = H17
      intro s17 h17 hp17
      refine ⟨_, rfl, e, _, _, _, rfl, rfl, seqT s17 (seqT sans_same ht16), rfl, z, rfl, hzl, ?_⟩
      refine repU z.length rfl hp17.at_ h17 (by simp) (by show 1 ≤ 1000; decide) z1 (by omega) fun H18 v18 s18 h18 => ?_
      have hp18 := hp17.same s18
      have sm18 : Sm p H12 H18 := sm16.trans (Sm.of (Same.trans s17 s18))
      have qms : ∀ k, Qk k 2 24016 (.tuple (List.replicate z.length [PyData.tuple [.str y1, .str y2, .int 0]]).flatten) := fun k => Qk.tup (n := 1) (B := 6003) (fun d hd => by
        rw [List.mem_singleton.mp (rep_mem' hd)]
        exact qm k) (by
        rw [rep_len]
        show z.length * 1 * 6004 ≤ 24016
        omega)
      -- the first append
      have ht18 := seqT sans_same (seqT (smL.trans sm18) ht11)
      refine ⟨_, rfl, .inl ⟨rfl, _, SqL.of (sm18.at_ nLp hL0)⟩, ?_⟩
      refine ⟨_, rfl, e, _, _, _, rfl, rfl, ht18, rfl, ?_⟩
      refine ⟨_, rfl, _, rfl, (by show 2 ≤ sizeLine; decide), fun l4 nl4 => ?_⟩
      refine pick_new hp18 nl4 (.cons (.str w0) (.cons (.str "") .nil)) (by simp) (by show 2 < 1073741824; decide) fun H19 x dx sm19 hp19 hdx hqx => ?_
      obtain ⟨y3, rfl, hy3⟩ := sts hdx hqx
      refine ⟨_, rfl, _, rfl, _, rfl, (by show 2 ≤ sizeLine; decide), fun l5 nl5 => ?_⟩
      refine pick_new hp19 nl5 (.cons (.str w0) (.cons .non .nil)) (by simp) (by show 2 < 1073741824; decide) fun H20 x5 d5 sm20 hp20 hd5 hq5 => ?_
      have q5 : ∀ k, Qk k 3 24016 d5 := fun k => by
        simp only [List.mem_cons, List.not_mem_nil, or_false] at hd5
        rcases hd5 with rfl | rfl
        · exact hwd.q (by decide)
        · exact .none
      have sm1820 := sm19.trans sm20
      refine ⟨(by show 2 ≤ sizeLine; decide), fun r6 nr6 => ?_⟩
      have s21 := same_new (o := .tup [v18, x5]) nr6
      have h21 := new_tup hp20.at_ nr6 (.cons (h18.mono sm1820) (.cons hq5 .nil))
      have hp21 := hp20.new (o := .tup [v18, x5]) nr6
      revert s21 h21 hp21
      generalize upd H20 r6 (.tup [v18, x5]) = H21
      intro s21 h21 hp21
      refine ⟨(by show 1 ≤ sizeLine; decide), fun r7 nr7 => ?_⟩
      have s22 := same_new (o := .tup [.ref r6]) nr7
      have h22 := new_tup hp21.at_ nr7 (.cons h21 .nil)
      have hp22 := hp21.new (o := .tup [.ref r6]) nr7
      revert s22 h22 hp22
      generalize upd H21 r7 (.tup [.ref r6]) = H22
      intro s22 h22 hp22
      refine ⟨(by show 3 ≤ sizeLine; decide), fun r8 nr8 => ?_⟩
      have s23 := same_new (o := .tup [.str z, .str y3, .ref r7]) nr8
      have h23 := new_tup hp22.at_ nr8 (.cons (.str z) (.cons (.str y3) (.cons h22 .nil)))
      have hp23 := hp22.new (o := .tup [.str z, .str y3, .ref r7]) nr8
      have sm23 : Sm p H12 (upd H22 r8 (.tup [.str z, .str y3, .ref r7])) := (sm18.trans sm1820).trans (Sm.of (Same.trans s21 (Same.trans s22 s23)))
      have q23 : ∀ k, Qk k 6 200000 (.tuple [.str z, .str y3, .tuple [.tuple [.tuple (List.replicate z.length [PyData.tuple [.str y1, .str y2, .int 0]]).flatten, d5]]]) := fun k =>
        (tup3 (k := k) (n := 5) (B := 48035) (qz k 5 _ (by decide)) (hy3.q (by decide)) (Qk.tup (n := 4) (B := 48034) (fun d hd => by
          rw [List.mem_singleton.mp hd]
          exact tup2 (k := k) (n := 3) (B := 24016) (B' := 48034) ((qms k).mono (by decide) (by decide)) (q5 k) (by decide)) (by show 1 * 48035 ≤ 48035; decide)) (Nat.le_refl _)).mono (by decide) (by decide)
      revert s23 h23 hp23 sm23
      generalize upd H22 r8 (.tup [.str z, .str y3, .ref r7]) = H23
      intro s23 h23 hp23 sm23
      have hL23 := sm23.at_ nLp hL0
      refine ⟨L, _, _, rfl, rfl, hL23, (by show 1 < sizeLine; decide), ?_⟩
      have sU : Same (out2 H23 p L) (out2 (upd H23 L (.lst ([.ref r] ++ [.ref r8]))) p L) := out2_upd nLp
      have hAL := ((hAL.mono (out2_sm sm23)).append (.cons (h23.out (sans_of nLp hL23) ((q23 false).noL rfl)) .nil)).mono sU
      have hL0 : upd H23 L (.lst ([.ref r] ++ [.ref r8])) L = some (.lst ([.ref r] ++ [.ref r8])) := upd_same
      have smL : Sm p H11 (upd H23 L (.lst ([.ref r] ++ [.ref r8]))) := (smL.trans sm23).upd nLs
      have hpL := hp11.to smL (hp23.at_.upd nLp)
      clear sU hL23 hp23 h23 s23 h22 s22 hp22 h21 s21 hp21 sm1820 sm19 sm20 hp19 hp20 sm18 hp18 h18 s18 hp17 h17 s17 ht18 ht16 hp16 h16 sm16 sm23 htl sm13 sm14 sm15 hp13 hp14 hp15
      revert hAL hL0 smL hpL
      generalize upd H23 L (.lst ([.ref r] ++ [.ref r8])) = H24
      intro hAL hL0 smL hpL
      -- the second append
      have ht24 := seqT sans_same (seqT smL ht11)
      refine ⟨_, rfl, .inl ⟨rfl, _, SqL.of hL0⟩, ?_⟩
      refine ⟨_, rfl, e, _, _, _, rfl, rfl, ht24, rfl, ?_⟩
      refine ⟨(by show 1 ≤ sizeLine; decide), fun r9 nr9 => ?_⟩
      have s25 := same_new (o := .tup [.non]) nr9
      have h25 := new_tup (K := K) hpL.at_ nr9 (.cons .non .nil)
      have hp25 := hpL.new (o := .tup [.non]) nr9
      revert s25 h25 hp25
      generalize upd H24 r9 (.tup [.non]) = H25
      intro s25 h25 hp25
      refine ⟨_, rfl, e, _, _, _, rfl, rfl, seqT s25 ht24, rfl, z, rfl, hzl, ?_⟩
      refine repU z.length rfl hp25.at_ h25 (by simp) (by show 1 ≤ 1000; decide) z1 (by omega) fun H26 v26 s26 h26 => ?_
      have hp26 := hp25.same s26
      refine ⟨_, rfl, ?_⟩
      refine ⟨_, rfl, w0, rfl, hwd.line (by decide), (by show 2 ≤ sizeLine; decide), fun r10 nr10 => ?_⟩
      have hcw : Txt 2000 (cutS w0 none (some 2000)) := ⟨Nat.le_trans (cutS_length _ _ _) hwd.1, fun c hc => by
        rw [show (some (2000 : Int)) = some ((2000 : Nat) : Int) from rfl, cutS_all, tx_codes] at hc
        exact hwd.2 c (List.mem_of_mem_take hc)⟩
      revert hcw
      generalize cutS w0 none (some 2000) = w1
      intro hcw
      have s2426 := Same.trans s25 s26
      obtain ⟨H27, e27, s27, h27, hp27⟩ := tupK hp26 nr10 (.cons h26 (.cons (.str w1) .nil))
      rw [← e27]
      refine ⟨(by show 1 ≤ sizeLine; decide), fun r11 nr11 => ?_⟩
      obtain ⟨H28, e28, s28, h28, hp28⟩ := tupK hp27 nr11 (.cons h27 .nil)
      rw [← e28]
      refine ⟨_, rfl, (by show 2 ≤ sizeLine; decide), fun l6 nl6 => ?_⟩
      refine pick_new hp28 nl6 (.cons (.int 1) (.cons (.int 60) .nil)) (by simp) (by show 2 < 1073741824; decide) fun H29 x dx sm29 hp29 hdx hqx => ?_
      obtain ⟨nx', rfl, hnx1, hnx2⟩ : ∃ n : Nat, x = .int (n : Int) ∧ 1 ≤ n ∧ n ≤ 60 := by
        simp only [List.mem_cons, List.not_mem_nil, or_false] at hdx
        rcases hdx with rfl | rfl
        · exact ⟨1, hqx.intV, by decide, by decide⟩
        · exact ⟨60, hqx.intV, by decide, by decide⟩
      refine repU nx' rfl hp29.at_ (h28.mono sm29) (by simp) (by show 1 ≤ 1000; decide) hnx1 (by omega) fun H30 v30 s30 h30 => ?_
      have hp30 := hp29.same s30
      refine ⟨(by show 3 ≤ sizeLine; decide), fun r12 nr12 => ?_⟩
      obtain ⟨H31, e31, s31, h31, hp31⟩ := tupK hp30 nr12 (.cons (.str z) (.cons (.str "") (.cons h30 .nil)))
      rw [← e31]
      have sm31 : Sm p H24 H31 := ((Sm.of (Same.trans s2426 (Same.trans s27 s28))).trans sm29).trans (Sm.of (Same.trans s30 s31))
      have q31 : ∀ k, Qk k 6 800000 (.tuple [.str z, .str "", .tuple (List.replicate nx' [PyData.tuple [.tuple (List.replicate z.length [PyData.none]).flatten, .str w1]]).flatten]) := fun k =>
        (tup3 (k := k) (n := 5) (B := 240240) (qz k 5 _ (by decide)) ((txt_empty 0).q (by decide)) ((Qk.tup (k := k) (n := 2) (B := 4002) (B' := 240240) (fun d hd => by
          rw [List.mem_singleton.mp (rep_mem' hd)]
          exact tup2 (k := k) (n := 1) (B := 2000) (Qk.tup (n := 0) (B := 0) (fun d hd => by
            rw [List.mem_singleton.mp (rep_mem' hd)]
            exact .none) (by
            rw [rep_len]
            show z.length * 1 * 1 ≤ 2000
            omega)) (hcw.q (Nat.le_refl _)) (by decide)) (by
          rw [rep_len]
          show nx' * 1 * 4003 ≤ 240240
          omega)).mono (by decide) (Nat.le_refl _)) (Nat.le_refl _)).mono (by decide) (by decide)
      have hL31 := sm31.at_ nLp hL0
      refine ⟨L, _, _, rfl, rfl, hL31, (by show 2 < sizeLine; decide), ?_⟩
      have sU : Same (out2 H31 p L) (out2 (upd H31 L (.lst ([.ref r] ++ [.ref r8] ++ [.ref r12]))) p L) := out2_upd nLp
      have hAL := ((hAL.mono (out2_sm sm31)).append (.cons (h31.out (sans_of nLp hL31) ((q31 false).noL rfl)) .nil)).mono sU
      have hL0 : upd H31 L (.lst ([.ref r] ++ [.ref r8] ++ [.ref r12])) L = some (.lst ([.ref r] ++ [.ref r8] ++ [.ref r12])) := upd_same
      have smL : Sm p H11 (upd H31 L (.lst ([.ref r] ++ [.ref r8] ++ [.ref r12]))) := (smL.trans sm31).upd nLs
      have hpL := hp11.to smL (hp31.at_.upd nLp)
      clear sU hL31 hp31 h31 s31 e31 e27 e28 s2426 s26 s25 h26 h25 hp25 hp26 ht24 h27 h28 h30 hp27 hp28 hp29 hp30 s27 s28 s30 sm29 sm31
      revert hAL hL0 smL hpL
      generalize upd H31 L (.lst ([.ref r] ++ [.ref r8] ++ [.ref r12])) = H32
      intro hAL hL0 smL hpL
      have hALp := hAL.mono (sans_same (a := L))
      have hd32 := hd11.mono smL
      have hw32 := hw11.mono smL
      -- the other things
      refine ⟨_, rfl, _, rfl, _, rfl, _, rfl, p, c, .ref e, _, rfl, hpL, hd32, hD, fun H33 v33 d33 sm33 hp33 h33 b33 => ?_⟩
      refine ⟨_, rfl, _, rfl, p, c, .ref e, _, rfl, hp33, hd32.mono sm33, hD, fun H34 v34 d34 sm34 hp34 h34 b34 => ?_⟩
      refine ⟨_, rfl, (by show 0 ≤ sizeLine; decide), fun r13 nr13 => ?_⟩
      obtain ⟨H35, e35, s35, h35, hp35⟩ := tupK hp34 nr13 .nil
      rw [← e35]
      refine ⟨(by show 0 ≤ sizeLine; decide), fun r14 nr14 => ?_⟩
      obtain ⟨H36, e36, s36, h36, hp36, _⟩ := lstK hp35 nr14 .nil
      rw [← e36]
      refine fun r15 nr15 => ?_
      obtain ⟨H37, e37, s37, h37, hp37⟩ := empK hp36 nr15
      rw [← e37]
      refine ⟨(by show 10 ≤ sizeLine; decide), fun r16 nr16 => ?_⟩
      have s3437 := Same.trans s35 (Same.trans s36 s37)
      have sm3437 : Sm p H34 H37 := Sm.of s3437
      have sm3237 := (sm33.trans sm34).trans sm3437
      have hY : DqAll K (sans H37 p) _ _ := (.cons (hd32.mono sm3237) (.cons (h33.mono (sm34.trans sm3437)) (.cons (h34.mono sm3437) (.cons (hw32.mono sm3237) (.cons .non (.cons (h35.mono (Sm.of (Same.trans s36 s37))) (.cons (h36.mono (Sm.of s37)) (.cons h37 (.cons (.str "x") (.cons (.int 0) .nil))))))))))
      obtain ⟨H38, e38, s38, h38, hp38, hl38⟩ := lstK hp37 nr16 hY
      rw [← e38]
      have sm3238 := sm3237.trans (Sm.of s38)
      refine ⟨L, r16, _, _, rfl, rfl, sm3238.at_ nLp hL0, hl38, (by show 3 + 10 ≤ sizeLine; decide), fun r17 nr17 => ?_⟩
      have hAll := (hALp.mono sm3238).append (hY.mono (Sm.of s38))
      obtain ⟨H39, e39, s39, h39, hp39, hl39⟩ := lstK hp38 nr17 hAll
      rw [← e39]
      have hAll := hAll.mono (Sm.of (a := p) s39)
      refine ⟨_, rfl, r17, rfl, ⟨_, SqL.of hl39⟩, ?_⟩
      refine for_list (K := K) (a := r17) (fun _ σ H' => ∃ t9 t10 : Option V, σ = [some (.ref a), some (.ref p), some (.int (0 + ((i : Nat) : Int))), some (.ref e), some (.ref w), some (.ref r17), some (.str w0), some (.ref r3), some v18, t9, t10, t11] ∧ Same H39 H')
        ⟨_, _, rfl, Same.refl _⟩ (fun _ _ _ _ ⟨_, _, _, h⟩ => seqL h (SqL.of hl39)) ?_ ?_
      · rintro j x σ H40 hj ⟨t9, t10, rfl, s40⟩
        obtain ⟨d, hd1, hd⟩ := hAll.get hj
        have hd := (hd.mono sans_same).mono s40
        have hb : Bad 8 1000000 d := by
          have h := List.mem_of_getElem? hd1
          simp only [List.cons_append, List.nil_append, List.mem_cons, List.not_mem_nil, or_false] at h
          rcases h with rfl | rfl | rfl | rfl | rfl | rfl | rfl | rfl | rfl | rfl | rfl | rfl | rfl
          · exact Bad.of (q11 true) (by decide) (by decide)
          · exact Bad.of (q23 true) (by decide) (by decide)
          · exact Bad.of (q31 true) (by decide) (by decide)
          · exact Bad.of (tup3 (k := true) (n := 4) (B := 428) (qz true 4 _ (by decide)) (qf true 4 _ (by decide)) (Qk.tup (qs true) (by omega)) (Nat.le_refl _)) (by decide) (by decide)
          · exact b33
          · exact b34
          · exact qw
          · exact ⟨true, .none⟩
          · exact ⟨true, tup0⟩
          · exact ⟨true, Qk.lst (n := 7) (B := 0) (fun d h => (List.not_mem_nil h).elim) (by decide)⟩
          · exact ⟨false, .emp (by decide)⟩
          · exact ⟨true, .str (by decide) (by decide +kernel)⟩
          · exact ⟨true, .int (by decide) (by decide) (by decide)⟩
        obtain ⟨k, hk⟩ := hb
        have sh := hk.shows (by decide) (by decide)
        have hli := hk.light (by decide)
        refine ⟨_, rfl, x, d, rfl, hd, sh.ok, ?_⟩
        refine ⟨_, rfl, x, d, rfl, hd, hli, fun H41 s41 => ⟨_, _, rfl, .bl _, (shows_bool _).ok, _, rfl, x, d, rfl, hd.mono s41, hli, fun H42 s42 => ⟨_, _, rfl, .bl _, (shows_bool _).ok, rfl, _, rfl, ?_⟩⟩⟩
        refine if_false ne_same ?_
        refine ⟨_, rfl, x, d, rfl, (hd.mono s41).mono s42, sh.ok, _, rfl, rfl, _, rfl, ?_⟩
        refine if_false ne_same ?_
        exact ⟨_, _, rfl, Same.trans s40 (Same.trans s41 s42)⟩
      · rintro σ H40 ⟨t9, t10, rfl, s40⟩
        exact ⟨_, _, _, _, _, _, _, _, _, _, rfl, hp39.same s40⟩
end
end K02

namespace K02
open PySem PySem.Spec PyProof.Rows L2 G Lk
theorem all_mk {l : PySem.W.OpenLaw} {w : World} {K : PySem.W.Frag} {h : Heap} {mg : Str → Option Value} {fa : Addr} (X : K.In h) (G : h.Ns mainGlobals mg) (hfa : mg "law" = some (.ref fa))
    {f0 : Addr} {od0 an0 : Option Addr} {sl0 : Array (Option Value)} {oc0 kV0 dc0 pm0 cd0 ct0 : Value}
    {f1 : Addr} {od1 an1 : Option Addr} {sl1 : Array (Option Value)} {oc1 kV1 dc1 pm1 cd1 ct1 : Value}
    {f2 : Addr} {od2 an2 : Option Addr} {sl2 : Array (Option Value)} {oc2 kV2 dc2 pm2 cd2 ct2 : Value}
    {f3 : Addr} {od3 an3 : Option Addr} {sl3 : Array (Option Value)} {oc3 kV3 dc3 pm3 cd3 ct3 : Value}
    {f4 : Addr} {od4 an4 : Option Addr} {sl4 : Array (Option Value)} {oc4 kV4 dc4 pm4 cd4 ct4 : Value}
    {f5 : Addr} {od5 an5 : Option Addr} {sl5 : Array (Option Value)} {oc5 kV5 dc5 pm5 cd5 ct5 : Value}
    {f6 : Addr} {od6 an6 : Option Addr} {sl6 : Array (Option Value)} {oc6 kV6 dc6 pm6 cd6 ct6 : Value}
    {f7 : Addr} {od7 an7 : Option Addr} {sl7 : Array (Option Value)} {oc7 kV7 dc7 pm7 cd7 ct7 : Value}
    {f8 : Addr} {od8 an8 : Option Addr} {sl8 : Array (Option Value)} {oc8 kV8 dc8 pm8 cd8 ct8 : Value}
    {f9 : Addr} {od9 an9 : Option Addr} {sl9 : Array (Option Value)} {oc9 kV9 dc9 pm9 cd9 ct9 : Value}
    {f10 : Addr} {od10 an10 : Option Addr} {sl10 : Array (Option Value)} {oc10 kV10 dc10 pm10 cd10 ct10 : Value}
    {f11 : Addr} {od11 an11 : Option Addr} {sl11 : Array (Option Value)} {oc11 kV11 dc11 pm11 cd11 ct11 : Value}
    {f12 : Addr} {od12 an12 : Option Addr} {sl12 : Array (Option Value)} {oc12 kV12 dc12 pm12 cd12 ct12 : Value}
    {f13 : Addr} {od13 an13 : Option Addr} {sl13 : Array (Option Value)} {oc13 kV13 dc13 pm13 cd13 ct13 : Value}
    {f14 : Addr} {od14 an14 : Option Addr} {sl14 : Array (Option Value)} {oc14 kV14 dc14 pm14 cd14 ct14 : Value}
    {f15 : Addr} {od15 an15 : Option Addr} {sl15 : Array (Option Value)} {oc15 kV15 dc15 pm15 cd15 ct15 : Value}
    {f16 : Addr} {od16 an16 : Option Addr} {sl16 : Array (Option Value)} {oc16 kV16 dc16 pm16 cd16 ct16 : Value}
    {f17 : Addr} {od17 an17 : Option Addr} {sl17 : Array (Option Value)} {oc17 kV17 dc17 pm17 cd17 ct17 : Value}
    {f18 : Addr} {od18 an18 : Option Addr} {sl18 : Array (Option Value)} {oc18 kV18 dc18 pm18 cd18 ct18 : Value}
    {f19 : Addr} {od19 an19 : Option Addr} {sl19 : Array (Option Value)} {oc19 kV19 dc19 pm19 cd19 ct19 : Value}
    {f20 : Addr} {od20 an20 : Option Addr} {sl20 : Array (Option Value)} {oc20 kV20 dc20 pm20 cd20 ct20 : Value}
    {f21 : Addr} {od21 an21 : Option Addr} {sl21 : Array (Option Value)} {oc21 kV21 dc21 pm21 cd21 ct21 : Value}
    {f22 : Addr} {od22 an22 : Option Addr} {sl22 : Array (Option Value)} {oc22 kV22 dc22 pm22 cd22 ct22 : Value}
    {f23 : Addr} {od23 an23 : Option Addr} {sl23 : Array (Option Value)} {oc23 kV23 dc23 pm23 cd23 ct23 : Value}
    {f24 : Addr} {od24 an24 : Option Addr} {sl24 : Array (Option Value)} {oc24 kV24 dc24 pm24 cd24 ct24 : Value}
    {t_LETTERS : Tok}
    {t_MOST_SIGNS : Tok}
    {t_MOST_STATES : Tok}
    {t_MOST_WORD : Tok}
    (a0 : PySem.W.nsIn K mainGlobals "is_word" = some (some (.ref f0)))
    (l0 : K.lookup f0 = some ⟨oc0, od0, .func (PySem.W.fnOf "is_word" "is_word" (defArgs s_is_word) (defBody s_is_word) (defScope s_is_word) .none kV0 dc0 pm0 an0 cd0 ct0), sl0⟩)
    (c0 : PySem.W.codeIn K cd0 "is_word" = true)
    (k0 : PySem.W.keepIn K (.ref f0) = true)
    (a1 : PySem.W.nsIn K mainGlobals "is_expander" = some (some (.ref f1)))
    (l1 : K.lookup f1 = some ⟨oc1, od1, .func (PySem.W.fnOf "is_expander" "is_expander" (defArgs s_is_expander) (defBody s_is_expander) (defScope s_is_expander) .none kV1 dc1 pm1 an1 cd1 ct1), sl1⟩)
    (c1 : PySem.W.codeIn K cd1 "is_expander" = true)
    (k1 : PySem.W.keepIn K (.ref f1) = true)
    (a2 : PySem.W.nsIn K mainGlobals "is_number" = some (some (.ref f2)))
    (l2 : K.lookup f2 = some ⟨oc2, od2, .func (PySem.W.fnOf "is_number" "is_number" (defArgs s_is_number) (defBody s_is_number) (defScope s_is_number) .none kV2 dc2 pm2 an2 cd2 ct2), sl2⟩)
    (c2 : PySem.W.codeIn K cd2 "is_number" = true)
    (k2 : PySem.W.keepIn K (.ref f2) = true)
    (a3 : PySem.W.nsIn K mainGlobals "is_whole" = some (some (.ref f3)))
    (l3 : K.lookup f3 = some ⟨oc3, od3, .func (PySem.W.fnOf "is_whole" "is_whole" (defArgs s_is_whole) (defBody s_is_whole) (defScope s_is_whole) .none kV3 dc3 pm3 an3 cd3 ct3), sl3⟩)
    (c3 : PySem.W.codeIn K cd3 "is_whole" = true)
    (k3 : PySem.W.keepIn K (.ref f3) = true)
    (a4 : PySem.W.nsIn K mainGlobals "_are_signs" = some (some (.ref f4)))
    (l4 : K.lookup f4 = some ⟨oc4, od4, .func (PySem.W.fnOf "_are_signs" "_are_signs" (defArgs s_are_signs) (defBody s_are_signs) (defScope s_are_signs) .none kV4 dc4 pm4 an4 cd4 ct4), sl4⟩)
    (c4 : PySem.W.codeIn K cd4 "_are_signs" = true)
    (k4 : PySem.W.keepIn K (.ref f4) = true)
    (a5 : PySem.W.nsIn K mainGlobals "_is_short_word" = some (some (.ref f5)))
    (l5 : K.lookup f5 = some ⟨oc5, od5, .func (PySem.W.fnOf "_is_short_word" "_is_short_word" (defArgs s_is_short_word) (defBody s_is_short_word) (defScope s_is_short_word) .none kV5 dc5 pm5 an5 cd5 ct5), sl5⟩)
    (c5 : PySem.W.codeIn K cd5 "_is_short_word" = true)
    (k5 : PySem.W.keepIn K (.ref f5) = true)
    (a6 : PySem.W.nsIn K mainGlobals "_are_states" = some (some (.ref f6)))
    (l6 : K.lookup f6 = some ⟨oc6, od6, .func (PySem.W.fnOf "_are_states" "_are_states" (defArgs s_are_states) (defBody s_are_states) (defScope s_are_states) .none kV6 dc6 pm6 an6 cd6 ct6), sl6⟩)
    (c6 : PySem.W.codeIn K cd6 "_are_states" = true)
    (k6 : PySem.W.keepIn K (.ref f6) = true)
    (a7 : PySem.W.nsIn K mainGlobals "_is_state" = some (some (.ref f7)))
    (l7 : K.lookup f7 = some ⟨oc7, od7, .func (PySem.W.fnOf "_is_state" "_is_state" (defArgs s_is_state) (defBody s_is_state) (defScope s_is_state) .none kV7 dc7 pm7 an7 cd7 ct7), sl7⟩)
    (c7 : PySem.W.codeIn K cd7 "_is_state" = true)
    (k7 : PySem.W.keepIn K (.ref f7) = true)
    (a8 : PySem.W.nsIn K mainGlobals "_is_move" = some (some (.ref f8)))
    (l8 : K.lookup f8 = some ⟨oc8, od8, .func (PySem.W.fnOf "_is_move" "_is_move" (defArgs s_is_move) (defBody s_is_move) (defScope s_is_move) .none kV8 dc8 pm8 an8 cd8 ct8), sl8⟩)
    (c8 : PySem.W.codeIn K cd8 "_is_move" = true)
    (k8 : PySem.W.keepIn K (.ref f8) = true)
    (a9 : PySem.W.nsIn K mainGlobals "_law_kneaded" = some (some (.ref f9)))
    (l9 : K.lookup f9 = some ⟨oc9, od9, .func (PySem.W.fnOf "_law_kneaded" "_law_kneaded" (defArgs s_Lkneaded) (defBody s_Lkneaded) (defScope s_Lkneaded) .none kV9 dc9 pm9 an9 cd9 ct9), sl9⟩)
    (c9 : PySem.W.codeIn K cd9 "_law_kneaded" = true)
    (k9 : PySem.W.keepIn K (.ref f9) = true)
    (a10 : PySem.W.nsIn K mainGlobals "_law_pot_of" = some (some (.ref f10)))
    (l10 : K.lookup f10 = some ⟨oc10, od10, .func (PySem.W.fnOf "_law_pot_of" "_law_pot_of" (defArgs s_Lpot_of) (defBody s_Lpot_of) (defScope s_Lpot_of) .none kV10 dc10 pm10 an10 cd10 ct10), sl10⟩)
    (c10 : PySem.W.codeIn K cd10 "_law_pot_of" = true)
    (k10 : PySem.W.keepIn K (.ref f10) = true)
    (a11 : PySem.W.nsIn K mainGlobals "_law_below" = some (some (.ref f11)))
    (l11 : K.lookup f11 = some ⟨oc11, od11, .func (PySem.W.fnOf "_law_below" "_law_below" (defArgs s_Lbelow) (defBody s_Lbelow) (defScope s_Lbelow) .none kV11 dc11 pm11 an11 cd11 ct11), sl11⟩)
    (c11 : PySem.W.codeIn K cd11 "_law_below" = true)
    (k11 : PySem.W.keepIn K (.ref f11) = true)
    (a12 : PySem.W.nsIn K mainGlobals "_law_pick" = some (some (.ref f12)))
    (l12 : K.lookup f12 = some ⟨oc12, od12, .func (PySem.W.fnOf "_law_pick" "_law_pick" (defArgs s_Lpick) (defBody s_Lpick) (defScope s_Lpick) .none kV12 dc12 pm12 an12 cd12 ct12), sl12⟩)
    (c12 : PySem.W.codeIn K cd12 "_law_pick" = true)
    (k12 : PySem.W.keepIn K (.ref f12) = true)
    (a13 : PySem.W.nsIn K mainGlobals "_law_some_word" = some (some (.ref f13)))
    (l13 : K.lookup f13 = some ⟨oc13, od13, .func (PySem.W.fnOf "_law_some_word" "_law_some_word" (defArgs s_Lsome_word) (defBody s_Lsome_word) (defScope s_Lsome_word) .none kV13 dc13 pm13 an13 cd13 ct13), sl13⟩)
    (c13 : PySem.W.codeIn K cd13 "_law_some_word" = true)
    (k13 : PySem.W.keepIn K (.ref f13) = true)
    (a14 : PySem.W.nsIn K mainGlobals "_law_some_expander" = some (some (.ref f14)))
    (l14 : K.lookup f14 = some ⟨oc14, od14, .func (PySem.W.fnOf "_law_some_expander" "_law_some_expander" (defArgs s_Lsome_expander) (defBody s_Lsome_expander) (defScope s_Lsome_expander) .none kV14 dc14 pm14 an14 cd14 ct14), sl14⟩)
    (c14 : PySem.W.codeIn K cd14 "_law_some_expander" = true)
    (k14 : PySem.W.keepIn K (.ref f14) = true)
    (a15 : PySem.W.nsIn K mainGlobals "_law_plainer" = some (some (.ref f15)))
    (l15 : K.lookup f15 = some ⟨oc15, od15, .func (PySem.W.fnOf "_law_plainer" "_law_plainer" (defArgs s_Lplainer) (defBody s_Lplainer) (defScope s_Lplainer) .none kV15 dc15 pm15 an15 cd15 ct15), sl15⟩)
    (c15 : PySem.W.codeIn K cd15 "_law_plainer" = true)
    (k15 : PySem.W.keepIn K (.ref f15) = true)
    (a16 : PySem.W.nsIn K mainGlobals "_law_calls" = some (some (.ref f16)))
    (l16 : K.lookup f16 = some ⟨oc16, od16, .func (PySem.W.fnOf "_law_calls" "_law_calls" (defArgs s_Lcalls) (defBody s_Lcalls) (defScope s_Lcalls) .none kV16 dc16 pm16 an16 cd16 ct16), sl16⟩)
    (c16 : PySem.W.codeIn K cd16 "_law_calls" = true)
    (k16 : PySem.W.keepIn K (.ref f16) = true)
    (a17 : PySem.W.nsIn K mainGlobals "_law_sizes" = some (some (.ref f17)))
    (l17 : K.lookup f17 = some ⟨oc17, od17, .func (PySem.W.fnOf "_law_sizes" "_law_sizes" (defArgs s_Lsizes) (defBody s_Lsizes) (defScope s_Lsizes) .none kV17 dc17 pm17 an17 cd17 ct17), sl17⟩)
    (c17 : PySem.W.codeIn K cd17 "_law_sizes" = true)
    (k17 : PySem.W.keepIn K (.ref f17) = true)
    (a18 : PySem.W.nsIn K mainGlobals "_law_is_short" = some (some (.ref f18)))
    (l18 : K.lookup f18 = some ⟨oc18, od18, .func (PySem.W.fnOf "_law_is_short" "_law_is_short" (defArgs s_Lis_short) (defBody s_Lis_short) (defScope s_Lis_short) .none kV18 dc18 pm18 an18 cd18 ct18), sl18⟩)
    (c18 : PySem.W.codeIn K cd18 "_law_is_short" = true)
    (k18 : PySem.W.keepIn K (.ref f18) = true)
    (a19 : PySem.W.nsIn K mainGlobals "_law_is_count" = some (some (.ref f19)))
    (l19 : K.lookup f19 = some ⟨oc19, od19, .func (PySem.W.fnOf "_law_is_count" "_law_is_count" (defArgs s_Lis_count) (defBody s_Lis_count) (defScope s_Lis_count) .none kV19 dc19 pm19 an19 cd19 ct19), sl19⟩)
    (c19 : PySem.W.codeIn K cd19 "_law_is_count" = true)
    (k19 : PySem.W.keepIn K (.ref f19) = true)
    (a20 : PySem.W.nsIn K mainGlobals "_law_is_move" = some (some (.ref f20)))
    (l20 : K.lookup f20 = some ⟨oc20, od20, .func (PySem.W.fnOf "_law_is_move" "_law_is_move" (defArgs s_Lis_move) (defBody s_Lis_move) (defScope s_Lis_move) .none kV20 dc20 pm20 an20 cd20 ct20), sl20⟩)
    (c20 : PySem.W.codeIn K cd20 "_law_is_move" = true)
    (k20 : PySem.W.keepIn K (.ref f20) = true)
    (a21 : PySem.W.nsIn K mainGlobals "_law_is_state" = some (some (.ref f21)))
    (l21 : K.lookup f21 = some ⟨oc21, od21, .func (PySem.W.fnOf "_law_is_state" "_law_is_state" (defArgs s_Lis_state) (defBody s_Lis_state) (defScope s_Lis_state) .none kV21 dc21 pm21 an21 cd21 ct21), sl21⟩)
    (c21 : PySem.W.codeIn K cd21 "_law_is_state" = true)
    (k21 : PySem.W.keepIn K (.ref f21) = true)
    (a22 : PySem.W.nsIn K mainGlobals "_law_is_expander" = some (some (.ref f22)))
    (l22 : K.lookup f22 = some ⟨oc22, od22, .func (PySem.W.fnOf "_law_is_expander" "_law_is_expander" (defArgs s_Lis_expander) (defBody s_Lis_expander) (defScope s_Lis_expander) .none kV22 dc22 pm22 an22 cd22 ct22), sl22⟩)
    (c22 : PySem.W.codeIn K cd22 "_law_is_expander" = true)
    (k22 : PySem.W.keepIn K (.ref f22) = true)
    (a23 : PySem.W.nsIn K mainGlobals "_law_spoilt" = some (some (.ref f23)))
    (l23 : K.lookup f23 = some ⟨oc23, od23, .func (PySem.W.fnOf "_law_spoilt" "_law_spoilt" (defArgs s_Lspoilt) (defBody s_Lspoilt) (defScope s_Lspoilt) .none kV23 dc23 pm23 an23 cd23 ct23), sl23⟩)
    (c23 : PySem.W.codeIn K cd23 "_law_spoilt" = true)
    (k23 : PySem.W.keepIn K (.ref f23) = true)
    (a24 : PySem.W.nsIn K mainGlobals "law" = some (some (.ref f24)))
    (l24 : K.lookup f24 = some ⟨oc24, od24, .func (PySem.W.fnOf "law" "law" (defArgs s_law) (defBody s_law) (defScope s_law) .none kV24 dc24 pm24 an24 cd24 ct24), sl24⟩)
    (c24 : PySem.W.codeIn K cd24 "law" = true)
    (k24 : PySem.W.keepIn K (.ref f24) = true)
    (z_abs : PySem.W.nsIn K mainGlobals "abs" = some none)
    (z_all : PySem.W.nsIn K mainGlobals "all" = some none)
    (z_bool : PySem.W.nsIn K mainGlobals "bool" = some none)
    (z_enumerate : PySem.W.nsIn K mainGlobals "enumerate" = some none)
    (z_int : PySem.W.nsIn K mainGlobals "int" = some none)
    (z_isinstance : PySem.W.nsIn K mainGlobals "isinstance" = some none)
    (z_len : PySem.W.nsIn K mainGlobals "len" = some none)
    (z_list : PySem.W.nsIn K mainGlobals "list" = some none)
    (z_max : PySem.W.nsIn K mainGlobals "max" = some none)
    (z_range : PySem.W.nsIn K mainGlobals "range" = some none)
    (z_repr : PySem.W.nsIn K mainGlobals "repr" = some none)
    (z_set : PySem.W.nsIn K mainGlobals "set" = some none)
    (z_sorted : PySem.W.nsIn K mainGlobals "sorted" = some none)
    (z_str : PySem.W.nsIn K mainGlobals "str" = some none)
    (z_tuple : PySem.W.nsIn K mainGlobals "tuple" = some none)
    (m_LETTERS : PySem.W.nsIn K mainGlobals "LETTERS" = some (some (.str "abcdefghijklmnopqrstuvwxyz" t_LETTERS)))
    (m_MOST_SIGNS : PySem.W.nsIn K mainGlobals "MOST_SIGNS" = some (some (.int 4 t_MOST_SIGNS)))
    (m_MOST_STATES : PySem.W.nsIn K mainGlobals "MOST_STATES" = some (some (.int 60 t_MOST_STATES)))
    (m_MOST_WORD : PySem.W.nsIn K mainGlobals "MOST_WORD" = some (some (.int 2000 t_MOST_WORD)))
    : ∃ fd : FuncData, (∀ (s : Shared) (v : Value), BindsTo s fd ⟨[v], []⟩ [("script", v)]) ∧ ∀ base : Heap, K.In base → base.Ns mainGlobals mg → FnG l.prog w K mg base CX0 7 fa fd ["script"] (sp_law K) := by
  have e := hfa.symm.trans (PySem.W.mg_of X G a24)
  cases e
  have F0 := fun_mk (st := s_is_word) l0 c0 k0
  have b0 := F0.binds (ps := ["signs", "thing"]) fun _ _ _ _ _ _ us hl => match us, hl with | [_, _], _ => rfl
  have F1 := fun_mk (st := s_is_expander) l1 c1 k1
  have b1 := F1.binds (ps := ["thing"]) fun _ _ _ _ _ _ us hl => match us, hl with | [_], _ => rfl
  have F2 := fun_mk (st := s_is_number) l2 c2 k2
  have b2 := F2.binds (ps := ["many", "thing"]) fun _ _ _ _ _ _ us hl => match us, hl with | [_, _], _ => rfl
  have F3 := fun_mk (st := s_is_whole) l3 c3 k3
  have b3 := F3.binds (ps := ["thing"]) fun _ _ _ _ _ _ us hl => match us, hl with | [_], _ => rfl
  have F4 := fun_mk (st := s_are_signs) l4 c4 k4
  have b4 := F4.binds (ps := ["thing"]) fun _ _ _ _ _ _ us hl => match us, hl with | [_], _ => rfl
  have F5 := fun_mk (st := s_is_short_word) l5 c5 k5
  have b5 := F5.binds (ps := ["signs", "thing"]) fun _ _ _ _ _ _ us hl => match us, hl with | [_, _], _ => rfl
  have F6 := fun_mk (st := s_are_states) l6 c6 k6
  have b6 := F6.binds (ps := ["signs", "thing"]) fun _ _ _ _ _ _ us hl => match us, hl with | [_, _], _ => rfl
  have F7 := fun_mk (st := s_is_state) l7 c7 k7
  have b7 := F7.binds (ps := ["signs", "many", "thing"]) fun _ _ _ _ _ _ us hl => match us, hl with | [_, _, _], _ => rfl
  have F8 := fun_mk (st := s_is_move) l8 c8 k8
  have b8 := F8.binds (ps := ["signs", "many", "thing"]) fun _ _ _ _ _ _ us hl => match us, hl with | [_, _, _], _ => rfl
  have F9 := fun_mk (st := s_Lkneaded) l9 c9 k9
  have b9 := F9.binds (ps := ["seed", "lap"]) fun _ _ _ _ _ _ us hl => match us, hl with | [_, _], _ => rfl
  have F10 := fun_mk (st := s_Lpot_of) l10 c10 k10
  have b10 := F10.binds (ps := ["script"]) fun _ _ _ _ _ _ us hl => match us, hl with | [_], _ => rfl
  have F11 := fun_mk (st := s_Lbelow) l11 c11 k11
  have b11 := F11.binds (ps := ["pot", "bound"]) fun _ _ _ _ _ _ us hl => match us, hl with | [_, _], _ => rfl
  have F12 := fun_mk (st := s_Lpick) l12 c12 k12
  have b12 := F12.binds (ps := ["pot", "items"]) fun _ _ _ _ _ _ us hl => match us, hl with | [_, _], _ => rfl
  have F13 := fun_mk (st := s_Lsome_word) l13 c13 k13
  have b13 := F13.binds (ps := ["pot", "signs", "limit"]) fun _ _ _ _ _ _ us hl => match us, hl with | [_, _, _], _ => rfl
  have F14 := fun_mk (st := s_Lsome_expander) l14 c14 k14
  have b14 := F14.binds (ps := ["pot", "many"]) fun _ _ _ _ _ _ us hl => match us, hl with | [_, _], _ => rfl
  have F15 := fun_mk (st := s_Lplainer) l15 c15 k15
  have b15 := F15.binds (ps := ["state"]) fun _ _ _ _ _ _ us hl => match us, hl with | [_], _ => rfl
  have F16 := fun_mk (st := s_Lcalls) l16 c16 k16
  have b16 := F16.binds (ps := ["expander"]) fun _ _ _ _ _ _ us hl => match us, hl with | [_], _ => rfl
  have F17 := fun_mk (st := s_Lsizes) l17 c17 k17
  have b17 := F17.binds (ps := ["expander"]) fun _ _ _ _ _ _ us hl => match us, hl with | [_], _ => rfl
  have F18 := fun_mk (st := s_Lis_short) l18 c18 k18
  have b18 := F18.binds (ps := ["signs", "thing"]) fun _ _ _ _ _ _ us hl => match us, hl with | [_, _], _ => rfl
  have F19 := fun_mk (st := s_Lis_count) l19 c19 k19
  have b19 := F19.binds (ps := ["thing", "bound"]) fun _ _ _ _ _ _ us hl => match us, hl with | [_, _], _ => rfl
  have F20 := fun_mk (st := s_Lis_move) l20 c20 k20
  have b20 := F20.binds (ps := ["signs", "many", "thing"]) fun _ _ _ _ _ _ us hl => match us, hl with | [_, _, _], _ => rfl
  have F21 := fun_mk (st := s_Lis_state) l21 c21 k21
  have b21 := F21.binds (ps := ["signs", "many", "thing"]) fun _ _ _ _ _ _ us hl => match us, hl with | [_, _, _], _ => rfl
  have F22 := fun_mk (st := s_Lis_expander) l22 c22 k22
  have b22 := F22.binds (ps := ["thing"]) fun _ _ _ _ _ _ us hl => match us, hl with | [_], _ => rfl
  have F23 := fun_mk (st := s_Lspoilt) l23 c23 k23
  have b23 := F23.binds (ps := ["pot", "expander"]) fun _ _ _ _ _ _ us hl => match us, hl with | [_, _], _ => rfl
  have F24 := fun_mk (st := s_law) l24 c24 k24
  have b24 := F24.binds (ps := ["script"]) fun _ _ _ _ _ _ us hl => match us, hl with | [_], _ => rfl
  exact ⟨_, fun s v => .of_eq rfl, fun base _ _ => ok_law {
    a_is_word := f0
    fd_is_word := _
    g_is_word := PySem.W.mg_of X G a0
    F_is_word := F0
    b_is_word := b0
    a_is_expander := f1
    fd_is_expander := _
    g_is_expander := PySem.W.mg_of X G a1
    F_is_expander := F1
    b_is_expander := b1
    a_is_number := f2
    fd_is_number := _
    g_is_number := PySem.W.mg_of X G a2
    F_is_number := F2
    b_is_number := b2
    a_is_whole := f3
    fd_is_whole := _
    g_is_whole := PySem.W.mg_of X G a3
    F_is_whole := F3
    b_is_whole := b3
    a__are_signs := f4
    fd__are_signs := _
    g__are_signs := PySem.W.mg_of X G a4
    F__are_signs := F4
    b__are_signs := b4
    a__is_short_word := f5
    fd__is_short_word := _
    g__is_short_word := PySem.W.mg_of X G a5
    F__is_short_word := F5
    b__is_short_word := b5
    a__are_states := f6
    fd__are_states := _
    g__are_states := PySem.W.mg_of X G a6
    F__are_states := F6
    b__are_states := b6
    a__is_state := f7
    fd__is_state := _
    g__is_state := PySem.W.mg_of X G a7
    F__is_state := F7
    b__is_state := b7
    a__is_move := f8
    fd__is_move := _
    g__is_move := PySem.W.mg_of X G a8
    F__is_move := F8
    b__is_move := b8
    a__law_kneaded := f9
    fd__law_kneaded := _
    g__law_kneaded := PySem.W.mg_of X G a9
    F__law_kneaded := F9
    b__law_kneaded := b9
    a__law_pot_of := f10
    fd__law_pot_of := _
    g__law_pot_of := PySem.W.mg_of X G a10
    F__law_pot_of := F10
    b__law_pot_of := b10
    a__law_below := f11
    fd__law_below := _
    g__law_below := PySem.W.mg_of X G a11
    F__law_below := F11
    b__law_below := b11
    a__law_pick := f12
    fd__law_pick := _
    g__law_pick := PySem.W.mg_of X G a12
    F__law_pick := F12
    b__law_pick := b12
    a__law_some_word := f13
    fd__law_some_word := _
    g__law_some_word := PySem.W.mg_of X G a13
    F__law_some_word := F13
    b__law_some_word := b13
    a__law_some_expander := f14
    fd__law_some_expander := _
    g__law_some_expander := PySem.W.mg_of X G a14
    F__law_some_expander := F14
    b__law_some_expander := b14
    a__law_plainer := f15
    fd__law_plainer := _
    g__law_plainer := PySem.W.mg_of X G a15
    F__law_plainer := F15
    b__law_plainer := b15
    a__law_calls := f16
    fd__law_calls := _
    g__law_calls := PySem.W.mg_of X G a16
    F__law_calls := F16
    b__law_calls := b16
    a__law_sizes := f17
    fd__law_sizes := _
    g__law_sizes := PySem.W.mg_of X G a17
    F__law_sizes := F17
    b__law_sizes := b17
    a__law_is_short := f18
    fd__law_is_short := _
    g__law_is_short := PySem.W.mg_of X G a18
    F__law_is_short := F18
    b__law_is_short := b18
    a__law_is_count := f19
    fd__law_is_count := _
    g__law_is_count := PySem.W.mg_of X G a19
    F__law_is_count := F19
    b__law_is_count := b19
    a__law_is_move := f20
    fd__law_is_move := _
    g__law_is_move := PySem.W.mg_of X G a20
    F__law_is_move := F20
    b__law_is_move := b20
    a__law_is_state := f21
    fd__law_is_state := _
    g__law_is_state := PySem.W.mg_of X G a21
    F__law_is_state := F21
    b__law_is_state := b21
    a__law_is_expander := f22
    fd__law_is_expander := _
    g__law_is_expander := PySem.W.mg_of X G a22
    F__law_is_expander := F22
    b__law_is_expander := b22
    a__law_spoilt := f23
    fd__law_spoilt := _
    g__law_spoilt := PySem.W.mg_of X G a23
    F__law_spoilt := F23
    b__law_spoilt := b23
    a_law := fa
    fd_law := _
    g_law := PySem.W.mg_of X G a24
    F_law := F24
    b_law := b24
    z_abs := PySem.W.mg_none_of X G z_abs
    z_all := PySem.W.mg_none_of X G z_all
    z_bool := PySem.W.mg_none_of X G z_bool
    z_enumerate := PySem.W.mg_none_of X G z_enumerate
    z_int := PySem.W.mg_none_of X G z_int
    z_isinstance := PySem.W.mg_none_of X G z_isinstance
    z_len := PySem.W.mg_none_of X G z_len
    z_list := PySem.W.mg_none_of X G z_list
    z_max := PySem.W.mg_none_of X G z_max
    z_range := PySem.W.mg_none_of X G z_range
    z_repr := PySem.W.mg_none_of X G z_repr
    z_set := PySem.W.mg_none_of X G z_set
    z_sorted := PySem.W.mg_none_of X G z_sorted
    z_str := PySem.W.mg_none_of X G z_str
    z_tuple := PySem.W.mg_none_of X G z_tuple
    t_LETTERS := t_LETTERS
    m_LETTERS := PySem.W.mg_of X G m_LETTERS
    t_MOST_SIGNS := t_MOST_SIGNS
    m_MOST_SIGNS := PySem.W.mg_of X G m_MOST_SIGNS
    t_MOST_STATES := t_MOST_STATES
    m_MOST_STATES := PySem.W.mg_of X G m_MOST_STATES
    t_MOST_WORD := t_MOST_WORD
    m_MOST_WORD := PySem.W.mg_of X G m_MOST_WORD
  }⟩

theorem walk {l : PySem.W.OpenLaw} {q : Program} {loose : List Str} {XP : (Str → Option Value) → Heap → Prop} {YP : World → Heap → Prop} {d : DefRec} {K : Params → PySem.W.Frag} (hn : l.most = some 63) (hdf : d.params.defaults = [])
    (hY : ∀ (w : World) (h : Heap), YP w h → (K w.params).In h)
    (F : ∀ (w : World) (mg : Str → Option Value) (fa : Addr) (h : Heap), (K w.params).In h → h.Ns mainGlobals mg → mg d.name = some (.ref fa) →
      ∃ fd : FuncData, (∀ (s : Shared) (u : Value), BindsTo s fd ⟨[u], []⟩ [("script", u)]) ∧ ∀ base : Heap, (K w.params).In base → base.Ns mainGlobals mg → FnG l.prog w (K w.params) mg base CX0 7 fa fd ["script"] (sp_law (K w.params))) :
    PySem.W.WalkO q loose XP YP l.row.toRowW d [] (fun f vs => PySem.call f vs) :=
  G.walk_ofG (n := 63) (k := 7) (x := "script") (CX := fun _ => CX0) (sp := sp_law) hn (by decide) hdf ⟨rfl, by decide, by decide⟩ hY F (fun _ _ a ns hl _ hS => ⟨a, ns, rfl, hS, hl, fun _ => rfl⟩) fun _ _ _ _ _ z => z
end K02

open PySem PySem.W PyProof.Rows in
set_option maxRecDepth 100000 in
set_option maxHeartbeats 0 in
theorem PySem.Challenge.cw_rescans_k02_expanders_recognized_holds : PySem.Challenge.rw_rescans_k02_expanders_recognized.Holds := by
  w_on; o_law; k_head; (case hw => w_witness2)
  k_fill
  refine K02.walk (l := PySem.Challenge.rw_rescans_k02_expanders_recognized) rfl rfl (fun w h Y => PySem.W.kIn_of Y) ?F
  case F =>
    intro w mg fa h KX G hmg
    refine' K02.all_mk KX G hmg ?a0 ?l0 ?c0 ?k0 ?a1 ?l1 ?c1 ?k1 ?a2 ?l2 ?c2 ?k2 ?a3 ?l3 ?c3 ?k3 ?a4 ?l4 ?c4 ?k4 ?a5 ?l5 ?c5 ?k5 ?a6 ?l6 ?c6 ?k6 ?a7 ?l7 ?c7 ?k7 ?a8 ?l8 ?c8 ?k8 ?a9 ?l9 ?c9 ?k9 ?a10 ?l10 ?c10 ?k10 ?a11 ?l11 ?c11 ?k11 ?a12 ?l12 ?c12 ?k12 ?a13 ?l13 ?c13 ?k13 ?a14 ?l14 ?c14 ?k14 ?a15 ?l15 ?c15 ?k15 ?a16 ?l16 ?c16 ?k16 ?a17 ?l17 ?c17 ?k17 ?a18 ?l18 ?c18 ?k18 ?a19 ?l19 ?c19 ?k19 ?a20 ?l20 ?c20 ?k20 ?a21 ?l21 ?c21 ?k21 ?a22 ?l22 ?c22 ?k22 ?a23 ?l23 ?c23 ?k23 ?a24 ?l24 ?c24 ?k24 ?z_abs ?z_all ?z_bool ?z_enumerate ?z_int ?z_isinstance ?z_len ?z_list ?z_max ?z_range ?z_repr ?z_set ?z_sorted ?z_str ?z_tuple ?m_LETTERS ?m_MOST_SIGNS ?m_MOST_STATES ?m_MOST_WORD
    (case a0 => k_is)
    (case l0 => k_is)
    (case c0 => k_is)
    (case k0 => k_is)
    (case a1 => k_is)
    (case l1 => k_is)
    (case c1 => k_is)
    (case k1 => k_is)
    (case a2 => k_is)
    (case l2 => k_is)
    (case c2 => k_is)
    (case k2 => k_is)
    (case a3 => k_is)
    (case l3 => k_is)
    (case c3 => k_is)
    (case k3 => k_is)
    (case a4 => k_is)
    (case l4 => k_is)
    (case c4 => k_is)
    (case k4 => k_is)
    (case a5 => k_is)
    (case l5 => k_is)
    (case c5 => k_is)
    (case k5 => k_is)
    (case a6 => k_is)
    (case l6 => k_is)
    (case c6 => k_is)
    (case k6 => k_is)
    (case a7 => k_is)
    (case l7 => k_is)
    (case c7 => k_is)
    (case k7 => k_is)
    (case a8 => k_is)
    (case l8 => k_is)
    (case c8 => k_is)
    (case k8 => k_is)
    (case a9 => k_is)
    (case l9 => k_is)
    (case c9 => k_is)
    (case k9 => k_is)
    (case a10 => k_is)
    (case l10 => k_is)
    (case c10 => k_is)
    (case k10 => k_is)
    (case a11 => k_is)
    (case l11 => k_is)
    (case c11 => k_is)
    (case k11 => k_is)
    (case a12 => k_is)
    (case l12 => k_is)
    (case c12 => k_is)
    (case k12 => k_is)
    (case a13 => k_is)
    (case l13 => k_is)
    (case c13 => k_is)
    (case k13 => k_is)
    (case a14 => k_is)
    (case l14 => k_is)
    (case c14 => k_is)
    (case k14 => k_is)
    (case a15 => k_is)
    (case l15 => k_is)
    (case c15 => k_is)
    (case k15 => k_is)
    (case a16 => k_is)
    (case l16 => k_is)
    (case c16 => k_is)
    (case k16 => k_is)
    (case a17 => k_is)
    (case l17 => k_is)
    (case c17 => k_is)
    (case k17 => k_is)
    (case a18 => k_is)
    (case l18 => k_is)
    (case c18 => k_is)
    (case k18 => k_is)
    (case a19 => k_is)
    (case l19 => k_is)
    (case c19 => k_is)
    (case k19 => k_is)
    (case a20 => k_is)
    (case l20 => k_is)
    (case c20 => k_is)
    (case k20 => k_is)
    (case a21 => k_is)
    (case l21 => k_is)
    (case c21 => k_is)
    (case k21 => k_is)
    (case a22 => k_is)
    (case l22 => k_is)
    (case c22 => k_is)
    (case k22 => k_is)
    (case a23 => k_is)
    (case l23 => k_is)
    (case c23 => k_is)
    (case k23 => k_is)
    (case a24 => k_is)
    (case l24 => k_is)
    (case c24 => k_is)
    (case k24 => k_is)
    (case z_abs => k_is)
    (case z_all => k_is)
    (case z_bool => k_is)
    (case z_enumerate => k_is)
    (case z_int => k_is)
    (case z_isinstance => k_is)
    (case z_len => k_is)
    (case z_list => k_is)
    (case z_max => k_is)
    (case z_range => k_is)
    (case z_repr => k_is)
    (case z_set => k_is)
    (case z_sorted => k_is)
    (case z_str => k_is)
    (case z_tuple => k_is)
    (case m_LETTERS => k_is)
    (case m_MOST_SIGNS => k_is)
    (case m_MOST_STATES => k_is)
    (case m_MOST_WORD => k_is)

