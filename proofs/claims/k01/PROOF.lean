import PyProof.Rows.All
import Wide.All
import OpenK.AllK
import Wide.FinOn
import HandS.ForMost
import HandS.ForExc
import HandS.IsInst
import HandS.StrMore
import PyProof.Rows.StrCut
import PyProof.StrOps2
import PyProof.ListStr
import HandS.Codes
import HandS.ExcInit
import HandS.ExcValue
import HandS.ExcIs
import HandS.ExcField
import HandS.Walk
import PySem.Challenge.RW_rescans_k01_errors_and_words
set_option Elab.async false
set_option linter.all false
set_option maxRecDepth 100000
set_option maxHeartbeats 8000000
/-! A def's promise where it is known that no container is being shown (guards): repr of containers can be told then. -/
namespace G
open PySem PySem.Spec PyProof.Rows L2

/-- as FnOk, but asked only where nothing is being shown -/
structure FnG (P : Program) (w : World) (K : PySem.W.Frag) (mg : Str → Option Value) (base : Heap) (CX : CXT) (k : Nat)
    (f : Addr) (fd : FuncData) (ps : List Str) (sp : Sp) : Prop where
  len : ∀ vs H Q E, sp vs H Q E → vs.length = ps.length
  run : ∀ (A : Around) (outer : List Env) (s : Shared) (H : Hp) (args : Args) (us : List Value) (vs : List V) (Q : VK) (E : XK),
    A.guards = some [] → Room k A → Env0 P w K mg base A outer s H → BindsTo s fd args (ps.zip us) → Vals vs us → sp vs H Q E →
      codeAny (model P w) A (.call (.ref f) args) (CR CX outer P w H s Q E) s

theorem _root_.L2.FnOk.g {P w K mg base CX k f fd ps sp} (F : FnOk P w K mg base CX k f fd ps sp) : FnG P w K mg base CX k f fd ps sp :=
  ⟨F.len, fun A outer s H args us vs Q E _ => F.run A outer s H args us vs Q E⟩

theorem FnG.imp {P w K mg base CX k f fd ps sp sp'} (F : FnG P w K mg base CX k f fd ps sp)
    (h : ∀ vs H Q E, sp' vs H Q E → sp vs H Q E) : FnG P w K mg base CX k f fd ps sp' :=
  ⟨fun vs H Q E q => F.len _ _ _ _ (h _ _ _ _ q), fun A o s H ar us vs Q E g r e b v q => F.run A o s H ar us vs Q E g r e b v (h _ _ _ _ q)⟩

section
variable {X : Cx} {CX : CXT} {k : Nat} {f : Addr} {fd : FuncData} {ps : List Str} {sp : Sp} {dvs : List V} {ds : List Value} {E : XK} {x : Str} {p pos : Pos} {e : Expr} {es : List Expr} {t : TA}

theorem run_fnG {pins σ H s Q us vs} (F : FnG X.prog X.w X.K X.mg X.base CX k f fd ps sp) (gd : X.A.guards = some []) (hr : Room k X.A)
    (hb : Binds X.K fd ps ds) (hd : Vals dvs ds) (hx : Passes CX X E) (I : Inv X pins σ H s) (r : Vals vs us) (h : sp (vs ++ dvs) H Q E) :
    wpAny (model X.prog X.w) X.A (call (.ref f) us) (EP X pins σ Q) X.xe s := by
  have rr := r.append hd
  have ll : (us ++ ds).length = ps.length := rr.length ▸ F.len _ _ _ _ h
  refine wpAny_call (codeAny_mono (F.run _ _ _ _ ⟨us, []⟩ _ _ Q E gd hr I.env0 (hb s us I.kIn ll) rr h) ?_)
  intro res t' hq
  cases res with
  | error er => exact hx pins σ H s er t' I hq
  | ok fl =>
    cases fl with
    | ret u => exact I.after hq
    | next => exact (show False from hq).elim
    | brk => exact (show False from hq).elim
    | cont => exact (show False from hq).elim

theorem pe_callG (F : FnG X.prog X.w X.K X.mg X.base CX k f fd ps sp) (gd : X.A.guards = some []) (hr : Room k X.A) (hg : Gl X x)
    (hm : X.mg x = some (.ref f)) (hk : PySem.W.keepIn X.K (.ref f) = true) (hb : Binds X.K fd ps ds) (hd : Vals dvs ds) (hx : Passes CX X E)
    (ha : PA X (e :: es) t) (hdb : (x == ("__debug__" : Str)) = false := by decide)
    (he : starEach (e :: es) X.env = (false, eval e X.env) :: starEach es X.env := by rfl)
    (hpl : (backTo pos (starEach es X.env)).any (·.1) = false := by rfl) :
    PE X (.Call (.Name x p) (e :: es) [] pos) (tCall sp dvs E t) := by
  constructor
  intro pins s σ H Q I h
  refine wpAny_Call_Name_kw (ld_glob I hg hm ?_ hdb)
  refine PySem.W.callWith_K (h₀ := X.base) I.ok.mod.kin hk ?_ he hpl
  refine thn (ha.run pos pins s σ H _ I h) ?_
  rintro us s1 ⟨vs, H1, I1, r, q⟩
  exact ⟨I1.kIn, run_fnG F gd hr hb hd hx I1 r q⟩

theorem pe_callG0 (F : FnG X.prog X.w X.K X.mg X.base CX k f fd ps sp) (gd : X.A.guards = some []) (hr : Room k X.A) (hg : Gl X x)
    (hm : X.mg x = some (.ref f)) (hk : PySem.W.keepIn X.K (.ref f) = true) (hb : Binds X.K fd ps ds) (hd : Vals dvs ds) (hx : Passes CX X E)
    (hdb : (x == ("__debug__" : Str)) = false := by decide) : PE X (.Call (.Name x p) [] [] pos) (tCall sp dvs E tNil) := by
  constructor
  intro pins s σ H Q I h
  refine wpAny_Call_Name_kw (ld_glob I hg hm ?_ hdb)
  exact PySem.W.callWith_K0 I.kIn hk (run_fnG (us := []) F gd hr hb hd hx I .nil h)
end

/-- a def by its body, where nothing is being shown -/
theorem fn_ofG {CX : CXT} {P : Program} {w : World} {K : PySem.W.Frag} {mg : Str → Option Value} {base : Heap} {k : Nat} {f : Addr} {name qual : Str}
    {params : Arguments} {body : List Stmt} {scope : Scope} {dV kV doc pm cdv ct oc : Value} {an od : Option Addr} {osl : Array (Option Value)} {N ps : List Str} {sp : Sp}
    (lk : K.lookup f = some ⟨oc, od, .func (PySem.W.fnOf name qual params body scope dV kV doc pm an cdv ct), osl⟩)
    (hcd : PySem.W.codeIn K cdv qual = true) (S : FnScope N ps scope) (len : ∀ vs H Q E, sp vs H Q E → vs.length = ps.length)
    (hbody : ∀ (A : Around) (outer : List Env) (s : Shared) (H : Hp) (vs : List V) (Q : VK) (E : XK), A.guards = some [] →
      Room k (A.deeper (envOfC qual scope s.heap.objs.size f cdv)) → sp vs H Q E →
      ∃ t, PSs (cxOf CX P w K mg base N qual scope f cdv A outer s H E) body t ∧ t { nx := fun _ H' => Q .non H', rt := Q } (start N vs) H) :
    FnG P w K mg base CX (k + 1) f (PySem.W.fnOf name qual params body scope dV kV doc pm an cdv ct) ps sp := by
  refine ⟨len, ?_⟩
  intro A outer s H args us vs Q E gd hr e0 hb r hsp
  have inK : K.In s.heap := e0.mod.kin.keeps fun b o q => (e0.bs b o q).1
  have nolim : s.heap.NoLimit := e0.mod.nolimit.keeps fun b o q => (e0.bs b o q).1
  refine codeAny_call_function hr.depth (inK _ _ lk) rfl S.co S.gen rfl (PySem.W.codeRec_of inK hcd) (hb _ _ _ _ ?_)
  refine wpAny_newFunctionEnv_cells S.kind ?_ ?_
  · rintro ⟨n, v⟩ hy
    have q := S.par n (List.of_mem_zip hy).1
    exact q.imp id fun z => ⟨z, PySem.W.cellsFrom_some _ _ _ (.inl z)⟩
  · rintro env rfl s1 x
    refine ⟨nolim.keeps x.toInCall.keep, codeAny_func ?_⟩
    obtain ⟨t, ht, hq⟩ := hbody A outer s H vs Q E gd (hr.deeper _) hsp
    have I := inv_start (CX := CX) (E := E) (mg := mg) (base := base) S hr.hd e0 (len _ _ _ _ hsp) r x
    refine wpAny_mono (ht.run [] s1 _ H _ I hq) ?_ fun _ _ z => z
    intro fl s' hs
    have fin : ∀ {σ' : L2.St} {H' : Hp} {v : V} {u : Value}, Inv (cxOf CX P w K mg base N qual scope f cdv A outer s H E) [] σ' H' s' →
        RelV v u → Q v H' → CE outer P w H s Q u s' := by
      intro σ' H' v u J rv z
      exact ⟨v, H', J.os, J.bare, J.base, J.hok, rv, z⟩
    cases fl with
    | ret u =>
      obtain ⟨v, σ', H', J, rv, z⟩ := hs
      exact fin J rv z
    | next =>
      obtain ⟨σ', H', J, z⟩ := hs
      exact fin (v := V.non) (u := Value.none) J rfl z
    | brk =>
      obtain ⟨_, _, _, z⟩ := hs
      exact False.elim z
    | cont =>
      obtain ⟨_, _, _, z⟩ := hs
      exact False.elim z

theorem _root_.L2.Fun.okG {P w K mg base} {x qual : Str} {st : Stmt} {f : Addr} {fd : FuncData} {N ps : List Str} {k : Nat} {sp : Sp} (F : Fun K x qual st f fd)
    (S : FnScope N ps (defScope st)) (len : ∀ vs H Q E, sp vs H Q E → vs.length = ps.length)
    (hbody : ∀ (cdv : Value) (A : Around) (outer : List Env) (s : Shared) (H : Hp) (vs : List V) (Q : VK) (E : XK), A.guards = some [] →
      Room k (A.deeper (envOfC qual (defScope st) s.heap.objs.size f cdv)) → sp vs H Q E →
      ∃ t, PSs (cxOf CX0 P w K mg base N qual (defScope st) f cdv A outer s H E).nox (defBody st) t ∧ t { nx := fun _ H' => Q .non H', rt := Q } (start N vs) H) :
    FnG P w K mg base CX0 (k + 1) f fd ps sp := by
  obtain ⟨oc, od, kV, doc, pm, an, cdv, ct, osl, rfl, lk, hcd⟩ := F.ex
  refine fn_ofG lk hcd S len ?_
  intro A outer s H vs Q E gd hr hsp
  obtain ⟨t, h, q⟩ := hbody cdv A outer s H vs Q E gd hr hsp
  exact ⟨t, h.nox, q⟩

theorem _root_.L2.Fun.okXG {P w K mg base} {x qual : Str} {st : Stmt} {f : Addr} {fd : FuncData} {N ps : List Str} {k : Nat} {sp : Sp} (F : Fun K x qual st f fd)
    (S : FnScope N ps (defScope st)) (len : ∀ vs H Q E, sp vs H Q E → vs.length = ps.length)
    (hbody : ∀ (cdv : Value) (A : Around) (outer : List Env) (s : Shared) (H : Hp) (vs : List V) (Q : VK) (E : XK), A.guards = some [] →
      Room k (A.deeper (envOfC qual (defScope st) s.heap.objs.size f cdv)) → sp vs H Q E →
      ∃ t, PSs (cxOf (L2.CX P w) P w K mg base N qual (defScope st) f cdv A outer s H E) (defBody st) t ∧ t { nx := fun _ H' => Q .non H', rt := Q } (start N vs) H) :
    FnG P w K mg base (L2.CX P w) (k + 1) f fd ps sp := by
  obtain ⟨oc, od, kV, doc, pm, an, cdv, ct, osl, rfl, lk, hcd⟩ := F.ex
  exact fn_ofG lk hcd S len fun A outer s H vs Q E gd hr hsp => hbody cdv A outer s H vs Q E gd hr hsp

/-! ### the law's own call -/
theorem law_callG {P : Program} {w : World} {K : PySem.W.Frag} {mg mb : Str → Option Value} {CX : CXT} {k : Nat} {fa a : Addr} {fd : FuncData} {x : Str} {sp : Sp}
    {z : Shared} {vs : List Value} {ns : List Int} (inK : K.In z.heap) (hns : z.heap.Ns mainGlobals mg) (hb : z.heap.Ns builtinsNs mb)
    (hbb : ∀ y : Str, y ≠ "__name__" → mb y = bootBuiltins y) (nolim : z.heap.NoLimit) (hgen : z.gens = #[])
    (ha : z.heap.get? a = some { cls := .type "list", data := .seq vs.toArray }) (hi : IntsAre vs ns) (hl : ns.length ≤ sizeLine) (hr : Room k callerA)
    (F : ∀ base : Heap, K.In base → base.Ns mainGlobals mg → FnG P w K mg base CX k fa fd [x] sp)
    (hbind : ∀ (s : Shared) (u : Value), BindsTo s fd ⟨[u], []⟩ [(x, u)])
    (hsp : ∀ H : Hp, Only H → SqL K H a (ns.map V.int) → sp [.ref a] H (fun v _ => v = .bl true) fun _ _ _ => False)
    (hCX : ∀ H e s', CX [] H z (fun _ _ _ => False) e s' → False) :
    codeAny (model P w) callerA (.call (.ref fa) ⟨[.ref a], []⟩) (fun r s' => r = .ok (.ret (.bool true)) ∧ OldK z.heap s'.heap ∧ s'.os = z.os ∧ AllBare s'.gens) z := by
  have rv := vals_ints hi
  have lv := hi.length
  have main : ∀ H : Hp, Only H → SqL K H a (ns.map V.int) → HOk P w H z.heap → (∀ b, H b ≠ none → b = a) → (H a ≠ none → K.lookup a = none) →
      codeAny (model P w) callerA (.call (.ref fa) ⟨[.ref a], []⟩) (fun r s' => r = .ok (.ret (.bool true)) ∧ OldK z.heap s'.heap ∧ s'.os = z.os ∧ AllBare s'.gens) z := by
    intro H only hS ok at_a free_a
    have nd : ∀ {b : Addr} {o : Obj} {es : Array DictEntry} {ep : Nat}, z.heap.get? b = some o → o.data = .dict es ep → H b = none := by
      intro b o es ep e d
      refine Option.eq_none_iff_forall_ne_some.mpr fun u q => ?_
      obtain rfl : b = a := at_a b (q ▸ Option.some_ne_none u)
      rw [ha] at e
      cases e
      cases (show Data.seq vs.toArray _ = Data.dict es ep from d)
    have ns_of : ∀ {b : Addr} {m : Str → Option Value}, z.heap.Ns b m → (hidT z.heap H).Ns b m := by
      rintro b m ⟨o, es, ep, e, d, r⟩
      exact ⟨o, es, ep, hidT_get e (nd e d), d, r⟩
    have inB : K.In (hidT z.heap H) := by
      intro b o e
      refine hidT_get (inK b o e) (Option.eq_none_iff_forall_ne_some.mpr fun u q => ?_)
      obtain rfl : b = a := at_a b (q ▸ Option.some_ne_none u)
      rw [free_a (q ▸ Option.some_ne_none u)] at e
      cases e
    obtain ⟨mc, l1, l2⟩ := nolim
    have hM : Mod K mg (hidT z.heap H) := ⟨inB, ns_of hns, ⟨mb, ns_of hb, hbb⟩, ⟨mc, ns_of l1, l2⟩⟩
    have e0 : Env0 P w K mg (hidT z.heap H) callerA [] z H :=
      ⟨rfl, hM, fun b o e => of_hidT e, Nat.le_of_eq (hidT_size _ _), trivial, fun b hb => (List.not_mem_nil hb).elim, ok, .of_eq hgen⟩
    refine codeAny_mono ((F _ inB (ns_of hns)).run callerA [] z H _ [.ref a] [.ref a] _ _ rfl hr e0 (hbind z (.ref a)) (.cons rfl .nil) (hsp H only hS)) ?_
    intro r s' h
    cases r with
    | error e => exact (hCX H e s' h).elim
    | ok fl =>
     cases fl with
     | next => exact (show False from h).elim
     | brk => exact (show False from h).elim
     | cont => exact (show False from h).elim
     | ret u =>
      obtain ⟨v, H', os, bare, un, hok', r', q⟩ := h
      obtain rfl : v = .bl true := q
      obtain rfl : u = Value.bool true := r'
      refine ⟨rfl, OldK.of_keep fun b o e => ?_, os, bare⟩
      cases q : H b with
      | none => exact un.keep b o e q List.not_mem_nil List.not_mem_nil
      | some u =>
        rcases only b with y | ⟨ob, xs, y⟩
        · exact absurd (q.symm.trans y) (Option.some_ne_none u)
        · obtain ⟨e1, _⟩ := ok b _ y
          obtain ⟨e2, _⟩ := hok' b _ (un.frzs b ob _ y)
          rw [e] at e1
          cases e1
          exact e2
  cases hk : K.lookup a with
  | some o =>
    have e := inK a o hk
    rw [ha] at e
    cases e
    refine main (fun _ => none) (fun _ => .inl rfl) (.inr ⟨_, vs.toArray, _, hk, rfl, rfl, rfl, ?_, by simpa using rv⟩) (fun b u q => nomatch q) (fun b q => absurd rfl q) fun q => absurd rfl q
    rw [List.size_toArray, lv]
    exact hl
  | none =>
    have here : (fun b => if b = a then some (HO.frz { cls := .type "list", data := .seq vs.toArray } (.lst (ns.map V.int))) else none) a =
        some (HO.frz { cls := .type "list", data := .seq vs.toArray } (.lst (ns.map V.int))) := if_pos rfl
    refine main (fun b => if b = a then some (.frz { cls := .type "list", data := .seq vs.toArray } (.lst (ns.map V.int))) else none) ?_ (.inl (.inr ⟨_, here⟩)) ?_ ?_ fun _ => hk
    · intro b
      by_cases hb : b = a
      · exact .inr ⟨_, _, if_pos hb⟩
      · exact .inl (if_neg hb)
    · intro b u q
      by_cases hb : b = a
      · cases (if_pos hb).symm.trans q
        subst hb
        exact ⟨ha, by rw [List.length_map]; exact hl, vs, _, rv, ha⟩
      · cases (if_neg hb).symm.trans q
    · intro b q
      by_cases hb : b = a
      · exact hb
      · exact absurd (if_neg hb) q

theorem walk_ofG {l : PySem.W.OpenLaw} {n k : Nat} {q : Program} {loose : List Str} {XP : (Str → Option Value) → Heap → Prop} {YP : World → Heap → Prop} {d : DefRec}
    {K : Params → PySem.W.Frag} {CX : World → CXT} {sp : PySem.W.Frag → Sp} {x : Str} (hn : l.most = some n) (hn2 : n ≤ sizeLine) (hdf : d.params.defaults = [])
    (hr : Room k callerA) (hY : ∀ (w : World) (h : Heap), YP w h → (K w.params).In h)
    (F : ∀ (w : World) (mg : Str → Option Value) (fa : Addr) (h : Heap), (K w.params).In h → h.Ns mainGlobals mg → mg d.name = some (.ref fa) →
      ∃ fd : FuncData, (∀ (s : Shared) (u : Value), BindsTo s fd ⟨[u], []⟩ [(x, u)]) ∧
        ∀ base : Heap, (K w.params).In base → base.Ns mainGlobals mg → FnG l.prog w (K w.params) mg base (CX w) k fa fd [x] (sp (K w.params)))
    (hsp : ∀ (K : PySem.W.Frag) (H : Hp) (a : Addr) (ns : List Int), ns.length ≤ n → Only H → SqL K H a (ns.map V.int) →
      sp K [.ref a] H (fun v _ => v = .bl true) fun _ _ _ => False)
    (hCX : ∀ (w : World) (H : Hp) (s : Shared) (e : Value) (s' : Shared), CX w [] H s (fun _ _ _ => False) e s' → False) :
    PySem.W.WalkO q loose XP YP l.row.toRowW d [] (fun f vs => PySem.call f vs) := by
  refine Att.attach_call hn hdf ?_
  intro w s₀ s₁ mg mb fa o pm cd doc a vs ns G Y ho hd hcd hmg hobj hints hlen hg
  obtain ⟨fd, hb, hF⟩ := F w mg fa _ (hY w _ Y) G.T.g hmg
  exact law_callG (hY w _ Y) G.T.g G.T.b G.T.builtins G.T.nolimit hg hobj hints (Nat.le_trans hlen hn2) hr hF hb (fun H h1 h2 => hsp _ H a ns hlen h1 h2) fun H e s' => hCX w H s₁ e s'

end G

/-! Data of any depth (empty dicts too), the heap without one mutable list (the pot), repr of data. -/
namespace Lk
open PySem PySem.Spec PyProof.Rows L2 G

/-! ### the heap without the pot -/
def sans (H : Hp) (a : Addr) : Hp := fun b => if b = a then none else H b
theorem sans_ne {H : Hp} {a b : Addr} (h : b ≠ a) : sans H a b = H b := if_neg h
theorem sans_self {H : Hp} {a : Addr} : sans H a a = none := if_pos rfl
theorem sans_some {H : Hp} {a b : Addr} {o : HO} (h : sans H a b = some o) : b ≠ a ∧ H b = some o := by
  by_cases e : b = a
  · subst e
    rw [sans_self] at h
    cases h
  · exact ⟨e, (sans_ne e).symm.trans h⟩
theorem sans_of {H : Hp} {a b : Addr} {o : HO} (h : b ≠ a) (e : H b = some o) : sans H a b = some o := (sans_ne h).trans e
theorem sans_same {H : Hp} {a : Addr} : Same (sans H a) H := fun _ _ h => (sans_some h).2
/-- all but the pot stands as it stood -/
def Sm (a : Addr) (H H' : Hp) : Prop := Same (sans H a) (sans H' a)
theorem Sm.refl {a H} : Sm a H H := Same.refl _
theorem Sm.trans {a H H1 H2} (x : Sm a H H1) (y : Sm a H1 H2) : Sm a H H2 := Same.trans x y
theorem Sm.of {a H H'} (x : Same H H') : Sm a H H' := fun b o h => by
  obtain ⟨n, e⟩ := sans_some h
  exact sans_of n (x b o e)
theorem same_new {H : Hp} {p : Addr} {o : HO} (h : H p = none) : Same H (upd H p o) := fun b u e => (upd_ne (ne_of_none e h)).trans e
theorem Sm.new {a : Addr} {H : Hp} {p : Addr} {o : HO} (h : H p = none) : Sm a H (upd H p o) := Sm.of (same_new h)
theorem Sm.pot {a : Addr} {H : Hp} {o : HO} : Sm a H (upd H a o) := fun b u h => by
  obtain ⟨n, e⟩ := sans_some h
  exact sans_of n ((upd_ne n).trans e)
theorem Sm.upd {a : Addr} {H H' : Hp} {p : Addr} {o : HO} (s : Sm a H H') (h : sans H a p = none) : Sm a H (upd H' p o) := fun b u e => by
  have q := s b u e
  obtain ⟨n, q'⟩ := sans_some q
  have nb : b ≠ p := fun z => by
    rw [z, h] at e
    cases e
  exact sans_of n ((upd_ne nb).trans q')
theorem Sm.same {a H H'} (x : Sm a H H') : Same (sans H a) H' := Same.trans x sans_same

/-! ### reading under Same -/
theorem rd_mono {H H' : Hp} (s : Same H H') {a : Addr} {u : HO} (h : Rd H a u) : Rd H' a u := h.imp (s _ _) fun ⟨o, e⟩ => ⟨o, s _ _ e⟩
theorem seqL {K : PySem.W.Frag} {H H' : Hp} (s : Same H H') {a : Addr} {xs : List V} (h : SqL K H a xs) : SqL K H' a xs := h.imp (rd_mono s) id
theorem seqT {K : PySem.W.Frag} {H H' : Hp} (s : Same H H') {a : Addr} {xs : List V} (h : SqT K H a xs) : SqT K H' a xs := h.imp (rd_mono s) id

/-! ### data -/
mutual
inductive Dq (K : PySem.W.Frag) (H : Hp) : V → PyData → Prop
  | non : Dq K H .non .none
  | bl (b : Bool) : Dq K H (.bl b) (.bool b)
  | int (i : Int) : Dq K H (.int i) (.int i)
  | str (x : Str) : Dq K H (.str x) (.str x)
  | lst {a : Addr} {xs : List V} {ds : List PyData} : SqL K H a xs → DqAll K H xs ds → Dq K H (.ref a) (.list ds)
  | tup {a : Addr} {xs : List V} {ds : List PyData} : SqT K H a xs → DqAll K H xs ds → Dq K H (.ref a) (.tuple ds)
  | emp {a : Addr} : H a = some (.dK []) → Dq K H (.ref a) (.dict [])
inductive DqAll (K : PySem.W.Frag) (H : Hp) : List V → List PyData → Prop
  | nil : DqAll K H [] []
  | cons {v : V} {vs : List V} {d : PyData} {ds : List PyData} : Dq K H v d → DqAll K H vs ds → DqAll K H (v :: vs) (d :: ds)
end
mutual
theorem Dq.mono {K : PySem.W.Frag} {H H' : Hp} (s : Same H H') : ∀ {v : V} {d : PyData}, Dq K H v d → Dq K H' v d
  | _, _, .non => .non
  | _, _, .bl b => .bl b
  | _, _, .int i => .int i
  | _, _, .str x => .str x
  | _, _, .lst h t => .lst (seqL s h) (DqAll.mono s t)
  | _, _, .tup h t => .tup (seqT s h) (DqAll.mono s t)
  | _, _, .emp h => .emp (s _ _ h)
theorem DqAll.mono {K : PySem.W.Frag} {H H' : Hp} (s : Same H H') : ∀ {vs : List V} {ds : List PyData}, DqAll K H vs ds → DqAll K H' vs ds
  | _, _, .nil => .nil
  | _, _, .cons h t => .cons (Dq.mono s h) (DqAll.mono s t)
end
theorem DqAll.length {K : PySem.W.Frag} {H : Hp} : ∀ {vs : List V} {ds : List PyData}, DqAll K H vs ds → vs.length = ds.length
  | _, _, .nil => rfl
  | _, _, .cons _ t => congrArg (· + 1) t.length
theorem DqAll.get {K : PySem.W.Frag} {H : Hp} : ∀ {vs : List V} {ds : List PyData} {i : Nat} {v : V}, DqAll K H vs ds → vs[i]? = some v → ∃ d, ds[i]? = some d ∧ Dq K H v d
  | _, _, _, _, .nil, e => by simp at e
  | _, _, 0, _, .cons h _, e => by
    obtain rfl := Option.some.inj e
    exact ⟨_, rfl, h⟩
  | _, _, i + 1, _, .cons _ t, e => DqAll.get (i := i) t e
theorem DqAll.append {K : PySem.W.Frag} {H : Hp} : ∀ {vs ws : List V} {ds es : List PyData}, DqAll K H vs ds → DqAll K H ws es → DqAll K H (vs ++ ws) (ds ++ es)
  | _, _, _, _, .nil, s => s
  | _, _, _, _, .cons h t, s => .cons h (t.append s)
theorem DqAll.take {K : PySem.W.Frag} {H : Hp} : ∀ {vs : List V} {ds : List PyData} (n : Nat), DqAll K H vs ds → DqAll K H (vs.take n) (ds.take n)
  | _, _, 0, _ => .nil
  | _, _, _ + 1, .nil => .nil
  | _, _, n + 1, .cons h t => .cons h (t.take n)
theorem DqAll.drop {K : PySem.W.Frag} {H : Hp} : ∀ {vs : List V} {ds : List PyData} (n : Nat), DqAll K H vs ds → DqAll K H (vs.drop n) (ds.drop n)
  | _, _, 0, h => h
  | _, _, _ + 1, .nil => .nil
  | _, _, n + 1, .cons _ t => t.drop n
theorem DqAll.rep {K : PySem.W.Frag} {H : Hp} {v : V} {d : PyData} (h : Dq K H v d) : ∀ n, DqAll K H (List.replicate n v) (List.replicate n d)
  | 0 => .nil
  | n + 1 => .cons h (DqAll.rep h n)

/-! ### the type of data -/
def tyName : PyData → String
  | .none => "NoneType"
  | .bool _ => "bool"
  | .int _ => "int"
  | .str _ => "str"
  | .list _ => "list"
  | .tuple _ => "tuple"
  | .dict _ => "dict"
theorem tyx_seqL {K : PySem.W.Frag} {H : Hp} {a : Addr} {xs : List V} (h : SqL K H a xs) : TyX K H (.ref a) (.type "list") := by
  rcases h with (h | ⟨o, h⟩) | ⟨o, _, _, h, hc, _⟩
  · exact .base (.lst h)
  · exact .base (.frz h)
  · exact .kList h hc
theorem tyx_seqT {K : PySem.W.Frag} {H : Hp} {a : Addr} {xs : List V} (h : SqT K H a xs) : TyX K H (.ref a) (.type "tuple") := by
  rcases h with (h | ⟨o, h⟩) | ⟨o, _, _, h, hc, _⟩
  · exact .base (.tup h)
  · exact .fTuple h
  · exact .kTuple h hc
theorem Dq.ty {K : PySem.W.Frag} {H : Hp} {v : V} {d : PyData} (h : Dq K H v d) : TyX K H v (.type (tyName d)) := by
  cases h with
  | non => exact .base .non
  | bl b => exact .base (.bl b)
  | int i => exact .base (.int i)
  | str x => exact .base (.str x)
  | lst h _ => exact tyx_seqL h
  | tup h _ => exact tyx_seqT h
  | emp h => exact .base (.dK h)
/-- isinstance(x, T) of data, T a built-in class -/
def isA (T : String) (d : PyData) : Bool := (kitB (tyName d) T).getD false
theorem Dq.isi {K : PySem.W.Frag} {H : Hp} {v : V} {d : PyData} {T : String} {Q : VK} (h : Dq K H v d) (k : (kitB (tyName d) T).isSome = true) (q : Q (.bl (isA T d)) H) :
    rIsi K [v, .ty T] H Q := by
  obtain ⟨b, e⟩ := Option.isSome_iff_exists.mp k
  have eb : isA T d = b := by
    unfold isA
    rw [e]
    exact rfl
  rw [eb] at q
  exact ⟨v, .ty T, _, _, b, rfl, .ty T, h.ty, kit_ty e, q⟩

/-! ### repr of data -/
mutual
def hasList : PyData → Bool
  | .list _ => true
  | .tuple xs => hasListAll xs
  | _ => false
def hasListAll : List PyData → Bool
  | [] => false
  | x :: xs => hasList x || hasListAll xs
end
section
variable {X : Cx} {pins : List (Addr × Obj)} {σ : L2.St} {H : Hp} {s : Shared}
mutual
theorem Dq.reads (I : Inv X pins σ H s) : ∀ (d : PyData) (v : V) (u : Value), Dq X.K H v d → RelV v u → ∃ as, Reads s.heap u d as ∧ (hasList d = false → sysModules ∉ as)
  | .none, _, _, h, r => by
    cases h
    cases r
    exact ⟨_, Reads.none, fun _ => List.not_mem_nil⟩
  | .bool b, _, _, h, r => by
    cases h
    cases r
    exact ⟨_, Reads.bool b, fun _ => List.not_mem_nil⟩
  | .int i, _, _, h, r => by
    cases h
    obtain ⟨t, rfl⟩ := r
    exact ⟨_, Reads.int i t, fun _ => List.not_mem_nil⟩
  | .str x, _, _, h, r => by
    cases h
    obtain ⟨t, rfl⟩ := r
    exact ⟨_, Reads.str x t, fun _ => List.not_mem_nil⟩
  | .list ds, _, _, h, r => by
    cases h with
    | lst hs ha =>
      cases r
      obtain ⟨its, rv, ⟨o, n, ho, hc, _, hd⟩, _⟩ := I.list hs
      obtain ⟨as, hr, _⟩ := DqAll.reads I ds _ its ha rv
      exact ⟨_, Reads.list ho hc hd hr, fun q => by
        unfold hasList at q
        cases q⟩
  | .tuple ds, _, _, h, r => by
    cases h with
    | tup hs ha =>
      cases r
      obtain ⟨its, rv, ⟨o, ho, hc, n, hd⟩, _⟩ := I.tuple hs
      obtain ⟨as, hr, hm⟩ := DqAll.reads I ds _ its ha rv
      exact ⟨_, Reads.tuple ho hc hd hr, fun q => hm (by
        unfold hasList at q
        exact q)⟩
  | .dict kvs, _, _, h, r => by
    cases h with
    | emp he =>
      cases r
      obtain ⟨_, ns, vs, kv, o, es, ep, ho, hx, hd, _, hp, _⟩ := I.hok _ _ he
      cases kv
      have en : es.toList = [] := List.eq_nil_of_length_eq_zero (by
        rw [hp.length]
        exact rfl)
      refine ⟨_, Reads.dict (as := []) (bs := []) ho hx.1 hd (by
        rw [en]
        exact .nil) (by
        rw [en]
        exact .nil), fun _ => ?_⟩
      intro z
      have z' : sysModules ∈ [_] := z
      rw [List.mem_singleton] at z'
      rw [← z'] at ns
      simp at ns
theorem DqAll.reads (I : Inv X pins σ H s) : ∀ (ds : List PyData) (vs : List V) (us : List Value), DqAll X.K H vs ds → Vals vs us → ∃ as, ReadsAll s.heap us ds as ∧ (hasListAll ds = false → sysModules ∉ as)
  | [], _, _, h, r => by
    cases h
    cases r
    exact ⟨_, ReadsAll.nil, fun _ => List.not_mem_nil⟩
  | d :: ds, _, _, h, r => by
    cases h with
    | cons h1 h2 =>
      cases r with
      | cons r1 r2 =>
        obtain ⟨as, q1, m1⟩ := Dq.reads I d _ _ h1 r1
        obtain ⟨bs, q2, m2⟩ := DqAll.reads I ds _ _ h2 r2
        refine ⟨_, ReadsAll.cons q1 q2, fun q => ?_⟩
        unfold hasListAll at q
        rw [Bool.or_eq_false_iff] at q
        intro z
        rcases List.mem_append.mp z with z | z
        · exact m1 q.1 z
        · exact m2 q.2 z
end
end
/-- what repr is asked of here: shallow enough, short enough, no list and dict together -/
def ReprOk (d : PyData) : Prop := d.showable = true ∧ (d.hasDict = true → hasList d = false) ∧ d.depth ≤ 60 ∧ d.shown.length ≤ sizeLine
def rRepr (K : PySem.W.Frag) : List V → Hp → VK → Prop := fun xs H Q => ∃ v d, xs = [v] ∧ Dq K H v d ∧ ReprOk d ∧ Q (.str d.shown) H
theorem call_repr_data {X : Cx} (gd : X.A.guards = some []) (hu : X.A.units + 64 < cLine) : CallR X (.builtin "repr") (rRepr X.K) := by
  intro pins s σ H xs us Q I r h
  obtain ⟨v, d, rfl, hd, ⟨hs, hl, h60, hz⟩, q⟩ := h
  obtain ⟨u, rfl, rv⟩ : ∃ u, us = [u] ∧ RelV v u := by
    cases r with
    | cons a b =>
      cases b
      exact ⟨_, rfl, a⟩
  have fin : ∀ (h' : Heap) (t t' : Nat), (∀ b o, s.heap.get? b = some o → h'.get? b = some o) → EP X pins σ Q (.str d.shown t) { s with heap := h', toks := t' } :=
    fun h' t t' k => ⟨.str d.shown, H, I.kept k, ⟨t, rfl⟩, q⟩
  have big : ∀ a, u = .ref a → wpAny (model X.prog X.w) X.A (call (.builtin "repr") [u]) (EP X pins σ Q) X.xe s := by
    rintro a rfl
    obtain ⟨as, hr, hm⟩ := Dq.reads I d v _ hd rv
    exact repr_of_reads' hr hs (fun z => hm (hl z)) gd (by omega) (fun _ _ e => e) (fun h' t tk k => fin h' t tk k) hz
  cases hd with
  | non =>
    cases rv
    exact PySem.P.repr_of_none (fin s.heap _ _ fun _ _ e => e)
  | bl b =>
    cases rv
    refine PySem.P.repr_of_bool (b := b) ?_
    have e : (if b = true then ("True" : Str) else "False") = PyData.shown (.bool b) := by
      unfold PyData.shown
      exact rfl
    have f := fin s.heap s.toks (s.toks + 1) fun _ _ e => e
    rw [← e] at f
    exact f
  | int i =>
    obtain ⟨t, rfl⟩ := rv
    refine PySem.P.repr_of_int (a := i) (by
      unfold PyData.showable at hs
      exact of_decide_eq_true hs) ?_
    have f := fin s.heap s.toks (s.toks + 1) fun _ _ e => e
    unfold PyData.shown at f
    exact f
  | str x =>
    obtain ⟨t, rfl⟩ := rv
    unfold PyData.shown at hz
    refine PySem.P.repr_of_str (x := x) ?_ hz
    have f := fin s.heap s.toks (s.toks + 1) fun _ _ e => e
    unfold PyData.shown at f
    exact f
  | lst h1 h2 => exact big _ rv
  | tup h1 h2 => exact big _ rv
  | emp h1 => exact big _ rv
end Lk

/-! Texts: signs of a text as values, list of a text, a text repeated, strip. -/
namespace Lk
open PySem PySem.Spec PyProof.Rows L2 G PySem.Builtin.Str PySem.Builtin

/-- a text by its codes -/
abbrev tx (l : List Nat) : Str := ⟨l.toArray⟩
theorem tx_of (x : Str) : x = tx x.cps.toList := rfl
theorem tx_inj {a b : List Nat} (h : tx a = tx b) : a = b := by
  have := congrArg (fun s : Str => s.cps.toList) h
  simpa using this
theorem str_ext {x y : Str} (h : x.cps.toList = y.cps.toList) : x = y := by
  cases x
  cases y
  simp at h
  subst h
  rfl
/-- a text's signs, as values -/
def sg (z : Str) : List V := z.cps.toList.map fun c => V.str ⟨#[c]⟩
theorem sg_len (z : Str) : (sg z).length = z.length := by
  unfold sg
  rw [List.length_map]
  exact rfl

theorem vals_of_get : ∀ {xs : List V} {us : List Value}, xs.length = us.length → (∀ (i : Nat) (x : V) (u : Value), xs[i]? = some x → us[i]? = some u → RelV x u) → Vals xs us
  | [], [], _, _ => .nil
  | _ :: _, [], h, _ => by simp at h
  | [], _ :: _, h, _ => by simp at h
  | x :: xs, u :: us, h, k => .cons (k 0 x u rfl rfl) (vals_of_get (by simpa using h) fun i a b e f => k (i + 1) a b (by simpa using e) (by simpa using f))

section
variable {X : Cx}
/-- list(s), s a text -/
def rListS : List V → Hp → VK → Prop := fun xs H Q => ∃ z : Str, xs = [.str z] ∧ z.length ≤ sizeLine ∧ ∀ l, H l = none → Q (.ref l) (upd H l (.lst (sg z)))
theorem call_list_ofS (hc : X.calm = true) : CallR X (.type "list") rListS := by
  intro pins s σ H xs us Q I r h
  obtain ⟨z, rfl, hz, q⟩ := h
  obtain ⟨u, rfl, t, rfl⟩ : ∃ u, us = [u] ∧ ∃ t, u = Value.str z t := by
    cases r with
    | cons a b =>
      cases b
      exact ⟨_, rfl, a⟩
  refine call_list_str (I.ok.hd hc) z t ?_ hz
  intro h' tk acc c kp e hacc
  obtain ⟨n1, n2⟩ := hacc
  have v : Vals (sg z) acc.toList := by
    refine vals_of_get (by rw [sg_len, Array.length_toList, n1]; rfl) fun i x u e1 e2 => ?_
    unfold sg at e1
    rw [List.getElem?_map, Option.map_eq_some_iff] at e1
    obtain ⟨c, ec, rfl⟩ := e1
    rw [Array.getElem?_toList] at e2
    obtain ⟨c', tu, ec', rfl⟩ := n2 i u e2
    rw [Array.getElem?_toList] at ec
    rw [ec] at ec'
    cases ec'
    exact ⟨tu, rfl⟩
  refine ⟨.ref s.heap.objs.size, upd H s.heap.objs.size (.lst (sg z)), I.laid (t' := tk) kp (Nat.le_refl _) ?_, rfl, q _ (I.hok.fresh (Nat.le_refl _))⟩
  exact ⟨by rw [sg_len]; exact hz, acc.toList, c, v, by simpa using e⟩

/-- s repeated -/
def repS (z : Str) : Nat → Str
  | 0 => tx []
  | n + 1 => tx (z.cps.toList ++ (repS z n).cps.toList)
theorem repS_codes (z : Str) : ∀ n, (repS z n).cps.toList = (List.replicate n z.cps.toList).flatten
  | 0 => rfl
  | n + 1 => by
    unfold repS
    rw [List.replicate_succ, List.flatten_cons, ← repS_codes z n]
theorem rep_fold (c : Array Nat) : ∀ (n : Nat) (acc : Array Nat), ((List.replicate n c).foldl (· ++ ·) acc).toList = acc.toList ++ (List.replicate n c.toList).flatten
  | 0, acc => by simp
  | n + 1, acc => by
    rw [List.replicate_succ, List.foldl_cons, rep_fold c n, Array.toList_append, List.replicate_succ, List.flatten_cons, List.append_assoc]
theorem repS_eq (z : Str) (n : Nat) : (⟨(List.replicate n z.cps).foldl (· ++ ·) #[]⟩ : Str) = repS z n := by
  refine str_ext ?_
  rw [repS_codes]
  show ((List.replicate n z.cps).foldl (· ++ ·) #[]).toList = _
  rw [rep_fold]
  simp
theorem repS_len (z : Str) (n : Nat) : (repS z n).length = n * z.length := by
  show (repS z n).cps.size = _
  rw [← Array.length_toList, repS_codes]
  simp [Str.length]
theorem repS_one (z : Str) : repS z 1 = z := by
  refine str_ext ?_
  rw [repS_codes]
  simp
theorem repS_empty {z : Str} (h : z.length = 0) (n : Nat) : repS z n = z := by
  have e : z.cps.toList = [] := List.eq_nil_of_length_eq_zero (by simpa [Str.length] using h)
  refine str_ext ?_
  rw [repS_codes, e]
  simp
/-- s * n -/
def rMulS : R2 := fun x y H Q => ∃ (z : Str) (n : Nat), x = .str z ∧ y = .int (n : Int) ∧ z.length * n ≤ 16777216 ∧ n ≤ 16777216 ∧ Q (.str (repS z n)) H
theorem op_mulS : OpR X (binaryOp .Mult) rMulS := by
  intro pins s σ H x y v u Q I rx ry h
  obtain ⟨z, n, rfl, rfl, hz, hn, q⟩ := h
  obtain ⟨t, rfl⟩ := rx
  obtain ⟨t', rfl⟩ := ry
  refine PySem.P.mul_str (x := z) (n := (n : Int)) ?_ ?_ ?_ ?_
  · have e1 : ¬ ((n : Int) < -(2 ^ 63 : Int)) := by omega
    have e2 : ¬ ((n : Int) ≥ 2 ^ 63) := by omega
    rw [decide_eq_false e1, decide_eq_false e2]
    exact rfl
  · intro h1 _ h2
    have h3 : (1 : Int) ≤ n := by omega
    have hb : (z.length : Int) * n ≤ 16777216 := by
      have := Int.ofNat_le.mpr hz
      rw [Int.natCast_mul] at this
      exact this
    have h4 : (z.length : Int) ≤ (2 ^ 63 - 1) / n := by
      refine (Int.le_ediv_iff_mul_le (by omega)).mpr ?_
      exact Int.le_trans hb (by decide)
    omega
  · intro _ _
    unfold tooLong
    rw [Int.toNat_natCast]
    refine decide_eq_false ?_
    rw [sizeLine_eq]
    omega
  · have fin : ∀ (t t' : Nat), EP X pins σ Q (.str (repS z n) t) { s with toks := t' } := fun t t' => ⟨.str (repS z n), H, I.tok _, ⟨t, rfl⟩, q⟩
    by_cases h1 : (n : Int) < 1
    · rw [if_pos h1]
      have e : n = 0 := by omega
      subst e
      exact ⟨by decide, fin _ _⟩
    · rw [if_neg h1]
      by_cases h2 : ((n : Int) == 1 || z.length == 0) = true
      · rw [if_pos h2]
        have e : repS z n = z := by
          rw [Bool.or_eq_true, beq_iff_eq, beq_iff_eq] at h2
          rcases h2 with h2 | h2
          · have : n = 1 := by omega
            subst this
            exact repS_one z
          · exact repS_empty h2 n
        have f := fin t s.toks
        rw [e] at f
        exact f
      · rw [if_neg h2]
        rw [Int.toNat_natCast, repS_eq]
        refine ⟨?_, fin _ _⟩
        rw [repS_len, sizeLine_eq, Nat.mul_comm]
        exact hz
end

/-! ### strip leaves nothing just where all signs are among the given ones -/
theorem getD_mem {z : Str} {k : Nat} (h : k < z.length) : z.cps.getD k 0 ∈ z.cps.toList := by
  have h' : k < z.cps.size := h
  simp [Array.getD, h']
theorem mem_getD {z : Str} {c : Nat} (h : c ∈ z.cps.toList) : ∃ k, k < z.length ∧ z.cps.getD k 0 = c := by
  obtain ⟨k, hk, e⟩ := List.getElem_of_mem h
  have h' : k < z.cps.size := by simpa using hk
  refine ⟨k, h', ?_⟩
  simp [Array.getD, h']
  simpa using e
theorem stripBy_none (goes : Nat → Bool) (z : Str) : (Txt.stripBy goes true true z).length = 0 ↔ ∀ c ∈ z.cps.toList, goes c = true := by
  rw [stripBy_eq]
  obtain ⟨a0, a1, a2⟩ := lo_facts goes z
  obtain ⟨b0, b1, b2, b3⟩ := hi_facts goes z (stripLo goes true z) a0
  generalize stripLo goes true z = lo at *
  generalize stripHi goes true z lo = hi at *
  have len : (strSub z lo hi).length = hi - lo := by
    show (z.cps.extract lo hi).size = _
    have h1 : hi ≤ z.cps.size := b1
    rw [Array.size_extract]
    omega
  rw [len]
  constructor
  · intro h c hc
    obtain ⟨k, hk, rfl⟩ := mem_getD hc
    by_cases h1 : k < lo
    · exact a1 k h1
    · exact b2 k (by omega) hk
  · intro h
    by_cases h1 : lo = hi
    · omega
    · rcases a2 with h2 | h2
      · omega
      · have := h _ (getD_mem (z := z) (k := lo) (by omega))
        rw [h2] at this
        cases this
/-- all signs of z are among those of s -/
def allIn (s z : Str) : Bool := z.cps.toList.all fun c => s.cps.toList.contains c
theorem strip_none (z s : Str) : decide (V.str (Txt.stripChars z s) = V.str (tx [])) = allIn s z := by
  have h := stripBy_none s.cps.contains z
  have e : (∀ c ∈ z.cps.toList, s.cps.contains c = true) ↔ allIn s z = true := by
    unfold allIn
    rw [List.all_eq_true]
    simp
  rw [e] at h
  have f : V.str (Txt.stripChars z s) = V.str (tx []) ↔ (Txt.stripChars z s).length = 0 := by
    constructor
    · intro q
      rw [V.str.inj q]
      rfl
    · intro q
      refine congrArg V.str (str_ext ?_)
      exact List.eq_nil_of_length_eq_zero (by simpa [Str.length] using q)
  by_cases q : allIn s z = true
  · rw [q]
    exact decide_eq_true (f.mpr (h.mpr q))
  · rw [Bool.eq_false_iff.mpr q]
    exact decide_eq_false fun z' => q (h.mp (f.mp z'))
end Lk
namespace Lk
open PySem PySem.Spec PyProof.Rows L2 G
def isStr : PyData → Bool | .str _ => true | _ => false
def isInt : PyData → Bool | .int _ => true | .bool _ => true | _ => false
def isBool : PyData → Bool | .bool _ => true | _ => false
def isTup : PyData → Bool | .tuple _ => true | _ => false
def isLst : PyData → Bool | .list _ => true | _ => false
section
variable {K : PySem.W.Frag} {H : Hp} {v : V} {d : PyData} {Q : VK}
theorem kit_NoneType_str : kitB "NoneType" "str" = some false := by decide +kernel
theorem kit_bool_str : kitB "bool" "str" = some false := by decide +kernel
theorem kit_int_str : kitB "int" "str" = some false := by decide +kernel
theorem kit_str_str : kitB "str" "str" = some true := by decide +kernel
theorem kit_list_str : kitB "list" "str" = some false := by decide +kernel
theorem kit_tuple_str : kitB "tuple" "str" = some false := by decide +kernel
theorem kit_dict_str : kitB "dict" "str" = some false := by decide +kernel
theorem kStr : ∀ d : PyData, PySem.W.kitOne K (.type (tyName d)) (.type "str") = some (isStr d)
  | .none => kit_ty kit_NoneType_str
  | .bool _ => kit_ty kit_bool_str
  | .int _ => kit_ty kit_int_str
  | .str _ => kit_ty kit_str_str
  | .list _ => kit_ty kit_list_str
  | .tuple _ => kit_ty kit_tuple_str
  | .dict _ => kit_ty kit_dict_str
theorem kit_NoneType_int : kitB "NoneType" "int" = some false := by decide +kernel
theorem kit_bool_int : kitB "bool" "int" = some true := by decide +kernel
theorem kit_int_int : kitB "int" "int" = some true := by decide +kernel
theorem kit_str_int : kitB "str" "int" = some false := by decide +kernel
theorem kit_list_int : kitB "list" "int" = some false := by decide +kernel
theorem kit_tuple_int : kitB "tuple" "int" = some false := by decide +kernel
theorem kit_dict_int : kitB "dict" "int" = some false := by decide +kernel
theorem kInt : ∀ d : PyData, PySem.W.kitOne K (.type (tyName d)) (.type "int") = some (isInt d)
  | .none => kit_ty kit_NoneType_int
  | .bool _ => kit_ty kit_bool_int
  | .int _ => kit_ty kit_int_int
  | .str _ => kit_ty kit_str_int
  | .list _ => kit_ty kit_list_int
  | .tuple _ => kit_ty kit_tuple_int
  | .dict _ => kit_ty kit_dict_int
theorem kit_NoneType_bool : kitB "NoneType" "bool" = some false := by decide +kernel
theorem kit_bool_bool : kitB "bool" "bool" = some true := by decide +kernel
theorem kit_int_bool : kitB "int" "bool" = some false := by decide +kernel
theorem kit_str_bool : kitB "str" "bool" = some false := by decide +kernel
theorem kit_list_bool : kitB "list" "bool" = some false := by decide +kernel
theorem kit_tuple_bool : kitB "tuple" "bool" = some false := by decide +kernel
theorem kit_dict_bool : kitB "dict" "bool" = some false := by decide +kernel
theorem kBool : ∀ d : PyData, PySem.W.kitOne K (.type (tyName d)) (.type "bool") = some (isBool d)
  | .none => kit_ty kit_NoneType_bool
  | .bool _ => kit_ty kit_bool_bool
  | .int _ => kit_ty kit_int_bool
  | .str _ => kit_ty kit_str_bool
  | .list _ => kit_ty kit_list_bool
  | .tuple _ => kit_ty kit_tuple_bool
  | .dict _ => kit_ty kit_dict_bool
theorem kit_NoneType_tuple : kitB "NoneType" "tuple" = some false := by decide +kernel
theorem kit_bool_tuple : kitB "bool" "tuple" = some false := by decide +kernel
theorem kit_int_tuple : kitB "int" "tuple" = some false := by decide +kernel
theorem kit_str_tuple : kitB "str" "tuple" = some false := by decide +kernel
theorem kit_list_tuple : kitB "list" "tuple" = some false := by decide +kernel
theorem kit_tuple_tuple : kitB "tuple" "tuple" = some true := by decide +kernel
theorem kit_dict_tuple : kitB "dict" "tuple" = some false := by decide +kernel
theorem kTup : ∀ d : PyData, PySem.W.kitOne K (.type (tyName d)) (.type "tuple") = some (isTup d)
  | .none => kit_ty kit_NoneType_tuple
  | .bool _ => kit_ty kit_bool_tuple
  | .int _ => kit_ty kit_int_tuple
  | .str _ => kit_ty kit_str_tuple
  | .list _ => kit_ty kit_list_tuple
  | .tuple _ => kit_ty kit_tuple_tuple
  | .dict _ => kit_ty kit_dict_tuple
theorem kit_NoneType_list : kitB "NoneType" "list" = some false := by decide +kernel
theorem kit_bool_list : kitB "bool" "list" = some false := by decide +kernel
theorem kit_int_list : kitB "int" "list" = some false := by decide +kernel
theorem kit_str_list : kitB "str" "list" = some false := by decide +kernel
theorem kit_list_list : kitB "list" "list" = some true := by decide +kernel
theorem kit_tuple_list : kitB "tuple" "list" = some false := by decide +kernel
theorem kit_dict_list : kitB "dict" "list" = some false := by decide +kernel
theorem kLst : ∀ d : PyData, PySem.W.kitOne K (.type (tyName d)) (.type "list") = some (isLst d)
  | .none => kit_ty kit_NoneType_list
  | .bool _ => kit_ty kit_bool_list
  | .int _ => kit_ty kit_int_list
  | .str _ => kit_ty kit_str_list
  | .list _ => kit_ty kit_list_list
  | .tuple _ => kit_ty kit_tuple_list
  | .dict _ => kit_ty kit_dict_list
end
/-- is_word -/
def isWord (s : Str) : PyData → Bool
  | .str z => allIn s z
  | _ => false
end Lk
namespace Lk
open PySem PySem.Spec PyProof.Rows L2 G
/-! ### slices by places within, the longest common beginning -/
theorem cutS_nat (z : Str) (a b : Nat) (ha : a ≤ z.length) (hb : b ≤ z.length) : cutS z (some (a : Int)) (some (b : Int)) = tx ((z.cps.toList.drop a).take (b - a)) := by
  unfold cutS
  rw [HT.sIx_nat, HT.sIx_nat, Nat.min_eq_left ha, Nat.min_eq_left hb]
theorem cutS_to (z : Str) (b : Nat) (hb : b ≤ z.length) : cutS z none (some (b : Int)) = tx (z.cps.toList.take b) := by
  unfold cutS
  rw [HT.sIx_nat, HT.sIx_none, Nat.min_eq_left hb]
  rfl
theorem cutV_nat (xs : List V) (a b : Nat) (ha : a ≤ xs.length) (hb : b ≤ xs.length) : cutV xs (some (a : Int)) (some (b : Int)) = (xs.drop a).take (b - a) := by
  unfold cutV
  rw [HT.sIx_nat, HT.sIx_nat, Nat.min_eq_left ha, Nat.min_eq_left hb]
theorem cutV_to (xs : List V) (b : Nat) : cutV xs none (some (b : Int)) = xs.take b := by
  unfold cutV
  rw [HT.sIx_nat, HT.sIx_none]
  show (xs.take (min b xs.length - 0)) = _
  rw [Nat.sub_zero]
  by_cases h : b ≤ xs.length
  · rw [Nat.min_eq_left h]
  · rw [Nat.min_eq_right (by omega), List.take_of_length_le (Nat.le_refl _), List.take_of_length_le (by omega)]

def lcp : List Nat → List Nat → List Nat
  | a :: as, b :: bs => if a = b then a :: lcp as bs else []
  | _, _ => []
theorem lcp_len_le : ∀ as bs : List Nat, (lcp as bs).length ≤ as.length ∧ (lcp as bs).length ≤ bs.length
  | [], bs => by simp [lcp]
  | a :: as, [] => by simp [lcp]
  | a :: as, b :: bs => by
    unfold lcp
    by_cases h : a = b
    · rw [if_pos h]
      have := lcp_len_le as bs
      simp
      exact this
    · rw [if_neg h]
      simp
theorem lcp_take : ∀ (as bs : List Nat) (k : Nat), k ≤ as.length → k ≤ bs.length → (as.take k = bs.take k ↔ k ≤ (lcp as bs).length)
  | [], bs, k, h1, _ => by
    have : k = 0 := by simpa using h1
    subst this
    simp
  | a :: as, [], k, _, h2 => by
    have : k = 0 := by simpa using h2
    subst this
    simp
  | a :: as, b :: bs, 0, _, _ => by simp
  | a :: as, b :: bs, k + 1, h1, h2 => by
    have ih := lcp_take as bs k (by simpa using h1) (by simpa using h2)
    unfold lcp
    rw [List.take_succ_cons, List.take_succ_cons]
    by_cases h : a = b
    · subst h
      rw [if_pos rfl, List.length_cons]
      constructor
      · intro q
        have := ih.mp (List.cons.inj q).2
        omega
      · intro q
        rw [ih.mpr (by omega)]
    · rw [if_neg h]
      constructor
      · intro q
        exact absurd (List.cons.inj q).1 h
      · intro q
        simp at q
theorem lcp_is : ∀ as bs : List Nat, lcp as bs = as.take (lcp as bs).length
  | [], bs => by simp [lcp]
  | a :: as, [] => by simp [lcp]
  | a :: as, b :: bs => by
    have ih := lcp_is as bs
    unfold lcp
    by_cases h : a = b
    · rw [if_pos h, List.length_cons, List.take_succ_cons, ← ih]
    · rw [if_neg h]
      simp
/-- the longest text with which both begin -/
def comS (x y : Str) : Str := tx (lcp x.cps.toList y.cps.toList)
/-- one step of halving: the two parts between are the same just if the beginnings are -/
theorem part_eq {as bs : List Nat} {lo mid : Nat} (hlm : lo ≤ mid) (h : as.take lo = bs.take lo) :
    (as.drop lo).take (mid - lo) = (bs.drop lo).take (mid - lo) ↔ as.take mid = bs.take mid := by
  have e : ∀ l : List Nat, l.take mid = l.take lo ++ (l.drop lo).take (mid - lo) := fun l => by
    have := List.take_add (l := l) (i := lo) (j := mid - lo)
    rw [show lo + (mid - lo) = mid by omega] at this
    exact this
  constructor
  · intro q
    rw [e as, e bs, q, h]
  · intro q
    rw [e as, e bs, h] at q
    exact List.append_cancel_left q
end Lk

/-! The pot of numbers that a law draws from. -/
namespace Lk
open PySem PySem.Spec PyProof.Rows L2 G

theorem seqL_ne {K : PySem.W.Frag} {H : Hp} {a : Addr} {xs : List V} {o : HO} (h : SqL K (sans H a) a xs) : K.lookup a ≠ none := by
  rcases h with (h | ⟨o, h⟩) | ⟨o, its, n, h, _⟩
  · rw [sans_self] at h
    cases h
  · rw [sans_self] at h
    cases h
  · rw [h]
    exact Option.some_ne_none _
/-- at a the pot: its cells' list at c, three numbers -/
def PotAt (H : Hp) (a c : Addr) : Prop := ∃ (p x y : Int), H a = some (.lst [.ref c, .int p, .int x, .int y])
def Cells (K : PySem.W.Frag) (H : Hp) (a c : Addr) : Prop := ∃ ns : List Int, SqL K (sans H a) c (ns.map V.int) ∧ ns.length ≤ 63
structure Pot (K : PySem.W.Frag) (H : Hp) (a c : Addr) : Prop where
  at_ : PotAt H a c
  cells : Cells K H a c
theorem Cells.mono {K : PySem.W.Frag} {H H' : Hp} {a c : Addr} (s : Sm a H H') (h : Cells K H a c) : Cells K H' a c := by
  obtain ⟨ns, h, l⟩ := h
  exact ⟨ns, seqL s h, l⟩
theorem Pot.to {K : PySem.W.Frag} {H H' : Hp} {a c : Addr} (h : Pot K H a c) (s : Sm a H H') (p : PotAt H' a c) : Pot K H' a c := ⟨p, h.cells.mono s⟩
theorem PotAt.ne {H : Hp} {a c p : Addr} (h : PotAt H a c) (n : H p = none) : p ≠ a := by
  obtain ⟨_, _, _, e⟩ := h
  exact (ne_of_none e n).symm
theorem PotAt.upd {H : Hp} {a c p : Addr} {o : HO} (h : PotAt H a c) (n : p ≠ a) : PotAt (upd H p o) a c := by
  obtain ⟨x, y, z, e⟩ := h
  exact ⟨x, y, z, (upd_ne n.symm).trans e⟩
theorem PotAt.same {H H' : Hp} {a c : Addr} (h : PotAt H a c) (s : Same H H') : PotAt H' a c := by
  obtain ⟨x, y, z, e⟩ := h
  exact ⟨x, y, z, s _ _ e⟩
theorem Pot.ne {K : PySem.W.Frag} {H : Hp} {a c p : Addr} (h : Pot K H a c) (n : H p = none) : p ≠ a := h.at_.ne n
theorem Pot.same {K : PySem.W.Frag} {H H' : Hp} {a c : Addr} (h : Pot K H a c) (s : Same H H') : Pot K H' a c := h.to (Sm.of s) (h.at_.same s)
theorem Pot.new {K : PySem.W.Frag} {H : Hp} {a c p : Addr} {o : HO} (h : Pot K H a c) (n : H p = none) : Pot K (L2.upd H p o) a c := h.same (same_new n)
/-- _law_below: some number from 0 on below the bound; all but the pot stands -/
def spBelow (K : PySem.W.Frag) : Sp := fun vs H Q _ => ∃ (a c : Addr) (b : Int), vs = [.ref a, .int b] ∧ Pot K H a c ∧ 1 ≤ b ∧ b < 1073741824 ∧
  ∀ (H' : Hp) (k : Int), Sm a H H' → Pot K H' a c → 0 ≤ k → k < b → Q (.int k) H'
/-- _law_pick: some item of a list, of a tuple or of a text -/
def spPick (K : PySem.W.Frag) : Sp := fun vs H Q _ => ∃ (a c : Addr) (v : V) (xs : List V), vs = [.ref a, v] ∧ Pot K H a c ∧ xs ≠ [] ∧
  ((∃ l, v = .ref l ∧ SqL K (sans H a) l xs) ∨ (∃ l, v = .ref l ∧ SqT K (sans H a) l xs) ∨ (∃ z : Str, v = .str z ∧ xs = sg z ∧ z.length ≤ sizeLine)) ∧ xs.length < 1073741824 ∧
  ∀ (H' : Hp) (x : V), Sm a H H' → Pot K H' a c → x ∈ xs → Q x H'
theorem dq_ints {K : PySem.W.Frag} {H : Hp} : ∀ ns : List Int, DpAll K H (ns.map V.int) (ns.map PyData.int)
  | [] => .nil
  | n :: ns => .cons (.int n) (dq_ints ns)
theorem shaped_ints (ns : List Int) : SeqAt.shaped (.list (ns.map PyData.int)) = true := by
  have h1 : ∀ l : List Int, PyData.canLayAll0 (l.map PyData.int) = true := fun l => by
    induction l with
    | nil => rfl
    | cons n r ih =>
      rw [List.map_cons]
      unfold PyData.canLayAll0
      rw [ih, Bool.and_true]
      rfl
  have h2 : ∀ l : List Int, PyData.depthAll (l.map PyData.int) = 0 := fun l => by
    induction l with
    | nil => rfl
    | cons n r ih =>
      rw [List.map_cons]
      unfold PyData.depthAll
      rw [ih]
      rfl
  unfold SeqAt.shaped
  rw [Bool.and_eq_true]
  constructor
  · unfold PyData.canLay0
    exact h1 ns
  · unfold PyData.depth
    rw [h2]
    exact rfl
theorem sg_get {z : Str} {k : Nat} (h : k < (sg z).length) : ∃ c, (sg z)[k] = .str (tx [c]) ∧ z.cps.toList[k]? = some c := by
  unfold sg at h ⊢
  rw [List.length_map] at h
  refine ⟨z.cps.toList[k], ?_, List.getElem?_eq_getElem h⟩
  rw [List.getElem_map]
end Lk
namespace Lk
open PySem PySem.Spec PyProof.Rows L2 G
theorem ixN_nat {n j : Nat} (h : j < n) : ixN n (j : Int) = some j := by
  unfold ixN
  rw [if_pos (by omega)]
  simp
  exact h
end Lk
namespace Lk
open PySem PySem.Spec PyProof.Rows L2 G PySem.Builtin.Str PySem.Builtin
/-- the texts one behind another -/
def catS (ys : List Str) : List Nat := (ys.map fun y => y.cps.toList).flatten
theorem glue_fold : ∀ (rest : List Str) (acc : Array Nat), (rest.foldl (fun acc p => acc ++ (tx []).cps ++ p.cps) acc).toList = acc.toList ++ catS rest
  | [], acc => by simp [catS]
  | y :: r, acc => by
    rw [List.foldl_cons, glue_fold r]
    simp [catS]
theorem join_empty (ys : List Str) : Txt.join (tx []) ys = tx (catS ys) := by
  refine str_ext ?_
  unfold Txt.join
  cases ys with
  | nil => rfl
  | cons y r =>
    show ((r.foldl (fun acc p => acc ++ (tx []).cps ++ p.cps) y.cps)).toList = _
    rw [glue_fold]
    simp [catS]
end Lk
namespace Lk
open PySem PySem.Spec PyProof.Rows L2 G
theorem catS_ones : ∀ l : List Nat, catS (l.map fun c => tx [c]) = l
  | [] => rfl
  | c :: r => by
    have ih := catS_ones r
    unfold catS at ih ⊢
    rw [List.map_cons, List.map_cons, List.flatten_cons, ih]
    rfl
theorem sum_ones : ∀ l : List Nat, ((l.map fun c => tx [c]).map (·.length)).sum = l.length
  | [] => rfl
  | c :: r => by
    rw [List.map_cons, List.map_cons, List.sum_cons, sum_ones r, List.length_cons]
    show 1 + r.length = _
    omega
end Lk

/-! Exceptions of own classes as values: made (with and without an own __init__), asked by isinstance, their fields read. -/
namespace Lk
open PySem PySem.Spec PySem.Calls PyProof.Rows L2 G

/-- at a an exception of the class at D: one without a dict, or one with its dict at d -/
def ExAt (H : Hp) (a D : Addr) : Prop := H a = some (ExO (.ref D) a) ∨ ∃ d, H a = some (exo a D (some d)) ∧ ∃ fs, H d = some (exd d fs)
theorem ExAt.mono {H H' : Hp} {a D : Addr} (s : Same H H') (h : ExAt H a D) : ExAt H' a D :=
  h.imp (s _ _) fun ⟨d, e, fs, f⟩ => ⟨d, s _ _ e, fs, s _ _ f⟩

section
open PySem.W
variable {prog : Program} {w : World} {A : Around} {E : Value → Shared → Prop} {s : Shared} {K : Frag} {x D : Addr}

theorem exc_class {ox : Obj} {od : Option Obj} {Q : Option Value → Shared → Prop} (T : ExcC K D) (X : K.In s.heap) (I : InstAt s.heap x ox D od)
    (q : Q (some (.ref D)) { s with toks := s.toks + 1 }) : wpAny (model prog w) A (getAttr? (.ref x) "__class__") Q E s := by
  have found : findObj K D od "__class__" = some (.bind (.builtin "getset_descriptor.__get__") (.builtin "object.__class__")) := by
    obtain ⟨cd, hc, _⟩ := any_some T.hd
    unfold findObj
    rw [hc, Option.bind_some, T.ha, Option.bind_some]
    simp [T.hn, T.ht]
  obtain ⟨hp, g, d, t, os⟩ := s
  have t0 := I.type (M := model prog w)
  have t1 := looks_findIn (M := model prog w) X T.hg
  have t2 := looks_findIn (M := model prog w) X T.hk
  have t3 := looks_find (M := model prog w) X I found
  have isExc : Looks (model prog w) hp (isInstance (.ref x) (.type "BaseException")) true := t0.andThen (looks_subIn X T.hs)
  have no1 : (Value.builtin "BaseException.__getattribute__" == Value.builtin "object.__getattribute__") = false := by decide +kernel
  have no2 : (onTheHeap (Value.ref D) && Value.builtin "BaseException.__getattribute__" == Value.builtin "object.__getattribute__") = false := by
    rw [no1]
    exact rfl
  have no3 : (false && onTheHeap (Value.builtin "BaseException.__getattribute__")) = false := rfl
  unfold getAttr?
  unfold getAttrBy?
  unfold getAttrBy
  refine wpAny_bind (wpAny_mkText (wpAny_bind (wpAny_attempt (wpAny_holding ?_))))
  refine wpAny_bind (t0.at (wpAny_bind (t1.at ?_)))
  show wpAny _ _ (if (onTheHeap (Value.ref D) && Value.builtin "BaseException.__getattribute__" == Value.builtin "object.__getattribute__") = true then _ else _) _ _ _
  rw [no2]
  rw [if_neg Bool.false_ne_true]
  unfold getAttrByItsOwn
  unfold hookBefore
  refine wpAny_bind ?_
  rw [if_pos (show onTheHeap (Value.ref D) = true from rfl)]
  refine t2.at (wpAny_bind (wpAny_attempt (wpAny_holding ?_)))
  unfold callGetattribute
  rw [no3]
  rw [if_neg Bool.false_ne_true]
  unfold boundAndCalled
  rw [PySem.F.excAttr_ValueError.ga.bind (.ref x)]
  refine wpAny_bind (wpAny_pure ?_)
  show wpAny _ _ (call (.builtin "BaseException.__getattribute__") [.ref x, .str "__class__" t]) _ _ _
  refine wpAny_call (codeAny_call_builtin PySem.F.excAttr_ValueError.ga.plain PySem.F.entry_bexc_ga ?_)
  refine @check_slot (model prog w) _ _ ⟨hp, g, d, t + 1, os⟩ "BaseException.__getattribute__" "BaseException" "__getattribute__"
    (.ref x) [.str "__class__" t] [] _ (by decide +kernel) (by decide +kernel) isExc (PySem.F.args_bexc_ga (.ref x) (.str "__class__" t)) ?_
  unfold Builtin.«object.__getattribute__»
  refine wpAny_bind (wpAny_of_eq (a := ((Value.ref x : Value), [Value.str "__class__" t])) ?_ ?_)
  · first
      | rfl
      | (simp only [slotArgs]; rfl)
  refine wpAny_bind (wpAny_pure (wpAny_bind (t0.at (wpAny_bind (t3.at ?_)))))
  show wpAny _ _ (holding [Value.builtin "object.__class__"] (call (.builtin "getset_descriptor.__get__") [.builtin "object.__class__", .ref x, .ref D]) >>= ret) _ _ _
  refine wpAny_bind (wpAny_holding (wpAny_call (class_get (s := ⟨hp, g, d, t + 1, os⟩) (ox := ox) (od := od) X I T.hm ?_)))
  refine wpAny_pure ?_
  show wpAny _ _ (handedOut (.ref D)) _ _ _
  rw [handedOut_of (v := .ref D) rfl]
  first
    | exact wpAny_pure (wpAny_pure q)
    | exact wpAny_pure q
    | exact wpAny_pure (wpAny_bind (wpAny_pure (wpAny_pure q)))

theorem exc_kit (T : ExcC K D) : KitX K (.ref x) (.ref D) (fun h => ∃ ox od, InstAt h x ox D od) := by
  obtain ⟨cdD, hcD, _⟩ := any_some T.hd
  unfold clsIn at hcD
  split at hcD
  · rename_i c' d' cd' sl' ho
    constructor
    · rintro _ _ _ ⟨ox, od, I⟩
      exact I.type
    · intro M h X _ A' Q' E' s' k q
      unfold isType loadHead
      exact wpAny_bind (wpAny_loadPart (k _ _ (X _ _ ho)) (wpAny_pure q))
    · intro h tp dd its n sl X htp
      rw [Bool.eq_false_iff]
      intro q
      obtain rfl : D = tp := Value.ref.inj (beq_iff_eq.mp q)
      cases (X _ _ ho).symm.trans htp
    · rintro prog w A E Q s X ⟨ox, od, I⟩ k
      exact exc_class T X I k
  · cases hcD
end

theorem ExAt.inst {X : Cx} {pins : List (Addr × Obj)} {σ : L2.St} {H : Hp} {s : Shared} {a D : Addr} (I : Inv X pins σ H s) (h : ExAt H a D) : ∃ ox od, PySem.W.InstAt s.heap a ox D od := by
  rcases h with h | ⟨d, h, fs, hd⟩
  · have z : ObjOk X.prog X.w H s.heap a (ExO (.ref D) a) := I.hok a _ h
    obtain ⟨⟨oe, vs, e, ⟨hc, hn⟩, hdt, _⟩, _, _⟩ := z
    refine ⟨oe, none, e, hc, ?_, ?_⟩
    · unfold PySem.W.notCls
      rw [hdt] <;> rfl
    · rw [hn]
      trivial
  · obtain ⟨t1, e⟩ := exo_at I.hok h
    obtain ⟨mA, hns, _⟩ := exd_at I.hok hd
    obtain ⟨o, es, ep, ho, _⟩ := hns
    exact ⟨_, some o, e, rfl, rfl, ho⟩

section
variable {X : Cx}
/-- isinstance(e, c), e an exception as a value -/
def rIsX (K : PySem.W.Frag) : List V → Hp → VK → Prop := fun xs H Q => ∃ (a D : Addr) (c : V) (cv : Value) (b : Bool), xs = [.ref a, c] ∧ ExAt H a D ∧ ExcC K D ∧ ClsV c cv ∧ PySem.W.kitOne K (.ref D) cv = some b ∧ Q (.bl b) H
theorem call_isX : CallR X (.builtin "isinstance") (rIsX X.K) := by
  intro pins s σ H xs us Q I r h
  obtain ⟨a, D, c, cv, b, rfl, ha, T, hc, e, q⟩ := h
  cases r with
  | cons rx rr =>
    cases rr with
    | cons rt rr =>
      cases rr
      cases rx
      cases hc.eq rt
      exact PySem.W.kia_one (exc_kit T) I.kIn (ha.inst I) e (fun z => nomatch z) fun tk => ⟨.bl b, H, I.tok tk, rfl, q⟩
/-- isinstance(e, (c1, c2, ..)) -/
def rIsXT (K : PySem.W.Frag) : List V → Hp → VK → Prop := fun xs H Q => ∃ (a D tp : Addr) (cs : List V) (us : List Value) (b : Bool), xs = [.ref a, .ref tp] ∧ ExAt H a D ∧ ExcC K D ∧ H tp = some (.tup cs) ∧ Paired ClsV cs us ∧ PySem.W.kitAny K (.ref D) us = some b ∧ Q (.bl b) H
theorem call_isXT : CallR X (.builtin "isinstance") (rIsXT X.K) := by
  intro pins s σ H xs us Q I r h
  obtain ⟨a, D, tp, cs, ws, b, rfl, ha, T, hT, hc, e, q⟩ := h
  cases r with
  | cons rx rr =>
    cases rr with
    | cons rt rr =>
      cases rr
      cases rx
      cases rt
      have z : ObjOk X.prog X.w H s.heap tp (.tup cs) := I.hok tp _ hT
      obtain ⟨_, its, rv, ⟨oc, od, dt, sl⟩, h1, h2, n, h3⟩ := z
      simp only at h2 h3
      subst h2 h3
      obtain rfl := ClsV.all hc rv
      exact PySem.W.kia_tup (exc_kit T) I.kIn (ha.inst I) h1 e (fun z => nomatch z) fun tk => ⟨.bl b, H, I.tok tk, rfl, q⟩

/-- e.f of an exception with its own dict -/
def tXv (K : PySem.W.Frag) (f : Str) (te : TE) : TE := fun σ H Q => te σ H fun x H1 => ∃ (a C d : Addr) (fs : List (Str × V)) (v : V), x = .ref a ∧ XfC K C ∧ PySem.W.findIn K (.ref C) f = some none ∧
  H1 a = some (exo a C (some d)) ∧ H1 d = some (exd d fs) ∧ fs.lookup f = some v ∧ Q v H1
theorem pe_xv {e : Expr} {te : TE} {pos : Pos} {n : Str} (he : PE X e te) (hb : attributeBase e n X.env (eval e X.env) = eval e X.env := by rfl) : PE X (.Attribute e n pos) (tXv X.K n te) := by
  constructor
  intro pins s σ H Q I h
  refine attr_of hb (thn (he.run pins s σ H _ I h) ?_)
  rintro u s1 ⟨x, H1, I1, rx, a, C, d, fs, v, rfl, T, hno, ea, ed, hl, q⟩
  obtain rfl : u = Value.ref a := rx
  obtain ⟨t1, hoe⟩ := exo_at I1.hok ea
  obtain ⟨mA, hns, rel⟩ := exd_at I1.hok ed
  obtain ⟨od, hod, hlk⟩ := lookIn_ns hns
  have hv : RelO (some v) (mA n) := hl ▸ rel n
  obtain ⟨u, hu, ru⟩ := RelO.some_of hv
  have J : PySem.W.InstAt s1.heap a _ C (some od) := ⟨hoe, rfl, rfl, hod⟩
  exact HandSPX.exc_get I1.kIn J T.ga T.gg T.exC (PySem.W.findObj_own T.hdC hno rfl (by rw [hlk, hu])) (handed_of ru) ⟨v, H1, I1.tok _, ru, q⟩

/-- C(e, ..) as a value, C's own __init__ keeping sp -/
def tMkV (C : Addr) (sp : Sp) (ta : TA) : TE := fun σ H Q => ta σ H fun vs H1 => vs.length ≤ 1000 ∧ ∀ a, H1 a = none → sp (.ref a :: vs) (upd H1 a (exo a C none)) (fun v H2 => v = .non ∧ Q (.ref a) H2) (fun _ _ _ => False)
variable {e : Expr} {es : List Expr} {ta : TA} {p pos : Pos}
theorem pe_mkV {CX : CXT} {x : Str} {C fI : Addr} {k : Nat} {fd : FuncData} {ps : List Str} {sp : Sp} (T : OexC X.K C)
    (iC : PySem.W.findIn X.K (.ref C) "__init__" = some (some (.ref fI))) (tI : PySem.W.typeIn X.K (.ref fI) = some (.type "function"))
    (F1 : FnOk X.prog X.w X.K X.mg X.base CX k fI fd ps sp) (hr : Room (k + 1) X.A) (hb : Binds X.K fd ps []) (hx : Passes CX X (fun _ _ _ => False))
    (hg : Gl X x) (hm : X.mg x = some (.ref C)) (ha : PA X (e :: es) ta) (hdb : (x == ("__debug__" : Str)) = false := by decide)
    (he : starEach (e :: es) X.env = (false, eval e X.env) :: starEach es X.env := by rfl) (hpl : (backTo pos (starEach es X.env)).any (·.1) = false := by rfl) :
    PE X (.Call (.Name x p) (e :: es) [] pos) (tMkV C sp ta) := by
  constructor
  intro pins s σ H Q I h
  obtain ⟨nm, q, N, bs, bm, sn, sub, ab, col, dd, k0, k1, k2, k3, k5, hC, hbm⟩ := T.cls
  refine wpAny_Call_Name_kw (ld_glob I hg hm ?_ hdb)
  refine PySem.W.callWith_K (h₀ := X.base) I.ok.mod.kin T.kC (thn (ha.run pos pins s σ H _ I h) ?_) he hpl
  rintro us s1 ⟨vs, H1, I1, r1, hz, q1⟩
  refine ⟨I1.kIn, ?_⟩
  show wpAny _ _ (call (.ref C) us) _ _ _
  obtain ⟨hp, g, dr, tk, os⟩ := s1
  have big : hp.objs.size ≤ hp.objs.size + 1 := Nat.le_succ _
  have hq := q1 (hp.objs.size + 1) (I1.hok.fresh big)
  have kk : ∀ b o, hp.get? b = some o → ((hp.push (PySem.W.kdv_tup us)).push (PySem.HandSPX.excO C hp.objs.size)).get? b = some o :=
    fun b o e => Heap.get?_push_of_some _ (Heap.get?_push_of_some _ e)
  have here : ((hp.push (PySem.W.kdv_tup us)).push (PySem.HandSPX.excO C hp.objs.size)).get? (hp.objs.size + 1) = some (PySem.HandSPX.excO C hp.objs.size) := by heap_get
  have I2 := I1.laid (t' := tk) (a := hp.objs.size + 1) (o := exo (hp.objs.size + 1) C none) kk big (L2.exo_ok here)
  have r2 : Vals (V.ref (hp.objs.size + 1) :: vs) (Value.ref (hp.objs.size + 1) :: us) := .cons rfl r1
  have ll : (Value.ref (hp.objs.size + 1) :: us).length = ps.length := r2.length.symm.trans (F1.len _ _ _ _ hq)
  have hus : us.length ≤ sizeLine := by
    rw [← Paired.length r1, sizeLine_eq]
    omega
  have hbb := hb _ (Value.ref (hp.objs.size + 1) :: us) I2.kIn (by rw [List.append_nil]; exact ll)
  rw [List.append_nil] at hbb
  refine wpAny_call (PySem.HandSPX.call_own F.excBase_ValueError (fun Y => PySem.HandSPX.refsVE_contains Y bm hbm) (I1.kIn _ _ hC)
    (PySem.W.looks_findIn I1.kIn iC) (fun self => PySem.W.bind_fn I1.kIn self tI) hus ?_)
  refine codeAny_mono (F1.run _ X.stack _ _ ⟨Value.ref (hp.objs.size + 1) :: us, []⟩ _ _ _ (fun _ _ _ => False) (hr.make C us []) (I2.env0.make C us []) hbb r2 hq) ?_
  intro r s' hq'
  cases r with
  | error er => exact hx pins σ _ _ er s' I2 hq'
  | ok fl =>
    cases fl with
    | next => exact (show False from hq').elim
    | brk => exact (show False from hq').elim
    | cont => exact (show False from hq').elim
    | ret u =>
      obtain ⟨v, H2, os2, bare2, un2, hok2, rv, ev, q2⟩ := hq'
      subst ev
      obtain ⟨h2, g2, d2, t2, os'⟩ := s'
      obtain rfl : os' = os := os2
      exact ⟨rv, .ref (hp.objs.size + 1), H2, I2.call (h' := h2) (g' := g2) (d' := d2) (t' := t2) (ch := []) un2 hok2 bare2 (fun b z => absurd z (by simp)), rfl, q2⟩
end
end Lk
namespace Lk
open PySem PySem.Spec PySem.Calls PyProof.Rows L2 G
/-- what the class D is to each of the classes -/
def RowK (K : PySem.W.Frag) (D : Addr) : List Addr → List Bool → Prop
  | c :: cs, b :: bs => PySem.W.kitOne K (.ref D) (.ref c) = some b ∧ RowK K D cs bs
  | _, _ => True
theorem refs_one {a : Addr} : PySem.HandSPX.refsVE [.ref a, .type "ValueError", .type "Exception", .type "BaseException", .type "object"] = true := by
  show PySem.HandSPX.refsVE [.type "ValueError", .type "Exception", .type "BaseException", .type "object"] = true
  decide +kernel
def veRest : List Value := [.type "ValueError", .type "Exception", .type "BaseException", .type "object"]
/-- all but a stands -/
def But (a : Addr) (H H' : Hp) : Prop := ∀ b o, b ≠ a → H b = some o → H' b = some o
theorem But.same {a : Addr} {H H' : Hp} {o : HO} (n : H a = none) (h : But a (upd H a o) H') : Same H H' := fun b u e =>
  h b u (ne_of_none e n) ((upd_ne (ne_of_none e n)).trans e)
/-- __init__ of an error with one field -/
def spInit1 (K : PySem.W.Frag) (C : Addr) (f : Str) : Sp := fun vs H Q _ => ∃ (a : Addr) (v : V), vs = [.ref a, v] ∧ H a = some (exo a C none) ∧
  ∀ (H' : Hp) (d : Addr), But a H H' → H' a = some (exo a C (some d)) → H' d = some (exd d [(f, v)]) → Q .non H'
def spInit2 (K : PySem.W.Frag) (C : Addr) (f g : Str) : Sp := fun vs H Q _ => ∃ (a : Addr) (v u : V), vs = [.ref a, v, u] ∧ H a = some (exo a C none) ∧
  ∀ (H' : Hp) (d : Addr), But a H H' → H' a = some (exo a C (some d)) → H' d = some (exd d [(g, u), (f, v)]) → Q .non H'
/-- __init__ of NoOutcome with a list: a copy of it is kept -/
def spInitL (K : PySem.W.Frag) (C : Addr) (f g : Str) : Sp := fun vs H Q _ => ∃ (a l : Addr) (v : V) (xs : List V), vs = [.ref a, v, .ref l] ∧ H a = some (exo a C none) ∧ SqL K H l xs ∧
  ∀ (H' : Hp) (d n : Addr), But a H H' → H' a = some (exo a C (some d)) → H' d = some (exd d [(g, .ref n), (f, v)]) → H' n = some (.lst xs) → H n = none → Q .non H'
end Lk
namespace Lk
open PySem L2
theorem exo_ne_lst {e C : Addr} {d : Option Addr} {xs : List V} : exo e C d ≠ .lst xs := fun z => by
  have z' : HO.ext _ = HO.lst xs := z
  cases z'
theorem exo_ne_tup {e C : Addr} {d : Option Addr} {xs : List V} : exo e C d ≠ .tup xs := exo_tup
end Lk
namespace Lk
open PySem L2
theorem bools_dp {K : PySem.W.Frag} {H : Hp} : ∀ bs : List Bool, DpAll K H (bs.map V.bl) (bs.map PyData.bool)
  | [] => .nil
  | b :: bs => .cons (.bl b) (bools_dp bs)
theorem bools_lay : ∀ l : List Bool, PyData.canLayAll0 (l.map PyData.bool) = true
  | [] => rfl
  | b :: r => by
    rw [List.map_cons]
    unfold PyData.canLayAll0
    rw [bools_lay r, Bool.and_true]
    rfl
theorem bools_depth : ∀ l : List Bool, PyData.depthAll (l.map PyData.bool) = 0
  | [] => rfl
  | b :: r => by
    rw [List.map_cons]
    unfold PyData.depthAll
    rw [bools_depth r]
    rfl
theorem bools_shaped (l : List Bool) : SeqAt.shaped (.list (l.map PyData.bool)) = true := by
  unfold SeqAt.shaped
  rw [Bool.and_eq_true]
  constructor
  · unfold PyData.canLay0
    exact bools_lay l
  · unfold PyData.depth
    rw [bools_depth]
    exact rfl
theorem ne_refl {d : PyData} (h : SeqAt.shaped d = true) : (!PyData.eqv d d) = false := by
  rw [SeqAt.eqv_refl d (SeqAt.canLay_of_shaped h)]
  rfl
theorem if_false {c : Bool} {A B : Prop} (hc : c = false) (h : B) : if c = true then A else B := by
  rw [hc]
  exact iteF h
theorem if_true {c : Bool} {A B : Prop} (hc : c = true) (h : A) : if c = true then A else B := by
  rw [hc]
  exact iteT h
end Lk
namespace Lk
open PySem PySem.Spec PyProof.Rows L2 G
/-- small texts of usual signs -/
def SmallS (z : Str) : Prop := 0 < z.length ∧ z.length ≤ 10 ∧ ∀ c ∈ z.cps.toList, c < 1000
theorem cat_codes (a b : Str) : (a ++ b).cps.toList = a.cps.toList ++ b.cps.toList := by
  show (a.cps ++ b.cps).toList = _
  rw [Array.toList_append]
theorem cat_len (a b : Str) : (a ++ b).length = a.length + b.length := by
  show (a.cps ++ b.cps).size = _
  rw [Array.size_append]
  rfl
theorem cutS_all (z : Str) (b : Nat) : cutS z none (some (b : Int)) = tx (z.cps.toList.take b) := by
  unfold cutS
  rw [HT.sIx_nat, HT.sIx_none, List.drop_zero, Nat.sub_zero]
  have e : z.cps.toList.length = z.length := by simp [Str.length]
  by_cases h : b ≤ z.length
  · rw [Nat.min_eq_left h]
  · rw [Nat.min_eq_right (by omega), List.take_of_length_le (by omega), List.take_of_length_le (by omega)]
theorem tx_len (l : List Nat) : (tx l).length = l.length := by simp [Str.length]
theorem tx_codes (l : List Nat) : (tx l).cps.toList = l := by simp
theorem lcp_comm : ∀ a b : List Nat, lcp a b = lcp b a
  | [], [] => rfl
  | [], b :: bs => by simp [lcp]
  | a :: as, [] => by simp [lcp]
  | a :: as, b :: bs => by
    unfold lcp
    by_cases h : a = b
    · rw [if_pos h, if_pos h.symm, lcp_comm as bs, h]
    · rw [if_neg h, if_neg fun z => h z.symm]
/-- data that repr shows: small leaves, not too much of it -/
structure Shows (d : PyData) : Prop where
  leaves : d.leavesShort 13 = true
  weight : d.weight ≤ 1048576
  shape : d.showable = true
  dict : d.hasDict = true → hasList d = false
  depth : d.depth ≤ 60
theorem Shows.ok {d : PyData} (h : Shows d) : ReprOk d :=
  ⟨h.shape, h.dict, h.depth, PyData.shown_fits (by decide) (by decide) h.leaves h.weight⟩
theorem shows_str {z : Str} (h1 : z.length ≤ 100000) (h2 : ∀ c ∈ z.cps.toList, c < 1000) : Shows (.str z) where
  leaves := by
    unfold PyData.leavesShort
    rw [List.all_eq_true]
    intro c hc
    exact decide_eq_true (Nat.lt_trans (h2 c hc) (by decide))
  weight := by
    unfold PyData.weight
    exact Nat.le_trans h1 (by decide)
  shape := by unfold PyData.showable; rfl
  dict := fun h => by
    unfold PyData.hasDict at h
    cases h
  depth := by unfold PyData.depth; exact Nat.zero_le _
theorem shows_bool (b : Bool) : Shows (.bool b) where
  leaves := by unfold PyData.leavesShort; rfl
  weight := by unfold PyData.weight; exact Nat.zero_le _
  shape := by unfold PyData.showable; rfl
  dict := fun h => by
    unfold PyData.hasDict at h
    cases h
  depth := by unfold PyData.depth; exact Nat.zero_le _
theorem shows_none : Shows .none where
  leaves := by unfold PyData.leavesShort; rfl
  weight := by unfold PyData.weight; exact Nat.zero_le _
  shape := by unfold PyData.showable; rfl
  dict := fun h => by
    unfold PyData.hasDict at h
    cases h
  depth := by unfold PyData.depth; exact Nat.zero_le _
theorem shows_zero : Shows (.int 0) where
  leaves := by unfold PyData.leavesShort; decide +kernel
  weight := by unfold PyData.weight; decide
  shape := by unfold PyData.showable; decide
  dict := fun h => by
    unfold PyData.hasDict at h
    cases h
  depth := by unfold PyData.depth; exact Nat.zero_le _
theorem shows_emp : Shows (.dict []) where
  leaves := by unfold PyData.leavesShort PyData.leavesShortKv; rfl
  weight := by unfold PyData.weight PyData.weightKv; exact Nat.zero_le _
  shape := by unfold PyData.showable PyData.showableKv; rfl
  dict := fun _ => by unfold hasList; rfl
  depth := by unfold PyData.depth PyData.depthKv; decide
theorem shows_tup1 {z : Str} (h1 : z.length ≤ 100000) (h2 : ∀ c ∈ z.cps.toList, c < 1000) : Shows (.tuple [.str z]) where
  leaves := by
    have h := (shows_str h1 h2).leaves
    simp only [PyData.leavesShort, PyData.leavesShortAll, Bool.and_true] at h ⊢
    exact h
  weight := by
    have h := (shows_str h1 h2).weight
    simp only [PyData.weight, PyData.weightAll] at h ⊢
    have : z.cps.size ≤ 100000 := h1
    omega
  shape := by simp [PyData.showable, PyData.showableAll]
  dict := fun h => by simp [PyData.hasDict, PyData.hasDictAll] at h
  depth := by simp [PyData.depth, PyData.depthAll]
theorem shows_lst1 {z : Str} (h1 : z.length ≤ 100000) (h2 : ∀ c ∈ z.cps.toList, c < 1000) : Shows (.list [.str z]) where
  leaves := by
    have h := (shows_str h1 h2).leaves
    simp only [PyData.leavesShort, PyData.leavesShortAll, Bool.and_true] at h ⊢
    exact h
  weight := by
    have h := (shows_str h1 h2).weight
    simp only [PyData.weight, PyData.weightAll] at h ⊢
    have : z.cps.size ≤ 100000 := h1
    omega
  shape := by simp [PyData.showable, PyData.showableAll]
  dict := fun h => by simp [PyData.hasDict, PyData.hasDictAll] at h
  depth := by simp [PyData.depth, PyData.depthAll]
theorem rep_mem {z : Str} {n c : Nat} (h : c ∈ (repS z n).cps.toList) : c ∈ z.cps.toList := by
  rw [repS_codes] at h
  obtain ⟨l, hl, hc⟩ := List.mem_flatten.mp h
  rw [(List.mem_replicate.mp hl).2] at hc
  exact hc
/-- the ones for the signs that are not among s -/
def strange (s : Str) (l : List Nat) : List Nat := l.filter fun c => !s.cps.toList.contains c
theorem strange_nil (s z : Str) : strange s z.cps.toList = [] ↔ allIn s z = true := by
  unfold strange allIn
  rw [List.filter_eq_nil_iff, List.all_eq_true]
  simp
theorem eqv_nil_ints (ns : List Int) : PyData.eqv (.list (ns.map PyData.int)) (.list []) = decide (ns = []) := by
  cases ns with
  | nil => simp [PyData.eqv, PyData.eqvAll]
  | cons n r => simp [PyData.eqv, PyData.eqvAll]
end Lk
namespace Lk
open PySem PySem.Spec PyProof.Rows L2 G
theorem and_str {d : PyData} {z : Str} {t : TE} {σ : L2.St} {Q : VK} {H : Hp} (h : ∀ y, d = .str y → ∀ Q' : VK, (∀ H', Same H H' → Q' (.bl (allIn z y)) H') → t σ H Q')
    (k : ∀ H', Same H H' → Q (.bl (isWord z d)) H') : if isStr d = true then t σ H Q else Q (.bl false) H := by
  cases d with
  | str y => exact iteT (h y rfl Q k)
  | none => exact iteF (k _ (Same.refl _))
  | bool _ => exact iteF (k _ (Same.refl _))
  | int _ => exact iteF (k _ (Same.refl _))
  | list _ => exact iteF (k _ (Same.refl _))
  | tuple _ => exact iteF (k _ (Same.refl _))
  | dict _ => exact iteF (k _ (Same.refl _))
theorem ne_same {x : V} : (!decide (x = x)) = false := by simp
end Lk
namespace Lk
open PySem L2
theorem strange_in {s : Str} {c : Nat} (l : List Nat) (h : c ∈ s.cps.toList) : strange s (l ++ [c]) = strange s l := by
  unfold strange
  rw [List.filter_append]
  have e : s.cps.toList.contains c = true := List.contains_iff_mem.mpr h
  rw [List.filter_cons_of_neg (by rw [e]; decide), List.filter_nil, List.append_nil]
theorem strange_out {s : Str} {c : Nat} (l : List Nat) (h : ¬ c ∈ s.cps.toList) : strange s (l ++ [c]) = strange s l ++ [c] := by
  unfold strange
  rw [List.filter_append]
  have e : s.cps.toList.contains c = false := by
    rw [Bool.eq_false_iff]
    exact fun z => h (List.contains_iff_mem.mp z)
  rw [List.filter_cons_of_pos (by rw [e]; decide), List.filter_nil]
end Lk

/-! Error classes among one another, for isinstance and except. -/
namespace Lk
open PySem PySem.Spec PyProof.Rows L2 G
structure ClsF (K : PySem.W.Frag) (C : Addr) : Prop where
  hd : PySem.W.hasDictIn K C = true
  ty : PySem.W.typeIn K (.ref C) = some (.type "type")
  self : PySem.W.subIn K (.ref C) (.ref C) = some true
theorem kit_sub {K : PySem.W.Frag} {D C : Addr} {b : Bool} (F : ClsF K C) (h : PySem.W.subIn K (.ref D) (.ref C) = some b) : PySem.W.kitOne K (.ref D) (.ref C) = some b := by
  unfold PySem.W.kitOne
  by_cases e : D = C
  · subst e
    have hb := F.self.symm.trans h
    rw [if_pos (beq_self_eq_true _)]
    exact hb
  · have ne : ¬ ((Value.ref D == Value.ref C) = true) := fun z => e (Value.ref.inj (beq_iff_eq.mp z))
    rw [if_neg ne]
    obtain ⟨cd, hc, _⟩ := PySem.W.any_some F.hd
    have e2 : ((PySem.W.clsIn K C).isSome && PySem.W.typeIn K (.ref C) == some (.type "type")) = true := by
      rw [hc, F.ty] <;> rfl
    show (if ((PySem.W.clsIn K C).isSome && PySem.W.typeIn K (.ref C) == some (.type "type")) = true then PySem.W.subIn K (.ref D) (.ref C) else none) = some b
    rw [if_pos e2]
    exact h
theorem kit_subT {K : PySem.W.Frag} {D : Addr} {T : String} {b : Bool} (m : PySem.W.kitMeta T = true) (h : PySem.W.subIn K (.ref D) (.type T) = some b) : PySem.W.kitOne K (.ref D) (.type T) = some b := by
  unfold PySem.W.kitOne
  have ne : ¬ ((Value.ref D == Value.type T) = true) := fun z => by cases beq_iff_eq.mp z
  rw [if_neg ne]
  show (if PySem.W.kitMeta T = true then PySem.W.subIn K (.ref D) (.type T) else none) = some b
  rw [if_pos m]
  exact h
def RowS (K : PySem.W.Frag) (D : Addr) : List Addr → List Bool → Prop
  | c :: cs, b :: bs => PySem.W.subIn K (.ref D) (.ref c) = some b ∧ RowS K D cs bs
  | _, _ => True
theorem row_of {K : PySem.W.Frag} {D : Addr} : ∀ {cs : List Addr} {bs : List Bool}, (∀ c ∈ cs, ClsF K c) → RowS K D cs bs → RowK K D cs bs
  | [], _, _, _ => trivial
  | _ :: _, [], _, _ => trivial
  | c :: cs, b :: bs, F, ⟨h, t⟩ => ⟨kit_sub (F c List.mem_cons_self) h, row_of (fun d hd => F d (List.mem_cons_of_mem _ hd)) t⟩
def AllC (K : PySem.W.Frag) : List Addr → Prop
  | [] => True
  | c :: cs => ClsF K c ∧ AllC K cs
theorem AllC.all {K : PySem.W.Frag} : ∀ {cs : List Addr}, AllC K cs → ∀ c ∈ cs, ClsF K c
  | [], _, c, h => (List.not_mem_nil h).elim
  | d :: ds, ⟨h1, h2⟩, c, h => by
    rcases List.mem_cons.mp h with e | e
    · rw [e]
      exact h1
    · exact h2.all c e
theorem up_of {K : PySem.W.Frag} {D S : Addr} (F : ClsF K S) (h1 : PySem.W.subIn K (.ref D) (.ref S) = some true) (h2 : PySem.W.subIn K (.ref D) (.type "ValueError") = some true)
    (h3 : PySem.W.subIn K (.ref D) (.type "KeyError") = some false) (h4 : PySem.W.subIn K (.ref D) (.type "IndexError") = some false) (h5 : PySem.W.subIn K (.ref D) (.type "TypeError") = some false) :
    PySem.W.kitOne K (.ref D) (.ref S) = some true ∧ PySem.W.kitOne K (.ref D) (.type "ValueError") = some true ∧ PySem.W.kitAny K (.ref D) [.type "KeyError", .type "IndexError", .type "TypeError"] = some false :=
  ⟨kit_sub F h1, kit_subT (by decide +kernel) h2, kitAny_cons (kit_subT (by decide +kernel) h3) (fun _ => kitAny_cons (kit_subT (by decide +kernel) h4) (fun _ => kitAny_cons (kit_subT (by decide +kernel) h5) (fun _ => kitAny_nil) (fun z => nomatch z)) (fun z => nomatch z)) (fun z => nomatch z)⟩
end Lk

namespace K01
open PySem PySem.Spec PyProof.Rows L2 G Lk
/-! ### the text by places -/
def top (i : Nat) : Stmt := PySem.Challenge.pw_rescans_k01_errors_and_words.main.body.getD i (.Pass ⟨0, 0, 0, 0⟩)
abbrev s_is_word : Stmt := top 14
abbrev N_is_word : List Str := ["signs", "thing"]
theorem sc_is_word : FnScope N_is_word ["signs", "thing"] (defScope s_is_word) := ⟨rfl, rfl, rfl, by decide +kernel, rfl, by decide +kernel, by decide +kernel⟩
abbrev s_is_text : Stmt := top 15
abbrev N_is_text : List Str := ["signs", "thing"]
theorem sc_is_text : FnScope N_is_text ["signs", "thing"] (defScope s_is_text) := ⟨rfl, rfl, rfl, by decide +kernel, rfl, by decide +kernel, by decide +kernel⟩
abbrev s_common : Stmt := top 16
abbrev N_common : List Str := ["one", "other", "low", "high", "middle"]
theorem sc_common : FnScope N_common ["one", "other"] (defScope s_common) := ⟨rfl, rfl, rfl, by decide +kernel, rfl, by decide +kernel, by decide +kernel⟩
abbrev s_Lkneaded : Stmt := top 18
abbrev N_Lkneaded : List Str := ["seed", "lap", "prime", "amount", "again"]
theorem sc_Lkneaded : FnScope N_Lkneaded ["seed", "lap"] (defScope s_Lkneaded) := ⟨rfl, rfl, rfl, by decide +kernel, rfl, by decide +kernel, by decide +kernel⟩
abbrev s_Lpot_of : Stmt := top 19
abbrev N_Lpot_of : List Str := ["script", "cells", "place", "cell"]
theorem sc_Lpot_of : FnScope N_Lpot_of ["script"] (defScope s_Lpot_of) := ⟨rfl, rfl, rfl, by decide +kernel, rfl, by decide +kernel, by decide +kernel⟩
abbrev s_Lbelow : Stmt := top 20
abbrev N_Lbelow : List Str := ["pot", "bound", "found", "amount", "cells", "place"]
theorem sc_Lbelow : FnScope N_Lbelow ["pot", "bound"] (defScope s_Lbelow) := ⟨rfl, rfl, rfl, by decide +kernel, rfl, by decide +kernel, by decide +kernel⟩
abbrev s_Lpick : Stmt := top 21
abbrev N_Lpick : List Str := ["pot", "items"]
theorem sc_Lpick : FnScope N_Lpick ["pot", "items"] (defScope s_Lpick) := ⟨rfl, rfl, rfl, by decide +kernel, rfl, by decide +kernel, by decide +kernel⟩
abbrev s_Lmade : Stmt := top 22
abbrev N_Lmade : List Str := ["limit", "place", "found"]
theorem sc_Lmade : FnScope N_Lmade ["limit", "place"] (defScope s_Lmade) := ⟨rfl, rfl, rfl, by decide +kernel, rfl, by decide +kernel, by decide +kernel⟩
abbrev s_Lclasses : Stmt := top 23
abbrev N_Lclasses : List Str := ["error", "found"]
theorem sc_Lclasses : FnScope N_Lclasses ["error"] (defScope s_Lclasses) := ⟨rfl, rfl, rfl, by decide +kernel, rfl, by decide +kernel, by decide +kernel⟩
abbrev s_Lsome_string : Stmt := top 24
abbrev N_Lsome_string : List Str := ["pot", "signs", "limit", "lap"]
theorem sc_Lsome_string : FnScope N_Lsome_string ["pot", "signs", "limit"] (defScope s_Lsome_string) := ⟨rfl, rfl, rfl, by decide +kernel, rfl, by decide +kernel, by decide +kernel⟩
abbrev s_Lerrors_right : Stmt := top 25
abbrev N_Lerrors_right : List Str := ["pot", "errors", "row", "error", "fields", "limit", "place", "at", "spot"]
theorem sc_Lerrors_right : FnScope N_Lerrors_right ["pot"] (defScope s_Lerrors_right) := ⟨rfl, rfl, rfl, by decide +kernel, rfl, by decide +kernel, by decide +kernel⟩
abbrev s_law : Stmt := top 26
abbrev N_law : List Str := ["script", "pot", "turn", "signs", "text", "some", "thing", "other", "at", "one", "two", "due", "before", "is_right", "size", "sign"]
theorem sc_law : FnScope N_law ["script"] (defScope s_law) := ⟨rfl, rfl, rfl, by decide +kernel, rfl, by decide +kernel, by decide +kernel⟩
/-! ### what the top leaves -/
structure Tx (K : PySem.W.Frag) (mg : Str → Option Value) where
  a_is_word : Addr
  fd_is_word : FuncData
  g_is_word : mg "is_word" = some (.ref a_is_word)
  F_is_word : Fun K "is_word" "is_word" s_is_word a_is_word fd_is_word
  b_is_word : Binds K fd_is_word ["signs", "thing"] []
  a_is_text : Addr
  fd_is_text : FuncData
  g_is_text : mg "is_text" = some (.ref a_is_text)
  F_is_text : Fun K "is_text" "is_text" s_is_text a_is_text fd_is_text
  b_is_text : Binds K fd_is_text ["signs", "thing"] []
  a_common : Addr
  fd_common : FuncData
  g_common : mg "common" = some (.ref a_common)
  F_common : Fun K "common" "common" s_common a_common fd_common
  b_common : Binds K fd_common ["one", "other"] []
  a__law_kneaded : Addr
  fd__law_kneaded : FuncData
  g__law_kneaded : mg "_law_kneaded" = some (.ref a__law_kneaded)
  F__law_kneaded : Fun K "_law_kneaded" "_law_kneaded" s_Lkneaded a__law_kneaded fd__law_kneaded
  b__law_kneaded : Binds K fd__law_kneaded ["seed", "lap"] []
  a__law_pot_of : Addr
  fd__law_pot_of : FuncData
  g__law_pot_of : mg "_law_pot_of" = some (.ref a__law_pot_of)
  F__law_pot_of : Fun K "_law_pot_of" "_law_pot_of" s_Lpot_of a__law_pot_of fd__law_pot_of
  b__law_pot_of : Binds K fd__law_pot_of ["script"] []
  a__law_below : Addr
  fd__law_below : FuncData
  g__law_below : mg "_law_below" = some (.ref a__law_below)
  F__law_below : Fun K "_law_below" "_law_below" s_Lbelow a__law_below fd__law_below
  b__law_below : Binds K fd__law_below ["pot", "bound"] []
  a__law_pick : Addr
  fd__law_pick : FuncData
  g__law_pick : mg "_law_pick" = some (.ref a__law_pick)
  F__law_pick : Fun K "_law_pick" "_law_pick" s_Lpick a__law_pick fd__law_pick
  b__law_pick : Binds K fd__law_pick ["pot", "items"] []
  a__law_made : Addr
  fd__law_made : FuncData
  g__law_made : mg "_law_made" = some (.ref a__law_made)
  F__law_made : Fun K "_law_made" "_law_made" s_Lmade a__law_made fd__law_made
  b__law_made : Binds K fd__law_made ["limit", "place"] []
  a__law_classes : Addr
  fd__law_classes : FuncData
  g__law_classes : mg "_law_classes" = some (.ref a__law_classes)
  F__law_classes : Fun K "_law_classes" "_law_classes" s_Lclasses a__law_classes fd__law_classes
  b__law_classes : Binds K fd__law_classes ["error"] []
  a__law_some_string : Addr
  fd__law_some_string : FuncData
  g__law_some_string : mg "_law_some_string" = some (.ref a__law_some_string)
  F__law_some_string : Fun K "_law_some_string" "_law_some_string" s_Lsome_string a__law_some_string fd__law_some_string
  b__law_some_string : Binds K fd__law_some_string ["pot", "signs", "limit"] []
  a__law_errors_right : Addr
  fd__law_errors_right : FuncData
  g__law_errors_right : mg "_law_errors_right" = some (.ref a__law_errors_right)
  F__law_errors_right : Fun K "_law_errors_right" "_law_errors_right" s_Lerrors_right a__law_errors_right fd__law_errors_right
  b__law_errors_right : Binds K fd__law_errors_right ["pot"] []
  a_law : Addr
  fd_law : FuncData
  g_law : mg "law" = some (.ref a_law)
  F_law : Fun K "law" "law" s_law a_law fd_law
  b_law : Binds K fd_law ["script"] []
  z_IndexError : mg "IndexError" = none
  z_KeyError : mg "KeyError" = none
  z_TypeError : mg "TypeError" = none
  z_ValueError : mg "ValueError" = none
  z_abs : mg "abs" = none
  z_enumerate : mg "enumerate" = none
  z_int : mg "int" = none
  z_isinstance : mg "isinstance" = none
  z_len : mg "len" = none
  z_list : mg "list" = none
  z_min : mg "min" = none
  z_range : mg "range" = none
  z_repr : mg "repr" = none
  z_str : mg "str" = none
  t_MOST_TEXT : Tok
  m_MOST_TEXT : mg "MOST_TEXT" = some (.int 200 t_MOST_TEXT)
  a_ScanError : Addr
  g_ScanError : mg "ScanError" = some (.ref a_ScanError)
  e_ScanError : ExcC K a_ScanError
  xi_ScanError : PySem.W.excIn K a_ScanError veRest "ValueError.__new__" = true
  k_ScanError : PySem.W.keepIn K (.ref a_ScanError) = true
  a_TooMany : Addr
  g_TooMany : mg "TooMany" = some (.ref a_TooMany)
  e_TooMany : ExcC K a_TooMany
  o_TooMany : OexC K a_TooMany
  x_TooMany : XfC K a_TooMany
  i_TooMany : Addr
  if_TooMany : FuncData
  ii_TooMany : PySem.W.findIn K (.ref a_TooMany) "__init__" = some (some (.ref i_TooMany))
  it_TooMany : PySem.W.typeIn K (.ref i_TooMany) = some (.type "function")
  iF_TooMany : Fun K "__init__" "TooMany.__init__" (inClass (top 2) 0) i_TooMany if_TooMany
  ib_TooMany : Binds K if_TooMany ["self", "limit"] []
  nf_TooMany_limit : PySem.W.findIn K (.ref a_TooMany) "limit" = some none
  a_SyntaxProblem : Addr
  g_SyntaxProblem : mg "SyntaxProblem" = some (.ref a_SyntaxProblem)
  e_SyntaxProblem : ExcC K a_SyntaxProblem
  o_SyntaxProblem : OexC K a_SyntaxProblem
  x_SyntaxProblem : XfC K a_SyntaxProblem
  i_SyntaxProblem : Addr
  if_SyntaxProblem : FuncData
  ii_SyntaxProblem : PySem.W.findIn K (.ref a_SyntaxProblem) "__init__" = some (some (.ref i_SyntaxProblem))
  it_SyntaxProblem : PySem.W.typeIn K (.ref i_SyntaxProblem) = some (.type "function")
  iF_SyntaxProblem : Fun K "__init__" "SyntaxProblem.__init__" (inClass (top 3) 0) i_SyntaxProblem if_SyntaxProblem
  ib_SyntaxProblem : Binds K if_SyntaxProblem ["self", "line", "column"] []
  nf_SyntaxProblem_line : PySem.W.findIn K (.ref a_SyntaxProblem) "line" = some none
  nf_SyntaxProblem_column : PySem.W.findIn K (.ref a_SyntaxProblem) "column" = some none
  a_NoOutcome : Addr
  g_NoOutcome : mg "NoOutcome" = some (.ref a_NoOutcome)
  e_NoOutcome : ExcC K a_NoOutcome
  o_NoOutcome : OexC K a_NoOutcome
  x_NoOutcome : XfC K a_NoOutcome
  i_NoOutcome : Addr
  if_NoOutcome : FuncData
  ii_NoOutcome : PySem.W.findIn K (.ref a_NoOutcome) "__init__" = some (some (.ref i_NoOutcome))
  it_NoOutcome : PySem.W.typeIn K (.ref i_NoOutcome) = some (.type "function")
  iF_NoOutcome : Fun K "__init__" "NoOutcome.__init__" (inClass (top 4) 0) i_NoOutcome if_NoOutcome
  ib_NoOutcome : Binds K if_NoOutcome ["self", "kind", "thread"] []
  nf_NoOutcome_kind : PySem.W.findIn K (.ref a_NoOutcome) "kind" = some none
  nf_NoOutcome_thread : PySem.W.findIn K (.ref a_NoOutcome) "thread" = some none
  a_NoExpander : Addr
  g_NoExpander : mg "NoExpander" = some (.ref a_NoExpander)
  e_NoExpander : ExcC K a_NoExpander
  xi_NoExpander : PySem.W.excIn K a_NoExpander veRest "ValueError.__new__" = true
  k_NoExpander : PySem.W.keepIn K (.ref a_NoExpander) = true
  a_NoText : Addr
  g_NoText : mg "NoText" = some (.ref a_NoText)
  e_NoText : ExcC K a_NoText
  xi_NoText : PySem.W.excIn K a_NoText veRest "ValueError.__new__" = true
  k_NoText : PySem.W.keepIn K (.ref a_NoText) = true
  a_NoCall : Addr
  g_NoCall : mg "NoCall" = some (.ref a_NoCall)
  e_NoCall : ExcC K a_NoCall
  xi_NoCall : PySem.W.excIn K a_NoCall veRest "ValueError.__new__" = true
  k_NoCall : PySem.W.keepIn K (.ref a_NoCall) = true
  a_NoName : Addr
  g_NoName : mg "NoName" = some (.ref a_NoName)
  e_NoName : ExcC K a_NoName
  xi_NoName : PySem.W.excIn K a_NoName veRest "ValueError.__new__" = true
  k_NoName : PySem.W.keepIn K (.ref a_NoName) = true
  a_NoMark : Addr
  g_NoMark : mg "NoMark" = some (.ref a_NoMark)
  e_NoMark : ExcC K a_NoMark
  xi_NoMark : PySem.W.excIn K a_NoMark veRest "ValueError.__new__" = true
  k_NoMark : PySem.W.keepIn K (.ref a_NoMark) = true
  a_Mismatch : Addr
  g_Mismatch : mg "Mismatch" = some (.ref a_Mismatch)
  e_Mismatch : ExcC K a_Mismatch
  xi_Mismatch : PySem.W.excIn K a_Mismatch veRest "ValueError.__new__" = true
  k_Mismatch : PySem.W.keepIn K (.ref a_Mismatch) = true
  a_InvalidCommand : Addr
  g_InvalidCommand : mg "InvalidCommand" = some (.ref a_InvalidCommand)
  e_InvalidCommand : ExcC K a_InvalidCommand
  xi_InvalidCommand : PySem.W.excIn K a_InvalidCommand veRest "ValueError.__new__" = true
  k_InvalidCommand : PySem.W.keepIn K (.ref a_InvalidCommand) = true
  r_ScanError : RowK K a_ScanError [a_TooMany, a_SyntaxProblem, a_NoOutcome, a_NoExpander, a_NoText, a_NoCall, a_NoName, a_NoMark, a_Mismatch, a_InvalidCommand] [false, false, false, false, false, false, false, false, false, false]
  r_TooMany : RowK K a_TooMany [a_TooMany, a_SyntaxProblem, a_NoOutcome, a_NoExpander, a_NoText, a_NoCall, a_NoName, a_NoMark, a_Mismatch, a_InvalidCommand] [true, false, false, false, false, false, false, false, false, false]
  u_TooMany : PySem.W.kitOne K (.ref a_TooMany) (.ref a_ScanError) = some true ∧ PySem.W.kitOne K (.ref a_TooMany) (.type "ValueError") = some true ∧ PySem.W.kitAny K (.ref a_TooMany) [.type "KeyError", .type "IndexError", .type "TypeError"] = some false
  r_SyntaxProblem : RowK K a_SyntaxProblem [a_TooMany, a_SyntaxProblem, a_NoOutcome, a_NoExpander, a_NoText, a_NoCall, a_NoName, a_NoMark, a_Mismatch, a_InvalidCommand] [false, true, false, false, false, false, false, false, false, false]
  u_SyntaxProblem : PySem.W.kitOne K (.ref a_SyntaxProblem) (.ref a_ScanError) = some true ∧ PySem.W.kitOne K (.ref a_SyntaxProblem) (.type "ValueError") = some true ∧ PySem.W.kitAny K (.ref a_SyntaxProblem) [.type "KeyError", .type "IndexError", .type "TypeError"] = some false
  r_NoOutcome : RowK K a_NoOutcome [a_TooMany, a_SyntaxProblem, a_NoOutcome, a_NoExpander, a_NoText, a_NoCall, a_NoName, a_NoMark, a_Mismatch, a_InvalidCommand] [false, false, true, false, false, false, false, false, false, false]
  u_NoOutcome : PySem.W.kitOne K (.ref a_NoOutcome) (.ref a_ScanError) = some true ∧ PySem.W.kitOne K (.ref a_NoOutcome) (.type "ValueError") = some true ∧ PySem.W.kitAny K (.ref a_NoOutcome) [.type "KeyError", .type "IndexError", .type "TypeError"] = some false
  r_NoExpander : RowK K a_NoExpander [a_TooMany, a_SyntaxProblem, a_NoOutcome, a_NoExpander, a_NoText, a_NoCall, a_NoName, a_NoMark, a_Mismatch, a_InvalidCommand] [false, false, false, true, false, false, false, false, false, false]
  u_NoExpander : PySem.W.kitOne K (.ref a_NoExpander) (.ref a_ScanError) = some true ∧ PySem.W.kitOne K (.ref a_NoExpander) (.type "ValueError") = some true ∧ PySem.W.kitAny K (.ref a_NoExpander) [.type "KeyError", .type "IndexError", .type "TypeError"] = some false
  r_NoText : RowK K a_NoText [a_TooMany, a_SyntaxProblem, a_NoOutcome, a_NoExpander, a_NoText, a_NoCall, a_NoName, a_NoMark, a_Mismatch, a_InvalidCommand] [false, false, false, false, true, false, false, false, false, false]
  u_NoText : PySem.W.kitOne K (.ref a_NoText) (.ref a_ScanError) = some true ∧ PySem.W.kitOne K (.ref a_NoText) (.type "ValueError") = some true ∧ PySem.W.kitAny K (.ref a_NoText) [.type "KeyError", .type "IndexError", .type "TypeError"] = some false
  r_NoCall : RowK K a_NoCall [a_TooMany, a_SyntaxProblem, a_NoOutcome, a_NoExpander, a_NoText, a_NoCall, a_NoName, a_NoMark, a_Mismatch, a_InvalidCommand] [false, false, false, false, false, true, false, false, false, false]
  u_NoCall : PySem.W.kitOne K (.ref a_NoCall) (.ref a_ScanError) = some true ∧ PySem.W.kitOne K (.ref a_NoCall) (.type "ValueError") = some true ∧ PySem.W.kitAny K (.ref a_NoCall) [.type "KeyError", .type "IndexError", .type "TypeError"] = some false
  r_NoName : RowK K a_NoName [a_TooMany, a_SyntaxProblem, a_NoOutcome, a_NoExpander, a_NoText, a_NoCall, a_NoName, a_NoMark, a_Mismatch, a_InvalidCommand] [false, false, false, false, false, false, true, false, false, false]
  u_NoName : PySem.W.kitOne K (.ref a_NoName) (.ref a_ScanError) = some true ∧ PySem.W.kitOne K (.ref a_NoName) (.type "ValueError") = some true ∧ PySem.W.kitAny K (.ref a_NoName) [.type "KeyError", .type "IndexError", .type "TypeError"] = some false
  r_NoMark : RowK K a_NoMark [a_TooMany, a_SyntaxProblem, a_NoOutcome, a_NoExpander, a_NoText, a_NoCall, a_NoName, a_NoMark, a_Mismatch, a_InvalidCommand] [false, false, false, false, false, false, false, true, false, false]
  u_NoMark : PySem.W.kitOne K (.ref a_NoMark) (.ref a_ScanError) = some true ∧ PySem.W.kitOne K (.ref a_NoMark) (.type "ValueError") = some true ∧ PySem.W.kitAny K (.ref a_NoMark) [.type "KeyError", .type "IndexError", .type "TypeError"] = some false
  r_Mismatch : RowK K a_Mismatch [a_TooMany, a_SyntaxProblem, a_NoOutcome, a_NoExpander, a_NoText, a_NoCall, a_NoName, a_NoMark, a_Mismatch, a_InvalidCommand] [false, false, false, false, false, false, false, false, true, false]
  u_Mismatch : PySem.W.kitOne K (.ref a_Mismatch) (.ref a_ScanError) = some true ∧ PySem.W.kitOne K (.ref a_Mismatch) (.type "ValueError") = some true ∧ PySem.W.kitAny K (.ref a_Mismatch) [.type "KeyError", .type "IndexError", .type "TypeError"] = some false
  r_InvalidCommand : RowK K a_InvalidCommand [a_TooMany, a_SyntaxProblem, a_NoOutcome, a_NoExpander, a_NoText, a_NoCall, a_NoName, a_NoMark, a_Mismatch, a_InvalidCommand] [false, false, false, false, false, false, false, false, false, true]
  u_InvalidCommand : PySem.W.kitOne K (.ref a_InvalidCommand) (.ref a_ScanError) = some true ∧ PySem.W.kitOne K (.ref a_InvalidCommand) (.type "ValueError") = some true ∧ PySem.W.kitAny K (.ref a_InvalidCommand) [.type "KeyError", .type "IndexError", .type "TypeError"] = some false
end K01

namespace K01
open PySem PySem.Spec PyProof.Rows L2 G Lk
section
variable {P : Program} {w : World} {K : PySem.W.Frag} {mg : Str → Option Value} {base : Heap}
/-- is_word of a text and data -/
def sp_is_word (K : PySem.W.Frag) : Sp := fun vs H Q _ => ∃ (s : Str) (v : V) (d : PyData), vs = [.str s, v] ∧ Dq K H v d ∧ (∀ z, d = .str z → z.length ≤ sizeLine) ∧ Q (.bl (isWord s d)) H
/-- def is_word(signs, thing): -/
theorem ok_is_word (T : Tx K mg) : FnOk P w K mg base CX0 1 T.a_is_word T.fd_is_word ["signs", "thing"] (sp_is_word K) := by
  refine T.F_is_word.ok sc_is_word (fun vs H Q E h => ?_) (fun cdv A outer s H vs Q E hr h => ?_)
  · obtain ⟨_, _, _, rfl, _⟩ := h
    rfl
  · refine ⟨_, (pss_one (ps_ret (pe_and (pe_callB call_isi (by rfl) T.z_isinstance (by decide +kernel) (pa_cons (pv 1) (pa_cons (pe_bltn (v := .ty "str") (by rfl) T.z_str (by decide +kernel) rfl) pa_nil))) (pe_one (pe_cmpR op_eq (pe_bm PySem.F.plainAttrs_str PySem.F.slot_str_strip PySem.F.type_str_strip mt_stripChars (pv 1) (pa_cons (pv 0) pa_nil)) pe_str (nomark _)))))), ?_⟩
    obtain ⟨s, v, d, rfl, hd, hz, q⟩ := h
    refine ⟨v, rfl, v, .ty "str", _, _, _, rfl, .ty "str", hd.ty, kStr d, _, rfl, ?_⟩
    cases hd with
    | str z =>
      refine iteT ⟨.str z, rfl, rfl, .str s, rfl, z, s, rfl, rfl, hz z rfl, ?_⟩
      refine ⟨rfl, ?_⟩
      show Q (.bl (decide (V.str (Txt.stripChars z s) = V.str (tx [])))) H
      rw [strip_none]
      exact q
    | non => exact iteF q
    | bl b => exact iteF q
    | int i => exact iteF q
    | lst _ _ => exact iteF q
    | tup _ _ => exact iteF q
    | emp _ => exact iteF q
end
end K01

namespace K01
open PySem PySem.Spec PyProof.Rows L2 G Lk
section
variable {P : Program} {w : World} {K : PySem.W.Frag} {mg : Str → Option Value} {base : Heap}
/-- is_text of a text and data -/
def isText (s : Str) : PyData → Bool
  | .str z => allIn s z && decide (z.length ≤ 200)
  | _ => false
def sp_is_text (K : PySem.W.Frag) : Sp := fun vs H Q _ => ∃ (s : Str) (v : V) (d : PyData), vs = [.str s, v] ∧ Dq K H v d ∧ (∀ z, d = .str z → z.length ≤ sizeLine) ∧ Q (.bl (isText s d)) H
/-- def is_text(signs, thing): -/
theorem ok_is_text (T : Tx K mg) : FnOk P w K mg base CX0 2 T.a_is_text T.fd_is_text ["signs", "thing"] (sp_is_text K) := by
  refine T.F_is_text.ok sc_is_text (fun vs H Q E h => ?_) (fun cdv A outer s H vs Q E hr h => ?_)
  · obtain ⟨_, _, _, rfl, _⟩ := h
    rfl
  · refine ⟨_, (pss_one (ps_ret (pe_and (pe_call (ok_is_word T) (hr.mono (by decide)) (by rfl) T.g_is_word T.F_is_word.kp T.b_is_word .nil pass0 (pa_cons (pv 0) (pa_cons (pv 1) pa_nil))) (pe_one (pe_cmpR op_le (pe_callB call_len_str (by rfl) T.z_len PySem.boot_len (pa_cons (pv 1) pa_nil)) (pe_glob (v := .int 200) (by rfl) T.m_MOST_TEXT ⟨_, rfl⟩) (nomark _)))))), ?_⟩
    obtain ⟨s, v, d, rfl, hd, hz, q⟩ := h
    refine ⟨.str s, rfl, v, rfl, s, v, d, rfl, hd, hz, _, rfl, ?_⟩
    cases hd with
    | str z =>
      have q : Q (.bl (allIn s z && decide (z.length ≤ 200))) H := q
      show if allIn s z = true then _ else _
      cases e : allIn s z with
      | false =>
        rw [e] at q
        exact iteF q
      | true =>
        rw [e] at q
        refine iteT ⟨.str z, rfl, z, rfl, hz z rfl, _, _, rfl, rfl, ?_⟩
        have e2 : decide (((z.length : Nat) : Int) ≤ 200) = (true && decide (z.length ≤ 200)) := by
          rw [Bool.true_and]
          exact decide_eq_decide.mpr ⟨fun x => by omega, fun x => by omega⟩
        show Q (.bl (decide (((z.length : Nat) : Int) ≤ 200))) H
        rw [e2]
        exact q
    | non => exact iteF q
    | bl b => exact iteF q
    | int i => exact iteF q
    | lst _ _ => exact iteF q
    | tup _ _ => exact iteF q
    | emp _ => exact iteF q
end
end K01

namespace K01
open PySem PySem.Spec PyProof.Rows L2 G Lk
section
variable {P : Program} {w : World} {K : PySem.W.Frag} {mg : Str → Option Value} {base : Heap}
def sp_common (K : PySem.W.Frag) : Sp := fun vs H Q _ => ∃ (x y : Str), vs = [.str x, .str y] ∧ x.length ≤ sizeLine ∧ y.length ≤ sizeLine ∧ Q (.str (comS x y)) H
/-- def common(one, other): -/
theorem ok_common (T : Tx K mg) : FnOk P w K mg base CX0 1 T.a_common T.fd_common ["one", "other"] (sp_common K) := by
  refine T.F_common.ok sc_common (fun vs H Q E h => ?_) (fun cdv A outer s H vs Q E hr h => ?_)
  · obtain ⟨_, _, rfl, _⟩ := h
    rfl
  · refine ⟨_, (pss_cons (ps_set (i := 2) sc_common.nd rfl (by first | exact Or.inl rfl | exact Or.inr rfl) pe_int)
    (pss_cons (ps_set (i := 3) sc_common.nd rfl (by first | exact Or.inl rfl | exact Or.inr rfl) (pe_callB (call_min2 rfl) (by rfl) T.z_min (by decide +kernel) (pa_cons (pe_callB call_len_str (by rfl) T.z_len PySem.boot_len (pa_cons (pv 0) pa_nil)) (pa_cons (pe_callB call_len_str (by rfl) T.z_len PySem.boot_len (pa_cons (pv 1) pa_nil)) pa_nil))))
    (pss_cons (ps_while PassesOwn.never (pt_cmpR op_lt (pv 2) (pv 3) (nomark _))
      (pss_cons (ps_set (i := 4) sc_common.nd rfl (by first | exact Or.inl rfl | exact Or.inr rfl) (pe_op op_fdiv (pe_op op_add (pe_op op_add (pv 2) (pv 3)) pe_int) pe_int))
    (pss_one (ps_if (pt_cmpR op_eq (pe_slice sl_str (pv 0) (po_some (pv 2)) (po_some (pv 4))) (pe_slice sl_str (pv 1) (po_some (pv 2)) (po_some (pv 4))) (nomark _))
      (pss_one (ps_set (i := 2) sc_common.nd rfl (by first | exact Or.inl rfl | exact Or.inr rfl) (pv 4)))
      (pss_one (ps_set (i := 3) sc_common.nd rfl (by first | exact Or.inl rfl | exact Or.inr rfl) (pe_op op_sub (pv 4) pe_int)))))))
    (pss_one (ps_ret (pe_slice sl_str (pv 0) po_none (po_some (pv 2)))))))), ?_⟩
    obtain ⟨x, y, rfl, hx, hy, q⟩ := h
    have lx : x.cps.toList.length = x.length := by simp [Str.length]
    have ly : y.cps.toList.length = y.length := by simp [Str.length]
    have hc := lcp_len_le x.cps.toList y.cps.toList
    generalize hn : (lcp x.cps.toList y.cps.toList).length = n at hc
    refine ⟨.str x, rfl, x, rfl, hx, .str y, rfl, y, rfl, hy, _, _, rfl, ?_⟩
    refine while_by (fun σ H' => ∃ (lo hi : Nat) (m : Option V), σ = [some (.str x), some (.str y), some (.int (lo : Int)), some (.int (hi : Int)), m] ∧ H' = H ∧ lo ≤ n ∧ n ≤ hi ∧ hi ≤ x.length ∧ hi ≤ y.length)
      (fun σ _ => match σ with | [_, _, some (.int lo), some (.int hi), _] => (hi - lo).toNat | _ => 0) ?_ ?_ ?_
    · refine ⟨0, min x.length y.length, none, ?_, rfl, Nat.zero_le _, by omega, Nat.min_le_left _ _, Nat.min_le_right _ _⟩
      have e : (if ((y.length : Nat) : Int) < ((x.length : Nat) : Int) then ((y.length : Nat) : Int) else ((x.length : Nat) : Int)) = ((min x.length y.length : Nat) : Int) := by
        by_cases c : ((y.length : Nat) : Int) < ((x.length : Nat) : Int)
        · rw [if_pos c]
          omega
        · rw [if_neg c]
          omega
      rw [← e]
      rfl
    · rintro σ H' ⟨lo, hi, m, rfl, rfl, h1, h2, h3, h4⟩
      refine ⟨_, rfl, _, rfl, _, _, rfl, rfl, _, rfl, ite2 (fun c => ?_) (fun c => ?_)⟩
      · have c' : lo < hi := by
          have := of_decide_eq_true c
          omega
        refine ⟨_, rfl, _, rfl, _, _, rfl, rfl, _, _, rfl, rfl, _, _, rfl, rfl, ⟨by decide, by decide⟩, ?_⟩
        have em : (((lo : Int) + (hi : Int) + 1) / 2) = (((lo + hi + 1) / 2 : Nat) : Int) := by omega
        dsimp only
        rw [em]
        generalize hm : (lo + hi + 1) / 2 = mid
        have b1 : lo < mid := by omega
        have b2 : mid ≤ hi := by omega
        refine ⟨_, rfl, _, rfl, _, rfl, _, rfl, _, rfl, _, rfl, hx, _, rfl, _, rfl, _, rfl, _, rfl, _, rfl, _, rfl, hy, rfl, _, rfl, ?_⟩
        dsimp only
        rw [cutS_nat x lo mid (by omega) (by omega), cutS_nat y lo mid (by omega) (by omega)]
        have base : x.cps.toList.take lo = y.cps.toList.take lo := (lcp_take _ _ lo (by omega) (by omega)).mpr (by omega)
        refine ite2 (fun c2 => ?_) (fun c2 => ?_)
        · have q2 := tx_inj (V.str.inj (of_decide_eq_true c2))
          have q3 : mid ≤ n := by
            have := (lcp_take _ _ mid (by omega) (by omega)).mp ((part_eq (by omega) base).mp q2)
            omega
          refine ⟨_, rfl, ⟨mid, hi, _, rfl, rfl, q3, h2, h3, h4⟩, ?_⟩
          show ((hi : Int) - (mid : Int)).toNat < ((hi : Int) - (lo : Int)).toNat
          omega
        · have q3 : ¬ mid ≤ n := fun z => c2 (decide_eq_true (congrArg (fun l => V.str (tx l)) ((part_eq (by omega) base).mpr ((lcp_take _ _ mid (by omega) (by omega)).mpr (by omega)))))
          refine ⟨_, rfl, _, _, rfl, rfl, ⟨lo, mid - 1, some (.int (mid : Int)), ?_, rfl, h1, by omega, by omega, by omega⟩, ?_⟩
          · rw [show (((mid - 1 : Nat)) : Int) = (mid : Int) - 1 by omega]
            rfl
          · show ((mid : Int) - 1 - (lo : Int)).toNat < ((hi : Int) - (lo : Int)).toNat
            omega
      · have c' : ¬ lo < hi := fun z => c (decide_eq_true (by omega))
        have e : lo = n := by omega
        refine ⟨_, rfl, _, rfl, _, rfl, _, rfl, hx, ?_⟩
        rw [cutS_to x lo (by omega), e]
        have e2 : tx (x.cps.toList.take n) = comS x y := by
          unfold comS
          rw [lcp_is, hn]
        rw [e2]
        exact q
    · rintro σ H' Q1 Q2 hQ ⟨u, h1, v, h2, i, j, h3, h4, c, h5, h6⟩
      exact ⟨u, h1, v, h2, i, j, h3, h4, c, h5, hQ _ _ h6⟩
end
end K01

namespace K01
open PySem PySem.Spec PyProof.Rows L2 G Lk
section
variable {P : Program} {w : World} {K : PySem.W.Frag} {mg : Str → Option Value} {base : Heap}
abbrev s_TooMany : Stmt := inClass (top 2) 0
theorem sc_TooMany : FnScope ["self", "limit"] ["self", "limit"] (defScope s_TooMany) := ⟨rfl, rfl, rfl, by decide +kernel, rfl, by decide +kernel, by decide +kernel⟩
theorem ok_TooMany_init (T : Tx K mg) : FnOk P w K mg base CX0 1 T.i_TooMany T.if_TooMany ["self", "limit"] (spInit1 K T.a_TooMany "limit") := by
  refine T.iF_TooMany.ok sc_TooMany (fun vs H Q E h => ?_) (fun cdv A outer s H vs Q E hr h => ?_)
  · obtain ⟨_, _, rfl, _⟩ := h
    rfl
  · obtain ⟨a, v, rfl, ha, q⟩ := h
    refine ⟨_, pss_one (ps_ost (pv 0) (pv 1)), ?_⟩
    refine ⟨_, rfl, _, rfl, a, T.a_TooMany, rfl, T.o_TooMany, T.nf_TooMany_limit, .inl ⟨ha, fun d nd da => ?_⟩⟩
    refine q _ d (fun b o nb e => ?_) upd_same ?_
    · rw [upd_ne nb, upd_ne (ne_of_none e nd)]
      exact e
    · rw [upd_ne da, upd_same]
end
end K01

namespace K01
open PySem PySem.Spec PyProof.Rows L2 G Lk
section
variable {P : Program} {w : World} {K : PySem.W.Frag} {mg : Str → Option Value} {base : Heap}
abbrev s_SyntaxProblem : Stmt := inClass (top 3) 0
theorem sc_SyntaxProblem : FnScope ["self", "line", "column"] ["self", "line", "column"] (defScope s_SyntaxProblem) := ⟨rfl, rfl, rfl, by decide +kernel, rfl, by decide +kernel, by decide +kernel⟩
theorem ok_SyntaxProblem_init (T : Tx K mg) : FnOk P w K mg base CX0 1 T.i_SyntaxProblem T.if_SyntaxProblem ["self", "line", "column"] (spInit2 K T.a_SyntaxProblem "line" "column") := by
  refine T.iF_SyntaxProblem.ok sc_SyntaxProblem (fun vs H Q E h => ?_) (fun cdv A outer s H vs Q E hr h => ?_)
  · obtain ⟨_, _, _, rfl, _⟩ := h
    rfl
  · obtain ⟨a, v, u, rfl, ha, q⟩ := h
    refine ⟨_, pss_cons (ps_ost (pv 0) (pv 1)) (pss_one (ps_ost (pv 0) (pv 2))), ?_⟩
    refine ⟨_, rfl, _, rfl, a, T.a_SyntaxProblem, rfl, T.o_SyntaxProblem, T.nf_SyntaxProblem_line, .inl ⟨ha, fun d nd da => ?_⟩⟩
    refine ⟨_, rfl, _, rfl, a, T.a_SyntaxProblem, rfl, T.o_SyntaxProblem, T.nf_SyntaxProblem_column, .inr ⟨d, [("line", v)], upd_same, by rw [upd_ne da, upd_same], (by show 1 ≤ 900; decide), ?_⟩⟩
    refine q _ d (fun b o nb e => ?_) ?_ upd_same
    · rw [upd_ne (ne_of_none e nd), upd_ne nb, upd_ne (ne_of_none e nd)]
      exact e
    · rw [upd_ne da.symm, upd_same]
end
end K01

namespace K01
open PySem PySem.Spec PyProof.Rows L2 G Lk
section
variable {P : Program} {w : World} {K : PySem.W.Frag} {mg : Str → Option Value} {base : Heap}
abbrev s_NoOutcome : Stmt := inClass (top 4) 0
theorem sc_NoOutcome : FnScope ["self", "kind", "thread"] ["self", "kind", "thread"] (defScope s_NoOutcome) := ⟨rfl, rfl, rfl, by decide +kernel, rfl, by decide +kernel, by decide +kernel⟩
theorem ok_NoOutcome_init (T : Tx K mg) : FnOk P w K mg base CX0 1 T.i_NoOutcome T.if_NoOutcome ["self", "kind", "thread"] (spInitL K T.a_NoOutcome "kind" "thread") := by
  refine T.iF_NoOutcome.ok sc_NoOutcome (fun vs H Q E h => ?_) (fun cdv A outer s H vs Q E hr h => ?_)
  · obtain ⟨_, _, _, _, rfl, _⟩ := h
    rfl
  · obtain ⟨a, l, v, xs, rfl, ha, hl, q⟩ := h
    refine ⟨_, pss_cons (ps_ost (pv 0) (pv 1)) (pss_one (ps_ost (pv 0) (pe_ifExp (pt_val (pe_callB call_isi (by rfl) T.z_isinstance (by decide +kernel) (pa_cons (pv 2) (pa_cons (pe_bltn (v := .ty "list") (by rfl) T.z_list (by decide +kernel) rfl) pa_nil))))
      (pe_callTy call_list_of (by rfl) T.z_list (by decide +kernel) (pa_cons (pv 2) pa_nil)) (pv 2)))), ?_⟩
    have nla : l ≠ a ∨ K.lookup l ≠ none := by
      rcases hl with (h | ⟨o, h⟩) | ⟨o, its, n, h, _⟩
      · refine .inl fun e => ?_
        rw [e, ha] at h
        exact exo_ne_lst (Option.some.inj h)
      · refine .inl fun e => ?_
        rw [e, ha] at h
        exact exo_frz (Option.some.inj h)
      · exact .inr (by rw [h]; exact Option.some_ne_none _)
    refine ⟨_, rfl, _, rfl, a, T.a_NoOutcome, rfl, T.o_NoOutcome, T.nf_NoOutcome_kind, .inl ⟨ha, fun d nd da => ?_⟩⟩
    have hl1 : SqL K (upd (upd H d (exd d [("kind", v)])) a (exo a T.a_NoOutcome (some d))) l xs := by
      rcases hl with (h | ⟨o, h⟩) | h
      · have n : l ≠ a := fun e => by
          rw [e, ha] at h
          exact exo_ne_lst (Option.some.inj h)
        refine .inl (.inl ?_)
        rw [upd_ne n, upd_ne (ne_of_none h nd)]
        exact h
      · have n : l ≠ a := fun e => by
          rw [e, ha] at h
          exact exo_frz (Option.some.inj h)
        refine .inl (.inr ⟨o, ?_⟩)
        rw [upd_ne n, upd_ne (ne_of_none h nd)]
        exact h
      · exact .inr h
    refine ⟨_, rfl, .ref l, .ty "list", _, _, true, rfl, .ty "list", tyx_seqL hl1, kit_ty kit_list_list, _, rfl, ?_⟩
    refine iteT ⟨_, rfl, l, xs, rfl, .inl hl1, fun n nn => ?_⟩
    have nna : n ≠ a := fun e => by
      rw [e, upd_same] at nn
      cases nn
    have nnd : n ≠ d := fun e => by
      rw [e, upd_ne da, upd_same] at nn
      cases nn
    have nH : H n = none := by
      rw [upd_ne nna, upd_ne nnd] at nn
      exact nn
    refine ⟨_, rfl, a, T.a_NoOutcome, rfl, T.o_NoOutcome, T.nf_NoOutcome_thread, .inr ⟨d, [("kind", v)], by rw [upd_ne nna.symm, upd_same], by rw [upd_ne nnd.symm, upd_ne da, upd_same], (by show 1 ≤ 900; decide), ?_⟩⟩
    refine q _ d n (fun b o nb e => ?_) ?_ upd_same ?_ nH
    · rw [upd_ne (ne_of_none e nd), upd_ne (ne_of_none e nH), upd_ne nb, upd_ne (ne_of_none e nd)]
      exact e
    · rw [upd_ne da.symm, upd_ne nna.symm, upd_same]
    · rw [upd_ne nnd, upd_same]
end
end K01

namespace K01
open PySem PySem.Spec PyProof.Rows L2 G Lk
section
variable {P : Program} {w : World} {K : PySem.W.Frag} {mg : Str → Option Value} {base : Heap}
def sp_Lkneaded (K : PySem.W.Frag) : Sp := fun vs H Q _ => ∃ (a b : Int), vs = [.int a, .int b] ∧ ∀ k : Int, Q (.int k) H
/-- def _law_kneaded(seed, lap): -/
theorem ok_Lkneaded (T : Tx K mg) : FnOk P w K mg base CX0 1 T.a__law_kneaded T.fd__law_kneaded ["seed", "lap"] (sp_Lkneaded K) := by
  refine T.F__law_kneaded.ok sc_Lkneaded (fun vs H Q E h => ?_) (fun cdv A outer s H vs Q E hr h => ?_)
  · obtain ⟨_, _, rfl, _⟩ := h
    rfl
  · refine ⟨_, (pss_cons (ps_set (i := 2) sc_Lkneaded.nd rfl (by first | exact Or.inl rfl | exact Or.inr rfl) pe_int)
    (pss_cons (ps_set (i := 3) sc_Lkneaded.nd rfl (by first | exact Or.inl rfl | exact Or.inr rfl) (pe_op op_mod (pe_callTy call_int1 (by rfl) T.z_int (by decide +kernel) (pa_cons (pe_op op_add (pe_op op_add (pe_op op_mul (pv 0) pe_int) (pe_op op_mul (pv 1) pe_int)) pe_int) pa_nil)) (pv 2)))
    (pss_cons (ps_for PassesOwn.never rfl (pi_range1 (by rfl) T.z_range (pa_cons pe_int pa_nil)) (pg_name (i := 4) sc_Lkneaded.nd rfl (by first | exact Or.inl rfl | exact Or.inr rfl))
      (pss_one (ps_set (i := 3) sc_Lkneaded.nd rfl (by first | exact Or.inl rfl | exact Or.inr rfl) (pe_op op_mod (pe_callTy call_int1 (by rfl) T.z_int (by decide +kernel) (pa_cons (pe_op op_add (pe_op op_add (pe_op op_add (pe_op op_mul (pv 3) (pv 3)) (pe_op op_mul pe_int (pv 3))) (pe_op op_mul pe_int (pv 4))) (pv 1)) pa_nil)) (pv 2)))))
    (pss_one (ps_ret (pe_op op_add (pe_op op_mul (pv 3) (pv 2)) (pe_op op_mod (pe_callTy call_int1 (by rfl) T.z_int (by decide +kernel) (pa_cons (pe_op op_add (pe_op op_mul (pv 3) pe_int) (pv 1)) pa_nil)) (pv 2)))))))), ?_⟩
    obtain ⟨a, b, rfl, q⟩ := h
    have hp : (0 : Int) < 2305843009213693907 := by decide
    have lim : ∀ z : Int, -(2 ^ 64) < z % 2305843009213693907 ∧ z % 2305843009213693907 < 2 ^ 64 := fun z =>
      ⟨Int.lt_of_lt_of_le (by decide) (Int.emod_nonneg z (by decide)), Int.lt_trans (Int.emod_lt_of_pos z hp) (by decide)⟩
    refine ⟨_, rfl, _, _, rfl, rfl, .inr ⟨by decide, by decide⟩, _, rfl, _, _, rfl, rfl, .inr ⟨by decide, by decide⟩, _, _, rfl, rfl, _, _, rfl, rfl, .inl ⟨_, rfl, ?_⟩⟩
    refine ⟨_, rfl, _, _, rfl, rfl, hp, ?_⟩
    refine ⟨4, rfl, by decide, by decide, for_range (n := 4) (fun _ σ H' => ∃ (m : Int) (t : Option V), σ = [some (.int a), some (.int b), some (.int 2305843009213693907), some (.int m), t] ∧ H' = H ∧ -(2 ^ 64) < m ∧ m < 2 ^ 64)
      ⟨_, none, rfl, rfl, (lim _).1, (lim _).2⟩ ?_ ?_⟩
    · rintro i σ H' hi ⟨m, t, rfl, rfl, h1, h2⟩
      refine ⟨_, rfl, _, rfl, _, _, rfl, rfl, .inl ⟨h1, h2⟩, _, rfl, _, _, rfl, rfl, .inl ⟨by decide, by decide⟩, _, _, rfl, rfl, _, rfl, _, _, rfl, rfl, .inl ⟨by decide, by decide⟩, _, _, rfl, rfl, _, rfl, _, _, rfl, rfl, .inl ⟨_, rfl, ?_⟩⟩
      exact ⟨_, rfl, _, _, rfl, rfl, hp, _, _, rfl, rfl, (lim _).1, (lim _).2⟩
    · rintro σ H' ⟨m, t, rfl, rfl, h1, h2⟩
      refine ⟨_, rfl, _, rfl, _, _, rfl, rfl, .inl ⟨h1, h2⟩, _, rfl, _, _, rfl, rfl, .inr ⟨by decide, by decide⟩, _, rfl, _, _, rfl, rfl, .inl ⟨_, rfl, ?_⟩⟩
      exact ⟨_, rfl, _, _, rfl, rfl, hp, _, _, rfl, rfl, q _⟩
end
end K01

namespace K01
open PySem PySem.Spec PyProof.Rows L2 G Lk
section
variable {P : Program} {w : World} {K : PySem.W.Frag} {mg : Str → Option Value} {base : Heap}
/-- a new pot -/
def sp_Lpot_of (K : PySem.W.Frag) : Sp := fun vs H Q _ => ∃ (a : Addr) (ns : List Int), vs = [.ref a] ∧ SqL K H a (ns.map V.int) ∧ ns.length ≤ 63 ∧
  ∀ (H' : Hp) (p c : Addr), Same H H' → H p = none → Pot K H' p c → Q (.ref p) H'
/-- def _law_pot_of(script): -/
theorem ok_Lpot_of (T : Tx K mg) : FnOk P w K mg base CX0 1 T.a__law_pot_of T.fd__law_pot_of ["script"] (sp_Lpot_of K) := by
  refine T.F__law_pot_of.ok sc_Lpot_of (fun vs H Q E h => ?_) (fun cdv A outer s H vs Q E hr h => ?_)
  · obtain ⟨_, _, rfl, _⟩ := h
    rfl
  · refine ⟨_, (pss_cons (ps_setLc (i := 1) (own := [("cell", 3)]) (g := gName 3) (by rfl) sc_Lpot_of.nd rfl rfl (sw_true rfl rfl rfl (by decide +kernel)) (pi_list (pe_slice sl_list (pv 0) po_none (po_some pe_int))) (blkOk_by (own := [("cell", 3)]) (N := N_Lpot_of) (sc := defScope s_Lpot_of) (by decide +kernel)) (fun _ _ _ _ _ => pg_name (i := 3) sc_Lpot_of.nd rfl (by first | exact Or.inl rfl | exact Or.inr rfl)) (fun _ _ _ _ _ => pts_nil) (fun _ _ _ _ _ => (pe_callB call_abs (by rfl) T.z_abs (by decide +kernel) (pa_cons (pv 3) pa_nil))))
    (pss_cons (ps_for PassesOwn.never rfl (pi_enum (by rfl) T.z_enumerate (pa_cons (pe_slice sl_list (pv 0) (po_some pe_int) (po_some pe_int)) pa_nil)) (pg_tup rfl (pgs_cons (pg_name (i := 2) sc_Lpot_of.nd rfl (by first | exact Or.inl rfl | exact Or.inr rfl)) (pgs_cons (pg_name (i := 3) sc_Lpot_of.nd rfl (by first | exact Or.inl rfl | exact Or.inr rfl)) pgs_nil)))
      (pss_one (ps_asg (pe_op op_add (pe_ix ix_list (pv 1) (pe_op op_mod (pv 2) pe_int) (fun _ _ => rfl)) (pe_callB call_abs (by rfl) T.z_abs (by decide +kernel) (pa_cons (pv 3) pa_nil))) (pg_sub (pv 1) (pe_op op_mod (pv 2) pe_int) set_list))))
    (pss_one (ps_ret (pe_lst (pa_cons (pv 1) (pa_cons pe_int (pa_cons pe_int (pa_cons pe_int pa_nil))))))))), ?_⟩
    obtain ⟨a, ns, rfl, hS, hlen, q⟩ := h
    refine ⟨_, rfl, _, rfl, a, _, rfl, hS, fun e ne => ?_⟩
    have s1 : Same H (upd H e (.lst (cutV (ns.map V.int) none (some 17)))) := same_new ne
    have e17 : cutV (ns.map V.int) none (some 17) = (ns.take 17).map V.int := by
      rw [show (17 : Int) = ((17 : Nat) : Int) from rfl, cutV_to, List.map_take]
    have hE : (upd H e (.lst (cutV (ns.map V.int) none (some 17)))) e = some (.lst ((ns.take 17).map V.int)) := by
      rw [upd_same, e17]
    generalize upd H e (.lst (cutV (ns.map V.int) none (some 17))) = H1 at s1 hE
    refine ⟨e, rfl, ⟨_, SqL.of hE⟩, fun D hD => ?_⟩
    have neD : e ≠ D := ne_of_none hE hD
    refine lc_list (K := K) (a := e) (xs := (ns.take 17).map V.int) (fun i H' => Same H1 H' ∧ ∃ ms : List Int, ms.length = i ∧ H' D = some (.lst (ms.map V.int)))
      ⟨same_new hD, [], rfl, upd_same⟩ (fun i H' _ ⟨s, _⟩ => seqL s (SqL.of hE)) ?_ ?_
    · rintro i x H' hi ⟨s, ms, hm, hD'⟩
      obtain ⟨n, rfl⟩ : ∃ n, x = V.int n := by
        rw [List.getElem?_map, Option.map_eq_some_iff] at hi
        obtain ⟨n, _, rfl⟩ := hi
        exact ⟨n, rfl⟩
      have h17 : i < 17 := by
        have z := (List.getElem?_eq_some_iff.mp hi).1
        rw [List.length_map, List.length_take] at z
        omega
      refine ⟨rfl, _, rfl, _, rfl, _, hD', ?_, ?_, ms ++ [if n < 0 then -n else n], ?_, ?_⟩
      · rw [List.length_map, hm]
        exact Nat.lt_trans h17 (by decide)
      · exact fun b o z => (upd_ne (ne_of_none z hD)).trans (s b o z)
      · rw [List.length_append, hm]
        rfl
      · rw [upd_same, List.map_append]
        rfl
    · rintro H2 ⟨s2, ms, hm, hD2⟩
      rw [List.length_map, List.length_take] at hm
      have sH : Same H H2 := s1.trans s2
      have hDH : H D = none := s1.free hD
      have hS2 : SqL K H2 a (ns.map V.int) := sH.seq hS
      refine ⟨_, rfl, _, rfl, _, rfl, a, _, rfl, hS2, fun f nf => ?_⟩
      have nDf : D ≠ f := ne_of_none hD2 nf
      have e43 : cutV (ns.map V.int) (some 17) (some 60) = ((ns.drop 17).take 43).map V.int := by
        unfold cutV
        rw [show (17 : Int) = ((17 : Nat) : Int) from rfl, show (60 : Int) = ((60 : Nat) : Int) from rfl, HT.sIx_nat, HT.sIx_nat, List.map_take, List.map_drop, List.length_map]
        by_cases c : 17 ≤ ns.length
        · rw [Nat.min_eq_left c]
          by_cases c2 : 60 ≤ ns.length
          · rw [Nat.min_eq_left c2]
          · rw [Nat.min_eq_right (by omega : ns.length ≤ 60), List.take_of_length_le (by rw [List.length_drop, List.length_map]; omega), List.take_of_length_le (by rw [List.length_drop, List.length_map]; omega)]
        · rw [Nat.min_eq_right (by omega : ns.length ≤ 17), List.drop_of_length_le (by rw [List.length_map]; omega), List.drop_of_length_le (by rw [List.length_map]; omega)]
          simp
      have s3 : Same H (upd H2 f (.lst (cutV (ns.map V.int) (some 17) (some 60)))) := sH.trans (same_new nf)
      have hF : (upd H2 f (.lst (cutV (ns.map V.int) (some 17) (some 60)))) f = some (.lst (((ns.drop 17).take 43).map V.int)) := by
        rw [upd_same, e43]
      have hD3 : (upd H2 f (.lst (cutV (ns.map V.int) (some 17) (some 60)))) D = some (.lst (ms.map V.int)) := by
        rw [upd_ne nDf]
        exact hD2
      generalize upd H2 f (.lst (cutV (ns.map V.int) (some 17) (some 60))) = H3 at s3 hF hD3
      refine ⟨f, _, rfl, SqL.of hF, ?_⟩
      generalize hg : (ns.drop 17).take 43 = gs at hF
      have h17 : 0 < gs.length → ms.length = 17 := fun z => by
        rw [← hg, List.length_take, List.length_drop] at z
        omega
      refine ⟨fun i m σ H' => ∃ (t2 t3 : Option V) (ks : List Int), σ = [some (.ref a), some (.ref D), t2, t3] ∧ m = gs.length - i ∧ Same H H' ∧ H' f = some (.lst (gs.map V.int)) ∧ H' D = some (.lst (ks.map V.int)) ∧ ks.length = ms.length,
        ⟨gs.length, none, none, ms, rfl, rfl, s3, hF, hD3, rfl⟩, ?_⟩
      rintro i m σ H' ⟨t2, t3, ks, rfl, em, sm, ef, ed, ek⟩
      by_cases hi : i < gs.length
      · have hg1 : (gs.map V.int)[i]? = some (.int gs[i]) := by
          rw [List.getElem?_map, List.getElem?_eq_getElem hi]
          rfl
        refine .inr ⟨⟨_, _, SqL.of ef, hg1⟩, fun σ' H'' => ∃ (t2 t3 : Option V) (ks : List Int), σ' = [some (.ref a), some (.ref D), t2, t3] ∧ Same H H'' ∧ H'' f = some (.lst (gs.map V.int)) ∧ H'' D = some (.lst (ks.map V.int)) ∧ ks.length = ms.length, ?_, ?_⟩
        · rintro σ' H'' ⟨u2, u3, ls, e1, e2, e3, e4, e5⟩
          exact ⟨gs.length - (i + 1), by omega, u2, u3, ls, e1, rfl, e2, e3, e4, e5⟩
        · rintro v H'' ⟨T0, x, rfl, nT, rfl, fx⟩
          obtain rfl : x = .int gs[i] := Option.some.inj ((fx _ (SqL.of ef)).symm.trans hg1)
          have nDT : D ≠ T0 := ne_of_none ed nT
          have nfT : f ≠ T0 := ne_of_none ef nT
          have hk := h17 (by omega)
          have sT : Same H' (upd H' T0 (.tup [.int ((i : Nat) : Int), .int gs[i]])) := same_new nT
          refine ⟨T0, _, rfl, SqT.of upd_same, rfl, _, _, rfl, _, _, rfl, rfl, ?_⟩
          have p17 : (0 : Int) < 17 := by decide
          have hz : (((i : Nat) : Int) % 17).toNat < ks.length := by
            have z1 := Int.emod_nonneg ((i : Nat) : Int) (by decide : (17 : Int) ≠ 0)
            have z2 := Int.emod_lt_of_pos ((i : Nat) : Int) p17
            omega
          have ez := Int.toNat_of_nonneg (Int.emod_nonneg ((i : Nat) : Int) (by decide : (17 : Int) ≠ 0))
          have e3 := atI_nat (xs := ks.map V.int) (j := (((i : Nat) : Int) % 17).toNat) (v := .int ks[(((i : Nat) : Int) % 17).toNat]) (by rw [List.getElem?_map, List.getElem?_eq_getElem hz]; rfl)
          have e4 : ixN (ks.map V.int).length (((i : Nat) : Int) % 17) = some (((i : Nat) : Int) % 17).toNat := by
            have z := ixN_nat (n := (ks.map V.int).length) (j := (((i : Nat) : Int) % 17).toNat) (by rw [List.length_map]; exact hz)
            rw [ez] at z
            exact z
          rw [ez] at e3
          have ed2 : (upd H' T0 (.tup [.int ((i : Nat) : Int), .int gs[i]])) D = some (.lst (ks.map V.int)) := sT _ _ ed
          refine ⟨_, rfl, _, rfl, _, _, rfl, rfl, p17, D, _, _, _, rfl, rfl, SqL.of ed2, e3, _, rfl, _, rfl, _, _, rfl, rfl, _, rfl, _, rfl, _, _, rfl, rfl, p17, D, _, _, _, rfl, rfl, ed2, e4, ?_⟩
          refine ⟨_, _, ks.set (((i : Nat) : Int) % 17).toNat (ks[(((i : Nat) : Int) % 17).toNat] + (if gs[i] < 0 then -gs[i] else gs[i])), rfl, ?_, ?_, ?_, ?_⟩
          · exact fun b o z => (upd_ne (ne_of_none z hDH)).trans (sT _ _ (sm b o z))
          · rw [upd_ne nDf.symm]
            exact sT _ _ ef
          · rw [upd_same, List.map_set]
          · rw [List.length_set]
            exact ek
      · refine .inl ⟨⟨_, SqL.of ef, by rw [List.length_map]; omega⟩, ?_⟩
        refine ⟨_, rfl, (by show 4 ≤ sizeLine; decide), fun p np => ?_⟩
        have nDp : D ≠ p := ne_of_none ed np
        refine q _ p D (sm.trans (same_new np)) (sm.free np) ⟨⟨0, 0, 0, upd_same⟩, ks, ?_, ?_⟩
        · refine SqL.of (sans_of nDp ?_)
          rw [upd_ne nDp]
          exact ed
        · omega
end
end K01

namespace K01
open PySem PySem.Spec PyProof.Rows L2 G Lk
section
variable {P : Program} {w : World} {K : PySem.W.Frag} {mg : Str → Option Value} {base : Heap}
def sp_Lbelow (K : PySem.W.Frag) : Sp := spBelow K
/-- def _law_below(pot, bound): -/
theorem ok_Lbelow (T : Tx K mg) : FnOk P w K mg base CX0 2 T.a__law_below T.fd__law_below ["pot", "bound"] (sp_Lbelow K) := by
  refine T.F__law_below.ok sc_Lbelow (fun vs H Q E h => ?_) (fun cdv A outer s H vs Q E hr h => ?_)
  · obtain ⟨_, _, _, rfl, _⟩ := h
    rfl
  · refine ⟨_, (C8.pss_cut (ps_if (pt_cmpR op_lt (pe_ix ix_list (pv 0) pe_int (fun _ _ => rfl)) (pv 1) (nomark _))
      (pss_cons (ps_par (i := 4) (j := 5) (by rfl) sc_Lbelow.nd rfl rfl (by decide) rfl rfl (pa_cons (pe_ix ix_list (pv 0) pe_int (fun _ _ => rfl)) (pa_cons (pe_ix ix_list (pv 0) pe_int (fun _ _ => rfl)) pa_nil)) (by rfl))
    (C8.pss_cut (ps_set (i := 3) sc_Lbelow.nd rfl (by first | exact Or.inl rfl | exact Or.inr rfl) (pe_ifExp (pt_cmpR (op_neD hr.units) (pv 4) (pe_lst pa_nil) (nomark _)) (pe_ix ix_list (pv 4) (pe_op op_mod (pv 5) (pe_callB call_len_seq (by rfl) T.z_len PySem.boot_len (pa_cons (pv 4) pa_nil))) (fun _ _ => rfl)) pe_int))
    (C8.pss_cut (ps_if (PW.pt (pw_or (pt_cmpR op_ge (pv 5) (pe_callB call_len_seq (by rfl) T.z_len PySem.boot_len (pa_cons (pv 4) pa_nil)) (nomark _)) (pw_or1 (pt_cmpR op_lt (pv 3) (pe_op op_pow pe_int pe_int) (nomark _)))))
      (pss_one (ps_set (i := 3) sc_Lbelow.nd rfl (by first | exact Or.inl rfl | exact Or.inr rfl) (pe_call (ok_Lkneaded T) (hr.mono (by decide)) (by rfl) T.g__law_kneaded T.F__law_kneaded.kp T.b__law_kneaded .nil pass0 (pa_cons (pe_op op_mod (pe_callTy call_int1 (by rfl) T.z_int (by decide +kernel) (pa_cons (pv 3) pa_nil)) pe_int) (pa_cons (pv 5) pa_nil)))))
      pss_nil)
    (pss_cons (ps_asg (pe_op op_add (pv 5) pe_int) (pg_sub (pv 0) pe_int set_list))
    (pss_cons (ps_asg (pv 3) (pg_sub (pv 0) pe_int set_list))
    (pss_one (ps_asg (pv 3) (pg_sub (pv 0) pe_int set_list))))))))
      pss_nil)
    (pss_cons (ps_set (i := 2) sc_Lbelow.nd rfl (by first | exact Or.inl rfl | exact Or.inr rfl) (pe_op op_mod (pe_callTy call_int1 (by rfl) T.z_int (by decide +kernel) (pa_cons (pe_ix ix_list (pv 0) pe_int (fun _ _ => rfl)) pa_nil)) (pv 1)))
    (pss_cons (ps_asg (pe_op op_fdiv (pe_ix ix_list (pv 0) pe_int (fun _ _ => rfl)) (pv 1)) (pg_sub (pv 0) pe_int set_list))
    (pss_cons (ps_asg (pe_op op_fdiv (pe_ix ix_list (pv 0) pe_int (fun _ _ => rfl)) (pv 1)) (pg_sub (pv 0) pe_int set_list))
    (pss_one (ps_ret (pv 2))))))), ?_⟩
    obtain ⟨a, c, b, rfl, hp, b1, b2, q⟩ := h
    obtain ⟨⟨p, x, y, ha⟩, ns, hc, hl⟩ := id hp
    have hc0 : SqL K H c (ns.map V.int) := seqL sans_same hc
    refine ⟨fun σ H' => ∃ s2 s3 s4 s5 : Option V, σ = [some (.ref a), some (.int b), s2, s3, s4, s5] ∧ Sm a H H' ∧ ∃ p x y : Int, H' a = some (.lst [.ref c, .int p, .int x, .int y]), ?_, ?_⟩
    · refine ⟨_, rfl, a, _, _, _, rfl, rfl, SqL.of ha, atI_nat (j := 3) rfl, _, rfl, _, _, rfl, rfl, _, rfl, ite2 (fun _ => ?_) (fun _ => ?_)⟩
      · refine ⟨_, rfl, a, _, _, _, rfl, rfl, SqL.of ha, atI_nat (j := 0) rfl, _, rfl, a, _, _, _, rfl, rfl, SqL.of ha, atI_nat (j := 1) rfl, _, _, rfl, ?_⟩
        refine ⟨fun σ H' => ∃ m : Int, σ = [some (.ref a), some (.int b), none, some (.int m), some (.ref c), some (.int p)] ∧ Same H H', ?_, ?_⟩
        · refine ⟨_, rfl, Nat.zero_le _, fun l nl => ?_⟩
          have s1 : Same H (upd H l (.lst [])) := same_new nl
          have hc1 : SqL K (upd H l (.lst [])) c (ns.map V.int) := seqL s1 hc0
          refine ⟨.list (ns.map PyData.int), .list [], .lst hc1 (dq_ints ns), .lst (SqL.of upd_same) .nil, shaped_ints ns, shaped_ints [], _, rfl, ?_⟩
          refine ite2 (fun e => ?_) (fun _ => ⟨0, rfl, s1⟩)
          have hpos : 0 < ns.length := by
            cases ns with
            | nil => exact absurd e (by decide)
            | cons n r => exact Nat.succ_pos _
          have hpi : (0 : Int) < (((ns.map V.int).length : Nat) : Int) := by
            rw [List.length_map]
            omega
          have h1 : (p % (((ns.map V.int).length : Nat) : Int)).toNat < ns.length := by
            have z1 := Int.emod_nonneg p (Int.ne_of_gt hpi)
            have z2 := Int.emod_lt_of_pos p hpi
            rw [List.length_map] at z1 z2 ⊢
            omega
          have e3 := atI_nat (xs := ns.map V.int) (j := (p % (((ns.map V.int).length : Nat) : Int)).toNat) (v := .int ns[(p % (((ns.map V.int).length : Nat) : Int)).toNat]) (by rw [List.getElem?_map, List.getElem?_eq_getElem h1]; rfl)
          have z1 := Int.emod_nonneg p (Int.ne_of_gt hpi)
          rw [Int.toNat_of_nonneg z1] at e3
          exact ⟨_, rfl, _, rfl, _, rfl, c, _, rfl, .inl hc1, _, _, rfl, rfl, hpi, c, _, _, _, rfl, rfl, hc1, e3, _, rfl, s1⟩
        · rintro σ H1 ⟨m, rfl, s1⟩
          have hc1 : SqL K H1 c (ns.map V.int) := seqL s1 hc0
          have ha1 := s1 _ _ ha
          refine ⟨fun σ H' => ∃ m : Int, σ = [some (.ref a), some (.int b), none, some (.int m), some (.ref c), some (.int p)] ∧ H' = H1, ?_, ?_⟩
          · refine ⟨_, rfl, _, rfl, c, _, rfl, .inl hc1, _, _, rfl, rfl, _, rfl, ite2 (fun _ => ?_) (fun _ => ?_)⟩
            · refine iteT ⟨_, rfl, .inl ⟨_, rfl, _, _, rfl, rfl, (show (0 : Int) < 982451629 by decide), _, rfl, _, _, rfl, fun k => ⟨k, rfl, rfl⟩⟩⟩
            · refine ⟨_, rfl, _, _, rfl, rfl, ⟨by decide, by decide, by decide⟩, _, _, rfl, rfl, _, rfl, ite2 (fun _ => ?_) (fun _ => ?_)⟩
              · exact ⟨_, rfl, .inl ⟨_, rfl, _, _, rfl, rfl, (show (0 : Int) < 982451629 by decide), _, rfl, _, _, rfl, fun k => ⟨k, rfl, rfl⟩⟩⟩
              · exact ⟨m, rfl, rfl⟩
          · rintro σ H2 ⟨m, rfl, rfl⟩
            refine ⟨_, rfl, _, _, rfl, rfl, _, rfl, a, _, _, 1, rfl, rfl, ha1, rfl, ?_⟩
            refine ⟨_, rfl, _, rfl, a, _, _, 2, rfl, rfl, upd_same, rfl, ?_⟩
            refine ⟨_, rfl, _, rfl, a, _, _, 3, rfl, rfl, upd_same, rfl, ?_⟩
            exact ⟨_, _, _, _, rfl, (((Sm.of s1).trans Sm.pot).trans Sm.pot).trans Sm.pot, _, _, _, upd_same⟩
      · exact ⟨_, _, _, _, rfl, Sm.refl, p, x, y, ha⟩
    · rintro σ H1 ⟨s2, s3, s4, s5, rfl, sm, p, x, y, ha1⟩
      have hb : (0 : Int) < b := by omega
      refine ⟨_, rfl, a, _, _, _, rfl, rfl, SqL.of ha1, atI_nat (j := 2) rfl, .inl ⟨_, rfl, _, rfl, _, _, rfl, rfl, hb, ?_⟩⟩
      refine ⟨_, rfl, a, _, _, _, rfl, rfl, SqL.of ha1, atI_nat (j := 2) rfl, _, rfl, _, _, rfl, rfl, ⟨hb, b2⟩, _, rfl, a, _, _, 2, rfl, rfl, ha1, rfl, ?_⟩
      refine ⟨_, rfl, a, _, _, _, rfl, rfl, SqL.of upd_same, atI_nat (j := 3) rfl, _, rfl, _, _, rfl, rfl, ⟨hb, b2⟩, _, rfl, a, _, _, 3, rfl, rfl, upd_same, rfl, ?_⟩
      have sm2 := (sm.trans Sm.pot).trans (Sm.pot (H := upd H1 a (.lst [.ref c, .int p, .int (x / b), .int y])) (o := .lst [.ref c, .int p, .int (x / b), .int (y / b)]))
      refine ⟨_, rfl, q _ _ sm2 (hp.to sm2 ⟨p, x / b, y / b, upd_same⟩) (Int.emod_nonneg x (by omega)) (Int.emod_lt_of_pos x hb)⟩
end
end K01

namespace K01
open PySem PySem.Spec PyProof.Rows L2 G Lk
section
variable {P : Program} {w : World} {K : PySem.W.Frag} {mg : Str → Option Value} {base : Heap}
def sp_Lpick (K : PySem.W.Frag) : Sp := spPick K
/-- def _law_pick(pot, items): -/
theorem ok_Lpick (T : Tx K mg) : FnOk P w K mg base CX0 3 T.a__law_pick T.fd__law_pick ["pot", "items"] (sp_Lpick K) := by
  refine T.F__law_pick.ok sc_Lpick (fun vs H Q E h => ?_) (fun cdv A outer s H vs Q E hr h => ?_)
  · obtain ⟨_, _, _, _, rfl, _⟩ := h
    rfl
  · refine ⟨_, (pss_one (ps_ret (pe_ix ix_seq (pv 1) (pe_call (ok_Lbelow T) (hr.mono (by decide)) (by rfl) T.g__law_below T.F__law_below.kp T.b__law_below .nil pass0 (pa_cons (pv 0) (pa_cons (pe_callB call_len (by rfl) T.z_len PySem.boot_len (pa_cons (pv 1) pa_nil)) pa_nil))) (fun _ _ => rfl)))), ?_⟩
    obtain ⟨a, c, v, xs, rfl, hp, hne, hx, hl, q⟩ := h
    have hpos : 0 < xs.length := List.length_pos_iff.mpr hne
    refine ⟨_, rfl, _, rfl, _, rfl, ?_⟩
    have fin : ∀ (H' : Hp) (k : Int), 0 ≤ k → k < (xs.length : Int) → ∃ x, xs[k.toNat]? = some x ∧ atI xs k = some x ∧ x ∈ xs := fun H' k k0 k1 => by
      have hk : k.toNat < xs.length := by omega
      refine ⟨xs[k.toNat], List.getElem?_eq_getElem hk, ?_, List.getElem_mem hk⟩
      have e := atI_nat (xs := xs) (j := k.toNat) (List.getElem?_eq_getElem hk)
      rw [show ((k.toNat : Nat) : Int) = k by omega] at e
      exact e
    rcases hx with ⟨l, rfl, h1⟩ | ⟨l, rfl, h1⟩ | ⟨z, rfl, rfl, hz⟩
    · refine ⟨_, xs.length, rfl, .inl ⟨_, seqL sans_same h1, rfl⟩, a, c, _, rfl, hp, by omega, by omega, fun H' k sm hp' k0 k1 => ?_⟩
      obtain ⟨x, e1, e2, e3⟩ := fin H' k k0 k1
      exact .inl ⟨l, xs, k, x, rfl, rfl, seqL sm.same h1, e2, q H' x sm hp' e3⟩
    · refine ⟨_, xs.length, rfl, .inr ⟨_, seqT sans_same h1, rfl⟩, a, c, _, rfl, hp, by omega, by omega, fun H' k sm hp' k0 k1 => ?_⟩
      obtain ⟨x, e1, e2, e3⟩ := fin H' k k0 k1
      exact .inr (.inl ⟨l, xs, k, x, rfl, rfl, seqT sm.same h1, e2, q H' x sm hp' e3⟩)
    · refine ⟨_, z.length, rfl, ⟨hz, rfl⟩, a, c, _, rfl, hp, by rw [sg_len] at hpos; omega, by rw [sg_len] at hl; omega, fun H' k sm hp' k0 k1 => ?_⟩
      have hk : k.toNat < (sg z).length := by rw [sg_len]; omega
      obtain ⟨c, e1, e2⟩ := sg_get hk
      have e3 := atI_nat (xs := z.cps.toList) (j := k.toNat) e2
      rw [show ((k.toNat : Nat) : Int) = k by omega] at e3
      exact .inr (.inr ⟨z, k, c, rfl, rfl, hz, e3, q H' _ sm hp' (e1 ▸ List.getElem_mem hk)⟩)
end
end K01

namespace K01
open PySem PySem.Spec PyProof.Rows L2 G Lk
section
variable {P : Program} {w : World} {K : PySem.W.Frag} {mg : Str → Option Value} {base : Heap}
def sp_Lsome_string (K : PySem.W.Frag) : Sp := fun vs H Q _ => ∃ (a c : Addr) (z : Str) (m : Int), vs = [.ref a, .str z, .int m] ∧ Pot K H a c ∧ 0 < z.length ∧ z.length ≤ 1000 ∧ 0 ≤ m ∧ m ≤ 1000 ∧
  ∀ (H' : Hp) (l : List Nat), Sm a H H' → Pot K H' a c → (l.length : Int) ≤ m → (∀ c ∈ l, c ∈ z.cps.toList) → Q (.str (tx l)) H'
/-- def _law_some_string(pot, signs, limit): -/
theorem ok_Lsome_string (T : Tx K mg) : FnOk P w K mg base CX0 4 T.a__law_some_string T.fd__law_some_string ["pot", "signs", "limit"] (sp_Lsome_string K) := by
  refine T.F__law_some_string.ok sc_Lsome_string (fun vs H Q E h => ?_) (fun cdv A outer s H vs Q E hr h => ?_)
  · obtain ⟨_, _, _, _, rfl, _⟩ := h
    rfl
  · refine ⟨_, (pss_one (ps_ret (pe_join pe_str (pe_lc (own := [("lap", 3)]) (g := gName 3) (by rfl) sc_Lsome_string.nd (pi_range1 (by rfl) T.z_range (pa_cons (pe_call (ok_Lbelow T) (hr.mono (by decide)) (by rfl) T.g__law_below T.F__law_below.kp T.b__law_below .nil pass0 (pa_cons (pv 0) (pa_cons (pe_op op_add (pv 2) pe_int) pa_nil))) pa_nil)) (blkOk_by (own := [("lap", 3)]) (N := N_Lsome_string) (sc := defScope s_Lsome_string) (by decide +kernel)) (fun _ _ _ _ _ => pg_name (i := 3) sc_Lsome_string.nd rfl (by first | exact Or.inl rfl | exact Or.inr rfl)) (fun _ _ _ _ _ => pts_nil) (fun _ _ _ _ _ => (pe_call (ok_Lpick T) (hr.mono (by decide)) (by rfl) T.g__law_pick T.F__law_pick.kp T.b__law_pick .nil pass0 (pa_cons (pv 0) (pa_cons (pe_callTy (call_list_ofS rfl) (by rfl) T.z_list (by decide +kernel) (pa_cons (pv 1) pa_nil)) pa_nil)))))))), ?_⟩
    obtain ⟨a, c, z, m, rfl, hp, z0, z1, m0, m1, q⟩ := h
    have hzl : z.length ≤ sizeLine := Nat.le_trans z1 (by decide)
    refine ⟨⟨_, rfl⟩, _, rfl, _, rfl, _, _, rfl, rfl, a, c, _, rfl, hp, by omega, by omega, fun H1 k sm1 hp1 k0 k1 => ?_⟩
    refine ⟨k, rfl, by omega, by omega, fun D nD => ?_⟩
    have nDa := hp1.ne nD
    refine lc_range (lo := 0) (n := k.toNat) (fun i H' => Sm a H1 H' ∧ PotAt H' a c ∧ ∃ l : List Nat, l.length = i ∧ (∀ c ∈ l, c ∈ z.cps.toList) ∧ H' D = some (.lst ((l.map fun c => tx [c]).map V.str))) ?_ ?_ ?_
    · exact ⟨Sm.new nD, hp1.at_.upd nDa, [], rfl, fun _ h => (List.not_mem_nil h).elim, upd_same⟩
    · rintro i H2 hi ⟨sm2, hp2, l, hl, hc, hD⟩
      refine ⟨rfl, _, rfl, _, rfl, z, rfl, hzl, fun L nL => ?_⟩
      have nLa := hp2.ne nL
      refine ⟨a, c, .ref L, sg z, rfl, hp1.to (sm2.trans (Sm.new nL)) (hp2.upd nLa), ?_, .inl ⟨L, rfl, SqL.of (sans_of nLa upd_same)⟩, by rw [sg_len]; omega, fun H4 x sm4 hp4 hx => ?_⟩
      · intro e
        have := sg_len z
        rw [e] at this
        exact absurd this.symm (Nat.ne_of_gt z0)
      · obtain ⟨c, hcz, rfl⟩ : ∃ c, c ∈ z.cps.toList ∧ x = .str (tx [c]) := by
          unfold sg at hx
          obtain ⟨c, h1, h2⟩ := List.mem_map.mp hx
          exact ⟨c, h1, h2.symm⟩
        have hD4 : H4 D = some (.lst ((l.map fun c => tx [c]).map V.str)) := (sans_some ((Sm.new nL).trans sm4 D _ (sans_of nDa hD))).2
        refine ⟨_, hD4, ?_, ?_, hp4.at_.upd nDa, l ++ [c], ?_, ?_, ?_⟩
        · rw [List.length_map, List.length_map, hl]
          refine Nat.lt_of_lt_of_le (show i < 1001 by omega) (by decide)
        · exact ((sm2.trans (Sm.new nL)).trans sm4).upd (by rw [sans_ne nDa]; exact nD)
        · rw [List.length_append, hl]
          rfl
        · intro d hd
          rcases List.mem_append.mp hd with h | h
          · exact hc d h
          · rw [List.mem_singleton.mp h]
            exact hcz
        · rw [upd_same, List.map_append, List.map_append]
          rfl
    · rintro H2 ⟨sm2, hp2, l, hl, hc, hD⟩
      refine ⟨tx [], D, l.map fun c => tx [c], rfl, rfl, .inl (SqL.of hD), ?_, ?_⟩
      · rw [sum_ones]
        show _ + _ * 0 ≤ _
        omega
      · rw [join_empty, catS_ones]
        exact q _ l (sm1.trans sm2) (hp1.to sm2 hp2) (by omega) hc
end
end K01

namespace K01
open PySem PySem.Spec PyProof.Rows L2 G Lk
section
variable {P : Program} {w : World} {K : PySem.W.Frag} {mg : Str → Option Value} {base : Heap}
/-- the classes, in the law's order -/
def Tx.cs (T : Tx K mg) : List Addr := [T.a_TooMany, T.a_SyntaxProblem, T.a_NoOutcome, T.a_NoExpander, T.a_NoText, T.a_NoCall, T.a_NoName, T.a_NoMark, T.a_Mismatch, T.a_InvalidCommand]
/-- one error of each class, the first three with their fields -/
structure Errs (T : Tx K mg) (H : Hp) (m k : Int) (e0 e1 e2 : Addr) (es : List Addr) : Prop where
  len : es.length = 7
  all : ∀ (i : Nat) (e D : Addr), (e0 :: e1 :: e2 :: es)[i]? = some e → T.cs[i]? = some D → ExAt H e D
  f0 : ∃ d, H e0 = some (exo e0 T.a_TooMany (some d)) ∧ H d = some (exd d [("limit", .int m)])
  f1 : ∃ d, H e1 = some (exo e1 T.a_SyntaxProblem (some d)) ∧ H d = some (exd d [("column", .int m), ("line", .int k)])
  f2 : ∃ d n t, H e2 = some (exo e2 T.a_NoOutcome (some d)) ∧ H d = some (exd d [("thread", .ref n), ("kind", .str "breaks")]) ∧ H n = some (.lst [.ref t]) ∧ H t = some (.tup [.int k, .str "a"])
theorem Errs.mono {T : Tx K mg} {H H' : Hp} {m k : Int} {e0 e1 e2 : Addr} {es : List Addr} (s : Same H H') (h : Errs T H m k e0 e1 e2 es) : Errs T H' m k e0 e1 e2 es := by
  obtain ⟨h1, h2, ⟨d, a1, a2⟩, ⟨d', b1, b2⟩, ⟨d'', n, t, c1, c2, c3, c4⟩⟩ := h
  exact ⟨h1, fun i e D x y => (h2 i e D x y).mono s, ⟨d, s _ _ a1, s _ _ a2⟩, ⟨d', s _ _ b1, s _ _ b2⟩, ⟨d'', n, t, s _ _ c1, s _ _ c2, s _ _ c3, s _ _ c4⟩⟩
def sp_Lmade (K : PySem.W.Frag) (mg : Str → Option Value) (T : Tx K mg) : Sp := fun vs H Q _ => ∃ (m k : Int), vs = [.int m, .int k] ∧
  ∀ (H' : Hp) (p e0 e1 e2 : Addr) (es : List Addr), Same H H' → H p = none → H' p = some (.lst ((e0 :: e1 :: e2 :: es).map V.ref)) → Errs T H' m k e0 e1 e2 es → Q (.ref p) H'
/-- def _law_made(limit, place): -/
theorem ok_Lmade (T : Tx K mg) : FnOk P w K mg base CX0 3 T.a__law_made T.fd__law_made ["limit", "place"] (sp_Lmade K mg T) := by
  refine T.F__law_made.ok sc_Lmade (fun vs H Q E h => ?_) (fun cdv A outer s H vs Q E hr h => ?_)
  · obtain ⟨_, _, rfl, _⟩ := h
    rfl
  · refine ⟨_, (pss_cons (ps_set (i := 2) sc_Lmade.nd rfl (by first | exact Or.inl rfl | exact Or.inr rfl) (pe_lst (pa_cons (pe_mkV T.o_TooMany T.ii_TooMany T.it_TooMany (ok_TooMany_init T) (hr.mono (by decide)) T.ib_TooMany pass0 (by rfl) T.g_TooMany (pa_cons (pv 0) pa_nil)) (pa_cons (pe_mkV T.o_SyntaxProblem T.ii_SyntaxProblem T.it_SyntaxProblem (ok_SyntaxProblem_init T) (hr.mono (by decide)) T.ib_SyntaxProblem pass0 (by rfl) T.g_SyntaxProblem (pa_cons (pv 1) (pa_cons (pv 0) pa_nil))) (pa_cons (pe_mkV T.o_NoOutcome T.ii_NoOutcome T.it_NoOutcome (ok_NoOutcome_init T) (hr.mono (by decide)) T.ib_NoOutcome pass0 (by rfl) T.g_NoOutcome (pa_cons pe_str (pa_cons (pe_lst (pa_cons (pe_tup (pa_cons (pv 1) (pa_cons pe_str pa_nil))) pa_nil)) pa_nil))) (pa_cons (pe_exc1 PySem.F.excBase_ValueError T.xi_NoExpander T.g_NoExpander T.k_NoExpander (by rfl) pe_str) pa_nil))))))
    (pss_one (ps_ret (pe_op op_cat (pv 2) (pe_lst (pa_cons (pe_exc1 PySem.F.excBase_ValueError T.xi_NoText T.g_NoText T.k_NoText (by rfl) pe_str) (pa_cons (pe_exc1 PySem.F.excBase_ValueError T.xi_NoCall T.g_NoCall T.k_NoCall (by rfl) pe_str) (pa_cons (pe_exc1 PySem.F.excBase_ValueError T.xi_NoName T.g_NoName T.k_NoName (by rfl) pe_str) (pa_cons (pe_exc1 PySem.F.excBase_ValueError T.xi_NoMark T.g_NoMark T.k_NoMark (by rfl) pe_str) (pa_cons (pe_exc1 PySem.F.excBase_ValueError T.xi_Mismatch T.g_Mismatch T.k_Mismatch (by rfl) pe_str) (pa_cons (pe_exc1 PySem.F.excBase_ValueError T.xi_InvalidCommand T.g_InvalidCommand T.k_InvalidCommand (by rfl) pe_str) pa_nil))))))))))), ?_⟩
    obtain ⟨m, k, rfl, q⟩ := h
    refine ⟨_, rfl, (by show 1 ≤ 1000; decide), fun e0 n0 => ⟨e0, .int m, rfl, upd_same, fun H1 d0 b0 x0 y0 => ⟨rfl, ?_⟩⟩⟩
    have s0 : Same H H1 := b0.same n0
    refine ⟨_, rfl, _, rfl, (by show 2 ≤ 1000; decide), fun e1 n1 => ⟨e1, .int k, .int m, rfl, upd_same, fun H2 d1 b1 x1 y1 => ⟨rfl, ?_⟩⟩⟩
    have s1 : Same H1 H2 := b1.same n1
    refine ⟨_, rfl, (by show 2 ≤ sizeLine; decide), fun t nt => ⟨(by show 1 ≤ sizeLine; decide), fun l nl => ⟨(by show 2 ≤ 1000; decide), fun e2 n2 => ?_⟩⟩⟩
    have nle : l ≠ e2 := ne_of_none upd_same n2
    have st : Same H2 (upd H2 t (.tup [.int k, .str "a"])) := same_new nt
    have sl : Same (upd H2 t (.tup [.int k, .str "a"])) (upd (upd H2 t (.tup [.int k, .str "a"])) l (.lst [.ref t])) := same_new nl
    refine ⟨e2, l, .str "breaks", [.ref t], rfl, upd_same, SqL.of (by rw [upd_ne nle, upd_same]), fun H3 d2 n b2 x2 y2 z2 _ => ⟨rfl, ?_⟩⟩
    have s2 : Same (upd (upd H2 t (.tup [.int k, .str "a"])) l (.lst [.ref t])) H3 := b2.same n2
    have ht : H3 t = some (.tup [.int k, .str "a"]) := s2 _ _ (sl _ _ upd_same)
    have s23 : Same H2 H3 := (st.trans sl).trans s2
    have s03 : Same H H3 := (s0.trans s1).trans s23
    have ex : ∀ {C : Addr} {a : Addr} {H : Hp} {d : Addr} {fs}, H a = some (exo a C (some d)) → H d = some (exd d fs) → ExAt H a C := fun h1 h2 => .inr ⟨_, h1, _, h2⟩
    intro e3 n3
    have s3 := same_new (o := ExO (.ref T.a_NoExpander) e3) n3
    refine ⟨(by show 4 ≤ sizeLine; decide), fun p np => ?_⟩
    have s4 := same_new (o := .lst [.ref e0, .ref e1, .ref e2, .ref e3]) np
    refine ⟨_, rfl, ?_⟩
    intro e4 n4
    have s5 := same_new (o := ExO (.ref T.a_NoText) e4) n4
    intro e5 n5
    have s6 := same_new (o := ExO (.ref T.a_NoCall) e5) n5
    intro e6 n6
    have s7 := same_new (o := ExO (.ref T.a_NoName) e6) n6
    intro e7 n7
    have s8 := same_new (o := ExO (.ref T.a_NoMark) e7) n7
    intro e8 n8
    have s9 := same_new (o := ExO (.ref T.a_Mismatch) e8) n8
    intro e9 n9
    have s10 := same_new (o := ExO (.ref T.a_InvalidCommand) e9) n9
    refine ⟨(by show 6 ≤ sizeLine; decide), fun r nr => ?_⟩
    have s11 := same_new (o := .lst [.ref e4, .ref e5, .ref e6, .ref e7, .ref e8, .ref e9]) nr
    refine ⟨p, r, _, _, rfl, rfl, s11 _ _ (s10 _ _ (s9 _ _ (s8 _ _ (s7 _ _ (s6 _ _ (s5 _ _ upd_same)))))), upd_same, (by show 10 ≤ sizeLine; decide), fun z nz => ?_⟩
    have s12 := same_new (o := .lst ([.ref e0, .ref e1, .ref e2, .ref e3] ++ [.ref e4, .ref e5, .ref e6, .ref e7, .ref e8, .ref e9])) nz
    have t9 := s10.trans (s11.trans s12)
    have t8 := s9.trans t9
    have t7 := s8.trans t8
    have t6 := s7.trans t7
    have t5 := s6.trans t6
    have t4 := s4.trans (s5.trans t5)
    have t3 := s3.trans t4
    refine q _ z e0 e1 e2 [e3, e4, e5, e6, e7, e8, e9] (s03.trans t3) ?_ upd_same ⟨rfl, ?_, ⟨d0, t3 _ _ (s23 _ _ (s1 _ _ x0)), t3 _ _ (s23 _ _ (s1 _ _ y0))⟩, ⟨d1, t3 _ _ (s23 _ _ x1), t3 _ _ (s23 _ _ y1)⟩, ⟨d2, n, t, t3 _ _ x2, t3 _ _ y2, t3 _ _ z2, t3 _ _ ht⟩⟩
    · exact ((s03.trans s3).trans (s4.trans (s5.trans (s6.trans (s7.trans (s8.trans (s9.trans (s10.trans s11)))))))).free nz
    · intro i e D h1 h2
      match i, h1, h2 with
      | 0, h1, h2 => cases h1; cases h2; exact ((ex x0 y0).mono (s1.trans s23)).mono t3
      | 1, h1, h2 => cases h1; cases h2; exact ((ex x1 y1).mono s23).mono t3
      | 2, h1, h2 => cases h1; cases h2; exact (ex x2 y2).mono t3
      | 3, h1, h2 => cases h1; cases h2; exact .inl (t4 _ _ upd_same)
      | 4, h1, h2 => cases h1; cases h2; exact .inl (t5 _ _ upd_same)
      | 5, h1, h2 => cases h1; cases h2; exact .inl (t6 _ _ upd_same)
      | 6, h1, h2 => cases h1; cases h2; exact .inl (t7 _ _ upd_same)
      | 7, h1, h2 => cases h1; cases h2; exact .inl (t8 _ _ upd_same)
      | 8, h1, h2 => cases h1; cases h2; exact .inl (t9 _ _ upd_same)
      | 9, h1, h2 => cases h1; cases h2; exact .inl ((s11.trans s12) _ _ upd_same)
      | n + 10, h1, h2 => simp at h1
end
end K01

namespace K01
open PySem PySem.Spec PyProof.Rows L2 G Lk
section
variable {P : Program} {w : World} {K : PySem.W.Frag} {mg : Str → Option Value} {base : Heap}
def Tx.cl (T : Tx K mg) : List Addr := [T.a_TooMany, T.a_SyntaxProblem, T.a_NoOutcome, T.a_NoExpander, T.a_NoText, T.a_NoCall, T.a_NoName, T.a_NoMark, T.a_Mismatch, T.a_InvalidCommand]
def sp_Lclasses (K : PySem.W.Frag) (mg : Str → Option Value) (T : Tx K mg) : Sp := fun vs H Q _ => ∃ (a D : Addr) (b0 b1 b2 b3 b4 b5 b6 b7 b8 b9 : Bool), vs = [.ref a] ∧ ExAt H a D ∧ ExcC K D ∧ RowK K D T.cl [b0, b1, b2, b3, b4, b5, b6, b7, b8, b9] ∧
  ∀ (H' : Hp) (p : Addr), Same H H' → H p = none → H' p = some (.lst ([b0, b1, b2, b3, b4, b5, b6, b7, b8, b9].map V.bl)) → Q (.ref p) H'
/-- def _law_classes(error): -/
theorem ok_Lclasses (T : Tx K mg) : FnOk P w K mg base CX0 1 T.a__law_classes T.fd__law_classes ["error"] (sp_Lclasses K mg T) := by
  refine T.F__law_classes.ok sc_Lclasses (fun vs H Q E h => ?_) (fun cdv A outer s H vs Q E hr h => ?_)
  · obtain ⟨_, _, _, _, _, _, _, _, _, _, _, _, rfl, _⟩ := h
    rfl
  · refine ⟨_, (pss_cons (ps_set (i := 1) sc_Lclasses.nd rfl (by first | exact Or.inl rfl | exact Or.inr rfl) (pe_lst (pa_cons (pe_callB call_isX (by rfl) T.z_isinstance (by decide +kernel) (pa_cons (pv 0) (pa_cons (pe_glob (v := .ref T.a_TooMany) (by rfl) T.g_TooMany rfl) pa_nil))) (pa_cons (pe_callB call_isX (by rfl) T.z_isinstance (by decide +kernel) (pa_cons (pv 0) (pa_cons (pe_glob (v := .ref T.a_SyntaxProblem) (by rfl) T.g_SyntaxProblem rfl) pa_nil))) (pa_cons (pe_callB call_isX (by rfl) T.z_isinstance (by decide +kernel) (pa_cons (pv 0) (pa_cons (pe_glob (v := .ref T.a_NoOutcome) (by rfl) T.g_NoOutcome rfl) pa_nil))) pa_nil)))))
    (pss_cons (ps_set (i := 1) sc_Lclasses.nd rfl (by first | exact Or.inl rfl | exact Or.inr rfl) (pe_op op_cat (pv 1) (pe_lst (pa_cons (pe_callB call_isX (by rfl) T.z_isinstance (by decide +kernel) (pa_cons (pv 0) (pa_cons (pe_glob (v := .ref T.a_NoExpander) (by rfl) T.g_NoExpander rfl) pa_nil))) (pa_cons (pe_callB call_isX (by rfl) T.z_isinstance (by decide +kernel) (pa_cons (pv 0) (pa_cons (pe_glob (v := .ref T.a_NoText) (by rfl) T.g_NoText rfl) pa_nil))) (pa_cons (pe_callB call_isX (by rfl) T.z_isinstance (by decide +kernel) (pa_cons (pv 0) (pa_cons (pe_glob (v := .ref T.a_NoCall) (by rfl) T.g_NoCall rfl) pa_nil))) pa_nil))))))
    (pss_cons (ps_set (i := 1) sc_Lclasses.nd rfl (by first | exact Or.inl rfl | exact Or.inr rfl) (pe_op op_cat (pv 1) (pe_lst (pa_cons (pe_callB call_isX (by rfl) T.z_isinstance (by decide +kernel) (pa_cons (pv 0) (pa_cons (pe_glob (v := .ref T.a_NoName) (by rfl) T.g_NoName rfl) pa_nil))) (pa_cons (pe_callB call_isX (by rfl) T.z_isinstance (by decide +kernel) (pa_cons (pv 0) (pa_cons (pe_glob (v := .ref T.a_NoMark) (by rfl) T.g_NoMark rfl) pa_nil))) (pa_cons (pe_callB call_isX (by rfl) T.z_isinstance (by decide +kernel) (pa_cons (pv 0) (pa_cons (pe_glob (v := .ref T.a_Mismatch) (by rfl) T.g_Mismatch rfl) pa_nil))) pa_nil))))))
    (pss_one (ps_ret (pe_op op_cat (pv 1) (pe_lst (pa_cons (pe_callB call_isX (by rfl) T.z_isinstance (by decide +kernel) (pa_cons (pv 0) (pa_cons (pe_glob (v := .ref T.a_InvalidCommand) (by rfl) T.g_InvalidCommand rfl) pa_nil))) pa_nil)))))))), ?_⟩
    obtain ⟨a, D, b0, b1, b2, b3, b4, b5, b6, b7, b8, b9, rfl, hx, hC, ⟨r0, r1, r2, r3, r4, r5, r6, r7, r8, r9, _⟩, q⟩ := h
    refine ⟨_, rfl, a, D, _, _, b0, rfl, hx, hC, .own _, r0, _, rfl, a, D, _, _, b1, rfl, hx, hC, .own _, r1, _, rfl, a, D, _, _, b2, rfl, hx, hC, .own _, r2, (by show 3 ≤ sizeLine; decide), fun p np => ?_⟩
    have s1 := same_new (o := .lst [.bl b0, .bl b1, .bl b2]) np
    have hx1 := hx.mono s1
    refine ⟨_, rfl, _, rfl, a, D, _, _, b3, rfl, hx1, hC, .own _, r3, _, rfl, a, D, _, _, b4, rfl, hx1, hC, .own _, r4, _, rfl, a, D, _, _, b5, rfl, hx1, hC, .own _, r5, (by show 3 ≤ sizeLine; decide), fun p2 np2 => ?_⟩
    have s2 := same_new (o := .lst [.bl b3, .bl b4, .bl b5]) np2
    refine ⟨p, p2, _, _, rfl, rfl, s2 _ _ upd_same, upd_same, (by show 6 ≤ sizeLine; decide), fun p3 np3 => ?_⟩
    have s3 := same_new (o := .lst ([.bl b0, .bl b1, .bl b2] ++ [.bl b3, .bl b4, .bl b5])) np3
    have hx3 := (hx1.mono s2).mono s3
    refine ⟨_, rfl, _, rfl, a, D, _, _, b6, rfl, hx3, hC, .own _, r6, _, rfl, a, D, _, _, b7, rfl, hx3, hC, .own _, r7, _, rfl, a, D, _, _, b8, rfl, hx3, hC, .own _, r8, (by show 3 ≤ sizeLine; decide), fun p4 np4 => ?_⟩
    have s4 := same_new (o := .lst [.bl b6, .bl b7, .bl b8]) np4
    refine ⟨p3, p4, _, _, rfl, rfl, s4 _ _ upd_same, upd_same, (by show 9 ≤ sizeLine; decide), fun p5 np5 => ?_⟩
    have s5 := same_new (o := .lst (([.bl b0, .bl b1, .bl b2] ++ [.bl b3, .bl b4, .bl b5]) ++ [.bl b6, .bl b7, .bl b8])) np5
    have hx5 := (hx3.mono s4).mono s5
    refine ⟨_, rfl, _, rfl, a, D, _, _, b9, rfl, hx5, hC, .own _, r9, (by show 1 ≤ sizeLine; decide), fun p6 np6 => ?_⟩
    have s6 := same_new (o := .lst [.bl b9]) np6
    refine ⟨p5, p6, _, _, rfl, rfl, s6 _ _ upd_same, upd_same, (by show 10 ≤ sizeLine; decide), fun p7 np7 => ?_⟩
    have s7 := same_new (o := .lst ((([.bl b0, .bl b1, .bl b2] ++ [.bl b3, .bl b4, .bl b5]) ++ [.bl b6, .bl b7, .bl b8]) ++ [.bl b9])) np7
    exact q _ p7 (s1.trans (s2.trans (s3.trans (s4.trans (s5.trans (s6.trans s7)))))) ((s1.trans (s2.trans (s3.trans (s4.trans (s5.trans s6))))).free np7) upd_same
end
end K01

namespace K01
open PySem PySem.Spec PyProof.Rows L2 G Lk
section
variable {P : Program} {w : World} {K : PySem.W.Frag} {mg : Str → Option Value} {base : Heap}
/-- the row of the i-th class -/
def rowB (i : Nat) : List Bool := [decide (0 = i), decide (1 = i), decide (2 = i), decide (3 = i), decide (4 = i), decide (5 = i), decide (6 = i), decide (7 = i), decide (8 = i), decide (9 = i)]
structure ClsAt (T : Tx K mg) (i : Nat) (D : Addr) : Prop where
  exc : ExcC K D
  row : RowK K D T.cl (rowB i)
  up : PySem.W.kitOne K (.ref D) (.ref T.a_ScanError) = some true ∧ PySem.W.kitOne K (.ref D) (.type "ValueError") = some true ∧ PySem.W.kitAny K (.ref D) [.type "KeyError", .type "IndexError", .type "TypeError"] = some false
theorem clsAt (T : Tx K mg) : ∀ (i : Nat), i < 10 → ∃ D, T.cs[i]? = some D ∧ ClsAt T i D
  | 0, _ => ⟨_, rfl, T.e_TooMany, T.r_TooMany, T.u_TooMany⟩
  | 1, _ => ⟨_, rfl, T.e_SyntaxProblem, T.r_SyntaxProblem, T.u_SyntaxProblem⟩
  | 2, _ => ⟨_, rfl, T.e_NoOutcome, T.r_NoOutcome, T.u_NoOutcome⟩
  | 3, _ => ⟨_, rfl, T.e_NoExpander, T.r_NoExpander, T.u_NoExpander⟩
  | 4, _ => ⟨_, rfl, T.e_NoText, T.r_NoText, T.u_NoText⟩
  | 5, _ => ⟨_, rfl, T.e_NoCall, T.r_NoCall, T.u_NoCall⟩
  | 6, _ => ⟨_, rfl, T.e_NoName, T.r_NoName, T.u_NoName⟩
  | 7, _ => ⟨_, rfl, T.e_NoMark, T.r_NoMark, T.u_NoMark⟩
  | 8, _ => ⟨_, rfl, T.e_Mismatch, T.r_Mismatch, T.u_Mismatch⟩
  | 9, _ => ⟨_, rfl, T.e_InvalidCommand, T.r_InvalidCommand, T.u_InvalidCommand⟩
  | n + 10, h => absurd h (by omega)
theorem rowB_eq (i : Nat) : rowB i = (List.range 10).map fun j => decide (j = i) := rfl
def sp_Lerrors_right (K : PySem.W.Frag) : Sp := fun vs H Q _ => ∃ (a c : Addr), vs = [.ref a] ∧ Pot K H a c ∧ ∀ H' : Hp, Sm a H H' → Pot K H' a c → Q (.bl true) H'
theorem pair_shaped (m : Int) (s : Str) (h : PyData.canLay0 (.str s) = true) : PyData.canLay0 (.tuple [.int m, .str s]) = true := by
  simp only [PyData.canLay0, PyData.canLayAll0] at h ⊢
  simp [h]
/-- def _law_errors_right(pot): -/
theorem ok_Lerrors_right (T : Tx K mg) : FnOk P w K mg base CX0 4 T.a__law_errors_right T.fd__law_errors_right ["pot"] (sp_Lerrors_right K) := by
  refine T.F__law_errors_right.ok sc_Lerrors_right (fun vs H Q E h => ?_) (fun cdv A outer s H vs Q E hr h => ?_)
  · obtain ⟨_, _, rfl, _⟩ := h
    rfl
  · refine ⟨_, (pss_cons (ps_par (i := 5) (j := 6) (by rfl) sc_Lerrors_right.nd rfl rfl (by decide) rfl rfl (pa_cons (pe_op op_add pe_int (pe_call (ok_Lbelow T) (hr.mono (by decide)) (by rfl) T.g__law_below T.F__law_below.kp T.b__law_below .nil pass0 (pa_cons (pv 0) (pa_cons (pe_op op_pow pe_int pe_int) pa_nil)))) (pa_cons (pe_op op_add pe_int (pe_call (ok_Lbelow T) (hr.mono (by decide)) (by rfl) T.g__law_below T.F__law_below.kp T.b__law_below .nil pass0 (pa_cons (pv 0) (pa_cons pe_int pa_nil)))) pa_nil)) (by rfl))
    (pss_cons (ps_set (i := 1) sc_Lerrors_right.nd rfl (by first | exact Or.inl rfl | exact Or.inr rfl) (pe_call (ok_Lmade T) (hr.mono (by decide)) (by rfl) T.g__law_made T.F__law_made.kp T.b__law_made .nil pass0 (pa_cons (pv 5) (pa_cons (pv 6) pa_nil))))
    (pss_cons (ps_for PassesOwn.never rfl (pi_enum (by rfl) T.z_enumerate (pa_cons (pv 1) pa_nil)) (pg_tup rfl (pgs_cons (pg_name (i := 7) sc_Lerrors_right.nd rfl (by first | exact Or.inl rfl | exact Or.inr rfl)) (pgs_cons (pg_name (i := 3) sc_Lerrors_right.nd rfl (by first | exact Or.inl rfl | exact Or.inr rfl)) pgs_nil)))
      (pss_cons (ps_if (PW.pt (pw_or (pt_cmpR (op_neD hr.units) (pe_call (ok_Lclasses T) (hr.mono (by decide)) (by rfl) T.g__law_classes T.F__law_classes.kp T.b__law_classes .nil pass0 (pa_cons (pv 3) pa_nil)) (pe_lc (own := [("spot", 8)]) (g := gName 8) (by rfl) sc_Lerrors_right.nd (pi_range1 (by rfl) T.z_range (pa_cons (pe_callB call_len_seq (by rfl) T.z_len PySem.boot_len (pa_cons (pv 1) pa_nil)) pa_nil)) (blkOk_by (own := [("spot", 8)]) (N := N_Lerrors_right) (sc := defScope s_Lerrors_right) (by decide +kernel)) (fun _ _ _ _ _ => pg_name (i := 8) sc_Lerrors_right.nd rfl (by first | exact Or.inl rfl | exact Or.inr rfl)) (fun _ _ _ _ _ => pts_nil) (fun _ _ _ _ _ => (pe_cmpR op_eq (pv 8) (pv 7) (nomark _)))) (nomark _)) (pw_or1 (pt_not (pt_val (pe_callB call_isX (by rfl) T.z_isinstance (by decide +kernel) (pa_cons (pv 3) (pa_cons (pe_glob (v := .ref T.a_ScanError) (by rfl) T.g_ScanError rfl) pa_nil))))))))
      (pss_one (ps_ret pe_bl))
      pss_nil)
    (pss_one (ps_if (PW.pt (pw_or (pt_not (pt_val (pe_callB call_isX (by rfl) T.z_isinstance (by decide +kernel) (pa_cons (pv 3) (pa_cons (pe_bltn (v := .ty "ValueError") (by rfl) T.z_ValueError (by decide +kernel) rfl) pa_nil))))) (pw_or1 (pt_val (pe_callB call_isXT (by rfl) T.z_isinstance (by decide +kernel) (pa_cons (pv 3) (pa_cons (pe_tup (pa_cons (pe_bltn (v := .ty "KeyError") (by rfl) T.z_KeyError (by decide +kernel) rfl) (pa_cons (pe_bltn (v := .ty "IndexError") (by rfl) T.z_IndexError (by decide +kernel) rfl) (pa_cons (pe_bltn (v := .ty "TypeError") (by rfl) T.z_TypeError (by decide +kernel) rfl) pa_nil)))) pa_nil)))))))
      (pss_one (ps_ret pe_bl))
      pss_nil))))
    (pss_cons (ps_set (i := 2) sc_Lerrors_right.nd rfl (by first | exact Or.inl rfl | exact Or.inr rfl) (pe_lst (pa_cons (pe_tup (pa_cons (pv 6) (pa_cons pe_str pa_nil))) (pa_cons (pe_tup (pa_cons (pv 6) (pa_cons pe_str pa_nil))) pa_nil))))
    (pss_cons (ps_set (i := 3) sc_Lerrors_right.nd rfl (by first | exact Or.inl rfl | exact Or.inr rfl) (pe_mkV T.o_NoOutcome T.ii_NoOutcome T.it_NoOutcome (ok_NoOutcome_init T) (hr.mono (by decide)) T.ib_NoOutcome pass0 (by rfl) T.g_NoOutcome (pa_cons pe_str (pa_cons (pv 2) pa_nil))))
    (pss_cons (ps_if (pt_cmpR (op_neD hr.units) (pv 2) (pe_lst (pa_cons (pe_tup (pa_cons (pv 6) (pa_cons pe_str pa_nil))) (pa_cons (pe_tup (pa_cons (pv 6) (pa_cons pe_str pa_nil))) pa_nil))) (nomark _))
      (pss_one (ps_ret pe_bl))
      pss_nil)
    (pss_cons (ps_expr (pe_bm0 PySem.F.plainAttrs_list PySem.F.slot_list_clear PySem.F.type_list_clear mt_clear (pv 2)))
    (pss_cons (ps_if (PW.pt (pw_or (pt_cmpR (op_neD hr.units) (pe_xv (pv 3)) (pe_lst (pa_cons (pe_tup (pa_cons (pv 6) (pa_cons pe_str pa_nil))) (pa_cons (pe_tup (pa_cons (pv 6) (pa_cons pe_str pa_nil))) pa_nil))) (nomark _)) (pw_or1 (pt_cmpR (op_neD hr.units) (pe_xv (pv 3)) pe_str (nomark _)))))
      (pss_one (ps_ret pe_bl))
      pss_nil)
    (pss_cons (ps_set (i := 4) sc_Lerrors_right.nd rfl (by first | exact Or.inl rfl | exact Or.inr rfl) (pe_lst (pa_cons (pe_xv (pe_ix ix_list (pv 1) pe_int (fun _ _ => rfl))) (pa_cons (pe_xv (pe_ix ix_list (pv 1) pe_int (fun _ _ => rfl))) (pa_cons (pe_xv (pe_ix ix_list (pv 1) pe_int (fun _ _ => rfl))) (pa_cons (pe_xv (pe_ix ix_list (pv 1) pe_int (fun _ _ => rfl))) (pa_cons (pe_xv (pe_ix ix_list (pv 1) pe_int (fun _ _ => rfl))) pa_nil)))))))
    (pss_one (ps_ret (pe_and (pe_cmpR (op_eqD hr.units) (pv 4) (pe_lst (pa_cons (pv 5) (pa_cons (pv 6) (pa_cons (pv 5) (pa_cons pe_str (pa_cons (pe_lst (pa_cons (pe_tup (pa_cons (pv 6) (pa_cons pe_str pa_nil))) pa_nil)) pa_nil)))))) (nomark _)) (pe_one (pe_cmpR op_notIn_seq pe_bl (pe_call (ok_Lclasses T) (hr.mono (by decide)) (by rfl) T.g__law_classes T.F__law_classes.kp T.b__law_classes .nil pass0 (pa_cons (pe_exc1 PySem.F.excBase_ValueError T.xi_ScanError T.g_ScanError T.k_ScanError (by rfl) pe_str) pa_nil)) (by rfl))))))))))))))), ?_⟩
    obtain ⟨a, c, rfl, hp, q⟩ := h
    refine ⟨_, rfl, _, _, rfl, rfl, ⟨by decide, by decide, by decide⟩, a, c, _, rfl, hp, by decide, by decide, fun H1 k1 sm1 hp1 z1 _ => ?_⟩
    refine ⟨_, _, rfl, rfl, _, rfl, a, c, _, rfl, hp1, by decide, by decide, fun H2 k2 sm2 hp2 z2 _ => ?_⟩
    refine ⟨_, _, rfl, rfl, _, _, rfl, ?_⟩
    dsimp only
    generalize 1 + k1 = lim
    generalize 1 + k2 = pl
    refine ⟨_, rfl, _, rfl, lim, pl, rfl, fun H3 p e0 e1 e2 es s3 np hL hE => ?_⟩
    have hlen : ((e0 :: e1 :: e2 :: es).map V.ref).length = 10 := by
      rw [List.length_map, List.length_cons, List.length_cons, List.length_cons, hE.len]
    refine ⟨_, rfl, p, _, rfl, SqL.of hL, fun i m σ H' => ∃ t3 t7 : Option V, σ = [some (.ref a), some (.ref p), none, t3, none, some (.int lim), some (.int pl), t7, none] ∧ m = 10 - i ∧ Same H3 H', ⟨10, none, none, rfl, rfl, Same.refl _⟩, ?_⟩
    rintro i m σ H4 ⟨t3, t7, rfl, em, s4⟩
    have hL4 := s4 _ _ hL
    by_cases hi : i < 10
    · obtain ⟨D, hD, hC⟩ := clsAt T i hi
      obtain ⟨e, he⟩ : ∃ e, (e0 :: e1 :: e2 :: es)[i]? = some e := ⟨_, List.getElem?_eq_getElem (by rw [List.length_map] at hlen; omega)⟩
      have hx4 : ExAt H4 e D := (hE.all i e D he hD).mono s4
      have hxs : ((e0 :: e1 :: e2 :: es).map V.ref)[i]? = some (.ref e) := by
        rw [List.getElem?_map, he]
        rfl
      refine .inr ⟨⟨_, _, SqL.of hL4, hxs⟩, fun σ' H' => ∃ t3 t7 : Option V, σ' = [some (.ref a), some (.ref p), none, t3, none, some (.int lim), some (.int pl), t7, none] ∧ Same H3 H', ?_, ?_⟩
      · rintro σ' H' ⟨u3, u7, h1, h2⟩
        exact ⟨10 - (i + 1), by omega, u3, u7, h1, rfl, h2⟩
      · rintro v H5 ⟨T0, x, rfl, nT, rfl, fx⟩
        obtain rfl : x = .ref e := Option.some.inj ((fx _ (SqL.of hL4)).symm.trans hxs)
        have sT : Same H4 (upd H4 T0 (.tup [.int ((i : Nat) : Int), .ref e])) := same_new nT
        refine ⟨T0, _, rfl, SqT.of upd_same, rfl, _, _, rfl, _, _, rfl, rfl, ?_⟩
        generalize upd H4 T0 (.tup [.int ((i : Nat) : Int), .ref e]) = H5 at sT
        have hx5 := hx4.mono sT
        have hL5 := sT _ _ hL4
        refine ⟨_, rfl, e, D, _, _, _, _, _, _, _, _, _, _, rfl, hx5, hC.exc, hC.row, fun H6 p6 s6 np6 hp6 => ?_⟩
        have hx6 := hx5.mono s6
        have hL6 := s6 _ _ hL5
        refine ⟨_, rfl, p, _, rfl, .inl (SqL.of hL6), ?_⟩
        rw [hlen]
        refine ⟨10, rfl, by decide, by decide, fun F nF => ?_⟩
        refine lc_range (lo := 0) (n := 10) (fun j H' => Same H6 H' ∧ H' F = some (.lst (((List.range j).map fun z => decide (z = i)).map V.bl))) ⟨same_new nF, upd_same⟩ ?_ ?_
        · rintro j H7 hj ⟨s7, hF⟩
          refine ⟨rfl, _, rfl, _, rfl, rfl, _, hF, ?_, ?_, ?_⟩
          · rw [List.length_map, List.length_map, List.length_range]
            exact Nat.lt_trans hj (by decide)
          · exact fun b o z => (upd_ne (ne_of_none z nF)).trans (s7 b o z)
          · rw [upd_same, List.range_succ, List.map_append, List.map_append]
            have e1 : decide (V.int (0 + ((j : Nat) : Int)) = V.int ((i : Nat) : Int)) = decide (j = i) := decide_eq_decide.mpr ⟨fun z => by have := V.int.inj z; omega, fun z => by rw [z, Int.zero_add]⟩
            show some (HO.lst (_ ++ [V.bl (decide (V.int (0 + ((j : Nat) : Int)) = V.int ((i : Nat) : Int)))])) = _
            rw [e1]
            rfl
        · rintro H7 ⟨s7, hF⟩
          have hx7 := hx6.mono s7
          have dl : DpAll K H7 ((rowB i).map V.bl) ((rowB i).map PyData.bool) := bools_dp _
          refine ⟨.list ((rowB i).map PyData.bool), .list ((rowB i).map PyData.bool), .lst (SqL.of (s7 _ _ hp6)) dl, .lst (SqL.of hF) dl, bools_shaped _, bools_shaped _, _, rfl, ?_⟩
          refine if_false (ne_refl (bools_shaped _)) ?_
          refine ⟨_, rfl, e, D, _, _, true, rfl, hx7, hC.exc, .own _, hC.up.1, true, rfl, ?_⟩
          refine iteF ?_
          refine ⟨_, rfl, e, D, _, _, true, rfl, hx7, hC.exc, .ty _, hC.up.2.1, true, rfl, ?_⟩
          refine iteF ?_
          refine ⟨_, rfl, (by show 3 ≤ sizeLine; decide), fun t8 nt8 => ?_⟩
          have s8 := same_new (o := .tup [.ty "KeyError", .ty "IndexError", .ty "TypeError"]) nt8
          refine ⟨e, D, t8, _, _, false, rfl, hx7.mono s8, hC.exc, upd_same, .cons (.ty _) (.cons (.ty _) (.cons (.ty _) .nil)), hC.up.2.2, false, rfl, ?_⟩
          refine iteF ?_
          exact ⟨_, _, rfl, s4.trans (sT.trans (s6.trans (s7.trans s8)))⟩
    · refine .inl ⟨⟨_, SqL.of hL4, by rw [hlen]; omega⟩, ?_⟩
      refine ⟨_, rfl, (by show 2 ≤ sizeLine; decide), fun t1 n1 => ⟨_, rfl, (by show 2 ≤ sizeLine; decide), fun t2 n2 => ⟨(by show 2 ≤ sizeLine; decide), fun r nr => ?_⟩⟩⟩
      have sa := (same_new (o := .tup [.int pl, .str "a"]) n1).trans ((same_new (o := .tup [.int pl, .str "b"]) n2).trans (same_new (o := .lst [.ref t1, .ref t2]) nr))
      have ht1 : (upd (upd (upd H4 t1 (.tup [.int pl, .str "a"])) t2 (.tup [.int pl, .str "b"])) r (.lst [.ref t1, .ref t2])) t1 = some (.tup [.int pl, .str "a"]) := same_new nr _ _ (same_new n2 _ _ upd_same)
      have ht2 : (upd (upd (upd H4 t1 (.tup [.int pl, .str "a"])) t2 (.tup [.int pl, .str "b"])) r (.lst [.ref t1, .ref t2])) t2 = some (.tup [.int pl, .str "b"]) := same_new nr _ _ upd_same
      have hr0 : (upd (upd (upd H4 t1 (.tup [.int pl, .str "a"])) t2 (.tup [.int pl, .str "b"])) r (.lst [.ref t1, .ref t2])) r = some (.lst [.ref t1, .ref t2]) := upd_same
      have nrH : ∀ b o, H4 b = some o → b ≠ r := fun b o z => ne_of_none (same_new n2 _ _ (same_new n1 _ _ z)) nr
      have r1 : t1 ≠ r := ne_of_none (same_new n2 _ _ upd_same) nr
      have r2 : t2 ≠ r := ne_of_none upd_same nr
      generalize upd (upd (upd H4 t1 (.tup [.int pl, .str "a"])) t2 (.tup [.int pl, .str "b"])) r (.lst [.ref t1, .ref t2]) = H5 at sa ht1 ht2 hr0
      refine ⟨_, rfl, (by show 2 ≤ 1000; decide), fun x nx => ?_⟩
      have nrx : r ≠ x := ne_of_none hr0 nx
      refine ⟨x, r, .str "endless", [.ref t1, .ref t2], rfl, upd_same, SqL.of (by rw [upd_ne nrx]; exact hr0), fun H6 d n b6 x6 y6 z6 nn => ⟨rfl, ?_⟩⟩
      have s6 : Same H5 H6 := b6.same nx
      have hr6 := s6 _ _ hr0
      have nnr : n ≠ r := fun e => by
        rw [e, upd_ne nrx, hr0] at nn
        cases nn
      have two : ∀ {H : Hp} {l u1 u2 : Addr}, SqL K H l [.ref u1, .ref u2] → H u1 = some (.tup [.int pl, .str "a"]) → H u2 = some (.tup [.int pl, .str "b"]) →
          Dp K H (.ref l) (.list [.tuple [.int pl, .str "a"], .tuple [.int pl, .str "b"]]) := fun h h1 h2 =>
        .lst h (.cons (.tup (SqT.of h1) (.cons (.int _) (.cons (.str _) .nil))) (.cons (.tup (SqT.of h2) (.cons (.int _) (.cons (.str _) .nil))) .nil))
      have sh : SeqAt.shaped (.list [.tuple [.int pl, .str "a"], .tuple [.int pl, .str "b"]]) = true := by
        unfold SeqAt.shaped
        rw [Bool.and_eq_true]
        refine ⟨?_, by rfl⟩
        simp only [PyData.canLay0, PyData.canLayAll0]
        decide +kernel
      refine ⟨_, rfl, _, rfl, (by show 2 ≤ sizeLine; decide), fun v1 m1 => ⟨_, rfl, (by show 2 ≤ sizeLine; decide), fun v2 m2 => ⟨(by show 2 ≤ sizeLine; decide), fun u mu => ?_⟩⟩⟩
      have sb := (same_new (o := .tup [.int pl, .str "a"]) m1).trans ((same_new (o := .tup [.int pl, .str "b"]) m2).trans (same_new (o := .lst [.ref v1, .ref v2]) mu))
      refine ⟨_, _, two (SqL.of (sb _ _ hr6)) (sb _ _ (s6 _ _ ht1)) (sb _ _ (s6 _ _ ht2)), two (SqL.of upd_same) (same_new mu _ _ (same_new m2 _ _ upd_same)) (same_new mu _ _ upd_same), sh, sh, _, rfl, ?_⟩
      refine if_false (ne_refl sh) ?_
      generalize upd (upd (upd H6 v1 (.tup [.int pl, .str "a"])) v2 (.tup [.int pl, .str "b"])) u (.lst [.ref v1, .ref v2]) = H7 at sb
      refine ⟨_, rfl, .inl ⟨rfl, _, SqL.of (sb _ _ hr6)⟩, r, _, rfl, rfl, sb _ _ hr6, ?_⟩
      have keep7 : ∀ b o, b ≠ r → H7 b = some o → (upd H7 r (.lst [])) b = some o := fun b o n e => (upd_ne n).trans e
      have xr : x ≠ r := nrx.symm
      have dr : d ≠ r := fun e => by
        have z := s6 _ _ hr0
        rw [← e, y6] at z
        cases Option.some.inj z
      have hx8 := keep7 _ _ xr (sb _ _ x6)
      have hd8 := keep7 _ _ dr (sb _ _ y6)
      have hn8 := keep7 _ _ nnr (sb _ _ z6)
      have ht18 := keep7 _ _ r1 (sb _ _ (s6 _ _ ht1))
      have ht28 := keep7 _ _ r2 (sb _ _ (s6 _ _ ht2))
      have s38 : Same H3 (upd H7 r (.lst [])) := fun b o z => keep7 _ _ (nrH b o (s4 b o z)) (sb _ _ (s6 _ _ (sa _ _ (s4 b o z))))
      generalize upd H7 r (.lst []) = H8 at hx8 hd8 hn8 ht18 ht28 s38
      refine ⟨_, rfl, x, T.a_NoOutcome, d, _, .ref n, rfl, T.x_NoOutcome, T.nf_NoOutcome_thread, hx8, hd8, rfl, _, rfl, (by show 2 ≤ sizeLine; decide), fun v3 m3 => ⟨_, rfl, (by show 2 ≤ sizeLine; decide), fun v4 m4 => ⟨(by show 2 ≤ sizeLine; decide), fun u2 mu2 => ?_⟩⟩⟩
      have sc := (same_new (o := .tup [.int pl, .str "a"]) m3).trans ((same_new (o := .tup [.int pl, .str "b"]) m4).trans (same_new (o := .lst [.ref v3, .ref v4]) mu2))
      refine ⟨_, _, two (SqL.of (sc _ _ hn8)) (sc _ _ ht18) (sc _ _ ht28), two (SqL.of upd_same) (same_new mu2 _ _ (same_new m4 _ _ upd_same)) (same_new mu2 _ _ upd_same), sh, sh, _, rfl, ?_⟩
      refine if_false (ne_refl sh) ?_
      generalize upd (upd (upd H8 v3 (.tup [.int pl, .str "a"])) v4 (.tup [.int pl, .str "b"])) u2 (.lst [.ref v3, .ref v4]) = H9 at sc
      have shs : SeqAt.shaped (.str "endless") = true := by decide +kernel
      refine ⟨_, rfl, x, T.a_NoOutcome, d, _, .str "endless", rfl, T.x_NoOutcome, T.nf_NoOutcome_kind, sc _ _ hx8, sc _ _ hd8, rfl, .str "endless", .str "endless", .str _, .str _, shs, shs, _, rfl, ?_⟩
      refine if_false (ne_refl shs) ?_
      have s39 := s38.trans sc
      have hE9 := hE.mono s39
      have hL9 := s39 _ _ hL
      obtain ⟨d0, x0, y0⟩ := hE9.f0
      obtain ⟨d1, x1, y1⟩ := hE9.f1
      obtain ⟨d2, n2', t2', x2, y2, w2, v2'⟩ := hE9.f2
      refine ⟨_, rfl, p, _, _, .ref e0, rfl, rfl, SqL.of hL9, atI_nat (j := 0) rfl, e0, T.a_TooMany, d0, _, .int lim, rfl, T.x_TooMany, T.nf_TooMany_limit, x0, y0, rfl, ?_⟩
      refine ⟨_, rfl, p, _, _, .ref e1, rfl, rfl, SqL.of hL9, atI_nat (j := 1) rfl, e1, T.a_SyntaxProblem, d1, _, .int pl, rfl, T.x_SyntaxProblem, T.nf_SyntaxProblem_line, x1, y1, rfl, ?_⟩
      refine ⟨_, rfl, p, _, _, .ref e1, rfl, rfl, SqL.of hL9, atI_nat (j := 1) rfl, e1, T.a_SyntaxProblem, d1, _, .int lim, rfl, T.x_SyntaxProblem, T.nf_SyntaxProblem_column, x1, y1, rfl, ?_⟩
      refine ⟨_, rfl, p, _, _, .ref e2, rfl, rfl, SqL.of hL9, atI_nat (j := 2) rfl, e2, T.a_NoOutcome, d2, _, .str "breaks", rfl, T.x_NoOutcome, T.nf_NoOutcome_kind, x2, y2, rfl, ?_⟩
      refine ⟨_, rfl, p, _, _, .ref e2, rfl, rfl, SqL.of hL9, atI_nat (j := 2) rfl, e2, T.a_NoOutcome, d2, _, .ref n2', rfl, T.x_NoOutcome, T.nf_NoOutcome_thread, x2, y2, rfl, ?_⟩
      refine ⟨(by show 5 ≤ sizeLine; decide), fun f nf => ?_⟩
      have sf := same_new (o := .lst [.int lim, .int pl, .int lim, .str "breaks", .ref n2']) nf
      refine ⟨_, rfl, _, rfl, _, rfl, _, rfl, _, rfl, (by show 2 ≤ sizeLine; decide), fun g1 ng1 => ⟨(by show 1 ≤ sizeLine; decide), fun g2 ng2 => ⟨(by show 5 ≤ sizeLine; decide), fun g3 ng3 => ?_⟩⟩⟩
      have sg3 := (same_new (o := .tup [.int pl, .str "a"]) ng1).trans ((same_new (o := .lst [.ref g1]) ng2).trans (same_new (o := .lst [.int lim, .int pl, .int lim, .str "breaks", .ref g2]) ng3))
      have five : ∀ {H : Hp} {l n t : Addr}, SqL K H l [.int lim, .int pl, .int lim, .str "breaks", .ref n] → H n = some (.lst [.ref t]) → H t = some (.tup [.int pl, .str "a"]) →
          Dp K H (.ref l) (.list [.int lim, .int pl, .int lim, .str "breaks", .list [.tuple [.int pl, .str "a"]]]) := fun h h1 h2 =>
        .lst h (.cons (.int _) (.cons (.int _) (.cons (.int _) (.cons (.str _) (.cons (.lst (SqL.of h1) (.cons (.tup (SqT.of h2) (.cons (.int _) (.cons (.str _) .nil))) .nil)) .nil)))))
      have sh5 : SeqAt.shaped (.list [.int lim, .int pl, .int lim, .str "breaks", .list [.tuple [.int pl, .str "a"]]]) = true := by
        unfold SeqAt.shaped
        rw [Bool.and_eq_true]
        refine ⟨?_, by rfl⟩
        simp only [PyData.canLay0, PyData.canLayAll0]
        decide +kernel
      refine ⟨_, _, five (SqL.of (sg3 _ _ upd_same)) (sg3 _ _ (sf _ _ w2)) (sg3 _ _ (sf _ _ v2')), five (SqL.of upd_same) (same_new ng3 _ _ upd_same) (same_new ng3 _ _ (same_new ng2 _ _ upd_same)), sh5, sh5, _, rfl, ?_⟩
      refine if_true (SeqAt.eqv_refl _ (SeqAt.canLay_of_shaped sh5)) ?_
      intro y ny
      have sy := same_new (o := ExO (.ref T.a_ScanError) y) ny
      refine ⟨y, T.a_ScanError, _, _, _, _, _, _, _, _, _, _, rfl, .inl upd_same, T.e_ScanError, T.r_ScanError, fun H10 p10 s10 _ hp10 => ?_⟩
      refine ⟨p10, _, rfl, .inl (SqL.of hp10), rfl, rfl, ?_⟩
      have sAll : Same H2 H10 := s3.trans (s39.trans (sf.trans (sg3.trans (sy.trans s10))))
      exact q _ ((sm1.trans sm2).trans (Sm.of sAll)) (hp2.same sAll)
end
end K01

namespace K01
open PySem PySem.Spec PyProof.Rows L2 G Lk
section
variable {P : Program} {w : World} {K : PySem.W.Frag} {mg : Str → Option Value} {base : Heap}
def sp_law (K : PySem.W.Frag) : Sp := fun vs H Q _ => ∃ (a : Addr) (ns : List Int), vs = [.ref a] ∧ SqL K H a (ns.map V.int) ∧ ns.length ≤ 63 ∧ ∀ H', Q (.bl true) H'
theorem small_a : SmallS "a" := by unfold SmallS; decide +kernel
theorem small_ab : SmallS "ab" := by unfold SmallS; decide +kernel
theorem small_bz : SmallS "bz" := by unfold SmallS; decide +kernel
theorem small_abcd : SmallS "abcd" := by unfold SmallS; decide +kernel
theorem small_ab1 : SmallS "ab1 " := by unfold SmallS; decide +kernel
theorem small_odd : SmallS "abcyz{`" := by unfold SmallS; decide +kernel
/-- the things that is_word and is_text are asked of -/
def things (t s0 : Str) : List PyData := [.str t, .str (repS t 30), .str (repS s0 200), .str (repS s0 201), .str (repS s0 5000), .str "", .none, .int 0, .tuple [.str t], .list [.str t], .dict [], .bool true]
/-- what is told of each: repr shows it, a text is not too long -/
def Fine (d : PyData) : Prop := Shows d ∧ ∀ z, d = .str z → z.length ≤ 5000
theorem things_fine {t s0 : Str} (ht : t.length ≤ 10) (ht2 : ∀ c ∈ t.cps.toList, c < 1000) (hs : s0.length ≤ 1) (hs2 : ∀ c ∈ s0.cps.toList, c < 1000) : ∀ d ∈ things t s0, Fine d := by
  have str : ∀ z : Str, z.length ≤ 5000 → (∀ c ∈ z.cps.toList, c < 1000) → Fine (.str z) := fun z h1 h2 => ⟨shows_str (by omega) h2, fun y e => by cases e; exact h1⟩
  have rep : ∀ (z : Str) (n : Nat), n * z.length ≤ 5000 → (∀ c ∈ z.cps.toList, c < 1000) → Fine (.str (repS z n)) := fun z n h1 h2 => str _ (by rw [repS_len]; exact h1) fun c hc => h2 c (rep_mem hc)
  intro d hd
  simp only [things, List.mem_cons, List.not_mem_nil, or_false] at hd
  rcases hd with rfl | rfl | rfl | rfl | rfl | rfl | rfl | rfl | rfl | rfl | rfl | rfl
  · exact str t (by omega) ht2
  · exact rep t 30 (by omega) ht2
  · exact rep s0 200 (by omega) hs2
  · exact rep s0 201 (by omega) hs2
  · exact rep s0 5000 (by omega) hs2
  · exact str _ (by decide) (by decide)
  · exact ⟨shows_none, fun z e => by cases e⟩
  · exact ⟨shows_zero, fun z e => by cases e⟩
  · exact ⟨shows_tup1 (by omega) ht2, fun z e => by cases e⟩
  · exact ⟨shows_lst1 (by omega) ht2, fun z e => by cases e⟩
  · exact ⟨shows_emp, fun z e => by cases e⟩
  · exact ⟨shows_bool true, fun z e => by cases e⟩
theorem isText_eq (s z : Str) : isText s (.str z) = (allIn s z && decide (((z.length : Nat) : Int) < 201)) := by
  show (allIn s z && decide (z.length ≤ 200)) = _
  congr 1
  exact decide_eq_decide.mpr ⟨fun x => by omega, fun x => by omega⟩
theorem and_word {d : PyData} {z : Str} {t : TE} {σ : L2.St} {Q : VK} {H : Hp} (h : ∀ y, d = .str y → ∀ Q' : VK, Q' (.bl (decide (((y.length : Nat) : Int) < 201))) H → t σ H Q')
    (k : Q (.bl (isText z d)) H) : if isWord z d = true then t σ H Q else Q (.bl false) H := by
  cases d with
  | str y =>
    rw [isText_eq] at k
    show if allIn z y = true then t σ H Q else Q (.bl false) H
    cases e : allIn z y with
    | true =>
      rw [e] at k
      exact iteT (h y rfl Q k)
    | false =>
      rw [e] at k
      exact iteF k
  | none => exact iteF k
  | bool _ => exact iteF k
  | int _ => exact iteF k
  | list _ => exact iteF k
  | tuple _ => exact iteF k
  | dict _ => exact iteF k
/-- def law(script): -/
theorem ok_law (T : Tx K mg) : FnG P w K mg base CX0 5 T.a_law T.fd_law ["script"] (sp_law K) := by
  refine T.F_law.okG sc_law (fun vs H Q E h => ?_) (fun cdv A outer s H vs Q E gd hr h => ?_)
  · obtain ⟨_, _, rfl, _⟩ := h
    rfl
  · refine ⟨_, (pss_cons (ps_set (i := 1) sc_law.nd rfl (by first | exact Or.inl rfl | exact Or.inr rfl) (pe_call (ok_Lpot_of T) (hr.mono (by decide)) (by rfl) T.g__law_pot_of T.F__law_pot_of.kp T.b__law_pot_of .nil pass0 (pa_cons (pv 0) pa_nil)))
    (pss_cons (ps_if (pt_not (pt_val (pe_call (ok_Lerrors_right T) (hr.mono (by decide)) (by rfl) T.g__law_errors_right T.F__law_errors_right.kp T.b__law_errors_right .nil pass0 (pa_cons (pv 1) pa_nil))))
      (pss_one (ps_ret pe_bl))
      pss_nil)
    (pss_cons (ps_for PassesOwn.never rfl (pi_range1 (by rfl) T.z_range (pa_cons pe_int pa_nil)) (pg_name (i := 2) sc_law.nd rfl (by first | exact Or.inl rfl | exact Or.inr rfl))
      (pss_cons (ps_set (i := 3) sc_law.nd rfl (by first | exact Or.inl rfl | exact Or.inr rfl) (pe_call (ok_Lpick T) (hr.mono (by decide)) (by rfl) T.g__law_pick T.F__law_pick.kp T.b__law_pick .nil pass0 (pa_cons (pv 1) (pa_cons (pe_lst (pa_cons pe_str (pa_cons pe_str (pa_cons pe_str (pa_cons pe_str pa_nil))))) pa_nil))))
    (pss_cons (ps_set (i := 4) sc_law.nd rfl (by first | exact Or.inl rfl | exact Or.inr rfl) (pe_call (ok_Lsome_string T) (hr.mono (by decide)) (by rfl) T.g__law_some_string T.F__law_some_string.kp T.b__law_some_string .nil pass0 (pa_cons (pv 1) (pa_cons (pe_call (ok_Lpick T) (hr.mono (by decide)) (by rfl) T.g__law_pick T.F__law_pick.kp T.b__law_pick .nil pass0 (pa_cons (pv 1) (pa_cons (pe_lst (pa_cons (pv 3) (pa_cons (pv 3) (pa_cons (pe_op op_add_str (pv 3) pe_str) (pa_cons pe_str (pa_cons pe_str pa_nil)))))) pa_nil))) (pa_cons pe_int pa_nil)))))
    (pss_cons (ps_set (i := 5) sc_law.nd rfl (by first | exact Or.inl rfl | exact Or.inr rfl) (pe_lst (pa_cons (pv 4) (pa_cons (pe_op op_mulS (pv 4) pe_int) (pa_cons (pe_op op_mulS (pe_ix ix_str (pv 3) pe_int (fun _ _ => rfl)) pe_int) (pa_cons (pe_op op_mulS (pe_ix ix_str (pv 3) pe_int (fun _ _ => rfl)) pe_int) (pa_cons (pe_op op_mulS (pe_ix ix_str (pv 3) pe_int (fun _ _ => rfl)) pe_int) (pa_cons pe_str (pa_cons pe_non (pa_cons pe_int pa_nil))))))))))
    (pss_cons (ps_for PassesOwn.never rfl (pi_list (pe_op op_cat (pv 5) (pe_lst (pa_cons (pe_tup (pa_cons (pv 4) pa_nil)) (pa_cons (pe_lst (pa_cons (pv 4) pa_nil)) (pa_cons pe_dnewK (pa_cons pe_bl pa_nil))))))) (pg_name (i := 6) sc_law.nd rfl (by first | exact Or.inl rfl | exact Or.inr rfl))
      (pss_cons (ps_par (i := 12) (j := 13) (by rfl) sc_law.nd rfl rfl (by decide) rfl rfl (pa_cons (pe_callB (call_repr_data gd hr.units) (by rfl) T.z_repr (by decide +kernel) (pa_cons (pv 6) pa_nil)) (pa_cons (pe_and (pe_callB call_isi (by rfl) T.z_isinstance (by decide +kernel) (pa_cons (pv 6) (pa_cons (pe_bltn (v := .ty "str") (by rfl) T.z_str (by decide +kernel) rfl) pa_nil))) (pe_one (pe_cmpR (op_eqD hr.units) (pe_lc (own := [("sign", 15)]) (g := gName 15) (by rfl) sc_law.nd (pi_str (pv 6)) (blkOk_by (own := [("sign", 15)]) (N := N_law) (sc := defScope s_law) (by decide +kernel)) (fun _ _ _ _ _ => pg_name (i := 15) sc_law.nd rfl (by first | exact Or.inl rfl | exact Or.inr rfl)) (fun _ _ _ _ _ => (pts_one (pt_cmpR op_notIn_sign (pv 15) (pv 3) (by rfl)))) (fun _ _ _ _ _ => pe_int)) (pe_lst pa_nil) (nomark _)))) pa_nil)) (by rfl))
    (pss_cons (ps_if (PW.pt (pw_or (pt_cmpR op_ne (pe_callB (call_repr_data gd hr.units) (by rfl) T.z_repr (by decide +kernel) (pa_cons (pe_call (ok_is_word T) (hr.mono (by decide)) (by rfl) T.g_is_word T.F_is_word.kp T.b_is_word .nil pass0 (pa_cons (pv 3) (pa_cons (pv 6) pa_nil))) pa_nil)) (pe_callB (call_repr_data gd hr.units) (by rfl) T.z_repr (by decide +kernel) (pa_cons (pv 13) pa_nil)) (nomark _)) (pw_or1 (pt_cmpR op_ne (pe_callB (call_repr_data gd hr.units) (by rfl) T.z_repr (by decide +kernel) (pa_cons (pv 6) pa_nil)) (pv 12) (nomark _)))))
      (pss_one (ps_ret pe_bl))
      pss_nil)
    (pss_one (ps_if (pt_cmpR op_ne (pe_callB (call_repr_data gd hr.units) (by rfl) T.z_repr (by decide +kernel) (pa_cons (pe_call (ok_is_text T) (hr.mono (by decide)) (by rfl) T.g_is_text T.F_is_text.kp T.b_is_text .nil pass0 (pa_cons (pv 3) (pa_cons (pv 6) pa_nil))) pa_nil)) (pe_callB (call_repr_data gd hr.units) (by rfl) T.z_repr (by decide +kernel) (pa_cons (pe_and (pv 13) (pe_one (pe_cmpR op_lt (pe_callB call_len (by rfl) T.z_len PySem.boot_len (pa_cons (pv 6) pa_nil)) pe_int (nomark _)))) pa_nil)) (nomark _))
      (pss_one (ps_ret pe_bl))
      pss_nil)))))
    (pss_cons (ps_set (i := 7) sc_law.nd rfl (by first | exact Or.inl rfl | exact Or.inr rfl) (pe_call (ok_Lsome_string T) (hr.mono (by decide)) (by rfl) T.g__law_some_string T.F__law_some_string.kp T.b__law_some_string .nil pass0 (pa_cons (pv 1) (pa_cons (pv 3) (pa_cons pe_int pa_nil)))))
    (pss_cons (ps_set (i := 8) sc_law.nd rfl (by first | exact Or.inl rfl | exact Or.inr rfl) (pe_call (ok_Lbelow T) (hr.mono (by decide)) (by rfl) T.g__law_below T.F__law_below.kp T.b__law_below .nil pass0 (pa_cons (pv 1) (pa_cons (pe_op op_add (pe_callB call_len_str (by rfl) T.z_len PySem.boot_len (pa_cons (pv 4) pa_nil)) pe_int) pa_nil))))
    (pss_one (ps_for PassesOwn.never rfl (pi_tup (pe_tup (pa_cons (pe_tup (pa_cons (pv 4) (pa_cons (pv 7) pa_nil))) (pa_cons (pe_tup (pa_cons (pv 4) (pa_cons (pe_op op_add_str (pe_slice sl_str (pv 4) po_none (po_some (pv 8))) (pv 7)) pa_nil))) (pa_cons (pe_tup (pa_cons (pe_slice sl_str (pv 4) po_none (po_some (pv 8))) (pa_cons (pv 4) pa_nil))) (pa_cons (pe_tup (pa_cons (pv 7) (pa_cons (pv 7) pa_nil))) (pa_cons (pe_tup (pa_cons pe_str (pa_cons (pv 4) pa_nil))) pa_nil))))))) (pg_tup rfl (pgs_cons (pg_name (i := 9) sc_law.nd rfl (by first | exact Or.inl rfl | exact Or.inr rfl)) (pgs_cons (pg_name (i := 10) sc_law.nd rfl (by first | exact Or.inl rfl | exact Or.inr rfl)) pgs_nil)))
      (pss_cons (ps_setLc (i := 11) (own := [("size", 14)]) (g := gName 14) (by rfl) sc_law.nd rfl rfl (sw_true rfl rfl rfl (by decide +kernel)) (pi_range1 (by rfl) T.z_range (pa_cons (pe_op op_add (pe_callB call_len_str (by rfl) T.z_len PySem.boot_len (pa_cons (pv 9) pa_nil)) pe_int) pa_nil)) (blkOk_by (own := [("size", 14)]) (N := N_law) (sc := defScope s_law) (by decide +kernel)) (fun _ _ _ _ _ => pg_name (i := 14) sc_law.nd rfl (by first | exact Or.inl rfl | exact Or.inr rfl)) (fun _ _ _ _ _ => (pts_one (PW.pt (pw_and (pt_cmpR op_eq (pe_slice sl_str (pv 9) po_none (po_some (pv 14))) (pe_slice sl_str (pv 10) po_none (po_some (pv 14))) (nomark _)) (pw_and1 (pt_cmpR op_le (pv 14) (pe_callB call_len_str (by rfl) T.z_len PySem.boot_len (pa_cons (pv 10) pa_nil)) (nomark _))))))) (fun _ _ _ _ _ => (pv 14)))
    (pss_one (ps_if (PW.pt (pw_or (pt_cmpR op_ne (pe_call (ok_common T) (hr.mono (by decide)) (by rfl) T.g_common T.F_common.kp T.b_common .nil pass0 (pa_cons (pv 9) (pa_cons (pv 10) pa_nil))) (pe_slice sl_str (pv 9) po_none (po_some (pe_ix ix_list (pv 11) (pe_op op_sub (pe_callB call_len_seq (by rfl) T.z_len PySem.boot_len (pa_cons (pv 11) pa_nil)) pe_int) (fun _ _ => rfl)))) (nomark _)) (pw_or1 (pt_cmpR op_ne (pe_call (ok_common T) (hr.mono (by decide)) (by rfl) T.g_common T.F_common.kp T.b_common .nil pass0 (pa_cons (pv 10) (pa_cons (pv 9) pa_nil))) (pe_slice sl_str (pv 9) po_none (po_some (pe_ix ix_list (pv 11) (pe_op op_sub (pe_callB call_len_seq (by rfl) T.z_len PySem.boot_len (pa_cons (pv 11) pa_nil)) pe_int) (fun _ _ => rfl)))) (nomark _)))))
      (pss_one (ps_ret pe_bl))
      pss_nil))))))))))))
    (pss_one (ps_ret pe_bl))))), ?_⟩
    obtain ⟨a, ns, rfl, hS, hlen, q⟩ := h
    refine ⟨_, rfl, a, ns, rfl, hS, hlen, fun H1 p c s1 np hp1 => ?_⟩
    refine ⟨_, rfl, p, c, rfl, hp1, fun H2 sm2 hp2 => ⟨true, rfl, iteF ?_⟩⟩
    refine ⟨12, rfl, by decide, by decide, for_range (n := 12) (fun _ σ H' => ∃ t2 t3 t4 t5 t6 t7 t8 t9 t10 t11 t12 t13 : Option V, σ = [some (.ref a), some (.ref p), t2, t3, t4, t5, t6, t7, t8, t9, t10, t11, t12, t13, none, none] ∧ Pot K H' p c)
      ⟨_, _, _, _, _, _, _, _, _, _, _, _, rfl, hp2⟩ ?_ (fun σ H' _ => q H')⟩
    rintro i σ H3 hi ⟨t2, t3, t4, t5, t6, t7, t8, t9, t10, t11, t12, t13, rfl, hp3⟩
    refine ⟨_, rfl, (by show 4 ≤ sizeLine; decide), fun l nl => ?_⟩
    have hl1 := hp3.new (o := .lst [.str "a", .str "ab", .str "bz", .str "abcd"]) nl
    refine ⟨p, c, .ref l, _, rfl, hl1, by simp, .inl ⟨l, rfl, SqL.of (sans_of (hp3.ne nl) upd_same)⟩, by decide, fun H4 x sm4 hp4 hx => ?_⟩
    obtain ⟨z, rfl, z1, z2, z3⟩ : ∃ z, x = .str z ∧ SmallS z := by
      simp only [List.mem_cons, List.not_mem_nil, or_false] at hx
      rcases hx with rfl | rfl | rfl | rfl
      · exact ⟨_, rfl, small_a⟩
      · exact ⟨_, rfl, small_ab⟩
      · exact ⟨_, rfl, small_bz⟩
      · exact ⟨_, rfl, small_abcd⟩
    have hzl : z.length ≤ sizeLine := Nat.le_trans z2 (by decide)
    obtain ⟨c0, hc0⟩ : ∃ c0, z.cps.toList[0]? = some c0 := by
      have e : z.cps.toList.length = z.length := by simp [Str.length]
      exact ⟨_, List.getElem?_eq_getElem (by omega)⟩
    have hc0m : c0 < 1000 := z3 c0 (List.mem_of_getElem? hc0)
    have zA : SmallS (z ++ "A") ∨ True := .inr trivial
    refine ⟨_, rfl, _, rfl, _, rfl, _, rfl, _, rfl, _, _, rfl, rfl, (by show z.length + 1 ≤ sizeLine; exact Nat.le_trans (Nat.succ_le_succ z2) (by decide)), (by show 5 ≤ sizeLine; decide), fun l2 nl2 => ?_⟩
    refine ⟨p, c, .ref l2, _, rfl, hp4.new nl2, by simp, .inl ⟨l2, rfl, SqL.of (sans_of (hp4.ne nl2) upd_same)⟩, (by show 5 < 1073741824; decide), fun H5 x sm5 hp5 hx => ?_⟩
    obtain ⟨y, rfl, y1, y2, y3⟩ : ∃ y, x = .str y ∧ 0 < y.length ∧ y.length ≤ 1000 ∧ ∀ c ∈ y.cps.toList, c < 1000 := by
      have big : ∀ y, SmallS y → 0 < y.length ∧ y.length ≤ 1000 ∧ ∀ c ∈ y.cps.toList, c < 1000 := fun y h => ⟨h.1, Nat.le_trans h.2.1 (by decide), h.2.2⟩
      simp only [List.mem_cons, List.not_mem_nil, or_false] at hx
      rcases hx with rfl | rfl | rfl | rfl | rfl
      · exact ⟨_, rfl, big _ ⟨z1, z2, z3⟩⟩
      · exact ⟨_, rfl, big _ ⟨z1, z2, z3⟩⟩
      · refine ⟨_, rfl, ?_, ?_, ?_⟩
        · rw [cat_len]
          omega
        · rw [cat_len]
          show z.length + 1 ≤ 1000
          omega
        · intro d hd
          rw [cat_codes] at hd
          rcases List.mem_append.mp hd with h | h
          · exact z3 d h
          · have e : (("A" : Str)).cps.toList = [65] := by decide +kernel
            rw [e] at h
            rw [List.mem_singleton.mp h]
            decide
      · exact ⟨_, rfl, big _ small_ab1⟩
      · exact ⟨_, rfl, big _ small_odd⟩
    refine ⟨p, c, y, 8, rfl, hp5, y1, y2, by decide, by decide, fun H6 l sm6 hp6 hl hlc => ?_⟩
    have tl : (tx l).length ≤ 10 := by
      rw [tx_len]
      omega
    have tc : ∀ d ∈ (tx l).cps.toList, d < 1000 := fun d hd => y3 d (hlc d (by rw [tx_codes] at hd; exact hd))
    generalize ht : tx l = t at tl tc ⊢
    have one : (tx [c0]).length = 1 := rfl
    refine ⟨_, rfl, _, rfl, t, 30, rfl, rfl, by omega, by decide, ?_⟩
    refine ⟨_, rfl, z, _, c0, rfl, rfl, hzl, atI_nat (j := 0) hc0, tx [c0], 200, rfl, rfl, by rw [one]; decide, by decide, ?_⟩
    refine ⟨_, rfl, z, _, c0, rfl, rfl, hzl, atI_nat (j := 0) hc0, tx [c0], 201, rfl, rfl, by rw [one]; decide, by decide, ?_⟩
    refine ⟨_, rfl, z, _, c0, rfl, rfl, hzl, atI_nat (j := 0) hc0, tx [c0], 5000, rfl, rfl, by rw [one]; decide, by decide, ?_⟩
    generalize hs0 : tx [c0] = s0 at one ⊢
    have sc0 : ∀ d ∈ s0.cps.toList, d < 1000 := fun d hd => by
      rw [← hs0, tx_codes] at hd
      rw [List.mem_singleton.mp hd]
      exact hc0m
    refine ⟨(by show 8 ≤ sizeLine; decide), fun s ns => ?_⟩
    have sA := same_new (o := .lst [.str t, .str (repS t 30), .str (repS s0 200), .str (repS s0 201), .str (repS s0 5000), .str "", .non, .int 0]) ns
    have hsA : (upd H6 s (.lst [.str t, .str (repS t 30), .str (repS s0 200), .str (repS s0 201), .str (repS s0 5000), .str "", .non, .int 0])) s = some (.lst [.str t, .str (repS t 30), .str (repS s0 200), .str (repS s0 201), .str (repS s0 5000), .str "", .non, .int 0]) := upd_same
    refine ⟨_, rfl, _, rfl, (by show 1 ≤ sizeLine; decide), ?_⟩
    revert sA hsA
    generalize upd H6 s (.lst [.str t, .str (repS t 30), .str (repS s0 200), .str (repS s0 201), .str (repS s0 5000), .str "", .non, .int 0]) = HA
    intro sA hsA u1 n1
    have sB := same_new (o := .tup [.str t]) n1
    have hu1 : (upd HA u1 (.tup [.str t])) u1 = some (.tup [.str t]) := upd_same
    refine ⟨_, rfl, (by show 1 ≤ sizeLine; decide), ?_⟩
    revert sB hu1
    generalize upd HA u1 (.tup [.str t]) = HB
    intro sB hu1 u2 n2
    have sC := same_new (o := .lst [.str t]) n2
    have hu2 : (upd HB u2 (.lst [.str t])) u2 = some (.lst [.str t]) := upd_same
    revert sC hu2
    generalize upd HB u2 (.lst [.str t]) = HC
    intro sC hu2 u3 n3
    have sD := same_new (o := .dK []) n3
    have hu3 : (upd HC u3 (.dK [])) u3 = some (.dK []) := upd_same
    refine ⟨(by show 4 ≤ sizeLine; decide), ?_⟩
    revert sD hu3
    generalize upd HC u3 (.dK []) = HD
    intro sD hu3 l4 n4
    have sE := same_new (o := .lst [.ref u1, .ref u2, .ref u3, .bl true]) n4
    have hl4 : (upd HD l4 (.lst [.ref u1, .ref u2, .ref u3, .bl true])) l4 = some (.lst [.ref u1, .ref u2, .ref u3, .bl true]) := upd_same
    revert sE hl4
    generalize upd HD l4 (.lst [.ref u1, .ref u2, .ref u3, .bl true]) = HE
    intro sE hl4
    refine ⟨s, l4, _, _, rfl, rfl, sE _ _ (sD _ _ (sC _ _ (sB _ _ hsA))), hl4, (by show 12 ≤ sizeLine; decide), fun qq nq => ?_⟩
    have sF := same_new (o := .lst ([.str t, .str (repS t 30), .str (repS s0 200), .str (repS s0 201), .str (repS s0 5000), .str "", .non, .int 0] ++ [.ref u1, .ref u2, .ref u3, .bl true])) nq
    have hq : (upd HE qq (.lst ([.str t, .str (repS t 30), .str (repS s0 200), .str (repS s0 201), .str (repS s0 5000), .str "", .non, .int 0] ++ [.ref u1, .ref u2, .ref u3, .bl true]))) qq = some (.lst ([.str t, .str (repS t 30), .str (repS s0 200), .str (repS s0 201), .str (repS s0 5000), .str "", .non, .int 0] ++ [.ref u1, .ref u2, .ref u3, .bl true])) := upd_same
    refine ⟨qq, rfl, ⟨_, SqL.of hq⟩, ?_⟩
    revert sF hq
    generalize upd HE qq (.lst ([.str t, .str (repS t 30), .str (repS s0 200), .str (repS s0 201), .str (repS s0 5000), .str "", .non, .int 0] ++ [.ref u1, .ref u2, .ref u3, .bl true])) = H7
    intro sF hq
    have hu1 := sF _ _ (sE _ _ (sD _ _ (sC _ _ hu1)))
    have hu2 := sF _ _ (sE _ _ (sD _ _ hu2))
    have hu3 := sF _ _ (sE _ _ hu3)
    have sAll := sA.trans (sB.trans (sC.trans (sD.trans (sE.trans sF))))
    have hp7 := hp6.same sAll
    have data : DqAll K H7 ([.str t, .str (repS t 30), .str (repS s0 200), .str (repS s0 201), .str (repS s0 5000), .str "", .non, .int 0] ++ [.ref u1, .ref u2, .ref u3, .bl true]) (things t s0) :=
      .cons (.str _) (.cons (.str _) (.cons (.str _) (.cons (.str _) (.cons (.str _) (.cons (.str _) (.cons .non (.cons (.int _) (.cons (.tup (SqT.of hu1) (.cons (.str _) .nil)) (.cons (.lst (SqL.of hu2) (.cons (.str _) .nil)) (.cons (.emp hu3) (.cons (.bl _) .nil)))))))))))
    have fine := things_fine tl tc (Nat.le_of_eq one) sc0
    refine for_list (K := K) (a := qq) (xs := [.str t, .str (repS t 30), .str (repS s0 200), .str (repS s0 201), .str (repS s0 5000), .str "", .non, .int 0] ++ [.ref u1, .ref u2, .ref u3, .bl true])
      (fun _ σ H' => ∃ t6 t12 t13 : Option V, σ = [some (.ref a), some (.ref p), some (.int (0 + ((i : Nat) : Int))), some (.str z), some (.str t), some (.ref s), t6, t7, t8, t9, t10, t11, t12, t13, none, none] ∧ Same H7 H')
      ⟨_, _, _, rfl, Same.refl _⟩ (fun _ _ _ _ ⟨_, _, _, _, h⟩ => seqL h (SqL.of hq)) ?_ ?_
    · rintro j x σ H8 hj ⟨t6, t12, t13, rfl, s8⟩
      obtain ⟨d, hd1, hd⟩ := data.get hj
      have hd := hd.mono s8
      obtain ⟨sh, hz5⟩ := fine d (List.mem_of_getElem? hd1)
      have hzS : ∀ y, d = .str y → y.length ≤ sizeLine := fun y e => Nat.le_trans (hz5 y e) (by decide)
      refine ⟨_, rfl, x, d, rfl, hd, sh.ok, ?_⟩
      refine ⟨_, rfl, x, .ty "str", _, _, _, rfl, .ty "str", hd.ty, kStr d, _, rfl, ?_⟩
      refine and_str (z := z) (fun y ey Q' k => ?_) (fun H9 s9 => ?_)
      · subst ey
        cases hd
        refine ⟨_, rfl, y, rfl, fun D nD => ?_⟩
        refine lc_it walk_str (fun j H' => Same H8 H' ∧ H' D = some (.lst (((strange z (y.cps.toList.take j)).map fun _ => (1 : Int)).map V.int))) ⟨same_new nD, upd_same⟩ (fun _ _ _ _ => trivial) ?_ ?_
        · rintro j v H9 H10 hj ⟨s9, hD⟩ ⟨rfl, cc, hcc, rfl⟩
          have et : y.cps.toList.take (j + 1) = y.cps.toList.take j ++ [cc] := by
            rw [List.take_add_one]
            have : y.cps.toList[j]? = some cc := by simpa using hcc
            rw [this]
            rfl
          refine ⟨rfl, _, rfl, _, rfl, cc, z, rfl, rfl, _, rfl, ?_⟩
          by_cases hm : cc ∈ z.cps.toList
          · have e1 : (!decide (cc ∈ z.cps.toList)) = false := by simp [hm]
            have e2 : strange z (y.cps.toList.take (j + 1)) = strange z (y.cps.toList.take j) := by
              rw [et]
              exact strange_in _ hm
            refine if_false e1 ⟨s9, ?_⟩
            rw [e2]
            exact hD
          · have e1 : (!decide (cc ∈ z.cps.toList)) = true := by simp [hm]
            have e2 : strange z (y.cps.toList.take (j + 1)) = strange z (y.cps.toList.take j) ++ [cc] := by
              rw [et]
              exact strange_out _ hm
            refine if_true e1 ⟨_, hD, ?_, fun b o e => (upd_ne (ne_of_none e nD)).trans (s9 b o e), ?_⟩
            · rw [List.length_map, List.length_map]
              refine Nat.lt_of_le_of_lt (List.length_filter_le _ _) ?_
              rw [List.length_take]
              have := hz5 y rfl
              have e : y.cps.toList.length = y.length := by simp [Str.length]
              refine Nat.lt_of_le_of_lt (Nat.min_le_right _ _) ?_
              rw [e]
              exact Nat.lt_of_le_of_lt this (by decide)
            · rw [upd_same, e2, List.map_append, List.map_append]
              rfl
        · rintro H9 ⟨s9, hD⟩
          have eall : y.cps.toList.take y.cps.size = y.cps.toList := List.take_of_length_le (by simp)
          rw [eall] at hD
          refine ⟨Nat.zero_le _, fun L nL => ?_⟩
          refine ⟨.list (((strange z y.cps.toList).map fun _ => (1 : Int)).map PyData.int), .list [], .lst (SqL.of (same_new nL _ _ hD)) (dq_ints _), .lst (SqL.of upd_same) .nil, shaped_ints _, shaped_ints [], ?_⟩
          rw [eqv_nil_ints]
          have e : decide ((strange z y.cps.toList).map (fun _ => (1 : Int)) = []) = allIn z y := by
            by_cases h : allIn z y = true
            · rw [h, (strange_nil z y).mpr h]
              rfl
            · rw [Bool.eq_false_iff.mpr h]
              refine decide_eq_false fun z' => h ((strange_nil z y).mp ?_)
              exact List.map_eq_nil_iff.mp z'
          rw [e]
          exact k _ (s9.trans (same_new nL))
      · have hd9 := hd.mono s9
        refine ⟨_, _, rfl, ?_⟩
        refine ⟨_, rfl, _, rfl, z, x, d, rfl, hd9, hzS, _, _, rfl, .bl _, (shows_bool _).ok, ?_⟩
        refine ⟨_, rfl, _, _, rfl, .bl _, (shows_bool _).ok, rfl, _, rfl, ?_⟩
        refine if_false ne_same ?_
        refine ⟨_, rfl, x, d, rfl, hd9, sh.ok, _, rfl, rfl, _, rfl, ?_⟩
        refine if_false ne_same ?_
        refine ⟨_, rfl, _, rfl, z, x, d, rfl, hd9, hzS, _, _, rfl, .bl _, (shows_bool _).ok, ?_⟩
        refine ⟨_, rfl, _, rfl, ?_⟩
        refine and_word (z := z) (fun y ey Q' k => ?_) ?_
        · subst ey
          cases hd9
          exact ⟨_, rfl, _, y.length, rfl, ⟨hzS y rfl, rfl⟩, _, _, rfl, rfl, k⟩
        · refine ⟨_, _, rfl, .bl _, (shows_bool _).ok, rfl, _, rfl, ?_⟩
          refine if_false ne_same ?_
          exact ⟨_, _, _, rfl, s8.trans s9⟩
    · rintro σ H8 ⟨t6, t12, t13, rfl, s8⟩
      have hp8 := hp7.same s8
      have htS : t.length ≤ sizeLine := Nat.le_trans tl (by decide)
      refine ⟨_, rfl, _, rfl, p, c, z, 8, rfl, hp8, z1, by omega, by decide, by decide, fun H9 l9 sm9 hp9 hl9 _ => ?_⟩
      have ol : (tx l9).length ≤ 8 := by
        rw [tx_len]
        omega
      generalize tx l9 = o at ol ⊢
      have hoS : o.length ≤ sizeLine := Nat.le_trans ol (by decide)
      refine ⟨_, rfl, _, rfl, t, rfl, htS, _, _, rfl, rfl, p, c, _, rfl, hp9, by omega, by omega, fun H10 k sm10 hp10 k0 k1 => ?_⟩
      obtain ⟨kn, rfl⟩ : ∃ kn : Nat, k = (kn : Int) := ⟨k.toNat, by omega⟩
      have cl : (cutS t none (some ((kn : Nat) : Int))).length ≤ 10 := Nat.le_trans (cutS_length _ _ _) tl
      refine ⟨_, rfl, _, rfl, (by show 2 ≤ sizeLine; decide), fun v1 m1 => ?_⟩
      refine ⟨_, rfl, _, rfl, _, rfl, _, rfl, t, rfl, htS, _, rfl, _, _, rfl, rfl, Nat.le_trans (Nat.add_le_add cl ol) (by decide), (by show 2 ≤ sizeLine; decide), fun v2 m2 => ?_⟩
      refine ⟨_, rfl, _, rfl, _, rfl, t, rfl, htS, _, rfl, (by show 2 ≤ sizeLine; decide), fun v3 m3 => ?_⟩
      refine ⟨_, rfl, _, rfl, (by show 2 ≤ sizeLine; decide), fun v4 m4 => ?_⟩
      refine ⟨_, rfl, (by show 2 ≤ sizeLine; decide), fun v5 m5 => ?_⟩
      refine ⟨(by show 5 ≤ sizeLine; decide), fun v6 m6 => ?_⟩
      generalize hcut : cutS t none (some ((kn : Nat) : Int)) = tk at cl m2 m3 m4 m5 m6 ⊢
      have p1 := same_new (o := .tup [.str t, .str o]) m1
      have p2 := same_new (o := .tup [.str t, .str (tk ++ o)]) m2
      have p3 := same_new (o := .tup [.str tk, .str t]) m3
      have p4 := same_new (o := .tup [.str o, .str o]) m4
      have p5 := same_new (o := .tup [.str "", .str t]) m5
      have p6 := same_new (o := .tup [.ref v1, .ref v2, .ref v3, .ref v4, .ref v5]) m6
      have g1 := p6 _ _ (p5 _ _ (p4 _ _ (p3 _ _ (p2 _ _ upd_same))))
      have g2 := p6 _ _ (p5 _ _ (p4 _ _ (p3 _ _ upd_same)))
      have g3 := p6 _ _ (p5 _ _ (p4 _ _ upd_same))
      have g4 := p6 _ _ (p5 _ _ upd_same)
      have g5 := p6 _ _ upd_same
      have pA := p1.trans (p2.trans (p3.trans (p4.trans (p5.trans p6))))
      refine ⟨v6, rfl, ⟨_, SqT.of upd_same⟩, ?_⟩
      have g6 : (upd (upd (upd (upd (upd (upd H10 v1 (.tup [.str t, .str o])) v2 (.tup [.str t, .str (tk ++ o)])) v3 (.tup [.str tk, .str t])) v4 (.tup [.str o, .str o])) v5 (.tup [.str "", .str t])) v6 (.tup [.ref v1, .ref v2, .ref v3, .ref v4, .ref v5])) v6 = some (.tup [.ref v1, .ref v2, .ref v3, .ref v4, .ref v5]) := upd_same
      revert g1 g2 g3 g4 g5 g6 pA
      generalize upd (upd (upd (upd (upd (upd H10 v1 (.tup [.str t, .str o])) v2 (.tup [.str t, .str (tk ++ o)])) v3 (.tup [.str tk, .str t])) v4 (.tup [.str o, .str o])) v5 (.tup [.str "", .str t])) v6 (.tup [.ref v1, .ref v2, .ref v3, .ref v4, .ref v5]) = H11
      intro g1 g2 g3 g4 g5 pA g6
      have each : ∀ (j : Nat) (x : V), ([.ref v1, .ref v2, .ref v3, .ref v4, .ref v5] : List V)[j]? = some x → ∃ (v : Addr) (X Y : Str), x = .ref v ∧ H11 v = some (.tup [.str X, .str Y]) ∧ X.length ≤ 1000 ∧ Y.length ≤ 1000 := by
        intro j x hj
        have hm := List.mem_of_getElem? hj
        simp only [List.mem_cons, List.not_mem_nil, or_false] at hm
        have tl2 : (tk ++ o).length ≤ 1000 := by
          rw [cat_len]
          omega
        rcases hm with rfl | rfl | rfl | rfl | rfl
        · exact ⟨_, _, _, rfl, g1, by omega, by omega⟩
        · exact ⟨_, _, _, rfl, g2, by omega, tl2⟩
        · exact ⟨_, _, _, rfl, g3, by omega, by omega⟩
        · exact ⟨_, _, _, rfl, g4, by omega, by omega⟩
        · exact ⟨_, _, _, rfl, g5, by decide, by omega⟩
      refine for_tup (K := K) (a := v6) (xs := [.ref v1, .ref v2, .ref v3, .ref v4, .ref v5])
        (fun _ σ H' => ∃ t9 t10 t11 : Option V, σ = [some (.ref a), some (.ref p), some (.int (0 + ((i : Nat) : Int))), some (.str z), some (.str t), some (.ref s), t6, some (.str o), some (.int ((kn : Nat) : Int)), t9, t10, t11, t12, t13, none, none] ∧ Same H11 H')
        ⟨_, _, _, rfl, Same.refl _⟩ (fun _ _ _ _ ⟨_, _, _, _, h⟩ => seqT h (SqT.of g6)) ?_ ?_
      · rintro j x σ H12 hj ⟨t9, t10, t11, rfl, s12⟩
        obtain ⟨v, X, Y, rfl, hv, hX, hY⟩ := each j x hj
        have hXS : X.length ≤ sizeLine := Nat.le_trans hX (by decide)
        have hYS : Y.length ≤ sizeLine := Nat.le_trans hY (by decide)
        refine ⟨v, _, rfl, SqT.of (s12 _ _ hv), rfl, _, _, rfl, _, _, rfl, rfl, ?_⟩
        have lX : X.cps.toList.length = X.length := by simp [Str.length]
        have lY : Y.cps.toList.length = Y.length := by simp [Str.length]
        have hc := lcp_len_le X.cps.toList Y.cps.toList
        generalize hn : (lcp X.cps.toList Y.cps.toList).length = n at hc
        refine ⟨_, rfl, X, rfl, hXS, _, _, rfl, rfl, ((X.length + 1 : Nat) : Int), rfl, by omega, by omega, fun D nD => ?_⟩
        refine lc_range (lo := 0) (n := X.length + 1) (fun j H' => Same H12 H' ∧ H' D = some (.lst (((List.range (min j (n + 1))).map fun k => ((k : Nat) : Int)).map V.int))) ⟨same_new nD, by rw [Nat.zero_min]; exact upd_same⟩ ?_ ?_
        · rintro j2 H13 hj2 ⟨s13, hD⟩
          refine ⟨rfl, ?_⟩
          refine ⟨_, rfl, _, rfl, ((j2 : Nat) : Int), by rw [Int.zero_add], X, rfl, hXS, _, rfl, _, rfl, ((j2 : Nat) : Int), by rw [Int.zero_add], Y, rfl, hYS, rfl, _, rfl, ?_⟩
          rw [cutS_all, cutS_all]
          by_cases hjn : j2 ≤ n
          · have e1 : X.cps.toList.take j2 = Y.cps.toList.take j2 := (lcp_take _ _ j2 (by omega) (by omega)).mpr (by omega)
            refine if_true (decide_eq_true (by rw [e1])) ?_
            refine ⟨_, rfl, _, rfl, Y, rfl, hYS, _, _, rfl, rfl, _, rfl, ?_⟩
            refine if_true (decide_eq_true (by omega)) ?_
            refine ⟨_, rfl, _, hD, ?_, fun b u e => (upd_ne (ne_of_none e nD)).trans (s13 b u e), ?_⟩
            · rw [List.length_map, List.length_map, List.length_range]
              exact Nat.lt_of_le_of_lt (Nat.min_le_left _ _) (Nat.lt_of_lt_of_le (show j2 < 1002 by omega) (by decide))
            · rw [upd_same, Nat.min_eq_left (by omega : j2 ≤ n + 1), Nat.min_eq_left (by omega : j2 + 1 ≤ n + 1), List.range_succ, List.map_append, List.map_append]
              have e2 : V.int (0 + ((j2 : Nat) : Int)) = V.int ((j2 : Nat) : Int) := by rw [Int.zero_add]
              rw [e2]
              rfl
          · have e4 : min j2 (n + 1) = min (j2 + 1) (n + 1) := by omega
            by_cases c1 : decide (V.str (tx (X.cps.toList.take j2)) = V.str (tx (Y.cps.toList.take j2))) = true
            · refine if_true c1 ?_
              refine ⟨_, rfl, _, rfl, Y, rfl, hYS, _, _, rfl, rfl, _, rfl, ?_⟩
              have c2 : ¬ j2 ≤ Y.length := fun z' => by
                have := (lcp_take X.cps.toList Y.cps.toList j2 (by omega) (by omega)).mp (tx_inj (V.str.inj (of_decide_eq_true c1)))
                omega
              refine if_false (decide_eq_false (by omega)) ⟨s13, ?_⟩
              rw [← e4]
              exact hD
            · refine if_false (Bool.eq_false_iff.mpr c1) ?_
              refine if_false rfl ⟨s13, ?_⟩
              rw [← e4]
              exact hD
        · rintro H13 ⟨s13, hD⟩
          rw [Nat.min_eq_right (by omega : n + 1 ≤ X.length + 1)] at hD
          have ll : (((List.range (n + 1)).map fun k => ((k : Nat) : Int)).map V.int).length = n + 1 := by
            rw [List.length_map, List.length_map, List.length_range]
          have lst : atI (((List.range (n + 1)).map fun k => ((k : Nat) : Int)).map V.int) ((((((List.range (n + 1)).map fun k => ((k : Nat) : Int)).map V.int).length : Nat) : Int) - 1) = some (.int ((n : Nat) : Int)) := by
            rw [ll]
            have e := atI_nat (xs := ((List.range (n + 1)).map fun k => ((k : Nat) : Int)).map V.int) (j := n) (v := .int ((n : Nat) : Int)) (by
              rw [List.getElem?_map, List.getElem?_map, List.getElem?_range (by omega)]
              rfl)
            rw [show (((n + 1 : Nat) : Int) - 1) = ((n : Nat) : Int) by omega]
            exact e
          have cut : cutS X none (some ((n : Nat) : Int)) = comS X Y := by
            rw [cutS_all]
            unfold comS
            rw [lcp_is, hn]
          have com : comS Y X = comS X Y := by
            unfold comS
            rw [lcp_comm]
          refine ⟨_, rfl, _, rfl, X, Y, rfl, hXS, hYS, _, rfl, _, rfl, _, rfl, D, _, rfl, .inl (SqL.of hD), _, _, rfl, rfl, D, _, _, _, rfl, rfl, SqL.of hD, lst, _, rfl, X, rfl, hXS, rfl, _, rfl, ?_⟩
          rw [cut]
          refine if_false ne_same ?_
          refine ⟨_, rfl, _, rfl, Y, X, rfl, hYS, hXS, _, rfl, _, rfl, _, rfl, D, _, rfl, .inl (SqL.of hD), _, _, rfl, rfl, D, _, _, _, rfl, rfl, SqL.of hD, lst, _, rfl, X, rfl, hXS, rfl, _, rfl, ?_⟩
          rw [cut, com]
          refine if_false ne_same ?_
          exact ⟨_, _, _, rfl, s12.trans s13⟩
      · rintro σ H12 ⟨t9, t10, t11, rfl, s12⟩
        exact ⟨_, _, _, _, _, _, _, _, _, _, _, _, rfl, hp10.same (pA.trans s12)⟩
end
end K01

namespace K01
open PySem PySem.Spec PyProof.Rows L2 G Lk
theorem all_mk {l : PySem.W.OpenLaw} {w : World} {K : PySem.W.Frag} {h : Heap} {mg : Str → Option Value} {fa : Addr} (X : K.In h) (G : h.Ns mainGlobals mg) (hfa : mg "law" = some (.ref fa))
    {f0 : Addr} {od0 an0 : Option Addr} {sl0 : Array (Option Value)} {oc0 kV0 dc0 pm0 cd0 ct0 : Value}
    {f1 : Addr} {od1 an1 : Option Addr} {sl1 : Array (Option Value)} {oc1 kV1 dc1 pm1 cd1 ct1 : Value}
    {f2 : Addr} {od2 an2 : Option Addr} {sl2 : Array (Option Value)} {oc2 kV2 dc2 pm2 cd2 ct2 : Value}
    {f3 : Addr} {od3 an3 : Option Addr} {sl3 : Array (Option Value)} {oc3 kV3 dc3 pm3 cd3 ct3 : Value}
    {f4 : Addr} {od4 an4 : Option Addr} {sl4 : Array (Option Value)} {oc4 kV4 dc4 pm4 cd4 ct4 : Value}
    {f5 : Addr} {od5 an5 : Option Addr} {sl5 : Array (Option Value)} {oc5 kV5 dc5 pm5 cd5 ct5 : Value}
    {f6 : Addr} {od6 an6 : Option Addr} {sl6 : Array (Option Value)} {oc6 kV6 dc6 pm6 cd6 ct6 : Value}
    {f7 : Addr} {od7 an7 : Option Addr} {sl7 : Array (Option Value)} {oc7 kV7 dc7 pm7 cd7 ct7 : Value}
    {f8 : Addr} {od8 an8 : Option Addr} {sl8 : Array (Option Value)} {oc8 kV8 dc8 pm8 cd8 ct8 : Value}
    {f9 : Addr} {od9 an9 : Option Addr} {sl9 : Array (Option Value)} {oc9 kV9 dc9 pm9 cd9 ct9 : Value}
    {f10 : Addr} {od10 an10 : Option Addr} {sl10 : Array (Option Value)} {oc10 kV10 dc10 pm10 cd10 ct10 : Value}
    {f11 : Addr} {od11 an11 : Option Addr} {sl11 : Array (Option Value)} {oc11 kV11 dc11 pm11 cd11 ct11 : Value}
    {t_MOST_TEXT : Tok}
    {c_ScanError : Addr}
    {c_TooMany : Addr}
    {i_TooMany : Addr} {nm_TooMany q_TooMany : Str} {N_TooMany : Addr} {bs_TooMany : List Value} {sn_TooMany : List Str} {sub_TooMany : List Value} {ab_TooMany : Bool} {col_TooMany : Option Bool} {dd_TooMany : Option Addr} {m0_TooMany m1_TooMany m2_TooMany m3_TooMany m5_TooMany : Option Value}
    {iod_TooMany ian_TooMany : Option Addr} {isl_TooMany : Array (Option Value)} {ioc_TooMany ikV_TooMany idc_TooMany ipm_TooMany icd_TooMany ict_TooMany : Value}
    {c_SyntaxProblem : Addr}
    {i_SyntaxProblem : Addr} {nm_SyntaxProblem q_SyntaxProblem : Str} {N_SyntaxProblem : Addr} {bs_SyntaxProblem : List Value} {sn_SyntaxProblem : List Str} {sub_SyntaxProblem : List Value} {ab_SyntaxProblem : Bool} {col_SyntaxProblem : Option Bool} {dd_SyntaxProblem : Option Addr} {m0_SyntaxProblem m1_SyntaxProblem m2_SyntaxProblem m3_SyntaxProblem m5_SyntaxProblem : Option Value}
    {iod_SyntaxProblem ian_SyntaxProblem : Option Addr} {isl_SyntaxProblem : Array (Option Value)} {ioc_SyntaxProblem ikV_SyntaxProblem idc_SyntaxProblem ipm_SyntaxProblem icd_SyntaxProblem ict_SyntaxProblem : Value}
    {c_NoOutcome : Addr}
    {i_NoOutcome : Addr} {nm_NoOutcome q_NoOutcome : Str} {N_NoOutcome : Addr} {bs_NoOutcome : List Value} {sn_NoOutcome : List Str} {sub_NoOutcome : List Value} {ab_NoOutcome : Bool} {col_NoOutcome : Option Bool} {dd_NoOutcome : Option Addr} {m0_NoOutcome m1_NoOutcome m2_NoOutcome m3_NoOutcome m5_NoOutcome : Option Value}
    {iod_NoOutcome ian_NoOutcome : Option Addr} {isl_NoOutcome : Array (Option Value)} {ioc_NoOutcome ikV_NoOutcome idc_NoOutcome ipm_NoOutcome icd_NoOutcome ict_NoOutcome : Value}
    {c_NoExpander : Addr}
    {c_NoText : Addr}
    {c_NoCall : Addr}
    {c_NoName : Addr}
    {c_NoMark : Addr}
    {c_Mismatch : Addr}
    {c_InvalidCommand : Addr}
    (a0 : PySem.W.nsIn K mainGlobals "is_word" = some (some (.ref f0)))
    (l0 : K.lookup f0 = some ⟨oc0, od0, .func (PySem.W.fnOf "is_word" "is_word" (defArgs s_is_word) (defBody s_is_word) (defScope s_is_word) .none kV0 dc0 pm0 an0 cd0 ct0), sl0⟩)
    (c0 : PySem.W.codeIn K cd0 "is_word" = true)
    (k0 : PySem.W.keepIn K (.ref f0) = true)
    (a1 : PySem.W.nsIn K mainGlobals "is_text" = some (some (.ref f1)))
    (l1 : K.lookup f1 = some ⟨oc1, od1, .func (PySem.W.fnOf "is_text" "is_text" (defArgs s_is_text) (defBody s_is_text) (defScope s_is_text) .none kV1 dc1 pm1 an1 cd1 ct1), sl1⟩)
    (c1 : PySem.W.codeIn K cd1 "is_text" = true)
    (k1 : PySem.W.keepIn K (.ref f1) = true)
    (a2 : PySem.W.nsIn K mainGlobals "common" = some (some (.ref f2)))
    (l2 : K.lookup f2 = some ⟨oc2, od2, .func (PySem.W.fnOf "common" "common" (defArgs s_common) (defBody s_common) (defScope s_common) .none kV2 dc2 pm2 an2 cd2 ct2), sl2⟩)
    (c2 : PySem.W.codeIn K cd2 "common" = true)
    (k2 : PySem.W.keepIn K (.ref f2) = true)
    (a3 : PySem.W.nsIn K mainGlobals "_law_kneaded" = some (some (.ref f3)))
    (l3 : K.lookup f3 = some ⟨oc3, od3, .func (PySem.W.fnOf "_law_kneaded" "_law_kneaded" (defArgs s_Lkneaded) (defBody s_Lkneaded) (defScope s_Lkneaded) .none kV3 dc3 pm3 an3 cd3 ct3), sl3⟩)
    (c3 : PySem.W.codeIn K cd3 "_law_kneaded" = true)
    (k3 : PySem.W.keepIn K (.ref f3) = true)
    (a4 : PySem.W.nsIn K mainGlobals "_law_pot_of" = some (some (.ref f4)))
    (l4 : K.lookup f4 = some ⟨oc4, od4, .func (PySem.W.fnOf "_law_pot_of" "_law_pot_of" (defArgs s_Lpot_of) (defBody s_Lpot_of) (defScope s_Lpot_of) .none kV4 dc4 pm4 an4 cd4 ct4), sl4⟩)
    (c4 : PySem.W.codeIn K cd4 "_law_pot_of" = true)
    (k4 : PySem.W.keepIn K (.ref f4) = true)
    (a5 : PySem.W.nsIn K mainGlobals "_law_below" = some (some (.ref f5)))
    (l5 : K.lookup f5 = some ⟨oc5, od5, .func (PySem.W.fnOf "_law_below" "_law_below" (defArgs s_Lbelow) (defBody s_Lbelow) (defScope s_Lbelow) .none kV5 dc5 pm5 an5 cd5 ct5), sl5⟩)
    (c5 : PySem.W.codeIn K cd5 "_law_below" = true)
    (k5 : PySem.W.keepIn K (.ref f5) = true)
    (a6 : PySem.W.nsIn K mainGlobals "_law_pick" = some (some (.ref f6)))
    (l6 : K.lookup f6 = some ⟨oc6, od6, .func (PySem.W.fnOf "_law_pick" "_law_pick" (defArgs s_Lpick) (defBody s_Lpick) (defScope s_Lpick) .none kV6 dc6 pm6 an6 cd6 ct6), sl6⟩)
    (c6 : PySem.W.codeIn K cd6 "_law_pick" = true)
    (k6 : PySem.W.keepIn K (.ref f6) = true)
    (a7 : PySem.W.nsIn K mainGlobals "_law_made" = some (some (.ref f7)))
    (l7 : K.lookup f7 = some ⟨oc7, od7, .func (PySem.W.fnOf "_law_made" "_law_made" (defArgs s_Lmade) (defBody s_Lmade) (defScope s_Lmade) .none kV7 dc7 pm7 an7 cd7 ct7), sl7⟩)
    (c7 : PySem.W.codeIn K cd7 "_law_made" = true)
    (k7 : PySem.W.keepIn K (.ref f7) = true)
    (a8 : PySem.W.nsIn K mainGlobals "_law_classes" = some (some (.ref f8)))
    (l8 : K.lookup f8 = some ⟨oc8, od8, .func (PySem.W.fnOf "_law_classes" "_law_classes" (defArgs s_Lclasses) (defBody s_Lclasses) (defScope s_Lclasses) .none kV8 dc8 pm8 an8 cd8 ct8), sl8⟩)
    (c8 : PySem.W.codeIn K cd8 "_law_classes" = true)
    (k8 : PySem.W.keepIn K (.ref f8) = true)
    (a9 : PySem.W.nsIn K mainGlobals "_law_some_string" = some (some (.ref f9)))
    (l9 : K.lookup f9 = some ⟨oc9, od9, .func (PySem.W.fnOf "_law_some_string" "_law_some_string" (defArgs s_Lsome_string) (defBody s_Lsome_string) (defScope s_Lsome_string) .none kV9 dc9 pm9 an9 cd9 ct9), sl9⟩)
    (c9 : PySem.W.codeIn K cd9 "_law_some_string" = true)
    (k9 : PySem.W.keepIn K (.ref f9) = true)
    (a10 : PySem.W.nsIn K mainGlobals "_law_errors_right" = some (some (.ref f10)))
    (l10 : K.lookup f10 = some ⟨oc10, od10, .func (PySem.W.fnOf "_law_errors_right" "_law_errors_right" (defArgs s_Lerrors_right) (defBody s_Lerrors_right) (defScope s_Lerrors_right) .none kV10 dc10 pm10 an10 cd10 ct10), sl10⟩)
    (c10 : PySem.W.codeIn K cd10 "_law_errors_right" = true)
    (k10 : PySem.W.keepIn K (.ref f10) = true)
    (a11 : PySem.W.nsIn K mainGlobals "law" = some (some (.ref f11)))
    (l11 : K.lookup f11 = some ⟨oc11, od11, .func (PySem.W.fnOf "law" "law" (defArgs s_law) (defBody s_law) (defScope s_law) .none kV11 dc11 pm11 an11 cd11 ct11), sl11⟩)
    (c11 : PySem.W.codeIn K cd11 "law" = true)
    (k11 : PySem.W.keepIn K (.ref f11) = true)
    (z_IndexError : PySem.W.nsIn K mainGlobals "IndexError" = some none)
    (z_KeyError : PySem.W.nsIn K mainGlobals "KeyError" = some none)
    (z_TypeError : PySem.W.nsIn K mainGlobals "TypeError" = some none)
    (z_ValueError : PySem.W.nsIn K mainGlobals "ValueError" = some none)
    (z_abs : PySem.W.nsIn K mainGlobals "abs" = some none)
    (z_enumerate : PySem.W.nsIn K mainGlobals "enumerate" = some none)
    (z_int : PySem.W.nsIn K mainGlobals "int" = some none)
    (z_isinstance : PySem.W.nsIn K mainGlobals "isinstance" = some none)
    (z_len : PySem.W.nsIn K mainGlobals "len" = some none)
    (z_list : PySem.W.nsIn K mainGlobals "list" = some none)
    (z_min : PySem.W.nsIn K mainGlobals "min" = some none)
    (z_range : PySem.W.nsIn K mainGlobals "range" = some none)
    (z_repr : PySem.W.nsIn K mainGlobals "repr" = some none)
    (z_str : PySem.W.nsIn K mainGlobals "str" = some none)
    (m_MOST_TEXT : PySem.W.nsIn K mainGlobals "MOST_TEXT" = some (some (.int 200 t_MOST_TEXT)))
    (n_ScanError : PySem.W.nsIn K mainGlobals "ScanError" = some (some (.ref c_ScanError)))
    (n_TooMany : PySem.W.nsIn K mainGlobals "TooMany" = some (some (.ref c_TooMany)))
    (n_SyntaxProblem : PySem.W.nsIn K mainGlobals "SyntaxProblem" = some (some (.ref c_SyntaxProblem)))
    (n_NoOutcome : PySem.W.nsIn K mainGlobals "NoOutcome" = some (some (.ref c_NoOutcome)))
    (n_NoExpander : PySem.W.nsIn K mainGlobals "NoExpander" = some (some (.ref c_NoExpander)))
    (n_NoText : PySem.W.nsIn K mainGlobals "NoText" = some (some (.ref c_NoText)))
    (n_NoCall : PySem.W.nsIn K mainGlobals "NoCall" = some (some (.ref c_NoCall)))
    (n_NoName : PySem.W.nsIn K mainGlobals "NoName" = some (some (.ref c_NoName)))
    (n_NoMark : PySem.W.nsIn K mainGlobals "NoMark" = some (some (.ref c_NoMark)))
    (n_Mismatch : PySem.W.nsIn K mainGlobals "Mismatch" = some (some (.ref c_Mismatch)))
    (n_InvalidCommand : PySem.W.nsIn K mainGlobals "InvalidCommand" = some (some (.ref c_InvalidCommand)))
    (hg_ScanError : PySem.W.findIn K (.ref c_ScanError) "__getattribute__" = some (some (.builtin "BaseException.__getattribute__")))
    (hk_ScanError : PySem.W.findIn K (.ref c_ScanError) "__getattr__" = some none)
    (hs_ScanError : PySem.W.subIn K (.ref c_ScanError) (.type "BaseException") = some true)
    (hd_ScanError : PySem.W.hasDictIn K c_ScanError = true)
    (ha_ScanError : PySem.W.findIn K (.ref c_ScanError) "__class__" = some (some (.builtin "object.__class__")))
    (hm_ScanError : PySem.W.mroIn K c_ScanError (.type "object") = some true)
    (ty_ScanError : PySem.W.typeIn K (.ref c_ScanError) = some (.type "type"))
    (self_ScanError : PySem.W.subIn K (.ref c_ScanError) (.ref c_ScanError) = some true)
    (xi_ScanError : PySem.W.excIn K c_ScanError [.type "ValueError", .type "Exception", .type "BaseException", .type "object"] "ValueError.__new__" = true)
    (kc_ScanError : PySem.W.keepIn K (.ref c_ScanError) = true)
    (r_ScanError : RowS K c_ScanError [c_TooMany, c_SyntaxProblem, c_NoOutcome, c_NoExpander, c_NoText, c_NoCall, c_NoName, c_NoMark, c_Mismatch, c_InvalidCommand] [false, false, false, false, false, false, false, false, false, false])
    (hg_TooMany : PySem.W.findIn K (.ref c_TooMany) "__getattribute__" = some (some (.builtin "BaseException.__getattribute__")))
    (hk_TooMany : PySem.W.findIn K (.ref c_TooMany) "__getattr__" = some none)
    (hs_TooMany : PySem.W.subIn K (.ref c_TooMany) (.type "BaseException") = some true)
    (hd_TooMany : PySem.W.hasDictIn K c_TooMany = true)
    (ha_TooMany : PySem.W.findIn K (.ref c_TooMany) "__class__" = some (some (.builtin "object.__class__")))
    (hm_TooMany : PySem.W.mroIn K c_TooMany (.type "object") = some true)
    (ty_TooMany : PySem.W.typeIn K (.ref c_TooMany) = some (.type "type"))
    (self_TooMany : PySem.W.subIn K (.ref c_TooMany) (.ref c_TooMany) = some true)
    (nf_TooMany_limit : PySem.W.findIn K (.ref c_TooMany) "limit" = some none)
    (xl_TooMany : K.lookup c_TooMany = some (excClassObj nm_TooMany q_TooMany c_TooMany N_TooMany bs_TooMany [.ref c_ScanError, .type "ValueError", .type "Exception", .type "BaseException", .type "object"] true sn_TooMany sub_TooMany ab_TooMany col_TooMany dd_TooMany m0_TooMany m1_TooMany m2_TooMany m3_TooMany m5_TooMany "ValueError.__new__"))
    (sa_TooMany : PySem.W.findIn K (.ref c_TooMany) "__setattr__" = some (some (.builtin "object.__setattr__")))
    (kc_TooMany : PySem.W.keepIn K (.ref c_TooMany) = true)
    (ii_TooMany : PySem.W.findIn K (.ref c_TooMany) "__init__" = some (some (.ref i_TooMany)))
    (it_TooMany : PySem.W.typeIn K (.ref i_TooMany) = some (.type "function"))
    (il_TooMany : K.lookup i_TooMany = some ⟨ioc_TooMany, iod_TooMany, .func (PySem.W.fnOf "__init__" "TooMany.__init__" (defArgs (inClass (top 2) 0)) (defBody (inClass (top 2) 0)) (defScope (inClass (top 2) 0)) .none ikV_TooMany idc_TooMany ipm_TooMany ian_TooMany icd_TooMany ict_TooMany), isl_TooMany⟩)
    (ic_TooMany : PySem.W.codeIn K icd_TooMany "TooMany.__init__" = true)
    (ik_TooMany : PySem.W.keepIn K (.ref i_TooMany) = true)
    (r_TooMany : RowS K c_TooMany [c_TooMany, c_SyntaxProblem, c_NoOutcome, c_NoExpander, c_NoText, c_NoCall, c_NoName, c_NoMark, c_Mismatch, c_InvalidCommand] [true, false, false, false, false, false, false, false, false, false])
    (u1_TooMany : PySem.W.subIn K (.ref c_TooMany) (.ref c_ScanError) = some true)
    (u2_TooMany : PySem.W.subIn K (.ref c_TooMany) (.type "ValueError") = some true)
    (u3_TooMany : PySem.W.subIn K (.ref c_TooMany) (.type "KeyError") = some false)
    (u4_TooMany : PySem.W.subIn K (.ref c_TooMany) (.type "IndexError") = some false)
    (u5_TooMany : PySem.W.subIn K (.ref c_TooMany) (.type "TypeError") = some false)
    (hg_SyntaxProblem : PySem.W.findIn K (.ref c_SyntaxProblem) "__getattribute__" = some (some (.builtin "BaseException.__getattribute__")))
    (hk_SyntaxProblem : PySem.W.findIn K (.ref c_SyntaxProblem) "__getattr__" = some none)
    (hs_SyntaxProblem : PySem.W.subIn K (.ref c_SyntaxProblem) (.type "BaseException") = some true)
    (hd_SyntaxProblem : PySem.W.hasDictIn K c_SyntaxProblem = true)
    (ha_SyntaxProblem : PySem.W.findIn K (.ref c_SyntaxProblem) "__class__" = some (some (.builtin "object.__class__")))
    (hm_SyntaxProblem : PySem.W.mroIn K c_SyntaxProblem (.type "object") = some true)
    (ty_SyntaxProblem : PySem.W.typeIn K (.ref c_SyntaxProblem) = some (.type "type"))
    (self_SyntaxProblem : PySem.W.subIn K (.ref c_SyntaxProblem) (.ref c_SyntaxProblem) = some true)
    (nf_SyntaxProblem_line : PySem.W.findIn K (.ref c_SyntaxProblem) "line" = some none)
    (nf_SyntaxProblem_column : PySem.W.findIn K (.ref c_SyntaxProblem) "column" = some none)
    (xl_SyntaxProblem : K.lookup c_SyntaxProblem = some (excClassObj nm_SyntaxProblem q_SyntaxProblem c_SyntaxProblem N_SyntaxProblem bs_SyntaxProblem [.ref c_ScanError, .type "ValueError", .type "Exception", .type "BaseException", .type "object"] true sn_SyntaxProblem sub_SyntaxProblem ab_SyntaxProblem col_SyntaxProblem dd_SyntaxProblem m0_SyntaxProblem m1_SyntaxProblem m2_SyntaxProblem m3_SyntaxProblem m5_SyntaxProblem "ValueError.__new__"))
    (sa_SyntaxProblem : PySem.W.findIn K (.ref c_SyntaxProblem) "__setattr__" = some (some (.builtin "object.__setattr__")))
    (kc_SyntaxProblem : PySem.W.keepIn K (.ref c_SyntaxProblem) = true)
    (ii_SyntaxProblem : PySem.W.findIn K (.ref c_SyntaxProblem) "__init__" = some (some (.ref i_SyntaxProblem)))
    (it_SyntaxProblem : PySem.W.typeIn K (.ref i_SyntaxProblem) = some (.type "function"))
    (il_SyntaxProblem : K.lookup i_SyntaxProblem = some ⟨ioc_SyntaxProblem, iod_SyntaxProblem, .func (PySem.W.fnOf "__init__" "SyntaxProblem.__init__" (defArgs (inClass (top 3) 0)) (defBody (inClass (top 3) 0)) (defScope (inClass (top 3) 0)) .none ikV_SyntaxProblem idc_SyntaxProblem ipm_SyntaxProblem ian_SyntaxProblem icd_SyntaxProblem ict_SyntaxProblem), isl_SyntaxProblem⟩)
    (ic_SyntaxProblem : PySem.W.codeIn K icd_SyntaxProblem "SyntaxProblem.__init__" = true)
    (ik_SyntaxProblem : PySem.W.keepIn K (.ref i_SyntaxProblem) = true)
    (r_SyntaxProblem : RowS K c_SyntaxProblem [c_TooMany, c_SyntaxProblem, c_NoOutcome, c_NoExpander, c_NoText, c_NoCall, c_NoName, c_NoMark, c_Mismatch, c_InvalidCommand] [false, true, false, false, false, false, false, false, false, false])
    (u1_SyntaxProblem : PySem.W.subIn K (.ref c_SyntaxProblem) (.ref c_ScanError) = some true)
    (u2_SyntaxProblem : PySem.W.subIn K (.ref c_SyntaxProblem) (.type "ValueError") = some true)
    (u3_SyntaxProblem : PySem.W.subIn K (.ref c_SyntaxProblem) (.type "KeyError") = some false)
    (u4_SyntaxProblem : PySem.W.subIn K (.ref c_SyntaxProblem) (.type "IndexError") = some false)
    (u5_SyntaxProblem : PySem.W.subIn K (.ref c_SyntaxProblem) (.type "TypeError") = some false)
    (hg_NoOutcome : PySem.W.findIn K (.ref c_NoOutcome) "__getattribute__" = some (some (.builtin "BaseException.__getattribute__")))
    (hk_NoOutcome : PySem.W.findIn K (.ref c_NoOutcome) "__getattr__" = some none)
    (hs_NoOutcome : PySem.W.subIn K (.ref c_NoOutcome) (.type "BaseException") = some true)
    (hd_NoOutcome : PySem.W.hasDictIn K c_NoOutcome = true)
    (ha_NoOutcome : PySem.W.findIn K (.ref c_NoOutcome) "__class__" = some (some (.builtin "object.__class__")))
    (hm_NoOutcome : PySem.W.mroIn K c_NoOutcome (.type "object") = some true)
    (ty_NoOutcome : PySem.W.typeIn K (.ref c_NoOutcome) = some (.type "type"))
    (self_NoOutcome : PySem.W.subIn K (.ref c_NoOutcome) (.ref c_NoOutcome) = some true)
    (nf_NoOutcome_kind : PySem.W.findIn K (.ref c_NoOutcome) "kind" = some none)
    (nf_NoOutcome_thread : PySem.W.findIn K (.ref c_NoOutcome) "thread" = some none)
    (xl_NoOutcome : K.lookup c_NoOutcome = some (excClassObj nm_NoOutcome q_NoOutcome c_NoOutcome N_NoOutcome bs_NoOutcome [.ref c_ScanError, .type "ValueError", .type "Exception", .type "BaseException", .type "object"] true sn_NoOutcome sub_NoOutcome ab_NoOutcome col_NoOutcome dd_NoOutcome m0_NoOutcome m1_NoOutcome m2_NoOutcome m3_NoOutcome m5_NoOutcome "ValueError.__new__"))
    (sa_NoOutcome : PySem.W.findIn K (.ref c_NoOutcome) "__setattr__" = some (some (.builtin "object.__setattr__")))
    (kc_NoOutcome : PySem.W.keepIn K (.ref c_NoOutcome) = true)
    (ii_NoOutcome : PySem.W.findIn K (.ref c_NoOutcome) "__init__" = some (some (.ref i_NoOutcome)))
    (it_NoOutcome : PySem.W.typeIn K (.ref i_NoOutcome) = some (.type "function"))
    (il_NoOutcome : K.lookup i_NoOutcome = some ⟨ioc_NoOutcome, iod_NoOutcome, .func (PySem.W.fnOf "__init__" "NoOutcome.__init__" (defArgs (inClass (top 4) 0)) (defBody (inClass (top 4) 0)) (defScope (inClass (top 4) 0)) .none ikV_NoOutcome idc_NoOutcome ipm_NoOutcome ian_NoOutcome icd_NoOutcome ict_NoOutcome), isl_NoOutcome⟩)
    (ic_NoOutcome : PySem.W.codeIn K icd_NoOutcome "NoOutcome.__init__" = true)
    (ik_NoOutcome : PySem.W.keepIn K (.ref i_NoOutcome) = true)
    (r_NoOutcome : RowS K c_NoOutcome [c_TooMany, c_SyntaxProblem, c_NoOutcome, c_NoExpander, c_NoText, c_NoCall, c_NoName, c_NoMark, c_Mismatch, c_InvalidCommand] [false, false, true, false, false, false, false, false, false, false])
    (u1_NoOutcome : PySem.W.subIn K (.ref c_NoOutcome) (.ref c_ScanError) = some true)
    (u2_NoOutcome : PySem.W.subIn K (.ref c_NoOutcome) (.type "ValueError") = some true)
    (u3_NoOutcome : PySem.W.subIn K (.ref c_NoOutcome) (.type "KeyError") = some false)
    (u4_NoOutcome : PySem.W.subIn K (.ref c_NoOutcome) (.type "IndexError") = some false)
    (u5_NoOutcome : PySem.W.subIn K (.ref c_NoOutcome) (.type "TypeError") = some false)
    (hg_NoExpander : PySem.W.findIn K (.ref c_NoExpander) "__getattribute__" = some (some (.builtin "BaseException.__getattribute__")))
    (hk_NoExpander : PySem.W.findIn K (.ref c_NoExpander) "__getattr__" = some none)
    (hs_NoExpander : PySem.W.subIn K (.ref c_NoExpander) (.type "BaseException") = some true)
    (hd_NoExpander : PySem.W.hasDictIn K c_NoExpander = true)
    (ha_NoExpander : PySem.W.findIn K (.ref c_NoExpander) "__class__" = some (some (.builtin "object.__class__")))
    (hm_NoExpander : PySem.W.mroIn K c_NoExpander (.type "object") = some true)
    (ty_NoExpander : PySem.W.typeIn K (.ref c_NoExpander) = some (.type "type"))
    (self_NoExpander : PySem.W.subIn K (.ref c_NoExpander) (.ref c_NoExpander) = some true)
    (xi_NoExpander : PySem.W.excIn K c_NoExpander [.type "ValueError", .type "Exception", .type "BaseException", .type "object"] "ValueError.__new__" = true)
    (kc_NoExpander : PySem.W.keepIn K (.ref c_NoExpander) = true)
    (r_NoExpander : RowS K c_NoExpander [c_TooMany, c_SyntaxProblem, c_NoOutcome, c_NoExpander, c_NoText, c_NoCall, c_NoName, c_NoMark, c_Mismatch, c_InvalidCommand] [false, false, false, true, false, false, false, false, false, false])
    (u1_NoExpander : PySem.W.subIn K (.ref c_NoExpander) (.ref c_ScanError) = some true)
    (u2_NoExpander : PySem.W.subIn K (.ref c_NoExpander) (.type "ValueError") = some true)
    (u3_NoExpander : PySem.W.subIn K (.ref c_NoExpander) (.type "KeyError") = some false)
    (u4_NoExpander : PySem.W.subIn K (.ref c_NoExpander) (.type "IndexError") = some false)
    (u5_NoExpander : PySem.W.subIn K (.ref c_NoExpander) (.type "TypeError") = some false)
    (hg_NoText : PySem.W.findIn K (.ref c_NoText) "__getattribute__" = some (some (.builtin "BaseException.__getattribute__")))
    (hk_NoText : PySem.W.findIn K (.ref c_NoText) "__getattr__" = some none)
    (hs_NoText : PySem.W.subIn K (.ref c_NoText) (.type "BaseException") = some true)
    (hd_NoText : PySem.W.hasDictIn K c_NoText = true)
    (ha_NoText : PySem.W.findIn K (.ref c_NoText) "__class__" = some (some (.builtin "object.__class__")))
    (hm_NoText : PySem.W.mroIn K c_NoText (.type "object") = some true)
    (ty_NoText : PySem.W.typeIn K (.ref c_NoText) = some (.type "type"))
    (self_NoText : PySem.W.subIn K (.ref c_NoText) (.ref c_NoText) = some true)
    (xi_NoText : PySem.W.excIn K c_NoText [.type "ValueError", .type "Exception", .type "BaseException", .type "object"] "ValueError.__new__" = true)
    (kc_NoText : PySem.W.keepIn K (.ref c_NoText) = true)
    (r_NoText : RowS K c_NoText [c_TooMany, c_SyntaxProblem, c_NoOutcome, c_NoExpander, c_NoText, c_NoCall, c_NoName, c_NoMark, c_Mismatch, c_InvalidCommand] [false, false, false, false, true, false, false, false, false, false])
    (u1_NoText : PySem.W.subIn K (.ref c_NoText) (.ref c_ScanError) = some true)
    (u2_NoText : PySem.W.subIn K (.ref c_NoText) (.type "ValueError") = some true)
    (u3_NoText : PySem.W.subIn K (.ref c_NoText) (.type "KeyError") = some false)
    (u4_NoText : PySem.W.subIn K (.ref c_NoText) (.type "IndexError") = some false)
    (u5_NoText : PySem.W.subIn K (.ref c_NoText) (.type "TypeError") = some false)
    (hg_NoCall : PySem.W.findIn K (.ref c_NoCall) "__getattribute__" = some (some (.builtin "BaseException.__getattribute__")))
    (hk_NoCall : PySem.W.findIn K (.ref c_NoCall) "__getattr__" = some none)
    (hs_NoCall : PySem.W.subIn K (.ref c_NoCall) (.type "BaseException") = some true)
    (hd_NoCall : PySem.W.hasDictIn K c_NoCall = true)
    (ha_NoCall : PySem.W.findIn K (.ref c_NoCall) "__class__" = some (some (.builtin "object.__class__")))
    (hm_NoCall : PySem.W.mroIn K c_NoCall (.type "object") = some true)
    (ty_NoCall : PySem.W.typeIn K (.ref c_NoCall) = some (.type "type"))
    (self_NoCall : PySem.W.subIn K (.ref c_NoCall) (.ref c_NoCall) = some true)
    (xi_NoCall : PySem.W.excIn K c_NoCall [.type "ValueError", .type "Exception", .type "BaseException", .type "object"] "ValueError.__new__" = true)
    (kc_NoCall : PySem.W.keepIn K (.ref c_NoCall) = true)
    (r_NoCall : RowS K c_NoCall [c_TooMany, c_SyntaxProblem, c_NoOutcome, c_NoExpander, c_NoText, c_NoCall, c_NoName, c_NoMark, c_Mismatch, c_InvalidCommand] [false, false, false, false, false, true, false, false, false, false])
    (u1_NoCall : PySem.W.subIn K (.ref c_NoCall) (.ref c_ScanError) = some true)
    (u2_NoCall : PySem.W.subIn K (.ref c_NoCall) (.type "ValueError") = some true)
    (u3_NoCall : PySem.W.subIn K (.ref c_NoCall) (.type "KeyError") = some false)
    (u4_NoCall : PySem.W.subIn K (.ref c_NoCall) (.type "IndexError") = some false)
    (u5_NoCall : PySem.W.subIn K (.ref c_NoCall) (.type "TypeError") = some false)
    (hg_NoName : PySem.W.findIn K (.ref c_NoName) "__getattribute__" = some (some (.builtin "BaseException.__getattribute__")))
    (hk_NoName : PySem.W.findIn K (.ref c_NoName) "__getattr__" = some none)
    (hs_NoName : PySem.W.subIn K (.ref c_NoName) (.type "BaseException") = some true)
    (hd_NoName : PySem.W.hasDictIn K c_NoName = true)
    (ha_NoName : PySem.W.findIn K (.ref c_NoName) "__class__" = some (some (.builtin "object.__class__")))
    (hm_NoName : PySem.W.mroIn K c_NoName (.type "object") = some true)
    (ty_NoName : PySem.W.typeIn K (.ref c_NoName) = some (.type "type"))
    (self_NoName : PySem.W.subIn K (.ref c_NoName) (.ref c_NoName) = some true)
    (xi_NoName : PySem.W.excIn K c_NoName [.type "ValueError", .type "Exception", .type "BaseException", .type "object"] "ValueError.__new__" = true)
    (kc_NoName : PySem.W.keepIn K (.ref c_NoName) = true)
    (r_NoName : RowS K c_NoName [c_TooMany, c_SyntaxProblem, c_NoOutcome, c_NoExpander, c_NoText, c_NoCall, c_NoName, c_NoMark, c_Mismatch, c_InvalidCommand] [false, false, false, false, false, false, true, false, false, false])
    (u1_NoName : PySem.W.subIn K (.ref c_NoName) (.ref c_ScanError) = some true)
    (u2_NoName : PySem.W.subIn K (.ref c_NoName) (.type "ValueError") = some true)
    (u3_NoName : PySem.W.subIn K (.ref c_NoName) (.type "KeyError") = some false)
    (u4_NoName : PySem.W.subIn K (.ref c_NoName) (.type "IndexError") = some false)
    (u5_NoName : PySem.W.subIn K (.ref c_NoName) (.type "TypeError") = some false)
    (hg_NoMark : PySem.W.findIn K (.ref c_NoMark) "__getattribute__" = some (some (.builtin "BaseException.__getattribute__")))
    (hk_NoMark : PySem.W.findIn K (.ref c_NoMark) "__getattr__" = some none)
    (hs_NoMark : PySem.W.subIn K (.ref c_NoMark) (.type "BaseException") = some true)
    (hd_NoMark : PySem.W.hasDictIn K c_NoMark = true)
    (ha_NoMark : PySem.W.findIn K (.ref c_NoMark) "__class__" = some (some (.builtin "object.__class__")))
    (hm_NoMark : PySem.W.mroIn K c_NoMark (.type "object") = some true)
    (ty_NoMark : PySem.W.typeIn K (.ref c_NoMark) = some (.type "type"))
    (self_NoMark : PySem.W.subIn K (.ref c_NoMark) (.ref c_NoMark) = some true)
    (xi_NoMark : PySem.W.excIn K c_NoMark [.type "ValueError", .type "Exception", .type "BaseException", .type "object"] "ValueError.__new__" = true)
    (kc_NoMark : PySem.W.keepIn K (.ref c_NoMark) = true)
    (r_NoMark : RowS K c_NoMark [c_TooMany, c_SyntaxProblem, c_NoOutcome, c_NoExpander, c_NoText, c_NoCall, c_NoName, c_NoMark, c_Mismatch, c_InvalidCommand] [false, false, false, false, false, false, false, true, false, false])
    (u1_NoMark : PySem.W.subIn K (.ref c_NoMark) (.ref c_ScanError) = some true)
    (u2_NoMark : PySem.W.subIn K (.ref c_NoMark) (.type "ValueError") = some true)
    (u3_NoMark : PySem.W.subIn K (.ref c_NoMark) (.type "KeyError") = some false)
    (u4_NoMark : PySem.W.subIn K (.ref c_NoMark) (.type "IndexError") = some false)
    (u5_NoMark : PySem.W.subIn K (.ref c_NoMark) (.type "TypeError") = some false)
    (hg_Mismatch : PySem.W.findIn K (.ref c_Mismatch) "__getattribute__" = some (some (.builtin "BaseException.__getattribute__")))
    (hk_Mismatch : PySem.W.findIn K (.ref c_Mismatch) "__getattr__" = some none)
    (hs_Mismatch : PySem.W.subIn K (.ref c_Mismatch) (.type "BaseException") = some true)
    (hd_Mismatch : PySem.W.hasDictIn K c_Mismatch = true)
    (ha_Mismatch : PySem.W.findIn K (.ref c_Mismatch) "__class__" = some (some (.builtin "object.__class__")))
    (hm_Mismatch : PySem.W.mroIn K c_Mismatch (.type "object") = some true)
    (ty_Mismatch : PySem.W.typeIn K (.ref c_Mismatch) = some (.type "type"))
    (self_Mismatch : PySem.W.subIn K (.ref c_Mismatch) (.ref c_Mismatch) = some true)
    (xi_Mismatch : PySem.W.excIn K c_Mismatch [.type "ValueError", .type "Exception", .type "BaseException", .type "object"] "ValueError.__new__" = true)
    (kc_Mismatch : PySem.W.keepIn K (.ref c_Mismatch) = true)
    (r_Mismatch : RowS K c_Mismatch [c_TooMany, c_SyntaxProblem, c_NoOutcome, c_NoExpander, c_NoText, c_NoCall, c_NoName, c_NoMark, c_Mismatch, c_InvalidCommand] [false, false, false, false, false, false, false, false, true, false])
    (u1_Mismatch : PySem.W.subIn K (.ref c_Mismatch) (.ref c_ScanError) = some true)
    (u2_Mismatch : PySem.W.subIn K (.ref c_Mismatch) (.type "ValueError") = some true)
    (u3_Mismatch : PySem.W.subIn K (.ref c_Mismatch) (.type "KeyError") = some false)
    (u4_Mismatch : PySem.W.subIn K (.ref c_Mismatch) (.type "IndexError") = some false)
    (u5_Mismatch : PySem.W.subIn K (.ref c_Mismatch) (.type "TypeError") = some false)
    (hg_InvalidCommand : PySem.W.findIn K (.ref c_InvalidCommand) "__getattribute__" = some (some (.builtin "BaseException.__getattribute__")))
    (hk_InvalidCommand : PySem.W.findIn K (.ref c_InvalidCommand) "__getattr__" = some none)
    (hs_InvalidCommand : PySem.W.subIn K (.ref c_InvalidCommand) (.type "BaseException") = some true)
    (hd_InvalidCommand : PySem.W.hasDictIn K c_InvalidCommand = true)
    (ha_InvalidCommand : PySem.W.findIn K (.ref c_InvalidCommand) "__class__" = some (some (.builtin "object.__class__")))
    (hm_InvalidCommand : PySem.W.mroIn K c_InvalidCommand (.type "object") = some true)
    (ty_InvalidCommand : PySem.W.typeIn K (.ref c_InvalidCommand) = some (.type "type"))
    (self_InvalidCommand : PySem.W.subIn K (.ref c_InvalidCommand) (.ref c_InvalidCommand) = some true)
    (xi_InvalidCommand : PySem.W.excIn K c_InvalidCommand [.type "ValueError", .type "Exception", .type "BaseException", .type "object"] "ValueError.__new__" = true)
    (kc_InvalidCommand : PySem.W.keepIn K (.ref c_InvalidCommand) = true)
    (r_InvalidCommand : RowS K c_InvalidCommand [c_TooMany, c_SyntaxProblem, c_NoOutcome, c_NoExpander, c_NoText, c_NoCall, c_NoName, c_NoMark, c_Mismatch, c_InvalidCommand] [false, false, false, false, false, false, false, false, false, true])
    (u1_InvalidCommand : PySem.W.subIn K (.ref c_InvalidCommand) (.ref c_ScanError) = some true)
    (u2_InvalidCommand : PySem.W.subIn K (.ref c_InvalidCommand) (.type "ValueError") = some true)
    (u3_InvalidCommand : PySem.W.subIn K (.ref c_InvalidCommand) (.type "KeyError") = some false)
    (u4_InvalidCommand : PySem.W.subIn K (.ref c_InvalidCommand) (.type "IndexError") = some false)
    (u5_InvalidCommand : PySem.W.subIn K (.ref c_InvalidCommand) (.type "TypeError") = some false)
    (hn : PySem.W.specialIn K (.builtin "object.__class__") "__get__" = some (some (.builtin "getset_descriptor.__get__")))
    (ht : PySem.W.takesIn K (.builtin "object.__class__") = some true)
    : ∃ fd : FuncData, (∀ (s : Shared) (v : Value), BindsTo s fd ⟨[v], []⟩ [("script", v)]) ∧ ∀ base : Heap, K.In base → base.Ns mainGlobals mg → FnG l.prog w K mg base CX0 5 fa fd ["script"] (sp_law K) := by
  have e := hfa.symm.trans (PySem.W.mg_of X G a11)
  cases e
  have F0 := fun_mk (st := s_is_word) l0 c0 k0
  have b0 := F0.binds (ps := ["signs", "thing"]) fun _ _ _ _ _ _ us hl => match us, hl with | [_, _], _ => rfl
  have F1 := fun_mk (st := s_is_text) l1 c1 k1
  have b1 := F1.binds (ps := ["signs", "thing"]) fun _ _ _ _ _ _ us hl => match us, hl with | [_, _], _ => rfl
  have F2 := fun_mk (st := s_common) l2 c2 k2
  have b2 := F2.binds (ps := ["one", "other"]) fun _ _ _ _ _ _ us hl => match us, hl with | [_, _], _ => rfl
  have F3 := fun_mk (st := s_Lkneaded) l3 c3 k3
  have b3 := F3.binds (ps := ["seed", "lap"]) fun _ _ _ _ _ _ us hl => match us, hl with | [_, _], _ => rfl
  have F4 := fun_mk (st := s_Lpot_of) l4 c4 k4
  have b4 := F4.binds (ps := ["script"]) fun _ _ _ _ _ _ us hl => match us, hl with | [_], _ => rfl
  have F5 := fun_mk (st := s_Lbelow) l5 c5 k5
  have b5 := F5.binds (ps := ["pot", "bound"]) fun _ _ _ _ _ _ us hl => match us, hl with | [_, _], _ => rfl
  have F6 := fun_mk (st := s_Lpick) l6 c6 k6
  have b6 := F6.binds (ps := ["pot", "items"]) fun _ _ _ _ _ _ us hl => match us, hl with | [_, _], _ => rfl
  have F7 := fun_mk (st := s_Lmade) l7 c7 k7
  have b7 := F7.binds (ps := ["limit", "place"]) fun _ _ _ _ _ _ us hl => match us, hl with | [_, _], _ => rfl
  have F8 := fun_mk (st := s_Lclasses) l8 c8 k8
  have b8 := F8.binds (ps := ["error"]) fun _ _ _ _ _ _ us hl => match us, hl with | [_], _ => rfl
  have F9 := fun_mk (st := s_Lsome_string) l9 c9 k9
  have b9 := F9.binds (ps := ["pot", "signs", "limit"]) fun _ _ _ _ _ _ us hl => match us, hl with | [_, _, _], _ => rfl
  have F10 := fun_mk (st := s_Lerrors_right) l10 c10 k10
  have b10 := F10.binds (ps := ["pot"]) fun _ _ _ _ _ _ us hl => match us, hl with | [_], _ => rfl
  have F11 := fun_mk (st := s_law) l11 c11 k11
  have b11 := F11.binds (ps := ["script"]) fun _ _ _ _ _ _ us hl => match us, hl with | [_], _ => rfl
  exact ⟨_, fun s v => .of_eq rfl, fun base _ _ => ok_law {
    a_is_word := f0
    fd_is_word := _
    g_is_word := PySem.W.mg_of X G a0
    F_is_word := F0
    b_is_word := b0
    a_is_text := f1
    fd_is_text := _
    g_is_text := PySem.W.mg_of X G a1
    F_is_text := F1
    b_is_text := b1
    a_common := f2
    fd_common := _
    g_common := PySem.W.mg_of X G a2
    F_common := F2
    b_common := b2
    a__law_kneaded := f3
    fd__law_kneaded := _
    g__law_kneaded := PySem.W.mg_of X G a3
    F__law_kneaded := F3
    b__law_kneaded := b3
    a__law_pot_of := f4
    fd__law_pot_of := _
    g__law_pot_of := PySem.W.mg_of X G a4
    F__law_pot_of := F4
    b__law_pot_of := b4
    a__law_below := f5
    fd__law_below := _
    g__law_below := PySem.W.mg_of X G a5
    F__law_below := F5
    b__law_below := b5
    a__law_pick := f6
    fd__law_pick := _
    g__law_pick := PySem.W.mg_of X G a6
    F__law_pick := F6
    b__law_pick := b6
    a__law_made := f7
    fd__law_made := _
    g__law_made := PySem.W.mg_of X G a7
    F__law_made := F7
    b__law_made := b7
    a__law_classes := f8
    fd__law_classes := _
    g__law_classes := PySem.W.mg_of X G a8
    F__law_classes := F8
    b__law_classes := b8
    a__law_some_string := f9
    fd__law_some_string := _
    g__law_some_string := PySem.W.mg_of X G a9
    F__law_some_string := F9
    b__law_some_string := b9
    a__law_errors_right := f10
    fd__law_errors_right := _
    g__law_errors_right := PySem.W.mg_of X G a10
    F__law_errors_right := F10
    b__law_errors_right := b10
    a_law := fa
    fd_law := _
    g_law := PySem.W.mg_of X G a11
    F_law := F11
    b_law := b11
    z_IndexError := PySem.W.mg_none_of X G z_IndexError
    z_KeyError := PySem.W.mg_none_of X G z_KeyError
    z_TypeError := PySem.W.mg_none_of X G z_TypeError
    z_ValueError := PySem.W.mg_none_of X G z_ValueError
    z_abs := PySem.W.mg_none_of X G z_abs
    z_enumerate := PySem.W.mg_none_of X G z_enumerate
    z_int := PySem.W.mg_none_of X G z_int
    z_isinstance := PySem.W.mg_none_of X G z_isinstance
    z_len := PySem.W.mg_none_of X G z_len
    z_list := PySem.W.mg_none_of X G z_list
    z_min := PySem.W.mg_none_of X G z_min
    z_range := PySem.W.mg_none_of X G z_range
    z_repr := PySem.W.mg_none_of X G z_repr
    z_str := PySem.W.mg_none_of X G z_str
    t_MOST_TEXT := t_MOST_TEXT
    m_MOST_TEXT := PySem.W.mg_of X G m_MOST_TEXT
    a_ScanError := c_ScanError
    g_ScanError := PySem.W.mg_of X G n_ScanError
    e_ScanError := ⟨hg_ScanError, hk_ScanError, hs_ScanError, hd_ScanError, ha_ScanError, hn, ht, hm_ScanError⟩
    xi_ScanError := xi_ScanError
    k_ScanError := kc_ScanError
    r_ScanError := row_of (AllC.all ⟨⟨hd_TooMany, ty_TooMany, self_TooMany⟩, ⟨hd_SyntaxProblem, ty_SyntaxProblem, self_SyntaxProblem⟩, ⟨hd_NoOutcome, ty_NoOutcome, self_NoOutcome⟩, ⟨hd_NoExpander, ty_NoExpander, self_NoExpander⟩, ⟨hd_NoText, ty_NoText, self_NoText⟩, ⟨hd_NoCall, ty_NoCall, self_NoCall⟩, ⟨hd_NoName, ty_NoName, self_NoName⟩, ⟨hd_NoMark, ty_NoMark, self_NoMark⟩, ⟨hd_Mismatch, ty_Mismatch, self_Mismatch⟩, ⟨hd_InvalidCommand, ty_InvalidCommand, self_InvalidCommand⟩, trivial⟩) r_ScanError
    a_TooMany := c_TooMany
    g_TooMany := PySem.W.mg_of X G n_TooMany
    e_TooMany := ⟨hg_TooMany, hk_TooMany, hs_TooMany, hd_TooMany, ha_TooMany, hn, ht, hm_TooMany⟩
    nf_TooMany_limit := nf_TooMany_limit
    o_TooMany := ⟨⟨nm_TooMany, q_TooMany, N_TooMany, bs_TooMany, _, sn_TooMany, sub_TooMany, ab_TooMany, col_TooMany, dd_TooMany, m0_TooMany, m1_TooMany, m2_TooMany, m3_TooMany, m5_TooMany, xl_TooMany, refs_one⟩, sa_TooMany, hs_TooMany, ty_TooMany, kc_TooMany⟩
    x_TooMany := ⟨hg_TooMany, hk_TooMany, hs_TooMany, hd_TooMany⟩
    i_TooMany := i_TooMany
    if_TooMany := _
    ii_TooMany := ii_TooMany
    it_TooMany := it_TooMany
    iF_TooMany := fun_mk (st := (inClass (top 2) 0)) il_TooMany ic_TooMany ik_TooMany
    ib_TooMany := (fun_mk (st := (inClass (top 2) 0)) il_TooMany ic_TooMany ik_TooMany).binds (ps := ["self", "limit"]) fun _ _ _ _ _ _ us hl => match us, hl with | [_, _], _ => rfl
    r_TooMany := row_of (AllC.all ⟨⟨hd_TooMany, ty_TooMany, self_TooMany⟩, ⟨hd_SyntaxProblem, ty_SyntaxProblem, self_SyntaxProblem⟩, ⟨hd_NoOutcome, ty_NoOutcome, self_NoOutcome⟩, ⟨hd_NoExpander, ty_NoExpander, self_NoExpander⟩, ⟨hd_NoText, ty_NoText, self_NoText⟩, ⟨hd_NoCall, ty_NoCall, self_NoCall⟩, ⟨hd_NoName, ty_NoName, self_NoName⟩, ⟨hd_NoMark, ty_NoMark, self_NoMark⟩, ⟨hd_Mismatch, ty_Mismatch, self_Mismatch⟩, ⟨hd_InvalidCommand, ty_InvalidCommand, self_InvalidCommand⟩, trivial⟩) r_TooMany
    u_TooMany := up_of ⟨hd_ScanError, ty_ScanError, self_ScanError⟩ u1_TooMany u2_TooMany u3_TooMany u4_TooMany u5_TooMany
    a_SyntaxProblem := c_SyntaxProblem
    g_SyntaxProblem := PySem.W.mg_of X G n_SyntaxProblem
    e_SyntaxProblem := ⟨hg_SyntaxProblem, hk_SyntaxProblem, hs_SyntaxProblem, hd_SyntaxProblem, ha_SyntaxProblem, hn, ht, hm_SyntaxProblem⟩
    nf_SyntaxProblem_line := nf_SyntaxProblem_line
    nf_SyntaxProblem_column := nf_SyntaxProblem_column
    o_SyntaxProblem := ⟨⟨nm_SyntaxProblem, q_SyntaxProblem, N_SyntaxProblem, bs_SyntaxProblem, _, sn_SyntaxProblem, sub_SyntaxProblem, ab_SyntaxProblem, col_SyntaxProblem, dd_SyntaxProblem, m0_SyntaxProblem, m1_SyntaxProblem, m2_SyntaxProblem, m3_SyntaxProblem, m5_SyntaxProblem, xl_SyntaxProblem, refs_one⟩, sa_SyntaxProblem, hs_SyntaxProblem, ty_SyntaxProblem, kc_SyntaxProblem⟩
    x_SyntaxProblem := ⟨hg_SyntaxProblem, hk_SyntaxProblem, hs_SyntaxProblem, hd_SyntaxProblem⟩
    i_SyntaxProblem := i_SyntaxProblem
    if_SyntaxProblem := _
    ii_SyntaxProblem := ii_SyntaxProblem
    it_SyntaxProblem := it_SyntaxProblem
    iF_SyntaxProblem := fun_mk (st := (inClass (top 3) 0)) il_SyntaxProblem ic_SyntaxProblem ik_SyntaxProblem
    ib_SyntaxProblem := (fun_mk (st := (inClass (top 3) 0)) il_SyntaxProblem ic_SyntaxProblem ik_SyntaxProblem).binds (ps := ["self", "line", "column"]) fun _ _ _ _ _ _ us hl => match us, hl with | [_, _, _], _ => rfl
    r_SyntaxProblem := row_of (AllC.all ⟨⟨hd_TooMany, ty_TooMany, self_TooMany⟩, ⟨hd_SyntaxProblem, ty_SyntaxProblem, self_SyntaxProblem⟩, ⟨hd_NoOutcome, ty_NoOutcome, self_NoOutcome⟩, ⟨hd_NoExpander, ty_NoExpander, self_NoExpander⟩, ⟨hd_NoText, ty_NoText, self_NoText⟩, ⟨hd_NoCall, ty_NoCall, self_NoCall⟩, ⟨hd_NoName, ty_NoName, self_NoName⟩, ⟨hd_NoMark, ty_NoMark, self_NoMark⟩, ⟨hd_Mismatch, ty_Mismatch, self_Mismatch⟩, ⟨hd_InvalidCommand, ty_InvalidCommand, self_InvalidCommand⟩, trivial⟩) r_SyntaxProblem
    u_SyntaxProblem := up_of ⟨hd_ScanError, ty_ScanError, self_ScanError⟩ u1_SyntaxProblem u2_SyntaxProblem u3_SyntaxProblem u4_SyntaxProblem u5_SyntaxProblem
    a_NoOutcome := c_NoOutcome
    g_NoOutcome := PySem.W.mg_of X G n_NoOutcome
    e_NoOutcome := ⟨hg_NoOutcome, hk_NoOutcome, hs_NoOutcome, hd_NoOutcome, ha_NoOutcome, hn, ht, hm_NoOutcome⟩
    nf_NoOutcome_kind := nf_NoOutcome_kind
    nf_NoOutcome_thread := nf_NoOutcome_thread
    o_NoOutcome := ⟨⟨nm_NoOutcome, q_NoOutcome, N_NoOutcome, bs_NoOutcome, _, sn_NoOutcome, sub_NoOutcome, ab_NoOutcome, col_NoOutcome, dd_NoOutcome, m0_NoOutcome, m1_NoOutcome, m2_NoOutcome, m3_NoOutcome, m5_NoOutcome, xl_NoOutcome, refs_one⟩, sa_NoOutcome, hs_NoOutcome, ty_NoOutcome, kc_NoOutcome⟩
    x_NoOutcome := ⟨hg_NoOutcome, hk_NoOutcome, hs_NoOutcome, hd_NoOutcome⟩
    i_NoOutcome := i_NoOutcome
    if_NoOutcome := _
    ii_NoOutcome := ii_NoOutcome
    it_NoOutcome := it_NoOutcome
    iF_NoOutcome := fun_mk (st := (inClass (top 4) 0)) il_NoOutcome ic_NoOutcome ik_NoOutcome
    ib_NoOutcome := (fun_mk (st := (inClass (top 4) 0)) il_NoOutcome ic_NoOutcome ik_NoOutcome).binds (ps := ["self", "kind", "thread"]) fun _ _ _ _ _ _ us hl => match us, hl with | [_, _, _], _ => rfl
    r_NoOutcome := row_of (AllC.all ⟨⟨hd_TooMany, ty_TooMany, self_TooMany⟩, ⟨hd_SyntaxProblem, ty_SyntaxProblem, self_SyntaxProblem⟩, ⟨hd_NoOutcome, ty_NoOutcome, self_NoOutcome⟩, ⟨hd_NoExpander, ty_NoExpander, self_NoExpander⟩, ⟨hd_NoText, ty_NoText, self_NoText⟩, ⟨hd_NoCall, ty_NoCall, self_NoCall⟩, ⟨hd_NoName, ty_NoName, self_NoName⟩, ⟨hd_NoMark, ty_NoMark, self_NoMark⟩, ⟨hd_Mismatch, ty_Mismatch, self_Mismatch⟩, ⟨hd_InvalidCommand, ty_InvalidCommand, self_InvalidCommand⟩, trivial⟩) r_NoOutcome
    u_NoOutcome := up_of ⟨hd_ScanError, ty_ScanError, self_ScanError⟩ u1_NoOutcome u2_NoOutcome u3_NoOutcome u4_NoOutcome u5_NoOutcome
    a_NoExpander := c_NoExpander
    g_NoExpander := PySem.W.mg_of X G n_NoExpander
    e_NoExpander := ⟨hg_NoExpander, hk_NoExpander, hs_NoExpander, hd_NoExpander, ha_NoExpander, hn, ht, hm_NoExpander⟩
    xi_NoExpander := xi_NoExpander
    k_NoExpander := kc_NoExpander
    r_NoExpander := row_of (AllC.all ⟨⟨hd_TooMany, ty_TooMany, self_TooMany⟩, ⟨hd_SyntaxProblem, ty_SyntaxProblem, self_SyntaxProblem⟩, ⟨hd_NoOutcome, ty_NoOutcome, self_NoOutcome⟩, ⟨hd_NoExpander, ty_NoExpander, self_NoExpander⟩, ⟨hd_NoText, ty_NoText, self_NoText⟩, ⟨hd_NoCall, ty_NoCall, self_NoCall⟩, ⟨hd_NoName, ty_NoName, self_NoName⟩, ⟨hd_NoMark, ty_NoMark, self_NoMark⟩, ⟨hd_Mismatch, ty_Mismatch, self_Mismatch⟩, ⟨hd_InvalidCommand, ty_InvalidCommand, self_InvalidCommand⟩, trivial⟩) r_NoExpander
    u_NoExpander := up_of ⟨hd_ScanError, ty_ScanError, self_ScanError⟩ u1_NoExpander u2_NoExpander u3_NoExpander u4_NoExpander u5_NoExpander
    a_NoText := c_NoText
    g_NoText := PySem.W.mg_of X G n_NoText
    e_NoText := ⟨hg_NoText, hk_NoText, hs_NoText, hd_NoText, ha_NoText, hn, ht, hm_NoText⟩
    xi_NoText := xi_NoText
    k_NoText := kc_NoText
    r_NoText := row_of (AllC.all ⟨⟨hd_TooMany, ty_TooMany, self_TooMany⟩, ⟨hd_SyntaxProblem, ty_SyntaxProblem, self_SyntaxProblem⟩, ⟨hd_NoOutcome, ty_NoOutcome, self_NoOutcome⟩, ⟨hd_NoExpander, ty_NoExpander, self_NoExpander⟩, ⟨hd_NoText, ty_NoText, self_NoText⟩, ⟨hd_NoCall, ty_NoCall, self_NoCall⟩, ⟨hd_NoName, ty_NoName, self_NoName⟩, ⟨hd_NoMark, ty_NoMark, self_NoMark⟩, ⟨hd_Mismatch, ty_Mismatch, self_Mismatch⟩, ⟨hd_InvalidCommand, ty_InvalidCommand, self_InvalidCommand⟩, trivial⟩) r_NoText
    u_NoText := up_of ⟨hd_ScanError, ty_ScanError, self_ScanError⟩ u1_NoText u2_NoText u3_NoText u4_NoText u5_NoText
    a_NoCall := c_NoCall
    g_NoCall := PySem.W.mg_of X G n_NoCall
    e_NoCall := ⟨hg_NoCall, hk_NoCall, hs_NoCall, hd_NoCall, ha_NoCall, hn, ht, hm_NoCall⟩
    xi_NoCall := xi_NoCall
    k_NoCall := kc_NoCall
    r_NoCall := row_of (AllC.all ⟨⟨hd_TooMany, ty_TooMany, self_TooMany⟩, ⟨hd_SyntaxProblem, ty_SyntaxProblem, self_SyntaxProblem⟩, ⟨hd_NoOutcome, ty_NoOutcome, self_NoOutcome⟩, ⟨hd_NoExpander, ty_NoExpander, self_NoExpander⟩, ⟨hd_NoText, ty_NoText, self_NoText⟩, ⟨hd_NoCall, ty_NoCall, self_NoCall⟩, ⟨hd_NoName, ty_NoName, self_NoName⟩, ⟨hd_NoMark, ty_NoMark, self_NoMark⟩, ⟨hd_Mismatch, ty_Mismatch, self_Mismatch⟩, ⟨hd_InvalidCommand, ty_InvalidCommand, self_InvalidCommand⟩, trivial⟩) r_NoCall
    u_NoCall := up_of ⟨hd_ScanError, ty_ScanError, self_ScanError⟩ u1_NoCall u2_NoCall u3_NoCall u4_NoCall u5_NoCall
    a_NoName := c_NoName
    g_NoName := PySem.W.mg_of X G n_NoName
    e_NoName := ⟨hg_NoName, hk_NoName, hs_NoName, hd_NoName, ha_NoName, hn, ht, hm_NoName⟩
    xi_NoName := xi_NoName
    k_NoName := kc_NoName
    r_NoName := row_of (AllC.all ⟨⟨hd_TooMany, ty_TooMany, self_TooMany⟩, ⟨hd_SyntaxProblem, ty_SyntaxProblem, self_SyntaxProblem⟩, ⟨hd_NoOutcome, ty_NoOutcome, self_NoOutcome⟩, ⟨hd_NoExpander, ty_NoExpander, self_NoExpander⟩, ⟨hd_NoText, ty_NoText, self_NoText⟩, ⟨hd_NoCall, ty_NoCall, self_NoCall⟩, ⟨hd_NoName, ty_NoName, self_NoName⟩, ⟨hd_NoMark, ty_NoMark, self_NoMark⟩, ⟨hd_Mismatch, ty_Mismatch, self_Mismatch⟩, ⟨hd_InvalidCommand, ty_InvalidCommand, self_InvalidCommand⟩, trivial⟩) r_NoName
    u_NoName := up_of ⟨hd_ScanError, ty_ScanError, self_ScanError⟩ u1_NoName u2_NoName u3_NoName u4_NoName u5_NoName
    a_NoMark := c_NoMark
    g_NoMark := PySem.W.mg_of X G n_NoMark
    e_NoMark := ⟨hg_NoMark, hk_NoMark, hs_NoMark, hd_NoMark, ha_NoMark, hn, ht, hm_NoMark⟩
    xi_NoMark := xi_NoMark
    k_NoMark := kc_NoMark
    r_NoMark := row_of (AllC.all ⟨⟨hd_TooMany, ty_TooMany, self_TooMany⟩, ⟨hd_SyntaxProblem, ty_SyntaxProblem, self_SyntaxProblem⟩, ⟨hd_NoOutcome, ty_NoOutcome, self_NoOutcome⟩, ⟨hd_NoExpander, ty_NoExpander, self_NoExpander⟩, ⟨hd_NoText, ty_NoText, self_NoText⟩, ⟨hd_NoCall, ty_NoCall, self_NoCall⟩, ⟨hd_NoName, ty_NoName, self_NoName⟩, ⟨hd_NoMark, ty_NoMark, self_NoMark⟩, ⟨hd_Mismatch, ty_Mismatch, self_Mismatch⟩, ⟨hd_InvalidCommand, ty_InvalidCommand, self_InvalidCommand⟩, trivial⟩) r_NoMark
    u_NoMark := up_of ⟨hd_ScanError, ty_ScanError, self_ScanError⟩ u1_NoMark u2_NoMark u3_NoMark u4_NoMark u5_NoMark
    a_Mismatch := c_Mismatch
    g_Mismatch := PySem.W.mg_of X G n_Mismatch
    e_Mismatch := ⟨hg_Mismatch, hk_Mismatch, hs_Mismatch, hd_Mismatch, ha_Mismatch, hn, ht, hm_Mismatch⟩
    xi_Mismatch := xi_Mismatch
    k_Mismatch := kc_Mismatch
    r_Mismatch := row_of (AllC.all ⟨⟨hd_TooMany, ty_TooMany, self_TooMany⟩, ⟨hd_SyntaxProblem, ty_SyntaxProblem, self_SyntaxProblem⟩, ⟨hd_NoOutcome, ty_NoOutcome, self_NoOutcome⟩, ⟨hd_NoExpander, ty_NoExpander, self_NoExpander⟩, ⟨hd_NoText, ty_NoText, self_NoText⟩, ⟨hd_NoCall, ty_NoCall, self_NoCall⟩, ⟨hd_NoName, ty_NoName, self_NoName⟩, ⟨hd_NoMark, ty_NoMark, self_NoMark⟩, ⟨hd_Mismatch, ty_Mismatch, self_Mismatch⟩, ⟨hd_InvalidCommand, ty_InvalidCommand, self_InvalidCommand⟩, trivial⟩) r_Mismatch
    u_Mismatch := up_of ⟨hd_ScanError, ty_ScanError, self_ScanError⟩ u1_Mismatch u2_Mismatch u3_Mismatch u4_Mismatch u5_Mismatch
    a_InvalidCommand := c_InvalidCommand
    g_InvalidCommand := PySem.W.mg_of X G n_InvalidCommand
    e_InvalidCommand := ⟨hg_InvalidCommand, hk_InvalidCommand, hs_InvalidCommand, hd_InvalidCommand, ha_InvalidCommand, hn, ht, hm_InvalidCommand⟩
    xi_InvalidCommand := xi_InvalidCommand
    k_InvalidCommand := kc_InvalidCommand
    r_InvalidCommand := row_of (AllC.all ⟨⟨hd_TooMany, ty_TooMany, self_TooMany⟩, ⟨hd_SyntaxProblem, ty_SyntaxProblem, self_SyntaxProblem⟩, ⟨hd_NoOutcome, ty_NoOutcome, self_NoOutcome⟩, ⟨hd_NoExpander, ty_NoExpander, self_NoExpander⟩, ⟨hd_NoText, ty_NoText, self_NoText⟩, ⟨hd_NoCall, ty_NoCall, self_NoCall⟩, ⟨hd_NoName, ty_NoName, self_NoName⟩, ⟨hd_NoMark, ty_NoMark, self_NoMark⟩, ⟨hd_Mismatch, ty_Mismatch, self_Mismatch⟩, ⟨hd_InvalidCommand, ty_InvalidCommand, self_InvalidCommand⟩, trivial⟩) r_InvalidCommand
    u_InvalidCommand := up_of ⟨hd_ScanError, ty_ScanError, self_ScanError⟩ u1_InvalidCommand u2_InvalidCommand u3_InvalidCommand u4_InvalidCommand u5_InvalidCommand
  }⟩

theorem walk {l : PySem.W.OpenLaw} {q : Program} {loose : List Str} {XP : (Str → Option Value) → Heap → Prop} {YP : World → Heap → Prop} {d : DefRec} {K : Params → PySem.W.Frag} (hn : l.most = some 63) (hdf : d.params.defaults = [])
    (hY : ∀ (w : World) (h : Heap), YP w h → (K w.params).In h)
    (F : ∀ (w : World) (mg : Str → Option Value) (fa : Addr) (h : Heap), (K w.params).In h → h.Ns mainGlobals mg → mg d.name = some (.ref fa) →
      ∃ fd : FuncData, (∀ (s : Shared) (u : Value), BindsTo s fd ⟨[u], []⟩ [("script", u)]) ∧ ∀ base : Heap, (K w.params).In base → base.Ns mainGlobals mg → FnG l.prog w (K w.params) mg base CX0 5 fa fd ["script"] (sp_law (K w.params))) :
    PySem.W.WalkO q loose XP YP l.row.toRowW d [] (fun f vs => PySem.call f vs) :=
  G.walk_ofG (n := 63) (k := 5) (x := "script") (CX := fun _ => CX0) (sp := sp_law) hn (by decide) hdf ⟨rfl, by decide, by decide⟩ hY F (fun _ _ a ns hl _ hS => ⟨a, ns, rfl, hS, hl, fun _ => rfl⟩) fun _ _ _ _ _ z => z
end K01

open PySem PySem.W PyProof.Rows in
set_option maxRecDepth 100000 in
set_option maxHeartbeats 0 in
theorem PySem.Challenge.cw_rescans_k01_errors_and_words_holds : PySem.Challenge.rw_rescans_k01_errors_and_words.Holds := by
  w_on; o_law; k_head; (case hw => w_witness2)
  k_fill
  refine K01.walk (l := PySem.Challenge.rw_rescans_k01_errors_and_words) rfl rfl (fun w h Y => PySem.W.kIn_of Y) ?F
  case F =>
    intro w mg fa h KX G hmg
    refine' K01.all_mk KX G hmg ?a0 ?l0 ?c0 ?k0 ?a1 ?l1 ?c1 ?k1 ?a2 ?l2 ?c2 ?k2 ?a3 ?l3 ?c3 ?k3 ?a4 ?l4 ?c4 ?k4 ?a5 ?l5 ?c5 ?k5 ?a6 ?l6 ?c6 ?k6 ?a7 ?l7 ?c7 ?k7 ?a8 ?l8 ?c8 ?k8 ?a9 ?l9 ?c9 ?k9 ?a10 ?l10 ?c10 ?k10 ?a11 ?l11 ?c11 ?k11 ?z_IndexError ?z_KeyError ?z_TypeError ?z_ValueError ?z_abs ?z_enumerate ?z_int ?z_isinstance ?z_len ?z_list ?z_min ?z_range ?z_repr ?z_str ?m_MOST_TEXT ?n_ScanError ?n_TooMany ?n_SyntaxProblem ?n_NoOutcome ?n_NoExpander ?n_NoText ?n_NoCall ?n_NoName ?n_NoMark ?n_Mismatch ?n_InvalidCommand ?hg_ScanError ?hk_ScanError ?hs_ScanError ?hd_ScanError ?ha_ScanError ?hm_ScanError ?ty_ScanError ?self_ScanError ?xi_ScanError ?kc_ScanError ?r_ScanError ?hg_TooMany ?hk_TooMany ?hs_TooMany ?hd_TooMany ?ha_TooMany ?hm_TooMany ?ty_TooMany ?self_TooMany ?nf_TooMany_limit ?xl_TooMany ?sa_TooMany ?kc_TooMany ?ii_TooMany ?it_TooMany ?il_TooMany ?ic_TooMany ?ik_TooMany ?r_TooMany ?u1_TooMany ?u2_TooMany ?u3_TooMany ?u4_TooMany ?u5_TooMany ?hg_SyntaxProblem ?hk_SyntaxProblem ?hs_SyntaxProblem ?hd_SyntaxProblem ?ha_SyntaxProblem ?hm_SyntaxProblem ?ty_SyntaxProblem ?self_SyntaxProblem ?nf_SyntaxProblem_line ?nf_SyntaxProblem_column ?xl_SyntaxProblem ?sa_SyntaxProblem ?kc_SyntaxProblem ?ii_SyntaxProblem ?it_SyntaxProblem ?il_SyntaxProblem ?ic_SyntaxProblem ?ik_SyntaxProblem ?r_SyntaxProblem ?u1_SyntaxProblem ?u2_SyntaxProblem ?u3_SyntaxProblem ?u4_SyntaxProblem ?u5_SyntaxProblem ?hg_NoOutcome ?hk_NoOutcome ?hs_NoOutcome ?hd_NoOutcome ?ha_NoOutcome ?hm_NoOutcome ?ty_NoOutcome ?self_NoOutcome ?nf_NoOutcome_kind ?nf_NoOutcome_thread ?xl_NoOutcome ?sa_NoOutcome ?kc_NoOutcome ?ii_NoOutcome ?it_NoOutcome ?il_NoOutcome ?ic_NoOutcome ?ik_NoOutcome ?r_NoOutcome ?u1_NoOutcome ?u2_NoOutcome ?u3_NoOutcome ?u4_NoOutcome ?u5_NoOutcome ?hg_NoExpander ?hk_NoExpander ?hs_NoExpander ?hd_NoExpander ?ha_NoExpander ?hm_NoExpander ?ty_NoExpander ?self_NoExpander ?xi_NoExpander ?kc_NoExpander ?r_NoExpander ?u1_NoExpander ?u2_NoExpander ?u3_NoExpander ?u4_NoExpander ?u5_NoExpander ?hg_NoText ?hk_NoText ?hs_NoText ?hd_NoText ?ha_NoText ?hm_NoText ?ty_NoText ?self_NoText ?xi_NoText ?kc_NoText ?r_NoText ?u1_NoText ?u2_NoText ?u3_NoText ?u4_NoText ?u5_NoText ?hg_NoCall ?hk_NoCall ?hs_NoCall ?hd_NoCall ?ha_NoCall ?hm_NoCall ?ty_NoCall ?self_NoCall ?xi_NoCall ?kc_NoCall ?r_NoCall ?u1_NoCall ?u2_NoCall ?u3_NoCall ?u4_NoCall ?u5_NoCall ?hg_NoName ?hk_NoName ?hs_NoName ?hd_NoName ?ha_NoName ?hm_NoName ?ty_NoName ?self_NoName ?xi_NoName ?kc_NoName ?r_NoName ?u1_NoName ?u2_NoName ?u3_NoName ?u4_NoName ?u5_NoName ?hg_NoMark ?hk_NoMark ?hs_NoMark ?hd_NoMark ?ha_NoMark ?hm_NoMark ?ty_NoMark ?self_NoMark ?xi_NoMark ?kc_NoMark ?r_NoMark ?u1_NoMark ?u2_NoMark ?u3_NoMark ?u4_NoMark ?u5_NoMark ?hg_Mismatch ?hk_Mismatch ?hs_Mismatch ?hd_Mismatch ?ha_Mismatch ?hm_Mismatch ?ty_Mismatch ?self_Mismatch ?xi_Mismatch ?kc_Mismatch ?r_Mismatch ?u1_Mismatch ?u2_Mismatch ?u3_Mismatch ?u4_Mismatch ?u5_Mismatch ?hg_InvalidCommand ?hk_InvalidCommand ?hs_InvalidCommand ?hd_InvalidCommand ?ha_InvalidCommand ?hm_InvalidCommand ?ty_InvalidCommand ?self_InvalidCommand ?xi_InvalidCommand ?kc_InvalidCommand ?r_InvalidCommand ?u1_InvalidCommand ?u2_InvalidCommand ?u3_InvalidCommand ?u4_InvalidCommand ?u5_InvalidCommand ?hn ?ht
    (case a0 => k_is)
    (case l0 => k_is)
    (case c0 => k_is)
    (case k0 => k_is)
    (case a1 => k_is)
    (case l1 => k_is)
    (case c1 => k_is)
    (case k1 => k_is)
    (case a2 => k_is)
    (case l2 => k_is)
    (case c2 => k_is)
    (case k2 => k_is)
    (case a3 => k_is)
    (case l3 => k_is)
    (case c3 => k_is)
    (case k3 => k_is)
    (case a4 => k_is)
    (case l4 => k_is)
    (case c4 => k_is)
    (case k4 => k_is)
    (case a5 => k_is)
    (case l5 => k_is)
    (case c5 => k_is)
    (case k5 => k_is)
    (case a6 => k_is)
    (case l6 => k_is)
    (case c6 => k_is)
    (case k6 => k_is)
    (case a7 => k_is)
    (case l7 => k_is)
    (case c7 => k_is)
    (case k7 => k_is)
    (case a8 => k_is)
    (case l8 => k_is)
    (case c8 => k_is)
    (case k8 => k_is)
    (case a9 => k_is)
    (case l9 => k_is)
    (case c9 => k_is)
    (case k9 => k_is)
    (case a10 => k_is)
    (case l10 => k_is)
    (case c10 => k_is)
    (case k10 => k_is)
    (case a11 => k_is)
    (case l11 => k_is)
    (case c11 => k_is)
    (case k11 => k_is)
    (case z_IndexError => k_is)
    (case z_KeyError => k_is)
    (case z_TypeError => k_is)
    (case z_ValueError => k_is)
    (case z_abs => k_is)
    (case z_enumerate => k_is)
    (case z_int => k_is)
    (case z_isinstance => k_is)
    (case z_len => k_is)
    (case z_list => k_is)
    (case z_min => k_is)
    (case z_range => k_is)
    (case z_repr => k_is)
    (case z_str => k_is)
    (case m_MOST_TEXT => k_is)
    (case n_ScanError => k_is)
    (case n_TooMany => k_is)
    (case n_SyntaxProblem => k_is)
    (case n_NoOutcome => k_is)
    (case n_NoExpander => k_is)
    (case n_NoText => k_is)
    (case n_NoCall => k_is)
    (case n_NoName => k_is)
    (case n_NoMark => k_is)
    (case n_Mismatch => k_is)
    (case n_InvalidCommand => k_is)
    (case hg_ScanError => k_is)
    (case hk_ScanError => k_is)
    (case hs_ScanError => k_is)
    (case hd_ScanError => k_is)
    (case ha_ScanError => k_is)
    (case hm_ScanError => k_is)
    (case ty_ScanError => k_is)
    (case self_ScanError => k_is)
    (case xi_ScanError => k_exc)
    (case kc_ScanError => k_is)
    (case r_ScanError => refine ⟨?_, ?_, ?_, ?_, ?_, ?_, ?_, ?_, ?_, ?_, trivial⟩ <;> k_is)
    (case hg_TooMany => k_is)
    (case hk_TooMany => k_is)
    (case hs_TooMany => k_is)
    (case hd_TooMany => k_is)
    (case ha_TooMany => k_is)
    (case hm_TooMany => k_is)
    (case ty_TooMany => k_is)
    (case self_TooMany => k_is)
    (case nf_TooMany_limit => k_is)
    (case xl_TooMany => k_is)
    (case sa_TooMany => k_is)
    (case kc_TooMany => k_is)
    (case ii_TooMany => k_is)
    (case it_TooMany => k_is)
    (case il_TooMany => k_is)
    (case ic_TooMany => k_is)
    (case ik_TooMany => k_is)
    (case r_TooMany => refine ⟨?_, ?_, ?_, ?_, ?_, ?_, ?_, ?_, ?_, ?_, trivial⟩ <;> k_is)
    (case u1_TooMany => k_is)
    (case u2_TooMany => k_is)
    (case u3_TooMany => k_is)
    (case u4_TooMany => k_is)
    (case u5_TooMany => k_is)
    (case hg_SyntaxProblem => k_is)
    (case hk_SyntaxProblem => k_is)
    (case hs_SyntaxProblem => k_is)
    (case hd_SyntaxProblem => k_is)
    (case ha_SyntaxProblem => k_is)
    (case hm_SyntaxProblem => k_is)
    (case ty_SyntaxProblem => k_is)
    (case self_SyntaxProblem => k_is)
    (case nf_SyntaxProblem_line => k_is)
    (case nf_SyntaxProblem_column => k_is)
    (case xl_SyntaxProblem => k_is)
    (case sa_SyntaxProblem => k_is)
    (case kc_SyntaxProblem => k_is)
    (case ii_SyntaxProblem => k_is)
    (case it_SyntaxProblem => k_is)
    (case il_SyntaxProblem => k_is)
    (case ic_SyntaxProblem => k_is)
    (case ik_SyntaxProblem => k_is)
    (case r_SyntaxProblem => refine ⟨?_, ?_, ?_, ?_, ?_, ?_, ?_, ?_, ?_, ?_, trivial⟩ <;> k_is)
    (case u1_SyntaxProblem => k_is)
    (case u2_SyntaxProblem => k_is)
    (case u3_SyntaxProblem => k_is)
    (case u4_SyntaxProblem => k_is)
    (case u5_SyntaxProblem => k_is)
    (case hg_NoOutcome => k_is)
    (case hk_NoOutcome => k_is)
    (case hs_NoOutcome => k_is)
    (case hd_NoOutcome => k_is)
    (case ha_NoOutcome => k_is)
    (case hm_NoOutcome => k_is)
    (case ty_NoOutcome => k_is)
    (case self_NoOutcome => k_is)
    (case nf_NoOutcome_kind => k_is)
    (case nf_NoOutcome_thread => k_is)
    (case xl_NoOutcome => k_is)
    (case sa_NoOutcome => k_is)
    (case kc_NoOutcome => k_is)
    (case ii_NoOutcome => k_is)
    (case it_NoOutcome => k_is)
    (case il_NoOutcome => k_is)
    (case ic_NoOutcome => k_is)
    (case ik_NoOutcome => k_is)
    (case r_NoOutcome => refine ⟨?_, ?_, ?_, ?_, ?_, ?_, ?_, ?_, ?_, ?_, trivial⟩ <;> k_is)
    (case u1_NoOutcome => k_is)
    (case u2_NoOutcome => k_is)
    (case u3_NoOutcome => k_is)
    (case u4_NoOutcome => k_is)
    (case u5_NoOutcome => k_is)
    (case hg_NoExpander => k_is)
    (case hk_NoExpander => k_is)
    (case hs_NoExpander => k_is)
    (case hd_NoExpander => k_is)
    (case ha_NoExpander => k_is)
    (case hm_NoExpander => k_is)
    (case ty_NoExpander => k_is)
    (case self_NoExpander => k_is)
    (case xi_NoExpander => k_exc)
    (case kc_NoExpander => k_is)
    (case r_NoExpander => refine ⟨?_, ?_, ?_, ?_, ?_, ?_, ?_, ?_, ?_, ?_, trivial⟩ <;> k_is)
    (case u1_NoExpander => k_is)
    (case u2_NoExpander => k_is)
    (case u3_NoExpander => k_is)
    (case u4_NoExpander => k_is)
    (case u5_NoExpander => k_is)
    (case hg_NoText => k_is)
    (case hk_NoText => k_is)
    (case hs_NoText => k_is)
    (case hd_NoText => k_is)
    (case ha_NoText => k_is)
    (case hm_NoText => k_is)
    (case ty_NoText => k_is)
    (case self_NoText => k_is)
    (case xi_NoText => k_exc)
    (case kc_NoText => k_is)
    (case r_NoText => refine ⟨?_, ?_, ?_, ?_, ?_, ?_, ?_, ?_, ?_, ?_, trivial⟩ <;> k_is)
    (case u1_NoText => k_is)
    (case u2_NoText => k_is)
    (case u3_NoText => k_is)
    (case u4_NoText => k_is)
    (case u5_NoText => k_is)
    (case hg_NoCall => k_is)
    (case hk_NoCall => k_is)
    (case hs_NoCall => k_is)
    (case hd_NoCall => k_is)
    (case ha_NoCall => k_is)
    (case hm_NoCall => k_is)
    (case ty_NoCall => k_is)
    (case self_NoCall => k_is)
    (case xi_NoCall => k_exc)
    (case kc_NoCall => k_is)
    (case r_NoCall => refine ⟨?_, ?_, ?_, ?_, ?_, ?_, ?_, ?_, ?_, ?_, trivial⟩ <;> k_is)
    (case u1_NoCall => k_is)
    (case u2_NoCall => k_is)
    (case u3_NoCall => k_is)
    (case u4_NoCall => k_is)
    (case u5_NoCall => k_is)
    (case hg_NoName => k_is)
    (case hk_NoName => k_is)
    (case hs_NoName => k_is)
    (case hd_NoName => k_is)
    (case ha_NoName => k_is)
    (case hm_NoName => k_is)
    (case ty_NoName => k_is)
    (case self_NoName => k_is)
    (case xi_NoName => k_exc)
    (case kc_NoName => k_is)
    (case r_NoName => refine ⟨?_, ?_, ?_, ?_, ?_, ?_, ?_, ?_, ?_, ?_, trivial⟩ <;> k_is)
    (case u1_NoName => k_is)
    (case u2_NoName => k_is)
    (case u3_NoName => k_is)
    (case u4_NoName => k_is)
    (case u5_NoName => k_is)
    (case hg_NoMark => k_is)
    (case hk_NoMark => k_is)
    (case hs_NoMark => k_is)
    (case hd_NoMark => k_is)
    (case ha_NoMark => k_is)
    (case hm_NoMark => k_is)
    (case ty_NoMark => k_is)
    (case self_NoMark => k_is)
    (case xi_NoMark => k_exc)
    (case kc_NoMark => k_is)
    (case r_NoMark => refine ⟨?_, ?_, ?_, ?_, ?_, ?_, ?_, ?_, ?_, ?_, trivial⟩ <;> k_is)
    (case u1_NoMark => k_is)
    (case u2_NoMark => k_is)
    (case u3_NoMark => k_is)
    (case u4_NoMark => k_is)
    (case u5_NoMark => k_is)
    (case hg_Mismatch => k_is)
    (case hk_Mismatch => k_is)
    (case hs_Mismatch => k_is)
    (case hd_Mismatch => k_is)
    (case ha_Mismatch => k_is)
    (case hm_Mismatch => k_is)
    (case ty_Mismatch => k_is)
    (case self_Mismatch => k_is)
    (case xi_Mismatch => k_exc)
    (case kc_Mismatch => k_is)
    (case r_Mismatch => refine ⟨?_, ?_, ?_, ?_, ?_, ?_, ?_, ?_, ?_, ?_, trivial⟩ <;> k_is)
    (case u1_Mismatch => k_is)
    (case u2_Mismatch => k_is)
    (case u3_Mismatch => k_is)
    (case u4_Mismatch => k_is)
    (case u5_Mismatch => k_is)
    (case hg_InvalidCommand => k_is)
    (case hk_InvalidCommand => k_is)
    (case hs_InvalidCommand => k_is)
    (case hd_InvalidCommand => k_is)
    (case ha_InvalidCommand => k_is)
    (case hm_InvalidCommand => k_is)
    (case ty_InvalidCommand => k_is)
    (case self_InvalidCommand => k_is)
    (case xi_InvalidCommand => k_exc)
    (case kc_InvalidCommand => k_is)
    (case r_InvalidCommand => refine ⟨?_, ?_, ?_, ?_, ?_, ?_, ?_, ?_, ?_, ?_, trivial⟩ <;> k_is)
    (case u1_InvalidCommand => k_is)
    (case u2_InvalidCommand => k_is)
    (case u3_InvalidCommand => k_is)
    (case u4_InvalidCommand => k_is)
    (case u5_InvalidCommand => k_is)
    (case hn => k_is)
    (case ht => k_is)

