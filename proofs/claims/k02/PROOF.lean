import PyProof.Rows.All
import Wide.All
import OpenK.AllK
import Wide.FinOn
import PyProof.EqAt
import PyProof.EqKinds
import PyProof.TupleCall
import PyProof.ReprRoads
import HandS.Base
import HandS.Call
import HandS.List
import HandS.Text
import HandS.Ends
import HandS.Words
import HandS.EndBits
import HandS.Comp
import HandS.Dict
import HandS.Iter
import HandS.WordsList
import HandS.WordsDict
import HandS.WideBits
import HandS.Wide
import HandS.IsInst
import HandS.RaiseMore
import HandS.TupAny
import HandS.Steps
import PySem.Challenge.RW_headerfold_k02_marks_names_and_atoms
set_option Elab.async false
set_option linter.all false
set_option maxRecDepth 100000
set_option maxHeartbeats 4000000
namespace L2
open PySem PySem.Spec PyProof.Rows
section
variable {X : Cx} {pins : List (Addr × Obj)} {σ : St} {H : Hp} {s : Shared}
/-- list + list, both to be read (locked ones and the module's own too) -/
def rCatS (K : PySem.W.Frag) : R2 := fun x y H Q => ∃ l b xs zs, x = .ref l ∧ y = .ref b ∧ SqL K H l xs ∧ SqL K H b zs ∧ xs.length + zs.length ≤ sizeLine ∧ ∀ p, H p = none → Q (.ref p) (upd H p (.lst (xs ++ zs)))
theorem op_catS : OpR X (binaryOp .Add) (rCatS X.K) := by
  intro pins s σ H x y v u Q I rx ry h
  obtain ⟨l, b, xs, zs, rfl, rfl, hH, hB, hz, q⟩ := h
  cases rx
  cases ry
  obtain ⟨its, r, ⟨⟨c1, d1, a1, s1⟩, n, ho, hc, hd, hs⟩, _⟩ := I.list hH
  obtain ⟨its2, r2, ⟨⟨c2, d2, a2, s2⟩, n2, ho2, hc2, hd2, hs2⟩, _⟩ := I.list hB
  simp only at hc hd hs hc2 hd2 hs2
  subst hc hd hs hc2 hd2 hs2
  have hl := r.length
  have hl2 := r2.length
  have ea : its.toArray ++ its2.toArray = (its ++ its2).toArray := by simp
  refine concat_meets ⟨_, ho, rfl⟩ ⟨_, ho2, rfl⟩ noFill_list_add seq_list_add F.slot_list_add F.entry_list_add (F.args_list_add_2 _ _) (list_addW l b its.toArray its2.toArray n n2 none none s1 s2 (by rw [List.size_toArray, List.size_toArray]; omega)) ⟨ho, ho2, ?_⟩
  rw [ea]
  exact ⟨.ref _, _, I.lnew (t' := s.toks) (r.append r2) (by rw [List.length_append]; omega), rfl, q _ I.fresh⟩
/-- repr of data -/
def rRepr (K : PySem.W.Frag) : List V → Hp → VK → Prop := fun xs H Q => ∃ a d, xs = [.ref a] ∧ Dp K H (.ref a) d ∧ d.showable = true ∧ d.hasDict = false ∧ d.depth ≤ 20 ∧ d.shown.length ≤ sizeLine ∧ Q (.str d.shown) H
end
end L2
namespace L2
open PySem PySem.Spec PyProof.Rows
/-- the promise of a def that is called while no text of an object is being made (repr asks that) -/
structure FnG (P : Program) (w : World) (K : PySem.W.Frag) (mg : Str → Option Value) (base : Heap) (CX : CXT) (k : Nat) (f : Addr) (fd : FuncData) (ps : List Str) (sp : Sp) : Prop where
  len : ∀ vs H Q E, sp vs H Q E → vs.length = ps.length
  go : ∀ (A : Around), A.guards = some [] → Room k A → ∀ (out : List Env) (s : Shared) (H : Hp), Env0 P w K mg base A out s H → ∀ (args : Args) (us : List Value) (vs : List V), BindsTo s fd args (ps.zip us) → Vals vs us → ∀ (Q : VK) (E : XK), sp vs H Q E →
    codeAny (model P w) A (.call (.ref f) args) (CR CX out P w H s Q E) s
section
variable {P : Program} {w : World} {K : PySem.W.Frag} {mg : Str → Option Value} {base : Heap} {CX : CXT} {k : Nat} {f : Addr} {fd : FuncData} {ps : List Str} {sp : Sp}
theorem FnOk.toG (F : FnOk P w K mg base CX k f fd ps sp) : FnG P w K mg base CX k f fd ps sp := ⟨F.len, fun A _ hr out s H e0 args us vs hb hv Q E hs => F.run A out s H args us vs Q E hr e0 hb hv hs⟩
theorem fnG_of {name qual : Str} {params : Arguments} {body : List Stmt} {scope : Scope} {dV kV doc pm cdv ct oc : Value} {an od : Option Addr} {osl : Array (Option Value)} {N : List Str}
    (lk : K.lookup f = some ⟨oc, od, .func (PySem.W.fnOf name qual params body scope dV kV doc pm an cdv ct), osl⟩) (hcd : PySem.W.codeIn K cdv qual = true) (S : FnScope N ps scope) (len : ∀ vs H Q E, sp vs H Q E → vs.length = ps.length)
    (hb : ∀ (A : Around), A.guards = some [] → ∀ (out : List Env) (s : Shared) (H : Hp) (vs : List V) (Q : VK) (E : XK), Room k (A.deeper (envOfC qual scope s.heap.objs.size f cdv)) → sp vs H Q E →
      ∃ t, PSs (cxOf CX P w K mg base N qual scope f cdv A out s H E) body t ∧ t { nx := fun _ H' => Q .non H', rt := Q } (start N vs) H) :
    FnG P w K mg base CX (k + 1) f (PySem.W.fnOf name qual params body scope dV kV doc pm an cdv ct) ps sp := by
  refine ⟨len, fun A hG hr out s H e0 args us vs hbd r Q E hsp => ?_⟩
  have hl := len _ _ _ _ hsp
  have KX : K.In s.heap := e0.mod.kin.keeps fun c z q => (e0.bs c z q).1
  have lim : s.heap.NoLimit := e0.mod.nolimit.keeps fun c z q => (e0.bs c z q).1
  have hk2 : ∀ z ∈ ps.zip us, scope.names.lookup z.1 = some .local ∨ (scope.names.lookup z.1 = some .cell ∧ ((cellsFrom (s.heap.objs.size + 1) scope.names []).lookup z.1).isSome = true) := by
    intro z hz
    rcases S.par z.1 (List.of_mem_zip (a := z.1) (b := z.2) hz).1 with g | g
    · exact Or.inl g
    · exact Or.inr ⟨g, PySem.W.cellsFrom_some _ _ _ (Or.inl g)⟩
  refine codeAny_call_function hr.depth (KX f _ lk) rfl S.co S.gen rfl (PySem.W.codeRec_of KX hcd) (hbd _ _ _ _ ?_)
  refine wpAny_newFunctionEnv_cells S.kind hk2 fun env he s2 x => ?_
  cases he
  refine ⟨lim.keeps x.toInCall.keep, codeAny_func ?_⟩
  obtain ⟨t, ht, hq⟩ := hb A hG out s H vs Q E (Room.deeper hr _) hsp
  have J0 : Inv (cxOf CX P w K mg base N qual scope f cdv A out s H E) [] (start N vs) H s2 := inv_start S hr.hd e0 hl r x
  refine wpAny_mono (ht.run [] s2 (start N vs) H _ J0 hq) (fun fl s3 h3 => ?_) (fun _ _ z => z)
  match fl, h3 with
  | .ret u, ⟨v, σ', H', J, rv, q⟩ => exact ⟨v, H', J.os, J.bare, J.base, J.hok, rv, q⟩
  | .next, ⟨σ', H', J, q⟩ => exact ⟨V.non, H', J.os, J.bare, J.base, J.hok, (rfl : RelV V.non Value.none), q⟩
  | .brk, ⟨_, _, _, q⟩ => exact q.elim
  | .cont, ⟨_, _, _, q⟩ => exact q.elim
theorem Fun.okG {x qual : Str} {st : Stmt} {N : List Str} (F : Fun K x qual st f fd) (S : FnScope N ps (defScope st)) (len : ∀ vs H Q E, sp vs H Q E → vs.length = ps.length)
    (hb : ∀ (cdv : Value) (A : Around), A.guards = some [] → ∀ (out : List Env) (s : Shared) (H : Hp) (vs : List V) (Q : VK) (E : XK), Room k (A.deeper (envOfC qual (defScope st) s.heap.objs.size f cdv)) → sp vs H Q E →
      ∃ t, PSs (cxOf CX0 P w K mg base N qual (defScope st) f cdv A out s H E).nox (defBody st) t ∧ t { nx := fun _ H' => Q .non H', rt := Q } (start N vs) H) : FnG P w K mg base CX0 (k + 1) f fd ps sp := by
  obtain ⟨oc, od, kV, doc, pm, an, cdv, ct, osl, rfl, lk, hcd⟩ := F.ex
  refine fnG_of lk hcd S len fun A hG out s H vs Q E hr hsp => ?_
  obtain ⟨t, h, q⟩ := hb cdv A hG out s H vs Q E hr hsp
  exact ⟨t, PSs.nox h, q⟩
end
section
variable {X : Cx} {CX : CXT} {k : Nat} {f : Addr} {fd : FuncData} {ps : List Str} {sp : Sp} {dvs : List V} {ds : List Value} {E : XK} {x : Str} {p pos : Pos} {e : Expr} {es : List Expr} {t : TA}
theorem run_fnG {pins : List (Addr × Obj)} {σ : St} {H : Hp} {s : Shared} {Q : VK} {us : List Value} {vs : List V} (F : FnG X.prog X.w X.K X.mg X.base CX k f fd ps sp) (hG : X.A.guards = some []) (hr : Room k X.A) (hb : Binds X.K fd ps ds) (hd : Vals dvs ds) (hx : Passes CX X E)
    (I : Inv X pins σ H s) (r : Vals vs us) (h : sp (vs ++ dvs) H Q E) : wpAny (model X.prog X.w) X.A (call (.ref f) us) (EP X pins σ Q) X.xe s := by
  have r2 : Vals (vs ++ dvs) (us ++ ds) := r.append hd
  have hl : (us ++ ds).length = ps.length := r2.length ▸ F.len _ _ _ _ h
  refine wpAny_call (codeAny_mono (F.go X.A hG hr X.stack s H I.env0 ⟨us, []⟩ (us ++ ds) (vs ++ dvs) (hb s us I.kIn hl) r2 Q E h) fun o s2 hq => ?_)
  match o, hq with
  | .error e, hq => exact hx pins σ H s e s2 I hq
  | .ok (.ret u), hq => exact I.after hq
/-- f(e, ..) of such a def -/
theorem pe_callG (F : FnG X.prog X.w X.K X.mg X.base CX k f fd ps sp) (hG : X.A.guards = some []) (hr : Room k X.A) (hg : Gl X x) (hm : X.mg x = some (.ref f)) (hk : PySem.W.keepIn X.K (.ref f) = true) (hb : Binds X.K fd ps ds) (hd : Vals dvs ds) (hx : Passes CX X E)
    (ha : PA X (e :: es) t) (hdb : (x == ("__debug__" : Str)) = false := by decide) (he : starEach (e :: es) X.env = (false, eval e X.env) :: starEach es X.env := by rfl) (hpl : (backTo pos (starEach es X.env)).any (·.1) = false := by rfl) :
    PE X (.Call (.Name x p) (e :: es) [] pos) (tCall sp dvs E t) := ⟨fun pins s σ H Q I h =>
  wpAny_Call_Name_kw (ld_glob I hg hm (PySem.W.callWith_K (h₀ := X.base) I.ok.mod.kin hk (thn (ha.run pos pins s σ H _ I h) fun us s1 ⟨vs, H1, I1, r, q⟩ => ⟨I1.kIn, run_fnG F hG hr hb hd hx I1 r q⟩) he hpl) hdb)⟩
/-- repr(x) -/
theorem call_repr (hG : X.A.guards = some []) (hu : X.A.units + 64 < cLine) : CallR X (.builtin "repr") (rRepr X.K) := by
  intro pins s σ H xs us Q I r h
  obtain ⟨a, d, rfl, hd, h1, h2, h3, h4, q⟩ := h
  obtain ⟨u, rfl, ru⟩ := vals1 r
  cases (show u = Value.ref a from ru)
  obtain ⟨as, rd⟩ := Dp.reads I d _ _ hd (rfl : RelV (V.ref a) (Value.ref a))
  refine repr_of_reads' (h₀ := s.heap) rd h1 (fun z => absurd (h2.symm.trans z) (by decide)) hG (by omega) (fun _ _ z => z) (fun h' u tk hk => ?_) h4
  exact ⟨.str d.shown, H, I.kept hk, ⟨u, rfl⟩, q⟩
end
end L2
namespace L2
open PySem PySem.Spec PyProof.Rows
/-- the end of a law whose def runs where no text of an object is being made -/
theorem law_goG {P : Program} {w : World} {K : PySem.W.Frag} {mg mb : Str → Option Value} {k : Nat} {fa a : Addr} {fd : FuncData} {x : Str} {sp : Sp} {z : Shared} {vs : List Value} {ns : List Int}
    (KX : K.In z.heap) (hns : z.heap.Ns mainGlobals mg) (hb : z.heap.Ns builtinsNs mb) (hbb : ∀ x : Str, x ≠ "__name__" → mb x = bootBuiltins x) (hlim : z.heap.NoLimit) (hg : z.gens = #[])
    (ha : z.heap.get? a = some { cls := .type "list", data := .seq vs.toArray }) (hi : IntsAre vs ns) (hl : ns.length ≤ sizeLine) (hr : Room k callerA)
    (F : ∀ base : Heap, K.In base → base.Ns mainGlobals mg → FnG P w K mg base CX0 k fa fd [x] sp) (hbind : ∀ (s : Shared) (u : Value), BindsTo s fd ⟨[u], []⟩ [(x, u)])
    (hsp : ∀ H : Hp, SqL K H a (ns.map V.int) → sp [.ref a] H (fun v _ => v = .bl true) fun _ _ _ => False) :
    codeAny (model P w) callerA (.call (.ref fa) ⟨[.ref a], []⟩) (fun r y => r = .ok (.ret (.bool true)) ∧ OldK z.heap y.heap ∧ y.os = z.os ∧ AllBare y.gens) z := by
  let ob : Obj := { cls := .type "list", data := .seq vs.toArray }
  let H : Hp := fun b => if b = a ∧ K.lookup a = none then some (.frz ob (.lst (ns.map V.int))) else none
  have rv := vals_ints hi
  have lenV := hi.length
  have Ha : K.lookup a = none → H a = some (.frz ob (.lst (ns.map V.int))) := fun e => if_pos ⟨rfl, e⟩
  have Hn : ∀ b, ¬ (b = a ∧ K.lookup a = none) → H b = none := fun b e => if_neg e
  have Hs : ∀ {b o}, H b = some o → b = a ∧ K.lookup a = none ∧ o = .frz ob (.lst (ns.map V.int)) := fun {b o} e => by
    by_cases hba : b = a ∧ K.lookup a = none
    · rw [show H b = some (.frz ob (.lst (ns.map V.int))) from if_pos hba] at e
      exact ⟨hba.1, hba.2, (Option.some.inj e).symm⟩
    · rw [Hn b hba] at e
      cases e
  have hok : HOk P w H z.heap := by
    intro b o e
    obtain ⟨e1, e2, e3⟩ := Hs e
    subst e1 e3
    exact ⟨ha, by rw [List.length_map]; exact hl, vs, _, rv, ha⟩
  have dn : ∀ {b : Addr} {o : Obj} {es : Array DictEntry} {ep : Nat}, z.heap.get? b = some o → o.data = .dict es ep → H b = none := by
    intro b o es ep e d
    refine Hn b fun q => ?_
    rw [q.1, ha] at e
    cases e
    cases d
  have nsK : ∀ {b : Addr} {m : Str → Option Value}, z.heap.Ns b m → (hidT z.heap H).Ns b m := fun ⟨o, es, ep, e, d, r⟩ => ⟨o, es, ep, hidT_get e (dn e d), d, r⟩
  have KB : K.In (hidT z.heap H) := by
    intro b o e
    refine hidT_get (KX b o e) (Hn b fun q => ?_)
    rw [q.1, q.2] at e
    cases e
  have M : Mod K mg (hidT z.heap H) := ⟨KB, nsK hns, ⟨mb, nsK hb, hbb⟩, let ⟨mc, h1, h2⟩ := hlim; ⟨mc, nsK h1, h2⟩⟩
  have e0 : Env0 P w K mg (hidT z.heap H) callerA [] z H := ⟨rfl, M, fun _ _ e => of_hidT e, Nat.le_of_eq (hidT_size _ _), trivial, fun _ q => (nomatch q), hok, .of_eq hg⟩
  have SA : SqL K H a (ns.map V.int) := by
    cases hk : K.lookup a with
    | none => exact Or.inl (Or.inr ⟨ob, Ha hk⟩)
    | some o =>
      have e := KX a o hk
      rw [ha] at e
      cases e
      exact Or.inr ⟨_, vs.toArray, _, hk, rfl, rfl, rfl, by rw [List.size_toArray, lenV]; exact hl, by simpa using rv⟩
  refine codeAny_mono ((F _ KB (nsK hns)).go callerA rfl hr [] z H e0 ⟨[.ref a], []⟩ [.ref a] [.ref a] (hbind z (.ref a)) (.cons rfl .nil) _ _ (hsp H SA)) fun r y h => ?_
  match r, h with
  | .error e, h => exact h.elim
  | .ok (.ret u), ⟨v, H2, os, bare, un, hok2, rv2, q⟩ =>
    cases (show v = V.bl true from q)
    cases (show u = Value.bool true from rv2)
    refine ⟨rfl, OldK.of_keep fun b o e => ?_, os, bare⟩
    by_cases hba : b = a ∧ K.lookup a = none
    · obtain ⟨rfl, h2⟩ := hba
      obtain ⟨e2, _⟩ := hok2 b _ (un.frzs b ob _ (Ha h2))
      rw [ha] at e
      cases e
      exact e2
    · exact un.keep b o e (Hn b hba) (fun q => nomatch q) (fun q => nomatch q)
/-- the goal that k_head leaves, for a law by FnG; the script's bits are not told -/
theorem walk_ofG {l : PySem.W.OpenLaw} {n k : Nat} {q : Program} {loose : List Str} {XP : (Str → Option Value) → Heap → Prop} {YP : World → Heap → Prop} {d : DefRec} {K : Params → PySem.W.Frag} {sp : PySem.W.Frag → Sp} {x : Str}
    (hn : l.most = some n) (hn2 : n ≤ sizeLine) (hdf : d.params.defaults = []) (hr : Room k callerA) (hY : ∀ (w : World) (h : Heap), YP w h → (K w.params).In h)
    (F : ∀ (w : World) (mg : Str → Option Value) (fa : Addr) (h : Heap), (K w.params).In h → h.Ns mainGlobals mg → mg d.name = some (.ref fa) →
      ∃ fd : FuncData, (∀ (s : Shared) (u : Value), BindsTo s fd ⟨[u], []⟩ [(x, u)]) ∧ ∀ base : Heap, (K w.params).In base → base.Ns mainGlobals mg → FnG l.prog w (K w.params) mg base CX0 k fa fd [x] (sp (K w.params)))
    (hsp : ∀ (K : PySem.W.Frag) (H : Hp) (a : Addr) (ns : List Int), ns.length ≤ n → SqL K H a (ns.map V.int) → sp K [.ref a] H (fun v _ => v = .bl true) fun _ _ _ => False) :
    PySem.W.WalkO q loose XP YP l.row.toRowW d [] (fun f vs => PySem.call f vs) :=
  Att.attach_call hn hdf fun w _ s1 mg mb fa o pm cd doc a vs ns G Y ho hd hcd hmg hobj hints hlen hg => by
    obtain ⟨fd, hb, hF⟩ := F w mg fa _ (hY w _ Y) G.T.g hmg
    exact law_goG (hY w _ Y) G.T.g G.T.b G.T.builtins G.T.nolimit hg hobj hints (Nat.le_trans hlen hn2) hr hF hb fun H hS => hsp _ H a ns hlen hS
end L2
namespace L2
open PySem PySem.Spec PyProof.Rows
/-- values in another order -/
def picked {α : Type} (d : α) (ix : List Nat) (ws : List α) : List α := ix.map fun i => ws.getD i d
theorem picked_vals {zs : List V} {ws : List Value} (r : Vals zs ws) (ix : List Nat) : Vals (picked V.non ix zs) (picked Value.none ix ws) := by
  induction ix with
  | nil => exact .nil
  | cons i r2 ih =>
    refine .cons ?_ ih
    show RelV (zs.getD i V.non) (ws.getD i Value.none)
    have hl := r.length
    by_cases hi : i < zs.length
    · have e1 : zs[i]? = some (zs.getD i V.non) := by rw [List.getD_eq_getElem?_getD, List.getElem?_eq_getElem hi]; rfl
      obtain ⟨u, e2, ru⟩ := r.get e1
      rw [show ws.getD i Value.none = u by rw [List.getD_eq_getElem?_getD, e2]; rfl]
      exact ru
    · rw [List.getD_eq_getElem?_getD, List.getD_eq_getElem?_getD, List.getElem?_eq_none (by omega), List.getElem?_eq_none (by omega)]
      exact (rfl : RelV V.non Value.none)
/-- how a call by keywords alone binds -/
def KwB (K : PySem.W.Frag) (fd : FuncData) (ps ks : List Str) (ix : List Nat) : Prop := ix.length = ps.length ∧ ∀ (s : Shared) (ws : List Value), K.In s.heap → ws.length = ks.length → BindsTo s fd ⟨[], ks.zip ws⟩ (ps.zip (picked Value.none ix ws))
def tKw0 (sp : Sp) (n : Nat) (ix : List Nat) (E : XK) (t : TA) : TE := fun σ H Q => t σ H fun vs H1 => vs.length = n ∧ sp (picked V.non ix vs) H1 Q E
section
variable {X : Cx} {CX : CXT} {k : Nat} {f : Addr} {fd : FuncData} {ps ks : List Str} {sp : Sp} {E : XK} {x : Str} {p pos : Pos} {kws : List Keyword} {t : TA} {ix : List Nat}
/-- f(k = v, ..) -/
theorem pe_kw0 (F : FnOk X.prog X.w X.K X.mg X.base CX k f fd ps sp) (hr : Room k X.A) (hg : Gl X x) (hm : X.mg x = some (.ref f)) (hk : PySem.W.keepIn X.K (.ref f) = true) (hb : KwB X.K fd ps ks ix) (hx : Passes CX X E)
    (ha : PK X kws t) (hall : (backToKw pos (keywordEach kws X.env)).all (·.1.isSome) = true := by rfl) (hks : (backToKw pos (keywordEach kws X.env)).filterMap (·.1) = ks := by rfl) (hdb : (x == ("__debug__" : Str)) = false := by decide)
    (hpl : ((backTo pos (starEach [] X.env)).any (·.1) || (backToKw pos (keywordEach kws X.env)).any (·.1.isNone)) = false := by rfl) : PE X (.Call (.Name x p) [] kws pos) (tKw0 sp ks.length ix E t) := by
  refine ⟨fun pins s σ H Q I h => wpAny_Call_Name_kw (ld_glob I hg hm ?_ hdb)⟩
  refine PySem.W.callWith_KW0 (h₀ := X.base) I.ok.mod.kin hk hall (thn (ha.run pos pins s σ H _ I h) fun ws s2 ⟨zs, H2, I2, rz, hl, q2⟩ => ⟨I2.kIn, ?_⟩) hpl
  rw [hks]
  have r2 := picked_vals rz ix
  refine wpAny_call (codeAny_mono (F.run X.A X.stack s2 H2 ⟨[], ks.zip ws⟩ (picked Value.none ix ws) (picked V.non ix zs) Q E hr I2.env0 (hb.2 s2 ws I2.kIn (rz.length.symm.trans hl)) r2 q2) fun o s3 hq => ?_)
  match o, hq with
  | .error e, hq => exact hx pins σ H2 s2 e s3 I2 hq
  | .ok (.ret u), hq => exact I2.after hq
end
section
variable {K : PySem.W.Frag} {x qual : Str} {st : Stmt} {f : Addr} {fd : FuncData} {ps ks : List Str} {ix : List Nat}
theorem Fun.kwb (F : Fun K x qual st f fd) (hix : ix.length = ps.length) (h : ∀ (kV doc pm : Value) (an : Option Addr) (cdv ct : Value) (us : List Value), us.length = ks.length → bindArgs (PySem.W.fnOf x qual (defArgs st) (defBody st) (defScope st) .none kV doc pm an cdv ct) ⟨[], ks.zip us⟩ = pure (ps.zip (picked Value.none ix us))) : KwB K fd ps ks ix := by
  obtain ⟨oc, od, kV, doc, pm, an, cdv, ct, osl, rfl, lk, hcd⟩ := F.ex
  exact ⟨hix, fun s ws _ hl => .of_eq (h kV doc pm an cdv ct ws hl)⟩
end
/-! ### readings, one step each: what stands at the head -/
section
variable {σ : St} {H : Hp} {Q : VK} {D : Ends} {ta tb tc te : TE} {t u : TS} {v : V} {i : Nat} {a b : TT} {K : PySem.W.Frag}
theorem g_seq (h : t { D with nx := u D } σ H) : tSeq t u D σ H := h
theorem g_asg {g : TG} (h : te σ H fun x H1 => g x σ H1 D.nx) : tAsg te g D σ H := h
theorem g_name {Q : St → Hp → Prop} (h : Q (σ.set i (some v)) H) : gName i v σ H Q := h
theorem g_var (e : σ[i]? = some (some v)) (h : Q v H) : tVar i σ H Q := ⟨v, e, h⟩
theorem g_c (h : Q v H) : tC v σ H Q := h
theorem g_op {r : R2} (h : ta σ H fun x H1 => tb σ H1 fun y H2 => r x y H2 Q) : tOp r ta tb σ H Q := h
theorem g_un {r : V → Hp → VK → Prop} (h : ta σ H fun x H1 => r x H1 Q) : tUn r ta σ H Q := h
theorem g_I0 {g : Int → Int → V} {i j : Int} (h : Q (g i j) H) : rI0 g (.int i) (.int j) H Q := ⟨i, j, rfl, rfl, h⟩
theorem g_I {C : Int → Int → Prop} {g : Int → Int → V} {i j : Int} (c : C i j) (h : Q (g i j) H) : rI C g (.int i) (.int j) H Q := ⟨i, j, rfl, rfl, c, h⟩
theorem g_U {g : Int → V} {i : Int} (h : Q (g i) H) : rU g (.int i) H Q := ⟨i, rfl, h⟩
theorem g_eq {x y : V} (c : scal x y = true) (h : Q (.bl (decide (x = y))) H) : rEq x y H Q := ⟨c, h⟩
theorem g_ne {x y : V} (c : scal x y = true) (h : Q (.bl (!decide (x = y))) H) : rNe x y H Q := ⟨c, h⟩
theorem g_tcons {tr : TA} {Q : List V → Hp → Prop} (h : ta σ H fun x H1 => tr σ H1 fun xs H2 => Q (x :: xs) H2) : tCons ta tr σ H Q := h
theorem g_tnil {Q : List V → Hp → Prop} (h : Q [] H) : tNil σ H Q := h
theorem g_call {sp : Sp} {dvs : List V} {E : XK} {tr : TA} (h : tr σ H fun vs H1 => sp (vs ++ dvs) H1 Q E) : tCall sp dvs E tr σ H Q := h
theorem g_cb {r : List V → Hp → VK → Prop} {tr : TA} (h : tr σ H fun vs H1 => r vs H1 Q) : tCB r tr σ H Q := h
theorem g_tup {tr : TA} (h : tr σ H fun xs H1 => xs.length ≤ sizeLine ∧ ∀ p, H1 p = none → Q (.ref p) (upd H1 p (.tup xs))) : tTup tr σ H Q := h
theorem g_lst {tr : TA} (h : tr σ H fun xs H1 => xs.length ≤ sizeLine ∧ ∀ p, H1 p = none → Q (.ref p) (upd H1 p (.lst xs))) : tLst tr σ H Q := h
theorem g_ret (h : te σ H D.rt) : tRet te D σ H := h
theorem g_drop (h : te σ H fun _ H1 => D.nx σ H1) : tDrop te D σ H := h
theorem g_next (h : D.nx σ H) : tNext D σ H := h
theorem g_cont (h : D.ct σ H) : tCont D σ H := h
theorem g_break (h : D.bk σ H) : tBreak D σ H := h
theorem g_ifs (h : a σ H fun b H1 => if b = true then t D σ H1 else u D σ H1) : tIfS a t u D σ H := h
theorem g_ife (h : a σ H fun c H1 => if c = true then ta σ H1 Q else tb σ H1 Q) : tIf a ta tb σ H Q := h
theorem g_test {Q : Bool → Hp → Prop} (h : te σ H fun x H1 => ∃ k, x = .bl k ∧ Q k H1) : tTest te σ H Q := h
theorem g_tb {Q : Bool → Hp → Prop} (h : te σ H fun x H1 => ∃ k, x = .bl k ∧ Q k H1) : tB te σ H Q := h
theorem g_and {Q : Bool → Hp → Prop} (h : a σ H fun c H1 => if c = true then b σ H1 Q else Q false H1) : tAnd a b σ H Q := h
theorem g_or {Q : Bool → Hp → Prop} (h : a σ H fun c H1 => if c = true then Q true H1 else b σ H1 Q) : tOr a b σ H Q := h
theorem g_not {Q : Bool → Hp → Prop} (h : a σ H fun c H1 => Q (!c) H1) : tNot a σ H Q := h
theorem g_andV (h : ta σ H fun x H1 => ∃ c, x = .bl c ∧ if c = true then tb σ H1 Q else Q (.bl false) H1) : tAndV ta tb σ H Q := h
theorem g_orV (h : ta σ H fun x H1 => ∃ c, x = .bl c ∧ if c = true then Q (.bl true) H1 else tb σ H1 Q) : tOrV ta tb σ H Q := h
theorem g_notV (h : ta σ H fun x H1 => ∃ c, x = .bl c ∧ Q (.bl (!c)) H1) : tNotV ta σ H Q := h
theorem g_bl {k : Bool} {P : Bool → Prop} (h : P k) : ∃ c, V.bl k = V.bl c ∧ P c := ⟨k, rfl, h⟩
theorem g_chain {r r' : R2} (h : ta σ H fun x H1 => tb σ H1 fun y H2 => r x y H2 fun z H3 => ∃ k, z = .bl k ∧ (if k = true then tc σ H3 fun w' H4 => r' y w' H4 Q else Q (.bl false) H3)) : tChain r r' ta tb tc σ H Q := h
theorem g_dget (h : ta σ H fun x H1 => tb σ H1 fun y H2 => ∃ a v, x = .ref a ∧ DGet H2 a y (some v) ∧ Q v H2) : tDGet ta tb σ H Q := h
theorem g_dput (h : tc σ H fun v H1 => ta σ H1 fun x H2 => tb σ H2 fun y H3 => ∃ a H4, x = .ref a ∧ DPut H3 a y v H4 ∧ D.nx σ H4) : sDPut ta tb tc D σ H := h
theorem g_for {wi : TI} {g : TG} (h : wi σ H fun J H1 => ∃ W : Nat → Nat → St → Hp → Prop, (∃ m, W 0 m σ H1) ∧ ∀ i m σ H, W i m σ H → (J.stop i H ∧ D.nx σ H) ∨ (J.go i H ∧ ∃ N : St → Hp → Prop, (∀ σ' H', N σ' H' → ∃ m', m' < m ∧ W (i + 1) m' σ' H') ∧ ∀ x H', J.yld i H x H' → g x σ H' fun σ2 H2 => t { D with nx := N, ct := N, bk := D.nx } σ2 H2)) : tFor wi g t D σ H := h
theorem g_ilist {R : It → Hp → Prop} (h : ta σ H fun x H1 => ∃ a, x = .ref a ∧ (∃ xs, SqL K H1 a xs) ∧ R (Itl K a) H1) : iList K ta σ H R := h
theorem g_istr {R : It → Hp → Prop} (h : ta σ H fun v H1 => ∃ x, v = .str x ∧ R (Its x) H1) : iStr ta σ H R := h
theorem g_irng1 {tr : TA} {R : It → Hp → Prop} (h : tr σ H fun vs H1 => ∃ j : Int, vs = [.int j] ∧ -(2 ^ 62) ≤ j ∧ j < 2 ^ 62 ∧ R (Itr 0 j.toNat) H1) : iRng1 tr σ H R := h
theorem g_itrue {c : Bool} {A B : Prop} (e : c = true) (h : A) : if c = true then A else B := by rw [if_pos e]; exact h
theorem g_ifalse {c : Bool} {A B : Prop} (e : c = false) (h : B) : if c = true then A else B := by rw [e, if_neg Bool.false_ne_true]; exact h
theorem g_if {c : Bool} {A B : Prop} (h1 : c = true → A) (h2 : c = false → B) : if c = true then A else B := by
  cases c with
  | true => rw [if_pos rfl]; exact h1 rfl
  | false => rw [if_neg Bool.false_ne_true]; exact h2 rfl
end
end L2
namespace Dr
open PySem L2
/-! the draws of the laws: a dict with four keys -/
def dkv (l : Addr) (a lf u : Int) : List (Key × V) := [(Sum.inr ("cells" : Str), .ref l), (Sum.inr ("at" : Str), .int a), (Sum.inr ("left" : Str), .int lf), (Sum.inr ("used" : Str), .int u)]
theorem n1 : ¬ ((Sum.inr ("cells" : Str) : Key) = Sum.inr ("at" : Str)) := by decide +kernel
theorem n2 : ¬ ((Sum.inr ("cells" : Str) : Key) = Sum.inr ("left" : Str)) := by decide +kernel
theorem n3 : ¬ ((Sum.inr ("cells" : Str) : Key) = Sum.inr ("used" : Str)) := by decide +kernel
theorem n4 : ¬ ((Sum.inr ("at" : Str) : Key) = Sum.inr ("left" : Str)) := by decide +kernel
theorem n5 : ¬ ((Sum.inr ("at" : Str) : Key) = Sum.inr ("used" : Str)) := by decide +kernel
theorem n6 : ¬ ((Sum.inr ("left" : Str) : Key) = Sum.inr ("used" : Str)) := by decide +kernel
theorem m1 : ¬ (("cells" : Str) = "at") := by decide +kernel
theorem m2 : ¬ (("cells" : Str) = "left") := by decide +kernel
theorem m3 : ¬ (("cells" : Str) = "used") := by decide +kernel
theorem m4 : ¬ (("at" : Str) = "cells") := by decide +kernel
theorem m5 : ¬ (("at" : Str) = "left") := by decide +kernel
theorem m6 : ¬ (("at" : Str) = "used") := by decide +kernel
theorem m7 : ¬ (("left" : Str) = "cells") := by decide +kernel
theorem m8 : ¬ (("left" : Str) = "at") := by decide +kernel
theorem m9 : ¬ (("left" : Str) = "used") := by decide +kernel
theorem m10 : ¬ (("used" : Str) = "cells") := by decide +kernel
theorem m11 : ¬ (("used" : Str) = "at") := by decide +kernel
theorem m12 : ¬ (("used" : Str) = "left") := by decide +kernel
variable {l : Addr} {a lf u z : Int} {H : Hp} {d : Addr}
theorem v_cells : valV (dkv l a lf u) (Sum.inr ("cells" : Str)) = some (.ref l) := valV_pos rfl
theorem v_at : valV (dkv l a lf u) (Sum.inr ("at" : Str)) = some (.int a) := by unfold dkv; rw [valV_neg n1, valV_pos rfl]
theorem v_left : valV (dkv l a lf u) (Sum.inr ("left" : Str)) = some (.int lf) := by unfold dkv; rw [valV_neg n2, valV_neg n4, valV_pos rfl]
theorem v_used : valV (dkv l a lf u) (Sum.inr ("used" : Str)) = some (.int u) := by unfold dkv; rw [valV_neg n3, valV_neg n5, valV_neg n6, valV_pos rfl]
theorem p_at : putK (dkv l a lf u) (Sum.inr ("at" : Str)) (.int z) = dkv l z lf u := by simp [putK, mergeK, dkv, m1, m2, m3, m4, m5, m6, m7, m8, m9, m10, m11, m12]
theorem p_left : putK (dkv l a lf u) (Sum.inr ("left" : Str)) (.int z) = dkv l a z u := by simp [putK, mergeK, dkv, m1, m2, m3, m4, m5, m6, m7, m8, m9, m10, m11, m12]
theorem p_used : putK (dkv l a lf u) (Sum.inr ("used" : Str)) (.int z) = dkv l a lf z := by simp [putK, mergeK, dkv, m1, m2, m3, m4, m5, m6, m7, m8, m9, m10, m11, m12]
theorem mrg : mergeK [] [((Sum.inr ("cells" : Str) : Key), V.ref l), (Sum.inr ("at" : Str), .int a), (Sum.inr ("left" : Str), .int lf), (Sum.inr ("used" : Str), .int u)] = dkv l a lf u := by
  simp [putK, mergeK, dkv, m1, m2, m3, m4, m5, m6, m7, m8, m9, m10, m11, m12]
theorem get_cells (h : H d = some (.dK (dkv l a lf u))) : DGet H d (.str "cells") (some (.ref l)) := by rw [← v_cells (a := a) (lf := lf) (u := u)]; exact DGet.k (k := Sum.inr ("cells" : Str)) h
theorem get_at (h : H d = some (.dK (dkv l a lf u))) : DGet H d (.str "at") (some (.int a)) := by rw [← v_at (l := l) (lf := lf) (u := u)]; exact DGet.k (k := Sum.inr ("at" : Str)) h
theorem get_left (h : H d = some (.dK (dkv l a lf u))) : DGet H d (.str "left") (some (.int lf)) := by rw [← v_left (l := l) (a := a) (u := u)]; exact DGet.k (k := Sum.inr ("left" : Str)) h
theorem get_used (h : H d = some (.dK (dkv l a lf u))) : DGet H d (.str "used") (some (.int u)) := by rw [← v_used (l := l) (a := a) (lf := lf)]; exact DGet.k (k := Sum.inr ("used" : Str)) h
theorem put_at (h : H d = some (.dK (dkv l a lf u))) : DPut H d (.str "at") (.int z) (upd H d (.dK (dkv l z lf u))) := by rw [← p_at (a := a)]; exact DPut.k (k := Sum.inr ("at" : Str)) h (by show 4 < _; decide)
theorem put_left (h : H d = some (.dK (dkv l a lf u))) : DPut H d (.str "left") (.int z) (upd H d (.dK (dkv l a z u))) := by rw [← p_left (lf := lf)]; exact DPut.k (k := Sum.inr ("left" : Str)) h (by show 4 < _; decide)
theorem put_used (h : H d = some (.dK (dkv l a lf u))) : DPut H d (.str "used") (.int z) (upd H d (.dK (dkv l a lf z))) := by rw [← p_used (u := u)]; exact DPut.k (k := Sum.inr ("used" : Str)) h (by show 4 < _; decide)
/-- the draws stand at d, at most m of them are used -/
def Draw (H : Hp) (d l : Addr) (m : Nat) : Prop := ∃ (ns : List Int) (a lf u : Int), H d = some (.dK (dkv l a lf u)) ∧ H l = some (.lst (ns.map V.int)) ∧ 0 < ns.length ∧ ns.length ≤ 64 ∧ 0 ≤ a ∧ a ≤ m ∧ 0 ≤ lf ∧ 0 ≤ u ∧ u ≤ m
/-- all but what stands at d is kept -/
def Kp (d : Addr) (H H' : Hp) : Prop := ∀ p o, p ≠ d → H p = some o → H' p = some o
theorem Kp.refl : Kp d H H := fun _ _ _ h => h
theorem Kp.trans {H1 H2 : Hp} (a : Kp d H H1) (b : Kp d H1 H2) : Kp d H H2 := fun p o n h => b p o n (a p o n h)
theorem Kp.new {p : Addr} {o : HO} (h : H p = none) : Kp d H (upd H p o) := fun b x _ e => by rw [upd_ne (ne_of_none e h)]; exact e
theorem Kp.at {o : HO} : Kp d H (upd H d o) := fun b x n e => by rw [upd_ne n]; exact e
theorem Kp.mut {p : Addr} {o : HO} {H1 : Hp} (k : Kp d H H1) (h : H p = none) : Kp d H (upd H1 p o) := fun b x n e => by
  rw [upd_ne (ne_of_none e h)]
  exact k b x n e
theorem Draw.mono {m m' : Nat} (D : Draw H d l m) (h : m ≤ m') : Draw H d l m' := by
  obtain ⟨ns, a, lf, u, h1, h2, h3, h4, h5, h6, h7, h8, h9⟩ := D
  exact ⟨ns, a, lf, u, h1, h2, h3, h4, h5, by omega, h7, h8, by omega⟩
theorem Draw.ne {m : Nat} {p : Addr} (D : Draw H d l m) (h : H p = none) : p ≠ d := by
  obtain ⟨ns, a, lf, u, h1, _⟩ := D
  exact fun e => by rw [e, h1] at h; cases h
/-- a new object leaves the draws -/
theorem Draw.upd {m : Nat} {p : Addr} {o : HO} (D : Draw H d l m) (h : H p = none) : Draw (L2.upd H p o) d l m := by
  obtain ⟨ns, a, lf, u, h1, h2, h3⟩ := D
  exact ⟨ns, a, lf, u, by rw [upd_ne (ne_of_none h1 h)]; exact h1, by rw [upd_ne (ne_of_none h2 h)]; exact h2, h3⟩
theorem Draw.nel {m : Nat} {p : Addr} (D : Draw H d l m) (h : H p = none) : p ≠ l := by
  obtain ⟨ns, a, lf, u, h1, h2, _⟩ := D
  exact fun e => by rw [e, h2] at h; cases h
/-- a change elsewhere leaves the draws -/
theorem Draw.mut {m : Nat} {p : Addr} {o : HO} (D : Draw H d l m) (n1 : p ≠ d) (n2 : p ≠ l) : Draw (L2.upd H p o) d l m := by
  obtain ⟨ns, a, lf, u, h1, h2, h3⟩ := D
  exact ⟨ns, a, lf, u, by rw [upd_ne n1.symm]; exact h1, by rw [upd_ne n2.symm]; exact h2, h3⟩
/-- heaps that know all that an elder one knew -/
theorem Draw.same {H' : Hp} {m : Nat} (D : Draw H d l m) (s : ∀ p o, H p = some o → H' p = some o) : Draw H' d l m := by
  obtain ⟨ns, a, lf, u, h1, h2, h3⟩ := D
  exact ⟨ns, a, lf, u, s _ _ h1, s _ _ h2, h3⟩
/-- the promise of _law_next -/
def spNext : Sp := fun vs H Q _ => ∃ (d l : Addr) (m : Nat) (b : Int), vs = [.ref d, .int b] ∧ Draw H d l m ∧ m < 1000000 ∧ 0 < b ∧ b < 1000000 ∧
  ∀ (r : Int) (H' : Hp), 0 ≤ r → r < b → Draw H' d l (m + 1) → Kp d H H' → (∀ p, H p = none → H' p = none) → Q (.int r) H'
/-- the promise of _law_mixed -/
def spMixed : Sp := fun vs H Q _ => ∃ c k : Int, vs = [.int c, .int k] ∧ 0 ≤ k ∧ k ≤ 1000000 ∧ ∀ r : Int, 0 ≤ r → r < 2147483648 → Q (.int r) H
/-- the promise of _law_begin -/
def spBegin (K : PySem.W.Frag) : Sp := fun vs H Q _ => ∃ (a : Addr) (ns : List Int), vs = [.ref a] ∧ SqL K H a (ns.map V.int) ∧ ns.length ≤ 63 ∧ ∀ (d l : Addr) (H' : Hp), H d = none → H l = none → Draw H' d l 0 → (∀ p o, H p = some o → H' p = some o) → Q (.ref d) H'
/-! the numbers -/
theorem mixA {c k : Int} (hk : 0 ≤ k) : 0 ≤ (c % 1000000007 + 7919 * k * k + 31 * k + 7) := by
  have h1 : 0 ≤ c % 1000000007 := Int.emod_nonneg _ (by decide)
  have h2 : 0 ≤ 7919 * k * k := Int.mul_nonneg (Int.mul_nonneg (by decide) hk) hk
  omega
theorem modB {x : Int} {n : Int} (hn : 0 < n) : 0 ≤ x % n ∧ x % n < n := ⟨Int.emod_nonneg _ (by omega), Int.emod_lt_of_pos _ hn⟩
end Dr
namespace L2
open PySem
section
variable {A B : Prop}
theorem g_ifd {p : Prop} [Decidable p] (h1 : p → A) (h2 : ¬ p → B) : if decide p = true then A else B := by
  by_cases h : p
  · rw [if_pos (decide_eq_true h)]; exact h1 h
  · rw [if_neg (fun z => h (of_decide_eq_true z))]; exact h2 h
theorem g_ifn {p : Prop} [Decidable p] (h1 : ¬ p → A) (h2 : p → B) : if (!decide p) = true then A else B := by
  by_cases h : p
  · rw [decide_eq_true h]; exact (iteF (h2 h))
  · rw [decide_eq_false h]; exact (iteT (h1 h))
end
section
variable {σ : St} {H : Hp} {Q : VK} {K : PySem.W.Frag}
theorem g_ixl {p : Addr} {xs : List V} {i : Int} {v : V} (h : SqL K H p xs) (e : atI xs i = some v) (q : Q v H) : rIxL K (.ref p) (.int i) H Q := ⟨p, xs, i, v, rfl, rfl, h, e, q⟩
theorem g_ixt {p : Addr} {xs : List V} {i : Int} {v : V} (h : SqT K H p xs) (e : atI xs i = some v) (q : Q v H) : rIxT K (.ref p) (.int i) H Q := ⟨p, xs, i, v, rfl, rfl, h, e, q⟩
theorem g_dgets {d : Addr} {y v : V} {N : V → Prop} (h : DGet H d y (some v)) (q : N v) : ∃ a v1, V.ref d = .ref a ∧ DGet H a y (some v1) ∧ N v1 := ⟨d, v, rfl, h, q⟩
theorem g_dputs {d : Addr} {y v : V} {H' : Hp} {N : Hp → Prop} (h : DPut H d y v H') (q : N H') : ∃ a H4, V.ref d = .ref a ∧ DPut H a y v H4 ∧ N H4 := ⟨d, H', rfl, h, q⟩
end
section
variable {X : Cx} {x : Str} {pos : Pos} {z : Str} {i : Int} {t : Tok} {n : String}
theorem pe_gs (hg : Gl X x) (hm : X.mg x = some (.str z t)) (hdb : (x == ("__debug__" : Str)) = false := by decide) : PE X (.Name x pos) (tC (.str z)) := pe_glob (v := .str z) hg hm ⟨t, rfl⟩ hdb
theorem pe_gi (hg : Gl X x) (hm : X.mg x = some (.int i t)) (hdb : (x == ("__debug__" : Str)) = false := by decide) : PE X (.Name x pos) (tC (.int i)) := pe_glob (v := .int i) hg hm ⟨t, rfl⟩ hdb
theorem pe_ty (hg : Gl X x) (hm : X.mg x = none) (hv : bootBuiltins x = some (.type n)) (hn : x ≠ "__name__" := by decide) (hdb : (x == ("__debug__" : Str)) = false := by decide) : PE X (.Name x pos) (tC (.ty n)) := pe_bltn (v := .ty n) hg hm hv rfl hn hdb
end
/-! names for readings that have none -/
section
variable {X : Cx} {H : Hp} {Q : VK} {K : PySem.W.Frag} {σ : St} {ta tb : TE}
def rLen1 (K : PySem.W.Frag) : List V → Hp → VK → Prop := fun xs H Q => ∃ p ys, xs = [.ref p] ∧ (SqL K H p ys ∨ SqT K H p ys) ∧ Q (.int ys.length) H
theorem call_len1 : CallR X (.builtin "len") (rLen1 X.K) := call_len_seq
theorem g_len {p : Addr} {ys : List V} (h : SqL K H p ys) (q : Q (.int ys.length) H) : rLen1 K [.ref p] H Q := ⟨p, ys, rfl, Or.inl h, q⟩
theorem g_lent {p : Addr} {ys : List V} (h : SqT K H p ys) (q : Q (.int ys.length) H) : rLen1 K [.ref p] H Q := ⟨p, ys, rfl, Or.inr h, q⟩
def rLenZ : List V → Hp → VK → Prop := fun xs H Q => ∃ z, xs = [.str z] ∧ z.length ≤ sizeLine ∧ Q (.int z.length) H
theorem call_lenZ : CallR X (.builtin "len") rLenZ := call_len_str
theorem g_lenz {z : Str} (h : z.length ≤ sizeLine) (q : Q (.int z.length) H) : rLenZ [.str z] H Q := ⟨z, rfl, h, q⟩
def rMin1 : List V → Hp → VK → Prop := fun xs H Q => ∃ i j, xs = [.int i, .int j] ∧ Q (.int (if j < i then j else i)) H
theorem call_min1 (hc : X.calm = true) : CallR X (.builtin "min") rMin1 := call_min2 hc
theorem g_min {i j : Int} (q : Q (.int (if j < i then j else i)) H) : rMin1 [.int i, .int j] H Q := ⟨i, j, rfl, q⟩
def rMax1 : List V → Hp → VK → Prop := fun xs H Q => ∃ i j, xs = [.int i, .int j] ∧ Q (.int (if j > i then j else i)) H
theorem call_max1 (hc : X.calm = true) : CallR X (.builtin "max") rMax1 := call_max2 hc
theorem g_max {i j : Int} (q : Q (.int (if j > i then j else i)) H) : rMax1 [.int i, .int j] H Q := ⟨i, j, rfl, q⟩
def rOrd1 : List V → Hp → VK → Prop := fun xs H Q => ∃ x, xs = [.str x] ∧ x.length = 1 ∧ Q (.int (x.cps.getD 0 0 : Nat)) H
theorem call_ord1 : CallR X (.builtin "ord") rOrd1 := call_ord
theorem g_ord {c : Nat} (q : Q (.int (c : Nat)) H) : rOrd1 [.str ⟨#[c]⟩] H Q := ⟨_, rfl, rfl, q⟩
def rCatZ : R2 := fun x y H Q => ∃ i j, x = .str i ∧ y = .str j ∧ i.length + j.length ≤ sizeLine ∧ Q (.str (i ++ j)) H
theorem op_addZ : OpR X (binaryOp .Add) rCatZ := op_add_str
theorem g_addz {i j : Str} (h : i.length + j.length ≤ sizeLine) (q : Q (.str (i ++ j)) H) : rCatZ (.str i) (.str j) H Q := ⟨i, j, rfl, rfl, h, q⟩
def rLtZ : R2 := fun x y H Q => ∃ i j, x = .str i ∧ y = .str j ∧ Q (.bl (decide (i.cps.toList < j.cps.toList))) H
theorem op_ltZ : OpR X (compareOp .Lt) rLtZ := op_lt_str
theorem g_ltz {i j : Str} (q : Q (.bl (decide (i.cps.toList < j.cps.toList))) H) : rLtZ (.str i) (.str j) H Q := ⟨i, j, rfl, rfl, q⟩
theorem g_isn {x : V} (q : Q (.bl (decide (x = .non))) H) : rIsN x .non H Q := ⟨rfl, q⟩
theorem g_notn {x : V} (q : Q (.bl (!decide (x = .non))) H) : rNotN x .non H Q := ⟨rfl, q⟩
theorem g_inS {c : Nat} {z : Str} (q : Q (.bl (decide (c ∈ z.cps.toList))) H) : rInS (.str ⟨#[c]⟩) (.str z) H Q := ⟨c, z, rfl, rfl, q⟩
theorem g_notInS {c : Nat} {z : Str} (q : Q (.bl (!decide (c ∈ z.cps.toList))) H) : rNotInS (.str ⟨#[c]⟩) (.str z) H Q := ⟨c, z, rfl, rfl, q⟩
theorem g_ixz {z : Str} {i : Int} {c : Nat} (h : z.length ≤ sizeLine) (e : atI z.cps.toList i = some c) (q : Q (.str ⟨#[c]⟩) H) : rIxS (.str z) (.int i) H Q := ⟨z, i, c, rfl, rfl, h, e, q⟩
theorem g_isi {x c : V} {t u : Value} {b : Bool} (k : ClsV c u) (ty : TyX K H x t) (e : PySem.W.kitOne K t u = some b) (q : Q (.bl b) H) : rIsi K [x, c] H Q := ⟨x, c, t, u, b, rfl, k, ty, e, q⟩
theorem g_all {a : Addr} {bs : List Bool} (h : SqL K H a (bs.map V.bl)) (q : Q (.bl (bs.all id)) H) : rAll K [.ref a] H Q := ⟨a, bs, rfl, h, q⟩
theorem g_any {a : Addr} {bs : List Bool} (h : SqL K H a (bs.map V.bl)) (q : Q (.bl (bs.any id)) H) : rAny K [.ref a] H Q := ⟨a, bs, rfl, h, q⟩
theorem g_cats {l b : Addr} {xs zs : List V} (h1 : SqL K H l xs) (h2 : SqL K H b zs) (h3 : xs.length + zs.length ≤ sizeLine) (q : ∀ p, H p = none → Q (.ref p) (upd H p (.lst (xs ++ zs)))) : rCatS K (.ref l) (.ref b) H Q := ⟨l, b, xs, zs, rfl, rfl, h1, h2, h3, q⟩
theorem g_eqd {x y : V} {d e : PyData} (h1 : Dp K H x d) (h2 : Dp K H y e) (s1 : SeqAt.shaped d = true) (s2 : SeqAt.shaped e = true) (q : Q (.bl (PyData.eqv d e)) H) : rEqD K x y H Q := ⟨d, e, h1, h2, s1, s2, q⟩
theorem g_ned {x y : V} {d e : PyData} (h1 : Dp K H x d) (h2 : Dp K H y e) (s1 : SeqAt.shaped d = true) (s2 : SeqAt.shaped e = true) (q : Q (.bl (!PyData.eqv d e)) H) : rNeD K x y H Q := ⟨d, e, h1, h2, s1, s2, q⟩
theorem g_sl {tl th : TO} {r : V → Option Int → Option Int → Hp → VK → Prop} (h : ta σ H fun x H1 => tl σ H1 fun l H2 => th σ H2 fun u H3 => r x l u H3 Q) : tSl r ta tl th σ H Q := h
theorem g_nop {Q : Option Int → Hp → Prop} (h : Q none H) : tNoPart σ H Q := h
theorem g_part {Q : Option Int → Hp → Prop} (h : ta σ H fun x H1 => ∃ i, x = .int i ∧ Q (some i) H1) : tPart ta σ H Q := h
theorem g_int {i : Int} {N : Int → Prop} (q : N i) : ∃ j, V.int i = .int j ∧ N j := ⟨i, rfl, q⟩
theorem g_slz {z : Str} {lo hi : Option Int} (h : z.length ≤ sizeLine) (q : Q (.str (cutS z lo hi)) H) : rSlS (.str z) lo hi H Q := ⟨z, rfl, h, q⟩
theorem g_m1 {r : V → List V → Hp → VK → Prop} (h : ta σ H fun x H1 => (∃ a, x = .str a) ∧ tb σ H1 fun y H2 => r x [y] H2 Q) : tM1 r ta tb σ H Q := h
theorem g_m0 {r : V → List V → Hp → VK → Prop} (h : ta σ H fun x H1 => (∃ a, x = .str a) ∧ r x [] H1 Q) : tM0 r ta σ H Q := h
theorem g_isz {z : Str} {N : Prop} (h : N) : (∃ a, V.str z = .str a) ∧ N := ⟨⟨z, rfl⟩, h⟩
def rJoinV (K : PySem.W.Frag) : V → List V → Hp → VK → Prop := fun x xs H Q => ∃ a p, ∃ ys : List Str, x = .str a ∧ xs = [.ref p] ∧ (SqL K H p (ys.map V.str) ∨ SqT K H p (ys.map V.str)) ∧ (ys.map (·.length)).sum + ys.length * a.length ≤ 16777216 ∧ Q (.str (Txt.join a ys)) H
theorem mt_joinV : MtR X "str.join" (rJoinV X.K) := mt_join
theorem g_join {a : Str} {p : Addr} {ys : List Str} (h : SqL K H p (ys.map V.str)) (hs : (ys.map (·.length)).sum + ys.length * a.length ≤ 16777216) (q : Q (.str (Txt.join a ys)) H) : rJoinV K (.str a) [.ref p] H Q := ⟨a, p, ys, rfl, rfl, Or.inl h, hs, q⟩
def rUpV : V → List V → Hp → VK → Prop := fun x xs H Q => ∃ a, x = .str a ∧ xs = [] ∧ a.length ≤ 5592405 ∧ Q (.str (Txt.upper a)) H
theorem mt_upV : MtR X "str.upper" rUpV := mt_upper
theorem g_up {a : Str} (h : a.length ≤ 5592405) (q : Q (.str (Txt.upper a)) H) : rUpV (.str a) [] H Q := ⟨a, rfl, rfl, h, q⟩
theorem g_bm {T : String} {r : V → List V → Hp → VK → Prop} {tr : TA} (h : ta σ H fun x H1 => tyV K T x H1 ∧ tr σ H1 fun xs H2 => r x xs H2 Q) : tBM K T r ta tr σ H Q := h
theorem g_append {l : Addr} {xs : List V} {y : V} (h : H l = some (.lst xs)) (hs : xs.length < sizeLine) (q : Q .non (upd H l (.lst (xs ++ [y])))) : rAppend (.ref l) [y] H Q := ⟨l, xs, y, rfl, rfl, h, hs, q⟩
theorem ty_list {l : Addr} {xs : List V} (h : H l = some (.lst xs)) : tyV K "list" (.ref l) H := Or.inl ⟨rfl, _, SqL.of h⟩
end
section
variable {σ : St} {H : Hp} {Q : VK} {ta tb : TE}
theorem g_pcons {r : List (TE × TE)} {Q : List (V × V) → Hp → Prop} (h : ta σ H fun x H1 => tb σ H1 fun y H2 => tPairs r σ H2 fun ps H3 => Q ((x, y) :: ps) H3) : tPairs ((ta, tb) :: r) σ H Q := h
theorem g_yes {Q : Bool → Hp → Prop} (h : Q true H) : tYes σ H Q := h
theorem g_pnil {Q : List (V × V) → Hp → Prop} (h : Q [] H) : tPairs [] σ H Q := h
theorem g_disp {trs : List (TE × TE)} (h : ∀ p, H p = none → tPairs trs σ (upd H p (.dK [])) fun ps H2 => H2 p = some (.dK []) ∧ ∃ kvs : List (Key × V), ps = kvs.map (fun kv => (kV kv.1, kv.2)) ∧ kvs.length ≤ 15 ∧ Q (.ref p) (upd H2 p (.dK (mergeK [] kvs)))) : tDisp trs σ H Q := h
end
theorem same_new {H : Hp} {p : Addr} {o : HO} (h : H p = none) : Same H (upd H p o) := fun b x e => by
  rw [upd_ne (ne_of_none e h)]
  exact e
theorem Same.sqt {K : PySem.W.Frag} {H H' : Hp} {a : Addr} {xs : List V} (e : Same H H') (h : SqT K H a xs) : SqT K H' a xs := by
  rcases h with (h | ⟨o, h⟩) | h
  · exact .inl (.inl (e _ _ h))
  · exact .inl (.inr ⟨o, e _ _ h⟩)
  · exact .inr h
theorem Same.mut {H H1 : Hp} {p : Addr} {o : HO} (s : Same H H1) (h : H p = none) : Same H (upd H1 p o) := fun b x e => by
  rw [upd_ne (ne_of_none e h)]
  exact s b x e
/-- an item of a list of ints -/
theorem atI_int {ns : List Int} {i : Int} (h0 : 0 ≤ i) (h1 : i < ns.length) : ∃ c, atI (ns.map V.int) i = some (.int c) := by
  have hi : i.toNat < ns.length := by omega
  refine ⟨ns[i.toNat], ?_⟩
  have e := atI_nat (xs := ns.map V.int) (j := i.toNat) (v := V.int ns[i.toNat]) (by rw [List.getElem?_map, List.getElem?_eq_getElem hi]; rfl)
  rw [Int.toNat_of_nonneg h0] at e
  exact e
end L2
namespace L2
open PySem
/-! ### any object that a law hands in -/
/-- the kinds of objects: what is needed of them -/
inductive AnyO (H : Hp) : V → Prop where
  | non : AnyO H .non
  | bl (b : Bool) : AnyO H (.bl b)
  | int (i : Int) : AnyO H (.int i)
  | str (s : Str) (h : s.length ≤ 10000) (h2 : PyData.strOk s = true) : AnyO H (.str s)
  | lst {a : Addr} {xs : List V} (h : H a = some (.lst xs)) : AnyO H (.ref a)
  | tup {a : Addr} {xs : List V} (h : H a = some (.tup xs)) : AnyO H (.ref a)
  | dic {a : Addr} {kvs : List (Key × V)} (h : H a = some (.dK kvs)) : AnyO H (.ref a)
theorem AnyO.same {H H' : Hp} {x : V} (a : AnyO H x) (s : Same H H') : AnyO H' x := by
  cases a with
  | non => exact .non
  | bl b => exact .bl b
  | int i => exact .int i
  | str z h h2 => exact .str z h h2
  | lst h => exact .lst (s _ _ h)
  | tup h => exact .tup (s _ _ h)
  | dic h => exact .dic (s _ _ h)
def isIntV : V → Bool | .int _ => true | .bl _ => true | _ => false
def isBlV : V → Bool | .bl _ => true | _ => false
def isStrV : V → Bool | .str _ => true | _ => false
theorem AnyO.kit {K : PySem.W.Frag} {H : Hp} {x : V} (a : AnyO H x) : ∃ t, TyX K H x t ∧ PySem.W.kitOne K t (.type "int") = some (isIntV x) ∧ PySem.W.kitOne K t (.type "bool") = some (isBlV x) ∧ PySem.W.kitOne K t (.type "str") = some (isStrV x) := by
  cases a with
  | non => exact ⟨_, .base .non, kit_ty (r := false) (by decide +kernel), kit_ty (r := false) (by decide +kernel), kit_ty (r := false) (by decide +kernel)⟩
  | bl b => exact ⟨_, .base (.bl b), kit_ty (r := true) (by decide +kernel), kit_ty (r := true) (by decide +kernel), kit_ty (r := false) (by decide +kernel)⟩
  | int i => exact ⟨_, .base (.int i), kit_ty (r := true) (by decide +kernel), kit_ty (r := false) (by decide +kernel), kit_ty (r := false) (by decide +kernel)⟩
  | str z h h2 => exact ⟨_, .base (.str z), kit_ty (r := false) (by decide +kernel), kit_ty (r := false) (by decide +kernel), kit_ty (r := true) (by decide +kernel)⟩
  | lst h => exact ⟨_, .base (.lst h), kit_ty (r := false) (by decide +kernel), kit_ty (r := false) (by decide +kernel), kit_ty (r := false) (by decide +kernel)⟩
  | tup h => exact ⟨_, .base (.tup h), kit_ty (r := false) (by decide +kernel), kit_ty (r := false) (by decide +kernel), kit_ty (r := false) (by decide +kernel)⟩
  | dic h => exact ⟨_, .base (.dK h), kit_ty (r := false) (by decide +kernel), kit_ty (r := false) (by decide +kernel), kit_ty (r := false) (by decide +kernel)⟩
section
variable {X : Cx} {H : Hp} {Q : VK} {K : PySem.W.Frag} {σ : St} {ta tb te : TE}
theorem g_isint {x : V} (a : AnyO H x) (q : Q (.bl (isIntV x)) H) : rIsi K [x, .ty "int"] H Q := by
  obtain ⟨t, h1, h2, h3, h4⟩ := a.kit (K := K)
  exact g_isi (.ty _) h1 h2 q
theorem g_isbl {x : V} (a : AnyO H x) (q : Q (.bl (isBlV x)) H) : rIsi K [x, .ty "bool"] H Q := by
  obtain ⟨t, h1, h2, h3, h4⟩ := a.kit (K := K)
  exact g_isi (.ty _) h1 h3 q
theorem g_isstr {x : V} (a : AnyO H x) (q : Q (.bl (isStrV x)) H) : rIsi K [x, .ty "str"] H Q := by
  obtain ⟨t, h1, h2, h3, h4⟩ := a.kit (K := K)
  exact g_isi (.ty _) h1 h4 q
def rLeZ : R2 := fun x y H Q => ∃ i j, x = .str i ∧ y = .str j ∧ Q (.bl (!decide (j.cps.toList < i.cps.toList))) H
theorem op_leZ : OpR X (compareOp .LtE) rLeZ := op_le_str
theorem g_lez {i j : Str} (q : Q (.bl (!decide (j.cps.toList < i.cps.toList))) H) : rLeZ (.str i) (.str j) H Q := ⟨i, j, rfl, rfl, q⟩
/-! ### comprehensions over the signs of a text whose steps make nothing -/
theorem g_lc {wi : TI} {g : TG} {tt : TT} {vs : List Nat} (h : wi σ H fun J H1 => ∀ D, H1 D = none → ∃ W : Nat → Nat → Hp → Prop, (∃ m, W 0 m (upd H1 D (.lst []))) ∧ ∀ i m H, W i m H →
  (J.stop i H ∧ Q (.ref D) H) ∨ (J.go i H ∧ ∃ Nx : Hp → Prop, (∀ H', Nx H' → ∃ m', m' < m ∧ W (i + 1) m' H') ∧ ∀ x H', J.yld i H x H' → g x (wipe σ vs) H' fun σ2 H2 => wipe σ2 vs = wipe σ vs ∧ tt σ2 H2 fun b H3 =>
    if b = true then te σ2 H3 fun y H4 => ∃ acc, H4 D = some (.lst acc) ∧ acc.length < sizeLine ∧ Nx (upd H4 D (.lst (acc ++ [y]))) else Nx H3)) : tLc wi g tt te vs σ H Q := h
theorem lc_str {x : Str} {g : TG} {tt : TT} {te : TE} {vs : List Nat} {σ : St} {H1 : Hp} {D : Addr} {Qd : Hp → Prop} (p : Nat → Bool) (f : Nat → V) (hz : x.length ≤ 100000)
    (hs : ∀ c acc (Nx : Hp → Prop), c ∈ x.cps.toList → (p c = true → ∀ H4 : Hp, H4 D = some (.lst acc) → H4 = upd H1 D (.lst acc) → ∃ acc', H4 D = some (.lst acc') ∧ acc'.length < sizeLine ∧ Nx (upd H4 D (.lst (acc' ++ [f c])))) → (p c = false → Nx (upd H1 D (.lst acc))) →
      g (.str ⟨#[c]⟩) (wipe σ vs) (upd H1 D (.lst acc)) fun σ2 H2 => wipe σ2 vs = wipe σ vs ∧ tt σ2 H2 fun b H3 => if b = true then te σ2 H3 fun y H4 => ∃ acc, H4 D = some (.lst acc) ∧ acc.length < sizeLine ∧ Nx (upd H4 D (.lst (acc ++ [y]))) else Nx H3)
    (hd : Qd (upd H1 D (.lst ((x.cps.toList.filter p).map f)))) :
    ∃ W : Nat → Nat → Hp → Prop, (∃ m, W 0 m (upd H1 D (.lst []))) ∧ ∀ i m H, W i m H →
      ((Its x).stop i H ∧ Qd H) ∨ ((Its x).go i H ∧ ∃ Nx : Hp → Prop, (∀ H', Nx H' → ∃ m', m' < m ∧ W (i + 1) m' H') ∧ ∀ y H', (Its x).yld i H y H' → g y (wipe σ vs) H' fun σ2 H2 => wipe σ2 vs = wipe σ vs ∧ tt σ2 H2 fun b H3 =>
        if b = true then te σ2 H3 fun y H4 => ∃ acc, H4 D = some (.lst acc) ∧ acc.length < sizeLine ∧ Nx (upd H4 D (.lst (acc ++ [y]))) else Nx H3) := by
  refine ⟨fun i m H => m = x.cps.size - i ∧ i ≤ x.cps.size ∧ H = upd H1 D (.lst (((x.cps.toList.take i).filter p).map f)), ⟨x.cps.size, by simp, Nat.zero_le _, rfl⟩, ?_⟩
  rintro i m H ⟨rfl, hi, rfl⟩
  by_cases hlt : i < x.cps.size
  · refine Or.inr ⟨hlt, fun H => H = upd H1 D (.lst (((x.cps.toList.take (i + 1)).filter p).map f)), fun H' e => ⟨x.cps.size - (i + 1), by omega, rfl, by omega, e⟩, ?_⟩
    rintro y H' ⟨rfl, c, hc, rfl⟩
    have hl : x.cps.toList[i]? = some c := by rw [Array.getElem?_toList]; exact hc
    have ht : x.cps.toList.take (i + 1) = x.cps.toList.take i ++ [c] := by rw [List.take_add_one, hl]; rfl
    refine hs c _ _ (List.mem_of_getElem? hl) (fun hp H4 e1 e2 => ⟨_, e1, ?_, ?_⟩) (fun hp => ?_)
    · rw [List.length_map]
      refine Nat.lt_of_le_of_lt (List.length_filter_le _ _) ?_
      rw [List.length_take]
      exact Nat.lt_of_le_of_lt (Nat.min_le_right _ _) (Nat.lt_of_le_of_lt (show x.cps.toList.length ≤ 100000 from hz) (by decide))
    · rw [e2, upd_upd, ht, List.filter_append, List.map_append]
      simp [hp]
    · rw [ht, List.filter_append]
      simp [hp]
  · have e : i = x.cps.size := by omega
    subst e
    refine Or.inl ⟨Nat.le_refl _, ?_⟩
    have et : x.cps.toList.take x.cps.size = x.cps.toList := List.take_of_length_le (by simp)
    rw [et]
    exact hd
end
end L2
namespace Mk
open PySem L2
/-! the marks: what the functions are worth -/
def btw (x : V) (lo hi : Int) : Bool := match x with
  | .int i => decide (lo ≤ i) && decide (i ≤ hi)
  | _ => false
def consists (x : V) (m : Str) : Bool := match x with
  | .str s => s.cps.toList.all fun c => decide (c ∈ m.cps.toList)
  | _ => false
def MARKS : Str := " !\"#$&'()*+,-./0123456789:;<=>?@ABCDEFGHIJKLMNOPQRSTUVWXYZ[\\]^_`abcdefghijklmnopqrstuvwxyz{|}~"
def LETS : Str := "ABCDEFGHIJKLMNOPQRSTUVWXYZabcdefghijklmnopqrstuvwxyz"
def LADS : Str := "ABCDEFGHIJKLMNOPQRSTUVWXYZabcdefghijklmnopqrstuvwxyz0123456789"
def NOAT : Str := " ()<>,;:@\""
def isPlain (x : V) : Bool := btw x 32 126 && !decide (x = .int 37)
def isCode (x : V) : Bool := isPlain x || btw x 160 65535
def isBody (x : V) : Bool := consists x MARKS
def isRaw (x : V) : Bool := consists x (MARKS ++ ("\n" : Str))
def isLabel (x : V) : Bool := match x with
  | .str s => consists x (LADS ++ ("-" : Str)) && decide (1 ≤ s.length) && decide (s.length ≤ 20) && (match s.cps.toList with | c :: _ => decide (c ∈ LETS.cps.toList) | [] => false)
  | _ => false
def isAtom (x : V) : Bool := match x with
  | .str s => isBody x && decide (s ≠ "") && !(s.cps.toList.any fun c => decide (c ∈ NOAT.cps.toList))
  | _ => false
theorem int_of {x : V} (h1 : isIntV x = true) (h2 : isBlV x = false) : ∃ i, x = .int i := by
  cases x with
  | int i => exact ⟨i, rfl⟩
  | bl b => cases h2
  | _ => cases h1
theorem str_of {x : V} (h1 : isStrV x = true) : ∃ s, x = .str s := by
  cases x with
  | str s => exact ⟨s, rfl⟩
  | _ => cases h1
theorem btw_no {x : V} {lo hi : Int} (h : isIntV x = false) : btw x lo hi = false := by
  cases x with
  | int i => cases h
  | _ => rfl
theorem btw_bl {x : V} {lo hi : Int} (h : isBlV x = true) : btw x lo hi = false := by
  cases x with
  | bl i => rfl
  | _ => cases h
theorem btw_int {x : V} {lo hi : Int} (h : btw x lo hi = true) : ∃ i, x = .int i ∧ lo ≤ i ∧ i ≤ hi := by
  cases x with
  | int i =>
    have h' : (decide (lo ≤ i) && decide (i ≤ hi)) = true := h
    rw [Bool.and_eq_true] at h'
    exact ⟨i, rfl, of_decide_eq_true h'.1, of_decide_eq_true h'.2⟩
  | _ => cases h
theorem cons_no {x : V} {m : Str} (h : isStrV x = false) : consists x m = false := by
  cases x with
  | str i => cases h
  | _ => rfl
theorem str_len {H : Hp} {s : Str} (a : AnyO H (.str s)) : s.length ≤ 10000 := by
  cases a with
  | str _ h _ => exact h
theorem str_ok {H : Hp} {s : Str} (a : AnyO H (.str s)) : PyData.strOk s = true := by
  cases a with
  | str _ _ h => exact h
/-! the promises -/
def spBetween : Sp := fun vs H Q _ => ∃ (x : V) (lo hi : Int), vs = [x, .int lo, .int hi] ∧ AnyO H x ∧ Q (.bl (btw x lo hi)) H
def spCons : Sp := fun vs H Q _ => ∃ (x : V) (m : Str), vs = [x, .str m] ∧ AnyO H x ∧ ∀ H', Same H H' → Q (.bl (consists x m)) H'
/-- a test of one object -/
def spTest (f : V → Bool) : Sp := fun vs H Q _ => ∃ (x : V), vs = [x] ∧ AnyO H x ∧ ∀ H', Same H H' → Q (.bl (f x)) H'
end Mk
namespace Mk
open PySem L2
def spNum : Sp := fun vs H Q _ => ∃ (x : V), vs = [x] ∧ AnyO H x ∧ Q (.bl (isIntV x && !isBlV x)) H
end Mk
namespace L2
open PySem
theorem atI_all {xs : List V} {p : V → Bool} {i : Int} (ha : xs.all p = true) (h0 : 0 ≤ i) (h1 : i < xs.length) : ∃ v, atI xs i = some v ∧ p v = true := by
  have hi : i.toNat < xs.length := by omega
  refine ⟨xs[i.toNat], ?_, List.all_eq_true.mp ha _ (List.getElem_mem hi)⟩
  have e := atI_nat (xs := xs) (j := i.toNat) (List.getElem?_eq_getElem hi)
  rw [Int.toNat_of_nonneg h0] at e
  exact e
theorem atI_mem {xs : List V} {i : Int} (h0 : 0 ≤ i) (h1 : i < xs.length) : ∃ v, atI xs i = some v ∧ v ∈ xs := by
  have hi : i.toNat < xs.length := by omega
  refine ⟨xs[i.toNat], ?_, List.getElem_mem hi⟩
  have e := atI_nat (xs := xs) (j := i.toNat) (List.getElem?_eq_getElem hi)
  rw [Int.toNat_of_nonneg h0] at e
  exact e
def strLe (n : Nat) : V → Bool
  | .str s => decide (s.length ≤ n) && PyData.strOk s
  | _ => false
theorem strLe_of {n : Nat} {v : V} (h : strLe n v = true) : ∃ s, v = .str s ∧ s.length ≤ n ∧ PyData.strOk s = true := by
  cases v with
  | str s =>
    have h' : (decide (s.length ≤ n) && PyData.strOk s) = true := h
    rw [Bool.and_eq_true] at h'
    exact ⟨s, rfl, of_decide_eq_true h'.1, h'.2⟩
  | _ => cases h
def isI : V → Bool
  | .int _ => true
  | _ => false
theorem isI_of {v : V} (h : isI v = true) : ∃ i, v = .int i := by
  cases v with
  | int i => exact ⟨i, rfl⟩
  | _ => cases h
theorem len_app {a b : Str} : (a ++ b).length = a.length + b.length := by
  show (a.cps ++ b.cps).size = _
  rw [Array.size_append]
  rfl
/-- all of a written list -/
theorem all_mem {p : V → Prop} {xs : List V} (h : ∀ v ∈ xs, p v) {v : V} (hv : v ∈ xs) : p v := h v hv
theorem fm_cons {p : V → Prop} {x : V} {xs : List V} (h : p x) (hs : ∀ v ∈ xs, p v) : ∀ v ∈ x :: xs, p v := fun v hv => by
  rcases List.mem_cons.mp hv with e | e
  · rw [e]; exact h
  · exact hs v e
theorem fm_nil {p : V → Prop} : ∀ v ∈ ([] : List V), p v := fun _ h => nomatch h
section
variable {H : Hp} {Q : VK} {K : PySem.W.Frag} {σ : St} {ta tb te : TE} {D : Ends}
theorem g_pick (pr : V → Bool) {p : Addr} {xs : List V} {i : Int} (h : H p = some (.lst xs)) (h0 : 0 ≤ i) (h1 : i < xs.length) (ha : xs.all pr = true) (q : ∀ v, pr v = true → Q v H) : rIxL K (.ref p) (.int i) H Q := by
  obtain ⟨v, e, hv⟩ := atI_all ha h0 h1
  exact g_ixl (SqL.of h) e (q v hv)
theorem g_pickP {pr : V → Prop} {p : Addr} {xs : List V} {i : Int} (h : H p = some (.lst xs)) (h0 : 0 ≤ i) (h1 : i < xs.length) (ha : ∀ v ∈ xs, pr v) (q : ∀ v, pr v → Q v H) : rIxL K (.ref p) (.int i) H Q := by
  obtain ⟨v, e, hv⟩ := atI_mem h0 h1
  exact g_ixl (SqL.of h) e (q v (ha v hv))
theorem g_par {i j : Nat} {tr : TA} (h : tr σ H fun vs H1 => ∃ v w, vs = [v, w] ∧ D.nx ((σ.set i (some v)).set j (some w)) H1) : tPar i j tr D σ H := h
theorem g_two {v w : V} {N : V → V → Prop} (h : N v w) : ∃ v1 w1, [v, w] = [v1, w1] ∧ N v1 w1 := ⟨v, w, rfl, h⟩
theorem g_dnew (h : ∀ p, H p = none → Q (.ref p) (upd H p (.dK []))) : tDNewK σ H Q := h
theorem g_gtup {n : Nat} {t : TGs} {a : Addr} {xs : List V} {Q : St → Hp → Prop} (h : SqT K H a xs) (hn : xs.length = n) (q : t xs σ H Q) : gTup K n t (.ref a) σ H Q := ⟨a, xs, rfl, h, hn, q⟩
theorem g_gcons {t : TG} {u : TGs} {v : V} {r : List V} {Q : St → Hp → Prop} (h : t v σ H fun σ' H' => u r σ' H' Q) : gCons t u (v :: r) σ H Q := ⟨v, r, rfl, h⟩
theorem g_gnil {Q : St → Hp → Prop} (h : Q σ H) : gNil [] σ H Q := ⟨rfl, h⟩
theorem g_kw0 {sp : Sp} {n : Nat} {ix : List Nat} {E : XK} {tr : TA} (h : tr σ H fun vs H1 => vs.length = n ∧ sp (picked V.non ix vs) H1 Q E) : tKw0 sp n ix E tr σ H Q := h
theorem g_repr {a : Addr} {d : PyData} (h : Dp K H (.ref a) d) (h1 : d.showable = true) (h2 : d.hasDict = false) (h3 : d.depth ≤ 20) (h4 : d.shown.length ≤ sizeLine) (q : Q (.str d.shown) H) : rRepr K [.ref a] H Q := ⟨a, d, rfl, h, h1, h2, h3, h4, q⟩
end
end L2
namespace L2
open PySem
theorem ap_list (a b : Str) : (a ++ b).cps.toList = a.cps.toList ++ b.cps.toList := by
  show (a.cps ++ b.cps).toList = _
  rw [Array.toList_append]
theorem sj_list : ∀ ys : List Str, (Str.join ("" : Str) ys).cps.toList = (ys.map fun y => y.cps.toList).flatten
  | [] => rfl
  | [x] => by
    show x.cps.toList = _
    simp
  | x :: y :: r => by
    show ((x ++ ("" : Str)) ++ Str.join ("" : Str) (y :: r)).cps.toList = _
    rw [ap_list, ap_list, sj_list (y :: r)]
    show (x.cps.toList ++ []) ++ _ = _
    rw [List.append_nil]
    rfl
theorem join_list (ys : List Str) : (Txt.join ("" : Str) ys).cps.toList = (ys.map fun y => y.cps.toList).flatten := by
  rw [show Txt.join ("" : Str) ys = Str.join ("" : Str) ys from PySem.StrLaws.glued_eq_join _ ys, sj_list]
theorem len_list (z : Str) : z.length = z.cps.toList.length := by
  show z.cps.size = _
  rw [Array.length_toList]
theorem join_len {ys : List Str} {b : Nat} (h : ∀ y ∈ ys, y.length ≤ b) : (Txt.join ("" : Str) ys).length ≤ ys.length * b := by
  rw [len_list, join_list]
  induction ys with
  | nil => exact Nat.zero_le _
  | cons y r ih =>
    rw [List.map_cons, List.flatten_cons, List.length_append, List.length_cons, Nat.add_mul, Nat.one_mul, Nat.add_comm]
    exact Nat.add_le_add (ih fun z hz => h z (List.mem_cons_of_mem _ hz)) (by rw [← len_list]; exact h y List.mem_cons_self)
theorem sum_len {ys : List Str} {b : Nat} (h : ∀ y ∈ ys, y.length ≤ b) : (ys.map (·.length)).sum ≤ ys.length * b := by
  induction ys with
  | nil => exact Nat.zero_le _
  | cons y r ih =>
    rw [List.map_cons, List.sum_cons, List.length_cons, Nat.add_mul, Nat.one_mul, Nat.add_comm]
    exact Nat.add_le_add (ih fun z hz => h z (List.mem_cons_of_mem _ hz)) (h y List.mem_cons_self)
section
variable {H : Hp} {Q : VK} {K : PySem.W.Frag}
theorem g_pickz {z : Str} {i : Int} (h : z.length ≤ sizeLine) (h0 : 0 ≤ i) (h1 : i < z.length) (q : ∀ c, c ∈ z.cps.toList → Q (.str ⟨#[c]⟩) H) : rIxS (.str z) (.int i) H Q := by
  have hi : i.toNat < z.cps.toList.length := by rw [← len_list]; omega
  have e := atI_nat (xs := z.cps.toList) (j := i.toNat) (List.getElem?_eq_getElem hi)
  rw [Int.toNat_of_nonneg h0] at e
  exact g_ixz h e (q _ (List.getElem_mem hi))
end
end L2
namespace L2
theorem AnyO.kp {d : PySem.Addr} {H H' : Hp} {x : V} (a : AnyO H x) (k : Dr.Kp d H H') (n : x ≠ .ref d) : AnyO H' x := by
  cases a with
  | non => exact .non
  | bl b => exact .bl b
  | int i => exact .int i
  | str z h h2 => exact .str z h h2
  | lst h => exact .lst (k _ _ (fun e => n (by rw [e])) h)
  | tup h => exact .tup (k _ _ (fun e => n (by rw [e])) h)
  | dic h => exact .dic (k _ _ (fun e => n (by rw [e])) h)
end L2
namespace L2
open PySem
theorem for_str {x : Str} {g : TG} {tb : TS} {D : Ends} {σ : St} {H : Hp} (Pv : Nat → St → Hp → Prop) (h0 : Pv 0 σ H)
    (hs : ∀ i c σ H, x.cps.toList[i]? = some c → Pv i σ H → g (.str ⟨#[c]⟩) σ H fun σ2 H2 => tb { D with nx := Pv (i + 1), ct := Pv (i + 1), bk := D.nx } σ2 H2) (hd : ∀ σ H, Pv x.length σ H → D.nx σ H) :
    ∃ W : Nat → Nat → St → Hp → Prop, (∃ m, W 0 m σ H) ∧ ∀ i m σ H, W i m σ H → ((Its x).stop i H ∧ D.nx σ H) ∨ ((Its x).go i H ∧ ∃ N : St → Hp → Prop, (∀ σ' H', N σ' H' → ∃ m', m' < m ∧ W (i + 1) m' σ' H') ∧
      ∀ y H', (Its x).yld i H y H' → g y σ H' fun σ2 H2 => tb { D with nx := N, ct := N, bk := D.nx } σ2 H2) := by
  refine ⟨fun i m σ H => m = x.length - i ∧ i ≤ x.length ∧ Pv i σ H, ⟨x.length, by simp, Nat.zero_le _, h0⟩, ?_⟩
  rintro i m σ H ⟨rfl, hi, p⟩
  by_cases hlt : i < x.length
  · refine Or.inr ⟨hlt, Pv (i + 1), fun σ' H' p' => ⟨x.length - (i + 1), by omega, rfl, hlt, p'⟩, ?_⟩
    rintro y H' ⟨rfl, c, hc, rfl⟩
    exact hs i c σ _ (by rw [Array.getElem?_toList]; exact hc) p
  · have e : i = x.length := by omega
    subst e
    exact Or.inl ⟨Nat.le_refl _, hd σ H p⟩
theorem one_lt {a b : Nat} : (([a] : List Nat) < [b]) ↔ a < b := by
  constructor
  · intro h
    rcases List.cons_lt_cons_iff.mp h with h | ⟨_, h⟩
    · exact h
    · exact absurd h (List.lt_irrefl [])
  · intro h
    exact List.cons_lt_cons_iff.mpr (Or.inl h)
theorem len_pos {z : Str} (h : 1 ≤ z.length) : ∃ c r, z.cps.toList = c :: r := by
  rw [len_list] at h
  cases hq : z.cps.toList with
  | nil => rw [hq] at h; exact absurd h (by decide)
  | cons c r => exact ⟨c, r, rfl⟩
/-- data of a list of texts -/
theorem dp_strs {K : PySem.W.Frag} {H : Hp} : ∀ ys : List Str, DpAll K H (ys.map V.str) (ys.map PyData.str)
  | [] => .nil
  | y :: r => .cons (.str y) (dp_strs r)
theorem dp_bools {K : PySem.W.Frag} {H : Hp} : ∀ bs : List Bool, DpAll K H (bs.map V.bl) (bs.map PyData.bool)
  | [] => .nil
  | b :: r => .cons (.bl b) (dp_bools r)
theorem eqv_nil (ds : List PyData) : PyData.eqv (.list ds) (.list []) = ds.isEmpty := by
  cases ds with
  | nil => rfl
  | cons d r => rfl
end L2
namespace L2
open PySem
theorem cla_strs : ∀ ys : List Str, (∀ y ∈ ys, PyData.strOk y = true) → PyData.canLayAll0 (ys.map PyData.str) = true
  | [], _ => by simp only [List.map_nil, PyData.canLayAll0]
  | y :: r, h => by
    simp only [List.map_cons, PyData.canLayAll0, PyData.canLay0, Bool.and_eq_true]
    exact ⟨h y List.mem_cons_self, cla_strs r fun z hz => h z (List.mem_cons_of_mem _ hz)⟩
theorem dep_strs : ∀ ys : List Str, PyData.depthAll (ys.map PyData.str) ≤ 1
  | [] => by simp only [List.map_nil, PyData.depthAll]; decide
  | y :: r => by
    have := dep_strs r
    simp only [List.map_cons, PyData.depthAll, PyData.depth]
    omega
theorem shaped_strs {ys : List Str} (h : ∀ y ∈ ys, PyData.strOk y = true) : SeqAt.shaped (.list (ys.map PyData.str)) = true := by
  have h1 := dep_strs ys
  have h2 : PyData.depth (.list (ys.map PyData.str)) ≤ 64 := by simp only [PyData.depth]; omega
  show (PyData.canLay0 _ && decide (PyData.depth _ ≤ 64)) = true
  rw [Bool.and_eq_true]
  refine ⟨?_, decide_eq_true h2⟩
  simp only [PyData.canLay0]
  exact cla_strs ys h
theorem sok_app {a b : Str} (ha : PyData.strOk a = true) (hb : PyData.strOk b = true) : PyData.strOk (a ++ b) = true := by
  show (a.cps ++ b.cps).all _ = true
  rw [Array.all_append, Bool.and_eq_true]
  exact ⟨ha, hb⟩
theorem sok_iff {a : Str} : PyData.strOk a = true ↔ ∀ c ∈ a.cps.toList, c < 0x110000 := by
  show a.cps.all _ = true ↔ _
  rw [Array.all_eq_true_iff_forall_mem]
  constructor
  · intro h c hc
    exact of_decide_eq_true (h c (by simpa using hc))
  · intro h c hc
    exact decide_eq_true (h c (by simpa using hc))
theorem sok_join {ys : List Str} (h : ∀ y ∈ ys, PyData.strOk y = true) : PyData.strOk (Txt.join ("" : Str) ys) = true := by
  rw [sok_iff, join_list]
  intro c hc
  obtain ⟨l, hl, hc⟩ := List.mem_flatten.mp hc
  obtain ⟨y, hy, rfl⟩ := List.mem_map.mp hl
  exact sok_iff.mp (h y hy) c hc
theorem sok_cut {z : Str} (h : PyData.strOk z = true) (lo hi : Option Int) : PyData.strOk (cutS z lo hi) = true := by
  rw [sok_iff]
  intro c hc
  have hc' : c ∈ (z.cps.toList.drop (HT.sIx z.length 0 lo)).take (HT.sIx z.length z.length hi - HT.sIx z.length 0 lo) := by simpa [cutS] using hc
  exact sok_iff.mp h c (List.mem_of_mem_drop (List.mem_of_mem_take hc'))
theorem sok_mem {z : Str} {c : Nat} (h : PyData.strOk z = true) (hc : c ∈ z.cps.toList) : PyData.strOk ⟨#[c]⟩ = true := by
  rw [sok_iff]
  intro d hd
  have : d = c := by simpa using hd
  rw [this]
  exact sok_iff.mp h c hc
end L2
namespace L2
open PySem
theorem g_ifnn {A B : Prop} {p : Prop} [Decidable p] (h1 : p → A) (h2 : ¬ p → B) : if (!!decide p) = true then A else B := by
  rw [Bool.not_not]
  exact g_ifd h1 h2
theorem lt_sp {c : Nat} : (⟨#[c]⟩ : Str).cps.toList < (" " : Str).cps.toList ↔ c < 32 := by
  rw [show (" " : Str).cps.toList = [32] by decide +kernel]
  exact one_lt
theorem lt_tl {c : Nat} : ("~" : Str).cps.toList < (⟨#[c]⟩ : Str).cps.toList ↔ 126 < c := by
  rw [show ("~" : Str).cps.toList = [126] by decide +kernel]
  exact one_lt
end L2
namespace K02
open PySem L2
local macro_rules | `(tactic| walk_at "g1") => `(tactic| first
  | ((with_reducible show tSeq _ _ _ _ _); refine g_seq ?_)
  | ((with_reducible show tAsg _ _ _ _ _); refine g_asg ?_)
  | ((with_reducible show gName _ _ _ _ _); refine g_name ?_)
  | ((with_reducible show tVar _ _ _ _); refine g_var rfl ?_)
  | ((with_reducible show tC _ _ _ _); refine g_c ?_)
  | ((with_reducible show tOp _ _ _ _ _ _); refine g_op ?_)
  | ((with_reducible show tUn _ _ _ _ _); refine g_un ?_)
  | ((with_reducible show rI0 _ _ _ _ _); refine g_I0 ?_)
  | ((with_reducible show rI _ _ _ _ _ _); refine g_I (by walk_at "side") ?_)
  | ((with_reducible show rU _ _ _ _); refine g_U ?_)
  | ((with_reducible show rEq _ _ _ _); refine g_eq rfl ?_)
  | ((with_reducible show rNe _ _ _ _); refine g_ne rfl ?_)
  | ((with_reducible show tCons _ _ _ _ _); refine g_tcons ?_)
  | ((with_reducible show tNil _ _ _); refine g_tnil ?_)
  | ((with_reducible show tCall _ _ _ _ _ _ _); refine g_call ?_)
  | ((with_reducible show tCB _ _ _ _ _); refine g_cb ?_)
  | ((with_reducible show tTup _ _ _ _); refine g_tup ?_)
  | ((with_reducible show tLst _ _ _ _); refine g_lst ?_)
  | ((with_reducible show tRet _ _ _ _); refine g_ret ?_)
  | ((with_reducible show tDrop _ _ _ _); refine g_drop ?_)
  | ((with_reducible show tNext _ _ _); refine g_next ?_)
  | ((with_reducible show tCont _ _ _); refine g_cont ?_)
  | ((with_reducible show tBreak _ _ _); refine g_break ?_)
  | ((with_reducible show tIfS _ _ _ _ _ _); refine g_ifs ?_)
  | ((with_reducible show tIf _ _ _ _ _ _); refine g_ife ?_)
  | ((with_reducible show tTest _ _ _ _); refine g_test ?_)
  | ((with_reducible show tB _ _ _ _); refine g_tb ?_)
  | ((with_reducible show tAnd _ _ _ _ _); refine g_and ?_)
  | ((with_reducible show tOr _ _ _ _ _); refine g_or ?_)
  | ((with_reducible show tNot _ _ _ _); refine g_not ?_)
  | ((with_reducible show tAndV _ _ _ _ _); refine g_andV ?_)
  | ((with_reducible show tOrV _ _ _ _ _); refine g_orV ?_)
  | ((with_reducible show tNotV _ _ _ _); refine g_notV ?_)
  | ((with_reducible show tChain _ _ _ _ _ _ _ _); refine g_chain ?_)
  | ((with_reducible show tDGet _ _ _ _ _); refine g_dget ?_)
  | ((with_reducible show sDPut _ _ _ _ _ _); refine g_dput ?_)
  | ((with_reducible show tFor _ _ _ _ _ _); refine g_for ?_)
  | ((with_reducible show tSl _ _ _ _ _ _ _); refine g_sl ?_)
  | ((with_reducible show tNoPart _ _ _); refine g_nop ?_)
  | ((with_reducible show tPart _ _ _ _); refine g_part ?_)
  | ((with_reducible show tM1 _ _ _ _ _ _); refine g_m1 ?_)
  | ((with_reducible show tM0 _ _ _ _ _); refine g_m0 ?_)
  | ((with_reducible show tBM _ _ _ _ _ _ _ _); refine g_bm ?_)
  | ((with_reducible show rMin1 _ _ _); refine g_min ?_)
  | ((with_reducible show rMax1 _ _ _); refine g_max ?_)
  | ((with_reducible show rOrd1 _ _ _); refine g_ord ?_)
  | ((with_reducible show rLtZ _ _ _ _); refine g_ltz ?_)
  | ((with_reducible show rIsN _ _ _ _); refine g_isn ?_)
  | ((with_reducible show rNotN _ _ _ _); refine g_notn ?_)
  | ((with_reducible show rInS _ _ _ _); refine g_inS ?_)
  | ((with_reducible show rNotInS _ _ _ _); refine g_notInS ?_)
  | ((with_reducible show iList _ _ _ _ _); refine g_ilist ?_)
  | ((with_reducible show iStr _ _ _ _); refine g_istr ?_)
  | ((with_reducible show iRng1 _ _ _ _); refine g_irng1 ?_)
  | ((with_reducible show tDisp _ _ _ _); refine g_disp ?_)
  | ((with_reducible show tPairs (_ :: _) _ _ _); refine g_pcons ?_)
  | ((with_reducible show tPairs [] _ _ _); refine g_pnil ?_)
  | ((with_reducible show rIsi _ [_, V.ty _] _ _); first | refine g_isint (by assumption) ?_ | refine g_isbl (by assumption) ?_ | refine g_isstr (by assumption) ?_)
  | ((with_reducible show rLeZ _ _ _ _); refine g_lez ?_)
  | ((with_reducible show tYes _ _ _); refine g_yes ?_)
  | ((with_reducible show tPar _ _ _ _ _ _); refine g_par ?_)
  | ((with_reducible show tDNewK _ _ _); refine g_dnew ?_)
  | ((with_reducible show gCons _ _ (_ :: _) _ _ _); refine g_gcons ?_)
  | ((with_reducible show gNil [] _ _ _); refine g_gnil ?_)
  | ((with_reducible show tLc _ _ _ _ _ _ _ _); refine g_lc ?_)
  | ((with_reducible show tKw0 _ _ _ _ _ _ _ _); refine g_kw0 ?_)
  | (with_reducible refine g_two ?_)
  | (with_reducible refine g_bl ?_)
  | (with_reducible refine g_int ?_)
  | (with_reducible refine iteF ?_)
  | (with_reducible refine iteT ?_)
  | (with_reducible refine g_isz ?_)
  | ((with_reducible show ∃ a v, V.ref _ = V.ref a ∧ DGet _ a _ (some v) ∧ _); refine g_dgets (by first | exact Dr.get_at (by assumption) | exact Dr.get_left (by assumption) | exact Dr.get_cells (by assumption) | exact Dr.get_used (by assumption)) ?_)
  | ((with_reducible show ∃ a H4, V.ref _ = V.ref a ∧ DPut _ a _ _ H4 ∧ _); refine g_dputs (by first | exact Dr.put_at (by assumption) | exact Dr.put_left (by assumption) | exact Dr.put_used (by assumption)) ?_)
  )
local macro_rules | `(tactic| walk_at "go") => `(tactic| repeat walk_at "g1")
local macro_rules | `(tactic| walk_at "side") => `(tactic| first
  | decide
  | omega
  | exact ⟨by decide, by decide⟩
  | exact ⟨by omega, by omega⟩
  | exact Or.inl ⟨by omega, by omega⟩
  | exact Or.inr ⟨by omega, by omega⟩
  | (show (0 : Int) < _; omega))
def topS (i : Nat) : Stmt := PySem.Challenge.pw_headerfold_k02_marks_names_and_atoms.main.body.getD i (.Pass ⟨0, 0, 0, 0⟩)
abbrev s_is_number : Stmt := topS 7
abbrev sN_is_number : List Str := ["thing"]
theorem sc_is_number : FnScope sN_is_number ["thing"] (defScope s_is_number) := ⟨rfl, rfl, rfl, by decide +kernel, rfl, by decide +kernel, by decide +kernel⟩
abbrev s_is_between : Stmt := topS 8
abbrev sN_is_between : List Str := ["thing", "low", "high"]
theorem sc_is_between : FnScope sN_is_between ["thing", "low", "high"] (defScope s_is_between) := ⟨rfl, rfl, rfl, by decide +kernel, rfl, by decide +kernel, by decide +kernel⟩
abbrev s_consists_of : Stmt := topS 9
abbrev sN_consists_of : List Str := ["thing", "marks", "mark"]
theorem sc_consists_of : FnScope sN_consists_of ["thing", "marks"] (defScope s_consists_of) := ⟨rfl, rfl, rfl, by decide +kernel, rfl, by decide +kernel, by decide +kernel⟩
abbrev s_is_body : Stmt := topS 10
abbrev sN_is_body : List Str := ["thing"]
theorem sc_is_body : FnScope sN_is_body ["thing"] (defScope s_is_body) := ⟨rfl, rfl, rfl, by decide +kernel, rfl, by decide +kernel, by decide +kernel⟩
abbrev s_is_raw : Stmt := topS 11
abbrev sN_is_raw : List Str := ["thing"]
theorem sc_is_raw : FnScope sN_is_raw ["thing"] (defScope s_is_raw) := ⟨rfl, rfl, rfl, by decide +kernel, rfl, by decide +kernel, by decide +kernel⟩
abbrev s_is_plain_code : Stmt := topS 12
abbrev sN_is_plain_code : List Str := ["thing"]
theorem sc_is_plain_code : FnScope sN_is_plain_code ["thing"] (defScope s_is_plain_code) := ⟨rfl, rfl, rfl, by decide +kernel, rfl, by decide +kernel, by decide +kernel⟩
abbrev s_is_code : Stmt := topS 13
abbrev sN_is_code : List Str := ["thing"]
theorem sc_is_code : FnScope sN_is_code ["thing"] (defScope s_is_code) := ⟨rfl, rfl, rfl, by decide +kernel, rfl, by decide +kernel, by decide +kernel⟩
abbrev s_is_label : Stmt := topS 14
abbrev sN_is_label : List Str := ["thing"]
theorem sc_is_label : FnScope sN_is_label ["thing"] (defScope s_is_label) := ⟨rfl, rfl, rfl, by decide +kernel, rfl, by decide +kernel, by decide +kernel⟩
abbrev s_is_atom : Stmt := topS 15
abbrev sN_is_atom : List Str := ["thing", "mark"]
theorem sc_is_atom : FnScope sN_is_atom ["thing"] (defScope s_is_atom) := ⟨rfl, rfl, rfl, by decide +kernel, rfl, by decide +kernel, by decide +kernel⟩
abbrev s__law_begin : Stmt := topS 17
abbrev sN__law_begin : List Str := ["script"]
theorem sc__law_begin : FnScope sN__law_begin ["script"] (defScope s__law_begin) := ⟨rfl, rfl, rfl, by decide +kernel, rfl, by decide +kernel, by decide +kernel⟩
abbrev s__law_mixed : Stmt := topS 18
abbrev sN__law_mixed : List Str := ["cell", "k", "mixed"]
theorem sc__law_mixed : FnScope sN__law_mixed ["cell", "k"] (defScope s__law_mixed) := ⟨rfl, rfl, rfl, by decide +kernel, rfl, by decide +kernel, by decide +kernel⟩
abbrev s__law_next : Stmt := topS 19
abbrev sN__law_next : List Str := ["draw", "bound", "found", "cells", "cell"]
theorem sc__law_next : FnScope sN__law_next ["draw", "bound"] (defScope s__law_next) := ⟨rfl, rfl, rfl, by decide +kernel, rfl, by decide +kernel, by decide +kernel⟩
abbrev s__law_alphabet : Stmt := topS 20
abbrev sN__law_alphabet : List Str := ["small"]
theorem sc__law_alphabet : FnScope sN__law_alphabet [] (defScope s__law_alphabet) := ⟨rfl, rfl, rfl, by decide +kernel, rfl, by decide +kernel, by decide +kernel⟩
abbrev s__law_string : Stmt := topS 21
abbrev sN__law_string : List Str := ["draw", "found", "k", "some"]
theorem sc__law_string : FnScope sN__law_string ["draw"] (defScope s__law_string) := ⟨rfl, rfl, rfl, by decide +kernel, rfl, by decide +kernel, by decide +kernel⟩
abbrev s__law_thing : Stmt := topS 22
abbrev sN__law_thing : List Str := ["draw", "small", "great", "digits", "word", "odd", "some", "k"]
theorem sc__law_thing : FnScope sN__law_thing ["draw"] (defScope s__law_thing) := ⟨rfl, rfl, rfl, by decide +kernel, rfl, by decide +kernel, by decide +kernel⟩
abbrev s__law_number : Stmt := topS 23
abbrev sN__law_number : List Str := ["draw", "some"]
theorem sc__law_number : FnScope sN__law_number ["draw"] (defScope s__law_number) := ⟨rfl, rfl, rfl, by decide +kernel, rfl, by decide +kernel, by decide +kernel⟩
abbrev s__law_is_string : Stmt := topS 24
abbrev sN__law_is_string : List Str := ["what", "more", "sign"]
theorem sc__law_is_string : FnScope sN__law_is_string ["what", "more"] (defScope s__law_is_string) := ⟨rfl, rfl, rfl, by decide +kernel, rfl, by decide +kernel, by decide +kernel⟩
abbrev s__law_is_label : Stmt := topS 25
abbrev sN__law_is_label : List Str := ["what", "small", "great", "digits", "sign"]
theorem sc__law_is_label : FnScope sN__law_is_label ["what"] (defScope s__law_is_label) := ⟨rfl, rfl, rfl, by decide +kernel, rfl, by decide +kernel, by decide +kernel⟩
abbrev s__law_is_atom : Stmt := topS 26
abbrev sN__law_is_atom : List Str := ["what", "sign"]
theorem sc__law_is_atom : FnScope sN__law_is_atom ["what"] (defScope s__law_is_atom) := ⟨rfl, rfl, rfl, by decide +kernel, rfl, by decide +kernel, by decide +kernel⟩
abbrev s__law_is_code : Stmt := topS 27
abbrev sN__law_is_code : List Str := ["what"]
theorem sc__law_is_code : FnScope sN__law_is_code ["what"] (defScope s__law_is_code) := ⟨rfl, rfl, rfl, by decide +kernel, rfl, by decide +kernel, by decide +kernel⟩
abbrev s__law_right : Stmt := topS 28
abbrev sN__law_right : List Str := ["what", "due", "named"]
theorem sc__law_right : FnScope sN__law_right ["what"] (defScope s__law_right) := ⟨rfl, rfl, rfl, by decide +kernel, rfl, by decide +kernel, by decide +kernel⟩
abbrev s__law_marks_right : Stmt := topS 29
abbrev sN__law_marks_right : List Str := ["k", "small", "great", "digits", "rest", "sign"]
theorem sc__law_marks_right : FnScope sN__law_marks_right [] (defScope s__law_marks_right) := ⟨rfl, rfl, rfl, by decide +kernel, rfl, by decide +kernel, by decide +kernel⟩
abbrev s_law : Stmt := topS 30
abbrev sN_law : List Str := ["script", "draw", "turn", "what"]
theorem sc_law : FnScope sN_law ["script"] (defScope s_law) := ⟨rfl, rfl, rfl, by decide +kernel, rfl, by decide +kernel, by decide +kernel⟩
/-- what the top has written -/
structure Txt (K : PySem.W.Frag) (mg : Str → Option Value) where
  f_is_number : Addr
  fd_is_number : FuncData
  F_is_number : Fun K "is_number" "is_number" s_is_number f_is_number fd_is_number
  g_is_number : mg "is_number" = some (.ref f_is_number)
  b_is_number : Binds K fd_is_number ["thing"] []
  f_is_between : Addr
  fd_is_between : FuncData
  F_is_between : Fun K "is_between" "is_between" s_is_between f_is_between fd_is_between
  g_is_between : mg "is_between" = some (.ref f_is_between)
  b_is_between : Binds K fd_is_between ["thing", "low", "high"] []
  f_consists_of : Addr
  fd_consists_of : FuncData
  F_consists_of : Fun K "consists_of" "consists_of" s_consists_of f_consists_of fd_consists_of
  g_consists_of : mg "consists_of" = some (.ref f_consists_of)
  b_consists_of : Binds K fd_consists_of ["thing", "marks"] []
  f_is_body : Addr
  fd_is_body : FuncData
  F_is_body : Fun K "is_body" "is_body" s_is_body f_is_body fd_is_body
  g_is_body : mg "is_body" = some (.ref f_is_body)
  b_is_body : Binds K fd_is_body ["thing"] []
  f_is_raw : Addr
  fd_is_raw : FuncData
  F_is_raw : Fun K "is_raw" "is_raw" s_is_raw f_is_raw fd_is_raw
  g_is_raw : mg "is_raw" = some (.ref f_is_raw)
  b_is_raw : Binds K fd_is_raw ["thing"] []
  f_is_plain_code : Addr
  fd_is_plain_code : FuncData
  F_is_plain_code : Fun K "is_plain_code" "is_plain_code" s_is_plain_code f_is_plain_code fd_is_plain_code
  g_is_plain_code : mg "is_plain_code" = some (.ref f_is_plain_code)
  b_is_plain_code : Binds K fd_is_plain_code ["thing"] []
  f_is_code : Addr
  fd_is_code : FuncData
  F_is_code : Fun K "is_code" "is_code" s_is_code f_is_code fd_is_code
  g_is_code : mg "is_code" = some (.ref f_is_code)
  b_is_code : Binds K fd_is_code ["thing"] []
  f_is_label : Addr
  fd_is_label : FuncData
  F_is_label : Fun K "is_label" "is_label" s_is_label f_is_label fd_is_label
  g_is_label : mg "is_label" = some (.ref f_is_label)
  b_is_label : Binds K fd_is_label ["thing"] []
  f_is_atom : Addr
  fd_is_atom : FuncData
  F_is_atom : Fun K "is_atom" "is_atom" s_is_atom f_is_atom fd_is_atom
  g_is_atom : mg "is_atom" = some (.ref f_is_atom)
  b_is_atom : Binds K fd_is_atom ["thing"] []
  f__law_begin : Addr
  fd__law_begin : FuncData
  F__law_begin : Fun K "_law_begin" "_law_begin" s__law_begin f__law_begin fd__law_begin
  g__law_begin : mg "_law_begin" = some (.ref f__law_begin)
  b__law_begin : Binds K fd__law_begin ["script"] []
  f__law_mixed : Addr
  fd__law_mixed : FuncData
  F__law_mixed : Fun K "_law_mixed" "_law_mixed" s__law_mixed f__law_mixed fd__law_mixed
  g__law_mixed : mg "_law_mixed" = some (.ref f__law_mixed)
  b__law_mixed : Binds K fd__law_mixed ["cell", "k"] []
  f__law_next : Addr
  fd__law_next : FuncData
  F__law_next : Fun K "_law_next" "_law_next" s__law_next f__law_next fd__law_next
  g__law_next : mg "_law_next" = some (.ref f__law_next)
  b__law_next : Binds K fd__law_next ["draw", "bound"] []
  f__law_alphabet : Addr
  fd__law_alphabet : FuncData
  F__law_alphabet : Fun K "_law_alphabet" "_law_alphabet" s__law_alphabet f__law_alphabet fd__law_alphabet
  g__law_alphabet : mg "_law_alphabet" = some (.ref f__law_alphabet)
  b__law_alphabet : Binds K fd__law_alphabet [] []
  f__law_string : Addr
  fd__law_string : FuncData
  F__law_string : Fun K "_law_string" "_law_string" s__law_string f__law_string fd__law_string
  g__law_string : mg "_law_string" = some (.ref f__law_string)
  b__law_string : Binds K fd__law_string ["draw"] []
  f__law_thing : Addr
  fd__law_thing : FuncData
  F__law_thing : Fun K "_law_thing" "_law_thing" s__law_thing f__law_thing fd__law_thing
  g__law_thing : mg "_law_thing" = some (.ref f__law_thing)
  b__law_thing : Binds K fd__law_thing ["draw"] []
  f__law_number : Addr
  fd__law_number : FuncData
  F__law_number : Fun K "_law_number" "_law_number" s__law_number f__law_number fd__law_number
  g__law_number : mg "_law_number" = some (.ref f__law_number)
  b__law_number : Binds K fd__law_number ["draw"] []
  f__law_is_string : Addr
  fd__law_is_string : FuncData
  F__law_is_string : Fun K "_law_is_string" "_law_is_string" s__law_is_string f__law_is_string fd__law_is_string
  g__law_is_string : mg "_law_is_string" = some (.ref f__law_is_string)
  b__law_is_string : Binds K fd__law_is_string ["what", "more"] []
  f__law_is_label : Addr
  fd__law_is_label : FuncData
  F__law_is_label : Fun K "_law_is_label" "_law_is_label" s__law_is_label f__law_is_label fd__law_is_label
  g__law_is_label : mg "_law_is_label" = some (.ref f__law_is_label)
  b__law_is_label : Binds K fd__law_is_label ["what"] []
  f__law_is_atom : Addr
  fd__law_is_atom : FuncData
  F__law_is_atom : Fun K "_law_is_atom" "_law_is_atom" s__law_is_atom f__law_is_atom fd__law_is_atom
  g__law_is_atom : mg "_law_is_atom" = some (.ref f__law_is_atom)
  b__law_is_atom : Binds K fd__law_is_atom ["what"] []
  f__law_is_code : Addr
  fd__law_is_code : FuncData
  F__law_is_code : Fun K "_law_is_code" "_law_is_code" s__law_is_code f__law_is_code fd__law_is_code
  g__law_is_code : mg "_law_is_code" = some (.ref f__law_is_code)
  b__law_is_code : Binds K fd__law_is_code ["what"] []
  f__law_right : Addr
  fd__law_right : FuncData
  F__law_right : Fun K "_law_right" "_law_right" s__law_right f__law_right fd__law_right
  g__law_right : mg "_law_right" = some (.ref f__law_right)
  b__law_right : Binds K fd__law_right ["what"] []
  f__law_marks_right : Addr
  fd__law_marks_right : FuncData
  F__law_marks_right : Fun K "_law_marks_right" "_law_marks_right" s__law_marks_right f__law_marks_right fd__law_marks_right
  g__law_marks_right : mg "_law_marks_right" = some (.ref f__law_marks_right)
  b__law_marks_right : Binds K fd__law_marks_right [] []
  f_law : Addr
  fd_law : FuncData
  F_law : Fun K "law" "law" s_law f_law fd_law
  g_law : mg "law" = some (.ref f_law)
  b_law : Binds K fd_law ["script"] []
  t_MARKS : Tok
  g_MARKS : mg "MARKS" = some (.str " !\"#$&'()*+,-./0123456789:;<=>?@ABCDEFGHIJKLMNOPQRSTUVWXYZ[\\]^_`abcdefghijklmnopqrstuvwxyz{|}~" t_MARKS)
  t_LETTERS : Tok
  g_LETTERS : mg "LETTERS" = some (.str "ABCDEFGHIJKLMNOPQRSTUVWXYZabcdefghijklmnopqrstuvwxyz" t_LETTERS)
  t_LETTERS_AND_DIGITS : Tok
  g_LETTERS_AND_DIGITS : mg "LETTERS_AND_DIGITS" = some (.str "ABCDEFGHIJKLMNOPQRSTUVWXYZabcdefghijklmnopqrstuvwxyz0123456789" t_LETTERS_AND_DIGITS)
  t_NOT_IN_ATOMS : Tok
  g_NOT_IN_ATOMS : mg "NOT_IN_ATOMS" = some (.str " ()<>,;:@\"" t_NOT_IN_ATOMS)
  t__MISSING_CODE : Tok
  g__MISSING_CODE : mg "_MISSING_CODE" = some (.int 37 t__MISSING_CODE)
  t__LABEL_LIMIT : Tok
  g__LABEL_LIMIT : mg "_LABEL_LIMIT" = some (.int 20 t__LABEL_LIMIT)
  m_len : mg "len" = none
  m_range : mg "range" = none
  m_min : mg "min" = none
  m_isinstance : mg "isinstance" = none
  m_int : mg "int" = none
  m_str : mg "str" = none
  m_bool : mg "bool" = none
  m_repr : mg "repr" = none
  m_all : mg "all" = none
  m_any : mg "any" = none
section
variable {P : Program} {w : World} {K : PySem.W.Frag} {mg : Str → Option Value} {base : Heap}
theorem ok__law_mixed (T : Txt K mg) : FnOk P w K mg base CX0 1 T.f__law_mixed T.fd__law_mixed ["cell", "k"] (Dr.spMixed) := by
  refine T.F__law_mixed.ok sc__law_mixed (fun vs H Q E h => ?_) (fun cdv A outer s H vs Q E hr h => ?_)
  · obtain ⟨c, k, rfl, _⟩ := h
    rfl
  · obtain ⟨c, k, rfl, h0, h1, q⟩ := h
    have hu := hu_of hr
    refine ⟨_, (pss_cons (ps_set (i := 2) sc__law_mixed.nd rfl (Or.inl rfl) (pe_op op_mod (pe_op op_add (pe_op op_add (pe_op op_add (pe_op op_mod (pv 0) pe_int) (pe_op op_mul (pe_op op_mul pe_int (pv 1)) (pv 1))) (pe_op op_mul pe_int (pv 1))) pe_int) pe_int)) (pss_cons (ps_set (i := 2) sc__law_mixed.nd rfl (Or.inl rfl) (pe_op op_mod (pe_op op_mul (pe_op op_mod (pe_op op_mul (pv 2) (pv 2)) pe_int) (pv 2)) pe_int)) (pss_one (ps_ret (pe_op op_fdiv (pe_op op_mod (pe_op op_mul (pv 2) (pe_op op_add pe_int (pe_op op_mul pe_int (pe_op op_mod (pv 1) pe_int)))) pe_int) pe_int))))), ?_⟩
    walk_at "go"
    refine q _ ?_ ?_
    · omega
    · omega
theorem ok__law_next (T : Txt K mg) : FnOk P w K mg base CX0 2 T.f__law_next T.fd__law_next ["draw", "bound"] (Dr.spNext) := by
  refine T.F__law_next.ok sc__law_next (fun vs H Q E h => ?_) (fun cdv A outer s H vs Q E hr h => ?_)
  · obtain ⟨d, l, m, b, rfl, _⟩ := h
    rfl
  · obtain ⟨d, l, m, b, rfl, D, hm, hb0, hb1, q⟩ := h
    have hu := hu_of hr
    refine ⟨_, (pss_cons (ps_if (pt_cmpR op_gt (pe_dget hu (pv 0) pe_str (fun _ _ => rfl)) pe_int (nomark _)) (pss_cons (ps_set (i := 2) sc__law_next.nd rfl (Or.inl rfl) (pe_op op_mod (pe_dget hu (pv 0) pe_str (fun _ _ => rfl)) (pv 1))) (pss_cons (ps_dput hu (pv 0) pe_str (pe_op op_fdiv (pe_dget hu (pv 0) pe_str (fun _ _ => rfl)) (pv 1)) rfl) (pss_one (ps_ret (pv 2))))) pss_nil) (pss_cons (ps_set (i := 3) sc__law_next.nd rfl (Or.inl rfl) (pe_dget hu (pv 0) pe_str (fun _ _ => rfl))) (pss_cons (ps_set (i := 4) sc__law_next.nd rfl (Or.inl rfl) (pe_ix ix_list (pv 3) (pe_op op_mod (pe_dget hu (pv 0) pe_str (fun _ _ => rfl)) (pe_callB call_len1 (by rfl) T.m_len PySem.boot_len (pa_cons (pv 3) pa_nil))) (fun _ _ => rfl))) (pss_cons (ps_dput hu (pv 0) pe_str (pe_op op_add (pe_dget hu (pv 0) pe_str (fun _ _ => rfl)) pe_int) rfl) (pss_cons (ps_if (PW.pt (pw_and (pt_cmpR op_ge (pv 4) (pe_op op_pow pe_int pe_int) (nomark _)) (pw_and1 (pt_cmpR op_le (pe_dget hu (pv 0) pe_str (fun _ _ => rfl)) (pe_callB call_len1 (by rfl) T.m_len PySem.boot_len (pa_cons (pv 3) pa_nil)) (nomark _))))) (pss_cons (ps_dput hu (pv 0) pe_str (pe_op op_fdiv (pv 4) (pv 1)) rfl) (pss_one (ps_ret (pe_op op_mod (pv 4) (pv 1))))) pss_nil) (pss_cons (ps_dput hu (pv 0) pe_str (pe_op op_add (pe_dget hu (pv 0) pe_str (fun _ _ => rfl)) pe_int) rfl) (pss_one (ps_ret (pe_op op_mod (pe_call (ok__law_mixed T) (hr.mono (by decide)) (by rfl) T.g__law_mixed T.F__law_mixed.kp T.b__law_mixed .nil pass0 (pa_cons (pe_call (ok__law_mixed T) (hr.mono (by decide)) (by rfl) T.g__law_mixed T.F__law_mixed.kp T.b__law_mixed .nil pass0 (pa_cons (pv 4) (pa_cons (pe_dget hu (pv 0) pe_str (fun _ _ => rfl)) pa_nil))) (pa_cons (pe_dget hu (pv 0) pe_str (fun _ _ => rfl)) pa_nil))) (pv 1)))))))))), ?_⟩
    obtain ⟨ns, a, lf, u, h1, h2, h3, h4, h5, h6, h7, h8, h9⟩ := id D
    have nld : l ≠ d := ne_of h2 h1 (by intro z; cases z)
    have hS : ∀ o, SqL K (upd H d o) l (ns.map V.int) := fun o => SqL.of (by rw [upd_ne nld]; exact h2)
    have hS2 : ∀ o o2, (upd (upd H d o) d o2) l = some (.lst (ns.map V.int)) := fun o o2 => by rw [upd_ne nld, upd_ne nld]; exact h2
    have hN : ∀ o p, H p = none → (upd H d o) p = none := fun o p e => by rw [upd_ne (fun z => by rw [z, h1] at e; cases e)]; exact e
    have hN2 : ∀ o o2 p, H p = none → (upd (upd H d o) d o2) p = none := fun o o2 p e => by rw [upd_ne (fun z => by rw [z, h1] at e; cases e)]; exact hN o p e
    have hl : 0 < (ns.length : Int) := by omega
    walk_at "go"
    refine g_ifd (fun hc => ?_) (fun hc => ?_)
    · walk_at "go"
      refine q _ _ (Int.emod_nonneg _ (by omega)) (Int.emod_lt_of_pos _ hb0) ?_ Dr.Kp.at (hN _)
      exact ⟨ns, a, _, u, upd_same, by rw [upd_ne nld]; exact h2, h3, h4, h5, by omega, Int.ediv_nonneg h7 (by omega), h8, by omega⟩
    · walk_at "go"
      refine g_len (SqL.of h2) ?_
      have hb := Dr.modB (x := a) (n := ((ns.map V.int).length : Int)) (by rw [List.length_map]; exact hl)
      refine g_I (show (0 : Int) < _ by rw [List.length_map]; exact hl) ?_
      obtain ⟨c, ec⟩ := atI_int (ns := ns) hb.1 (by rw [← List.length_map (f := V.int)]; exact hb.2)
      refine g_ixl (SqL.of h2) ec ?_
      have k1 : (upd H d (.dK (Dr.dkv l (a + 1) lf u))) d = some (.dK (Dr.dkv l (a + 1) lf u)) := upd_same
      walk_at "go"
      refine g_ifd (fun hd => ?_) (fun hd => ?_)
      · walk_at "go"
        refine g_len (hS _) ?_
        walk_at "go"
        refine g_ifd (fun he => ?_) (fun he => ?_)
        · walk_at "go"
          refine q _ _ (Int.emod_nonneg _ (by omega)) (Int.emod_lt_of_pos _ hb0) ?_ (Dr.Kp.at.trans Dr.Kp.at) (hN2 _ _)
          have hc0 : 0 ≤ c := Int.le_trans (by decide) hd
          exact ⟨ns, a + 1, _, u, upd_same, hS2 _ _, h3, h4, by omega, by omega, Int.ediv_nonneg hc0 (by omega), h8, by omega⟩
        · walk_at "go"
          have k2 : (upd (upd H d (.dK (Dr.dkv l (a + 1) lf u))) d (.dK (Dr.dkv l (a + 1) lf (u + 1)))) d = some (.dK (Dr.dkv l (a + 1) lf (u + 1))) := upd_same
          walk_at "go"
          refine ⟨c, a + 1, rfl, by omega, by omega, fun r1 r2 r3 => ?_⟩
          walk_at "go"
          refine ⟨r1, u + 1, rfl, by omega, by omega, fun r4 r5 r6 => ?_⟩
          walk_at "go"
          refine q _ _ (Int.emod_nonneg _ (by omega)) (Int.emod_lt_of_pos _ hb0) ?_ (Dr.Kp.at.trans Dr.Kp.at) (hN2 _ _)
          exact ⟨ns, a + 1, lf, u + 1, upd_same, hS2 _ _, h3, h4, by omega, by omega, h7, by omega, by omega⟩
      · walk_at "go"
        have k2 : (upd (upd H d (.dK (Dr.dkv l (a + 1) lf u))) d (.dK (Dr.dkv l (a + 1) lf (u + 1)))) d = some (.dK (Dr.dkv l (a + 1) lf (u + 1))) := upd_same
        walk_at "go"
        refine ⟨c, a + 1, rfl, by omega, by omega, fun r1 r2 r3 => ?_⟩
        walk_at "go"
        refine ⟨r1, u + 1, rfl, by omega, by omega, fun r4 r5 r6 => ?_⟩
        walk_at "go"
        refine q _ _ (Int.emod_nonneg _ (by omega)) (Int.emod_lt_of_pos _ hb0) ?_ (Dr.Kp.at.trans Dr.Kp.at) (hN2 _ _)
        exact ⟨ns, a + 1, lf, u + 1, upd_same, hS2 _ _, h3, h4, by omega, by omega, h7, by omega, by omega⟩
theorem ok__law_begin (T : Txt K mg) : FnOk P w K mg base CX0 1 T.f__law_begin T.fd__law_begin ["script"] (Dr.spBegin K) := by
  refine T.F__law_begin.ok sc__law_begin (fun vs H Q E h => ?_) (fun cdv A outer s H vs Q E hr h => ?_)
  · obtain ⟨a, ns, rfl, _⟩ := h
    rfl
  · obtain ⟨a, ns, rfl, hS, hl, q⟩ := h
    have hu := hu_of hr
    refine ⟨_, (pss_one (ps_ret (pe_disp (pps_cons pe_str (pe_op op_catS (pv 0) (pe_lst (pa_cons pe_int pa_nil))) (pps_cons pe_str pe_int (pps_cons pe_str pe_int (pps_cons pe_str pe_int pps_nil)))) (by rfl) (by rfl) (fun z => by cases z) (by decide)))), ?_⟩
    walk_at "go"
    intro d hd
    walk_at "go"
    refine ⟨by show 1 ≤ sizeLine; decide, fun z hz => ?_⟩
    have ndz : d ≠ z := fun e => by rw [← e, upd_same] at hz; cases hz
    have s1 : Same H (upd H d (.dK [])) := same_new hd
    have s2 := s1.trans (same_new (o := .lst [V.int 0]) hz)
    refine g_cats (s2.seq hS) (SqL.of upd_same) (by rw [List.length_map]; show _ + 1 ≤ sizeLine; exact Nat.le_trans (Nat.add_le_add_right hl 1) (by decide)) fun l hl2 => ?_
    have ndl : d ≠ l := fun e => by rw [← e, upd_ne ndz, upd_same] at hl2; cases hl2
    have s3 := s2.trans (same_new (o := .lst (ns.map V.int ++ [V.int 0])) hl2)
    walk_at "go"
    refine ⟨by rw [upd_ne ndl, upd_ne ndz, upd_same], [((Sum.inr ("cells" : Str) : Key), V.ref l), (Sum.inr ("at" : Str), .int 0), (Sum.inr ("left" : Str), .int 0), (Sum.inr ("used" : Str), .int 0)], rfl, by show 4 ≤ 15; decide, ?_⟩
    rw [Dr.mrg]
    refine q d l _ hd (s2.free hl2) ⟨ns ++ [0], 0, 0, 0, upd_same, ?_, ?_, ?_, by decide, by decide, by decide, by decide, by decide⟩ (s3.mut hd)
    · rw [upd_ne ndl.symm, upd_same, List.map_append]
      rfl
    · rw [List.length_append]
      exact Nat.lt_of_lt_of_le (by decide : 0 < 1) (Nat.le_add_left _ _)
    · rw [List.length_append]
      exact Nat.add_le_add_right hl 1
end
section
variable {P : Program} {w : World} {K : PySem.W.Frag} {mg : Str → Option Value} {base : Heap}
theorem ok_is_number (T : Txt K mg) : FnOk P w K mg base CX0 1 T.f_is_number T.fd_is_number ["thing"] (Mk.spNum) := by
  refine T.F_is_number.ok sc_is_number (fun vs H Q E h => ?_) (fun cdv A outer s H vs Q E hr h => ?_)
  · obtain ⟨x, rfl, _⟩ := h
    rfl
  · obtain ⟨x, rfl, a, q⟩ := h
    have hu := hu_of hr
    refine ⟨_, (pss_one (ps_ret (pe_and (pe_callB call_isi (by rfl) T.m_isinstance (by decide +kernel) (pa_cons (pv 0) (pa_cons (pe_ty (n := "int") (by rfl) T.m_int (by decide +kernel)) pa_nil))) (pe_one (pe_not (pe_callB call_isi (by rfl) T.m_isinstance (by decide +kernel) (pa_cons (pv 0) (pa_cons (pe_ty (n := "bool") (by rfl) T.m_bool (by decide +kernel)) pa_nil)))))))), ?_⟩
    walk_at "go"
    refine g_if (fun c1 => ?_) (fun c1 => ?_)
    · walk_at "go"
      have e : (isIntV x && !isBlV x) = !isBlV x := by rw [c1]; rfl
      rw [e] at q
      exact q
    · have e : (isIntV x && !isBlV x) = false := by rw [c1]; rfl
      rw [e] at q
      exact q
theorem ok_is_between (T : Txt K mg) : FnOk P w K mg base CX0 2 T.f_is_between T.fd_is_between ["thing", "low", "high"] (Mk.spBetween) := by
  refine T.F_is_between.ok sc_is_between (fun vs H Q E h => ?_) (fun cdv A outer s H vs Q E hr h => ?_)
  · obtain ⟨x, lo, hi, rfl, _⟩ := h
    rfl
  · obtain ⟨x, lo, hi, rfl, a, q⟩ := h
    have hu := hu_of hr
    refine ⟨_, (pss_one (ps_ret (pe_and (pe_call (ok_is_number T) (hr.mono (by decide)) (by rfl) T.g_is_number T.F_is_number.kp T.b_is_number .nil pass0 (pa_cons (pv 0) pa_nil)) (pe_one (pe_chain op_le op_le (pv 1) (pv 0) (pv 2)))))), ?_⟩
    walk_at "go"
    refine ⟨x, rfl, a, ?_⟩
    walk_at "go"
    refine g_if (fun c1 => ?_) (fun c1 => ?_)
    · rw [Bool.and_eq_true, Bool.not_eq_true'] at c1
      obtain ⟨i, rfl⟩ := Mk.int_of c1.1 c1.2
      walk_at "go"
      refine g_ifd (fun c3 => ?_) (fun c3 => ?_)
      · walk_at "go"
        have e : Mk.btw (.int i) lo hi = decide (i ≤ hi) := by show (decide (lo ≤ i) && decide (i ≤ hi)) = _; rw [decide_eq_true c3, Bool.true_and]
        rw [e] at q
        exact q
      · have e : Mk.btw (.int i) lo hi = false := by show (decide (lo ≤ i) && decide (i ≤ hi)) = _; rw [decide_eq_false c3, Bool.false_and]
        rw [e] at q
        exact q
    · have e : Mk.btw x lo hi = false := by
        cases hx : isIntV x with
        | false => exact Mk.btw_no hx
        | true =>
          rw [hx, Bool.true_and, Bool.not_eq_false'] at c1
          exact Mk.btw_bl c1
      rw [e] at q
      exact q
theorem ok_consists_of (T : Txt K mg) : FnOk P w K mg base CX0 1 T.f_consists_of T.fd_consists_of ["thing", "marks"] (Mk.spCons) := by
  refine T.F_consists_of.ok sc_consists_of (fun vs H Q E h => ?_) (fun cdv A outer s H vs Q E hr h => ?_)
  · obtain ⟨x, m, rfl, _⟩ := h
    rfl
  · obtain ⟨x, m, rfl, a, q⟩ := h
    have hu := hu_of hr
    refine ⟨_, (pss_one (ps_ret (pe_and (pe_callB call_isi (by rfl) T.m_isinstance (by decide +kernel) (pa_cons (pv 0) (pa_cons (pe_ty (n := "str") (by rfl) T.m_str (by decide +kernel)) pa_nil))) (pe_one (pe_callB (cr_all (by rfl)) (by rfl) T.m_all (by decide +kernel) (pa_cons (pe_lc (own := [("mark", 2)]) (g := gName 2) (tt := tYes) (by rfl) sc_consists_of.nd (pi_str (pv 0)) (blkOk_by (own := [("mark", 2)]) (N := sN_consists_of) (sc := defScope s_consists_of) (by decide +kernel)) (fun _ _ _ _ _ => (pg_name (i := 2) sc_consists_of.nd rfl (Or.inl rfl))) (fun _ _ _ _ _ => pts_nil) (fun _ _ _ _ _ => (pe_cmpR op_inS (pv 2) (pv 1) (by rfl)))) pa_nil)))))), ?_⟩
    walk_at "go"
    refine g_if (fun c1 => ?_) (fun c1 => ?_)
    · obtain ⟨z, rfl⟩ := Mk.str_of c1
      walk_at "go"
      refine ⟨z, rfl, fun D hD => lc_str (fun _ => true) (fun c => V.bl (decide (c ∈ m.cps.toList))) (Nat.le_trans (Mk.str_len a) (by decide)) (fun c acc Nx hc k1 k2 => ?_) ?_⟩
      · walk_at "go"
        refine ⟨rfl, ?_⟩
        walk_at "go"
        exact k1 rfl _ upd_same rfl
      · walk_at "go"
        refine g_all (bs := z.cps.toList.map fun c => decide (c ∈ m.cps.toList)) (SqL.of ?_) ?_
        · rw [upd_same, List.filter_eq_self.mpr (fun _ _ => rfl), List.map_map]
          rfl
        · have e : (z.cps.toList.map fun c => decide (c ∈ m.cps.toList)).all id = Mk.consists (.str z) m := by
            rw [List.all_map]
            rfl
          rw [e]
          exact q _ (same_new hD)
    · rw [Mk.cons_no c1] at q
      exact q H (Same.refl H)
theorem ok_is_body (T : Txt K mg) : FnOk P w K mg base CX0 2 T.f_is_body T.fd_is_body ["thing"] (Mk.spTest Mk.isBody) := by
  refine T.F_is_body.ok sc_is_body (fun vs H Q E h => ?_) (fun cdv A outer s H vs Q E hr h => ?_)
  · obtain ⟨x, rfl, _⟩ := h
    rfl
  · obtain ⟨x, rfl, a, q⟩ := h
    have hu := hu_of hr
    refine ⟨_, (pss_one (ps_ret (pe_call (ok_consists_of T) (hr.mono (by decide)) (by rfl) T.g_consists_of T.F_consists_of.kp T.b_consists_of .nil pass0 (pa_cons (pv 0) (pa_cons (pe_gs (by rfl) T.g_MARKS) pa_nil))))), ?_⟩
    walk_at "go"
    exact ⟨x, _, rfl, a, q⟩
theorem ok_is_raw (T : Txt K mg) : FnOk P w K mg base CX0 2 T.f_is_raw T.fd_is_raw ["thing"] (Mk.spTest Mk.isRaw) := by
  refine T.F_is_raw.ok sc_is_raw (fun vs H Q E h => ?_) (fun cdv A outer s H vs Q E hr h => ?_)
  · obtain ⟨x, rfl, _⟩ := h
    rfl
  · obtain ⟨x, rfl, a, q⟩ := h
    have hu := hu_of hr
    refine ⟨_, (pss_one (ps_ret (pe_call (ok_consists_of T) (hr.mono (by decide)) (by rfl) T.g_consists_of T.F_consists_of.kp T.b_consists_of .nil pass0 (pa_cons (pv 0) (pa_cons (pe_op op_addZ (pe_gs (by rfl) T.g_MARKS) pe_str) pa_nil))))), ?_⟩
    walk_at "go"
    refine g_addz (by decide +kernel) ?_
    walk_at "go"
    exact ⟨x, _, rfl, a, q⟩
theorem ok_is_plain_code (T : Txt K mg) : FnOk P w K mg base CX0 3 T.f_is_plain_code T.fd_is_plain_code ["thing"] (Mk.spTest Mk.isPlain) := by
  refine T.F_is_plain_code.ok sc_is_plain_code (fun vs H Q E h => ?_) (fun cdv A outer s H vs Q E hr h => ?_)
  · obtain ⟨x, rfl, _⟩ := h
    rfl
  · obtain ⟨x, rfl, a, q⟩ := h
    have hu := hu_of hr
    refine ⟨_, (pss_one (ps_ret (pe_and (pe_call (ok_is_between T) (hr.mono (by decide)) (by rfl) T.g_is_between T.F_is_between.kp T.b_is_between .nil pass0 (pa_cons (pv 0) (pa_cons pe_int (pa_cons pe_int pa_nil)))) (pe_one (pe_cmpR op_ne (pv 0) (pe_gi (by rfl) T.g__MISSING_CODE) (nomark _)))))), ?_⟩
    walk_at "go"
    refine ⟨x, 32, 126, rfl, a, ?_⟩
    walk_at "go"
    refine g_if (fun c1 => ?_) (fun c1 => ?_)
    · obtain ⟨i, rfl, h1, h2⟩ := Mk.btw_int c1
      walk_at "go"
      have e : Mk.isPlain (.int i) = !decide (V.int i = V.int 37) := by show (Mk.btw _ 32 126 && _) = _; rw [c1, Bool.true_and]
      rw [e] at q
      exact q H (Same.refl H)
    · have e : Mk.isPlain x = false := by show (Mk.btw _ 32 126 && _) = _; rw [c1, Bool.false_and]
      rw [e] at q
      exact q H (Same.refl H)
theorem ok_is_code (T : Txt K mg) : FnOk P w K mg base CX0 4 T.f_is_code T.fd_is_code ["thing"] (Mk.spTest Mk.isCode) := by
  refine T.F_is_code.ok sc_is_code (fun vs H Q E h => ?_) (fun cdv A outer s H vs Q E hr h => ?_)
  · obtain ⟨x, rfl, _⟩ := h
    rfl
  · obtain ⟨x, rfl, a, q⟩ := h
    have hu := hu_of hr
    refine ⟨_, (pss_one (ps_ret (pe_or (pe_call (ok_is_plain_code T) (hr.mono (by decide)) (by rfl) T.g_is_plain_code T.F_is_plain_code.kp T.b_is_plain_code .nil pass0 (pa_cons (pv 0) pa_nil)) (pe_one (pe_call (ok_is_between T) (hr.mono (by decide)) (by rfl) T.g_is_between T.F_is_between.kp T.b_is_between .nil pass0 (pa_cons (pv 0) (pa_cons pe_int (pa_cons pe_int pa_nil)))))))), ?_⟩
    walk_at "go"
    refine ⟨x, rfl, a, fun H2 s2 => ?_⟩
    walk_at "go"
    refine g_if (fun c1 => ?_) (fun c1 => ?_)
    · have e : Mk.isCode x = true := by show (Mk.isPlain x || _) = true; rw [c1, Bool.true_or]
      rw [e] at q
      exact q H2 s2
    · walk_at "go"
      refine ⟨x, 160, 65535, rfl, a.same s2, ?_⟩
      have e : Mk.isCode x = Mk.btw x 160 65535 := by show (Mk.isPlain x || _) = _; rw [c1, Bool.false_or]
      rw [e] at q
      exact q H2 s2
theorem ok_is_label (T : Txt K mg) : FnOk P w K mg base CX0 2 T.f_is_label T.fd_is_label ["thing"] (Mk.spTest Mk.isLabel) := by
  refine T.F_is_label.ok sc_is_label (fun vs H Q E h => ?_) (fun cdv A outer s H vs Q E hr h => ?_)
  · obtain ⟨x, rfl, _⟩ := h
    rfl
  · obtain ⟨x, rfl, a, q⟩ := h
    have hu := hu_of hr
    refine ⟨_, (pss_one (ps_ret (pe_and (pe_call (ok_consists_of T) (hr.mono (by decide)) (by rfl) T.g_consists_of T.F_consists_of.kp T.b_consists_of .nil pass0 (pa_cons (pv 0) (pa_cons (pe_op op_addZ (pe_gs (by rfl) T.g_LETTERS_AND_DIGITS) pe_str) pa_nil))) (pe_and (pe_chain op_le op_le pe_int (pe_callB call_lenZ (by rfl) T.m_len PySem.boot_len (pa_cons (pv 0) pa_nil)) (pe_gi (by rfl) T.g__LABEL_LIMIT)) (pe_one (pe_cmpR op_inS (pe_ix ix_str (pv 0) pe_int (fun _ _ => rfl)) (pe_gs (by rfl) T.g_LETTERS) (by rfl))))))), ?_⟩
    walk_at "go"
    refine g_addz (by decide +kernel) ?_
    walk_at "go"
    refine ⟨x, _, rfl, a, fun H2 s2 => ?_⟩
    walk_at "go"
    refine g_if (fun c1 => ?_) (fun c1 => ?_)
    · obtain ⟨z, rfl⟩ : ∃ z, x = .str z := by
        cases x with
        | str z => exact ⟨z, rfl⟩
        | _ => cases c1
      have c1' : Mk.consists (.str z) (Mk.LADS ++ ("-" : Str)) = true := c1
      have hs : z.length ≤ sizeLine := Nat.le_trans (Mk.str_len a) (by decide)
      walk_at "go"
      refine g_lenz hs ?_
      walk_at "go"
      refine g_ifd (fun c2 => ?_) (fun c2 => ?_)
      · walk_at "go"
        refine g_ifd (fun c3 => ?_) (fun c3 => ?_)
        · walk_at "go"
          obtain ⟨c, r, hc⟩ : ∃ c r, z.cps.toList = c :: r := by
            cases hq : z.cps.toList with
            | nil =>
              exfalso
              have h0 : z.length = 0 := by show z.cps.size = 0; rw [← Array.length_toList, hq]; rfl
              omega
            | cons c r => exact ⟨c, r, rfl⟩
          refine g_ixz (c := c) hs (by rw [hc]; exact atI_nat (j := 0) rfl) ?_
          walk_at "go"
          have e : Mk.isLabel (.str z) = decide (c ∈ Mk.LETS.cps.toList) := by
            show (Mk.consists (.str z) (Mk.LADS ++ ("-" : Str)) && decide (1 ≤ z.length) && decide (z.length ≤ 20) && (match z.cps.toList with | c :: _ => decide (c ∈ Mk.LETS.cps.toList) | [] => false)) = _
            rw [c1', hc, decide_eq_true (show 1 ≤ z.length by omega), decide_eq_true (show z.length ≤ 20 by omega)]
            rfl
          rw [e] at q
          exact q H2 s2
        · have e : Mk.isLabel (.str z) = false := by
            show (_ && decide (z.length ≤ 20) && _) = _
            rw [decide_eq_false (show ¬ z.length ≤ 20 by omega), Bool.and_false, Bool.false_and]
          rw [e] at q
          exact q H2 s2
      · have e : Mk.isLabel (.str z) = false := by
          show (_ && decide (1 ≤ z.length) && _ && _) = _
          rw [decide_eq_false (show ¬ 1 ≤ z.length by omega), Bool.and_false, Bool.false_and, Bool.false_and]
        walk_at "go"
        rw [e] at q
        exact q H2 s2
    · have e : Mk.isLabel x = false := by
        cases x with
        | str s => show (Mk.consists _ _ && _ && _ && _) = _; rw [show Mk.consists (.str s) (Mk.LADS ++ ("-" : Str)) = false from c1]; rfl
        | _ => rfl
      rw [e] at q
      exact q H2 s2
theorem ok_is_atom (T : Txt K mg) : FnOk P w K mg base CX0 3 T.f_is_atom T.fd_is_atom ["thing"] (Mk.spTest Mk.isAtom) := by
  refine T.F_is_atom.ok sc_is_atom (fun vs H Q E h => ?_) (fun cdv A outer s H vs Q E hr h => ?_)
  · obtain ⟨x, rfl, _⟩ := h
    rfl
  · obtain ⟨x, rfl, a, q⟩ := h
    have hu := hu_of hr
    refine ⟨_, (pss_one (ps_ret (pe_and (pe_call (ok_is_body T) (hr.mono (by decide)) (by rfl) T.g_is_body T.F_is_body.kp T.b_is_body .nil pass0 (pa_cons (pv 0) pa_nil)) (pe_and (pe_cmpR op_ne (pv 0) pe_str (nomark _)) (pe_one (pe_not (pe_callB (cr_any (by rfl)) (by rfl) T.m_any (by decide +kernel) (pa_cons (pe_lc (own := [("mark", 1)]) (g := gName 1) (tt := tYes) (by rfl) sc_is_atom.nd (pi_str (pv 0)) (blkOk_by (own := [("mark", 1)]) (N := sN_is_atom) (sc := defScope s_is_atom) (by decide +kernel)) (fun _ _ _ _ _ => (pg_name (i := 1) sc_is_atom.nd rfl (Or.inl rfl))) (fun _ _ _ _ _ => pts_nil) (fun _ _ _ _ _ => (pe_cmpR op_inS (pv 1) (pe_gs (by rfl) T.g_NOT_IN_ATOMS) (by rfl)))) pa_nil)))))))), ?_⟩
    walk_at "go"
    refine ⟨x, rfl, a, fun H2 s2 => ?_⟩
    walk_at "go"
    refine g_if (fun c1 => ?_) (fun c1 => ?_)
    · obtain ⟨z, rfl⟩ : ∃ z, x = .str z := by
        cases x with
        | str z => exact ⟨z, rfl⟩
        | _ => cases c1
      walk_at "go"
      refine g_ifn (fun c2 => ?_) (fun c2 => ?_)
      · walk_at "go"
        refine ⟨z, rfl, fun D hD => lc_str (fun _ => true) (fun c => V.bl (decide (c ∈ Mk.NOAT.cps.toList))) (Nat.le_trans (Mk.str_len a) (by decide)) (fun c acc Nx hc k1 k2 => ?_) ?_⟩
        · walk_at "go"
          refine ⟨rfl, ?_⟩
          walk_at "go"
          exact k1 rfl _ upd_same rfl
        · walk_at "go"
          refine g_any (bs := z.cps.toList.map fun c => decide (c ∈ Mk.NOAT.cps.toList)) (SqL.of ?_) ?_
          · rw [upd_same, List.filter_eq_self.mpr (fun _ _ => rfl), List.map_map]
            rfl
          · walk_at "go"
            have e : Mk.isAtom (.str z) = !(z.cps.toList.map fun c => decide (c ∈ Mk.NOAT.cps.toList)).any id := by
              show (Mk.isBody (.str z) && decide (z ≠ "") && !(z.cps.toList.any fun c => decide (c ∈ Mk.NOAT.cps.toList))) = _
              rw [c1, List.any_map, decide_eq_true (show z ≠ "" from fun h => c2 (by rw [h])), Bool.true_and, Bool.true_and]
              rfl
            rw [e] at q
            exact q _ (s2.trans (same_new hD))
      · have e : Mk.isAtom (.str z) = false := by
          show (_ && decide (z ≠ "") && _) = _
          rw [decide_eq_false (show ¬ z ≠ "" from fun h => h (V.str.inj c2)), Bool.and_false, Bool.false_and]
        rw [e] at q
        exact q H2 s2
    · have e : Mk.isAtom x = false := by
        cases x with
        | str s => show (Mk.isBody _ && _ && _) = _; rw [show Mk.isBody (.str s) = false from c1]; rfl
        | _ => rfl
      rw [e] at q
      exact q H2 s2
end
section
variable {P : Program} {w : World} {K : PySem.W.Frag} {mg : Str → Option Value} {base : Heap}
def SMALL : Str := "abcdefghijklmnopqrstuvwxyz"
def GREAT : Str := "ABCDEFGHIJKLMNOPQRSTUVWXYZ"
def DIGITS : Str := "0123456789"
theorem up_small : Txt.upper SMALL = GREAT := by decide +kernel
def spAlpha : Sp := fun vs H Q _ => vs = [] ∧ ∀ p H', Same H H' → H p = none → H' p = some (.tup [.str SMALL, .str GREAT, .str DIGITS]) → Q (.ref p) H'
theorem ok__law_alphabet (T : Txt K mg) : FnOk P w K mg base CX0 1 T.f__law_alphabet T.fd__law_alphabet [] (spAlpha) := by
  refine T.F__law_alphabet.ok sc__law_alphabet (fun vs H Q E h => ?_) (fun cdv A outer s H vs Q E hr h => ?_)
  · obtain ⟨rfl, _⟩ := h
    rfl
  · obtain ⟨rfl, q⟩ := h
    have hu := hu_of hr
    refine ⟨_, (pss_cons (ps_set (i := 0) sc__law_alphabet.nd rfl (Or.inl rfl) pe_str) (pss_one (ps_ret (pe_tup (pa_cons (pv 0) (pa_cons (pe_m0 PySem.F.slot_str_upper PySem.F.type_str_upper mt_upV (pv 0)) (pa_cons pe_str pa_nil))))))), ?_⟩
    walk_at "go"
    refine g_up (by decide +kernel) ?_
    walk_at "go"
    refine ⟨by show 3 ≤ sizeLine; decide, fun p hp => ?_⟩
    refine q p _ (same_new hp) hp ?_
    rw [upd_same, show Txt.upper ("abcdefghijklmnopqrstuvwxyz" : Str) = GREAT from up_small]
    rfl
def spString : Sp := fun vs H Q _ => ∃ (d l : Addr) (m : Nat), vs = [.ref d] ∧ Dr.Draw H d l m ∧ m < 900000 ∧ ∀ (z : Str) (H' : Hp), z.length ≤ 25 → PyData.strOk z = true → Dr.Draw H' d l (m + 26) → Dr.Kp d H H' → Q (.str z) H'
theorem ok__law_string (T : Txt K mg) : FnOk P w K mg base CX0 3 T.f__law_string T.fd__law_string ["draw"] (spString) := by
  refine T.F__law_string.ok sc__law_string (fun vs H Q E h => ?_) (fun cdv A outer s H vs Q E hr h => ?_)
  · obtain ⟨d, l, m, rfl, _⟩ := h
    rfl
  · obtain ⟨d, l, m, rfl, D, hm, q⟩ := h
    have hu := hu_of hr
    refine ⟨_, (pss_cons (ps_set (i := 1) sc__law_string.nd rfl (Or.inl rfl) pe_str) (pss_cons (ps_for PassesOwn.never (by rfl) (pi_range1 (by rfl) T.m_range (pa_cons (pe_call (ok__law_next T) (hr.mono (by decide)) (by rfl) T.g__law_next T.F__law_next.kp T.b__law_next .nil pass0 (pa_cons (pv 0) (pa_cons pe_int pa_nil))) pa_nil)) (pg_name (i := 2) sc__law_string.nd rfl (Or.inl rfl)) (pss_cons (ps_set (i := 3) sc__law_string.nd rfl (Or.inl rfl) (pe_lst (pa_cons pe_str (pa_cons pe_str (pa_cons pe_str (pa_cons pe_str (pa_cons pe_str (pa_cons pe_str (pa_cons pe_str (pa_cons pe_str (pa_cons pe_str (pa_cons pe_str (pa_cons pe_str (pa_cons pe_str (pa_cons pe_str (pa_cons pe_str (pa_cons pe_str (pa_cons pe_str (pa_cons pe_str (pa_cons pe_str pa_nil)))))))))))))))))))) (pss_one (ps_set (i := 1) sc__law_string.nd rfl (Or.inl rfl) (pe_op op_addZ (pv 1) (pe_ix ix_list (pv 3) (pe_call (ok__law_next T) (hr.mono (by decide)) (by rfl) T.g__law_next T.F__law_next.kp T.b__law_next .nil pass0 (pa_cons (pv 0) (pa_cons pe_int pa_nil))) (fun _ _ => rfl))))))) (pss_one (ps_ret (pv 1))))), ?_⟩
    walk_at "go"
    refine ⟨d, l, m, 26, rfl, D, by omega, by decide, by decide, fun r H1 r0 r1 D1 K1 N1 => ?_⟩
    walk_at "go"
    refine ⟨r, rfl, by omega, by omega, for_range (fun i σ H2 => ∃ (z : Str) (k so : Option V), σ = [some (.ref d), some (.str z), k, so] ∧ z.length ≤ i ∧ PyData.strOk z = true ∧ Dr.Draw H2 d l (m + 1 + i) ∧ Dr.Kp d H H2) ⟨_, none, none, rfl, by decide, by decide +kernel, D1, K1⟩ ?_ ?_⟩
    · rintro i σ H2 hi ⟨z, k, so, rfl, hz, hz2, D2, K2⟩
      walk_at "go"
      refine ⟨by show 18 ≤ sizeLine; decide, fun p hp => ?_⟩
      walk_at "go"
      refine ⟨d, l, _, 18, rfl, D2.upd hp, by omega, by decide, by decide, fun r' H3 r0' r1' D3 K3 N3 => ?_⟩
      have hpl := K3 p _ (D2.ne hp) upd_same
      refine g_pick (strLe 1) hpl r0' (by show r' < 18; exact r1') (by decide +kernel) fun v hv => ?_
      obtain ⟨y, rfl, hy, hy2⟩ := strLe_of hv
      walk_at "go"
      refine g_addz (Nat.le_trans (by omega : z.length + y.length ≤ 100) (by decide)) ?_
      walk_at "go"
      exact ⟨_, _, _, rfl, by rw [len_app]; omega, sok_app hz2 hy2, D3, (K2.trans (Dr.Kp.new hp)).trans K3⟩
    · rintro σ H2 ⟨z, k, so, rfl, hz, hz2, D2, K2⟩
      walk_at "go"
      exact q z H2 (by omega) hz2 (D2.mono (by omega)) K2
def spNumber : Sp := fun vs H Q _ => ∃ (d l : Addr) (m : Nat), vs = [.ref d] ∧ Dr.Draw H d l m ∧ m < 900000 ∧ ∀ (z : Int) (H' : Hp), Dr.Draw H' d l (m + 4) → Dr.Kp d H H' → Q (.int z) H'
theorem ok__law_number (T : Txt K mg) : FnOk P w K mg base CX0 3 T.f__law_number T.fd__law_number ["draw"] (spNumber) := by
  refine T.F__law_number.ok sc__law_number (fun vs H Q E h => ?_) (fun cdv A outer s H vs Q E hr h => ?_)
  · obtain ⟨d, l, m, rfl, _⟩ := h
    rfl
  · obtain ⟨d, l, m, rfl, D, hm, q⟩ := h
    have hu := hu_of hr
    refine ⟨_, (pss_cons (ps_set (i := 1) sc__law_number.nd rfl (Or.inl rfl) (pe_lst (pa_cons pe_int (pa_cons pe_int (pa_cons pe_int (pa_cons pe_int (pa_cons pe_int (pa_cons pe_int (pa_cons pe_int (pa_cons pe_int (pa_cons pe_int (pa_cons pe_int (pa_cons pe_int (pa_cons pe_int (pa_cons pe_int (pa_cons pe_int (pa_cons (pe_op op_sub pe_int pe_int) (pa_cons (pe_op op_pow pe_int pe_int) pa_nil)))))))))))))))))) (pss_one (ps_ret (pe_ix ix_list (pe_lst (pa_cons (pe_ix ix_list (pv 1) (pe_call (ok__law_next T) (hr.mono (by decide)) (by rfl) T.g__law_next T.F__law_next.kp T.b__law_next .nil pass0 (pa_cons (pv 0) (pa_cons pe_int pa_nil))) (fun _ _ => rfl)) (pa_cons (pe_call (ok__law_next T) (hr.mono (by decide)) (by rfl) T.g__law_next T.F__law_next.kp T.b__law_next .nil pass0 (pa_cons (pv 0) (pa_cons pe_int pa_nil))) (pa_cons (pe_op op_add pe_int (pe_call (ok__law_next T) (hr.mono (by decide)) (by rfl) T.g__law_next T.F__law_next.kp T.b__law_next .nil pass0 (pa_cons (pv 0) (pa_cons pe_int pa_nil)))) pa_nil)))) (pe_call (ok__law_next T) (hr.mono (by decide)) (by rfl) T.g__law_next T.F__law_next.kp T.b__law_next .nil pass0 (pa_cons (pv 0) (pa_cons pe_int pa_nil))) (fun _ _ => rfl))))), ?_⟩
    walk_at "go"
    refine ⟨by show 16 ≤ sizeLine; decide, fun p hp => ?_⟩
    walk_at "go"
    refine ⟨d, l, _, 16, rfl, D.upd hp, by omega, by decide, by decide, fun r H1 r0 r1 D1 K1 N1 => ?_⟩
    have hpl := K1 p _ (D.ne hp) upd_same
    refine g_pick isI hpl r0 (by show r < 16; exact r1) (by rfl) fun v hv => ?_
    obtain ⟨y, rfl⟩ := isI_of hv
    walk_at "go"
    refine ⟨d, l, _, 70000, rfl, D1, by omega, by decide, by decide, fun r2 H2 _ _ D2 K2 N2 => ?_⟩
    walk_at "go"
    refine ⟨d, l, _, 100, rfl, D2, by omega, by decide, by decide, fun r3 H3 _ _ D3 K3 N3 => ?_⟩
    walk_at "go"
    refine ⟨by show 3 ≤ sizeLine; decide, fun p2 hp2 => ?_⟩
    walk_at "go"
    refine ⟨d, l, _, 3, rfl, D3.upd hp2, by omega, by decide, by decide, fun r4 H4 r40 r41 D4 K4 N4 => ?_⟩
    refine g_pick isI (K4 p2 _ (D3.ne hp2) upd_same) r40 (by show r4 < 3; exact r41) (by rfl) fun v hv => ?_
    obtain ⟨y, rfl⟩ := isI_of hv
    exact q y H4 D4 ((((((Dr.Kp.new hp).trans K1).trans K2).trans K3).trans (Dr.Kp.new hp2)).trans K4)
end
section
variable {P : Program} {w : World} {K : PySem.W.Frag} {mg : Str → Option Value} {base : Heap}
def spThing : Sp := fun vs H Q _ => ∃ (d l : Addr) (m : Nat), vs = [.ref d] ∧ Dr.Draw H d l m ∧ m < 800000 ∧ ∀ (x : V) (H' : Hp), AnyO H' x → x ≠ .ref d → Dr.Draw H' d l (m + 80) → Dr.Kp d H H' → Q x H'
theorem ok__law_thing (T : Txt K mg) : FnOk P w K mg base CX0 4 T.f__law_thing T.fd__law_thing ["draw"] (spThing) := by
  refine T.F__law_thing.ok sc__law_thing (fun vs H Q E h => ?_) (fun cdv A outer s H vs Q E hr h => ?_)
  · obtain ⟨d, l, m, rfl, _⟩ := h
    rfl
  · obtain ⟨d, l, m, rfl, D, hm, q⟩ := h
    have hu := hu_of hr
    refine ⟨_, (pss_cons (ps_asg (pe_call0 (ok__law_alphabet T) (hr.mono (by decide)) (by rfl) T.g__law_alphabet T.F__law_alphabet.kp T.b__law_alphabet .nil pass0) (pg_tup (by rfl) (pgs_cons (pg_name (i := 1) sc__law_thing.nd rfl (Or.inr rfl)) (pgs_cons (pg_name (i := 2) sc__law_thing.nd rfl (Or.inr rfl)) (pgs_cons (pg_name (i := 3) sc__law_thing.nd rfl (Or.inr rfl)) pgs_nil))))) (pss_cons (ps_set (i := 4) sc__law_thing.nd rfl (Or.inl rfl) (pe_m1 PySem.F.slot_str_join PySem.F.type_str_join mt_joinV pe_str (pe_lc (own := [("k", 7)]) (g := gName 7) (tt := tYes) (by rfl) sc__law_thing.nd (pi_range1 (by rfl) T.m_range (pa_cons (pe_call (ok__law_next T) (hr.mono (by decide)) (by rfl) T.g__law_next T.F__law_next.kp T.b__law_next .nil pass0 (pa_cons (pv 0) (pa_cons pe_int pa_nil))) pa_nil)) (blkOk_by (own := [("k", 7)]) (N := sN__law_thing) (sc := defScope s__law_thing) (by decide +kernel)) (fun _ _ _ _ _ => (pg_name (i := 7) sc__law_thing.nd rfl (Or.inl rfl))) (fun _ _ _ _ _ => pts_nil) (fun _ _ _ _ _ => (pe_ix ix_str (pe_op op_addZ (pe_op op_addZ (pe_op op_addZ (pv 1) (pv 2)) (pv 3)) pe_str) (pe_call (ok__law_next T) (hr.mono (by decide)) (by rfl) T.g__law_next T.F__law_next.kp T.b__law_next .nil pass0 (pa_cons (pv 0) (pa_cons pe_int pa_nil))) (fun _ _ => rfl)))))) (pss_cons (ps_set (i := 5) sc__law_thing.nd rfl (Or.inl rfl) (pe_ix ix_list (pe_lst (pa_cons pe_non (pa_cons pe_bl (pa_cons pe_int (pa_cons (pe_tup pa_nil) (pa_cons (pe_lst (pa_cons pe_str pa_nil)) (pa_cons (pe_tup (pa_cons pe_str pa_nil)) (pa_cons pe_dnewK (pa_cons (pe_op op_pow pe_int pe_int) pa_nil))))))))) (pe_call (ok__law_next T) (hr.mono (by decide)) (by rfl) T.g__law_next T.F__law_next.kp T.b__law_next .nil pass0 (pa_cons (pv 0) (pa_cons pe_int pa_nil))) (fun _ _ => rfl))) (pss_cons (ps_set (i := 6) sc__law_thing.nd rfl (Or.inl rfl) (pe_lst (pa_cons (pv 4) (pa_cons (pe_call (ok__law_string T) (hr.mono (by decide)) (by rfl) T.g__law_string T.F__law_string.kp T.b__law_string .nil pass0 (pa_cons (pv 0) pa_nil)) (pa_cons (pe_op op_addZ (pv 4) (pe_call (ok__law_string T) (hr.mono (by decide)) (by rfl) T.g__law_string T.F__law_string.kp T.b__law_string .nil pass0 (pa_cons (pv 0) pa_nil))) (pa_cons (pv 5) (pa_cons (pe_op op_addZ (pe_slice sl_str (pv 4) po_none (po_some pe_int)) (pv 4)) (pa_cons (pe_op op_addZ pe_str (pv 4)) (pa_cons pe_str pa_nil))))))))) (pss_one (ps_ret (pe_ix ix_list (pv 6) (pe_call (ok__law_next T) (hr.mono (by decide)) (by rfl) T.g__law_next T.F__law_next.kp T.b__law_next .nil pass0 (pa_cons (pv 0) (pa_cons pe_int pa_nil))) (fun _ _ => rfl)))))))), ?_⟩
    walk_at "go"
    refine ⟨rfl, fun p H1 s1 hp0 e1 => ?_⟩
    refine g_gtup (SqT.of e1) rfl ?_
    have D1 : Dr.Draw H1 d l m := D.same s1
    have K01 : Dr.Kp d H H1 := fun b o _ e => s1 b o e
    walk_at "go"
    refine ⟨d, l, m, 23, rfl, D1, by omega, by decide, by decide, fun r H2 r0 r1 D2 K2 N2 => ?_⟩
    walk_at "go"
    refine ⟨r, rfl, by omega, by omega, fun L hL => lc_range (lo := 0) (n := r.toNat) (fun i H3 => ∃ ys : List Str, H3 L = some (.lst (ys.map V.str)) ∧ ys.length = i ∧ (∀ y ∈ ys, y.length ≤ 1) ∧ (∀ y ∈ ys, PyData.strOk y = true) ∧ Dr.Draw H3 d l (m + 1 + i) ∧ Dr.Kp d H2 H3) ?_ ?_ ?_⟩
    · exact ⟨[], upd_same, rfl, fun y h => (nomatch h), fun y h => (nomatch h), D2.upd hL, Dr.Kp.new hL⟩
    · rintro i H3 hi ⟨ys, e3, l3, y3, o3, D3, K3⟩
      walk_at "go"
      refine ⟨rfl, ?_⟩
      walk_at "go"
      refine g_addz (by decide +kernel) ?_
      walk_at "go"
      refine g_addz (by decide +kernel) ?_
      walk_at "go"
      refine g_addz (by decide +kernel) ?_
      walk_at "go"
      refine ⟨d, l, _, 63, rfl, D3, by omega, by decide, by decide, fun r' H4 r0' r1' D4 K4 N4 => ?_⟩
      refine g_pickz (by decide +kernel) r0' (by show r' < 63; exact r1') fun c hc => ?_
      have eL : H4 L = some (.lst (ys.map V.str)) := K4 L _ (D2.ne hL) e3
      refine ⟨ys.map V.str, eL, by rw [List.length_map]; exact small1000 (by omega), ys ++ [⟨#[c]⟩], ?_, ?_, ?_, ?_, D4.mut (D2.ne hL) (D2.nel hL), ?_⟩
      · rw [upd_same, List.map_append]; rfl
      · rw [List.length_append, l3]; rfl
      · intro y hy
        rcases List.mem_append.mp hy with h | h
        · exact y3 y h
        · rw [List.mem_singleton.mp h]; exact Nat.le_refl 1
      · intro y hy
        rcases List.mem_append.mp hy with h | h
        · exact o3 y h
        · rw [List.mem_singleton.mp h]; exact sok_mem (z := SMALL ++ GREAT ++ DIGITS ++ ("-" : Str)) (by decide +kernel) hc
      · exact ((K3.trans K4)).mut hL
    · rintro H3 ⟨ys, e3, l3, y3, o3, D3, K3⟩
      walk_at "go"
      refine g_join (SqL.of e3) ?_ ?_
      · exact Nat.le_trans (Nat.add_le_add (sum_len y3) (Nat.le_refl _)) (by rw [l3]; show _ + _ * 0 ≤ _; omega)
      have hw := join_len y3
      have ho := sok_join o3
      generalize Txt.join ("" : Str) ys = word at hw ho ⊢
      rw [l3] at hw
      have hw2 : word.length ≤ 22 := by omega
      walk_at "go"
      refine ⟨by show 0 ≤ sizeLine; decide, fun p1 h1 => ?_⟩
      walk_at "go"
      refine ⟨by show 1 ≤ sizeLine; decide, fun p2 h2 => ?_⟩
      walk_at "go"
      refine ⟨by show 1 ≤ sizeLine; decide, fun p3 h3 => ?_⟩
      walk_at "go"
      intro p4 h4
      walk_at "go"
      refine ⟨by show 8 ≤ sizeLine; decide, fun p5 h5 => ?_⟩
      walk_at "go"
      have DA := D3.upd (o := .tup []) h1
      have DB := DA.upd (o := .lst [.str ("a" : Str)]) h2
      have DC := DB.upd (o := .tup [.str ("a" : Str)]) h3
      have DD := DC.upd (o := .dK []) h4
      refine ⟨d, l, _, 8, rfl, DD.upd h5, by omega, by decide, by decide, fun r4 H4 r40 r41 D4 K4 N4 => ?_⟩
      have n1 := D3.ne h1
      have n2 := DA.ne h2
      have n3 := DB.ne h3
      have n4 := DC.ne h4
      have k5 := K4 p5 _ (DD.ne h5) upd_same
      have a1 : AnyO H4 (.ref p1) := .tup (xs := []) (K4 p1 _ n1 (same_new h5 _ _ (same_new h4 _ _ (same_new h3 _ _ (same_new h2 _ _ upd_same)))))
      have a2 : AnyO H4 (.ref p2) := .lst (K4 p2 _ n2 (same_new h5 _ _ (same_new h4 _ _ (same_new h3 _ _ upd_same))))
      have a3 : AnyO H4 (.ref p3) := .tup (K4 p3 _ n3 (same_new h5 _ _ (same_new h4 _ _ upd_same)))
      have a4 : AnyO H4 (.ref p4) := .dic (kvs := []) (K4 p4 _ n4 (same_new h5 _ _ upd_same))
      refine g_pickP (pr := fun v => AnyO H4 v ∧ v ≠ .ref d) k5 r40 (by show r4 < 8; exact r41) ?_ fun v hv => ?_
      · exact fm_cons ⟨.non, fun e => by cases e⟩ (fm_cons ⟨.bl _, fun e => by cases e⟩ (fm_cons ⟨.int _, fun e => by cases e⟩ (fm_cons ⟨a1, fun e => n1 (V.ref.inj e)⟩ (fm_cons ⟨a2, fun e => n2 (V.ref.inj e)⟩ (fm_cons ⟨a3, fun e => n3 (V.ref.inj e)⟩ (fm_cons ⟨a4, fun e => n4 (V.ref.inj e)⟩ (fm_cons ⟨.int _, fun e => by cases e⟩ fm_nil)))))))
      have K04 : Dr.Kp d H H4 := (((((((K01.trans K2).trans K3).trans (Dr.Kp.new h1)).trans (Dr.Kp.new h2)).trans (Dr.Kp.new h3)).trans (Dr.Kp.new h4)).trans (Dr.Kp.new h5)).trans K4
      walk_at "go"
      refine ⟨d, l, _, rfl, D4, by omega, fun z1 H5 hz1 oz1 D5 K5 => ?_⟩
      walk_at "go"
      refine ⟨d, l, _, rfl, D5, by omega, fun z2 H6 hz2 oz2 D6 K6 => ?_⟩
      refine g_addz (Nat.le_trans (by omega : word.length + z2.length ≤ 100) (by decide)) ?_
      walk_at "go"
      refine g_slz (Nat.le_trans hw2 (by decide)) ?_
      have hc := cutS_length word none (some 1)
      walk_at "go"
      refine g_addz (Nat.le_trans (by omega : _ + word.length ≤ 100) (by decide)) ?_
      walk_at "go"
      refine g_addz (Nat.le_trans (by show 1 + word.length ≤ 100; omega) (by decide)) ?_
      walk_at "go"
      refine ⟨by show 7 ≤ sizeLine; decide, fun p6 h6 => ?_⟩
      walk_at "go"
      refine ⟨d, l, _, 7, rfl, D6.upd h6, by omega, by decide, by decide, fun r7 H7 r70 r71 D7 K7 N7 => ?_⟩
      have av : AnyO H7 v := (((hv.1.kp K5 hv.2).kp K6 hv.2).kp (Dr.Kp.new h6) hv.2).kp K7 hv.2
      refine g_pickP (pr := fun v => AnyO H7 v ∧ v ≠ .ref d) (K7 p6 _ (D6.ne h6) upd_same) r70 (by show r7 < 7; exact r71) ?_ fun x hx => ?_
      · refine fm_cons ⟨.str _ (by omega) ho, fun e => by cases e⟩ (fm_cons ⟨.str _ (by omega) oz1, fun e => by cases e⟩ (fm_cons ⟨.str _ ?_ (sok_app ho oz2), fun e => by cases e⟩ (fm_cons ⟨av, hv.2⟩ (fm_cons ⟨.str _ ?_ (sok_app (sok_cut ho _ _) ho), fun e => by cases e⟩ (fm_cons ⟨.str _ ?_ (sok_app (by decide +kernel) ho), fun e => by cases e⟩ (fm_cons ⟨.str _ ?_ (by decide +kernel), fun e => by cases e⟩ fm_nil))))))
        · rw [len_app]; omega
        · rw [len_app]; omega
        · rw [len_app]; show 1 + _ ≤ _; omega
        · show 0 ≤ _; omega
      exact q x H7 hx.1 hx.2 (D7.mono (by omega)) ((((K04.trans K5).trans K6).trans (Dr.Kp.new h6)).trans K7)
end
section
variable {P : Program} {w : World} {K : PySem.W.Frag} {mg : Str → Option Value} {base : Heap}
theorem mk_range : ∀ c ∈ Mk.MARKS.cps.toList, 32 ≤ c ∧ c ≤ 126 := by decide +kernel
def spIsString : Sp := fun vs H Q _ => ∃ (x : V) (m : Str), vs = [x, .str m] ∧ AnyO H x ∧ Q (.bl (Mk.consists x (Mk.MARKS ++ m))) H
theorem mem_app {a b : Str} {c : Nat} : c ∈ (a ++ b).cps.toList ↔ c ∈ a.cps.toList ∨ c ∈ b.cps.toList := by
  rw [ap_list, List.mem_append]
theorem ok__law_is_string (T : Txt K mg) : FnOk P w K mg base CX0 1 T.f__law_is_string T.fd__law_is_string ["what", "more"] (spIsString) := by
  refine T.F__law_is_string.ok sc__law_is_string (fun vs H Q E h => ?_) (fun cdv A outer s H vs Q E hr h => ?_)
  · obtain ⟨x, m, rfl, _⟩ := h
    rfl
  · obtain ⟨x, m, rfl, a, q⟩ := h
    have hu := hu_of hr
    refine ⟨_, (pss_cons (ps_if (pt_not (pt_val (pe_callB call_isi (by rfl) T.m_isinstance (by decide +kernel) (pa_cons (pv 0) (pa_cons (pe_ty (n := "str") (by rfl) T.m_str (by decide +kernel)) pa_nil))))) (pss_one (ps_ret pe_bl)) pss_nil) (pss_cons (ps_for PassesOwn.never (by rfl) (pi_str (pv 0)) (pg_name (i := 2) sc__law_is_string.nd rfl (Or.inl rfl)) (pss_one (ps_if (PW.pt (pw_and (pt_cmpR op_notInS (pv 2) (pv 1) (by rfl)) (pw_and1 (PW.pt (pw_or (pt_not (pt_chain op_leZ op_leZ pe_str (pv 2) pe_str)) (pw_or1 (pt_cmpR op_notInS (pv 2) (pe_gs (by rfl) T.g_MARKS) (by rfl)))))))) (pss_one (ps_ret pe_bl)) pss_nil))) (pss_one (ps_ret pe_bl)))), ?_⟩
    walk_at "go"
    cases c1 : isStrV x with
    | false =>
      refine iteT ?_
      walk_at "go"
      rw [Mk.cons_no c1] at q
      exact q
    | true =>
      refine iteF ?_
      obtain ⟨z, rfl⟩ := Mk.str_of c1
      walk_at "go"
      refine ⟨z, rfl, for_str (fun i σ H2 => H2 = H ∧ (∃ y, σ = [some (.str z), some (.str m), y]) ∧ ∀ c ∈ z.cps.toList.take i, c ∈ (Mk.MARKS ++ m).cps.toList) ⟨rfl, ⟨none, rfl⟩, fun c h => (nomatch h)⟩ ?_ ?_⟩
      · rintro i c σ H2 hc ⟨rfl, ⟨y, rfl⟩, hi⟩
        have ht : z.cps.toList.take (i + 1) = z.cps.toList.take i ++ [c] := by rw [List.take_add_one, hc]; rfl
        have good : c ∈ (Mk.MARKS ++ m).cps.toList → ∀ e ∈ z.cps.toList.take (i + 1), e ∈ (Mk.MARKS ++ m).cps.toList := by
          intro h e he
          rw [ht] at he
          rcases List.mem_append.mp he with h2 | h2
          · exact hi e h2
          · rw [List.mem_singleton.mp h2]; exact h
        have bad : ¬ c ∈ (Mk.MARKS ++ m).cps.toList → Mk.consists (.str z) (Mk.MARKS ++ m) = false := by
          intro h
          show (z.cps.toList.all fun c => decide (c ∈ (Mk.MARKS ++ m).cps.toList)) = false
          rw [List.all_eq_false]
          exact ⟨c, List.mem_of_getElem? hc, fun z => h (of_decide_eq_true z)⟩
        walk_at "go"
        refine g_ifn (fun h1 => ?_) (fun h1 => ?_)
        · walk_at "go"
          by_cases hk : c ∈ Mk.MARKS.cps.toList
          · obtain ⟨l1, l2⟩ := mk_range c hk
            refine g_ifn (fun _ => ?_) (fun h => absurd (lt_sp.mp h) (by omega))
            walk_at "go"
            refine g_ifnn (fun h => absurd (lt_tl.mp h) (by omega)) (fun h => ?_)
            walk_at "go"
            refine g_ifn (fun h => absurd hk h) (fun h => ?_)
            walk_at "go"
            exact ⟨rfl, ⟨_, rfl⟩, good (mem_app.mpr (Or.inl hk))⟩
          · have hb := bad fun h => by
              rcases mem_app.mp h with h | h
              · exact hk h
              · exact h1 h
            rw [hb] at q
            refine g_ifn (fun _ => ?_) (fun _ => ?_)
            · walk_at "go"
              refine g_ifnn (fun _ => ?_) (fun _ => ?_)
              · walk_at "go"
                exact q
              · walk_at "go"
                refine g_ifn (fun _ => ?_) (fun h => absurd h hk)
                walk_at "go"
                exact q
            · walk_at "go"
              refine iteT ?_
              walk_at "go"
              exact q
        · walk_at "go"
          exact ⟨rfl, ⟨_, rfl⟩, good (mem_app.mpr (Or.inr h1))⟩
      · rintro σ H2 ⟨rfl, ⟨y, rfl⟩, hi⟩
        walk_at "go"
        have e : Mk.consists (.str z) (Mk.MARKS ++ m) = true := by
          show (z.cps.toList.all fun c => decide (c ∈ (Mk.MARKS ++ m).cps.toList)) = true
          rw [List.all_eq_true]
          exact fun c hc => decide_eq_true (hi c (by rw [len_list, List.take_length]; exact hc))
        rw [e] at q
        exact q
theorem lets_iff {c : Nat} : c ∈ (SMALL ++ GREAT).cps.toList ↔ c ∈ Mk.LETS.cps.toList :=
  ⟨fun h => (by decide +kernel : ∀ c ∈ (SMALL ++ GREAT).cps.toList, c ∈ Mk.LETS.cps.toList) c h, fun h => (by decide +kernel : ∀ c ∈ Mk.LETS.cps.toList, c ∈ (SMALL ++ GREAT).cps.toList) c h⟩
theorem lads_iff {c : Nat} : c ∈ (SMALL ++ GREAT ++ DIGITS ++ ("-" : Str)).cps.toList ↔ c ∈ (Mk.LADS ++ ("-" : Str)).cps.toList :=
  ⟨fun h => (by decide +kernel : ∀ c ∈ (SMALL ++ GREAT ++ DIGITS ++ ("-" : Str)).cps.toList, c ∈ (Mk.LADS ++ ("-" : Str)).cps.toList) c h, fun h => (by decide +kernel : ∀ c ∈ (Mk.LADS ++ ("-" : Str)).cps.toList, c ∈ (SMALL ++ GREAT ++ DIGITS ++ ("-" : Str)).cps.toList) c h⟩
theorem empty_not {l : List Nat} {p q : Nat → Bool} {f : Nat → PyData} (h : ∀ c, p c = !q c) : ((l.filter p).map f).isEmpty = l.all q := by
  induction l with
  | nil => rfl
  | cons c r ih =>
    rw [List.filter_cons, h c, List.all_cons]
    cases q c with
    | true => exact ih
    | false => rfl
theorem ok__law_is_label (T : Txt K mg) : FnOk P w K mg base CX0 2 T.f__law_is_label T.fd__law_is_label ["what"] (Mk.spTest Mk.isLabel) := by
  refine T.F__law_is_label.ok sc__law_is_label (fun vs H Q E h => ?_) (fun cdv A outer s H vs Q E hr h => ?_)
  · obtain ⟨x, rfl, _⟩ := h
    rfl
  · obtain ⟨x, rfl, a, q⟩ := h
    have hu := hu_of hr
    refine ⟨_, (pss_cons (ps_asg (pe_call0 (ok__law_alphabet T) (hr.mono (by decide)) (by rfl) T.g__law_alphabet T.F__law_alphabet.kp T.b__law_alphabet .nil pass0) (pg_tup (by rfl) (pgs_cons (pg_name (i := 1) sc__law_is_label.nd rfl (Or.inr rfl)) (pgs_cons (pg_name (i := 2) sc__law_is_label.nd rfl (Or.inr rfl)) (pgs_cons (pg_name (i := 3) sc__law_is_label.nd rfl (Or.inr rfl)) pgs_nil))))) (pss_cons (ps_if (PW.pt (pw_or (pt_not (pt_val (pe_callB call_isi (by rfl) T.m_isinstance (by decide +kernel) (pa_cons (pv 0) (pa_cons (pe_ty (n := "str") (by rfl) T.m_str (by decide +kernel)) pa_nil))))) (pw_or (pt_not (pt_chain op_le op_le pe_int (pe_callB call_lenZ (by rfl) T.m_len PySem.boot_len (pa_cons (pv 0) pa_nil)) pe_int)) (pw_or1 (pt_cmpR op_notInS (pe_ix ix_str (pv 0) pe_int (fun _ _ => rfl)) (pe_op op_addZ (pv 1) (pv 2)) (by rfl)))))) (pss_one (ps_ret pe_bl)) pss_nil) (pss_one (ps_ret (pe_cmpR (op_eqD hr.units) (pe_lc (own := [("sign", 4)]) (g := gName 4) (by rfl) sc__law_is_label.nd (pi_str (pv 0)) (blkOk_by (own := [("sign", 4)]) (N := sN__law_is_label) (sc := defScope s__law_is_label) (by decide +kernel)) (fun _ _ _ _ _ => (pg_name (i := 4) sc__law_is_label.nd rfl (Or.inl rfl))) (fun _ _ _ _ _ => pts_one (pt_cmpR op_notInS (pv 4) (pe_op op_addZ (pe_op op_addZ (pe_op op_addZ (pv 1) (pv 2)) (pv 3)) pe_str) (by rfl))) (fun _ _ _ _ _ => (pv 4))) (pe_lst pa_nil) (nomark _)))))), ?_⟩
    walk_at "go"
    refine ⟨rfl, fun p H1 s1 hp e1 => ?_⟩
    refine g_gtup (SqT.of e1) rfl ?_
    have a1 := a.same s1
    walk_at "go"
    cases c1 : isStrV x with
    | false =>
      refine iteT ?_
      walk_at "go"
      have e : Mk.isLabel x = false := by
        cases x with
        | str s => cases c1
        | _ => rfl
      rw [e] at q
      exact q H1 s1
    | true =>
      refine iteF ?_
      obtain ⟨z, rfl⟩ := Mk.str_of c1
      have hs : z.length ≤ sizeLine := Nat.le_trans (Mk.str_len a) (by decide)
      walk_at "go"
      refine g_lenz hs ?_
      walk_at "go"
      refine g_ifd (fun c2 => ?_) (fun c2 => ?_)
      · walk_at "go"
        refine g_ifn (fun c3 => ?_) (fun c3 => ?_)
        · walk_at "go"
          have e : Mk.isLabel (.str z) = false := by
            show (_ && decide (z.length ≤ 20) && _) = _
            rw [decide_eq_false (show ¬ z.length ≤ 20 by omega), Bool.and_false, Bool.false_and]
          rw [e] at q
          exact q H1 s1
        · walk_at "go"
          obtain ⟨c, r, hc⟩ := len_pos (z := z) (by omega)
          refine g_ixz (c := c) hs (by rw [hc]; exact atI_nat (j := 0) rfl) ?_
          walk_at "go"
          refine g_addz (by decide +kernel) ?_
          walk_at "go"
          have eL : Mk.isLabel (.str z) = (Mk.consists (.str z) (Mk.LADS ++ ("-" : Str)) && decide (c ∈ Mk.LETS.cps.toList)) := by
            show (Mk.consists (.str z) (Mk.LADS ++ ("-" : Str)) && decide (1 ≤ z.length) && decide (z.length ≤ 20) && (match z.cps.toList with | c :: _ => decide (c ∈ Mk.LETS.cps.toList) | [] => false)) = _
            rw [hc, decide_eq_true (show 1 ≤ z.length by omega), decide_eq_true (show z.length ≤ 20 by omega), Bool.and_true, Bool.and_true]
          refine g_ifn (fun c4 => ?_) (fun c4 => ?_)
          · walk_at "go"
            rw [eL, decide_eq_false (show ¬ c ∈ Mk.LETS.cps.toList from fun h => c4 (lets_iff.mpr h)), Bool.and_false] at q
            exact q H1 s1
          · walk_at "go"
            rw [eL, decide_eq_true (show c ∈ Mk.LETS.cps.toList from lets_iff.mp c4), Bool.and_true] at q
            refine ⟨z, rfl, fun D hD => lc_str (fun c => !decide (c ∈ (SMALL ++ GREAT ++ DIGITS ++ ("-" : Str)).cps.toList)) (fun c => V.str ⟨#[c]⟩) (Nat.le_trans (Mk.str_len a) (by decide)) (fun c acc Nx hc k1 k2 => ?_) ?_⟩
            · walk_at "go"
              refine ⟨rfl, ?_⟩
              walk_at "go"
              refine g_addz (by decide +kernel) ?_
              walk_at "go"
              refine g_addz (by decide +kernel) ?_
              walk_at "go"
              refine g_addz (by decide +kernel) ?_
              walk_at "go"
              refine g_ifn (fun h => ?_) (fun h => ?_)
              · walk_at "go"
                exact k1 (by rw [decide_eq_false (show ¬ c ∈ (SMALL ++ GREAT ++ DIGITS ++ ("-" : Str)).cps.toList from h)]; rfl) _ upd_same rfl
              · exact k2 (by rw [decide_eq_true (show c ∈ (SMALL ++ GREAT ++ DIGITS ++ ("-" : Str)).cps.toList from h)]; rfl)
            · walk_at "go"
              refine ⟨Nat.zero_le _, fun p2 h2 => ?_⟩
              have eD := same_new (o := .lst []) h2 D _ upd_same
              have em : ((z.cps.toList.filter fun c => !decide (c ∈ (SMALL ++ GREAT ++ DIGITS ++ ("-" : Str)).cps.toList)).map fun c => V.str ⟨#[c]⟩) = ((z.cps.toList.filter fun c => !decide (c ∈ (SMALL ++ GREAT ++ DIGITS ++ ("-" : Str)).cps.toList)).map fun c => (⟨#[c]⟩ : Str)).map V.str := by
                rw [List.map_map]
                rfl
              refine g_eqd (.lst (SqL.of (eD.trans (congrArg (fun l => some (HO.lst l)) em))) (dp_strs _)) (.lst (SqL.of upd_same) .nil) (shaped_strs ?_) (by decide +kernel) ?_
              · intro y hy
                obtain ⟨c, hc, rfl⟩ := List.mem_map.mp hy
                exact sok_mem (Mk.str_ok a) (List.mem_filter.mp hc).1
              · rw [eqv_nil, List.map_map, empty_not (q := fun c => decide (c ∈ (Mk.LADS ++ ("-" : Str)).cps.toList)) (fun c => by
                  by_cases h : c ∈ (SMALL ++ GREAT ++ DIGITS ++ ("-" : Str)).cps.toList
                  · rw [decide_eq_true h, decide_eq_true (lads_iff.mp h)]
                  · rw [decide_eq_false h, decide_eq_false (fun z => h (lads_iff.mpr z))])]
                exact q _ ((s1.trans (same_new hD)).trans (same_new h2))
      · walk_at "go"
        have e : Mk.isLabel (.str z) = false := by
          show (_ && decide (1 ≤ z.length) && _ && _) = _
          rw [decide_eq_false (show ¬ 1 ≤ z.length by omega), Bool.and_false, Bool.false_and, Bool.false_and]
        refine iteT ?_
        walk_at "go"
        rw [e] at q
        exact q H1 s1
theorem consists_app {z : Str} : Mk.consists (.str z) (Mk.MARKS ++ ("" : Str)) = Mk.isBody (.str z) := by
  show (z.cps.toList.all fun c => decide (c ∈ (Mk.MARKS ++ ("" : Str)).cps.toList)) = (z.cps.toList.all fun c => decide (c ∈ Mk.MARKS.cps.toList))
  congr 1
theorem ok__law_is_atom (T : Txt K mg) : FnOk P w K mg base CX0 2 T.f__law_is_atom T.fd__law_is_atom ["what"] (Mk.spTest Mk.isAtom) := by
  refine T.F__law_is_atom.ok sc__law_is_atom (fun vs H Q E h => ?_) (fun cdv A outer s H vs Q E hr h => ?_)
  · obtain ⟨x, rfl, _⟩ := h
    rfl
  · obtain ⟨x, rfl, a, q⟩ := h
    have hu := hu_of hr
    refine ⟨_, (pss_one (ps_ret (pe_and (pe_call (ok__law_is_string T) (hr.mono (by decide)) (by rfl) T.g__law_is_string T.F__law_is_string.kp T.b__law_is_string .nil pass0 (pa_cons (pv 0) (pa_cons pe_str pa_nil))) (pe_and (pe_cmpR op_ne (pv 0) pe_str (nomark _)) (pe_one (pe_cmpR (op_eqD hr.units) (pe_lc (own := [("sign", 1)]) (g := gName 1) (by rfl) sc__law_is_atom.nd (pi_str (pv 0)) (blkOk_by (own := [("sign", 1)]) (N := sN__law_is_atom) (sc := defScope s__law_is_atom) (by decide +kernel)) (fun _ _ _ _ _ => (pg_name (i := 1) sc__law_is_atom.nd rfl (Or.inl rfl))) (fun _ _ _ _ _ => pts_one (pt_cmpR op_inS (pv 1) pe_str (by rfl))) (fun _ _ _ _ _ => (pv 1))) (pe_lst pa_nil) (nomark _))))))), ?_⟩
    walk_at "go"
    refine ⟨x, _, rfl, a, ?_⟩
    walk_at "go"
    cases c1 : isStrV x with
    | false =>
      rw [Mk.cons_no c1]
      refine iteF ?_
      have e : Mk.isAtom x = false := by
        cases x with
        | str s => cases c1
        | _ => rfl
      rw [e] at q
      exact q H (Same.refl H)
    | true =>
      obtain ⟨z, rfl⟩ := Mk.str_of c1
      rw [consists_app]
      have eA : Mk.isAtom (.str z) = (Mk.isBody (.str z) && decide (z ≠ "") && !(z.cps.toList.any fun c => decide (c ∈ Mk.NOAT.cps.toList))) := rfl
      refine g_if (fun c2 => ?_) (fun c2 => ?_)
      · walk_at "go"
        refine g_ifn (fun c3 => ?_) (fun c3 => ?_)
        · walk_at "go"
          rw [eA, c2, decide_eq_true (show z ≠ "" from fun h => c3 (by rw [h])), Bool.true_and, Bool.true_and] at q
          refine ⟨z, rfl, fun D hD => lc_str (fun c => decide (c ∈ Mk.NOAT.cps.toList)) (fun c => V.str ⟨#[c]⟩) (Nat.le_trans (Mk.str_len a) (by decide)) (fun c acc Nx hc k1 k2 => ?_) ?_⟩
          · walk_at "go"
            refine ⟨rfl, ?_⟩
            walk_at "go"
            refine g_ifd (fun h => ?_) (fun h => ?_)
            · walk_at "go"
              exact k1 (decide_eq_true h) _ upd_same rfl
            · exact k2 (decide_eq_false h)
          · walk_at "go"
            refine ⟨Nat.zero_le _, fun p2 h2 => ?_⟩
            have eD := same_new (o := .lst []) h2 D _ upd_same
            have em : ((z.cps.toList.filter fun c => decide (c ∈ Mk.NOAT.cps.toList)).map fun c => V.str ⟨#[c]⟩) = ((z.cps.toList.filter fun c => decide (c ∈ Mk.NOAT.cps.toList)).map fun c => (⟨#[c]⟩ : Str)).map V.str := by
              rw [List.map_map]
              rfl
            refine g_eqd (.lst (SqL.of (eD.trans (congrArg (fun l => some (HO.lst l)) em))) (dp_strs _)) (.lst (SqL.of upd_same) .nil) (shaped_strs ?_) (by decide +kernel) ?_
            · intro y hy
              obtain ⟨c, hc, rfl⟩ := List.mem_map.mp hy
              exact sok_mem (Mk.str_ok a) (List.mem_filter.mp hc).1
            · rw [eqv_nil, List.map_map, empty_not (q := fun c => !decide (c ∈ Mk.NOAT.cps.toList)) (fun c => by rw [Bool.not_not])]
              have e3 : (z.cps.toList.all fun c => !decide (c ∈ Mk.NOAT.cps.toList)) = !(z.cps.toList.any fun c => decide (c ∈ Mk.NOAT.cps.toList)) := by
                rw [List.not_any_eq_all_not]
              rw [e3]
              exact q _ ((same_new hD).trans (same_new h2))
        · rw [eA, decide_eq_false (show ¬ z ≠ "" from fun h => h (V.str.inj c3)), Bool.and_false, Bool.false_and] at q
          exact q H (Same.refl H)
      · rw [eA, c2, Bool.false_and, Bool.false_and] at q
        exact q H (Same.refl H)
theorem ok__law_is_code (T : Txt K mg) : FnOk P w K mg base CX0 1 T.f__law_is_code T.fd__law_is_code ["what"] (Mk.spTest Mk.isCode) := by
  refine T.F__law_is_code.ok sc__law_is_code (fun vs H Q E h => ?_) (fun cdv A outer s H vs Q E hr h => ?_)
  · obtain ⟨x, rfl, _⟩ := h
    rfl
  · obtain ⟨x, rfl, a, q⟩ := h
    have hu := hu_of hr
    refine ⟨_, (pss_cons (ps_if (PW.pt (pw_or (pt_not (pt_val (pe_callB call_isi (by rfl) T.m_isinstance (by decide +kernel) (pa_cons (pv 0) (pa_cons (pe_ty (n := "int") (by rfl) T.m_int (by decide +kernel)) pa_nil))))) (pw_or1 (pt_val (pe_callB call_isi (by rfl) T.m_isinstance (by decide +kernel) (pa_cons (pv 0) (pa_cons (pe_ty (n := "bool") (by rfl) T.m_bool (by decide +kernel)) pa_nil))))))) (pss_one (ps_ret pe_bl)) pss_nil) (pss_one (ps_ret (pe_or (pe_and (pe_chain op_le op_le pe_int (pv 0) pe_int) (pe_one (pe_cmpR op_ne (pv 0) pe_int (nomark _)))) (pe_one (pe_chain op_le op_le pe_int (pv 0) pe_int)))))), ?_⟩
    walk_at "go"
    cases c1 : isIntV x with
    | false =>
      refine iteT ?_
      walk_at "go"
      have e : Mk.isCode x = false := by
        show ((Mk.btw x 32 126 && _) || Mk.btw x 160 65535) = false
        rw [Mk.btw_no c1, Mk.btw_no c1]; rfl
      rw [e] at q
      exact q H (Same.refl H)
    | true =>
      refine iteF ?_
      walk_at "go"
      cases c2 : isBlV x with
      | true =>
        refine iteT ?_
        walk_at "go"
        have e : Mk.isCode x = false := by
          show ((Mk.btw x 32 126 && _) || Mk.btw x 160 65535) = false
          rw [Mk.btw_bl c2, Mk.btw_bl c2]; rfl
        rw [e] at q
        exact q H (Same.refl H)
      | false =>
        refine iteF ?_
        obtain ⟨i, rfl⟩ := Mk.int_of c1 c2
        have eC : Mk.isCode (.int i) = ((decide (32 ≤ i) && decide (i ≤ 126) && !decide (V.int i = V.int 37)) || (decide (160 ≤ i) && decide (i ≤ 65535))) := rfl
        have last : ∀ {b : Bool}, (decide (32 ≤ i) && decide (i ≤ 126) && !decide (V.int i = V.int 37)) = b → b = false → ∀ b2, (decide (160 ≤ i) && decide (i ≤ 65535)) = b2 → Q (.bl b2) H := by
          intro b h1 h2 b2 h3
          rw [eC, h1, h2, h3, Bool.false_or] at q
          exact q H (Same.refl H)
        walk_at "go"
        refine g_ifd (fun h1 => ?_) (fun h1 => ?_)
        · walk_at "go"
          refine g_ifd (fun h2 => ?_) (fun h2 => ?_)
          · walk_at "go"
            refine g_ifn (fun h3 => ?_) (fun h3 => ?_)
            · rw [eC, decide_eq_true h1, decide_eq_true h2, decide_eq_false h3] at q
              exact q H (Same.refl H)
            · walk_at "go"
              refine g_ifd (fun h4 => ?_) (fun h4 => ?_)
              · walk_at "go"
                exact last (by rw [decide_eq_true h3]; exact Bool.and_false _) rfl _ (by rw [decide_eq_true h4, Bool.true_and])
              · exact last (by rw [decide_eq_true h3]; exact Bool.and_false _) rfl _ (by rw [decide_eq_false h4, Bool.false_and])
          · walk_at "go"
            refine g_ifd (fun h4 => ?_) (fun h4 => ?_)
            · walk_at "go"
              exact last (by rw [decide_eq_false h2, Bool.and_false, Bool.false_and]) rfl _ (by rw [decide_eq_true h4, Bool.true_and])
            · exact last (by rw [decide_eq_false h2, Bool.and_false, Bool.false_and]) rfl _ (by rw [decide_eq_false h4, Bool.false_and])
        · walk_at "go"
          refine g_ifd (fun h4 => ?_) (fun h4 => ?_)
          · walk_at "go"
            exact last (by rw [decide_eq_false h1, Bool.false_and, Bool.false_and]) rfl _ (by rw [decide_eq_true h4, Bool.true_and])
          · exact last (by rw [decide_eq_false h1, Bool.false_and, Bool.false_and]) rfl _ (by rw [decide_eq_false h4, Bool.false_and])
end
section
variable {P : Program} {w : World} {K : PySem.W.Frag} {mg : Str → Option Value} {base : Heap}
theorem kw_is_body_thing (T : Txt K mg) : KwB K T.fd_is_body ["thing"] ["thing"] [0] := T.F_is_body.kwb rfl fun _ _ _ _ _ _ us hl => match us, hl with | [_], _ => rfl
theorem kw_is_raw_thing (T : Txt K mg) : KwB K T.fd_is_raw ["thing"] ["thing"] [0] := T.F_is_raw.kwb rfl fun _ _ _ _ _ _ us hl => match us, hl with | [_], _ => rfl
theorem kw_is_code_thing (T : Txt K mg) : KwB K T.fd_is_code ["thing"] ["thing"] [0] := T.F_is_code.kwb rfl fun _ _ _ _ _ _ us hl => match us, hl with | [_], _ => rfl
theorem kw_is_label_thing (T : Txt K mg) : KwB K T.fd_is_label ["thing"] ["thing"] [0] := T.F_is_label.kwb rfl fun _ _ _ _ _ _ us hl => match us, hl with | [_], _ => rfl
theorem kw_is_atom_thing (T : Txt K mg) : KwB K T.fd_is_atom ["thing"] ["thing"] [0] := T.F_is_atom.kwb rfl fun _ _ _ _ _ _ us hl => match us, hl with | [_], _ => rfl
theorem bools_ok : ∀ b1 b2 b3 b4 b5 : Bool, (PyData.list ([b1, b2, b3, b4, b5].map PyData.bool)).showable = true ∧ (PyData.list ([b1, b2, b3, b4, b5].map PyData.bool)).hasDict = false ∧ (PyData.list ([b1, b2, b3, b4, b5].map PyData.bool)).depth ≤ 20 ∧ (PyData.list ([b1, b2, b3, b4, b5].map PyData.bool)).shown.length ≤ sizeLine := by decide +kernel
theorem cons0 {x : V} : Mk.consists x (Mk.MARKS ++ ("" : Str)) = Mk.isBody x := by
  cases x with
  | str z => exact consists_app
  | _ => rfl
def spRight : Sp := fun vs H Q _ => ∃ x : V, vs = [x] ∧ AnyO H x ∧ ∀ H', Same H H' → Q (.bl true) H'
theorem ok__law_right (T : Txt K mg) : FnG P w K mg base CX0 5 T.f__law_right T.fd__law_right ["what"] (spRight) := by
  refine T.F__law_right.okG sc__law_right (fun vs H Q E h => ?_) (fun cdv A hG outer s H vs Q E hr h => ?_)
  · obtain ⟨x, rfl, _⟩ := h
    rfl
  · obtain ⟨x, rfl, a, q⟩ := h
    have hu := hu_of hr
    refine ⟨_, (pss_cons (ps_set (i := 1) sc__law_right.nd rfl (Or.inl rfl) (pe_lst (pa_cons (pe_call (ok__law_is_string T) (hr.mono (by decide)) (by rfl) T.g__law_is_string T.F__law_is_string.kp T.b__law_is_string .nil pass0 (pa_cons (pv 0) (pa_cons pe_str pa_nil))) (pa_cons (pe_call (ok__law_is_string T) (hr.mono (by decide)) (by rfl) T.g__law_is_string T.F__law_is_string.kp T.b__law_is_string .nil pass0 (pa_cons (pv 0) (pa_cons pe_str pa_nil))) (pa_cons (pe_call (ok__law_is_code T) (hr.mono (by decide)) (by rfl) T.g__law_is_code T.F__law_is_code.kp T.b__law_is_code .nil pass0 (pa_cons (pv 0) pa_nil)) (pa_cons (pe_call (ok__law_is_label T) (hr.mono (by decide)) (by rfl) T.g__law_is_label T.F__law_is_label.kp T.b__law_is_label .nil pass0 (pa_cons (pv 0) pa_nil)) pa_nil)))))) (pss_cons (ps_expr (pe_bm PySem.F.plainAttrs_list PySem.F.slot_list_append PySem.F.type_list_append mt_append (pv 1) (pa_cons (pe_call (ok__law_is_atom T) (hr.mono (by decide)) (by rfl) T.g__law_is_atom T.F__law_is_atom.kp T.b__law_is_atom .nil pass0 (pa_cons (pv 0) pa_nil)) pa_nil))) (pss_cons (ps_if (pt_cmpR op_ne (pe_callB (call_repr hG hr.units) (by rfl) T.m_repr (by decide +kernel) (pa_cons (pe_lst (pa_cons (pe_call (ok_is_body T) (hr.mono (by decide)) (by rfl) T.g_is_body T.F_is_body.kp T.b_is_body .nil pass0 (pa_cons (pv 0) pa_nil)) (pa_cons (pe_call (ok_is_raw T) (hr.mono (by decide)) (by rfl) T.g_is_raw T.F_is_raw.kp T.b_is_raw .nil pass0 (pa_cons (pv 0) pa_nil)) (pa_cons (pe_call (ok_is_code T) (hr.mono (by decide)) (by rfl) T.g_is_code T.F_is_code.kp T.b_is_code .nil pass0 (pa_cons (pv 0) pa_nil)) (pa_cons (pe_call (ok_is_label T) (hr.mono (by decide)) (by rfl) T.g_is_label T.F_is_label.kp T.b_is_label .nil pass0 (pa_cons (pv 0) pa_nil)) (pa_cons (pe_call (ok_is_atom T) (hr.mono (by decide)) (by rfl) T.g_is_atom T.F_is_atom.kp T.b_is_atom .nil pass0 (pa_cons (pv 0) pa_nil)) pa_nil)))))) pa_nil)) (pe_callB (call_repr hG hr.units) (by rfl) T.m_repr (by decide +kernel) (pa_cons (pv 1) pa_nil)) (nomark _)) (pss_one (ps_ret pe_bl)) pss_nil) (pss_cons (ps_set (i := 2) sc__law_right.nd rfl (Or.inl rfl) (pe_lst (pa_cons (pe_kw0 (ok_is_body T) (hr.mono (by decide)) (by rfl) T.g_is_body T.F_is_body.kp (kw_is_body_thing T) pass0 (pk_cons (pv 0) pk_nil)) (pa_cons (pe_kw0 (ok_is_raw T) (hr.mono (by decide)) (by rfl) T.g_is_raw T.F_is_raw.kp (kw_is_raw_thing T) pass0 (pk_cons (pv 0) pk_nil)) (pa_cons (pe_kw0 (ok_is_code T) (hr.mono (by decide)) (by rfl) T.g_is_code T.F_is_code.kp (kw_is_code_thing T) pass0 (pk_cons (pv 0) pk_nil)) (pa_cons (pe_kw0 (ok_is_label T) (hr.mono (by decide)) (by rfl) T.g_is_label T.F_is_label.kp (kw_is_label_thing T) pass0 (pk_cons (pv 0) pk_nil)) pa_nil)))))) (pss_one (ps_ret (pe_cmpR op_eq (pe_callB (call_repr hG hr.units) (by rfl) T.m_repr (by decide +kernel) (pa_cons (pe_op op_catS (pv 2) (pe_lst (pa_cons (pe_kw0 (ok_is_atom T) (hr.mono (by decide)) (by rfl) T.g_is_atom T.F_is_atom.kp (kw_is_atom_thing T) pass0 (pk_cons (pv 0) pk_nil)) pa_nil))) pa_nil)) (pe_callB (call_repr hG hr.units) (by rfl) T.m_repr (by decide +kernel) (pa_cons (pv 1) pa_nil)) (nomark _)))))))), ?_⟩
    walk_at "go"
    refine ⟨x, _, rfl, a, ?_⟩
    walk_at "go"
    refine ⟨x, _, rfl, a, ?_⟩
    walk_at "go"
    refine ⟨x, rfl, a, fun H1 s1 => ?_⟩
    walk_at "go"
    refine ⟨x, rfl, a.same s1, fun H2 s2 => ?_⟩
    walk_at "go"
    refine ⟨by show 4 ≤ sizeLine; decide, fun p hp => ?_⟩
    have s3 := (s1.trans s2).trans (same_new (o := .lst [.bl (Mk.consists x (Mk.MARKS ++ ("" : Str))), .bl (Mk.consists x (Mk.MARKS ++ ("\n" : Str))), .bl (Mk.isCode x), .bl (Mk.isLabel x)]) hp)
    walk_at "go"
    refine ⟨ty_list upd_same, ?_⟩
    walk_at "go"
    refine ⟨x, rfl, a.same s3, fun H4 s4 => ?_⟩
    walk_at "go"
    refine g_append (s4 _ _ upd_same) (by show 4 < sizeLine; decide) ?_
    have s5 := (s3.trans s4).mut (o := .lst [.bl (Mk.consists x (Mk.MARKS ++ ("" : Str))), .bl (Mk.consists x (Mk.MARKS ++ ("\n" : Str))), .bl (Mk.isCode x), .bl (Mk.isLabel x), .bl (Mk.isAtom x)]) ((s1.trans s2).free hp)
    rw [cons0] at s5 ⊢
    have eP : (upd H4 p (.lst ([.bl (Mk.isBody x), .bl (Mk.consists x (Mk.MARKS ++ ("\n" : Str))), .bl (Mk.isCode x), .bl (Mk.isLabel x)] ++ [.bl (Mk.isAtom x)]))) p = some (.lst ([Mk.isBody x, Mk.isRaw x, Mk.isCode x, Mk.isLabel x, Mk.isAtom x].map V.bl)) := upd_same
    obtain ⟨k1, k2, k3, k4⟩ := bools_ok (Mk.isBody x) (Mk.isRaw x) (Mk.isCode x) (Mk.isLabel x) (Mk.isAtom x)
    walk_at "go"
    refine ⟨x, rfl, a.same s5, fun H6 s6 => ?_⟩
    walk_at "go"
    refine ⟨x, rfl, a.same (s5.trans s6), fun H7 s7 => ?_⟩
    walk_at "go"
    refine ⟨x, rfl, a.same ((s5.trans s6).trans s7), fun H8 s8 => ?_⟩
    walk_at "go"
    refine ⟨x, rfl, a.same (((s5.trans s6).trans s7).trans s8), fun H9 s9 => ?_⟩
    walk_at "go"
    have s59 := ((s6.trans s7).trans s8).trans s9
    refine ⟨x, rfl, a.same (s5.trans s59), fun HA sA => ?_⟩
    walk_at "go"
    refine ⟨by show 5 ≤ sizeLine; decide, fun p2 hp2 => ?_⟩
    walk_at "go"
    have sB := (s59.trans sA).trans (same_new (o := .lst [.bl (Mk.isBody x), .bl (Mk.isRaw x), .bl (Mk.isCode x), .bl (Mk.isLabel x), .bl (Mk.isAtom x)]) hp2)
    refine g_repr (d := .list ([Mk.isBody x, Mk.isRaw x, Mk.isCode x, Mk.isLabel x, Mk.isAtom x].map PyData.bool)) (.lst (SqL.of upd_same) (dp_bools [Mk.isBody x, Mk.isRaw x, Mk.isCode x, Mk.isLabel x, Mk.isAtom x])) k1 k2 k3 k4 ?_
    walk_at "go"
    refine g_repr (d := .list ([Mk.isBody x, Mk.isRaw x, Mk.isCode x, Mk.isLabel x, Mk.isAtom x].map PyData.bool)) (.lst (SqL.of (sB _ _ eP)) (dp_bools [Mk.isBody x, Mk.isRaw x, Mk.isCode x, Mk.isLabel x, Mk.isAtom x])) k1 k2 k3 k4 ?_
    walk_at "go"
    refine g_ifn (fun h => absurd rfl h) (fun _ => ?_)
    have t0 := s5.trans sB
    walk_at "go"
    refine ⟨rfl, x, rfl, a.same t0, fun J1 r1 => ?_⟩
    walk_at "go"
    refine ⟨rfl, x, rfl, a.same (t0.trans r1), fun J2 r2 => ?_⟩
    walk_at "go"
    refine ⟨rfl, x, rfl, a.same ((t0.trans r1).trans r2), fun J3 r3 => ?_⟩
    walk_at "go"
    refine ⟨rfl, x, rfl, a.same (((t0.trans r1).trans r2).trans r3), fun J4 r4 => ?_⟩
    walk_at "go"
    refine ⟨by show 4 ≤ sizeLine; decide, fun p3 hp3 => ?_⟩
    have r5 := (((r1.trans r2).trans r3).trans r4).trans (same_new (o := .lst [.bl (Mk.isBody x), .bl (Mk.isRaw x), .bl (Mk.isCode x), .bl (Mk.isLabel x)]) hp3)
    walk_at "go"
    refine ⟨rfl, x, rfl, a.same (t0.trans r5), fun J6 r6 => ?_⟩
    walk_at "go"
    refine ⟨by show 1 ≤ sizeLine; decide, fun p4 hp4 => ?_⟩
    walk_at "go"
    refine g_cats (xs := [.bl (Mk.isBody x), .bl (Mk.isRaw x), .bl (Mk.isCode x), .bl (Mk.isLabel x)]) (SqL.of (same_new hp4 _ _ (r6 _ _ upd_same))) (SqL.of upd_same) (by show 5 ≤ sizeLine; decide) fun p5 hp5 => ?_
    walk_at "go"
    have r7 := ((r5.trans r6).trans (same_new (o := .lst [.bl (Mk.isAtom x)]) hp4)).trans (same_new (o := .lst ([.bl (Mk.isBody x), .bl (Mk.isRaw x), .bl (Mk.isCode x), .bl (Mk.isLabel x)] ++ [.bl (Mk.isAtom x)])) hp5)
    refine g_repr (d := .list ([Mk.isBody x, Mk.isRaw x, Mk.isCode x, Mk.isLabel x, Mk.isAtom x].map PyData.bool)) (.lst (SqL.of upd_same) (dp_bools [Mk.isBody x, Mk.isRaw x, Mk.isCode x, Mk.isLabel x, Mk.isAtom x])) k1 k2 k3 k4 ?_
    walk_at "go"
    refine g_repr (d := .list ([Mk.isBody x, Mk.isRaw x, Mk.isCode x, Mk.isLabel x, Mk.isAtom x].map PyData.bool)) (.lst (SqL.of (r7 _ _ (sB _ _ eP))) (dp_bools [Mk.isBody x, Mk.isRaw x, Mk.isCode x, Mk.isLabel x, Mk.isAtom x])) k1 k2 k3 k4 ?_
    walk_at "go"
    rw [decide_eq_true rfl]
    exact q _ (t0.trans r7)
end
section
variable {P : Program} {w : World} {K : PySem.W.Frag} {mg : Str → Option Value} {base : Heap}
def spMarks : Sp := fun vs H Q _ => vs = [] ∧ ∀ H', Same H H' → Q (.bl true) H'
theorem mk_up : ∀ k : Nat, k < 93 → ∃ a b, Mk.MARKS.cps.toList[k]? = some a ∧ Mk.MARKS.cps.toList[k + 1]? = some b ∧ a < b := by
  have h : ∀ k : Fin 93, (Mk.MARKS.cps.toList.getD k.val 0 < Mk.MARKS.cps.toList.getD (k.val + 1) 0) := by decide +kernel
  have hl : Mk.MARKS.cps.toList.length = 94 := by decide +kernel
  intro k hk
  have h1 : k < Mk.MARKS.cps.toList.length := by omega
  have h2 : k + 1 < Mk.MARKS.cps.toList.length := by omega
  refine ⟨_, _, List.getElem?_eq_getElem h1, List.getElem?_eq_getElem h2, ?_⟩
  have := h ⟨k, hk⟩
  rw [List.getD_eq_getElem?_getD, List.getD_eq_getElem?_getD, List.getElem?_eq_getElem h1, List.getElem?_eq_getElem h2] at this
  exact this
def REST : Str := "!\"#$&'()*+,-./:;<=>?\x40[\\]^`{|}_"
theorem ok__law_marks_right (T : Txt K mg) : FnOk P w K mg base CX0 2 T.f__law_marks_right T.fd__law_marks_right [] (spMarks) := by
  refine T.F__law_marks_right.ok sc__law_marks_right (fun vs H Q E h => ?_) (fun cdv A outer s H vs Q E hr h => ?_)
  · obtain ⟨rfl, _⟩ := h
    rfl
  · obtain ⟨rfl, q⟩ := h
    have hu := hu_of hr
    refine ⟨_, (pss_cons (ps_if (PW.pt (pw_or (pt_cmpR op_ne (pe_callB call_lenZ (by rfl) T.m_len PySem.boot_len (pa_cons (pe_gs (by rfl) T.g_MARKS) pa_nil)) pe_int (nomark _)) (pw_or (pt_cmpR op_ne (pe_ix ix_str (pe_gs (by rfl) T.g_MARKS) pe_int (fun _ _ => rfl)) pe_str (nomark _)) (pw_or (pt_cmpR op_ne (pe_ix ix_str (pe_gs (by rfl) T.g_MARKS) (pe_un un_neg pe_int) (fun _ _ => rfl)) pe_str (nomark _)) (pw_or1 (pt_cmpR op_inS pe_str (pe_gs (by rfl) T.g_MARKS) (by rfl))))))) (pss_one (ps_ret pe_bl)) pss_nil) (pss_cons (ps_for PassesOwn.never (by rfl) (pi_range1 (by rfl) T.m_range (pa_cons pe_int pa_nil)) (pg_name (i := 0) sc__law_marks_right.nd rfl (Or.inl rfl)) (pss_one (ps_if (pt_not (pt_cmpR op_ltZ (pe_ix ix_str (pe_gs (by rfl) T.g_MARKS) (pv 0) (fun _ _ => rfl)) (pe_ix ix_str (pe_gs (by rfl) T.g_MARKS) (pe_op op_add (pv 0) pe_int) (fun _ _ => rfl)) (nomark _))) (pss_one (ps_ret pe_bl)) pss_nil))) (pss_cons (ps_asg (pe_call0 (ok__law_alphabet T) (hr.mono (by decide)) (by rfl) T.g__law_alphabet T.F__law_alphabet.kp T.b__law_alphabet .nil pass0) (pg_tup (by rfl) (pgs_cons (pg_name (i := 1) sc__law_marks_right.nd rfl (Or.inl rfl)) (pgs_cons (pg_name (i := 2) sc__law_marks_right.nd rfl (Or.inl rfl)) (pgs_cons (pg_name (i := 3) sc__law_marks_right.nd rfl (Or.inl rfl)) pgs_nil))))) (pss_cons (ps_set (i := 4) sc__law_marks_right.nd rfl (Or.inl rfl) pe_str) (pss_one (ps_ret (pe_cmpR (op_eqD hr.units) (pe_lc (own := [("sign", 5)]) (g := gName 5) (by rfl) sc__law_marks_right.nd (pi_str (pe_op op_addZ (pe_op op_addZ (pe_op op_addZ (pv 1) (pv 2)) (pv 3)) (pv 4))) (blkOk_by (own := [("sign", 5)]) (N := sN__law_marks_right) (sc := defScope s__law_marks_right) (by decide +kernel)) (fun _ _ _ _ _ => (pg_name (i := 5) sc__law_marks_right.nd rfl (Or.inl rfl))) (fun _ _ _ _ _ => pts_one (pt_cmpR op_notInS (pv 5) (pe_gs (by rfl) T.g_MARKS) (by rfl))) (fun _ _ _ _ _ => (pv 5))) (pe_lst pa_nil) (nomark _)))))))), ?_⟩
    walk_at "go"
    refine g_lenz (by decide +kernel) ?_
    walk_at "go"
    refine g_ifn (fun h => absurd (by decide +kernel) h) (fun _ => ?_)
    walk_at "go"
    refine g_ixz (c := 32) (by decide +kernel) (by decide +kernel) ?_
    walk_at "go"
    refine g_ifn (fun h => absurd (by decide +kernel) h) (fun _ => ?_)
    walk_at "go"
    refine g_ixz (c := 126) (by decide +kernel) (by decide +kernel) ?_
    walk_at "go"
    refine g_ifn (fun h => absurd (by decide +kernel) h) (fun _ => ?_)
    walk_at "go"
    refine g_ifd (fun h => absurd h (by decide +kernel)) (fun _ => ?_)
    walk_at "go"
    refine ⟨93, rfl, by decide, by decide, for_range (fun i σ H2 => H2 = H ∧ ∃ k, σ = [k, none, none, none, none, none]) ⟨rfl, none, rfl⟩ ?_ ?_⟩
    · rintro i σ H2 hi ⟨rfl, k, rfl⟩
      obtain ⟨c1, c2, e1, e2, hlt⟩ := mk_up i (by have : (93 : Int).toNat = 93 := rfl; omega)
      have z0 : (0 : Int) + (i : Int) = ((i : Nat) : Int) := by omega
      have z1 : (0 : Int) + (i : Int) + 1 = ((i + 1 : Nat) : Int) := by omega
      walk_at "go"
      refine g_ixz (c := c1) (by decide +kernel) (by rw [z0]; exact atI_nat e1) ?_
      walk_at "go"
      refine g_ixz (c := c2) (by decide +kernel) (by rw [z1]; exact atI_nat e2) ?_
      walk_at "go"
      rw [decide_eq_true (one_lt.mpr hlt : (⟨#[c1]⟩ : Str).cps.toList < (⟨#[c2]⟩ : Str).cps.toList)]
      refine iteF ?_
      walk_at "go"
      exact ⟨rfl, _, rfl⟩
    · rintro σ H2 ⟨rfl, k, rfl⟩
      walk_at "go"
      refine ⟨rfl, fun p H1 s1 hp e1 => ?_⟩
      refine g_gtup (SqT.of e1) rfl ?_
      walk_at "go"
      refine g_addz (by decide +kernel) ?_
      walk_at "go"
      refine g_addz (by decide +kernel) ?_
      walk_at "go"
      refine g_addz (by decide +kernel) ?_
      walk_at "go"
      refine ⟨_, rfl, fun D hD => lc_str (fun _ => false) (fun c => V.str ⟨#[c]⟩) (by decide +kernel) (fun c acc Nx hc k1 k2 => ?_) ?_⟩
      · have hm : c ∈ Mk.MARKS.cps.toList := (by decide +kernel : ∀ c ∈ (SMALL ++ GREAT ++ DIGITS ++ REST).cps.toList, c ∈ Mk.MARKS.cps.toList) c hc
        walk_at "go"
        refine ⟨rfl, ?_⟩
        walk_at "go"
        refine g_ifn (fun h => absurd hm h) (fun _ => ?_)
        exact k2 rfl
      · walk_at "go"
        refine ⟨Nat.zero_le _, fun p2 h2 => ?_⟩
        have eD := same_new (o := .lst []) h2 D _ upd_same
        have em : (((SMALL ++ GREAT ++ DIGITS ++ REST).cps.toList.filter fun _ => false).map fun c => V.str ⟨#[c]⟩) = [] := by rw [List.filter_eq_nil_iff.mpr fun _ _ => Bool.false_ne_true]; rfl
        refine g_eqd (.lst (SqL.of (eD.trans (congrArg (fun l => some (HO.lst l)) em))) .nil) (.lst (SqL.of upd_same) .nil) (by decide +kernel) (by decide +kernel) ?_
        exact q _ ((s1.trans (same_new hD)).trans (same_new h2))
def spLaw (K : PySem.W.Frag) : Sp := fun vs H Q _ => ∃ (a : Addr) (ns : List Int), vs = [.ref a] ∧ SqL K H a (ns.map V.int) ∧ ns.length ≤ 63 ∧ ∀ H', Q (.bl true) H'
theorem ok_law (T : Txt K mg) : FnG P w K mg base CX0 6 T.f_law T.fd_law ["script"] (spLaw K) := by
  refine T.F_law.okG sc_law (fun vs H Q E h => ?_) (fun cdv A hG outer s H vs Q E hr h => ?_)
  · obtain ⟨a, ns, rfl, _⟩ := h
    rfl
  · obtain ⟨a, ns, rfl, hS, hl, q⟩ := h
    have hu := hu_of hr
    refine ⟨_, (pss_cons (ps_set (i := 1) sc_law.nd rfl (Or.inl rfl) (pe_call (ok__law_begin T) (hr.mono (by decide)) (by rfl) T.g__law_begin T.F__law_begin.kp T.b__law_begin .nil pass0 (pa_cons (pv 0) pa_nil))) (pss_cons (ps_if (pt_not (pt_val (pe_call0 (ok__law_marks_right T) (hr.mono (by decide)) (by rfl) T.g__law_marks_right T.F__law_marks_right.kp T.b__law_marks_right .nil pass0))) (pss_one (ps_ret pe_bl)) pss_nil) (pss_cons (ps_for PassesOwn.never (by rfl) (pi_range1 (by rfl) T.m_range (pa_cons (pe_callB (call_min1 (by rfl)) (by rfl) T.m_min (by decide +kernel) (pa_cons pe_int (pa_cons (pe_op op_add pe_int (pe_callB call_len1 (by rfl) T.m_len PySem.boot_len (pa_cons (pv 0) pa_nil))) pa_nil))) pa_nil)) (pg_name (i := 2) sc_law.nd rfl (Or.inl rfl)) (pss_one (ps_for PassesOwn.never (by rfl) (pi_list (pe_lst (pa_cons (pe_call (ok__law_string T) (hr.mono (by decide)) (by rfl) T.g__law_string T.F__law_string.kp T.b__law_string .nil pass0 (pa_cons (pv 1) pa_nil)) (pa_cons (pe_call (ok__law_thing T) (hr.mono (by decide)) (by rfl) T.g__law_thing T.F__law_thing.kp T.b__law_thing .nil pass0 (pa_cons (pv 1) pa_nil)) (pa_cons (pe_call (ok__law_thing T) (hr.mono (by decide)) (by rfl) T.g__law_thing T.F__law_thing.kp T.b__law_thing .nil pass0 (pa_cons (pv 1) pa_nil)) (pa_cons (pe_call (ok__law_number T) (hr.mono (by decide)) (by rfl) T.g__law_number T.F__law_number.kp T.b__law_number .nil pass0 (pa_cons (pv 1) pa_nil)) (pa_cons (pe_call (ok__law_number T) (hr.mono (by decide)) (by rfl) T.g__law_number T.F__law_number.kp T.b__law_number .nil pass0 (pa_cons (pv 1) pa_nil)) pa_nil))))))) (pg_name (i := 3) sc_law.nd rfl (Or.inl rfl)) (pss_one (ps_if (pt_not (pt_val (pe_callG (ok__law_right T) hG (hr.mono (by decide)) (by rfl) T.g__law_right T.F__law_right.kp T.b__law_right .nil pass0 (pa_cons (pv 3) pa_nil)))) (pss_one (ps_ret pe_bl)) pss_nil))))) (pss_one (ps_ret pe_bl))))), ?_⟩
    walk_at "go"
    refine ⟨a, ns, rfl, hS, hl, fun d l H1 hd hl0 D1 s1 => ?_⟩
    walk_at "go"
    refine ⟨rfl, fun H2 s2 => ?_⟩
    walk_at "go"
    have D2 := D1.same s2
    refine iteF ?_
    walk_at "go"
    refine g_len (s2.seq (Same.seq s1 hS)) ?_
    walk_at "go"
    have hj : ∀ j : Int, j = (if (6 : Int) + ((ns.map V.int).length : Int) < 24 then (6 : Int) + ((ns.map V.int).length : Int) else 24) → 0 ≤ j ∧ j ≤ 24 := by
      intro j hj
      subst hj
      split <;> omega
    generalize (if (6 : Int) + ((ns.map V.int).length : Int) < 24 then (6 : Int) + ((ns.map V.int).length : Int) else 24) = j at hj ⊢
    obtain ⟨j0, j1⟩ := hj j rfl
    refine ⟨j, rfl, by omega, by omega, for_range (fun i σ H3 => (∃ y1 y2, σ = [some (.ref a), some (.ref d), y1, y2]) ∧ Dr.Draw H3 d l (200 * i)) ⟨⟨none, none, rfl⟩, D2⟩ ?_ ?_⟩
    · rintro i σ H3 hi ⟨⟨y1, y2, rfl⟩, D3⟩
      walk_at "go"
      refine ⟨d, l, _, rfl, D3, by omega, fun z1 H4 hz1 oz1 D4 K4 => ?_⟩
      walk_at "go"
      refine ⟨d, l, _, rfl, D4, by omega, fun x2 H5 a2 n2 D5 K5 => ?_⟩
      walk_at "go"
      refine ⟨d, l, _, rfl, D5, by omega, fun x3 H6 a3 n3 D6 K6 => ?_⟩
      walk_at "go"
      refine ⟨d, l, _, rfl, D6, by omega, fun i4 H7 D7 K7 => ?_⟩
      walk_at "go"
      refine ⟨d, l, _, rfl, D7, by omega, fun i5 H8 D8 K8 => ?_⟩
      walk_at "go"
      refine ⟨by show 5 ≤ sizeLine; decide, fun p hp => ?_⟩
      have npd := D8.ne hp
      have all : ∀ v ∈ [V.str z1, x2, x3, V.int i4, V.int i5], AnyO (upd H8 p (.lst [.str z1, x2, x3, .int i4, .int i5])) v := by
        refine fm_cons (.str _ (by omega) oz1) (fm_cons ?_ (fm_cons ?_ (fm_cons (.int _) (fm_cons (.int _) fm_nil))))
        · exact ((((a2.kp K6 n2).kp K7 n2).kp K8 n2).kp (Dr.Kp.new hp) n2)
        · exact (((a3.kp K7 n3).kp K8 n3).kp (Dr.Kp.new hp) n3)
      have D9 := D8.upd (o := .lst [.str z1, x2, x3, .int i4, .int i5]) hp
      refine ⟨p, rfl, ⟨_, SqL.of upd_same⟩, for_list (K := K) (a := p) (xs := [V.str z1, x2, x3, V.int i4, V.int i5]) (fun _ σ H9 => (∃ y1 y2, σ = [some (.ref a), some (.ref d), y1, y2]) ∧ Same (upd H8 p (.lst [.str z1, x2, x3, .int i4, .int i5])) H9) ⟨⟨_, _, rfl⟩, Same.refl _⟩ (fun _ _ H9 _ h => SqL.of (h.2 _ _ upd_same)) ?_ ?_⟩
      · rintro k x σ H9 hk ⟨⟨y3, y4, rfl⟩, s9⟩
        walk_at "go"
        refine ⟨x, rfl, (all x (List.mem_of_getElem? hk)).same s9, fun HA sA => ?_⟩
        walk_at "go"
        refine iteF ?_
        walk_at "go"
        exact ⟨⟨_, _, rfl⟩, s9.trans sA⟩
      · rintro σ H9 ⟨⟨y3, y4, rfl⟩, s9⟩
        exact ⟨⟨_, _, rfl⟩, (D9.same s9).mono (by omega)⟩
    · rintro σ H3 ⟨⟨y1, y2, rfl⟩, D3⟩
      walk_at "go"
      exact q H3
end
theorem all_mk {P : Program} {w : World} {K : PySem.W.Frag} {h : Heap} {mg : Str → Option Value} {fa f0 f1 f2 f3 f4 f5 f6 f7 f8 f9 f10 f11 f12 f13 f14 f15 f16 f17 f18 f19 f20 f21 f22 : Addr} {t0 t1 t2 t3 t4 t5 : Tok} (X : K.In h) (G : h.Ns mainGlobals mg) (hfa : mg "law" = some (.ref fa))
    {od0 an0 od1 an1 od2 an2 od3 an3 od4 an4 od5 an5 od6 an6 od7 an7 od8 an8 od9 an9 od10 an10 od11 an11 od12 an12 od13 an13 od14 an14 od15 an15 od16 an16 od17 an17 od18 an18 od19 an19 od20 an20 od21 an21 od22 an22 : Option Addr} {sl0 sl1 sl2 sl3 sl4 sl5 sl6 sl7 sl8 sl9 sl10 sl11 sl12 sl13 sl14 sl15 sl16 sl17 sl18 sl19 sl20 sl21 sl22 : Array (Option Value)} {oc0 kV0 dc0 pm0 cd0 ct0 oc1 kV1 dc1 pm1 cd1 ct1 oc2 kV2 dc2 pm2 cd2 ct2 oc3 kV3 dc3 pm3 cd3 ct3 oc4 kV4 dc4 pm4 cd4 ct4 oc5 kV5 dc5 pm5 cd5 ct5 oc6 kV6 dc6 pm6 cd6 ct6 oc7 kV7 dc7 pm7 cd7 ct7 oc8 kV8 dc8 pm8 cd8 ct8 oc9 kV9 dc9 pm9 cd9 ct9 oc10 kV10 dc10 pm10 cd10 ct10 oc11 kV11 dc11 pm11 cd11 ct11 oc12 kV12 dc12 pm12 cd12 ct12 oc13 kV13 dc13 pm13 cd13 ct13 oc14 kV14 dc14 pm14 cd14 ct14 oc15 kV15 dc15 pm15 cd15 ct15 oc16 kV16 dc16 pm16 cd16 ct16 oc17 kV17 dc17 pm17 cd17 ct17 oc18 kV18 dc18 pm18 cd18 ct18 oc19 kV19 dc19 pm19 cd19 ct19 oc20 kV20 dc20 pm20 cd20 ct20 oc21 kV21 dc21 pm21 cd21 ct21 oc22 kV22 dc22 pm22 cd22 ct22 : Value}
    (a0 : PySem.W.nsIn K mainGlobals "is_number" = some (some (.ref f0))) (l0 : K.lookup f0 = some ⟨oc0, od0, .func (PySem.W.fnOf "is_number" "is_number" (defArgs s_is_number) (defBody s_is_number) (defScope s_is_number) .none kV0 dc0 pm0 an0 cd0 ct0), sl0⟩) (c0 : PySem.W.codeIn K cd0 "is_number" = true) (k0 : PySem.W.keepIn K (.ref f0) = true)
    (a1 : PySem.W.nsIn K mainGlobals "is_between" = some (some (.ref f1))) (l1 : K.lookup f1 = some ⟨oc1, od1, .func (PySem.W.fnOf "is_between" "is_between" (defArgs s_is_between) (defBody s_is_between) (defScope s_is_between) .none kV1 dc1 pm1 an1 cd1 ct1), sl1⟩) (c1 : PySem.W.codeIn K cd1 "is_between" = true) (k1 : PySem.W.keepIn K (.ref f1) = true)
    (a2 : PySem.W.nsIn K mainGlobals "consists_of" = some (some (.ref f2))) (l2 : K.lookup f2 = some ⟨oc2, od2, .func (PySem.W.fnOf "consists_of" "consists_of" (defArgs s_consists_of) (defBody s_consists_of) (defScope s_consists_of) .none kV2 dc2 pm2 an2 cd2 ct2), sl2⟩) (c2 : PySem.W.codeIn K cd2 "consists_of" = true) (k2 : PySem.W.keepIn K (.ref f2) = true)
    (a3 : PySem.W.nsIn K mainGlobals "is_body" = some (some (.ref f3))) (l3 : K.lookup f3 = some ⟨oc3, od3, .func (PySem.W.fnOf "is_body" "is_body" (defArgs s_is_body) (defBody s_is_body) (defScope s_is_body) .none kV3 dc3 pm3 an3 cd3 ct3), sl3⟩) (c3 : PySem.W.codeIn K cd3 "is_body" = true) (k3 : PySem.W.keepIn K (.ref f3) = true)
    (a4 : PySem.W.nsIn K mainGlobals "is_raw" = some (some (.ref f4))) (l4 : K.lookup f4 = some ⟨oc4, od4, .func (PySem.W.fnOf "is_raw" "is_raw" (defArgs s_is_raw) (defBody s_is_raw) (defScope s_is_raw) .none kV4 dc4 pm4 an4 cd4 ct4), sl4⟩) (c4 : PySem.W.codeIn K cd4 "is_raw" = true) (k4 : PySem.W.keepIn K (.ref f4) = true)
    (a5 : PySem.W.nsIn K mainGlobals "is_plain_code" = some (some (.ref f5))) (l5 : K.lookup f5 = some ⟨oc5, od5, .func (PySem.W.fnOf "is_plain_code" "is_plain_code" (defArgs s_is_plain_code) (defBody s_is_plain_code) (defScope s_is_plain_code) .none kV5 dc5 pm5 an5 cd5 ct5), sl5⟩) (c5 : PySem.W.codeIn K cd5 "is_plain_code" = true) (k5 : PySem.W.keepIn K (.ref f5) = true)
    (a6 : PySem.W.nsIn K mainGlobals "is_code" = some (some (.ref f6))) (l6 : K.lookup f6 = some ⟨oc6, od6, .func (PySem.W.fnOf "is_code" "is_code" (defArgs s_is_code) (defBody s_is_code) (defScope s_is_code) .none kV6 dc6 pm6 an6 cd6 ct6), sl6⟩) (c6 : PySem.W.codeIn K cd6 "is_code" = true) (k6 : PySem.W.keepIn K (.ref f6) = true)
    (a7 : PySem.W.nsIn K mainGlobals "is_label" = some (some (.ref f7))) (l7 : K.lookup f7 = some ⟨oc7, od7, .func (PySem.W.fnOf "is_label" "is_label" (defArgs s_is_label) (defBody s_is_label) (defScope s_is_label) .none kV7 dc7 pm7 an7 cd7 ct7), sl7⟩) (c7 : PySem.W.codeIn K cd7 "is_label" = true) (k7 : PySem.W.keepIn K (.ref f7) = true)
    (a8 : PySem.W.nsIn K mainGlobals "is_atom" = some (some (.ref f8))) (l8 : K.lookup f8 = some ⟨oc8, od8, .func (PySem.W.fnOf "is_atom" "is_atom" (defArgs s_is_atom) (defBody s_is_atom) (defScope s_is_atom) .none kV8 dc8 pm8 an8 cd8 ct8), sl8⟩) (c8 : PySem.W.codeIn K cd8 "is_atom" = true) (k8 : PySem.W.keepIn K (.ref f8) = true)
    (a9 : PySem.W.nsIn K mainGlobals "_law_begin" = some (some (.ref f9))) (l9 : K.lookup f9 = some ⟨oc9, od9, .func (PySem.W.fnOf "_law_begin" "_law_begin" (defArgs s__law_begin) (defBody s__law_begin) (defScope s__law_begin) .none kV9 dc9 pm9 an9 cd9 ct9), sl9⟩) (c9 : PySem.W.codeIn K cd9 "_law_begin" = true) (k9 : PySem.W.keepIn K (.ref f9) = true)
    (a10 : PySem.W.nsIn K mainGlobals "_law_mixed" = some (some (.ref f10))) (l10 : K.lookup f10 = some ⟨oc10, od10, .func (PySem.W.fnOf "_law_mixed" "_law_mixed" (defArgs s__law_mixed) (defBody s__law_mixed) (defScope s__law_mixed) .none kV10 dc10 pm10 an10 cd10 ct10), sl10⟩) (c10 : PySem.W.codeIn K cd10 "_law_mixed" = true) (k10 : PySem.W.keepIn K (.ref f10) = true)
    (a11 : PySem.W.nsIn K mainGlobals "_law_next" = some (some (.ref f11))) (l11 : K.lookup f11 = some ⟨oc11, od11, .func (PySem.W.fnOf "_law_next" "_law_next" (defArgs s__law_next) (defBody s__law_next) (defScope s__law_next) .none kV11 dc11 pm11 an11 cd11 ct11), sl11⟩) (c11 : PySem.W.codeIn K cd11 "_law_next" = true) (k11 : PySem.W.keepIn K (.ref f11) = true)
    (a12 : PySem.W.nsIn K mainGlobals "_law_alphabet" = some (some (.ref f12))) (l12 : K.lookup f12 = some ⟨oc12, od12, .func (PySem.W.fnOf "_law_alphabet" "_law_alphabet" (defArgs s__law_alphabet) (defBody s__law_alphabet) (defScope s__law_alphabet) .none kV12 dc12 pm12 an12 cd12 ct12), sl12⟩) (c12 : PySem.W.codeIn K cd12 "_law_alphabet" = true) (k12 : PySem.W.keepIn K (.ref f12) = true)
    (a13 : PySem.W.nsIn K mainGlobals "_law_string" = some (some (.ref f13))) (l13 : K.lookup f13 = some ⟨oc13, od13, .func (PySem.W.fnOf "_law_string" "_law_string" (defArgs s__law_string) (defBody s__law_string) (defScope s__law_string) .none kV13 dc13 pm13 an13 cd13 ct13), sl13⟩) (c13 : PySem.W.codeIn K cd13 "_law_string" = true) (k13 : PySem.W.keepIn K (.ref f13) = true)
    (a14 : PySem.W.nsIn K mainGlobals "_law_thing" = some (some (.ref f14))) (l14 : K.lookup f14 = some ⟨oc14, od14, .func (PySem.W.fnOf "_law_thing" "_law_thing" (defArgs s__law_thing) (defBody s__law_thing) (defScope s__law_thing) .none kV14 dc14 pm14 an14 cd14 ct14), sl14⟩) (c14 : PySem.W.codeIn K cd14 "_law_thing" = true) (k14 : PySem.W.keepIn K (.ref f14) = true)
    (a15 : PySem.W.nsIn K mainGlobals "_law_number" = some (some (.ref f15))) (l15 : K.lookup f15 = some ⟨oc15, od15, .func (PySem.W.fnOf "_law_number" "_law_number" (defArgs s__law_number) (defBody s__law_number) (defScope s__law_number) .none kV15 dc15 pm15 an15 cd15 ct15), sl15⟩) (c15 : PySem.W.codeIn K cd15 "_law_number" = true) (k15 : PySem.W.keepIn K (.ref f15) = true)
    (a16 : PySem.W.nsIn K mainGlobals "_law_is_string" = some (some (.ref f16))) (l16 : K.lookup f16 = some ⟨oc16, od16, .func (PySem.W.fnOf "_law_is_string" "_law_is_string" (defArgs s__law_is_string) (defBody s__law_is_string) (defScope s__law_is_string) .none kV16 dc16 pm16 an16 cd16 ct16), sl16⟩) (c16 : PySem.W.codeIn K cd16 "_law_is_string" = true) (k16 : PySem.W.keepIn K (.ref f16) = true)
    (a17 : PySem.W.nsIn K mainGlobals "_law_is_label" = some (some (.ref f17))) (l17 : K.lookup f17 = some ⟨oc17, od17, .func (PySem.W.fnOf "_law_is_label" "_law_is_label" (defArgs s__law_is_label) (defBody s__law_is_label) (defScope s__law_is_label) .none kV17 dc17 pm17 an17 cd17 ct17), sl17⟩) (c17 : PySem.W.codeIn K cd17 "_law_is_label" = true) (k17 : PySem.W.keepIn K (.ref f17) = true)
    (a18 : PySem.W.nsIn K mainGlobals "_law_is_atom" = some (some (.ref f18))) (l18 : K.lookup f18 = some ⟨oc18, od18, .func (PySem.W.fnOf "_law_is_atom" "_law_is_atom" (defArgs s__law_is_atom) (defBody s__law_is_atom) (defScope s__law_is_atom) .none kV18 dc18 pm18 an18 cd18 ct18), sl18⟩) (c18 : PySem.W.codeIn K cd18 "_law_is_atom" = true) (k18 : PySem.W.keepIn K (.ref f18) = true)
    (a19 : PySem.W.nsIn K mainGlobals "_law_is_code" = some (some (.ref f19))) (l19 : K.lookup f19 = some ⟨oc19, od19, .func (PySem.W.fnOf "_law_is_code" "_law_is_code" (defArgs s__law_is_code) (defBody s__law_is_code) (defScope s__law_is_code) .none kV19 dc19 pm19 an19 cd19 ct19), sl19⟩) (c19 : PySem.W.codeIn K cd19 "_law_is_code" = true) (k19 : PySem.W.keepIn K (.ref f19) = true)
    (a20 : PySem.W.nsIn K mainGlobals "_law_right" = some (some (.ref f20))) (l20 : K.lookup f20 = some ⟨oc20, od20, .func (PySem.W.fnOf "_law_right" "_law_right" (defArgs s__law_right) (defBody s__law_right) (defScope s__law_right) .none kV20 dc20 pm20 an20 cd20 ct20), sl20⟩) (c20 : PySem.W.codeIn K cd20 "_law_right" = true) (k20 : PySem.W.keepIn K (.ref f20) = true)
    (a21 : PySem.W.nsIn K mainGlobals "_law_marks_right" = some (some (.ref f21))) (l21 : K.lookup f21 = some ⟨oc21, od21, .func (PySem.W.fnOf "_law_marks_right" "_law_marks_right" (defArgs s__law_marks_right) (defBody s__law_marks_right) (defScope s__law_marks_right) .none kV21 dc21 pm21 an21 cd21 ct21), sl21⟩) (c21 : PySem.W.codeIn K cd21 "_law_marks_right" = true) (k21 : PySem.W.keepIn K (.ref f21) = true)
    (a22 : PySem.W.nsIn K mainGlobals "law" = some (some (.ref f22))) (l22 : K.lookup f22 = some ⟨oc22, od22, .func (PySem.W.fnOf "law" "law" (defArgs s_law) (defBody s_law) (defScope s_law) .none kV22 dc22 pm22 an22 cd22 ct22), sl22⟩) (c22 : PySem.W.codeIn K cd22 "law" = true) (k22 : PySem.W.keepIn K (.ref f22) = true)
    (v0 : PySem.W.nsIn K mainGlobals "MARKS" = some (some (.str " !\"#$&'()*+,-./0123456789:;<=>?@ABCDEFGHIJKLMNOPQRSTUVWXYZ[\\]^_`abcdefghijklmnopqrstuvwxyz{|}~" t0)))
    (v1 : PySem.W.nsIn K mainGlobals "LETTERS" = some (some (.str "ABCDEFGHIJKLMNOPQRSTUVWXYZabcdefghijklmnopqrstuvwxyz" t1)))
    (v2 : PySem.W.nsIn K mainGlobals "LETTERS_AND_DIGITS" = some (some (.str "ABCDEFGHIJKLMNOPQRSTUVWXYZabcdefghijklmnopqrstuvwxyz0123456789" t2)))
    (v3 : PySem.W.nsIn K mainGlobals "NOT_IN_ATOMS" = some (some (.str " ()<>,;:@\"" t3)))
    (v4 : PySem.W.nsIn K mainGlobals "_MISSING_CODE" = some (some (.int 37 t4)))
    (v5 : PySem.W.nsIn K mainGlobals "_LABEL_LIMIT" = some (some (.int 20 t5)))
    (z0 : PySem.W.nsIn K mainGlobals "len" = some none)
    (z1 : PySem.W.nsIn K mainGlobals "range" = some none)
    (z2 : PySem.W.nsIn K mainGlobals "min" = some none)
    (z3 : PySem.W.nsIn K mainGlobals "isinstance" = some none)
    (z4 : PySem.W.nsIn K mainGlobals "int" = some none)
    (z5 : PySem.W.nsIn K mainGlobals "str" = some none)
    (z6 : PySem.W.nsIn K mainGlobals "bool" = some none)
    (z7 : PySem.W.nsIn K mainGlobals "repr" = some none)
    (z8 : PySem.W.nsIn K mainGlobals "all" = some none)
    (z9 : PySem.W.nsIn K mainGlobals "any" = some none)
    : ∃ fd : FuncData, (∀ (s : Shared) (v : Value), BindsTo s fd ⟨[v], []⟩ [("script", v)]) ∧ ∀ base : Heap, K.In base → base.Ns mainGlobals mg → FnG P w K mg base CX0 6 fa fd ["script"] (spLaw K) := by
  have e := hfa.symm.trans (PySem.W.mg_of X G a22)
  cases e
  have F0 := fun_mk (st := s_is_number) l0 c0 k0
  have F1 := fun_mk (st := s_is_between) l1 c1 k1
  have F2 := fun_mk (st := s_consists_of) l2 c2 k2
  have F3 := fun_mk (st := s_is_body) l3 c3 k3
  have F4 := fun_mk (st := s_is_raw) l4 c4 k4
  have F5 := fun_mk (st := s_is_plain_code) l5 c5 k5
  have F6 := fun_mk (st := s_is_code) l6 c6 k6
  have F7 := fun_mk (st := s_is_label) l7 c7 k7
  have F8 := fun_mk (st := s_is_atom) l8 c8 k8
  have F9 := fun_mk (st := s__law_begin) l9 c9 k9
  have F10 := fun_mk (st := s__law_mixed) l10 c10 k10
  have F11 := fun_mk (st := s__law_next) l11 c11 k11
  have F12 := fun_mk (st := s__law_alphabet) l12 c12 k12
  have F13 := fun_mk (st := s__law_string) l13 c13 k13
  have F14 := fun_mk (st := s__law_thing) l14 c14 k14
  have F15 := fun_mk (st := s__law_number) l15 c15 k15
  have F16 := fun_mk (st := s__law_is_string) l16 c16 k16
  have F17 := fun_mk (st := s__law_is_label) l17 c17 k17
  have F18 := fun_mk (st := s__law_is_atom) l18 c18 k18
  have F19 := fun_mk (st := s__law_is_code) l19 c19 k19
  have F20 := fun_mk (st := s__law_right) l20 c20 k20
  have F21 := fun_mk (st := s__law_marks_right) l21 c21 k21
  have F22 := fun_mk (st := s_law) l22 c22 k22
  let T : Txt K mg := {
    f_is_number := f0, fd_is_number := _, F_is_number := F0, g_is_number := PySem.W.mg_of X G a0, b_is_number := F0.binds (ps := ["thing"]) fun _ _ _ _ _ _ us hl => match us, hl with | [_], _ => rfl,
    f_is_between := f1, fd_is_between := _, F_is_between := F1, g_is_between := PySem.W.mg_of X G a1, b_is_between := F1.binds (ps := ["thing", "low", "high"]) fun _ _ _ _ _ _ us hl => match us, hl with | [_, _, _], _ => rfl,
    f_consists_of := f2, fd_consists_of := _, F_consists_of := F2, g_consists_of := PySem.W.mg_of X G a2, b_consists_of := F2.binds (ps := ["thing", "marks"]) fun _ _ _ _ _ _ us hl => match us, hl with | [_, _], _ => rfl,
    f_is_body := f3, fd_is_body := _, F_is_body := F3, g_is_body := PySem.W.mg_of X G a3, b_is_body := F3.binds (ps := ["thing"]) fun _ _ _ _ _ _ us hl => match us, hl with | [_], _ => rfl,
    f_is_raw := f4, fd_is_raw := _, F_is_raw := F4, g_is_raw := PySem.W.mg_of X G a4, b_is_raw := F4.binds (ps := ["thing"]) fun _ _ _ _ _ _ us hl => match us, hl with | [_], _ => rfl,
    f_is_plain_code := f5, fd_is_plain_code := _, F_is_plain_code := F5, g_is_plain_code := PySem.W.mg_of X G a5, b_is_plain_code := F5.binds (ps := ["thing"]) fun _ _ _ _ _ _ us hl => match us, hl with | [_], _ => rfl,
    f_is_code := f6, fd_is_code := _, F_is_code := F6, g_is_code := PySem.W.mg_of X G a6, b_is_code := F6.binds (ps := ["thing"]) fun _ _ _ _ _ _ us hl => match us, hl with | [_], _ => rfl,
    f_is_label := f7, fd_is_label := _, F_is_label := F7, g_is_label := PySem.W.mg_of X G a7, b_is_label := F7.binds (ps := ["thing"]) fun _ _ _ _ _ _ us hl => match us, hl with | [_], _ => rfl,
    f_is_atom := f8, fd_is_atom := _, F_is_atom := F8, g_is_atom := PySem.W.mg_of X G a8, b_is_atom := F8.binds (ps := ["thing"]) fun _ _ _ _ _ _ us hl => match us, hl with | [_], _ => rfl,
    f__law_begin := f9, fd__law_begin := _, F__law_begin := F9, g__law_begin := PySem.W.mg_of X G a9, b__law_begin := F9.binds (ps := ["script"]) fun _ _ _ _ _ _ us hl => match us, hl with | [_], _ => rfl,
    f__law_mixed := f10, fd__law_mixed := _, F__law_mixed := F10, g__law_mixed := PySem.W.mg_of X G a10, b__law_mixed := F10.binds (ps := ["cell", "k"]) fun _ _ _ _ _ _ us hl => match us, hl with | [_, _], _ => rfl,
    f__law_next := f11, fd__law_next := _, F__law_next := F11, g__law_next := PySem.W.mg_of X G a11, b__law_next := F11.binds (ps := ["draw", "bound"]) fun _ _ _ _ _ _ us hl => match us, hl with | [_, _], _ => rfl,
    f__law_alphabet := f12, fd__law_alphabet := _, F__law_alphabet := F12, g__law_alphabet := PySem.W.mg_of X G a12, b__law_alphabet := F12.binds (ps := []) fun _ _ _ _ _ _ us hl => match us, hl with | [], _ => rfl,
    f__law_string := f13, fd__law_string := _, F__law_string := F13, g__law_string := PySem.W.mg_of X G a13, b__law_string := F13.binds (ps := ["draw"]) fun _ _ _ _ _ _ us hl => match us, hl with | [_], _ => rfl,
    f__law_thing := f14, fd__law_thing := _, F__law_thing := F14, g__law_thing := PySem.W.mg_of X G a14, b__law_thing := F14.binds (ps := ["draw"]) fun _ _ _ _ _ _ us hl => match us, hl with | [_], _ => rfl,
    f__law_number := f15, fd__law_number := _, F__law_number := F15, g__law_number := PySem.W.mg_of X G a15, b__law_number := F15.binds (ps := ["draw"]) fun _ _ _ _ _ _ us hl => match us, hl with | [_], _ => rfl,
    f__law_is_string := f16, fd__law_is_string := _, F__law_is_string := F16, g__law_is_string := PySem.W.mg_of X G a16, b__law_is_string := F16.binds (ps := ["what", "more"]) fun _ _ _ _ _ _ us hl => match us, hl with | [_, _], _ => rfl,
    f__law_is_label := f17, fd__law_is_label := _, F__law_is_label := F17, g__law_is_label := PySem.W.mg_of X G a17, b__law_is_label := F17.binds (ps := ["what"]) fun _ _ _ _ _ _ us hl => match us, hl with | [_], _ => rfl,
    f__law_is_atom := f18, fd__law_is_atom := _, F__law_is_atom := F18, g__law_is_atom := PySem.W.mg_of X G a18, b__law_is_atom := F18.binds (ps := ["what"]) fun _ _ _ _ _ _ us hl => match us, hl with | [_], _ => rfl,
    f__law_is_code := f19, fd__law_is_code := _, F__law_is_code := F19, g__law_is_code := PySem.W.mg_of X G a19, b__law_is_code := F19.binds (ps := ["what"]) fun _ _ _ _ _ _ us hl => match us, hl with | [_], _ => rfl,
    f__law_right := f20, fd__law_right := _, F__law_right := F20, g__law_right := PySem.W.mg_of X G a20, b__law_right := F20.binds (ps := ["what"]) fun _ _ _ _ _ _ us hl => match us, hl with | [_], _ => rfl,
    f__law_marks_right := f21, fd__law_marks_right := _, F__law_marks_right := F21, g__law_marks_right := PySem.W.mg_of X G a21, b__law_marks_right := F21.binds (ps := []) fun _ _ _ _ _ _ us hl => match us, hl with | [], _ => rfl,
    f_law := fa, fd_law := _, F_law := F22, g_law := PySem.W.mg_of X G a22, b_law := F22.binds (ps := ["script"]) fun _ _ _ _ _ _ us hl => match us, hl with | [_], _ => rfl,
    t_MARKS := t0, g_MARKS := PySem.W.mg_of X G v0,
    t_LETTERS := t1, g_LETTERS := PySem.W.mg_of X G v1,
    t_LETTERS_AND_DIGITS := t2, g_LETTERS_AND_DIGITS := PySem.W.mg_of X G v2,
    t_NOT_IN_ATOMS := t3, g_NOT_IN_ATOMS := PySem.W.mg_of X G v3,
    t__MISSING_CODE := t4, g__MISSING_CODE := PySem.W.mg_of X G v4,
    t__LABEL_LIMIT := t5, g__LABEL_LIMIT := PySem.W.mg_of X G v5,
    m_len := PySem.W.mg_none_of X G z0,
    m_range := PySem.W.mg_none_of X G z1,
    m_min := PySem.W.mg_none_of X G z2,
    m_isinstance := PySem.W.mg_none_of X G z3,
    m_int := PySem.W.mg_none_of X G z4,
    m_str := PySem.W.mg_none_of X G z5,
    m_bool := PySem.W.mg_none_of X G z6,
    m_repr := PySem.W.mg_none_of X G z7,
    m_all := PySem.W.mg_none_of X G z8,
    m_any := PySem.W.mg_none_of X G z9 }
  exact ⟨_, fun s v => .of_eq rfl, fun base _ _ => ok_law T⟩
end K02
open PySem PySem.W PyProof.Rows
set_option maxRecDepth 100000 in
set_option maxHeartbeats 0 in
theorem PySem.Challenge.cw_headerfold_k02_marks_names_and_atoms_holds : PySem.Challenge.rw_headerfold_k02_marks_names_and_atoms.Holds := by
  w_on; o_law; k_head; (case hw => w_witness2)
  k_fill
  refine L2.walk_ofG (l := PySem.Challenge.rw_headerfold_k02_marks_names_and_atoms) (n := 63) (k := 6) (x := "script") (sp := K02.spLaw) rfl (by decide) rfl ⟨rfl, by decide, by decide⟩ (fun w h Y => PySem.W.kIn_of Y) ?F (fun _ _ a ns hl hS => ⟨a, ns, rfl, hS, hl, fun _ => rfl⟩)
  case F =>
    intro w mg fa h KX G hmg
    refine' K02.all_mk KX G hmg ?a0 ?l0 ?c0 ?k0 ?a1 ?l1 ?c1 ?k1 ?a2 ?l2 ?c2 ?k2 ?a3 ?l3 ?c3 ?k3 ?a4 ?l4 ?c4 ?k4 ?a5 ?l5 ?c5 ?k5 ?a6 ?l6 ?c6 ?k6 ?a7 ?l7 ?c7 ?k7 ?a8 ?l8 ?c8 ?k8 ?a9 ?l9 ?c9 ?k9 ?a10 ?l10 ?c10 ?k10 ?a11 ?l11 ?c11 ?k11 ?a12 ?l12 ?c12 ?k12 ?a13 ?l13 ?c13 ?k13 ?a14 ?l14 ?c14 ?k14 ?a15 ?l15 ?c15 ?k15 ?a16 ?l16 ?c16 ?k16 ?a17 ?l17 ?c17 ?k17 ?a18 ?l18 ?c18 ?k18 ?a19 ?l19 ?c19 ?k19 ?a20 ?l20 ?c20 ?k20 ?a21 ?l21 ?c21 ?k21 ?a22 ?l22 ?c22 ?k22 ?v0 ?v1 ?v2 ?v3 ?v4 ?v5 ?z0 ?z1 ?z2 ?z3 ?z4 ?z5 ?z6 ?z7 ?z8 ?z9
    (case a0 => k_is)
    (case l0 => k_is)
    (case c0 => k_is)
    (case k0 => k_is)
    (case a1 => k_is)
    (case l1 => k_is)
    (case c1 => k_is)
    (case k1 => k_is)
    (case a2 => k_is)
    (case l2 => k_is)
    (case c2 => k_is)
    (case k2 => k_is)
    (case a3 => k_is)
    (case l3 => k_is)
    (case c3 => k_is)
    (case k3 => k_is)
    (case a4 => k_is)
    (case l4 => k_is)
    (case c4 => k_is)
    (case k4 => k_is)
    (case a5 => k_is)
    (case l5 => k_is)
    (case c5 => k_is)
    (case k5 => k_is)
    (case a6 => k_is)
    (case l6 => k_is)
    (case c6 => k_is)
    (case k6 => k_is)
    (case a7 => k_is)
    (case l7 => k_is)
    (case c7 => k_is)
    (case k7 => k_is)
    (case a8 => k_is)
    (case l8 => k_is)
    (case c8 => k_is)
    (case k8 => k_is)
    (case a9 => k_is)
    (case l9 => k_is)
    (case c9 => k_is)
    (case k9 => k_is)
    (case a10 => k_is)
    (case l10 => k_is)
    (case c10 => k_is)
    (case k10 => k_is)
    (case a11 => k_is)
    (case l11 => k_is)
    (case c11 => k_is)
    (case k11 => k_is)
    (case a12 => k_is)
    (case l12 => k_is)
    (case c12 => k_is)
    (case k12 => k_is)
    (case a13 => k_is)
    (case l13 => k_is)
    (case c13 => k_is)
    (case k13 => k_is)
    (case a14 => k_is)
    (case l14 => k_is)
    (case c14 => k_is)
    (case k14 => k_is)
    (case a15 => k_is)
    (case l15 => k_is)
    (case c15 => k_is)
    (case k15 => k_is)
    (case a16 => k_is)
    (case l16 => k_is)
    (case c16 => k_is)
    (case k16 => k_is)
    (case a17 => k_is)
    (case l17 => k_is)
    (case c17 => k_is)
    (case k17 => k_is)
    (case a18 => k_is)
    (case l18 => k_is)
    (case c18 => k_is)
    (case k18 => k_is)
    (case a19 => k_is)
    (case l19 => k_is)
    (case c19 => k_is)
    (case k19 => k_is)
    (case a20 => k_is)
    (case l20 => k_is)
    (case c20 => k_is)
    (case k20 => k_is)
    (case a21 => k_is)
    (case l21 => k_is)
    (case c21 => k_is)
    (case k21 => k_is)
    (case a22 => k_is)
    (case l22 => k_is)
    (case c22 => k_is)
    (case k22 => k_is)
    (case v0 => k_is)
    (case v1 => k_is)
    (case v2 => k_is)
    (case v3 => k_is)
    (case v4 => k_is)
    (case v5 => k_is)
    (case z0 => k_is)
    (case z1 => k_is)
    (case z2 => k_is)
    (case z3 => k_is)
    (case z4 => k_is)
    (case z5 => k_is)
    (case z6 => k_is)
    (case z7 => k_is)
    (case z8 => k_is)
    (case z9 => k_is)
