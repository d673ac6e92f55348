import PyProof.Rows.All
import Wide.All
import OpenK.AllK
import Wide.FinOn
import PyProof.EqAt
import PyProof.EqKinds
import PyProof.TupleCall
import PyProof.ReprRoads
import HandS.Base
import HandS.Call
import HandS.List
import HandS.Text
import HandS.Ends
import HandS.Words
import HandS.EndBits
import HandS.Comp
import HandS.Dict
import HandS.Iter
import HandS.WordsList
import HandS.WordsDict
import HandS.WideBits
import HandS.Wide
import HandS.IsInst
import HandS.RaiseMore
import HandS.TupAny
import HandS.Steps
import KE.KExcSuper
import HandS.Exc
import HandS.ExcInit
import HandS.ExcSuper
import HandS.ExcIs
import HandS.TryMany
import HandS.ExcValue
import HandS.ExcField
import KE.KExcIs
import HandS.Style
import HandS.WordsExc
import HandS.ExcOwn
import PyProof.StrLawsTight
import PyProof.StrLawsChain
import PyProof.StrLawsOccR
import PyProof.Rows.StrItems
import KE.DataEq
import PyProof.Rows.RegFStrParts
import PySem.Challenge.RW_headerfold_k03_unfolding
set_option Elab.async false
set_option linter.all false
set_option maxRecDepth 100000
set_option maxHeartbeats 4000000
namespace L2
open PySem PySem.Spec PyProof.Rows
section
variable {X : Cx} {pins : List (Addr × Obj)} {σ : St} {H : Hp} {s : Shared}
/-- list + list, both to be read (locked ones and the module's own too) -/
def rCatS (K : PySem.W.Frag) : R2 := fun x y H Q => ∃ l b xs zs, x = .ref l ∧ y = .ref b ∧ SqL K H l xs ∧ SqL K H b zs ∧ xs.length + zs.length ≤ sizeLine ∧ ∀ p, H p = none → Q (.ref p) (upd H p (.lst (xs ++ zs)))
theorem op_catS : OpR X (binaryOp .Add) (rCatS X.K) := by
  intro pins s σ H x y v u Q I rx ry h
  obtain ⟨l, b, xs, zs, rfl, rfl, hH, hB, hz, q⟩ := h
  cases rx
  cases ry
  obtain ⟨its, r, ⟨⟨c1, d1, a1, s1⟩, n, ho, hc, hd, hs⟩, _⟩ := I.list hH
  obtain ⟨its2, r2, ⟨⟨c2, d2, a2, s2⟩, n2, ho2, hc2, hd2, hs2⟩, _⟩ := I.list hB
  simp only at hc hd hs hc2 hd2 hs2
  subst hc hd hs hc2 hd2 hs2
  have hl := r.length
  have hl2 := r2.length
  have ea : its.toArray ++ its2.toArray = (its ++ its2).toArray := by simp
  refine concat_meets ⟨_, ho, rfl⟩ ⟨_, ho2, rfl⟩ noFill_list_add seq_list_add F.slot_list_add F.entry_list_add (F.args_list_add_2 _ _) (list_addW l b its.toArray its2.toArray n n2 none none s1 s2 (by rw [List.size_toArray, List.size_toArray]; omega)) ⟨ho, ho2, ?_⟩
  rw [ea]
  exact ⟨.ref _, _, I.lnew (t' := s.toks) (r.append r2) (by rw [List.length_append]; omega), rfl, q _ I.fresh⟩
/-- repr of data -/
def rRepr (K : PySem.W.Frag) : List V → Hp → VK → Prop := fun xs H Q => ∃ a d, xs = [.ref a] ∧ Dp K H (.ref a) d ∧ d.showable = true ∧ d.hasDict = false ∧ d.depth ≤ 20 ∧ d.shown.length ≤ sizeLine ∧ Q (.str d.shown) H
end
end L2
namespace L2
open PySem PySem.Spec PyProof.Rows
/-- the promise of a def that is called while no text of an object is being made (repr asks that) -/
structure FnG (P : Program) (w : World) (K : PySem.W.Frag) (mg : Str → Option Value) (base : Heap) (CX : CXT) (k : Nat) (f : Addr) (fd : FuncData) (ps : List Str) (sp : Sp) : Prop where
  len : ∀ vs H Q E, sp vs H Q E → vs.length = ps.length
  go : ∀ (A : Around), A.guards = some [] → Room k A → ∀ (out : List Env) (s : Shared) (H : Hp), Env0 P w K mg base A out s H → ∀ (args : Args) (us : List Value) (vs : List V), BindsTo s fd args (ps.zip us) → Vals vs us → ∀ (Q : VK) (E : XK), sp vs H Q E →
    codeAny (model P w) A (.call (.ref f) args) (CR CX out P w H s Q E) s
section
variable {P : Program} {w : World} {K : PySem.W.Frag} {mg : Str → Option Value} {base : Heap} {CX : CXT} {k : Nat} {f : Addr} {fd : FuncData} {ps : List Str} {sp : Sp}
theorem FnOk.toG (F : FnOk P w K mg base CX k f fd ps sp) : FnG P w K mg base CX k f fd ps sp := ⟨F.len, fun A _ hr out s H e0 args us vs hb hv Q E hs => F.run A out s H args us vs Q E hr e0 hb hv hs⟩
theorem fnG_of {name qual : Str} {params : Arguments} {body : List Stmt} {scope : Scope} {dV kV doc pm cdv ct oc : Value} {an od : Option Addr} {osl : Array (Option Value)} {N : List Str}
    (lk : K.lookup f = some ⟨oc, od, .func (PySem.W.fnOf name qual params body scope dV kV doc pm an cdv ct), osl⟩) (hcd : PySem.W.codeIn K cdv qual = true) (S : FnScope N ps scope) (len : ∀ vs H Q E, sp vs H Q E → vs.length = ps.length)
    (hb : ∀ (A : Around), A.guards = some [] → ∀ (out : List Env) (s : Shared) (H : Hp) (vs : List V) (Q : VK) (E : XK), Room k (A.deeper (envOfC qual scope s.heap.objs.size f cdv)) → sp vs H Q E →
      ∃ t, PSs (cxOf CX P w K mg base N qual scope f cdv A out s H E) body t ∧ t { nx := fun _ H' => Q .non H', rt := Q } (start N vs) H) :
    FnG P w K mg base CX (k + 1) f (PySem.W.fnOf name qual params body scope dV kV doc pm an cdv ct) ps sp := by
  refine ⟨len, fun A hG hr out s H e0 args us vs hbd r Q E hsp => ?_⟩
  have hl := len _ _ _ _ hsp
  have KX : K.In s.heap := e0.mod.kin.keeps fun c z q => (e0.bs c z q).1
  have lim : s.heap.NoLimit := e0.mod.nolimit.keeps fun c z q => (e0.bs c z q).1
  have hk2 : ∀ z ∈ ps.zip us, scope.names.lookup z.1 = some .local ∨ (scope.names.lookup z.1 = some .cell ∧ ((cellsFrom (s.heap.objs.size + 1) scope.names []).lookup z.1).isSome = true) := by
    intro z hz
    rcases S.par z.1 (List.of_mem_zip (a := z.1) (b := z.2) hz).1 with g | g
    · exact Or.inl g
    · exact Or.inr ⟨g, PySem.W.cellsFrom_some _ _ _ (Or.inl g)⟩
  refine codeAny_call_function hr.depth (KX f _ lk) rfl S.co S.gen rfl (PySem.W.codeRec_of KX hcd) (hbd _ _ _ _ ?_)
  refine wpAny_newFunctionEnv_cells S.kind hk2 fun env he s2 x => ?_
  cases he
  refine ⟨lim.keeps x.toInCall.keep, codeAny_func ?_⟩
  obtain ⟨t, ht, hq⟩ := hb A hG out s H vs Q E (Room.deeper hr _) hsp
  have J0 : Inv (cxOf CX P w K mg base N qual scope f cdv A out s H E) [] (start N vs) H s2 := inv_start S hr.hd e0 hl r x
  refine wpAny_mono (ht.run [] s2 (start N vs) H _ J0 hq) (fun fl s3 h3 => ?_) (fun _ _ z => z)
  match fl, h3 with
  | .ret u, ⟨v, σ', H', J, rv, q⟩ => exact ⟨v, H', J.os, J.bare, J.base, J.hok, rv, q⟩
  | .next, ⟨σ', H', J, q⟩ => exact ⟨V.non, H', J.os, J.bare, J.base, J.hok, (rfl : RelV V.non Value.none), q⟩
  | .brk, ⟨_, _, _, q⟩ => exact q.elim
  | .cont, ⟨_, _, _, q⟩ => exact q.elim
theorem Fun.okG {x qual : Str} {st : Stmt} {N : List Str} (F : Fun K x qual st f fd) (S : FnScope N ps (defScope st)) (len : ∀ vs H Q E, sp vs H Q E → vs.length = ps.length)
    (hb : ∀ (cdv : Value) (A : Around), A.guards = some [] → ∀ (out : List Env) (s : Shared) (H : Hp) (vs : List V) (Q : VK) (E : XK), Room k (A.deeper (envOfC qual (defScope st) s.heap.objs.size f cdv)) → sp vs H Q E →
      ∃ t, PSs (cxOf CX0 P w K mg base N qual (defScope st) f cdv A out s H E).nox (defBody st) t ∧ t { nx := fun _ H' => Q .non H', rt := Q } (start N vs) H) : FnG P w K mg base CX0 (k + 1) f fd ps sp := by
  obtain ⟨oc, od, kV, doc, pm, an, cdv, ct, osl, rfl, lk, hcd⟩ := F.ex
  refine fnG_of lk hcd S len fun A hG out s H vs Q E hr hsp => ?_
  obtain ⟨t, h, q⟩ := hb cdv A hG out s H vs Q E hr hsp
  exact ⟨t, PSs.nox h, q⟩
end
section
variable {X : Cx} {CX : CXT} {k : Nat} {f : Addr} {fd : FuncData} {ps : List Str} {sp : Sp} {dvs : List V} {ds : List Value} {E : XK} {x : Str} {p pos : Pos} {e : Expr} {es : List Expr} {t : TA}
theorem run_fnG {pins : List (Addr × Obj)} {σ : St} {H : Hp} {s : Shared} {Q : VK} {us : List Value} {vs : List V} (F : FnG X.prog X.w X.K X.mg X.base CX k f fd ps sp) (hG : X.A.guards = some []) (hr : Room k X.A) (hb : Binds X.K fd ps ds) (hd : Vals dvs ds) (hx : Passes CX X E)
    (I : Inv X pins σ H s) (r : Vals vs us) (h : sp (vs ++ dvs) H Q E) : wpAny (model X.prog X.w) X.A (call (.ref f) us) (EP X pins σ Q) X.xe s := by
  have r2 : Vals (vs ++ dvs) (us ++ ds) := r.append hd
  have hl : (us ++ ds).length = ps.length := r2.length ▸ F.len _ _ _ _ h
  refine wpAny_call (codeAny_mono (F.go X.A hG hr X.stack s H I.env0 ⟨us, []⟩ (us ++ ds) (vs ++ dvs) (hb s us I.kIn hl) r2 Q E h) fun o s2 hq => ?_)
  match o, hq with
  | .error e, hq => exact hx pins σ H s e s2 I hq
  | .ok (.ret u), hq => exact I.after hq
/-- f(e, ..) of such a def -/
theorem pe_callG (F : FnG X.prog X.w X.K X.mg X.base CX k f fd ps sp) (hG : X.A.guards = some []) (hr : Room k X.A) (hg : Gl X x) (hm : X.mg x = some (.ref f)) (hk : PySem.W.keepIn X.K (.ref f) = true) (hb : Binds X.K fd ps ds) (hd : Vals dvs ds) (hx : Passes CX X E)
    (ha : PA X (e :: es) t) (hdb : (x == ("__debug__" : Str)) = false := by decide) (he : starEach (e :: es) X.env = (false, eval e X.env) :: starEach es X.env := by rfl) (hpl : (backTo pos (starEach es X.env)).any (·.1) = false := by rfl) :
    PE X (.Call (.Name x p) (e :: es) [] pos) (tCall sp dvs E t) := ⟨fun pins s σ H Q I h =>
  wpAny_Call_Name_kw (ld_glob I hg hm (PySem.W.callWith_K (h₀ := X.base) I.ok.mod.kin hk (thn (ha.run pos pins s σ H _ I h) fun us s1 ⟨vs, H1, I1, r, q⟩ => ⟨I1.kIn, run_fnG F hG hr hb hd hx I1 r q⟩) he hpl) hdb)⟩
/-- repr(x) -/
theorem call_repr (hG : X.A.guards = some []) (hu : X.A.units + 64 < cLine) : CallR X (.builtin "repr") (rRepr X.K) := by
  intro pins s σ H xs us Q I r h
  obtain ⟨a, d, rfl, hd, h1, h2, h3, h4, q⟩ := h
  obtain ⟨u, rfl, ru⟩ := vals1 r
  cases (show u = Value.ref a from ru)
  obtain ⟨as, rd⟩ := Dp.reads I d _ _ hd (rfl : RelV (V.ref a) (Value.ref a))
  refine repr_of_reads' (h₀ := s.heap) rd h1 (fun z => absurd (h2.symm.trans z) (by decide)) hG (by omega) (fun _ _ z => z) (fun h' u tk hk => ?_) h4
  exact ⟨.str d.shown, H, I.kept hk, ⟨u, rfl⟩, q⟩
end
end L2
namespace L2
open PySem PySem.Spec PyProof.Rows
/-- the end of a law whose def runs where no text of an object is being made -/
theorem law_goG {P : Program} {w : World} {K : PySem.W.Frag} {mg mb : Str → Option Value} {k : Nat} {fa a : Addr} {fd : FuncData} {x : Str} {sp : Sp} {z : Shared} {vs : List Value} {ns : List Int}
    (KX : K.In z.heap) (hns : z.heap.Ns mainGlobals mg) (hb : z.heap.Ns builtinsNs mb) (hbb : ∀ x : Str, x ≠ "__name__" → mb x = bootBuiltins x) (hlim : z.heap.NoLimit) (hg : z.gens = #[])
    (ha : z.heap.get? a = some { cls := .type "list", data := .seq vs.toArray }) (hi : IntsAre vs ns) (hl : ns.length ≤ sizeLine) (hr : Room k callerA)
    (F : ∀ base : Heap, K.In base → base.Ns mainGlobals mg → FnG P w K mg base CX0 k fa fd [x] sp) (hbind : ∀ (s : Shared) (u : Value), BindsTo s fd ⟨[u], []⟩ [(x, u)])
    (hsp : ∀ H : Hp, SqL K H a (ns.map V.int) → sp [.ref a] H (fun v _ => v = .bl true) fun _ _ _ => False) :
    codeAny (model P w) callerA (.call (.ref fa) ⟨[.ref a], []⟩) (fun r y => r = .ok (.ret (.bool true)) ∧ OldK z.heap y.heap ∧ y.os = z.os ∧ AllBare y.gens) z := by
  let ob : Obj := { cls := .type "list", data := .seq vs.toArray }
  let H : Hp := fun b => if b = a ∧ K.lookup a = none then some (.frz ob (.lst (ns.map V.int))) else none
  have rv := vals_ints hi
  have lenV := hi.length
  have Ha : K.lookup a = none → H a = some (.frz ob (.lst (ns.map V.int))) := fun e => if_pos ⟨rfl, e⟩
  have Hn : ∀ b, ¬ (b = a ∧ K.lookup a = none) → H b = none := fun b e => if_neg e
  have Hs : ∀ {b o}, H b = some o → b = a ∧ K.lookup a = none ∧ o = .frz ob (.lst (ns.map V.int)) := fun {b o} e => by
    by_cases hba : b = a ∧ K.lookup a = none
    · rw [show H b = some (.frz ob (.lst (ns.map V.int))) from if_pos hba] at e
      exact ⟨hba.1, hba.2, (Option.some.inj e).symm⟩
    · rw [Hn b hba] at e
      cases e
  have hok : HOk P w H z.heap := by
    intro b o e
    obtain ⟨e1, e2, e3⟩ := Hs e
    subst e1 e3
    exact ⟨ha, by rw [List.length_map]; exact hl, vs, _, rv, ha⟩
  have dn : ∀ {b : Addr} {o : Obj} {es : Array DictEntry} {ep : Nat}, z.heap.get? b = some o → o.data = .dict es ep → H b = none := by
    intro b o es ep e d
    refine Hn b fun q => ?_
    rw [q.1, ha] at e
    cases e
    cases d
  have nsK : ∀ {b : Addr} {m : Str → Option Value}, z.heap.Ns b m → (hidT z.heap H).Ns b m := fun ⟨o, es, ep, e, d, r⟩ => ⟨o, es, ep, hidT_get e (dn e d), d, r⟩
  have KB : K.In (hidT z.heap H) := by
    intro b o e
    refine hidT_get (KX b o e) (Hn b fun q => ?_)
    rw [q.1, q.2] at e
    cases e
  have M : Mod K mg (hidT z.heap H) := ⟨KB, nsK hns, ⟨mb, nsK hb, hbb⟩, let ⟨mc, h1, h2⟩ := hlim; ⟨mc, nsK h1, h2⟩⟩
  have e0 : Env0 P w K mg (hidT z.heap H) callerA [] z H := ⟨rfl, M, fun _ _ e => of_hidT e, Nat.le_of_eq (hidT_size _ _), trivial, fun _ q => (nomatch q), hok, .of_eq hg⟩
  have SA : SqL K H a (ns.map V.int) := by
    cases hk : K.lookup a with
    | none => exact Or.inl (Or.inr ⟨ob, Ha hk⟩)
    | some o =>
      have e := KX a o hk
      rw [ha] at e
      cases e
      exact Or.inr ⟨_, vs.toArray, _, hk, rfl, rfl, rfl, by rw [List.size_toArray, lenV]; exact hl, by simpa using rv⟩
  refine codeAny_mono ((F _ KB (nsK hns)).go callerA rfl hr [] z H e0 ⟨[.ref a], []⟩ [.ref a] [.ref a] (hbind z (.ref a)) (.cons rfl .nil) _ _ (hsp H SA)) fun r y h => ?_
  match r, h with
  | .error e, h => exact h.elim
  | .ok (.ret u), ⟨v, H2, os, bare, un, hok2, rv2, q⟩ =>
    cases (show v = V.bl true from q)
    cases (show u = Value.bool true from rv2)
    refine ⟨rfl, OldK.of_keep fun b o e => ?_, os, bare⟩
    by_cases hba : b = a ∧ K.lookup a = none
    · obtain ⟨rfl, h2⟩ := hba
      obtain ⟨e2, _⟩ := hok2 b _ (un.frzs b ob _ (Ha h2))
      rw [ha] at e
      cases e
      exact e2
    · exact un.keep b o e (Hn b hba) (fun q => nomatch q) (fun q => nomatch q)
/-- the goal that k_head leaves, for a law by FnG; the script's bits are not told -/
theorem walk_ofG {l : PySem.W.OpenLaw} {n k : Nat} {q : Program} {loose : List Str} {XP : (Str → Option Value) → Heap → Prop} {YP : World → Heap → Prop} {d : DefRec} {K : Params → PySem.W.Frag} {sp : PySem.W.Frag → Sp} {x : Str}
    (hn : l.most = some n) (hn2 : n ≤ sizeLine) (hdf : d.params.defaults = []) (hr : Room k callerA) (hY : ∀ (w : World) (h : Heap), YP w h → (K w.params).In h)
    (F : ∀ (w : World) (mg : Str → Option Value) (fa : Addr) (h : Heap), (K w.params).In h → h.Ns mainGlobals mg → mg d.name = some (.ref fa) →
      ∃ fd : FuncData, (∀ (s : Shared) (u : Value), BindsTo s fd ⟨[u], []⟩ [(x, u)]) ∧ ∀ base : Heap, (K w.params).In base → base.Ns mainGlobals mg → FnG l.prog w (K w.params) mg base CX0 k fa fd [x] (sp (K w.params)))
    (hsp : ∀ (K : PySem.W.Frag) (H : Hp) (a : Addr) (ns : List Int), ns.length ≤ n → SqL K H a (ns.map V.int) → sp K [.ref a] H (fun v _ => v = .bl true) fun _ _ _ => False) :
    PySem.W.WalkO q loose XP YP l.row.toRowW d [] (fun f vs => PySem.call f vs) :=
  Att.attach_call hn hdf fun w _ s1 mg mb fa o pm cd doc a vs ns G Y ho hd hcd hmg hobj hints hlen hg => by
    obtain ⟨fd, hb, hF⟩ := F w mg fa _ (hY w _ Y) G.T.g hmg
    exact law_goG (hY w _ Y) G.T.g G.T.b G.T.builtins G.T.nolimit hg hobj hints (Nat.le_trans hlen hn2) hr hF hb fun H hS => hsp _ H a ns hlen hS
end L2
namespace L2
open PySem PySem.Spec PyProof.Rows
/-- values in another order -/
def picked {α : Type} (d : α) (ix : List Nat) (ws : List α) : List α := ix.map fun i => ws.getD i d
theorem picked_vals {zs : List V} {ws : List Value} (r : Vals zs ws) (ix : List Nat) : Vals (picked V.non ix zs) (picked Value.none ix ws) := by
  induction ix with
  | nil => exact .nil
  | cons i r2 ih =>
    refine .cons ?_ ih
    show RelV (zs.getD i V.non) (ws.getD i Value.none)
    have hl := r.length
    by_cases hi : i < zs.length
    · have e1 : zs[i]? = some (zs.getD i V.non) := by rw [List.getD_eq_getElem?_getD, List.getElem?_eq_getElem hi]; rfl
      obtain ⟨u, e2, ru⟩ := r.get e1
      rw [show ws.getD i Value.none = u by rw [List.getD_eq_getElem?_getD, e2]; rfl]
      exact ru
    · rw [List.getD_eq_getElem?_getD, List.getD_eq_getElem?_getD, List.getElem?_eq_none (by omega), List.getElem?_eq_none (by omega)]
      exact (rfl : RelV V.non Value.none)
/-- how a call by keywords alone binds -/
def KwB (K : PySem.W.Frag) (fd : FuncData) (ps ks : List Str) (ix : List Nat) : Prop := ix.length = ps.length ∧ ∀ (s : Shared) (ws : List Value), K.In s.heap → ws.length = ks.length → BindsTo s fd ⟨[], ks.zip ws⟩ (ps.zip (picked Value.none ix ws))
def tKw0 (sp : Sp) (n : Nat) (ix : List Nat) (E : XK) (t : TA) : TE := fun σ H Q => t σ H fun vs H1 => vs.length = n ∧ sp (picked V.non ix vs) H1 Q E
section
variable {X : Cx} {CX : CXT} {k : Nat} {f : Addr} {fd : FuncData} {ps ks : List Str} {sp : Sp} {E : XK} {x : Str} {p pos : Pos} {kws : List Keyword} {t : TA} {ix : List Nat}
/-- f(k = v, ..) -/
theorem pe_kw0 (F : FnOk X.prog X.w X.K X.mg X.base CX k f fd ps sp) (hr : Room k X.A) (hg : Gl X x) (hm : X.mg x = some (.ref f)) (hk : PySem.W.keepIn X.K (.ref f) = true) (hb : KwB X.K fd ps ks ix) (hx : Passes CX X E)
    (ha : PK X kws t) (hall : (backToKw pos (keywordEach kws X.env)).all (·.1.isSome) = true := by rfl) (hks : (backToKw pos (keywordEach kws X.env)).filterMap (·.1) = ks := by rfl) (hdb : (x == ("__debug__" : Str)) = false := by decide)
    (hpl : ((backTo pos (starEach [] X.env)).any (·.1) || (backToKw pos (keywordEach kws X.env)).any (·.1.isNone)) = false := by rfl) : PE X (.Call (.Name x p) [] kws pos) (tKw0 sp ks.length ix E t) := by
  refine ⟨fun pins s σ H Q I h => wpAny_Call_Name_kw (ld_glob I hg hm ?_ hdb)⟩
  refine PySem.W.callWith_KW0 (h₀ := X.base) I.ok.mod.kin hk hall (thn (ha.run pos pins s σ H _ I h) fun ws s2 ⟨zs, H2, I2, rz, hl, q2⟩ => ⟨I2.kIn, ?_⟩) hpl
  rw [hks]
  have r2 := picked_vals rz ix
  refine wpAny_call (codeAny_mono (F.run X.A X.stack s2 H2 ⟨[], ks.zip ws⟩ (picked Value.none ix ws) (picked V.non ix zs) Q E hr I2.env0 (hb.2 s2 ws I2.kIn (rz.length.symm.trans hl)) r2 q2) fun o s3 hq => ?_)
  match o, hq with
  | .error e, hq => exact hx pins σ H2 s2 e s3 I2 hq
  | .ok (.ret u), hq => exact I2.after hq
end
section
variable {K : PySem.W.Frag} {x qual : Str} {st : Stmt} {f : Addr} {fd : FuncData} {ps ks : List Str} {ix : List Nat}
theorem Fun.kwb (F : Fun K x qual st f fd) (hix : ix.length = ps.length) (h : ∀ (kV doc pm : Value) (an : Option Addr) (cdv ct : Value) (us : List Value), us.length = ks.length → bindArgs (PySem.W.fnOf x qual (defArgs st) (defBody st) (defScope st) .none kV doc pm an cdv ct) ⟨[], ks.zip us⟩ = pure (ps.zip (picked Value.none ix us))) : KwB K fd ps ks ix := by
  obtain ⟨oc, od, kV, doc, pm, an, cdv, ct, osl, rfl, lk, hcd⟩ := F.ex
  exact ⟨hix, fun s ws _ hl => .of_eq (h kV doc pm an cdv ct ws hl)⟩
end
/-! ### readings, one step each: what stands at the head -/
section
variable {σ : St} {H : Hp} {Q : VK} {D : Ends} {ta tb tc te : TE} {t u : TS} {v : V} {i : Nat} {a b : TT} {K : PySem.W.Frag}
theorem g_seq (h : t { D with nx := u D } σ H) : tSeq t u D σ H := h
theorem g_asg {g : TG} (h : te σ H fun x H1 => g x σ H1 D.nx) : tAsg te g D σ H := h
theorem g_name {Q : St → Hp → Prop} (h : Q (σ.set i (some v)) H) : gName i v σ H Q := h
theorem g_var (e : σ[i]? = some (some v)) (h : Q v H) : tVar i σ H Q := ⟨v, e, h⟩
theorem g_c (h : Q v H) : tC v σ H Q := h
theorem g_op {r : R2} (h : ta σ H fun x H1 => tb σ H1 fun y H2 => r x y H2 Q) : tOp r ta tb σ H Q := h
theorem g_un {r : V → Hp → VK → Prop} (h : ta σ H fun x H1 => r x H1 Q) : tUn r ta σ H Q := h
theorem g_I0 {g : Int → Int → V} {i j : Int} (h : Q (g i j) H) : rI0 g (.int i) (.int j) H Q := ⟨i, j, rfl, rfl, h⟩
theorem g_I {C : Int → Int → Prop} {g : Int → Int → V} {i j : Int} (c : C i j) (h : Q (g i j) H) : rI C g (.int i) (.int j) H Q := ⟨i, j, rfl, rfl, c, h⟩
theorem g_U {g : Int → V} {i : Int} (h : Q (g i) H) : rU g (.int i) H Q := ⟨i, rfl, h⟩
theorem g_eq {x y : V} (c : scal x y = true) (h : Q (.bl (decide (x = y))) H) : rEq x y H Q := ⟨c, h⟩
theorem g_ne {x y : V} (c : scal x y = true) (h : Q (.bl (!decide (x = y))) H) : rNe x y H Q := ⟨c, h⟩
theorem g_tcons {tr : TA} {Q : List V → Hp → Prop} (h : ta σ H fun x H1 => tr σ H1 fun xs H2 => Q (x :: xs) H2) : tCons ta tr σ H Q := h
theorem g_tnil {Q : List V → Hp → Prop} (h : Q [] H) : tNil σ H Q := h
theorem g_call {sp : Sp} {dvs : List V} {E : XK} {tr : TA} (h : tr σ H fun vs H1 => sp (vs ++ dvs) H1 Q E) : tCall sp dvs E tr σ H Q := h
theorem g_cb {r : List V → Hp → VK → Prop} {tr : TA} (h : tr σ H fun vs H1 => r vs H1 Q) : tCB r tr σ H Q := h
theorem g_tup {tr : TA} (h : tr σ H fun xs H1 => xs.length ≤ sizeLine ∧ ∀ p, H1 p = none → Q (.ref p) (upd H1 p (.tup xs))) : tTup tr σ H Q := h
theorem g_lst {tr : TA} (h : tr σ H fun xs H1 => xs.length ≤ sizeLine ∧ ∀ p, H1 p = none → Q (.ref p) (upd H1 p (.lst xs))) : tLst tr σ H Q := h
theorem g_ret (h : te σ H D.rt) : tRet te D σ H := h
theorem g_drop (h : te σ H fun _ H1 => D.nx σ H1) : tDrop te D σ H := h
theorem g_next (h : D.nx σ H) : tNext D σ H := h
theorem g_cont (h : D.ct σ H) : tCont D σ H := h
theorem g_break (h : D.bk σ H) : tBreak D σ H := h
theorem g_ifs (h : a σ H fun b H1 => if b = true then t D σ H1 else u D σ H1) : tIfS a t u D σ H := h
theorem g_ife (h : a σ H fun c H1 => if c = true then ta σ H1 Q else tb σ H1 Q) : tIf a ta tb σ H Q := h
theorem g_test {Q : Bool → Hp → Prop} (h : te σ H fun x H1 => ∃ k, x = .bl k ∧ Q k H1) : tTest te σ H Q := h
theorem g_tb {Q : Bool → Hp → Prop} (h : te σ H fun x H1 => ∃ k, x = .bl k ∧ Q k H1) : tB te σ H Q := h
theorem g_and {Q : Bool → Hp → Prop} (h : a σ H fun c H1 => if c = true then b σ H1 Q else Q false H1) : tAnd a b σ H Q := h
theorem g_or {Q : Bool → Hp → Prop} (h : a σ H fun c H1 => if c = true then Q true H1 else b σ H1 Q) : tOr a b σ H Q := h
theorem g_not {Q : Bool → Hp → Prop} (h : a σ H fun c H1 => Q (!c) H1) : tNot a σ H Q := h
theorem g_andV (h : ta σ H fun x H1 => ∃ c, x = .bl c ∧ if c = true then tb σ H1 Q else Q (.bl false) H1) : tAndV ta tb σ H Q := h
theorem g_orV (h : ta σ H fun x H1 => ∃ c, x = .bl c ∧ if c = true then Q (.bl true) H1 else tb σ H1 Q) : tOrV ta tb σ H Q := h
theorem g_notV (h : ta σ H fun x H1 => ∃ c, x = .bl c ∧ Q (.bl (!c)) H1) : tNotV ta σ H Q := h
theorem g_bl {k : Bool} {P : Bool → Prop} (h : P k) : ∃ c, V.bl k = V.bl c ∧ P c := ⟨k, rfl, h⟩
theorem g_chain {r r' : R2} (h : ta σ H fun x H1 => tb σ H1 fun y H2 => r x y H2 fun z H3 => ∃ k, z = .bl k ∧ (if k = true then tc σ H3 fun w' H4 => r' y w' H4 Q else Q (.bl false) H3)) : tChain r r' ta tb tc σ H Q := h
theorem g_dget (h : ta σ H fun x H1 => tb σ H1 fun y H2 => ∃ a v, x = .ref a ∧ DGet H2 a y (some v) ∧ Q v H2) : tDGet ta tb σ H Q := h
theorem g_dput (h : tc σ H fun v H1 => ta σ H1 fun x H2 => tb σ H2 fun y H3 => ∃ a H4, x = .ref a ∧ DPut H3 a y v H4 ∧ D.nx σ H4) : sDPut ta tb tc D σ H := h
theorem g_for {wi : TI} {g : TG} (h : wi σ H fun J H1 => ∃ W : Nat → Nat → St → Hp → Prop, (∃ m, W 0 m σ H1) ∧ ∀ i m σ H, W i m σ H → (J.stop i H ∧ D.nx σ H) ∨ (J.go i H ∧ ∃ N : St → Hp → Prop, (∀ σ' H', N σ' H' → ∃ m', m' < m ∧ W (i + 1) m' σ' H') ∧ ∀ x H', J.yld i H x H' → g x σ H' fun σ2 H2 => t { D with nx := N, ct := N, bk := D.nx } σ2 H2)) : tFor wi g t D σ H := h
theorem g_ilist {R : It → Hp → Prop} (h : ta σ H fun x H1 => ∃ a, x = .ref a ∧ (∃ xs, SqL K H1 a xs) ∧ R (Itl K a) H1) : iList K ta σ H R := h
theorem g_istr {R : It → Hp → Prop} (h : ta σ H fun v H1 => ∃ x, v = .str x ∧ R (Its x) H1) : iStr ta σ H R := h
theorem g_irng1 {tr : TA} {R : It → Hp → Prop} (h : tr σ H fun vs H1 => ∃ j : Int, vs = [.int j] ∧ -(2 ^ 62) ≤ j ∧ j < 2 ^ 62 ∧ R (Itr 0 j.toNat) H1) : iRng1 tr σ H R := h
theorem g_itrue {c : Bool} {A B : Prop} (e : c = true) (h : A) : if c = true then A else B := by rw [if_pos e]; exact h
theorem g_ifalse {c : Bool} {A B : Prop} (e : c = false) (h : B) : if c = true then A else B := by rw [e, if_neg Bool.false_ne_true]; exact h
theorem g_if {c : Bool} {A B : Prop} (h1 : c = true → A) (h2 : c = false → B) : if c = true then A else B := by
  cases c with
  | true => rw [if_pos rfl]; exact h1 rfl
  | false => rw [if_neg Bool.false_ne_true]; exact h2 rfl
end
end L2
namespace Dr
open PySem L2
/-! the draws of the laws: a dict with four keys -/
def dkv (l : Addr) (a lf u : Int) : List (Key × V) := [(Sum.inr ("cells" : Str), .ref l), (Sum.inr ("at" : Str), .int a), (Sum.inr ("left" : Str), .int lf), (Sum.inr ("used" : Str), .int u)]
theorem n1 : ¬ ((Sum.inr ("cells" : Str) : Key) = Sum.inr ("at" : Str)) := by decide +kernel
theorem n2 : ¬ ((Sum.inr ("cells" : Str) : Key) = Sum.inr ("left" : Str)) := by decide +kernel
theorem n3 : ¬ ((Sum.inr ("cells" : Str) : Key) = Sum.inr ("used" : Str)) := by decide +kernel
theorem n4 : ¬ ((Sum.inr ("at" : Str) : Key) = Sum.inr ("left" : Str)) := by decide +kernel
theorem n5 : ¬ ((Sum.inr ("at" : Str) : Key) = Sum.inr ("used" : Str)) := by decide +kernel
theorem n6 : ¬ ((Sum.inr ("left" : Str) : Key) = Sum.inr ("used" : Str)) := by decide +kernel
theorem m1 : ¬ (("cells" : Str) = "at") := by decide +kernel
theorem m2 : ¬ (("cells" : Str) = "left") := by decide +kernel
theorem m3 : ¬ (("cells" : Str) = "used") := by decide +kernel
theorem m4 : ¬ (("at" : Str) = "cells") := by decide +kernel
theorem m5 : ¬ (("at" : Str) = "left") := by decide +kernel
theorem m6 : ¬ (("at" : Str) = "used") := by decide +kernel
theorem m7 : ¬ (("left" : Str) = "cells") := by decide +kernel
theorem m8 : ¬ (("left" : Str) = "at") := by decide +kernel
theorem m9 : ¬ (("left" : Str) = "used") := by decide +kernel
theorem m10 : ¬ (("used" : Str) = "cells") := by decide +kernel
theorem m11 : ¬ (("used" : Str) = "at") := by decide +kernel
theorem m12 : ¬ (("used" : Str) = "left") := by decide +kernel
variable {l : Addr} {a lf u z : Int} {H : Hp} {d : Addr}
theorem v_cells : valV (dkv l a lf u) (Sum.inr ("cells" : Str)) = some (.ref l) := valV_pos rfl
theorem v_at : valV (dkv l a lf u) (Sum.inr ("at" : Str)) = some (.int a) := by unfold dkv; rw [valV_neg n1, valV_pos rfl]
theorem v_left : valV (dkv l a lf u) (Sum.inr ("left" : Str)) = some (.int lf) := by unfold dkv; rw [valV_neg n2, valV_neg n4, valV_pos rfl]
theorem v_used : valV (dkv l a lf u) (Sum.inr ("used" : Str)) = some (.int u) := by unfold dkv; rw [valV_neg n3, valV_neg n5, valV_neg n6, valV_pos rfl]
theorem p_at : putK (dkv l a lf u) (Sum.inr ("at" : Str)) (.int z) = dkv l z lf u := by simp [putK, mergeK, dkv, m1, m2, m3, m4, m5, m6, m7, m8, m9, m10, m11, m12]
theorem p_left : putK (dkv l a lf u) (Sum.inr ("left" : Str)) (.int z) = dkv l a z u := by simp [putK, mergeK, dkv, m1, m2, m3, m4, m5, m6, m7, m8, m9, m10, m11, m12]
theorem p_used : putK (dkv l a lf u) (Sum.inr ("used" : Str)) (.int z) = dkv l a lf z := by simp [putK, mergeK, dkv, m1, m2, m3, m4, m5, m6, m7, m8, m9, m10, m11, m12]
theorem mrg : mergeK [] [((Sum.inr ("cells" : Str) : Key), V.ref l), (Sum.inr ("at" : Str), .int a), (Sum.inr ("left" : Str), .int lf), (Sum.inr ("used" : Str), .int u)] = dkv l a lf u := by
  simp [putK, mergeK, dkv, m1, m2, m3, m4, m5, m6, m7, m8, m9, m10, m11, m12]
theorem get_cells (h : H d = some (.dK (dkv l a lf u))) : DGet H d (.str "cells") (some (.ref l)) := by rw [← v_cells (a := a) (lf := lf) (u := u)]; exact DGet.k (k := Sum.inr ("cells" : Str)) h
theorem get_at (h : H d = some (.dK (dkv l a lf u))) : DGet H d (.str "at") (some (.int a)) := by rw [← v_at (l := l) (lf := lf) (u := u)]; exact DGet.k (k := Sum.inr ("at" : Str)) h
theorem get_left (h : H d = some (.dK (dkv l a lf u))) : DGet H d (.str "left") (some (.int lf)) := by rw [← v_left (l := l) (a := a) (u := u)]; exact DGet.k (k := Sum.inr ("left" : Str)) h
theorem get_used (h : H d = some (.dK (dkv l a lf u))) : DGet H d (.str "used") (some (.int u)) := by rw [← v_used (l := l) (a := a) (lf := lf)]; exact DGet.k (k := Sum.inr ("used" : Str)) h
theorem put_at (h : H d = some (.dK (dkv l a lf u))) : DPut H d (.str "at") (.int z) (upd H d (.dK (dkv l z lf u))) := by rw [← p_at (a := a)]; exact DPut.k (k := Sum.inr ("at" : Str)) h (by show 4 < _; decide)
theorem put_left (h : H d = some (.dK (dkv l a lf u))) : DPut H d (.str "left") (.int z) (upd H d (.dK (dkv l a z u))) := by rw [← p_left (lf := lf)]; exact DPut.k (k := Sum.inr ("left" : Str)) h (by show 4 < _; decide)
theorem put_used (h : H d = some (.dK (dkv l a lf u))) : DPut H d (.str "used") (.int z) (upd H d (.dK (dkv l a lf z))) := by rw [← p_used (u := u)]; exact DPut.k (k := Sum.inr ("used" : Str)) h (by show 4 < _; decide)
/-- the draws stand at d, at most m of them are used -/
def Draw (H : Hp) (d l : Addr) (m : Nat) : Prop := ∃ (ns : List Int) (a lf u : Int), H d = some (.dK (dkv l a lf u)) ∧ H l = some (.lst (ns.map V.int)) ∧ 0 < ns.length ∧ ns.length ≤ 64 ∧ 0 ≤ a ∧ a ≤ m ∧ 0 ≤ lf ∧ 0 ≤ u ∧ u ≤ m
/-- all but what stands at d is kept -/
def Kp (d : Addr) (H H' : Hp) : Prop := ∀ p o, p ≠ d → H p = some o → H' p = some o
theorem Kp.refl : Kp d H H := fun _ _ _ h => h
theorem Kp.trans {H1 H2 : Hp} (a : Kp d H H1) (b : Kp d H1 H2) : Kp d H H2 := fun p o n h => b p o n (a p o n h)
theorem Kp.new {p : Addr} {o : HO} (h : H p = none) : Kp d H (upd H p o) := fun b x _ e => by rw [upd_ne (ne_of_none e h)]; exact e
theorem Kp.at {o : HO} : Kp d H (upd H d o) := fun b x n e => by rw [upd_ne n]; exact e
theorem Kp.mut {p : Addr} {o : HO} {H1 : Hp} (k : Kp d H H1) (h : H p = none) : Kp d H (upd H1 p o) := fun b x n e => by
  rw [upd_ne (ne_of_none e h)]
  exact k b x n e
theorem Draw.mono {m m' : Nat} (D : Draw H d l m) (h : m ≤ m') : Draw H d l m' := by
  obtain ⟨ns, a, lf, u, h1, h2, h3, h4, h5, h6, h7, h8, h9⟩ := D
  exact ⟨ns, a, lf, u, h1, h2, h3, h4, h5, by omega, h7, h8, by omega⟩
theorem Draw.ne {m : Nat} {p : Addr} (D : Draw H d l m) (h : H p = none) : p ≠ d := by
  obtain ⟨ns, a, lf, u, h1, _⟩ := D
  exact fun e => by rw [e, h1] at h; cases h
/-- a new object leaves the draws -/
theorem Draw.upd {m : Nat} {p : Addr} {o : HO} (D : Draw H d l m) (h : H p = none) : Draw (L2.upd H p o) d l m := by
  obtain ⟨ns, a, lf, u, h1, h2, h3⟩ := D
  exact ⟨ns, a, lf, u, by rw [upd_ne (ne_of_none h1 h)]; exact h1, by rw [upd_ne (ne_of_none h2 h)]; exact h2, h3⟩
theorem Draw.nel {m : Nat} {p : Addr} (D : Draw H d l m) (h : H p = none) : p ≠ l := by
  obtain ⟨ns, a, lf, u, h1, h2, _⟩ := D
  exact fun e => by rw [e, h2] at h; cases h
/-- a change elsewhere leaves the draws -/
theorem Draw.mut {m : Nat} {p : Addr} {o : HO} (D : Draw H d l m) (n1 : p ≠ d) (n2 : p ≠ l) : Draw (L2.upd H p o) d l m := by
  obtain ⟨ns, a, lf, u, h1, h2, h3⟩ := D
  exact ⟨ns, a, lf, u, by rw [upd_ne n1.symm]; exact h1, by rw [upd_ne n2.symm]; exact h2, h3⟩
/-- heaps that know all that an elder one knew -/
theorem Draw.same {H' : Hp} {m : Nat} (D : Draw H d l m) (s : ∀ p o, H p = some o → H' p = some o) : Draw H' d l m := by
  obtain ⟨ns, a, lf, u, h1, h2, h3⟩ := D
  exact ⟨ns, a, lf, u, s _ _ h1, s _ _ h2, h3⟩
/-- the promise of _law_next -/
def spNext : Sp := fun vs H Q _ => ∃ (d l : Addr) (m : Nat) (b : Int), vs = [.ref d, .int b] ∧ Draw H d l m ∧ m < 1000000 ∧ 0 < b ∧ b < 1000000 ∧
  ∀ (r : Int) (H' : Hp), 0 ≤ r → r < b → Draw H' d l (m + 1) → Kp d H H' → (∀ p, H p = none → H' p = none) → Q (.int r) H'
/-- the promise of _law_mixed -/
def spMixed : Sp := fun vs H Q _ => ∃ c k : Int, vs = [.int c, .int k] ∧ 0 ≤ k ∧ k ≤ 1000000 ∧ ∀ r : Int, 0 ≤ r → r < 2147483648 → Q (.int r) H
/-- the promise of _law_begin -/
def spBegin (K : PySem.W.Frag) : Sp := fun vs H Q _ => ∃ (a : Addr) (ns : List Int), vs = [.ref a] ∧ SqL K H a (ns.map V.int) ∧ ns.length ≤ 63 ∧ ∀ (d l : Addr) (H' : Hp), H d = none → H l = none → Draw H' d l 0 → (∀ p o, H p = some o → H' p = some o) → Q (.ref d) H'
/-! the numbers -/
theorem mixA {c k : Int} (hk : 0 ≤ k) : 0 ≤ (c % 1000000007 + 7919 * k * k + 31 * k + 7) := by
  have h1 : 0 ≤ c % 1000000007 := Int.emod_nonneg _ (by decide)
  have h2 : 0 ≤ 7919 * k * k := Int.mul_nonneg (Int.mul_nonneg (by decide) hk) hk
  omega
theorem modB {x : Int} {n : Int} (hn : 0 < n) : 0 ≤ x % n ∧ x % n < n := ⟨Int.emod_nonneg _ (by omega), Int.emod_lt_of_pos _ hn⟩
end Dr
namespace L2
open PySem
section
variable {A B : Prop}
theorem g_ifd {p : Prop} [Decidable p] (h1 : p → A) (h2 : ¬ p → B) : if decide p = true then A else B := by
  by_cases h : p
  · rw [if_pos (decide_eq_true h)]; exact h1 h
  · rw [if_neg (fun z => h (of_decide_eq_true z))]; exact h2 h
theorem g_ifn {p : Prop} [Decidable p] (h1 : ¬ p → A) (h2 : p → B) : if (!decide p) = true then A else B := by
  by_cases h : p
  · rw [decide_eq_true h]; exact (iteF (h2 h))
  · rw [decide_eq_false h]; exact (iteT (h1 h))
end
section
variable {σ : St} {H : Hp} {Q : VK} {K : PySem.W.Frag}
theorem g_ixl {p : Addr} {xs : List V} {i : Int} {v : V} (h : SqL K H p xs) (e : atI xs i = some v) (q : Q v H) : rIxL K (.ref p) (.int i) H Q := ⟨p, xs, i, v, rfl, rfl, h, e, q⟩
theorem g_ixt {p : Addr} {xs : List V} {i : Int} {v : V} (h : SqT K H p xs) (e : atI xs i = some v) (q : Q v H) : rIxT K (.ref p) (.int i) H Q := ⟨p, xs, i, v, rfl, rfl, h, e, q⟩
theorem g_dgets {d : Addr} {y v : V} {N : V → Prop} (h : DGet H d y (some v)) (q : N v) : ∃ a v1, V.ref d = .ref a ∧ DGet H a y (some v1) ∧ N v1 := ⟨d, v, rfl, h, q⟩
theorem g_dputs {d : Addr} {y v : V} {H' : Hp} {N : Hp → Prop} (h : DPut H d y v H') (q : N H') : ∃ a H4, V.ref d = .ref a ∧ DPut H a y v H4 ∧ N H4 := ⟨d, H', rfl, h, q⟩
end
section
variable {X : Cx} {x : Str} {pos : Pos} {z : Str} {i : Int} {t : Tok} {n : String}
theorem pe_gs (hg : Gl X x) (hm : X.mg x = some (.str z t)) (hdb : (x == ("__debug__" : Str)) = false := by decide) : PE X (.Name x pos) (tC (.str z)) := pe_glob (v := .str z) hg hm ⟨t, rfl⟩ hdb
theorem pe_gi (hg : Gl X x) (hm : X.mg x = some (.int i t)) (hdb : (x == ("__debug__" : Str)) = false := by decide) : PE X (.Name x pos) (tC (.int i)) := pe_glob (v := .int i) hg hm ⟨t, rfl⟩ hdb
theorem pe_ty (hg : Gl X x) (hm : X.mg x = none) (hv : bootBuiltins x = some (.type n)) (hn : x ≠ "__name__" := by decide) (hdb : (x == ("__debug__" : Str)) = false := by decide) : PE X (.Name x pos) (tC (.ty n)) := pe_bltn (v := .ty n) hg hm hv rfl hn hdb
end
/-! names for readings that have none -/
section
variable {X : Cx} {H : Hp} {Q : VK} {K : PySem.W.Frag} {σ : St} {ta tb : TE}
def rLen1 (K : PySem.W.Frag) : List V → Hp → VK → Prop := fun xs H Q => ∃ p ys, xs = [.ref p] ∧ (SqL K H p ys ∨ SqT K H p ys) ∧ Q (.int ys.length) H
theorem call_len1 : CallR X (.builtin "len") (rLen1 X.K) := call_len_seq
theorem g_len {p : Addr} {ys : List V} (h : SqL K H p ys) (q : Q (.int ys.length) H) : rLen1 K [.ref p] H Q := ⟨p, ys, rfl, Or.inl h, q⟩
theorem g_lent {p : Addr} {ys : List V} (h : SqT K H p ys) (q : Q (.int ys.length) H) : rLen1 K [.ref p] H Q := ⟨p, ys, rfl, Or.inr h, q⟩
def rLenZ : List V → Hp → VK → Prop := fun xs H Q => ∃ z, xs = [.str z] ∧ z.length ≤ sizeLine ∧ Q (.int z.length) H
theorem call_lenZ : CallR X (.builtin "len") rLenZ := call_len_str
theorem g_lenz {z : Str} (h : z.length ≤ sizeLine) (q : Q (.int z.length) H) : rLenZ [.str z] H Q := ⟨z, rfl, h, q⟩
def rMin1 : List V → Hp → VK → Prop := fun xs H Q => ∃ i j, xs = [.int i, .int j] ∧ Q (.int (if j < i then j else i)) H
theorem call_min1 (hc : X.calm = true) : CallR X (.builtin "min") rMin1 := call_min2 hc
theorem g_min {i j : Int} (q : Q (.int (if j < i then j else i)) H) : rMin1 [.int i, .int j] H Q := ⟨i, j, rfl, q⟩
def rMax1 : List V → Hp → VK → Prop := fun xs H Q => ∃ i j, xs = [.int i, .int j] ∧ Q (.int (if j > i then j else i)) H
theorem call_max1 (hc : X.calm = true) : CallR X (.builtin "max") rMax1 := call_max2 hc
theorem g_max {i j : Int} (q : Q (.int (if j > i then j else i)) H) : rMax1 [.int i, .int j] H Q := ⟨i, j, rfl, q⟩
def rOrd1 : List V → Hp → VK → Prop := fun xs H Q => ∃ x, xs = [.str x] ∧ x.length = 1 ∧ Q (.int (x.cps.getD 0 0 : Nat)) H
theorem call_ord1 : CallR X (.builtin "ord") rOrd1 := call_ord
theorem g_ord {c : Nat} (q : Q (.int (c : Nat)) H) : rOrd1 [.str ⟨#[c]⟩] H Q := ⟨_, rfl, rfl, q⟩
def rCatZ : R2 := fun x y H Q => ∃ i j, x = .str i ∧ y = .str j ∧ i.length + j.length ≤ sizeLine ∧ Q (.str (i ++ j)) H
theorem op_addZ : OpR X (binaryOp .Add) rCatZ := op_add_str
theorem g_addz {i j : Str} (h : i.length + j.length ≤ sizeLine) (q : Q (.str (i ++ j)) H) : rCatZ (.str i) (.str j) H Q := ⟨i, j, rfl, rfl, h, q⟩
def rLtZ : R2 := fun x y H Q => ∃ i j, x = .str i ∧ y = .str j ∧ Q (.bl (decide (i.cps.toList < j.cps.toList))) H
theorem op_ltZ : OpR X (compareOp .Lt) rLtZ := op_lt_str
theorem g_ltz {i j : Str} (q : Q (.bl (decide (i.cps.toList < j.cps.toList))) H) : rLtZ (.str i) (.str j) H Q := ⟨i, j, rfl, rfl, q⟩
theorem g_isn {x : V} (q : Q (.bl (decide (x = .non))) H) : rIsN x .non H Q := ⟨rfl, q⟩
theorem g_notn {x : V} (q : Q (.bl (!decide (x = .non))) H) : rNotN x .non H Q := ⟨rfl, q⟩
theorem g_inS {c : Nat} {z : Str} (q : Q (.bl (decide (c ∈ z.cps.toList))) H) : rInS (.str ⟨#[c]⟩) (.str z) H Q := ⟨c, z, rfl, rfl, q⟩
theorem g_notInS {c : Nat} {z : Str} (q : Q (.bl (!decide (c ∈ z.cps.toList))) H) : rNotInS (.str ⟨#[c]⟩) (.str z) H Q := ⟨c, z, rfl, rfl, q⟩
theorem g_ixz {z : Str} {i : Int} {c : Nat} (h : z.length ≤ sizeLine) (e : atI z.cps.toList i = some c) (q : Q (.str ⟨#[c]⟩) H) : rIxS (.str z) (.int i) H Q := ⟨z, i, c, rfl, rfl, h, e, q⟩
theorem g_isi {x c : V} {t u : Value} {b : Bool} (k : ClsV c u) (ty : TyX K H x t) (e : PySem.W.kitOne K t u = some b) (q : Q (.bl b) H) : rIsi K [x, c] H Q := ⟨x, c, t, u, b, rfl, k, ty, e, q⟩
theorem g_all {a : Addr} {bs : List Bool} (h : SqL K H a (bs.map V.bl)) (q : Q (.bl (bs.all id)) H) : rAll K [.ref a] H Q := ⟨a, bs, rfl, h, q⟩
theorem g_any {a : Addr} {bs : List Bool} (h : SqL K H a (bs.map V.bl)) (q : Q (.bl (bs.any id)) H) : rAny K [.ref a] H Q := ⟨a, bs, rfl, h, q⟩
theorem g_cats {l b : Addr} {xs zs : List V} (h1 : SqL K H l xs) (h2 : SqL K H b zs) (h3 : xs.length + zs.length ≤ sizeLine) (q : ∀ p, H p = none → Q (.ref p) (upd H p (.lst (xs ++ zs)))) : rCatS K (.ref l) (.ref b) H Q := ⟨l, b, xs, zs, rfl, rfl, h1, h2, h3, q⟩
theorem g_eqd {x y : V} {d e : PyData} (h1 : Dp K H x d) (h2 : Dp K H y e) (s1 : SeqAt.shaped d = true) (s2 : SeqAt.shaped e = true) (q : Q (.bl (PyData.eqv d e)) H) : rEqD K x y H Q := ⟨d, e, h1, h2, s1, s2, q⟩
theorem g_ned {x y : V} {d e : PyData} (h1 : Dp K H x d) (h2 : Dp K H y e) (s1 : SeqAt.shaped d = true) (s2 : SeqAt.shaped e = true) (q : Q (.bl (!PyData.eqv d e)) H) : rNeD K x y H Q := ⟨d, e, h1, h2, s1, s2, q⟩
theorem g_sl {tl th : TO} {r : V → Option Int → Option Int → Hp → VK → Prop} (h : ta σ H fun x H1 => tl σ H1 fun l H2 => th σ H2 fun u H3 => r x l u H3 Q) : tSl r ta tl th σ H Q := h
theorem g_nop {Q : Option Int → Hp → Prop} (h : Q none H) : tNoPart σ H Q := h
theorem g_part {Q : Option Int → Hp → Prop} (h : ta σ H fun x H1 => ∃ i, x = .int i ∧ Q (some i) H1) : tPart ta σ H Q := h
theorem g_int {i : Int} {N : Int → Prop} (q : N i) : ∃ j, V.int i = .int j ∧ N j := ⟨i, rfl, q⟩
theorem g_slz {z : Str} {lo hi : Option Int} (h : z.length ≤ sizeLine) (q : Q (.str (cutS z lo hi)) H) : rSlS (.str z) lo hi H Q := ⟨z, rfl, h, q⟩
theorem g_m1 {r : V → List V → Hp → VK → Prop} (h : ta σ H fun x H1 => (∃ a, x = .str a) ∧ tb σ H1 fun y H2 => r x [y] H2 Q) : tM1 r ta tb σ H Q := h
theorem g_m0 {r : V → List V → Hp → VK → Prop} (h : ta σ H fun x H1 => (∃ a, x = .str a) ∧ r x [] H1 Q) : tM0 r ta σ H Q := h
theorem g_isz {z : Str} {N : Prop} (h : N) : (∃ a, V.str z = .str a) ∧ N := ⟨⟨z, rfl⟩, h⟩
def rJoinV (K : PySem.W.Frag) : V → List V → Hp → VK → Prop := fun x xs H Q => ∃ a p, ∃ ys : List Str, x = .str a ∧ xs = [.ref p] ∧ (SqL K H p (ys.map V.str) ∨ SqT K H p (ys.map V.str)) ∧ (ys.map (·.length)).sum + ys.length * a.length ≤ 16777216 ∧ Q (.str (Txt.join a ys)) H
theorem mt_joinV : MtR X "str.join" (rJoinV X.K) := mt_join
theorem g_join {a : Str} {p : Addr} {ys : List Str} (h : SqL K H p (ys.map V.str)) (hs : (ys.map (·.length)).sum + ys.length * a.length ≤ 16777216) (q : Q (.str (Txt.join a ys)) H) : rJoinV K (.str a) [.ref p] H Q := ⟨a, p, ys, rfl, rfl, Or.inl h, hs, q⟩
def rUpV : V → List V → Hp → VK → Prop := fun x xs H Q => ∃ a, x = .str a ∧ xs = [] ∧ a.length ≤ 5592405 ∧ Q (.str (Txt.upper a)) H
theorem mt_upV : MtR X "str.upper" rUpV := mt_upper
theorem g_up {a : Str} (h : a.length ≤ 5592405) (q : Q (.str (Txt.upper a)) H) : rUpV (.str a) [] H Q := ⟨a, rfl, rfl, h, q⟩
theorem g_bm {T : String} {r : V → List V → Hp → VK → Prop} {tr : TA} (h : ta σ H fun x H1 => tyV K T x H1 ∧ tr σ H1 fun xs H2 => r x xs H2 Q) : tBM K T r ta tr σ H Q := h
theorem g_append {l : Addr} {xs : List V} {y : V} (h : H l = some (.lst xs)) (hs : xs.length < sizeLine) (q : Q .non (upd H l (.lst (xs ++ [y])))) : rAppend (.ref l) [y] H Q := ⟨l, xs, y, rfl, rfl, h, hs, q⟩
theorem ty_list {l : Addr} {xs : List V} (h : H l = some (.lst xs)) : tyV K "list" (.ref l) H := Or.inl ⟨rfl, _, SqL.of h⟩
end
section
variable {σ : St} {H : Hp} {Q : VK} {ta tb : TE}
theorem g_pcons {r : List (TE × TE)} {Q : List (V × V) → Hp → Prop} (h : ta σ H fun x H1 => tb σ H1 fun y H2 => tPairs r σ H2 fun ps H3 => Q ((x, y) :: ps) H3) : tPairs ((ta, tb) :: r) σ H Q := h
theorem g_yes {Q : Bool → Hp → Prop} (h : Q true H) : tYes σ H Q := h
theorem g_pnil {Q : List (V × V) → Hp → Prop} (h : Q [] H) : tPairs [] σ H Q := h
theorem g_disp {trs : List (TE × TE)} (h : ∀ p, H p = none → tPairs trs σ (upd H p (.dK [])) fun ps H2 => H2 p = some (.dK []) ∧ ∃ kvs : List (Key × V), ps = kvs.map (fun kv => (kV kv.1, kv.2)) ∧ kvs.length ≤ 15 ∧ Q (.ref p) (upd H2 p (.dK (mergeK [] kvs)))) : tDisp trs σ H Q := h
end
theorem same_new {H : Hp} {p : Addr} {o : HO} (h : H p = none) : Same H (upd H p o) := fun b x e => by
  rw [upd_ne (ne_of_none e h)]
  exact e
theorem Same.sqt {K : PySem.W.Frag} {H H' : Hp} {a : Addr} {xs : List V} (e : Same H H') (h : SqT K H a xs) : SqT K H' a xs := by
  rcases h with (h | ⟨o, h⟩) | h
  · exact .inl (.inl (e _ _ h))
  · exact .inl (.inr ⟨o, e _ _ h⟩)
  · exact .inr h
theorem Same.mut {H H1 : Hp} {p : Addr} {o : HO} (s : Same H H1) (h : H p = none) : Same H (upd H1 p o) := fun b x e => by
  rw [upd_ne (ne_of_none e h)]
  exact s b x e
/-- an item of a list of ints -/
theorem atI_int {ns : List Int} {i : Int} (h0 : 0 ≤ i) (h1 : i < ns.length) : ∃ c, atI (ns.map V.int) i = some (.int c) := by
  have hi : i.toNat < ns.length := by omega
  refine ⟨ns[i.toNat], ?_⟩
  have e := atI_nat (xs := ns.map V.int) (j := i.toNat) (v := V.int ns[i.toNat]) (by rw [List.getElem?_map, List.getElem?_eq_getElem hi]; rfl)
  rw [Int.toNat_of_nonneg h0] at e
  exact e
end L2
namespace L2
open PySem
/-! ### any object that a law hands in -/
/-- the kinds of objects: what is needed of them -/
inductive AnyO (H : Hp) : V → Prop where
  | non : AnyO H .non
  | bl (b : Bool) : AnyO H (.bl b)
  | int (i : Int) : AnyO H (.int i)
  | str (s : Str) (h : s.length ≤ 10000) (h2 : PyData.strOk s = true) : AnyO H (.str s)
  | lst {a : Addr} {xs : List V} (h : H a = some (.lst xs)) : AnyO H (.ref a)
  | tup {a : Addr} {xs : List V} (h : H a = some (.tup xs)) : AnyO H (.ref a)
  | dic {a : Addr} {kvs : List (Key × V)} (h : H a = some (.dK kvs)) : AnyO H (.ref a)
theorem AnyO.same {H H' : Hp} {x : V} (a : AnyO H x) (s : Same H H') : AnyO H' x := by
  cases a with
  | non => exact .non
  | bl b => exact .bl b
  | int i => exact .int i
  | str z h h2 => exact .str z h h2
  | lst h => exact .lst (s _ _ h)
  | tup h => exact .tup (s _ _ h)
  | dic h => exact .dic (s _ _ h)
def isIntV : V → Bool | .int _ => true | .bl _ => true | _ => false
def isBlV : V → Bool | .bl _ => true | _ => false
def isStrV : V → Bool | .str _ => true | _ => false
theorem AnyO.kit {K : PySem.W.Frag} {H : Hp} {x : V} (a : AnyO H x) : ∃ t, TyX K H x t ∧ PySem.W.kitOne K t (.type "int") = some (isIntV x) ∧ PySem.W.kitOne K t (.type "bool") = some (isBlV x) ∧ PySem.W.kitOne K t (.type "str") = some (isStrV x) := by
  cases a with
  | non => exact ⟨_, .base .non, kit_ty (r := false) (by decide +kernel), kit_ty (r := false) (by decide +kernel), kit_ty (r := false) (by decide +kernel)⟩
  | bl b => exact ⟨_, .base (.bl b), kit_ty (r := true) (by decide +kernel), kit_ty (r := true) (by decide +kernel), kit_ty (r := false) (by decide +kernel)⟩
  | int i => exact ⟨_, .base (.int i), kit_ty (r := true) (by decide +kernel), kit_ty (r := false) (by decide +kernel), kit_ty (r := false) (by decide +kernel)⟩
  | str z h h2 => exact ⟨_, .base (.str z), kit_ty (r := false) (by decide +kernel), kit_ty (r := false) (by decide +kernel), kit_ty (r := true) (by decide +kernel)⟩
  | lst h => exact ⟨_, .base (.lst h), kit_ty (r := false) (by decide +kernel), kit_ty (r := false) (by decide +kernel), kit_ty (r := false) (by decide +kernel)⟩
  | tup h => exact ⟨_, .base (.tup h), kit_ty (r := false) (by decide +kernel), kit_ty (r := false) (by decide +kernel), kit_ty (r := false) (by decide +kernel)⟩
  | dic h => exact ⟨_, .base (.dK h), kit_ty (r := false) (by decide +kernel), kit_ty (r := false) (by decide +kernel), kit_ty (r := false) (by decide +kernel)⟩
section
variable {X : Cx} {H : Hp} {Q : VK} {K : PySem.W.Frag} {σ : St} {ta tb te : TE}
theorem g_isint {x : V} (a : AnyO H x) (q : Q (.bl (isIntV x)) H) : rIsi K [x, .ty "int"] H Q := by
  obtain ⟨t, h1, h2, h3, h4⟩ := a.kit (K := K)
  exact g_isi (.ty _) h1 h2 q
theorem g_isbl {x : V} (a : AnyO H x) (q : Q (.bl (isBlV x)) H) : rIsi K [x, .ty "bool"] H Q := by
  obtain ⟨t, h1, h2, h3, h4⟩ := a.kit (K := K)
  exact g_isi (.ty _) h1 h3 q
theorem g_isstr {x : V} (a : AnyO H x) (q : Q (.bl (isStrV x)) H) : rIsi K [x, .ty "str"] H Q := by
  obtain ⟨t, h1, h2, h3, h4⟩ := a.kit (K := K)
  exact g_isi (.ty _) h1 h4 q
def rLeZ : R2 := fun x y H Q => ∃ i j, x = .str i ∧ y = .str j ∧ Q (.bl (!decide (j.cps.toList < i.cps.toList))) H
theorem op_leZ : OpR X (compareOp .LtE) rLeZ := op_le_str
theorem g_lez {i j : Str} (q : Q (.bl (!decide (j.cps.toList < i.cps.toList))) H) : rLeZ (.str i) (.str j) H Q := ⟨i, j, rfl, rfl, q⟩
/-! ### comprehensions over the signs of a text whose steps make nothing -/
theorem g_lc {wi : TI} {g : TG} {tt : TT} {vs : List Nat} (h : wi σ H fun J H1 => ∀ D, H1 D = none → ∃ W : Nat → Nat → Hp → Prop, (∃ m, W 0 m (upd H1 D (.lst []))) ∧ ∀ i m H, W i m H →
  (J.stop i H ∧ Q (.ref D) H) ∨ (J.go i H ∧ ∃ Nx : Hp → Prop, (∀ H', Nx H' → ∃ m', m' < m ∧ W (i + 1) m' H') ∧ ∀ x H', J.yld i H x H' → g x (wipe σ vs) H' fun σ2 H2 => wipe σ2 vs = wipe σ vs ∧ tt σ2 H2 fun b H3 =>
    if b = true then te σ2 H3 fun y H4 => ∃ acc, H4 D = some (.lst acc) ∧ acc.length < sizeLine ∧ Nx (upd H4 D (.lst (acc ++ [y]))) else Nx H3)) : tLc wi g tt te vs σ H Q := h
theorem lc_str {x : Str} {g : TG} {tt : TT} {te : TE} {vs : List Nat} {σ : St} {H1 : Hp} {D : Addr} {Qd : Hp → Prop} (p : Nat → Bool) (f : Nat → V) (hz : x.length ≤ 100000)
    (hs : ∀ c acc (Nx : Hp → Prop), c ∈ x.cps.toList → (p c = true → ∀ H4 : Hp, H4 D = some (.lst acc) → H4 = upd H1 D (.lst acc) → ∃ acc', H4 D = some (.lst acc') ∧ acc'.length < sizeLine ∧ Nx (upd H4 D (.lst (acc' ++ [f c])))) → (p c = false → Nx (upd H1 D (.lst acc))) →
      g (.str ⟨#[c]⟩) (wipe σ vs) (upd H1 D (.lst acc)) fun σ2 H2 => wipe σ2 vs = wipe σ vs ∧ tt σ2 H2 fun b H3 => if b = true then te σ2 H3 fun y H4 => ∃ acc, H4 D = some (.lst acc) ∧ acc.length < sizeLine ∧ Nx (upd H4 D (.lst (acc ++ [y]))) else Nx H3)
    (hd : Qd (upd H1 D (.lst ((x.cps.toList.filter p).map f)))) :
    ∃ W : Nat → Nat → Hp → Prop, (∃ m, W 0 m (upd H1 D (.lst []))) ∧ ∀ i m H, W i m H →
      ((Its x).stop i H ∧ Qd H) ∨ ((Its x).go i H ∧ ∃ Nx : Hp → Prop, (∀ H', Nx H' → ∃ m', m' < m ∧ W (i + 1) m' H') ∧ ∀ y H', (Its x).yld i H y H' → g y (wipe σ vs) H' fun σ2 H2 => wipe σ2 vs = wipe σ vs ∧ tt σ2 H2 fun b H3 =>
        if b = true then te σ2 H3 fun y H4 => ∃ acc, H4 D = some (.lst acc) ∧ acc.length < sizeLine ∧ Nx (upd H4 D (.lst (acc ++ [y]))) else Nx H3) := by
  refine ⟨fun i m H => m = x.cps.size - i ∧ i ≤ x.cps.size ∧ H = upd H1 D (.lst (((x.cps.toList.take i).filter p).map f)), ⟨x.cps.size, by simp, Nat.zero_le _, rfl⟩, ?_⟩
  rintro i m H ⟨rfl, hi, rfl⟩
  by_cases hlt : i < x.cps.size
  · refine Or.inr ⟨hlt, fun H => H = upd H1 D (.lst (((x.cps.toList.take (i + 1)).filter p).map f)), fun H' e => ⟨x.cps.size - (i + 1), by omega, rfl, by omega, e⟩, ?_⟩
    rintro y H' ⟨rfl, c, hc, rfl⟩
    have hl : x.cps.toList[i]? = some c := by rw [Array.getElem?_toList]; exact hc
    have ht : x.cps.toList.take (i + 1) = x.cps.toList.take i ++ [c] := by rw [List.take_add_one, hl]; rfl
    refine hs c _ _ (List.mem_of_getElem? hl) (fun hp H4 e1 e2 => ⟨_, e1, ?_, ?_⟩) (fun hp => ?_)
    · rw [List.length_map]
      refine Nat.lt_of_le_of_lt (List.length_filter_le _ _) ?_
      rw [List.length_take]
      exact Nat.lt_of_le_of_lt (Nat.min_le_right _ _) (Nat.lt_of_le_of_lt (show x.cps.toList.length ≤ 100000 from hz) (by decide))
    · rw [e2, upd_upd, ht, List.filter_append, List.map_append]
      simp [hp]
    · rw [ht, List.filter_append]
      simp [hp]
  · have e : i = x.cps.size := by omega
    subst e
    refine Or.inl ⟨Nat.le_refl _, ?_⟩
    have et : x.cps.toList.take x.cps.size = x.cps.toList := List.take_of_length_le (by simp)
    rw [et]
    exact hd
end
end L2
namespace Mk
open PySem L2
/-! the marks: what the functions are worth -/
def btw (x : V) (lo hi : Int) : Bool := match x with
  | .int i => decide (lo ≤ i) && decide (i ≤ hi)
  | _ => false
def consists (x : V) (m : Str) : Bool := match x with
  | .str s => s.cps.toList.all fun c => decide (c ∈ m.cps.toList)
  | _ => false
def MARKS : Str := " !\"#$&'()*+,-./0123456789:;<=>?@ABCDEFGHIJKLMNOPQRSTUVWXYZ[\\]^_`abcdefghijklmnopqrstuvwxyz{|}~"
def LETS : Str := "ABCDEFGHIJKLMNOPQRSTUVWXYZabcdefghijklmnopqrstuvwxyz"
def LADS : Str := "ABCDEFGHIJKLMNOPQRSTUVWXYZabcdefghijklmnopqrstuvwxyz0123456789"
def NOAT : Str := " ()<>,;:@\""
def isPlain (x : V) : Bool := btw x 32 126 && !decide (x = .int 37)
def isCode (x : V) : Bool := isPlain x || btw x 160 65535
def isBody (x : V) : Bool := consists x MARKS
def isRaw (x : V) : Bool := consists x (MARKS ++ ("\n" : Str))
def isLabel (x : V) : Bool := match x with
  | .str s => consists x (LADS ++ ("-" : Str)) && decide (1 ≤ s.length) && decide (s.length ≤ 20) && (match s.cps.toList with | c :: _ => decide (c ∈ LETS.cps.toList) | [] => false)
  | _ => false
def isAtom (x : V) : Bool := match x with
  | .str s => isBody x && decide (s ≠ "") && !(s.cps.toList.any fun c => decide (c ∈ NOAT.cps.toList))
  | _ => false
theorem int_of {x : V} (h1 : isIntV x = true) (h2 : isBlV x = false) : ∃ i, x = .int i := by
  cases x with
  | int i => exact ⟨i, rfl⟩
  | bl b => cases h2
  | _ => cases h1
theorem str_of {x : V} (h1 : isStrV x = true) : ∃ s, x = .str s := by
  cases x with
  | str s => exact ⟨s, rfl⟩
  | _ => cases h1
theorem btw_no {x : V} {lo hi : Int} (h : isIntV x = false) : btw x lo hi = false := by
  cases x with
  | int i => cases h
  | _ => rfl
theorem btw_bl {x : V} {lo hi : Int} (h : isBlV x = true) : btw x lo hi = false := by
  cases x with
  | bl i => rfl
  | _ => cases h
theorem btw_int {x : V} {lo hi : Int} (h : btw x lo hi = true) : ∃ i, x = .int i ∧ lo ≤ i ∧ i ≤ hi := by
  cases x with
  | int i =>
    have h' : (decide (lo ≤ i) && decide (i ≤ hi)) = true := h
    rw [Bool.and_eq_true] at h'
    exact ⟨i, rfl, of_decide_eq_true h'.1, of_decide_eq_true h'.2⟩
  | _ => cases h
theorem cons_no {x : V} {m : Str} (h : isStrV x = false) : consists x m = false := by
  cases x with
  | str i => cases h
  | _ => rfl
theorem str_len {H : Hp} {s : Str} (a : AnyO H (.str s)) : s.length ≤ 10000 := by
  cases a with
  | str _ h _ => exact h
theorem str_ok {H : Hp} {s : Str} (a : AnyO H (.str s)) : PyData.strOk s = true := by
  cases a with
  | str _ _ h => exact h
/-! the promises -/
def spBetween : Sp := fun vs H Q _ => ∃ (x : V) (lo hi : Int), vs = [x, .int lo, .int hi] ∧ AnyO H x ∧ Q (.bl (btw x lo hi)) H
def spCons : Sp := fun vs H Q _ => ∃ (x : V) (m : Str), vs = [x, .str m] ∧ AnyO H x ∧ ∀ H', Same H H' → Q (.bl (consists x m)) H'
/-- a test of one object -/
def spTest (f : V → Bool) : Sp := fun vs H Q _ => ∃ (x : V), vs = [x] ∧ AnyO H x ∧ ∀ H', Same H H' → Q (.bl (f x)) H'
end Mk
namespace Mk
open PySem L2
def spNum : Sp := fun vs H Q _ => ∃ (x : V), vs = [x] ∧ AnyO H x ∧ Q (.bl (isIntV x && !isBlV x)) H
end Mk
namespace L2
open PySem
theorem atI_all {xs : List V} {p : V → Bool} {i : Int} (ha : xs.all p = true) (h0 : 0 ≤ i) (h1 : i < xs.length) : ∃ v, atI xs i = some v ∧ p v = true := by
  have hi : i.toNat < xs.length := by omega
  refine ⟨xs[i.toNat], ?_, List.all_eq_true.mp ha _ (List.getElem_mem hi)⟩
  have e := atI_nat (xs := xs) (j := i.toNat) (List.getElem?_eq_getElem hi)
  rw [Int.toNat_of_nonneg h0] at e
  exact e
theorem atI_mem {xs : List V} {i : Int} (h0 : 0 ≤ i) (h1 : i < xs.length) : ∃ v, atI xs i = some v ∧ v ∈ xs := by
  have hi : i.toNat < xs.length := by omega
  refine ⟨xs[i.toNat], ?_, List.getElem_mem hi⟩
  have e := atI_nat (xs := xs) (j := i.toNat) (List.getElem?_eq_getElem hi)
  rw [Int.toNat_of_nonneg h0] at e
  exact e
def strLe (n : Nat) : V → Bool
  | .str s => decide (s.length ≤ n) && PyData.strOk s
  | _ => false
theorem strLe_of {n : Nat} {v : V} (h : strLe n v = true) : ∃ s, v = .str s ∧ s.length ≤ n ∧ PyData.strOk s = true := by
  cases v with
  | str s =>
    have h' : (decide (s.length ≤ n) && PyData.strOk s) = true := h
    rw [Bool.and_eq_true] at h'
    exact ⟨s, rfl, of_decide_eq_true h'.1, h'.2⟩
  | _ => cases h
def isI : V → Bool
  | .int _ => true
  | _ => false
theorem isI_of {v : V} (h : isI v = true) : ∃ i, v = .int i := by
  cases v with
  | int i => exact ⟨i, rfl⟩
  | _ => cases h
theorem len_app {a b : Str} : (a ++ b).length = a.length + b.length := by
  show (a.cps ++ b.cps).size = _
  rw [Array.size_append]
  rfl
/-- all of a written list -/
theorem all_mem {p : V → Prop} {xs : List V} (h : ∀ v ∈ xs, p v) {v : V} (hv : v ∈ xs) : p v := h v hv
theorem fm_cons {p : V → Prop} {x : V} {xs : List V} (h : p x) (hs : ∀ v ∈ xs, p v) : ∀ v ∈ x :: xs, p v := fun v hv => by
  rcases List.mem_cons.mp hv with e | e
  · rw [e]; exact h
  · exact hs v e
theorem fm_nil {p : V → Prop} : ∀ v ∈ ([] : List V), p v := fun _ h => nomatch h
section
variable {H : Hp} {Q : VK} {K : PySem.W.Frag} {σ : St} {ta tb te : TE} {D : Ends}
theorem g_pick (pr : V → Bool) {p : Addr} {xs : List V} {i : Int} (h : H p = some (.lst xs)) (h0 : 0 ≤ i) (h1 : i < xs.length) (ha : xs.all pr = true) (q : ∀ v, pr v = true → Q v H) : rIxL K (.ref p) (.int i) H Q := by
  obtain ⟨v, e, hv⟩ := atI_all ha h0 h1
  exact g_ixl (SqL.of h) e (q v hv)
theorem g_pickP {pr : V → Prop} {p : Addr} {xs : List V} {i : Int} (h : H p = some (.lst xs)) (h0 : 0 ≤ i) (h1 : i < xs.length) (ha : ∀ v ∈ xs, pr v) (q : ∀ v, pr v → Q v H) : rIxL K (.ref p) (.int i) H Q := by
  obtain ⟨v, e, hv⟩ := atI_mem h0 h1
  exact g_ixl (SqL.of h) e (q v (ha v hv))
theorem g_par {i j : Nat} {tr : TA} (h : tr σ H fun vs H1 => ∃ v w, vs = [v, w] ∧ D.nx ((σ.set i (some v)).set j (some w)) H1) : tPar i j tr D σ H := h
theorem g_two {v w : V} {N : V → V → Prop} (h : N v w) : ∃ v1 w1, [v, w] = [v1, w1] ∧ N v1 w1 := ⟨v, w, rfl, h⟩
theorem g_dnew (h : ∀ p, H p = none → Q (.ref p) (upd H p (.dK []))) : tDNewK σ H Q := h
theorem g_gtup {n : Nat} {t : TGs} {a : Addr} {xs : List V} {Q : St → Hp → Prop} (h : SqT K H a xs) (hn : xs.length = n) (q : t xs σ H Q) : gTup K n t (.ref a) σ H Q := ⟨a, xs, rfl, h, hn, q⟩
theorem g_gcons {t : TG} {u : TGs} {v : V} {r : List V} {Q : St → Hp → Prop} (h : t v σ H fun σ' H' => u r σ' H' Q) : gCons t u (v :: r) σ H Q := ⟨v, r, rfl, h⟩
theorem g_gnil {Q : St → Hp → Prop} (h : Q σ H) : gNil [] σ H Q := ⟨rfl, h⟩
theorem g_kw0 {sp : Sp} {n : Nat} {ix : List Nat} {E : XK} {tr : TA} (h : tr σ H fun vs H1 => vs.length = n ∧ sp (picked V.non ix vs) H1 Q E) : tKw0 sp n ix E tr σ H Q := h
theorem g_repr {a : Addr} {d : PyData} (h : Dp K H (.ref a) d) (h1 : d.showable = true) (h2 : d.hasDict = false) (h3 : d.depth ≤ 20) (h4 : d.shown.length ≤ sizeLine) (q : Q (.str d.shown) H) : rRepr K [.ref a] H Q := ⟨a, d, rfl, h, h1, h2, h3, h4, q⟩
end
end L2
namespace L2
open PySem
theorem ap_list (a b : Str) : (a ++ b).cps.toList = a.cps.toList ++ b.cps.toList := by
  show (a.cps ++ b.cps).toList = _
  rw [Array.toList_append]
theorem sj_list : ∀ ys : List Str, (Str.join ("" : Str) ys).cps.toList = (ys.map fun y => y.cps.toList).flatten
  | [] => rfl
  | [x] => by
    show x.cps.toList = _
    simp
  | x :: y :: r => by
    show ((x ++ ("" : Str)) ++ Str.join ("" : Str) (y :: r)).cps.toList = _
    rw [ap_list, ap_list, sj_list (y :: r)]
    show (x.cps.toList ++ []) ++ _ = _
    rw [List.append_nil]
    rfl
theorem join_list (ys : List Str) : (Txt.join ("" : Str) ys).cps.toList = (ys.map fun y => y.cps.toList).flatten := by
  rw [show Txt.join ("" : Str) ys = Str.join ("" : Str) ys from PySem.StrLaws.glued_eq_join _ ys, sj_list]
theorem len_list (z : Str) : z.length = z.cps.toList.length := by
  show z.cps.size = _
  rw [Array.length_toList]
theorem join_len {ys : List Str} {b : Nat} (h : ∀ y ∈ ys, y.length ≤ b) : (Txt.join ("" : Str) ys).length ≤ ys.length * b := by
  rw [len_list, join_list]
  induction ys with
  | nil => exact Nat.zero_le _
  | cons y r ih =>
    rw [List.map_cons, List.flatten_cons, List.length_append, List.length_cons, Nat.add_mul, Nat.one_mul, Nat.add_comm]
    exact Nat.add_le_add (ih fun z hz => h z (List.mem_cons_of_mem _ hz)) (by rw [← len_list]; exact h y List.mem_cons_self)
theorem sum_len {ys : List Str} {b : Nat} (h : ∀ y ∈ ys, y.length ≤ b) : (ys.map (·.length)).sum ≤ ys.length * b := by
  induction ys with
  | nil => exact Nat.zero_le _
  | cons y r ih =>
    rw [List.map_cons, List.sum_cons, List.length_cons, Nat.add_mul, Nat.one_mul, Nat.add_comm]
    exact Nat.add_le_add (ih fun z hz => h z (List.mem_cons_of_mem _ hz)) (h y List.mem_cons_self)
section
variable {H : Hp} {Q : VK} {K : PySem.W.Frag}
theorem g_pickz {z : Str} {i : Int} (h : z.length ≤ sizeLine) (h0 : 0 ≤ i) (h1 : i < z.length) (q : ∀ c, c ∈ z.cps.toList → Q (.str ⟨#[c]⟩) H) : rIxS (.str z) (.int i) H Q := by
  have hi : i.toNat < z.cps.toList.length := by rw [← len_list]; omega
  have e := atI_nat (xs := z.cps.toList) (j := i.toNat) (List.getElem?_eq_getElem hi)
  rw [Int.toNat_of_nonneg h0] at e
  exact g_ixz h e (q _ (List.getElem_mem hi))
end
end L2
namespace L2
theorem AnyO.kp {d : PySem.Addr} {H H' : Hp} {x : V} (a : AnyO H x) (k : Dr.Kp d H H') (n : x ≠ .ref d) : AnyO H' x := by
  cases a with
  | non => exact .non
  | bl b => exact .bl b
  | int i => exact .int i
  | str z h h2 => exact .str z h h2
  | lst h => exact .lst (k _ _ (fun e => n (by rw [e])) h)
  | tup h => exact .tup (k _ _ (fun e => n (by rw [e])) h)
  | dic h => exact .dic (k _ _ (fun e => n (by rw [e])) h)
end L2
namespace L2
open PySem
theorem for_str {x : Str} {g : TG} {tb : TS} {D : Ends} {σ : St} {H : Hp} (Pv : Nat → St → Hp → Prop) (h0 : Pv 0 σ H)
    (hs : ∀ i c σ H, x.cps.toList[i]? = some c → Pv i σ H → g (.str ⟨#[c]⟩) σ H fun σ2 H2 => tb { D with nx := Pv (i + 1), ct := Pv (i + 1), bk := D.nx } σ2 H2) (hd : ∀ σ H, Pv x.length σ H → D.nx σ H) :
    ∃ W : Nat → Nat → St → Hp → Prop, (∃ m, W 0 m σ H) ∧ ∀ i m σ H, W i m σ H → ((Its x).stop i H ∧ D.nx σ H) ∨ ((Its x).go i H ∧ ∃ N : St → Hp → Prop, (∀ σ' H', N σ' H' → ∃ m', m' < m ∧ W (i + 1) m' σ' H') ∧
      ∀ y H', (Its x).yld i H y H' → g y σ H' fun σ2 H2 => tb { D with nx := N, ct := N, bk := D.nx } σ2 H2) := by
  refine ⟨fun i m σ H => m = x.length - i ∧ i ≤ x.length ∧ Pv i σ H, ⟨x.length, by simp, Nat.zero_le _, h0⟩, ?_⟩
  rintro i m σ H ⟨rfl, hi, p⟩
  by_cases hlt : i < x.length
  · refine Or.inr ⟨hlt, Pv (i + 1), fun σ' H' p' => ⟨x.length - (i + 1), by omega, rfl, hlt, p'⟩, ?_⟩
    rintro y H' ⟨rfl, c, hc, rfl⟩
    exact hs i c σ _ (by rw [Array.getElem?_toList]; exact hc) p
  · have e : i = x.length := by omega
    subst e
    exact Or.inl ⟨Nat.le_refl _, hd σ H p⟩
theorem one_lt {a b : Nat} : (([a] : List Nat) < [b]) ↔ a < b := by
  constructor
  · intro h
    rcases List.cons_lt_cons_iff.mp h with h | ⟨_, h⟩
    · exact h
    · exact absurd h (List.lt_irrefl [])
  · intro h
    exact List.cons_lt_cons_iff.mpr (Or.inl h)
theorem len_pos {z : Str} (h : 1 ≤ z.length) : ∃ c r, z.cps.toList = c :: r := by
  rw [len_list] at h
  cases hq : z.cps.toList with
  | nil => rw [hq] at h; exact absurd h (by decide)
  | cons c r => exact ⟨c, r, rfl⟩
/-- data of a list of texts -/
theorem dp_strs {K : PySem.W.Frag} {H : Hp} : ∀ ys : List Str, DpAll K H (ys.map V.str) (ys.map PyData.str)
  | [] => .nil
  | y :: r => .cons (.str y) (dp_strs r)
theorem dp_bools {K : PySem.W.Frag} {H : Hp} : ∀ bs : List Bool, DpAll K H (bs.map V.bl) (bs.map PyData.bool)
  | [] => .nil
  | b :: r => .cons (.bl b) (dp_bools r)
theorem eqv_nil (ds : List PyData) : PyData.eqv (.list ds) (.list []) = ds.isEmpty := by
  cases ds with
  | nil => rfl
  | cons d r => rfl
end L2
namespace L2
open PySem
theorem cla_strs : ∀ ys : List Str, (∀ y ∈ ys, PyData.strOk y = true) → PyData.canLayAll0 (ys.map PyData.str) = true
  | [], _ => by simp only [List.map_nil, PyData.canLayAll0]
  | y :: r, h => by
    simp only [List.map_cons, PyData.canLayAll0, PyData.canLay0, Bool.and_eq_true]
    exact ⟨h y List.mem_cons_self, cla_strs r fun z hz => h z (List.mem_cons_of_mem _ hz)⟩
theorem dep_strs : ∀ ys : List Str, PyData.depthAll (ys.map PyData.str) ≤ 1
  | [] => by simp only [List.map_nil, PyData.depthAll]; decide
  | y :: r => by
    have := dep_strs r
    simp only [List.map_cons, PyData.depthAll, PyData.depth]
    omega
theorem shaped_strs {ys : List Str} (h : ∀ y ∈ ys, PyData.strOk y = true) : SeqAt.shaped (.list (ys.map PyData.str)) = true := by
  have h1 := dep_strs ys
  have h2 : PyData.depth (.list (ys.map PyData.str)) ≤ 64 := by simp only [PyData.depth]; omega
  show (PyData.canLay0 _ && decide (PyData.depth _ ≤ 64)) = true
  rw [Bool.and_eq_true]
  refine ⟨?_, decide_eq_true h2⟩
  simp only [PyData.canLay0]
  exact cla_strs ys h
theorem sok_app {a b : Str} (ha : PyData.strOk a = true) (hb : PyData.strOk b = true) : PyData.strOk (a ++ b) = true := by
  show (a.cps ++ b.cps).all _ = true
  rw [Array.all_append, Bool.and_eq_true]
  exact ⟨ha, hb⟩
theorem sok_iff {a : Str} : PyData.strOk a = true ↔ ∀ c ∈ a.cps.toList, c < 0x110000 := by
  show a.cps.all _ = true ↔ _
  rw [Array.all_eq_true_iff_forall_mem]
  constructor
  · intro h c hc
    exact of_decide_eq_true (h c (by simpa using hc))
  · intro h c hc
    exact decide_eq_true (h c (by simpa using hc))
theorem sok_join {ys : List Str} (h : ∀ y ∈ ys, PyData.strOk y = true) : PyData.strOk (Txt.join ("" : Str) ys) = true := by
  rw [sok_iff, join_list]
  intro c hc
  obtain ⟨l, hl, hc⟩ := List.mem_flatten.mp hc
  obtain ⟨y, hy, rfl⟩ := List.mem_map.mp hl
  exact sok_iff.mp (h y hy) c hc
theorem sok_cut {z : Str} (h : PyData.strOk z = true) (lo hi : Option Int) : PyData.strOk (cutS z lo hi) = true := by
  rw [sok_iff]
  intro c hc
  have hc' : c ∈ (z.cps.toList.drop (HT.sIx z.length 0 lo)).take (HT.sIx z.length z.length hi - HT.sIx z.length 0 lo) := by simpa [cutS] using hc
  exact sok_iff.mp h c (List.mem_of_mem_drop (List.mem_of_mem_take hc'))
theorem sok_mem {z : Str} {c : Nat} (h : PyData.strOk z = true) (hc : c ∈ z.cps.toList) : PyData.strOk ⟨#[c]⟩ = true := by
  rw [sok_iff]
  intro d hd
  have : d = c := by simpa using hd
  rw [this]
  exact sok_iff.mp h c hc
end L2
namespace L2
open PySem
theorem g_ifnn {A B : Prop} {p : Prop} [Decidable p] (h1 : p → A) (h2 : ¬ p → B) : if (!!decide p) = true then A else B := by
  rw [Bool.not_not]
  exact g_ifd h1 h2
theorem lt_sp {c : Nat} : (⟨#[c]⟩ : Str).cps.toList < (" " : Str).cps.toList ↔ c < 32 := by
  rw [show (" " : Str).cps.toList = [32] by decide +kernel]
  exact one_lt
theorem lt_tl {c : Nat} : ("~" : Str).cps.toList < (⟨#[c]⟩ : Str).cps.toList ↔ 126 < c := by
  rw [show ("~" : Str).cps.toList = [126] by decide +kernel]
  exact one_lt
end L2
namespace XS
open PySem PySem.W PySem.Calls
/-- an own error class under ValueError whose __init__ calls the one above it with a written text, then keeps its one argument -/
structure ErrC (prog : Program) (K : Frag) (C fI : Addr) (par fld : Str) : Prop where
  cls : ∃ nm q N bs bm sn sub ab col dd k0 k1 k2 k3 k5, K.lookup C = some (excClassObj nm q C N bs bm true sn sub ab col dd k0 k1 k2 k3 k5 "ValueError.__new__") ∧ HandSPX.refsVE bm = true ∧ alongIn K "__init__" bm = some (some (.builtin "ValueError.__init__"))
  init : findIn K (.ref C) "__init__" = some (some (.ref fI))
  ityp : typeIn K (.ref fI) = some (.type "function")
  sa : findIn K (.ref C) "__setattr__" = some (some (.builtin "object.__setattr__"))
  nf : findIn K (.ref C) fld = some none
  exC : subIn K (.ref C) (.type "BaseException") = some true
  veC : subIn K (.ref C) (.type "ValueError") = some true
  meC : mroIn K C (.ref C) = some true
  tyC : typeIn K (.ref C) = some (.type "type")
  kC : keepIn K (.ref C) = true
  opq : nsIn K cStatics "thirdparty.any" = some none
  fn : ∃ (qual : Str) (params : Arguments) (body : List Stmt) (scope : Scope) (oc kV doc pm ct ccl cl : Value) (od an cdd cld : Option Addr) (osl ccs csl : Array (Option Value)) (cda cc : Addr) (vs : Array Value) (file : Str) (tf : Tok),
    K.lookup fI = some ⟨oc, od, .func (fnX "__init__" qual params body scope [("__class__", cc)] .none kV doc pm an (.ref cda) ct), osl⟩ ∧ codeIn K (.ref cda) qual = true ∧
    K.lookup cda = some ⟨ccl, cdd, .fields vs, ccs⟩ ∧ vs[2]? = some (.str file tf) ∧ ((prog.main.file : Str) == file) = true ∧ K.lookup cc = some ⟨cl, cld, .cell (some (.ref C)), csl⟩ ∧
    (∃ ar, (params.posonlyargs ++ params.args).head? = some ar ∧ ar.arg = ("self" : Str)) ∧
    (∃ (msg : Str) (j : Nat) (p0 p1 p2 p3 p4 p5 p6 p7 p8 p9 : Pos), body = [.Expr (.Call (.Attribute (.Call (.Name "super" p0) [] [] p1) "__init__" p2) [.Constant (.str msg) j p3] [] p4) p5, .Assign [.Attribute (.Name "self" p6) fld p7] (.Name par p8) p9] ∧
      (∃ pl : Env → Sem Bool, ∀ env : Env, eval (.Call (.Attribute (.Call (.Name "super" p0) [] [] p1) "__init__" p2) [.Constant (.str msg) j p3] [] p4) env = (do
        let ov ← attributeBase (.Call (.Name "super" p0) [] [] p1) "__init__" env (eval (.Call (.Name "super" p0) [] [] p1) env)
        standAt p2.atName
        let (f, first) ← holding [ov] (getMethod ov "__init__" (pl env))
        callWith p4 f first (backTo p4 (starEach [.Constant (.str msg) j p3] env)) [])) ∧
      (∀ env : Env, swapsWith (.Call (.Attribute (.Call (.Name "super" p0) [] [] p1) "__init__" p2) [.Constant (.str msg) j p3] [] p4) none p5.line env = pure false) ∧
      (∀ env : Env, swapsWith (.Name par p8) (some (.Attribute (.Name "self" p6) fld p7)) p9.line env = pure false) ∧ msg.length ≤ 1000) ∧
    (∀ (s : Shared) (x u : Value), BindsTo s (fnX "__init__" qual params body scope [("__class__", cc)] .none kV doc pm an (.ref cda) ct) ⟨[x, u], []⟩ [("self", x), (par, u)]) ∧
    scope.kind = .function ∧ scope.isCoroutine = false ∧ scope.isGenerator = false ∧ (∀ x ∈ scope.names, x.2 ≠ .cell) ∧
    scope.names.lookup ("super" : Str) = some .globalImplicit ∧ scope.names.lookup ("__class__" : Str) = some .free ∧ scope.names.lookup ("self" : Str) = some .local ∧ scope.names.lookup par = some .local
  sup : nsIn K mainGlobals "super" = some none
  top : (prog.main.scope.names.lookup ("super" : Str)).isSome = false
  psf : (par == ("self" : Str)) = false
  pdb : (par == ("__debug__" : Str)) = false
theorem drop_own (C : Addr) (l : List Value) : ((Value.ref C :: l).dropWhile (· != .ref C)).drop 1 = l := by simp [List.dropWhile_cons]
section
variable {prog : Program} {w : World} {A : Around} {K : Frag} {C fI a t0 : Addr} {par fld : Str} {u : Value} {mg mb : Str → Option Value} {R : Result → Shared → Prop}
/-- the bound __init__ of the class above, called -/
theorem call_mw {h : Heap} {g : Array GenState} {d : Drawn} {tk : Nat} {os : OsState} {uw : Addr} {rest : List Value} {nm q : Str} {N : Addr} {bs bm sub : List Value} {sn : List Str} {ab : Bool} {col : Option Bool} {dd : Option Addr} {k0 k1 k2 k3 k5 : Option Value} {Q : Value → Shared → Prop} {E : Value → Shared → Prop}
    (hu : h.get? uw = some (kxs_mw "ValueError.__init__" a)) (hC : h.get? C = some (excClassObj nm q C N bs bm true sn sub ab col dd k0 k1 k2 k3 k5 "ValueError.__new__")) (he : h.get? a = some (HandSPX.excO C t0)) (hz : rest.length ≤ sizeLine)
    (hq : ∀ h', (∀ b o, b ≠ a → h.get? b = some o → h'.get? b = some o) → h'.get? a = some (HandSPX.excO C h.objs.size) → Q .none ⟨h', g, d, tk, os⟩) :
    wpAny (model prog w) A (call (.ref uw) rest) Q E ⟨h, g, d, tk, os⟩ := by
  refine wpAny_call (codeAny_of_tree ?_)
  show wpAny _ A.in1 (callAny (.ref uw) ⟨rest, []⟩) _ _ _
  unfold callAny
  refine wpAny_bind (wpAny_load hu ?_)
  simp (decide := true) only [kxs_mw, if_true]
  refine wpAny_bind (check_bound_init F.excBase_ValueError.toExcCallFacts hC he rfl ?_)
  refine wpAny_bind (wpAny_pure (wpAny_pure ?_))
  refine ⟨plainId_quiet F.excBase_ValueError.init.plain _, codeAny_builtin F.excBase_ValueError.initEntry ?_⟩
  exact exc_init_tree (cls := .ref C) (t0 := t0) (dv := none) (c2 := .none) (c3 := .none) (b4 := .bool false) he hz fun h' k e1 _ => hq h' k e1
theorem err_code {s : Shared} (X : K.In s.heap) (hg : s.heap.Ns mainGlobals mg) (hb : s.heap.Ns builtinsNs mb) (hbb : ∀ x : Str, x ≠ "__name__" → mb x = bootBuiltins x) (hlim : s.heap.NoLimit) (T : ErrC prog K C fI par fld) (hroom : A.depth < recursionLimit)
    (ha : s.heap.get? a = some (HandSPX.excO C t0)) (hK : K.lookup a = none) (hL : K.lookup s.heap.objs.size = none)
    (h : ∀ h' tk t1 dx, (∀ b o, b ≠ a → s.heap.get? b = some o → h'.get? b = some o) → h'.get? a = some { cls := .ref C, dict := some dx, data := .fields #[.ref t1, .none, .none, .none, .bool false, .none] } → s.heap.objs.size ≤ dx → dx ≠ a →
      h'.Ns1 dx (fun y => if y = fld then some u else none) → R (.ok (.ret .none)) { s with heap := h', toks := tk }) :
    codeAny (model prog w) A (.call (.ref fI) ⟨[.ref a, u], []⟩) R s := by
  obtain ⟨nm, q, N, bs, bm, sn, sub, ab, col, dd, k0, k1, k2, k3, k5, lC, hbm, hal⟩ := T.cls
  obtain ⟨qual, params, body, scope, oc, kV, doc, pm, ct, ccl, cl, od, an, cdd, cld, osl, ccs, csl, cda, cc, vs, file, tf, lf, hcd, lcd, hvs, hfile, lcc, ⟨ar, har, hself⟩, ⟨msg, j, p0, p1, p2, p3, p4, p5, p6, p7, p8, p9, hbody, ⟨pl, hev⟩, hw1, hw2, hmsg⟩, hbind, hk, hco, hgen, hcell, hsu, hcl, hsl, hpl⟩ := T.fn
  have hloc : ∀ x ∈ [(("self" : Str), Value.ref a), (par, u)], scope.names.lookup x.1 = some .local := by
    intro x hx
    rcases List.mem_cons.mp hx with e | hx
    · rw [e]; exact hsl
    · rw [List.mem_singleton.mp hx]; exact hpl
  refine ks_codeAny_call_defAt (body := body) (binds := [("self", .ref a), (par, u)]) hroom (X _ _ lf) rfl hlim (codeRec_of X hcd) rfl (hbind s (.ref a) u) hcell hloc (fun h1 hns kk1 => ?_) hco hgen hk
  subst hbody
  have X1 : K.In h1 := X.keeps kk1
  have hg1 : h1.Ns mainGlobals mg := hg.keeps kk1
  have hb1 : h1.Ns builtinsNs mb := hb.keeps kk1
  have ha1 := kk1 _ _ ha
  have hC1 := X1 _ _ lC
  have eself : (fun x => [(("self" : Str), Value.ref a), (par, u)].reverse.lookup x) ar.arg = some (.ref a) := by
    rw [hself]
    show List.lookup ("self" : Str) [(par, u), ("self", Value.ref a)] = _
    rw [List.lookup_cons, show (("self" : Str) == par) = false from by rw [beq_eq_false_iff_ne]; exact fun z => (beq_eq_false_iff_ne.mp T.psf) z.symm, List.lookup_cons, beq_self_eq_true]
  have epar : (fun x => [(("self" : Str), Value.ref a), (par, u)].reverse.lookup x) par = some u := by
    show List.lookup par [(par, u), ("self", Value.ref a)] = _
    rw [List.lookup_cons, beq_self_eq_true]
  refine ks_wpAt_execs_cons (ks_wpAt_Expr_any ?_ (by show interactive _ = false; simp [interactive, callEnv, newEnv, hk]) (hw1 _))
  refine ks_wpAt_MethodCall ?_ (hev _)
  refine ks_wpAt_super_base hsu hcl (by decide) rfl (X1 _ _ lf) rfl har rfl (X1 _ _ lcd) rfl hvs hfile T.top ?_
  refine ks_loadName_global hk hsu (loadGlobal_builtin hg1 (mg_none_of X1 hg1 T.sup) hb1 ((hbb _ (by decide +kernel)).trans (by decide +kernel)) ⟨rfl, ?_⟩)
  refine wpAny_loadName_free hk hcl rfl ⟨_, X1 _ _ lcc, rfl⟩ ?_
  refine wpAny_loadName_local hk (by rw [hself]; exact hsl) hns eself ?_
  obtain ⟨hp0, g, d, tk0, os⟩ := s
  refine ks_wpAny_isType_cls hC1 rfl ⟨rfl, ?_⟩
  refine ks_wpAny_call_super (C := C) hC1 rfl ha1 rfl (fun c e => by cases e) (looks_mroIn X1 T.meC) (fun h2 e2 kk2 => ?_)
  have X2 : K.In h2 := X1.keeps kk2
  have hcl2 : clsIn K C = some { name := nm, bases := bs, mro := .ref C :: bm, ns := N, qualname := q, hasDict := true, slotNames := sn, subclasses := sub, abstract := ab, collection := col, hasDel := false } := by unfold clsIn; rw [lC]
  have I2 : InstAt h2 a (HandSPX.excO C t0) C none := ⟨kk2 _ _ ha1, rfl, rfl, trivial⟩
  refine kxs_getMethod kxs_ValueError e2 (looks_opaque X2 T.opq) (l₀ := .ref C :: bm) (fun A Q E s k q => wpAny_bind ((looks_clsIn X2 hcl2) A _ E s k (wpAny_pure q))) (drop_own C bm) X2 hal (I2.type.andThen (looks_subIn X2 T.veC)) (ks_ne X2 I2 hcl2) (by decide) ?_
  have kk3 : ∀ b o, h2.get? b = some o → (h2.push (kxs_mw "ValueError.__init__" a)).get? b = some o := fun b o e => Heap.get?_push_of_some _ e
  have hu3 : (h2.push (kxs_mw "ValueError.__init__" a)).get? h2.objs.size = some (kxs_mw "ValueError.__init__" a) := Heap.get?_push_at rfl rfl
  refine kxs_callWith (i := "ValueError.__init__") (x := a) (by rfl) (evalArgs_plain (spliced_cons (Constant_str (pos := p3) (k := j) (spliced_nil ⟨hu3, ?_⟩))))
  refine call_mw hu3 (kk3 _ _ (X2 _ _ lC)) (kk3 _ _ (kk2 _ _ ha1)) (by show 1 ≤ sizeLine; decide) fun h4 kk4 e4 => ?_
  -- self.fld = par
  have kk14 : ∀ b o, b ≠ a → h1.get? b = some o → h4.get? b = some o := fun b o n e => kk4 b o n (kk3 _ _ (kk2 _ _ e))
  have X4 : K.In h4 := fun b o e => kk14 b o (fun z => by rw [z, hK] at e; cases e) (X1 b o e)
  have hns4 : h4.Ns hp0.objs.size (fun x => [(("self" : Str), Value.ref a), (par, u)].reverse.lookup x) := by
    obtain ⟨o, es, ep, e, dd2, r⟩ := hns
    have na : hp0.objs.size ≠ a := fun z => absurd (Heap.lt_size ha) (by rw [← z]; exact Nat.lt_irrefl _)
    exact ⟨o, es, ep, kk14 _ _ na e, dd2, r⟩
  refine ks_wpAt_execs_cons (wpAt_of_wpAny (plainObj_wpAny_Assign_Attribute (ESX.ldL hns4 epar (ESX.ldL hns4 (by show List.lookup ("self" : Str) [(par, u), ("self", Value.ref a)] = some (.ref a); rw [List.lookup_cons, show (("self" : Str) == par) = false from by rw [beq_eq_false_iff_ne]; exact fun z => (beq_eq_false_iff_ne.mp T.psf) z.symm, List.lookup_cons, beq_self_eq_true]) ?_ hk hsl (by decide)) hk hpl T.pdb) (hw2 _)))
  have hcl4 : clsIn K C = some { name := nm, bases := bs, mro := .ref C :: bm, ns := N, qualname := q, hasDict := true, slotNames := sn, subclasses := sub, abstract := ab, collection := col, hasDel := false } := hcl2
  refine set_plain X4 (ox := _) (od := none) ⟨e4, rfl, rfl, trivial⟩ T.sa ?_
  refine HandSPX.exc_osa X4 e4 hcl4 (show HandSPX.refsVE (.ref C :: bm) = true from hbm) rfl T.nf (fun h5 tk5 dx kk5 hdx hda e5 ns5 => ?_)
  refine wpAt_of_wpAny (wpAny_pure ?_)
  have hlt : hp0.objs.size < h4.objs.size := by
    obtain ⟨o, es, ep, e, _⟩ := hns4
    exact Heap.lt_size e
  exact h h5 tk5 _ dx (fun b o n e => kk5 b o n (kk14 b o n (kk1 b o e))) e5 (Nat.le_of_lt (Nat.lt_of_lt_of_le hlt hdx)) hda ns5
end
end XS
namespace L2
open PySem PySem.Spec PyProof.Rows
section
variable {X : Cx} {C fI : Addr} {par fld x : Str} {p pos : Pos} {e : Expr} {te : TE}
/-- what the making of such an error reads: its own dict is new -/
def tMkE (C : Addr) (fld : Str) (te : TE) : St → Hp → XK → Prop := fun σ H Q => te σ H fun v H1 => ∀ d, H1 d = none → Q (.ref C) (some d) (upd H1 d (.xd [(fld, v)]))
theorem pmk_err (T : XS.ErrC X.prog X.K C fI par fld) (hr : Room 1 X.A) (hg : Gl X x) (hm : X.mg x = some (.ref C)) (ha : PE X e te) (hdb : (x == ("__debug__" : Str)) = false := by decide)
    (he : starEach [e] X.env = (false, eval e X.env) :: starEach [] X.env := by rfl) : PMk X (.Call (.Name x p) [e] [] pos) (tMkE C fld te) := by
  intro pins s σ H Q I h
  obtain ⟨nm, q, N, bs, bm, sn, sub, ab, col, dd, k0, k1, k2, k3, k5, hC, hbm, _⟩ := T.cls
  refine wpAny_Call_Name_kw (ld_glob I hg hm ?_ hdb)
  refine PySem.W.callWith_K (h₀ := X.base) I.ok.mod.kin T.kC ?_ he (by rfl)
  rw [he]
  show wpAny _ _ (spliced ((false, eval e X.env) :: backTo pos (starEach [] X.env))) _ _ s
  refine Calls.spliced_cons (thn (ha.run pins s σ H _ I h) fun u s1 ⟨v, H1, I1, r1, q1⟩ => Calls.spliced_nil ⟨I1.kIn, ?_⟩)
  show wpAny _ _ (call (.ref C) [u]) _ _ _
  obtain ⟨hp, g, dr, tk, os⟩ := s1
  have kk : ∀ b o, hp.get? b = some o → ((hp.push (PySem.W.kdv_tup [u])).push (PySem.HandSPX.excO C hp.objs.size)).get? b = some o := fun b o z => Heap.get?_push_of_some _ (Heap.get?_push_of_some _ z)
  have hget : ((hp.push (PySem.W.kdv_tup [u])).push (PySem.HandSPX.excO C hp.objs.size)).get? (hp.objs.size + 1) = some (PySem.HandSPX.excO C hp.objs.size) := by heap_get
  have hK : ∀ b, hp.objs.size ≤ b → X.K.lookup b = none := fun b hb => by
    cases z : X.K.lookup b with
    | none => rfl
    | some o => exact absurd (Heap.lt_size (I1.kIn b o z)) (Nat.not_lt.mpr hb)
  have hsz2 : ((hp.push (PySem.W.kdv_tup [u])).push (PySem.HandSPX.excO C hp.objs.size)).objs.size = hp.objs.size + 2 := by
    simp [Heap.push]
  obtain ⟨mb, hb1, hb2⟩ := I1.mod.blt
  have kb : ∀ b o, X.base.get? b = some o → ((hp.push (PySem.W.kdv_tup [u])).push (PySem.HandSPX.excO C hp.objs.size)).get? b = some o := fun b o z => kk b o (I1.bk b o z)
  refine wpAny_call (PySem.HandSPX.call_own F.excBase_ValueError (fun Y => PySem.HandSPX.refsVE_contains Y bm hbm) (I1.kIn _ _ hC) (PySem.W.looks_findIn I1.kIn T.init) (fun self => PySem.W.bind_fn I1.kIn self T.ityp) (by show 1 ≤ sizeLine; decide) ?_)
  refine XS.err_code (mg := X.mg) (mb := mb) (I1.ok.mod.kin.keeps kb) (I1.mod.glob.keeps kb) (hb1.keeps kb) hb2 (I1.mod.nolimit.keeps kb) T (hr.make C [u] []).depth hget (hK _ (Nat.le_succ _)) (hK _ (by rw [hsz2]; exact Nat.le_add_right _ 2)) fun h5 tk5 t1 dx k5 e5 hdx hda n5 => ?_
  rw [hsz2] at hdx
  obtain ⟨G, g1, g2⟩ := restrict h5 fun b => decide (b ≠ hp.objs.size + 1)
  have gk : ∀ b, b ≠ hp.objs.size + 1 → G.get? b = h5.get? b := fun b hb => g1 b (decide_eq_true hb)
  have ge : G.get? (hp.objs.size + 1) = none := g2 _ (by simp)
  have kG : ∀ b o, hp.get? b = some o → G.get? b = some o := fun b o z => by
    have nb : b ≠ hp.objs.size + 1 := Nat.ne_of_lt (Nat.lt_succ_of_lt (Heap.lt_size z))
    rw [gk b nb]
    exact k5 b o nb (kk b o z)
  have J := I1.laid (t' := tk5) (a := dx) (o := .xd [(fld, v)]) (h' := G) kG (Nat.le_trans (Nat.le_add_right _ 2) hdx) ⟨_, n5.at fun o y => (gk dx hda).trans y, fun f => by
    show RelO (List.lookup f [(fld, v)]) _
    rw [lookup_put]
    by_cases hf : f = fld
    · rw [if_pos hf, if_pos hf]
      exact r1
    · rw [if_neg hf, if_neg hf]
      exact True.intro⟩
  have na : H1 (hp.objs.size + 1) = none := I1.hok.fresh (Nat.le_succ _)
  have nd : H1 dx = none := I1.hok.fresh (Nat.le_trans (Nat.le_add_right _ 2) hdx)
  refine ⟨rfl, hp.objs.size + 1, _, _, ⟨G, g, dr, tk5, os⟩, _, .ref C, some dx, rfl, J, fun b o z => ?_, ge, e5, ⟨rfl, rfl⟩, rfl, rfl, ?_, rfl, I1.bare, raises_own T.exC T.tyC, q1 dx nd⟩
  · by_cases hb : b = hp.objs.size + 1
    · rw [hb, ge] at z
      cases z
    · exact (gk b hb).symm.trans z
  · rw [upd_ne (Ne.symm hda)]
    exact na
end
end L2
namespace L2
open PySem PySem.Spec PyProof.Rows
open PySem.W (exmOne exmAny exm_one exm_tup3 Looks)

/-- a caught error, kept: its object at a, of the class cls, its dict d -/
def held (a : Addr) (cls : Value) (d : Option Addr) : HO := .ext fun h => ∃ (oe : Obj) (vs : Array Value), h.get? a = some oe ∧ Zc cls d oe ∧ oe.data = .fields vs
theorem held_ok {P : Program} {w : World} {H : Hp} {h : Heap} {a : Addr} {cls : Value} {d : Option Addr} {oe : Obj} {vs : Array Value} (e : h.get? a = some oe) (z : Zc cls d oe) (f : oe.data = .fields vs) : ObjOk P w H h a (held a cls d) :=
  ⟨⟨oe, vs, e, z, f⟩, ⟨oe, e⟩, fun _ _ ⟨o, v, q, r⟩ k => ⟨o, v, k o q, r⟩⟩
theorem flying_more {B h h' : Heap} {l : List Env} {a : Addr} {Z : Obj → Prop} (x : HandSPX.FlyingZ B l a Z h) (k : ∀ b o, h.get? b = some o → h'.get? b = some o) : HandSPX.FlyingZ B l a Z h' := by
  obtain ⟨x1, x2, x3, oe, vs, T, oT, ts, e1, e2, e3, e4, e5, e6, e7, e8, e9⟩ := x
  exact ⟨fun b o q => k b o (x1 b o q), x2, x3.of_keeps fun b o q _ => ⟨o, k b o q, rfl⟩, oe, vs, T, oT, ts, k _ _ e1, e2, e3, e4, e5, e6, k _ _ e7, e8, e9⟩
section
variable {X : Cx} {pins : List (Addr × Obj)} {σ : St} {H : Hp} {sI s' : Shared} {B : Heap}
/-- on the ground again, the error's object tracked from here on -/
theorem landed_held {a : Addr} {cls : Value} {d : Option Addr} {oe : Obj} {vs : Array Value} (I : Inv X pins σ H sI) (nb : ∀ b o, sI.heap.get? b = some o → b ∉ frs X.stack → B.get? b = some o) (st : B.StaysIn s'.heap) (up : sI.heap.UpToSlots s'.heap)
    (os : s'.os = sI.os) (ag : AllBare s'.gens) (na : sI.heap.get? a = none) (hn : H a = none) (e : s'.heap.get? a = some oe) (z : Zc cls d oe) (f : oe.data = .fields vs) : Inv X pins σ (upd H a (held a cls d)) s' := by
  have nea : ∀ b o, sI.heap.get? b = some o → b ≠ a := fun b o q c => by rw [c, na] at q; cases q
  have neH : ∀ b o, H b = some o → b ≠ a := fun b o q c => by rw [c, hn] at q; cases q
  have fr : ∀ b, b ∈ frs X.stack → ∀ o, sI.heap.get? b = some o → ∃ sl, s'.heap.get? b = some { o with slots := sl } := fun b hb o q => by
    obtain ⟨_, o', q', hd⟩ := I.stack.mem hb
    rw [q] at q'; cases q'
    exact up b o q hd
  have u : Un (frs X.stack) [] H (upd H a (held a cls d)) sI.heap s'.heap := by
    refine ⟨fun b o q _ hb _ => st b o (nb b o q hb), fun b o q _ hb _ => fr b hb o q, fun b o q n _ => ?_, fun b o q _ => ?_, fun b xs q => ?_, fun b o xs q => ?_, fun b ps q => ⟨#[], ?_⟩⟩
    · rw [upd_ne (nea b o q)]
      exact n
    · by_cases hb : b ∈ frs X.stack
      · obtain ⟨sl, q2⟩ := fr b hb o q
        exact ⟨_, q2⟩
      · exact ⟨o, st b o (nb b o q hb)⟩
    · rw [upd_ne (neH _ _ q)]
      exact q
    · rw [upd_ne (neH _ _ q)]
      exact q
    · rw [upd_ne (neH _ _ q), q]
      simp
  have hk : HOk X.prog X.w (upd H a (held a cls d)) s'.heap := HOk.laidN ((I.inGround nb).kept st) (fun _ _ q => q) hn (held_ok e z f)
  have J := I.call (ch := []) (h' := s'.heap) (g' := s'.gens) (t' := s'.toks) (d' := s'.drawn) u hk ag (fun _ q => nomatch q)
  obtain ⟨b1, b2, b3, b4, b5⟩ := s'
  obtain rfl : b5 = sI.os := os
  exact J
theorem Inv.inSuite (I : Inv X pins σ H sI) (a : Addr) : Inv (X.suite a (X.pn ++ pins)) [] σ H sI :=
  ⟨I.ok.suite _ _, I.os, I.bare, I.base, I.loc, I.cell, I.free, I.freeC, fun p hp => I.pin p (by rw [List.append_nil] at hp; exact hp), I.hok, I.len⟩
theorem Inv.outSuite {a : Addr} {pn' : List (Addr × Obj)} (I : Inv (X.suite a (X.pn ++ pins)) pn' σ H sI) (ok : X.Ok) : Inv X pins σ H sI :=
  ⟨ok, I.os, I.bare, I.base, I.loc, I.cell, I.free, I.freeC, fun p hp => I.pin p (List.mem_append_left _ hp), I.hok, I.len⟩
end
/-- what the type of a clause tells of the errors of a class -/
def Tells (X : Cx) (tt : Expr) (m : Value → Option Bool) : Prop :=
  ∀ (a : Addr) (pn : List (Addr × Obj)) (σ : St) (H : Hp) (s : Shared) (cls : Value) (b : Bool) (Q : Bool → Shared → Prop) (E : Value → Shared → Prop), Inv (X.suite a pn) [] σ H s → Looks (model X.prog X.w) s.heap (typeOf (.ref a)) cls → m cls = some b →
    (∀ h', (∀ c o, s.heap.get? c = some o → h'.get? c = some o) → Q b { s with heap := h' }) →
    wpAny (model X.prog X.w) (X.A.mark (some (.ref a))) (eval tt X.env) (fun c s₁ => wpAny (model X.prog X.w) (X.A.mark (some (.ref a))) (excMatches (.ref a) c) Q E s₁) E s
section
variable {X : Cx}
theorem ld_named {a : Addr} {pn : List (Addr × Obj)} {σ : St} {H : Hp} {s : Shared} {x : Str} {c : Value} {np : Pos} {Q : Value → Shared → Prop} {E : Value → Shared → Prop} (I : Inv (X.suite a pn) [] σ H s) (hc : Names X x c) (q : Q c s) :
    wpAny (model X.prog X.w) (X.A.mark (some (.ref a))) (eval (.Name x np) X.env) Q E s := by
  obtain ⟨hg, hd, hm | ⟨hm, hv, hn⟩⟩ := hc
  · exact ld_glob (X := X.suite a pn) I hg hm q hd
  · exact ld_blt (X := X.suite a pn) I hg hm hv q hn hd
theorem tells_one {x : Str} {c : Value} {np : Pos} (hc : Names X x c) : Tells X (.Name x np) (fun cls => exmOne X.K cls c) := fun a pn σ H s cls b Q E I L hb q =>
  ld_named I hc ((exm_one I.kIn L hb).here (q s.heap fun _ _ z => z))
theorem tells_three {x1 x2 x3 : Str} {c1 c2 c3 : Value} {p1 p2 p3 tp : Pos} {kk : Nat} (n1 : Names X x1 c1) (n2 : Names X x2 c2) (n3 : Names X x3 c3) : Tells X (.Tuple [.Name x1 p1, .Name x2 p2, .Name x3 p3] kk tp) (fun cls => exmAny X.K cls [c1, c2, c3]) := fun a pn σ H s cls b Q E I L hb q => by
  refine wpAny_Tuple (wpAny_items_cons (ld_named I n1 (wpAny_items_cons (ld_named I n2 (wpAny_items_cons (ld_named I n3 (wpAny_items_nil ⟨by size_fits, ?_⟩)))))))
  have k : ∀ c o, s.heap.get? c = some o → (s.heap.push { cls := .type "tuple", data := .seq [c1, c2, c3].toArray }).get? c = some o := fun _ _ z => Heap.get?_push_of_some _ z
  exact (exm_tup3 (I.kIn.keeps k) (L.keeps k) (Heap.get?_push_size s.heap rfl) hb).here (q _ k)
/-- what 'except .. as n' wishes where the caught error stays -/
def wHeld (m : Value → Option Bool) (i : Nat) (ts : TS) (Wout : WX) (D : Ends) : WX := fun cls d σ H =>
  ∃ b, m cls = some b ∧ (b = true → ∀ a, H a = none → ts { nx := fun σ' H' => D.nx (σ'.set i none) H', rt := D.rt, bk := fun σ' H' => D.bk (σ'.set i none) H', ct := fun σ' H' => D.ct (σ'.set i none) H' } (σ.set i (some (.ref a))) (upd H a (held a cls d))) ∧
    (b = false → Wout cls d σ H)
variable {n : Str} {i : Nat} {body suite : List Stmt} {b₀ : Stmt} {tt : Expr} {m : Value → Option Bool} {pos pos' : Pos} {tb : WX → TS} {ts : TS} {Wout : WX}
theorem ps_try_held (hs : X.stack = X.env :: X.outer) (hf : X.env.frame = some X.env.locals) (hN : X.N.Nodup) (hi : X.N[i]? = some n) (hln : X.env.kindOf n = some .local) (ht : Tells X tt m) (tk : Takes X Wout)
    (hb : ∀ (W : WX) (pn : List (Addr × Obj)) (xe : Value → Shared → Prop), Takes (X.tr pn xe) W → PassesOwn (model X.prog X.w) X.A X.env xe → PSs (X.tr pn xe) body (tb W))
    (hsu : ∀ (a : Addr) (pn : List (Addr × Obj)), PSs (X.suite a pn) (b₀ :: suite) ts) :
    PS X (.Try body [.ExceptHandler (some tt) (some n) (b₀ :: suite) pos'] [] [] pos) (fun D σ H => tb (wHeld m i ts Wout D) D σ H) := by
  refine ⟨fun pins s σ H D I h => ?_⟩
  have ok := I.ok
  have hfr : X.A.frames = some (X.env :: X.outer) := by rw [ok.frames, hs]
  refine wpAny_Try_except (wpAny_mono ((hb (wHeld m i ts Wout D) (X.pn ++ pins) (fun e s₁ => wpAny (model X.prog X.w) X.A (noteFrame e X.env) (fun _ s₂ => wpAny (model X.prog X.w) X.A (setFlight e none) (fun _ s₃ =>
    wpAny (model X.prog X.w) X.A (handleBy e X.env [.ExceptHandler (some tt) (some n) (b₀ :: suite) pos']) (SP X pins D) X.xe s₃) X.xe s₂) X.xe s₁) (fun u s' xx => ?_) PassesOwn.looking).run [] s σ H D (I.toTry _) h) (fun f s1 hsp => ?_) (fun _ _ z => z))
  · obtain ⟨a, B, sI, pins', σ', H', cls, d, rfl, J', nb, up, sky, na, os, ag, b, hmb, hyes, hno⟩ := xx
    have J : Inv X pins σ' H' sI := J'.ofTry ok
    have sky' : Sky B (X.env :: X.outer) a (Zc cls d) X.env.locals s'.heap := by rw [← hs]; exact sky
    show wpAny (model X.prog X.w) X.A (noteFrame (.ref a) X.env) _ _ _
    refine Sky.land Zc.steady hfr hf sky' fun h1 fl1 up1 => ?_
    obtain ⟨oe1, vs1, he1, hz1, hd1⟩ := fl1.there
    have out : a ∉ frs X.stack := fun hm => by
      rw [hs] at hm
      obtain ⟨_, o', e', hnf⟩ := fl1.2.2.1.mem hm
      rw [he1] at e'; cases e'
      exact hnf _ hd1
    have naI : sI.heap.get? a = none := by
      cases q : sI.heap.get? a with
      | none => rfl
      | some o => exact absurd (nb a o q out) (by rw [fl1.2.1]; exact fun z => nomatch z)
    have J1 : Inv X pins σ' H' { s' with heap := h1 } := J.landed nb fl1.1 (up.trans up1) os ag
    refine wpAny_handleBy_cons (codeAny_handlers_test ?_) (by intro q; cases q)
    refine ht a (X.pn ++ pins) σ' H' _ cls b _ _ (Inv.inSuite J1 a) (fun A Q E s k q => wpAny_typeOf_ref (k _ _ he1) (by rw [hz1.1]; exact q)) hmb fun h2 k2 => ?_
    have fl2 : HandSPX.FlyingZ B (X.env :: X.outer) a (Zc cls d) h2 := flying_more fl1 k2
    have up2 : sI.heap.UpToSlots h2 := (up.trans up1).trans (Heap.UpToSlots.of_keeps k2)
    cases b with
    | true =>
      refine codeAny_handlers_suite_as ?_
      refine HandSPX.lands_againZ fl2 fun h3 fl3 up3 => ?_
      obtain ⟨oe3, vs3, he3, hz3, hd3⟩ := fl3.there
      have J3 : Inv X pins σ' (upd H' a (held a cls d)) { s' with heap := h3 } := landed_held J nb fl3.1 (up2.trans up3) os ag naI na he3 hz3 hd3
      refine store_ok (X := X.suite a (X.pn ++ pins)) (v := .ref a) (Inv.inSuite J3 a) hN hi (.inl hln) rfl (fun s5 S5 => ?_) (.inr hln)
      refine wpAny_mono ((hsu a (X.pn ++ pins)).run [] s5 _ _ _ S5 (hyes rfl a na)) (fun f s6 hsp => ?_) (fun _ _ z => False.elim z)
      have fin : ∀ {σ6 : St} {H6 : Hp} {Q : Shared → Prop}, Inv (X.suite a (X.pn ++ pins)) [] σ6 H6 s6 → (∀ s7, Inv X pins (σ6.set i none) H6 s7 → Q s7) →
          wpAny (model X.prog X.w) X.A (do bindName X.env n .none; unbindBehindTheSuite X.env n pos') (fun _ s7 => Q s7) X.xe s6 := fun S6 hq => gone_ok (Inv.outSuite S6 ok) hN hi hln hq
      cases f with
      | next =>
        obtain ⟨σ6, H6, S6, q6⟩ := hsp
        exact fin S6 fun s7 J7 => ⟨_, _, J7, q6⟩
      | brk =>
        obtain ⟨σ6, H6, S6, q6⟩ := hsp
        exact fin S6 fun s7 J7 => ⟨_, _, J7, q6⟩
      | cont =>
        obtain ⟨σ6, H6, S6, q6⟩ := hsp
        exact fin S6 fun s7 J7 => ⟨_, _, J7, q6⟩
      | ret u =>
        obtain ⟨v6, σ6, H6, S6, r6, q6⟩ := hsp
        exact fin S6 fun s7 J7 => ⟨_, _, _, J7, r6, q6⟩
    | false =>
      show wpAny _ X.A (handleBy (.ref a) X.env []) _ _ _
      refine wpAny_handleBy_nil ?_
      obtain ⟨k1, k2', k3, oe, vs, T, oT, ts', he, hz, hd, h1', hr⟩ := id fl2
      unfold PySem.passOn
      refine wpAny_bind (wpAny_field he hd h1' ?_)
      rw [if_neg (show ¬ ((Value.ref T == Value.none) = true) from by simp)]
      have go : wpAny (model X.prog X.w) X.A (setFlight (.ref a) X.env.frame) (fun _ s4 => wpAny (model X.prog X.w) X.A (throw (.ref a) : Sem Flow) (SP X pins D) X.xe s4) X.xe { s' with heap := h2 } := by
        rw [hf]
        exact HandSPX.setFlight_upZ fl2 fun h4 hh4 up4 => wpAny_throw (tk _ _ ⟨a, B, sI, pins, σ', H', cls, d, rfl, J, nb, up2.trans up4, .inr (.inr (by rw [hs]; exact hh4)), na, os, ag, hno rfl⟩)
      first
        | exact wpAny_bind (wpAny_pure (wpAny_bind go))
        | exact wpAny_bind go
  · cases f with
    | next =>
      obtain ⟨σ', H', J', q⟩ := hsp
      exact wpAny_execs_nil ⟨σ', H', J'.ofTry ok, q⟩
    | brk =>
      obtain ⟨σ', H', J', q⟩ := hsp
      exact ⟨σ', H', J'.ofTry ok, q⟩
    | cont =>
      obtain ⟨σ', H', J', q⟩ := hsp
      exact ⟨σ', H', J'.ofTry ok, q⟩
    | ret u =>
      obtain ⟨v, σ', H', J', r, q⟩ := hsp
      exact ⟨v, σ', H', J'.ofTry ok, r, q⟩
end
end L2
namespace L2
open PySem PySem.Spec PyProof.Rows
/-! ### a call by keywords alone that may raise -/
def tKw0S (sp : Sp) (n : Nat) (ix : List Nat) (E : St → XK) (t : TA) : TE := fun σ H Q => t σ H fun vs H1 => vs.length = n ∧ sp (picked V.non ix vs) H1 Q (E σ)
section
variable {X : Cx} {CX : CXT} {k : Nat} {f : Addr} {fd : FuncData} {ps ks : List Str} {sp : Sp} {E : St → XK} {x : Str} {p pos : Pos} {kws : List Keyword} {t : TA} {ix : List Nat}
theorem pe_kw0S (F : FnOk X.prog X.w X.K X.mg X.base CX k f fd ps sp) (hr : Room k X.A) (hg : Gl X x) (hm : X.mg x = some (.ref f)) (hk : PySem.W.keepIn X.K (.ref f) = true) (hb : KwB X.K fd ps ks ix) (hx : ∀ σ, PassesAt CX X σ (E σ))
    (ha : PK X kws t) (hall : (backToKw pos (keywordEach kws X.env)).all (·.1.isSome) = true := by rfl) (hks : (backToKw pos (keywordEach kws X.env)).filterMap (·.1) = ks := by rfl) (hdb : (x == ("__debug__" : Str)) = false := by decide)
    (hpl : ((backTo pos (starEach [] X.env)).any (·.1) || (backToKw pos (keywordEach kws X.env)).any (·.1.isNone)) = false := by rfl) : PE X (.Call (.Name x p) [] kws pos) (tKw0S sp ks.length ix E t) := by
  refine ⟨fun pins s σ H Q I h => wpAny_Call_Name_kw (ld_glob I hg hm ?_ hdb)⟩
  refine PySem.W.callWith_KW0 (h₀ := X.base) I.ok.mod.kin hk hall (thn (ha.run pos pins s σ H _ I h) fun ws s2 ⟨zs, H2, I2, rz, hl, q2⟩ => ⟨I2.kIn, ?_⟩) hpl
  rw [hks]
  have r2 := picked_vals rz ix
  refine wpAny_call (codeAny_mono (F.run X.A X.stack s2 H2 ⟨[], ks.zip ws⟩ (picked Value.none ix ws) (picked V.non ix zs) Q (E σ) hr I2.env0 (hb.2 s2 ws I2.kIn (rz.length.symm.trans hl)) r2 q2) fun o s3 hq => ?_)
  match o, hq with
  | .error e, hq => exact hx σ pins H2 s2 e s3 I2 hq
  | .ok (.ret u), hq => exact I2.after hq
end
/-! ### what is asked of a caught error that was kept -/
theorem held_get {X : Cx} {pins : List (Addr × Obj)} {σ : St} {H : Hp} {s : Shared} {a C dd : Addr} {fs : List (Str × V)} (I : Inv X pins σ H s) (h : H a = some (held a (.ref C) (some dd))) (hf : H dd = some (.xd fs)) :
    ∃ (oe od : Obj) (mA : Str → Option Value), PySem.W.InstAt s.heap a oe C (some od) ∧ (∀ n, PySem.W.lookIn n od = some (mA n)) ∧ ∀ f, RelO (fs.lookup f) (mA f) := by
  obtain ⟨⟨oe, vs, ha, hz, hd⟩, _, _⟩ := I.hok a _ h
  obtain ⟨mA, hns, hr⟩ := I.hok dd _ hf
  obtain ⟨od, ho, hl⟩ := lookIn_ns hns
  exact ⟨oe, od, mA, ⟨ha, hz.1, by unfold PySem.W.notCls; rw [hd] <;> rfl, by rw [hz.2]; exact ho⟩, hl, hr⟩
/-- e.f, e a kept error -/
def tHeld (K : PySem.W.Frag) (n : Str) (te : TE) : TE := fun σ H Q => te σ H fun x H1 => ∃ (a C dd : Addr) (fs : List (Str × V)) (v : V), x = .ref a ∧ H1 a = some (held a (.ref C) (some dd)) ∧ H1 dd = some (.xd fs) ∧ fs.lookup n = some v ∧ XfC K C ∧ PySem.W.findIn K (.ref C) n = some none ∧ Q v H1
theorem pe_held {X : Cx} {e : Expr} {te : TE} {pos : Pos} {n : Str} (he : PE X e te) (hb : attributeBase e n X.env (eval e X.env) = eval e X.env := by rfl) : PE X (.Attribute e n pos) (tHeld X.K n te) := by
  refine ⟨fun pins s σ H Q I h => attr_of hb (thn (he.run pins s σ H _ I h) fun u s1 hh => ?_)⟩
  obtain ⟨x, H1, I1, rx, a, C, dd, fs, v, rfl, h1, h2, l, T, hno, q⟩ := hh
  cases (show u = Value.ref a from rx)
  obtain ⟨oe, od, mA, J, hl, hr⟩ := held_get I1 h1 h2
  obtain ⟨u, hu, ru⟩ := RelO.some_of (v := v) (o := mA n) (by rw [← l]; exact hr n)
  exact HandSPX.exc_get I1.kIn J T.ga T.gg T.exC (PySem.W.findObj_own T.hdC hno rfl (by rw [hl, hu])) (handed_of ru) ⟨v, H1, I1.tok _, ru, q⟩
/-- isinstance(e, c), e a kept error -/
def rIsH (K : PySem.W.Frag) : List V → Hp → VK → Prop := fun xs H Q => ∃ (a C dd : Addr) (fs : List (Str × V)) (D : Addr) (b : Bool), xs = [.ref a, .ref D] ∧ H a = some (held a (.ref C) (some dd)) ∧ H dd = some (.xd fs) ∧ ExcC K C ∧ PySem.W.kitOne K (.ref C) (.ref D) = some b ∧ Q (.bl b) H
theorem call_isH {X : Cx} : CallR X (.builtin "isinstance") (rIsH X.K) := by
  intro pins s σ H xs us Q I r h
  obtain ⟨a, C, dd, fs, D, b, rfl, h1, h2, T, e, q⟩ := h
  cases r with
  | cons rx rr =>
    cases rr with
    | cons rt rr =>
      cases rr
      cases rx
      cases rt
      obtain ⟨oe, od, mA, J, _, _⟩ := held_get I h1 h2
      obtain ⟨cd, hcd, _⟩ := PySem.W.any_some T.hd
      exact PySem.W.kia_one (PySem.W.kitx_exc (by rw [hcd]; rfl) T.hg T.hk T.hs T.ha T.hn T.ht T.hm) I.kIn J e (fun z => nomatch z) fun tk => ⟨.bl b, H, I.kept (t' := tk) fun _ _ z => z, rfl, q⟩
end L2
namespace L2
open PySem PySem.Spec PyProof.Rows
/-! ### repr of a list whose items may be empty dicts -/
inductive Dq (K : PySem.W.Frag) (H : Hp) : V → PyData → Prop
  | of {v : V} {d : PyData} : Dp K H v d → d.hasDict = false → Dq K H v d
  | dic {a : Addr} : H a = some (.dK []) → Dq K H (.ref a) (.dict [])
inductive DqAll (K : PySem.W.Frag) (H : Hp) : List V → List PyData → Prop
  | nil : DqAll K H [] []
  | cons {v : V} {vs : List V} {d : PyData} {ds : List PyData} : Dq K H v d → DqAll K H vs ds → DqAll K H (v :: vs) (d :: ds)
section
variable {X : Cx} {pins : List (Addr × Obj)} {σ : St} {H : Hp} {s : Shared}
theorem Dq.shows (I : Inv X pins σ H s) {d : PyData} {v : V} {u : Value} (h : Dq X.K H v d) (r : RelV v u) (hs : d.showable = true) (hz : d.shown.length ≤ sizeLine) :
    ∃ as, Reads s.heap u d as ∧ ∃ bs, ReadAtMost s.heap d.depth bs ∧ ReprK X.prog X.w bs s.heap d.depth u d.shown := by
  cases h with
  | of h hd =>
    obtain ⟨as, q⟩ := Dp.reads I d _ _ h r
    exact ⟨as, q, ReprK.of_reads q hs (fun z => absurd (hd.symm.trans z) (by decide)) hz⟩
  | dic hl =>
    cases r
    obtain ⟨_, hne, vs, rk, o, es, ep, ho, hx, hd, _, he, _⟩ := I.hok _ _ hl
    cases rk
    have he : es.toList = [] := by generalize es.toList = l at he ⊢; cases he; rfl
    have q : Reads s.heap (.ref _) (.dict []) _ := Reads.dict (as := []) (bs := []) ho hx.1 hd (by rw [he]; exact .nil) (by rw [he]; exact .nil)
    refine ⟨_, q, ReprK.of_reads q hs (fun _ z => ?_) hz⟩
    rcases List.mem_cons.mp z with z | z
    · rw [← z] at hne
      exact Bool.noConfusion hne
    · cases z
theorem DqAll.shows (I : Inv X pins σ H s) : ∀ {ds : List PyData} {vs : List V} {us : List Value}, DqAll X.K H vs ds → Vals vs us → PyData.showableAll ds = true → (∀ t ∈ PyData.shownAll ds, t.length ≤ sizeLine) →
    ∃ as, ReadsAll s.heap us ds as ∧ ∃ bs, ReadAtMost s.heap (PyData.depthAll ds) bs ∧ ReprAllK X.prog X.w bs s.heap (PyData.depthAll ds) us (PyData.shownAll ds) := by
  intro ds vs us h r hs hz
  induction h generalizing us with
  | nil =>
    cases r
    exact ⟨_, .nil, [], (fun _ q => nomatch q), by simp only [PyData.shownAll]; exact .nil⟩
  | cons h1 h2 ih =>
    rename_i v vs d ds
    cases r with
    | cons r1 r2 =>
      have hs' : d.showable = true ∧ PyData.showableAll ds = true := by simpa [PyData.showableAll] using hs
      obtain ⟨a1, q1, b1, m1, k1⟩ := h1.shows I r1 hs'.1 (hz _ (by simp only [PyData.shownAll]; exact List.mem_cons_self))
      obtain ⟨a2, q2, b2, m2, k2⟩ := ih r2 hs'.2 fun t ht => hz t (by simp only [PyData.shownAll]; exact List.mem_cons_of_mem _ ht)
      have l1 : d.depth ≤ PyData.depthAll (d :: ds) := by simp only [PyData.depthAll]; exact Nat.le_max_left _ _
      have l2 : PyData.depthAll ds ≤ PyData.depthAll (d :: ds) := by simp only [PyData.depthAll]; exact Nat.le_max_right _ _
      refine ⟨_, .cons q1 q2, b1 ++ b2, (m1.mono l1).append (m2.mono l2), ?_⟩
      have e : PyData.shownAll (d :: ds) = d.shown :: PyData.shownAll ds := by simp only [PyData.shownAll]
      rw [e]
      exact .cons ((k1.more fun b hb => List.mem_append_left _ hb).level_le l1) (k2.more_le (fun b hb => List.mem_append_right _ hb) l2)
end
def rReprQ (K : PySem.W.Frag) : List V → Hp → VK → Prop := fun xs H Q => ∃ a vs ds, xs = [.ref a] ∧ SqL K H a vs ∧ DqAll K H vs ds ∧ vs ≠ [] ∧ PyData.showableAll ds = true ∧ (PyData.list ds).depth ≤ 20 ∧ (PyData.list ds).shown.length ≤ sizeLine ∧ Q (.str (PyData.list ds).shown) H
theorem call_reprQ {X : Cx} (hG : X.A.guards = some []) (hu : X.A.units + 64 < cLine) : CallR X (.builtin "repr") (rReprQ X.K) := by
  intro pins s σ H xs us Q I r h
  obtain ⟨a, vs, ds, rfl, hl, hd, hne, h1, h3, h4, q⟩ := h
  obtain ⟨u, rfl, ru⟩ := vals1 r
  cases (show u = Value.ref a from ru)
  obtain ⟨its, rv, ⟨o, n, ho, hc, _, ho3⟩, _⟩ := I.list hl
  have hz : (listText (PyData.shownAll ds)).length ≤ sizeLine := by simpa only [PyData.shown] using h4
  obtain ⟨as, q1, bs, hb, hk⟩ := hd.shows I rv h1 fun t ht => Nat.le_trans (listText_mem_le ht) hz
  have rd : Reads s.heap (.ref a) (.list ds) _ := .list ho hc ho3 (by simpa using q1)
  have hna : a ∉ bs := not_mem_of_deeper rd (by simp only [PyData.depth]; omega) hb
  simp only [PyData.depth] at h3
  cases its with
  | nil =>
    cases rv
    exact absurd rfl hne
  | cons x l =>
    refine call_repr_slot (by omega) (show s.TypeIs (.ref a) "list" from ⟨o, ho, hc⟩) F.slot_list_repr.toG ?_
    refine call_list_reprK ho hc ho3 hna (by simpa using hk.length_eq) (fun i y e => hk.item i y (by simpa using e)) hG (fun b _ => Clear.nil b) (by show X.A.units + 1 + (PyData.depthAll ds + 1) < cLine; omega) (fun _ _ z => z) (fun h' u tk hk' => ⟨_, _, rfl, ?_⟩) hz
    refine ⟨.str (PyData.list ds).shown, H, I.kept hk', ⟨u, by simp only [PyData.shown]⟩, q⟩
theorem g_reprQ {K : PySem.W.Frag} {H : Hp} {Q : VK} {a : Addr} {vs : List V} {ds : List PyData} (h : SqL K H a vs) (hd : DqAll K H vs ds) (hne : vs ≠ []) (h1 : PyData.showableAll ds = true) (h3 : (PyData.list ds).depth ≤ 20) (h4 : (PyData.list ds).shown.length ≤ sizeLine) (q : Q (.str (PyData.list ds).shown) H) : rReprQ K [.ref a] H Q :=
  ⟨a, vs, ds, rfl, h, hd, hne, h1, h3, h4, q⟩
end L2
namespace XS
open PySem PySem.W
theorem along_of {K : Frag} {C N : Addr} {nm q n : Str} {bs bm sb : List Value} {hd ab : Bool} {sn : List Str} {co : Option Bool} {dd : Option Addr} {m0 m1 m2 m3 m5 r : Option Value} {nw : String} (x : K.lookup C = some (excClassObj nm q C N bs bm hd sn sb ab co dd m0 m1 m2 m3 m5 nw)) (e : findIn K (.ref C) n = some r) :
    alongIn K n (.ref C :: bm) = some r := by
  unfold findIn at e
  dsimp only at e
  rw [x] at e
  exact e
theorem any3 {K : Frag} {c c1 c2 c3 : Value} {b1 b2 b3 : Bool} (h1 : exmOne K c c1 = some b1) (h2 : exmOne K c c2 = some b2) (h3 : exmOne K c c3 = some b3) : exmAny K c [c1, c2, c3] = some (b1 || (b2 || (b3 || false))) := by
  unfold exmAny exmAny exmAny exmAny
  rw [h1, h2, h3]
theorem kit_self {K : Frag} {C : Addr} : kitOne K (.ref C) (.ref C) = some true := if_pos (beq_self_eq_true _)
theorem kit_other {K : Frag} {C D : Addr} {b : Bool} (hd : hasDictIn K D = true) (ht : typeIn K (.ref D) = some (.type "type")) (hn : (Value.ref C == Value.ref D) = false) (hs : subIn K (.ref C) (.ref D) = some b) : kitOne K (.ref C) (.ref D) = some b := by
  obtain ⟨cd, hc, _⟩ := any_some hd
  unfold kitOne
  rw [if_neg (by rw [hn]; exact Bool.false_ne_true)]
  show (if ((clsIn K D).isSome && typeIn K (.ref D) == some (.type "type")) = true then subIn K (.ref C) (.ref D) else none) = some b
  rw [if_pos (by rw [hc, ht] <;> rfl), hs]
end XS
namespace L2
open PySem
section
variable {X : Cx} {H : Hp} {Q : VK} {K : PySem.W.Frag} {σ : St} {ta tb te : TE} {D : Ends}
/-! more names -/
def rSplitZ : V → List V → Hp → VK → Prop := fun x xs H Q => ∃ a b, x = .str a ∧ xs = [.str b] ∧ (b.length == 0) = false ∧ a.length + 2 ≤ sizeLine ∧ rNewStrs (Txt.split a b) H Q
theorem pe_splitZ {o e : Expr} {to te : TE} {apos pos : Pos} (ho : PE X o to) (he : PE X e te) (hs : starEach [e] X.env = [(false, eval e X.env)] := by rfl) (hbase : attributeBase o "split" X.env (eval o X.env) = eval o X.env := by rfl) (hline : (apos.endLine == pos.line) = true := by rfl) :
    PE X (.Call (.Attribute o "split" apos) [e] [] pos) (tM1 rSplitZ to te) := pe_split ho he hs hbase hline
theorem g_splitz {a b : Str} (h1 : (b.length == 0) = false) (h2 : a.length + 2 ≤ sizeLine) (q : ∀ p, H p = none → Q (.ref p) (upd H p (.lst ((Txt.split a b).map V.str)))) : rSplitZ (.str a) [.str b] H Q := ⟨a, b, rfl, rfl, h1, h2, q⟩
def rStartZ : V → List V → Hp → VK → Prop := fun x xs H Q => ∃ a b, x = .str a ∧ xs = [.str b] ∧ Q (.bl (Txt.startswith a b)) H
theorem mt_startZ : MtR X "str.startswith" rStartZ := mt_startswith
theorem g_startz {a b : Str} (q : Q (.bl (Txt.startswith a b)) H) : rStartZ (.str a) [.str b] H Q := ⟨a, b, rfl, rfl, q⟩
def rCountZ : V → List V → Hp → VK → Prop := fun x xs H Q => ∃ a b, x = .str a ∧ xs = [.str b] ∧ Q (.int (Txt.count a b)) H
theorem mt_countZ : MtR X "str.count" rCountZ := mt_count
theorem g_countz {a b : Str} (q : Q (.int (Txt.count a b)) H) : rCountZ (.str a) [.str b] H Q := ⟨a, b, rfl, rfl, q⟩
def rTupOf (K : PySem.W.Frag) : List V → Hp → VK → Prop := fun xs H Q => ∃ p ys, xs = [.ref p] ∧ ((SqL K H p ys ∧ ∀ l, H l = none → Q (.ref l) (upd H l (.tup ys))) ∨ (SqT K H p ys ∧ Q (.ref p) H))
theorem call_tupOf : CallR X (.type "tuple") (rTupOf X.K) := call_tuple_of
theorem g_tupOf {p : Addr} {ys : List V} (h : SqL K H p ys) (q : ∀ l, H l = none → Q (.ref l) (upd H l (.tup ys))) : rTupOf K [.ref p] H Q := ⟨p, ys, rfl, .inl ⟨h, q⟩⟩
theorem g_sll {p : Addr} {xs : List V} {lo hi : Option Int} (h : SqL K H p xs) (q : ∀ l, H l = none → Q (.ref l) (upd H l (.lst (cutV xs lo hi)))) : rSlL K (.ref p) lo hi H Q := ⟨p, xs, rfl, h, q⟩
theorem g_revl (h : te σ H fun x H1 => ∃ a xs, x = .ref a ∧ SqL K H1 a xs ∧ ∀ p, H1 p = none → Q (.ref p) (upd H1 p (.lst xs.reverse))) : tRevL K te σ H Q := h
/-! raising and catching -/
def tRaiseE (C : Addr) (fld : Str) (te : TE) (E : XK) : TS := fun _ σ H => tMkE C fld te σ H fun cls d H' => E cls d H'
theorem ps_raiseE {C fI : Addr} {par fld x : Str} {e : Expr} {E : XK} {p pos pos2 : Pos} (hc : X.calm = true) (tk : Takes X (fun cls d _ H => E cls d H)) (T : XS.ErrC X.prog X.K C fI par fld) (hr : Room 1 X.A) (hg : Gl X x) (hm : X.mg x = some (.ref C)) (ha : PE X e te) (hdb : (x == ("__debug__" : Str)) = false := by decide)
    (he : starEach [e] X.env = (false, eval e X.env) :: starEach [] X.env := by rfl) : PS X (.Raise (some (.Call (.Name x p) [e] [] pos)) none pos2) (tRaiseE C fld te E) := ps_raise hc tk (pmk_err T hr hg hm ha hdb he)
theorem g_raise {C : Addr} {fld : Str} {E : XK} (h : te σ H fun v H1 => ∀ d, H1 d = none → E (.ref C) (some d) (upd H1 d (.xd [(fld, v)]))) : tRaiseE C fld te E D σ H := h
def tTryH (tb : WX → TS) (m : Value → Option Bool) (i : Nat) (ts : TS) (Wout : WX) : TS := fun D σ H => tb (wHeld m i ts Wout D) D σ H
theorem ps_tryH {n : Str} {i : Nat} {body suite : List Stmt} {b₀ : Stmt} {tt : Expr} {m : Value → Option Bool} {pos pos' : Pos} {tb : WX → TS} {ts : TS} {Wout : WX} (hs : X.stack = X.env :: X.outer) (hf : X.env.frame = some X.env.locals) (hN : X.N.Nodup) (hi : X.N[i]? = some n) (hln : X.env.kindOf n = some .local) (ht : Tells X tt m) (tk : Takes X Wout)
    (hb : ∀ (W : WX) (pn : List (Addr × Obj)) (xe : Value → Shared → Prop), Takes (X.tr pn xe) W → PassesOwn (model X.prog X.w) X.A X.env xe → PSs (X.tr pn xe) body (tb W))
    (hsu : ∀ (a : Addr) (pn : List (Addr × Obj)), PSs (X.suite a pn) (b₀ :: suite) ts) :
    PS X (.Try body [.ExceptHandler (some tt) (some n) (b₀ :: suite) pos'] [] [] pos) (tTryH tb m i ts Wout) := ps_try_held hs hf hN hi hln ht tk hb hsu
theorem g_tryH {tb : WX → TS} {m : Value → Option Bool} {i : Nat} {ts : TS} {Wout : WX} (h : tb (wHeld m i ts Wout D) D σ H) : tTryH tb m i ts Wout D σ H := h
theorem g_kw0S {sp : Sp} {n : Nat} {ix : List Nat} {E : St → XK} {tr : TA} (h : tr σ H fun vs H1 => vs.length = n ∧ sp (picked V.non ix vs) H1 Q (E σ)) : tKw0S sp n ix E tr σ H Q := h
theorem g_we {W : WX} {cls : Value} {d : Option Addr} (h : W cls d σ H) : WE W σ cls d H := h
theorem g_heldY {m : Value → Option Bool} {i : Nat} {ts : TS} {Wout : WX} {cls : Value} {d : Option Addr} (hm : m cls = some true) (h : ∀ a, H a = none → ts { nx := fun σ' H' => D.nx (σ'.set i none) H', rt := D.rt, bk := fun σ' H' => D.bk (σ'.set i none) H', ct := fun σ' H' => D.ct (σ'.set i none) H' } (σ.set i (some (.ref a))) (upd H a (held a cls d))) : wHeld m i ts Wout D cls d σ H :=
  ⟨true, hm, fun _ => h, fun z => Bool.noConfusion z⟩
theorem g_held {n : Str} (h : te σ H fun x H1 => ∃ (a C dd : Addr) (fs : List (Str × V)) (v : V), x = .ref a ∧ H1 a = some (held a (.ref C) (some dd)) ∧ H1 dd = some (.xd fs) ∧ fs.lookup n = some v ∧ XfC K C ∧ PySem.W.findIn K (.ref C) n = some none ∧ Q v H1) : tHeld K n te σ H Q := h
theorem g_isH {a C dd D0 : Addr} {fs : List (Str × V)} {b : Bool} (h1 : H a = some (held a (.ref C) (some dd))) (h2 : H dd = some (.xd fs)) (T : ExcC K C) (e : PySem.W.kitOne K (.ref C) (.ref D0) = some b) (q : Q (.bl b) H) : rIsH K [.ref a, .ref D0] H Q := ⟨a, C, dd, fs, D0, b, rfl, h1, h2, T, e, q⟩
theorem g_irng3 {ta : TA} {R : It → Hp → Prop} (h : ta σ H fun vs H1 => ∃ (i j c : Int) (n : Nat), vs = [.int i, .int j, .int c] ∧ RgC i j c n ∧ R (Itc i c n) H1) : iRng3 ta σ H R := h
/-- a class of the text -/
theorem pe_gc {x : Str} {C : Addr} {pos : Pos} (hg : Gl X x) (hm : X.mg x = some (.ref C)) (hdb : (x == ("__debug__" : Str)) = false := by decide) : PE X (.Name x pos) (tC (.ref C)) := pe_glob (v := .ref C) hg hm rfl hdb
end
theorem cut1 (x : V) (r : List V) : cutV (x :: r) (some 1) none = r := by
  show ((x :: r).drop _).take _ = r
  have e1 : HT.sIx (x :: r).length 0 (some 1) = 1 := by
    show min (1 : Nat) (r.length + 1) = 1
    omega
  have e2 : HT.sIx (x :: r).length (x :: r).length none = (x :: r).length := by rfl
  rw [e1, e2]
  simp
end L2
namespace M3
open PySem PySem.StrLaws PySem.Builtin.Str
/-! unfolding, on code points: a newline ahead of a space goes, any other becomes a space and is told -/
def gap (r : List Nat) : Bool := r.head? == some 32
def fold : List Nat → List Nat
  | [] => []
  | c :: r => if c = 10 then (if gap r = true then fold r else 32 :: fold r) else c :: fold r
def dues : Nat → List Nat → List Nat
  | _, [] => []
  | n, c :: r => if c = 10 then (if gap r = true then dues n r else n :: dues (n + 1) r) else dues (n + 1) r
/-- the same, told from the end -/
def plc : List Nat → List Nat
  | [] => []
  | c :: r => if c = 10 then (if gap r = true then plc r else ((fold r).length + 1) :: plc r) else plc r
/-- how many newlines go -/
def c2 : List Nat → Nat
  | [] => 0
  | c :: r => if c = 10 ∧ gap r = true then 1 + c2 r else c2 r
theorem fold_cons (c : Nat) (r : List Nat) : fold (c :: r) = if c = 10 then (if gap r = true then fold r else 32 :: fold r) else c :: fold r := rfl
theorem dues_cons (n c : Nat) (r : List Nat) : dues n (c :: r) = if c = 10 then (if gap r = true then dues n r else n :: dues (n + 1) r) else dues (n + 1) r := rfl
theorem plc_cons (c : Nat) (r : List Nat) : plc (c :: r) = if c = 10 then (if gap r = true then plc r else ((fold r).length + 1) :: plc r) else plc r := rfl
theorem c2_cons (c : Nat) (r : List Nat) : c2 (c :: r) = if c = 10 ∧ gap r = true then 1 + c2 r else c2 r := rfl
theorem dues_plc : ∀ (s : List Nat) (n : Nat), ((dues n s).map fun (d : Nat) => (d : Int)) = (plc s).map fun (p : Nat) => ((n + (fold s).length : Nat) : Int) - (p : Int)
  | [], n => rfl
  | c :: r, n => by
    rw [dues_cons, plc_cons, fold_cons]
    by_cases h : c = 10
    · simp only [if_pos h]
      by_cases g : gap r = true
      · simp only [if_pos g]
        exact dues_plc r n
      · simp only [if_neg g, List.map_cons, List.length_cons]
        rw [dues_plc r (n + 1)]
        refine congr (congrArg List.cons ?_) ?_
        · omega
        · refine List.map_congr_left fun p _ => ?_
          omega
    · simp only [if_neg h, List.length_cons]
      rw [dues_plc r (n + 1)]
      refine List.map_congr_left fun p _ => ?_
      omega
theorem fold_len : ∀ s : List Nat, (fold s).length + c2 s = s.length
  | [] => rfl
  | c :: r => by
    rw [fold_cons, c2_cons]
    have ih := fold_len r
    by_cases h : c = 10
    · by_cases g : gap r = true
      · simp only [if_pos h, if_pos g, if_pos (And.intro h g), List.length_cons]
        omega
      · simp only [if_pos h, if_neg g, if_neg (fun z : c = 10 ∧ gap r = true => g z.2), List.length_cons]
        omega
    · simp only [if_neg h, if_neg (fun z : c = 10 ∧ gap r = true => h z.1), List.length_cons]
      omega
theorem plc_len : ∀ s : List Nat, (plc s).length ≤ s.length
  | [] => Nat.le_refl _
  | c :: r => by
    rw [plc_cons, List.length_cons]
    have := plc_len r
    by_cases h : c = 10
    · by_cases g : gap r = true
      · simp only [if_pos h, if_pos g]
        omega
      · simp only [if_pos h, if_neg g, List.length_cons]
        omega
    · simp only [if_neg h]
      omega
theorem fold_none : ∀ {s : List Nat}, 10 ∉ s → fold s = s
  | [], _ => rfl
  | c :: r, h => by
    rw [fold_cons, if_neg fun e => h (by rw [e]; exact List.mem_cons_self), fold_none fun e => h (List.mem_cons_of_mem _ e)]
theorem fold_app : ∀ {l : List Nat} (t : List Nat), 10 ∉ l → fold (l ++ t) = l ++ fold t
  | [], _, _ => rfl
  | c :: r, t, h => by
    show (if c = 10 then (if gap (r ++ t) = true then fold (r ++ t) else 32 :: fold (r ++ t)) else c :: fold (r ++ t)) = c :: (r ++ fold t)
    rw [if_neg fun e => h (by rw [e]; exact List.mem_cons_self), fold_app t fun e => h (List.mem_cons_of_mem _ e)]
theorem dues_app : ∀ {l : List Nat} (n : Nat) (t : List Nat), 10 ∉ l → dues n (l ++ t) = dues (n + l.length) t
  | [], _, _, _ => rfl
  | c :: r, n, t, h => by
    show dues n (c :: (r ++ t)) = _
    rw [show dues n (c :: (r ++ t)) = dues (n + 1) (r ++ t) by
      show (if c = 10 then _ else dues (n + 1) (r ++ t)) = _
      rw [if_neg fun e => h (by rw [e]; exact List.mem_cons_self)], dues_app (n + 1) t fun e => h (List.mem_cons_of_mem _ e), List.length_cons]
    congr 1
    omega
theorem dues_none {s : List Nat} (h : 10 ∉ s) (n : Nat) : dues n s = [] := by
  have := dues_app n [] h
  rw [List.append_nil] at this
  rw [this]
  rfl
theorem fold_no10 : ∀ s : List Nat, 10 ∉ fold s
  | [] => fun h => nomatch h
  | c :: r => by
    rw [fold_cons]
    have ih := fold_no10 r
    by_cases h : c = 10
    · by_cases g : gap r = true
      · simp only [if_pos h, if_pos g]
        exact ih
      · simp only [if_pos h, if_neg g]
        intro m
        rcases List.mem_cons.mp m with e | e
        · cases e
        · exact ih e
    · simp only [if_neg h]
      intro m
      rcases List.mem_cons.mp m with e | e
      · exact h e.symm
      · exact ih e
theorem fold_sub : ∀ (s : List Nat), ∀ c ∈ fold s, c = 32 ∨ (c ∈ s ∧ c ≠ 10)
  | [], _, h => nomatch h
  | a :: r, c, h => by
    rw [fold_cons] at h
    have ih := fold_sub r c
    by_cases e : a = 10
    · by_cases g : gap r = true
      · simp only [if_pos e, if_pos g] at h
        rcases ih h with z | z
        · exact .inl z
        · exact .inr ⟨List.mem_cons_of_mem _ z.1, z.2⟩
      · simp only [if_pos e, if_neg g] at h
        rcases List.mem_cons.mp h with z | z
        · exact .inl z
        · rcases ih z with z | z
          · exact .inl z
          · exact .inr ⟨List.mem_cons_of_mem _ z.1, z.2⟩
    · simp only [if_neg e] at h
      rcases List.mem_cons.mp h with z | z
      · exact .inr ⟨by rw [z]; exact List.mem_cons_self, by rw [z]; exact e⟩
      · rcases ih z with z | z
        · exact .inl z
        · exact .inr ⟨List.mem_cons_of_mem _ z.1, z.2⟩
/-! line by line -/
def tl : List (List Nat) → List Nat
  | [] => []
  | l :: r => 10 :: (l ++ tl r)
def step (b : List Nat × List Nat) (l : List Nat) : List Nat × List Nat := if gap l = true then (b.1 ++ l, b.2) else (b.1 ++ 32 :: l, b.2 ++ [b.1.length])
theorem gap_tl (l : List Nat) (r : List (List Nat)) : gap (l ++ tl r) = gap l := by
  cases l with
  | cons c l => rfl
  | nil =>
    cases r with
    | nil => rfl
    | cons m r => rfl
theorem run_tl : ∀ (ls : List (List Nat)) (b ds : List Nat), (∀ l ∈ ls, 10 ∉ l) → ls.foldl step (b, ds) = (b ++ fold (tl ls), ds ++ dues b.length (tl ls))
  | [], b, ds, _ => by
    show (b, ds) = (b ++ [], ds ++ [])
    rw [List.append_nil, List.append_nil]
  | l :: r, b, ds, h => by
    have hl := h l List.mem_cons_self
    have hr := fun m hm => h m (List.mem_cons_of_mem _ hm)
    have e1 : fold (tl (l :: r)) = if gap l = true then l ++ fold (tl r) else 32 :: (l ++ fold (tl r)) := by
      show (if (10 : Nat) = 10 then _ else _) = _
      rw [if_pos rfl, gap_tl, fold_app _ hl]
    have e2 : dues b.length (tl (l :: r)) = if gap l = true then dues (b.length + l.length) (tl r) else b.length :: dues (b.length + 1 + l.length) (tl r) := by
      show (if (10 : Nat) = 10 then _ else _) = _
      rw [if_pos rfl, gap_tl, dues_app _ _ hl, dues_app _ _ hl]
    rw [e1, e2, List.foldl_cons]
    unfold step
    by_cases g : gap l = true
    · simp only [if_pos g]
      rw [show (fun b l => if gap l = true then (b.fst ++ l, b.snd) else (b.fst ++ 32 :: l, b.snd ++ [b.fst.length])) = step from rfl, run_tl r _ _ hr, List.append_assoc, List.length_append]
    · simp only [if_neg g]
      rw [show (fun b l => if gap l = true then (b.fst ++ l, b.snd) else (b.fst ++ 32 :: l, b.snd ++ [b.fst.length])) = step from rfl, run_tl r _ _ hr, List.append_assoc, List.append_assoc, List.length_append, List.length_cons]
      rw [show b.length + (l.length + 1) = b.length + 1 + l.length by omega]
      rfl
theorem tl_take : ∀ (r : List (List Nat)) (i : Nat), (tl (r.take i)).length ≤ (tl r).length
  | [], i => by rw [List.take_nil]; exact Nat.le_refl _
  | l :: r, 0 => Nat.zero_le _
  | l :: r, i + 1 => by
    show (10 :: (l ++ tl (r.take i))).length ≤ (10 :: (l ++ tl r)).length
    have := tl_take r i
    simp only [List.length_cons, List.length_append]
    omega
theorem tl_mem : ∀ {r : List (List Nat)} {l : List Nat}, l ∈ r → l.length ≤ (tl r).length
  | m :: r, l, h => by
    show l.length ≤ (10 :: (m ++ tl r)).length
    simp only [List.length_cons, List.length_append]
    rcases List.mem_cons.mp h with e | e
    · rw [e]; omega
    · have := tl_mem e
      omega
theorem dues_len : ∀ (s : List Nat) (n : Nat), (dues n s).length ≤ s.length
  | [], _ => Nat.le_refl _
  | c :: r, n => by
    rw [dues_cons, List.length_cons]
    by_cases h : c = 10
    · by_cases g : gap r = true
      · simp only [if_pos h, if_pos g]
        have := dues_len r n
        omega
      · simp only [if_pos h, if_neg g, List.length_cons]
        have := dues_len r (n + 1)
        omega
    · simp only [if_neg h]
      have := dues_len r (n + 1)
      omega
theorem step_more {r : List (List Nat)} {i : Nat} {l : List Nat} {b : List Nat × List Nat} (h : r[i]? = some l) : (r.take (i + 1)).foldl step b = step ((r.take i).foldl step b) l := by
  rw [List.take_add_one, h, List.foldl_append]
  rfl
theorem take_bound {y : List Nat} {r : List (List Nat)} (hr : ∀ z ∈ r, 10 ∉ z) (i : Nat) : ((r.take i).foldl step (y, [])).1.length ≤ (y ++ tl r).length ∧ ((r.take i).foldl step (y, [])).2.length ≤ (y ++ tl r).length := by
  rw [run_tl _ _ _ fun z hz => hr z (List.mem_of_mem_take hz)]
  have h1 := fold_len (tl (r.take i))
  have h2 := tl_take r i
  have h3 := dues_len (tl (r.take i)) y.length
  simp only [List.length_append, List.nil_append]
  constructor <;> omega
theorem join_tl : ∀ (y : Str) (r : List Str), (Str.join ⟨#[10]⟩ (y :: r)).cps.toList = y.cps.toList ++ tl (r.map fun z => z.cps.toList)
  | y, [] => by
    show y.cps.toList = y.cps.toList ++ []
    rw [List.append_nil]
  | y, z :: r => by
    show ((y ++ (⟨#[10]⟩ : Str)) ++ Str.join ⟨#[10]⟩ (z :: r)).cps.toList = _
    have ap : ∀ a b : Str, (a ++ b).cps.toList = a.cps.toList ++ b.cps.toList := fun a b => by
      show (a.cps ++ b.cps).toList = _
      rw [Array.toList_append]
    rw [ap, ap, join_tl z r, List.append_assoc]
    rfl
/-- the lines of a text -/
theorem lines_of (x : Str) : ∃ (y : Str) (r : List Str), Txt.split x ⟨#[10]⟩ = y :: r ∧ x.cps.toList = y.cps.toList ++ tl (r.map fun z => z.cps.toList) ∧ 10 ∉ y.cps.toList ∧ ∀ z ∈ r, 10 ∉ z.cps.toList := by
  have h1 := PyProof.Rows.split_pos x ⟨#[10]⟩
  have h2 := join_split x ⟨#[10]⟩
  have h3 := split_free x 10
  cases h : Txt.split x ⟨#[10]⟩ with
  | nil => rw [h] at h1; exact absurd h1 (by decide)
  | cons y r =>
    rw [h] at h2 h3
    exact ⟨y, r, rfl, by rw [← join_tl, h2], h3 y List.mem_cons_self, fun z hz => h3 z (List.mem_cons_of_mem _ hz)⟩
theorem unf (y : List Nat) (r : List (List Nat)) (hy : 10 ∉ y) (hr : ∀ z ∈ r, 10 ∉ z) : r.foldl step (y, []) = (fold (y ++ tl r), dues 0 (y ++ tl r)) := by
  rw [run_tl r _ _ hr, fold_app _ hy, dues_app _ _ hy, List.nil_append, Nat.zero_add]
/-! how often a newline stands ahead of a space -/
theorem sub2 (x : Str) (i : Nat) : (i + 2 ≤ x.length ∧ subAt x ⟨#[10, 32]⟩ i = true) ↔ ∃ r, x.cps.toList.drop i = 10 :: 32 :: r := by
  have e : subAt x ⟨#[10, 32]⟩ i = ((x.cps.extract i (i + 2)) == #[10, 32]) := rfl
  have e2 : (x.cps.extract i (i + 2)).toList = (x.cps.toList.drop i).take 2 := by
    rw [Array.toList_extract, List.extract_eq_take_drop, Nat.add_sub_cancel_left]
  rw [e]
  constructor
  · rintro ⟨_, h⟩
    have h' : x.cps.extract i (i + 2) = #[10, 32] := eq_of_beq h
    rw [h'] at e2
    cases q : x.cps.toList.drop i with
    | nil => rw [q] at e2; cases e2
    | cons a t =>
      cases t with
      | nil => rw [q] at e2; cases e2
      | cons b t =>
        rw [q] at e2
        cases e2
        exact ⟨t, rfl⟩
  · rintro ⟨r, h⟩
    have hl : (x.cps.toList.drop i).length = x.length - i := by
      rw [List.length_drop, Array.length_toList]
      rfl
    rw [h] at hl e2
    simp only [List.length_cons] at hl
    refine ⟨by omega, beq_iff_eq.mpr ?_⟩
    exact Array.toList_inj.mp e2
theorem gap_iff {r : List Nat} : gap r = true ↔ ∃ t, r = 32 :: t := by
  cases r with
  | nil =>
    constructor
    · intro h
      cases h
    · rintro ⟨_, h⟩
      cases h
  | cons a t =>
    constructor
    · intro h
      have : a = 32 := by simpa [gap] using h
      exact ⟨t, by rw [this]⟩
    · rintro ⟨u, h⟩
      cases h
      rfl
open Classical in
theorem c2_drop (x : List Nat) (k : Nat) (h : k < x.length) : c2 (x.drop k) = (if ∃ r, x.drop k = 10 :: 32 :: r then 1 else 0) + c2 (x.drop (k + 1)) := by
  rw [List.drop_eq_getElem_cons h, c2_cons]
  by_cases g : x[k] = 10 ∧ gap (x.drop (k + 1)) = true
  · obtain ⟨t, ht⟩ := gap_iff.mp g.2
    rw [if_pos g, if_pos ⟨t, by rw [g.1, ht]⟩]
  · rw [if_neg g, if_neg, Nat.zero_add]
    rintro ⟨r, hr⟩
    have h1 := (List.cons.inj hr).1
    have h2 := (List.cons.inj hr).2
    exact g ⟨h1, gap_iff.mpr ⟨_, h2⟩⟩
theorem occ_c2 (x : Str) : ∀ (m k : Nat) (st : Array Nat × Nat), k + m = x.length + 1 → st.1.size ≤ k → (st.2 ≤ k ∨ (st.2 = k + 1 ∧ ¬ ∃ r, x.cps.toList.drop k = 10 :: 32 :: r)) →
    (forIn (List.range' k m) st (occBody x ⟨#[10, 32]⟩ x.length (x.length + 1))).run.fst.size = st.1.size + c2 (x.cps.toList.drop k)
  | 0, k, st, h, _, _ => by
    rw [show x.cps.toList.drop k = [] from List.drop_eq_nil_iff.mpr (by rw [Array.length_toList]; show x.length ≤ k; omega)]
    rfl
  | m + 1, k, st, h, hs, hf => by
    rw [List.range'_succ, List.forIn_cons]
    have sb := sub2 x k
    unfold occBody
    by_cases hc : ∃ r, x.cps.toList.drop k = 10 :: 32 :: r
    · have hm := sb.mpr hc
      have hle : st.2 ≤ k := by
        rcases hf with hf | hf
        · exact hf
        · exact absurd hc hf.2
      rw [if_pos ⟨⟨⟨by omega, hle⟩, hm.1⟩, hm.2⟩]
      have nx : ¬ ∃ r, x.cps.toList.drop (k + 1) = 10 :: 32 :: r := by
        rintro ⟨r, hr⟩
        obtain ⟨r0, h0⟩ := hc
        have : x.cps.toList.drop (k + 1) = (x.cps.toList.drop k).drop 1 := by rw [List.drop_drop]
        rw [this, h0] at hr
        cases hr
      have ih := occ_c2 x m (k + 1) (st.1.push k, k + 2) (by omega) (by simp only [Array.size_push]; omega) (.inr ⟨rfl, nx⟩)
      show (forIn (List.range' (k + 1) m) (st.1.push k, k + 2) (occBody x ⟨#[10, 32]⟩ x.length (x.length + 1))).run.fst.size = _
      rw [ih]
      have hk : k < x.cps.toList.length := by rw [Array.length_toList]; show k < x.length; omega
      rw [c2_drop _ k hk, if_pos hc]
      simp only [Array.size_push]
      omega
    · have hn : ¬ (((st.1.size < x.length + 1 ∧ st.2 ≤ k) ∧ k + (⟨#[10, 32]⟩ : Str).length ≤ x.length) ∧ subAt x ⟨#[10, 32]⟩ k = true) := fun z => hc (sb.mp ⟨z.1.2, z.2⟩)
      rw [if_neg hn]
      have ih := occ_c2 x m (k + 1) (st.1, st.2) (by omega) (by show st.1.size ≤ k + 1; omega) (.inl (by show st.2 ≤ k + 1; rcases hf with hf | hf <;> omega))
      show (forIn (List.range' (k + 1) m) (st.1, st.2) (occBody x ⟨#[10, 32]⟩ x.length (x.length + 1))).run.fst.size = _
      rw [ih]
      by_cases hk : k < x.cps.toList.length
      · rw [c2_drop _ k hk, if_neg hc, Nat.zero_add]
      · rw [show x.cps.toList.drop k = [] from List.drop_eq_nil_iff.mpr (by omega), show x.cps.toList.drop (k + 1) = [] from List.drop_eq_nil_iff.mpr (by omega)]
theorem count2 (x : Str) : Txt.count x ⟨#[10, 32]⟩ = (c2 x.cps.toList : Int) := by
  unfold Txt.count
  rw [occ_eq, Array.length_toList, Nat.sub_zero, occ_c2 x (x.length + 1) 0 (#[], 0) (by omega) (Nat.zero_le _) (.inl (Nat.le_refl _))]
  show ((0 + c2 x.cps.toList : Nat) : Int) = _
  rw [Nat.zero_add]
theorem starts (z : Str) : Txt.startswith z ⟨#[32]⟩ = gap z.cps.toList := by
  unfold Txt.startswith
  have e2 : (z.cps.extract 0 (0 + 1)).toList = z.cps.toList.take 1 := by
    rw [Array.toList_extract, List.extract_eq_take_drop]
    rfl
  show (decide (0 + 1 ≤ z.length) && (z.cps.extract 0 (0 + 1) == #[32])) = gap z.cps.toList
  cases h : z.cps.toList with
  | nil =>
    have : z.length = 0 := by show z.cps.size = 0; rw [← Array.length_toList, h]; rfl
    rw [this]
    rfl
  | cons a r =>
    have hl : 1 ≤ z.length := by show 1 ≤ z.cps.size; rw [← Array.length_toList, h]; simp
    rw [decide_eq_true (by omega), Bool.true_and]
    rw [h] at e2
    have e3 : z.cps.extract 0 (0 + 1) = #[a] := Array.toList_inj.mp e2
    rw [e3]
    show (#[a] == #[32]) = (some a == some 32)
    by_cases q : a = 32
    · subst q; rfl
    · rw [beq_eq_false_iff_ne.mpr (fun z => q (by cases z; rfl)), beq_eq_false_iff_ne.mpr (fun z => q (by cases z; rfl))]
end M3
namespace M3
open PySem PySem.Spec PyProof.Rows
theorem dues_le : ∀ (s : List Nat) (k : Nat), ∀ n ∈ dues k s, n ≤ k + s.length
  | [], _, _, h => nomatch h
  | c :: r, k, n, h => by
    rw [dues_cons] at h
    rw [List.length_cons]
    by_cases e : c = 10
    · by_cases g : gap r = true
      · simp only [if_pos e, if_pos g] at h
        have := dues_le r k n h
        omega
      · simp only [if_pos e, if_neg g] at h
        rcases List.mem_cons.mp h with z | z
        · omega
        · have := dues_le r (k + 1) n z
          omega
    · simp only [if_neg e] at h
      have := dues_le r (k + 1) n h
      omega
def dLine (n : Nat) : PyData := .tuple [.int (n : Int), .str "line"]
def dRes (b : Str) (ns : List Nat) : PyData := .tuple [.str b, .tuple (ns.map dLine)]
theorem line_shown : ∀ n : Fin 201, (PyData.shown (.int (n.val : Int))).length ≤ 13 := by decide +kernel
theorem log_le (n : Nat) : n.log2 ≤ n := Nat.log2_le_self n
section
variable {ns : List Nat} (h : ∀ n ∈ ns, n ≤ 200)
include h
theorem all_show : PyData.showableAll (ns.map dLine) = true := by
  induction ns with
  | nil => rfl
  | cons n r ih =>
    have hn := h n List.mem_cons_self
    have := log_le n
    rw [List.map_cons, PyData.showableAll, ih fun m hm => h m (List.mem_cons_of_mem _ hm), Bool.and_true]
    simp only [dLine, PyData.showable, PyData.showableAll, Bool.and_true]
    exact decide_eq_true (by show (n : Int).natAbs.log2 < 1920; rw [Int.natAbs_natCast]; omega)
theorem all_short : PyData.intsShortAll 13 (ns.map dLine) = true := by
  induction ns with
  | nil => rfl
  | cons n r ih =>
    have hn := h n List.mem_cons_self
    rw [List.map_cons, PyData.intsShortAll, ih fun m hm => h m (List.mem_cons_of_mem _ hm), Bool.and_true]
    simp only [dLine, PyData.intsShort, PyData.intsShortAll, Bool.and_true]
    exact decide_eq_true (line_shown ⟨n, by omega⟩)
theorem all_weight : PyData.weightAll (ns.map dLine) ≤ 210 * ns.length := by
  induction ns with
  | nil => exact Nat.le_refl _
  | cons n r ih =>
    have hn := h n List.mem_cons_self
    have h2 := log_le n
    have ih' := ih fun m hm => h m (List.mem_cons_of_mem _ hm)
    rw [List.map_cons, PyData.weightAll, List.length_cons]
    have hw : (dLine n).weight ≤ 208 := by
      simp only [dLine, PyData.weight, PyData.weightAll]
      have e : ("line" : Str).cps.size = 4 := by decide +kernel
      rw [e, Int.natAbs_natCast]
      split <;> omega
    omega
end
theorem all_nodict : ∀ ns : List Nat, PyData.hasDictAll (ns.map dLine) = false
  | [] => rfl
  | n :: r => by
    rw [List.map_cons, PyData.hasDictAll, all_nodict r]
    rfl
theorem all_depth : ∀ ns : List Nat, PyData.depthAll (ns.map dLine) ≤ 1
  | [] => Nat.zero_le _
  | n :: r => by
    have := all_depth r
    rw [List.map_cons, PyData.depthAll]
    simp only [dLine, PyData.depth, PyData.depthAll]
    omega
theorem all_lay : ∀ ns : List Nat, PyData.canLayAll0 (ns.map dLine) = true
  | [] => rfl
  | n :: r => by
    rw [List.map_cons, PyData.canLayAll0, all_lay r, Bool.and_true]
    simp only [dLine, PyData.canLay0, PyData.canLayAll0, Bool.and_true, Bool.true_and]
    decide +kernel
theorem all_eqv : ∀ ns : List Nat, PyData.eqvAll (ns.map dLine) (ns.map dLine) = true
  | [] => rfl
  | n :: r => by
    rw [List.map_cons, PyData.eqvAll, all_eqv r, Bool.and_true]
    simp [dLine, PyData.eqv, PyData.eqvAll]
theorem res_eqv (b : Str) (ns : List Nat) : PyData.eqv (dRes b ns) (dRes b ns) = true := by
  simp [dRes, PyData.eqv, PyData.eqvAll, all_eqv]
theorem res_depth (b : Str) (ns : List Nat) : (dRes b ns).depth ≤ 3 := by
  have := all_depth ns
  simp only [dRes, PyData.depth, PyData.depthAll]
  omega
theorem res_lay {b : Str} (hb : PyData.strOk b = true) (ns : List Nat) : (dRes b ns).canLay0 = true := by
  simp only [dRes, PyData.canLay0, PyData.canLayAll0, all_lay, hb, Bool.and_true]
theorem res_shaped {b : Str} (hb : PyData.strOk b = true) (ns : List Nat) : SeqAt.shaped (dRes b ns) = true := by
  show (_ && decide _) = true
  rw [res_lay hb, Bool.true_and]
  exact decide_eq_true (Nat.le_trans (res_depth b ns) (by decide))
theorem res_facts {b : Str} {ns : List Nat} (hb : PyData.strOk b = true) (hl : b.length ≤ 200) (hn : ns.length ≤ 200) (h : ∀ n ∈ ns, n ≤ 200) :
    (dRes b ns).showable = true ∧ (dRes b ns).hasDict = false ∧ (dRes b ns).depth ≤ 20 ∧ (dRes b ns).shown.length ≤ sizeLine := by
  have hw := all_weight h
  refine ⟨?_, ?_, Nat.le_trans (res_depth b ns) (by decide), Nat.le_trans (shown_le13 (d := dRes b ns) ?_ ?_) (by decide)⟩
  · simp only [dRes, PyData.showable, PyData.showableAll, all_show h, Bool.and_true]
  · simp only [dRes, PyData.hasDict, PyData.hasDictAll, all_nodict, Bool.or_false]
  · show (_ && decide _ && decide _) = true
    rw [res_lay hb, decide_eq_true (Nat.le_trans (res_depth b ns) (by decide)), Bool.true_and, Bool.true_and]
    refine decide_eq_true ?_
    have e : b.cps.size ≤ 200 := hl
    simp only [dRes, PyData.weight, PyData.weightAll]
    have : (2 : Nat) ^ 20 = 1048576 := by decide
    omega
  · simp only [dRes, PyData.intsShort, PyData.intsShortAll, all_short h, Bool.and_true]
end M3
namespace L2
open PySem
/-- how a result stands in the heap -/
theorem dp_res {K : PySem.W.Frag} {H : Hp} {p t : Addr} {b : Str} {ps : List Addr} {ns : List Nat} (h1 : H p = some (.tup [.str b, .ref t])) (h2 : H t = some (.tup (ps.map V.ref))) (h3 : Paired (fun q (n : Nat) => H q = some (.tup [.int (n : Int), .str "line"])) ps ns) :
    Dp K H (.ref p) (M3.dRes b ns) := by
  have al : ∀ {ps : List Addr} {ns : List Nat}, Paired (fun q (n : Nat) => H q = some (.tup [.int (n : Int), .str "line"])) ps ns → DpAll K H (ps.map V.ref) (ns.map M3.dLine) := by
    intro ps ns h
    induction h with
    | nil => exact .nil
    | cons a _ ih => exact .cons (.tup (SqT.of a) (.cons (.int _) (.cons (.str _) .nil))) ih
  exact .tup (SqT.of h1) (.cons (.str b) (.cons (.tup (SqT.of h2) (al h3)) .nil))
end L2
namespace M3
open PySem PySem.Spec PyProof.Rows
/-- what is shown of an error's word with a thing of one text -/
def ShowOk (d : PyData) : Prop := PyData.showableAll [.str "body", d] = true ∧ (PyData.list [.str "body", d]).depth ≤ 20 ∧ (PyData.list [.str "body", d]).shown.length ≤ sizeLine
theorem body_ok : PyData.strOk ("body" : Str) = true := by decide +kernel
theorem body_size : ("body" : Str).cps.size = 4 := by decide +kernel
theorem show_lst {z : Str} (hz : PyData.strOk z = true) (hl : z.length ≤ 200) : ShowOk (.list [.str z]) := by
  have e : z.cps.size ≤ 200 := hl
  refine ⟨rfl, by simp [PyData.depth, PyData.depthAll], Nat.le_trans (shown_le13 ?_ ?_) (by decide)⟩
  · show (_ && decide _ && decide _) = true
    rw [Bool.and_eq_true, Bool.and_eq_true]
    refine ⟨⟨?_, ?_⟩, ?_⟩
    · simp only [PyData.canLay0, PyData.canLayAll0, hz, body_ok, Bool.and_true]
    · simp [PyData.depth, PyData.depthAll]
    · refine decide_eq_true ?_
      simp only [PyData.weight, PyData.weightAll, body_size]
      have : (2 : Nat) ^ 20 = 1048576 := by decide
      omega
  · simp only [PyData.intsShort, PyData.intsShortAll, Bool.and_true]
theorem show_tup {z : Str} (hz : PyData.strOk z = true) (hl : z.length ≤ 200) : ShowOk (.tuple [.str z]) := by
  have e : z.cps.size ≤ 200 := hl
  refine ⟨rfl, by simp [PyData.depth, PyData.depthAll], Nat.le_trans (shown_le13 ?_ ?_) (by decide)⟩
  · show (_ && decide _ && decide _) = true
    rw [Bool.and_eq_true, Bool.and_eq_true]
    refine ⟨⟨?_, ?_⟩, ?_⟩
    · simp only [PyData.canLay0, PyData.canLayAll0, hz, body_ok, Bool.and_true]
    · simp [PyData.depth, PyData.depthAll]
    · refine decide_eq_true ?_
      simp only [PyData.weight, PyData.weightAll, body_size]
      have : (2 : Nat) ^ 20 = 1048576 := by decide
      omega
  · simp only [PyData.intsShort, PyData.intsShortAll, Bool.and_true]
theorem show_none : ShowOk .none := ⟨by decide +kernel, by decide +kernel, by decide +kernel⟩
theorem show_five : ShowOk (.int 5) := ⟨by decide +kernel, by decide +kernel, by decide +kernel⟩
theorem show_true : ShowOk (.bool true) := ⟨by decide +kernel, by decide +kernel, by decide +kernel⟩
theorem show_tup0 : ShowOk (.tuple []) := ⟨by decide +kernel, by decide +kernel, by decide +kernel⟩
theorem show_dict0 : ShowOk (.dict []) := ⟨by decide +kernel, by decide +kernel, by decide +kernel⟩
end M3
namespace K03
open PySem L2
abbrev P : Program := PySem.Challenge.pw_headerfold_k03_unfolding
local macro_rules | `(tactic| walk_at "g1") => `(tactic| first
  | ((with_reducible show tSeq _ _ _ _ _); refine g_seq ?_)
  | ((with_reducible show tAsg _ _ _ _ _); refine g_asg ?_)
  | ((with_reducible show gName _ _ _ _ _); refine g_name ?_)
  | ((with_reducible show tVar _ _ _ _); refine g_var rfl ?_)
  | ((with_reducible show tC _ _ _ _); refine g_c ?_)
  | ((with_reducible show tOp _ _ _ _ _ _); refine g_op ?_)
  | ((with_reducible show tUn _ _ _ _ _); refine g_un ?_)
  | ((with_reducible show rI0 _ _ _ _ _); refine g_I0 ?_)
  | ((with_reducible show rI _ _ _ _ _ _); refine g_I (by walk_at "side") ?_)
  | ((with_reducible show rU _ _ _ _); refine g_U ?_)
  | ((with_reducible show rEq _ _ _ _); refine g_eq rfl ?_)
  | ((with_reducible show rNe _ _ _ _); refine g_ne rfl ?_)
  | ((with_reducible show tCons _ _ _ _ _); refine g_tcons ?_)
  | ((with_reducible show tNil _ _ _); refine g_tnil ?_)
  | ((with_reducible show tCall _ _ _ _ _ _ _); refine g_call ?_)
  | ((with_reducible show tCB _ _ _ _ _); refine g_cb ?_)
  | ((with_reducible show tTup _ _ _ _); refine g_tup ?_)
  | ((with_reducible show tLst _ _ _ _); refine g_lst ?_)
  | ((with_reducible show tRet _ _ _ _); refine g_ret ?_)
  | ((with_reducible show tDrop _ _ _ _); refine g_drop ?_)
  | ((with_reducible show tNext _ _ _); refine g_next ?_)
  | ((with_reducible show tCont _ _ _); refine g_cont ?_)
  | ((with_reducible show tBreak _ _ _); refine g_break ?_)
  | ((with_reducible show tIfS _ _ _ _ _ _); refine g_ifs ?_)
  | ((with_reducible show tIf _ _ _ _ _ _); refine g_ife ?_)
  | ((with_reducible show tTest _ _ _ _); refine g_test ?_)
  | ((with_reducible show tB _ _ _ _); refine g_tb ?_)
  | ((with_reducible show tAnd _ _ _ _ _); refine g_and ?_)
  | ((with_reducible show tOr _ _ _ _ _); refine g_or ?_)
  | ((with_reducible show tNot _ _ _ _); refine g_not ?_)
  | ((with_reducible show tAndV _ _ _ _ _); refine g_andV ?_)
  | ((with_reducible show tOrV _ _ _ _ _); refine g_orV ?_)
  | ((with_reducible show tNotV _ _ _ _); refine g_notV ?_)
  | ((with_reducible show tChain _ _ _ _ _ _ _ _); refine g_chain ?_)
  | ((with_reducible show tDGet _ _ _ _ _); refine g_dget ?_)
  | ((with_reducible show sDPut _ _ _ _ _ _); refine g_dput ?_)
  | ((with_reducible show tFor _ _ _ _ _ _); refine g_for ?_)
  | ((with_reducible show tSl _ _ _ _ _ _ _); refine g_sl ?_)
  | ((with_reducible show tNoPart _ _ _); refine g_nop ?_)
  | ((with_reducible show tPart _ _ _ _); refine g_part ?_)
  | ((with_reducible show tM1 _ _ _ _ _ _); refine g_m1 ?_)
  | ((with_reducible show tM0 _ _ _ _ _); refine g_m0 ?_)
  | ((with_reducible show tBM _ _ _ _ _ _ _ _); refine g_bm ?_)
  | ((with_reducible show rMin1 _ _ _); refine g_min ?_)
  | ((with_reducible show rMax1 _ _ _); refine g_max ?_)
  | ((with_reducible show rOrd1 _ _ _); refine g_ord ?_)
  | ((with_reducible show rLtZ _ _ _ _); refine g_ltz ?_)
  | ((with_reducible show rIsN _ _ _ _); refine g_isn ?_)
  | ((with_reducible show rNotN _ _ _ _); refine g_notn ?_)
  | ((with_reducible show rInS _ _ _ _); refine g_inS ?_)
  | ((with_reducible show rNotInS _ _ _ _); refine g_notInS ?_)
  | ((with_reducible show iList _ _ _ _ _); refine g_ilist ?_)
  | ((with_reducible show iStr _ _ _ _); refine g_istr ?_)
  | ((with_reducible show iRng1 _ _ _ _); refine g_irng1 ?_)
  | ((with_reducible show tDisp _ _ _ _); refine g_disp ?_)
  | ((with_reducible show tPairs (_ :: _) _ _ _); refine g_pcons ?_)
  | ((with_reducible show tPairs [] _ _ _); refine g_pnil ?_)
  | ((with_reducible show rIsi _ [_, V.ty _] _ _); first | refine g_isint (by assumption) ?_ | refine g_isbl (by assumption) ?_ | refine g_isstr (by assumption) ?_)
  | ((with_reducible show rLeZ _ _ _ _); refine g_lez ?_)
  | ((with_reducible show tYes _ _ _); refine g_yes ?_)
  | ((with_reducible show tPar _ _ _ _ _ _); refine g_par ?_)
  | ((with_reducible show tDNewK _ _ _); refine g_dnew ?_)
  | ((with_reducible show gCons _ _ (_ :: _) _ _ _); refine g_gcons ?_)
  | ((with_reducible show gNil [] _ _ _); refine g_gnil ?_)
  | ((with_reducible show tLc _ _ _ _ _ _ _ _); refine g_lc ?_)
  | ((with_reducible show tKw0 _ _ _ _ _ _ _ _); refine g_kw0 ?_)
  | (with_reducible refine g_two ?_)
  | (with_reducible refine g_bl ?_)
  | (with_reducible refine g_int ?_)
  | (with_reducible refine iteF ?_)
  | (with_reducible refine iteT ?_)
  | (with_reducible refine g_isz ?_)
  | ((with_reducible show ∃ a v, V.ref _ = V.ref a ∧ DGet _ a _ (some v) ∧ _); refine g_dgets (by first | exact Dr.get_at (by assumption) | exact Dr.get_left (by assumption) | exact Dr.get_cells (by assumption) | exact Dr.get_used (by assumption)) ?_)
  | ((with_reducible show ∃ a H4, V.ref _ = V.ref a ∧ DPut _ a _ _ H4 ∧ _); refine g_dputs (by first | exact Dr.put_at (by assumption) | exact Dr.put_left (by assumption) | exact Dr.put_used (by assumption)) ?_)
  )
local macro_rules | `(tactic| walk_at "go") => `(tactic| repeat walk_at "g1")
local macro_rules | `(tactic| walk_at "side") => `(tactic| first
  | decide
  | omega
  | exact ⟨by decide, by decide⟩
  | exact ⟨by omega, by omega⟩
  | exact Or.inl ⟨by omega, by omega⟩
  | exact Or.inr ⟨by omega, by omega⟩
  | (show (0 : Int) < _; omega))
local macro_rules | `(tactic| walk_at "g1") => `(tactic| first
  | ((with_reducible show tRaiseE _ _ _ _ _ _ _); refine g_raise ?_)
  | ((with_reducible show tTryH _ _ _ _ _ _ _ _); refine g_tryH ?_)
  | ((with_reducible show tKw0S _ _ _ _ _ _ _ _); refine g_kw0S ?_)
  | ((with_reducible show iRng3 _ _ _ _); refine g_irng3 ?_)
  | ((with_reducible show tHeld _ _ _ _ _ _); refine g_held ?_)
  | ((with_reducible show tRevL _ _ _ _ _); refine g_revl ?_)
  | ((with_reducible show rStartZ _ _ _ _); refine g_startz ?_)
  | ((with_reducible show rCountZ _ _ _ _); refine g_countz ?_)
  )
def topS (i : Nat) : Stmt := PySem.Challenge.pw_headerfold_k03_unfolding.main.body.getD i (.Pass ⟨0, 0, 0, 0⟩)
abbrev s_consists_of : Stmt := topS 7
abbrev sN_consists_of : List Str := ["thing", "marks", "mark"]
theorem sc_consists_of : FnScope sN_consists_of ["thing", "marks"] (defScope s_consists_of) := ⟨rfl, rfl, rfl, by decide +kernel, rfl, by decide +kernel, by decide +kernel⟩
abbrev s_is_body : Stmt := topS 8
abbrev sN_is_body : List Str := ["thing"]
theorem sc_is_body : FnScope sN_is_body ["thing"] (defScope s_is_body) := ⟨rfl, rfl, rfl, by decide +kernel, rfl, by decide +kernel, by decide +kernel⟩
abbrev s_is_raw : Stmt := topS 9
abbrev sN_is_raw : List Str := ["thing"]
theorem sc_is_raw : FnScope sN_is_raw ["thing"] (defScope s_is_raw) := ⟨rfl, rfl, rfl, by decide +kernel, rfl, by decide +kernel, by decide +kernel⟩
abbrev s_unfolded : Stmt := topS 10
abbrev sN_unfolded : List Str := ["raw", "lines", "body", "defects", "line"]
theorem sc_unfolded : FnScope sN_unfolded ["raw"] (defScope s_unfolded) := ⟨rfl, rfl, rfl, by decide +kernel, rfl, by decide +kernel, by decide +kernel⟩
abbrev s__law_begin : Stmt := topS 12
abbrev sN__law_begin : List Str := ["script"]
theorem sc__law_begin : FnScope sN__law_begin ["script"] (defScope s__law_begin) := ⟨rfl, rfl, rfl, by decide +kernel, rfl, by decide +kernel, by decide +kernel⟩
abbrev s__law_mixed : Stmt := topS 13
abbrev sN__law_mixed : List Str := ["cell", "k", "mixed"]
theorem sc__law_mixed : FnScope sN__law_mixed ["cell", "k"] (defScope s__law_mixed) := ⟨rfl, rfl, rfl, by decide +kernel, rfl, by decide +kernel, by decide +kernel⟩
abbrev s__law_next : Stmt := topS 14
abbrev sN__law_next : List Str := ["draw", "bound", "found", "cells", "cell"]
theorem sc__law_next : FnScope sN__law_next ["draw", "bound"] (defScope s__law_next) := ⟨rfl, rfl, rfl, by decide +kernel, rfl, by decide +kernel, by decide +kernel⟩
abbrev s__law_raw : Stmt := topS 15
abbrev sN__law_raw : List Str := ["draw", "found", "k"]
theorem sc__law_raw : FnScope sN__law_raw ["draw"] (defScope s__law_raw) := ⟨rfl, rfl, rfl, by decide +kernel, rfl, by decide +kernel, by decide +kernel⟩
abbrev s__law_due : Stmt := topS 16
abbrev sN__law_due : List Str := ["what", "found", "places", "at", "sign", "place"]
theorem sc__law_due : FnScope sN__law_due ["what"] (defScope s__law_due) := ⟨rfl, rfl, rfl, by decide +kernel, rfl, by decide +kernel, by decide +kernel⟩
abbrev s__law_word : Stmt := topS 17
abbrev sN__law_word : List Str := ["what", "caught", "e"]
theorem sc__law_word : FnScope sN__law_word ["what"] (defScope s__law_word) := ⟨rfl, rfl, rfl, by decide +kernel, rfl, by decide +kernel, by decide +kernel⟩
abbrev s_law : Stmt := topS 18
abbrev sN_law : List Str := ["script", "draw", "turn", "what", "found", "odd"]
theorem sc_law : FnScope sN_law ["script"] (defScope s_law) := ⟨rfl, rfl, rfl, by decide +kernel, rfl, by decide +kernel, by decide +kernel⟩
def inCls (s : Stmt) (i : Nat) : Stmt := match s with
  | .ClassDef _ _ _ b _ _ _ _ _ _ _ => b.getD i (.Pass ⟨0, 0, 0, 0⟩)
  | _ => .Pass ⟨0, 0, 0, 0⟩
abbrev si_BadBody : Stmt := inCls (topS 4) 0
/-- what the top has written -/
structure Txt (K : PySem.W.Frag) (mg : Str → Option Value) where
  f_consists_of : Addr
  fd_consists_of : FuncData
  F_consists_of : Fun K "consists_of" "consists_of" s_consists_of f_consists_of fd_consists_of
  g_consists_of : mg "consists_of" = some (.ref f_consists_of)
  b_consists_of : Binds K fd_consists_of ["thing", "marks"] []
  f_is_body : Addr
  fd_is_body : FuncData
  F_is_body : Fun K "is_body" "is_body" s_is_body f_is_body fd_is_body
  g_is_body : mg "is_body" = some (.ref f_is_body)
  b_is_body : Binds K fd_is_body ["thing"] []
  f_is_raw : Addr
  fd_is_raw : FuncData
  F_is_raw : Fun K "is_raw" "is_raw" s_is_raw f_is_raw fd_is_raw
  g_is_raw : mg "is_raw" = some (.ref f_is_raw)
  b_is_raw : Binds K fd_is_raw ["thing"] []
  f_unfolded : Addr
  fd_unfolded : FuncData
  F_unfolded : Fun K "unfolded" "unfolded" s_unfolded f_unfolded fd_unfolded
  g_unfolded : mg "unfolded" = some (.ref f_unfolded)
  b_unfolded : Binds K fd_unfolded ["raw"] []
  f__law_begin : Addr
  fd__law_begin : FuncData
  F__law_begin : Fun K "_law_begin" "_law_begin" s__law_begin f__law_begin fd__law_begin
  g__law_begin : mg "_law_begin" = some (.ref f__law_begin)
  b__law_begin : Binds K fd__law_begin ["script"] []
  f__law_mixed : Addr
  fd__law_mixed : FuncData
  F__law_mixed : Fun K "_law_mixed" "_law_mixed" s__law_mixed f__law_mixed fd__law_mixed
  g__law_mixed : mg "_law_mixed" = some (.ref f__law_mixed)
  b__law_mixed : Binds K fd__law_mixed ["cell", "k"] []
  f__law_next : Addr
  fd__law_next : FuncData
  F__law_next : Fun K "_law_next" "_law_next" s__law_next f__law_next fd__law_next
  g__law_next : mg "_law_next" = some (.ref f__law_next)
  b__law_next : Binds K fd__law_next ["draw", "bound"] []
  f__law_raw : Addr
  fd__law_raw : FuncData
  F__law_raw : Fun K "_law_raw" "_law_raw" s__law_raw f__law_raw fd__law_raw
  g__law_raw : mg "_law_raw" = some (.ref f__law_raw)
  b__law_raw : Binds K fd__law_raw ["draw"] []
  f__law_due : Addr
  fd__law_due : FuncData
  F__law_due : Fun K "_law_due" "_law_due" s__law_due f__law_due fd__law_due
  g__law_due : mg "_law_due" = some (.ref f__law_due)
  b__law_due : Binds K fd__law_due ["what"] []
  f__law_word : Addr
  fd__law_word : FuncData
  F__law_word : Fun K "_law_word" "_law_word" s__law_word f__law_word fd__law_word
  g__law_word : mg "_law_word" = some (.ref f__law_word)
  b__law_word : Binds K fd__law_word ["what"] []
  f_law : Addr
  fd_law : FuncData
  F_law : Fun K "law" "law" s_law f_law fd_law
  g_law : mg "law" = some (.ref f_law)
  b_law : Binds K fd_law ["script"] []
  t_MARKS : Tok
  g_MARKS : mg "MARKS" = some (.str " !\"#$&'()*+,-./0123456789:;<=>?@ABCDEFGHIJKLMNOPQRSTUVWXYZ[\\]^_`abcdefghijklmnopqrstuvwxyz{|}~" t_MARKS)
  m_len : mg "len" = none
  m_range : mg "range" = none
  m_min : mg "min" = none
  m_isinstance : mg "isinstance" = none
  m_str : mg "str" = none
  m_repr : mg "repr" = none
  m_all : mg "all" = none
  m_tuple : mg "tuple" = none
  C_HeaderError : Addr
  g_HeaderError : mg "HeaderError" = some (.ref C_HeaderError)
  C_LetterError : Addr
  g_LetterError : mg "LetterError" = some (.ref C_LetterError)
  C_AbsentError : Addr
  g_AbsentError : mg "AbsentError" = some (.ref C_AbsentError)
  C_BadBody : Addr
  i_BadBody : Addr
  g_BadBody : mg "BadBody" = some (.ref C_BadBody)
  E_BadBody : XS.ErrC P K C_BadBody i_BadBody "given" "given"
  X_BadBody : XfC K C_BadBody
  N_BadBody : PySem.W.findIn K (.ref C_BadBody) "given" = some none
  I_BadBody : ExcC K C_BadBody
  M_BadBody : PySem.W.exmAny K (.ref C_BadBody) [.ref C_HeaderError, .ref C_LetterError, .ref C_AbsentError] = some true
  O_BadBody_BadBody : PySem.W.kitOne K (.ref C_BadBody) (.ref C_BadBody) = some true
section
variable {w : World} {K : PySem.W.Frag} {mg : Str → Option Value} {base : Heap}
theorem ok__law_mixed (T : Txt K mg) : FnOk P w K mg base CX0 1 T.f__law_mixed T.fd__law_mixed ["cell", "k"] (Dr.spMixed) := by
  refine T.F__law_mixed.ok sc__law_mixed (fun vs H Q E h => ?_) (fun cdv A outer s H vs Q E hr h => ?_)
  · obtain ⟨c, k, rfl, _⟩ := h
    rfl
  · obtain ⟨c, k, rfl, h0, h1, q⟩ := h
    have hu := hu_of hr
    refine ⟨_, (pss_cons (ps_set (i := 2) sc__law_mixed.nd rfl (Or.inl rfl) (pe_op op_mod (pe_op op_add (pe_op op_add (pe_op op_add (pe_op op_mod (pv 0) pe_int) (pe_op op_mul (pe_op op_mul pe_int (pv 1)) (pv 1))) (pe_op op_mul pe_int (pv 1))) pe_int) pe_int)) (pss_cons (ps_set (i := 2) sc__law_mixed.nd rfl (Or.inl rfl) (pe_op op_mod (pe_op op_mul (pe_op op_mod (pe_op op_mul (pv 2) (pv 2)) pe_int) (pv 2)) pe_int)) (pss_one (ps_ret (pe_op op_fdiv (pe_op op_mod (pe_op op_mul (pv 2) (pe_op op_add pe_int (pe_op op_mul pe_int (pe_op op_mod (pv 1) pe_int)))) pe_int) pe_int))))), ?_⟩
    walk_at "go"
    refine q _ ?_ ?_
    · omega
    · omega
theorem ok__law_next (T : Txt K mg) : FnOk P w K mg base CX0 2 T.f__law_next T.fd__law_next ["draw", "bound"] (Dr.spNext) := by
  refine T.F__law_next.ok sc__law_next (fun vs H Q E h => ?_) (fun cdv A outer s H vs Q E hr h => ?_)
  · obtain ⟨d, l, m, b, rfl, _⟩ := h
    rfl
  · obtain ⟨d, l, m, b, rfl, D, hm, hb0, hb1, q⟩ := h
    have hu := hu_of hr
    refine ⟨_, (pss_cons (ps_if (pt_cmpR op_gt (pe_dget hu (pv 0) pe_str (fun _ _ => rfl)) pe_int (nomark _)) (pss_cons (ps_set (i := 2) sc__law_next.nd rfl (Or.inl rfl) (pe_op op_mod (pe_dget hu (pv 0) pe_str (fun _ _ => rfl)) (pv 1))) (pss_cons (ps_dput hu (pv 0) pe_str (pe_op op_fdiv (pe_dget hu (pv 0) pe_str (fun _ _ => rfl)) (pv 1)) rfl) (pss_one (ps_ret (pv 2))))) pss_nil) (pss_cons (ps_set (i := 3) sc__law_next.nd rfl (Or.inl rfl) (pe_dget hu (pv 0) pe_str (fun _ _ => rfl))) (pss_cons (ps_set (i := 4) sc__law_next.nd rfl (Or.inl rfl) (pe_ix ix_list (pv 3) (pe_op op_mod (pe_dget hu (pv 0) pe_str (fun _ _ => rfl)) (pe_callB call_len1 (by rfl) T.m_len PySem.boot_len (pa_cons (pv 3) pa_nil))) (fun _ _ => rfl))) (pss_cons (ps_dput hu (pv 0) pe_str (pe_op op_add (pe_dget hu (pv 0) pe_str (fun _ _ => rfl)) pe_int) rfl) (pss_cons (ps_if (PW.pt (pw_and (pt_cmpR op_ge (pv 4) (pe_op op_pow pe_int pe_int) (nomark _)) (pw_and1 (pt_cmpR op_le (pe_dget hu (pv 0) pe_str (fun _ _ => rfl)) (pe_callB call_len1 (by rfl) T.m_len PySem.boot_len (pa_cons (pv 3) pa_nil)) (nomark _))))) (pss_cons (ps_dput hu (pv 0) pe_str (pe_op op_fdiv (pv 4) (pv 1)) rfl) (pss_one (ps_ret (pe_op op_mod (pv 4) (pv 1))))) pss_nil) (pss_cons (ps_dput hu (pv 0) pe_str (pe_op op_add (pe_dget hu (pv 0) pe_str (fun _ _ => rfl)) pe_int) rfl) (pss_one (ps_ret (pe_op op_mod (pe_call (ok__law_mixed T) (hr.mono (by decide)) (by rfl) T.g__law_mixed T.F__law_mixed.kp T.b__law_mixed .nil pass0 (pa_cons (pe_call (ok__law_mixed T) (hr.mono (by decide)) (by rfl) T.g__law_mixed T.F__law_mixed.kp T.b__law_mixed .nil pass0 (pa_cons (pv 4) (pa_cons (pe_dget hu (pv 0) pe_str (fun _ _ => rfl)) pa_nil))) (pa_cons (pe_dget hu (pv 0) pe_str (fun _ _ => rfl)) pa_nil))) (pv 1)))))))))), ?_⟩
    obtain ⟨ns, a, lf, u, h1, h2, h3, h4, h5, h6, h7, h8, h9⟩ := id D
    have nld : l ≠ d := ne_of h2 h1 (by intro z; cases z)
    have hS : ∀ o, SqL K (upd H d o) l (ns.map V.int) := fun o => SqL.of (by rw [upd_ne nld]; exact h2)
    have hS2 : ∀ o o2, (upd (upd H d o) d o2) l = some (.lst (ns.map V.int)) := fun o o2 => by rw [upd_ne nld, upd_ne nld]; exact h2
    have hN : ∀ o p, H p = none → (upd H d o) p = none := fun o p e => by rw [upd_ne (fun z => by rw [z, h1] at e; cases e)]; exact e
    have hN2 : ∀ o o2 p, H p = none → (upd (upd H d o) d o2) p = none := fun o o2 p e => by rw [upd_ne (fun z => by rw [z, h1] at e; cases e)]; exact hN o p e
    have hl : 0 < (ns.length : Int) := by omega
    walk_at "go"
    refine g_ifd (fun hc => ?_) (fun hc => ?_)
    · walk_at "go"
      refine q _ _ (Int.emod_nonneg _ (by omega)) (Int.emod_lt_of_pos _ hb0) ?_ Dr.Kp.at (hN _)
      exact ⟨ns, a, _, u, upd_same, by rw [upd_ne nld]; exact h2, h3, h4, h5, by omega, Int.ediv_nonneg h7 (by omega), h8, by omega⟩
    · walk_at "go"
      refine g_len (SqL.of h2) ?_
      have hb := Dr.modB (x := a) (n := ((ns.map V.int).length : Int)) (by rw [List.length_map]; exact hl)
      refine g_I (show (0 : Int) < _ by rw [List.length_map]; exact hl) ?_
      obtain ⟨c, ec⟩ := atI_int (ns := ns) hb.1 (by rw [← List.length_map (f := V.int)]; exact hb.2)
      refine g_ixl (SqL.of h2) ec ?_
      have k1 : (upd H d (.dK (Dr.dkv l (a + 1) lf u))) d = some (.dK (Dr.dkv l (a + 1) lf u)) := upd_same
      walk_at "go"
      refine g_ifd (fun hd => ?_) (fun hd => ?_)
      · walk_at "go"
        refine g_len (hS _) ?_
        walk_at "go"
        refine g_ifd (fun he => ?_) (fun he => ?_)
        · walk_at "go"
          refine q _ _ (Int.emod_nonneg _ (by omega)) (Int.emod_lt_of_pos _ hb0) ?_ (Dr.Kp.at.trans Dr.Kp.at) (hN2 _ _)
          have hc0 : 0 ≤ c := Int.le_trans (by decide) hd
          exact ⟨ns, a + 1, _, u, upd_same, hS2 _ _, h3, h4, by omega, by omega, Int.ediv_nonneg hc0 (by omega), h8, by omega⟩
        · walk_at "go"
          have k2 : (upd (upd H d (.dK (Dr.dkv l (a + 1) lf u))) d (.dK (Dr.dkv l (a + 1) lf (u + 1)))) d = some (.dK (Dr.dkv l (a + 1) lf (u + 1))) := upd_same
          walk_at "go"
          refine ⟨c, a + 1, rfl, by omega, by omega, fun r1 r2 r3 => ?_⟩
          walk_at "go"
          refine ⟨r1, u + 1, rfl, by omega, by omega, fun r4 r5 r6 => ?_⟩
          walk_at "go"
          refine q _ _ (Int.emod_nonneg _ (by omega)) (Int.emod_lt_of_pos _ hb0) ?_ (Dr.Kp.at.trans Dr.Kp.at) (hN2 _ _)
          exact ⟨ns, a + 1, lf, u + 1, upd_same, hS2 _ _, h3, h4, by omega, by omega, h7, by omega, by omega⟩
      · walk_at "go"
        have k2 : (upd (upd H d (.dK (Dr.dkv l (a + 1) lf u))) d (.dK (Dr.dkv l (a + 1) lf (u + 1)))) d = some (.dK (Dr.dkv l (a + 1) lf (u + 1))) := upd_same
        walk_at "go"
        refine ⟨c, a + 1, rfl, by omega, by omega, fun r1 r2 r3 => ?_⟩
        walk_at "go"
        refine ⟨r1, u + 1, rfl, by omega, by omega, fun r4 r5 r6 => ?_⟩
        walk_at "go"
        refine q _ _ (Int.emod_nonneg _ (by omega)) (Int.emod_lt_of_pos _ hb0) ?_ (Dr.Kp.at.trans Dr.Kp.at) (hN2 _ _)
        exact ⟨ns, a + 1, lf, u + 1, upd_same, hS2 _ _, h3, h4, by omega, by omega, h7, by omega, by omega⟩
theorem ok__law_begin (T : Txt K mg) : FnOk P w K mg base CX0 1 T.f__law_begin T.fd__law_begin ["script"] (Dr.spBegin K) := by
  refine T.F__law_begin.ok sc__law_begin (fun vs H Q E h => ?_) (fun cdv A outer s H vs Q E hr h => ?_)
  · obtain ⟨a, ns, rfl, _⟩ := h
    rfl
  · obtain ⟨a, ns, rfl, hS, hl, q⟩ := h
    have hu := hu_of hr
    refine ⟨_, (pss_one (ps_ret (pe_disp (pps_cons pe_str (pe_op op_catS (pv 0) (pe_lst (pa_cons pe_int pa_nil))) (pps_cons pe_str pe_int (pps_cons pe_str pe_int (pps_cons pe_str pe_int pps_nil)))) (by rfl) (by rfl) (fun z => by cases z) (by decide)))), ?_⟩
    walk_at "go"
    intro d hd
    walk_at "go"
    refine ⟨by show 1 ≤ sizeLine; decide, fun z hz => ?_⟩
    have ndz : d ≠ z := fun e => by rw [← e, upd_same] at hz; cases hz
    have s1 : Same H (upd H d (.dK [])) := same_new hd
    have s2 := s1.trans (same_new (o := .lst [V.int 0]) hz)
    refine g_cats (s2.seq hS) (SqL.of upd_same) (by rw [List.length_map]; show _ + 1 ≤ sizeLine; exact Nat.le_trans (Nat.add_le_add_right hl 1) (by decide)) fun l hl2 => ?_
    have ndl : d ≠ l := fun e => by rw [← e, upd_ne ndz, upd_same] at hl2; cases hl2
    have s3 := s2.trans (same_new (o := .lst (ns.map V.int ++ [V.int 0])) hl2)
    walk_at "go"
    refine ⟨by rw [upd_ne ndl, upd_ne ndz, upd_same], [((Sum.inr ("cells" : Str) : Key), V.ref l), (Sum.inr ("at" : Str), .int 0), (Sum.inr ("left" : Str), .int 0), (Sum.inr ("used" : Str), .int 0)], rfl, by show 4 ≤ 15; decide, ?_⟩
    rw [Dr.mrg]
    refine q d l _ hd (s2.free hl2) ⟨ns ++ [0], 0, 0, 0, upd_same, ?_, ?_, ?_, by decide, by decide, by decide, by decide, by decide⟩ (s3.mut hd)
    · rw [upd_ne ndl.symm, upd_same, List.map_append]
      rfl
    · rw [List.length_append]
      exact Nat.lt_of_lt_of_le (by decide : 0 < 1) (Nat.le_add_left _ _)
    · rw [List.length_append]
      exact Nat.add_le_add_right hl 1
end
section
variable {w : World} {K : PySem.W.Frag} {mg : Str → Option Value} {base : Heap}
/-- what unfolding leaves: the body and the defects, as objects -/
def Res (H : Hp) (p : Addr) (z : Str) : Prop := ∃ (t : Addr) (b : Str) (ps : List Addr), H p = some (.tup [.str b, .ref t]) ∧ b.cps.toList = M3.fold z.cps.toList ∧ H t = some (.tup (ps.map V.ref)) ∧ Paired (fun q (n : Nat) => H q = some (.tup [.int (n : Int), .str "line"])) ps (M3.dues 0 z.cps.toList)
def spUnf (C : Addr) : Sp := fun vs H Q E => ∃ x, vs = [x] ∧ AnyO H x ∧
  (Mk.isRaw x = false → ∀ H1 d, Same H H1 → H1 d = none → E (.ref C) (some d) (upd H1 d (.xd [("given", x)]))) ∧
  (∀ z, x = .str z → Mk.isRaw x = true → ∀ H' p, Same H H' → Res H' p z → Q (.ref p) H')
def NL : Str := "\n"
theorem pair_snoc {α β : Type} {R : α → β → Prop} : ∀ {xs : List α} {ys : List β} {x : α} {y : β}, Paired R xs ys → R x y → Paired R (xs ++ [x]) (ys ++ [y])
  | _, _, _, _, .nil, h => .cons h .nil
  | _, _, _, _, .cons a b, h => .cons a (pair_snoc b h)
theorem pair_imp {α β : Type} {R S : α → β → Prop} : ∀ {xs : List α} {ys : List β}, Paired R xs ys → (∀ x y, R x y → S x y) → Paired S xs ys
  | _, _, .nil, _ => .nil
  | _, _, .cons a b, h => .cons (h _ _ a) (pair_imp b h)
theorem ok_consists_of (T : Txt K mg) : FnOk P w K mg base CX0 1 T.f_consists_of T.fd_consists_of ["thing", "marks"] (Mk.spCons) := by
  refine T.F_consists_of.ok sc_consists_of (fun vs H Q E h => ?_) (fun cdv A outer s H vs Q E hr h => ?_)
  · obtain ⟨x, m, rfl, _⟩ := h
    rfl
  · obtain ⟨x, m, rfl, a, q⟩ := h
    have hu := hu_of hr
    refine ⟨_, (pss_one (ps_ret (pe_and (pe_callB call_isi (by rfl) T.m_isinstance (by decide +kernel) (pa_cons (pv 0) (pa_cons (pe_ty (n := "str") (by rfl) T.m_str (by decide +kernel)) pa_nil))) (pe_one (pe_callB (cr_all (by rfl)) (by rfl) T.m_all (by decide +kernel) (pa_cons (pe_lc (own := [("mark", 2)]) (g := gName 2) (tt := tYes) (by rfl) sc_consists_of.nd (pi_str (pv 0)) (blkOk_by (own := [("mark", 2)]) (N := sN_consists_of) (sc := defScope s_consists_of) (by decide +kernel)) (fun _ _ _ _ _ => (pg_name (i := 2) sc_consists_of.nd rfl (Or.inl rfl))) (fun _ _ _ _ _ => pts_nil) (fun _ _ _ _ _ => (pe_cmpR op_inS (pv 2) (pv 1) (by rfl)))) pa_nil)))))), ?_⟩
    walk_at "go"
    refine g_if (fun c1 => ?_) (fun c1 => ?_)
    · obtain ⟨z, rfl⟩ := Mk.str_of c1
      walk_at "go"
      refine ⟨z, rfl, fun D hD => lc_str (fun _ => true) (fun c => V.bl (decide (c ∈ m.cps.toList))) (Nat.le_trans (Mk.str_len a) (by decide)) (fun c acc Nx hc k1 k2 => ?_) ?_⟩
      · walk_at "go"
        refine ⟨rfl, ?_⟩
        walk_at "go"
        exact k1 rfl _ upd_same rfl
      · walk_at "go"
        refine g_all (bs := z.cps.toList.map fun c => decide (c ∈ m.cps.toList)) (SqL.of ?_) ?_
        · rw [upd_same, List.filter_eq_self.mpr (fun _ _ => rfl), List.map_map]
          rfl
        · have e : (z.cps.toList.map fun c => decide (c ∈ m.cps.toList)).all id = Mk.consists (.str z) m := by
            rw [List.all_map]
            rfl
          rw [e]
          exact q _ (same_new hD)
    · rw [Mk.cons_no c1] at q
      exact q H (Same.refl H)
theorem ok_is_body (T : Txt K mg) : FnOk P w K mg base CX0 2 T.f_is_body T.fd_is_body ["thing"] (Mk.spTest Mk.isBody) := by
  refine T.F_is_body.ok sc_is_body (fun vs H Q E h => ?_) (fun cdv A outer s H vs Q E hr h => ?_)
  · obtain ⟨x, rfl, _⟩ := h
    rfl
  · obtain ⟨x, rfl, a, q⟩ := h
    have hu := hu_of hr
    refine ⟨_, (pss_one (ps_ret (pe_call (ok_consists_of T) (hr.mono (by decide)) (by rfl) T.g_consists_of T.F_consists_of.kp T.b_consists_of .nil pass0 (pa_cons (pv 0) (pa_cons (pe_gs (by rfl) T.g_MARKS) pa_nil))))), ?_⟩
    walk_at "go"
    exact ⟨x, _, rfl, a, q⟩
theorem ok_is_raw (T : Txt K mg) : FnOk P w K mg base CX0 2 T.f_is_raw T.fd_is_raw ["thing"] (Mk.spTest Mk.isRaw) := by
  refine T.F_is_raw.ok sc_is_raw (fun vs H Q E h => ?_) (fun cdv A outer s H vs Q E hr h => ?_)
  · obtain ⟨x, rfl, _⟩ := h
    rfl
  · obtain ⟨x, rfl, a, q⟩ := h
    have hu := hu_of hr
    refine ⟨_, (pss_one (ps_ret (pe_call (ok_consists_of T) (hr.mono (by decide)) (by rfl) T.g_consists_of T.F_consists_of.kp T.b_consists_of .nil pass0 (pa_cons (pv 0) (pa_cons (pe_op op_addZ (pe_gs (by rfl) T.g_MARKS) pe_str) pa_nil))))), ?_⟩
    walk_at "go"
    refine g_addz (by decide +kernel) ?_
    walk_at "go"
    exact ⟨x, _, rfl, a, q⟩
theorem ok_unfolded (T : Txt K mg) : FnOk P w K mg base (L2.CX P w) 3 T.f_unfolded T.fd_unfolded ["raw"] (spUnf T.C_BadBody) := by
  refine T.F_unfolded.okX sc_unfolded (fun vs H Q E h => ?_) (fun cdv A outer s H vs Q E hr h => ?_)
  · obtain ⟨x, rfl, _⟩ := h
    rfl
  · obtain ⟨x, rfl, a, kE, kQ⟩ := h
    have hu := hu_of hr
    refine ⟨_, (pss_cons (ps_if (pt_not (pt_val (pe_call (ok_is_raw T) (hr.mono (by decide)) (by rfl) T.g_is_raw T.F_is_raw.kp T.b_is_raw .nil pass0 (pa_cons (pv 0) pa_nil)))) (pss_one (ps_raiseE (by rfl) (takes_of rfl rfl rfl rfl) T.E_BadBody (hr.mono (by decide)) (by rfl) T.g_BadBody (pv 0))) pss_nil) (pss_cons (ps_set (i := 1) sc_unfolded.nd rfl (Or.inl rfl) (pe_splitZ (pv 0) pe_str)) (pss_cons (ps_set (i := 2) sc_unfolded.nd rfl (Or.inl rfl) (pe_ix ix_list (pv 1) pe_int (fun _ _ => rfl))) (pss_cons (ps_set (i := 3) sc_unfolded.nd rfl (Or.inl rfl) (pe_lst pa_nil)) (pss_cons (ps_for (passes_of rfl) (by rfl) (pi_list (pe_slice sl_list (pv 1) (po_some pe_int) po_none)) (pg_name (i := 4) sc_unfolded.nd rfl (Or.inl rfl)) (pss_cons (ps_if (pt_not (pt_val (pe_m1 PySem.F.slot_str_startswith PySem.F.type_str_startswith mt_startZ (pv 4) pe_str))) (pss_cons (ps_expr (pe_bm PySem.F.plainAttrs_list PySem.F.slot_list_append PySem.F.type_list_append mt_append (pv 3) (pa_cons (pe_tup (pa_cons (pe_callB call_lenZ (by rfl) T.m_len PySem.boot_len (pa_cons (pv 2) pa_nil)) (pa_cons pe_str pa_nil))) pa_nil))) (pss_one (ps_set (i := 2) sc_unfolded.nd rfl (Or.inl rfl) (pe_op op_addZ (pv 2) pe_str)))) pss_nil) (pss_one (ps_set (i := 2) sc_unfolded.nd rfl (Or.inl rfl) (pe_op op_addZ (pv 2) (pv 4)))))) (pss_one (ps_ret (pe_tup (pa_cons (pv 2) (pa_cons (pe_callTy call_tupOf (by rfl) T.m_tuple (by decide +kernel) (pa_cons (pv 3) pa_nil)) pa_nil)))))))))), ?_⟩
    walk_at "go"
    refine ⟨x, rfl, a, fun H1 s1 => ?_⟩
    walk_at "go"
    cases hraw : Mk.isRaw x with
    | false =>
      refine iteT ?_
      walk_at "go"
      exact fun d hd => kE hraw H1 d s1 hd
    | true =>
      obtain ⟨z, rfl⟩ : ∃ z, x = .str z := by
        cases x with
        | str z => exact ⟨z, rfl⟩
        | _ => cases hraw
      have zl := Mk.str_len a
      obtain ⟨y, r, hsp, hz, hy, hrn⟩ := M3.lines_of z
      have enl : ("\n" : Str) = ⟨#[10]⟩ := by decide +kernel
      have zl2 : (y.cps.toList ++ M3.tl (r.map fun z => z.cps.toList)).length ≤ 10000 := by rw [← hz, Array.length_toList]; exact zl
      have hrn' : ∀ l ∈ r.map fun z => z.cps.toList, 10 ∉ l := fun l hl => by
        obtain ⟨u, hu, rfl⟩ := List.mem_map.mp hl
        exact hrn u hu
      refine iteF ?_
      walk_at "go"
      refine g_splitz (by decide +kernel) (Nat.le_trans (Nat.add_le_add_right zl 2) (by decide)) fun p hp => ?_
      rw [enl, hsp]
      have s2 : Same H1 (upd H1 p (.lst ((y :: r).map V.str))) := same_new hp
      walk_at "go"
      refine g_ixl (v := .str y) (SqL.of upd_same) (atI_nat (j := 0) rfl) ?_
      walk_at "go"
      refine ⟨Nat.zero_le _, fun q hq => ?_⟩
      walk_at "go"
      have npq : p ≠ q := fun e => by rw [← e, upd_same] at hq; cases hq
      have s3 := s2.trans (same_new (o := .lst []) hq)
      refine g_sll (xs := (y :: r).map V.str) (SqL.of (by rw [upd_ne npq, upd_same])) fun l hl => ?_
      have nql : q ≠ l := fun e => by rw [← e, upd_same] at hl; cases hl
      have s4 := s3.trans (same_new (o := .lst (cutV ((y :: r).map V.str) (some 1) none)) hl)
      have ecut : cutV ((y :: r).map V.str) (some 1) none = r.map V.str := cut1 _ _
      have q0 : H q = none := (s1.trans s2).free hq
      have hlq : (upd (upd (upd H1 p (.lst ((y :: r).map V.str))) q (.lst [])) l (.lst (cutV ((y :: r).map V.str) (some 1) none))) q = some (.lst []) := by rw [upd_ne nql, upd_same]
      generalize hG : (upd (upd (upd H1 p (.lst ((y :: r).map V.str))) q (.lst [])) l (.lst (cutV ((y :: r).map V.str) (some 1) none))) = G at s4 hlq ⊢
      have hGl : G l = some (.lst (r.map V.str)) := by rw [← hG, upd_same, ecut]
      refine ⟨l, rfl, ⟨_, SqL.of hGl⟩, for_list (K := K) (a := l) (xs := r.map V.str) (fun i σ H5 => ∃ (b : Str) (yv : Option V) (ps : List Addr), σ = [some (.str z), some (.ref p), some (.str b), some (.ref q), yv] ∧ Same H H5 ∧ H5 l = some (.lst (r.map V.str)) ∧ H5 q = some (.lst (ps.map V.ref)) ∧
        b.cps.toList = (((r.map fun z => z.cps.toList).take i).foldl M3.step (y.cps.toList, [])).1 ∧ Paired (fun u (n : Nat) => H5 u = some (.tup [.int (n : Int), .str "line"])) ps (((r.map fun z => z.cps.toList).take i).foldl M3.step (y.cps.toList, [])).2)
        ⟨y, none, [], rfl, s1.trans s4, hGl, hlq, rfl, .nil⟩ (fun i σ H5 _ ⟨_, _, _, _, _, h, _⟩ => SqL.of h) ?_ ?_⟩
      · rintro i v σ H5 hi ⟨b, yv, ps, rfl, s5, h5l, h5q, hb, hps⟩
        obtain ⟨li, hli, rfl⟩ : ∃ li, r[i]? = some li ∧ v = .str li := by
          rw [List.getElem?_map] at hi
          cases e : r[i]? with
          | none => rw [e] at hi; cases hi
          | some u => rw [e] at hi; exact ⟨u, rfl, (Option.some.inj hi).symm⟩
        have hli' : (r.map fun z => z.cps.toList)[i]? = some li.cps.toList := by rw [List.getElem?_map, hli]; rfl
        have bd := M3.take_bound (y := y.cps.toList) hrn' i
        rw [M3.step_more hli']
        have bl : b.length ≤ 10000 := by rw [len_list, hb]; exact Nat.le_trans bd.1 zl2
        have ll : li.length ≤ 10000 := by
          rw [len_list]
          have := M3.tl_mem (List.mem_of_getElem? hli')
          rw [List.length_append] at zl2
          omega
        have pl : ps.length ≤ 10000 := by rw [hps.length]; exact Nat.le_trans bd.2 zl2
        walk_at "go"
        rw [show (" " : Str) = ⟨#[32]⟩ from by decide +kernel, M3.starts]
        cases hg : M3.gap li.cps.toList with
        | true =>
          have es : ∀ w, M3.step w li.cps.toList = (w.1 ++ li.cps.toList, w.2) := fun w => if_pos hg
          refine iteF ?_
          walk_at "go"
          refine g_addz (Nat.le_trans (Nat.add_le_add bl ll) (by decide)) ?_
          walk_at "go"
          refine ⟨_, _, ps, rfl, s5, h5l, h5q, ?_, ?_⟩
          · rw [es, ap_list, hb]
          · rw [es]
            exact hps
        | false =>
          have es : ∀ w, M3.step w li.cps.toList = (w.1 ++ 32 :: li.cps.toList, w.2 ++ [w.1.length]) := fun w => if_neg (by rw [hg]; exact Bool.false_ne_true)
          refine iteT ?_
          walk_at "go"
          refine ⟨ty_list h5q, ?_⟩
          walk_at "go"
          refine g_lenz (Nat.le_trans bl (by decide)) ?_
          walk_at "go"
          refine ⟨by show 2 ≤ sizeLine; decide, fun u hu2 => ?_⟩
          have nqu : q ≠ u := ne_of_none h5q hu2
          have nlu : l ≠ u := ne_of_none h5l hu2
          walk_at "go"
          refine g_append (xs := ps.map V.ref) ((upd_ne nqu).trans h5q) (by rw [List.length_map]; exact Nat.lt_of_le_of_lt pl (by decide)) ?_
          walk_at "go"
          refine g_addz (Nat.le_trans (Nat.add_le_add_right bl _) (by decide +kernel)) ?_
          walk_at "go"
          refine g_addz (Nat.le_trans (Nat.add_le_add (Nat.le_trans (Nat.le_of_eq len_app) (Nat.add_le_add_right bl _)) ll) (by decide +kernel)) ?_
          walk_at "go"
          refine ⟨_, _, ps ++ [u], rfl, (s5.trans (same_new hu2)).mut q0, ?_, ?_, ?_, ?_⟩
          · rw [upd_ne nql.symm, upd_ne nlu]
            exact h5l
          · rw [upd_same, List.map_append]
            rfl
          · rw [es, ap_list, ap_list, hb, List.append_assoc]
            rfl
          · rw [es]
            refine pair_snoc (pair_imp hps fun u2 n h2 => ?_) ?_
            · rw [upd_ne (ne_of h2 h5q (by intro z; cases z)), upd_ne (ne_of_none h2 hu2)]
              exact h2
            · rw [upd_ne nqu.symm, upd_same, ← hb, ← len_list]
      · rintro σ H5 ⟨b, yv, ps, rfl, s5, h5l, h5q, hb, hps⟩
        rw [List.length_map, ← List.length_map (f := fun z : Str => z.cps.toList), List.take_length, M3.unf _ _ hy hrn', ← hz] at hb hps
        walk_at "go"
        refine g_tupOf (SqL.of h5q) fun t ht => ?_
        walk_at "go"
        refine ⟨by show 2 ≤ sizeLine; decide, fun p2 hp2 => ?_⟩
        have ntp : t ≠ p2 := fun e => by rw [← e, upd_same] at hp2; cases hp2
        refine kQ z rfl hraw _ p2 ((s5.trans (same_new ht)).trans (same_new hp2)) ⟨t, b, ps, upd_same, hb, ?_, pair_imp hps fun u n h2 => ?_⟩
        · rw [upd_ne ntp, upd_same]
        · rw [upd_ne (fun e => by rw [← e, upd_ne (ne_of_none h2 ht), h2] at hp2; cases hp2), upd_ne (ne_of_none h2 ht)]
          exact h2
end
section
variable {w : World} {K : PySem.W.Frag} {mg : Str → Option Value} {base : Heap}
theorem pair_map {α β γ : Type} {R : α → γ → Prop} {g : β → γ} : ∀ {xs : List α} {ys : List β}, Paired R xs (ys.map g) → Paired (fun x y => R x (g y)) xs ys
  | _, [], .nil => .nil
  | _, _ :: _, .cons a b => .cons a (pair_map b)
def strRaw : V → Bool
  | .str s => decide (s.length ≤ 4) && PyData.strOk s && Mk.isRaw (.str s)
  | _ => false
theorem strRaw_of {v : V} (h : strRaw v = true) : ∃ s, v = .str s ∧ s.length ≤ 4 ∧ PyData.strOk s = true ∧ Mk.isRaw (.str s) = true := by
  cases v with
  | str s =>
    have h' : (decide (s.length ≤ 4) && PyData.strOk s && Mk.isRaw (.str s)) = true := h
    rw [Bool.and_eq_true, Bool.and_eq_true] at h'
    exact ⟨s, rfl, of_decide_eq_true h'.1.1, h'.1.2, h'.2⟩
  | _ => cases h
theorem raw_app {a b : Str} (ha : Mk.isRaw (.str a) = true) (hb : Mk.isRaw (.str b) = true) : Mk.isRaw (.str (a ++ b)) = true := by
  show (a ++ b).cps.toList.all _ = true
  rw [ap_list, List.all_append, Bool.and_eq_true]
  exact ⟨ha, hb⟩
def spRaw : Sp := fun vs H Q _ => ∃ (d l : Addr) (m : Nat), vs = [.ref d] ∧ Dr.Draw H d l m ∧ m < 800000 ∧ ∀ (z : Str) (H' : Hp), z.length ≤ 120 → PyData.strOk z = true → Mk.isRaw (.str z) = true → Dr.Draw H' d l (m + 31) → Dr.Kp d H H' → Q (.str z) H'
def spDue : Sp := fun vs H Q _ => ∃ (z : Str), vs = [.str z] ∧ z.length ≤ 10000 ∧ ∀ H' p, Same H H' → Res H' p z → Q (.ref p) H'
theorem ok__law_raw (T : Txt K mg) : FnOk P w K mg base CX0 4 T.f__law_raw T.fd__law_raw ["draw"] (spRaw) := by
  refine T.F__law_raw.ok sc__law_raw (fun vs H Q E h => ?_) (fun cdv A outer s H vs Q E hr h => ?_)
  · obtain ⟨d, l, m, rfl, _⟩ := h
    rfl
  · obtain ⟨d, l, m, rfl, D, hm, q⟩ := h
    have hu := hu_of hr
    refine ⟨_, (pss_cons (ps_set (i := 1) sc__law_raw.nd rfl (Or.inl rfl) pe_str) (pss_cons (ps_for PassesOwn.never (by rfl) (pi_range1 (by rfl) T.m_range (pa_cons (pe_call (ok__law_next T) (hr.mono (by decide)) (by rfl) T.g__law_next T.F__law_next.kp T.b__law_next .nil pass0 (pa_cons (pv 0) (pa_cons pe_int pa_nil))) pa_nil)) (pg_name (i := 2) sc__law_raw.nd rfl (Or.inl rfl)) (pss_one (ps_set (i := 1) sc__law_raw.nd rfl (Or.inl rfl) (pe_op op_addZ (pv 1) (pe_ix ix_list (pe_lst (pa_cons pe_str (pa_cons pe_str (pa_cons pe_str (pa_cons pe_str (pa_cons pe_str (pa_cons pe_str (pa_cons pe_str (pa_cons pe_str (pa_cons pe_str pa_nil)))))))))) (pe_call (ok__law_next T) (hr.mono (by decide)) (by rfl) T.g__law_next T.F__law_next.kp T.b__law_next .nil pass0 (pa_cons (pv 0) (pa_cons pe_int pa_nil))) (fun _ _ => rfl)))))) (pss_one (ps_ret (pv 1))))), ?_⟩
    walk_at "go"
    refine ⟨d, l, m, 31, rfl, D, by omega, by decide, by decide, fun r H2 r0 r1 D2 K2 N2 => ?_⟩
    walk_at "go"
    refine ⟨r, rfl, by omega, by omega, for_range (lo := 0) (n := r.toNat) (fun i σ H3 => ∃ (z : Str) (y2 : Option V), σ = [some (.ref d), some (.str z), y2] ∧ z.length ≤ 4 * i ∧ PyData.strOk z = true ∧ Mk.isRaw (.str z) = true ∧ Dr.Draw H3 d l (m + 1 + i) ∧ Dr.Kp d H H3) ?_ ?_ ?_⟩
    · exact ⟨_, _, rfl, by decide, by decide +kernel, by decide +kernel, D2, K2⟩
    · rintro i σ H3 hi ⟨z, y2, rfl, lz, oz, rz, D3, K3⟩
      walk_at "go"
      refine ⟨by show 9 ≤ sizeLine; decide, fun p hp => ?_⟩
      walk_at "go"
      refine ⟨d, l, _, 9, rfl, D3.upd hp, by omega, by decide, by decide, fun r' H4 r0' r1' D4 K4 N4 => ?_⟩
      refine g_pick strRaw (K4 p _ (D3.ne hp) upd_same) r0' (by show r' < 9; exact r1') (by decide +kernel) fun v hv => ?_
      obtain ⟨u, rfl, lu, ou, ru⟩ := strRaw_of hv
      walk_at "go"
      refine g_addz (Nat.le_trans (by omega : z.length + u.length ≤ 130) (by decide)) ?_
      walk_at "go"
      exact ⟨_, _, rfl, by rw [len_app]; omega, sok_app oz ou, raw_app rz ru, D4, (K3.trans (Dr.Kp.new hp)).trans K4⟩
    · rintro σ H3 ⟨z, y2, rfl, lz, oz, rz, D3, K3⟩
      walk_at "go"
      exact q z H3 (by omega) oz rz (D3.mono (by omega)) K3
theorem ok__law_due (T : Txt K mg) : FnOk P w K mg base CX0 1 T.f__law_due T.fd__law_due ["what"] (spDue) := by
  refine T.F__law_due.ok sc__law_due (fun vs H Q E h => ?_) (fun cdv A outer s H vs Q E hr h => ?_)
  · obtain ⟨z, rfl, _⟩ := h
    rfl
  · obtain ⟨z, rfl, zl, kQ⟩ := h
    have hu := hu_of hr
    refine ⟨_, (pss_cons (ps_asg (pe_tup (pa_cons pe_str (pa_cons (pe_lst pa_nil) pa_nil))) (pg_tup (by rfl) (pgs_cons (pg_name (i := 1) sc__law_due.nd rfl (Or.inr rfl)) (pgs_cons (pg_name (i := 2) sc__law_due.nd rfl (Or.inl rfl)) pgs_nil)))) (pss_cons (ps_for PassesOwn.never (by rfl) (pi_range3 (by rfl) T.m_range (pa_cons (pe_op op_sub (pe_callB call_lenZ (by rfl) T.m_len PySem.boot_len (pa_cons (pv 0) pa_nil)) pe_int) (pa_cons (pe_op op_sub pe_int pe_int) (pa_cons (pe_op op_sub pe_int pe_int) pa_nil)))) (pg_name (i := 3) sc__law_due.nd rfl (Or.inl rfl)) (pss_cons (ps_set (i := 4) sc__law_due.nd rfl (Or.inl rfl) (pe_ix ix_str (pv 0) (pv 3) (fun _ _ => rfl))) (pss_one (ps_if (pt_cmpR op_ne (pv 4) pe_str (nomark _)) (pss_one (ps_set (i := 1) sc__law_due.nd rfl (Or.inr rfl) (pe_op op_addZ (pv 4) (pv 1)))) (pss_one (ps_if (PW.pt (pw_or (pt_cmpR op_eq (pe_op op_add (pv 3) pe_int) (pe_callB call_lenZ (by rfl) T.m_len PySem.boot_len (pa_cons (pv 0) pa_nil)) (nomark _)) (pw_or1 (pt_cmpR op_ne (pe_ix ix_str (pv 0) (pe_op op_add (pv 3) pe_int) (fun _ _ => rfl)) pe_str (nomark _))))) (pss_cons (ps_set (i := 1) sc__law_due.nd rfl (Or.inr rfl) (pe_op op_addZ pe_str (pv 1))) (pss_one (ps_expr (pe_bm PySem.F.plainAttrs_list PySem.F.slot_list_append PySem.F.type_list_append mt_append (pv 2) (pa_cons (pe_callB call_lenZ (by rfl) T.m_len PySem.boot_len (pa_cons (pv 1) pa_nil)) pa_nil))))) pss_nil)))))) (pss_one (ps_ret (pe_tup (pa_cons (pv 1) (pa_cons (pe_callTy call_tupOf (by rfl) T.m_tuple (by decide +kernel) (pa_cons (pe_lc (own := [("place", 5)]) (g := gName 5) (tt := tYes) (by rfl) sc__law_due.nd (pi_list (pe_revL (pv 2))) (blkOk_by (own := [("place", 5)]) (N := sN__law_due) (sc := defScope s__law_due) (by decide +kernel)) (fun _ _ _ _ _ => (pg_name (i := 5) sc__law_due.nd rfl (Or.inl rfl))) (fun _ _ _ _ _ => pts_nil) (fun _ _ _ _ _ => (pe_tup (pa_cons (pe_op op_sub (pe_callB call_lenZ (by rfl) T.m_len PySem.boot_len (pa_cons (pv 1) pa_nil)) (pv 5)) (pa_cons pe_str pa_nil))))) pa_nil)) pa_nil))))))), ?_⟩
    walk_at "go"
    refine ⟨Nat.zero_le _, fun q hq => ?_⟩
    walk_at "go"
    refine ⟨by show 2 ≤ sizeLine; decide, fun p0 hp0 => ?_⟩
    refine g_gtup (SqT.of upd_same) rfl ?_
    walk_at "go"
    refine g_lenz (Nat.le_trans zl (by decide)) ?_
    walk_at "go"
    have nq0 : q ≠ p0 := fun e => by rw [← e, upd_same] at hp0; cases hp0
    have ll : z.cps.toList.length = z.length := by rw [Array.length_toList]; rfl
    refine ⟨_, _, -1, z.length, rfl, ?_, for_rangeC (fun i σ H5 => ∃ (f : Str) (y3 y4 y5 : Option V), σ = [some (.str z), some (.str f), some (.ref q), y3, y4, y5] ∧ Same H H5 ∧ f.cps.toList = M3.fold (z.cps.toList.drop (z.length - i)) ∧ H5 q = some (.lst ((M3.plc (z.cps.toList.drop (z.length - i))).reverse.map fun (n : Nat) => V.int (n : Int)))) ?_ ?_ ?_⟩
    · have := RgC.neg (i := (z.length : Int) - 1) (j := 0 - 1) (by omega) (by omega) (by omega) (by omega)
      rw [show ((z.length : Int) - 1 - (0 - 1)).toNat = z.length by omega] at this
      exact this
    · have e0 : z.cps.toList.drop (z.length - 0) = [] := List.drop_eq_nil_iff.mpr (by omega)
      refine ⟨_, _, _, _, rfl, (same_new hq).trans (same_new hp0), ?_, ?_⟩
      · rw [e0]
        rfl
      · rw [e0, upd_ne nq0, upd_same]
        rfl
    · rintro i σ H5 hi ⟨f, y3, y4, y5, rfl, s5, hf, h5q⟩
      obtain ⟨k, hk⟩ : ∃ k : Nat, k = z.length - (i + 1) := ⟨_, rfl⟩
      have hk1 : z.length - i = k + 1 := by omega
      have hkl : k < z.cps.toList.length := by omega
      have ek : (z.length : Int) - 1 + (i : Int) * (-1) = (k : Int) := by omega
      rw [hk1] at hf h5q
      rw [← hk, ek]
      have ed : z.cps.toList.drop k = z.cps.toList[k] :: z.cps.toList.drop (k + 1) := List.drop_eq_getElem_cons hkl
      have fl : f.length ≤ 10000 := by
        have := M3.fold_len (z.cps.toList.drop (k + 1))
        rw [← hf, List.length_drop, ll] at this
        rw [len_list]
        omega
      have pl : (M3.plc (z.cps.toList.drop (k + 1))).length ≤ 10000 := by
        have := M3.plc_len (z.cps.toList.drop (k + 1))
        rw [List.length_drop, ll] at this
        omega
      have q0 : H q = none := hq
      walk_at "go"
      refine g_ixz (c := z.cps.toList[k]) (Nat.le_trans zl (by decide)) (atI_nat (List.getElem?_eq_getElem hkl)) ?_
      walk_at "go"
      generalize hc : z.cps.toList[k] = c at ed ⊢
      have hnl : (V.str (⟨#[c]⟩ : Str) = V.str ("\n" : Str)) ↔ c = 10 := by
        rw [show ("\n" : Str) = ⟨#[10]⟩ from by decide +kernel]
        constructor
        · intro h; cases h; rfl
        · intro h; rw [h]
      refine g_ifn (fun h1 => ?_) (fun h1 => ?_)
      · have hc1 : c ≠ 10 := fun e => h1 (hnl.mpr e)
        walk_at "go"
        refine g_addz (Nat.le_trans (Nat.add_le_add (show (⟨#[c]⟩ : Str).length ≤ 1 from Nat.le_refl 1) fl) (by decide)) ?_
        walk_at "go"
        refine ⟨_, _, _, _, rfl, s5, ?_, ?_⟩
        · rw [ed, M3.fold_cons, if_neg hc1, ap_list, hf]
          rfl
        · rw [ed, M3.plc_cons, if_neg hc1]
          exact h5q
      · have hc1 : c = 10 := hnl.mp h1
        walk_at "go"
        refine g_lenz (Nat.le_trans zl (by decide)) ?_
        walk_at "go"
        by_cases he : (k : Int) + 1 = (z.length : Int)
        · have hgap : M3.gap (z.cps.toList.drop (k + 1)) = false := by
            rw [List.drop_eq_nil_iff.mpr (by omega)]
            rfl
          rw [decide_eq_true (congrArg V.int he)]
          refine iteT ?_
          refine iteT ?_
          walk_at "go"
          refine g_addz (Nat.le_trans (Nat.add_le_add (show (" " : Str).length ≤ 1 by decide +kernel) fl) (by decide)) ?_
          walk_at "go"
          refine ⟨ty_list h5q, ?_⟩
          walk_at "go"
          have lf : ((" " : Str) ++ f).length = f.length + 1 := by
            rw [len_app, show (" " : Str).length = 1 by decide +kernel]
            omega
          refine g_lenz (by rw [lf]; exact Nat.le_trans (Nat.add_le_add_right fl 1) (by decide)) ?_
          walk_at "go"
          refine g_append h5q (by rw [List.length_map, List.length_reverse]; exact Nat.lt_of_le_of_lt pl (by decide)) ?_
          walk_at "go"
          refine ⟨_, _, _, _, rfl, s5.mut q0, ?_, ?_⟩
          · rw [ed, M3.fold_cons, if_pos hc1, if_neg (by rw [hgap]; exact Bool.false_ne_true), ap_list, hf]
            rfl
          · rw [ed, M3.plc_cons, if_pos hc1, if_neg (by rw [hgap]; exact Bool.false_ne_true), upd_same, List.reverse_cons, List.map_append, lf, len_list, hf]
            rfl
        · rw [decide_eq_false (fun e => he (V.int.inj e))]
          refine iteF ?_
          have hk2 : k + 1 < z.cps.toList.length := by omega
          have ed2 : z.cps.toList.drop (k + 1) = z.cps.toList[k + 1] :: z.cps.toList.drop (k + 1 + 1) := List.drop_eq_getElem_cons hk2
          walk_at "go"
          refine g_ixz (c := z.cps.toList[k + 1]) (Nat.le_trans zl (by decide)) (by rw [show (k : Int) + 1 = ((k + 1 : Nat) : Int) by omega]; exact atI_nat (List.getElem?_eq_getElem hk2)) ?_
          walk_at "go"
          have hsp2 : (V.str (⟨#[z.cps.toList[k + 1]]⟩ : Str) = V.str (" " : Str)) ↔ z.cps.toList[k + 1] = 32 := by
            rw [show (" " : Str) = ⟨#[32]⟩ from by decide +kernel]
            constructor
            · intro h
              injection h with h
              injection h with h
              injection h with h
              injection h
            · intro h; rw [h]
          refine g_ifn (fun h2 => ?_) (fun h2 => ?_)
          · have hgap : M3.gap (z.cps.toList.drop (k + 1)) = false := by
              rw [ed2]
              exact beq_eq_false_iff_ne.mpr fun e => h2 (hsp2.mpr (Option.some.inj e))
            walk_at "go"
            refine g_addz (Nat.le_trans (Nat.add_le_add (show (" " : Str).length ≤ 1 by decide +kernel) fl) (by decide)) ?_
            walk_at "go"
            refine ⟨ty_list h5q, ?_⟩
            walk_at "go"
            have lf : ((" " : Str) ++ f).length = f.length + 1 := by
              rw [len_app, show (" " : Str).length = 1 by decide +kernel]
              omega
            refine g_lenz (by rw [lf]; exact Nat.le_trans (Nat.add_le_add_right fl 1) (by decide)) ?_
            walk_at "go"
            refine g_append h5q (by rw [List.length_map, List.length_reverse]; exact Nat.lt_of_le_of_lt pl (by decide)) ?_
            walk_at "go"
            refine ⟨_, _, _, _, rfl, s5.mut q0, ?_, ?_⟩
            · rw [ed, M3.fold_cons, if_pos hc1, if_neg (by rw [hgap]; exact Bool.false_ne_true), ap_list, hf]
              rfl
            · rw [ed, M3.plc_cons, if_pos hc1, if_neg (by rw [hgap]; exact Bool.false_ne_true), upd_same, List.reverse_cons, List.map_append, lf, len_list, hf]
              rfl
          · have hgap : M3.gap (z.cps.toList.drop (k + 1)) = true := by
              rw [ed2]
              exact beq_iff_eq.mpr (congrArg some (hsp2.mp h2))
            walk_at "go"
            refine ⟨_, _, _, _, rfl, s5, ?_, ?_⟩
            · rw [ed, M3.fold_cons, if_pos hc1, if_pos hgap, hf]
            · rw [ed, M3.plc_cons, if_pos hc1, if_pos hgap]
              exact h5q
    · rintro σ H5 ⟨f, y3, y4, y5, rfl, s5, hf, h5q⟩
      rw [Nat.sub_self, List.drop_zero] at hf h5q
      walk_at "go"
      refine ⟨q, _, rfl, SqL.of h5q, fun p1 hp1 => ?_⟩
      rw [← List.map_reverse, List.reverse_reverse]
      have s6 := s5.trans (same_new (o := .lst ((M3.plc z.cps.toList).map fun (n : Nat) => V.int (n : Int))) hp1)
      have fl : f.length ≤ 10000 := by
        have := M3.fold_len z.cps.toList
        rw [← hf, ll] at this
        rw [len_list]
        omega
      refine ⟨p1, rfl, ⟨_, SqL.of upd_same⟩, fun D hD => ?_⟩
      have n1D : p1 ≠ D := fun e => by rw [← e, upd_same] at hD; cases hD
      have D0 : H D = none := s6.free hD
      refine lc_list (K := K) (a := p1) (xs := (M3.plc z.cps.toList).map fun (n : Nat) => V.int (n : Int)) (fun i H7 => ∃ ps : List Addr, H7 D = some (.lst (ps.map V.ref)) ∧ H7 p1 = some (.lst ((M3.plc z.cps.toList).map fun (n : Nat) => V.int (n : Int))) ∧ Same H H7 ∧ ps.length ≤ i ∧
        Paired (fun u (n : Int) => H7 u = some (.tup [.int n, .str "line"])) ps (((M3.plc z.cps.toList).take i).map fun (p : Nat) => (f.length : Int) - (p : Int))) ⟨[], upd_same, by rw [upd_ne n1D, upd_same], s6.mut D0, Nat.le_refl _, .nil⟩ (fun i H7 _ ⟨_, _, h, _⟩ => SqL.of h) ?_ ?_
      · rintro i v H7 hi ⟨ps, h7D, h7p, s7, lps, hps⟩
        obtain ⟨n, hn, rfl⟩ : ∃ n, (M3.plc z.cps.toList)[i]? = some n ∧ v = .int (n : Int) := by
          rw [List.getElem?_map] at hi
          cases e : (M3.plc z.cps.toList)[i]? with
          | none => rw [e] at hi; cases hi
          | some u => rw [e] at hi; exact ⟨u, rfl, (Option.some.inj hi).symm⟩
        have il : i < (M3.plc z.cps.toList).length := (List.getElem?_eq_some_iff.mp hn).1
        have := M3.plc_len z.cps.toList
        walk_at "go"
        refine ⟨rfl, ?_⟩
        walk_at "go"
        refine g_lenz (Nat.le_trans fl (by decide)) ?_
        walk_at "go"
        refine ⟨by show 2 ≤ sizeLine; decide, fun u hu2 => ?_⟩
        have nDu : D ≠ u := ne_of_none h7D hu2
        have npu : p1 ≠ u := ne_of_none h7p hu2
        refine ⟨ps.map V.ref, by rw [upd_ne nDu]; exact h7D, by rw [List.length_map]; exact Nat.lt_of_le_of_lt (show ps.length ≤ 10000 by omega) (by decide), ps ++ [u], ?_, ?_, (s7.trans (same_new hu2)).mut D0, ?_, ?_⟩
        · rw [upd_same, List.map_append]
          rfl
        · rw [upd_ne n1D, upd_ne npu]
          exact h7p
        · rw [List.length_append]
          exact Nat.add_le_add_right lps 1
        · rw [List.take_add_one, hn, List.map_append]
          refine pair_snoc (pair_imp hps fun u2 n2 h2 => ?_) ?_
          · rw [upd_ne (ne_of h2 h7D (by intro z; cases z)), upd_ne (ne_of_none h2 hu2)]
            exact h2
          · rw [upd_ne nDu.symm, upd_same]
      · rintro H7 ⟨ps, h7D, h7p, s7, lps, hps⟩
        walk_at "go"
        refine g_tupOf (SqL.of h7D) fun t ht => ?_
        walk_at "go"
        refine ⟨by show 2 ≤ sizeLine; decide, fun p2 hp2 => ?_⟩
        have ntp : t ≠ p2 := fun e => by rw [← e, upd_same] at hp2; cases hp2
        have hd := M3.dues_plc z.cps.toList 0
        rw [Nat.zero_add, ← hf, ← len_list] at hd
        rw [List.length_map, List.take_length, ← hd] at hps
        refine kQ _ p2 ((s7.trans (same_new ht)).trans (same_new hp2)) ⟨t, f, ps, upd_same, hf, by rw [upd_ne ntp, upd_same], pair_imp (pair_map hps) fun u n h2 => ?_⟩
        rw [upd_ne (fun e => by rw [← e, upd_ne (ne_of_none h2 ht), h2] at hp2; cases hp2), upd_ne (ne_of_none h2 ht)]
        exact h2
end
section
variable {w : World} {K : PySem.W.Frag} {mg : Str → Option Value} {base : Heap}
theorem kw_unfolded_raw (T : Txt K mg) : KwB K T.fd_unfolded ["raw"] ["raw"] [0] := T.F_unfolded.kwb (ps := ["raw"]) (ks := ["raw"]) rfl fun _ _ _ _ _ _ us hl => match us, hl with | [_], _ => rfl
def spWord : Sp := fun vs H Q _ => ∃ (x : V), vs = [x] ∧ AnyO H x ∧ Mk.isRaw x = false ∧ ∀ H' p, Same H H' → H' p = some (.lst [.str "body", x]) → Q (.ref p) H'
theorem ok__law_word (T : Txt K mg) : FnOk P w K mg base CX0 4 T.f__law_word T.fd__law_word ["what"] (spWord) := by
  refine T.F__law_word.ok sc__law_word (fun vs H Q E h => ?_) (fun cdv A outer s H vs Q E hr h => ?_)
  · obtain ⟨x, rfl, _⟩ := h
    rfl
  · obtain ⟨x, rfl, a, hraw, q⟩ := h
    have hu := hu_of hr
    refine ⟨_, (pss_cons (ps_set (i := 1) sc__law_word.nd rfl (Or.inl rfl) pe_non) (pss_cons (ps_tryH (i := 2) rfl rfl sc__law_word.nd rfl rfl (tells_three ⟨by rfl, by decide, Or.inl T.g_HeaderError⟩ ⟨by rfl, by decide, Or.inl T.g_LetterError⟩ ⟨by rfl, by decide, Or.inl T.g_AbsentError⟩) takes0 (fun W pn xe tk _ => (pss_one (ps_expr (pe_kw0S (ok_unfolded T) (hr.mono (by decide)) (by rfl) T.g_unfolded T.F_unfolded.kp (kw_unfolded_raw T) (fun σ => passAt tk σ) (pk_cons (pv 0) pk_nil))))) (fun a pn => (pss_one (ps_set (i := 1) sc__law_word.nd rfl (Or.inl rfl) (pv 2))))) (pss_cons (ps_if (pt_cmpR op_isN1 (pv 1) pe_non (nomark _)) (pss_one (ps_ret (pe_lst (pa_cons pe_str pa_nil)))) pss_nil) (pss_one (ps_ret (pe_ifExp (pt_val (pe_callB call_isH (by rfl) T.m_isinstance (by decide +kernel) (pa_cons (pv 1) (pa_cons (pe_gc (by rfl) T.g_BadBody) pa_nil)))) (pe_lst (pa_cons pe_str (pa_cons (pe_held (pv 1)) pa_nil))) (pe_lst (pa_cons pe_str pa_nil)))))))), ?_⟩
    walk_at "go"
    refine ⟨rfl, x, rfl, a, fun _ H1 d s1 hd => g_we (g_heldY T.M_BadBody fun a1 ha1 => ?_), fun z e hr2 => absurd (hraw.symm.trans hr2) (by decide)⟩
    have nda : d ≠ a1 := fun e => by rw [← e, upd_same] at ha1; cases ha1
    have ea : (upd (upd H1 d (.xd [(("given" : Str), x)])) a1 (held a1 (.ref T.C_BadBody) (some d))) a1 = some (held a1 (.ref T.C_BadBody) (some d)) := upd_same
    have ed : (upd (upd H1 d (.xd [(("given" : Str), x)])) a1 (held a1 (.ref T.C_BadBody) (some d))) d = some (.xd [(("given" : Str), x)]) := by rw [upd_ne nda, upd_same]
    have s2 : Same H (upd (upd H1 d (.xd [(("given" : Str), x)])) a1 (held a1 (.ref T.C_BadBody) (some d))) := (s1.trans (same_new hd)).trans (same_new ha1)
    generalize upd (upd H1 d (.xd [(("given" : Str), x)])) a1 (held a1 (.ref T.C_BadBody) (some d)) = G at ea ed s2 ⊢
    walk_at "go"
    refine g_ifd (fun h => nomatch h) (fun _ => ?_)
    walk_at "go"
    refine g_isH ea ed T.I_BadBody T.O_BadBody_BadBody ?_
    walk_at "go"
    refine ⟨a1, _, d, _, x, rfl, ea, ed, by simp [List.lookup], T.X_BadBody, T.N_BadBody, ?_⟩
    walk_at "go"
    refine ⟨by show 2 ≤ sizeLine; decide, fun p hp => ?_⟩
    exact q _ p (s2.trans (same_new hp)) upd_same
end
section
variable {w : World} {K : PySem.W.Frag} {mg : Str → Option Value} {base : Heap}
theorem str_ext {a b : Str} (h : a.cps.toList = b.cps.toList) : a = b := by
  cases a
  cases b
  exact congrArg Str.mk (Array.toList_inj.mp h)
theorem ok_body {z b : Str} (oz : PyData.strOk z = true) (e : b.cps.toList = M3.fold z.cps.toList) : PyData.strOk b = true := by
  rw [sok_iff] at oz ⊢
  intro c hc
  rw [e] at hc
  rcases M3.fold_sub _ c hc with h | h
  · omega
  · exact oz c h.1
theorem body_of {z b : Str} (rz : Mk.isRaw (.str z) = true) (e : b.cps.toList = M3.fold z.cps.toList) : Mk.isBody (.str b) = true := by
  have rz' : (z.cps.toList.all fun c => decide (c ∈ (Mk.MARKS ++ ("\n" : Str)).cps.toList)) = true := rz
  show (b.cps.toList.all fun c => decide (c ∈ Mk.MARKS.cps.toList)) = true
  rw [List.all_eq_true] at rz' ⊢
  intro c hc
  rw [e] at hc
  refine decide_eq_true ?_
  rcases M3.fold_sub _ c hc with h | h
  · rw [h]
    decide +kernel
  · have := of_decide_eq_true (rz' c h.1)
    rw [ap_list] at this
    rcases List.mem_append.mp this with m | m
    · exact m
    · rw [show ("\n" : Str).cps.toList = [10] by decide +kernel] at m
      exact absurd (List.mem_singleton.mp m) h.2
theorem raw_of {b : Str} (h : Mk.isBody (.str b) = true) : Mk.isRaw (.str b) = true := by
  have h' : (b.cps.toList.all fun c => decide (c ∈ Mk.MARKS.cps.toList)) = true := h
  show (b.cps.toList.all fun c => decide (c ∈ (Mk.MARKS ++ ("\n" : Str)).cps.toList)) = true
  rw [List.all_eq_true] at h' ⊢
  intro c hc
  refine decide_eq_true ?_
  rw [ap_list]
  exact List.mem_append_left _ (of_decide_eq_true (h' c hc))
def spLaw (K : PySem.W.Frag) : Sp := fun vs H Q _ => ∃ (a : Addr) (ns : List Int), vs = [.ref a] ∧ SqL K H a (ns.map V.int) ∧ ns.length ≤ 63 ∧ ∀ H', Q (.bl true) H'
theorem ok_law (T : Txt K mg) : FnG P w K mg base CX0 6 T.f_law T.fd_law ["script"] (spLaw K) := by
  refine T.F_law.okG sc_law (fun vs H Q E h => ?_) (fun cdv A hG outer s H vs Q E hr h => ?_)
  · obtain ⟨a, ns, rfl, _⟩ := h
    rfl
  · obtain ⟨a, ns, rfl, hS, hl, q⟩ := h
    have hu := hu_of hr
    refine ⟨_, (pss_cons (ps_set (i := 1) sc_law.nd rfl (Or.inl rfl) (pe_call (ok__law_begin T) (hr.mono (by decide)) (by rfl) T.g__law_begin T.F__law_begin.kp T.b__law_begin .nil pass0 (pa_cons (pv 0) pa_nil))) (pss_cons (ps_for PassesOwn.never (by rfl) (pi_range1 (by rfl) T.m_range (pa_cons (pe_callB (call_min1 (by rfl)) (by rfl) T.m_min (by decide +kernel) (pa_cons pe_int (pa_cons (pe_op op_add pe_int (pe_callB call_len1 (by rfl) T.m_len PySem.boot_len (pa_cons (pv 0) pa_nil))) pa_nil))) pa_nil)) (pg_name (i := 2) sc_law.nd rfl (Or.inl rfl)) (pss_cons (ps_set (i := 3) sc_law.nd rfl (Or.inl rfl) (pe_call (ok__law_raw T) (hr.mono (by decide)) (by rfl) T.g__law_raw T.F__law_raw.kp T.b__law_raw .nil pass0 (pa_cons (pv 1) pa_nil))) (pss_cons (ps_set (i := 4) sc_law.nd rfl (Or.inl rfl) (pe_call (ok_unfolded T) (hr.mono (by decide)) (by rfl) T.g_unfolded T.F_unfolded.kp T.b_unfolded .nil passL (pa_cons (pv 3) pa_nil))) (pss_cons (ps_if (PW.pt (pw_or (pt_cmpR op_ne (pe_callB (call_repr hG hr.units) (by rfl) T.m_repr (by decide +kernel) (pa_cons (pv 4) pa_nil)) (pe_callB (call_repr hG hr.units) (by rfl) T.m_repr (by decide +kernel) (pa_cons (pe_call (ok__law_due T) (hr.mono (by decide)) (by rfl) T.g__law_due T.F__law_due.kp T.b__law_due .nil pass0 (pa_cons (pv 3) pa_nil)) pa_nil)) (nomark _)) (pw_or (pt_not (pt_val (pe_call (ok_is_body T) (hr.mono (by decide)) (by rfl) T.g_is_body T.F_is_body.kp T.b_is_body .nil pass0 (pa_cons (pe_ix ix_tup (pv 4) pe_int (fun _ _ => rfl)) pa_nil)))) (pw_or1 (pt_cmpR (op_neD hr.units) (pe_call (ok_unfolded T) (hr.mono (by decide)) (by rfl) T.g_unfolded T.F_unfolded.kp T.b_unfolded .nil passL (pa_cons (pe_ix ix_tup (pv 4) pe_int (fun _ _ => rfl)) pa_nil)) (pe_tup (pa_cons (pe_ix ix_tup (pv 4) pe_int (fun _ _ => rfl)) (pa_cons (pe_tup pa_nil) pa_nil))) (nomark _)))))) (pss_one (ps_ret pe_bl)) pss_nil) (pss_cons (ps_if (PW.pt (pw_or (pt_cmpR op_ne (pe_op op_add (pe_callB call_lenZ (by rfl) T.m_len PySem.boot_len (pa_cons (pe_ix ix_tup (pv 4) pe_int (fun _ _ => rfl)) pa_nil)) (pe_m1 PySem.F.slot_str_count PySem.F.type_str_count mt_countZ (pv 3) pe_str)) (pe_callB call_lenZ (by rfl) T.m_len PySem.boot_len (pa_cons (pv 3) pa_nil)) (nomark _)) (pw_or1 (pt_cmpR (op_neD hr.units) (pe_kw0 (ok_unfolded T) (hr.mono (by decide)) (by rfl) T.g_unfolded T.F_unfolded.kp (kw_unfolded_raw T) passL (pk_cons (pv 3) pk_nil)) (pv 4) (nomark _))))) (pss_one (ps_ret pe_bl)) pss_nil) (pss_cons (ps_set (i := 5) sc_law.nd rfl (Or.inl rfl) (pe_ix ix_list (pe_lst (pa_cons pe_non (pa_cons pe_int (pa_cons pe_bl (pa_cons (pe_tup pa_nil) (pa_cons (pe_lst (pa_cons (pv 3) pa_nil)) (pa_cons (pe_tup (pa_cons (pv 3) pa_nil)) (pa_cons pe_dnewK pa_nil)))))))) (pe_call (ok__law_next T) (hr.mono (by decide)) (by rfl) T.g__law_next T.F__law_next.kp T.b__law_next .nil pass0 (pa_cons (pv 1) (pa_cons pe_int pa_nil))) (fun _ _ => rfl))) (pss_one (ps_if (pt_cmpR op_ne (pe_callB (call_reprQ hG hr.units) (by rfl) T.m_repr (by decide +kernel) (pa_cons (pe_call (ok__law_word T) (hr.mono (by decide)) (by rfl) T.g__law_word T.F__law_word.kp T.b__law_word .nil pass0 (pa_cons (pv 5) pa_nil)) pa_nil)) (pe_callB (call_reprQ hG hr.units) (by rfl) T.m_repr (by decide +kernel) (pa_cons (pe_lst (pa_cons pe_str (pa_cons (pv 5) pa_nil))) pa_nil)) (nomark _)) (pss_one (ps_ret pe_bl)) pss_nil)))))))) (pss_one (ps_ret pe_bl)))), ?_⟩
    walk_at "go"
    refine ⟨a, ns, rfl, hS, hl, fun d l H1 hd hl0 D1 s1 => ?_⟩
    walk_at "go"
    refine g_len (Same.seq s1 hS) ?_
    walk_at "go"
    have hj : ∀ j : Int, j = (if (6 : Int) + ((ns.map V.int).length : Int) < 24 then (6 : Int) + ((ns.map V.int).length : Int) else 24) → 0 ≤ j ∧ j ≤ 24 := by
      intro j hj
      subst hj
      split <;> omega
    generalize (if (6 : Int) + ((ns.map V.int).length : Int) < 24 then (6 : Int) + ((ns.map V.int).length : Int) else 24) = j at hj ⊢
    obtain ⟨j0, j1⟩ := hj j rfl
    refine ⟨j, rfl, by omega, by omega, for_range (fun i σ H3 => (∃ y1 y2 y3 y4, σ = [some (.ref a), some (.ref d), y1, y2, y3, y4]) ∧ Dr.Draw H3 d l (40 * i)) ⟨⟨none, none, none, none, rfl⟩, D1⟩ ?_ ?_⟩
    · rintro i σ H3 hi ⟨⟨y1, y2, y3, y4, rfl⟩, D3⟩
      walk_at "go"
      refine ⟨d, l, _, rfl, D3, by omega, fun z H4 lz oz rz D4 K4 => ?_⟩
      have az : ∀ H, AnyO H (.str z) := fun H => .str z (by omega) oz
      have ll : z.cps.toList.length = z.length := by rw [Array.length_toList]; rfl
      walk_at "go"
      refine ⟨.str z, rfl, az _, fun h => absurd (rz.symm.trans h) (by decide), fun z0 ez _ H5 p s5 R5 => ?_⟩
      cases ez
      obtain ⟨t, b, ps, e1, eb, e2, hps⟩ := R5
      have bl : b.length ≤ 200 := by
        have := M3.fold_len z.cps.toList
        rw [len_list, eb]
        omega
      have nl : (M3.dues 0 z.cps.toList).length ≤ 200 := by
        have := M3.dues_len z.cps.toList 0
        omega
      have nb : ∀ n ∈ M3.dues 0 z.cps.toList, n ≤ 200 := fun n hn => by
        have := M3.dues_le z.cps.toList 0 n hn
        omega
      have ob : PyData.strOk b = true := ok_body oz eb
      have ib : Mk.isBody (.str b) = true := body_of rz eb
      obtain ⟨f1, f2, f3, f4⟩ := M3.res_facts ob bl nl nb
      walk_at "go"
      refine g_repr (dp_res e1 e2 hps) f1 f2 f3 f4 ?_
      walk_at "go"
      refine ⟨z, rfl, by omega, fun H6 p6 s6 R6 => ?_⟩
      obtain ⟨t6, b6, ps6, e61, eb6, e62, hps6⟩ := R6
      have ebb : b6 = b := str_ext (eb6.trans eb.symm)
      subst ebb
      walk_at "go"
      refine g_repr (dp_res e61 e62 hps6) f1 f2 f3 f4 ?_
      walk_at "go"
      refine g_ifn (fun h => absurd rfl h) (fun _ => ?_)
      walk_at "go"
      refine g_ixt (v := .str b6) (SqT.of (s6 _ _ e1)) (atI_nat (j := 0) rfl) ?_
      have ab : ∀ H, AnyO H (.str b6) := fun H => .str b6 (by omega) ob
      have n10 : 10 ∉ b6.cps.toList := by rw [eb6]; exact M3.fold_no10 _
      walk_at "go"
      refine ⟨.str b6, rfl, ab _, fun H7 s7 => ?_⟩
      rw [ib]
      walk_at "go"
      refine iteF ?_
      walk_at "go"
      refine g_ixt (v := .str b6) (SqT.of (s7 _ _ (s6 _ _ e1))) (atI_nat (j := 0) rfl) ?_
      walk_at "go"
      refine ⟨.str b6, rfl, ab _, fun h => absurd ((raw_of ib).symm.trans h) (by decide), fun z0 ez _ H8 p8 s8 R8 => ?_⟩
      cases ez
      obtain ⟨t8, b8, ps8, e81, eb8, e82, hps8⟩ := R8
      rw [M3.fold_none n10] at eb8
      rw [M3.dues_none n10] at hps8
      have ebb8 : b8 = b6 := str_ext eb8
      subst ebb8
      cases hps8
      have S8 := (s6.trans s7).trans s8
      walk_at "go"
      refine g_ixt (v := .str b8) (SqT.of (S8 _ _ e1)) (atI_nat (j := 0) rfl) ?_
      walk_at "go"
      refine ⟨Nat.zero_le _, fun p9 h9 => ?_⟩
      walk_at "go"
      refine ⟨by show 2 ≤ sizeLine; decide, fun p10 h10 => ?_⟩
      have n910 : p9 ≠ p10 := fun e => by rw [← e, upd_same] at h10; cases h10
      have s9 := (same_new (o := .tup []) h9).trans (same_new (o := .tup [.str b8, .ref p9]) h10)
      refine g_ned (d := M3.dRes b8 []) (e := M3.dRes b8 []) (dp_res (ps := []) (s9 _ _ e81) (s9 _ _ e82) .nil) (dp_res (ps := []) upd_same (by rw [upd_ne n910, upd_same]; rfl) .nil) (M3.res_shaped ob _) (M3.res_shaped ob _) ?_
      rw [M3.res_eqv]
      refine g_bl ?_
      refine iteF ?_
      have S9 := S8.trans s9
      walk_at "go"
      refine g_ixt (v := .str b8) (SqT.of (S9 _ _ e1)) (atI_nat (j := 0) rfl) ?_
      walk_at "go"
      refine g_lenz (Nat.le_trans bl (by decide)) ?_
      walk_at "go"
      refine g_lenz (Nat.le_trans lz (by decide)) ?_
      walk_at "go"
      have ec : ((b8.length : Int) + Txt.count z ("\n " : Str)) = (z.length : Int) := by
        rw [show ("\n " : Str) = ⟨#[10, 32]⟩ from by decide +kernel, M3.count2]
        have := M3.fold_len z.cps.toList
        rw [← eb6, ← len_list, ll] at this
        omega
      refine g_ifn (fun h => absurd (congrArg V.int ec) h) (fun _ => ?_)
      walk_at "go"
      refine ⟨rfl, .str z, rfl, az _, fun h => absurd (rz.symm.trans h) (by decide), fun z0 ez _ H11 p11 s11 R11 => ?_⟩
      cases ez
      obtain ⟨t11, b11, ps11, e111, eb11, e112, hps11⟩ := R11
      have ebb11 : b11 = b8 := str_ext (eb11.trans eb6.symm)
      subst ebb11
      have S11 := S9.trans s11
      walk_at "go"
      refine g_ned (dp_res e111 e112 hps11) (dp_res (S11 _ _ e1) (S11 _ _ e2) (pair_imp hps fun u n h => S11 _ _ h)) (M3.res_shaped ob _) (M3.res_shaped ob _) ?_
      rw [M3.res_eqv]
      refine g_bl ?_
      refine iteF ?_
      have D11 := (D4.same s5).same S11
      walk_at "go"
      refine ⟨Nat.zero_le _, fun q1 g1 => ?_⟩
      walk_at "go"
      refine ⟨by show 1 ≤ sizeLine; decide, fun q2 g2 => ?_⟩
      walk_at "go"
      refine ⟨by show 1 ≤ sizeLine; decide, fun q3 g3 => ?_⟩
      walk_at "go"
      intro q4 g4
      walk_at "go"
      refine ⟨by show 7 ≤ sizeLine; decide, fun q5 g5 => ?_⟩
      walk_at "go"
      have DA := D11.upd (o := .tup []) g1
      have DB := DA.upd (o := .lst [.str z]) g2
      have DC := DB.upd (o := .tup [.str z]) g3
      have DD := DC.upd (o := .dK []) g4
      have m1 := D11.ne g1
      have m2 := DA.ne g2
      have m3 := DB.ne g3
      have m4 := DC.ne g4
      refine ⟨d, l, _, 7, rfl, DD.upd g5, by omega, by decide, by decide, fun r HA r0 r1 DE KE NE => ?_⟩
      have x1 : HA q1 = some (.tup []) := KE q1 _ m1 (same_new g5 _ _ (same_new g4 _ _ (same_new g3 _ _ (same_new g2 _ _ upd_same))))
      have x2 : HA q2 = some (.lst [.str z]) := KE q2 _ m2 (same_new g5 _ _ (same_new g4 _ _ (same_new g3 _ _ upd_same)))
      have x3 : HA q3 = some (.tup [.str z]) := KE q3 _ m3 (same_new g5 _ _ (same_new g4 _ _ upd_same))
      have x4 : HA q4 = some (.dK []) := KE q4 _ m4 (same_new g5 _ _ upd_same)
      refine g_pickP (pr := fun v => AnyO HA v ∧ Mk.isRaw v = false ∧ ∃ dv, (∀ H', Same HA H' → Dq K H' v dv) ∧ M3.ShowOk dv) (KE q5 _ (DD.ne g5) upd_same) r0 (by show r < 7; exact r1) ?_ fun v hv => ?_
      · exact fm_cons ⟨.non, rfl, _, fun _ _ => .of .non rfl, M3.show_none⟩ (fm_cons ⟨.int _, rfl, _, fun _ _ => .of (.int _) rfl, M3.show_five⟩ (fm_cons ⟨.bl _, rfl, _, fun _ _ => .of (.bl _) rfl, M3.show_true⟩
          (fm_cons ⟨.tup x1, rfl, _, fun _ s => .of (.tup (SqT.of (s _ _ x1)) .nil) rfl, M3.show_tup0⟩ (fm_cons ⟨.lst x2, rfl, _, fun _ s => .of (.lst (SqL.of (s _ _ x2)) (.cons (.str z) .nil)) rfl, M3.show_lst oz (by omega)⟩
          (fm_cons ⟨.tup x3, rfl, _, fun _ s => .of (.tup (SqT.of (s _ _ x3)) (.cons (.str z) .nil)) rfl, M3.show_tup oz (by omega)⟩ (fm_cons ⟨.dic x4, rfl, _, fun _ s => .dic (s _ _ x4), M3.show_dict0⟩ fm_nil))))))
      obtain ⟨av, rv, dv, hdv, o1, o2, o3⟩ := hv
      walk_at "go"
      refine ⟨v, rfl, av, rv, fun HB pB sB eB => ?_⟩
      walk_at "go"
      refine g_reprQ (ds := [.str "body", dv]) (SqL.of eB) (.cons (.of (.str _) rfl) (.cons (hdv _ sB) .nil)) (fun h => nomatch h) o1 o2 o3 ?_
      walk_at "go"
      refine ⟨by show 2 ≤ sizeLine; decide, fun pC hC => ?_⟩
      walk_at "go"
      refine g_reprQ (ds := [.str "body", dv]) (SqL.of upd_same) (.cons (.of (.str _) rfl) (.cons (hdv _ (sB.trans (same_new hC))) .nil)) (fun h => nomatch h) o1 o2 o3 ?_
      walk_at "go"
      refine g_ifn (fun h => absurd rfl h) (fun _ => ?_)
      walk_at "go"
      exact ⟨⟨_, _, _, _, rfl⟩, ((DE.same sB).upd hC).mono (by omega)⟩
    · rintro σ H3 ⟨⟨y1, y2, y3, y4, rfl⟩, D3⟩
      walk_at "go"
      exact q H3
end
theorem all_mk {w : World} {K : PySem.W.Frag} {h : Heap} {mg : Str → Option Value} {fa f0 f1 f2 f3 f4 f5 f6 f7 f8 f9 f10 CHeaderError CLetterError CAbsentError CBadBody iBadBody cdBadBody ccBadBody : Addr} {t0 : Tok} (X : K.In h) (G : h.Ns mainGlobals mg) (hfa : mg "law" = some (.ref fa))
    {od0 an0 od1 an1 od2 an2 od3 an3 od4 an4 od5 an5 od6 an6 od7 an7 od8 an8 od9 an9 od10 an10 : Option Addr} {sl0 sl1 sl2 sl3 sl4 sl5 sl6 sl7 sl8 sl9 sl10 : Array (Option Value)} {oc0 kV0 dc0 pm0 cd0 ct0 oc1 kV1 dc1 pm1 cd1 ct1 oc2 kV2 dc2 pm2 cd2 ct2 oc3 kV3 dc3 pm3 cd3 ct3 oc4 kV4 dc4 pm4 cd4 ct4 oc5 kV5 dc5 pm5 cd5 ct5 oc6 kV6 dc6 pm6 cd6 ct6 oc7 kV7 dc7 pm7 cd7 ct7 oc8 kV8 dc8 pm8 cd8 ct8 oc9 kV9 dc9 pm9 cd9 ct9 oc10 kV10 dc10 pm10 cd10 ct10 : Value}
    (a0 : PySem.W.nsIn K mainGlobals "consists_of" = some (some (.ref f0))) (l0 : K.lookup f0 = some ⟨oc0, od0, .func (PySem.W.fnOf "consists_of" "consists_of" (defArgs s_consists_of) (defBody s_consists_of) (defScope s_consists_of) .none kV0 dc0 pm0 an0 cd0 ct0), sl0⟩) (c0 : PySem.W.codeIn K cd0 "consists_of" = true) (k0 : PySem.W.keepIn K (.ref f0) = true)
    (a1 : PySem.W.nsIn K mainGlobals "is_body" = some (some (.ref f1))) (l1 : K.lookup f1 = some ⟨oc1, od1, .func (PySem.W.fnOf "is_body" "is_body" (defArgs s_is_body) (defBody s_is_body) (defScope s_is_body) .none kV1 dc1 pm1 an1 cd1 ct1), sl1⟩) (c1 : PySem.W.codeIn K cd1 "is_body" = true) (k1 : PySem.W.keepIn K (.ref f1) = true)
    (a2 : PySem.W.nsIn K mainGlobals "is_raw" = some (some (.ref f2))) (l2 : K.lookup f2 = some ⟨oc2, od2, .func (PySem.W.fnOf "is_raw" "is_raw" (defArgs s_is_raw) (defBody s_is_raw) (defScope s_is_raw) .none kV2 dc2 pm2 an2 cd2 ct2), sl2⟩) (c2 : PySem.W.codeIn K cd2 "is_raw" = true) (k2 : PySem.W.keepIn K (.ref f2) = true)
    (a3 : PySem.W.nsIn K mainGlobals "unfolded" = some (some (.ref f3))) (l3 : K.lookup f3 = some ⟨oc3, od3, .func (PySem.W.fnOf "unfolded" "unfolded" (defArgs s_unfolded) (defBody s_unfolded) (defScope s_unfolded) .none kV3 dc3 pm3 an3 cd3 ct3), sl3⟩) (c3 : PySem.W.codeIn K cd3 "unfolded" = true) (k3 : PySem.W.keepIn K (.ref f3) = true)
    (a4 : PySem.W.nsIn K mainGlobals "_law_begin" = some (some (.ref f4))) (l4 : K.lookup f4 = some ⟨oc4, od4, .func (PySem.W.fnOf "_law_begin" "_law_begin" (defArgs s__law_begin) (defBody s__law_begin) (defScope s__law_begin) .none kV4 dc4 pm4 an4 cd4 ct4), sl4⟩) (c4 : PySem.W.codeIn K cd4 "_law_begin" = true) (k4 : PySem.W.keepIn K (.ref f4) = true)
    (a5 : PySem.W.nsIn K mainGlobals "_law_mixed" = some (some (.ref f5))) (l5 : K.lookup f5 = some ⟨oc5, od5, .func (PySem.W.fnOf "_law_mixed" "_law_mixed" (defArgs s__law_mixed) (defBody s__law_mixed) (defScope s__law_mixed) .none kV5 dc5 pm5 an5 cd5 ct5), sl5⟩) (c5 : PySem.W.codeIn K cd5 "_law_mixed" = true) (k5 : PySem.W.keepIn K (.ref f5) = true)
    (a6 : PySem.W.nsIn K mainGlobals "_law_next" = some (some (.ref f6))) (l6 : K.lookup f6 = some ⟨oc6, od6, .func (PySem.W.fnOf "_law_next" "_law_next" (defArgs s__law_next) (defBody s__law_next) (defScope s__law_next) .none kV6 dc6 pm6 an6 cd6 ct6), sl6⟩) (c6 : PySem.W.codeIn K cd6 "_law_next" = true) (k6 : PySem.W.keepIn K (.ref f6) = true)
    (a7 : PySem.W.nsIn K mainGlobals "_law_raw" = some (some (.ref f7))) (l7 : K.lookup f7 = some ⟨oc7, od7, .func (PySem.W.fnOf "_law_raw" "_law_raw" (defArgs s__law_raw) (defBody s__law_raw) (defScope s__law_raw) .none kV7 dc7 pm7 an7 cd7 ct7), sl7⟩) (c7 : PySem.W.codeIn K cd7 "_law_raw" = true) (k7 : PySem.W.keepIn K (.ref f7) = true)
    (a8 : PySem.W.nsIn K mainGlobals "_law_due" = some (some (.ref f8))) (l8 : K.lookup f8 = some ⟨oc8, od8, .func (PySem.W.fnOf "_law_due" "_law_due" (defArgs s__law_due) (defBody s__law_due) (defScope s__law_due) .none kV8 dc8 pm8 an8 cd8 ct8), sl8⟩) (c8 : PySem.W.codeIn K cd8 "_law_due" = true) (k8 : PySem.W.keepIn K (.ref f8) = true)
    (a9 : PySem.W.nsIn K mainGlobals "_law_word" = some (some (.ref f9))) (l9 : K.lookup f9 = some ⟨oc9, od9, .func (PySem.W.fnOf "_law_word" "_law_word" (defArgs s__law_word) (defBody s__law_word) (defScope s__law_word) .none kV9 dc9 pm9 an9 cd9 ct9), sl9⟩) (c9 : PySem.W.codeIn K cd9 "_law_word" = true) (k9 : PySem.W.keepIn K (.ref f9) = true)
    (a10 : PySem.W.nsIn K mainGlobals "law" = some (some (.ref f10))) (l10 : K.lookup f10 = some ⟨oc10, od10, .func (PySem.W.fnOf "law" "law" (defArgs s_law) (defBody s_law) (defScope s_law) .none kV10 dc10 pm10 an10 cd10 ct10), sl10⟩) (c10 : PySem.W.codeIn K cd10 "law" = true) (k10 : PySem.W.keepIn K (.ref f10) = true)
    {nmHeaderError qHeaderError : Str} {NHeaderError : Addr} {bsHeaderError sbHeaderError : List Value} {snHeaderError : List Str} {abHeaderError : Bool} {coHeaderError : Option Bool} {ddHeaderError : Option Addr} {m0HeaderError m1HeaderError m2HeaderError m3HeaderError m5HeaderError : Option Value}
    {nmBadBody qBadBody : Str} {NBadBody : Addr} {bsBadBody sbBadBody : List Value} {snBadBody : List Str} {abBadBody : Bool} {coBadBody : Option Bool} {ddBadBody : Option Addr} {m0BadBody m1BadBody m2BadBody m3BadBody m5BadBody : Option Value}
    {ocBadBody kVBadBody dcBadBody pmBadBody ctBadBody cclBadBody clBadBody : Value} {odBadBody anBadBody cddBadBody cldBadBody : Option Addr} {slBadBody ccsBadBody cslBadBody : Array (Option Value)} {vsBadBody : Array Value} {fileBadBody : Str} {tfBadBody : Tok}
    (sup : PySem.W.nsIn K mainGlobals "super" = some none)
    (opq : PySem.W.nsIn K cStatics "thirdparty.any" = some none)
    (uhn : PySem.W.specialIn K (.builtin "object.__class__") "__get__" = some (some (.builtin "getset_descriptor.__get__")))
    (uht : PySem.W.takesIn K (.builtin "object.__class__") = some true)
    (aHeaderError : PySem.W.nsIn K mainGlobals "HeaderError" = some (some (.ref CHeaderError)))
    (eHeaderError : PySem.W.subIn K (.ref CHeaderError) (.type "BaseException") = some true)
    (dHeaderError : PySem.W.hasDictIn K CHeaderError = true)
    (tHeaderError : PySem.W.typeIn K (.ref CHeaderError) = some (.type "type"))
    (aLetterError : PySem.W.nsIn K mainGlobals "LetterError" = some (some (.ref CLetterError)))
    (eLetterError : PySem.W.subIn K (.ref CLetterError) (.type "BaseException") = some true)
    (dLetterError : PySem.W.hasDictIn K CLetterError = true)
    (tLetterError : PySem.W.typeIn K (.ref CLetterError) = some (.type "type"))
    (aAbsentError : PySem.W.nsIn K mainGlobals "AbsentError" = some (some (.ref CAbsentError)))
    (eAbsentError : PySem.W.subIn K (.ref CAbsentError) (.type "BaseException") = some true)
    (dAbsentError : PySem.W.hasDictIn K CAbsentError = true)
    (tAbsentError : PySem.W.typeIn K (.ref CAbsentError) = some (.type "type"))
    (xHeaderError : K.lookup CHeaderError = some (excClassObj nmHeaderError qHeaderError CHeaderError NHeaderError bsHeaderError [.type "ValueError", .type "Exception", .type "BaseException", .type "object"] true snHeaderError sbHeaderError abHeaderError coHeaderError ddHeaderError m0HeaderError m1HeaderError m2HeaderError m3HeaderError m5HeaderError "ValueError.__new__"))
    (alHeaderError : PySem.W.findIn K (.ref CHeaderError) "__init__" = some (some (.builtin "ValueError.__init__")))
    (aBadBody : PySem.W.nsIn K mainGlobals "BadBody" = some (some (.ref CBadBody)))
    (xBadBody : K.lookup CBadBody = some (excClassObj nmBadBody qBadBody CBadBody NBadBody bsBadBody [.ref CHeaderError, .type "ValueError", .type "Exception", .type "BaseException", .type "object"] true snBadBody sbBadBody abBadBody coBadBody ddBadBody m0BadBody m1BadBody m2BadBody m3BadBody m5BadBody "ValueError.__new__"))
    (inBadBody : PySem.W.findIn K (.ref CBadBody) "__init__" = some (some (.ref iBadBody)))
    (tyBadBody : PySem.W.typeIn K (.ref iBadBody) = some (.type "function"))
    (saBadBody : PySem.W.findIn K (.ref CBadBody) "__setattr__" = some (some (.builtin "object.__setattr__")))
    (nfBadBody : PySem.W.findIn K (.ref CBadBody) "given" = some none)
    (eBadBody : PySem.W.subIn K (.ref CBadBody) (.type "BaseException") = some true)
    (veBadBody : PySem.W.subIn K (.ref CBadBody) (.type "ValueError") = some true)
    (meBadBody : PySem.W.mroIn K CBadBody (.ref CBadBody) = some true)
    (moBadBody : PySem.W.mroIn K CBadBody (.type "object") = some true)
    (tBadBody : PySem.W.typeIn K (.ref CBadBody) = some (.type "type"))
    (dBadBody : PySem.W.hasDictIn K CBadBody = true)
    (kBadBody : PySem.W.keepIn K (.ref CBadBody) = true)
    (gaBadBody : PySem.W.findIn K (.ref CBadBody) "__getattribute__" = some (some (.builtin "BaseException.__getattribute__")))
    (ggBadBody : PySem.W.findIn K (.ref CBadBody) "__getattr__" = some none)
    (caBadBody : PySem.W.findIn K (.ref CBadBody) "__class__" = some (some (.builtin "object.__class__")))
    (sBadBodyHeaderError : PySem.W.subIn K (.ref CBadBody) (.ref CHeaderError) = some true)
    (sBadBodyLetterError : PySem.W.subIn K (.ref CBadBody) (.ref CLetterError) = some false)
    (sBadBodyAbsentError : PySem.W.subIn K (.ref CBadBody) (.ref CAbsentError) = some false)
    (lBadBody : K.lookup iBadBody = some ⟨ocBadBody, odBadBody, .func (PySem.W.fnX "__init__" "BadBody.__init__" (defArgs si_BadBody) (defBody si_BadBody) (defScope si_BadBody) [("__class__", ccBadBody)] .none kVBadBody dcBadBody pmBadBody anBadBody (.ref cdBadBody) ctBadBody), slBadBody⟩)
    (cBadBody : PySem.W.codeIn K (.ref cdBadBody) "BadBody.__init__" = true)
    (ldBadBody : K.lookup cdBadBody = some ⟨cclBadBody, cddBadBody, .fields vsBadBody, ccsBadBody⟩)
    (vBadBody : vsBadBody[2]? = some (.str fileBadBody tfBadBody))
    (fiBadBody : ((P).main.file == fileBadBody) = true)
    (lcBadBody : K.lookup ccBadBody = some ⟨clBadBody, cldBadBody, .cell (some (.ref CBadBody)), cslBadBody⟩)
    (v0 : PySem.W.nsIn K mainGlobals "MARKS" = some (some (.str " !\"#$&'()*+,-./0123456789:;<=>?@ABCDEFGHIJKLMNOPQRSTUVWXYZ[\\]^_`abcdefghijklmnopqrstuvwxyz{|}~" t0)))
    (z0 : PySem.W.nsIn K mainGlobals "len" = some none)
    (z1 : PySem.W.nsIn K mainGlobals "range" = some none)
    (z2 : PySem.W.nsIn K mainGlobals "min" = some none)
    (z3 : PySem.W.nsIn K mainGlobals "isinstance" = some none)
    (z4 : PySem.W.nsIn K mainGlobals "str" = some none)
    (z5 : PySem.W.nsIn K mainGlobals "repr" = some none)
    (z6 : PySem.W.nsIn K mainGlobals "all" = some none)
    (z7 : PySem.W.nsIn K mainGlobals "tuple" = some none)
    : ∃ fd : FuncData, (∀ (s : Shared) (v : Value), BindsTo s fd ⟨[v], []⟩ [("script", v)]) ∧ ∀ base : Heap, K.In base → base.Ns mainGlobals mg → FnG P w K mg base CX0 6 fa fd ["script"] (spLaw K) := by
  have e := hfa.symm.trans (PySem.W.mg_of X G a10)
  cases e
  have F0 := fun_mk (st := s_consists_of) l0 c0 k0
  have F1 := fun_mk (st := s_is_body) l1 c1 k1
  have F2 := fun_mk (st := s_is_raw) l2 c2 k2
  have F3 := fun_mk (st := s_unfolded) l3 c3 k3
  have F4 := fun_mk (st := s__law_begin) l4 c4 k4
  have F5 := fun_mk (st := s__law_mixed) l5 c5 k5
  have F6 := fun_mk (st := s__law_next) l6 c6 k6
  have F7 := fun_mk (st := s__law_raw) l7 c7 k7
  have F8 := fun_mk (st := s__law_due) l8 c8 k8
  have F9 := fun_mk (st := s__law_word) l9 c9 k9
  have F10 := fun_mk (st := s_law) l10 c10 k10
  let T : Txt K mg := {
    f_consists_of := f0, fd_consists_of := _, F_consists_of := F0, g_consists_of := PySem.W.mg_of X G a0, b_consists_of := F0.binds (ps := ["thing", "marks"]) fun _ _ _ _ _ _ us hl => match us, hl with | [_, _], _ => rfl,
    f_is_body := f1, fd_is_body := _, F_is_body := F1, g_is_body := PySem.W.mg_of X G a1, b_is_body := F1.binds (ps := ["thing"]) fun _ _ _ _ _ _ us hl => match us, hl with | [_], _ => rfl,
    f_is_raw := f2, fd_is_raw := _, F_is_raw := F2, g_is_raw := PySem.W.mg_of X G a2, b_is_raw := F2.binds (ps := ["thing"]) fun _ _ _ _ _ _ us hl => match us, hl with | [_], _ => rfl,
    f_unfolded := f3, fd_unfolded := _, F_unfolded := F3, g_unfolded := PySem.W.mg_of X G a3, b_unfolded := F3.binds (ps := ["raw"]) fun _ _ _ _ _ _ us hl => match us, hl with | [_], _ => rfl,
    f__law_begin := f4, fd__law_begin := _, F__law_begin := F4, g__law_begin := PySem.W.mg_of X G a4, b__law_begin := F4.binds (ps := ["script"]) fun _ _ _ _ _ _ us hl => match us, hl with | [_], _ => rfl,
    f__law_mixed := f5, fd__law_mixed := _, F__law_mixed := F5, g__law_mixed := PySem.W.mg_of X G a5, b__law_mixed := F5.binds (ps := ["cell", "k"]) fun _ _ _ _ _ _ us hl => match us, hl with | [_, _], _ => rfl,
    f__law_next := f6, fd__law_next := _, F__law_next := F6, g__law_next := PySem.W.mg_of X G a6, b__law_next := F6.binds (ps := ["draw", "bound"]) fun _ _ _ _ _ _ us hl => match us, hl with | [_, _], _ => rfl,
    f__law_raw := f7, fd__law_raw := _, F__law_raw := F7, g__law_raw := PySem.W.mg_of X G a7, b__law_raw := F7.binds (ps := ["draw"]) fun _ _ _ _ _ _ us hl => match us, hl with | [_], _ => rfl,
    f__law_due := f8, fd__law_due := _, F__law_due := F8, g__law_due := PySem.W.mg_of X G a8, b__law_due := F8.binds (ps := ["what"]) fun _ _ _ _ _ _ us hl => match us, hl with | [_], _ => rfl,
    f__law_word := f9, fd__law_word := _, F__law_word := F9, g__law_word := PySem.W.mg_of X G a9, b__law_word := F9.binds (ps := ["what"]) fun _ _ _ _ _ _ us hl => match us, hl with | [_], _ => rfl,
    f_law := fa, fd_law := _, F_law := F10, g_law := PySem.W.mg_of X G a10, b_law := F10.binds (ps := ["script"]) fun _ _ _ _ _ _ us hl => match us, hl with | [_], _ => rfl,
    t_MARKS := t0, g_MARKS := PySem.W.mg_of X G v0,
    m_len := PySem.W.mg_none_of X G z0,
    m_range := PySem.W.mg_none_of X G z1,
    m_min := PySem.W.mg_none_of X G z2,
    m_isinstance := PySem.W.mg_none_of X G z3,
    m_str := PySem.W.mg_none_of X G z4,
    m_repr := PySem.W.mg_none_of X G z5,
    m_all := PySem.W.mg_none_of X G z6,
    m_tuple := PySem.W.mg_none_of X G z7,
    C_HeaderError := CHeaderError, g_HeaderError := PySem.W.mg_of X G aHeaderError,
    C_LetterError := CLetterError, g_LetterError := PySem.W.mg_of X G aLetterError,
    C_AbsentError := CAbsentError, g_AbsentError := PySem.W.mg_of X G aAbsentError,
    C_BadBody := CBadBody, i_BadBody := iBadBody, g_BadBody := PySem.W.mg_of X G aBadBody
    E_BadBody := {
      cls := ⟨nmBadBody, qBadBody, NBadBody, bsBadBody, _, snBadBody, sbBadBody, abBadBody, coBadBody, ddBadBody, m0BadBody, m1BadBody, m2BadBody, m3BadBody, m5BadBody, xBadBody, rfl, XS.along_of xHeaderError alHeaderError⟩
      init := inBadBody, ityp := tyBadBody, sa := saBadBody, nf := nfBadBody, exC := eBadBody, veC := veBadBody, meC := meBadBody, tyC := tBadBody, kC := kBadBody, opq := opq
      fn := ⟨_, _, _, _, ocBadBody, kVBadBody, dcBadBody, pmBadBody, ctBadBody, cclBadBody, clBadBody, odBadBody, anBadBody, cddBadBody, cldBadBody, slBadBody, ccsBadBody, cslBadBody, cdBadBody, ccBadBody, vsBadBody, fileBadBody, tfBadBody, lBadBody, cBadBody, ldBadBody, vBadBody, fiBadBody, lcBadBody, ⟨_, rfl, rfl⟩,
        ⟨_, _, _, _, _, _, _, _, _, _, _, _, rfl, ⟨_, fun _ => rfl⟩, fun _ => rfl, fun _ => rfl, by decide +kernel⟩, fun _ _ _ => .of_eq rfl, rfl, rfl, rfl, by decide +kernel, by decide +kernel, by decide +kernel, by decide +kernel, by decide +kernel⟩
      sup := sup, top := by decide +kernel, psf := by decide +kernel, pdb := by decide +kernel }
    X_BadBody := ⟨gaBadBody, ggBadBody, eBadBody, dBadBody⟩, N_BadBody := nfBadBody, I_BadBody := ⟨gaBadBody, ggBadBody, eBadBody, dBadBody, caBadBody, uhn, uht, moBadBody⟩
    M_BadBody := XS.any3 (PySem.W.exm_ref eHeaderError dHeaderError tHeaderError sBadBodyHeaderError) (PySem.W.exm_ref eLetterError dLetterError tLetterError sBadBodyLetterError) (PySem.W.exm_ref eAbsentError dAbsentError tAbsentError sBadBodyAbsentError),
    O_BadBody_BadBody := XS.kit_self }
  exact ⟨_, fun s v => .of_eq rfl, fun base _ _ => ok_law T⟩
end K03
open PySem PySem.W PyProof.Rows
set_option maxRecDepth 100000 in
set_option maxHeartbeats 0 in
theorem PySem.Challenge.cw_headerfold_k03_unfolding_holds : PySem.Challenge.rw_headerfold_k03_unfolding.Holds := by
  w_on; o_law; k_head; (case hw => w_witness2)
  k_fill
  refine L2.walk_ofG (l := PySem.Challenge.rw_headerfold_k03_unfolding) (n := 63) (k := 6) (x := "script") (sp := K03.spLaw) rfl (by decide) rfl ⟨rfl, by decide, by decide⟩ (fun w h Y => PySem.W.kIn_of Y) ?F (fun _ _ a ns hl hS => ⟨a, ns, rfl, hS, hl, fun _ => rfl⟩)
  case F =>
    intro w mg fa h KX G hmg
    refine' K03.all_mk KX G hmg ?a0 ?l0 ?c0 ?k0 ?a1 ?l1 ?c1 ?k1 ?a2 ?l2 ?c2 ?k2 ?a3 ?l3 ?c3 ?k3 ?a4 ?l4 ?c4 ?k4 ?a5 ?l5 ?c5 ?k5 ?a6 ?l6 ?c6 ?k6 ?a7 ?l7 ?c7 ?k7 ?a8 ?l8 ?c8 ?k8 ?a9 ?l9 ?c9 ?k9 ?a10 ?l10 ?c10 ?k10 ?sup ?opq ?uhn ?uht ?aHeaderError ?eHeaderError ?dHeaderError ?tHeaderError ?aLetterError ?eLetterError ?dLetterError ?tLetterError ?aAbsentError ?eAbsentError ?dAbsentError ?tAbsentError ?xHeaderError ?alHeaderError ?aBadBody ?xBadBody ?inBadBody ?tyBadBody ?saBadBody ?nfBadBody ?eBadBody ?veBadBody ?meBadBody ?moBadBody ?tBadBody ?dBadBody ?kBadBody ?gaBadBody ?ggBadBody ?caBadBody ?sBadBodyHeaderError ?sBadBodyLetterError ?sBadBodyAbsentError ?lBadBody ?cBadBody ?ldBadBody ?vBadBody ?fiBadBody ?lcBadBody ?v0 ?z0 ?z1 ?z2 ?z3 ?z4 ?z5 ?z6 ?z7
    (case a0 => k_is)
    (case l0 => k_is)
    (case c0 => k_is)
    (case k0 => k_is)
    (case a1 => k_is)
    (case l1 => k_is)
    (case c1 => k_is)
    (case k1 => k_is)
    (case a2 => k_is)
    (case l2 => k_is)
    (case c2 => k_is)
    (case k2 => k_is)
    (case a3 => k_is)
    (case l3 => k_is)
    (case c3 => k_is)
    (case k3 => k_is)
    (case a4 => k_is)
    (case l4 => k_is)
    (case c4 => k_is)
    (case k4 => k_is)
    (case a5 => k_is)
    (case l5 => k_is)
    (case c5 => k_is)
    (case k5 => k_is)
    (case a6 => k_is)
    (case l6 => k_is)
    (case c6 => k_is)
    (case k6 => k_is)
    (case a7 => k_is)
    (case l7 => k_is)
    (case c7 => k_is)
    (case k7 => k_is)
    (case a8 => k_is)
    (case l8 => k_is)
    (case c8 => k_is)
    (case k8 => k_is)
    (case a9 => k_is)
    (case l9 => k_is)
    (case c9 => k_is)
    (case k9 => k_is)
    (case a10 => k_is)
    (case l10 => k_is)
    (case c10 => k_is)
    (case k10 => k_is)
    (case sup => k_is)
    (case opq => k_is)
    (case uhn => k_is)
    (case uht => k_is)
    (case aHeaderError => k_is)
    (case eHeaderError => k_is)
    (case dHeaderError => k_is)
    (case tHeaderError => k_is)
    (case aLetterError => k_is)
    (case eLetterError => k_is)
    (case dLetterError => k_is)
    (case tLetterError => k_is)
    (case aAbsentError => k_is)
    (case eAbsentError => k_is)
    (case dAbsentError => k_is)
    (case tAbsentError => k_is)
    (case xHeaderError => k_is)
    (case alHeaderError => k_is)
    (case aBadBody => k_is)
    (case xBadBody => k_is)
    (case inBadBody => k_is)
    (case tyBadBody => k_is)
    (case saBadBody => k_is)
    (case nfBadBody => k_is)
    (case eBadBody => k_is)
    (case veBadBody => k_is)
    (case meBadBody => k_is)
    (case moBadBody => k_is)
    (case tBadBody => k_is)
    (case dBadBody => k_is)
    (case kBadBody => k_is)
    (case gaBadBody => k_is)
    (case ggBadBody => k_is)
    (case caBadBody => k_is)
    (case sBadBodyHeaderError => k_is)
    (case sBadBodyLetterError => k_is)
    (case sBadBodyAbsentError => k_is)
    (case lBadBody => k_is)
    (case cBadBody => k_is)
    (case ldBadBody => k_is)
    (case vBadBody => rfl)
    (case fiBadBody => rfl)
    (case lcBadBody => k_is)
    (case v0 => k_is)
    (case z0 => k_is)
    (case z1 => k_is)
    (case z2 => k_is)
    (case z3 => k_is)
    (case z4 => k_is)
    (case z5 => k_is)
    (case z6 => k_is)
    (case z7 => k_is)
