import PyProof.Rows.All
import Wide.All
import OpenK.AllK
import Wide.FinOn
import PyProof.EqAt
import PyProof.EqKinds
import PyProof.TupleCall
import PyProof.ReprRoads
import HandS.Base
import HandS.Call
import HandS.List
import HandS.Text
import HandS.Ends
import HandS.Words
import HandS.EndBits
import HandS.Comp
import HandS.Dict
import HandS.Iter
import HandS.WordsList
import HandS.WordsDict
import HandS.WideBits
import HandS.Wide
import HandS.IsInst
import HandS.RaiseMore
import HandS.TupAny
import HandS.Steps
import KE.KExcSuper
import HandS.Exc
import HandS.ExcInit
import HandS.ExcSuper
import HandS.ExcIs
import HandS.TryMany
import HandS.ExcValue
import HandS.ExcField
import KE.KExcIs
import HandS.Style
import HandS.WordsExc
import HandS.ExcOwn
import KE.KExcInit
import HandS.OwnEq
import HandS.Property
import HandS.ClsMeth
import HandS.Defaults
import HandS.MakeKw
import HandS.More
import PyProof.NeKinds
import KE.KCallOwn
import KE.GoesEnum
import PyProof.Rows.StrIntSpec
import PyProof.FString3
import HandS.FStr
import HandS.Replace
import HandS.StrMore
import HandS.Star
import KE.KRevSl
import PyProof.Rows.StrPadFill
import PyProof.Rows.StrPadWhole
import HandS.Walk
import PyProof.Rows.RegFStrParts
import PyProof.StrLawsIn
import KE.GoesZip
import KE.GoesMore
import HandS.Lambda
import HandS.EndTab
import KE.KDflt
import PyProof.StrOps2
import HandS.SetFor
import HandS.MakeKwOnly
import HandS.NoneIn
import PyProof.Raises
import HandS.Small
import HandS.Flow
import PyProof.Rows.Range3
import HandS.TupMul
import PySem.Challenge.RW_headerfold_k11_charsets
set_option Elab.async false
set_option linter.all false
set_option maxRecDepth 100000
set_option maxHeartbeats 4000000
namespace L2
open PySem PySem.Spec PyProof.Rows
section
variable {X : Cx} {pins : List (Addr × Obj)} {σ : St} {H : Hp} {s : Shared}
/-- list + list, both to be read (locked ones and the module's own too) -/
def rCatS (K : PySem.W.Frag) : R2 := fun x y H Q => ∃ l b xs zs, x = .ref l ∧ y = .ref b ∧ SqL K H l xs ∧ SqL K H b zs ∧ xs.length + zs.length ≤ sizeLine ∧ ∀ p, H p = none → Q (.ref p) (upd H p (.lst (xs ++ zs)))
theorem op_catS : OpR X (binaryOp .Add) (rCatS X.K) := by
  intro pins s σ H x y v u Q I rx ry h
  obtain ⟨l, b, xs, zs, rfl, rfl, hH, hB, hz, q⟩ := h
  cases rx
  cases ry
  obtain ⟨its, r, ⟨⟨c1, d1, a1, s1⟩, n, ho, hc, hd, hs⟩, _⟩ := I.list hH
  obtain ⟨its2, r2, ⟨⟨c2, d2, a2, s2⟩, n2, ho2, hc2, hd2, hs2⟩, _⟩ := I.list hB
  simp only at hc hd hs hc2 hd2 hs2
  subst hc hd hs hc2 hd2 hs2
  have hl := r.length
  have hl2 := r2.length
  have ea : its.toArray ++ its2.toArray = (its ++ its2).toArray := by simp
  refine concat_meets ⟨_, ho, rfl⟩ ⟨_, ho2, rfl⟩ noFill_list_add seq_list_add F.slot_list_add F.entry_list_add (F.args_list_add_2 _ _) (list_addW l b its.toArray its2.toArray n n2 none none s1 s2 (by rw [List.size_toArray, List.size_toArray]; omega)) ⟨ho, ho2, ?_⟩
  rw [ea]
  exact ⟨.ref _, _, I.lnew (t' := s.toks) (r.append r2) (by rw [List.length_append]; omega), rfl, q _ I.fresh⟩
/-- repr of data -/
def rRepr (K : PySem.W.Frag) : List V → Hp → VK → Prop := fun xs H Q => ∃ a d, xs = [.ref a] ∧ Dp K H (.ref a) d ∧ d.showable = true ∧ d.hasDict = false ∧ d.depth ≤ 20 ∧ d.shown.length ≤ sizeLine ∧ Q (.str d.shown) H
end
end L2
namespace L2
open PySem PySem.Spec PyProof.Rows
/-- the promise of a def that is called while no text of an object is being made (repr asks that) -/
structure FnG (P : Program) (w : World) (K : PySem.W.Frag) (mg : Str → Option Value) (base : Heap) (CX : CXT) (k : Nat) (f : Addr) (fd : FuncData) (ps : List Str) (sp : Sp) : Prop where
  len : ∀ vs H Q E, sp vs H Q E → vs.length = ps.length
  go : ∀ (A : Around), A.guards = some [] → Room k A → ∀ (out : List Env) (s : Shared) (H : Hp), Env0 P w K mg base A out s H → ∀ (args : Args) (us : List Value) (vs : List V), BindsTo s fd args (ps.zip us) → Vals vs us → ∀ (Q : VK) (E : XK), sp vs H Q E →
    codeAny (model P w) A (.call (.ref f) args) (CR CX out P w H s Q E) s
section
variable {P : Program} {w : World} {K : PySem.W.Frag} {mg : Str → Option Value} {base : Heap} {CX : CXT} {k : Nat} {f : Addr} {fd : FuncData} {ps : List Str} {sp : Sp}
theorem FnOk.toG (F : FnOk P w K mg base CX k f fd ps sp) : FnG P w K mg base CX k f fd ps sp := ⟨F.len, fun A _ hr out s H e0 args us vs hb hv Q E hs => F.run A out s H args us vs Q E hr e0 hb hv hs⟩
theorem fnG_of {name qual : Str} {params : Arguments} {body : List Stmt} {scope : Scope} {dV kV doc pm cdv ct oc : Value} {an od : Option Addr} {osl : Array (Option Value)} {N : List Str}
    (lk : K.lookup f = some ⟨oc, od, .func (PySem.W.fnOf name qual params body scope dV kV doc pm an cdv ct), osl⟩) (hcd : PySem.W.codeIn K cdv qual = true) (S : FnScope N ps scope) (len : ∀ vs H Q E, sp vs H Q E → vs.length = ps.length)
    (hb : ∀ (A : Around), A.guards = some [] → ∀ (out : List Env) (s : Shared) (H : Hp) (vs : List V) (Q : VK) (E : XK), Room k (A.deeper (envOfC qual scope s.heap.objs.size f cdv)) → sp vs H Q E →
      ∃ t, PSs (cxOf CX P w K mg base N qual scope f cdv A out s H E) body t ∧ t { nx := fun _ H' => Q .non H', rt := Q } (start N vs) H) :
    FnG P w K mg base CX (k + 1) f (PySem.W.fnOf name qual params body scope dV kV doc pm an cdv ct) ps sp := by
  refine ⟨len, fun A hG hr out s H e0 args us vs hbd r Q E hsp => ?_⟩
  have hl := len _ _ _ _ hsp
  have KX : K.In s.heap := e0.mod.kin.keeps fun c z q => (e0.bs c z q).1
  have lim : s.heap.NoLimit := e0.mod.nolimit.keeps fun c z q => (e0.bs c z q).1
  have hk2 : ∀ z ∈ ps.zip us, scope.names.lookup z.1 = some .local ∨ (scope.names.lookup z.1 = some .cell ∧ ((cellsFrom (s.heap.objs.size + 1) scope.names []).lookup z.1).isSome = true) := by
    intro z hz
    rcases S.par z.1 (List.of_mem_zip (a := z.1) (b := z.2) hz).1 with g | g
    · exact Or.inl g
    · exact Or.inr ⟨g, PySem.W.cellsFrom_some _ _ _ (Or.inl g)⟩
  refine codeAny_call_function hr.depth (KX f _ lk) rfl S.co S.gen rfl (PySem.W.codeRec_of KX hcd) (hbd _ _ _ _ ?_)
  refine wpAny_newFunctionEnv_cells S.kind hk2 fun env he s2 x => ?_
  cases he
  refine ⟨lim.keeps x.toInCall.keep, codeAny_func ?_⟩
  obtain ⟨t, ht, hq⟩ := hb A hG out s H vs Q E (Room.deeper hr _) hsp
  have J0 : Inv (cxOf CX P w K mg base N qual scope f cdv A out s H E) [] (start N vs) H s2 := inv_start S hr.hd e0 hl r x
  refine wpAny_mono (ht.run [] s2 (start N vs) H _ J0 hq) (fun fl s3 h3 => ?_) (fun _ _ z => z)
  match fl, h3 with
  | .ret u, ⟨v, σ', H', J, rv, q⟩ => exact ⟨v, H', J.os, J.bare, J.base, J.hok, rv, q⟩
  | .next, ⟨σ', H', J, q⟩ => exact ⟨V.non, H', J.os, J.bare, J.base, J.hok, (rfl : RelV V.non Value.none), q⟩
  | .brk, ⟨_, _, _, q⟩ => exact q.elim
  | .cont, ⟨_, _, _, q⟩ => exact q.elim
theorem Fun.okG {x qual : Str} {st : Stmt} {N : List Str} (F : Fun K x qual st f fd) (S : FnScope N ps (defScope st)) (len : ∀ vs H Q E, sp vs H Q E → vs.length = ps.length)
    (hb : ∀ (cdv : Value) (A : Around), A.guards = some [] → ∀ (out : List Env) (s : Shared) (H : Hp) (vs : List V) (Q : VK) (E : XK), Room k (A.deeper (envOfC qual (defScope st) s.heap.objs.size f cdv)) → sp vs H Q E →
      ∃ t, PSs (cxOf CX0 P w K mg base N qual (defScope st) f cdv A out s H E).nox (defBody st) t ∧ t { nx := fun _ H' => Q .non H', rt := Q } (start N vs) H) : FnG P w K mg base CX0 (k + 1) f fd ps sp := by
  obtain ⟨oc, od, kV, doc, pm, an, cdv, ct, osl, rfl, lk, hcd⟩ := F.ex
  refine fnG_of lk hcd S len fun A hG out s H vs Q E hr hsp => ?_
  obtain ⟨t, h, q⟩ := hb cdv A hG out s H vs Q E hr hsp
  exact ⟨t, PSs.nox h, q⟩
end
section
variable {X : Cx} {CX : CXT} {k : Nat} {f : Addr} {fd : FuncData} {ps : List Str} {sp : Sp} {dvs : List V} {ds : List Value} {E : XK} {x : Str} {p pos : Pos} {e : Expr} {es : List Expr} {t : TA}
theorem run_fnG {pins : List (Addr × Obj)} {σ : St} {H : Hp} {s : Shared} {Q : VK} {us : List Value} {vs : List V} (F : FnG X.prog X.w X.K X.mg X.base CX k f fd ps sp) (hG : X.A.guards = some []) (hr : Room k X.A) (hb : Binds X.K fd ps ds) (hd : Vals dvs ds) (hx : Passes CX X E)
    (I : Inv X pins σ H s) (r : Vals vs us) (h : sp (vs ++ dvs) H Q E) : wpAny (model X.prog X.w) X.A (call (.ref f) us) (EP X pins σ Q) X.xe s := by
  have r2 : Vals (vs ++ dvs) (us ++ ds) := r.append hd
  have hl : (us ++ ds).length = ps.length := r2.length ▸ F.len _ _ _ _ h
  refine wpAny_call (codeAny_mono (F.go X.A hG hr X.stack s H I.env0 ⟨us, []⟩ (us ++ ds) (vs ++ dvs) (hb s us I.kIn hl) r2 Q E h) fun o s2 hq => ?_)
  match o, hq with
  | .error e, hq => exact hx pins σ H s e s2 I hq
  | .ok (.ret u), hq => exact I.after hq
/-- f(e, ..) of such a def -/
theorem pe_callG (F : FnG X.prog X.w X.K X.mg X.base CX k f fd ps sp) (hG : X.A.guards = some []) (hr : Room k X.A) (hg : Gl X x) (hm : X.mg x = some (.ref f)) (hk : PySem.W.keepIn X.K (.ref f) = true) (hb : Binds X.K fd ps ds) (hd : Vals dvs ds) (hx : Passes CX X E)
    (ha : PA X (e :: es) t) (hdb : (x == ("__debug__" : Str)) = false := by decide) (he : starEach (e :: es) X.env = (false, eval e X.env) :: starEach es X.env := by rfl) (hpl : (backTo pos (starEach es X.env)).any (·.1) = false := by rfl) :
    PE X (.Call (.Name x p) (e :: es) [] pos) (tCall sp dvs E t) := ⟨fun pins s σ H Q I h =>
  wpAny_Call_Name_kw (ld_glob I hg hm (PySem.W.callWith_K (h₀ := X.base) I.ok.mod.kin hk (thn (ha.run pos pins s σ H _ I h) fun us s1 ⟨vs, H1, I1, r, q⟩ => ⟨I1.kIn, run_fnG F hG hr hb hd hx I1 r q⟩) he hpl) hdb)⟩
/-- repr(x) -/
theorem call_repr (hG : X.A.guards = some []) (hu : X.A.units + 64 < cLine) : CallR X (.builtin "repr") (rRepr X.K) := by
  intro pins s σ H xs us Q I r h
  obtain ⟨a, d, rfl, hd, h1, h2, h3, h4, q⟩ := h
  obtain ⟨u, rfl, ru⟩ := vals1 r
  cases (show u = Value.ref a from ru)
  obtain ⟨as, rd⟩ := Dp.reads I d _ _ hd (rfl : RelV (V.ref a) (Value.ref a))
  refine repr_of_reads' (h₀ := s.heap) rd h1 (fun z => absurd (h2.symm.trans z) (by decide)) hG (by omega) (fun _ _ z => z) (fun h' u tk hk => ?_) h4
  exact ⟨.str d.shown, H, I.kept hk, ⟨u, rfl⟩, q⟩
end
end L2
namespace L2
open PySem PySem.Spec PyProof.Rows
/-- the end of a law whose def runs where no text of an object is being made -/
theorem law_goG {P : Program} {w : World} {K : PySem.W.Frag} {mg mb : Str → Option Value} {k : Nat} {fa a : Addr} {fd : FuncData} {x : Str} {sp : Sp} {z : Shared} {vs : List Value} {ns : List Int}
    (KX : K.In z.heap) (hns : z.heap.Ns mainGlobals mg) (hb : z.heap.Ns builtinsNs mb) (hbb : ∀ x : Str, x ≠ "__name__" → mb x = bootBuiltins x) (hlim : z.heap.NoLimit) (hg : z.gens = #[])
    (ha : z.heap.get? a = some { cls := .type "list", data := .seq vs.toArray }) (hi : IntsAre vs ns) (hl : ns.length ≤ sizeLine) (hr : Room k callerA)
    (F : ∀ base : Heap, K.In base → base.Ns mainGlobals mg → FnG P w K mg base CX0 k fa fd [x] sp) (hbind : ∀ (s : Shared) (u : Value), BindsTo s fd ⟨[u], []⟩ [(x, u)])
    (hsp : ∀ H : Hp, SqL K H a (ns.map V.int) → sp [.ref a] H (fun v _ => v = .bl true) fun _ _ _ => False) :
    codeAny (model P w) callerA (.call (.ref fa) ⟨[.ref a], []⟩) (fun r y => r = .ok (.ret (.bool true)) ∧ OldK z.heap y.heap ∧ y.os = z.os ∧ AllBare y.gens) z := by
  let ob : Obj := { cls := .type "list", data := .seq vs.toArray }
  let H : Hp := fun b => if b = a ∧ K.lookup a = none then some (.frz ob (.lst (ns.map V.int))) else none
  have rv := vals_ints hi
  have lenV := hi.length
  have Ha : K.lookup a = none → H a = some (.frz ob (.lst (ns.map V.int))) := fun e => if_pos ⟨rfl, e⟩
  have Hn : ∀ b, ¬ (b = a ∧ K.lookup a = none) → H b = none := fun b e => if_neg e
  have Hs : ∀ {b o}, H b = some o → b = a ∧ K.lookup a = none ∧ o = .frz ob (.lst (ns.map V.int)) := fun {b o} e => by
    by_cases hba : b = a ∧ K.lookup a = none
    · rw [show H b = some (.frz ob (.lst (ns.map V.int))) from if_pos hba] at e
      exact ⟨hba.1, hba.2, (Option.some.inj e).symm⟩
    · rw [Hn b hba] at e
      cases e
  have hok : HOk P w H z.heap := by
    intro b o e
    obtain ⟨e1, e2, e3⟩ := Hs e
    subst e1 e3
    exact ⟨ha, by rw [List.length_map]; exact hl, vs, _, rv, ha⟩
  have dn : ∀ {b : Addr} {o : Obj} {es : Array DictEntry} {ep : Nat}, z.heap.get? b = some o → o.data = .dict es ep → H b = none := by
    intro b o es ep e d
    refine Hn b fun q => ?_
    rw [q.1, ha] at e
    cases e
    cases d
  have nsK : ∀ {b : Addr} {m : Str → Option Value}, z.heap.Ns b m → (hidT z.heap H).Ns b m := fun ⟨o, es, ep, e, d, r⟩ => ⟨o, es, ep, hidT_get e (dn e d), d, r⟩
  have KB : K.In (hidT z.heap H) := by
    intro b o e
    refine hidT_get (KX b o e) (Hn b fun q => ?_)
    rw [q.1, q.2] at e
    cases e
  have M : Mod K mg (hidT z.heap H) := ⟨KB, nsK hns, ⟨mb, nsK hb, hbb⟩, let ⟨mc, h1, h2⟩ := hlim; ⟨mc, nsK h1, h2⟩⟩
  have e0 : Env0 P w K mg (hidT z.heap H) callerA [] z H := ⟨rfl, M, fun _ _ e => of_hidT e, Nat.le_of_eq (hidT_size _ _), trivial, fun _ q => (nomatch q), hok, .of_eq hg⟩
  have SA : SqL K H a (ns.map V.int) := by
    cases hk : K.lookup a with
    | none => exact Or.inl (Or.inr ⟨ob, Ha hk⟩)
    | some o =>
      have e := KX a o hk
      rw [ha] at e
      cases e
      exact Or.inr ⟨_, vs.toArray, _, hk, rfl, rfl, rfl, by rw [List.size_toArray, lenV]; exact hl, by simpa using rv⟩
  refine codeAny_mono ((F _ KB (nsK hns)).go callerA rfl hr [] z H e0 ⟨[.ref a], []⟩ [.ref a] [.ref a] (hbind z (.ref a)) (.cons rfl .nil) _ _ (hsp H SA)) fun r y h => ?_
  match r, h with
  | .error e, h => exact h.elim
  | .ok (.ret u), ⟨v, H2, os, bare, un, hok2, rv2, q⟩ =>
    cases (show v = V.bl true from q)
    cases (show u = Value.bool true from rv2)
    refine ⟨rfl, OldK.of_keep fun b o e => ?_, os, bare⟩
    by_cases hba : b = a ∧ K.lookup a = none
    · obtain ⟨rfl, h2⟩ := hba
      obtain ⟨e2, _⟩ := hok2 b _ (un.frzs b ob _ (Ha h2))
      rw [ha] at e
      cases e
      exact e2
    · exact un.keep b o e (Hn b hba) (fun q => nomatch q) (fun q => nomatch q)
/-- the goal that k_head leaves, for a law by FnG; the script's bits are not told -/
theorem walk_ofG {l : PySem.W.OpenLaw} {n k : Nat} {q : Program} {loose : List Str} {XP : (Str → Option Value) → Heap → Prop} {YP : World → Heap → Prop} {d : DefRec} {K : Params → PySem.W.Frag} {sp : PySem.W.Frag → Sp} {x : Str}
    (hn : l.most = some n) (hn2 : n ≤ sizeLine) (hdf : d.params.defaults = []) (hr : Room k callerA) (hY : ∀ (w : World) (h : Heap), YP w h → (K w.params).In h)
    (F : ∀ (w : World) (mg : Str → Option Value) (fa : Addr) (h : Heap), (K w.params).In h → h.Ns mainGlobals mg → mg d.name = some (.ref fa) →
      ∃ fd : FuncData, (∀ (s : Shared) (u : Value), BindsTo s fd ⟨[u], []⟩ [(x, u)]) ∧ ∀ base : Heap, (K w.params).In base → base.Ns mainGlobals mg → FnG l.prog w (K w.params) mg base CX0 k fa fd [x] (sp (K w.params)))
    (hsp : ∀ (K : PySem.W.Frag) (H : Hp) (a : Addr) (ns : List Int), ns.length ≤ n → SqL K H a (ns.map V.int) → sp K [.ref a] H (fun v _ => v = .bl true) fun _ _ _ => False) :
    PySem.W.WalkO q loose XP YP l.row.toRowW d [] (fun f vs => PySem.call f vs) :=
  Att.attach_call hn hdf fun w _ s1 mg mb fa o pm cd doc a vs ns G Y ho hd hcd hmg hobj hints hlen hg => by
    obtain ⟨fd, hb, hF⟩ := F w mg fa _ (hY w _ Y) G.T.g hmg
    exact law_goG (hY w _ Y) G.T.g G.T.b G.T.builtins G.T.nolimit hg hobj hints (Nat.le_trans hlen hn2) hr hF hb fun H hS => hsp _ H a ns hlen hS
end L2
namespace L2
open PySem PySem.Spec PyProof.Rows
/-- values in another order -/
def picked {α : Type} (d : α) (ix : List Nat) (ws : List α) : List α := ix.map fun i => ws.getD i d
theorem picked_vals {zs : List V} {ws : List Value} (r : Vals zs ws) (ix : List Nat) : Vals (picked V.non ix zs) (picked Value.none ix ws) := by
  induction ix with
  | nil => exact .nil
  | cons i r2 ih =>
    refine .cons ?_ ih
    show RelV (zs.getD i V.non) (ws.getD i Value.none)
    have hl := r.length
    by_cases hi : i < zs.length
    · have e1 : zs[i]? = some (zs.getD i V.non) := by rw [List.getD_eq_getElem?_getD, List.getElem?_eq_getElem hi]; rfl
      obtain ⟨u, e2, ru⟩ := r.get e1
      rw [show ws.getD i Value.none = u by rw [List.getD_eq_getElem?_getD, e2]; rfl]
      exact ru
    · rw [List.getD_eq_getElem?_getD, List.getD_eq_getElem?_getD, List.getElem?_eq_none (by omega), List.getElem?_eq_none (by omega)]
      exact (rfl : RelV V.non Value.none)
/-- how a call by keywords alone binds -/
def KwB (K : PySem.W.Frag) (fd : FuncData) (ps ks : List Str) (ix : List Nat) : Prop := ix.length = ps.length ∧ ∀ (s : Shared) (ws : List Value), K.In s.heap → ws.length = ks.length → BindsTo s fd ⟨[], ks.zip ws⟩ (ps.zip (picked Value.none ix ws))
def tKw0 (sp : Sp) (n : Nat) (ix : List Nat) (E : XK) (t : TA) : TE := fun σ H Q => t σ H fun vs H1 => vs.length = n ∧ sp (picked V.non ix vs) H1 Q E
section
variable {X : Cx} {CX : CXT} {k : Nat} {f : Addr} {fd : FuncData} {ps ks : List Str} {sp : Sp} {E : XK} {x : Str} {p pos : Pos} {kws : List Keyword} {t : TA} {ix : List Nat}
/-- f(k = v, ..) -/
theorem pe_kw0 (F : FnOk X.prog X.w X.K X.mg X.base CX k f fd ps sp) (hr : Room k X.A) (hg : Gl X x) (hm : X.mg x = some (.ref f)) (hk : PySem.W.keepIn X.K (.ref f) = true) (hb : KwB X.K fd ps ks ix) (hx : Passes CX X E)
    (ha : PK X kws t) (hall : (backToKw pos (keywordEach kws X.env)).all (·.1.isSome) = true := by rfl) (hks : (backToKw pos (keywordEach kws X.env)).filterMap (·.1) = ks := by rfl) (hdb : (x == ("__debug__" : Str)) = false := by decide)
    (hpl : ((backTo pos (starEach [] X.env)).any (·.1) || (backToKw pos (keywordEach kws X.env)).any (·.1.isNone)) = false := by rfl) : PE X (.Call (.Name x p) [] kws pos) (tKw0 sp ks.length ix E t) := by
  refine ⟨fun pins s σ H Q I h => wpAny_Call_Name_kw (ld_glob I hg hm ?_ hdb)⟩
  refine PySem.W.callWith_KW0 (h₀ := X.base) I.ok.mod.kin hk hall (thn (ha.run pos pins s σ H _ I h) fun ws s2 ⟨zs, H2, I2, rz, hl, q2⟩ => ⟨I2.kIn, ?_⟩) hpl
  rw [hks]
  have r2 := picked_vals rz ix
  refine wpAny_call (codeAny_mono (F.run X.A X.stack s2 H2 ⟨[], ks.zip ws⟩ (picked Value.none ix ws) (picked V.non ix zs) Q E hr I2.env0 (hb.2 s2 ws I2.kIn (rz.length.symm.trans hl)) r2 q2) fun o s3 hq => ?_)
  match o, hq with
  | .error e, hq => exact hx pins σ H2 s2 e s3 I2 hq
  | .ok (.ret u), hq => exact I2.after hq
end
section
variable {K : PySem.W.Frag} {x qual : Str} {st : Stmt} {f : Addr} {fd : FuncData} {ps ks : List Str} {ix : List Nat}
theorem Fun.kwb (F : Fun K x qual st f fd) (hix : ix.length = ps.length) (h : ∀ (kV doc pm : Value) (an : Option Addr) (cdv ct : Value) (us : List Value), us.length = ks.length → bindArgs (PySem.W.fnOf x qual (defArgs st) (defBody st) (defScope st) .none kV doc pm an cdv ct) ⟨[], ks.zip us⟩ = pure (ps.zip (picked Value.none ix us))) : KwB K fd ps ks ix := by
  obtain ⟨oc, od, kV, doc, pm, an, cdv, ct, osl, rfl, lk, hcd⟩ := F.ex
  exact ⟨hix, fun s ws _ hl => .of_eq (h kV doc pm an cdv ct ws hl)⟩
end
/-! ### readings, one step each: what stands at the head -/
section
variable {σ : St} {H : Hp} {Q : VK} {D : Ends} {ta tb tc te : TE} {t u : TS} {v : V} {i : Nat} {a b : TT} {K : PySem.W.Frag}
theorem g_seq (h : t { D with nx := u D } σ H) : tSeq t u D σ H := h
theorem g_asg {g : TG} (h : te σ H fun x H1 => g x σ H1 D.nx) : tAsg te g D σ H := h
theorem g_name {Q : St → Hp → Prop} (h : Q (σ.set i (some v)) H) : gName i v σ H Q := h
theorem g_var (e : σ[i]? = some (some v)) (h : Q v H) : tVar i σ H Q := ⟨v, e, h⟩
theorem g_c (h : Q v H) : tC v σ H Q := h
theorem g_op {r : R2} (h : ta σ H fun x H1 => tb σ H1 fun y H2 => r x y H2 Q) : tOp r ta tb σ H Q := h
theorem g_un {r : V → Hp → VK → Prop} (h : ta σ H fun x H1 => r x H1 Q) : tUn r ta σ H Q := h
theorem g_I0 {g : Int → Int → V} {i j : Int} (h : Q (g i j) H) : rI0 g (.int i) (.int j) H Q := ⟨i, j, rfl, rfl, h⟩
theorem g_I {C : Int → Int → Prop} {g : Int → Int → V} {i j : Int} (c : C i j) (h : Q (g i j) H) : rI C g (.int i) (.int j) H Q := ⟨i, j, rfl, rfl, c, h⟩
theorem g_U {g : Int → V} {i : Int} (h : Q (g i) H) : rU g (.int i) H Q := ⟨i, rfl, h⟩
theorem g_eq {x y : V} (c : scal x y = true) (h : Q (.bl (decide (x = y))) H) : rEq x y H Q := ⟨c, h⟩
theorem g_ne {x y : V} (c : scal x y = true) (h : Q (.bl (!decide (x = y))) H) : rNe x y H Q := ⟨c, h⟩
theorem g_tcons {tr : TA} {Q : List V → Hp → Prop} (h : ta σ H fun x H1 => tr σ H1 fun xs H2 => Q (x :: xs) H2) : tCons ta tr σ H Q := h
theorem g_tnil {Q : List V → Hp → Prop} (h : Q [] H) : tNil σ H Q := h
theorem g_call {sp : Sp} {dvs : List V} {E : XK} {tr : TA} (h : tr σ H fun vs H1 => sp (vs ++ dvs) H1 Q E) : tCall sp dvs E tr σ H Q := h
theorem g_cb {r : List V → Hp → VK → Prop} {tr : TA} (h : tr σ H fun vs H1 => r vs H1 Q) : tCB r tr σ H Q := h
theorem g_tup {tr : TA} (h : tr σ H fun xs H1 => xs.length ≤ sizeLine ∧ ∀ p, H1 p = none → Q (.ref p) (upd H1 p (.tup xs))) : tTup tr σ H Q := h
theorem g_lst {tr : TA} (h : tr σ H fun xs H1 => xs.length ≤ sizeLine ∧ ∀ p, H1 p = none → Q (.ref p) (upd H1 p (.lst xs))) : tLst tr σ H Q := h
theorem g_ret (h : te σ H D.rt) : tRet te D σ H := h
theorem g_drop (h : te σ H fun _ H1 => D.nx σ H1) : tDrop te D σ H := h
theorem g_next (h : D.nx σ H) : tNext D σ H := h
theorem g_cont (h : D.ct σ H) : tCont D σ H := h
theorem g_break (h : D.bk σ H) : tBreak D σ H := h
theorem g_ifs (h : a σ H fun b H1 => if b = true then t D σ H1 else u D σ H1) : tIfS a t u D σ H := h
theorem g_ife (h : a σ H fun c H1 => if c = true then ta σ H1 Q else tb σ H1 Q) : tIf a ta tb σ H Q := h
theorem g_test {Q : Bool → Hp → Prop} (h : te σ H fun x H1 => ∃ k, x = .bl k ∧ Q k H1) : tTest te σ H Q := h
theorem g_tb {Q : Bool → Hp → Prop} (h : te σ H fun x H1 => ∃ k, x = .bl k ∧ Q k H1) : tB te σ H Q := h
theorem g_and {Q : Bool → Hp → Prop} (h : a σ H fun c H1 => if c = true then b σ H1 Q else Q false H1) : tAnd a b σ H Q := h
theorem g_or {Q : Bool → Hp → Prop} (h : a σ H fun c H1 => if c = true then Q true H1 else b σ H1 Q) : tOr a b σ H Q := h
theorem g_not {Q : Bool → Hp → Prop} (h : a σ H fun c H1 => Q (!c) H1) : tNot a σ H Q := h
theorem g_andV (h : ta σ H fun x H1 => ∃ c, x = .bl c ∧ if c = true then tb σ H1 Q else Q (.bl false) H1) : tAndV ta tb σ H Q := h
theorem g_orV (h : ta σ H fun x H1 => ∃ c, x = .bl c ∧ if c = true then Q (.bl true) H1 else tb σ H1 Q) : tOrV ta tb σ H Q := h
theorem g_notV (h : ta σ H fun x H1 => ∃ c, x = .bl c ∧ Q (.bl (!c)) H1) : tNotV ta σ H Q := h
theorem g_bl {k : Bool} {P : Bool → Prop} (h : P k) : ∃ c, V.bl k = V.bl c ∧ P c := ⟨k, rfl, h⟩
theorem g_chain {r r' : R2} (h : ta σ H fun x H1 => tb σ H1 fun y H2 => r x y H2 fun z H3 => ∃ k, z = .bl k ∧ (if k = true then tc σ H3 fun w' H4 => r' y w' H4 Q else Q (.bl false) H3)) : tChain r r' ta tb tc σ H Q := h
theorem g_dget (h : ta σ H fun x H1 => tb σ H1 fun y H2 => ∃ a v, x = .ref a ∧ DGet H2 a y (some v) ∧ Q v H2) : tDGet ta tb σ H Q := h
theorem g_dput (h : tc σ H fun v H1 => ta σ H1 fun x H2 => tb σ H2 fun y H3 => ∃ a H4, x = .ref a ∧ DPut H3 a y v H4 ∧ D.nx σ H4) : sDPut ta tb tc D σ H := h
theorem g_for {wi : TI} {g : TG} (h : wi σ H fun J H1 => ∃ W : Nat → Nat → St → Hp → Prop, (∃ m, W 0 m σ H1) ∧ ∀ i m σ H, W i m σ H → (J.stop i H ∧ D.nx σ H) ∨ (J.go i H ∧ ∃ N : St → Hp → Prop, (∀ σ' H', N σ' H' → ∃ m', m' < m ∧ W (i + 1) m' σ' H') ∧ ∀ x H', J.yld i H x H' → g x σ H' fun σ2 H2 => t { D with nx := N, ct := N, bk := D.nx } σ2 H2)) : tFor wi g t D σ H := h
theorem g_ilist {R : It → Hp → Prop} (h : ta σ H fun x H1 => ∃ a, x = .ref a ∧ (∃ xs, SqL K H1 a xs) ∧ R (Itl K a) H1) : iList K ta σ H R := h
theorem g_istr {R : It → Hp → Prop} (h : ta σ H fun v H1 => ∃ x, v = .str x ∧ R (Its x) H1) : iStr ta σ H R := h
theorem g_irng1 {tr : TA} {R : It → Hp → Prop} (h : tr σ H fun vs H1 => ∃ j : Int, vs = [.int j] ∧ -(2 ^ 62) ≤ j ∧ j < 2 ^ 62 ∧ R (Itr 0 j.toNat) H1) : iRng1 tr σ H R := h
theorem g_itrue {c : Bool} {A B : Prop} (e : c = true) (h : A) : if c = true then A else B := by rw [if_pos e]; exact h
theorem g_ifalse {c : Bool} {A B : Prop} (e : c = false) (h : B) : if c = true then A else B := by rw [e, if_neg Bool.false_ne_true]; exact h
theorem g_if {c : Bool} {A B : Prop} (h1 : c = true → A) (h2 : c = false → B) : if c = true then A else B := by
  cases c with
  | true => rw [if_pos rfl]; exact h1 rfl
  | false => rw [if_neg Bool.false_ne_true]; exact h2 rfl
end
end L2
namespace Dr
open PySem L2
/-! the draws of the laws: a dict with four keys -/
def dkv (l : Addr) (a lf u : Int) : List (Key × V) := [(Sum.inr ("cells" : Str), .ref l), (Sum.inr ("at" : Str), .int a), (Sum.inr ("left" : Str), .int lf), (Sum.inr ("used" : Str), .int u)]
theorem n1 : ¬ ((Sum.inr ("cells" : Str) : Key) = Sum.inr ("at" : Str)) := by decide +kernel
theorem n2 : ¬ ((Sum.inr ("cells" : Str) : Key) = Sum.inr ("left" : Str)) := by decide +kernel
theorem n3 : ¬ ((Sum.inr ("cells" : Str) : Key) = Sum.inr ("used" : Str)) := by decide +kernel
theorem n4 : ¬ ((Sum.inr ("at" : Str) : Key) = Sum.inr ("left" : Str)) := by decide +kernel
theorem n5 : ¬ ((Sum.inr ("at" : Str) : Key) = Sum.inr ("used" : Str)) := by decide +kernel
theorem n6 : ¬ ((Sum.inr ("left" : Str) : Key) = Sum.inr ("used" : Str)) := by decide +kernel
theorem m1 : ¬ (("cells" : Str) = "at") := by decide +kernel
theorem m2 : ¬ (("cells" : Str) = "left") := by decide +kernel
theorem m3 : ¬ (("cells" : Str) = "used") := by decide +kernel
theorem m4 : ¬ (("at" : Str) = "cells") := by decide +kernel
theorem m5 : ¬ (("at" : Str) = "left") := by decide +kernel
theorem m6 : ¬ (("at" : Str) = "used") := by decide +kernel
theorem m7 : ¬ (("left" : Str) = "cells") := by decide +kernel
theorem m8 : ¬ (("left" : Str) = "at") := by decide +kernel
theorem m9 : ¬ (("left" : Str) = "used") := by decide +kernel
theorem m10 : ¬ (("used" : Str) = "cells") := by decide +kernel
theorem m11 : ¬ (("used" : Str) = "at") := by decide +kernel
theorem m12 : ¬ (("used" : Str) = "left") := by decide +kernel
variable {l : Addr} {a lf u z : Int} {H : Hp} {d : Addr}
theorem v_cells : valV (dkv l a lf u) (Sum.inr ("cells" : Str)) = some (.ref l) := valV_pos rfl
theorem v_at : valV (dkv l a lf u) (Sum.inr ("at" : Str)) = some (.int a) := by unfold dkv; rw [valV_neg n1, valV_pos rfl]
theorem v_left : valV (dkv l a lf u) (Sum.inr ("left" : Str)) = some (.int lf) := by unfold dkv; rw [valV_neg n2, valV_neg n4, valV_pos rfl]
theorem v_used : valV (dkv l a lf u) (Sum.inr ("used" : Str)) = some (.int u) := by unfold dkv; rw [valV_neg n3, valV_neg n5, valV_neg n6, valV_pos rfl]
theorem p_at : putK (dkv l a lf u) (Sum.inr ("at" : Str)) (.int z) = dkv l z lf u := by simp [putK, mergeK, dkv, m1, m2, m3, m4, m5, m6, m7, m8, m9, m10, m11, m12]
theorem p_left : putK (dkv l a lf u) (Sum.inr ("left" : Str)) (.int z) = dkv l a z u := by simp [putK, mergeK, dkv, m1, m2, m3, m4, m5, m6, m7, m8, m9, m10, m11, m12]
theorem p_used : putK (dkv l a lf u) (Sum.inr ("used" : Str)) (.int z) = dkv l a lf z := by simp [putK, mergeK, dkv, m1, m2, m3, m4, m5, m6, m7, m8, m9, m10, m11, m12]
theorem mrg : mergeK [] [((Sum.inr ("cells" : Str) : Key), V.ref l), (Sum.inr ("at" : Str), .int a), (Sum.inr ("left" : Str), .int lf), (Sum.inr ("used" : Str), .int u)] = dkv l a lf u := by
  simp [putK, mergeK, dkv, m1, m2, m3, m4, m5, m6, m7, m8, m9, m10, m11, m12]
theorem get_cells (h : H d = some (.dK (dkv l a lf u))) : DGet H d (.str "cells") (some (.ref l)) := by rw [← v_cells (a := a) (lf := lf) (u := u)]; exact DGet.k (k := Sum.inr ("cells" : Str)) h
theorem get_at (h : H d = some (.dK (dkv l a lf u))) : DGet H d (.str "at") (some (.int a)) := by rw [← v_at (l := l) (lf := lf) (u := u)]; exact DGet.k (k := Sum.inr ("at" : Str)) h
theorem get_left (h : H d = some (.dK (dkv l a lf u))) : DGet H d (.str "left") (some (.int lf)) := by rw [← v_left (l := l) (a := a) (u := u)]; exact DGet.k (k := Sum.inr ("left" : Str)) h
theorem get_used (h : H d = some (.dK (dkv l a lf u))) : DGet H d (.str "used") (some (.int u)) := by rw [← v_used (l := l) (a := a) (lf := lf)]; exact DGet.k (k := Sum.inr ("used" : Str)) h
theorem put_at (h : H d = some (.dK (dkv l a lf u))) : DPut H d (.str "at") (.int z) (upd H d (.dK (dkv l z lf u))) := by rw [← p_at (a := a)]; exact DPut.k (k := Sum.inr ("at" : Str)) h (by show 4 < _; decide)
theorem put_left (h : H d = some (.dK (dkv l a lf u))) : DPut H d (.str "left") (.int z) (upd H d (.dK (dkv l a z u))) := by rw [← p_left (lf := lf)]; exact DPut.k (k := Sum.inr ("left" : Str)) h (by show 4 < _; decide)
theorem put_used (h : H d = some (.dK (dkv l a lf u))) : DPut H d (.str "used") (.int z) (upd H d (.dK (dkv l a lf z))) := by rw [← p_used (u := u)]; exact DPut.k (k := Sum.inr ("used" : Str)) h (by show 4 < _; decide)
/-- the draws stand at d, at most m of them are used -/
def Draw (H : Hp) (d l : Addr) (m : Nat) : Prop := ∃ (ns : List Int) (a lf u : Int), H d = some (.dK (dkv l a lf u)) ∧ H l = some (.lst (ns.map V.int)) ∧ 0 < ns.length ∧ ns.length ≤ 64 ∧ 0 ≤ a ∧ a ≤ m ∧ 0 ≤ lf ∧ 0 ≤ u ∧ u ≤ m
/-- all but what stands at d is kept -/
def Kp (d : Addr) (H H' : Hp) : Prop := ∀ p o, p ≠ d → H p = some o → H' p = some o
theorem Kp.refl : Kp d H H := fun _ _ _ h => h
theorem Kp.trans {H1 H2 : Hp} (a : Kp d H H1) (b : Kp d H1 H2) : Kp d H H2 := fun p o n h => b p o n (a p o n h)
theorem Kp.new {p : Addr} {o : HO} (h : H p = none) : Kp d H (upd H p o) := fun b x _ e => by rw [upd_ne (ne_of_none e h)]; exact e
theorem Kp.at {o : HO} : Kp d H (upd H d o) := fun b x n e => by rw [upd_ne n]; exact e
theorem Kp.mut {p : Addr} {o : HO} {H1 : Hp} (k : Kp d H H1) (h : H p = none) : Kp d H (upd H1 p o) := fun b x n e => by
  rw [upd_ne (ne_of_none e h)]
  exact k b x n e
theorem Draw.mono {m m' : Nat} (D : Draw H d l m) (h : m ≤ m') : Draw H d l m' := by
  obtain ⟨ns, a, lf, u, h1, h2, h3, h4, h5, h6, h7, h8, h9⟩ := D
  exact ⟨ns, a, lf, u, h1, h2, h3, h4, h5, by omega, h7, h8, by omega⟩
theorem Draw.ne {m : Nat} {p : Addr} (D : Draw H d l m) (h : H p = none) : p ≠ d := by
  obtain ⟨ns, a, lf, u, h1, _⟩ := D
  exact fun e => by rw [e, h1] at h; cases h
/-- a new object leaves the draws -/
theorem Draw.upd {m : Nat} {p : Addr} {o : HO} (D : Draw H d l m) (h : H p = none) : Draw (L2.upd H p o) d l m := by
  obtain ⟨ns, a, lf, u, h1, h2, h3⟩ := D
  exact ⟨ns, a, lf, u, by rw [upd_ne (ne_of_none h1 h)]; exact h1, by rw [upd_ne (ne_of_none h2 h)]; exact h2, h3⟩
theorem Draw.nel {m : Nat} {p : Addr} (D : Draw H d l m) (h : H p = none) : p ≠ l := by
  obtain ⟨ns, a, lf, u, h1, h2, _⟩ := D
  exact fun e => by rw [e, h2] at h; cases h
/-- a change elsewhere leaves the draws -/
theorem Draw.mut {m : Nat} {p : Addr} {o : HO} (D : Draw H d l m) (n1 : p ≠ d) (n2 : p ≠ l) : Draw (L2.upd H p o) d l m := by
  obtain ⟨ns, a, lf, u, h1, h2, h3⟩ := D
  exact ⟨ns, a, lf, u, by rw [upd_ne n1.symm]; exact h1, by rw [upd_ne n2.symm]; exact h2, h3⟩
/-- heaps that know all that an elder one knew -/
theorem Draw.same {H' : Hp} {m : Nat} (D : Draw H d l m) (s : ∀ p o, H p = some o → H' p = some o) : Draw H' d l m := by
  obtain ⟨ns, a, lf, u, h1, h2, h3⟩ := D
  exact ⟨ns, a, lf, u, s _ _ h1, s _ _ h2, h3⟩
/-- the promise of _law_next -/
def spNext : Sp := fun vs H Q _ => ∃ (d l : Addr) (m : Nat) (b : Int), vs = [.ref d, .int b] ∧ Draw H d l m ∧ m < 1000000 ∧ 0 < b ∧ b < 1000000 ∧
  ∀ (r : Int) (H' : Hp), 0 ≤ r → r < b → Draw H' d l (m + 1) → Kp d H H' → (∀ p, H p = none → H' p = none) → Q (.int r) H'
/-- the promise of _law_mixed -/
def spMixed : Sp := fun vs H Q _ => ∃ c k : Int, vs = [.int c, .int k] ∧ 0 ≤ k ∧ k ≤ 1000000 ∧ ∀ r : Int, 0 ≤ r → r < 2147483648 → Q (.int r) H
/-- the promise of _law_begin -/
def spBegin (K : PySem.W.Frag) : Sp := fun vs H Q _ => ∃ (a : Addr) (ns : List Int), vs = [.ref a] ∧ SqL K H a (ns.map V.int) ∧ ns.length ≤ 63 ∧ ∀ (d l : Addr) (H' : Hp), H d = none → H l = none → Draw H' d l 0 → (∀ p o, H p = some o → H' p = some o) → Q (.ref d) H'
/-! the numbers -/
theorem mixA {c k : Int} (hk : 0 ≤ k) : 0 ≤ (c % 1000000007 + 7919 * k * k + 31 * k + 7) := by
  have h1 : 0 ≤ c % 1000000007 := Int.emod_nonneg _ (by decide)
  have h2 : 0 ≤ 7919 * k * k := Int.mul_nonneg (Int.mul_nonneg (by decide) hk) hk
  omega
theorem modB {x : Int} {n : Int} (hn : 0 < n) : 0 ≤ x % n ∧ x % n < n := ⟨Int.emod_nonneg _ (by omega), Int.emod_lt_of_pos _ hn⟩
end Dr
namespace L2
open PySem
section
variable {A B : Prop}
theorem g_ifd {p : Prop} [Decidable p] (h1 : p → A) (h2 : ¬ p → B) : if decide p = true then A else B := by
  by_cases h : p
  · rw [if_pos (decide_eq_true h)]; exact h1 h
  · rw [if_neg (fun z => h (of_decide_eq_true z))]; exact h2 h
theorem g_ifn {p : Prop} [Decidable p] (h1 : ¬ p → A) (h2 : p → B) : if (!decide p) = true then A else B := by
  by_cases h : p
  · rw [decide_eq_true h]; exact (iteF (h2 h))
  · rw [decide_eq_false h]; exact (iteT (h1 h))
end
section
variable {σ : St} {H : Hp} {Q : VK} {K : PySem.W.Frag}
theorem g_ixl {p : Addr} {xs : List V} {i : Int} {v : V} (h : SqL K H p xs) (e : atI xs i = some v) (q : Q v H) : rIxL K (.ref p) (.int i) H Q := ⟨p, xs, i, v, rfl, rfl, h, e, q⟩
theorem g_ixt {p : Addr} {xs : List V} {i : Int} {v : V} (h : SqT K H p xs) (e : atI xs i = some v) (q : Q v H) : rIxT K (.ref p) (.int i) H Q := ⟨p, xs, i, v, rfl, rfl, h, e, q⟩
theorem g_dgets {d : Addr} {y v : V} {N : V → Prop} (h : DGet H d y (some v)) (q : N v) : ∃ a v1, V.ref d = .ref a ∧ DGet H a y (some v1) ∧ N v1 := ⟨d, v, rfl, h, q⟩
theorem g_dputs {d : Addr} {y v : V} {H' : Hp} {N : Hp → Prop} (h : DPut H d y v H') (q : N H') : ∃ a H4, V.ref d = .ref a ∧ DPut H a y v H4 ∧ N H4 := ⟨d, H', rfl, h, q⟩
end
section
variable {X : Cx} {x : Str} {pos : Pos} {z : Str} {i : Int} {t : Tok} {n : String}
theorem pe_gs (hg : Gl X x) (hm : X.mg x = some (.str z t)) (hdb : (x == ("__debug__" : Str)) = false := by decide) : PE X (.Name x pos) (tC (.str z)) := pe_glob (v := .str z) hg hm ⟨t, rfl⟩ hdb
theorem pe_gi (hg : Gl X x) (hm : X.mg x = some (.int i t)) (hdb : (x == ("__debug__" : Str)) = false := by decide) : PE X (.Name x pos) (tC (.int i)) := pe_glob (v := .int i) hg hm ⟨t, rfl⟩ hdb
theorem pe_ty (hg : Gl X x) (hm : X.mg x = none) (hv : bootBuiltins x = some (.type n)) (hn : x ≠ "__name__" := by decide) (hdb : (x == ("__debug__" : Str)) = false := by decide) : PE X (.Name x pos) (tC (.ty n)) := pe_bltn (v := .ty n) hg hm hv rfl hn hdb
end
/-! names for readings that have none -/
section
variable {X : Cx} {H : Hp} {Q : VK} {K : PySem.W.Frag} {σ : St} {ta tb : TE}
def rLen1 (K : PySem.W.Frag) : List V → Hp → VK → Prop := fun xs H Q => ∃ p ys, xs = [.ref p] ∧ (SqL K H p ys ∨ SqT K H p ys) ∧ Q (.int ys.length) H
theorem call_len1 : CallR X (.builtin "len") (rLen1 X.K) := call_len_seq
theorem g_len {p : Addr} {ys : List V} (h : SqL K H p ys) (q : Q (.int ys.length) H) : rLen1 K [.ref p] H Q := ⟨p, ys, rfl, Or.inl h, q⟩
theorem g_lent {p : Addr} {ys : List V} (h : SqT K H p ys) (q : Q (.int ys.length) H) : rLen1 K [.ref p] H Q := ⟨p, ys, rfl, Or.inr h, q⟩
def rLenZ : List V → Hp → VK → Prop := fun xs H Q => ∃ z, xs = [.str z] ∧ z.length ≤ sizeLine ∧ Q (.int z.length) H
theorem call_lenZ : CallR X (.builtin "len") rLenZ := call_len_str
theorem g_lenz {z : Str} (h : z.length ≤ sizeLine) (q : Q (.int z.length) H) : rLenZ [.str z] H Q := ⟨z, rfl, h, q⟩
def rMin1 : List V → Hp → VK → Prop := fun xs H Q => ∃ i j, xs = [.int i, .int j] ∧ Q (.int (if j < i then j else i)) H
theorem call_min1 (hc : X.calm = true) : CallR X (.builtin "min") rMin1 := call_min2 hc
theorem g_min {i j : Int} (q : Q (.int (if j < i then j else i)) H) : rMin1 [.int i, .int j] H Q := ⟨i, j, rfl, q⟩
def rMax1 : List V → Hp → VK → Prop := fun xs H Q => ∃ i j, xs = [.int i, .int j] ∧ Q (.int (if j > i then j else i)) H
theorem call_max1 (hc : X.calm = true) : CallR X (.builtin "max") rMax1 := call_max2 hc
theorem g_max {i j : Int} (q : Q (.int (if j > i then j else i)) H) : rMax1 [.int i, .int j] H Q := ⟨i, j, rfl, q⟩
def rOrd1 : List V → Hp → VK → Prop := fun xs H Q => ∃ x, xs = [.str x] ∧ x.length = 1 ∧ Q (.int (x.cps.getD 0 0 : Nat)) H
theorem call_ord1 : CallR X (.builtin "ord") rOrd1 := call_ord
theorem g_ord {c : Nat} (q : Q (.int (c : Nat)) H) : rOrd1 [.str ⟨#[c]⟩] H Q := ⟨_, rfl, rfl, q⟩
def rCatZ : R2 := fun x y H Q => ∃ i j, x = .str i ∧ y = .str j ∧ i.length + j.length ≤ sizeLine ∧ Q (.str (i ++ j)) H
theorem op_addZ : OpR X (binaryOp .Add) rCatZ := op_add_str
theorem g_addz {i j : Str} (h : i.length + j.length ≤ sizeLine) (q : Q (.str (i ++ j)) H) : rCatZ (.str i) (.str j) H Q := ⟨i, j, rfl, rfl, h, q⟩
def rLtZ : R2 := fun x y H Q => ∃ i j, x = .str i ∧ y = .str j ∧ Q (.bl (decide (i.cps.toList < j.cps.toList))) H
theorem op_ltZ : OpR X (compareOp .Lt) rLtZ := op_lt_str
theorem g_ltz {i j : Str} (q : Q (.bl (decide (i.cps.toList < j.cps.toList))) H) : rLtZ (.str i) (.str j) H Q := ⟨i, j, rfl, rfl, q⟩
theorem g_isn {x : V} (q : Q (.bl (decide (x = .non))) H) : rIsN x .non H Q := ⟨rfl, q⟩
theorem g_notn {x : V} (q : Q (.bl (!decide (x = .non))) H) : rNotN x .non H Q := ⟨rfl, q⟩
theorem g_inS {c : Nat} {z : Str} (q : Q (.bl (decide (c ∈ z.cps.toList))) H) : rInS (.str ⟨#[c]⟩) (.str z) H Q := ⟨c, z, rfl, rfl, q⟩
theorem g_notInS {c : Nat} {z : Str} (q : Q (.bl (!decide (c ∈ z.cps.toList))) H) : rNotInS (.str ⟨#[c]⟩) (.str z) H Q := ⟨c, z, rfl, rfl, q⟩
theorem g_ixz {z : Str} {i : Int} {c : Nat} (h : z.length ≤ sizeLine) (e : atI z.cps.toList i = some c) (q : Q (.str ⟨#[c]⟩) H) : rIxS (.str z) (.int i) H Q := ⟨z, i, c, rfl, rfl, h, e, q⟩
theorem g_isi {x c : V} {t u : Value} {b : Bool} (k : ClsV c u) (ty : TyX K H x t) (e : PySem.W.kitOne K t u = some b) (q : Q (.bl b) H) : rIsi K [x, c] H Q := ⟨x, c, t, u, b, rfl, k, ty, e, q⟩
theorem g_all {a : Addr} {bs : List Bool} (h : SqL K H a (bs.map V.bl)) (q : Q (.bl (bs.all id)) H) : rAll K [.ref a] H Q := ⟨a, bs, rfl, h, q⟩
theorem g_any {a : Addr} {bs : List Bool} (h : SqL K H a (bs.map V.bl)) (q : Q (.bl (bs.any id)) H) : rAny K [.ref a] H Q := ⟨a, bs, rfl, h, q⟩
theorem g_cats {l b : Addr} {xs zs : List V} (h1 : SqL K H l xs) (h2 : SqL K H b zs) (h3 : xs.length + zs.length ≤ sizeLine) (q : ∀ p, H p = none → Q (.ref p) (upd H p (.lst (xs ++ zs)))) : rCatS K (.ref l) (.ref b) H Q := ⟨l, b, xs, zs, rfl, rfl, h1, h2, h3, q⟩
theorem g_eqd {x y : V} {d e : PyData} (h1 : Dp K H x d) (h2 : Dp K H y e) (s1 : SeqAt.shaped d = true) (s2 : SeqAt.shaped e = true) (q : Q (.bl (PyData.eqv d e)) H) : rEqD K x y H Q := ⟨d, e, h1, h2, s1, s2, q⟩
theorem g_ned {x y : V} {d e : PyData} (h1 : Dp K H x d) (h2 : Dp K H y e) (s1 : SeqAt.shaped d = true) (s2 : SeqAt.shaped e = true) (q : Q (.bl (!PyData.eqv d e)) H) : rNeD K x y H Q := ⟨d, e, h1, h2, s1, s2, q⟩
theorem g_sl {tl th : TO} {r : V → Option Int → Option Int → Hp → VK → Prop} (h : ta σ H fun x H1 => tl σ H1 fun l H2 => th σ H2 fun u H3 => r x l u H3 Q) : tSl r ta tl th σ H Q := h
theorem g_nop {Q : Option Int → Hp → Prop} (h : Q none H) : tNoPart σ H Q := h
theorem g_part {Q : Option Int → Hp → Prop} (h : ta σ H fun x H1 => ∃ i, x = .int i ∧ Q (some i) H1) : tPart ta σ H Q := h
theorem g_int {i : Int} {N : Int → Prop} (q : N i) : ∃ j, V.int i = .int j ∧ N j := ⟨i, rfl, q⟩
theorem g_slz {z : Str} {lo hi : Option Int} (h : z.length ≤ sizeLine) (q : Q (.str (cutS z lo hi)) H) : rSlS (.str z) lo hi H Q := ⟨z, rfl, h, q⟩
theorem g_m1 {r : V → List V → Hp → VK → Prop} (h : ta σ H fun x H1 => (∃ a, x = .str a) ∧ tb σ H1 fun y H2 => r x [y] H2 Q) : tM1 r ta tb σ H Q := h
theorem g_m0 {r : V → List V → Hp → VK → Prop} (h : ta σ H fun x H1 => (∃ a, x = .str a) ∧ r x [] H1 Q) : tM0 r ta σ H Q := h
theorem g_isz {z : Str} {N : Prop} (h : N) : (∃ a, V.str z = .str a) ∧ N := ⟨⟨z, rfl⟩, h⟩
def rJoinV (K : PySem.W.Frag) : V → List V → Hp → VK → Prop := fun x xs H Q => ∃ a p, ∃ ys : List Str, x = .str a ∧ xs = [.ref p] ∧ (SqL K H p (ys.map V.str) ∨ SqT K H p (ys.map V.str)) ∧ (ys.map (·.length)).sum + ys.length * a.length ≤ 16777216 ∧ Q (.str (Txt.join a ys)) H
theorem mt_joinV : MtR X "str.join" (rJoinV X.K) := mt_join
theorem g_join {a : Str} {p : Addr} {ys : List Str} (h : SqL K H p (ys.map V.str)) (hs : (ys.map (·.length)).sum + ys.length * a.length ≤ 16777216) (q : Q (.str (Txt.join a ys)) H) : rJoinV K (.str a) [.ref p] H Q := ⟨a, p, ys, rfl, rfl, Or.inl h, hs, q⟩
def rUpV : V → List V → Hp → VK → Prop := fun x xs H Q => ∃ a, x = .str a ∧ xs = [] ∧ a.length ≤ 5592405 ∧ Q (.str (Txt.upper a)) H
theorem mt_upV : MtR X "str.upper" rUpV := mt_upper
theorem g_up {a : Str} (h : a.length ≤ 5592405) (q : Q (.str (Txt.upper a)) H) : rUpV (.str a) [] H Q := ⟨a, rfl, rfl, h, q⟩
theorem g_bm {T : String} {r : V → List V → Hp → VK → Prop} {tr : TA} (h : ta σ H fun x H1 => tyV K T x H1 ∧ tr σ H1 fun xs H2 => r x xs H2 Q) : tBM K T r ta tr σ H Q := h
theorem g_append {l : Addr} {xs : List V} {y : V} (h : H l = some (.lst xs)) (hs : xs.length < sizeLine) (q : Q .non (upd H l (.lst (xs ++ [y])))) : rAppend (.ref l) [y] H Q := ⟨l, xs, y, rfl, rfl, h, hs, q⟩
theorem ty_list {l : Addr} {xs : List V} (h : H l = some (.lst xs)) : tyV K "list" (.ref l) H := Or.inl ⟨rfl, _, SqL.of h⟩
end
section
variable {σ : St} {H : Hp} {Q : VK} {ta tb : TE}
theorem g_pcons {r : List (TE × TE)} {Q : List (V × V) → Hp → Prop} (h : ta σ H fun x H1 => tb σ H1 fun y H2 => tPairs r σ H2 fun ps H3 => Q ((x, y) :: ps) H3) : tPairs ((ta, tb) :: r) σ H Q := h
theorem g_yes {Q : Bool → Hp → Prop} (h : Q true H) : tYes σ H Q := h
theorem g_pnil {Q : List (V × V) → Hp → Prop} (h : Q [] H) : tPairs [] σ H Q := h
theorem g_disp {trs : List (TE × TE)} (h : ∀ p, H p = none → tPairs trs σ (upd H p (.dK [])) fun ps H2 => H2 p = some (.dK []) ∧ ∃ kvs : List (Key × V), ps = kvs.map (fun kv => (kV kv.1, kv.2)) ∧ kvs.length ≤ 15 ∧ Q (.ref p) (upd H2 p (.dK (mergeK [] kvs)))) : tDisp trs σ H Q := h
end
theorem same_new {H : Hp} {p : Addr} {o : HO} (h : H p = none) : Same H (upd H p o) := fun b x e => by
  rw [upd_ne (ne_of_none e h)]
  exact e
theorem Same.sqt {K : PySem.W.Frag} {H H' : Hp} {a : Addr} {xs : List V} (e : Same H H') (h : SqT K H a xs) : SqT K H' a xs := by
  rcases h with (h | ⟨o, h⟩) | h
  · exact .inl (.inl (e _ _ h))
  · exact .inl (.inr ⟨o, e _ _ h⟩)
  · exact .inr h
theorem Same.mut {H H1 : Hp} {p : Addr} {o : HO} (s : Same H H1) (h : H p = none) : Same H (upd H1 p o) := fun b x e => by
  rw [upd_ne (ne_of_none e h)]
  exact s b x e
/-- an item of a list of ints -/
theorem atI_int {ns : List Int} {i : Int} (h0 : 0 ≤ i) (h1 : i < ns.length) : ∃ c, atI (ns.map V.int) i = some (.int c) := by
  have hi : i.toNat < ns.length := by omega
  refine ⟨ns[i.toNat], ?_⟩
  have e := atI_nat (xs := ns.map V.int) (j := i.toNat) (v := V.int ns[i.toNat]) (by rw [List.getElem?_map, List.getElem?_eq_getElem hi]; rfl)
  rw [Int.toNat_of_nonneg h0] at e
  exact e
end L2
namespace L2
open PySem
/-! ### any object that a law hands in -/
/-- the kinds of objects: what is needed of them -/
inductive AnyO (H : Hp) : V → Prop where
  | non : AnyO H .non
  | bl (b : Bool) : AnyO H (.bl b)
  | int (i : Int) : AnyO H (.int i)
  | str (s : Str) (h : s.length ≤ 10000) (h2 : PyData.strOk s = true) : AnyO H (.str s)
  | lst {a : Addr} {xs : List V} (h : H a = some (.lst xs)) : AnyO H (.ref a)
  | tup {a : Addr} {xs : List V} (h : H a = some (.tup xs)) : AnyO H (.ref a)
  | dic {a : Addr} {kvs : List (Key × V)} (h : H a = some (.dK kvs)) : AnyO H (.ref a)
theorem AnyO.same {H H' : Hp} {x : V} (a : AnyO H x) (s : Same H H') : AnyO H' x := by
  cases a with
  | non => exact .non
  | bl b => exact .bl b
  | int i => exact .int i
  | str z h h2 => exact .str z h h2
  | lst h => exact .lst (s _ _ h)
  | tup h => exact .tup (s _ _ h)
  | dic h => exact .dic (s _ _ h)
def isIntV : V → Bool | .int _ => true | .bl _ => true | _ => false
def isBlV : V → Bool | .bl _ => true | _ => false
def isStrV : V → Bool | .str _ => true | _ => false
theorem AnyO.kit {K : PySem.W.Frag} {H : Hp} {x : V} (a : AnyO H x) : ∃ t, TyX K H x t ∧ PySem.W.kitOne K t (.type "int") = some (isIntV x) ∧ PySem.W.kitOne K t (.type "bool") = some (isBlV x) ∧ PySem.W.kitOne K t (.type "str") = some (isStrV x) := by
  cases a with
  | non => exact ⟨_, .base .non, kit_ty (r := false) (by decide +kernel), kit_ty (r := false) (by decide +kernel), kit_ty (r := false) (by decide +kernel)⟩
  | bl b => exact ⟨_, .base (.bl b), kit_ty (r := true) (by decide +kernel), kit_ty (r := true) (by decide +kernel), kit_ty (r := false) (by decide +kernel)⟩
  | int i => exact ⟨_, .base (.int i), kit_ty (r := true) (by decide +kernel), kit_ty (r := false) (by decide +kernel), kit_ty (r := false) (by decide +kernel)⟩
  | str z h h2 => exact ⟨_, .base (.str z), kit_ty (r := false) (by decide +kernel), kit_ty (r := false) (by decide +kernel), kit_ty (r := true) (by decide +kernel)⟩
  | lst h => exact ⟨_, .base (.lst h), kit_ty (r := false) (by decide +kernel), kit_ty (r := false) (by decide +kernel), kit_ty (r := false) (by decide +kernel)⟩
  | tup h => exact ⟨_, .base (.tup h), kit_ty (r := false) (by decide +kernel), kit_ty (r := false) (by decide +kernel), kit_ty (r := false) (by decide +kernel)⟩
  | dic h => exact ⟨_, .base (.dK h), kit_ty (r := false) (by decide +kernel), kit_ty (r := false) (by decide +kernel), kit_ty (r := false) (by decide +kernel)⟩
section
variable {X : Cx} {H : Hp} {Q : VK} {K : PySem.W.Frag} {σ : St} {ta tb te : TE}
theorem g_isint {x : V} (a : AnyO H x) (q : Q (.bl (isIntV x)) H) : rIsi K [x, .ty "int"] H Q := by
  obtain ⟨t, h1, h2, h3, h4⟩ := a.kit (K := K)
  exact g_isi (.ty _) h1 h2 q
theorem g_isbl {x : V} (a : AnyO H x) (q : Q (.bl (isBlV x)) H) : rIsi K [x, .ty "bool"] H Q := by
  obtain ⟨t, h1, h2, h3, h4⟩ := a.kit (K := K)
  exact g_isi (.ty _) h1 h3 q
theorem g_isstr {x : V} (a : AnyO H x) (q : Q (.bl (isStrV x)) H) : rIsi K [x, .ty "str"] H Q := by
  obtain ⟨t, h1, h2, h3, h4⟩ := a.kit (K := K)
  exact g_isi (.ty _) h1 h4 q
def rLeZ : R2 := fun x y H Q => ∃ i j, x = .str i ∧ y = .str j ∧ Q (.bl (!decide (j.cps.toList < i.cps.toList))) H
theorem op_leZ : OpR X (compareOp .LtE) rLeZ := op_le_str
theorem g_lez {i j : Str} (q : Q (.bl (!decide (j.cps.toList < i.cps.toList))) H) : rLeZ (.str i) (.str j) H Q := ⟨i, j, rfl, rfl, q⟩
/-! ### comprehensions over the signs of a text whose steps make nothing -/
theorem g_lc {wi : TI} {g : TG} {tt : TT} {vs : List Nat} (h : wi σ H fun J H1 => ∀ D, H1 D = none → ∃ W : Nat → Nat → Hp → Prop, (∃ m, W 0 m (upd H1 D (.lst []))) ∧ ∀ i m H, W i m H →
  (J.stop i H ∧ Q (.ref D) H) ∨ (J.go i H ∧ ∃ Nx : Hp → Prop, (∀ H', Nx H' → ∃ m', m' < m ∧ W (i + 1) m' H') ∧ ∀ x H', J.yld i H x H' → g x (wipe σ vs) H' fun σ2 H2 => wipe σ2 vs = wipe σ vs ∧ tt σ2 H2 fun b H3 =>
    if b = true then te σ2 H3 fun y H4 => ∃ acc, H4 D = some (.lst acc) ∧ acc.length < sizeLine ∧ Nx (upd H4 D (.lst (acc ++ [y]))) else Nx H3)) : tLc wi g tt te vs σ H Q := h
theorem lc_str {x : Str} {g : TG} {tt : TT} {te : TE} {vs : List Nat} {σ : St} {H1 : Hp} {D : Addr} {Qd : Hp → Prop} (p : Nat → Bool) (f : Nat → V) (hz : x.length ≤ 100000)
    (hs : ∀ c acc (Nx : Hp → Prop), c ∈ x.cps.toList → (p c = true → ∀ H4 : Hp, H4 D = some (.lst acc) → H4 = upd H1 D (.lst acc) → ∃ acc', H4 D = some (.lst acc') ∧ acc'.length < sizeLine ∧ Nx (upd H4 D (.lst (acc' ++ [f c])))) → (p c = false → Nx (upd H1 D (.lst acc))) →
      g (.str ⟨#[c]⟩) (wipe σ vs) (upd H1 D (.lst acc)) fun σ2 H2 => wipe σ2 vs = wipe σ vs ∧ tt σ2 H2 fun b H3 => if b = true then te σ2 H3 fun y H4 => ∃ acc, H4 D = some (.lst acc) ∧ acc.length < sizeLine ∧ Nx (upd H4 D (.lst (acc ++ [y]))) else Nx H3)
    (hd : Qd (upd H1 D (.lst ((x.cps.toList.filter p).map f)))) :
    ∃ W : Nat → Nat → Hp → Prop, (∃ m, W 0 m (upd H1 D (.lst []))) ∧ ∀ i m H, W i m H →
      ((Its x).stop i H ∧ Qd H) ∨ ((Its x).go i H ∧ ∃ Nx : Hp → Prop, (∀ H', Nx H' → ∃ m', m' < m ∧ W (i + 1) m' H') ∧ ∀ y H', (Its x).yld i H y H' → g y (wipe σ vs) H' fun σ2 H2 => wipe σ2 vs = wipe σ vs ∧ tt σ2 H2 fun b H3 =>
        if b = true then te σ2 H3 fun y H4 => ∃ acc, H4 D = some (.lst acc) ∧ acc.length < sizeLine ∧ Nx (upd H4 D (.lst (acc ++ [y]))) else Nx H3) := by
  refine ⟨fun i m H => m = x.cps.size - i ∧ i ≤ x.cps.size ∧ H = upd H1 D (.lst (((x.cps.toList.take i).filter p).map f)), ⟨x.cps.size, by simp, Nat.zero_le _, rfl⟩, ?_⟩
  rintro i m H ⟨rfl, hi, rfl⟩
  by_cases hlt : i < x.cps.size
  · refine Or.inr ⟨hlt, fun H => H = upd H1 D (.lst (((x.cps.toList.take (i + 1)).filter p).map f)), fun H' e => ⟨x.cps.size - (i + 1), by omega, rfl, by omega, e⟩, ?_⟩
    rintro y H' ⟨rfl, c, hc, rfl⟩
    have hl : x.cps.toList[i]? = some c := by rw [Array.getElem?_toList]; exact hc
    have ht : x.cps.toList.take (i + 1) = x.cps.toList.take i ++ [c] := by rw [List.take_add_one, hl]; rfl
    refine hs c _ _ (List.mem_of_getElem? hl) (fun hp H4 e1 e2 => ⟨_, e1, ?_, ?_⟩) (fun hp => ?_)
    · rw [List.length_map]
      refine Nat.lt_of_le_of_lt (List.length_filter_le _ _) ?_
      rw [List.length_take]
      exact Nat.lt_of_le_of_lt (Nat.min_le_right _ _) (Nat.lt_of_le_of_lt (show x.cps.toList.length ≤ 100000 from hz) (by decide))
    · rw [e2, upd_upd, ht, List.filter_append, List.map_append]
      simp [hp]
    · rw [ht, List.filter_append]
      simp [hp]
  · have e : i = x.cps.size := by omega
    subst e
    refine Or.inl ⟨Nat.le_refl _, ?_⟩
    have et : x.cps.toList.take x.cps.size = x.cps.toList := List.take_of_length_le (by simp)
    rw [et]
    exact hd
end
end L2
namespace Mk
open PySem L2
/-! the marks: what the functions are worth -/
def btw (x : V) (lo hi : Int) : Bool := match x with
  | .int i => decide (lo ≤ i) && decide (i ≤ hi)
  | _ => false
def consists (x : V) (m : Str) : Bool := match x with
  | .str s => s.cps.toList.all fun c => decide (c ∈ m.cps.toList)
  | _ => false
def MARKS : Str := " !\"#$&'()*+,-./0123456789:;<=>?@ABCDEFGHIJKLMNOPQRSTUVWXYZ[\\]^_`abcdefghijklmnopqrstuvwxyz{|}~"
def LETS : Str := "ABCDEFGHIJKLMNOPQRSTUVWXYZabcdefghijklmnopqrstuvwxyz"
def LADS : Str := "ABCDEFGHIJKLMNOPQRSTUVWXYZabcdefghijklmnopqrstuvwxyz0123456789"
def NOAT : Str := " ()<>,;:@\""
def isPlain (x : V) : Bool := btw x 32 126 && !decide (x = .int 37)
def isCode (x : V) : Bool := isPlain x || btw x 160 65535
def isBody (x : V) : Bool := consists x MARKS
def isRaw (x : V) : Bool := consists x (MARKS ++ ("\n" : Str))
def isLabel (x : V) : Bool := match x with
  | .str s => consists x (LADS ++ ("-" : Str)) && decide (1 ≤ s.length) && decide (s.length ≤ 20) && (match s.cps.toList with | c :: _ => decide (c ∈ LETS.cps.toList) | [] => false)
  | _ => false
def isAtom (x : V) : Bool := match x with
  | .str s => isBody x && decide (s ≠ "") && !(s.cps.toList.any fun c => decide (c ∈ NOAT.cps.toList))
  | _ => false
theorem int_of {x : V} (h1 : isIntV x = true) (h2 : isBlV x = false) : ∃ i, x = .int i := by
  cases x with
  | int i => exact ⟨i, rfl⟩
  | bl b => cases h2
  | _ => cases h1
theorem str_of {x : V} (h1 : isStrV x = true) : ∃ s, x = .str s := by
  cases x with
  | str s => exact ⟨s, rfl⟩
  | _ => cases h1
theorem btw_no {x : V} {lo hi : Int} (h : isIntV x = false) : btw x lo hi = false := by
  cases x with
  | int i => cases h
  | _ => rfl
theorem btw_bl {x : V} {lo hi : Int} (h : isBlV x = true) : btw x lo hi = false := by
  cases x with
  | bl i => rfl
  | _ => cases h
theorem btw_int {x : V} {lo hi : Int} (h : btw x lo hi = true) : ∃ i, x = .int i ∧ lo ≤ i ∧ i ≤ hi := by
  cases x with
  | int i =>
    have h' : (decide (lo ≤ i) && decide (i ≤ hi)) = true := h
    rw [Bool.and_eq_true] at h'
    exact ⟨i, rfl, of_decide_eq_true h'.1, of_decide_eq_true h'.2⟩
  | _ => cases h
theorem cons_no {x : V} {m : Str} (h : isStrV x = false) : consists x m = false := by
  cases x with
  | str i => cases h
  | _ => rfl
theorem str_len {H : Hp} {s : Str} (a : AnyO H (.str s)) : s.length ≤ 10000 := by
  cases a with
  | str _ h _ => exact h
theorem str_ok {H : Hp} {s : Str} (a : AnyO H (.str s)) : PyData.strOk s = true := by
  cases a with
  | str _ _ h => exact h
/-! the promises -/
def spBetween : Sp := fun vs H Q _ => ∃ (x : V) (lo hi : Int), vs = [x, .int lo, .int hi] ∧ AnyO H x ∧ Q (.bl (btw x lo hi)) H
def spCons : Sp := fun vs H Q _ => ∃ (x : V) (m : Str), vs = [x, .str m] ∧ AnyO H x ∧ ∀ H', Same H H' → Q (.bl (consists x m)) H'
/-- a test of one object -/
def spTest (f : V → Bool) : Sp := fun vs H Q _ => ∃ (x : V), vs = [x] ∧ AnyO H x ∧ ∀ H', Same H H' → Q (.bl (f x)) H'
end Mk
namespace Mk
open PySem L2
def spNum : Sp := fun vs H Q _ => ∃ (x : V), vs = [x] ∧ AnyO H x ∧ Q (.bl (isIntV x && !isBlV x)) H
end Mk
namespace L2
open PySem
theorem atI_all {xs : List V} {p : V → Bool} {i : Int} (ha : xs.all p = true) (h0 : 0 ≤ i) (h1 : i < xs.length) : ∃ v, atI xs i = some v ∧ p v = true := by
  have hi : i.toNat < xs.length := by omega
  refine ⟨xs[i.toNat], ?_, List.all_eq_true.mp ha _ (List.getElem_mem hi)⟩
  have e := atI_nat (xs := xs) (j := i.toNat) (List.getElem?_eq_getElem hi)
  rw [Int.toNat_of_nonneg h0] at e
  exact e
theorem atI_mem {xs : List V} {i : Int} (h0 : 0 ≤ i) (h1 : i < xs.length) : ∃ v, atI xs i = some v ∧ v ∈ xs := by
  have hi : i.toNat < xs.length := by omega
  refine ⟨xs[i.toNat], ?_, List.getElem_mem hi⟩
  have e := atI_nat (xs := xs) (j := i.toNat) (List.getElem?_eq_getElem hi)
  rw [Int.toNat_of_nonneg h0] at e
  exact e
def strLe (n : Nat) : V → Bool
  | .str s => decide (s.length ≤ n) && PyData.strOk s
  | _ => false
theorem strLe_of {n : Nat} {v : V} (h : strLe n v = true) : ∃ s, v = .str s ∧ s.length ≤ n ∧ PyData.strOk s = true := by
  cases v with
  | str s =>
    have h' : (decide (s.length ≤ n) && PyData.strOk s) = true := h
    rw [Bool.and_eq_true] at h'
    exact ⟨s, rfl, of_decide_eq_true h'.1, h'.2⟩
  | _ => cases h
def isI : V → Bool
  | .int _ => true
  | _ => false
theorem isI_of {v : V} (h : isI v = true) : ∃ i, v = .int i := by
  cases v with
  | int i => exact ⟨i, rfl⟩
  | _ => cases h
theorem len_app {a b : Str} : (a ++ b).length = a.length + b.length := by
  show (a.cps ++ b.cps).size = _
  rw [Array.size_append]
  rfl
/-- all of a written list -/
theorem all_mem {p : V → Prop} {xs : List V} (h : ∀ v ∈ xs, p v) {v : V} (hv : v ∈ xs) : p v := h v hv
theorem fm_cons {p : V → Prop} {x : V} {xs : List V} (h : p x) (hs : ∀ v ∈ xs, p v) : ∀ v ∈ x :: xs, p v := fun v hv => by
  rcases List.mem_cons.mp hv with e | e
  · rw [e]; exact h
  · exact hs v e
theorem fm_nil {p : V → Prop} : ∀ v ∈ ([] : List V), p v := fun _ h => nomatch h
section
variable {H : Hp} {Q : VK} {K : PySem.W.Frag} {σ : St} {ta tb te : TE} {D : Ends}
theorem g_pick (pr : V → Bool) {p : Addr} {xs : List V} {i : Int} (h : H p = some (.lst xs)) (h0 : 0 ≤ i) (h1 : i < xs.length) (ha : xs.all pr = true) (q : ∀ v, pr v = true → Q v H) : rIxL K (.ref p) (.int i) H Q := by
  obtain ⟨v, e, hv⟩ := atI_all ha h0 h1
  exact g_ixl (SqL.of h) e (q v hv)
theorem g_pickP {pr : V → Prop} {p : Addr} {xs : List V} {i : Int} (h : H p = some (.lst xs)) (h0 : 0 ≤ i) (h1 : i < xs.length) (ha : ∀ v ∈ xs, pr v) (q : ∀ v, pr v → Q v H) : rIxL K (.ref p) (.int i) H Q := by
  obtain ⟨v, e, hv⟩ := atI_mem h0 h1
  exact g_ixl (SqL.of h) e (q v (ha v hv))
theorem g_par {i j : Nat} {tr : TA} (h : tr σ H fun vs H1 => ∃ v w, vs = [v, w] ∧ D.nx ((σ.set i (some v)).set j (some w)) H1) : tPar i j tr D σ H := h
theorem g_two {v w : V} {N : V → V → Prop} (h : N v w) : ∃ v1 w1, [v, w] = [v1, w1] ∧ N v1 w1 := ⟨v, w, rfl, h⟩
theorem g_dnew (h : ∀ p, H p = none → Q (.ref p) (upd H p (.dK []))) : tDNewK σ H Q := h
theorem g_gtup {n : Nat} {t : TGs} {a : Addr} {xs : List V} {Q : St → Hp → Prop} (h : SqT K H a xs) (hn : xs.length = n) (q : t xs σ H Q) : gTup K n t (.ref a) σ H Q := ⟨a, xs, rfl, h, hn, q⟩
theorem g_gcons {t : TG} {u : TGs} {v : V} {r : List V} {Q : St → Hp → Prop} (h : t v σ H fun σ' H' => u r σ' H' Q) : gCons t u (v :: r) σ H Q := ⟨v, r, rfl, h⟩
theorem g_gnil {Q : St → Hp → Prop} (h : Q σ H) : gNil [] σ H Q := ⟨rfl, h⟩
theorem g_kw0 {sp : Sp} {n : Nat} {ix : List Nat} {E : XK} {tr : TA} (h : tr σ H fun vs H1 => vs.length = n ∧ sp (picked V.non ix vs) H1 Q E) : tKw0 sp n ix E tr σ H Q := h
theorem g_repr {a : Addr} {d : PyData} (h : Dp K H (.ref a) d) (h1 : d.showable = true) (h2 : d.hasDict = false) (h3 : d.depth ≤ 20) (h4 : d.shown.length ≤ sizeLine) (q : Q (.str d.shown) H) : rRepr K [.ref a] H Q := ⟨a, d, rfl, h, h1, h2, h3, h4, q⟩
end
end L2
namespace L2
open PySem
theorem ap_list (a b : Str) : (a ++ b).cps.toList = a.cps.toList ++ b.cps.toList := by
  show (a.cps ++ b.cps).toList = _
  rw [Array.toList_append]
theorem sj_list : ∀ ys : List Str, (Str.join ("" : Str) ys).cps.toList = (ys.map fun y => y.cps.toList).flatten
  | [] => rfl
  | [x] => by
    show x.cps.toList = _
    simp
  | x :: y :: r => by
    show ((x ++ ("" : Str)) ++ Str.join ("" : Str) (y :: r)).cps.toList = _
    rw [ap_list, ap_list, sj_list (y :: r)]
    show (x.cps.toList ++ []) ++ _ = _
    rw [List.append_nil]
    rfl
theorem join_list (ys : List Str) : (Txt.join ("" : Str) ys).cps.toList = (ys.map fun y => y.cps.toList).flatten := by
  rw [show Txt.join ("" : Str) ys = Str.join ("" : Str) ys from PySem.StrLaws.glued_eq_join _ ys, sj_list]
theorem len_list (z : Str) : z.length = z.cps.toList.length := by
  show z.cps.size = _
  rw [Array.length_toList]
theorem join_len {ys : List Str} {b : Nat} (h : ∀ y ∈ ys, y.length ≤ b) : (Txt.join ("" : Str) ys).length ≤ ys.length * b := by
  rw [len_list, join_list]
  induction ys with
  | nil => exact Nat.zero_le _
  | cons y r ih =>
    rw [List.map_cons, List.flatten_cons, List.length_append, List.length_cons, Nat.add_mul, Nat.one_mul, Nat.add_comm]
    exact Nat.add_le_add (ih fun z hz => h z (List.mem_cons_of_mem _ hz)) (by rw [← len_list]; exact h y List.mem_cons_self)
theorem sum_len {ys : List Str} {b : Nat} (h : ∀ y ∈ ys, y.length ≤ b) : (ys.map (·.length)).sum ≤ ys.length * b := by
  induction ys with
  | nil => exact Nat.zero_le _
  | cons y r ih =>
    rw [List.map_cons, List.sum_cons, List.length_cons, Nat.add_mul, Nat.one_mul, Nat.add_comm]
    exact Nat.add_le_add (ih fun z hz => h z (List.mem_cons_of_mem _ hz)) (h y List.mem_cons_self)
section
variable {H : Hp} {Q : VK} {K : PySem.W.Frag}
theorem g_pickz {z : Str} {i : Int} (h : z.length ≤ sizeLine) (h0 : 0 ≤ i) (h1 : i < z.length) (q : ∀ c, c ∈ z.cps.toList → Q (.str ⟨#[c]⟩) H) : rIxS (.str z) (.int i) H Q := by
  have hi : i.toNat < z.cps.toList.length := by rw [← len_list]; omega
  have e := atI_nat (xs := z.cps.toList) (j := i.toNat) (List.getElem?_eq_getElem hi)
  rw [Int.toNat_of_nonneg h0] at e
  exact g_ixz h e (q _ (List.getElem_mem hi))
end
end L2
namespace L2
theorem AnyO.kp {d : PySem.Addr} {H H' : Hp} {x : V} (a : AnyO H x) (k : Dr.Kp d H H') (n : x ≠ .ref d) : AnyO H' x := by
  cases a with
  | non => exact .non
  | bl b => exact .bl b
  | int i => exact .int i
  | str z h h2 => exact .str z h h2
  | lst h => exact .lst (k _ _ (fun e => n (by rw [e])) h)
  | tup h => exact .tup (k _ _ (fun e => n (by rw [e])) h)
  | dic h => exact .dic (k _ _ (fun e => n (by rw [e])) h)
end L2
namespace L2
open PySem
theorem for_str {x : Str} {g : TG} {tb : TS} {D : Ends} {σ : St} {H : Hp} (Pv : Nat → St → Hp → Prop) (h0 : Pv 0 σ H)
    (hs : ∀ i c σ H, x.cps.toList[i]? = some c → Pv i σ H → g (.str ⟨#[c]⟩) σ H fun σ2 H2 => tb { D with nx := Pv (i + 1), ct := Pv (i + 1), bk := D.nx } σ2 H2) (hd : ∀ σ H, Pv x.length σ H → D.nx σ H) :
    ∃ W : Nat → Nat → St → Hp → Prop, (∃ m, W 0 m σ H) ∧ ∀ i m σ H, W i m σ H → ((Its x).stop i H ∧ D.nx σ H) ∨ ((Its x).go i H ∧ ∃ N : St → Hp → Prop, (∀ σ' H', N σ' H' → ∃ m', m' < m ∧ W (i + 1) m' σ' H') ∧
      ∀ y H', (Its x).yld i H y H' → g y σ H' fun σ2 H2 => tb { D with nx := N, ct := N, bk := D.nx } σ2 H2) := by
  refine ⟨fun i m σ H => m = x.length - i ∧ i ≤ x.length ∧ Pv i σ H, ⟨x.length, by simp, Nat.zero_le _, h0⟩, ?_⟩
  rintro i m σ H ⟨rfl, hi, p⟩
  by_cases hlt : i < x.length
  · refine Or.inr ⟨hlt, Pv (i + 1), fun σ' H' p' => ⟨x.length - (i + 1), by omega, rfl, hlt, p'⟩, ?_⟩
    rintro y H' ⟨rfl, c, hc, rfl⟩
    exact hs i c σ _ (by rw [Array.getElem?_toList]; exact hc) p
  · have e : i = x.length := by omega
    subst e
    exact Or.inl ⟨Nat.le_refl _, hd σ H p⟩
theorem one_lt {a b : Nat} : (([a] : List Nat) < [b]) ↔ a < b := by
  constructor
  · intro h
    rcases List.cons_lt_cons_iff.mp h with h | ⟨_, h⟩
    · exact h
    · exact absurd h (List.lt_irrefl [])
  · intro h
    exact List.cons_lt_cons_iff.mpr (Or.inl h)
theorem len_pos {z : Str} (h : 1 ≤ z.length) : ∃ c r, z.cps.toList = c :: r := by
  rw [len_list] at h
  cases hq : z.cps.toList with
  | nil => rw [hq] at h; exact absurd h (by decide)
  | cons c r => exact ⟨c, r, rfl⟩
/-- data of a list of texts -/
theorem dp_strs {K : PySem.W.Frag} {H : Hp} : ∀ ys : List Str, DpAll K H (ys.map V.str) (ys.map PyData.str)
  | [] => .nil
  | y :: r => .cons (.str y) (dp_strs r)
theorem dp_bools {K : PySem.W.Frag} {H : Hp} : ∀ bs : List Bool, DpAll K H (bs.map V.bl) (bs.map PyData.bool)
  | [] => .nil
  | b :: r => .cons (.bl b) (dp_bools r)
theorem eqv_nil (ds : List PyData) : PyData.eqv (.list ds) (.list []) = ds.isEmpty := by
  cases ds with
  | nil => rfl
  | cons d r => rfl
end L2
namespace L2
open PySem
theorem cla_strs : ∀ ys : List Str, (∀ y ∈ ys, PyData.strOk y = true) → PyData.canLayAll0 (ys.map PyData.str) = true
  | [], _ => by simp only [List.map_nil, PyData.canLayAll0]
  | y :: r, h => by
    simp only [List.map_cons, PyData.canLayAll0, PyData.canLay0, Bool.and_eq_true]
    exact ⟨h y List.mem_cons_self, cla_strs r fun z hz => h z (List.mem_cons_of_mem _ hz)⟩
theorem dep_strs : ∀ ys : List Str, PyData.depthAll (ys.map PyData.str) ≤ 1
  | [] => by simp only [List.map_nil, PyData.depthAll]; decide
  | y :: r => by
    have := dep_strs r
    simp only [List.map_cons, PyData.depthAll, PyData.depth]
    omega
theorem shaped_strs {ys : List Str} (h : ∀ y ∈ ys, PyData.strOk y = true) : SeqAt.shaped (.list (ys.map PyData.str)) = true := by
  have h1 := dep_strs ys
  have h2 : PyData.depth (.list (ys.map PyData.str)) ≤ 64 := by simp only [PyData.depth]; omega
  show (PyData.canLay0 _ && decide (PyData.depth _ ≤ 64)) = true
  rw [Bool.and_eq_true]
  refine ⟨?_, decide_eq_true h2⟩
  simp only [PyData.canLay0]
  exact cla_strs ys h
theorem sok_app {a b : Str} (ha : PyData.strOk a = true) (hb : PyData.strOk b = true) : PyData.strOk (a ++ b) = true := by
  show (a.cps ++ b.cps).all _ = true
  rw [Array.all_append, Bool.and_eq_true]
  exact ⟨ha, hb⟩
theorem sok_iff {a : Str} : PyData.strOk a = true ↔ ∀ c ∈ a.cps.toList, c < 0x110000 := by
  show a.cps.all _ = true ↔ _
  rw [Array.all_eq_true_iff_forall_mem]
  constructor
  · intro h c hc
    exact of_decide_eq_true (h c (by simpa using hc))
  · intro h c hc
    exact decide_eq_true (h c (by simpa using hc))
theorem sok_join {ys : List Str} (h : ∀ y ∈ ys, PyData.strOk y = true) : PyData.strOk (Txt.join ("" : Str) ys) = true := by
  rw [sok_iff, join_list]
  intro c hc
  obtain ⟨l, hl, hc⟩ := List.mem_flatten.mp hc
  obtain ⟨y, hy, rfl⟩ := List.mem_map.mp hl
  exact sok_iff.mp (h y hy) c hc
theorem sok_cut {z : Str} (h : PyData.strOk z = true) (lo hi : Option Int) : PyData.strOk (cutS z lo hi) = true := by
  rw [sok_iff]
  intro c hc
  have hc' : c ∈ (z.cps.toList.drop (HT.sIx z.length 0 lo)).take (HT.sIx z.length z.length hi - HT.sIx z.length 0 lo) := by simpa [cutS] using hc
  exact sok_iff.mp h c (List.mem_of_mem_drop (List.mem_of_mem_take hc'))
theorem sok_mem {z : Str} {c : Nat} (h : PyData.strOk z = true) (hc : c ∈ z.cps.toList) : PyData.strOk ⟨#[c]⟩ = true := by
  rw [sok_iff]
  intro d hd
  have : d = c := by simpa using hd
  rw [this]
  exact sok_iff.mp h c hc
end L2
namespace L2
open PySem
theorem g_ifnn {A B : Prop} {p : Prop} [Decidable p] (h1 : p → A) (h2 : ¬ p → B) : if (!!decide p) = true then A else B := by
  rw [Bool.not_not]
  exact g_ifd h1 h2
theorem lt_sp {c : Nat} : (⟨#[c]⟩ : Str).cps.toList < (" " : Str).cps.toList ↔ c < 32 := by
  rw [show (" " : Str).cps.toList = [32] by decide +kernel]
  exact one_lt
theorem lt_tl {c : Nat} : ("~" : Str).cps.toList < (⟨#[c]⟩ : Str).cps.toList ↔ 126 < c := by
  rw [show ("~" : Str).cps.toList = [126] by decide +kernel]
  exact one_lt
end L2
namespace XS
open PySem PySem.W PySem.Calls
/-- an own error class under ValueError whose __init__ calls the one above it with a written text, then keeps its one argument -/
structure ErrC (prog : Program) (K : Frag) (C fI : Addr) (par fld : Str) : Prop where
  cls : ∃ nm q N bs bm sn sub ab col dd k0 k1 k2 k3 k5, K.lookup C = some (excClassObj nm q C N bs bm true sn sub ab col dd k0 k1 k2 k3 k5 "ValueError.__new__") ∧ HandSPX.refsVE bm = true ∧ alongIn K "__init__" bm = some (some (.builtin "ValueError.__init__"))
  init : findIn K (.ref C) "__init__" = some (some (.ref fI))
  ityp : typeIn K (.ref fI) = some (.type "function")
  sa : findIn K (.ref C) "__setattr__" = some (some (.builtin "object.__setattr__"))
  nf : findIn K (.ref C) fld = some none
  exC : subIn K (.ref C) (.type "BaseException") = some true
  veC : subIn K (.ref C) (.type "ValueError") = some true
  meC : mroIn K C (.ref C) = some true
  tyC : typeIn K (.ref C) = some (.type "type")
  kC : keepIn K (.ref C) = true
  opq : nsIn K cStatics "thirdparty.any" = some none
  fn : ∃ (qual : Str) (params : Arguments) (body : List Stmt) (scope : Scope) (oc kV doc pm ct ccl cl : Value) (od an cdd cld : Option Addr) (osl ccs csl : Array (Option Value)) (cda cc : Addr) (vs : Array Value) (file : Str) (tf : Tok),
    K.lookup fI = some ⟨oc, od, .func (fnX "__init__" qual params body scope [("__class__", cc)] .none kV doc pm an (.ref cda) ct), osl⟩ ∧ codeIn K (.ref cda) qual = true ∧
    K.lookup cda = some ⟨ccl, cdd, .fields vs, ccs⟩ ∧ vs[2]? = some (.str file tf) ∧ ((prog.main.file : Str) == file) = true ∧ K.lookup cc = some ⟨cl, cld, .cell (some (.ref C)), csl⟩ ∧
    (∃ ar, (params.posonlyargs ++ params.args).head? = some ar ∧ ar.arg = ("self" : Str)) ∧
    (∃ (msg : Str) (j : Nat) (p0 p1 p2 p3 p4 p5 p6 p7 p8 p9 : Pos), body = [.Expr (.Call (.Attribute (.Call (.Name "super" p0) [] [] p1) "__init__" p2) [.Constant (.str msg) j p3] [] p4) p5, .Assign [.Attribute (.Name "self" p6) fld p7] (.Name par p8) p9] ∧
      (∃ pl : Env → Sem Bool, ∀ env : Env, eval (.Call (.Attribute (.Call (.Name "super" p0) [] [] p1) "__init__" p2) [.Constant (.str msg) j p3] [] p4) env = (do
        let ov ← attributeBase (.Call (.Name "super" p0) [] [] p1) "__init__" env (eval (.Call (.Name "super" p0) [] [] p1) env)
        standAt p2.atName
        let (f, first) ← holding [ov] (getMethod ov "__init__" (pl env))
        callWith p4 f first (backTo p4 (starEach [.Constant (.str msg) j p3] env)) [])) ∧
      (∀ env : Env, swapsWith (.Call (.Attribute (.Call (.Name "super" p0) [] [] p1) "__init__" p2) [.Constant (.str msg) j p3] [] p4) none p5.line env = pure false) ∧
      (∀ env : Env, swapsWith (.Name par p8) (some (.Attribute (.Name "self" p6) fld p7)) p9.line env = pure false) ∧ msg.length ≤ 1000) ∧
    (∀ (s : Shared) (x u : Value), BindsTo s (fnX "__init__" qual params body scope [("__class__", cc)] .none kV doc pm an (.ref cda) ct) ⟨[x, u], []⟩ [("self", x), (par, u)]) ∧
    scope.kind = .function ∧ scope.isCoroutine = false ∧ scope.isGenerator = false ∧ (∀ x ∈ scope.names, x.2 ≠ .cell) ∧
    scope.names.lookup ("super" : Str) = some .globalImplicit ∧ scope.names.lookup ("__class__" : Str) = some .free ∧ scope.names.lookup ("self" : Str) = some .local ∧ scope.names.lookup par = some .local
  sup : nsIn K mainGlobals "super" = some none
  top : (prog.main.scope.names.lookup ("super" : Str)).isSome = false
  psf : (par == ("self" : Str)) = false
  pdb : (par == ("__debug__" : Str)) = false
theorem drop_own (C : Addr) (l : List Value) : ((Value.ref C :: l).dropWhile (· != .ref C)).drop 1 = l := by simp [List.dropWhile_cons]
section
variable {prog : Program} {w : World} {A : Around} {K : Frag} {C fI a t0 : Addr} {par fld : Str} {u : Value} {mg mb : Str → Option Value} {R : Result → Shared → Prop}
/-- the bound __init__ of the class above, called -/
theorem call_mw {h : Heap} {g : Array GenState} {d : Drawn} {tk : Nat} {os : OsState} {uw : Addr} {rest : List Value} {nm q : Str} {N : Addr} {bs bm sub : List Value} {sn : List Str} {ab : Bool} {col : Option Bool} {dd : Option Addr} {k0 k1 k2 k3 k5 : Option Value} {Q : Value → Shared → Prop} {E : Value → Shared → Prop}
    (hu : h.get? uw = some (kxs_mw "ValueError.__init__" a)) (hC : h.get? C = some (excClassObj nm q C N bs bm true sn sub ab col dd k0 k1 k2 k3 k5 "ValueError.__new__")) (he : h.get? a = some (HandSPX.excO C t0)) (hz : rest.length ≤ sizeLine)
    (hq : ∀ h', (∀ b o, b ≠ a → h.get? b = some o → h'.get? b = some o) → h'.get? a = some (HandSPX.excO C h.objs.size) → Q .none ⟨h', g, d, tk, os⟩) :
    wpAny (model prog w) A (call (.ref uw) rest) Q E ⟨h, g, d, tk, os⟩ := by
  refine wpAny_call (codeAny_of_tree ?_)
  show wpAny _ A.in1 (callAny (.ref uw) ⟨rest, []⟩) _ _ _
  unfold callAny
  refine wpAny_bind (wpAny_load hu ?_)
  simp (decide := true) only [kxs_mw, if_true]
  refine wpAny_bind (check_bound_init F.excBase_ValueError.toExcCallFacts hC he rfl ?_)
  refine wpAny_bind (wpAny_pure (wpAny_pure ?_))
  refine ⟨plainId_quiet F.excBase_ValueError.init.plain _, codeAny_builtin F.excBase_ValueError.initEntry ?_⟩
  exact exc_init_tree (cls := .ref C) (t0 := t0) (dv := none) (c2 := .none) (c3 := .none) (b4 := .bool false) he hz fun h' k e1 _ => hq h' k e1
theorem err_code {s : Shared} (X : K.In s.heap) (hg : s.heap.Ns mainGlobals mg) (hb : s.heap.Ns builtinsNs mb) (hbb : ∀ x : Str, x ≠ "__name__" → mb x = bootBuiltins x) (hlim : s.heap.NoLimit) (T : ErrC prog K C fI par fld) (hroom : A.depth < recursionLimit)
    (ha : s.heap.get? a = some (HandSPX.excO C t0)) (hK : K.lookup a = none) (hL : K.lookup s.heap.objs.size = none)
    (h : ∀ h' tk t1 dx, (∀ b o, b ≠ a → s.heap.get? b = some o → h'.get? b = some o) → h'.get? a = some { cls := .ref C, dict := some dx, data := .fields #[.ref t1, .none, .none, .none, .bool false, .none] } → s.heap.objs.size ≤ dx → dx ≠ a →
      h'.Ns1 dx (fun y => if y = fld then some u else none) → R (.ok (.ret .none)) { s with heap := h', toks := tk }) :
    codeAny (model prog w) A (.call (.ref fI) ⟨[.ref a, u], []⟩) R s := by
  obtain ⟨nm, q, N, bs, bm, sn, sub, ab, col, dd, k0, k1, k2, k3, k5, lC, hbm, hal⟩ := T.cls
  obtain ⟨qual, params, body, scope, oc, kV, doc, pm, ct, ccl, cl, od, an, cdd, cld, osl, ccs, csl, cda, cc, vs, file, tf, lf, hcd, lcd, hvs, hfile, lcc, ⟨ar, har, hself⟩, ⟨msg, j, p0, p1, p2, p3, p4, p5, p6, p7, p8, p9, hbody, ⟨pl, hev⟩, hw1, hw2, hmsg⟩, hbind, hk, hco, hgen, hcell, hsu, hcl, hsl, hpl⟩ := T.fn
  have hloc : ∀ x ∈ [(("self" : Str), Value.ref a), (par, u)], scope.names.lookup x.1 = some .local := by
    intro x hx
    rcases List.mem_cons.mp hx with e | hx
    · rw [e]; exact hsl
    · rw [List.mem_singleton.mp hx]; exact hpl
  refine ks_codeAny_call_defAt (body := body) (binds := [("self", .ref a), (par, u)]) hroom (X _ _ lf) rfl hlim (codeRec_of X hcd) rfl (hbind s (.ref a) u) hcell hloc (fun h1 hns kk1 => ?_) hco hgen hk
  subst hbody
  have X1 : K.In h1 := X.keeps kk1
  have hg1 : h1.Ns mainGlobals mg := hg.keeps kk1
  have hb1 : h1.Ns builtinsNs mb := hb.keeps kk1
  have ha1 := kk1 _ _ ha
  have hC1 := X1 _ _ lC
  have eself : (fun x => [(("self" : Str), Value.ref a), (par, u)].reverse.lookup x) ar.arg = some (.ref a) := by
    rw [hself]
    show List.lookup ("self" : Str) [(par, u), ("self", Value.ref a)] = _
    rw [List.lookup_cons, show (("self" : Str) == par) = false from by rw [beq_eq_false_iff_ne]; exact fun z => (beq_eq_false_iff_ne.mp T.psf) z.symm, List.lookup_cons, beq_self_eq_true]
  have epar : (fun x => [(("self" : Str), Value.ref a), (par, u)].reverse.lookup x) par = some u := by
    show List.lookup par [(par, u), ("self", Value.ref a)] = _
    rw [List.lookup_cons, beq_self_eq_true]
  refine ks_wpAt_execs_cons (ks_wpAt_Expr_any ?_ (by show interactive _ = false; simp [interactive, callEnv, newEnv, hk]) (hw1 _))
  refine ks_wpAt_MethodCall ?_ (hev _)
  refine ks_wpAt_super_base hsu hcl (by decide) rfl (X1 _ _ lf) rfl har rfl (X1 _ _ lcd) rfl hvs hfile T.top ?_
  refine ks_loadName_global hk hsu (loadGlobal_builtin hg1 (mg_none_of X1 hg1 T.sup) hb1 ((hbb _ (by decide +kernel)).trans (by decide +kernel)) ⟨rfl, ?_⟩)
  refine wpAny_loadName_free hk hcl rfl ⟨_, X1 _ _ lcc, rfl⟩ ?_
  refine wpAny_loadName_local hk (by rw [hself]; exact hsl) hns eself ?_
  obtain ⟨hp0, g, d, tk0, os⟩ := s
  refine ks_wpAny_isType_cls hC1 rfl ⟨rfl, ?_⟩
  refine ks_wpAny_call_super (C := C) hC1 rfl ha1 rfl (fun c e => by cases e) (looks_mroIn X1 T.meC) (fun h2 e2 kk2 => ?_)
  have X2 : K.In h2 := X1.keeps kk2
  have hcl2 : clsIn K C = some { name := nm, bases := bs, mro := .ref C :: bm, ns := N, qualname := q, hasDict := true, slotNames := sn, subclasses := sub, abstract := ab, collection := col, hasDel := false } := by unfold clsIn; rw [lC]
  have I2 : InstAt h2 a (HandSPX.excO C t0) C none := ⟨kk2 _ _ ha1, rfl, rfl, trivial⟩
  refine kxs_getMethod kxs_ValueError e2 (looks_opaque X2 T.opq) (l₀ := .ref C :: bm) (fun A Q E s k q => wpAny_bind ((looks_clsIn X2 hcl2) A _ E s k (wpAny_pure q))) (drop_own C bm) X2 hal (I2.type.andThen (looks_subIn X2 T.veC)) (ks_ne X2 I2 hcl2) (by decide) ?_
  have kk3 : ∀ b o, h2.get? b = some o → (h2.push (kxs_mw "ValueError.__init__" a)).get? b = some o := fun b o e => Heap.get?_push_of_some _ e
  have hu3 : (h2.push (kxs_mw "ValueError.__init__" a)).get? h2.objs.size = some (kxs_mw "ValueError.__init__" a) := Heap.get?_push_at rfl rfl
  refine kxs_callWith (i := "ValueError.__init__") (x := a) (by rfl) (evalArgs_plain (spliced_cons (Constant_str (pos := p3) (k := j) (spliced_nil ⟨hu3, ?_⟩))))
  refine call_mw hu3 (kk3 _ _ (X2 _ _ lC)) (kk3 _ _ (kk2 _ _ ha1)) (by show 1 ≤ sizeLine; decide) fun h4 kk4 e4 => ?_
  -- self.fld = par
  have kk14 : ∀ b o, b ≠ a → h1.get? b = some o → h4.get? b = some o := fun b o n e => kk4 b o n (kk3 _ _ (kk2 _ _ e))
  have X4 : K.In h4 := fun b o e => kk14 b o (fun z => by rw [z, hK] at e; cases e) (X1 b o e)
  have hns4 : h4.Ns hp0.objs.size (fun x => [(("self" : Str), Value.ref a), (par, u)].reverse.lookup x) := by
    obtain ⟨o, es, ep, e, dd2, r⟩ := hns
    have na : hp0.objs.size ≠ a := fun z => absurd (Heap.lt_size ha) (by rw [← z]; exact Nat.lt_irrefl _)
    exact ⟨o, es, ep, kk14 _ _ na e, dd2, r⟩
  refine ks_wpAt_execs_cons (wpAt_of_wpAny (plainObj_wpAny_Assign_Attribute (ESX.ldL hns4 epar (ESX.ldL hns4 (by show List.lookup ("self" : Str) [(par, u), ("self", Value.ref a)] = some (.ref a); rw [List.lookup_cons, show (("self" : Str) == par) = false from by rw [beq_eq_false_iff_ne]; exact fun z => (beq_eq_false_iff_ne.mp T.psf) z.symm, List.lookup_cons, beq_self_eq_true]) ?_ hk hsl (by decide)) hk hpl T.pdb) (hw2 _)))
  have hcl4 : clsIn K C = some { name := nm, bases := bs, mro := .ref C :: bm, ns := N, qualname := q, hasDict := true, slotNames := sn, subclasses := sub, abstract := ab, collection := col, hasDel := false } := hcl2
  refine set_plain X4 (ox := _) (od := none) ⟨e4, rfl, rfl, trivial⟩ T.sa ?_
  refine HandSPX.exc_osa X4 e4 hcl4 (show HandSPX.refsVE (.ref C :: bm) = true from hbm) rfl T.nf (fun h5 tk5 dx kk5 hdx hda e5 ns5 => ?_)
  refine wpAt_of_wpAny (wpAny_pure ?_)
  have hlt : hp0.objs.size < h4.objs.size := by
    obtain ⟨o, es, ep, e, _⟩ := hns4
    exact Heap.lt_size e
  exact h h5 tk5 _ dx (fun b o n e => kk5 b o n (kk14 b o n (kk1 b o e))) e5 (Nat.le_of_lt (Nat.lt_of_lt_of_le hlt hdx)) hda ns5
end
end XS
namespace L2
open PySem PySem.Spec PyProof.Rows
section
variable {X : Cx} {C fI : Addr} {par fld x : Str} {p pos : Pos} {e : Expr} {te : TE}
/-- what the making of such an error reads: its own dict is new -/
def tMkE (C : Addr) (fld : Str) (te : TE) : St → Hp → XK → Prop := fun σ H Q => te σ H fun v H1 => ∀ d, H1 d = none → Q (.ref C) (some d) (upd H1 d (.xd [(fld, v)]))
theorem pmk_err (T : XS.ErrC X.prog X.K C fI par fld) (hr : Room 1 X.A) (hg : Gl X x) (hm : X.mg x = some (.ref C)) (ha : PE X e te) (hdb : (x == ("__debug__" : Str)) = false := by decide)
    (he : starEach [e] X.env = (false, eval e X.env) :: starEach [] X.env := by rfl) : PMk X (.Call (.Name x p) [e] [] pos) (tMkE C fld te) := by
  intro pins s σ H Q I h
  obtain ⟨nm, q, N, bs, bm, sn, sub, ab, col, dd, k0, k1, k2, k3, k5, hC, hbm, _⟩ := T.cls
  refine wpAny_Call_Name_kw (ld_glob I hg hm ?_ hdb)
  refine PySem.W.callWith_K (h₀ := X.base) I.ok.mod.kin T.kC ?_ he (by rfl)
  rw [he]
  show wpAny _ _ (spliced ((false, eval e X.env) :: backTo pos (starEach [] X.env))) _ _ s
  refine Calls.spliced_cons (thn (ha.run pins s σ H _ I h) fun u s1 ⟨v, H1, I1, r1, q1⟩ => Calls.spliced_nil ⟨I1.kIn, ?_⟩)
  show wpAny _ _ (call (.ref C) [u]) _ _ _
  obtain ⟨hp, g, dr, tk, os⟩ := s1
  have kk : ∀ b o, hp.get? b = some o → ((hp.push (PySem.W.kdv_tup [u])).push (PySem.HandSPX.excO C hp.objs.size)).get? b = some o := fun b o z => Heap.get?_push_of_some _ (Heap.get?_push_of_some _ z)
  have hget : ((hp.push (PySem.W.kdv_tup [u])).push (PySem.HandSPX.excO C hp.objs.size)).get? (hp.objs.size + 1) = some (PySem.HandSPX.excO C hp.objs.size) := by heap_get
  have hK : ∀ b, hp.objs.size ≤ b → X.K.lookup b = none := fun b hb => by
    cases z : X.K.lookup b with
    | none => rfl
    | some o => exact absurd (Heap.lt_size (I1.kIn b o z)) (Nat.not_lt.mpr hb)
  have hsz2 : ((hp.push (PySem.W.kdv_tup [u])).push (PySem.HandSPX.excO C hp.objs.size)).objs.size = hp.objs.size + 2 := by
    simp [Heap.push]
  obtain ⟨mb, hb1, hb2⟩ := I1.mod.blt
  have kb : ∀ b o, X.base.get? b = some o → ((hp.push (PySem.W.kdv_tup [u])).push (PySem.HandSPX.excO C hp.objs.size)).get? b = some o := fun b o z => kk b o (I1.bk b o z)
  refine wpAny_call (PySem.HandSPX.call_own F.excBase_ValueError (fun Y => PySem.HandSPX.refsVE_contains Y bm hbm) (I1.kIn _ _ hC) (PySem.W.looks_findIn I1.kIn T.init) (fun self => PySem.W.bind_fn I1.kIn self T.ityp) (by show 1 ≤ sizeLine; decide) ?_)
  refine XS.err_code (mg := X.mg) (mb := mb) (I1.ok.mod.kin.keeps kb) (I1.mod.glob.keeps kb) (hb1.keeps kb) hb2 (I1.mod.nolimit.keeps kb) T (hr.make C [u] []).depth hget (hK _ (Nat.le_succ _)) (hK _ (by rw [hsz2]; exact Nat.le_add_right _ 2)) fun h5 tk5 t1 dx k5 e5 hdx hda n5 => ?_
  rw [hsz2] at hdx
  obtain ⟨G, g1, g2⟩ := restrict h5 fun b => decide (b ≠ hp.objs.size + 1)
  have gk : ∀ b, b ≠ hp.objs.size + 1 → G.get? b = h5.get? b := fun b hb => g1 b (decide_eq_true hb)
  have ge : G.get? (hp.objs.size + 1) = none := g2 _ (by simp)
  have kG : ∀ b o, hp.get? b = some o → G.get? b = some o := fun b o z => by
    have nb : b ≠ hp.objs.size + 1 := Nat.ne_of_lt (Nat.lt_succ_of_lt (Heap.lt_size z))
    rw [gk b nb]
    exact k5 b o nb (kk b o z)
  have J := I1.laid (t' := tk5) (a := dx) (o := .xd [(fld, v)]) (h' := G) kG (Nat.le_trans (Nat.le_add_right _ 2) hdx) ⟨_, n5.at fun o y => (gk dx hda).trans y, fun f => by
    show RelO (List.lookup f [(fld, v)]) _
    rw [lookup_put]
    by_cases hf : f = fld
    · rw [if_pos hf, if_pos hf]
      exact r1
    · rw [if_neg hf, if_neg hf]
      exact True.intro⟩
  have na : H1 (hp.objs.size + 1) = none := I1.hok.fresh (Nat.le_succ _)
  have nd : H1 dx = none := I1.hok.fresh (Nat.le_trans (Nat.le_add_right _ 2) hdx)
  refine ⟨rfl, hp.objs.size + 1, _, _, ⟨G, g, dr, tk5, os⟩, _, .ref C, some dx, rfl, J, fun b o z => ?_, ge, e5, ⟨rfl, rfl⟩, rfl, rfl, ?_, rfl, I1.bare, raises_own T.exC T.tyC, q1 dx nd⟩
  · by_cases hb : b = hp.objs.size + 1
    · rw [hb, ge] at z
      cases z
    · exact (gk b hb).symm.trans z
  · rw [upd_ne (Ne.symm hda)]
    exact na
end
end L2
namespace L2
open PySem PySem.Spec PyProof.Rows
open PySem.W (exmOne exmAny exm_one exm_tup3 Looks)

/-- a caught error, kept: its object at a, of the class cls, its dict d -/
def held (a : Addr) (cls : Value) (d : Option Addr) : HO := .ext fun h => ∃ (oe : Obj) (vs : Array Value), h.get? a = some oe ∧ Zc cls d oe ∧ oe.data = .fields vs
theorem held_ok {P : Program} {w : World} {H : Hp} {h : Heap} {a : Addr} {cls : Value} {d : Option Addr} {oe : Obj} {vs : Array Value} (e : h.get? a = some oe) (z : Zc cls d oe) (f : oe.data = .fields vs) : ObjOk P w H h a (held a cls d) :=
  ⟨⟨oe, vs, e, z, f⟩, ⟨oe, e⟩, fun _ _ ⟨o, v, q, r⟩ k => ⟨o, v, k o q, r⟩⟩
theorem flying_more {B h h' : Heap} {l : List Env} {a : Addr} {Z : Obj → Prop} (x : HandSPX.FlyingZ B l a Z h) (k : ∀ b o, h.get? b = some o → h'.get? b = some o) : HandSPX.FlyingZ B l a Z h' := by
  obtain ⟨x1, x2, x3, oe, vs, T, oT, ts, e1, e2, e3, e4, e5, e6, e7, e8, e9⟩ := x
  exact ⟨fun b o q => k b o (x1 b o q), x2, x3.of_keeps fun b o q _ => ⟨o, k b o q, rfl⟩, oe, vs, T, oT, ts, k _ _ e1, e2, e3, e4, e5, e6, k _ _ e7, e8, e9⟩
section
variable {X : Cx} {pins : List (Addr × Obj)} {σ : St} {H : Hp} {sI s' : Shared} {B : Heap}
/-- on the ground again, the error's object tracked from here on -/
theorem landed_held {a : Addr} {cls : Value} {d : Option Addr} {oe : Obj} {vs : Array Value} (I : Inv X pins σ H sI) (nb : ∀ b o, sI.heap.get? b = some o → b ∉ frs X.stack → B.get? b = some o) (st : B.StaysIn s'.heap) (up : sI.heap.UpToSlots s'.heap)
    (os : s'.os = sI.os) (ag : AllBare s'.gens) (na : sI.heap.get? a = none) (hn : H a = none) (e : s'.heap.get? a = some oe) (z : Zc cls d oe) (f : oe.data = .fields vs) : Inv X pins σ (upd H a (held a cls d)) s' := by
  have nea : ∀ b o, sI.heap.get? b = some o → b ≠ a := fun b o q c => by rw [c, na] at q; cases q
  have neH : ∀ b o, H b = some o → b ≠ a := fun b o q c => by rw [c, hn] at q; cases q
  have fr : ∀ b, b ∈ frs X.stack → ∀ o, sI.heap.get? b = some o → ∃ sl, s'.heap.get? b = some { o with slots := sl } := fun b hb o q => by
    obtain ⟨_, o', q', hd⟩ := I.stack.mem hb
    rw [q] at q'; cases q'
    exact up b o q hd
  have u : Un (frs X.stack) [] H (upd H a (held a cls d)) sI.heap s'.heap := by
    refine ⟨fun b o q _ hb _ => st b o (nb b o q hb), fun b o q _ hb _ => fr b hb o q, fun b o q n _ => ?_, fun b o q _ => ?_, fun b xs q => ?_, fun b o xs q => ?_, fun b ps q => ⟨#[], ?_⟩⟩
    · rw [upd_ne (nea b o q)]
      exact n
    · by_cases hb : b ∈ frs X.stack
      · obtain ⟨sl, q2⟩ := fr b hb o q
        exact ⟨_, q2⟩
      · exact ⟨o, st b o (nb b o q hb)⟩
    · rw [upd_ne (neH _ _ q)]
      exact q
    · rw [upd_ne (neH _ _ q)]
      exact q
    · rw [upd_ne (neH _ _ q), q]
      simp
  have hk : HOk X.prog X.w (upd H a (held a cls d)) s'.heap := HOk.laidN ((I.inGround nb).kept st) (fun _ _ q => q) hn (held_ok e z f)
  have J := I.call (ch := []) (h' := s'.heap) (g' := s'.gens) (t' := s'.toks) (d' := s'.drawn) u hk ag (fun _ q => nomatch q)
  obtain ⟨b1, b2, b3, b4, b5⟩ := s'
  obtain rfl : b5 = sI.os := os
  exact J
theorem Inv.inSuite (I : Inv X pins σ H sI) (a : Addr) : Inv (X.suite a (X.pn ++ pins)) [] σ H sI :=
  ⟨I.ok.suite _ _, I.os, I.bare, I.base, I.loc, I.cell, I.free, I.freeC, fun p hp => I.pin p (by rw [List.append_nil] at hp; exact hp), I.hok, I.len⟩
theorem Inv.outSuite {a : Addr} {pn' : List (Addr × Obj)} (I : Inv (X.suite a (X.pn ++ pins)) pn' σ H sI) (ok : X.Ok) : Inv X pins σ H sI :=
  ⟨ok, I.os, I.bare, I.base, I.loc, I.cell, I.free, I.freeC, fun p hp => I.pin p (List.mem_append_left _ hp), I.hok, I.len⟩
end
/-- what the type of a clause tells of the errors of a class -/
def Tells (X : Cx) (tt : Expr) (m : Value → Option Bool) : Prop :=
  ∀ (a : Addr) (pn : List (Addr × Obj)) (σ : St) (H : Hp) (s : Shared) (cls : Value) (b : Bool) (Q : Bool → Shared → Prop) (E : Value → Shared → Prop), Inv (X.suite a pn) [] σ H s → Looks (model X.prog X.w) s.heap (typeOf (.ref a)) cls → m cls = some b →
    (∀ h', (∀ c o, s.heap.get? c = some o → h'.get? c = some o) → Q b { s with heap := h' }) →
    wpAny (model X.prog X.w) (X.A.mark (some (.ref a))) (eval tt X.env) (fun c s₁ => wpAny (model X.prog X.w) (X.A.mark (some (.ref a))) (excMatches (.ref a) c) Q E s₁) E s
section
variable {X : Cx}
theorem ld_named {a : Addr} {pn : List (Addr × Obj)} {σ : St} {H : Hp} {s : Shared} {x : Str} {c : Value} {np : Pos} {Q : Value → Shared → Prop} {E : Value → Shared → Prop} (I : Inv (X.suite a pn) [] σ H s) (hc : Names X x c) (q : Q c s) :
    wpAny (model X.prog X.w) (X.A.mark (some (.ref a))) (eval (.Name x np) X.env) Q E s := by
  obtain ⟨hg, hd, hm | ⟨hm, hv, hn⟩⟩ := hc
  · exact ld_glob (X := X.suite a pn) I hg hm q hd
  · exact ld_blt (X := X.suite a pn) I hg hm hv q hn hd
theorem tells_one {x : Str} {c : Value} {np : Pos} (hc : Names X x c) : Tells X (.Name x np) (fun cls => exmOne X.K cls c) := fun a pn σ H s cls b Q E I L hb q =>
  ld_named I hc ((exm_one I.kIn L hb).here (q s.heap fun _ _ z => z))
theorem tells_three {x1 x2 x3 : Str} {c1 c2 c3 : Value} {p1 p2 p3 tp : Pos} {kk : Nat} (n1 : Names X x1 c1) (n2 : Names X x2 c2) (n3 : Names X x3 c3) : Tells X (.Tuple [.Name x1 p1, .Name x2 p2, .Name x3 p3] kk tp) (fun cls => exmAny X.K cls [c1, c2, c3]) := fun a pn σ H s cls b Q E I L hb q => by
  refine wpAny_Tuple (wpAny_items_cons (ld_named I n1 (wpAny_items_cons (ld_named I n2 (wpAny_items_cons (ld_named I n3 (wpAny_items_nil ⟨by size_fits, ?_⟩)))))))
  have k : ∀ c o, s.heap.get? c = some o → (s.heap.push { cls := .type "tuple", data := .seq [c1, c2, c3].toArray }).get? c = some o := fun _ _ z => Heap.get?_push_of_some _ z
  exact (exm_tup3 (I.kIn.keeps k) (L.keeps k) (Heap.get?_push_size s.heap rfl) hb).here (q _ k)
/-- what 'except .. as n' wishes where the caught error stays -/
def wHeld (m : Value → Option Bool) (i : Nat) (ts : TS) (Wout : WX) (D : Ends) : WX := fun cls d σ H =>
  ∃ b, m cls = some b ∧ (b = true → ∀ a, H a = none → ts { nx := fun σ' H' => D.nx (σ'.set i none) H', rt := D.rt, bk := fun σ' H' => D.bk (σ'.set i none) H', ct := fun σ' H' => D.ct (σ'.set i none) H' } (σ.set i (some (.ref a))) (upd H a (held a cls d))) ∧
    (b = false → Wout cls d σ H)
variable {n : Str} {i : Nat} {body suite : List Stmt} {b₀ : Stmt} {tt : Expr} {m : Value → Option Bool} {pos pos' : Pos} {tb : WX → TS} {ts : TS} {Wout : WX}
theorem ps_try_held (hs : X.stack = X.env :: X.outer) (hf : X.env.frame = some X.env.locals) (hN : X.N.Nodup) (hi : X.N[i]? = some n) (hln : X.env.kindOf n = some .local) (ht : Tells X tt m) (tk : Takes X Wout)
    (hb : ∀ (W : WX) (pn : List (Addr × Obj)) (xe : Value → Shared → Prop), Takes (X.tr pn xe) W → PassesOwn (model X.prog X.w) X.A X.env xe → PSs (X.tr pn xe) body (tb W))
    (hsu : ∀ (a : Addr) (pn : List (Addr × Obj)), PSs (X.suite a pn) (b₀ :: suite) ts) :
    PS X (.Try body [.ExceptHandler (some tt) (some n) (b₀ :: suite) pos'] [] [] pos) (fun D σ H => tb (wHeld m i ts Wout D) D σ H) := by
  refine ⟨fun pins s σ H D I h => ?_⟩
  have ok := I.ok
  have hfr : X.A.frames = some (X.env :: X.outer) := by rw [ok.frames, hs]
  refine wpAny_Try_except (wpAny_mono ((hb (wHeld m i ts Wout D) (X.pn ++ pins) (fun e s₁ => wpAny (model X.prog X.w) X.A (noteFrame e X.env) (fun _ s₂ => wpAny (model X.prog X.w) X.A (setFlight e none) (fun _ s₃ =>
    wpAny (model X.prog X.w) X.A (handleBy e X.env [.ExceptHandler (some tt) (some n) (b₀ :: suite) pos']) (SP X pins D) X.xe s₃) X.xe s₂) X.xe s₁) (fun u s' xx => ?_) PassesOwn.looking).run [] s σ H D (I.toTry _) h) (fun f s1 hsp => ?_) (fun _ _ z => z))
  · obtain ⟨a, B, sI, pins', σ', H', cls, d, rfl, J', nb, up, sky, na, os, ag, b, hmb, hyes, hno⟩ := xx
    have J : Inv X pins σ' H' sI := J'.ofTry ok
    have sky' : Sky B (X.env :: X.outer) a (Zc cls d) X.env.locals s'.heap := by rw [← hs]; exact sky
    show wpAny (model X.prog X.w) X.A (noteFrame (.ref a) X.env) _ _ _
    refine Sky.land Zc.steady hfr hf sky' fun h1 fl1 up1 => ?_
    obtain ⟨oe1, vs1, he1, hz1, hd1⟩ := fl1.there
    have out : a ∉ frs X.stack := fun hm => by
      rw [hs] at hm
      obtain ⟨_, o', e', hnf⟩ := fl1.2.2.1.mem hm
      rw [he1] at e'; cases e'
      exact hnf _ hd1
    have naI : sI.heap.get? a = none := by
      cases q : sI.heap.get? a with
      | none => rfl
      | some o => exact absurd (nb a o q out) (by rw [fl1.2.1]; exact fun z => nomatch z)
    have J1 : Inv X pins σ' H' { s' with heap := h1 } := J.landed nb fl1.1 (up.trans up1) os ag
    refine wpAny_handleBy_cons (codeAny_handlers_test ?_) (by intro q; cases q)
    refine ht a (X.pn ++ pins) σ' H' _ cls b _ _ (Inv.inSuite J1 a) (fun A Q E s k q => wpAny_typeOf_ref (k _ _ he1) (by rw [hz1.1]; exact q)) hmb fun h2 k2 => ?_
    have fl2 : HandSPX.FlyingZ B (X.env :: X.outer) a (Zc cls d) h2 := flying_more fl1 k2
    have up2 : sI.heap.UpToSlots h2 := (up.trans up1).trans (Heap.UpToSlots.of_keeps k2)
    cases b with
    | true =>
      refine codeAny_handlers_suite_as ?_
      refine HandSPX.lands_againZ fl2 fun h3 fl3 up3 => ?_
      obtain ⟨oe3, vs3, he3, hz3, hd3⟩ := fl3.there
      have J3 : Inv X pins σ' (upd H' a (held a cls d)) { s' with heap := h3 } := landed_held J nb fl3.1 (up2.trans up3) os ag naI na he3 hz3 hd3
      refine store_ok (X := X.suite a (X.pn ++ pins)) (v := .ref a) (Inv.inSuite J3 a) hN hi (.inl hln) rfl (fun s5 S5 => ?_) (.inr hln)
      refine wpAny_mono ((hsu a (X.pn ++ pins)).run [] s5 _ _ _ S5 (hyes rfl a na)) (fun f s6 hsp => ?_) (fun _ _ z => False.elim z)
      have fin : ∀ {σ6 : St} {H6 : Hp} {Q : Shared → Prop}, Inv (X.suite a (X.pn ++ pins)) [] σ6 H6 s6 → (∀ s7, Inv X pins (σ6.set i none) H6 s7 → Q s7) →
          wpAny (model X.prog X.w) X.A (do bindName X.env n .none; unbindBehindTheSuite X.env n pos') (fun _ s7 => Q s7) X.xe s6 := fun S6 hq => gone_ok (Inv.outSuite S6 ok) hN hi hln hq
      cases f with
      | next =>
        obtain ⟨σ6, H6, S6, q6⟩ := hsp
        exact fin S6 fun s7 J7 => ⟨_, _, J7, q6⟩
      | brk =>
        obtain ⟨σ6, H6, S6, q6⟩ := hsp
        exact fin S6 fun s7 J7 => ⟨_, _, J7, q6⟩
      | cont =>
        obtain ⟨σ6, H6, S6, q6⟩ := hsp
        exact fin S6 fun s7 J7 => ⟨_, _, J7, q6⟩
      | ret u =>
        obtain ⟨v6, σ6, H6, S6, r6, q6⟩ := hsp
        exact fin S6 fun s7 J7 => ⟨_, _, _, J7, r6, q6⟩
    | false =>
      show wpAny _ X.A (handleBy (.ref a) X.env []) _ _ _
      refine wpAny_handleBy_nil ?_
      obtain ⟨k1, k2', k3, oe, vs, T, oT, ts', he, hz, hd, h1', hr⟩ := id fl2
      unfold PySem.passOn
      refine wpAny_bind (wpAny_field he hd h1' ?_)
      rw [if_neg (show ¬ ((Value.ref T == Value.none) = true) from by simp)]
      have go : wpAny (model X.prog X.w) X.A (setFlight (.ref a) X.env.frame) (fun _ s4 => wpAny (model X.prog X.w) X.A (throw (.ref a) : Sem Flow) (SP X pins D) X.xe s4) X.xe { s' with heap := h2 } := by
        rw [hf]
        exact HandSPX.setFlight_upZ fl2 fun h4 hh4 up4 => wpAny_throw (tk _ _ ⟨a, B, sI, pins, σ', H', cls, d, rfl, J, nb, up2.trans up4, .inr (.inr (by rw [hs]; exact hh4)), na, os, ag, hno rfl⟩)
      first
        | exact wpAny_bind (wpAny_pure (wpAny_bind go))
        | exact wpAny_bind go
  · cases f with
    | next =>
      obtain ⟨σ', H', J', q⟩ := hsp
      exact wpAny_execs_nil ⟨σ', H', J'.ofTry ok, q⟩
    | brk =>
      obtain ⟨σ', H', J', q⟩ := hsp
      exact ⟨σ', H', J'.ofTry ok, q⟩
    | cont =>
      obtain ⟨σ', H', J', q⟩ := hsp
      exact ⟨σ', H', J'.ofTry ok, q⟩
    | ret u =>
      obtain ⟨v, σ', H', J', r, q⟩ := hsp
      exact ⟨v, σ', H', J'.ofTry ok, r, q⟩
end
end L2
namespace L2
open PySem PySem.Spec PyProof.Rows
/-! ### a call by keywords alone that may raise -/
def tKw0S (sp : Sp) (n : Nat) (ix : List Nat) (E : St → XK) (t : TA) : TE := fun σ H Q => t σ H fun vs H1 => vs.length = n ∧ sp (picked V.non ix vs) H1 Q (E σ)
section
variable {X : Cx} {CX : CXT} {k : Nat} {f : Addr} {fd : FuncData} {ps ks : List Str} {sp : Sp} {E : St → XK} {x : Str} {p pos : Pos} {kws : List Keyword} {t : TA} {ix : List Nat}
theorem pe_kw0S (F : FnOk X.prog X.w X.K X.mg X.base CX k f fd ps sp) (hr : Room k X.A) (hg : Gl X x) (hm : X.mg x = some (.ref f)) (hk : PySem.W.keepIn X.K (.ref f) = true) (hb : KwB X.K fd ps ks ix) (hx : ∀ σ, PassesAt CX X σ (E σ))
    (ha : PK X kws t) (hall : (backToKw pos (keywordEach kws X.env)).all (·.1.isSome) = true := by rfl) (hks : (backToKw pos (keywordEach kws X.env)).filterMap (·.1) = ks := by rfl) (hdb : (x == ("__debug__" : Str)) = false := by decide)
    (hpl : ((backTo pos (starEach [] X.env)).any (·.1) || (backToKw pos (keywordEach kws X.env)).any (·.1.isNone)) = false := by rfl) : PE X (.Call (.Name x p) [] kws pos) (tKw0S sp ks.length ix E t) := by
  refine ⟨fun pins s σ H Q I h => wpAny_Call_Name_kw (ld_glob I hg hm ?_ hdb)⟩
  refine PySem.W.callWith_KW0 (h₀ := X.base) I.ok.mod.kin hk hall (thn (ha.run pos pins s σ H _ I h) fun ws s2 ⟨zs, H2, I2, rz, hl, q2⟩ => ⟨I2.kIn, ?_⟩) hpl
  rw [hks]
  have r2 := picked_vals rz ix
  refine wpAny_call (codeAny_mono (F.run X.A X.stack s2 H2 ⟨[], ks.zip ws⟩ (picked Value.none ix ws) (picked V.non ix zs) Q (E σ) hr I2.env0 (hb.2 s2 ws I2.kIn (rz.length.symm.trans hl)) r2 q2) fun o s3 hq => ?_)
  match o, hq with
  | .error e, hq => exact hx σ pins H2 s2 e s3 I2 hq
  | .ok (.ret u), hq => exact I2.after hq
end
/-! ### what is asked of a caught error that was kept -/
theorem held_get {X : Cx} {pins : List (Addr × Obj)} {σ : St} {H : Hp} {s : Shared} {a C dd : Addr} {fs : List (Str × V)} (I : Inv X pins σ H s) (h : H a = some (held a (.ref C) (some dd))) (hf : H dd = some (.xd fs)) :
    ∃ (oe od : Obj) (mA : Str → Option Value), PySem.W.InstAt s.heap a oe C (some od) ∧ (∀ n, PySem.W.lookIn n od = some (mA n)) ∧ ∀ f, RelO (fs.lookup f) (mA f) := by
  obtain ⟨⟨oe, vs, ha, hz, hd⟩, _, _⟩ := I.hok a _ h
  obtain ⟨mA, hns, hr⟩ := I.hok dd _ hf
  obtain ⟨od, ho, hl⟩ := lookIn_ns hns
  exact ⟨oe, od, mA, ⟨ha, hz.1, by unfold PySem.W.notCls; rw [hd] <;> rfl, by rw [hz.2]; exact ho⟩, hl, hr⟩
/-- e.f, e a kept error -/
def tHeld (K : PySem.W.Frag) (n : Str) (te : TE) : TE := fun σ H Q => te σ H fun x H1 => ∃ (a C dd : Addr) (fs : List (Str × V)) (v : V), x = .ref a ∧ H1 a = some (held a (.ref C) (some dd)) ∧ H1 dd = some (.xd fs) ∧ fs.lookup n = some v ∧ XfC K C ∧ PySem.W.findIn K (.ref C) n = some none ∧ Q v H1
theorem pe_held {X : Cx} {e : Expr} {te : TE} {pos : Pos} {n : Str} (he : PE X e te) (hb : attributeBase e n X.env (eval e X.env) = eval e X.env := by rfl) : PE X (.Attribute e n pos) (tHeld X.K n te) := by
  refine ⟨fun pins s σ H Q I h => attr_of hb (thn (he.run pins s σ H _ I h) fun u s1 hh => ?_)⟩
  obtain ⟨x, H1, I1, rx, a, C, dd, fs, v, rfl, h1, h2, l, T, hno, q⟩ := hh
  cases (show u = Value.ref a from rx)
  obtain ⟨oe, od, mA, J, hl, hr⟩ := held_get I1 h1 h2
  obtain ⟨u, hu, ru⟩ := RelO.some_of (v := v) (o := mA n) (by rw [← l]; exact hr n)
  exact HandSPX.exc_get I1.kIn J T.ga T.gg T.exC (PySem.W.findObj_own T.hdC hno rfl (by rw [hl, hu])) (handed_of ru) ⟨v, H1, I1.tok _, ru, q⟩
/-- isinstance(e, c), e a kept error -/
def rIsH (K : PySem.W.Frag) : List V → Hp → VK → Prop := fun xs H Q => ∃ (a C dd : Addr) (fs : List (Str × V)) (D : Addr) (b : Bool), xs = [.ref a, .ref D] ∧ H a = some (held a (.ref C) (some dd)) ∧ H dd = some (.xd fs) ∧ ExcC K C ∧ PySem.W.kitOne K (.ref C) (.ref D) = some b ∧ Q (.bl b) H
theorem call_isH {X : Cx} : CallR X (.builtin "isinstance") (rIsH X.K) := by
  intro pins s σ H xs us Q I r h
  obtain ⟨a, C, dd, fs, D, b, rfl, h1, h2, T, e, q⟩ := h
  cases r with
  | cons rx rr =>
    cases rr with
    | cons rt rr =>
      cases rr
      cases rx
      cases rt
      obtain ⟨oe, od, mA, J, _, _⟩ := held_get I h1 h2
      obtain ⟨cd, hcd, _⟩ := PySem.W.any_some T.hd
      exact PySem.W.kia_one (PySem.W.kitx_exc (by rw [hcd]; rfl) T.hg T.hk T.hs T.ha T.hn T.ht T.hm) I.kIn J e (fun z => nomatch z) fun tk => ⟨.bl b, H, I.kept (t' := tk) fun _ _ z => z, rfl, q⟩
end L2
namespace L2
open PySem PySem.Spec PyProof.Rows
/-! ### repr of a list whose items may be empty dicts -/
inductive Dq (K : PySem.W.Frag) (H : Hp) : V → PyData → Prop
  | of {v : V} {d : PyData} : Dp K H v d → d.hasDict = false → Dq K H v d
  | dic {a : Addr} : H a = some (.dK []) → Dq K H (.ref a) (.dict [])
inductive DqAll (K : PySem.W.Frag) (H : Hp) : List V → List PyData → Prop
  | nil : DqAll K H [] []
  | cons {v : V} {vs : List V} {d : PyData} {ds : List PyData} : Dq K H v d → DqAll K H vs ds → DqAll K H (v :: vs) (d :: ds)
section
variable {X : Cx} {pins : List (Addr × Obj)} {σ : St} {H : Hp} {s : Shared}
theorem Dq.shows (I : Inv X pins σ H s) {d : PyData} {v : V} {u : Value} (h : Dq X.K H v d) (r : RelV v u) (hs : d.showable = true) (hz : d.shown.length ≤ sizeLine) :
    ∃ as, Reads s.heap u d as ∧ ∃ bs, ReadAtMost s.heap d.depth bs ∧ ReprK X.prog X.w bs s.heap d.depth u d.shown := by
  cases h with
  | of h hd =>
    obtain ⟨as, q⟩ := Dp.reads I d _ _ h r
    exact ⟨as, q, ReprK.of_reads q hs (fun z => absurd (hd.symm.trans z) (by decide)) hz⟩
  | dic hl =>
    cases r
    obtain ⟨_, hne, vs, rk, o, es, ep, ho, hx, hd, _, he, _⟩ := I.hok _ _ hl
    cases rk
    have he : es.toList = [] := by generalize es.toList = l at he ⊢; cases he; rfl
    have q : Reads s.heap (.ref _) (.dict []) _ := Reads.dict (as := []) (bs := []) ho hx.1 hd (by rw [he]; exact .nil) (by rw [he]; exact .nil)
    refine ⟨_, q, ReprK.of_reads q hs (fun _ z => ?_) hz⟩
    rcases List.mem_cons.mp z with z | z
    · rw [← z] at hne
      exact Bool.noConfusion hne
    · cases z
theorem DqAll.shows (I : Inv X pins σ H s) : ∀ {ds : List PyData} {vs : List V} {us : List Value}, DqAll X.K H vs ds → Vals vs us → PyData.showableAll ds = true → (∀ t ∈ PyData.shownAll ds, t.length ≤ sizeLine) →
    ∃ as, ReadsAll s.heap us ds as ∧ ∃ bs, ReadAtMost s.heap (PyData.depthAll ds) bs ∧ ReprAllK X.prog X.w bs s.heap (PyData.depthAll ds) us (PyData.shownAll ds) := by
  intro ds vs us h r hs hz
  induction h generalizing us with
  | nil =>
    cases r
    exact ⟨_, .nil, [], (fun _ q => nomatch q), by simp only [PyData.shownAll]; exact .nil⟩
  | cons h1 h2 ih =>
    rename_i v vs d ds
    cases r with
    | cons r1 r2 =>
      have hs' : d.showable = true ∧ PyData.showableAll ds = true := by simpa [PyData.showableAll] using hs
      obtain ⟨a1, q1, b1, m1, k1⟩ := h1.shows I r1 hs'.1 (hz _ (by simp only [PyData.shownAll]; exact List.mem_cons_self))
      obtain ⟨a2, q2, b2, m2, k2⟩ := ih r2 hs'.2 fun t ht => hz t (by simp only [PyData.shownAll]; exact List.mem_cons_of_mem _ ht)
      have l1 : d.depth ≤ PyData.depthAll (d :: ds) := by simp only [PyData.depthAll]; exact Nat.le_max_left _ _
      have l2 : PyData.depthAll ds ≤ PyData.depthAll (d :: ds) := by simp only [PyData.depthAll]; exact Nat.le_max_right _ _
      refine ⟨_, .cons q1 q2, b1 ++ b2, (m1.mono l1).append (m2.mono l2), ?_⟩
      have e : PyData.shownAll (d :: ds) = d.shown :: PyData.shownAll ds := by simp only [PyData.shownAll]
      rw [e]
      exact .cons ((k1.more fun b hb => List.mem_append_left _ hb).level_le l1) (k2.more_le (fun b hb => List.mem_append_right _ hb) l2)
end
def rReprQ (K : PySem.W.Frag) : List V → Hp → VK → Prop := fun xs H Q => ∃ a vs ds, xs = [.ref a] ∧ SqL K H a vs ∧ DqAll K H vs ds ∧ vs ≠ [] ∧ PyData.showableAll ds = true ∧ (PyData.list ds).depth ≤ 20 ∧ (PyData.list ds).shown.length ≤ sizeLine ∧ Q (.str (PyData.list ds).shown) H
theorem call_reprQ {X : Cx} (hG : X.A.guards = some []) (hu : X.A.units + 64 < cLine) : CallR X (.builtin "repr") (rReprQ X.K) := by
  intro pins s σ H xs us Q I r h
  obtain ⟨a, vs, ds, rfl, hl, hd, hne, h1, h3, h4, q⟩ := h
  obtain ⟨u, rfl, ru⟩ := vals1 r
  cases (show u = Value.ref a from ru)
  obtain ⟨its, rv, ⟨o, n, ho, hc, _, ho3⟩, _⟩ := I.list hl
  have hz : (listText (PyData.shownAll ds)).length ≤ sizeLine := by simpa only [PyData.shown] using h4
  obtain ⟨as, q1, bs, hb, hk⟩ := hd.shows I rv h1 fun t ht => Nat.le_trans (listText_mem_le ht) hz
  have rd : Reads s.heap (.ref a) (.list ds) _ := .list ho hc ho3 (by simpa using q1)
  have hna : a ∉ bs := not_mem_of_deeper rd (by simp only [PyData.depth]; omega) hb
  simp only [PyData.depth] at h3
  cases its with
  | nil =>
    cases rv
    exact absurd rfl hne
  | cons x l =>
    refine call_repr_slot (by omega) (show s.TypeIs (.ref a) "list" from ⟨o, ho, hc⟩) F.slot_list_repr.toG ?_
    refine call_list_reprK ho hc ho3 hna (by simpa using hk.length_eq) (fun i y e => hk.item i y (by simpa using e)) hG (fun b _ => Clear.nil b) (by show X.A.units + 1 + (PyData.depthAll ds + 1) < cLine; omega) (fun _ _ z => z) (fun h' u tk hk' => ⟨_, _, rfl, ?_⟩) hz
    refine ⟨.str (PyData.list ds).shown, H, I.kept hk', ⟨u, by simp only [PyData.shown]⟩, q⟩
theorem g_reprQ {K : PySem.W.Frag} {H : Hp} {Q : VK} {a : Addr} {vs : List V} {ds : List PyData} (h : SqL K H a vs) (hd : DqAll K H vs ds) (hne : vs ≠ []) (h1 : PyData.showableAll ds = true) (h3 : (PyData.list ds).depth ≤ 20) (h4 : (PyData.list ds).shown.length ≤ sizeLine) (q : Q (.str (PyData.list ds).shown) H) : rReprQ K [.ref a] H Q :=
  ⟨a, vs, ds, rfl, h, hd, hne, h1, h3, h4, q⟩
end L2
namespace XS
open PySem PySem.W
theorem along_of {K : Frag} {C N : Addr} {nm q n : Str} {bs bm sb : List Value} {hd ab : Bool} {sn : List Str} {co : Option Bool} {dd : Option Addr} {m0 m1 m2 m3 m5 r : Option Value} {nw : String} (x : K.lookup C = some (excClassObj nm q C N bs bm hd sn sb ab co dd m0 m1 m2 m3 m5 nw)) (e : findIn K (.ref C) n = some r) :
    alongIn K n (.ref C :: bm) = some r := by
  unfold findIn at e
  dsimp only at e
  rw [x] at e
  exact e
theorem any3 {K : Frag} {c c1 c2 c3 : Value} {b1 b2 b3 : Bool} (h1 : exmOne K c c1 = some b1) (h2 : exmOne K c c2 = some b2) (h3 : exmOne K c c3 = some b3) : exmAny K c [c1, c2, c3] = some (b1 || (b2 || (b3 || false))) := by
  unfold exmAny exmAny exmAny exmAny
  rw [h1, h2, h3]
theorem kit_self {K : Frag} {C : Addr} : kitOne K (.ref C) (.ref C) = some true := if_pos (beq_self_eq_true _)
theorem kit_other {K : Frag} {C D : Addr} {b : Bool} (hd : hasDictIn K D = true) (ht : typeIn K (.ref D) = some (.type "type")) (hn : (Value.ref C == Value.ref D) = false) (hs : subIn K (.ref C) (.ref D) = some b) : kitOne K (.ref C) (.ref D) = some b := by
  obtain ⟨cd, hc, _⟩ := any_some hd
  unfold kitOne
  rw [if_neg (by rw [hn]; exact Bool.false_ne_true)]
  show (if ((clsIn K D).isSome && typeIn K (.ref D) == some (.type "type")) = true then subIn K (.ref C) (.ref D) else none) = some b
  rw [if_pos (by rw [hc, ht] <;> rfl), hs]
end XS
namespace L2
open PySem
section
variable {X : Cx} {H : Hp} {Q : VK} {K : PySem.W.Frag} {σ : St} {ta tb te : TE} {D : Ends}
/-! more names -/
def rSplitZ : V → List V → Hp → VK → Prop := fun x xs H Q => ∃ a b, x = .str a ∧ xs = [.str b] ∧ (b.length == 0) = false ∧ a.length + 2 ≤ sizeLine ∧ rNewStrs (Txt.split a b) H Q
theorem pe_splitZ {o e : Expr} {to te : TE} {apos pos : Pos} (ho : PE X o to) (he : PE X e te) (hs : starEach [e] X.env = [(false, eval e X.env)] := by rfl) (hbase : attributeBase o "split" X.env (eval o X.env) = eval o X.env := by rfl) (hline : (apos.endLine == pos.line) = true := by rfl) :
    PE X (.Call (.Attribute o "split" apos) [e] [] pos) (tM1 rSplitZ to te) := pe_split ho he hs hbase hline
theorem g_splitz {a b : Str} (h1 : (b.length == 0) = false) (h2 : a.length + 2 ≤ sizeLine) (q : ∀ p, H p = none → Q (.ref p) (upd H p (.lst ((Txt.split a b).map V.str)))) : rSplitZ (.str a) [.str b] H Q := ⟨a, b, rfl, rfl, h1, h2, q⟩
def rStartZ : V → List V → Hp → VK → Prop := fun x xs H Q => ∃ a b, x = .str a ∧ xs = [.str b] ∧ Q (.bl (Txt.startswith a b)) H
theorem mt_startZ : MtR X "str.startswith" rStartZ := mt_startswith
theorem g_startz {a b : Str} (q : Q (.bl (Txt.startswith a b)) H) : rStartZ (.str a) [.str b] H Q := ⟨a, b, rfl, rfl, q⟩
def rCountZ : V → List V → Hp → VK → Prop := fun x xs H Q => ∃ a b, x = .str a ∧ xs = [.str b] ∧ Q (.int (Txt.count a b)) H
theorem mt_countZ : MtR X "str.count" rCountZ := mt_count
theorem g_countz {a b : Str} (q : Q (.int (Txt.count a b)) H) : rCountZ (.str a) [.str b] H Q := ⟨a, b, rfl, rfl, q⟩
def rTupOf (K : PySem.W.Frag) : List V → Hp → VK → Prop := fun xs H Q => ∃ p ys, xs = [.ref p] ∧ ((SqL K H p ys ∧ ∀ l, H l = none → Q (.ref l) (upd H l (.tup ys))) ∨ (SqT K H p ys ∧ Q (.ref p) H))
theorem call_tupOf : CallR X (.type "tuple") (rTupOf X.K) := call_tuple_of
theorem g_tupOf {p : Addr} {ys : List V} (h : SqL K H p ys) (q : ∀ l, H l = none → Q (.ref l) (upd H l (.tup ys))) : rTupOf K [.ref p] H Q := ⟨p, ys, rfl, .inl ⟨h, q⟩⟩
theorem g_sll {p : Addr} {xs : List V} {lo hi : Option Int} (h : SqL K H p xs) (q : ∀ l, H l = none → Q (.ref l) (upd H l (.lst (cutV xs lo hi)))) : rSlL K (.ref p) lo hi H Q := ⟨p, xs, rfl, h, q⟩
theorem g_revl (h : te σ H fun x H1 => ∃ a xs, x = .ref a ∧ SqL K H1 a xs ∧ ∀ p, H1 p = none → Q (.ref p) (upd H1 p (.lst xs.reverse))) : tRevL K te σ H Q := h
/-! raising and catching -/
def tRaiseE (C : Addr) (fld : Str) (te : TE) (E : XK) : TS := fun _ σ H => tMkE C fld te σ H fun cls d H' => E cls d H'
theorem ps_raiseE {C fI : Addr} {par fld x : Str} {e : Expr} {E : XK} {p pos pos2 : Pos} (hc : X.calm = true) (tk : Takes X (fun cls d _ H => E cls d H)) (T : XS.ErrC X.prog X.K C fI par fld) (hr : Room 1 X.A) (hg : Gl X x) (hm : X.mg x = some (.ref C)) (ha : PE X e te) (hdb : (x == ("__debug__" : Str)) = false := by decide)
    (he : starEach [e] X.env = (false, eval e X.env) :: starEach [] X.env := by rfl) : PS X (.Raise (some (.Call (.Name x p) [e] [] pos)) none pos2) (tRaiseE C fld te E) := ps_raise hc tk (pmk_err T hr hg hm ha hdb he)
theorem g_raise {C : Addr} {fld : Str} {E : XK} (h : te σ H fun v H1 => ∀ d, H1 d = none → E (.ref C) (some d) (upd H1 d (.xd [(fld, v)]))) : tRaiseE C fld te E D σ H := h
def tTryH (tb : WX → TS) (m : Value → Option Bool) (i : Nat) (ts : TS) (Wout : WX) : TS := fun D σ H => tb (wHeld m i ts Wout D) D σ H
theorem ps_tryH {n : Str} {i : Nat} {body suite : List Stmt} {b₀ : Stmt} {tt : Expr} {m : Value → Option Bool} {pos pos' : Pos} {tb : WX → TS} {ts : TS} {Wout : WX} (hs : X.stack = X.env :: X.outer) (hf : X.env.frame = some X.env.locals) (hN : X.N.Nodup) (hi : X.N[i]? = some n) (hln : X.env.kindOf n = some .local) (ht : Tells X tt m) (tk : Takes X Wout)
    (hb : ∀ (W : WX) (pn : List (Addr × Obj)) (xe : Value → Shared → Prop), Takes (X.tr pn xe) W → PassesOwn (model X.prog X.w) X.A X.env xe → PSs (X.tr pn xe) body (tb W))
    (hsu : ∀ (a : Addr) (pn : List (Addr × Obj)), PSs (X.suite a pn) (b₀ :: suite) ts) :
    PS X (.Try body [.ExceptHandler (some tt) (some n) (b₀ :: suite) pos'] [] [] pos) (tTryH tb m i ts Wout) := ps_try_held hs hf hN hi hln ht tk hb hsu
theorem g_tryH {tb : WX → TS} {m : Value → Option Bool} {i : Nat} {ts : TS} {Wout : WX} (h : tb (wHeld m i ts Wout D) D σ H) : tTryH tb m i ts Wout D σ H := h
theorem g_kw0S {sp : Sp} {n : Nat} {ix : List Nat} {E : St → XK} {tr : TA} (h : tr σ H fun vs H1 => vs.length = n ∧ sp (picked V.non ix vs) H1 Q (E σ)) : tKw0S sp n ix E tr σ H Q := h
theorem g_we {W : WX} {cls : Value} {d : Option Addr} (h : W cls d σ H) : WE W σ cls d H := h
theorem g_heldY {m : Value → Option Bool} {i : Nat} {ts : TS} {Wout : WX} {cls : Value} {d : Option Addr} (hm : m cls = some true) (h : ∀ a, H a = none → ts { nx := fun σ' H' => D.nx (σ'.set i none) H', rt := D.rt, bk := fun σ' H' => D.bk (σ'.set i none) H', ct := fun σ' H' => D.ct (σ'.set i none) H' } (σ.set i (some (.ref a))) (upd H a (held a cls d))) : wHeld m i ts Wout D cls d σ H :=
  ⟨true, hm, fun _ => h, fun z => Bool.noConfusion z⟩
theorem g_held {n : Str} (h : te σ H fun x H1 => ∃ (a C dd : Addr) (fs : List (Str × V)) (v : V), x = .ref a ∧ H1 a = some (held a (.ref C) (some dd)) ∧ H1 dd = some (.xd fs) ∧ fs.lookup n = some v ∧ XfC K C ∧ PySem.W.findIn K (.ref C) n = some none ∧ Q v H1) : tHeld K n te σ H Q := h
theorem g_isH {a C dd D0 : Addr} {fs : List (Str × V)} {b : Bool} (h1 : H a = some (held a (.ref C) (some dd))) (h2 : H dd = some (.xd fs)) (T : ExcC K C) (e : PySem.W.kitOne K (.ref C) (.ref D0) = some b) (q : Q (.bl b) H) : rIsH K [.ref a, .ref D0] H Q := ⟨a, C, dd, fs, D0, b, rfl, h1, h2, T, e, q⟩
theorem g_irng3 {ta : TA} {R : It → Hp → Prop} (h : ta σ H fun vs H1 => ∃ (i j c : Int) (n : Nat), vs = [.int i, .int j, .int c] ∧ RgC i j c n ∧ R (Itc i c n) H1) : iRng3 ta σ H R := h
/-- a class of the text -/
theorem pe_gc {x : Str} {C : Addr} {pos : Pos} (hg : Gl X x) (hm : X.mg x = some (.ref C)) (hdb : (x == ("__debug__" : Str)) = false := by decide) : PE X (.Name x pos) (tC (.ref C)) := pe_glob (v := .ref C) hg hm rfl hdb
end
theorem cut1 (x : V) (r : List V) : cutV (x :: r) (some 1) none = r := by
  show ((x :: r).drop _).take _ = r
  have e1 : HT.sIx (x :: r).length 0 (some 1) = 1 := by
    show min (1 : Nat) (r.length + 1) = 1
    omega
  have e2 : HT.sIx (x :: r).length (x :: r).length none = (x :: r).length := by rfl
  rw [e1, e2]
  simp
end L2
namespace XO
open PySem PySem.W PySem.Calls PySem.HandSPX PySem.Builtin PySem.Builtin.ObjectAttr
/-- the first field of an error under any built-in family -/
theorem own_field {prog : Program} {w : World} {A : Around} {R : Result → Shared → Prop} {hp : Heap} {g : Array GenState} {d : Drawn} {t : Nat} {os : OsState} {B : String} {bmB : List Value} (SF : StoreFacts B bmB "object.__setattr__" "object") {K : Frag} {name : Str} {tk : Tok} {v : Value} {x C : Addr} {fv : Array Value} {nm q : Str} {bs bm sb : List Value} {N : Addr} {sn : List Str} {ab : Bool} {co : Option Bool}
    (X : K.In hp) (hx : hp.get? x = some { cls := .ref C, data := .fields fv }) (hcd : clsIn K C = some { name := nm, bases := bs, mro := .ref C :: bm, ns := N, qualname := q, hasDict := true, slotNames := sn, subclasses := sb, abstract := ab, collection := co, hasDel := false }) (hm : excTail bmB bm = true) (ha : findIn K (.ref C) name = some none)
    (hq : ∀ h' tk' dx, (∀ b o, b ≠ x → hp.get? b = some o → h'.get? b = some o) → hp.objs.size ≤ dx → dx ≠ x → h'.get? x = some { cls := .ref C, dict := some dx, data := .fields fv } → h'.Ns1 dx (fun y => if y = name then some v else none) → R (.ok (.ret .none)) ⟨h', g, d, tk', os⟩) :
    codeAny (model prog w) A (.call (.builtin "object.__setattr__") ⟨[.ref x, .str name tk, v], []⟩) R ⟨hp, g, d, t, os⟩ := by
  have J : InstAt hp x { cls := .ref C, data := .fields fv } C none := ⟨hx, rfl, rfl, trivial⟩
  have nx : x ≠ hp.objs.size := Nat.ne_of_lt (Heap.lt_size hx)
  have LC : Looks (model prog w) hp (classData C) _ := looks_clsIn X hcd
  refine osa_openX (r := none) SF X J (by unfold excOver; rw [hcd]; simp [hm]) (by unfold takerIn; rw [ha]; rfl) fun b => ?_
  show wpAny _ _ (storeInOwnDict (.ref x) (.ref C) (.str name tk) name v b) _ _ _
  unfold storeInOwnDict ownDictForStores
  repeat (first | with_reducible refine store_in_new ?_ ?_ | with_reducible refine wpAny_loadPart_at hx ?_ | with_reducible refine LC.at ?_ | wp_step)
  · refine ⟨_, #[], _, (Heap.get?_update_ne _ _ _ _ nx.symm).trans (Heap.get?_push_at rfl rfl), rfl, fun e he => ?_, fun _ => rfl⟩
    exact absurd he (by simp)
  · intro h2 tk2 ns2 same
    have old : (hp.push { cls := .type "dict", data := .dict #[] }).get? x = some { cls := .ref C, data := .fields fv } := Heap.get?_push_of_some _ hx
    refine hq h2 tk2 hp.objs.size (fun c o hc ho => ?_) (Nat.le_refl _) nx.symm ((same.2 x nx).trans (Heap.get?_update_self _ old rfl)) ns2
    refine (same.2 c (Nat.ne_of_lt (Heap.lt_size ho))).trans ?_
    exact (Heap.get?_update_ne _ _ _ _ hc).trans (Heap.get?_push_of_some _ ho)
end XO
namespace XR
open PySem PySem.W PySem.Calls
abbrev tailB : List Value := [.type "RuntimeError", .type "Exception", .type "BaseException", .type "object"]
/-- an own error class under ValueError whose __init__ calls the one above it with a written text, then keeps its one argument -/
structure ErrC (prog : Program) (K : Frag) (C fI : Addr) (par fld : Str) : Prop where
  cls : ∃ nm q N bs bm sn sub ab col dd k0 k1 k2 k3 k5, K.lookup C = some (excClassObj nm q C N bs bm true sn sub ab col dd k0 k1 k2 k3 k5 "RuntimeError.__new__") ∧ excTail tailB bm = true ∧ alongIn K "__init__" bm = some (some (.builtin "RuntimeError.__init__"))
  init : findIn K (.ref C) "__init__" = some (some (.ref fI))
  ityp : typeIn K (.ref fI) = some (.type "function")
  sa : findIn K (.ref C) "__setattr__" = some (some (.builtin "object.__setattr__"))
  nf : findIn K (.ref C) fld = some none
  exC : subIn K (.ref C) (.type "BaseException") = some true
  veC : subIn K (.ref C) (.type "RuntimeError") = some true
  meC : mroIn K C (.ref C) = some true
  tyC : typeIn K (.ref C) = some (.type "type")
  kC : keepIn K (.ref C) = true
  opq : nsIn K cStatics "thirdparty.any" = some none
  fn : ∃ (qual : Str) (params : Arguments) (body : List Stmt) (scope : Scope) (oc kV doc pm ct ccl cl : Value) (od an cdd cld : Option Addr) (osl ccs csl : Array (Option Value)) (cda cc : Addr) (vs : Array Value) (file : Str) (tf : Tok),
    K.lookup fI = some ⟨oc, od, .func (fnX "__init__" qual params body scope [("__class__", cc)] .none kV doc pm an (.ref cda) ct), osl⟩ ∧ codeIn K (.ref cda) qual = true ∧
    K.lookup cda = some ⟨ccl, cdd, .fields vs, ccs⟩ ∧ vs[2]? = some (.str file tf) ∧ ((prog.main.file : Str) == file) = true ∧ K.lookup cc = some ⟨cl, cld, .cell (some (.ref C)), csl⟩ ∧
    (∃ ar, (params.posonlyargs ++ params.args).head? = some ar ∧ ar.arg = ("self" : Str)) ∧
    (∃ (msg : Str) (j : Nat) (p0 p1 p2 p3 p4 p5 p6 p7 p8 p9 : Pos), body = [.Expr (.Call (.Attribute (.Call (.Name "super" p0) [] [] p1) "__init__" p2) [.Constant (.str msg) j p3] [] p4) p5, .Assign [.Attribute (.Name "self" p6) fld p7] (.Name par p8) p9] ∧
      (∃ pl : Env → Sem Bool, ∀ env : Env, eval (.Call (.Attribute (.Call (.Name "super" p0) [] [] p1) "__init__" p2) [.Constant (.str msg) j p3] [] p4) env = (do
        let ov ← attributeBase (.Call (.Name "super" p0) [] [] p1) "__init__" env (eval (.Call (.Name "super" p0) [] [] p1) env)
        standAt p2.atName
        let (f, first) ← holding [ov] (getMethod ov "__init__" (pl env))
        callWith p4 f first (backTo p4 (starEach [.Constant (.str msg) j p3] env)) [])) ∧
      (∀ env : Env, swapsWith (.Call (.Attribute (.Call (.Name "super" p0) [] [] p1) "__init__" p2) [.Constant (.str msg) j p3] [] p4) none p5.line env = pure false) ∧
      (∀ env : Env, swapsWith (.Name par p8) (some (.Attribute (.Name "self" p6) fld p7)) p9.line env = pure false) ∧ msg.length ≤ 1000) ∧
    (∀ (s : Shared) (x u : Value), BindsTo s (fnX "__init__" qual params body scope [("__class__", cc)] .none kV doc pm an (.ref cda) ct) ⟨[x, u], []⟩ [("self", x), (par, u)]) ∧
    scope.kind = .function ∧ scope.isCoroutine = false ∧ scope.isGenerator = false ∧ (∀ x ∈ scope.names, x.2 ≠ .cell) ∧
    scope.names.lookup ("super" : Str) = some .globalImplicit ∧ scope.names.lookup ("__class__" : Str) = some .free ∧ scope.names.lookup ("self" : Str) = some .local ∧ scope.names.lookup par = some .local
  sup : nsIn K mainGlobals "super" = some none
  top : (prog.main.scope.names.lookup ("super" : Str)).isSome = false
  psf : (par == ("self" : Str)) = false
  pdb : (par == ("__debug__" : Str)) = false
theorem drop_own (C : Addr) (l : List Value) : ((Value.ref C :: l).dropWhile (· != .ref C)).drop 1 = l := by simp [List.dropWhile_cons]
section
variable {prog : Program} {w : World} {A : Around} {K : Frag} {C fI a t0 : Addr} {par fld : Str} {u : Value} {mg mb : Str → Option Value} {R : Result → Shared → Prop}
/-- the bound __init__ of the class above, called -/
theorem call_mw {h : Heap} {g : Array GenState} {d : Drawn} {tk : Nat} {os : OsState} {uw : Addr} {rest : List Value} {nm q : Str} {N : Addr} {bs bm sub : List Value} {sn : List Str} {ab : Bool} {col : Option Bool} {dd : Option Addr} {k0 k1 k2 k3 k5 : Option Value} {Q : Value → Shared → Prop} {E : Value → Shared → Prop}
    (hu : h.get? uw = some (kxs_mw "RuntimeError.__init__" a)) (hC : h.get? C = some (excClassObj nm q C N bs bm true sn sub ab col dd k0 k1 k2 k3 k5 "RuntimeError.__new__")) (he : h.get? a = some (HandSPX.excO C t0)) (hz : rest.length ≤ sizeLine)
    (hq : ∀ h', (∀ b o, b ≠ a → h.get? b = some o → h'.get? b = some o) → h'.get? a = some (HandSPX.excO C h.objs.size) → Q .none ⟨h', g, d, tk, os⟩) :
    wpAny (model prog w) A (call (.ref uw) rest) Q E ⟨h, g, d, tk, os⟩ := by
  refine wpAny_call (codeAny_of_tree ?_)
  show wpAny _ A.in1 (callAny (.ref uw) ⟨rest, []⟩) _ _ _
  unfold callAny
  refine wpAny_bind (wpAny_load hu ?_)
  simp (decide := true) only [kxs_mw, if_true]
  refine wpAny_bind (check_bound_init F.excBase_RuntimeError.toExcCallFacts hC he rfl ?_)
  refine wpAny_bind (wpAny_pure (wpAny_pure ?_))
  refine ⟨plainId_quiet F.excBase_RuntimeError.init.plain _, codeAny_builtin F.excBase_RuntimeError.initEntry ?_⟩
  exact exc_init_tree (cls := .ref C) (t0 := t0) (dv := none) (c2 := .none) (c3 := .none) (b4 := .bool false) he hz fun h' k e1 _ => hq h' k e1
theorem err_code {s : Shared} (X : K.In s.heap) (hg : s.heap.Ns mainGlobals mg) (hb : s.heap.Ns builtinsNs mb) (hbb : ∀ x : Str, x ≠ "__name__" → mb x = bootBuiltins x) (hlim : s.heap.NoLimit) (T : ErrC prog K C fI par fld) (hroom : A.depth < recursionLimit)
    (ha : s.heap.get? a = some (HandSPX.excO C t0)) (hK : K.lookup a = none) (hL : K.lookup s.heap.objs.size = none)
    (h : ∀ h' tk t1 dx, (∀ b o, b ≠ a → s.heap.get? b = some o → h'.get? b = some o) → h'.get? a = some { cls := .ref C, dict := some dx, data := .fields #[.ref t1, .none, .none, .none, .bool false, .none] } → s.heap.objs.size ≤ dx → dx ≠ a →
      h'.Ns1 dx (fun y => if y = fld then some u else none) → R (.ok (.ret .none)) { s with heap := h', toks := tk }) :
    codeAny (model prog w) A (.call (.ref fI) ⟨[.ref a, u], []⟩) R s := by
  obtain ⟨nm, q, N, bs, bm, sn, sub, ab, col, dd, k0, k1, k2, k3, k5, lC, hbm, hal⟩ := T.cls
  obtain ⟨qual, params, body, scope, oc, kV, doc, pm, ct, ccl, cl, od, an, cdd, cld, osl, ccs, csl, cda, cc, vs, file, tf, lf, hcd, lcd, hvs, hfile, lcc, ⟨ar, har, hself⟩, ⟨msg, j, p0, p1, p2, p3, p4, p5, p6, p7, p8, p9, hbody, ⟨pl, hev⟩, hw1, hw2, hmsg⟩, hbind, hk, hco, hgen, hcell, hsu, hcl, hsl, hpl⟩ := T.fn
  have hloc : ∀ x ∈ [(("self" : Str), Value.ref a), (par, u)], scope.names.lookup x.1 = some .local := by
    intro x hx
    rcases List.mem_cons.mp hx with e | hx
    · rw [e]; exact hsl
    · rw [List.mem_singleton.mp hx]; exact hpl
  refine ks_codeAny_call_defAt (body := body) (binds := [("self", .ref a), (par, u)]) hroom (X _ _ lf) rfl hlim (codeRec_of X hcd) rfl (hbind s (.ref a) u) hcell hloc (fun h1 hns kk1 => ?_) hco hgen hk
  subst hbody
  have X1 : K.In h1 := X.keeps kk1
  have hg1 : h1.Ns mainGlobals mg := hg.keeps kk1
  have hb1 : h1.Ns builtinsNs mb := hb.keeps kk1
  have ha1 := kk1 _ _ ha
  have hC1 := X1 _ _ lC
  have eself : (fun x => [(("self" : Str), Value.ref a), (par, u)].reverse.lookup x) ar.arg = some (.ref a) := by
    rw [hself]
    show List.lookup ("self" : Str) [(par, u), ("self", Value.ref a)] = _
    rw [List.lookup_cons, show (("self" : Str) == par) = false from by rw [beq_eq_false_iff_ne]; exact fun z => (beq_eq_false_iff_ne.mp T.psf) z.symm, List.lookup_cons, beq_self_eq_true]
  have epar : (fun x => [(("self" : Str), Value.ref a), (par, u)].reverse.lookup x) par = some u := by
    show List.lookup par [(par, u), ("self", Value.ref a)] = _
    rw [List.lookup_cons, beq_self_eq_true]
  refine ks_wpAt_execs_cons (ks_wpAt_Expr_any ?_ (by show interactive _ = false; simp [interactive, callEnv, newEnv, hk]) (hw1 _))
  refine ks_wpAt_MethodCall ?_ (hev _)
  refine ks_wpAt_super_base hsu hcl (by decide) rfl (X1 _ _ lf) rfl har rfl (X1 _ _ lcd) rfl hvs hfile T.top ?_
  refine ks_loadName_global hk hsu (loadGlobal_builtin hg1 (mg_none_of X1 hg1 T.sup) hb1 ((hbb _ (by decide +kernel)).trans (by decide +kernel)) ⟨rfl, ?_⟩)
  refine wpAny_loadName_free hk hcl rfl ⟨_, X1 _ _ lcc, rfl⟩ ?_
  refine wpAny_loadName_local hk (by rw [hself]; exact hsl) hns eself ?_
  obtain ⟨hp0, g, d, tk0, os⟩ := s
  refine ks_wpAny_isType_cls hC1 rfl ⟨rfl, ?_⟩
  refine ks_wpAny_call_super (C := C) hC1 rfl ha1 rfl (fun c e => by cases e) (looks_mroIn X1 T.meC) (fun h2 e2 kk2 => ?_)
  have X2 : K.In h2 := X1.keeps kk2
  have hcl2 : clsIn K C = some { name := nm, bases := bs, mro := .ref C :: bm, ns := N, qualname := q, hasDict := true, slotNames := sn, subclasses := sub, abstract := ab, collection := col, hasDel := false } := by unfold clsIn; rw [lC]
  have I2 : InstAt h2 a (HandSPX.excO C t0) C none := ⟨kk2 _ _ ha1, rfl, rfl, trivial⟩
  refine kxs_getMethod kxs_RuntimeError e2 (looks_opaque X2 T.opq) (l₀ := .ref C :: bm) (fun A Q E s k q => wpAny_bind ((looks_clsIn X2 hcl2) A _ E s k (wpAny_pure q))) (drop_own C bm) X2 hal (I2.type.andThen (looks_subIn X2 T.veC)) (ks_ne X2 I2 hcl2) (by decide) ?_
  have kk3 : ∀ b o, h2.get? b = some o → (h2.push (kxs_mw "RuntimeError.__init__" a)).get? b = some o := fun b o e => Heap.get?_push_of_some _ e
  have hu3 : (h2.push (kxs_mw "RuntimeError.__init__" a)).get? h2.objs.size = some (kxs_mw "RuntimeError.__init__" a) := Heap.get?_push_at rfl rfl
  refine kxs_callWith (i := "RuntimeError.__init__") (x := a) (by rfl) (evalArgs_plain (spliced_cons (Constant_str (pos := p3) (k := j) (spliced_nil ⟨hu3, ?_⟩))))
  refine call_mw hu3 (kk3 _ _ (X2 _ _ lC)) (kk3 _ _ (kk2 _ _ ha1)) (by show 1 ≤ sizeLine; decide) fun h4 kk4 e4 => ?_
  -- self.fld = par
  have kk14 : ∀ b o, b ≠ a → h1.get? b = some o → h4.get? b = some o := fun b o n e => kk4 b o n (kk3 _ _ (kk2 _ _ e))
  have X4 : K.In h4 := fun b o e => kk14 b o (fun z => by rw [z, hK] at e; cases e) (X1 b o e)
  have hns4 : h4.Ns hp0.objs.size (fun x => [(("self" : Str), Value.ref a), (par, u)].reverse.lookup x) := by
    obtain ⟨o, es, ep, e, dd2, r⟩ := hns
    have na : hp0.objs.size ≠ a := fun z => absurd (Heap.lt_size ha) (by rw [← z]; exact Nat.lt_irrefl _)
    exact ⟨o, es, ep, kk14 _ _ na e, dd2, r⟩
  refine ks_wpAt_execs_cons (wpAt_of_wpAny (plainObj_wpAny_Assign_Attribute (ESX.ldL hns4 epar (ESX.ldL hns4 (by show List.lookup ("self" : Str) [(par, u), ("self", Value.ref a)] = some (.ref a); rw [List.lookup_cons, show (("self" : Str) == par) = false from by rw [beq_eq_false_iff_ne]; exact fun z => (beq_eq_false_iff_ne.mp T.psf) z.symm, List.lookup_cons, beq_self_eq_true]) ?_ hk hsl (by decide)) hk hpl T.pdb) (hw2 _)))
  have hcl4 : clsIn K C = some { name := nm, bases := bs, mro := .ref C :: bm, ns := N, qualname := q, hasDict := true, slotNames := sn, subclasses := sub, abstract := ab, collection := col, hasDel := false } := hcl2
  refine set_plain X4 (ox := _) (od := none) ⟨e4, rfl, rfl, trivial⟩ T.sa ?_
  refine XO.own_field PySem.F.store_RuntimeError X4 e4 hcl4 hbm T.nf (fun h5 tk5 dx kk5 hdx hda e5 ns5 => ?_)
  refine wpAt_of_wpAny (wpAny_pure ?_)
  have hlt : hp0.objs.size < h4.objs.size := by
    obtain ⟨o, es, ep, e, _⟩ := hns4
    exact Heap.lt_size e
  exact h h5 tk5 _ dx (fun b o n e => kk5 b o n (kk14 b o n (kk1 b o e))) e5 (Nat.le_of_lt (Nat.lt_of_lt_of_le hlt hdx)) hda ns5
end
end XR
namespace L2
open PySem PySem.Spec PyProof.Rows
section
variable {X : Cx} {C fI : Addr} {par fld x : Str} {p pos : Pos} {e : Expr} {te : TE}
theorem pmk_errR (T : XR.ErrC X.prog X.K C fI par fld) (hr : Room 1 X.A) (hg : Gl X x) (hm : X.mg x = some (.ref C)) (ha : PE X e te) (hdb : (x == ("__debug__" : Str)) = false := by decide)
    (he : starEach [e] X.env = (false, eval e X.env) :: starEach [] X.env := by rfl) : PMk X (.Call (.Name x p) [e] [] pos) (tMkE C fld te) := by
  intro pins s σ H Q I h
  obtain ⟨nm, q, N, bs, bm, sn, sub, ab, col, dd, k0, k1, k2, k3, k5, hC, hbm, _⟩ := T.cls
  refine wpAny_Call_Name_kw (ld_glob I hg hm ?_ hdb)
  refine PySem.W.callWith_K (h₀ := X.base) I.ok.mod.kin T.kC ?_ he (by rfl)
  rw [he]
  show wpAny _ _ (spliced ((false, eval e X.env) :: backTo pos (starEach [] X.env))) _ _ s
  refine Calls.spliced_cons (thn (ha.run pins s σ H _ I h) fun u s1 ⟨v, H1, I1, r1, q1⟩ => Calls.spliced_nil ⟨I1.kIn, ?_⟩)
  show wpAny _ _ (call (.ref C) [u]) _ _ _
  obtain ⟨hp, g, dr, tk, os⟩ := s1
  have kk : ∀ b o, hp.get? b = some o → ((hp.push (PySem.W.kdv_tup [u])).push (PySem.HandSPX.excO C hp.objs.size)).get? b = some o := fun b o z => Heap.get?_push_of_some _ (Heap.get?_push_of_some _ z)
  have hget : ((hp.push (PySem.W.kdv_tup [u])).push (PySem.HandSPX.excO C hp.objs.size)).get? (hp.objs.size + 1) = some (PySem.HandSPX.excO C hp.objs.size) := by heap_get
  have hK : ∀ b, hp.objs.size ≤ b → X.K.lookup b = none := fun b hb => by
    cases z : X.K.lookup b with
    | none => rfl
    | some o => exact absurd (Heap.lt_size (I1.kIn b o z)) (Nat.not_lt.mpr hb)
  have hsz2 : ((hp.push (PySem.W.kdv_tup [u])).push (PySem.HandSPX.excO C hp.objs.size)).objs.size = hp.objs.size + 2 := by
    simp [Heap.push]
  obtain ⟨mb, hb1, hb2⟩ := I1.mod.blt
  have kb : ∀ b o, X.base.get? b = some o → ((hp.push (PySem.W.kdv_tup [u])).push (PySem.HandSPX.excO C hp.objs.size)).get? b = some o := fun b o z => kk b o (I1.bk b o z)
  refine wpAny_call (PySem.HandSPX.call_own F.excBase_RuntimeError (fun Y => PySem.W.excTail_contains Y bm hbm) (I1.kIn _ _ hC) (PySem.W.looks_findIn I1.kIn T.init) (fun self => PySem.W.bind_fn I1.kIn self T.ityp) (by show 1 ≤ sizeLine; decide) ?_)
  refine XR.err_code (mg := X.mg) (mb := mb) (I1.ok.mod.kin.keeps kb) (I1.mod.glob.keeps kb) (hb1.keeps kb) hb2 (I1.mod.nolimit.keeps kb) T (hr.make C [u] []).depth hget (hK _ (Nat.le_succ _)) (hK _ (by rw [hsz2]; exact Nat.le_add_right _ 2)) fun h5 tk5 t1 dx k5 e5 hdx hda n5 => ?_
  rw [hsz2] at hdx
  obtain ⟨G, g1, g2⟩ := restrict h5 fun b => decide (b ≠ hp.objs.size + 1)
  have gk : ∀ b, b ≠ hp.objs.size + 1 → G.get? b = h5.get? b := fun b hb => g1 b (decide_eq_true hb)
  have ge : G.get? (hp.objs.size + 1) = none := g2 _ (by simp)
  have kG : ∀ b o, hp.get? b = some o → G.get? b = some o := fun b o z => by
    have nb : b ≠ hp.objs.size + 1 := Nat.ne_of_lt (Nat.lt_succ_of_lt (Heap.lt_size z))
    rw [gk b nb]
    exact k5 b o nb (kk b o z)
  have J := I1.laid (t' := tk5) (a := dx) (o := .xd [(fld, v)]) (h' := G) kG (Nat.le_trans (Nat.le_add_right _ 2) hdx) ⟨_, n5.at fun o y => (gk dx hda).trans y, fun f => by
    show RelO (List.lookup f [(fld, v)]) _
    rw [lookup_put]
    by_cases hf : f = fld
    · rw [if_pos hf, if_pos hf]
      exact r1
    · rw [if_neg hf, if_neg hf]
      exact True.intro⟩
  have na : H1 (hp.objs.size + 1) = none := I1.hok.fresh (Nat.le_succ _)
  have nd : H1 dx = none := I1.hok.fresh (Nat.le_trans (Nat.le_add_right _ 2) hdx)
  refine ⟨rfl, hp.objs.size + 1, _, _, ⟨G, g, dr, tk5, os⟩, _, .ref C, some dx, rfl, J, fun b o z => ?_, ge, e5, ⟨rfl, rfl⟩, rfl, rfl, ?_, rfl, I1.bare, raises_own T.exC T.tyC, q1 dx nd⟩
  · by_cases hb : b = hp.objs.size + 1
    · rw [hb, ge] at z
      cases z
    · exact (gk b hb).symm.trans z
  · rw [upd_ne (Ne.symm hda)]
    exact na
end
end L2
namespace L2
open PySem
section
variable {X : Cx} {te : TE}
theorem ps_raiseER {C fI : Addr} {par fld x : Str} {e : Expr} {E : XK} {p pos pos2 : Pos} (hc : X.calm = true) (tk : Takes X (fun cls d _ H => E cls d H)) (T : XR.ErrC X.prog X.K C fI par fld) (hr : Room 1 X.A) (hg : Gl X x) (hm : X.mg x = some (.ref C)) (ha : PE X e te) (hdb : (x == ("__debug__" : Str)) = false := by decide)
    (he : starEach [e] X.env = (false, eval e X.env) :: starEach [] X.env := by rfl) : PS X (.Raise (some (.Call (.Name x p) [e] [] pos)) none pos2) (tRaiseE C fld te E) := ps_raise hc tk (pmk_errR T hr hg hm ha hdb he)
end
end L2
namespace XL
open PySem PySem.W PySem.Calls
abbrev tailB : List Value := [.type "LookupError", .type "Exception", .type "BaseException", .type "object"]
/-- an own error class under ValueError whose __init__ calls the one above it with a written text, then keeps its one argument -/
structure ErrC (prog : Program) (K : Frag) (C fI : Addr) (par fld : Str) : Prop where
  cls : ∃ nm q N bs bm sn sub ab col dd k0 k1 k2 k3 k5, K.lookup C = some (excClassObj nm q C N bs bm true sn sub ab col dd k0 k1 k2 k3 k5 "LookupError.__new__") ∧ excTail tailB bm = true ∧ alongIn K "__init__" bm = some (some (.builtin "LookupError.__init__"))
  init : findIn K (.ref C) "__init__" = some (some (.ref fI))
  ityp : typeIn K (.ref fI) = some (.type "function")
  sa : findIn K (.ref C) "__setattr__" = some (some (.builtin "object.__setattr__"))
  nf : findIn K (.ref C) fld = some none
  exC : subIn K (.ref C) (.type "BaseException") = some true
  veC : subIn K (.ref C) (.type "LookupError") = some true
  meC : mroIn K C (.ref C) = some true
  tyC : typeIn K (.ref C) = some (.type "type")
  kC : keepIn K (.ref C) = true
  opq : nsIn K cStatics "thirdparty.any" = some none
  fn : ∃ (qual : Str) (params : Arguments) (body : List Stmt) (scope : Scope) (oc kV doc pm ct ccl cl : Value) (od an cdd cld : Option Addr) (osl ccs csl : Array (Option Value)) (cda cc : Addr) (vs : Array Value) (file : Str) (tf : Tok),
    K.lookup fI = some ⟨oc, od, .func (fnX "__init__" qual params body scope [("__class__", cc)] .none kV doc pm an (.ref cda) ct), osl⟩ ∧ codeIn K (.ref cda) qual = true ∧
    K.lookup cda = some ⟨ccl, cdd, .fields vs, ccs⟩ ∧ vs[2]? = some (.str file tf) ∧ ((prog.main.file : Str) == file) = true ∧ K.lookup cc = some ⟨cl, cld, .cell (some (.ref C)), csl⟩ ∧
    (∃ ar, (params.posonlyargs ++ params.args).head? = some ar ∧ ar.arg = ("self" : Str)) ∧
    (∃ (msg : Str) (j : Nat) (p0 p1 p2 p3 p4 p5 p6 p7 p8 p9 : Pos), body = [.Expr (.Call (.Attribute (.Call (.Name "super" p0) [] [] p1) "__init__" p2) [.Constant (.str msg) j p3] [] p4) p5, .Assign [.Attribute (.Name "self" p6) fld p7] (.Name par p8) p9] ∧
      (∃ pl : Env → Sem Bool, ∀ env : Env, eval (.Call (.Attribute (.Call (.Name "super" p0) [] [] p1) "__init__" p2) [.Constant (.str msg) j p3] [] p4) env = (do
        let ov ← attributeBase (.Call (.Name "super" p0) [] [] p1) "__init__" env (eval (.Call (.Name "super" p0) [] [] p1) env)
        standAt p2.atName
        let (f, first) ← holding [ov] (getMethod ov "__init__" (pl env))
        callWith p4 f first (backTo p4 (starEach [.Constant (.str msg) j p3] env)) [])) ∧
      (∀ env : Env, swapsWith (.Call (.Attribute (.Call (.Name "super" p0) [] [] p1) "__init__" p2) [.Constant (.str msg) j p3] [] p4) none p5.line env = pure false) ∧
      (∀ env : Env, swapsWith (.Name par p8) (some (.Attribute (.Name "self" p6) fld p7)) p9.line env = pure false) ∧ msg.length ≤ 1000) ∧
    (∀ (s : Shared) (x u : Value), BindsTo s (fnX "__init__" qual params body scope [("__class__", cc)] .none kV doc pm an (.ref cda) ct) ⟨[x, u], []⟩ [("self", x), (par, u)]) ∧
    scope.kind = .function ∧ scope.isCoroutine = false ∧ scope.isGenerator = false ∧ (∀ x ∈ scope.names, x.2 ≠ .cell) ∧
    scope.names.lookup ("super" : Str) = some .globalImplicit ∧ scope.names.lookup ("__class__" : Str) = some .free ∧ scope.names.lookup ("self" : Str) = some .local ∧ scope.names.lookup par = some .local
  sup : nsIn K mainGlobals "super" = some none
  top : (prog.main.scope.names.lookup ("super" : Str)).isSome = false
  psf : (par == ("self" : Str)) = false
  pdb : (par == ("__debug__" : Str)) = false
theorem drop_own (C : Addr) (l : List Value) : ((Value.ref C :: l).dropWhile (· != .ref C)).drop 1 = l := by simp [List.dropWhile_cons]
section
variable {prog : Program} {w : World} {A : Around} {K : Frag} {C fI a t0 : Addr} {par fld : Str} {u : Value} {mg mb : Str → Option Value} {R : Result → Shared → Prop}
/-- the bound __init__ of the class above, called -/
theorem call_mw {h : Heap} {g : Array GenState} {d : Drawn} {tk : Nat} {os : OsState} {uw : Addr} {rest : List Value} {nm q : Str} {N : Addr} {bs bm sub : List Value} {sn : List Str} {ab : Bool} {col : Option Bool} {dd : Option Addr} {k0 k1 k2 k3 k5 : Option Value} {Q : Value → Shared → Prop} {E : Value → Shared → Prop}
    (hu : h.get? uw = some (kxs_mw "LookupError.__init__" a)) (hC : h.get? C = some (excClassObj nm q C N bs bm true sn sub ab col dd k0 k1 k2 k3 k5 "LookupError.__new__")) (he : h.get? a = some (HandSPX.excO C t0)) (hz : rest.length ≤ sizeLine)
    (hq : ∀ h', (∀ b o, b ≠ a → h.get? b = some o → h'.get? b = some o) → h'.get? a = some (HandSPX.excO C h.objs.size) → Q .none ⟨h', g, d, tk, os⟩) :
    wpAny (model prog w) A (call (.ref uw) rest) Q E ⟨h, g, d, tk, os⟩ := by
  refine wpAny_call (codeAny_of_tree ?_)
  show wpAny _ A.in1 (callAny (.ref uw) ⟨rest, []⟩) _ _ _
  unfold callAny
  refine wpAny_bind (wpAny_load hu ?_)
  simp (decide := true) only [kxs_mw, if_true]
  refine wpAny_bind (check_bound_init F.excBase_LookupError.toExcCallFacts hC he rfl ?_)
  refine wpAny_bind (wpAny_pure (wpAny_pure ?_))
  refine ⟨plainId_quiet F.excBase_LookupError.init.plain _, codeAny_builtin F.excBase_LookupError.initEntry ?_⟩
  exact exc_init_tree (cls := .ref C) (t0 := t0) (dv := none) (c2 := .none) (c3 := .none) (b4 := .bool false) he hz fun h' k e1 _ => hq h' k e1
theorem err_code {s : Shared} (X : K.In s.heap) (hg : s.heap.Ns mainGlobals mg) (hb : s.heap.Ns builtinsNs mb) (hbb : ∀ x : Str, x ≠ "__name__" → mb x = bootBuiltins x) (hlim : s.heap.NoLimit) (T : ErrC prog K C fI par fld) (hroom : A.depth < recursionLimit)
    (ha : s.heap.get? a = some (HandSPX.excO C t0)) (hK : K.lookup a = none) (hL : K.lookup s.heap.objs.size = none)
    (h : ∀ h' tk t1 dx, (∀ b o, b ≠ a → s.heap.get? b = some o → h'.get? b = some o) → h'.get? a = some { cls := .ref C, dict := some dx, data := .fields #[.ref t1, .none, .none, .none, .bool false, .none] } → s.heap.objs.size ≤ dx → dx ≠ a →
      h'.Ns1 dx (fun y => if y = fld then some u else none) → R (.ok (.ret .none)) { s with heap := h', toks := tk }) :
    codeAny (model prog w) A (.call (.ref fI) ⟨[.ref a, u], []⟩) R s := by
  obtain ⟨nm, q, N, bs, bm, sn, sub, ab, col, dd, k0, k1, k2, k3, k5, lC, hbm, hal⟩ := T.cls
  obtain ⟨qual, params, body, scope, oc, kV, doc, pm, ct, ccl, cl, od, an, cdd, cld, osl, ccs, csl, cda, cc, vs, file, tf, lf, hcd, lcd, hvs, hfile, lcc, ⟨ar, har, hself⟩, ⟨msg, j, p0, p1, p2, p3, p4, p5, p6, p7, p8, p9, hbody, ⟨pl, hev⟩, hw1, hw2, hmsg⟩, hbind, hk, hco, hgen, hcell, hsu, hcl, hsl, hpl⟩ := T.fn
  have hloc : ∀ x ∈ [(("self" : Str), Value.ref a), (par, u)], scope.names.lookup x.1 = some .local := by
    intro x hx
    rcases List.mem_cons.mp hx with e | hx
    · rw [e]; exact hsl
    · rw [List.mem_singleton.mp hx]; exact hpl
  refine ks_codeAny_call_defAt (body := body) (binds := [("self", .ref a), (par, u)]) hroom (X _ _ lf) rfl hlim (codeRec_of X hcd) rfl (hbind s (.ref a) u) hcell hloc (fun h1 hns kk1 => ?_) hco hgen hk
  subst hbody
  have X1 : K.In h1 := X.keeps kk1
  have hg1 : h1.Ns mainGlobals mg := hg.keeps kk1
  have hb1 : h1.Ns builtinsNs mb := hb.keeps kk1
  have ha1 := kk1 _ _ ha
  have hC1 := X1 _ _ lC
  have eself : (fun x => [(("self" : Str), Value.ref a), (par, u)].reverse.lookup x) ar.arg = some (.ref a) := by
    rw [hself]
    show List.lookup ("self" : Str) [(par, u), ("self", Value.ref a)] = _
    rw [List.lookup_cons, show (("self" : Str) == par) = false from by rw [beq_eq_false_iff_ne]; exact fun z => (beq_eq_false_iff_ne.mp T.psf) z.symm, List.lookup_cons, beq_self_eq_true]
  have epar : (fun x => [(("self" : Str), Value.ref a), (par, u)].reverse.lookup x) par = some u := by
    show List.lookup par [(par, u), ("self", Value.ref a)] = _
    rw [List.lookup_cons, beq_self_eq_true]
  refine ks_wpAt_execs_cons (ks_wpAt_Expr_any ?_ (by show interactive _ = false; simp [interactive, callEnv, newEnv, hk]) (hw1 _))
  refine ks_wpAt_MethodCall ?_ (hev _)
  refine ks_wpAt_super_base hsu hcl (by decide) rfl (X1 _ _ lf) rfl har rfl (X1 _ _ lcd) rfl hvs hfile T.top ?_
  refine ks_loadName_global hk hsu (loadGlobal_builtin hg1 (mg_none_of X1 hg1 T.sup) hb1 ((hbb _ (by decide +kernel)).trans (by decide +kernel)) ⟨rfl, ?_⟩)
  refine wpAny_loadName_free hk hcl rfl ⟨_, X1 _ _ lcc, rfl⟩ ?_
  refine wpAny_loadName_local hk (by rw [hself]; exact hsl) hns eself ?_
  obtain ⟨hp0, g, d, tk0, os⟩ := s
  refine ks_wpAny_isType_cls hC1 rfl ⟨rfl, ?_⟩
  refine ks_wpAny_call_super (C := C) hC1 rfl ha1 rfl (fun c e => by cases e) (looks_mroIn X1 T.meC) (fun h2 e2 kk2 => ?_)
  have X2 : K.In h2 := X1.keeps kk2
  have hcl2 : clsIn K C = some { name := nm, bases := bs, mro := .ref C :: bm, ns := N, qualname := q, hasDict := true, slotNames := sn, subclasses := sub, abstract := ab, collection := col, hasDel := false } := by unfold clsIn; rw [lC]
  have I2 : InstAt h2 a (HandSPX.excO C t0) C none := ⟨kk2 _ _ ha1, rfl, rfl, trivial⟩
  refine kxs_getMethod kxs_LookupError e2 (looks_opaque X2 T.opq) (l₀ := .ref C :: bm) (fun A Q E s k q => wpAny_bind ((looks_clsIn X2 hcl2) A _ E s k (wpAny_pure q))) (drop_own C bm) X2 hal (I2.type.andThen (looks_subIn X2 T.veC)) (ks_ne X2 I2 hcl2) (by decide) ?_
  have kk3 : ∀ b o, h2.get? b = some o → (h2.push (kxs_mw "LookupError.__init__" a)).get? b = some o := fun b o e => Heap.get?_push_of_some _ e
  have hu3 : (h2.push (kxs_mw "LookupError.__init__" a)).get? h2.objs.size = some (kxs_mw "LookupError.__init__" a) := Heap.get?_push_at rfl rfl
  refine kxs_callWith (i := "LookupError.__init__") (x := a) (by rfl) (evalArgs_plain (spliced_cons (Constant_str (pos := p3) (k := j) (spliced_nil ⟨hu3, ?_⟩))))
  refine call_mw hu3 (kk3 _ _ (X2 _ _ lC)) (kk3 _ _ (kk2 _ _ ha1)) (by show 1 ≤ sizeLine; decide) fun h4 kk4 e4 => ?_
  -- self.fld = par
  have kk14 : ∀ b o, b ≠ a → h1.get? b = some o → h4.get? b = some o := fun b o n e => kk4 b o n (kk3 _ _ (kk2 _ _ e))
  have X4 : K.In h4 := fun b o e => kk14 b o (fun z => by rw [z, hK] at e; cases e) (X1 b o e)
  have hns4 : h4.Ns hp0.objs.size (fun x => [(("self" : Str), Value.ref a), (par, u)].reverse.lookup x) := by
    obtain ⟨o, es, ep, e, dd2, r⟩ := hns
    have na : hp0.objs.size ≠ a := fun z => absurd (Heap.lt_size ha) (by rw [← z]; exact Nat.lt_irrefl _)
    exact ⟨o, es, ep, kk14 _ _ na e, dd2, r⟩
  refine ks_wpAt_execs_cons (wpAt_of_wpAny (plainObj_wpAny_Assign_Attribute (ESX.ldL hns4 epar (ESX.ldL hns4 (by show List.lookup ("self" : Str) [(par, u), ("self", Value.ref a)] = some (.ref a); rw [List.lookup_cons, show (("self" : Str) == par) = false from by rw [beq_eq_false_iff_ne]; exact fun z => (beq_eq_false_iff_ne.mp T.psf) z.symm, List.lookup_cons, beq_self_eq_true]) ?_ hk hsl (by decide)) hk hpl T.pdb) (hw2 _)))
  have hcl4 : clsIn K C = some { name := nm, bases := bs, mro := .ref C :: bm, ns := N, qualname := q, hasDict := true, slotNames := sn, subclasses := sub, abstract := ab, collection := col, hasDel := false } := hcl2
  refine set_plain X4 (ox := _) (od := none) ⟨e4, rfl, rfl, trivial⟩ T.sa ?_
  refine XO.own_field PySem.F.store_LookupError X4 e4 hcl4 hbm T.nf (fun h5 tk5 dx kk5 hdx hda e5 ns5 => ?_)
  refine wpAt_of_wpAny (wpAny_pure ?_)
  have hlt : hp0.objs.size < h4.objs.size := by
    obtain ⟨o, es, ep, e, _⟩ := hns4
    exact Heap.lt_size e
  exact h h5 tk5 _ dx (fun b o n e => kk5 b o n (kk14 b o n (kk1 b o e))) e5 (Nat.le_of_lt (Nat.lt_of_lt_of_le hlt hdx)) hda ns5
end
end XL
namespace L2
open PySem PySem.Spec PyProof.Rows
section
variable {X : Cx} {C fI : Addr} {par fld x : Str} {p pos : Pos} {e : Expr} {te : TE}
theorem pmk_errL (T : XL.ErrC X.prog X.K C fI par fld) (hr : Room 1 X.A) (hg : Gl X x) (hm : X.mg x = some (.ref C)) (ha : PE X e te) (hdb : (x == ("__debug__" : Str)) = false := by decide)
    (he : starEach [e] X.env = (false, eval e X.env) :: starEach [] X.env := by rfl) : PMk X (.Call (.Name x p) [e] [] pos) (tMkE C fld te) := by
  intro pins s σ H Q I h
  obtain ⟨nm, q, N, bs, bm, sn, sub, ab, col, dd, k0, k1, k2, k3, k5, hC, hbm, _⟩ := T.cls
  refine wpAny_Call_Name_kw (ld_glob I hg hm ?_ hdb)
  refine PySem.W.callWith_K (h₀ := X.base) I.ok.mod.kin T.kC ?_ he (by rfl)
  rw [he]
  show wpAny _ _ (spliced ((false, eval e X.env) :: backTo pos (starEach [] X.env))) _ _ s
  refine Calls.spliced_cons (thn (ha.run pins s σ H _ I h) fun u s1 ⟨v, H1, I1, r1, q1⟩ => Calls.spliced_nil ⟨I1.kIn, ?_⟩)
  show wpAny _ _ (call (.ref C) [u]) _ _ _
  obtain ⟨hp, g, dr, tk, os⟩ := s1
  have kk : ∀ b o, hp.get? b = some o → ((hp.push (PySem.W.kdv_tup [u])).push (PySem.HandSPX.excO C hp.objs.size)).get? b = some o := fun b o z => Heap.get?_push_of_some _ (Heap.get?_push_of_some _ z)
  have hget : ((hp.push (PySem.W.kdv_tup [u])).push (PySem.HandSPX.excO C hp.objs.size)).get? (hp.objs.size + 1) = some (PySem.HandSPX.excO C hp.objs.size) := by heap_get
  have hK : ∀ b, hp.objs.size ≤ b → X.K.lookup b = none := fun b hb => by
    cases z : X.K.lookup b with
    | none => rfl
    | some o => exact absurd (Heap.lt_size (I1.kIn b o z)) (Nat.not_lt.mpr hb)
  have hsz2 : ((hp.push (PySem.W.kdv_tup [u])).push (PySem.HandSPX.excO C hp.objs.size)).objs.size = hp.objs.size + 2 := by
    simp [Heap.push]
  obtain ⟨mb, hb1, hb2⟩ := I1.mod.blt
  have kb : ∀ b o, X.base.get? b = some o → ((hp.push (PySem.W.kdv_tup [u])).push (PySem.HandSPX.excO C hp.objs.size)).get? b = some o := fun b o z => kk b o (I1.bk b o z)
  refine wpAny_call (PySem.HandSPX.call_own F.excBase_LookupError (fun Y => PySem.W.excTail_contains Y bm hbm) (I1.kIn _ _ hC) (PySem.W.looks_findIn I1.kIn T.init) (fun self => PySem.W.bind_fn I1.kIn self T.ityp) (by show 1 ≤ sizeLine; decide) ?_)
  refine XL.err_code (mg := X.mg) (mb := mb) (I1.ok.mod.kin.keeps kb) (I1.mod.glob.keeps kb) (hb1.keeps kb) hb2 (I1.mod.nolimit.keeps kb) T (hr.make C [u] []).depth hget (hK _ (Nat.le_succ _)) (hK _ (by rw [hsz2]; exact Nat.le_add_right _ 2)) fun h5 tk5 t1 dx k5 e5 hdx hda n5 => ?_
  rw [hsz2] at hdx
  obtain ⟨G, g1, g2⟩ := restrict h5 fun b => decide (b ≠ hp.objs.size + 1)
  have gk : ∀ b, b ≠ hp.objs.size + 1 → G.get? b = h5.get? b := fun b hb => g1 b (decide_eq_true hb)
  have ge : G.get? (hp.objs.size + 1) = none := g2 _ (by simp)
  have kG : ∀ b o, hp.get? b = some o → G.get? b = some o := fun b o z => by
    have nb : b ≠ hp.objs.size + 1 := Nat.ne_of_lt (Nat.lt_succ_of_lt (Heap.lt_size z))
    rw [gk b nb]
    exact k5 b o nb (kk b o z)
  have J := I1.laid (t' := tk5) (a := dx) (o := .xd [(fld, v)]) (h' := G) kG (Nat.le_trans (Nat.le_add_right _ 2) hdx) ⟨_, n5.at fun o y => (gk dx hda).trans y, fun f => by
    show RelO (List.lookup f [(fld, v)]) _
    rw [lookup_put]
    by_cases hf : f = fld
    · rw [if_pos hf, if_pos hf]
      exact r1
    · rw [if_neg hf, if_neg hf]
      exact True.intro⟩
  have na : H1 (hp.objs.size + 1) = none := I1.hok.fresh (Nat.le_succ _)
  have nd : H1 dx = none := I1.hok.fresh (Nat.le_trans (Nat.le_add_right _ 2) hdx)
  refine ⟨rfl, hp.objs.size + 1, _, _, ⟨G, g, dr, tk5, os⟩, _, .ref C, some dx, rfl, J, fun b o z => ?_, ge, e5, ⟨rfl, rfl⟩, rfl, rfl, ?_, rfl, I1.bare, raises_own T.exC T.tyC, q1 dx nd⟩
  · by_cases hb : b = hp.objs.size + 1
    · rw [hb, ge] at z
      cases z
    · exact (gk b hb).symm.trans z
  · rw [upd_ne (Ne.symm hda)]
    exact na
end
end L2
namespace L2
open PySem
section
variable {X : Cx} {te : TE}
theorem ps_raiseEL {C fI : Addr} {par fld x : Str} {e : Expr} {E : XK} {p pos pos2 : Pos} (hc : X.calm = true) (tk : Takes X (fun cls d _ H => E cls d H)) (T : XL.ErrC X.prog X.K C fI par fld) (hr : Room 1 X.A) (hg : Gl X x) (hm : X.mg x = some (.ref C)) (ha : PE X e te) (hdb : (x == ("__debug__" : Str)) = false := by decide)
    (he : starEach [e] X.env = (false, eval e X.env) :: starEach [] X.env := by rfl) : PS X (.Raise (some (.Call (.Name x p) [e] [] pos)) none pos2) (tRaiseE C fld te E) := ps_raise hc tk (pmk_errL T hr hg hm ha hdb he)
end
end L2
namespace L2
open PySem PySem.Spec PyProof.Rows
/-! ### what an own class says of the signs of Python -/
section
variable {X : Cx} {CX : CXT} {k : Nat} {f C : Addr} {sp : Sp} {E : XK} {pins : List (Addr × Obj)} {σ : St} {H : Hp} {s : Shared} {A : Around} {Q : VK} {us : List Value} {vs : List V}
/-- a promise used deeper within a builtin -/
theorem run_sub (F : FnR X.prog X.w X.K X.mg X.base CX k f sp) (hr : Room k A) (hfr : A.frames = X.A.frames) (hx : Passes CX X E) (I : Inv X pins σ H s) (r : Vals vs us) (h : sp vs H Q E) :
    wpAny (model X.prog X.w) A (call (.ref f) us) (EP X pins σ Q) X.xe s := by
  have z := I.env0
  have e0 : Env0 X.prog X.w X.K X.mg X.base A X.stack s H := ⟨hfr.trans z.frames, z.mod, z.bs, z.bsz, z.funs, z.frf, z.hok, z.bare⟩
  refine wpAny_call (codeAny_mono (F A X.stack s H us vs Q E hr e0 r h) fun o s2 q => ?_)
  match o, q with
  | .error e, q => exact hx pins σ H s e s2 I q
  | .ok (.ret u), q => exact I.after q
theorem inst_of (I : Inv X pins σ H s) {a dx : Addr} {fs : List (Str × V)} (e : H a = some (.ins C dx fs)) : ∃ ox od, PySem.W.InstAt s.heap a ox C od := by
  obtain ⟨m, J, _⟩ := ins_get I.hok e
  obtain ⟨od, J, _⟩ := J.look
  exact ⟨_, _, J⟩
theorem ep_cmp {u : Value} {s' : Shared} (h : EP X pins σ Q u s') : PySem.W.CmpBack (EP X pins σ Q) u s' := by
  obtain ⟨v, H1, I1, r, q⟩ := id h
  cases u with
  | notImplemented =>
    cases v with
    | int i => obtain ⟨t, z⟩ := r; cases z
    | str i => obtain ⟨t, z⟩ := r; cases z
    | byt i => obtain ⟨t, z⟩ := r; cases z
    | flt i => obtain ⟨t, z⟩ := r; cases z
    | _ => cases r
  | _ => exact h
/-- len(o) -/
def rLenO (C : Addr) (sp : Sp) (E : XK) : List V → Hp → VK → Prop := fun xs H Q => ∃ a dx fs, xs = [.ref a] ∧ H a = some (.ins C dx fs) ∧ sp [.ref a] H (fun v H1 => ∃ n : Nat, v = .int (n : Int) ∧ n < 1000000000 ∧ Q v H1) E
theorem call_lenO (F : FnR X.prog X.w X.K X.mg X.base CX k f sp) (hr : Room (k + 1) X.A) (hx : Passes CX X E) (hs : PySem.W.findIn X.K (.ref C) "__len__" = some (some (.ref f))) (hf : PySem.W.isFn X.K (.ref f) = true) : CallR X (.builtin "len") (rLenO C sp E) := by
  intro pins s σ H xs us Q I r h
  obtain ⟨a, dx, fs, rfl, ea, h⟩ := h
  obtain ⟨u, rfl, ru⟩ := vals1 r
  cases ru
  obtain ⟨ox, od, J⟩ := inst_of I ea
  obtain ⟨m, hF⟩ := I.fr
  refine PySem.W.len_K hF I.ok.mod.kin J hs hf (wpAny_mono (run_sub (vs := [.ref a]) F hr.in1 rfl hx I (.cons rfl .nil) h) (fun v s' hv => ?_) fun _ _ z => z)
  obtain ⟨x, H1, I1, rx, n, rfl, hn, q⟩ := hv
  obtain ⟨t, rfl⟩ := rx
  exact ⟨⟨by omega, by omega⟩, .int (n : Int), H1, I1.tok _, ⟨_, rfl⟩, q⟩
/-- o + p and its like, both of the class -/
def rOwn2 (C : Addr) (sp : Sp) (E : XK) : R2 := fun x y H Q => ∃ a b dx dy fs gs, x = .ref a ∧ y = .ref b ∧ H a = some (.ins C dx fs) ∧ H b = some (.ins C dy gs) ∧ sp [.ref a, .ref b] H Q E
theorem op_own {op : Operator} (F : FnR X.prog X.w X.K X.mg X.base CX k f sp) (hr : Room k X.A) (hx : Passes CX X E) (hc : PySem.W.selfFirst X.K C = true) (hs : PySem.W.findIn X.K (.ref C) (PySem.dunder op.info.2) = some (some (.ref f))) (hf : PySem.W.isFn X.K (.ref f) = true) :
    OpR X (binaryOp op) (rOwn2 C sp E) := by
  intro pins s σ H x y u v Q I rx ry h
  obtain ⟨a, b, dx, dy, fs, gs, rfl, rfl, ea, eb, h⟩ := h
  cases rx
  cases ry
  obtain ⟨ox, od, J⟩ := inst_of I ea
  obtain ⟨oy, oe, J2⟩ := inst_of I eb
  obtain ⟨m, hF⟩ := I.fr
  exact PySem.W.binop_K hF I.ok.mod.kin J J2.type hc hs hf (wpAny_mono (run_sub (vs := [.ref a, .ref b]) F hr rfl hx I (.cons rfl (.cons rfl .nil)) h) (fun _ _ z => ep_cmp z) fun _ _ z => z)
/-- o == p, both of the class -/
theorem op_ownEq (F : FnR X.prog X.w X.K X.mg X.base CX k f sp) (hr : Room k X.A) (hx : Passes CX X E) (hs : PySem.W.findIn X.K (.ref C) "__eq__" = some (some (.ref f))) (hf : PySem.W.isFn X.K (.ref f) = true) : OpR X (compareOp .Eq) (rOwn2 C sp E) := by
  intro pins s σ H x y u v Q I rx ry h
  obtain ⟨a, b, dx, dy, fs, gs, rfl, rfl, ea, eb, h⟩ := h
  cases rx
  cases ry
  obtain ⟨ox, od, J⟩ := inst_of I ea
  obtain ⟨oy, oe, J2⟩ := inst_of I eb
  obtain ⟨m, hF⟩ := I.fr
  show wpAny _ _ (richCompare .Eq (.ref a) (.ref b)) _ _ _
  exact PySem.W.cmp_K (op := .Eq) (tb := .ref C) hr.units0 hF I.ok.mod.kin J J2.type (by simp [PySem.W.notFirst]) hs hf (wpAny_mono (run_sub (vs := [.ref a, .ref b]) F hr rfl hx I (.cons rfl (.cons rfl .nil)) h) (fun _ _ z => ep_cmp z) fun _ _ z => z)
/-- x in o, x not in o -/
def rInO (C : Addr) (sp : Sp) (E : XK) (neg : Bool) : R2 := fun x y H Q => ∃ a dx fs, y = .ref a ∧ H a = some (.ins C dx fs) ∧ sp [.ref a, x] H (fun v H1 => ∃ b, v = .bl b ∧ Q (.bl (neg ^^ b)) H1) E
theorem op_inO (F : FnR X.prog X.w X.K X.mg X.base CX k f sp) (hr : Room k X.A) (hx : Passes CX X E) (hs : PySem.W.findIn X.K (.ref C) "__contains__" = some (some (.ref f))) (hf : PySem.W.isFn X.K (.ref f) = true) : OpR X (compareOp .In) (rInO C sp E false) := by
  intro pins s σ H x y u v Q I rx ry h
  obtain ⟨a, dx, fs, rfl, ea, h⟩ := h
  cases ry
  obtain ⟨ox, od, J⟩ := inst_of I ea
  obtain ⟨m, hF⟩ := I.fr
  refine PySem.W.in_K hF I.ok.mod.kin J hs hf (wpAny_mono (run_sub (vs := [.ref a, x]) F hr rfl hx I (.cons rfl (.cons rx .nil)) h) (fun r s' hv => ?_) fun _ _ z => z)
  obtain ⟨z, H1, I1, rz, b, rfl, q⟩ := hv
  cases rz
  exact wpAny_truthy_bool ⟨.bl b, H1, I1, rfl, by simpa using q⟩
theorem op_notInO (F : FnR X.prog X.w X.K X.mg X.base CX k f sp) (hr : Room k X.A) (hx : Passes CX X E) (hs : PySem.W.findIn X.K (.ref C) "__contains__" = some (some (.ref f))) (hf : PySem.W.isFn X.K (.ref f) = true) : OpR X (compareOp .NotIn) (rInO C sp E true) := by
  intro pins s σ H x y u v Q I rx ry h
  obtain ⟨a, dx, fs, rfl, ea, h⟩ := h
  cases ry
  obtain ⟨ox, od, J⟩ := inst_of I ea
  obtain ⟨m, hF⟩ := I.fr
  refine PySem.W.notIn_K hF I.ok.mod.kin J hs hf (wpAny_mono (run_sub (vs := [.ref a, x]) F hr rfl hx I (.cons rfl (.cons rx .nil)) h) (fun r s' hv => ?_) fun _ _ z => z)
  obtain ⟨z, H1, I1, rz, b, rfl, q⟩ := hv
  cases rz
  exact wpAny_truthy_bool ⟨.bl (!b), H1, I1, rfl, by simpa using q⟩
/-- str(o) -/
def rStrO (C : Addr) (sp : Sp) (E : XK) : List V → Hp → VK → Prop := fun xs H Q => ∃ a dx fs, xs = [.ref a] ∧ H a = some (.ins C dx fs) ∧ sp [.ref a] H (fun v H1 => ∃ z : Str, v = .str z ∧ Q v H1) E
theorem call_strO (F : FnR X.prog X.w X.K X.mg X.base CX k f sp) (hr : Room (k + 2) X.A) (hx : Passes CX X E) (hs : PySem.W.findIn X.K (.ref C) "__str__" = some (some (.ref f))) (hf : PySem.W.isFn X.K (.ref f) = true) : CallR X (.type "str") (rStrO C sp E) := by
  intro pins s σ H xs us Q I r h
  obtain ⟨a, dx, fs, rfl, ea, h⟩ := h
  obtain ⟨u, rfl, ru⟩ := vals1 r
  cases ru
  obtain ⟨ox, od, J⟩ := inst_of I ea
  refine PySem.W.kso_call hr.in1.in1.units0 I.kIn J hs hf (wpAny_mono (run_sub (vs := [.ref a]) F hr.in1.in1 rfl hx I (.cons rfl .nil) h) (fun v s' hv => ?_) fun _ _ z => z)
  obtain ⟨x, H1, I1, rx, z, rfl, q⟩ := hv
  obtain ⟨t, rfl⟩ := rx
  exact ⟨.str z, H1, I1, ⟨_, rfl⟩, q⟩
/-- an own object's truth -/
def tTruO (C : Addr) (sp : Sp) (E : XK) (ta : TE) : TT := fun σ H Q => ta σ H fun x H1 => ∃ a dx fs, x = .ref a ∧ H1 a = some (.ins C dx fs) ∧ sp [.ref a] H1 (fun v H2 => ∃ b, v = .bl b ∧ Q b H2) E
theorem pt_truO {e : Expr} {ta : TE} (ha : PE X e ta) (F : FnR X.prog X.w X.K X.mg X.base CX k f sp) (hr : Room k X.A) (hx : Passes CX X E) (hs : PySem.W.findIn X.K (.ref C) "__bool__" = some (some (.ref f))) (hf : PySem.W.isFn X.K (.ref f) = true)
    (he : ∀ whole, isTrue e X.env whole = (do let v ← whole; standAt e.pos; holding [v] (truthy v))) : PT X e (tTruO C sp E ta) := by
  refine ⟨fun pins s σ H Q I h => ?_⟩
  rw [he]
  refine wpAny_bind (thn (ha.run pins s σ H _ I h) fun u s1 ⟨x, H1, I1, rx, a, dx, fs, ex, ea, q⟩ => ?_)
  subst ex
  cases rx
  obtain ⟨ox, od, J⟩ := inst_of I1 ea
  obtain ⟨m, hF⟩ := I1.fr
  refine wpAny_bind (wpAny_standAt (wpAny_holding ?_))
  refine PySem.W.truthy_K hF I1.ok.mod.kin J hs hf (wpAny_mono (run_sub (vs := [.ref a]) F hr rfl hx I1 (.cons rfl .nil) q) (fun r s' hv => ?_) fun _ _ z => z)
  obtain ⟨z, H2, I2, rz, b, rfl, q⟩ := hv
  cases rz
  exact ⟨H2, I2, q⟩
end
end L2
namespace L2
open PySem PySem.Spec PyProof.Rows
/-! ### tuples that hold own objects: != of what is equal, item by item -/
section
open AutoSeq1 (wpAny_loadPart')
variable {prog : Program} {w : World} {A : Around} {R : Result → Shared → Prop}
theorem tup_neT (p q : Addr) (us vs : Array Value) (m n : Nat) (d1 d2 : Option Addr) (z1 z2 : Array (Option Value)) (hlen : us.size = vs.size) (W : Nat → Shared → Prop)
    (step : ∀ j (a : j < us.size) (b : j < vs.size) sj, W j sj → wpAny (model prog w) A.in1 (eqBool us[j] vs[j]) (fun r sk => r = true ∧ W (j + 1) sk) (fun e sk => R (.error e) sk) sj)
    (out : ∀ sj, W us.size sj → R (.ok (.ret (.bool false))) sj) {s : Shared} (hp1 : s.heap.get? p = some { cls := .type "tuple", dict := d1, data := .seq us m, slots := z1 }) (hq1 : s.heap.get? q = some { cls := .type "tuple", dict := d2, data := .seq vs n, slots := z2 }) (w0 : W 0 s) :
    wpAny (model prog w) A.in1 (Builtin.«tuple.__ne__» ⟨[.ref p, .ref q], []⟩) (GQ.FinOf prog w A R) (fun e sk => R (.error e) sk) s := by
  have sub := AutoSeq1.sub_tuple_tuple
  have zl : (us.toList.zip vs.toList).length = us.size := by rw [List.length_zip, Array.length_toList, Array.length_toList, ← hlen, Nat.min_self]
  have w0' := w0
  obtain ⟨h0, g0, e0, t0, o0⟩ := s
  wp_walk using wpAny_loadPart' hp1, wpAny_loadPart' hq1, wpAny_forIn_list _ (fun tail b sj => b.1 = none ∧ ∃ j, tail = (us.toList.zip vs.toList).drop j ∧ j ≤ us.size ∧ W j sj) _
  case turn =>
    rintro ⟨y, x⟩ tail b sj ⟨eb, j, et, hj, wj⟩
    have lt0 : j < (us.toList.zip vs.toList).length := Nat.lt_of_not_le fun ge => by rw [List.drop_of_length_le ge] at et; cases et
    have lt1 : j < us.size := zl ▸ lt0
    have lt2 : j < vs.size := hlen ▸ lt1
    rw [List.drop_eq_getElem_cons lt0] at et
    injection et with exy etl
    have ey : y = us[j] := by have z := congrArg Prod.fst exy; simpa using z
    have ex : x = vs[j] := by have z := congrArg Prod.snd exy; simpa using z
    subst ey ex
    refine wpAny_bind (wpAny_mono (step j lt1 lt2 sj wj) (fun r sk z => ?_) fun _ _ z => z)
    obtain ⟨er, wk⟩ := z
    subst er
    wp_walk
    exact ⟨rfl, j + 1, etl, lt1, wk⟩
  case fin =>
    rintro ⟨b1, b2⟩ sj ⟨eb, j, et, hj, wj⟩
    simp only at eb
    subst eb
    have ge : us.size ≤ j := Nat.le_of_not_lt fun lt => by rw [List.drop_eq_getElem_cons (zl.symm ▸ lt)] at et; cases et
    have ej : j = us.size := Nat.le_antisymm hj ge
    have done : R (.ok (.ret (.bool false))) sj := out sj (ej ▸ wj)
    wp_walk
    simpa [Builtin.Tuple.tupleCompareSizes, hlen] using done
  case h =>
    exact ⟨rfl, 0, rfl, Nat.zero_le _, w0'⟩
theorem rc_neT {E : Value → Shared → Prop} {p q : Addr} {us vs : Array Value} {s : Shared} {Q : Value → Shared → Prop} (hlen : us.size = vs.size) (hu : A.units < cLine) (W : Nat → Shared → Prop) (hp1 : s.heap.IsTuple p us) (hq1 : s.heap.IsTuple q vs)
    (step : ∀ j (a : j < us.size) (b : j < vs.size) sj, W j sj → wpAny (model prog w) A.in1 (eqBool us[j] vs[j]) (fun r sk => r = true ∧ W (j + 1) sk) E sj)
    (out : ∀ sj, W us.size sj → Q (.bool false) sj) (w0 : W 0 s) : wpAny (model prog w) A (richCompare .NotEq (.ref p) (.ref q)) Q E s := by
  obtain ⟨⟨c1, d1, a1, s1⟩, o1, k1, n1, r1⟩ := id hp1
  obtain ⟨⟨c2, d2, a2, s2⟩, o2, k2, n2, r2⟩ := id hq1
  simp only at k1 r1 k2 r2
  subst k1 r1 k2 r2
  refine wpAny_richCompare_same_room (op := .NotEq) ⟨_, o1, rfl⟩ ⟨_, o2, rfl⟩ F.slot_tuple_ne (GQ.call_here F.slot_tuple_ne ⟨_, o1, rfl⟩ F.entry_tuple_ne (F.args_tuple_ne_2 _ _) ?_) hu
  exact tup_neT (R := wants (fun v sk => v ≠ .notImplemented ∧ Q v sk) E) p q us vs n1 n2 d1 d2 s1 s2 hlen W step (fun sk z => ⟨(fun e => nomatch e), out sk z⟩) o1 o2 w0
end
/-- t != u, tuples whose items are equal by D: False -/
def rNeT (K : PySem.W.Frag) (D : Eqv) : R2 := fun x y H Q => DTup K D x y H ∧ ∀ H1, Ext H H1 → Q (.bl false) H1
theorem op_neT {X : Cx} {n : Nat} {D : Eqv} (hD : Mon D) (h : EqG X n D) (hr : Room (n + 1) X.A) : OpR X (compareOp .NotEq) (rNeT X.K D) := by
  intro pins s σ H x y u v Q I rx ry hq
  obtain ⟨⟨a, b, xs, ys, rfl, rfl, ha, hb, p⟩, q⟩ := hq
  cases rx
  cases ry
  obtain ⟨us, r1, e1, _⟩ := I.tuple ha
  obtain ⟨vs, r2, e2, _⟩ := I.tuple hb
  have hlen : us.toArray.size = vs.toArray.size := by rw [List.size_toArray, List.size_toArray, ← r1.length, ← r2.length]; exact p.1
  show wpAny (model X.prog X.w) X.A (richCompare .NotEq (.ref a) (.ref b)) (EP X pins σ Q) X.xe s
  refine rc_neT hlen hr.units0 (fun _ sj => LoopI X pins σ H sj) e1 e2 (fun j l1 l2 sj z => turnG hD h ⟨hr, rfl⟩ p r1 r2 j l1 l2 sj z) (fun sj z => ?_) ⟨H, I, Ext.rfl'⟩
  obtain ⟨H1, I1, ee⟩ := z
  exact ⟨.bl false, H1, I1, rfl, q H1 ee⟩
end L2
/-! ### enumerate of a tuple, of a text -/
namespace EnX
open PySem PySem.Spec PyProof.Rows L2
theorem new_enum {v : Value} {o : Obj} {G : Heap → Prop} (B : Begins v o G) :
    Meets (Builtin.«enumerate.__new__» ⟨[.type "enumerate", v], []⟩) (fun _ R s => G s.heap ∧
      R (.ok (.ret (.ref (s.heap.push o).objs.size))) { s with heap := (s.heap.push o).push { cls := .type "enumerate", data := .fields #[.none, .bool false, .ref s.heap.objs.size, rawInt 0, .none, .none] } }) :=
  .of_wp fun prog w A R s h => by
    obtain ⟨hp, g, d, tk, os⟩ := s
    obtain ⟨hG, h⟩ := h
    have sub := sub_enumerate
    have begins := fun (A : Around) (E : Value → Shared → Prop) (Q : Value → Shared → Prop) (q : Q (.ref hp.objs.size) ⟨hp.push o, g, d, tk, os⟩) => B.iter prog w A E ⟨hp, g, d, tk, os⟩ Q hG q
    wp_walk
    refine wpAny_stack_any fun st => wpAny_pure ?_
    split
    · rename_i c _ _ _ _ _
      cases (c == Value.type "enumerate")
      · wp_walk using begins
        exact ⟨_, rfl, h⟩
      · wp_walk using begins
        exact ⟨_, rfl, h⟩
    · wp_walk using begins
      exact ⟨_, rfl, h⟩
section
variable {prog : Program} {w : World} {A : Around} {E : Value → Shared → Prop} {s : Shared}
theorem call_enum {v : Value} {o : Obj} {G : Heap → Prop} {Q : Value → Shared → Prop} (B : Begins v o G) (hG : G s.heap)
    (h : ∀ h', IsEnum h' (s.heap.objs.size + 1) s.heap.objs.size 0 .none → h'.get? s.heap.objs.size = some o → (∀ b u, s.heap.get? b = some u → h'.get? b = some u) → Q (.ref (s.heap.objs.size + 1)) { s with heap := h' }) :
    wpAny (model prog w) A (call (.type "enumerate") [v]) Q E s := by
  refine callType_new F.called_enumerate (by decide) (F.typeCall_enumerate_1 _) (F.newCall_enumerate_1 _) (fun obj => F.args_object_init_2 obj _) F.entry_enumerate_new (new_enum B) ⟨hG, ?_⟩
  have z : (s.heap.push o).objs.size = s.heap.objs.size + 1 := Heap.size_push ..
  show _ ∧ _
  rw [z]
  have e : IsEnum ((s.heap.push o).push { cls := .type "enumerate", data := .fields #[.none, .bool false, .ref s.heap.objs.size, rawInt 0, .none, .none] }) (s.heap.objs.size + 1) s.heap.objs.size 0 .none := by
    have q := Heap.get?_push_size (s.heap.push o) (o := { cls := .type "enumerate", data := .fields #[.none, .bool false, .ref s.heap.objs.size, rawInt 0, .none, .none] }) rfl
    rw [z] at q
    exact q
  exact ⟨⟨_, e, rfl⟩, h _ e (Heap.get?_push_of_some _ (Heap.get?_push_size _ B.free)) fun b u x => Heap.get?_push_of_some _ (Heap.get?_push_of_some _ x)⟩
end
end EnX
namespace L2
open PySem PySem.Spec PyProof.Rows
/-- turn i of an enumerate: a new pair of the number and the item -/
def YEn (f : Nat → Option V) (i : Nat) (H : Hp) (v : V) (H' : Hp) : Prop := ∃ T x, v = .ref T ∧ H T = none ∧ H' = upd H T (.tup [.int (i : Nat), x]) ∧ f i = some x
/-- an enumerate that is turned: by what its iterator draws -/
theorem en_item {X : Cx} {pins : List (Addr × Obj)} {σ : St} {H : Hp} {s : Shared} {E : Value → Shared → Prop} {elts : List Expr} {kk : Nat} {tpos : Pos} {e it : Addr} {fp : List Addr} {n i : Nat} {old : Value} {P : Nat → Value → Prop} {S : Nat → Heap → Prop} {x : V} {R : V → Shared → Prop}
    (D : Draws X.prog X.w X.A.in1 it fp n P S) (I : Inv X pins σ H s) (hf : ∀ b ∈ [e, it], FpOk X pins H b) (he : IsEnum s.heap e it ((i : Nat) : Int) old) (hs : S i s.heap) (hi : i < n) (ne : e ≠ it) (nf : e ∉ fp) (fr : it < s.heap.objs.size) (hP : ∀ u, P i u → RelV x u)
    (q : ∀ s' T, H T = none → Inv X pins σ (upd H T (.tup [.int (i : Nat), x])) s' → (∃ old, IsEnum s'.heap e it ((i + 1 : Nat) : Int) old) → S (i + 1) s'.heap → T = s.heap.objs.size → R (.ref T) s') :
    wpAny (model X.prog X.w) X.A (pyNext (.ref e)) (fun r s' => ∃ u, r = some u ∧ wpAny (model X.prog X.w) X.A (letOwnedTupleGo (.Tuple elts kk tpos) (.ref e) u) (fun _ s2 => ∃ v, RelV v u ∧ R v s2) E s') E s := by
  have le : e < s.heap.objs.size := Heap.lt_size he
  refine wpAny_pyNext_enum_itemD D he hs hi ne nf fun u h1 tk hu ho h1S hT hz hk => ?_
  refine ⟨_, rfl, wpAny_letOwnedTupleGo_enum (s := { s with heap := h1, toks := tk + 1 }) ho fun h2 he2 sb => ?_⟩
  have hT2 : h2.get? s.heap.objs.size = some { cls := .type "tuple", data := .seq #[.int i tk, u] } := (sb.2 _ (Nat.ne_of_gt le)).trans hT
  have new : ObjOk X.prog X.w (upd H s.heap.objs.size (.tup [.int (i : Nat), x])) h2 s.heap.objs.size (.tup [.int (i : Nat), x]) := ⟨by show 2 ≤ sizeLine; decide, [.int i tk, u], .cons ⟨_, rfl⟩ (.cons (hP u hu) .nil), ⟨_, hT2, rfl, _, rfl⟩⟩
  have I1 : Inv X pins σ (upd H s.heap.objs.size (.tup [.int (i : Nat), x])) { s with heap := h2, toks := tk + 1 } :=
    I.turnedNew (ch := [e, it]) (fun b ob hb y => (sb.2 b (fun z => hb (by simp [z]))).trans (hk b ob (fun z => hb (by simp [z])) (fun z => hb (by simp [z])) y)) hf (Nat.le_refl _) new
  refine ⟨.ref s.heap.objs.size, rfl, q _ _ (I.hok.fresh (Nat.le_refl _)) I1 ⟨u, ?_⟩ (D.frame _ _ _ h1S fun b hb o y => (sb.2 b (fun z => nf (z ▸ hb))).trans y) rfl⟩
  have z : ((i + 1 : Nat) : Int) = (i : Int) + 1 := by omega
  rw [z]
  exact he2
end L2
namespace L2
open PySem PySem.Spec PyProof.Rows
/-- enumerate of the tuple at a -/
def IetT (K : PySem.W.Frag) (a : Addr) : It :=
  ⟨fun i H => ∃ xs x, SqT K H a xs ∧ xs[i]? = some x, fun i H v H' => ∃ T x, v = .ref T ∧ H T = none ∧ H' = upd H T (.tup [.int (i : Nat), x]) ∧ ∀ xs, SqT K H a xs → xs[i]? = some x, fun i H => ∃ xs, SqT K H a xs ∧ xs.length = i⟩
/-- enumerate of a text -/
def IetZ (z : Str) : It :=
  ⟨fun i _ => i < z.cps.size, fun i H v H' => ∃ T c, v = .ref T ∧ H T = none ∧ H' = upd H T (.tup [.int (i : Nat), .str ⟨#[c]⟩]) ∧ z.cps[i]? = some c, fun i _ => z.cps.size = i⟩
theorem turn_etT {P : Program} {w : World} {K : PySem.W.Frag} {elts : List Expr} {kk : Nat} {tpos : Pos} (a e it : Addr) :
    Turn P w K (.Tuple elts kk tpos) (IetT K a) [e, it] e (fun i h => (∃ old, IsEnum h e it ((i : Nat) : Int) old) ∧ h.IsTupleIter it a i ∧ e ≠ it) where
  mem := by simp
  obj := fun i h st b hb => by
    obtain ⟨⟨old, he⟩, ⟨o, ho, hc, hd⟩, _⟩ := st
    rcases (by simpa using hb : b = e ∨ b = it) with z | z
    · rw [z]
      exact ⟨_, he, fun v q => nomatch q⟩
    · rw [z]
      exact ⟨o, ho, fun v q => by rw [hd] at q; cases q⟩
  keep := fun i h h' st k => by
    obtain ⟨⟨old, he⟩, hi, ne⟩ := st
    exact ⟨⟨old, k e (by simp) _ he⟩, hi.at fun o q => k it (by simp) o q, ne⟩
  item := by
    intro X hP hw hK hc i pins s σ H E I hf st hg
    subst hP hw hK
    obtain ⟨⟨old, he⟩, hit, ne⟩ := st
    obtain ⟨xs, x, hq, hx⟩ := hg
    obtain ⟨its, rv, p, z⟩ := I.tuple hq
    obtain ⟨u, hu, ru⟩ := rv.get hx
    have hil : it < s.heap.objs.size := by obtain ⟨_, q, _⟩ := hit; exact Heap.lt_size q
    have hel : e < s.heap.objs.size := Heap.lt_size he
    have nt : a ≠ it := fun z => by
      obtain ⟨o1, e1, c1, _⟩ := p
      obtain ⟨o2, e2, c2, _⟩ := hit
      rw [z, e2] at e1
      cases e1
      rw [c2] at c1
      exact absurd c1 (by decide)
    have nea : e ≠ a := fun z => by
      obtain ⟨o1, e1, c1, _⟩ := p
      rw [← z, he] at e1
      cases e1
      exact absurd (show Value.type "enumerate" = .type "tuple" from c1) (by decide)
    have hlt : i < its.toArray.size := by
      have := List.getElem?_eq_some_iff.mp hu
      simpa using this.1
    refine wpAny_mono (en_item (elts := elts) (kk := kk) (tpos := tpos) (x := x) (R := fun v s2 => ∃ H', Inv X pins σ H' s2 ∧ (IetT X.K a).yld i H v H' ∧ ((∃ old, IsEnum s2.heap e it ((i + 1 : Nat) : Int) old) ∧ s2.heap.IsTupleIter it a (i + 1) ∧ e ≠ it) ∧ ∀ b ∈ [e, it], H' b = none) (Draws.tuple (show X.A.in1.handled = none from I.ok.hd hc) it a nt its.toArray) I hf he ⟨hit, p⟩ hlt ne (by simp [ne, nea]) hil (fun u' hu' => ?_) fun s' T hT I' he' hs' eT => ?_) (fun r s1 hr => ?_) fun _ _ z => z
    · have e2 : its[i]? = some u' := by simpa using hu'
      rw [hu] at e2
      cases e2
      exact ru
    · refine ⟨_, I', ⟨T, x, rfl, hT, rfl, fun ys hy => by rw [I.tuple_inj hy hq]; exact hx⟩, ⟨he', hs'.1, ne⟩, fun b hb => ?_⟩
      have hb' : b < s.heap.objs.size := by
        rcases (by simpa using hb : b = e ∨ b = it) with z | z
        · rw [z]; exact hel
        · rw [z]; exact hil
      rw [upd_ne (by rw [eT]; exact Nat.ne_of_lt hb')]
      exact (hf b hb).1
    · obtain ⟨u, er, hr⟩ := hr
      refine ⟨u, er, wpAny_mono hr (fun _ s2 h2 => ?_) fun _ _ z => z⟩
      obtain ⟨v, rv, H', I', y, st', n'⟩ := h2
      exact ⟨v, H', I', rv, y, st', n'⟩
  done := by
    intro X hP hw hK hc i pins s σ H E I hf st hg
    subst hP hw hK
    obtain ⟨⟨old, he⟩, hit, ne⟩ := st
    obtain ⟨xs, hq, hx⟩ := hg
    obtain ⟨its, rv, p, z⟩ := I.tuple hq
    obtain ⟨f0, f1, f2, f3, f4, f5⟩ := hf it (by simp)
    have nt : a ≠ it := fun z => by
      obtain ⟨o1, e1, c1, _⟩ := p
      obtain ⟨o2, e2, c2, _⟩ := hit
      rw [z, e2] at e1
      cases e1
      rw [c2] at c1
      exact absurd c1 (by decide)
    have ei : i = its.toArray.size := by rw [List.size_toArray, ← rv.length]; exact hx.symm
    refine wpAny_pyNext_enum_endD (Draws.tuple (show X.A.in1.handled = none from I.ok.hd hc) it a nt its.toArray) he ⟨by rw [← ei]; exact hit, p⟩ fun h' eb => ⟨rfl, I.turned (t' := s.toks) (fun b o hb q => eb b o hb q) f0 f1 f3 f4 f5⟩
  self := fun A i s Q E st h => let ⟨⟨_, he⟩, _⟩ := st; wpAny_pyIter_enum he h
theorem turn_etZ {P : Program} {w : World} {K : PySem.W.Frag} {elts : List Expr} {kk : Nat} {tpos : Pos} (z : Str) (t : Tok) (e it : Addr) :
    Turn P w K (.Tuple elts kk tpos) (IetZ z) [e, it] e (fun i h => (∃ old, IsEnum h e it ((i : Nat) : Int) old) ∧ h.IsStrIter it (strIterType z) z t i ∧ e ≠ it) where
  mem := by simp
  obj := fun i h st b hb => by
    obtain ⟨⟨old, he⟩, ⟨o, ho, hc, hd⟩, _⟩ := st
    rcases (by simpa using hb : b = e ∨ b = it) with z | z
    · rw [z]
      exact ⟨_, he, fun v q => nomatch q⟩
    · rw [z]
      exact ⟨o, ho, fun v q => by rw [hd] at q; cases q⟩
  keep := fun i h h' st k => by
    obtain ⟨⟨old, he⟩, ⟨o, ho, r⟩, ne⟩ := st
    exact ⟨⟨old, k e (by simp) _ he⟩, ⟨o, k it (by simp) o ho, r⟩, ne⟩
  item := by
    intro X hP hw hK hc i pins s σ H E I hf st hg
    subst hP hw hK
    obtain ⟨⟨old, he⟩, hit, ne⟩ := st
    have hlt : i < z.cps.size := hg
    have hil : it < s.heap.objs.size := by obtain ⟨_, q, _⟩ := hit; exact Heap.lt_size q
    have hel : e < s.heap.objs.size := Heap.lt_size he
    refine wpAny_mono (en_item (elts := elts) (kk := kk) (tpos := tpos) (x := .str ⟨#[z.cps[i]]⟩) (R := fun v s2 => ∃ H', Inv X pins σ H' s2 ∧ (IetZ z).yld i H v H' ∧ ((∃ old, IsEnum s2.heap e it ((i + 1 : Nat) : Int) old) ∧ s2.heap.IsStrIter it (strIterType z) z t (i + 1) ∧ e ≠ it) ∧ ∀ b ∈ [e, it], H' b = none) (Draws.text (show X.A.in1.handled = none from I.ok.hd hc) it z t) I hf he hit hlt ne (by simp [ne]) hil (fun u' hu' => ?_) fun s' T hT I' he' hs' eT => ?_) (fun r s1 hr => ?_) fun _ _ z => z
    · obtain ⟨c, u, hc2, rfl⟩ := hu'
      rw [Array.getElem?_eq_getElem hlt] at hc2
      cases hc2
      exact ⟨u, rfl⟩
    · refine ⟨_, I', ⟨T, z.cps[i], rfl, hT, rfl, Array.getElem?_eq_getElem hlt⟩, ⟨he', hs', ne⟩, fun b hb => ?_⟩
      have hb' : b < s.heap.objs.size := by
        rcases (by simpa using hb : b = e ∨ b = it) with z | z
        · rw [z]; exact hel
        · rw [z]; exact hil
      rw [upd_ne (by rw [eT]; exact Nat.ne_of_lt hb')]
      exact (hf b hb).1
    · obtain ⟨u, er, hr⟩ := hr
      refine ⟨u, er, wpAny_mono hr (fun _ s2 h2 => ?_) fun _ _ z => z⟩
      obtain ⟨v, rv, H', I', y, st', n'⟩ := h2
      exact ⟨v, H', I', rv, y, st', n'⟩
  done := by
    intro X hP hw hK hc i pins s σ H E I hf st hg
    subst hP hw hK
    obtain ⟨⟨old, he⟩, hit, ne⟩ := st
    have ei : z.cps.size = i := hg
    obtain ⟨f0, f1, f2, f3, f4, f5⟩ := hf it (by simp)
    exact wpAny_pyNext_enum_endD (Draws.text (show X.A.in1.handled = none from I.ok.hd hc) it z t) he (by rw [ei]; exact hit) fun h' eb => ⟨rfl, I.turned (t' := s.toks) (fun b o hb q => eb b o hb q) f0 f1 f3 f4 f5⟩
  self := fun A i s Q E st h => let ⟨⟨_, he⟩, _⟩ := st; wpAny_pyIter_enum he h
section
variable {X : Cx} {e : Expr} {ta : TA} {p pos tpos : Pos} {elts : List Expr} {kk : Nat}
def iEnumT (K : PySem.W.Frag) (ta : TA) : TI := fun σ H R => ta σ H fun vs H1 => ∃ a xs, vs = [.ref a] ∧ SqT K H1 a xs ∧ R (IetT K a) H1
theorem pi_enumT (hg : Gl X "enumerate") (hm : X.mg "enumerate" = none) (ha : PA X [e] ta) (hs : starEach [e] X.env = [(false, eval e X.env)] := by rfl) : PI X (.Tuple elts kk tpos) (.Call (.Name "enumerate" p) [e] [] pos) (iEnumT X.K ta) := by
  refine ⟨fun pins s σ H R I h => Call_ (ld_blt I hg hm boot_enumerate (PyProof.Rows.callWith_type1 (thn (ha.run pos pins s σ H _ I h) fun us s1 ⟨vs, H1, I1, r1, q1⟩ => ?_) hs rfl))⟩
  obtain ⟨a, xs, ex, hq, q⟩ := q1
  subst ex
  obtain ⟨u, rfl, ru⟩ := vals1 r1
  cases ru
  obtain ⟨its, rv, p', z⟩ := I1.tuple hq
  refine EnX.call_enum (begins_tuple a its.toArray) p' fun h' he hit hk => wpAny_pyIter_enum he ?_
  have I2 : Inv X pins σ H1 { s1 with heap := h' } := I1.kept (t' := s1.toks) hk
  refine ⟨s1.heap.objs.size + 1, [s1.heap.objs.size + 1, s1.heap.objs.size], _, _, H1, rfl, I2, turn_etT a (s1.heap.objs.size + 1) s1.heap.objs.size, ⟨⟨.none, he⟩, ⟨_, hit, rfl, rfl⟩, Nat.succ_ne_self _⟩, fun b hb => ?_, q⟩
  have hle : s1.heap.objs.size ≤ b := by
    rcases (by simpa using hb : b = s1.heap.objs.size + 1 ∨ b = s1.heap.objs.size) with z | z
    · rw [z]; exact Nat.le_add_right _ _
    · rw [z]; exact Nat.le_refl _
  exact I1.fpOk hle (I1.hok.fresh hle)
def iEnumZ (ta : TA) : TI := fun σ H R => ta σ H fun vs H1 => ∃ z, vs = [.str z] ∧ R (IetZ z) H1
theorem pi_enumZ (hg : Gl X "enumerate") (hm : X.mg "enumerate" = none) (ha : PA X [e] ta) (hs : starEach [e] X.env = [(false, eval e X.env)] := by rfl) : PI X (.Tuple elts kk tpos) (.Call (.Name "enumerate" p) [e] [] pos) (iEnumZ ta) := by
  refine ⟨fun pins s σ H R I h => Call_ (ld_blt I hg hm boot_enumerate (PyProof.Rows.callWith_type1 (thn (ha.run pos pins s σ H _ I h) fun us s1 ⟨vs, H1, I1, r1, q1⟩ => ?_) hs rfl))⟩
  obtain ⟨z, ex, q⟩ := q1
  subst ex
  obtain ⟨u, rfl, ru⟩ := vals1 r1
  obtain ⟨t, rfl⟩ := ru
  refine EnX.call_enum (begins_text z t) True.intro fun h' he hit hk => wpAny_pyIter_enum he ?_
  have I2 : Inv X pins σ H1 { s1 with heap := h' } := I1.kept (t' := s1.toks) hk
  refine ⟨s1.heap.objs.size + 1, [s1.heap.objs.size + 1, s1.heap.objs.size], _, _, H1, rfl, I2, turn_etZ z t (s1.heap.objs.size + 1) s1.heap.objs.size, ⟨⟨.none, he⟩, ⟨_, hit, rfl, rfl⟩, Nat.succ_ne_self _⟩, fun b hb => ?_, q⟩
  have hle : s1.heap.objs.size ≤ b := by
    rcases (by simpa using hb : b = s1.heap.objs.size + 1 ∨ b = s1.heap.objs.size) with z | z
    · rw [z]; exact Nat.le_add_right _ _
    · rw [z]; exact Nat.le_refl _
  exact I1.fpOk hle (I1.hok.fresh hle)
end
section
variable {σ : St} {H : Hp} {K : PySem.W.Frag} {ta : TA} {R : It → Hp → Prop}
theorem g_ienT (h : ta σ H fun vs H1 => ∃ a xs, vs = [.ref a] ∧ SqT K H1 a xs ∧ R (IetT K a) H1) : iEnumT K ta σ H R := h
theorem g_ienZ (h : ta σ H fun vs H1 => ∃ z, vs = [.str z] ∧ R (IetZ z) H1) : iEnumZ ta σ H R := h
end
/-- a loop over an enumerate of a tuple; Pv: what holds ahead of turn i -/
theorem for_enT {K : PySem.W.Frag} {a : Addr} {xs : List V} {g : TG} {tb : TS} {D : Ends} {σ : St} {H : Hp} (Pv : Nat → St → Hp → Prop) (h0 : Pv 0 σ H) (hl : ∀ i σ H, i ≤ xs.length → Pv i σ H → SqT K H a xs)
    (hs : ∀ i x T σ H, xs[i]? = some x → Pv i σ H → H T = none → g (.ref T) σ (upd H T (.tup [.int (i : Nat), x])) fun σ2 H2 => tb { D with nx := Pv (i + 1), ct := Pv (i + 1), bk := D.nx } σ2 H2) (hd : ∀ σ H, Pv xs.length σ H → D.nx σ H) :
    ∃ W : Nat → Nat → St → Hp → Prop, (∃ m, W 0 m σ H) ∧ ∀ i m σ H, W i m σ H →
      ((IetT K a).stop i H ∧ D.nx σ H) ∨ ((IetT K a).go i H ∧ ∃ N : St → Hp → Prop, (∀ σ' H', N σ' H' → ∃ m', m' < m ∧ W (i + 1) m' σ' H') ∧ ∀ x H', (IetT K a).yld i H x H' → g x σ H' fun σ2 H2 => tb { D with nx := N, ct := N, bk := D.nx } σ2 H2) := by
  refine ⟨fun i m σ H => m = xs.length - i ∧ i ≤ xs.length ∧ Pv i σ H, ⟨xs.length, by simp, Nat.zero_le _, h0⟩, ?_⟩
  rintro i m σ H ⟨rfl, hi, p⟩
  have q := hl i σ H hi p
  by_cases lt : i < xs.length
  · refine .inr ⟨⟨xs, xs[i], q, List.getElem?_eq_getElem lt⟩, Pv (i + 1), fun σ' H' p' => ⟨xs.length - (i + 1), by omega, rfl, lt, p'⟩, fun v H' y => ?_⟩
    obtain ⟨T, x, rfl, hT, rfl, hx⟩ := y
    exact hs i x T σ H (hx xs q) p hT
  · have e : i = xs.length := by omega
    subst e
    exact .inl ⟨⟨xs, q, rfl⟩, hd σ H p⟩
theorem for_enZ {z : Str} {g : TG} {tb : TS} {D : Ends} {σ : St} {H : Hp} (Pv : Nat → St → Hp → Prop) (h0 : Pv 0 σ H)
    (hs : ∀ i c T σ H, z.cps.toList[i]? = some c → Pv i σ H → H T = none → g (.ref T) σ (upd H T (.tup [.int (i : Nat), .str ⟨#[c]⟩])) fun σ2 H2 => tb { D with nx := Pv (i + 1), ct := Pv (i + 1), bk := D.nx } σ2 H2) (hd : ∀ σ H, Pv z.cps.toList.length σ H → D.nx σ H) :
    ∃ W : Nat → Nat → St → Hp → Prop, (∃ m, W 0 m σ H) ∧ ∀ i m σ H, W i m σ H →
      ((IetZ z).stop i H ∧ D.nx σ H) ∨ ((IetZ z).go i H ∧ ∃ N : St → Hp → Prop, (∀ σ' H', N σ' H' → ∃ m', m' < m ∧ W (i + 1) m' σ' H') ∧ ∀ x H', (IetZ z).yld i H x H' → g x σ H' fun σ2 H2 => tb { D with nx := N, ct := N, bk := D.nx } σ2 H2) := by
  rw [Array.length_toList] at hd
  refine ⟨fun i m σ H => m = z.cps.size - i ∧ i ≤ z.cps.size ∧ Pv i σ H, ⟨z.cps.size, by simp, Nat.zero_le _, h0⟩, ?_⟩
  rintro i m σ H ⟨rfl, hi, p⟩
  by_cases lt : i < z.cps.size
  · refine .inr ⟨lt, Pv (i + 1), fun σ' H' p' => ⟨z.cps.size - (i + 1), by omega, rfl, lt, p'⟩, fun v H' y => ?_⟩
    obtain ⟨T, c, rfl, hT, rfl, hc⟩ := y
    exact hs i c T σ H (by rw [Array.getElem?_toList]; exact hc) p hT
  · have e : i = z.cps.size := by omega
    subst e
    exact .inl ⟨rfl, hd σ H p⟩
end L2
namespace L2
open PySem PySem.Spec PyProof.Rows PySem.Builtin PySem.Builtin.Float
/-! ### two digits to the base 16 in an f-string -/
def hexSpec : Str := "02X"
def hexF : FormatSpec := match parseFormatSpec hexSpec.cps.toList "int" 62 with | .ok f => f | .error _ => { align := 62 }
theorem hexF_ok : parseFormatSpec hexSpec.cps.toList "int" 62 = .ok hexF := by kernel_rfl
def hexText (a : Int) : Str := intField' hexF (decide (a < 0)) [] ((Nat.toDigits 16 a.natAbs).map fun c => c.toUpper.toNat) [] 4
def hexD (n : Nat) : Nat := if n < 10 then 48 + n else 55 + n
theorem hexText_all : ∀ n : Nat, n < 256 → (hexText (n : Int)).cps.toList = [hexD (n / 16), hexD (n % 16)] := by decide +kernel
theorem gives_hex {n : Nat} {t u : Tok} (hn : n < 256) : Gives (Builtin.«int.__format__» ⟨[.int (n : Int) t, .str hexSpec u], []⟩) (.str (hexText (n : Int))) := by
  intro prog w A R s hq
  have e1 : (hexSpec.length == 0) = false := by decide +kernel
  have e2 : ((hexSpec.cps.toList.drop 1).any (· ≥ 128) || (hexSpec.cps.getD 0 0 ≥ 128 && !([60, 62, 61, 94] : List Nat).contains (hexSpec.cps.getD 1 0))) = false := by decide +kernel
  have e3 : hexF.type.getD (if hexSpec.cps.back? == some 0 then 0 else 100) = 88 := by decide +kernel
  have e4 : hexF.precision.isSome = false := by decide +kernel
  have e5 : hexF.noNeg0 = false := by decide +kernel
  have e6 : ¬ (hexF.width.getD 0 > 100000) := by decide +kernel
  have e7 : hexF.alt = false := by decide +kernel
  have e8 : hexF.grouping = none := by decide +kernel
  have e9 : hexF.sign = none := by decide +kernel
  unfold Builtin.«int.__format__»
  simp only [selfAndOne, noKeywords, Int.intOfSelf, asInt?, asStr?, List.isEmpty_nil, if_true, pure_bind, bind_pure, bind_assoc, e1, e2, Bool.false_eq_true, if_false,
    show (Value.str hexSpec u == Value.none) = false from rfl]
  refine wpAny_bind (wpAny_typeNameOf (T := "str") (typeIs_str _ _ _) (by decide) fun _ => ?_)
  first | refine wpAny_bind (wpAny_typeNameOfCut_int ?_) | refine wpAny_bind (wpAny_typeNameOf_int ?_)
  simp only [hexF_ok, e3]
  rw [if_pos (by decide)]
  have hlen : (hexText (n : Int)).length ≤ sizeLine := by
    have e := congrArg List.length (hexText_all n hn)
    rw [Array.length_toList] at e
    show (hexText (n : Int)).cps.size ≤ sizeLine
    rw [e]
    show 2 ≤ sizeLine
    decide
  unfold hexText at hq hlen
  generalize hexF = f at e3 e4 e5 e6 e7 e8 e9 hq hlen ⊢
  show wpAny _ _ (if _ then _ else _) _ _ _
  rw [if_neg (by simp [e4])]
  show wpAny _ _ (if _ then _ else _) _ _ _
  rw [if_neg (by simp [e5])]
  show wpAny _ _ (if _ then _ else _) _ _ _
  rw [if_neg (by decide)]
  show wpAny _ _ (if _ then _ else _) _ _ _
  rw [if_neg (by decide)]
  show wpAny _ _ (if _ then _ else _) _ _ _
  rw [if_neg (by simpa using e6)]
  show wpAny _ _ (retStr _) _ _ _
  unfold retStr
  refine wpAny_bind (wpAny_mkStr (wpAny_pure ?_) ?hs2)
  case hs2 =>
    simp only [e7, Bool.false_eq_true, if_false, beq_self_eq_true, if_true, show ((16 : Nat) == 10) = false by decide]
    conv => lhs; arg 1; whnf
    simp only [intField', e7, e8, e9, Bool.false_eq_true, if_false] at hlen ⊢
    exact hlen
  dsimp only
  simp only [e7, Bool.false_eq_true, if_false, beq_self_eq_true, if_true, show ((16 : Nat) == 10) = false by decide]
  have hq2 : R (.ok (.ret (.str (intField' f (decide ((n : Int) < 0)) [] (List.map (fun c => c.toUpper.toNat) (Nat.toDigits 16 (n : Int).natAbs)) [] 4) s.toks))) { s with toks := s.toks + 1 } := hq.2
  conv => arg 1; arg 1; arg 1; arg 1; whnf
  simp only [intField', e7, e8, e9, Bool.false_eq_true, if_false] at hq2 ⊢
  exact hq2
theorem hexText_of {n : Nat} (hn : n < 256) : hexText (n : Int) = ⟨#[hexD (n / 16), hexD (n % 16)]⟩ := by
  have e := hexText_all n hn
  cases h : hexText (n : Int) with
  | mk a =>
    rw [h] at e
    exact congrArg Str.mk (Array.toList_inj.mp e)
/-- {e:02X}, e a number below 256 -/
def tHex (te : TE) : TE := fun σ H Q => te σ H fun x H1 => ∃ n : Nat, x = .int (n : Int) ∧ n < 256 ∧ Q (.str ⟨#[hexD (n / 16), hexD (n % 16)]⟩) H1
theorem g_hex {te : TE} {σ : St} {H : Hp} {Q : VK} (h : te σ H fun x H1 => ∃ n : Nat, x = .int (n : Int) ∧ n < 256 ∧ Q (.str ⟨#[hexD (n / 16), hexD (n % 16)]⟩) H1) : tHex te σ H Q := h
theorem pe_fmtHex {X : Cx} {e : Expr} {te : TE} {pos p2 p3 : Pos} {j : Nat} (he : PE X e te) : PE X (.FormattedValue e (-1) (some (.JoinedStr [.Constant (.str "02X") j p2] p3)) pos) (tHex te) := by
  refine ⟨fun pins s σ H Q I h => wpAny_FormattedValue_spec (thn (he.run pins s σ H _ I h) fun v s1 hv => ?_)⟩
  obtain ⟨x, H1, I1, r1, n, rfl, hn, q⟩ := hv
  obtain ⟨t, rfl⟩ := r1
  have hp : PE X (.JoinedStr [.Constant (.str "02X") j p2] p3) (tC (.str "02X")) := pe_joined1 pe_str
  refine thn (hp.run pins s1 σ H1 (fun z H2 => z = .str "02X" ∧ H2 = H1) I1 ⟨rfl, rfl⟩) fun r s2 hr => ?_
  obtain ⟨z, H2, I2, r2, ez, eH⟩ := hr
  subst ez eH
  obtain ⟨t2, rfl⟩ := r2
  refine ⟨_, _, rfl, ?_⟩
  have ex := hexText_of hn
  refine wpAny_formatField_spec (sp := hexSpec) (x := hexText (n : Int)) (by decide +kernel) (fun s' => typeIs_int s' _ _) slot_int_format entry_int_format args_int_format (fun u => gives_hex hn) ?_ (by decide +kernel) (by rw [ex]; show 2 ≤ sizeLine; decide)
  rw [ex]
  exact ⟨.str _, _, I2.tok _, ⟨_, rfl⟩, q⟩
end L2
namespace RvX
open PySem PySem.Spec PyProof.Rows L2
section
variable {prog : Program} {w : World} {A : Around} {E : Value → Shared → Prop} {s : Shared}
theorem applied_back {sl : Addr} {vs : Value} {n : Nat} {Q : Int × Int × Nat → Shared → Prop} (hs : s.heap.IsSliceOf sl .none .none vs) (ps : IsPart vs (some (-1))) (h : Q ((n : Int) - 1, -1, n) s) :
    wpAny (model prog w) A (Builtin.Slice.sliceApplied (.ref sl) (pure (n : Int))) Q E s := by
  obtain ⟨os, hos, hcs, hds⟩ := id hs
  unfold Builtin.Slice.sliceApplied Builtin.Slice.sliceFields
  refine wpAny_bind (wpAny_bind (wpAny_field hos hds (x := .none) rfl (wpAny_bind (wpAny_field hos hds (x := .none) rfl (wpAny_bind (wpAny_field hos hds (x := vs) rfl (wpAny_pure ?_)))))))
  refine wpAny_bind (HT.slicePart_ ps ?_)
  show wpAny _ _ (if ((-1 : Int) == 0) = true then _ else _) _ _ s
  rw [if_neg (by decide)]
  refine wpAny_bind (HT.slicePart_ .none (wpAny_bind (HT.slicePart_ .none (wpAny_bind (wpAny_pure ?_)))))
  show wpAny _ _ (match Builtin.Slice.sliceAdjust none none (-1) (n : Int) with | (a, b) => pure (a, (-1 : Int), Builtin.Slice.slicePlaces a b (-1))) _ _ s
  rw [show Builtin.Slice.sliceAdjust none none (-1) (n : Int) = ((n : Int) - 1, -1) by
    unfold Builtin.Slice.sliceAdjust
    simp]
  show wpAny _ _ (pure ((n : Int) - 1, (-1 : Int), Builtin.Slice.slicePlaces ((n : Int) - 1) (-1) (-1))) _ _ s
  rw [show Builtin.Slice.slicePlaces ((n : Int) - 1) (-1) (-1) = n by
    unfold Builtin.Slice.slicePlaces
    have h1 : ¬ ((-1 : Int) > 0) := by decide
    simp only [h1, if_false]
    by_cases hn : (n : Int) - 1 > -1
    · simp only [hn, if_true]
      rw [show (- -1 : Int) = 1 by decide, Int.ediv_one]
      omega
    · simp only [hn, if_false]
      omega]
  exact wpAny_pure h
theorem fm_congr {α β : Type} {f g : α → Option β} : ∀ {l : List α}, (∀ x ∈ l, f x = g x) → l.filterMap f = l.filterMap g
  | [], _ => rfl
  | x :: l, h => by
    rw [List.filterMap_cons, List.filterMap_cons, h x (List.mem_cons_self ..), fm_congr fun y hy => h y (List.mem_cons_of_mem _ hy)]
theorem pick_back (xs : Array Value) : ((List.range xs.size).filterMap fun (m : Nat) => xs[((xs.size : Int) - 1 + (m : Int) * (-1)).toNat]?).toArray = xs.toList.reverse.toArray := by
  have e : (List.range xs.size).filterMap (fun (m : Nat) => xs[((xs.size : Int) - 1 + (m : Int) * (-1)).toNat]?) = ((List.range xs.size).map fun k => xs.size - 1 - k).filterMap (xs[·]?) := by
    rw [List.filterMap_map]
    refine fm_congr fun k hk => ?_
    have := List.mem_range.mp hk
    show xs[((xs.size : Int) - 1 + (k : Int) * (-1)).toNat]? = xs[xs.size - 1 - k]?
    congr 1
    omega
  rw [e, PySem.W.krv_range, List.filterMap_reverse, PySem.W.krv_all]
theorem getItem_back {t sl : Addr} {items : Array Value} {vs : Value} {Q : Value → Shared → Prop} (ht : IsTup s.heap t items) (hs : s.heap.IsSliceOf sl .none .none vs) (ps : IsPart vs (some (-1)))
    (h : Q (.ref s.heap.objs.size) { s with heap := s.heap.push { cls := .type "tuple", data := .seq items.toList.reverse.toArray } }) (hsz : items.size ≤ sizeLine) : wpAny (model prog w) A (getItem (.ref t) (.ref sl)) Q E s := by
  have fit : sizeOk (.seq items.toList.reverse.toArray) := by
    show items.toList.reverse.toArray.size ≤ sizeLine
    rw [List.size_toArray, List.length_reverse, Array.length_toList]
    exact hsz
  obtain ⟨os, hos, hcs, hds⟩ := id hs
  have hTs : s.TypeIs (.ref sl) "slice" := ⟨os, hos, hcs⟩
  unfold getItem
  try with_reducible refine wpAny_holding ?_
  first | refine wpAny_bind (wpAny_pure ?_) | skip
  refine wpAny_bind (wpAny_sequenceKey ht.typeIs (by decide) ?_)
  refine wpAny_bind (wpAny_callSpecial?_slot (name := Str.ofString "__getitem__") ht.typeIs PyProof.Rows.slot_tuple_getitem
    (wpAny_call_entry PyProof.Rows.slot_tuple_getitem ht.typeIs PyProof.Rows.entry_tuple_getitem ?_ (PyProof.Rows.args_tuple_getitem _ _)))
  show wpAny _ _ (Builtin.Tuple.tupleItemsOf (.ref t) >>= _) _ _ s
  refine wpAny_bind (tupleItemsOf_ ht ?_)
  refine wpAny_bind (wpAny_typeOf hTs ?_)
  rw [if_pos (by decide)]
  refine wpAny_bind (applied_back hs ps ?_)
  show wpAny _ _ (if (((items.size : Int) - 1) == 0 && (-1 : Int) == 1 && items.size == items.size) = true then _ else _) _ _ s
  rw [if_neg (by simp), pick_back]
  first
    | exact wpAny_bind (wpAny_bind (m := Builtin.Tuple.tupleExact _) (wpAny_newObj_type (wpAny_pure (wpAny_pure ⟨_, rfl, wpAny_pure h⟩)) fit))
    | exact wpAny_bind (m := Builtin.Tuple.tupleExact _) (wpAny_newObj_type (wpAny_pure ⟨_, rfl, wpAny_pure h⟩) fit)
    | exact wpAny_bind (wpAny_bind (m := Builtin.Tuple.tupleExact _) (wpAny_newObj_type (wpAny_pure ⟨_, rfl, wpAny_pure h⟩) fit))
    | exact wpAny_bind (m := Builtin.Tuple.tupleExact _) (wpAny_newObj_type (wpAny_bind (wpAny_pure (wpAny_pure ⟨_, rfl, wpAny_pure h⟩))) fit)
end
end RvX
namespace L2
open PySem PySem.Spec PyProof.Rows
/-- t[::-1], t a tuple -/
def tRevT (K : PySem.W.Frag) (te : TE) : TE := fun σ H Q => te σ H fun x H1 => ∃ a xs, x = .ref a ∧ SqT K H1 a xs ∧ ∀ p, H1 p = none → Q (.ref p) (upd H1 p (.tup xs.reverse))
theorem pe_revT {X : Cx} {e : Expr} {te : TE} {k : Nat} {p1 p2 p3 pos : Pos} (he : PE X e te) : PE X (.Subscript e (.Slice none none (some (.UnaryOp .USub (.Constant (.int 1) k p1) p2)) p3) pos) (tRevT X.K te) := by
  refine ⟨fun pins s σ H Q I h => Subscript_ (thn (he.run pins s σ H _ I h) fun v s1 ⟨x, H1, I1, r1, a, xs, ex, hx, q⟩ => ?_)⟩
  subst ex
  cases r1
  have back : PO X (some (.UnaryOp .USub (.Constant (.int 1) k p1) p2)) (tPart (tUn (rU fun i => .int (-i)) (tC (.int 1)))) := po_some (pe_un un_neg pe_int)
  refine wpAny_Slice (thn (po_none.run pins s1 σ H1 (fun o H2 => o = none ∧ H2 = H1) I1 ⟨rfl, rfl⟩) fun vl s2 ⟨l, H2, I2, pl, el, e2⟩ => ?_)
  subst el e2
  refine thn (po_none.run pins s2 σ H2 (fun o H3 => o = none ∧ H3 = H2) I2 ⟨rfl, rfl⟩) fun vu s3 ⟨u, H3, I3, pu, eu, e3⟩ => ?_
  subst eu e3
  refine thn (back.run pins s3 σ H3 (fun o H4 => o = some (-1) ∧ H4 = H3) I3 ⟨1, rfl, -1, rfl, rfl, rfl⟩) fun vs s4 ⟨o, H4, I4, ps, eo, e4⟩ => ?_
  subst eo e4
  cases pl
  cases pu
  have I5 : Inv X pins σ H4 { s4 with heap := s4.heap.push { cls := .type "slice", data := .fields #[.none, .none, vs] } } := I4.kept (t' := s4.toks) fun b ob q => Heap.get?_push_of_some _ q
  obtain ⟨its, r, ht, hz⟩ := I5.tuple hx
  have len := r.length
  show wpAny (model X.prog X.w) X.A (subscriptTail e (.Slice none none (some (.UnaryOp .USub (.Constant (.int 1) k p1) p2)) p3) (.ref a) (.ref s4.heap.objs.size)) (EP X pins σ Q) X.xe { s4 with heap := s4.heap.push { cls := .type "slice", data := .fields #[.none, .none, vs] } }
  refine tail_any (ops := [.ref a, .ref s4.heap.objs.size]) ht.typeIs (PyProof.Rows.slot_tuple_getitem.lookup) ?_ (by with_unfolding_all rfl)
  refine RvX.getItem_back ht (Heap.IsSliceOf.new _ .none .none vs) ps ?_ (by rw [List.size_toArray]; omega)
  refine ⟨.ref _, _, I5.laid (t' := s4.toks) (o := .tup xs.reverse) (fun b ob q => Heap.get?_push_of_some _ q) (Nat.le_refl _) ?_, rfl, q _ (I5.hok.fresh (Nat.le_refl _))⟩
  exact ⟨by rw [List.length_reverse]; exact hz, _, r.reverse, IsTup.new _ _⟩
theorem g_revT {K : PySem.W.Frag} {σ : St} {H : Hp} {Q : VK} {te : TE} (h : te σ H fun x H1 => ∃ a xs, x = .ref a ∧ SqT K H1 a xs ∧ ∀ p, H1 p = none → Q (.ref p) (upd H1 p (.tup xs.reverse))) : tRevT K te σ H Q := h
/-- z.ljust(n, c) -/
def rLjust : V → List V → Hp → VK → Prop := fun x xs H Q => ∃ (a : Str) (i : Int) (c : Nat), x = .str a ∧ xs = [.int i, .str ⟨#[c]⟩] ∧ PadOk i = true ∧ Q (.str (Txt.ljustF a i c)) H
theorem mt_ljust2 {X : Cx} : MtR X "str.ljust" rLjust := by
  intro pins s σ H x xs v us Q I rx rs h
  obtain ⟨a, i, c, rfl, rfl, hp, q⟩ := h
  obtain ⟨t, rfl⟩ := rx
  obtain ⟨u1, u2, rfl, r1, r2⟩ := vals2 rs
  obtain ⟨t1, rfl⟩ := r1
  obtain ⟨t2, rfl⟩ := r2
  exact ljust_fill hp rfl fun t' k => ⟨.str _, H, I.tok _, ⟨_, rfl⟩, q⟩
theorem g_ljust {a : Str} {i : Int} {c : Nat} {H : Hp} {Q : VK} (h : PadOk i = true) (q : Q (.str (Txt.ljustF a i c)) H) : rLjust (.str a) [.int i, .str ⟨#[c]⟩] H Q := ⟨a, i, c, rfl, rfl, h, q⟩
/-- z.index(c), c one sign that is there -/
def rSIndex : V → List V → Hp → VK → Prop := fun x xs H Q => ∃ (a : Str) (c : Nat) (i : Nat) , x = .str a ∧ xs = [.str ⟨#[c]⟩] ∧ (∃ rest, Builtin.Str.occurrences a ⟨#[c]⟩ 0 a.length 1 = i :: rest) ∧ Q (.int (i : Nat)) H
theorem mt_sindex1 {X : Cx} : MtR X "str.index" rSIndex := by
  intro pins s σ H x xs v us Q I rx rs h
  obtain ⟨a, c, i, e1, e2, ⟨rest, ho⟩, q⟩ := h
  exact mt_sindex pins s σ H x xs v us Q I rx rs ⟨a, ⟨#[c]⟩, i, rest, e1, e2, ho, q⟩
theorem g_sindex {a : Str} {c i : Nat} {H : Hp} {Q : VK} (h : ∃ rest, Builtin.Str.occurrences a ⟨#[c]⟩ 0 a.length 1 = i :: rest) (q : Q (.int (i : Nat)) H) : rSIndex (.str a) [.str ⟨#[c]⟩] H Q := ⟨a, c, i, rfl, rfl, h, q⟩
end L2
namespace L2
open PySem
/-! readings of own objects, a step each -/
section
variable {σ : St} {H : Hp} {Q : VK} {D : Ends} {ta tv : TE} {K : PySem.W.Frag} {f : Str} {C : Addr} {sp : Sp} {dvs : List V} {E : XK} {t : TA}
theorem g_fld (h : ta σ H fun x H1 => ∃ a C dx fs v, x = .ref a ∧ H1 a = some (.ins C dx fs) ∧ Cls K C ∧ NoAttr K C f ∧ fs.lookup f = some v ∧ Q v H1) : tFld K ta f σ H Q := h
theorem g_fldS (h : tv σ H fun y H1 => ta σ H1 fun x H2 => ∃ a C dx fs, x = .ref a ∧ H2 a = some (.ins C dx fs) ∧ Cls K C ∧ NoAttr K C f ∧ fs.length < 1000 ∧ D.nx σ (upd H2 a (.ins C dx (putF f y fs)))) : sFld K ta tv f D σ H := h
theorem g_prop (h : ta σ H fun x H1 => ∃ a dx fs, x = .ref a ∧ H1 a = some (.ins C dx fs) ∧ sp (.ref a :: dvs) H1 Q E) : tProp C sp dvs E ta σ H Q := h
theorem g_make (h : t σ H fun vs H1 => ∀ x dx, H1 x = none → H1 dx = none → dx ≠ x → sp (.ref x :: (vs ++ dvs)) (upd (upd H1 dx (.own x)) x (.ins C dx [])) (fun v H2 => v = .non ∧ Q (.ref x) H2) E) : tMake C sp dvs E t σ H Q := h
theorem g_cmeth (h : ta σ H fun x H1 => x = .ref C ∧ t σ H1 fun vs H2 => sp (.ref C :: vs) H2 Q E) : ClX.tCMeth C sp E ta t σ H Q := h
theorem g_starA {te : TE} {Q : List V → Hp → Prop} (h : te σ H fun x H1 => ∃ p xs, x = V.ref p ∧ (SqT K H1 p xs ∨ SqL K H1 p xs) ∧ t σ H1 fun ys H2 => Q (xs ++ ys) H2) : StX.tStar K te t σ H Q := h
theorem g_while {c : TT} {tb : TS} (h : ∃ W : Nat → St → Hp → Prop, (∃ m, W m σ H) ∧ ∀ m σ H, W m σ H → c σ H fun b H1 => if b = true then ∃ N : St → Hp → Prop, (∀ σ' H', N σ' H' → ∃ m', m' < m ∧ W m' σ' H') ∧ tb { D with nx := N, ct := N, bk := D.nx } σ H1 else D.nx σ H1) : tWhile c tb D σ H := h
end
end L2
/-! ### texts -/
namespace Tx
open PySem L2
/-- numbers as values -/
def iv (c : Nat) : V := .int (c : Int)
/-- the object at a is the text of these codes -/
def At (K : PySem.W.Frag) (H : Hp) (C a : Addr) (cs : List Nat) : Prop := ∃ dx t, H a = some (.ins C dx [("_codes", .ref t)]) ∧ SqT K H t (cs.map iv)
section
variable {K : PySem.W.Frag} {H H' : Hp} {C a t dx : Addr} {cs : List Nat} {Q : VK} {E : XK}
theorem At.same (h : At K H C a cs) (s : Same H H') : At K H' C a cs := by
  obtain ⟨dx, t, h1, h2⟩ := h
  exact ⟨dx, t, s _ _ h1, s.sqt h2⟩
theorem fld {P : V → Prop} (h : H a = some (.ins C dx [("_codes", .ref t)])) (c : Cls K C) (n : NoAttr K C "_codes") (q : P (.ref t)) :
    ∃ a1 C1 dx1 fs v, V.ref a = .ref a1 ∧ H a1 = some (.ins C1 dx1 fs) ∧ Cls K C1 ∧ NoAttr K C1 "_codes" ∧ fs.lookup ("_codes" : Str) = some v ∧ P v := ⟨a, C, dx, _, .ref t, rfl, h, c, n, rfl, q⟩
theorem prop (h : H a = some (.ins C dx [("_codes", .ref t)])) (q : Q (.ref t) H) : ∃ a1 dx1 fs, V.ref a = .ref a1 ∧ H a1 = some (.ins C dx1 fs) ∧ getSp C "_codes" (.ref a1 :: []) H Q E := ⟨a, dx, _, rfl, h, a, dx, _, .ref t, rfl, h, rfl, q⟩
end
theorem kp_of_same {x : Addr} {H H' : Hp} (s : Same H H') : Dr.Kp x H H' := fun p o _ h => s p o h
/-- the promises: made of a body, of a tuple of codes -/
def spInit (C : Addr) : Sp := fun vs H Q _ => ∃ x dx m z, vs = [.ref x, m] ∧ H x = some (.ins C dx []) ∧ AnyO H m ∧ m = .str z ∧ Mk.isBody m = true ∧ ∀ H1 t, Dr.Kp x H H1 → H1 x = some (.ins C dx [("_codes", .ref t)]) → H1 t = some (.tup (z.cps.toList.map iv)) → Q .non H1
def spWith (K : PySem.W.Frag) (C : Addr) : Sp := fun vs H Q _ => ∃ t cs, vs = [.ref t] ∧ SqT K H t (cs.map iv) ∧ ∀ H1 a, Same H H1 → H a = none → At K H1 C a cs → Q (.ref a) H1
def spOf (K : PySem.W.Frag) (C : Addr) : Sp := fun vs H Q _ => ∃ y t cs, vs = [y, .ref t] ∧ H t = some (.tup (cs.map iv)) ∧ (∀ c ∈ cs, Mk.isCode (iv c) = true) ∧ ∀ H1 a, Same H H1 → H a = none → At K H1 C a cs → Q (.ref a) H1
def spAdd (K : PySem.W.Frag) (C : Addr) : Sp := fun vs H Q _ => ∃ a b cs ds, vs = [.ref a, .ref b] ∧ At K H C a cs ∧ At K H C b ds ∧ cs.length + ds.length ≤ 100000 ∧ ∀ H1 p, Same H H1 → At K H1 C p (cs ++ ds) → Q (.ref p) H1
def spEq (K : PySem.W.Frag) (C : Addr) : Sp := fun vs H Q _ => ∃ a b cs ds, vs = [.ref a, .ref b] ∧ At K H C a cs ∧ At K H C b ds ∧ Q (.bl (decide (cs = ds))) H
theorem iv_inj {cs ds : List Nat} (h : cs.map iv = ds.map iv) : cs = ds := by
  induction cs generalizing ds with
  | nil => cases ds with
    | nil => rfl
    | cons d ds => cases h
  | cons c cs ih => cases ds with
    | nil => cases h
    | cons d ds =>
      rw [List.map_cons, List.map_cons] at h
      injection h with h1 h2
      have : c = d := by
        have := V.int.inj h1
        omega
      rw [this, ih h2]
/-- numbers as data -/
theorem dps {K : PySem.W.Frag} {H : Hp} : ∀ cs : List Nat, DpAll K H (cs.map iv) (cs.map fun (c : Nat) => PyData.int (c : Int))
  | [] => .nil
  | c :: cs => .cons (.int _) (dps cs)
theorem eqvAll_ints : ∀ (cs ds : List Nat), PyData.eqvAll (cs.map fun (c : Nat) => PyData.int (c : Int)) (ds.map fun (c : Nat) => PyData.int (c : Int)) = decide (cs = ds)
  | [], [] => by simp [PyData.eqvAll]
  | [], d :: ds => by simp [PyData.eqvAll]
  | c :: cs, [] => by simp [PyData.eqvAll]
  | c :: cs, d :: ds => by
    rw [List.map_cons, List.map_cons, PyData.eqvAll, eqvAll_ints cs ds, PyData.eqv]
    by_cases h1 : c = d
    · subst h1
      simp
    · have h2 : ¬ ((c : Int) = (d : Int)) := by omega
      simp [h1, h2]
theorem eqv_tup (cs ds : List Nat) : PyData.eqv (.tuple (cs.map fun (c : Nat) => PyData.int (c : Int))) (.tuple (ds.map fun (c : Nat) => PyData.int (c : Int))) = decide (cs = ds) := by
  rw [PyData.eqv, eqvAll_ints]
theorem cla_ints : ∀ cs : List Nat, PyData.canLayAll0 (cs.map fun (c : Nat) => PyData.int (c : Int)) = true
  | [] => by simp [PyData.canLayAll0]
  | c :: cs => by
    have := cla_ints cs
    simp [PyData.canLayAll0, PyData.canLay0, this]
theorem dep_ints : ∀ cs : List Nat, PyData.depthAll (cs.map fun (c : Nat) => PyData.int (c : Int)) ≤ 1
  | [] => by simp [PyData.depthAll]
  | c :: cs => by
    have := dep_ints cs
    simp only [List.map_cons, PyData.depthAll, PyData.depth]
    omega
theorem shaped_ints (cs : List Nat) : SeqAt.shaped (.tuple (cs.map fun (c : Nat) => PyData.int (c : Int))) = true := by
  have h1 := dep_ints cs
  show (PyData.canLay0 _ && decide (PyData.depth _ ≤ 64)) = true
  rw [Bool.and_eq_true]
  refine ⟨?_, decide_eq_true ?_⟩
  · simp only [PyData.canLay0]
    exact cla_ints cs
  · simp only [PyData.depth]
    omega
end Tx
namespace L2
open PySem
/-- xs + ys, tuples: whatever object it is -/
theorem g_catA {K : PySem.W.Frag} {H : Hp} {Q : VK} {p u : Addr} {xs ys : List V} (h1 : SqT K H p xs) (h2 : SqT K H u ys) (hz : xs.length + ys.length ≤ sizeLine) (q : ∀ H1 r, Same H H1 → SqT K H1 r (xs ++ ys) → Q (.ref r) H1) : rCatA K (.ref p) (.ref u) H Q := by
  refine ⟨p, u, xs, ys, rfl, rfl, h1, h2, hz, fun e => q H u (Same.refl H) ?_, fun _ e => q H p (Same.refl H) ?_, fun _ _ r hr => q _ r (same_new hr) (SqT.of upd_same)⟩
  · rw [e, List.nil_append]
    exact h2
  · rw [e, List.append_nil]
    exact h1
/-- t[lo:hi], a tuple -/
theorem g_slA {K : PySem.W.Frag} {H : Hp} {Q : VK} {p : Addr} {xs : List V} {lo hi : Option Int} (h : SqT K H p xs) (q : ∀ H1 r, Same H H1 → SqT K H1 r (cutV xs lo hi) → Q (.ref r) H1) : rSlA K (.ref p) lo hi H Q := by
  refine ⟨p, xs, rfl, h, fun w => q H p (Same.refl H) ?_, fun _ r hr => q _ r (same_new hr) (SqT.of upd_same)⟩
  have e : cutV xs lo hi = xs := by
    unfold cutV
    rw [w.1, w.2, List.drop_zero, Nat.sub_zero, List.take_of_length_le (Nat.le_refl _)]
  rw [e]
  exact h
end L2
namespace L2
open PySem PySem.Spec PyProof.Rows
open AutoSeq1 (wpAny_loadPart') in
theorem extend_tup (l b : Addr) (us vs : Array Value) (m n : Nat) (dd : Option Addr) (sl : Array (Option Value)) (short : ¬(!us.isEmpty && Builtin.List.listTooLong (us.size + vs.size)) = true) (h1 : us.size ≤ sizeLine) (h2 : us.size + vs.size ≤ sizeLine + 1) :
    Meets (Builtin.«list.extend» ⟨[.ref l, .ref b], []⟩) (fun _ R s => s.heap.get? l = some { cls := .type "list", dict := none, data := .seq us m, slots := #[] } ∧ s.heap.get? b = some { cls := .type "tuple", dict := dd, data := .seq vs n, slots := sl } ∧
      R (.ok (.ret Value.none)) { s with heap := s.heap.update l (Obj.mapSeq fun x => x ++ vs), toks := s.toks }) :=
  .of_wp fun prog w A R s q => by
    obtain ⟨hp, g, d, tk, os⟩ := s
    obtain ⟨hl, hb, q⟩ := q
    have e1 := AutoSeq1.idx_int
    have e2 := AutoSeq1.sub_tuple_tuple
    have e3 := AutoSeq1.sub_list_list
    have e4 := AutoSeq1.sub_tuple_list
    have e5 := AutoSeq1.sub_list_tuple
    have fit : (us ++ vs).size ≤ sizeLine + 1 := by
      rw [Array.size_append]
      exact h2
    wp_walk using (wpAny_updateSeq hl rfl (hz := h1) (_hz' := fit)), wpAny_loadPart' hl, wpAny_loadPart' hb
    exact ⟨_, rfl, q⟩
/-- l.extend(t), t a tuple -/
def rExtT (K : PySem.W.Frag) : V → List V → Hp → VK → Prop := fun x vs H Q => ∃ l b xs zs, x = .ref l ∧ vs = [.ref b] ∧ H l = some (.lst xs) ∧ SqT K H b zs ∧ xs.length + zs.length ≤ sizeLine ∧ Q .non (upd H l (.lst (xs ++ zs)))
theorem mt_extendT {X : Cx} : MtM X "list.extend" (rExtT X.K) := by
  intro pins s σ H x vs v us Q I rx rv h
  obtain ⟨l, b, xs, zs, rfl, rfl, hH, hB, hz, q⟩ := h
  cases rx
  obtain ⟨u, rfl, ru⟩ := rv.one
  cases ru
  obtain ⟨z, its, n, r, hl, e⟩ := I.lstM hH
  obtain ⟨its2, r2, ⟨⟨c2, d2, a2, s2⟩, o2, k2, n2, q2⟩, z2⟩ := I.tuple hB
  simp only at k2 q2
  subst k2 q2
  have len1 := r.length
  have len2 := r2.length
  have fit : its.toArray.size + its2.toArray.size ≤ sizeLine := by rw [List.size_toArray, List.size_toArray]; omega
  have short : ¬ (!its.toArray.isEmpty && Builtin.List.listTooLong (its.toArray.size + its2.toArray.size)) = true := by
    rw [notLongL fit, Bool.and_false]
    exact Bool.false_ne_true
  refine call_meets F.slot_list_extend ⟨_, e, rfl⟩ F.entry_list_extend (F.args_list_extend_2 _ _) (extend_tup l b its.toArray its2.toArray n n2 d2 s2 short (by rw [List.size_toArray]; omega) (by omega)) ⟨e, o2, ?_⟩
  refine ⟨.non, _, I.lset (its' := its ++ its2) hH e (by simp) (r.append r2) ?_, rfl, q⟩
  rw [List.length_append]
  omega
theorem g_extT {K : PySem.W.Frag} {H : Hp} {Q : VK} {l b : Addr} {xs zs : List V} (h1 : H l = some (.lst xs)) (h2 : SqT K H b zs) (hz : xs.length + zs.length ≤ sizeLine) (q : Q .non (upd H l (.lst (xs ++ zs)))) : rExtT K (.ref l) [.ref b] H Q := ⟨l, b, xs, zs, rfl, rfl, h1, h2, hz, q⟩
end L2
/-! payloads and charsets: the mathematics -/
namespace Cd
open PySem L2
theorem marks_at : ∀ c, c < 127 → 32 ≤ c → c ≠ 37 → Mk.MARKS.cps.toList[if c < 37 then c - 32 else c - 33]? = some c := by decide +kernel
def HD : Str := "0123456789ABCDEF"
def AL : Str := "ABCDEFGHIJKLMNOPQRSTUVWXYZabcdefghijklmnopqrstuvwxyz0123456789+-"
def al (d : Nat) : Nat := AL.cps.toList.getD d 0
def isLD (o : Nat) : Bool := decide (o ∈ Mk.LADS.cps.toList)
/-- the coding h -/
def hForm (o : Nat) : List Nat := if o = 32 then [95] else if isLD o then [o] else [61, hexD (o / 16), hexD (o % 16)]
def payH (os : List Nat) : List Nat := (os.map hForm).flatten
theorem ld_facts : ∀ o, o < 256 → isLD o = true → 32 ≤ o ∧ o ≤ 126 ∧ o ≠ 37 ∧ o ≠ 61 ∧ o ≠ 95 ∧ o ≠ 32 := by decide +kernel
theorem hform_len {o : Nat} : 1 ≤ (hForm o).length ∧ (hForm o).length ≤ 3 := by
  unfold hForm
  split
  · exact ⟨by decide, by decide⟩
  · split <;> exact ⟨by simp, by simp⟩
theorem payH_len : ∀ os : List Nat, os.length ≤ (payH os).length ∧ (payH os).length ≤ 3 * os.length
  | [] => ⟨Nat.le_refl _, Nat.le_refl _⟩
  | o :: os => by
    have ih := payH_len os
    have h := @hform_len o
    show _ ≤ (hForm o ++ payH os).length ∧ (hForm o ++ payH os).length ≤ _
    rw [List.length_append, List.length_cons]
    omega
theorem payH_app (a b : List Nat) : payH (a ++ b) = payH a ++ payH b := by
  unfold payH
  rw [List.map_append, List.flatten_append]
theorem hex_ne : ∀ d, d < 16 → hexD d ≠ 61 := by decide +kernel
theorem payH_count : ∀ os : List Nat, (∀ o ∈ os, o < 256) → (payH os).count 61 * 2 + os.length = (payH os).length
  | [], _ => rfl
  | o :: os, h => by
    have ih := payH_count os fun x hx => h x (List.mem_cons_of_mem _ hx)
    have ho := h o (List.mem_cons_self ..)
    show (hForm o ++ payH os).count 61 * 2 + _ = (hForm o ++ payH os).length
    rw [List.count_append, List.length_append, List.length_cons]
    have e : (hForm o).count 61 * 2 + 1 = (hForm o).length := by
      unfold hForm
      split
      · decide
      · split
        · rename_i h1 h2
          have n := (ld_facts o ho h2).2.2.2.1
          rw [List.count_cons, List.count_nil, if_neg (by simpa using n)]
          rfl
        · have n1 := hex_ne (o / 16) (by omega)
          have n2 := hex_ne (o % 16) (by omega)
          simp [List.count_cons, n1, n2]
    omega
/-- the coding s -/
def num3 (os : List Nat) : Nat := os.getD 0 0 * 65536 + os.getD 1 0 * 256 + os.getD 2 0
def sDigits (n : Nat) : List Nat := [n / 262144, n / 4096 % 64, n / 64 % 64, n % 64]
def sForm (os : List Nat) : List Nat := ((sDigits (num3 os)).take (os.length + 1)).map al
def payS : List Nat → List Nat
  | [] => []
  | [a] => sForm [a]
  | [a, b] => sForm [a, b]
  | a :: b :: c :: r => sForm [a, b, c] ++ payS r
theorem payS3 {os : List Nat} (h : 3 ≤ os.length) : payS os = sForm (os.take 3) ++ payS (os.drop 3) := by
  match os, h with
  | a :: b :: c :: r, _ => rfl
theorem payS_few {os : List Nat} (h0 : os ≠ []) (h : os.length ≤ 3) : payS os = sForm os := by
  match os, h0, h with
  | [a], _, _ => rfl
  | [a, b], _, _ => rfl
  | [a, b, c], _, _ => exact List.append_nil _
/-- row by row -/
theorem payS_rows (os : List Nat) : ∀ (m i : Nat), os.length ≤ 3 * (i + m) → 3 * (i + m) < os.length + 3 → ((List.range' i m).map fun k => sForm ((os.drop (3 * k)).take 3)).flatten = payS (os.drop (3 * i))
  | 0, i, h1, h2 => by rw [List.drop_of_length_le (by omega)]; rfl
  | m + 1, i, h1, h2 => by
    rw [List.range'_succ, List.map_cons, List.flatten_cons, payS_rows os m (i + 1) (by omega) (by omega)]
    by_cases h : 3 ≤ (os.drop (3 * i)).length
    · rw [payS3 h, List.drop_drop]
      rfl
    · have h0 : os.drop (3 * i) ≠ [] := fun e => by
        have := congrArg List.length e
        rw [List.length_drop] at this
        simp at this
        omega
      rw [payS_few h0 (by omega), List.take_of_length_le (by omega), show payS (os.drop (3 * (i + 1))) = [] by rw [List.drop_of_length_le (by rw [List.length_drop] at h; omega)]; rfl, List.append_nil]
theorem sform_len {os : List Nat} (h : os.length ≤ 3) : (sForm os).length = os.length + 1 := by
  unfold sForm sDigits
  rw [List.length_map, List.length_take]
  show min (os.length + 1) 4 = _
  omega
theorem payS_len : ∀ os : List Nat, (payS os).length = (4 * os.length + 2) / 3
  | [] => rfl
  | [a] => by
    rw [show payS [a] = sForm [a] from rfl, sform_len (by simp)]
    simp
  | [a, b] => by
    rw [show payS [a, b] = sForm [a, b] from rfl, sform_len (by simp)]
    simp
  | a :: b :: c :: r => by
    show (sForm [a, b, c] ++ payS r).length = _
    rw [List.length_append, sform_len (Nat.le_refl _), payS_len r]
    simp only [List.length_cons, List.length_nil]
    omega
theorem payS_app : ∀ (a b : List Nat), a.length % 3 = 0 → payS (a ++ b) = payS a ++ payS b
  | [], b, _ => rfl
  | [x], b, h => by simp at h
  | [x, y], b, h => by simp at h
  | x :: y :: z :: r, b, h => by
    show sForm [x, y, z] ++ payS (r ++ b) = (sForm [x, y, z] ++ payS r) ++ payS b
    rw [payS_app r b (by simp only [List.length_cons] at h; omega), List.append_assoc]
def digS (ds : List Nat) : Nat := (ds ++ List.replicate (4 - ds.length) 0).foldl (fun n d => n * 64 + d) 0
def row3 (n : Nat) : List Nat := [n / 65536, n / 256 % 256, n % 256]
theorem back3 {a b c : Nat} (ha : a < 256) (hb : b < 256) (hc : c < 256) : row3 (digS (sDigits (num3 [a, b, c]))) = [a, b, c] := by
  have e : digS (sDigits (num3 [a, b, c])) = a * 65536 + b * 256 + c := by
    show (((0 * 64 + (a * 65536 + b * 256 + c) / 262144) * 64 + (a * 65536 + b * 256 + c) / 4096 % 64) * 64 + (a * 65536 + b * 256 + c) / 64 % 64) * 64 + (a * 65536 + b * 256 + c) % 64 = _
    omega
  rw [e]
  unfold row3
  congr 1
  · omega
  · congr 1
    · omega
    · congr 1
      omega
theorem back2 {a b : Nat} (ha : a < 256) (hb : b < 256) : row3 (digS ((sDigits (num3 [a, b])).take 3)) = [a, b, 0] := by
  have e : digS ((sDigits (num3 [a, b])).take 3) = a * 65536 + b * 256 := by
    show (((0 * 64 + (a * 65536 + b * 256 + 0) / 262144) * 64 + (a * 65536 + b * 256 + 0) / 4096 % 64) * 64 + (a * 65536 + b * 256 + 0) / 64 % 64) * 64 + 0 = _
    omega
  rw [e]
  unfold row3
  congr 1
  · omega
  · congr 1
    · omega
    · congr 1
      omega
theorem back1 {a : Nat} (ha : a < 256) : row3 (digS ((sDigits (num3 [a])).take 2)) = [a, 0, 0] := by
  have e : digS ((sDigits (num3 [a])).take 2) = a * 65536 := by
    show (((0 * 64 + (a * 65536 + 0 * 256 + 0) / 262144) * 64 + (a * 65536 + 0 * 256 + 0) / 4096 % 64) * 64 + 0) * 64 + 0 = _
    omega
  rw [e]
  unfold row3
  congr 1
  · omega
  · congr 1
    · omega
    · congr 1
      omega
theorem sdig_lt {n : Nat} (h : n < 16777216) : ∀ d ∈ sDigits n, d < 64 := by
  intro d hd
  simp only [sDigits, List.mem_cons, List.not_mem_nil, or_false] at hd
  omega
theorem num3_lt {os : List Nat} (h : ∀ o ∈ os, o < 256) : num3 os < 16777216 := by
  have g : ∀ i, os.getD i 0 < 256 := fun i => by
    rw [List.getD_eq_getElem?_getD]
    cases e : os[i]? with
    | none => exact (by decide : (0 : Nat) < 256)
    | some v => exact h v (List.mem_of_getElem? e)
  unfold num3
  have := g 0
  have := g 1
  have := g 2
  omega
/-- one row of digits, read -/
def sBack (ds : List Nat) : List Nat := (row3 (digS ds)).take (ds.length - 1)
theorem sback {os : List Nat} (h : ∀ o ∈ os, o < 256) (h0 : os ≠ []) (h3 : os.length ≤ 3) : row3 (digS ((sDigits (num3 os)).take (os.length + 1))) = os ++ List.replicate (3 - os.length) 0 := by
  match os, h0, h3, h with
  | [a], _, _, h => exact back1 (h a (by simp))
  | [a, b], _, _, h => exact back2 (h a (by simp)) (h b (by simp))
  | [a, b, c], _, _, h => exact back3 (h a (by simp)) (h b (by simp)) (h c (by simp))
end Cd
namespace Cd
open PySem L2
theorem al_sign : ∀ d, d < 64 → AL.cps.toList[d]? = some (al d) ∧ (AL.cps.toList.take d).all (fun c => decide (c ≠ al d)) = true := by decide +kernel
theorem hd_sign : ∀ d, d < 16 → HD.cps.toList[d]? = some (hexD d) ∧ (HD.cps.toList.take d).all (fun c => decide (c ≠ hexD d)) = true := by decide +kernel
/-! charsets -/
inductive Kd | latin | wide | steps deriving DecidableEq
def Kd.name : Kd → Str | .latin => "latin" | .wide => "wide" | .steps => "steps"
def stepsRow (c : Nat) : List Nat := if c < 128 then [c] else if c < 16384 then [c % 128 + 128, c / 128] else [c % 128 + 128, c / 128 % 128 + 128, c / 16384]
def rowOf : Kd → Nat → List Nat
  | .latin, c => [c]
  | .wide, c => [c / 256, c % 256]
  | .steps, c => stepsRow c
def whole : Kd → List Nat → Bool
  | .latin, _ => true
  | .wide, r => decide (r.length = 2)
  | .steps, r => decide (r.getLast? = some (r.getD (r.length - 1) 0) ∧ r.getD (r.length - 1) 0 < 128) || decide (r.length = 3)
def rstep (k : Kd) (p : List (List Nat) × List Nat) (o : Nat) : List (List Nat) × List Nat := if whole k (p.2 ++ [o]) then (p.1 ++ [p.2 ++ [o]], []) else (p.1, p.2 ++ [o])
def rowsOf (k : Kd) (os : List Nat) : List (List Nat) := let p := os.foldl (rstep k) ([], []); if p.2 = [] then p.1 else p.1 ++ [p.2]
def codeOf : Kd → List Nat → Option Nat
  | .latin, r => some (r.getD 0 0)
  | .wide, r => if r.length = 2 then some (r.getD 0 0 * 256 + r.getD 1 0) else none
  | .steps, r => if r.getD (r.length - 1) 0 > 127 ∨ r.getD (r.length - 1) 0 = 0 then none else some (r.foldr (fun o n => n * 128 + o % 128) 0)
/-- a code that the charset has -/
def inKd (k : Kd) (c : Nat) : Prop := 1 ≤ c ∧ c ≤ 65535 ∧ (k = .latin → c ≤ 255)
theorem row_lt {k : Kd} {c : Nat} (h : inKd k c) : ∀ o ∈ rowOf k c, o < 256 := by
  obtain ⟨h1, h2, h3⟩ := h
  intro o ho
  cases k with
  | latin =>
    have := h3 rfl
    simp only [rowOf, List.mem_singleton] at ho
    omega
  | wide =>
    simp only [rowOf, List.mem_cons, List.not_mem_nil, or_false] at ho
    omega
  | steps =>
    simp only [rowOf, stepsRow] at ho
    split at ho
    · simp only [List.mem_singleton] at ho
      omega
    · split at ho
      · simp only [List.mem_cons, List.not_mem_nil, or_false] at ho
        omega
      · simp only [List.mem_cons, List.not_mem_nil, or_false] at ho
        omega
theorem row_len {k : Kd} {c : Nat} : 1 ≤ (rowOf k c).length ∧ (rowOf k c).length ≤ 3 := by
  cases k with
  | latin => simp [rowOf]
  | wide => simp [rowOf]
  | steps =>
    simp only [rowOf, stepsRow]
    split
    · simp
    · split <;> simp
/-- the octets of a code make one row -/
theorem row_fold {k : Kd} {c : Nat} (h : inKd k c) (acc : List (List Nat)) : (rowOf k c).foldl (rstep k) (acc, []) = (acc ++ [rowOf k c], []) := by
  obtain ⟨h1, h2, h3⟩ := h
  cases k with
  | latin => rfl
  | wide => rfl
  | steps =>
    simp only [rowOf, stepsRow]
    split
    · rename_i a
      have w : whole .steps [c] = true := by simp [whole, a]
      simp [rstep, w]
    · split
      · rename_i a b
        have w1 : whole .steps [c % 128 + 128] = false := by simp [whole]
        have w2 : whole .steps [c % 128 + 128, c / 128] = true := by simp [whole]; omega
        simp [rstep, w1, w2]
      · rename_i a b
        have w1 : whole .steps [c % 128 + 128] = false := by simp [whole]
        have w2 : whole .steps [c % 128 + 128, c / 128 % 128 + 128] = false := by simp [whole]
        have w3 : whole .steps [c % 128 + 128, c / 128 % 128 + 128, c / 16384] = true := by simp [whole]
        simp [rstep, w1, w2, w3]
theorem rows_fold {k : Kd} : ∀ (cs : List Nat) (acc : List (List Nat)), (∀ c ∈ cs, inKd k c) → ((cs.map (rowOf k)).flatten).foldl (rstep k) (acc, []) = (acc ++ cs.map (rowOf k), [])
  | [], acc, _ => by simp
  | c :: cs, acc, h => by
    rw [List.map_cons, List.flatten_cons, List.foldl_append, row_fold (h c (List.mem_cons_self ..)), rows_fold cs _ fun x hx => h x (List.mem_cons_of_mem _ hx)]
    simp
theorem rows_back {k : Kd} {cs : List Nat} (h : ∀ c ∈ cs, inKd k c) : rowsOf k (cs.map (rowOf k)).flatten = cs.map (rowOf k) := by
  unfold rowsOf
  rw [rows_fold cs [] h]
  simp
theorem code_back {k : Kd} {c : Nat} (h : inKd k c) : codeOf k (rowOf k c) = some c := by
  obtain ⟨h1, h2, h3⟩ := h
  cases k with
  | latin => rfl
  | wide =>
    show some (c / 256 * 256 + c % 256) = some c
    congr 1
    omega
  | steps =>
    simp only [rowOf, stepsRow]
    split
    · rename_i a
      show (if c > 127 ∨ c = 0 then none else some (0 * 128 + c % 128)) = some c
      rw [if_neg (by omega)]
      congr 1
      omega
    · split
      · rename_i a b
        show (if c / 128 > 127 ∨ c / 128 = 0 then none else some ((0 * 128 + c / 128 % 128) * 128 + (c % 128 + 128) % 128)) = some c
        rw [if_neg (by omega)]
        congr 1
        omega
      · rename_i a b
        show (if c / 16384 > 127 ∨ c / 16384 = 0 then none else some (((0 * 128 + c / 16384 % 128) * 128 + (c / 128 % 128 + 128) % 128) * 128 + (c % 128 + 128) % 128)) = some c
        rw [if_neg (by omega)]
        congr 1
        omega
def isC (c : Nat) : Bool := Mk.isCode (.int (c : Int))
def known (o : Option Nat) : Nat := match o with | some c => if isC c then c else 63 | none => 63
theorem isC_iff {c : Nat} : isC c = true ↔ (32 ≤ c ∧ c ≤ 126 ∧ c ≠ 37) ∨ (160 ≤ c ∧ c ≤ 65535) := by
  show ((decide ((32 : Int) ≤ c) && decide ((c : Int) ≤ 126) && !decide (V.int (c : Int) = V.int 37)) || (decide ((160 : Int) ≤ c) && decide ((c : Int) ≤ 65535))) = true ↔ _
  simp only [Bool.or_eq_true, Bool.and_eq_true, decide_eq_true_eq, Bool.not_eq_true', decide_eq_false_iff_not, V.int.injEq]
  omega
theorem inKd_of {k : Kd} {c : Nat} (h : isC c = true) (hl : k = .latin → c ≤ 255) : inKd k c := by
  have := isC_iff.mp h
  exact ⟨by omega, by omega, hl⟩
end Cd
namespace L2
open PySem
/-! ### comprehensions whose steps make what they like and give f of the item -/
section
variable {K : PySem.W.Frag} {J : It} {n : Nat} {g : TG} {te : TE} {vs : List Nat} {σ : St} {H1 : Hp} {D : Addr} {Qd : Hp → Prop}
theorem lc_pure {G : Hp → Prop} {it : Nat → V} (f : Nat → V) (w : Walk J n G (fun i H x H' => H' = H ∧ x = it i)) (hG : ∀ H, Same H1 H → G H) (hD : H1 D = none) (hn : n ≤ 100000)
    (hs : ∀ i H (N : V → Hp → Prop), i < n → Same H1 H → (∀ H4, Same H H4 → N (f i) H4) → g (it i) (wipe σ vs) H fun σ2 H2 => wipe σ2 vs = wipe σ vs ∧ te σ2 H2 N) (hd : ∀ H, Same H1 H → H D = some (.lst ((List.range n).map f)) → Qd H) :
    ∃ W : Nat → Nat → Hp → Prop, (∃ m, W 0 m (upd H1 D (.lst []))) ∧ ∀ i m H, W i m H →
      (J.stop i H ∧ Qd H) ∨ (J.go i H ∧ ∃ Nx : Hp → Prop, (∀ H', Nx H' → ∃ m', m' < m ∧ W (i + 1) m' H') ∧ ∀ x H', J.yld i H x H' → g x (wipe σ vs) H' fun σ2 H2 => wipe σ2 vs = wipe σ vs ∧ tYes σ2 H2 fun b H3 =>
        if b = true then te σ2 H3 fun y H4 => ∃ acc, H4 D = some (.lst acc) ∧ acc.length < sizeLine ∧ Nx (upd H4 D (.lst (acc ++ [y]))) else Nx H3) := by
  refine lc_it w (fun i H => Same H1 H ∧ H D = some (.lst ((List.range i).map f))) ⟨same_new hD, upd_same⟩ (fun i H _ p => hG H p.1) (fun i x H H' hi p y => ?_) fun H p => hd H p.1 p.2
  obtain ⟨rfl, rfl⟩ := y
  refine hs i H' _ hi p.1 fun H4 s4 => ?_
  refine ⟨_, s4 _ _ p.2, ?_, (p.1.trans s4).mut hD, ?_⟩
  · rw [List.length_map, List.length_range]
    exact Nat.lt_of_lt_of_le hi (Nat.le_trans hn (by decide))
  · rw [upd_same, List.range_succ, List.map_append]
    rfl
end
section
variable {K : PySem.W.Frag} {g : TG} {te : TE} {vs : List Nat} {σ : St} {H1 : Hp} {D : Addr} {Qd : Hp → Prop} {a : Addr} {xs : List V}
theorem rng_get (xs : List V) (f : V → V) : (List.range xs.length).map (fun i => f (xs.getD i .non)) = xs.map f := by
  apply List.ext_getElem
  · simp
  · intro i h1 h2
    simp at h1
    simp [List.getD_eq_getElem?_getD, List.getElem?_eq_getElem h1]
/-- over a tuple -/
theorem lc_pureT (f : V → V) (ha : SqT K H1 a xs) (hD : H1 D = none) (hn : xs.length ≤ 100000)
    (hs : ∀ x H (N : V → Hp → Prop), x ∈ xs → Same H1 H → (∀ H4, Same H H4 → N (f x) H4) → g x (wipe σ vs) H fun σ2 H2 => wipe σ2 vs = wipe σ vs ∧ te σ2 H2 N) (hd : ∀ H, Same H1 H → H D = some (.lst (xs.map f)) → Qd H) :
    ∃ W : Nat → Nat → Hp → Prop, (∃ m, W 0 m (upd H1 D (.lst []))) ∧ ∀ i m H, W i m H →
      ((Itt K a).stop i H ∧ Qd H) ∨ ((Itt K a).go i H ∧ ∃ Nx : Hp → Prop, (∀ H', Nx H' → ∃ m', m' < m ∧ W (i + 1) m' H') ∧ ∀ x H', (Itt K a).yld i H x H' → g x (wipe σ vs) H' fun σ2 H2 => wipe σ2 vs = wipe σ vs ∧ tYes σ2 H2 fun b H3 =>
        if b = true then te σ2 H3 fun y H4 => ∃ acc, H4 D = some (.lst acc) ∧ acc.length < sizeLine ∧ Nx (upd H4 D (.lst (acc ++ [y]))) else Nx H3) := by
  refine lc_pure (n := xs.length) (it := fun i => xs.getD i .non) (G := fun H => SqT K H a xs) (fun i => f (xs.getD i .non)) (walk_tup.mono (fun _ h => h) fun i H x H' hi _ y => ⟨y.1, ?_⟩) (fun H s => s.sqt ha) hD hn (fun i H N hi s k => ?_) fun H s e => hd H s (by rw [e, rng_get])
  · rw [List.getD_eq_getElem?_getD, y.2]
    rfl
  · refine hs _ H N ?_ s k
    rw [List.getD_eq_getElem?_getD, List.getElem?_eq_getElem hi]
    exact List.getElem_mem hi
/-- over a list -/
theorem lc_pureL (f : V → V) (ha : SqL K H1 a xs) (hD : H1 D = none) (hn : xs.length ≤ 100000)
    (hs : ∀ x H (N : V → Hp → Prop), x ∈ xs → Same H1 H → (∀ H4, Same H H4 → N (f x) H4) → g x (wipe σ vs) H fun σ2 H2 => wipe σ2 vs = wipe σ vs ∧ te σ2 H2 N) (hd : ∀ H, Same H1 H → H D = some (.lst (xs.map f)) → Qd H) :
    ∃ W : Nat → Nat → Hp → Prop, (∃ m, W 0 m (upd H1 D (.lst []))) ∧ ∀ i m H, W i m H →
      ((Itl K a).stop i H ∧ Qd H) ∨ ((Itl K a).go i H ∧ ∃ Nx : Hp → Prop, (∀ H', Nx H' → ∃ m', m' < m ∧ W (i + 1) m' H') ∧ ∀ x H', (Itl K a).yld i H x H' → g x (wipe σ vs) H' fun σ2 H2 => wipe σ2 vs = wipe σ vs ∧ tYes σ2 H2 fun b H3 =>
        if b = true then te σ2 H3 fun y H4 => ∃ acc, H4 D = some (.lst acc) ∧ acc.length < sizeLine ∧ Nx (upd H4 D (.lst (acc ++ [y]))) else Nx H3) := by
  refine lc_pure (n := xs.length) (it := fun i => xs.getD i .non) (G := fun H => SqL K H a xs) (fun i => f (xs.getD i .non)) (walk_list.mono (fun _ h => h) fun i H x H' hi _ y => ⟨y.1, ?_⟩) (fun H s => Same.seq s ha) hD hn (fun i H N hi s k => ?_) fun H s e => hd H s (by rw [e, rng_get])
  · rw [List.getD_eq_getElem?_getD, y.2]
    rfl
  · refine hs _ H N ?_ s k
    rw [List.getD_eq_getElem?_getD, List.getElem?_eq_getElem hi]
    exact List.getElem_mem hi
/-- over a range with a step -/
theorem lc_pureC {lo c : Int} {n : Nat} (f : Nat → V) (hD : H1 D = none) (hn : n ≤ 100000)
    (hs : ∀ i H (N : V → Hp → Prop), i < n → Same H1 H → (∀ H4, Same H H4 → N (f i) H4) → g (.int (lo + (i : Nat) * c)) (wipe σ vs) H fun σ2 H2 => wipe σ2 vs = wipe σ vs ∧ te σ2 H2 N) (hd : ∀ H, Same H1 H → H D = some (.lst ((List.range n).map f)) → Qd H) :
    ∃ W : Nat → Nat → Hp → Prop, (∃ m, W 0 m (upd H1 D (.lst []))) ∧ ∀ i m H, W i m H →
      ((Itc lo c n).stop i H ∧ Qd H) ∨ ((Itc lo c n).go i H ∧ ∃ Nx : Hp → Prop, (∀ H', Nx H' → ∃ m', m' < m ∧ W (i + 1) m' H') ∧ ∀ x H', (Itc lo c n).yld i H x H' → g x (wipe σ vs) H' fun σ2 H2 => wipe σ2 vs = wipe σ vs ∧ tYes σ2 H2 fun b H3 =>
        if b = true then te σ2 H3 fun y H4 => ∃ acc, H4 D = some (.lst acc) ∧ acc.length < sizeLine ∧ Nx (upd H4 D (.lst (acc ++ [y]))) else Nx H3) :=
  lc_pure (it := fun i => .int (lo + (i : Nat) * c)) (G := fun _ => True) f walk_rangeC (fun _ _ => trivial) hD hn hs hd
end
/-- tuples that the heap tracks -/
theorem g_catT {K : PySem.W.Frag} {H : Hp} {Q : VK} {p u : Addr} {xs ys : List V} (h1 : H p = some (.tup xs)) (h2 : H u = some (.tup ys)) (hz : xs.length + ys.length ≤ sizeLine) (q : ∀ H1 r, Same H H1 → H1 r = some (.tup (xs ++ ys)) → Q (.ref r) H1) : rCatA K (.ref p) (.ref u) H Q := by
  refine ⟨p, u, xs, ys, rfl, rfl, SqT.of h1, SqT.of h2, hz, fun e => q H u (Same.refl H) ?_, fun _ e => q H p (Same.refl H) ?_, fun _ _ r hr => q _ r (same_new hr) upd_same⟩
  · rw [e, List.nil_append]
    exact h2
  · rw [e, List.append_nil]
    exact h1
theorem g_slT {K : PySem.W.Frag} {H : Hp} {Q : VK} {p : Addr} {xs : List V} {lo hi : Option Int} (h : H p = some (.tup xs)) (q : ∀ H1 r, Same H H1 → H1 r = some (.tup (cutV xs lo hi)) → Q (.ref r) H1) : rSlA K (.ref p) lo hi H Q := by
  refine ⟨p, xs, rfl, SqT.of h, fun w => q H p (Same.refl H) ?_, fun _ r hr => q _ r (same_new hr) upd_same⟩
  have e : cutV xs lo hi = xs := by
    unfold cutV
    rw [w.1, w.2, List.drop_zero, Nat.sub_zero, List.take_of_length_le (Nat.le_refl _)]
  rw [e]
  exact h
theorem cut_nat (xs : List V) (i j : Nat) : cutV xs (some (i : Int)) (some (j : Int)) = (xs.drop i).take (j - i) := by
  unfold cutV
  rw [HT.sIx_nat, HT.sIx_nat]
  by_cases hi : i ≤ xs.length
  · rw [Nat.min_eq_left hi]
    by_cases hj : j ≤ xs.length
    · rw [Nat.min_eq_left hj]
    · rw [Nat.min_eq_right (show xs.length ≤ j by omega)]
      rw [List.take_of_length_le (by rw [List.length_drop]; exact Nat.le_refl _), List.take_of_length_le (by rw [List.length_drop]; omega)]
  · rw [Nat.min_eq_right (show xs.length ≤ i by omega)]
    rw [List.drop_of_length_le (Nat.le_refl _), List.drop_of_length_le (show xs.length ≤ i by omega)]
    simp
theorem cut_to (xs : List V) (j : Nat) : cutV xs none (some (j : Int)) = xs.take j := by
  unfold cutV
  rw [HT.sIx_nat, HT.sIx_none, List.drop_zero, Nat.sub_zero]
  by_cases hj : j ≤ xs.length
  · rw [Nat.min_eq_left hj]
  · rw [Nat.min_eq_right (show xs.length ≤ j by omega), List.take_of_length_le (Nat.le_refl _), List.take_of_length_le (by omega)]
theorem cut_of (xs : List V) (i : Nat) : cutV xs (some (i : Int)) none = xs.drop i := by
  unfold cutV
  rw [HT.sIx_nat, HT.sIx_none]
  by_cases hi : i ≤ xs.length
  · rw [Nat.min_eq_left hi, List.take_of_length_le (by rw [List.length_drop]; exact Nat.le_refl _)]
  · rw [Nat.min_eq_right (show xs.length ≤ i by omega), List.drop_of_length_le (Nat.le_refl _), List.drop_of_length_le (show xs.length ≤ i by omega)]
    simp
end L2
namespace Cd
open PySem L2 Tx
/-- a text of these signs -/
def zs (l : List Nat) : Str := ⟨l.toArray⟩
theorem zs_list (l : List Nat) : (zs l).cps.toList = l := by simp [zs]
theorem zs_len (l : List Nat) : (zs l).length = l.length := by rw [len_list, zs_list]
theorem zs_ext {z : Str} {l : List Nat} (h : z.cps.toList = l) : z = zs l := by
  cases z
  rw [← h]
  simp [zs]
theorem zs_join (ls : List (List Nat)) : Txt.join ("" : Str) (ls.map zs) = zs ls.flatten := by
  refine zs_ext ?_
  rw [join_list, List.map_map]
  congr 1
  exact (List.map_congr_left (g := id) fun l _ => zs_list l).trans (List.map_id _)
theorem al_occ : ∀ d, d < 64 → Builtin.Str.occurrences AL ⟨#[al d]⟩ 0 AL.length 1 = [d] := by decide +kernel
theorem hd_occ : ∀ d, d < 16 → Builtin.Str.occurrences HD ⟨#[hexD d]⟩ 0 HD.length 1 = [d] := by decide +kernel
def pay (h : Bool) (os : List Nat) : List Nat := if h then payH os else payS os
def cname (h : Bool) : Str := if h then "h" else "s"
abbrev T0 (H : Hp) (p : Addr) (os : List Nat) : Prop := H p = some (.tup (os.map iv))
def Oct (os : List Nat) : Prop := ∀ o ∈ os, o < 256
/-! the promises -/
def spMark : Sp := fun vs H Q _ => ∃ c : Nat, vs = [iv c] ∧ 32 ≤ c ∧ c < 127 ∧ c ≠ 37 ∧ Q (.str ⟨#[c]⟩) H
def spIn (ns : List Str) : Sp := fun vs H Q _ => ∃ (z : Str), vs = [.str z] ∧ AnyO H (.str z) ∧ Q (.bl (decide (z ∈ ns))) H
def spHForm : Sp := fun vs H Q _ => ∃ o : Nat, vs = [iv o] ∧ o < 256 ∧ ∀ H1, Same H H1 → Q (.str (zs (hForm o))) H1
def spCheckO : Sp := fun vs H Q _ => ∃ p os, vs = [.ref p] ∧ T0 H p os ∧ Oct os ∧ ∀ H1, Same H H1 → Q .non H1
def spSForm : Sp := fun vs H Q _ => ∃ p os, vs = [.ref p] ∧ T0 H p os ∧ Oct os ∧ 1 ≤ os.length ∧ os.length ≤ 3 ∧ ∀ H1, Same H H1 → Q (.str (zs (sForm os))) H1
def spPay : Sp := fun vs H Q _ => ∃ h p os, vs = [.str (cname h), .ref p] ∧ T0 H p os ∧ Oct os ∧ os.length ≤ 3000 ∧ ∀ H1, Same H H1 → Q (.str (zs (pay h os))) H1
def spHOct : Sp := fun vs H Q _ => ∃ o : Nat, vs = [.str (zs (hForm o))] ∧ o < 256 ∧ Q (iv o) H
def spHOcts : Sp := fun vs H Q _ => ∃ os, vs = [.str (zs (payH os))] ∧ Oct os ∧ os.length ≤ 3000 ∧ ∀ H1 p, Same H H1 → H p = none → T0 H1 p os → Q (.ref p) H1
def spSRow : Sp := fun vs H Q _ => ∃ ds : List Nat, vs = [.str (zs (ds.map al))] ∧ ds.length ≤ 4 ∧ (∀ d ∈ ds, d < 64) ∧ ∀ p, H p = none → Q (.ref p) (upd H p (.tup ((row3 (digS ds)).map iv)))
def spSOcts : Sp := fun vs H Q _ => ∃ os, vs = [.str (zs (payS os))] ∧ Oct os ∧ os.length ≤ 3000 ∧ ∀ H1 p, Same H H1 → H p = none → T0 H1 p os → Q (.ref p) H1
def spOcts : Sp := fun vs H Q _ => ∃ h os, vs = [.str (cname h), .str (zs (pay h os))] ∧ Oct os ∧ os.length ≤ 3000 ∧ ∀ H1 p, Same H H1 → H p = none → T0 H1 p os → Q (.ref p) H1
def spCheckT (K : PySem.W.Frag) (C : Addr) : Sp := fun vs H Q _ => ∃ k a cs, vs = [.str (Kd.name k), .ref a] ∧ At K H C a cs ∧ (∀ c ∈ cs, inKd k c) ∧ ∀ H1, Same H H1 → Q .non H1
def spRow : Sp := fun vs H Q _ => ∃ k c, vs = [.str (Kd.name k), iv c] ∧ inKd k c ∧ ∀ H1 p, Same H H1 → H p = none → T0 H1 p (rowOf k c) → Q (.ref p) H1
def spFor (K : PySem.W.Frag) (C : Addr) : Sp := fun vs H Q _ => ∃ k a cs, vs = [.str (Kd.name k), .ref a] ∧ At K H C a cs ∧ (∀ c ∈ cs, inKd k c) ∧ cs.length ≤ 1000 ∧ ∀ H1 p, Same H H1 → H p = none → T0 H1 p (cs.map (rowOf k)).flatten → Q (.ref p) H1
def spWhole (K : PySem.W.Frag) : Sp := fun vs H Q _ => ∃ k p rs, vs = [.str (Kd.name k), .ref p] ∧ T0 H p rs ∧ rs ≠ [] ∧ Q (.bl (whole k rs)) H
def spRows : Sp := fun vs H Q _ => ∃ k p os, vs = [.str (Kd.name k), .ref p] ∧ T0 H p os ∧ Oct os ∧ os.length ≤ 5000 ∧ ∀ H1 q ps, Same H H1 → H q = none → H1 q = some (.lst (ps.map V.ref)) → Paired (fun r row => T0 H1 r row) ps (rowsOf k os) → Q (.ref q) H1
def oV : Option Nat → V | some c => iv c | none => .non
def spCode : Sp := fun vs H Q _ => ∃ k p rs, vs = [.str (Kd.name k), .ref p] ∧ T0 H p rs ∧ rs ≠ [] ∧ rs.length ≤ 3 ∧ Oct rs ∧ ∀ H1, Same H H1 → Q (oV (codeOf k rs)) H1
/-- what text_from gives: a pair of the text and whether all were codes -/
def spFrom (K : PySem.W.Frag) (C : Addr) : Sp := fun vs H Q _ => ∃ k p os, vs = [.str (Kd.name k), .ref p] ∧ T0 H p os ∧ Oct os ∧ os.length ≤ 5000 ∧ ∀ H1 q a, Same H H1 → H q = none → H1 q = some (.tup [.ref a, .bl ((rowsOf k os).all fun r => match codeOf k r with | some c => isC c | none => false)]) → At K H1 C a ((rowsOf k os).map fun r => known (codeOf k r)) → Q (.ref q) H1
end Cd
namespace Cd
open PySem L2 Tx
theorem inV_strs (z : Str) : ∀ ns : List Str, inV (.str z) (ns.map V.str) = decide (z ∈ ns)
  | [] => by simp [inV]
  | n :: ns => by
    have ih := inV_strs z ns
    unfold inV at ih ⊢
    rw [List.map_cons, List.any_cons, ih]
    show ((n == z) || decide (z ∈ ns)) = decide (z ∈ n :: ns)
    by_cases h : n = z
    · subst h
      simp
    · have h2 : ¬ z = n := fun e => h e.symm
      simp [h, h2]
theorem mark_ix {c : Nat} (h1 : 32 ≤ c) (h2 : c < 127) (h3 : c ≠ 37) : (c < 37 → atI Mk.MARKS.cps.toList ((c : Int) - 32) = some c) ∧ (¬ c < 37 → atI Mk.MARKS.cps.toList ((c : Int) - 33) = some c) := by
  have e := marks_at c h2 h1 h3
  constructor
  · intro h
    rw [if_pos h] at e
    have := atI_nat (j := c - 32) e
    rwa [show ((c - 32 : Nat) : Int) = (c : Int) - 32 by omega] at this
  · intro h
    rw [if_neg h] at e
    have := atI_nat (j := c - 33) e
    rwa [show ((c - 33 : Nat) : Int) = (c : Int) - 33 by omega] at this
theorem isPlain_iff {c : Nat} : Mk.isPlain (iv c) = true ↔ 32 ≤ c ∧ c ≤ 126 ∧ c ≠ 37 := by
  show ((decide ((32 : Int) ≤ c) && decide ((c : Int) ≤ 126)) && !decide (V.int (c : Int) = V.int 37)) = true ↔ _
  simp only [Bool.and_eq_true, decide_eq_true_eq, Bool.not_eq_true', decide_eq_false_iff_not, V.int.injEq]
  omega
end Cd
namespace Cd
open PySem L2 Tx
theorem of_iv {os : List Nat} {i : Nat} {x : V} (h : (os.map iv)[i]? = some x) : ∃ n ∈ os, x = iv n := by
  rw [List.getElem?_map] at h
  cases e : os[i]? with
  | none => rw [e] at h; cases h
  | some n => rw [e] at h; exact ⟨n, List.mem_of_getElem? e, (Option.some.inj h).symm⟩
end Cd
namespace Cd
open PySem L2 Tx
def alV : V → V
  | .int i => .str ⟨#[al i.toNat]⟩
  | v => v
theorem three {os : List Nat} (ho : Oct os) (h1 : 1 ≤ os.length) (h3 : os.length ≤ 3) : ∃ a b c : Nat, cutV (os.map iv ++ [.int 0, .int 0]) none (some 3) = [iv a, iv b, iv c] ∧ num3 os = a * 65536 + b * 256 + c ∧ a < 256 ∧ b < 256 ∧ c < 256 := by
  have ct := fun xs => cut_to xs 3
  match os, ho, h1, h3 with
  | [a], ho, _, _ => exact ⟨a, 0, 0, ct _, rfl, ho a (by simp), by decide, by decide⟩
  | [a, b], ho, _, _ => exact ⟨a, b, 0, ct _, rfl, ho a (by simp), ho b (by simp), by decide⟩
  | [a, b, c], ho, _, _ => exact ⟨a, b, c, ct _, rfl, ho a (by simp), ho b (by simp), ho c (by simp)⟩
theorem digs_iv (a b c : Nat) : [V.int (((a : Int) * 65536 + (b : Int) * 256 + (c : Int)) / 262144), .int (((a : Int) * 65536 + (b : Int) * 256 + (c : Int)) / 4096 % 64), .int (((a : Int) * 65536 + (b : Int) * 256 + (c : Int)) / 64 % 64), .int (((a : Int) * 65536 + (b : Int) * 256 + (c : Int)) % 64)] = (sDigits (a * 65536 + b * 256 + c)).map iv := by
  have h1 : ((a : Int) * 65536 + (b : Int) * 256 + (c : Int)) = ((a * 65536 + b * 256 + c : Nat) : Int) := by omega
  rw [h1]
  rfl
theorem take_iv (os : List Nat) (n : Nat) : (os.map iv).take n = (os.take n).map iv := (List.map_take).symm
theorem al_ix {d : Nat} (h : d < 64) : atI AL.cps.toList (d : Int) = some (al d) := atI_nat (al_sign d h).1
theorem map_alV (ds : List Nat) : (ds.map iv).map alV = (ds.map fun d => zs [al d]).map V.str := by
  rw [List.map_map, List.map_map]
  rfl
theorem flat_one (ds : List Nat) : (ds.map fun d => [al d]).flatten = ds.map al := by
  induction ds with
  | nil => rfl
  | cons d ds ih => rw [List.map_cons, List.flatten_cons, ih]; rfl
theorem sum_len1 (ls : List (List Nat)) {b : Nat} (h : ∀ l ∈ ls, l.length ≤ b) : ((ls.map zs).map (·.length)).sum ≤ ls.length * b := by
  rw [← List.length_map (f := zs)]
  refine sum_len fun y hy => ?_
  obtain ⟨l, hl, rfl⟩ := List.mem_map.mp hy
  rw [zs_len]
  exact h l hl
end Cd
namespace L2
open PySem
theorem g_itup {K : PySem.W.Frag} {σ : St} {H : Hp} {ta : TE} {R : It → Hp → Prop} (h : ta σ H fun x H1 => ∃ a, x = .ref a ∧ (∃ xs, SqT K H1 a xs) ∧ R (Itt K a) H1) : iTup K ta σ H R := h
end L2
namespace L2
open PySem PySem.Spec PyProof.Rows
/-! ### repr of any data, divmod, range(a, b), sums -/
/-- data whose text repr gives -/
def shows (d : PyData) : Prop := d.showable = true ∧ d.hasDict = false ∧ d.depth ≤ 20 ∧ d.shown.length ≤ sizeLine
def rReprA (K : PySem.W.Frag) : List V → Hp → VK → Prop := fun xs H Q => ∃ x d, xs = [x] ∧ Dp K H x d ∧ shows d ∧ Q (.str d.shown) H
theorem repr_deep {X : Cx} {pins : List (Addr × Obj)} {s : Shared} {σ : St} {H : Hp} {Q : VK} (hG : X.A.guards = some []) (hu : X.A.units + 64 < cLine) (I : Inv X pins σ H s) {a : Addr} {d : PyData} (hd : Dp X.K H (.ref a) d) (sh : shows d) (q : Q (.str d.shown) H) :
    wpAny (model X.prog X.w) X.A (call (.builtin "repr") [.ref a]) (fun v s' => ∃ x H', Inv X pins σ H' s' ∧ RelV x v ∧ Q x H') X.xe s := by
  obtain ⟨h1, h2, h3, h4⟩ := sh
  obtain ⟨as, rd⟩ := Dp.reads I d _ _ hd (rfl : RelV (V.ref a) (Value.ref a))
  refine repr_of_reads' (h₀ := s.heap) rd h1 (fun z => absurd (h2.symm.trans z) (by decide)) hG (by omega) (fun _ _ z => z) (fun h' u tk hk => ?_) h4
  exact ⟨.str d.shown, H, I.kept hk, ⟨u, rfl⟩, q⟩
theorem call_reprA {X : Cx} (hG : X.A.guards = some []) (hu : X.A.units + 64 < cLine) : CallR X (.builtin "repr") (rReprA X.K) := by
  intro pins s σ H xs us Q I r h
  obtain ⟨x, d, rfl, hd, sh, q⟩ := h
  obtain ⟨u, rfl, ru⟩ := vals1 r
  cases hd with
  | non =>
    cases ru
    refine PySem.P.repr_of_none ⟨.str "None", H, I.tok _, ⟨_, rfl⟩, ?_⟩
    simpa only [PyData.shown] using q
  | bl b =>
    cases ru
    refine PySem.P.repr_of_bool ⟨.str (if b then "True" else "False"), H, I.tok _, ⟨_, rfl⟩, ?_⟩
    cases b <;> simpa [PyData.shown] using q
  | int i =>
    obtain ⟨t, rfl⟩ := ru
    obtain ⟨h1, _⟩ := sh
    refine PySem.P.repr_of_int (by simpa [PyData.showable] using h1) ⟨.str (toString i), H, I.tok _, ⟨_, rfl⟩, ?_⟩
    simpa only [PyData.shown] using q
  | str z =>
    obtain ⟨t, rfl⟩ := ru
    obtain ⟨h1, h2, h3, h4⟩ := sh
    refine PySem.P.repr_of_str ⟨.str (reprText z), H, I.tok _, ⟨_, rfl⟩, ?_⟩ (by simpa only [PyData.shown] using h4)
    simpa only [PyData.shown] using q
  | lst h1 h2 => cases (show u = Value.ref _ from ru); exact repr_deep hG hu I (.lst h1 h2) sh q
  | tup h1 h2 => cases (show u = Value.ref _ from ru); exact repr_deep hG hu I (.tup h1 h2) sh q
theorem g_repra {K : PySem.W.Frag} {H : Hp} {Q : VK} {x : V} {d : PyData} (h : Dp K H x d) (s : shows d) (q : Q (.str d.shown) H) : rReprA K [x] H Q := ⟨x, d, rfl, h, s, q⟩
def rDivmod : List V → Hp → VK → Prop := fun xs H Q => ∃ i j, xs = [.int i, .int j] ∧ CDiv i j ∧ ∀ p, H p = none → Q (.ref p) (upd H p (.tup [.int (i / j), .int (i % j)]))
theorem call_divmodN {X : Cx} : CallR X (.builtin "divmod") rDivmod := call_divmod
theorem g_divmod {H : Hp} {Q : VK} {i j : Int} (h : CDiv i j) (q : ∀ p, H p = none → Q (.ref p) (upd H p (.tup [.int (i / j), .int (i % j)]))) : rDivmod [.int i, .int j] H Q := ⟨i, j, rfl, h, q⟩
theorem g_sum {K : PySem.W.Frag} {H : Hp} {Q : VK} {a : Addr} {ns : List Int} (h : SqL K H a (ns.map V.int)) (q : Q (.int ns.sum) H) : rSum K [.ref a] H Q := ⟨a, ns, rfl, h, q⟩
theorem g_irng2 {σ : St} {H : Hp} {ta : TA} {R : It → Hp → Prop} (h : ta σ H fun vs H1 => ∃ i j : Int, vs = [.int i, .int j] ∧ (-(2 ^ 62) ≤ i ∧ i < 2 ^ 62 ∧ -(2 ^ 62) ≤ j ∧ j < 2 ^ 62) ∧ R (Itr i (j - i).toNat) H1) : iRng2 ta σ H R := h
section
variable {K : PySem.W.Frag} {g : TG} {te : TE} {vs : List Nat} {σ : St} {H1 : Hp} {D : Addr} {Qd : Hp → Prop}
/-- over a range -/
theorem lc_pureR {lo : Int} {n : Nat} (f : Nat → V) (hD : H1 D = none) (hn : n ≤ 100000)
    (hs : ∀ i H (N : V → Hp → Prop), i < n → Same H1 H → (∀ H4, Same H H4 → N (f i) H4) → g (.int (lo + i)) (wipe σ vs) H fun σ2 H2 => wipe σ2 vs = wipe σ vs ∧ te σ2 H2 N) (hd : ∀ H, Same H1 H → H D = some (.lst ((List.range n).map f)) → Qd H) :
    ∃ W : Nat → Nat → Hp → Prop, (∃ m, W 0 m (upd H1 D (.lst []))) ∧ ∀ i m H, W i m H →
      ((Itr lo n).stop i H ∧ Qd H) ∨ ((Itr lo n).go i H ∧ ∃ Nx : Hp → Prop, (∀ H', Nx H' → ∃ m', m' < m ∧ W (i + 1) m' H') ∧ ∀ x H', (Itr lo n).yld i H x H' → g x (wipe σ vs) H' fun σ2 H2 => wipe σ2 vs = wipe σ vs ∧ tYes σ2 H2 fun b H3 =>
        if b = true then te σ2 H3 fun y H4 => ∃ acc, H4 D = some (.lst acc) ∧ acc.length < sizeLine ∧ Nx (upd H4 D (.lst (acc ++ [y]))) else Nx H3) :=
  lc_pure (it := fun i => .int (lo + i)) (G := fun _ => True) f walk_range (fun _ _ => trivial) hD hn hs hd
end
/-! data of ints -/
theorem shows_ints {d : PyData} (h0 : PyData.layable0 d = true) (h1 : d.showable = true) (h2 : d.hasDict = false) (h3 : d.depth ≤ 20) (h4 : d.intsShort 13 = true) : shows d :=
  ⟨h1, h2, h3, Nat.le_trans (shown_le13 h0 h4) (by decide)⟩
end L2
namespace L2
open PySem PySem.Spec PyProof.Rows
/-! data whose leaves are small -/
mutual
def Sml : PyData → Prop
  | .none | .bool _ => True
  | .int i => i.natAbs < 10 ^ 12
  | .str x => PyData.strOk x = true ∧ x.length ≤ 100000
  | .list xs | .tuple xs => SmlAll xs
  | .dict _ => False
def SmlAll : List PyData → Prop
  | [] => True
  | x :: xs => Sml x ∧ SmlAll xs
end
mutual
def wgt : PyData → Nat
  | .str x => x.length
  | .list xs | .tuple xs => wgtAll xs
  | .dict _ => 0
  | .int _ => 41
  | .none | .bool _ => 0
def wgtAll : List PyData → Nat
  | [] => 0
  | x :: xs => wgt x + 1 + wgtAll xs
end
def SmlR (d : PyData) : Prop := d.canLay0 = true ∧ d.showable = true ∧ d.hasDict = false ∧ d.intsShort 13 = true ∧ d.weight ≤ wgt d
def SmlRA (ds : List PyData) : Prop := PyData.canLayAll0 ds = true ∧ PyData.showableAll ds = true ∧ PyData.hasDictAll ds = false ∧ PyData.intsShortAll 13 ds = true ∧ PyData.weightAll ds ≤ wgtAll ds
theorem log_small {i : Int} (h : i.natAbs < 10 ^ 12) : i.natAbs.log2 < 40 := by
  by_cases z : i.natAbs = 0
  · rw [z]; decide
  · exact (Nat.log2_lt z).mpr (Nat.lt_of_lt_of_le h (by decide))
mutual
theorem sml_r : ∀ d : PyData, Sml d → SmlR d
  | .none, _ => ⟨by simp only [PyData.canLay0], by simp only [PyData.showable], by simp only [PyData.hasDict], by simp only [PyData.intsShort], by simp only [PyData.weight, wgt]; exact Nat.le_refl _⟩
  | .bool _, _ => ⟨by simp only [PyData.canLay0], by simp only [PyData.showable], by simp only [PyData.hasDict], by simp only [PyData.intsShort], by simp only [PyData.weight, wgt]; exact Nat.le_refl _⟩
  | .int i, h => by
    have h : i.natAbs < 10 ^ 12 := by simpa only [Sml] using h
    have hl := log_small h
    refine ⟨by simp only [PyData.canLay0], ?_, by simp only [PyData.hasDict], ?_, ?_⟩
    · simp only [PyData.showable]
      exact decide_eq_true (by omega)
    · simp only [PyData.intsShort]
      refine decide_eq_true ?_
      rw [show (PyData.int i).shown = PySem.Str.ofString (toString i) by simp only [PyData.shown], PySem.ofString_length]
      exact int_text_length_le10 (k := 12) (by decide) h
    · simp only [PyData.weight, wgt]
      split <;> omega
  | .str x, h => by
    have h : PyData.strOk x = true ∧ x.length ≤ 100000 := by simpa only [Sml] using h
    refine ⟨by simp only [PyData.canLay0]; exact h.1, by simp only [PyData.showable], by simp only [PyData.hasDict], by simp only [PyData.intsShort], ?_⟩
    simp only [PyData.weight, wgt]
    exact Nat.le_refl _
  | .list xs, h => by
    obtain ⟨h1, h2, h3, h4, h5⟩ := sml_ra xs (by simpa only [Sml] using h)
    exact ⟨by simp only [PyData.canLay0]; exact h1, by simp only [PyData.showable]; exact h2, by simp only [PyData.hasDict]; exact h3, by simp only [PyData.intsShort]; exact h4, by simp only [PyData.weight, wgt]; exact h5⟩
  | .tuple xs, h => by
    obtain ⟨h1, h2, h3, h4, h5⟩ := sml_ra xs (by simpa only [Sml] using h)
    exact ⟨by simp only [PyData.canLay0]; exact h1, by simp only [PyData.showable]; exact h2, by simp only [PyData.hasDict]; exact h3, by simp only [PyData.intsShort]; exact h4, by simp only [PyData.weight, wgt]; exact h5⟩
  | .dict _, h => by simp only [Sml] at h
theorem sml_ra : ∀ ds : List PyData, SmlAll ds → SmlRA ds
  | [], _ => ⟨by simp only [PyData.canLayAll0], by simp only [PyData.showableAll], by simp only [PyData.hasDictAll], by simp only [PyData.intsShortAll], by simp only [PyData.weightAll, wgtAll]; exact Nat.le_refl _⟩
  | x :: xs, h => by
    have h : Sml x ∧ SmlAll xs := by simpa only [SmlAll] using h
    obtain ⟨a1, a2, a3, a4, a5⟩ := sml_r x h.1
    obtain ⟨b1, b2, b3, b4, b5⟩ := sml_ra xs h.2
    refine ⟨?_, ?_, ?_, ?_, ?_⟩
    · simp only [PyData.canLayAll0]; rw [a1, b1]; rfl
    · simp only [PyData.showableAll]; rw [a2, b2]; rfl
    · simp only [PyData.hasDictAll]; rw [a3, b3]; rfl
    · simp only [PyData.intsShortAll]; rw [a4, b4]; rfl
    · simp only [PyData.weightAll, wgtAll]; omega
end
theorem shows_sml {d : PyData} (h : Sml d) (hw : wgt d ≤ 1048576) (hd : d.depth ≤ 20) : shows d := by
  obtain ⟨h1, h2, h3, h4, h5⟩ := sml_r d h
  refine shows_ints ?_ h2 h3 hd h4
  unfold PyData.layable0
  rw [h1, decide_eq_true (show d.depth ≤ 64 by omega), decide_eq_true (show d.weight ≤ 2 ^ 20 by rw [show (2 : Nat) ^ 20 = 1048576 by decide]; omega)]
  rfl
theorem shaped_sml {d : PyData} (h : Sml d) (hd : d.depth ≤ 20) : SeqAt.shaped d = true := by
  obtain ⟨h1, _⟩ := sml_r d h
  show (PyData.canLay0 _ && decide (PyData.depth _ ≤ 64)) = true
  rw [h1, decide_eq_true (show d.depth ≤ 64 by omega)]
  rfl
end L2
namespace Cd
open PySem L2 Tx
theorem fits {x : Int} (h0 : 0 ≤ x) (h1 : x ≤ 1000000) : Builtin.Range.rangeFitsLong x = true := by
  unfold Builtin.Range.rangeFitsLong
  rw [decide_eq_true (show -(2 ^ 63) ≤ x by omega), decide_eq_true (show x < 2 ^ 63 by omega)]
  rfl
theorem rg3 {n : Nat} (h : n ≤ 100000) : RgC 0 (n : Int) 3 ((n + 2) / 3) := by
  have sz : Builtin.Range.rangeSize 0 (n : Int) 3 = (((n + 2) / 3 : Nat) : Int) := by
    unfold Builtin.Range.rangeSize
    rw [if_pos (by decide)]
    split <;> omega
  refine ⟨by decide, by decide, ?_, sz⟩
  unfold Builtin.Range.small
  rw [sz, if_pos (by decide), fits (by decide) (by decide), fits (by omega) (by omega), fits (by decide) (by decide), fits (by omega) (by omega), fits (by omega) (by omega)]
  exact Bool.or_true _
theorem rg4 {n : Nat} (h : n ≤ 100000) : RgC 0 (n : Int) 4 ((n + 3) / 4) := by
  have sz : Builtin.Range.rangeSize 0 (n : Int) 4 = (((n + 3) / 4 : Nat) : Int) := by
    unfold Builtin.Range.rangeSize
    rw [if_pos (by decide)]
    split <;> omega
  refine ⟨by decide, by decide, ?_, sz⟩
  unfold Builtin.Range.small
  rw [sz, if_pos (by decide), fits (by decide) (by decide), fits (by omega) (by omega), fits (by decide) (by decide), fits (by omega) (by omega), fits (by omega) (by omega)]
  exact Bool.or_true _
def hV : V → V
  | .int i => .str (zs (hForm i.toNat))
  | v => v
theorem map_hV (os : List Nat) : (os.map iv).map hV = ((os.map hForm).map zs).map V.str := by
  rw [List.map_map, List.map_map, List.map_map]
  rfl
theorem not_in {x : Str} {c : Nat} {l : List Nat} (h : c ∉ x.cps.toList) : (!(Builtin.Str.occurrences x (zs (c :: l)) 0 x.length 1).isEmpty) = false := by
  cases e : (!(Builtin.Str.occurrences x (zs (c :: l)) 0 x.length 1).isEmpty) with
  | false => rfl
  | true =>
    obtain ⟨i, h1, h2⟩ := (StrLaws.found_iff x (zs (c :: l))).mp e
    rw [StrLaws.subAt_eq, beq_iff_eq, zs_list, zs_len] at h2
    have m : c ∈ (x.cps.toList.drop i).take (c :: l).length := by rw [h2]; exact List.mem_cons_self ..
    exact absurd (List.mem_of_mem_drop (List.mem_of_mem_take m)) h
theorem hd_in {d : Nat} (h : d < 16) : hexD d ∈ HD.cps.toList := List.mem_of_getElem? (hd_sign d h).1
theorem hex_val {o : Nat} : ((o / 16 : Nat) : Int) * 16 + ((o % 16 : Nat) : Int) = (o : Int) := by omega
/-- the forms lie side by side -/
theorem payH_drop (os : List Nat) (i : Nat) : (payH os).drop (payH (os.take i)).length = payH (os.drop i) := by
  have e : payH os = payH (os.take i) ++ payH (os.drop i) := by rw [← payH_app, List.take_append_drop]
  rw [e, List.drop_left]
theorem payH_cons {o : Nat} {os : List Nat} : payH (o :: os) = hForm o ++ payH os := rfl
theorem payH_take {os : List Nat} {i o : Nat} (h : os[i]? = some o) : payH (os.take (i + 1)) = payH (os.take i) ++ hForm o := by
  rw [List.take_add_one, h, payH_app]
  show _ = _
  congr 1
  exact List.append_nil _
end Cd
namespace L2
open PySem
theorem sl_tupKK {X : Cx} {K : PySem.W.Frag} (h : X.K = K) : SlR X (rSlA K) := h ▸ sl_tupA
end L2
namespace Cd
open PySem L2 Tx
theorem cutS_nat (l : List Nat) (i j : Nat) : cutS (zs l) (some (i : Int)) (some (j : Int)) = zs ((l.drop i).take (j - i)) := by
  unfold cutS
  rw [zs_list, zs_len, HT.sIx_nat, HT.sIx_nat]
  show zs _ = zs _
  congr 1
  by_cases hi : i ≤ l.length
  · rw [Nat.min_eq_left hi]
    by_cases hj : j ≤ l.length
    · rw [Nat.min_eq_left hj]
    · rw [Nat.min_eq_right (show l.length ≤ j by omega)]
      rw [List.take_of_length_le (by rw [List.length_drop]; exact Nat.le_refl _), List.take_of_length_le (by rw [List.length_drop]; omega)]
  · rw [Nat.min_eq_right (show l.length ≤ i by omega)]
    rw [List.drop_of_length_le (Nat.le_refl _), List.drop_of_length_le (show l.length ≤ i by omega)]
    simp
theorem form_facts {o : Nat} (ho : o < 256) : ∃ x xs, hForm o = x :: xs ∧ ((x = 61 ∧ xs.length = 2) ∨ (x ≠ 61 ∧ xs = [])) := by
  unfold hForm
  by_cases h1 : o = 32
  · rw [if_pos h1]
    exact ⟨95, [], rfl, .inr ⟨by decide, rfl⟩⟩
  · rw [if_neg h1]
    by_cases h2 : isLD o = true
    · rw [if_pos h2]
      exact ⟨o, [], rfl, .inr ⟨(ld_facts o ho h2).2.2.2.1, rfl⟩⟩
    · rw [if_neg h2]
      exact ⟨61, _, rfl, .inl ⟨rfl, rfl⟩⟩
theorem al_mem : ∀ d, d < 64 → al d ∈ AL.cps.toList := fun d h => List.mem_of_getElem? (al_sign d h).1
theorem sform_mem {os : List Nat} (h : Oct os) : ∀ c ∈ sForm os, c ∈ AL.cps.toList := by
  intro c hc
  obtain ⟨d, hd, rfl⟩ := List.mem_map.mp hc
  exact al_mem d (sdig_lt (num3_lt h) d (List.mem_of_mem_take hd))
theorem payS_mem : ∀ os : List Nat, Oct os → ∀ c ∈ payS os, c ∈ AL.cps.toList
  | [], _, c, hc => by cases hc
  | [a], h, c, hc => sform_mem h c hc
  | [a, b], h, c, hc => sform_mem h c hc
  | x :: y :: z :: r, h, c, hc => by
    rcases List.mem_append.mp (show c ∈ sForm [x, y, z] ++ payS r from hc) with m | m
    · exact sform_mem (fun o ho => h o (by simp at ho ⊢; rcases ho with e | e | e <;> simp [e])) c m
    · exact payS_mem r (fun o ho => h o (by simp [ho])) c m
theorem payS_drop : ∀ (i : Nat) (os : List Nat), 3 * i ≤ os.length → (payS os).drop (4 * i) = payS (os.drop (3 * i))
  | 0, os, _ => rfl
  | i + 1, os, h => by
    have h3 : 3 ≤ os.length := by omega
    have e : (sForm (os.take 3)).length = 4 := by rw [sform_len (by rw [List.length_take]; omega), List.length_take]; omega
    rw [payS3 h3, show 4 * (i + 1) = (sForm (os.take 3)).length + 4 * i by omega, ← List.drop_drop, List.drop_left, payS_drop i (os.drop 3) (by rw [List.length_drop]; omega), List.drop_drop]
    congr 2
    omega
theorem payS_take4 {os : List Nat} (h : os ≠ []) : (payS os).take 4 = sForm (os.take 3) := by
  by_cases h3 : 3 ≤ os.length
  · have e : (sForm (os.take 3)).length = 4 := by rw [sform_len (by rw [List.length_take]; omega), List.length_take]; omega
    rw [payS3 h3, List.take_append_of_le_length (by omega), List.take_of_length_le (by omega)]
  · rw [payS_few h (by omega), List.take_of_length_le (show os.length ≤ 3 by omega), List.take_of_length_le (by rw [sform_len (by omega)]; omega)]
/-- digits, filled up -/
def fill (ds : List Nat) : List Nat := ds ++ List.replicate (4 - ds.length) 0
theorem ljust_al {ds : List Nat} : Txt.ljustF (zs (ds.map al)) 4 65 = zs ((fill ds).map al) := by
  refine zs_ext ?_
  rw [PyProof.Rows.ljustF_list, zs_list, zs_len]
  unfold fill
  rw [List.map_append, List.map_replicate, List.length_map]
  rfl
def fS (n d : Nat) : Nat := n * 64 + d
theorem digS_fill (ds : List Nat) : digS ds = (fill ds).foldl fS 0 := rfl
theorem fold_lt : ∀ (l : List Nat) (a : Nat), (∀ d ∈ l, d < 64) → l.foldl fS a < (a + 1) * 64 ^ l.length
  | [], a, _ => by simp
  | d :: l, a, h => by
    have ih := fold_lt l (fS a d) fun x hx => h x (List.mem_cons_of_mem _ hx)
    have hd := h d (List.mem_cons_self ..)
    rw [List.foldl_cons, List.length_cons, Nat.pow_succ]
    refine Nat.lt_of_lt_of_le ih ?_
    rw [Nat.mul_comm (64 ^ l.length) 64, ← Nat.mul_assoc]
    refine Nat.mul_le_mul_right _ ?_
    unfold fS
    omega
theorem row_iv (n : Nat) : [V.int ((n : Int) / 65536), .int ((n : Int) / 256 % 256), .int ((n : Int) % 256)] = (row3 n).map iv := rfl
def nzV : V → V
  | .int i => .bl (!decide (V.int i = V.int 0))
  | v => v
theorem zeros_none (n : Nat) : ((List.replicate n (iv 0)).map nzV) = (List.replicate n false).map V.bl := by
  rw [List.map_replicate, List.map_replicate]
  rfl
end Cd
namespace Cd
open PySem L2 Tx
theorem steps_big {d : Nat} (h1 : 127 < d) (h2 : d ≤ 65535) : stepsRow d = (d % 128 + 128) :: stepsRow (d / 128) := by
  unfold stepsRow
  rw [if_neg (by omega)]
  by_cases h : d < 16384
  · rw [if_pos h, if_pos (by omega)]
  · rw [if_neg h, if_neg (by omega), if_pos (by omega)]
    rw [Nat.div_div_eq_div_mul]
theorem steps_small {d : Nat} (h : d ≤ 127) : stepsRow d = [d] := by
  unfold stepsRow
  rw [if_pos (by omega)]
theorem steps_len (d : Nat) : (stepsRow d).length ≤ 3 := (row_len (k := .steps) (c := d)).2
theorem latin_ok {k : Kd} : V.str k.name = V.str "latin" ↔ k = .latin := by
  cases k with
  | latin => exact ⟨fun _ => rfl, fun _ => rfl⟩
  | wide => exact ⟨fun h => absurd (V.str.inj h) (by decide +kernel), fun h => by cases h⟩
  | steps => exact ⟨fun h => absurd (V.str.inj h) (by decide +kernel), fun h => by cases h⟩
theorem wide_ok {k : Kd} : V.str k.name = V.str "wide" ↔ k = .wide := by
  cases k with
  | latin => exact ⟨fun h => absurd (V.str.inj h) (by decide +kernel), fun h => by cases h⟩
  | wide => exact ⟨fun _ => rfl, fun _ => rfl⟩
  | steps => exact ⟨fun h => absurd (V.str.inj h) (by decide +kernel), fun h => by cases h⟩
theorem name_in (k : Kd) : decide (k.name ∈ ([("latin" : Str), "wide", "steps"] : List Str)) = true := by cases k <;> decide +kernel
theorem name_any (k : Kd) (H : Hp) : AnyO H (.str k.name) := .str _ (by cases k <;> decide +kernel) (by cases k <;> decide +kernel)
theorem snoc_of {rs : List Nat} (h : rs ≠ []) : ∃ ys, rs = ys ++ [rs.getD (rs.length - 1) 0] := by
  refine ⟨rs.dropLast, ?_⟩
  have e := List.dropLast_concat_getLast h
  rw [List.getLast_eq_getElem h] at e
  have hp : 0 < rs.length := List.length_pos_iff.mpr h
  rw [List.getD_eq_getElem?_getD, List.getElem?_eq_getElem (show rs.length - 1 < rs.length by omega)]
  exact e.symm
theorem last_iv {rs : List Nat} (h : rs ≠ []) : atI (rs.map iv) (-1) = some (iv (rs.getD (rs.length - 1) 0)) := by
  obtain ⟨ys, e⟩ := snoc_of h
  generalize rs.getD (rs.length - 1) 0 = y at e ⊢
  subst e
  rw [List.map_append]
  exact atI_last _ _
theorem first_iv {rs : List Nat} (h : rs ≠ []) : atI (rs.map iv) 0 = some (iv (rs.getD 0 0)) := by
  match rs, h with
  | r :: rs, _ => exact atI_nat (j := 0) rfl
theorem whole_steps {rs : List Nat} (h : rs ≠ []) : whole .steps rs = (decide (rs.getD (rs.length - 1) 0 < 128) || decide (rs.length = 3)) := by
  have hp : 0 < rs.length := List.length_pos_iff.mpr h
  have e : rs.getLast? = some (rs.getD (rs.length - 1) 0) := by
    rw [List.getLast?_eq_getElem?, List.getD_eq_getElem?_getD, List.getElem?_eq_getElem (show rs.length - 1 < rs.length by omega)]
    rfl
  show (decide (_ ∧ _) || _) = _
  rw [e]
  simp
def mx : Kd → Nat | .latin => 0 | .wide => 1 | .steps => 2
theorem not_whole {k : Kd} {r : List Nat} {o : Nat} (h : r.length ≤ mx k) (w : ¬ whole k (r ++ [o]) = true) : (r ++ [o]).length ≤ mx k := by
  refine Nat.le_of_not_lt fun z => w ?_
  rw [List.length_append] at z
  cases k with
  | latin => rfl
  | wide =>
    have e : (r ++ [o]).length = 2 := by
      rw [List.length_append]
      have : mx .wide = 1 := rfl
      simp at z
      simp
      omega
    exact decide_eq_true e
  | steps =>
    have e : (r ++ [o]).length = 3 := by
      rw [List.length_append]
      have : mx .steps = 2 := rfl
      simp at z
      simp
      omega
    rw [whole_steps (by simp), decide_eq_true e, Bool.or_true]
structure Kept (k : Kd) (os : List Nat) (n : Nat) (p : List (List Nat) × List Nat) : Prop where
  rows : ∀ r ∈ p.1, r ≠ [] ∧ r.length ≤ 3 ∧ ∀ o ∈ r, o ∈ os
  few : p.2.length ≤ mx k
  open_ : ∀ o ∈ p.2, o ∈ os
  many : p.1.length ≤ n
theorem mx_le (k : Kd) : mx k ≤ 2 := by cases k <;> decide
theorem Kept.step {k : Kd} {os : List Nat} {n : Nat} {p : List (List Nat) × List Nat} (h : Kept k os n p) {o : Nat} (ho : o ∈ os) : Kept k os (n + 1) (rstep k p o) := by
  have ml := mx_le k
  have hw : ∀ x ∈ p.2 ++ [o], x ∈ os := fun x hx => by
    rcases List.mem_append.mp hx with y | y
    · exact h.open_ x y
    · rw [List.mem_singleton.mp y]
      exact ho
  unfold rstep
  by_cases w : whole k (p.2 ++ [o]) = true
  · rw [if_pos w]
    refine ⟨fun r hr => ?_, Nat.zero_le _, fun x hx => (nomatch hx), ?_⟩
    · rcases List.mem_append.mp hr with m | m
      · exact h.rows r m
      · rw [List.mem_singleton.mp m]
        refine ⟨by simp, ?_, hw⟩
        have := h.few
        rw [List.length_append]
        simp
        omega
    · show (p.1 ++ [p.2 ++ [o]]).length ≤ n + 1
      rw [List.length_append]
      exact Nat.add_le_add_right h.many 1
  · rw [if_neg w]
    exact ⟨h.rows, not_whole h.few w, hw, Nat.le_succ_of_le h.many⟩
theorem Kept.at {k : Kd} (os : List Nat) : ∀ i, Kept k os i ((os.take i).foldl (rstep k) ([], []))
  | 0 => ⟨fun r hr => (nomatch hr), Nat.zero_le _, fun x hx => (nomatch hx), Nat.le_refl _⟩
  | i + 1 => by
    cases e : os[i]? with
    | none =>
      rw [List.take_add_one, e]
      have ih := Kept.at (k := k) os i
      simp only [Option.toList, List.append_nil]
      exact ⟨ih.rows, ih.few, ih.open_, Nat.le_succ_of_le ih.many⟩
    | some o =>
      rw [List.take_add_one, e, List.foldl_append]
      exact (Kept.at (k := k) os i).step (List.mem_of_getElem? e)
theorem rows_kept {k : Kd} (os : List Nat) : ∀ r ∈ rowsOf k os, r ≠ [] ∧ r.length ≤ 3 ∧ ∀ o ∈ r, o ∈ os := by
  have h := Kept.at (k := k) os os.length
  rw [List.take_of_length_le (Nat.le_refl _)] at h
  unfold rowsOf
  intro r hr
  by_cases e : (os.foldl (rstep k) ([], [])).2 = []
  · simp only [e, if_true] at hr
    exact h.rows r hr
  · simp only [e, if_false] at hr
    rcases List.mem_append.mp hr with m | m
    · exact h.rows r m
    · rw [List.mem_singleton.mp m]
      exact ⟨e, Nat.le_trans h.few (Nat.le_trans (mx_le k) (by decide)), h.open_⟩
theorem rows_len {k : Kd} (os : List Nat) : (rowsOf k os).length ≤ os.length + 1 := by
  have h := Kept.at (k := k) os os.length
  rw [List.take_of_length_le (Nat.le_refl _)] at h
  unfold rowsOf
  by_cases e : (os.foldl (rstep k) ([], [])).2 = []
  · simp only [e, if_true]
    exact Nat.le_succ_of_le h.many
  · simp only [e, if_false]
    rw [List.length_append]
    exact Nat.add_le_add_right h.many 1
def num (r : List Nat) (a : Nat) : Nat := r.foldl (fun n o => n * 128 + o % 128) a
theorem num_back (r : List Nat) : num r.reverse 0 = r.foldr (fun o n => n * 128 + o % 128) 0 := by
  unfold num
  rw [List.foldl_reverse]
end Cd
namespace Cd
open PySem L2 Tx
theorem flat_len {k : Kd} (cs : List Nat) (i : Nat) : (((cs.take i).map (rowOf k)).flatten).length ≤ 3 * cs.length := by
  have h : ∀ l : List Nat, ((l.map (rowOf k)).flatten).length ≤ 3 * l.length := fun l => by
    induction l with
    | nil => exact Nat.le_refl _
    | cons c l ih =>
      rw [List.map_cons, List.flatten_cons, List.length_append, List.length_cons]
      have := (row_len (k := k) (c := c)).2
      omega
  have := h (cs.take i)
  rw [List.length_take] at this
  omega
/-- a tuple is left by a change of a list -/
theorem sqt_upd {K : PySem.W.Frag} {H : Hp} {t l : Addr} {xs ys : List V} {o : HO} (h : SqT K H t xs) (e : H l = some (.lst ys)) : SqT K (upd H l o) t xs := by
  rcases h with (h | ⟨u, h⟩) | h
  · exact .inl (.inl (by rw [upd_ne (ne_of h e (by intro z; cases z))]; exact h))
  · exact .inl (.inr ⟨u, by rw [upd_ne (ne_of h e (by intro z; cases z))]; exact h⟩)
  · exact .inr h
end Cd
namespace L2
open PySem
theorem paired_at {α β : Type} {F : α → β → Prop} {l1 : List α} {l2 : List β} (p : Paired F l1 l2) : ∀ {i : Nat} {a : α}, l1[i]? = some a → ∃ b, l2[i]? = some b ∧ F a b := by
  induction p with
  | nil => intro i a h; simp at h
  | cons hd tl ih =>
    intro i a h
    cases i with
    | zero =>
      simp only [List.getElem?_cons_zero, Option.some.injEq] at h ⊢
      subst h
      exact ⟨_, rfl, hd⟩
    | succ i =>
      simp only [List.getElem?_cons_succ] at h ⊢
      exact ih h
section
variable {K : PySem.W.Frag} {g : TG} {te : TE} {vs : List Nat} {σ : St} {H1 : Hp} {D : Addr} {Qd : Hp → Prop} {a : Addr} {xs : List V}
/-- over a list, with the place -/
theorem lc_pureLi (f : Nat → V) (ha : SqL K H1 a xs) (hD : H1 D = none) (hn : xs.length ≤ 100000)
    (hs : ∀ i x H (N : V → Hp → Prop), xs[i]? = some x → Same H1 H → (∀ H4, Same H H4 → N (f i) H4) → g x (wipe σ vs) H fun σ2 H2 => wipe σ2 vs = wipe σ vs ∧ te σ2 H2 N) (hd : ∀ H, Same H1 H → H D = some (.lst ((List.range xs.length).map f)) → Qd H) :
    ∃ W : Nat → Nat → Hp → Prop, (∃ m, W 0 m (upd H1 D (.lst []))) ∧ ∀ i m H, W i m H →
      ((Itl K a).stop i H ∧ Qd H) ∨ ((Itl K a).go i H ∧ ∃ Nx : Hp → Prop, (∀ H', Nx H' → ∃ m', m' < m ∧ W (i + 1) m' H') ∧ ∀ x H', (Itl K a).yld i H x H' → g x (wipe σ vs) H' fun σ2 H2 => wipe σ2 vs = wipe σ vs ∧ tYes σ2 H2 fun b H3 =>
        if b = true then te σ2 H3 fun y H4 => ∃ acc, H4 D = some (.lst acc) ∧ acc.length < sizeLine ∧ Nx (upd H4 D (.lst (acc ++ [y]))) else Nx H3) := by
  refine lc_pure (n := xs.length) (it := fun i => xs.getD i .non) (G := fun H => SqL K H a xs) f (walk_list.mono (fun _ h => h) fun i H x H' hi _ y => ⟨y.1, ?_⟩) (fun H s => Same.seq s ha) hD hn (fun i H N hi s k => ?_) fun H s e => hd H s e
  · rw [List.getD_eq_getElem?_getD, y.2]
    rfl
  · refine hs i _ H N ?_ s k
    rw [List.getD_eq_getElem?_getD, List.getElem?_eq_getElem hi]
    rfl
end
end L2
namespace Cd
open PySem L2 Tx
def oD : Option Nat → PyData | some c => .int (c : Int) | none => .none
def okO (o : Option Nat) : Bool := match o with | some c => isC c | none => false
theorem isC63 : isC 63 = true := by decide +kernel
theorem known_eqv (o : Option Nat) : PyData.eqv (.int (known o : Int)) (oD o) = okO o := by
  cases o with
  | none => simp [known, oD, okO, PyData.eqv]
  | some c =>
    show PyData.eqv (.int ((if isC c = true then c else 63 : Nat) : Int)) (.int (c : Int)) = isC c
    rw [PyData.eqv]
    by_cases h : isC c = true
    · rw [if_pos h, h]
      simp
    · rw [if_neg h]
      have h2 : c ≠ 63 := fun e => h (e ▸ isC63)
      have h3 : ¬ ((63 : Nat) : Int) = (c : Int) := by omega
      cases e : isC c with
      | true => exact absurd e h
      | false => simpa using h3
theorem dpO {K : PySem.W.Frag} {H : Hp} : ∀ os : List (Option Nat), DpAll K H (os.map oV) (os.map oD)
  | [] => .nil
  | none :: os => .cons .non (dpO os)
  | some c :: os => .cons (.int _) (dpO os)
theorem knowns_eqv : ∀ os : List (Option Nat), PyData.eqvAll (os.map fun o => PyData.int (known o : Int)) (os.map oD) = os.all okO
  | [] => by simp [PyData.eqvAll]
  | o :: os => by
    rw [List.map_cons, List.map_cons, PyData.eqvAll, knowns_eqv os, known_eqv, List.all_cons]
theorem cla_O : ∀ os : List (Option Nat), PyData.canLayAll0 (os.map oD) = true
  | [] => by simp [PyData.canLayAll0]
  | none :: os => by
    have := cla_O os
    simp [PyData.canLayAll0, PyData.canLay0, oD, this]
  | some c :: os => by
    have := cla_O os
    simp [PyData.canLayAll0, PyData.canLay0, oD, this]
theorem dep_O : ∀ os : List (Option Nat), PyData.depthAll (os.map oD) ≤ 1
  | [] => by simp [PyData.depthAll]
  | none :: os => by
    have := dep_O os
    simp only [List.map_cons, PyData.depthAll, PyData.depth, oD]
    omega
  | some c :: os => by
    have := dep_O os
    simp only [List.map_cons, PyData.depthAll, PyData.depth, oD]
    omega
theorem shaped_O (os : List (Option Nat)) : SeqAt.shaped (.list (os.map oD)) = true := by
  have h1 := dep_O os
  show (PyData.canLay0 _ && decide (PyData.depth _ ≤ 64)) = true
  rw [Bool.and_eq_true]
  refine ⟨?_, decide_eq_true ?_⟩
  · simp only [PyData.canLay0]
    exact cla_O os
  · simp only [PyData.depth]
    omega
theorem shaped_L (cs : List Nat) : SeqAt.shaped (.list (cs.map fun (c : Nat) => PyData.int (c : Int))) = true := by
  have h1 := dep_ints cs
  show (PyData.canLay0 _ && decide (PyData.depth _ ≤ 64)) = true
  rw [Bool.and_eq_true]
  refine ⟨?_, decide_eq_true ?_⟩
  · simp only [PyData.canLay0]
    exact cla_ints cs
  · simp only [PyData.depth]
    omega
theorem eqv_lst (os : List (Option Nat)) : PyData.eqv (.list ((os.map known).map fun (c : Nat) => PyData.int (c : Int))) (.list (os.map oD)) = os.all okO := by
  rw [PyData.eqv, List.map_map]
  exact knowns_eqv os
theorem knV (o : Option Nat) : (if Mk.isCode (oV o) = true then oV o else V.int 63) = iv (known o) := by
  cases o with
  | none => rfl
  | some c =>
    show (if isC c = true then iv c else V.int 63) = iv (if isC c = true then c else 63)
    by_cases h : isC c = true
    · rw [if_pos h, if_pos h]
    · rw [if_neg h, if_neg h]
      rfl
theorem eqv_nil (rs : List Nat) : PyData.eqv (.tuple (rs.map fun (c : Nat) => PyData.int (c : Int))) (.tuple []) = decide (rs = []) := eqv_tup rs []
end Cd
namespace Cd
open PySem L2 Tx
theorem steps_of {k : Kd} (h1 : ¬ V.str k.name = V.str "latin") (h2 : ¬ V.str k.name = V.str "wide") : k = .steps := by
  cases k with
  | latin => exact absurd (latin_ok.mpr rfl) h1
  | wide => exact absurd (wide_ok.mpr rfl) h2
  | steps => rfl
theorem two {rs : List Nat} (h : rs.length = 2) : ∃ a b, rs = [a, b] := by
  match rs, h with
  | [a, b], _ => exact ⟨a, b, rfl⟩
end Cd
namespace Cd
open PySem L2 Tx
theorem wide_len (rs : List Nat) : decide (V.int ((rs.map iv).length : Int) = V.int 2) = whole .wide rs := by
  refine decide_eq_decide.mpr ?_
  rw [List.length_map]
  exact ⟨fun h => by have := V.int.inj h; omega, fun h => by rw [h]; rfl⟩
theorem len3 (rs : List Nat) : decide (V.int ((rs.map iv).length : Int) = V.int 3) = decide (rs.length = 3) := by
  refine decide_eq_decide.mpr ?_
  rw [List.length_map]
  exact ⟨fun h => by have := V.int.inj h; omega, fun h => by rw [h]; rfl⟩
theorem t0_upd {H : Hp} {a l : Addr} {row : List Nat} {xs : List V} {o : HO} (h : T0 H a row) (e : H l = some (.lst xs)) : T0 (upd H l o) a row := by
  show upd _ _ _ _ = _
  rw [upd_ne (ne_of h e (by intro z; cases z))]
  exact h
theorem t0_new {H : Hp} {a r : Addr} {row : List Nat} {o : HO} (h : T0 H a row) (e : H r = none) : T0 (upd H r o) a row := same_new e _ _ h
end Cd
namespace Cd
open PySem L2 Tx
theorem rows_nil {k : Kd} {os : List Nat} (h : (os.foldl (rstep k) ([], [])).2 = []) : rowsOf k os = (os.foldl (rstep k) ([], [])).1 := if_pos h
theorem rows_more {k : Kd} {os : List Nat} (h : ¬ (os.foldl (rstep k) ([], [])).2 = []) : rowsOf k os = (os.foldl (rstep k) ([], [])).1 ++ [(os.foldl (rstep k) ([], [])).2] := if_neg h
end Cd
namespace Cd
open PySem L2 Tx
theorem codes_list {k : Kd} (rs : List (List Nat)) : (List.range rs.length).map (fun i => oV (codeOf k (rs.getD i []))) = (rs.map (codeOf k)).map oV := by
  apply List.ext_getElem
  · simp
  · intro i h1 h2
    simp at h1
    simp [List.getD_eq_getElem?_getD, List.getElem?_eq_getElem h1]
end Cd
namespace Cd
open PySem L2 Tx
theorem any_oV (o : Option Nat) (H : Hp) : AnyO H (oV o) := by
  cases o with
  | none => exact .non
  | some c => exact .int _
theorem kn_list (cs : List (Option Nat)) : (cs.map oV).map (fun v => if Mk.isCode v = true then v else V.int 63) = (cs.map known).map iv := by
  rw [List.map_map, List.map_map]
  exact List.map_congr_left fun o _ => knV o
theorem known_ok (cs : List (Option Nat)) : ∀ c ∈ cs.map known, Mk.isCode (iv c) = true := by
  intro c hc
  obtain ⟨o, _, rfl⟩ := List.mem_map.mp hc
  cases o with
  | none => exact isC63
  | some d =>
    show isC (if isC d = true then d else 63) = true
    by_cases h : isC d = true
    · rw [if_pos h]
      exact h
    · rw [if_neg h]
      exact isC63
end Cd
namespace Cd
open PySem L2 Tx
theorem al_inj {d e : Nat} (hd : d < 64) (he : e < 64) (h : al d = al e) : d = e := by
  have a := al_occ d hd
  rw [h, al_occ e he] at a
  exact (List.cons.inj a).1.symm
theorem map_al_inj : ∀ {l m : List Nat}, (∀ d ∈ l, d < 64) → (∀ d ∈ m, d < 64) → l.map al = m.map al → l = m
  | [], [], _, _, _ => rfl
  | [], e :: m, _, _, h => by cases h
  | d :: l, [], _, _, h => by cases h
  | d :: l, e :: m, hl, hm, h => by
    rw [List.map_cons, List.map_cons] at h
    injection h with h1 h2
    rw [al_inj (hl d (by simp)) (hm e (by simp)) h1, map_al_inj (fun x hx => hl x (by simp [hx])) (fun x hx => hm x (by simp [hx])) h2]
theorem sForm_inj {a b : List Nat} (ha : Oct a) (hb : Oct b) (a0 : a ≠ []) (b0 : b ≠ []) (a3 : a.length ≤ 3) (hl : a.length = b.length) (h : sForm a = sForm b) : a = b := by
  have la : ∀ d ∈ (sDigits (num3 a)).take (a.length + 1), d < 64 := fun d hd => sdig_lt (num3_lt ha) d (List.mem_of_mem_take hd)
  have lb : ∀ d ∈ (sDigits (num3 b)).take (b.length + 1), d < 64 := fun d hd => sdig_lt (num3_lt hb) d (List.mem_of_mem_take hd)
  have e := map_al_inj la lb h
  have p := sback ha a0 a3
  rw [e, sback hb b0 (hl ▸ a3), hl] at p
  exact (List.append_cancel_right p).symm
theorem payS_inj0 : ∀ (n : Nat) (a b : List Nat), a.length ≤ n → Oct a → Oct b → a.length = b.length → payS a = payS b → a = b
  | 0, a, b, hn, _, _, hl, _ => by
    have e1 := List.length_eq_zero_iff.mp (Nat.le_zero.mp hn)
    subst e1
    exact (List.length_eq_zero_iff.mp hl.symm).symm
  | n + 1, a, b, hn, ha, hb, hl, h => by
    by_cases a0 : a = []
    · subst a0
      exact (List.length_eq_zero_iff.mp hl.symm).symm
    have b0 : b ≠ [] := fun e => by
      rw [e] at hl
      exact a0 (List.length_eq_zero_iff.mp hl)
    have pa : 0 < a.length := List.length_pos_iff.mpr a0
    have e1 : sForm (a.take 3) = sForm (b.take 3) := by rw [← payS_take4 a0, ← payS_take4 b0, h]
    have l3 : (a.take 3).length = (b.take 3).length := by rw [List.length_take, List.length_take, hl]
    have e2 : a.take 3 = b.take 3 := sForm_inj (fun o ho => ha o (List.mem_of_mem_take ho)) (fun o ho => hb o (List.mem_of_mem_take ho)) (fun e => (List.take_eq_nil_iff.mp e).elim (fun z => absurd z (by decide)) a0) (fun e => (List.take_eq_nil_iff.mp e).elim (fun z => absurd z (by decide)) b0) (by rw [List.length_take]; exact Nat.min_le_left _ _) l3 e1
    by_cases h3 : 3 ≤ a.length
    · have d1 := payS_drop 1 a (by omega)
      have d2 := payS_drop 1 b (by omega)
      rw [h] at d1
      have e3 : a.drop 3 = b.drop 3 := payS_inj0 n _ _ (by rw [List.length_drop]; omega) (fun o ho => ha o (List.mem_of_mem_drop ho)) (fun o ho => hb o (List.mem_of_mem_drop ho)) (by rw [List.length_drop, List.length_drop, hl]) (d1.symm.trans d2)
      rw [← List.take_append_drop 3 a, ← List.take_append_drop 3 b, e2, e3]
    · rw [List.take_of_length_le (by omega), List.take_of_length_le (by omega)] at e2
      exact e2
theorem payS_inj {a b : List Nat} (ha : Oct a) (hb : Oct b) (h : payS a = payS b) : a = b := by
  refine payS_inj0 a.length a b (Nat.le_refl _) ha hb ?_ h
  have := congrArg List.length h
  rw [payS_len, payS_len] at this
  omega
theorem flat_inj {k : Kd} {cs ds : List Nat} (hc : ∀ c ∈ cs, inKd k c) (hd : ∀ c ∈ ds, inKd k c) (h : (cs.map (rowOf k)).flatten = (ds.map (rowOf k)).flatten) : cs = ds := by
  have e := rows_back hc
  rw [h, rows_back hd] at e
  have f := congrArg (List.map (codeOf k)) e
  rw [List.map_map, List.map_map] at f
  have g : ∀ l : List Nat, (∀ c ∈ l, inKd k c) → l.map (codeOf k ∘ rowOf k) = l.map some := fun l hl => List.map_congr_left fun c hm => code_back (hl c hm)
  rw [g _ hc, g _ hd] at f
  exact ((List.map_inj_right (fun _ _ h => Option.some.inj h)).mp f).symm
theorem flat_oct {k : Kd} {cs : List Nat} (hc : ∀ c ∈ cs, inKd k c) : Oct (cs.map (rowOf k)).flatten := by
  intro o ho
  obtain ⟨r, hr, hm⟩ := List.mem_flatten.mp ho
  obtain ⟨c, hcm, rfl⟩ := List.mem_map.mp hr
  exact row_lt (hc c hcm) o hm
theorem flat_le {k : Kd} (cs : List Nat) : ((cs.map (rowOf k)).flatten).length ≤ 3 * cs.length := by
  have := flat_len (k := k) cs cs.length
  rwa [List.take_of_length_le (Nat.le_refl _)] at this
theorem flat_app {k : Kd} (cs ds : List Nat) : ((cs ++ ds).map (rowOf k)).flatten = (cs.map (rowOf k)).flatten ++ (ds.map (rowOf k)).flatten := by rw [List.map_append, List.flatten_append]
/-- what is read again -/
theorem read_known {k : Kd} {cs : List Nat} (hc : ∀ c ∈ cs, inKd k c) (hk : ∀ c ∈ cs, isC c = true) : ((rowsOf k (cs.map (rowOf k)).flatten).map fun r => known (codeOf k r)) = cs := by
  rw [rows_back hc, List.map_map]
  refine (List.map_congr_left (g := id) fun c hm => ?_).trans (List.map_id _)
  show known (codeOf k (rowOf k c)) = c
  rw [code_back (hc c hm)]
  exact if_pos (hk c hm)
theorem read_all {k : Kd} {cs : List Nat} (hc : ∀ c ∈ cs, inKd k c) (hk : ∀ c ∈ cs, isC c = true) : ((rowsOf k (cs.map (rowOf k)).flatten).all fun r => match codeOf k r with | some c => isC c | none => false) = true := by
  rw [rows_back hc, List.all_map, List.all_eq_true]
  intro c hm
  show (match codeOf k (rowOf k c) with | some c => isC c | none => false) = true
  rw [code_back (hc c hm)]
  exact hk c hm
theorem zs_inj {l m : List Nat} (h : zs l = zs m) : l = m := by
  have := congrArg (fun z : Str => z.cps.toList) h
  rwa [zs_list, zs_list] at this
theorem zs_app (l m : List Nat) : zs l ++ zs m = zs (l ++ m) := by
  refine zs_ext ?_
  rw [ap_list, zs_list, zs_list]
theorem sqt_kp {K : PySem.W.Frag} {d t : Addr} {H H' : Hp} {xs : List V} {kvs : List (Key × V)} (h : SqT K H t xs) (e : H d = some (.dK kvs)) (k : Dr.Kp d H H') : SqT K H' t xs := by
  rcases h with (h | ⟨u, h⟩) | h
  · exact .inl (.inl (k _ _ (ne_of h e (by intro z; cases z)) h))
  · exact .inl (.inr ⟨u, k _ _ (ne_of h e (by intro z; cases z)) h⟩)
  · exact .inr h
theorem At.kp {K : PySem.W.Frag} {d l C a : Addr} {m : Nat} {H H' : Hp} {cs : List Nat} (h : At K H C a cs) (D : Dr.Draw H d l m) (k : Dr.Kp d H H') : At K H' C a cs := by
  obtain ⟨ns, u1, u2, u3, e, _⟩ := D
  obtain ⟨dx, t, h1, h2⟩ := h
  exact ⟨dx, t, k _ _ (ne_of h1 e (by intro z; cases z)) h1, sqt_kp h2 e k⟩
theorem cnt_is (c : Nat) : ∀ l : List Nat, PyProof.Rows.cnt c l = (l.count c : Int)
  | [] => rfl
  | n :: l => by
    rw [PyProof.Rows.cnt_cons, cnt_is c l, List.count_cons]
    by_cases h : n = c
    · rw [if_pos h, if_pos (by rw [h]; exact beq_self_eq_true c)]
      omega
    · rw [if_neg h, if_neg (by rw [beq_iff_eq]; exact h)]
      omega
theorem count_eq61 (l : List Nat) : Txt.count (zs l) "=" = (l.count 61 : Int) := by
  have e : ("=" : Str) = ⟨#[61]⟩ := by decide +kernel
  rw [e, PyProof.Rows.count_is]
  exact (cnt_is 61 _).trans (by rw [zs_list])
/-- the equality of texts, for the comparison of tuples that hold them -/
def RT (K : PySem.W.Frag) (C : Addr) (a b : Addr) (H : Hp) : Prop := ∃ cs, At K H C a cs ∧ At K H C b cs
def DT (K : PySem.W.Frag) (C : Addr) : Eqv := fun x y H => DIns C (RT K C) x y H ∨ DFlat x y H
theorem At.ext {K : PySem.W.Frag} {C a : Addr} {H H' : Hp} {cs : List Nat} (h : At K H C a cs) (e : Ext H H') : At K H' C a cs := h.same fun _ _ => e _ _
theorem mon_DT {K : PySem.W.Frag} {C : Addr} : Mon (DT K C) := Mon.or (mon_ins fun a b H H' e ⟨cs, h1, h2⟩ => ⟨cs, At.ext h1 e, At.ext h2 e⟩) mon_flat
theorem eqG_DT {X : Cx} {n : Nat} {CX : CXT} {C f : Addr} {fd : FuncData} {ps : List Str} (F : FnOk X.prog X.w X.K X.mg X.base CX n f fd ps (Tx.spEq X.K C))
    (hs : PySem.W.findIn X.K (.ref C) "__eq__" = some (some (.ref f))) (hf : PySem.W.isFn X.K (.ref f) = true) (hb : Binds X.K fd ps []) {E : XK} (hx : Passes CX X E) : EqG X n (DT X.K C) :=
  EqG.or (eqG_ins (F.imp fun vs H Q E h => by
    obtain ⟨a, b, rfl, ⟨cs, h1, h2⟩, q⟩ := h
    refine ⟨a, b, cs, cs, rfl, h1, h2, ?_⟩
    rw [decide_eq_true rfl]
    exact q H Ext.rfl') hs hf hb hx) (eqG_flat.mono (Nat.zero_le _))
theorem DTup_of {K : PySem.W.Frag} {C p q a b : Addr} {H : Hp} {cs : List Nat} (h1 : H p = some (.tup [.ref a, .bl true])) (h2 : H q = some (.tup [.ref b, .bl true])) (ha : At K H C a cs) (hb : At K H C b cs) : DTup K (DT K C) (.ref p) (.ref q) H := by
  refine ⟨p, q, _, _, rfl, rfl, SqT.of h1, SqT.of h2, rfl, fun i x y e1 e2 => ?_⟩
  match i, e1, e2 with
  | 0, e1, e2 =>
    obtain rfl := Option.some.inj e1
    obtain rfl := Option.some.inj e2
    obtain ⟨dx, t, g1, g2⟩ := id ha
    obtain ⟨dy, u, g3, g4⟩ := id hb
    exact .inl ⟨a, b, dx, dy, _, _, rfl, rfl, g1, g3, cs, ha, hb⟩
  | 1, e1, e2 =>
    obtain rfl := Option.some.inj e1
    obtain rfl := Option.some.inj e2
    exact .inr ⟨rfl, rfl, rfl⟩
  | i + 2, e1, e2 => cases e1
/-! promises of the law's own -/
def spNumbers : Sp := fun vs H Q _ => ∃ (d l : Addr) (m n : Nat), vs = [.ref d, iv n] ∧ Dr.Draw H d l m ∧ m ≤ 500000 ∧ n ≤ 30 ∧ ∀ (cs : List Nat) (p : Addr) H1, cs.length ≤ n → (∀ c ∈ cs, isC c = true) → H1 p = some (.lst (cs.map iv)) → Dr.Draw H1 d l (m + 40) → Dr.Kp d H H1 → Q (.ref p) H1
def spText (K : PySem.W.Frag) (C : Addr) : Sp := fun vs H Q _ => ∃ (d l : Addr) (m n : Nat), vs = [.ref d, iv n] ∧ Dr.Draw H d l m ∧ m ≤ 500000 ∧ n ≤ 30 ∧ ∀ (cs : List Nat) (p : Addr) H1, cs.length ≤ n → (∀ c ∈ cs, isC c = true) → At K H1 C p cs → Dr.Draw H1 d l (m + 40) → Dr.Kp d H H1 → Q (.ref p) H1
def spRight (K : PySem.W.Frag) (C : Addr) : Sp := fun vs H Q _ => ∃ k a cs, vs = [.ref a, .str (Kd.name k)] ∧ At K H C a cs ∧ cs.length ≤ 30 ∧ (∀ c ∈ cs, isC c = true) ∧ (∀ c ∈ cs, inKd k c) ∧ ∀ H1, Same H H1 → Q (.bl true) H1
def spSums (K : PySem.W.Frag) (C : Addr) : Sp := fun vs H Q _ => ∃ k a b cs ds, vs = [.ref a, .ref b, .str (Kd.name k)] ∧ At K H C a cs ∧ At K H C b ds ∧ cs.length ≤ 30 ∧ ds.length ≤ 30 ∧ (∀ c ∈ cs, inKd k c) ∧ (∀ c ∈ ds, inKd k c) ∧ ∀ H1, Same H H1 → Q (.bl true) H1

theorem ways {i : Nat} {x : V} (h : [V.str "h", V.str "s"][i]? = some x) : ∃ b, x = V.str (cname b) := by
  match i, h with
  | 0, h => exact ⟨true, (Option.some.inj h).symm⟩
  | 1, h => exact ⟨false, (Option.some.inj h).symm⟩
  | i + 2, h => cases h

end Cd
namespace L2
open PySem
theorem ix_listKK {X : Cx} {K : PySem.W.Frag} (h : X.K = K) : IxR X (rIxL K) := h ▸ ix_list
end L2
namespace Cd
open PySem L2 Tx
def SOMES : List Nat := [97, 98, 32, 32, 122, 65, 48, 32, 97, 34, 92, 61, 63, 95, 44, 60, 62, 40, 41, 59, 64, 58, 126, 45, 160, 233, 255, 256, 8364, 65535]
theorem somes_ok : ∀ c ∈ SOMES, isC c = true := by decide +kernel
end Cd
namespace Cd
open PySem L2 Tx
theorem pick {v : Int} (h0 : 0 ≤ v) (h1 : v < 30) : ∃ c ∈ SOMES, atI (SOMES.map iv) v = some (iv c) := by
  have hl : SOMES.length = 30 := by decide +kernel
  have hi : v.toNat < SOMES.length := by omega
  refine ⟨SOMES[v.toNat], List.getElem_mem hi, ?_⟩
  have e := atI_nat (xs := SOMES.map iv) (j := v.toNat) (v := iv SOMES[v.toNat]) (by rw [List.getElem?_map, List.getElem?_eq_getElem hi]; rfl)
  rw [Int.toNat_of_nonneg h0] at e
  exact e
theorem in_app {k : Kd} {cs ds : List Nat} (h1 : ∀ c ∈ cs, inKd k c) (h2 : ∀ c ∈ ds, inKd k c) : ∀ c ∈ cs ++ ds, inKd k c := fun c h => (List.mem_append.mp h).elim (h1 c) (h2 c)
end Cd
namespace Cd
open PySem L2 Tx
theorem own2 {K : PySem.W.Frag} {H : Hp} {C a b : Addr} {cs ds : List Nat} {sp : Sp} {E : XK} {Q : VK} (h1 : At K H C a cs) (h2 : At K H C b ds) (q : sp [.ref a, .ref b] H Q E) : rOwn2 C sp E (.ref a) (.ref b) H Q := by
  obtain ⟨dx, t, e1, _⟩ := h1
  obtain ⟨dy, u, e2, _⟩ := h2
  exact ⟨a, b, dx, dy, _, _, rfl, rfl, e1, e2, q⟩
theorem oct_app {a b : List Nat} (ha : Oct a) (hb : Oct b) : Oct (a ++ b) := fun o h => (List.mem_append.mp h).elim (ha o) (hb o)
theorem payS_le {os : List Nat} (h : os.length ≤ 1000) : (zs (payS os)).length ≤ 2000 := by
  rw [zs_len, payS_len]
  omega
theorem payH_le {os : List Nat} (h : os.length ≤ 1000) : (zs (payH os)).length ≤ 3000 := by
  rw [zs_len]
  have := payH_len os
  omega
theorem payS_cut (os rs : List Nat) : payS (os.take (os.length - os.length % 3)) ++ payS (os.drop (os.length - os.length % 3) ++ rs) = payS (os ++ rs) := by
  rw [← payS_app _ _ (by rw [List.length_take]; omega), ← List.append_assoc, List.take_append_drop]
theorem same_pay {cs ds os rs : List Nat} (oc : Oct os) (od : Oct rs) (inj : os = rs → cs = ds) (fwd : cs = ds → os = rs) : decide (V.bl (decide (V.str (zs (payS os)) = V.str (zs (payS rs)))) = V.bl (decide (cs = ds))) = true := by
  refine decide_eq_true (congrArg V.bl (decide_eq_decide.mpr ⟨fun h => inj (payS_inj oc od (zs_inj (V.str.inj h))), fun h => ?_⟩))
  rw [fwd h]
end Cd
namespace L2
open PySem
section
variable {K : PySem.W.Frag} {g : TG} {te : TE} {tt : TT} {vs : List Nat} {σ : St} {H1 : Hp} {D : Addr} {Qd : Hp → Prop} {a : Addr} {xs : List V}
/-- over a tuple, what a test lets pass -/
theorem lc_filtT (pr : V → Bool) (ha : SqT K H1 a xs) (hD : H1 D = none) (hn : xs.length ≤ 100000)
    (hs : ∀ x H (N : V → Hp → Prop) (M : Hp → Prop), x ∈ xs → Same H1 H → (pr x = true → N x H) → (pr x = false → M H) → g x (wipe σ vs) H fun σ2 H2 => wipe σ2 vs = wipe σ vs ∧ tt σ2 H2 fun b H3 => if b = true then te σ2 H3 N else M H3)
    (hd : ∀ H, Same H1 H → H D = some (.lst (xs.filter pr)) → Qd H) :
    ∃ W : Nat → Nat → Hp → Prop, (∃ m, W 0 m (upd H1 D (.lst []))) ∧ ∀ i m H, W i m H →
      ((Itt K a).stop i H ∧ Qd H) ∨ ((Itt K a).go i H ∧ ∃ Nx : Hp → Prop, (∀ H', Nx H' → ∃ m', m' < m ∧ W (i + 1) m' H') ∧ ∀ x H', (Itt K a).yld i H x H' → g x (wipe σ vs) H' fun σ2 H2 => wipe σ2 vs = wipe σ vs ∧ tt σ2 H2 fun b H3 =>
        if b = true then te σ2 H3 fun y H4 => ∃ acc, H4 D = some (.lst acc) ∧ acc.length < sizeLine ∧ Nx (upd H4 D (.lst (acc ++ [y]))) else Nx H3) := by
  refine lc_it walk_tup (fun i H => Same H1 H ∧ H D = some (.lst ((xs.take i).filter pr))) ⟨same_new hD, upd_same⟩ (fun i H _ p => p.1.sqt ha) (fun i x H H' hi p y => ?_) fun H p => hd H p.1 (by have := p.2; rwa [List.take_of_length_le (Nat.le_refl _)] at this)
  obtain ⟨rfl, hx⟩ := y
  have ht : xs.take (i + 1) = xs.take i ++ [x] := by rw [List.take_add_one, hx]; rfl
  refine hs x H' _ _ (List.mem_of_getElem? hx) p.1 (fun hp => ⟨_, p.2, ?_, p.1.mut hD, ?_⟩) fun hp => ⟨p.1, ?_⟩
  · refine Nat.lt_of_le_of_lt (List.length_filter_le _ _) ?_
    rw [List.length_take]
    exact Nat.lt_of_le_of_lt (Nat.min_le_right _ _) (Nat.lt_of_le_of_lt hn (by decide))
  · rw [upd_same, ht, List.filter_append, List.filter_cons, if_pos hp]
    rfl
  · rw [p.2, ht, List.filter_append, List.filter_cons, if_neg (by rw [hp]; decide)]
    simp
end
end L2
namespace Cd
open PySem L2 Tx
def big : V → Bool
  | .int i => decide (i > 255)
  | _ => false
theorem big_iv (cs : List Nat) : (cs.map iv).filter big = (cs.filter fun c => decide (c > 255)).map iv := by
  rw [List.filter_map]
  congr 1
  refine List.filter_congr fun c _ => ?_
  show decide ((c : Int) > 255) = decide (c > 255)
  refine decide_eq_decide.mpr ?_
  omega
theorem eqv_lnil (l : List Nat) : PyData.eqv (.list (l.map fun (c : Nat) => PyData.int (c : Int))) (.list []) = decide (l = []) := by
  rw [PyData.eqv]
  exact eqvAll_ints l []
theorem small_of {cs ds : List Nat} (h : (cs ++ ds).filter (fun c => decide (c > 255)) = []) : (∀ c ∈ cs, c ≤ 255) ∧ (∀ c ∈ ds, c ≤ 255) := by
  have f := List.filter_eq_nil_iff.mp h
  have g : ∀ c ∈ cs ++ ds, c ≤ 255 := fun c hc => by
    have := f c hc
    rw [decide_eq_true_eq] at this
    omega
  exact ⟨fun c hc => g c (List.mem_append_left _ hc), fun c hc => g c (List.mem_append_right _ hc)⟩
theorem kinds_at {ks : List Kd} {i : Nat} {x : V} (h : (ks.map fun k => V.str k.name)[i]? = some x) : ∃ k ∈ ks, x = V.str k.name := by
  rw [List.getElem?_map] at h
  cases e : ks[i]? with
  | none => rw [e] at h; cases h
  | some k => rw [e] at h; exact ⟨k, List.mem_of_getElem? e, (Option.some.inj h).symm⟩
theorem in_wide {cs : List Nat} (h : ∀ c ∈ cs, isC c = true) : ∀ k ∈ [Kd.wide, Kd.steps], ∀ c ∈ cs, inKd k c := fun k hk c hc => inKd_of (h c hc) fun e => by
  subst e
  simp at hk
theorem in_all {cs : List Nat} (h : ∀ c ∈ cs, isC c = true) (hs : ∀ c ∈ cs, c ≤ 255) : ∀ k ∈ [Kd.latin, Kd.wide, Kd.steps], ∀ c ∈ cs, inKd k c := fun k _ c hc => inKd_of (h c hc) fun _ => hs c hc
end Cd
namespace L2
open PySem PySem.Spec PyProof.Rows
/-! ### static methods, called by their class -/
structure SMet (K : PySem.W.Frag) (C : Addr) (mc : Value) (m : Str) (p g : Addr) : Prop where
  at_ : PySem.W.findCls K (.ref C) mc m = some (.get (.builtin "staticmethod.__get__") (.ref p) .none (.ref C))
  rc : ∃ rest, PySem.W.recIn K p "staticmethod" = some (.ref g :: rest)
  kp : PySem.W.keepIn K (.ref g) = true
def tSMeth (C : Addr) (sp : Sp) (E : XK) (ta : TE) (t : TA) : TE := fun σ H Q => ta σ H fun x H1 => x = .ref C ∧ t σ H1 fun vs H2 => sp (vs ++ []) H2 Q E
section
variable {X : Cx} {CX : CXT} {k : Nat} {C p g : Addr} {fd : FuncData} {ps : List Str} {mc : Value} {sp : Sp} {E : XK} {o e : Expr} {es : List Expr} {m : Str} {pos apos : Pos} {ta : TE} {t : TA} {pl : Sem Bool}
theorem pe_smeth (he : PE X o ta) (r : ClX.CRead X.K C mc) (c : SMet X.K C mc m p g) (F : FnOk X.prog X.w X.K X.mg X.base CX k g fd ps sp) (hr : Room k X.A) (hb : Binds X.K fd ps []) (hx : Passes CX X E) (ha : PA X (e :: es) t)
    (hst : starEach (e :: es) X.env = (false, eval e X.env) :: starEach es X.env := by rfl) (hpl : (backTo pos (starEach es X.env)).any (·.1) = false := by rfl)
    (ht : eval (.Call (.Attribute o m apos) (e :: es) [] pos) X.env = (do
      let ov ← eval o X.env
      standAt apos.atName
      let (f, first) ← holding [ov] (getMethod ov m pl)
      callWith pos f first (backTo pos (starEach (e :: es) X.env)) (backToKw pos (keywordEach [] X.env))) := by rfl) :
    PE X (.Call (.Attribute o m apos) (e :: es) [] pos) (tSMeth C sp E ta t) := by
  refine ⟨fun pins s σ H Q I h => ?_⟩
  refine PySem.W.methodCall_KW (pl := pl) (thn (he.run pins s σ H _ I h) fun u s1 ⟨x, H1, I1, rx, ex, q⟩ => ?_) ht
  subst ex
  obtain rfl : u = Value.ref C := rx
  obtain ⟨rest, hp⟩ := c.rc
  refine PySem.W.method_cls I1.kIn r.ga ?_
  refine PySem.W.cls_bind I1.kIn r.rd c.at_ (wpAny_call (PySem.W.sm_get (s := { s1 with toks := s1.toks + 1 }) I1.kIn hp (PySem.W.handed_on rfl ?_)))
  have I2 := I1.tok (s1.toks + 1)
  refine PySem.W.callWith_K (h₀ := X.base) I2.ok.mod.kin c.kp (thn (ha.run pos pins _ σ H1 _ I2 q) fun us s3 ⟨vs, H2, I3, rv, q2⟩ => ⟨I3.kIn, ?_⟩) hst hpl
  exact run_fn F hr hb .nil hx I3 rv q2
end
end L2
namespace Tx
open PySem L2
/-- the parts between the codes 32 -/
def cstep (p : List (List Nat) × List Nat) (c : Nat) : List (List Nat) × List Nat := if c = 32 then (p.1 ++ [p.2], []) else (p.1, p.2 ++ [c])
def cfold (cs : List Nat) : List (List Nat) × List Nat := cs.foldl cstep ([], [])
def cutC (cs : List Nat) : List (List Nat) := (cfold cs).1 ++ [(cfold cs).2]
/-- the parts with 32 between them -/
def joinC : List (List Nat) → List Nat
  | [] => []
  | r :: rs => r ++ (rs.map fun x => 32 :: x).flatten
theorem joinC_snoc (rs : List (List Nat)) (x : List Nat) : joinC (rs ++ [x]) = joinC rs ++ ((if rs = [] then [] else [32]) ++ x) := by
  cases rs with
  | nil => simp [joinC]
  | cons r rs =>
    show r ++ ((rs ++ [x]).map fun x => 32 :: x).flatten = (r ++ (rs.map fun x => 32 :: x).flatten) ++ ((if r :: rs = [] then [] else [32]) ++ x)
    rw [List.map_append, List.flatten_append, if_neg (by simp)]
    simp
theorem cfold_snoc {cs : List Nat} {i c : Nat} (h : cs[i]? = some c) : cfold (cs.take (i + 1)) = cstep (cfold (cs.take i)) c := by
  unfold cfold
  rw [List.take_add_one, h, List.foldl_append]
  rfl
theorem cfold_len (cs : List Nat) : ∀ i, (cfold (cs.take i)).1.length ≤ i
  | 0 => Nat.le_refl _
  | i + 1 => by
    cases h : cs[i]? with
    | none =>
      rw [List.take_add_one, h]
      simp only [Option.toList, List.append_nil]
      exact Nat.le_succ_of_le (cfold_len cs i)
    | some c =>
      rw [cfold_snoc h]
      unfold cstep
      split
      · rw [List.length_append]
        exact Nat.add_le_add_right (cfold_len cs i) 1
      · exact Nat.le_succ_of_le (cfold_len cs i)
def plainC (c : Nat) : Bool := Mk.isPlain (iv c)
section
variable (K : PySem.W.Frag) (C : Addr)
def spLen : Sp := fun vs H Q _ => ∃ a cs, vs = [.ref a] ∧ At K H C a cs ∧ Q (.int (cs.length : Int)) H
def spTruth : Sp := fun vs H Q _ => ∃ a cs, vs = [.ref a] ∧ At K H C a cs ∧ Q (.bl (!decide (cs = []))) H
def spIsPlain : Sp := fun vs H Q _ => ∃ a cs, vs = [.ref a] ∧ At K H C a cs ∧ cs.length ≤ 10000 ∧ ∀ H1, Same H H1 → Q (.bl (cs.all plainC)) H1
def spStr : Sp := fun vs H Q _ => ∃ a cs, vs = [.ref a] ∧ At K H C a cs ∧ cs.length ≤ 10000 ∧ (∀ c ∈ cs, plainC c = true) ∧ ∀ H1, Same H H1 → Q (.str (Cd.zs cs)) H1
def spGet : Sp := fun vs H Q _ => ∃ a cs k c, vs = [.ref a, iv k] ∧ At K H C a cs ∧ cs[k]? = some c ∧ Q (iv c) H
def spPart : Sp := fun vs H Q _ => ∃ a cs i j, vs = [.ref a, iv i, iv j] ∧ At K H C a cs ∧ i ≤ j ∧ j ≤ cs.length ∧ ∀ H1 b, Same H H1 → At K H1 C b ((cs.drop i).take (j - i)) → Q (.ref b) H1
def spCut : Sp := fun vs H Q _ => ∃ a cs, vs = [.ref a] ∧ At K H C a cs ∧ cs.length ≤ 10000 ∧ ∀ H1 p ps, Same H H1 → H1 p = some (.tup (ps.map V.ref)) → Paired (fun x row => At K H1 C x row) ps (cutC cs) → Q (.ref p) H1
def spJoined : Sp := fun vs H Q _ => ∃ p ps rows, vs = [.ref p] ∧ H p = some (.tup (ps.map V.ref)) ∧ Paired (fun x row => At K H C x row) ps rows ∧ rows.length ≤ 10000 ∧ (joinC rows).length ≤ 50000 ∧ ∀ H1 b, Same H H1 → H b = none → At K H1 C b (joinC rows) → Q (.ref b) H1
end
def spShown : Sp := fun vs H Q _ => ∃ c : Nat, vs = [iv c] ∧ plainC c = true ∧ ∀ H1, Same H H1 → Q (.str (Cd.zs [c])) H1
theorem paired_same {K : PySem.W.Frag} {C : Addr} {H H1 : Hp} {ps : List Addr} {rows : List (List Nat)} (p : Paired (fun x row => At K H C x row) ps rows) (s : Same H H1) : Paired (fun x row => At K H1 C x row) ps rows := Paired.mapP p fun _ _ h => h.same s
theorem At.upd {K : PySem.W.Frag} {H : Hp} {C a l : Addr} {cs : List Nat} {xs : List V} {o : HO} (h : At K H C a cs) (e : H l = some (.lst xs)) : At K (upd H l o) C a cs := by
  obtain ⟨dx, t, h1, h2⟩ := h
  exact ⟨dx, t, by rw [upd_ne (ne_of h1 e (by intro z; cases z))]; exact h1, Cd.sqt_upd h2 e⟩
theorem strV_join (cs : List Nat) : ((cs.map fun c => V.str (Cd.zs [c]))) = (cs.map fun c => Cd.zs [c]).map V.str := by rw [List.map_map]; rfl
end Tx
namespace Tx
open PySem L2
def oneV : V → V
  | .int i => .str (Cd.zs [i.toNat])
  | v => v
theorem map_oneV (cs : List Nat) : (cs.map iv).map oneV = ((cs.map fun c => [c]).map Cd.zs).map V.str := by
  rw [List.map_map, List.map_map, List.map_map]
  rfl
theorem flat_self (cs : List Nat) : (cs.map fun c => [c]).flatten = cs := by
  induction cs with
  | nil => rfl
  | cons c cs ih => rw [List.map_cons, List.flatten_cons, ih]; rfl
end Tx
namespace Tx
theorem joinC_le (rows : List (List Nat)) (i : Nat) : (joinC (rows.take i)).length ≤ (joinC rows).length := by
  have h : ∀ (xs ys : List (List Nat)), (joinC xs).length ≤ (joinC (xs ++ ys)).length := fun xs ys => by
    cases xs with
    | nil => exact Nat.zero_le _
    | cons r rs =>
      show (r ++ (rs.map fun x => 32 :: x).flatten).length ≤ (r ++ ((rs ++ ys).map fun x => 32 :: x).flatten).length
      rw [List.map_append, List.flatten_append, List.length_append, List.length_append, List.length_append]
      omega
  have := h (rows.take i) (rows.drop i)
  rwa [List.take_append_drop] at this
end Tx
namespace L2
open PySem
theorem call_isiQ {X : Cx} {K : PySem.W.Frag} (h : X.K = K) : CallR X (.builtin "isinstance") (rIsi K) := h ▸ call_isi
theorem call_len1Q {X : Cx} {K : PySem.W.Frag} (h : X.K = K) : CallR X (.builtin "len") (rLen1 K) := h ▸ call_len1
end L2
namespace L2
open PySem PySem.Spec PyProof.Rows
/-! ### zip of a tuple and a list -/
def ItzM (K : PySem.W.Frag) (a b : Addr) : It :=
  ⟨fun i H => ∃ xs ys x y, (SqT K H a xs ∧ xs[i]? = some x) ∧ SqL K H b ys ∧ ys[i]? = some y,
    fun i H v H' => ∃ T x y, (v = .ref T ∧ H T = none ∧ H' = upd H T (.tup [x, y])) ∧ (∀ xs, SqT K H a xs → xs[i]? = some x) ∧ ∀ ys, SqL K H b ys → ys[i]? = some y,
    fun i H => ∃ xs ys, (SqT K H a xs ∧ SqL K H b ys) ∧ i ≤ xs.length ∧ i ≤ ys.length ∧ (i = xs.length ∨ i = ys.length)⟩
def StM (a b z TI TO i1 i2 : Addr) (i : Nat) (h : Heap) : Prop := (IsZip h z TI TO .none ∧ IsTupOf2 h TI (.ref i1) (.ref i2)) ∧ (∃ x y, IsTupOf2 h TO x y) ∧ h.IsTupleIter i1 a i ∧ h.IsListIter i2 b i
theorem turn_zipM {P : Program} {w : World} {K : PySem.W.Frag} {elts : List Expr} {kk : Nat} {tpos : Pos} {a b z TI TO i1 i2 : Addr} (S : ZipSep2 z TI TO i1 i2 [i1, a] [i2, b]) (na : a ≠ i1) (nb : b ≠ i2) :
    Turn P w K (.Tuple elts kk tpos) (ItzM K a b) [z, TI, TO, i1, i2] z (StM a b z TI TO i1 i2) where
  mem := List.mem_cons_self
  obj := fun i h st c hc => by
    obtain ⟨⟨hz, hI⟩, ⟨x, y, hO⟩, ⟨o1, e1, _, d1⟩, ⟨o2, e2, _, d2⟩⟩ := st
    simp only [List.mem_cons, List.not_mem_nil, or_false] at hc
    rcases hc with rfl | rfl | rfl | rfl | rfl
    · exact ⟨_, hz, fun v q => nomatch q⟩
    · exact ⟨_, hI, fun v q => nomatch q⟩
    · exact ⟨_, hO, fun v q => nomatch q⟩
    · exact ⟨o1, e1, fun v q => by rw [d1] at q; cases q⟩
    · exact ⟨o2, e2, fun v q => by rw [d2] at q; cases q⟩
  keep := fun i h h' st k => by
    obtain ⟨⟨hz, hI⟩, ⟨x, y, hO⟩, h1, h2⟩ := st
    exact ⟨⟨k _ (by simp) _ hz, k _ (by simp) _ hI⟩, ⟨x, y, k _ (by simp) _ hO⟩, h1.at fun o q => k _ (by simp) o q, h2.at fun o q => k _ (by simp) o q⟩
  item := by
    intro X hP hw hK hc i pins s σ H E I hf st hg
    subst hP hw hK
    obtain ⟨⟨hz, hI⟩, ⟨x0, y0, hO⟩, h1, h2⟩ := st
    obtain ⟨xs, ys, x, y, ⟨hqx, hx⟩, hqy, hy⟩ := hg
    obtain ⟨its, rv, p, _⟩ := I.tuple hqx
    obtain ⟨jts, rw', p', _⟩ := I.list hqy
    obtain ⟨u, hu, ru⟩ := rv.get hx
    obtain ⟨v, hv, rv'⟩ := rw'.get hy
    have hh : X.A.in1.handled = none := I.ok.hd hc
    have lz : z < s.heap.objs.size := Heap.lt_size hz
    have sz : ∀ c ∈ [z, TI, TO, i1, i2], c < s.heap.objs.size := fun c hcm => by
      simp only [List.mem_cons, List.not_mem_nil, or_false] at hcm
      obtain ⟨o1, e1, _⟩ := id h1
      obtain ⟨o2, e2, _⟩ := id h2
      rcases hcm with rfl | rfl | rfl | rfl | rfl
      · exact lz
      · exact Heap.lt_size hI
      · exact Heap.lt_size hO
      · exact Heap.lt_size e1
      · exact Heap.lt_size e2
    refine wpAny_pyNext_zipD2_item S (Draws.tuple hh i1 a na its.toArray) (Draws.list hh i2 b nb jts.toArray) hz hI hO ⟨h1, p⟩ ⟨h2, p'.isList⟩ (by simpa using (List.getElem?_eq_some_iff.mp hu).1) (by simpa using (List.getElem?_eq_some_iff.mp hv).1) fun u' v' g tk eu ev gz gO g1 g2 gT gs gk => ?_
    have eu' : u' = u := by rw [List.getElem?_toArray, hu] at eu; exact (Option.some.inj eu).symm
    have ev' : v' = v := by rw [List.getElem?_toArray, hv] at ev; exact (Option.some.inj ev).symm
    subst eu' ev'
    refine ⟨_, rfl, wpAny_letOwnedTupleGo_zip (s := { s with heap := g, toks := tk }) gz fun g' gz' sb => ?_⟩
    have tT : g'.get? s.heap.objs.size = some { cls := .type "tuple", data := .seq #[u', v'] } := (sb.2 _ (Nat.ne_of_gt lz)).trans gT
    have I1 : Inv X pins σ (upd H s.heap.objs.size (.tup [x, y])) { s with heap := g', toks := tk } :=
      I.turnedNew (ch := [z, TI, TO, i1, i2]) (fun c o hb q => (sb.2 c fun e => hb (by simp [e])).trans (gk c o (fun e => hb (by simp [e])) (fun e => hb (by simp [e])) (fun e => hb (by simp [e])) (fun e => hb (by simp [e])) q)) hf (Nat.le_refl _)
        ⟨by show 2 ≤ sizeLine; decide, [u', v'], .cons ru (.cons rv' .nil), ⟨_, tT, rfl, _, rfl⟩⟩
    refine ⟨.ref s.heap.objs.size, _, I1, rfl, ⟨_, x, y, ⟨rfl, I.hok.fresh (Nat.le_refl _), rfl⟩, fun l hl => by rw [I.tuple_inj hl hqx]; exact hx, fun l hl => by rw [I.list_inj hl hqy]; exact hy⟩, ⟨⟨gz', ?_⟩, ⟨u', v', (sb.2 _ S.TOz).trans gO⟩, ?_, ?_⟩, fun c hcm => ?_⟩
    · exact (sb.2 _ S.TIz).trans (gk _ _ S.TIz S.TITO S.TIi1 S.TIi2 hI)
    · exact g1.1.at fun o q => (sb.2 _ S.zi1.symm).trans q
    · exact g2.1.at fun o q => (sb.2 _ S.zi2.symm).trans q
    · rw [upd_ne (Nat.ne_of_lt (sz c hcm))]
      exact (hf c hcm).1
  done := by
    intro X hP hw hK hc i pins s σ H E I hf st hg
    subst hP hw hK
    obtain ⟨⟨hz, hI⟩, ⟨x0, y0, hO⟩, h1, h2⟩ := st
    obtain ⟨xs, ys, ⟨hqx, hqy⟩, lx, ly, en⟩ := hg
    obtain ⟨its, rv, p, _⟩ := I.tuple hqx
    obtain ⟨jts, rw', p', _⟩ := I.list hqy
    have hh : X.A.in1.handled = none := I.ok.hd hc
    have a1 : its.toArray.size = xs.length := by rw [List.size_toArray, rv.length]
    have a2 : jts.toArray.size = ys.length := by rw [List.size_toArray, rw'.length]
    exact wpAny_pyNext_zipD2_end S (Draws.tuple hh i1 a na its.toArray) (Draws.list hh i2 b nb jts.toArray) hz hI hO ⟨h1, p⟩ ⟨h2, p'.isList⟩ (by rw [a1]; exact lx) (by rw [a2]; exact ly) (by rw [a1, a2]; exact en) fun g tk gk => ⟨rfl, I.turnedL (ch := [z, TI, TO, i1, i2]) (fun c o hb q =>
      gk c o (fun e => hb (by simp [e])) (fun e => hb (by simp [e])) (fun e => hb (by simp [e])) (fun e => hb (by simp [e])) q) hf⟩
  self := fun A i s Q E st h => wpAny_pyIter_zip st.1.1 h
section
variable {X : Cx} {e e2 : Expr} {ta : TA} {p pos tpos : Pos} {elts : List Expr} {kk : Nat}
def iZipM (K : PySem.W.Frag) (ta : TA) : TI := fun σ H R => ta σ H fun vs H1 => ∃ a b xs ys, vs = [.ref a, .ref b] ∧ SqT K H1 a xs ∧ SqL K H1 b ys ∧ R (ItzM K a b) H1
theorem pi_zipM (hg : Gl X "zip") (hm : X.mg "zip" = none) (ha : PA X [e, e2] ta) (hs : starEach [e, e2] X.env = (false, eval e X.env) :: starEach [e2] X.env := by rfl) (hpl : (backTo pos (starEach [e2] X.env)).any (·.1) = false := by rfl) :
    PI X (.Tuple elts kk tpos) (.Call (.Name "zip" p) [e, e2] [] pos) (iZipM X.K ta) := by
  refine ⟨fun pins s σ H R I h => Call_ (ld_blt I hg hm boot_zip (PyProof.Rows.callWith_type1 (thn (ha.run pos pins s σ H _ I h) fun us s1 ⟨vs, H1, I1, r1, q1⟩ => ?_) hs hpl))⟩
  obtain ⟨a, b, xs, ys, ex, hqx, hqy, q⟩ := q1
  subst ex
  obtain ⟨u, v, rfl, ru, rv⟩ := vals2 r1
  cases ru
  cases rv
  obtain ⟨its, _, pa, _⟩ := I1.tuple hqx
  obtain ⟨jts, _, pb, _⟩ := I1.list hqy
  have la : a < s1.heap.objs.size := by obtain ⟨o, e, _⟩ := pa; exact Heap.lt_size e
  have lb : b < s1.heap.objs.size := pb.lt
  refine zip_begins2 (begins_tuple a its.toArray) (begins_list b jts.toArray) pa pb.isList fun g hz hI hO e1 e2 _ hk => wpAny_pyIter_zip hz ?_
  have I2 : Inv X pins σ H1 { s1 with heap := g } := I1.kept (t' := s1.toks) hk
  refine ⟨s1.heap.objs.size + 4, [s1.heap.objs.size + 4, s1.heap.objs.size + 2, s1.heap.objs.size + 3, s1.heap.objs.size, s1.heap.objs.size + 1], _, _, H1, rfl, I2,
    turn_zipM (zip_sep2 (fp1 := [a]) (fp2 := [b]) (fun c hc => by rw [List.mem_singleton.mp hc]; exact la) (fun c hc => by rw [List.mem_singleton.mp hc]; exact lb)) (Nat.ne_of_lt la) (Nat.ne_of_lt (Nat.lt_succ_of_lt lb)), ⟨⟨hz, hI⟩, ⟨_, _, hO⟩, ⟨_, e1, rfl, rfl⟩, ⟨_, e2, rfl, rfl⟩⟩, fun c hc => ?_, q⟩
  have hle : s1.heap.objs.size ≤ c := by
    simp only [List.mem_cons, List.not_mem_nil, or_false] at hc
    rcases hc with rfl | rfl | rfl | rfl | rfl
    · exact Nat.le_add_right _ _
    · exact Nat.le_add_right _ _
    · exact Nat.le_add_right _ _
    · exact Nat.le_refl _
    · exact Nat.le_add_right _ _
  exact I1.fpOk hle (I1.hok.fresh hle)
end
theorem g_zipM {σ : St} {H : Hp} {K : PySem.W.Frag} {ta : TA} {R : It → Hp → Prop} (h : ta σ H fun vs H1 => ∃ a b xs ys, vs = [.ref a, .ref b] ∧ SqT K H1 a xs ∧ SqL K H1 b ys ∧ R (ItzM K a b) H1) : iZipM K ta σ H R := h
/-- a loop over such a zip, both of one length -/
theorem for_zipM {K : PySem.W.Frag} {a b : Addr} {xs ys : List V} {g : TG} {tb : TS} {D : Ends} {σ : St} {H : Hp} (hl : xs.length = ys.length) (Pv : Nat → St → Hp → Prop) (h0 : Pv 0 σ H) (hq : ∀ i σ H, Pv i σ H → SqT K H a xs ∧ SqL K H b ys)
    (hs : ∀ i x y T σ H, xs[i]? = some x → ys[i]? = some y → Pv i σ H → H T = none → g (.ref T) σ (upd H T (.tup [x, y])) fun σ2 H2 => tb { D with nx := Pv (i + 1), ct := Pv (i + 1), bk := D.nx } σ2 H2) (hd : ∀ σ H, Pv xs.length σ H → D.nx σ H) :
    ∃ W : Nat → Nat → St → Hp → Prop, (∃ m, W 0 m σ H) ∧ ∀ i m σ H, W i m σ H →
      ((ItzM K a b).stop i H ∧ D.nx σ H) ∨ ((ItzM K a b).go i H ∧ ∃ N : St → Hp → Prop, (∀ σ' H', N σ' H' → ∃ m', m' < m ∧ W (i + 1) m' σ' H') ∧ ∀ v H', (ItzM K a b).yld i H v H' → g v σ H' fun σ2 H2 => tb { D with nx := N, ct := N, bk := D.nx } σ2 H2) := by
  refine ⟨fun i m σ H => (i ≤ xs.length ∧ m = xs.length - i) ∧ Pv i σ H, ⟨_, ⟨Nat.zero_le _, rfl⟩, h0⟩, ?_⟩
  rintro i m σ H ⟨⟨hi, rfl⟩, pv⟩
  obtain ⟨qx, qy⟩ := hq i σ H pv
  rcases Nat.lt_or_ge i xs.length with lt | ge
  · refine .inr ⟨⟨xs, ys, _, _, ⟨qx, List.getElem?_eq_getElem lt⟩, qy, List.getElem?_eq_getElem (hl ▸ lt)⟩, Pv (i + 1), fun σ' H' pv' => ⟨_, by omega, ⟨lt, rfl⟩, pv'⟩, fun v H' yl => ?_⟩
    obtain ⟨T, x, y, ⟨rfl, hT, rfl⟩, fx, fy⟩ := yl
    exact hs i x y T σ H (fx xs qx) (fy ys qy) pv hT
  · have e : i = xs.length := Nat.le_antisymm hi ge
    subst e
    exact .inl ⟨⟨xs, ys, ⟨qx, qy⟩, Nat.le_refl _, by omega, .inl rfl⟩, hd σ H pv⟩
end L2
namespace L2
open PySem
section
variable {σ : St} {H : Hp} {Q : VK} {C : Addr} {m : Str} {sp : Sp} {E : XK} {dvs : List V} {ta : TE} {t : TA}
theorem g_smeth (h : ta σ H fun x H1 => x = .ref C ∧ t σ H1 fun vs H2 => sp (vs ++ []) H2 Q E) : tSMeth C sp E ta t σ H Q := h
theorem g_meth (h : ta σ H fun x H1 => ∃ a dx fs, x = .ref a ∧ H1 a = some (.ins C dx fs) ∧ fs.lookup m = none ∧ t σ H1 fun vs H2 => sp (x :: (vs ++ dvs)) H2 Q E) : tMeth C m sp dvs E ta t σ H Q := h
end
end L2
namespace L2
open PySem
/-! ### heaps without their texts -/
section
variable {H H' : Hp} {p : Addr} {o : HO} {K : PySem.W.Frag} {xs : List V}
theorem Same.ap (s : Same H H') (e : H p = some o) : H' p = some o := s _ _ e
theorem Same.apL (s : Same H H') (e : SqL K H p xs) : SqL K H' p xs := Same.seq s e
theorem Same.apT (s : Same H H') (e : SqT K H p xs) : SqT K H' p xs := s.sqt e
theorem SqL.of' (e : H p = some (.lst xs)) : SqL K H p xs := SqL.of e
theorem SqT.of' (e : H p = some (.tup xs)) : SqT K H p xs := SqT.of e
theorem new_o {N : Addr → Hp → Prop} (h : ∀ p H1, H p = none → Same H H1 → H1 p = some o → N p H1) : ∀ p, H p = none → N p (upd H p o) := fun p e => h p _ e (same_new e) upd_same
end
theorem _root_.Dr.Kp.ap {d : Addr} {H H' : Hp} {p : Addr} {o : HO} (k : Dr.Kp d H H') (n : p ≠ d) (e : H p = some o) : H' p = some o := k _ _ n e
theorem _root_.Dr.Kp.of {d : Addr} {H H' : Hp} (s : Same H H') : Dr.Kp d H H' := fun p o _ e => s p o e
theorem _root_.Dr.Draw.ne' {d l : Addr} {H : Hp} {k : Nat} {p : Addr} {o : HO} (D : Dr.Draw H d l k) (e : H p = some o) (n : ∀ kv, o ≠ .dK kv) : p ≠ d := by
  obtain ⟨ns, a, lf, u, h1, _⟩ := D
  exact fun z => by rw [z, h1] at e; exact n _ (Option.some.inj e).symm
/-- a list, a tuple is made -/
abbrev nLst (xs : List V) (H : Hp) (Q : VK) : Prop := xs.length ≤ sizeLine ∧ ∀ p, H p = none → Q (.ref p) (upd H p (.lst xs))
abbrev nTup (xs : List V) (H : Hp) (Q : VK) : Prop := xs.length ≤ sizeLine ∧ ∀ p, H p = none → Q (.ref p) (upd H p (.tup xs))
theorem g_lstN {σ : St} {H : Hp} {Q : VK} {tr : TA} (h : tr σ H fun xs H1 => nLst xs H1 Q) : tLst tr σ H Q := h
theorem g_tupN {σ : St} {H : Hp} {Q : VK} {tr : TA} (h : tr σ H fun xs H1 => nTup xs H1 Q) : tTup tr σ H Q := h
theorem n_lst {H : Hp} {xs : List V} {Q : VK} (hl : xs.length ≤ sizeLine) (h : ∀ p H1, H p = none → Same H H1 → H1 p = some (.lst xs) → Q (.ref p) H1) : nLst xs H Q := ⟨hl, new_o h⟩
theorem n_tup {H : Hp} {xs : List V} {Q : VK} (hl : xs.length ≤ sizeLine) (h : ∀ p H1, H p = none → Same H H1 → H1 p = some (.tup xs) → Q (.ref p) H1) : nTup xs H Q := ⟨hl, new_o h⟩
theorem g_par3 {σ : St} {H : Hp} {D : Ends} {i j l : Nat} {tr : TA} (h : tr σ H fun vs H1 => ∃ u v w, vs = [u, v, w] ∧ D.nx (((σ.set i (some u)).set j (some v)).set l (some w)) H1) : tPar3 i j l tr D σ H := h
theorem g_three {u v w : V} {N : V → V → V → Prop} (h : N u v w) : ∃ u1 v1 w1, [u, v, w] = [u1, v1, w1] ∧ N u1 v1 w1 := ⟨u, v, w, rfl, h⟩
theorem n_rep {H : Hp} {l : Addr} {k : Int} {xs : List V} {Q : VK} (e : H l = some (.lst xs)) (h0 : -(2 ^ 63) ≤ k) (h1 : k < 2 ^ 63) (hl : xs.length * k.toNat ≤ sizeLine) (h : ∀ p H1, H p = none → Same H H1 → H1 p = some (.lst (List.replicate k.toNat xs).flatten) → Q (.ref p) H1) : rRep (.ref l) (.int k) H Q :=
  ⟨l, k, xs, rfl, rfl, e, h0, h1, hl, new_o h⟩
/-- a draw -/
theorem n_next {H : Hp} {d l : Addr} {m : Nat} {b : Int} {Q : VK} {E : XK} (D : Dr.Draw H d l m) (hm : m < 1000000) (h0 : 0 < b) (h1 : b < 1000000) (h : ∀ (r : Int) (H' : Hp), 0 ≤ r → r < b → Dr.Draw H' d l (m + 1) → Dr.Kp d H H' → Q (.int r) H') : Dr.spNext [.ref d, .int b] H Q E :=
  ⟨d, l, m, b, rfl, D, hm, h0, h1, fun r H' a b c e _ => h r H' a b c e⟩
end L2
namespace L2
open PySem PySem.Spec PyProof.Rows
/-! ### repr of data in which empty dicts stand at any depth -/
mutual
inductive Dz (K : PySem.W.Frag) (H : Hp) : V → PyData → Prop
  | of {v : V} {d : PyData} : Dp K H v d → d.hasDict = false → Dz K H v d
  | dic {a : Addr} : H a = some (.dK []) → Dz K H (.ref a) (.dict [])
  | lst {a : Addr} {vs : List V} {ds : List PyData} : SqL K H a vs → DzAll K H vs ds → Dz K H (.ref a) (.list ds)
  | tup {a : Addr} {vs : List V} {ds : List PyData} : SqT K H a vs → DzAll K H vs ds → Dz K H (.ref a) (.tuple ds)
inductive DzAll (K : PySem.W.Frag) (H : Hp) : List V → List PyData → Prop
  | nil : DzAll K H [] []
  | cons {v : V} {vs : List V} {d : PyData} {ds : List PyData} : Dz K H v d → DzAll K H vs ds → DzAll K H (v :: vs) (d :: ds)
end
section
variable {X : Cx} {pins : List (Addr × Obj)} {σ : St} {H : Hp} {s : Shared}
/-- what is told of such data -/
def ShZ (X : Cx) (s : Shared) (u : Value) (d : PyData) : Prop := ∃ as, Reads s.heap u d as ∧ ∃ bs, ReadAtMost s.heap d.depth bs ∧ ReprK X.prog X.w bs s.heap d.depth u d.shown
def ShZA (X : Cx) (s : Shared) (us : List Value) (ds : List PyData) : Prop := ∃ as, ReadsAll s.heap us ds as ∧ ∃ bs, ReadAtMost s.heap (PyData.depthAll ds) bs ∧ ReprAllK X.prog X.w bs s.heap (PyData.depthAll ds) us (PyData.shownAll ds)
theorem shz_of (I : Inv X pins σ H s) {d : PyData} {v : V} {u : Value} (h : Dp X.K H v d) (hd : d.hasDict = false) (r : RelV v u) (hs : d.showable = true) (hz : d.shown.length ≤ sizeLine) : ShZ X s u d := (Dq.of h hd).shows I r hs hz
theorem shz_dic (I : Inv X pins σ H s) {a : Addr} {u : Value} (h : H a = some (.dK [])) (r : RelV (.ref a) u) (hs : (PyData.dict []).showable = true) (hz : (PyData.dict []).shown.length ≤ sizeLine) : ShZ X s u (.dict []) := (Dq.dic h).shows I r hs hz
theorem shz_lst (I : Inv X pins σ H s) {a : Addr} {vs : List V} {ds : List PyData} (h : SqL X.K H a vs) (g : ∀ us, Vals vs us → ShZA X s us ds) (hz : (PyData.list ds).shown.length ≤ sizeLine) : ShZ X s (.ref a) (.list ds) := by
  obtain ⟨its, rv, ⟨o, n, ho, hc, _, hd⟩, _⟩ := I.list h
  obtain ⟨as, q, bs, m, k⟩ := g its rv
  have rd : Reads s.heap (.ref a) (.list ds) _ := .list ho hc hd (by simpa using q)
  have na : a ∉ bs := not_mem_of_deeper rd (by simp only [PyData.depth]; omega) m
  refine ⟨_, rd, a :: bs, ReadAtMost.cons rd (by simp only [PyData.depth]; omega) m, ?_⟩
  have e1 : (PyData.list ds).shown = listText (PyData.shownAll ds) := by simp only [PyData.shown]
  have e2 : (PyData.list ds).depth = PyData.depthAll ds + 1 := by simp only [PyData.depth]
  rw [e1, e2]
  cases its with
  | nil =>
    cases q
    simp only [PyData.shownAll, listText_nil]
    exact ReprK.listEmpty ho hc (by simpa using hd)
  | cons x l => exact ReprK.list ho hc hd na (by simpa using k.length_eq) fun i y e => k.item i y (by simpa using e)
theorem shz_tup (I : Inv X pins σ H s) {a : Addr} {vs : List V} {ds : List PyData} (h : SqT X.K H a vs) (g : ∀ us, Vals vs us → ShZA X s us ds) : ShZ X s (.ref a) (.tuple ds) := by
  obtain ⟨its, rv, ⟨o, ho, hc, n, hd⟩, _⟩ := I.tuple h
  obtain ⟨as, q, bs, m, k⟩ := g its rv
  have rd : Reads s.heap (.ref a) (.tuple ds) _ := .tuple ho hc hd (by simpa using q)
  have na : a ∉ bs := not_mem_of_deeper rd (by simp only [PyData.depth]; omega) m
  refine ⟨_, rd, a :: bs, ReadAtMost.cons rd (by simp only [PyData.depth]; omega) m, ?_⟩
  have e1 : (PyData.tuple ds).shown = tupleText (PyData.shownAll ds) := by simp only [PyData.shown]
  have e2 : (PyData.tuple ds).depth = PyData.depthAll ds + 1 := by simp only [PyData.depth]
  rw [e1, e2]
  exact ReprK.tuple ho hc hd na (by simpa using k)
mutual
theorem Dz.shows (I : Inv X pins σ H s) : ∀ (d : PyData) (v : V) (u : Value), Dz X.K H v d → RelV v u → d.showable = true → d.shown.length ≤ sizeLine → ShZ X s u d
  | .none, v, u, h, r, hs, hz => by
    cases h with
    | of h1 h2 => exact shz_of I h1 h2 r hs hz
  | .bool _, v, u, h, r, hs, hz => by
    cases h with
    | of h1 h2 => exact shz_of I h1 h2 r hs hz
  | .int _, v, u, h, r, hs, hz => by
    cases h with
    | of h1 h2 => exact shz_of I h1 h2 r hs hz
  | .str _, v, u, h, r, hs, hz => by
    cases h with
    | of h1 h2 => exact shz_of I h1 h2 r hs hz
  | .dict kv, v, u, h, r, hs, hz => by
    cases h with
    | of h1 h2 => exact shz_of I h1 h2 r hs hz
    | dic h1 => exact shz_dic I h1 r hs hz
  | .list ds, v, u, h, r, hs, hz => by
    cases h with
    | of h1 h2 => exact shz_of I h1 h2 r hs hz
    | lst h1 h2 =>
      have hz2 : (listText (PyData.shownAll ds)).length ≤ sizeLine := by simpa only [PyData.shown] using hz
      cases (show u = Value.ref _ from r)
      exact shz_lst I h1 (fun us rv => DzAll.shows I ds _ us h2 rv (by simpa [PyData.showable] using hs) fun t ht => Nat.le_trans (listText_mem_le ht) hz2) hz
  | .tuple ds, v, u, h, r, hs, hz => by
    cases h with
    | of h1 h2 => exact shz_of I h1 h2 r hs hz
    | tup h1 h2 =>
      have hz2 : (tupleText (PyData.shownAll ds)).length ≤ sizeLine := by simpa only [PyData.shown] using hz
      cases (show u = Value.ref _ from r)
      exact shz_tup I h1 fun us rv => DzAll.shows I ds _ us h2 rv (by simpa [PyData.showable] using hs) fun t ht => Nat.le_trans (tupleText_mem_le ht) hz2
theorem DzAll.shows (I : Inv X pins σ H s) : ∀ (ds : List PyData) (vs : List V) (us : List Value), DzAll X.K H vs ds → Vals vs us → PyData.showableAll ds = true → (∀ t ∈ PyData.shownAll ds, t.length ≤ sizeLine) → ShZA X s us ds
  | [], vs, us, h, r, hs, hz => by
    cases h
    cases r
    exact ⟨_, .nil, [], (fun _ q => nomatch q), by simp only [PyData.shownAll]; exact .nil⟩
  | d :: ds, vs, us, h, r, hs, hz => by
    cases h with
    | cons h1 h2 =>
      cases r with
      | cons r1 r2 =>
        have hb : d.showable = true ∧ PyData.showableAll ds = true := by simpa [PyData.showableAll] using hs
        have hm : ∀ t, t = d.shown ∨ t ∈ PyData.shownAll ds → t.length ≤ sizeLine := fun t ht => hz t (by simp only [PyData.shownAll]; exact List.mem_cons.mpr ht)
        obtain ⟨a1, q1, b1, m1, k1⟩ := Dz.shows I d _ _ h1 r1 hb.1 (hm _ (.inl rfl))
        obtain ⟨a2, q2, b2, m2, k2⟩ := DzAll.shows I ds _ _ h2 r2 hb.2 fun t ht => hm t (.inr ht)
        have l1 : d.depth ≤ PyData.depthAll (d :: ds) := by simp only [PyData.depthAll]; omega
        have l2 : PyData.depthAll ds ≤ PyData.depthAll (d :: ds) := by simp only [PyData.depthAll]; omega
        refine ⟨_, .cons q1 q2, b1 ++ b2, (m1.mono l1).append (m2.mono l2), ?_⟩
        rw [show PyData.shownAll (d :: ds) = d.shown :: PyData.shownAll ds by simp only [PyData.shownAll]]
        refine .cons ((k1.more fun b z => ?_).level_le l1) (k2.more_le (fun b z => ?_) l2)
        · exact List.mem_append_left _ z
        · exact List.mem_append_right _ z
end
end
/-- what repr asks of such data -/
def showsZ (d : PyData) : Prop := d.showable = true ∧ d.depth ≤ 20 ∧ d.shown.length ≤ sizeLine
def rReprZ (K : PySem.W.Frag) : List V → Hp → VK → Prop := fun xs H Q => ∃ a vs ds, xs = [.ref a] ∧ ((SqL K H a vs ∧ DzAll K H vs ds ∧ showsZ (.list ds) ∧ Q (.str (PyData.list ds).shown) H) ∨ (SqT K H a vs ∧ DzAll K H vs ds ∧ showsZ (.tuple ds) ∧ Q (.str (PyData.tuple ds).shown) H))
theorem call_reprZ {X : Cx} (hG : X.A.guards = some []) (hu : X.A.units + 64 < cLine) : CallR X (.builtin "repr") (rReprZ X.K) := by
  intro pins s σ H xs us Q I r h
  obtain ⟨a, vs, ds, rfl, ⟨hl, hd, ⟨h1, h3, h4⟩, q⟩ | ⟨hl, hd, ⟨h1, h3, h4⟩, q⟩⟩ := h
  · obtain ⟨u, rfl, ru⟩ := vals1 r
    cases (show u = Value.ref a from ru)
    obtain ⟨its, rv, ⟨o, n, ho, hc, _, ho3⟩, _⟩ := I.list hl
    have hz : (listText (PyData.shownAll ds)).length ≤ sizeLine := by simpa only [PyData.shown] using h4
    obtain ⟨as, q1, bs, hb, hk⟩ := DzAll.shows I ds vs its hd rv (by simpa [PyData.showable] using h1) fun t ht => Nat.le_trans (listText_mem_le ht) hz
    have rd : Reads s.heap (.ref a) (.list ds) _ := .list ho hc ho3 (by simpa using q1)
    have na : a ∉ bs := not_mem_of_deeper rd (by simp only [PyData.depth]; omega) hb
    simp only [PyData.depth] at h3
    cases its with
    | nil =>
      cases rv
      cases hd
      refine repr_of_reads' (h₀ := s.heap) rd h1 (fun z => absurd z (by simp [PyData.hasDict, PyData.hasDictAll])) hG (by simp only [PyData.depth]; omega) (fun _ _ z => z) (fun h' u tk hk => ?_) h4
      exact ⟨.str _, H, I.kept hk, ⟨u, rfl⟩, q⟩
    | cons x l =>
      refine call_repr_slot (by omega) (show s.TypeIs (.ref a) "list" from ⟨o, ho, hc⟩) F.slot_list_repr.toG ?_
      refine call_list_reprK ho hc ho3 na (by simpa using hk.length_eq) (fun i y e => hk.item i y (by simpa using e)) hG (fun b _ => Clear.nil b) (by show X.A.units + 1 + _ < cLine; omega) (fun _ _ z => z) (fun h' u tk hk' => ⟨_, _, rfl, ?_⟩) hz
      exact ⟨.str _, H, I.kept hk', ⟨u, by simp only [PyData.shown]⟩, q⟩
  · obtain ⟨u, rfl, ru⟩ := vals1 r
    cases (show u = Value.ref a from ru)
    obtain ⟨its, rv, ⟨o, ho, hc, n, ho3⟩, _⟩ := I.tuple hl
    have hz : (tupleText (PyData.shownAll ds)).length ≤ sizeLine := by simpa only [PyData.shown] using h4
    obtain ⟨as, q1, bs, hb, hk⟩ := DzAll.shows I ds vs its hd rv (by simpa [PyData.showable] using h1) fun t ht => Nat.le_trans (tupleText_mem_le ht) hz
    have rd : Reads s.heap (.ref a) (.tuple ds) _ := .tuple ho hc ho3 (by simpa using q1)
    have na : a ∉ bs := not_mem_of_deeper rd (by simp only [PyData.depth]; omega) hb
    simp only [PyData.depth] at h3
    refine call_repr_slot (by omega) (show s.TypeIs (.ref a) "tuple" from ⟨o, ho, hc⟩) F.slot_tuple_repr ?_
    refine call_tuple_reprK ho hc ho3 na (by simpa using hk) hG (fun b _ => Clear.nil b) (by show X.A.units + 1 + _ < cLine; omega) (fun _ _ z => z) (fun h' u tk hk' => ⟨_, _, rfl, ?_⟩) hz
    exact ⟨.str _, H, I.kept hk', ⟨u, by simp only [PyData.shown]⟩, q⟩
theorem g_reprzL {K : PySem.W.Frag} {H : Hp} {Q : VK} {a : Addr} {vs : List V} {ds : List PyData} (h : SqL K H a vs) (hd : DzAll K H vs ds) (s : showsZ (.list ds)) (q : Q (.str (PyData.list ds).shown) H) : rReprZ K [.ref a] H Q := ⟨a, vs, ds, rfl, .inl ⟨h, hd, s, q⟩⟩
theorem g_reprzT {K : PySem.W.Frag} {H : Hp} {Q : VK} {a : Addr} {vs : List V} {ds : List PyData} (h : SqT K H a vs) (hd : DzAll K H vs ds) (s : showsZ (.tuple ds)) (q : Q (.str (PyData.tuple ds).shown) H) : rReprZ K [.ref a] H Q := ⟨a, vs, ds, rfl, .inr ⟨h, hd, s, q⟩⟩
end L2
namespace L2
open PySem PySem.Spec PyProof.Rows
/-! data with small leaves, empty dicts among them -/
mutual
def SmZ : PyData → Prop
  | .none | .bool _ => True
  | .int i => i.natAbs < 10 ^ 39
  | .str x => PyData.strOk x = true
  | .list xs | .tuple xs => SmZA xs
  | .dict kv => kv = []
def SmZA : List PyData → Prop
  | [] => True
  | x :: xs => SmZ x ∧ SmZA xs
end
mutual
def wgz : PyData → Nat
  | .str x => x.length
  | .list xs | .tuple xs => wgzA xs
  | .dict _ => 0
  | .int _ => 140
  | .none | .bool _ => 0
def wgzA : List PyData → Nat
  | [] => 0
  | x :: xs => wgz x + 1 + wgzA xs
end
def SmZR (d : PyData) : Prop := d.showable = true ∧ d.leavesShort 40 = true ∧ d.weight ≤ wgz d
def SmZRA (ds : List PyData) : Prop := PyData.showableAll ds = true ∧ PyData.leavesShortAll 40 ds = true ∧ PyData.weightAll ds ≤ wgzA ds
theorem log_39 {i : Int} (h : i.natAbs < 10 ^ 39) : i.natAbs.log2 < 139 := by
  by_cases z : i.natAbs = 0
  · rw [z]; decide
  · exact (Nat.log2_lt z).mpr (Nat.lt_of_lt_of_le h (by decide))
mutual
theorem smz_r : ∀ d : PyData, SmZ d → SmZR d
  | .none, _ => ⟨by simp only [PyData.showable], by simp only [PyData.leavesShort], by simp only [PyData.weight, wgz]; exact Nat.le_refl _⟩
  | .bool _, _ => ⟨by simp only [PyData.showable], by simp only [PyData.leavesShort], by simp only [PyData.weight, wgz]; exact Nat.le_refl _⟩
  | .int i, h => by
    have h : i.natAbs < 10 ^ 39 := by simpa only [SmZ] using h
    have hl := log_39 h
    refine ⟨?_, ?_, ?_⟩
    · simp only [PyData.showable]
      exact decide_eq_true (by omega)
    · simp only [PyData.leavesShort]
      refine decide_eq_true ?_
      rw [show (PyData.int i).shown = PySem.Str.ofString (toString i) by simp only [PyData.shown], PySem.ofString_length]
      exact int_text_length_le10 (k := 39) (by decide) h
    · simp only [PyData.weight, wgz]
      split <;> omega
  | .str x, h => by
    have h : PyData.strOk x = true := by simpa only [SmZ] using h
    refine ⟨by simp only [PyData.showable], ?_, by simp only [PyData.weight, wgz]; exact Nat.le_refl _⟩
    simp only [PyData.leavesShort]
    rw [List.all_eq_true]
    intro c hc
    exact decide_eq_true (Nat.lt_trans (sok_iff.mp h c hc) (by decide))
  | .dict kv, h => by
    have h : kv = [] := by simpa only [SmZ] using h
    subst h
    exact ⟨by simp only [PyData.showable, PyData.showableKv], by simp only [PyData.leavesShort, PyData.leavesShortKv], by simp only [PyData.weight, PyData.weightKv, wgz]; exact Nat.le_refl _⟩
  | .list xs, h => by
    obtain ⟨h1, h2, h3⟩ := smz_ra xs (by simpa only [SmZ] using h)
    exact ⟨by simp only [PyData.showable]; exact h1, by simp only [PyData.leavesShort]; exact h2, by simp only [PyData.weight, wgz]; exact h3⟩
  | .tuple xs, h => by
    obtain ⟨h1, h2, h3⟩ := smz_ra xs (by simpa only [SmZ] using h)
    exact ⟨by simp only [PyData.showable]; exact h1, by simp only [PyData.leavesShort]; exact h2, by simp only [PyData.weight, wgz]; exact h3⟩
theorem smz_ra : ∀ ds : List PyData, SmZA ds → SmZRA ds
  | [], _ => ⟨by simp only [PyData.showableAll], by simp only [PyData.leavesShortAll], by simp only [PyData.weightAll, wgzA]; exact Nat.le_refl _⟩
  | x :: xs, h => by
    have h : SmZ x ∧ SmZA xs := by simpa only [SmZA] using h
    obtain ⟨a1, a2, a3⟩ := smz_r x h.1
    obtain ⟨b1, b2, b3⟩ := smz_ra xs h.2
    refine ⟨?_, ?_, ?_⟩
    · simp only [PyData.showableAll]; rw [a1, b1]; rfl
    · simp only [PyData.leavesShortAll]; rw [a2, b2]; rfl
    · simp only [PyData.weightAll, wgzA]; omega
end
theorem showsZ_of {d : PyData} (h : SmZ d) (hw : wgz d ≤ 300000) (hd : d.depth ≤ 20) : showsZ d := by
  obtain ⟨h1, h2, h3⟩ := smz_r d h
  have b := PyData.shown_le 40 (by decide) d h2
  have : d.shown.length ≤ 13000000 := by
    have : (40 + 2) * d.weight ≤ (40 + 2) * 300000 := Nat.mul_le_mul_left _ (Nat.le_trans h3 hw)
    omega
  exact ⟨h1, hd, Nat.le_trans this (by decide)⟩
theorem shows_of {d : PyData} (h : SmZ d) (hh : d.hasDict = false) (hw : wgz d ≤ 300000) (hd : d.depth ≤ 20) : shows d := by
  obtain ⟨h1, h2, h3⟩ := showsZ_of h hw hd
  exact ⟨h1, hh, h2, h3⟩
end L2
namespace LamD
open PySem PySem.Spec PyProof.Rows L2 LamX
/-! lambdas, with one int as a default or without, handed to a def whose except clauses keep what is raised -/
/-- what the defaults of a lambda are at run time -/
inductive Dfl (ds : List Expr) : List Int → Prop
  | no : ds = [] → Dfl ds []
  | one {n : Int} {j : Nat} {p : Pos} : ds = [.Constant (.int n) j p] → Dfl ds [n]
/-- the value at which the defaults stand -/
def DAt (X : Cx) (H : Hp) (h : Heap) (ns : List Int) (dV : Value) : Prop :=
  (ns = [] ∧ dV = .none) ∨ ∃ (n : Int) (tk : Tok) (t : Addr), ns = [n] ∧ dV = .ref t ∧ h.get? t = some (PySem.W.kdv_tup [.int n tk]) ∧ H t = none ∧ t ∉ frs X.stack
abbrev fnD (q : Str) (params : Arguments) (body : Expr) (sc : Scope) (cl : List (Str × Addr)) (dV doc pm cv ctv : Value) : FuncData := PySem.W.kdv_fn "<lambda>" q params (.expr body) sc cl dV doc pm cv ctv
section
variable {X : Cx} {pins : List (Addr × Obj)} {σ : L2.St} {H : Hp} {s : Shared}
theorem fresh_fr (I : Inv X pins σ H s) {f : Addr} (hf : s.heap.objs.size ≤ f) : f ∉ frs X.stack := fun z => by
  rcases List.mem_cons.mp (I.stkSub _ z) with e | e
  · have h1 := I.lt
    rw [← e] at h1
    exact absurd (Nat.lt_of_lt_of_le h1 hf) (Nat.lt_irrefl f)
  · exact I.nofs hf e
/-- behind the defaults: the function is made -/
theorem make_tail {T : List (Addr × Str)} {c P : Addr} {params : Arguments} {body : Expr} {scope : Scope} {pos : Pos} {dV : Value} {E Q : Value → Shared → Prop} (I : Inv X pins σ H s) (TB : TabB X.base X.mg c P) (hcode : X.env.code = .ref c)
    (hm : (P, X.env.qual ++ "<lambda>") ∈ T) (hu : ∀ p ∈ T, p.1 = P → p.2 = X.env.qual ++ "<lambda>") (hT : Tabs T H) (hfree : ∀ y ∈ scope.names, y.2 = .free → ∃ c, X.env.cells.lookup y.1 = some c)
    (h : ∀ (f c' : Addr) (doc pm ctv : Value) (H1 : Hp) (s' : Shared), Inv X pins σ H1 s' → ExtN H H1 → Tabs T H1 → (∀ b o, s.heap.get? b = some o → H b = none → s'.heap.get? b = some o ∧ H1 b = none) →
      s'.heap.get? f = some (PySem.W.kdv_obj "<lambda>" (X.env.qual ++ "<lambda>") params (.expr body) scope (cloFrom X.env.cells scope.names []) dV doc pm c' ctv) → H1 f = none → f ∉ frs X.stack → H1 c' = some (CodeO c' (X.env.qual ++ "<lambda>")) → Q (.ref f) s') :
    wpAny (model X.prog X.w) X.A (makeTail "<lambda>" (X.env.qual ++ "<lambda>") params (.expr body) scope X.env dV .none none pos pos.line) Q E s := by
  obtain ⟨ps, hP, tri, among⟩ := hT _ hm
  have bP : s.heap.BuiltinsAt X.mg P := TB.bm.keeps I.bk
  have eP : s.heap.get? P = some { cls := .none, data := .fields ps } := I.hok P _ hP
  cases hc : codeAmong pos ps.toList with
  | none =>
    refine PySem.W.kdv_makeTail (mg := X.mg) (c := c) (P := P) (ps := ps) (closure_ok hfree) I.ok.glob (I.mod.glob.keeps I.bk) hcode (TB.code.keeps I.bk) eP tri hc TB.gP bP fun c' ctv doc h' tk hx hge hlt hrec htb => ?_
    obtain ⟨c2, oc, vs, t, e2, hoc, hd, hv⟩ := hrec
    cases e2
    have big : s.heap.objs.size ≤ h'.objs.size := by omega
    have nC : H c' = none := I.hok.fresh hge
    let g : Heap := h'.push (PySem.W.kdv_obj "<lambda>" (X.env.qual ++ "<lambda>") params (.expr body) scope (cloFrom X.env.cells scope.names []) dV doc ((X.mg "__name__").getD .none) c' ctv)
    have up : ∀ {b : Addr} {o : Obj}, h'.get? b = some o → g.get? b = some o := fun e => Heap.get?_push_of_some _ e
    let H1 : Hp := upd (upd H P (.tbl (ps ++ #[rawInt pos.line, rawInt pos.col, .ref c']))) c' (CodeO c' (X.env.qual ++ "<lambda>"))
    have I1 : Inv X pins σ H1 { s with heap := g, toks := tk } := inv_table (more := #[rawInt pos.line, rawInt pos.col, .ref c']) I hP (fun b o hb e => up (hx b o hb e)) (up htb) hge ⟨oc, vs, t, up hoc, hd, hv⟩
    have PC : P ≠ c' := ne_of_none hP nC
    have xN : ExtN H H1 := fun b o e n => by
      show upd _ _ _ b = _
      have bP : b ≠ P := fun z => by
        rw [z, hP] at e
        exact n ps (Option.some.inj e).symm
      rw [upd_ne (ne_of_none e nC), upd_ne bP]
      exact e
    refine h h'.objs.size c' doc ((X.mg "__name__").getD .none) ctv H1 _ I1 xN (fun p hp => ?_) (fun b o e n => ?_) (Heap.get?_push_size _ rfl) ?_ (fresh_fr I big) upd_same
    · by_cases hb : p.1 = P
      · rw [hu p hp hb, hb]
        refine ⟨ps ++ #[rawInt pos.line, rawInt pos.col, .ref c'], by show upd _ _ _ P = _; rw [upd_ne PC, upd_same], ?_, fun p' cv hcv => ?_⟩
        · rw [Array.toList_append]
          exact PySem.TriplesOk_snoc _ _ _ _ tri
        · rw [Array.toList_append] at hcv
          rcases among_app _ tri hcv with z | z
          · obtain ⟨c0, e1, e2⟩ := among p' cv z
            exact ⟨c0, e1, xN _ _ e2 codeO_ne⟩
          · exact ⟨c', z, upd_same⟩
      · obtain ⟨qs, a1, a2, a3⟩ := hT p hp
        refine ⟨qs, by show upd _ _ _ p.1 = _; rw [upd_ne (ne_of_none a1 nC), upd_ne hb]; exact a1, a2, fun p' cv hcv => ?_⟩
        obtain ⟨c0, e1, e2⟩ := a3 p' cv hcv
        exact ⟨c0, e1, xN _ _ e2 codeO_ne⟩
    · have bP : b ≠ P := fun z => by rw [z, hP] at n; cases n
      have bc : b ≠ c' := fun z => absurd (Nat.lt_of_lt_of_le (Heap.lt_size e) hge) (by rw [z]; exact Nat.lt_irrefl c')
      exact ⟨up (hx b o bP e), by show upd _ _ _ b = _; rw [upd_ne bc, upd_ne bP]; exact n⟩
    · have n1 : h'.objs.size ≠ c' := fun z => Nat.lt_irrefl c' (z ▸ hlt)
      have n2 : h'.objs.size ≠ P := fun z => Nat.lt_irrefl P (Nat.lt_of_lt_of_le (Heap.lt_size eP) (z ▸ big))
      show upd _ _ _ _ = _
      rw [upd_ne n1, upd_ne n2]
      exact I.hok.fresh big
  | some cv =>
    obtain ⟨c', rfl, hco⟩ := among pos cv hc
    refine PySem.W.kdv_makeTailHit (mg := X.mg) (c := c) (P := P) (ps := ps) (closure_ok hfree) I.ok.glob (I.mod.glob.keeps I.bk) hcode (TB.code.keeps I.bk) eP tri hc bP fun ctv doc h' tk hx hsz => ?_
    have I1 : Inv X pins σ H { s with heap := h'.push (PySem.W.kdv_obj "<lambda>" (X.env.qual ++ "<lambda>") params (.expr body) scope (cloFrom X.env.cells scope.names []) dV doc ((X.mg "__name__").getD .none) c' ctv), toks := tk } := I.kept fun b o e => Heap.get?_push_of_some _ (hx b o e)
    exact h h'.objs.size c' doc ((X.mg "__name__").getD .none) ctv H _ I1 (ExtN.refl H) hT (fun b o e n => ⟨Heap.get?_push_of_some _ (hx b o e), n⟩) (Heap.get?_push_size _ rfl) (I.hok.fresh hsz) (fresh_fr I hsz) hco
/-- the lambda is made -/
theorem make_lam {T : List (Addr × Str)} {c P : Addr} {params : Arguments} {body : Expr} {scope : Scope} {pos : Pos} {ns : List Int} {E Q : Value → Shared → Prop} (I : Inv X pins σ H s) (TB : TabB X.base X.mg c P) (hcode : X.env.code = .ref c)
    (hm : (P, X.env.qual ++ "<lambda>") ∈ T) (hu : ∀ p ∈ T, p.1 = P → p.2 = X.env.qual ++ "<lambda>") (hT : Tabs T H) (hd : Dfl params.defaults ns) (hk0 : params.kw_defaults = []) (hfree : ∀ y ∈ scope.names, y.2 = .free → ∃ c, X.env.cells.lookup y.1 = some c)
    (h : ∀ (f c' : Addr) (dV doc pm ctv : Value) (H1 : Hp) (s' : Shared), Inv X pins σ H1 s' → ExtN H H1 → Tabs T H1 → DAt X H1 s'.heap ns dV →
      s'.heap.get? f = some (PySem.W.kdv_obj "<lambda>" (X.env.qual ++ "<lambda>") params (.expr body) scope (cloFrom X.env.cells scope.names []) dV doc pm c' ctv) → H1 f = none → f ∉ frs X.stack → H1 c' = some (CodeO c' (X.env.qual ++ "<lambda>")) → Q (.ref f) s') :
    wpAny (model X.prog X.w) X.A (eval (.Lambda params body scope pos) X.env) Q E s := by
  cases hd with
  | no e0 =>
    obtain ⟨p1, p2, p3, p4, p5, p6, p7⟩ := params
    obtain rfl : p7 = [] := e0
    obtain rfl : p5 = [] := hk0
    refine PySem.W.kla_eval rfl ?_
    rw [makeFunction_eq]
    simp only [List.zip_nil_right, List.filterMap_nil, List.isEmpty_nil, if_true, pure_bind]
    exact make_tail I TB hcode hm hu hT hfree fun f c' doc pm ctv H1 s' I1 x1 T1 _ a1 a2 a3 a4 => h f c' .none doc pm ctv H1 s' I1 x1 T1 (.inl ⟨rfl, rfl⟩) a1 a2 a3 a4
  | @one n j p e0 =>
    obtain ⟨p1, p2, p3, p4, p5, p6, p7⟩ := params
    obtain rfl : p7 = [.Constant (.int n) j p] := e0
    obtain rfl : p5 = [] := hk0
    refine PySem.W.kdv_lam rfl rfl (PySem.W.kdv_all1 (wpAny_Constant_int (PySem.W.kdv_all0 ?_)))
    rw [makeFunction_eq]
    simp only [List.zip_nil_right, List.filterMap_nil, List.isEmpty_nil, if_true, pure_bind, List.isEmpty_cons, Bool.false_eq_true, if_false]
    refine wpAny_bind (wpAny_newTextTuple ?_)
    have I2 : Inv X pins σ H { s with heap := s.heap.push (PySem.W.kdv_tup [.int n s.toks]), toks := s.toks + 1 } := I.kept fun b o e => Heap.get?_push_of_some _ e
    refine make_tail I2 TB hcode hm hu hT hfree fun f c' doc pm ctv H1 s' I1 x1 T1 k a1 a2 a3 a4 => ?_
    obtain ⟨k1, k2⟩ := k s.heap.objs.size _ (Heap.get?_push_size s.heap rfl) (I.hok.fresh (Nat.le_refl _))
    exact h f c' _ doc pm ctv H1 s' I1 x1 T1 (.inr ⟨n, s.toks, _, rfl, rfl, k1, k2, fresh_fr I (Nat.le_refl _)⟩) a1 a2 a3 a4
end
/-! ### the lambda's names -/
/-- captured names, globals, and at most a parameter that the def around has no name for -/
structure LamP (N : List Str) (sc scope : Scope) : Prop where
  kind : scope.kind = .function
  co : scope.isCoroutine = false
  gen : scope.isGenerator = false
  own : ∀ y ∈ scope.names, y.2 ≠ .cell ∧ (y.2 = .local → y.1 ∉ N)
  free : ∀ y ∈ scope.names, y.2 = .free → sc.names.lookup y.1 = some .cell ∨ sc.names.lookup y.1 = some .free
def lamPB (N : List Str) (sc scope : Scope) : Bool :=
  decide (scope.kind = .function) && !scope.isCoroutine && !scope.isGenerator && scope.names.all fun y => !decide (y.2 = .cell) && (!decide (y.2 = .local) || !decide (y.1 ∈ N)) && (!decide (y.2 = .free) || decide (sc.names.lookup y.1 = some .cell) || decide (sc.names.lookup y.1 = some .free))
theorem lamP_by {N : List Str} {sc scope : Scope} (h : lamPB N sc scope = true) : LamP N sc scope := by
  unfold lamPB at h
  simp only [Bool.and_eq_true, Bool.or_eq_true, Bool.not_eq_true', decide_eq_true_eq, decide_eq_false_iff_not, List.all_eq_true] at h
  obtain ⟨⟨⟨h1, h2⟩, h3⟩, h4⟩ := h
  refine ⟨h1, h2, h3, fun y hy => ⟨(h4 y hy).1.1, fun e => (h4 y hy).1.2.resolve_left fun z => z e⟩, fun y hy e => ?_⟩
  rcases (h4 y hy).2 with (z | z) | z
  · exact absurd e z
  · exact .inl z
  · exact .inr z
theorem LamP.has {X : Cx} {scope : Scope} (L : LamP X.N X.env.scope scope) (ok : X.Ok) : ∀ y ∈ scope.names, y.2 = .free → ∃ c, X.env.cells.lookup y.1 = some c := fun y hy e => ok.has _ (L.free y hy e)
section
variable {X : Cx} {pins : List (Addr × Obj)} {σ : L2.St} {H HZ : Hp} {s s1 : Shared}
theorem lam_go {A : Around} {outer : List Env} {E : XK} {scope : Scope} {f c' : Addr} {h1 : Heap} {tk : Nat} {bs : List (Str × Value)} (I : Inv X pins σ H s) (L : LamP X.N X.env.scope scope) (e0 : Env0 X.prog X.w X.K X.mg X.base A outer s1 HZ) (hd : A.handled = none)
    (un : Un (frs X.stack) [] H HZ s.heap s1.heap) (hns : h1.Ns s1.heap.objs.size fun y => bs.reverse.lookup y) (kp : ∀ b o, s1.heap.get? b = some o → h1.get? b = some o) :
    Inv (lamCx X A outer s1 HZ E scope f c') [] σ HZ { s1 with heap := h1, toks := tk } := by
  have hfree := L.has I.ok
  have down : ∀ {y c}, (cloFrom X.env.cells scope.names []).lookup y = some c → X.env.cells.lookup y = some c := fun {y c} e => by
    rcases cloFrom_mem (PySem.mem_of_lookup e) with z | ⟨z1, z2⟩
    · cases z
    · obtain ⟨c1, hc⟩ := hfree _ z1 rfl
      have hc : X.env.cells.lookup y = some c1 := hc
      obtain rfl : c = c1 := by rw [z2, hc] <;> rfl
      exact hc
  have has : ∀ {y}, scope.names.lookup y = some .free → ∃ c, (cloFrom X.env.cells scope.names []).lookup y = some c := fun {y} hl => mem_lookup (cloFrom_has (cells := X.env.cells) (acc := []) (PySem.mem_of_lookup hl))
  have cellK : ∀ {c : Addr} {v : Option Value}, H c = none → s.heap.IsCell c v → h1.IsCell c v := fun {c v} n ⟨o, ho, z⟩ => by
    obtain ⟨sl, q⟩ := un.any ho n (fun z => nomatch z)
    exact ⟨_, kp _ _ q, z⟩
  refine ⟨⟨e0.mod, L.kind, rfl, rfl, Nat.le_refl _, fun y z c e1 e2 => I.ok.inj y z c (down e1) (down e2), fun y hy => ?_, fun y c z _ => (nomatch (show false = true from z)), fun _ => hd, Around.frames_deeper e0.frames, .inr ⟨rfl, rfl⟩, fun b z => (nomatch (show b ∈ ([] : List Addr) from z)), e0.bs, e0.bsz,
      fun b _ _ z => (nomatch (show b ∈ ([] : List Addr) from z)), fun b z => (nomatch (show b ∈ ([] : List Addr) from z)), e0.funs, e0.frf⟩,
    rfl, e0.bare, Un.kept kp, ⟨_, hns, fun i y v e1 e2 e3 => ?_⟩, fun y c e => ?_, e0.hok.fresh (Nat.le_refl _), fun y c e => ?_, fun q hq => (nomatch (show q ∈ ([] : List (Addr × Obj)) from hq)), e0.hok.kept kp, I.len⟩
  · have hy : scope.names.lookup y = some .cell ∨ scope.names.lookup y = some .free := hy
    rcases hy with hy | hy
    · exact absurd rfl (L.own _ (PySem.mem_of_lookup hy)).1
    · exact has hy
  · have e3 : Vis scope y := e3
    rcases e3 with k | k | k
    · exact absurd (List.mem_of_getElem? e1) ((L.own _ (PySem.mem_of_lookup k)).2 rfl)
    · exact absurd rfl (L.own _ (PySem.mem_of_lookup k)).1
    · obtain ⟨m, hn, hl⟩ := I.loc
      obtain ⟨v', r, q⟩ := hl i y v e1 e2 (Or.inr (L.free _ (PySem.mem_of_lookup k) rfl))
      obtain ⟨c2, h2⟩ := has k
      refine ⟨v', r, .inr ⟨.inr k, c2, h2, ?_⟩⟩
      have c1 := down h2
      rcases q with ⟨k', _⟩ | ⟨_, c3, e', z⟩
      · have k' : X.env.scope.names.lookup y = some .local := k'
        rcases L.free _ (PySem.mem_of_lookup k) rfl with k2 | k2 <;> rw [show X.env.scope.names.lookup y = _ from k2] at k' <;> cases k'
      · rw [c1] at e'
        cases e'
        exact cellK (I.freeC y _ c1) z
  · obtain ⟨v', z⟩ := I.cell y c (down e)
    exact ⟨v', cellK (I.freeC y c (down e)) z⟩
  · obtain ⟨v, o, ho, z⟩ := I.cell y c (down e)
    exact un.free c o ho (I.freeC y c (down e)) (fun z => nomatch z)
end
/-! ### a(), in the def that got the lambda -/
/-- how a call without arguments binds the lambda's parameters -/
def BindL (params : Arguments) (body : Expr) (scope : Scope) (ns : List Int) : Prop := ∀ (q : Str) (cl : List (Str × Addr)) (dV doc pm cv ctv : Value) (s : Shared),
  ((ns = [] ∧ dV = .none) ∨ ∃ (n : Int) (tk : Tok) (t : Addr), ns = [n] ∧ dV = .ref t ∧ s.heap.get? t = some (PySem.W.kdv_tup [.int n tk])) →
    ∃ bs : List (Str × Value), BindsTo s (fnD q params body scope cl dV doc pm cv ctv) ⟨[], []⟩ bs ∧ ∀ y ∈ bs, scope.names.lookup y.1 = some .local
theorem bindL_no {params : Arguments} {body : Expr} {scope : Scope} (h : ∀ (q : Str) (cl : List (Str × Addr)) (doc pm cv ctv : Value), bindArgs (fnD q params body scope cl .none doc pm cv ctv) ⟨[], []⟩ = pure []) : BindL params body scope [] := fun q cl dV doc pm cv ctv s hd => by
  rcases hd with ⟨_, rfl⟩ | ⟨n, tk, t, e, _⟩
  · exact ⟨[], .of_eq (h q cl doc pm cv ctv), fun y z => nomatch z⟩
  · cases e
theorem bindL_one {params : Arguments} {body : Expr} {scope : Scope} {n : Int} {x : Str} {k : Str → List (Str × Addr) → Value → Value → Value → Value → Addr → Option (Array Value) → Sem (List (Str × Value))}
    (h1 : ∀ (q : Str) (cl : List (Str × Addr)) (doc pm cv ctv : Value) (t : Addr), bindArgs (fnD q params body scope cl (.ref t) doc pm cv ctv) ⟨[], []⟩ = seqItems? (.ref t) >>= k q cl doc pm cv ctv t)
    (h2 : ∀ (q : Str) (cl : List (Str × Addr)) (doc pm cv ctv : Value) (t : Addr) (v : Value), k q cl doc pm cv ctv t (some #[v]) = pure [(x, v)]) (hx : scope.names.lookup x = some .local) : BindL params body scope [n] := fun q cl dV doc pm cv ctv s hd => by
  rcases hd with ⟨e, _⟩ | ⟨m, tk, t, _, rfl, ht⟩
  · cases e
  · refine ⟨[(x, .int m tk)], BindsTo.of_defaults rfl ht rfl (h1 q cl doc pm cv ctv t) (h2 q cl doc pm cv ctv t _), fun y z => ?_⟩
    rw [List.mem_singleton.mp z]
    exact hx
section
variable {X : Cx} {pins : List (Addr × Obj)} {σ : L2.St} {H : Hp} {s : Shared}
theorem pe_actS {CXg : CXT} {Eg : XK} {Ng : List Str} {qg : Str} {sg : Scope} {g f c' : Addr} {cdg pm ctv dV doc : Value} {params : Arguments} {body : Expr} {scope : Scope} {k i : Nat} {a : Str} {pn : List (Addr × Obj)} {xe : Value → Shared → Prop} {W : WX} {t : XK → TE} {p1 p2 : Pos} {ns : List Int}
    (I : Inv X pins σ H s) (L : LamP X.N X.env.scope scope) (hf : s.heap.get? f = some (PySem.W.kdv_obj "<lambda>" (X.env.qual ++ "<lambda>") params (.expr body) scope (cloFrom X.env.cells scope.names []) dV doc pm c' ctv)) (hD : DAt X H s.heap ns dV) (hfn : H f = none) (hfr : f ∉ frs X.stack)
    (hB : BindL params body scope ns) (tk : Takes ((cxOf CXg X.prog X.w X.K X.mg X.base Ng qg sg g cdg X.A X.stack s H Eg).tr pn xe) W) (hr : Room (k + 1) (X.A.deeper (envOfC qg sg s.heap.objs.size g cdg)))
    (hbody : ∀ (A : Around) (outer : List Env) (s : Shared) (H : Hp) (E : XK), Room k (A.deeper (lamEnv X scope s.heap.objs.size f c')) → PE (lamCx X A outer s H E scope f c') body (t E))
    (hN : Ng[i]? = some a) (hv : Vis sg a) (hd : (a == ("__debug__" : Str)) = false := by decide) (hcd : (a == ("__classdict__" : Str)) = false := by decide) :
    PE ((cxOf CXg X.prog X.w X.K X.mg X.base Ng qg sg g cdg X.A X.stack s H Eg).tr pn xe) (.Call (.Name a p1) [] [] p2)
      (fun σZ HZ Q => σZ[i]? = some (some (.ref f)) ∧ HZ c' = some (CodeO c' (X.env.qual ++ "<lambda>")) ∧ t (WE W σZ) σ HZ Q) := by
  refine ⟨fun qs sZ σZ HZ Q IZ hh => ?_⟩
  obtain ⟨at0, atc, tt⟩ := hh
  refine wpAny_Call_Name_kw (thn ((pe_var (pos := p1) (i := i) hN hv hd hcd).run qs sZ σZ HZ (fun v G => v = .ref f ∧ G = HZ) IZ ⟨.ref f, at0, rfl, rfl⟩) fun u s1 ⟨v, G, J, rv, ev, eG⟩ => ?_)
  subst ev
  rw [eG] at J
  obtain rfl : u = Value.ref f := rv
  have no : ∀ {b : Addr}, b ∉ ([] : List Addr) := fun z => nomatch z
  have keep : ∀ {b : Addr} {o : Obj}, s.heap.get? b = some o → H b = none → b ∉ frs X.stack → s1.heap.get? b = some o := fun e n m => J.base.keep _ _ e n m no
  have of1 := keep hf hfn hfr
  have hD1 : (ns = [] ∧ dV = .none) ∨ ∃ (n : Int) (tk : Tok) (t : Addr), ns = [n] ∧ dV = .ref t ∧ s1.heap.get? t = some (PySem.W.kdv_tup [.int n tk]) := by
    rcases hD with z | ⟨n, tk, t, e1, e2, e3, e4, e5⟩
    · exact .inl z
    · exact .inr ⟨n, tk, t, e1, e2, keep e3 e4 e5⟩
  obtain ⟨bs, hbs, hloc⟩ := hB (X.env.qual ++ "<lambda>") (cloFrom X.env.cells scope.names []) dV doc pm (.ref c') ctv s1 hD1
  refine PySem.W.callWith_F0 ⟨_, _, _, _, of1⟩ ?_
  have un : Un (frs X.stack) [] H HZ s.heap s1.heap := J.base
  obtain ⟨⟨oc, vs, tc, hoc, hdc, hvc⟩, _, _⟩ := J.hok c' _ atc
  have run : codeAny (model X.prog X.w) (X.A.deeper (envOfC qg sg s.heap.objs.size g cdg)) (.call (.ref f) ⟨[], []⟩) (CR (L2.CX X.prog X.w) (envOfC qg sg s.heap.objs.size g cdg :: X.stack) X.prog X.w HZ s1 Q (WE W σZ)) s1 := by
    refine PySem.W.kla_callFunE hr.depth of1 rfl L.co L.gen rfl ⟨c', oc, vs, tc, rfl, hoc, hdc, hvc⟩ (hbs _ _ _ _ ?_)
    refine wpAny_newFunctionEnv (fun y hy => (L.own y hy).1) hloc (fun h1 hns hsb => ⟨J.nolimit.fresh _ hsb, ?_⟩) L.kind
    show codeAny _ _ (.expr body (lamEnv X scope s1.heap.objs.size f c')) _ _
    have kp : ∀ b o, s1.heap.get? b = some o → h1.get? b = some o := fun b o e => hsb.extBut b o (Nat.ne_of_lt (Heap.lt_size e)) (Heap.get?_push_of_some _ e)
    have J2 : Inv (lamCx X (X.A.deeper (envOfC qg sg s.heap.objs.size g cdg)) (envOfC qg sg s.heap.objs.size g cdg :: X.stack) s1 HZ (WE W σZ) scope f c') [] σ HZ { s1 with heap := h1, toks := s1.toks + bs.length } := lam_go I L J.env0 hr.hd un hns kp
    refine PySem.W.kla_codeExpr (wpAny_mono ((hbody _ _ s1 HZ (WE W σZ) (hr.deeper _)).run [] _ _ HZ Q J2 tt) (fun v s' z => ?_) fun e s' z => z)
    obtain ⟨y, G2, J3, ry, q⟩ := z
    exact ⟨y, G2, J3.os, J3.bare, J3.base, J3.hok, ry, q⟩
  have out := passAt tk σZ
  refine wpAny_call (codeAny_mono run fun r s' z => ?_)
  match r, z with
  | .error e, z => exact out qs HZ s1 e s' J z
  | .ok (.ret u), z => exact J.after z
  | .ok .next, z => exact z.elim
  | .ok .brk, z => exact z.elim
  | .ok .cont, z => exact z.elim
end
/-- the def that calls what it got: TT is what it makes of the lambda's reading -/
def GivesS (X : Cx) (Ng : List Str) (x : Str) (sg : Scope) (g : Addr) (cdg : Value) (bg : List Stmt) (a : Str) (q : Str) (TT : (XK → Hp → VK → Prop) → Hp → VK → Prop) : Prop :=
  ∀ (f c' : Addr) (s : Shared) (H : Hp) (Q : VK) (tl : XK → Hp → VK → Prop),
    (∀ (W : WX) (pn : List (Addr × Obj)) (xe : Value → Shared → Prop) (p1 p2 : Pos), Takes ((cxOf CX0 X.prog X.w X.K X.mg X.base Ng x sg g cdg X.A X.stack s H E0).tr pn xe) W →
      PE ((cxOf CX0 X.prog X.w X.K X.mg X.base Ng x sg g cdg X.A X.stack s H E0).tr pn xe) (.Call (.Name a p1) [] [] p2) (fun σZ HZ Q => σZ[0]? = some (some (.ref f)) ∧ HZ c' = some (CodeO c' q) ∧ tl (WE W σZ) HZ Q)) →
    H c' = some (CodeO c' q) → TT tl H Q → Room 1 (X.A.deeper (envOfC x sg s.heap.objs.size g cdg)) →
    ∃ t, PSs (cxOf CX0 X.prog X.w X.K X.mg X.base Ng x sg g cdg X.A X.stack s H E0).nox bg t ∧ t { nx := fun _ H' => Q .non H', rt := Q } (L2.start Ng [.ref f]) H
section
variable {X : Cx}
/-- x(lambda: body), x(lambda y=n: body) -/
theorem pe_lamcallS {T : List (Addr × Str)} {TT : (XK → Hp → VK → Prop) → Hp → VK → Prop} {x a : Str} {g c P : Addr} {k : Nat} {pg : Arguments} {bg : List Stmt} {sg : Scope} {dV kV doc pm cdv ct oc : Value} {an od : Option Addr} {osl : Array (Option Value)} {Ng : List Str}
    {params : Arguments} {body : Expr} {scope : Scope} {t : XK → TE} {p lpos pos : Pos} {ns : List Int} (hg : Gl X x) (hm : X.mg x = some (.ref g)) (hk : PySem.W.keepIn X.K (.ref g) = true)
    (lk : X.K.lookup g = some ⟨oc, od, .func (PySem.W.fnOf x x pg bg sg dV kV doc pm an cdv ct), osl⟩) (hcg : PySem.W.codeIn X.K cdv x = true) (hb : L2.Binds X.K (PySem.W.fnOf x x pg bg sg dV kV doc pm an cdv ct) [a] []) (Sg : FnScope Ng [a] sg) (hNg : Ng[0]? = some a) (hva : Vis sg a)
    (hG : GivesS X Ng x sg g cdv bg a (X.env.qual ++ "<lambda>") TT)
    (TB : TabB X.base X.mg c P) (hcode : X.env.code = .ref c) (hmT : (P, X.env.qual ++ "<lambda>") ∈ T) (hu : ∀ p ∈ T, p.1 = P → p.2 = X.env.qual ++ "<lambda>") (hr : Room (k + 2) X.A) (L : LamP X.N X.env.scope scope) (hd : Dfl params.defaults ns) (hk0 : params.kw_defaults = [])
    (hB : BindL params body scope ns)
    (hbody : ∀ (A : Around) (outer : List Env) (s : Shared) (H : Hp) (E : XK) (f c' : Addr), Room k (A.deeper (lamEnv X scope s.heap.objs.size f c')) → PE (lamCx X A outer s H E scope f c') body (t E))
    (hdb : (x == ("__debug__" : Str)) = false := by decide) (had : (a == ("__debug__" : Str)) = false := by decide) (hcd : (a == ("__classdict__" : Str)) = false := by decide) :
    PE X (.Call (.Name x p) [.Lambda params body scope lpos] [] pos) (tLam T TT t) := by
  refine ⟨fun qs s σ H Q I hh => ?_⟩
  obtain ⟨tabs, go⟩ := hh
  refine wpAny_Call_Name_kw (ld_glob I hg hm ?_ hdb)
  refine PySem.W.callWith_K (h₀ := X.base) I.ok.mod.kin hk ?_ (by rfl) (by rfl)
  show wpAny _ _ (spliced ((false, eval (.Lambda params body scope lpos) X.env) :: backTo pos (starEach [] X.env))) _ _ s
  refine Calls.spliced_cons (make_lam I TB hcode hmT hu tabs hd hk0 (L.has I.ok) fun f c' dV' doc' pm' ctv H1 s' I1 xN T1 hD hf hfn hfr hco => ?_)
  refine Calls.spliced_nil ⟨I1.kIn, ?_⟩
  have run : codeAny (model X.prog X.w) X.A (.call (.ref g) ⟨[.ref f], []⟩) (CR CX0 X.stack X.prog X.w H1 s' Q E0) s' := by
    refine run_ofS (N := Ng) (ps := [a]) (us := [.ref f]) (vs := [.ref f]) lk hcg Sg hr I1.env0 (hb s' [.ref f] I1.kIn rfl) (.cons rfl .nil) rfl fun hr2 => ?_
    obtain ⟨t', ht', hq'⟩ := hG f c' s' H1 Q (fun E H' Q' => t E σ H' Q') (fun W pn xe p1 p2 tk => pe_actS (i := 0) I1 L hf hD hfn hfr hB tk hr2 (fun A outer s H E hr3 => hbody A outer s H E f c' hr3) hNg hva had hcd) hco (go H1 xN T1) (hr2.mono (by omega))
    exact ⟨t', ht'.nox, hq'⟩
  refine wpAny_call (codeAny_mono run fun r s2 z => ?_)
  match r, z with
  | .error e, z => exact (show False from z).elim
  | .ok (.ret u), z => exact I1.after z
  | .ok .next, z => exact z.elim
  | .ok .brk, z => exact z.elim
  | .ok .cont, z => exact z.elim
end
end LamD
namespace LamD
open PySem PySem.Spec PyProof.Rows L2 LamX
/-- the name of a lambda of the def n -/
abbrev quaL (n : Str) : Str := (n ++ (".<locals>." : Str)) ++ ("<lambda>" : Str)
/-- the def that calls what it got, by what stands around it -/
def GivesF (P : Program) (w : World) (K : PySem.W.Frag) (mg : Str → Option Value) (base : Heap) (A : Around) (stk : List Env) (Ng : List Str) (x : Str) (sg : Scope) (g : Addr) (cdg : Value) (bg : List Stmt) (a : Str) (q : Str) (TT : (XK → Hp → VK → Prop) → Hp → VK → Prop) : Prop :=
  ∀ (f c' : Addr) (s : Shared) (H : Hp) (Q : VK) (tl : XK → Hp → VK → Prop),
    (∀ (W : WX) (pn : List (Addr × Obj)) (xe : Value → Shared → Prop) (p1 p2 : Pos), Takes ((cxOf CX0 P w K mg base Ng x sg g cdg A stk s H E0).tr pn xe) W →
      PE ((cxOf CX0 P w K mg base Ng x sg g cdg A stk s H E0).tr pn xe) (.Call (.Name a p1) [] [] p2) (fun σZ HZ Q => σZ[0]? = some (some (.ref f)) ∧ HZ c' = some (CodeO c' q) ∧ tl (WE W σZ) HZ Q)) →
    H c' = some (CodeO c' q) → TT tl H Q → Room 1 (A.deeper (envOfC x sg s.heap.objs.size g cdg)) →
    ∃ t, PSs (cxOf CX0 P w K mg base Ng x sg g cdg A stk s H E0).nox bg t ∧ t { nx := fun _ H' => Q .non H', rt := Q } (L2.start Ng [.ref f]) H
section
variable {X : Cx}
/-- tell(lambda: body), tell a def of the text -/
theorem pe_lamF {T : List (Addr × Str)} {TT : (XK → Hp → VK → Prop) → Hp → VK → Prop} {x a : Str} {st : Stmt} {g c P : Addr} {fd : FuncData} {k : Nat} {Ng : List Str} {params : Arguments} {body : Expr} {scope : Scope} {t : XK → TE} {p lpos pos : Pos} {ns : List Int}
    (F : L2.Fun X.K x x st g fd) (hg : Gl X x) (hm : X.mg x = some (.ref g)) (hb : L2.Binds X.K fd [a] []) (Sg : FnScope Ng [a] (defScope st)) (hNg : Ng[0]? = some a) (hva : Vis (defScope st) a)
    (hG : ∀ cdv : Value, GivesF X.prog X.w X.K X.mg X.base X.A X.stack Ng x (defScope st) g cdv (defBody st) a (X.env.qual ++ "<lambda>") TT)
    (TB : TabB X.base X.mg c P) (hcode : X.env.code = .ref c) (hmT : (P, X.env.qual ++ "<lambda>") ∈ T) (hu : ∀ p ∈ T, p.1 = P → p.2 = X.env.qual ++ "<lambda>") (hr : Room (k + 2) X.A) (L : LamP X.N X.env.scope scope) (hd : Dfl params.defaults ns) (hk0 : params.kw_defaults = [])
    (hB : BindL params body scope ns)
    (hbody : ∀ (A : Around) (outer : List Env) (s : Shared) (H : Hp) (E : XK) (f c' : Addr), Room k (A.deeper (lamEnv X scope s.heap.objs.size f c')) → PE (lamCx X A outer s H E scope f c') body (t E))
    (hdb : (x == ("__debug__" : Str)) = false := by decide) (had : (a == ("__debug__" : Str)) = false := by decide) (hcd : (a == ("__classdict__" : Str)) = false := by decide) :
    PE X (.Call (.Name x p) [.Lambda params body scope lpos] [] pos) (tLam T TT t) := by
  obtain ⟨oc, od, kV, doc, pm, an, cdv, ct, osl, rfl, lk, hcg⟩ := F.ex
  exact pe_lamcallS (Ng := Ng) (a := a) hg hm F.kp lk hcg hb Sg hNg hva (hG cdv) TB hcode hmT hu hr L hd hk0 hB hbody hdb had hcd
end
theorem g_lam {T : List (Addr × Str)} {TT : (XK → Hp → VK → Prop) → Hp → VK → Prop} {t : XK → TE} {σ : L2.St} {H : Hp} {Q : VK} (h0 : Tabs T H) (h : ∀ H1, ExtN H H1 → Tabs T H1 → TT (fun E H' Q' => t E σ H' Q') H1 Q) : tLam T TT t σ H Q := ⟨h0, h⟩
/-! ### heaps in which tables grow -/
theorem _root_.LamX.ExtN.ap {H H' : Hp} {p : Addr} {o : HO} (x : ExtN H H') (e : H p = some o) (n : ∀ ps, o ≠ .tbl ps := by intro ps z; cases z) : H' p = some o := x _ _ e n
theorem _root_.LamX.ExtN.same {H H' : Hp} (s : Same H H') : ExtN H H' := fun b o e _ => s b o e
theorem _root_.LamX.ExtN.draw {H H' : Hp} {d l : Addr} {m : Nat} (x : ExtN H H') (D : Dr.Draw H d l m) : Dr.Draw H' d l m := by
  obtain ⟨ns, a, lf, u, h1, h2, h3⟩ := D
  exact ⟨ns, a, lf, u, x _ _ h1 (by intro ps z; cases z), x _ _ h2 (by intro ps z; cases z), h3⟩
theorem _root_.LamX.Tabs.same {T : List (Addr × Str)} {H H' : Hp} (t : Tabs T H) (s : Same H H') : Tabs T H' := t.ext fun b o e => s b o e
theorem _root_.LamX.Tabs.kp {T : List (Addr × Str)} {H H' : Hp} {d l : Addr} {m : Nat} (t : Tabs T H) (D : Dr.Draw H d l m) (k : Dr.Kp d H H') : Tabs T H' := by
  intro p hp
  obtain ⟨ps, h1, h2, h3⟩ := t p hp
  obtain ⟨ns, a, lf, u, hd, _⟩ := D
  have nd : ∀ {b : Addr} {o : HO}, H b = some o → (∀ kv, o ≠ .dK kv) → b ≠ d := fun e n z => by
    rw [z, hd] at e
    exact n _ (Option.some.inj e).symm
  refine ⟨ps, k _ _ (nd h1 (by intro kv z; cases z)) h1, h2, fun pos cv hc => ?_⟩
  obtain ⟨c, e1, e2⟩ := h3 pos cv hc
  exact ⟨c, e1, k _ _ (nd e2 (by intro kv z; unfold CodeO at z; cases z)) e2⟩
/-- all but the draws' dict and the tables is kept -/
def Kx (d : Addr) (H H' : Hp) : Prop := ∀ p o, p ≠ d → H p = some o → (∀ ps, o ≠ .tbl ps) → H' p = some o
theorem Kx.refl {d : Addr} {H : Hp} : Kx d H H := fun _ _ _ h _ => h
theorem Kx.trans {d : Addr} {H H1 H2 : Hp} (a : Kx d H H1) (b : Kx d H1 H2) : Kx d H H2 := fun p o n h t => b p o n (a p o n h t) t
theorem Kx.kp {d : Addr} {H H1 : Hp} (k : Dr.Kp d H H1) : Kx d H H1 := fun p o n h _ => k p o n h
theorem Kx.same {d : Addr} {H H1 : Hp} (k : Same H H1) : Kx d H H1 := fun p o _ h _ => k p o h
theorem Kx.extN {d : Addr} {H H1 : Hp} (k : ExtN H H1) : Kx d H H1 := fun p o _ h t => k p o h t
theorem Kx.ap {d : Addr} {H H' : Hp} {p : Addr} {o : HO} (x : Kx d H H') (n : p ≠ d) (e : H p = some o) (t : ∀ ps, o ≠ .tbl ps := by intro ps z; cases z) : H' p = some o := x _ _ n e t
/-! ### a def whose code object is known -/
structure FunC (K : PySem.W.Frag) (x qual : Str) (st : Stmt) (f : Addr) (fd : FuncData) (c : Addr) : Prop where
  fn : ∃ (oc : Value) (od : Option Addr) (kV doc pm : Value) (an : Option Addr) (ct : Value) (osl : Array (Option Value)),
    fd = PySem.W.fnOf x qual (defArgs st) (defBody st) (defScope st) .none kV doc pm an (.ref c) ct ∧ K.lookup f = some ⟨oc, od, .func fd, osl⟩ ∧ PySem.W.codeIn K (.ref c) qual = true
section
variable {P : Program} {w : World} {K : PySem.W.Frag} {mg : Str → Option Value} {base : Heap} {k : Nat} {f c : Addr} {fd : FuncData} {ps N : List Str} {sp : Sp} {x qual : Str} {st : Stmt}
theorem FunC.okG (F : FunC K x qual st f fd c) (S : FnScope N ps (defScope st)) (len : ∀ vs H Q E, sp vs H Q E → vs.length = ps.length)
    (hb : ∀ (A : Around), A.guards = some [] → ∀ (out : List Env) (s : Shared) (H : Hp) (vs : List V) (Q : VK) (E : XK), Room k (A.deeper (envOfC qual (defScope st) s.heap.objs.size f (.ref c))) → sp vs H Q E →
      ∃ t, PSs (cxOf CX0 P w K mg base N qual (defScope st) f (.ref c) A out s H E).nox (defBody st) t ∧ t { nx := fun _ H' => Q .non H', rt := Q } (start N vs) H) : FnG P w K mg base CX0 (k + 1) f fd ps sp := by
  obtain ⟨oc, od, kV, doc, pm, an, ct, osl, rfl, lk, hcd⟩ := F.fn
  refine fnG_of lk hcd S len fun A hG out s H vs Q E hr hsp => ?_
  obtain ⟨t, h, q⟩ := hb A hG out s H vs Q E hr hsp
  exact ⟨t, PSs.nox h, q⟩
end
theorem funC_mk {K : PySem.W.Frag} {x qual : Str} {st : Stmt} {f c : Addr} {oc : Value} {od an : Option Addr} {osl : Array (Option Value)} {kV doc pm ct : Value} (l : K.lookup f = some ⟨oc, od, .func (PySem.W.fnOf x qual (defArgs st) (defBody st) (defScope st) .none kV doc pm an (.ref c) ct), osl⟩) (hc : PySem.W.codeIn K (.ref c) qual = true) :
    FunC K x qual st f (PySem.W.fnOf x qual (defArgs st) (defBody st) (defScope st) .none kV doc pm an (.ref c) ct) c := ⟨⟨oc, od, kV, doc, pm, an, ct, osl, rfl, l, hc⟩⟩
/-! ### clauses of two and four classes -/
section
variable {X : Cx}
theorem tells_two {x1 x2 : Str} {c1 c2 : Value} {p1 p2 tp : Pos} {kk : Nat} (n1 : Names X x1 c1) (n2 : Names X x2 c2) : Tells X (.Tuple [.Name x1 p1, .Name x2 p2] kk tp) (fun cls => PySem.W.exmAny X.K cls [c1, c2]) := fun a pn σ H s cls b Q E I L hb q => by
  refine wpAny_Tuple (wpAny_items_cons (ld_named I n1 (wpAny_items_cons (ld_named I n2 (wpAny_items_nil ⟨by size_fits, ?_⟩)))))
  have k : ∀ c o, s.heap.get? c = some o → (s.heap.push { cls := .type "tuple", data := .seq [c1, c2].toArray }).get? c = some o := fun _ _ z => Heap.get?_push_of_some _ z
  exact (PySem.W.exm_tup2 (I.kIn.keeps k) (L.keeps k) (Heap.get?_push_size s.heap rfl) hb).here (q _ k)
theorem tells_four {x1 x2 x3 x4 : Str} {c1 c2 c3 c4 : Value} {p1 p2 p3 p4 tp : Pos} {kk : Nat} (n1 : Names X x1 c1) (n2 : Names X x2 c2) (n3 : Names X x3 c3) (n4 : Names X x4 c4) : Tells X (.Tuple [.Name x1 p1, .Name x2 p2, .Name x3 p3, .Name x4 p4] kk tp) (fun cls => PySem.W.exmAny X.K cls [c1, c2, c3, c4]) := fun a pn σ H s cls b Q E I L hb q => by
  refine wpAny_Tuple (wpAny_items_cons (ld_named I n1 (wpAny_items_cons (ld_named I n2 (wpAny_items_cons (ld_named I n3 (wpAny_items_cons (ld_named I n4 (wpAny_items_nil ⟨by size_fits, ?_⟩)))))))))
  have k : ∀ c o, s.heap.get? c = some o → (s.heap.push { cls := .type "tuple", data := .seq [c1, c2, c3, c4].toArray }).get? c = some o := fun _ _ z => Heap.get?_push_of_some _ z
  exact (PySem.W.exm_tup4 (I.kIn.keeps k) (L.keeps k) (Heap.get?_push_size s.heap rfl) hb).here (q _ k)
end
theorem any2 {K : PySem.W.Frag} {c c1 c2 : Value} {b1 b2 : Bool} (h1 : PySem.W.exmOne K c c1 = some b1) (h2 : PySem.W.exmOne K c c2 = some b2) : PySem.W.exmAny K c [c1, c2] = some (b1 || (b2 || false)) := by
  unfold PySem.W.exmAny PySem.W.exmAny PySem.W.exmAny
  rw [h1, h2]
theorem any4 {K : PySem.W.Frag} {c c1 c2 c3 c4 : Value} {b1 b2 b3 b4 : Bool} (h1 : PySem.W.exmOne K c c1 = some b1) (h2 : PySem.W.exmOne K c c2 = some b2) (h3 : PySem.W.exmOne K c c3 = some b3) (h4 : PySem.W.exmOne K c c4 = some b4) : PySem.W.exmAny K c [c1, c2, c3, c4] = some (b1 || (b2 || (b3 || (b4 || false)))) := by
  unfold PySem.W.exmAny PySem.W.exmAny PySem.W.exmAny PySem.W.exmAny PySem.W.exmAny
  rw [h1, h2, h3, h4]
end LamD
namespace L2
open PySem
/-! ### the objects that a law hands in, with their data -/
inductive Sc : V → PyData → Prop
  | non : Sc .non .none
  | bl (b : Bool) : Sc (.bl b) (.bool b)
  | int (i : Int) (h : i.natAbs < 10 ^ 39) : Sc (.int i) (.int i)
  | str (z : Str) (h : z.length ≤ 1000) (k : PyData.strOk z = true) : Sc (.str z) (.str z)
inductive ScA : List V → List PyData → Prop
  | nil : ScA [] []
  | cons {v : V} {d : PyData} {vs : List V} {ds : List PyData} : Sc v d → ScA vs ds → ScA (v :: vs) (d :: ds)
inductive Od (H : Hp) : V → PyData → Prop
  | sc {v : V} {d : PyData} : Sc v d → Od H v d
  | lst {a : Addr} {xs : List V} {ds : List PyData} : H a = some (.lst xs) → ScA xs ds → xs.length ≤ 100 → Od H (.ref a) (.list ds)
  | tup {a : Addr} {xs : List V} {ds : List PyData} : H a = some (.tup xs) → ScA xs ds → xs.length ≤ 100 → Od H (.ref a) (.tuple ds)
  | dic {a : Addr} : H a = some (.dK []) → Od H (.ref a) (.dict [])
section
variable {K : PySem.W.Frag} {H H' : Hp} {x : V} {d : PyData}
theorem Sc.dp (h : Sc x d) : Dp K H x d ∧ d.hasDict = false := by
  cases h with
  | non => exact ⟨.non, by simp only [PyData.hasDict]⟩
  | bl b => exact ⟨.bl b, by simp only [PyData.hasDict]⟩
  | int i h => exact ⟨.int i, by simp only [PyData.hasDict]⟩
  | str z h k => exact ⟨.str z, by simp only [PyData.hasDict]⟩
theorem ScA.dz {xs : List V} {ds : List PyData} (h : ScA xs ds) : DzAll K H xs ds := by
  induction h with
  | nil => exact .nil
  | cons a _ ih => exact .cons (.of a.dp.1 (a.dp (K := K) (H := H)).2) ih
theorem Od.dz (h : Od H x d) : Dz K H x d := by
  cases h with
  | sc h => exact .of h.dp.1 (h.dp (K := K) (H := H)).2
  | lst h k _ => exact .lst (SqL.of h) k.dz
  | tup h k _ => exact .tup (SqT.of h) k.dz
  | dic h => exact .dic h
theorem Od.any (h : Od H x d) : AnyO H x := by
  cases h with
  | sc h =>
    cases h with
    | non => exact .non
    | bl b => exact .bl b
    | int i _ => exact .int i
    | str z h k => exact .str z (Nat.le_trans h (by decide)) k
  | lst h _ _ => exact .lst h
  | tup h _ _ => exact .tup h
  | dic h => exact .dic h
theorem Sc.sm (h : Sc x d) : SmZ d ∧ wgz d ≤ 1000 ∧ d.depth = 0 := by
  cases h with
  | non => exact ⟨by simp only [SmZ], by simp only [wgz]; decide, by simp only [PyData.depth]⟩
  | bl b => exact ⟨by simp only [SmZ], by simp only [wgz]; decide, by simp only [PyData.depth]⟩
  | int i h => exact ⟨by simp only [SmZ]; exact h, by simp only [wgz]; decide, by simp only [PyData.depth]⟩
  | str z h k => exact ⟨by simp only [SmZ]; exact k, by simp only [wgz]; exact h, by simp only [PyData.depth]⟩
theorem ScA.sm {xs : List V} {ds : List PyData} (h : ScA xs ds) : SmZA ds ∧ wgzA ds ≤ 1001 * xs.length ∧ PyData.depthAll ds = 0 := by
  induction h with
  | nil => exact ⟨by simp only [SmZA], by simp only [wgzA]; exact Nat.zero_le _, by simp only [PyData.depthAll]⟩
  | cons a _ ih =>
    obtain ⟨a1, a2, a3⟩ := a.sm
    obtain ⟨b1, b2, b3⟩ := ih
    refine ⟨by simp only [SmZA]; exact ⟨a1, b1⟩, by simp only [wgzA, List.length_cons]; omega, by simp only [PyData.depthAll]; omega⟩
theorem Od.sm (h : Od H x d) : SmZ d ∧ wgz d ≤ 100100 ∧ d.depth ≤ 1 := by
  cases h with
  | sc h =>
    obtain ⟨a1, a2, a3⟩ := h.sm
    exact ⟨a1, by omega, by omega⟩
  | lst _ k l =>
    obtain ⟨a1, a2, a3⟩ := k.sm
    exact ⟨by simp only [SmZ]; exact a1, by simp only [wgz]; omega, by simp only [PyData.depth]; omega⟩
  | tup _ k l =>
    obtain ⟨a1, a2, a3⟩ := k.sm
    exact ⟨by simp only [SmZ]; exact a1, by simp only [wgz]; omega, by simp only [PyData.depth]; omega⟩
  | dic _ => exact ⟨by simp only [SmZ], by simp only [wgz]; exact Nat.zero_le _, by simp only [PyData.depth, PyData.depthKv]; decide⟩
theorem Od.to (h : Od H x d) (k : ∀ a o, x = .ref a → H a = some o → (∀ ps, o ≠ .tbl ps) → H' a = some o) : Od H' x d := by
  cases h with
  | sc h => exact .sc h
  | lst h c l => exact .lst (k _ _ rfl h (by intro ps z; cases z)) c l
  | tup h c l => exact .tup (k _ _ rfl h (by intro ps z; cases z)) c l
  | dic h => exact .dic (k _ _ rfl h (by intro ps z; cases z))
theorem Od.same (h : Od H x d) (s : Same H H') : Od H' x d := h.to fun a o _ e _ => s a o e
theorem Od.ext (h : Od H x d) (s : LamX.ExtN H H') : Od H' x d := h.to fun a o _ e n => s a o e n
theorem Od.kp {q : Addr} (h : Od H x d) (s : Dr.Kp q H H') (n : x ≠ .ref q) : Od H' x d := h.to fun a o e h _ => s a o (fun z => n (by rw [e, z])) h
theorem Od.kx {q : Addr} (h : Od H x d) (s : LamD.Kx q H H') (n : x ≠ .ref q) : Od H' x d := h.to fun a o e h t => s a o (fun z => n (by rw [e, z])) h t
end
/-! ### is it a tuple -/
def isTupH (H : Hp) : V → Bool
  | .ref a => match H a with
    | some (.tup _) => true
    | _ => false
  | _ => false
theorem g_istup {K : PySem.W.Frag} {H : Hp} {Q : VK} {x : V} (a : AnyO H x) (q : Q (.bl (isTupH H x)) H) : rIsi K [x, .ty "tuple"] H Q := by
  cases a with
  | non => exact g_isi (.ty _) (.base .non) (kit_ty (r := false) (by decide +kernel)) q
  | bl b => exact g_isi (.ty _) (.base (.bl b)) (kit_ty (r := false) (by decide +kernel)) q
  | int i => exact g_isi (.ty _) (.base (.int i)) (kit_ty (r := false) (by decide +kernel)) q
  | str z h k => exact g_isi (.ty _) (.base (.str z)) (kit_ty (r := false) (by decide +kernel)) q
  | lst h =>
    refine g_isi (.ty _) (.base (.lst h)) (kit_ty (r := false) (by decide +kernel)) ?_
    unfold isTupH at q
    simpa only [h] using q
  | tup h =>
    refine g_isi (.ty _) (.base (.tup h)) (kit_ty (r := true) (by decide +kernel)) ?_
    unfold isTupH at q
    simpa only [h] using q
  | dic h =>
    refine g_isi (.ty _) (.base (.dK h)) (kit_ty (r := false) (by decide +kernel)) ?_
    unfold isTupH at q
    simpa only [h] using q
end L2
namespace Pw
open PySem L2
/-! ### promises of the writing of payloads, where something may be wrong -/
def isCod : V → Bool
  | .str z => decide (z ∈ (["h", "s"] : List Str))
  | _ => false
def spCod : Sp := fun vs H Q _ => ∃ x, vs = [x] ∧ AnyO H x ∧ Q (.bl (isCod x)) H
/-- the first wrong item -/
def badAt (xs : List V) (i : Nat) : Prop := (∀ j v, j < i → xs[j]? = some v → Mk.btw v 0 255 = true) ∧ ∃ v, xs[i]? = some v ∧ Mk.btw v 0 255 = false
/-- what is raised: class, field, value -/
def Rs (H : Hp) (E : XK) (C : Addr) (f : Str) (v : V) : Prop := ∀ H1 d, Same H H1 → H1 d = none → E (.ref C) (some d) (upd H1 d (.xd [(f, v)]))
def spCheckX (C : Addr) : Sp := fun vs H Q E =>
  (∃ x, vs = [x] ∧ AnyO H x ∧ isTupH H x = false ∧ Rs H E C "place" .non) ∨
  (∃ (p : Addr) (xs : List V) (i : Nat), vs = [.ref p] ∧ H p = some (.tup xs) ∧ (∀ v ∈ xs, AnyO H v) ∧ badAt xs i ∧ Rs H E C "place" (.int i)) ∨ Cd.spCheckO vs H Q E
def spPayX (C1 C2 : Addr) : Sp := fun vs H Q E =>
  (∃ c o, vs = [c, o] ∧ AnyO H c ∧ isCod c = false ∧ Rs H E C1 "given" c) ∨
  (∃ h x, vs = [.str (Cd.cname h), x] ∧ AnyO H x ∧ isTupH H x = false ∧ Rs H E C2 "place" .non) ∨
  (∃ h p xs i, vs = [.str (Cd.cname h), .ref p] ∧ H p = some (.tup xs) ∧ (∀ v ∈ xs, AnyO H v) ∧ badAt xs i ∧ Rs H E C2 "place" (.int (i : Nat))) ∨ Cd.spPay vs H Q E
/-- what the def that calls the deed makes of it: a list of what it gives, or a word with the field of what it raises -/
def TT2 (C1 C2 : Addr) (f1 f2 w1 w2 : Str) : (XK → Hp → VK → Prop) → Hp → VK → Prop := fun tl H Q =>
  ∀ H0, Same H H0 → ∀ (E' : XK) (Q' : VK),
    (∀ dd v H', H' dd = some (.xd [(f1, v)]) → (∀ r H'', Same H' H'' → H'' r = some (.tup [.str w1, v]) → Q (.ref r) H'') → E' (.ref C1) (some dd) H') →
    (∀ dd v H', H' dd = some (.xd [(f2, v)]) → (∀ r H'', Same H' H'' → H'' r = some (.tup [.str w2, v]) → Q (.ref r) H'') → E' (.ref C2) (some dd) H') →
    (∀ v H', (∀ r H'', Same H' H'' → H'' r = some (.lst [v]) → Q (.ref r) H'') → Q' v H') → tl E' H0 Q'
theorem any_xs {H H' : Hp} {xs : List V} (h : ∀ v ∈ xs, AnyO H v) (s : Same H H') : ∀ v ∈ xs, AnyO H' v := fun v hv => (h v hv).same s
end Pw
namespace L2
open PySem
theorem g_callS {sp : Sp} {E : St → XK} {tr : TA} {σ : St} {H : Hp} {Q : VK} (h : tr σ H fun vs H1 => sp vs H1 Q (E σ)) : tCallS sp E tr σ H Q := h
end L2
namespace Pw
/-! the law's own writing of payloads -/
def W8 : List Nat := [128, 64, 32, 16, 8, 4, 2, 1]
def W6 : List Nat := [32, 16, 8, 4, 2, 1]
def bits (o : Nat) (ws : List Nat) : List Nat := ws.map fun w => o / w % 2
def bitsOf (os : List Nat) : List Nat := (os.map fun o => bits o W8).flatten
def padN (n : Nat) : Nat := (6 - n % 6) % 6
def padded (os : List Nat) : List Nat := bitsOf os ++ List.replicate (padN (bitsOf os).length) 0
def v6 (l : List Nat) : Nat := ((List.range 6).map fun j => W6.getD j 0 * l.getD j 0).sum
def sixes : List Nat → List Nat
  | a :: b :: c :: d :: e :: f :: r => v6 [a, b, c, d, e, f] :: sixes r
  | _ => []
theorem bits_len (o : Nat) : (bits o W8).length = 8 := rfl
theorem bitsOf_len (os : List Nat) : (bitsOf os).length = 8 * os.length := by
  induction os with
  | nil => rfl
  | cons o r ih => rw [show bitsOf (o :: r) = bits o W8 ++ bitsOf r from rfl, List.length_append, ih, bits_len, List.length_cons]; omega
theorem h1 : ∀ a, a < 256 → v6 [a / 128 % 2, a / 64 % 2, a / 32 % 2, a / 16 % 2, a / 8 % 2, a / 4 % 2] = a / 4 := by decide +kernel
theorem h2a : ∀ a, a < 256 → 32 * (a / 2 % 2) + 16 * (a / 1 % 2) = (a % 4) * 16 := by decide +kernel
theorem h2b : ∀ a, a < 256 → 8 * (a / 128 % 2) + 4 * (a / 64 % 2) + 2 * (a / 32 % 2) + 1 * (a / 16 % 2) = a / 16 := by decide +kernel
theorem h3a : ∀ a, a < 256 → 32 * (a / 8 % 2) + 16 * (a / 4 % 2) + 8 * (a / 2 % 2) + 4 * (a / 1 % 2) = (a % 16) * 4 := by decide +kernel
theorem h3b : ∀ a, a < 256 → 2 * (a / 128 % 2) + 1 * (a / 64 % 2) = a / 64 := by decide +kernel
theorem h4 : ∀ a, a < 256 → v6 [a / 32 % 2, a / 16 % 2, a / 8 % 2, a / 4 % 2, a / 2 % 2, a / 1 % 2] = a % 64 := by decide +kernel
theorem v6_is (a b c d e f : Nat) : v6 [a, b, c, d, e, f] = 32 * a + 16 * b + 8 * c + 4 * d + 2 * e + 1 * f := by
  simp [v6, W6, List.range, List.range.loop, List.getD]
  omega
theorem bits8 (o : Nat) : bits o W8 = [o / 128 % 2, o / 64 % 2, o / 32 % 2, o / 16 % 2, o / 8 % 2, o / 4 % 2, o / 2 % 2, o / 1 % 2] := rfl
open Cd in
theorem three_ok {a b c : Nat} (ha : a < 256) (hb : b < 256) (hc : c < 256) (r : List Nat) : sixes (bits a W8 ++ (bits b W8 ++ (bits c W8 ++ r))) = a / 4 :: ((a % 4) * 16 + b / 16) :: ((b % 16) * 4 + c / 64) :: c % 64 :: sixes r := by
  rw [bits8, bits8, bits8]
  show v6 [_, _, _, _, _, _] :: v6 [_, _, _, _, _, _] :: v6 [_, _, _, _, _, _] :: v6 [_, _, _, _, _, _] :: sixes r = _
  rw [h1 a ha, h4 c hc, v6_is, v6_is]
  have e1 := h2a a ha
  have e2 := h2b b hb
  have e3 := h3a b hb
  have e4 := h3b c hc
  rw [show 32 * (a / 2 % 2) + 16 * (a / 1 % 2) + 8 * (b / 128 % 2) + 4 * (b / 64 % 2) + 2 * (b / 32 % 2) + 1 * (b / 16 % 2) = (a % 4) * 16 + b / 16 by omega,
    show 32 * (b / 8 % 2) + 16 * (b / 4 % 2) + 8 * (b / 2 % 2) + 4 * (b / 1 % 2) + 2 * (c / 128 % 2) + 1 * (c / 64 % 2) = (b % 16) * 4 + c / 64 by omega]
end Pw
namespace Pw
open Cd
theorem dig3 {a b c : Nat} (ha : a < 256) (hb : b < 256) (hc : c < 256) : sDigits (num3 [a, b, c]) = [a / 4, (a % 4) * 16 + b / 16, (b % 16) * 4 + c / 64, c % 64] := by
  show [(a * 65536 + b * 256 + c) / 262144, (a * 65536 + b * 256 + c) / 4096 % 64, (a * 65536 + b * 256 + c) / 64 % 64, (a * 65536 + b * 256 + c) % 64] = _
  rw [show (a * 65536 + b * 256 + c) / 262144 = a / 4 by omega, show (a * 65536 + b * 256 + c) / 4096 % 64 = (a % 4) * 16 + b / 16 by omega, show (a * 65536 + b * 256 + c) / 64 % 64 = (b % 16) * 4 + c / 64 by omega, show (a * 65536 + b * 256 + c) % 64 = c % 64 by omega]
theorem padded3 (a b c : Nat) (r : List Nat) : padded (a :: b :: c :: r) = bits a W8 ++ (bits b W8 ++ (bits c W8 ++ padded r)) := by
  have e : padN (bitsOf (a :: b :: c :: r)).length = padN (bitsOf r).length := by
    rw [bitsOf_len, bitsOf_len]
    unfold padN
    simp only [List.length_cons]
    omega
  unfold padded
  rw [e, show bitsOf (a :: b :: c :: r) = bits a W8 ++ (bits b W8 ++ (bits c W8 ++ bitsOf r)) from rfl]
  simp only [List.append_assoc]
theorem sixes_pad : ∀ os : List Nat, (∀ o ∈ os, o < 256) → (sixes (padded os)).map al = payS os
  | [], _ => rfl
  | [a], h => by
    have ha := h a (by simp)
    have e : sixes (padded [a]) = [a / 4, (a % 4) * 16] := by
      rw [show padded [a] = [a / 128 % 2, a / 64 % 2, a / 32 % 2, a / 16 % 2, a / 8 % 2, a / 4 % 2, a / 2 % 2, a / 1 % 2, 0, 0, 0, 0] by unfold padded; rw [bitsOf_len, List.length_singleton]; rfl, sixes, sixes, sixes, h1 a ha, v6_is]
      all_goals have := h2a a ha
      · rw [show 32 * (a / 2 % 2) + 16 * (a / 1 % 2) + 8 * 0 + 4 * 0 + 2 * 0 + 1 * 0 = (a % 4) * 16 by omega]
      · intro _ _ _ _ _ _ _ z; cases z
    rw [e]
    have d := dig3 ha (show 0 < 256 by decide) (show 0 < 256 by decide)
    show _ = ((sDigits (num3 [a, 0, 0])).take 2).map al
    rw [d]
    show _ = [al (a / 4), al ((a % 4) * 16 + 0 / 16)]
    simp
  | [a, b], h => by
    have ha := h a (by simp)
    have hb := h b (by simp)
    have e : sixes (padded [a, b]) = [a / 4, (a % 4) * 16 + b / 16, (b % 16) * 4] := by
      rw [show padded [a, b] = [a / 128 % 2, a / 64 % 2, a / 32 % 2, a / 16 % 2, a / 8 % 2, a / 4 % 2, a / 2 % 2, a / 1 % 2, b / 128 % 2, b / 64 % 2, b / 32 % 2, b / 16 % 2, b / 8 % 2, b / 4 % 2, b / 2 % 2, b / 1 % 2, 0, 0] by unfold padded; rw [bitsOf_len, show [a, b].length = 2 from rfl]; rfl, sixes, sixes, sixes, sixes, h1 a ha, v6_is, v6_is]
      all_goals have e1 := h2a a ha
      all_goals have e2 := h2b b hb
      all_goals have e3 := h3a b hb
      · rw [show 32 * (a / 2 % 2) + 16 * (a / 1 % 2) + 8 * (b / 128 % 2) + 4 * (b / 64 % 2) + 2 * (b / 32 % 2) + 1 * (b / 16 % 2) = (a % 4) * 16 + b / 16 by omega,
        show 32 * (b / 8 % 2) + 16 * (b / 4 % 2) + 8 * (b / 2 % 2) + 4 * (b / 1 % 2) + 2 * 0 + 1 * 0 = (b % 16) * 4 by omega]
      · intro _ _ _ _ _ _ _ z; cases z
    rw [e]
    have d := dig3 ha hb (show 0 < 256 by decide)
    show _ = ((sDigits (num3 [a, b, 0])).take 3).map al
    rw [d]
    show _ = [al (a / 4), al ((a % 4) * 16 + b / 16), al ((b % 16) * 4 + 0 / 64)]
    simp
  | a :: b :: c :: r, h => by
    have ha := h a (by simp)
    have hb := h b (by simp)
    have hc := h c (by simp)
    rw [padded3, three_ok ha hb hc, List.map_cons, List.map_cons, List.map_cons, List.map_cons, sixes_pad r fun o ho => h o (by simp [ho])]
    show _ = ((sDigits (num3 [a, b, c])).take 4).map al ++ payS r
    rw [dig3 ha hb hc]
    rfl
theorem sixes_rng : ∀ (n : Nat) (l : List Nat), l.length = 6 * n → sixes l = (List.range n).map fun k => v6 ((l.drop (6 * k)).take 6)
  | 0, l, h => by
    obtain rfl : l = [] := List.length_eq_zero_iff.mp (by omega)
    rfl
  | n + 1, l, h => by
    match l, h with
    | a :: b :: c :: d :: e :: f :: r, h =>
      have hr : r.length = 6 * n := by simp only [List.length_cons] at h; omega
      rw [List.range_succ_eq_map, List.map_cons, List.map_map, show sixes (a :: b :: c :: d :: e :: f :: r) = v6 [a, b, c, d, e, f] :: sixes r from rfl, sixes_rng n r hr]
      have : (List.range n).map (fun k => v6 ((r.drop (6 * k)).take 6)) = (List.range n).map ((fun k => v6 (((a :: b :: c :: d :: e :: f :: r).drop (6 * k)).take 6)) ∘ Nat.succ) := List.map_congr_left fun k _ => by
        show v6 _ = v6 _
        rw [show 6 * Nat.succ k = 6 * k + 6 by omega]
        rfl
      rw [this]
      rfl
    | [], h => simp at h
    | [_], h => simp only [List.length_cons, List.length_nil] at h; omega
    | [_, _], h => simp only [List.length_cons, List.length_nil] at h; omega
    | [_, _, _], h => simp only [List.length_cons, List.length_nil] at h; omega
    | [_, _, _, _], h => simp only [List.length_cons, List.length_nil] at h; omega
    | [_, _, _, _, _], h => simp only [List.length_cons, List.length_nil] at h; omega
theorem padded_len (os : List Nat) : (padded os).length = 6 * ((8 * os.length + 5) / 6) := by
  unfold padded
  rw [List.length_append, List.length_replicate, bitsOf_len]
  unfold padN
  omega
theorem bit_lt {o w : Nat} : o / w % 2 < 2 := Nat.mod_lt _ (by decide)
theorem padded_bits (os : List Nat) : ∀ b ∈ padded os, b < 2 := by
  intro b hb
  rcases List.mem_append.mp hb with h | h
  · obtain ⟨l, hl, hm⟩ := List.mem_flatten.mp h
    obtain ⟨o, _, rfl⟩ := List.mem_map.mp hl
    obtain ⟨x, _, rfl⟩ := List.mem_map.mp hm
    exact bit_lt
  · rw [(List.mem_replicate.mp h).2]
    decide
/-- the letters of the law -/
def LET : PySem.Str := "ABCDEFGHIJKLMNOPQRSTUVWXYZabcdefghijklmnopqrstuvwxyz0123456789+-"
theorem let_AL : LET = AL := by decide +kernel
theorem let_up : ∀ o, o < 256 → 65 ≤ o → o ≤ 90 → LET.cps.toList[o - 65 + 0]? = some o ∧ isLD o = true := by decide +kernel
theorem let_lo : ∀ o, o < 256 → 97 ≤ o → o ≤ 122 → LET.cps.toList[o - 97 + 26]? = some o ∧ isLD o = true := by decide +kernel
theorem let_di : ∀ o, o < 256 → 48 ≤ o → o ≤ 57 → LET.cps.toList[o - 48 + 52]? = some o ∧ isLD o = true := by decide +kernel
theorem let_no : ∀ o, o < 256 → ¬ (65 ≤ o ∧ o ≤ 90) → ¬ (97 ≤ o ∧ o ≤ 122) → ¬ (48 ≤ o ∧ o ≤ 57) → isLD o = false := by decide +kernel
end Pw
namespace L2
open PySem PySem.Spec PyProof.Rows
/-! a text so many times -/
def repZ (z : Str) (n : Nat) : Str := ⟨(List.replicate n z.cps).foldl (· ++ ·) #[]⟩
theorem fold_cps (l : List (Array Nat)) (a : Array Nat) : (l.foldl (· ++ ·) a).toList = a.toList ++ (l.map (·.toList)).flatten := by
  induction l generalizing a with
  | nil => simp
  | cons b r ih => simp [ih, Array.toList_append]
theorem repZ_list (z : Str) (n : Nat) : (repZ z n).cps.toList = (List.replicate n z.cps.toList).flatten := by
  unfold repZ
  rw [fold_cps]
  simp
theorem repZ_one (c n : Nat) : repZ ⟨#[c]⟩ n = Cd.zs (List.replicate n c) := by
  refine Cd.zs_ext ?_
  rw [repZ_list]
  show (List.replicate n [c]).flatten = _
  induction n with
  | zero => rfl
  | succ n ih => rw [List.replicate_succ, List.flatten_cons, ih, List.replicate_succ]; rfl
def rRepZ : R2 := fun x y H Q => ∃ (z : Str) (k : Int), x = .str z ∧ y = .int k ∧ 1 ≤ z.length ∧ 0 ≤ k ∧ k ≤ 1000 ∧ z.length ≤ 1000 ∧ Q (.str (repZ z k.toNat)) H
theorem op_mulZ {X : Cx} : OpR X (binaryOp .Mult) rRepZ := by
  intro pins s σ H x y v u Q I rx ry h
  obtain ⟨z, k, rfl, rfl, hz1, hk0, hk1, hz2, q⟩ := h
  obtain ⟨t, rfl⟩ := rx
  obtain ⟨t2, rfl⟩ := ry
  have hm : z.length * k.toNat ≤ 1000000 := Nat.mul_le_mul hz2 (show k.toNat ≤ 1000 by omega)
  have ho : 1 ≤ k → (z.length : Int) ≤ (2 ^ 63 - 1) / k := fun h1 => by
    refine (Int.le_ediv_iff_mul_le (by omega)).mpr ?_
    have : (z.length : Int) * k ≤ 1000 * 1000 := Int.mul_le_mul (by omega) hk1 hk0 (by decide)
    omega
  refine PySem.P.mul_str (by rw [decide_eq_false (by omega), decide_eq_false (by omega)]; rfl) (fun h1 _ => Int.not_lt.mpr (ho (by omega))) (fun _ _ => ?_) ?_
  · have : z.length * k.toNat ≤ sizeLine := Nat.le_trans hm (by decide)
    simpa [Builtin.Str.tooLong] using this
  · by_cases h0 : k < 1
    · rw [if_pos h0]
      have e : k = 0 := by omega
      subst e
      exact ⟨by decide, .str (repZ z 0), H, I.tok _, ⟨_, rfl⟩, q⟩
    · rw [if_neg h0]
      by_cases h1 : k = 1
      · subst h1
        rw [if_pos (by simp)]
        refine ⟨.str z, H, I, ⟨_, rfl⟩, ?_⟩
        have e : repZ z (1 : Int).toNat = z := by
          unfold repZ
          simp
        rw [e] at q
        exact q
      · rw [if_neg (by simp [h1]; omega)]
        refine ⟨?_, .str (repZ z k.toNat), H, I.tok _, ⟨_, rfl⟩, q⟩
        show (repZ z k.toNat).length ≤ sizeLine
        refine Nat.le_trans ?_ (show 1000000 ≤ sizeLine by decide)
        rw [len_list, repZ_list]
        simp
        rw [Nat.mul_comm]
        exact hm
theorem g_mulz {z : Str} {k : Int} {H : Hp} {Q : VK} (h1 : 1 ≤ z.length) (h2 : 0 ≤ k) (h3 : k ≤ 1000) (h4 : z.length ≤ 1000) (q : Q (.str (repZ z k.toNat)) H) : rRepZ (.str z) (.int k) H Q := ⟨z, k, rfl, rfl, h1, h2, h3, h4, q⟩
/-- str(n) -/
def rStrI : List V → Hp → VK → Prop := fun xs H Q => ∃ i, xs = [.int i] ∧ i.natAbs.log2 < 1920 ∧ Q (.str (toString i)) H
theorem call_strI {X : Cx} : CallR X (.type "str") rStrI := call_str_int
theorem g_stri {i : Int} {H : Hp} {Q : VK} (h : i.natAbs.log2 < 1920) (q : Q (.str (toString i)) H) : rStrI [.int i] H Q := ⟨i, rfl, h, q⟩
end L2
namespace Pw
open PySem L2 Cd Tx
def spLet : Sp := fun vs H Q _ => vs = [] ∧ Q (.str LET) H
def bz (bs : List Nat) : Str := zs (bs.map fun b => 48 + b)
def spBitsL : Sp := fun vs H Q _ => ∃ (a : Addr) (o : Nat) (ws : List Nat), vs = [iv o, .ref a] ∧ H a = some (.lst (ws.map iv)) ∧ o < 256 ∧ (∀ w ∈ ws, 0 < w ∧ w < 1000) ∧ ws.length ≤ 8 ∧ ∀ H1, Same H H1 → Q (.str (bz (bits o ws))) H1
def spFormL : Sp := fun vs H Q _ => ∃ o : Nat, vs = [iv o] ∧ o < 256 ∧ ∀ H1, Same H H1 → Q (.str (zs (hForm o))) H1
def spPayL : Sp := fun vs H Q _ => ∃ (h : Bool) (a : Addr) (os : List Nat), vs = [.str (cname h), .ref a] ∧ H a = some (.lst (os.map iv)) ∧ Oct os ∧ os.length ≤ 100 ∧ ∀ H1, Same H H1 → Q (.str (zs (pay h os))) H1
theorem bz_app (a b : List Nat) : bz (a ++ b) = bz a ++ bz b := by
  refine (zs_ext ?_).symm
  unfold bz
  rw [ap_list, zs_list, zs_list, List.map_append]
theorem bz_len (a : List Nat) : (bz a).length = a.length := by unfold bz; rw [zs_len, List.length_map]
theorem bit_text {b : Nat} (h : b < 2) : ((toString (b : Int) : String) : Str) = zs [48 + b] := by
  have : b = 0 ∨ b = 1 := by omega
  rcases this with rfl | rfl <;> decide +kernel
theorem bit_int (o w : Nat) : (o : Int) / (w : Int) % 2 = ((o / w % 2 : Nat) : Int) := by
  rw [Int.natCast_emod, Int.natCast_ediv]
  rfl
theorem rg6 {n : Nat} (h : n ≤ 100000) : RgC 0 (n : Int) 6 ((n + 5) / 6) := by
  have sz : Builtin.Range.rangeSize 0 (n : Int) 6 = (((n + 5) / 6 : Nat) : Int) := by
    unfold Builtin.Range.rangeSize
    rw [if_pos (by decide)]
    split <;> omega
  refine ⟨by decide, by decide, ?_, sz⟩
  unfold Builtin.Range.small
  rw [sz, if_pos (by decide), fits (by decide) (by decide), fits (by omega) (by omega), fits (by decide) (by decide), fits (by omega) (by omega), fits (by omega) (by omega)]
  exact Bool.or_true _
def bV (ws : V) : V → V := fun w => match ws, w with
  | .int o, .int w => .str (bz [o.toNat / w.toNat % 2])
  | _, v => v
theorem bits_cons (o w : Nat) (ws : List Nat) : bits o (w :: ws) = [o / w % 2] ++ bits o ws := rfl
theorem join_bits (o : Nat) (ws : List Nat) : Txt.join ("" : Str) (ws.map fun w => bz [o / w % 2]) = bz (bits o ws) := by
  refine (zs_ext ?_)
  rw [join_list]
  induction ws with
  | nil => rfl
  | cons w r ih => rw [List.map_cons, List.map_cons, List.flatten_cons, ih, bits_cons, List.map_append]; rfl
theorem join_bz (l : List (List Nat)) : Txt.join ("" : Str) (l.map bz) = bz l.flatten := by
  refine (zs_ext ?_)
  rw [join_list]
  induction l with
  | nil => rfl
  | cons w r ih =>
    rw [List.map_cons, List.map_cons, List.flatten_cons, ih, List.flatten_cons, List.map_append]
    unfold bz
    rw [zs_list]
/-- the letters so far -/
def lets (os : List Nat) (i : Nat) : List Nat := (List.range i).map fun k => al (v6 (((padded os).drop (6 * k)).take 6))
theorem lets_succ (os : List Nat) (i : Nat) : lets os (i + 1) = lets os i ++ [al (v6 (((padded os).drop (6 * i)).take 6))] := by
  unfold lets
  rw [List.range_succ, List.map_append]
  rfl
theorem lets_all {os : List Nat} (h : ∀ o ∈ os, o < 256) : lets os ((8 * os.length + 5) / 6) = payS os := by
  rw [← sixes_pad os h, sixes_rng _ _ (padded_len os)]
  unfold lets
  rw [List.map_map]
  rfl
def pre6 (l : List Nat) (i : Nat) : Nat := ((List.range i).map fun j => W6.getD j 0 * l.getD j 0).sum
theorem pre6_succ (l : List Nat) (i : Nat) : pre6 l (i + 1) = pre6 l i + W6.getD i 0 * l.getD i 0 := by
  unfold pre6
  rw [List.range_succ, List.map_append, List.sum_append]
  simp
theorem v6_pre (l : List Nat) : v6 l = pre6 l 6 := rfl
theorem v6_lt {l : List Nat} (h : ∀ b ∈ l, b < 2) : v6 l < 64 := by
  have g : ∀ j, l.getD j 0 < 2 := fun j => by
    rw [List.getD_eq_getElem?_getD]
    cases e : l[j]? with
    | none => decide
    | some x => exact h x (List.mem_of_getElem? e)
  have e : v6 l = 32 * l.getD 0 0 + 16 * l.getD 1 0 + 8 * l.getD 2 0 + 4 * l.getD 3 0 + 2 * l.getD 4 0 + 1 * l.getD 5 0 := by
    simp [v6, W6, List.range, List.range.loop, List.getD]
    omega
  have a0 := g 0
  have a1 := g 1
  have a2 := g 2
  have a3 := g 3
  have a4 := g 4
  have a5 := g 5
  omega
end Pw
namespace Pw
open PySem L2 Cd Tx
def HX : Str := "0123456789ABCDEF"
theorem hex_at : ∀ {d : Nat}, d < 16 → HX.cps.toList[d]? = some (hexD d) := by
  have : ∀ d, d < 16 → HX.cps.toList[d]? = some (hexD d) := by decide +kernel
  exact fun {d} => this d
theorem form_txt {a b : Nat} : (("=" : Str) ++ (⟨#[a]⟩ : Str)) ++ (⟨#[b]⟩ : Str) = zs [61, a, b] := by
  refine zs_ext ?_
  rw [ap_list, ap_list]
  rfl
end Pw
namespace Pw
open PySem L2 Cd Tx
def fV : V → V
  | .int o => .str (zs (hForm o.toNat))
  | v => v
def b8V : V → V
  | .int o => .str (bz (bits o.toNat W8))
  | v => v
theorem cap_h (os : List Nat) : Txt.join ("" : Str) ((os.map hForm).map zs) = zs (payH os) := zs_join _
theorem bz_ix {l : List Nat} {i b : Nat} (h : l[i]? = some b) : atI (bz l).cps.toList (i : Int) = some (48 + b) := by
  refine atI_nat ?_
  unfold bz
  rw [zs_list, List.getElem?_map, h]
  rfl
theorem one_ch (b : Nat) : decide (V.str ⟨#[48 + b]⟩ = V.str "1") = decide (b = 1) := by
  by_cases h : b = 1
  · subst h
    rw [decide_eq_true rfl]
    decide +kernel
  · rw [decide_eq_false h]
    refine decide_eq_false fun z => h ?_
    have e : (⟨#[48 + b]⟩ : Str).cps.toList = ("1" : Str).cps.toList := by rw [V.str.inj z]
    have e2 : ([48 + b] : List Nat) = [49] := e
    have := List.cons.inj e2
    omega
end Pw
namespace Pw
open PySem L2 Cd Tx
theorem zs_one (l : List Nat) (c : Nat) : zs l ++ (⟨#[c]⟩ : Str) = zs (l ++ [c]) := by
  refine zs_ext ?_
  rw [ap_list, zs_list]
end Pw
namespace Pw
open PySem L2 Cd Tx LamX
section
variable {C1 C2 : Addr} {f1 f2 w1 w2 : Str} {tl : XK → Hp → VK → Prop} {H : Hp} {Q : VK}
theorem tt_first (v : V) (h : ∀ H0, Same H H0 → ∀ (E' : XK) (Q' : VK), Rs H0 E' C1 f1 v → tl E' H0 Q') (k : ∀ r H', Same H H' → H' r = some (.tup [.str w1, v]) → Q (.ref r) H') : TT2 C1 C2 f1 f2 w1 w2 tl H Q := by
  intro H0 s0 E' Q' e1 e2 q'
  exact h H0 s0 E' Q' fun H1 d s1 nd => e1 d v _ upd_same fun r H'' s'' e'' => k r H'' (s0.trans (s1.trans ((same_new nd).trans s''))) e''
theorem tt_second (v : V) (h : ∀ H0, Same H H0 → ∀ (E' : XK) (Q' : VK), Rs H0 E' C2 f2 v → tl E' H0 Q') (k : ∀ r H', Same H H' → H' r = some (.tup [.str w2, v]) → Q (.ref r) H') : TT2 C1 C2 f1 f2 w1 w2 tl H Q := by
  intro H0 s0 E' Q' e1 e2 q'
  exact h H0 s0 E' Q' fun H1 d s1 nd => e2 d v _ upd_same fun r H'' s'' e'' => k r H'' (s0.trans (s1.trans ((same_new nd).trans s''))) e''
end
theorem tabs_updL {T : List (Addr × Str)} {H : Hp} {D : Addr} {xs : List V} {o : HO} (t : Tabs T H) (e : H D = some (.lst xs)) : Tabs T (upd H D o) := by
  intro p hp
  obtain ⟨ps, h1, h2, h3⟩ := t p hp
  have nd : ∀ {b : Addr} {u : HO}, H b = some u → (∀ ys, u ≠ .lst ys) → b ≠ D := fun e1 n z => by
    rw [z, e] at e1
    exact n _ (Option.some.inj e1).symm
  refine ⟨ps, by rw [upd_ne (nd h1 (by intro ys z; cases z))]; exact h1, h2, fun pos cv hc => ?_⟩
  obtain ⟨c, e1, e2⟩ := h3 pos cv hc
  exact ⟨c, e1, by rw [upd_ne (nd e2 (by intro ys z; unfold CodeO at z; cases z))]; exact e2⟩
theorem _root_.LamX.ExtN.mut {H H1 : Hp} {p : Addr} {o : HO} (x : ExtN H H1) (h : H p = none) : ExtN H (upd H1 p o) := fun b u e n => by
  rw [upd_ne (ne_of_none e h)]
  exact x b u e n
/-- the odd octets -/
def OddO (H : Hp) (x : V) : Prop := AnyO H x ∧ Mk.btw x 0 255 = false
def oddsO (t l : Addr) : List V := [.int (-1), .int 256, .bl true, .non, .str "a", .ref t, .ref l, .int (10 ^ 20)]
theorem oddsO_ok {H : Hp} {t l : Addr} (h1 : H t = some (.tup [.int 1])) (h2 : H l = some (.lst [])) : ∀ v ∈ oddsO t l, OddO H v := by
  intro v hv
  simp only [oddsO, List.mem_cons, List.not_mem_nil, or_false] at hv
  rcases hv with rfl | rfl | rfl | rfl | rfl | rfl | rfl | rfl
  · exact ⟨.int _, rfl⟩
  · exact ⟨.int _, rfl⟩
  · exact ⟨.bl _, rfl⟩
  · exact ⟨.non, rfl⟩
  · exact ⟨.str _ (by decide +kernel) (by decide +kernel), rfl⟩
  · exact ⟨.tup h1, rfl⟩
  · exact ⟨.lst h2, rfl⟩
  · exact ⟨.int _, by decide⟩
/-- the odd codings, with their data -/
def OddC (H : Hp) (x : V) : Prop := isCod x = false ∧ ∃ d, Od H x d
def oddsC (l t d : Addr) : List V := [.str "H", .str "", .str "hs", .non, .int 5, .bl true, .ref l, .ref t, .ref d, .str "latin"]
theorem oddsC_ok {H : Hp} {l t d : Addr} (h1 : H l = some (.lst [.str "h"])) (h2 : H t = some (.tup [.str "s"])) (h3 : H d = some (.dK [])) : ∀ v ∈ oddsC l t d, OddC H v := by
  intro v hv
  simp only [oddsC, List.mem_cons, List.not_mem_nil, or_false] at hv
  have s1 : ∀ z : Str, z.length ≤ 1000 → PyData.strOk z = true → ∃ d, Od H (.str z) d := fun z a b => ⟨_, .sc (.str z a b)⟩
  rcases hv with rfl | rfl | rfl | rfl | rfl | rfl | rfl | rfl | rfl | rfl
  · exact ⟨by decide +kernel, s1 _ (by decide +kernel) (by decide +kernel)⟩
  · exact ⟨by decide +kernel, s1 _ (by decide +kernel) (by decide +kernel)⟩
  · exact ⟨by decide +kernel, s1 _ (by decide +kernel) (by decide +kernel)⟩
  · exact ⟨rfl, _, .sc .non⟩
  · exact ⟨rfl, _, .sc (.int 5 (by decide))⟩
  · exact ⟨rfl, _, .sc (.bl true)⟩
  · exact ⟨rfl, _, .lst h1 (.cons (.str _ (by decide +kernel) (by decide +kernel)) .nil) (by decide)⟩
  · exact ⟨rfl, _, .tup h2 (.cons (.str _ (by decide +kernel) (by decide +kernel)) .nil) (by decide)⟩
  · exact ⟨rfl, _, .dic h3⟩
  · exact ⟨by decide +kernel, s1 _ (by decide +kernel) (by decide +kernel)⟩
/-- the bad row -/
def badRow (os : List Nat) (a : Nat) (x : V) : List V := (os.take a).map iv ++ [x, .non] ++ (os.drop a).map iv
theorem badRow_at {os : List Nat} {a : Nat} {x : V} (ho : Oct os) (ha : a ≤ os.length) (hx : Mk.btw x 0 255 = false) : badAt (badRow os a x) a := by
  have l1 : ((os.take a).map iv).length = a := by rw [List.length_map, List.length_take]; omega
  unfold badRow
  rw [List.append_assoc]
  refine ⟨fun j v hj e => ?_, x, ?_, hx⟩
  · rw [List.getElem?_append_left (by omega), List.getElem?_map] at e
    cases g : (os.take a)[j]? with
    | none => rw [g] at e; cases e
    | some o =>
      rw [g] at e
      cases e
      have := ho o (List.mem_of_mem_take (List.mem_of_getElem? g))
      show (decide ((0 : Int) ≤ (o : Int)) && decide ((o : Int) ≤ 255)) = true
      rw [decide_eq_true (by omega), decide_eq_true (by omega)]
      rfl
  · rw [List.getElem?_append_right (by omega), l1, Nat.sub_self]
    rfl
theorem badRow_any {H : Hp} {os : List Nat} {a : Nat} {x : V} (hx : AnyO H x) : ∀ v ∈ badRow os a x, AnyO H v := by
  intro v hv
  unfold badRow at hv
  simp only [List.mem_append, List.mem_map, List.mem_cons, List.not_mem_nil, or_false] at hv
  rcases hv with (⟨o, _, rfl⟩ | rfl | rfl) | ⟨o, _, rfl⟩
  · exact .int _
  · exact hx
  · exact .non
  · exact .int _
def spRefused (T : List (Addr × Str)) : Sp := fun vs H Q _ => ∃ (d l a : Addr) (m : Nat) (os : List Nat), vs = [.ref d, .ref a] ∧ Dr.Draw H d l m ∧ m < 900000 ∧ H a = some (.lst (os.map iv)) ∧ a ≠ d ∧ Oct os ∧ os.length ≤ 12 ∧ Tabs T H ∧
  ∀ H', Dr.Draw H' d l (m + 3) → LamD.Kx d H H' → Tabs T H' → Q (.bl true) H'
end Pw
namespace Pw
open PySem L2 Cd Tx LamX
theorem any_kp {H H' : Hp} {x : V} {d l : Addr} {m : Nat} (a : AnyO H x) (k : Dr.Kp d H H') (D : Dr.Draw H d l m) (D' : Dr.Draw H' d l (m + 1) := by assumption) : AnyO H' x := by
  by_cases h : x = .ref d
  · subst h
    obtain ⟨ns, p, lf, u, e, _⟩ := D'
    exact .dic e
  · exact a.kp k h
theorem any_ext {H H1 H2 : Hp} {xs : List V} (h : ∀ v ∈ xs, AnyO H v) (x : ExtN H H1) (s : Same H1 H2) : ∀ v ∈ xs, AnyO H2 v := fun v hv => by
  cases h v hv with
  | non => exact .non
  | bl b => exact .bl b
  | int i => exact .int i
  | str z h h2 => exact .str z h h2
  | lst h => exact .lst (s _ _ (x.ap h))
  | tup h => exact .tup (s _ _ (x.ap h))
  | dic h => exact .dic (s _ _ (x.ap h))
theorem n_sll {K : PySem.W.Frag} {H : Hp} {a : Addr} {xs : List V} {lo hi : Option Int} {Q : VK} (h : SqL K H a xs) (q : ∀ p H1, H p = none → Same H H1 → H1 p = some (.lst (cutV xs lo hi)) → Q (.ref p) H1) : rSlL K (.ref a) lo hi H Q := g_sll h (new_o q)
theorem n_cats {K : PySem.W.Frag} {H : Hp} {l b : Addr} {xs zs : List V} {Q : VK} (h1 : SqL K H l xs) (h2 : SqL K H b zs) (h3 : xs.length + zs.length ≤ sizeLine) (q : ∀ p H1, H p = none → Same H H1 → H1 p = some (.lst (xs ++ zs)) → Q (.ref p) H1) : rCatS K (.ref l) (.ref b) H Q := g_cats h1 h2 h3 (new_o q)
theorem bad_is (os : List Nat) (k : Nat) (x : V) : cutV (os.map iv) none (some (k : Int)) ++ [x, .non] ++ cutV (os.map iv) (some (k : Int)) none = badRow os k x := by
  rw [cut_to, cut_of]
  unfold badRow
  rw [List.map_take, List.map_drop]
theorem cut_small (xs : List V) (lo hi : Option Int) : (cutV xs lo hi).length ≤ xs.length := by
  unfold cutV
  rw [List.length_take, List.length_drop]
  omega
theorem small_cut (os : List Nat) (lo hi : Option Int) {x y : V} (h : os.length ≤ 12) : (cutV (os.map iv) lo hi).length + [x, y].length ≤ sizeLine := by
  have := cut_small (os.map iv) lo hi
  rw [List.length_map] at this
  exact Nat.le_trans (show _ + 2 ≤ 14 by omega) (by decide)
theorem small_cut2 (os : List Nat) (lo hi : Option Int) (l2 : Option Int) {x y : V} (h : os.length ≤ 12) {h2 : Option Int} : (cutV (os.map iv) lo hi ++ [x, y]).length + (cutV (os.map iv) l2 h2).length ≤ sizeLine := by
  have a := cut_small (os.map iv) lo hi
  have b := cut_small (os.map iv) l2 h2
  rw [List.length_map] at a b
  rw [List.length_append]
  exact Nat.le_trans (show _ + 2 + _ ≤ 26 by omega) (by decide)
/-- pairs of a word and a number -/
inductive PrA (H : Hp) (w : Str) (v : V) : List Addr → Prop
  | nil : PrA H w v []
  | cons {a : Addr} {r : List Addr} : H a = some (.tup [.str w, v]) → PrA H w v r → PrA H w v (a :: r)
theorem dp_pairs {K : PySem.W.Frag} {H : Hp} {p : Addr} {w : Str} {i : Int} {as : List Addr} (e : H p = some (.lst (as.map V.ref))) (h : PrA H w (.int i) as) : Dp K H (.ref p) (.list (as.map fun _ => .tuple [.str w, .int i])) := .lst (SqL.of e) (by
  clear e
  induction h with
  | nil => exact .nil
  | cons a _ ih => exact .cons (.tup (SqT.of a) (.cons (.str _) (.cons (.int _) .nil))) ih)
theorem sm_pairs {w : Str} {i : Int} {n : Nat} (hi : i.natAbs < 10 ^ 12) (hw : PyData.strOk w = true ∧ w.length ≤ 100000) : SmlAll (List.replicate n (.tuple [.str w, .int i])) := by
  induction n with
  | zero => simp only [List.replicate_zero, SmlAll]
  | succ n ih =>
    rw [List.replicate_succ]
    simp only [SmlAll, Sml]
    exact ⟨⟨hw, hi, trivial⟩, ih⟩
theorem dep_pairs {w : Str} {i : Int} {n : Nat} : PyData.depthAll (List.replicate n (.tuple [.str w, .int i])) ≤ 1 := by
  induction n with
  | zero => simp only [List.replicate_zero, PyData.depthAll]; decide
  | succ n ih =>
    rw [List.replicate_succ]
    simp only [PyData.depthAll, PyData.depth]
    omega
theorem map_const {α β : Type} (as : List α) (b : β) : as.map (fun _ => b) = List.replicate as.length b := by
  induction as with
  | nil => rfl
  | cons a r ih => rw [List.map_cons, ih, List.length_cons, List.replicate_succ]
theorem shp_pairs {w : Str} {i : Int} {as : List Addr} (hi : i.natAbs < 10 ^ 12) (hw : (PyData.strOk w && decide (w.length ≤ 100000)) = true) : SeqAt.shaped (.list (as.map fun _ => .tuple [.str w, .int i])) = true := by
  rw [Bool.and_eq_true, decide_eq_true_eq] at hw
  rw [map_const]
  refine shaped_sml (by simp only [Sml]; exact sm_pairs hi hw) ?_
  have := dep_pairs (w := w) (i := i) (n := as.length)
  simp only [PyData.depth]
  omega
theorem eqv_pairs {w : Str} {i : Int} {as bs : List Addr} (h : as.length = bs.length) : PyData.eqv (.list (as.map fun _ => .tuple [.str w, .int i])) (.list (bs.map fun _ => .tuple [.str w, .int i])) = true := by
  rw [map_const, map_const, h]
  generalize bs.length = n
  induction n with
  | zero => rfl
  | succ n ih =>
    rw [List.replicate_succ]
    simp [PyData.eqv, PyData.eqvAll] at ih ⊢
    exact ih
end Pw
namespace Pw
open PySem L2 Cd Tx LamX
theorem dz_pair {K : PySem.W.Frag} {H : Hp} {r : Addr} {w : Str} {y : V} {dy : PyData} (e : H r = some (.tup [.str w, y])) (o : Od H y dy) : Dz K H (.ref r) (.tuple [.str w, dy]) :=
  .tup (SqT.of e) (.cons (.of (.str w) (by simp only [PyData.hasDict])) (.cons o.dz .nil))
theorem shz_pair {H : Hp} {y : V} {dy : PyData} (o : Od H y dy) {w : Str} (hw : (PyData.strOk w && decide (w.length ≤ 1000)) = true := by decide +kernel) : showsZ (.list [.tuple [.str w, dy], .tuple [.str w, dy]]) := by
  rw [Bool.and_eq_true, decide_eq_true_eq] at hw
  obtain ⟨h1, h2, h3⟩ := o.sm
  refine showsZ_of ?_ ?_ ?_
  · simp only [SmZ, SmZA]
    exact ⟨⟨hw.1, h1, trivial⟩, ⟨hw.1, h1, trivial⟩, trivial⟩
  · simp only [wgz, wgzA]
    omega
  · simp only [PyData.depth, PyData.depthAll]
    omega
end Pw
namespace L2
open PySem
abbrev nDic (H : Hp) (Q : VK) : Prop := ∀ p, H p = none → Q (.ref p) (upd H p (.dK []))
theorem g_dnewN {σ : St} {H : Hp} {Q : VK} (h : nDic H Q) : tDNewK σ H Q := h
theorem n_dic {H : Hp} {Q : VK} (h : ∀ p H1, H p = none → Same H H1 → H1 p = some (.dK []) → Q (.ref p) H1) : nDic H Q := new_o h
end L2
namespace Pw
open PySem L2 Cd Tx LamX
theorem any_x {H H' : Hp} {v : V} (a : AnyO H v) (x : ExtN H H') : AnyO H' v := by
  cases a with
  | non => exact .non
  | bl b => exact .bl b
  | int i => exact .int i
  | str z h h2 => exact .str z h h2
  | lst h => exact .lst (x.ap h)
  | tup h => exact .tup (x.ap h)
  | dic h => exact .dic (x.ap h)
theorem tup_x {H H' : Hp} {v : V} (a : AnyO H v) (t : isTupH H v = false) (x : ExtN H H') : isTupH H' v = false := by
  cases a with
  | non => rfl
  | bl b => rfl
  | int i => rfl
  | str z h h2 => rfl
  | lst h => unfold isTupH; simp only [x.ap h]
  | tup h => unfold isTupH at t; simp only [h] at t; cases t
  | dic h => unfold isTupH; simp only [x.ap h]
theorem PrA.snoc {H : Hp} {w : Str} {v : V} {rs : List Addr} {r : Addr} (h : PrA H w v rs) (e : H r = some (.tup [.str w, v])) : PrA H w v (rs ++ [r]) := by
  induction h with
  | nil => exact .cons e .nil
  | cons a _ ih => exact .cons a ih
theorem PrA.same {H H' : Hp} {w : Str} {v : V} {rs : List Addr} (h : PrA H w v rs) (s : Same H H') : PrA H' w v rs := by
  induction h with
  | nil => exact .nil
  | cons a _ ih => exact .cons (s _ _ a) ih
theorem PrA.ext {H H' : Hp} {w : Str} {v : V} {rs : List Addr} (h : PrA H w v rs) (s : ExtN H H') : PrA H' w v rs := by
  induction h with
  | nil => exact .nil
  | cons a _ ih => exact .cons (s.ap a) ih
theorem PrA.to {H H' : Hp} {w : Str} {v : V} {rs : List Addr} {D : Addr} {xs : List V} {o : HO} (h : PrA H w v rs) (s : ExtN H H') (d : H' D = some (.lst xs)) : PrA (upd H' D o) w v rs := by
  induction h with
  | nil => exact .nil
  | cons a _ ih =>
    have e := s.ap a
    exact .cons (by rw [upd_ne (ne_of e d (by intro z; cases z))]; exact e) ih
theorem dp_pairsN {K : PySem.W.Frag} {H : Hp} {p : Addr} {w : Str} {as : List Addr} (e : H p = some (.lst (as.map V.ref))) (h : PrA H w .non as) : Dp K H (.ref p) (.list (as.map fun _ => .tuple [.str w, .none])) := .lst (SqL.of e) (by
  clear e
  induction h with
  | nil => exact .nil
  | cons a _ ih => exact .cons (.tup (SqT.of a) (.cons (.str _) (.cons .non .nil))) ih)
theorem shp_pairsN (as : List Addr) {w : Str} (hw : (PyData.strOk w && decide (w.length ≤ 100000)) = true := by decide +kernel) : SeqAt.shaped (.list (as.map fun _ => .tuple [.str w, .none])) = true := by
  rw [Bool.and_eq_true, decide_eq_true_eq] at hw
  rw [map_const]
  refine shaped_sml ?_ ?_
  · simp only [Sml]
    generalize as.length = n
    induction n with
    | zero => simp only [List.replicate_zero, SmlAll]
    | succ n ih =>
      rw [List.replicate_succ]
      simp only [SmlAll, Sml]
      exact ⟨⟨hw, trivial, trivial⟩, ih⟩
  · simp only [PyData.depth]
    generalize as.length = n
    have : PyData.depthAll (List.replicate n (.tuple [.str w, .none])) ≤ 1 := by
      induction n with
      | zero => simp only [List.replicate_zero, PyData.depthAll]; decide
      | succ n ih =>
        rw [List.replicate_succ]
        simp only [PyData.depthAll, PyData.depth]
        omega
    omega
theorem eqv_pairsN {w : Str} {as bs : List Addr} (h : as.length = bs.length) : PyData.eqv (.list (as.map fun _ => .tuple [.str w, .none])) (.list (bs.map fun _ => .tuple [.str w, .none])) = true := by
  rw [map_const, map_const, h]
  generalize bs.length = n
  induction n with
  | zero => rfl
  | succ n ih =>
    rw [List.replicate_succ]
    simp [PyData.eqv, PyData.eqvAll] at ih ⊢
    exact ih
end Pw
namespace LamD
open PySem PySem.Spec PyProof.Rows L2 LamX
/-- an empty table of code objects -/
abbrev tab0 : Obj := { cls := .none, data := .fields #[] }
/-- the end of a law whose defs make lambdas: cs are the makers' code objects with their tables -/
theorem law_goT {P : Program} {w : World} {K : PySem.W.Frag} {mg mb : Str → Option Value} {k : Nat} {fa a : Addr} {cs : List (Addr × Addr)} {fd : FuncData} {x : Str} {sp : Sp} {z : Shared} {vs : List Value} {ns : List Int}
    (KX : K.In z.heap) (gns : z.heap.Ns mainGlobals mg) (bns : z.heap.Ns builtinsNs mb) (bb : ∀ x : Str, x ≠ "__name__" → mb x = bootBuiltins x) (lim : z.heap.NoLimit) (gg : z.gens = #[])
    (hT : ∀ p ∈ cs, z.heap.get? p.2 = some tab0) (nT : ∀ p ∈ cs, K.lookup p.2 = none) (CH : ∀ p ∈ cs, PySem.W.CodeHd z.heap p.1 p.2)
    (bm : ∃ (m : Addr) (ob : Obj), mg "__builtins__" = some (.ref m) ∧ m ≠ builtinsNs ∧ z.heap.get? m = some ob ∧ ob.cls = .type "module" ∧ ob.dict = some builtinsNs ∧ ob.data = .plain)
    (ha : z.heap.get? a = some { cls := .type "list", data := .seq vs.toArray }) (hi : IntsAre vs ns) (hl : ns.length ≤ sizeLine) (hr : Room k callerA)
    (F : ∀ base : Heap, K.In base → base.Ns mainGlobals mg → (∀ p ∈ cs, TabB base mg p.1 p.2) → FnG P w K mg base CX0 k fa fd [x] sp) (hbind : ∀ (s : Shared) (u : Value), BindsTo s fd ⟨[u], []⟩ [(x, u)])
    (hsp : ∀ H : Hp, (∀ p ∈ cs, H p.2 = some (.tbl #[])) → SqL K H a (ns.map V.int) → sp [.ref a] H (fun v _ => v = .bl true) fun _ _ _ => False) :
    codeAny (model P w) callerA (.call (.ref fa) ⟨[.ref a], []⟩) (fun r y => r = .ok (.ret (.bool true)) ∧ OldK z.heap y.heap ∧ y.os = z.os ∧ AllBare y.gens) z := by
  have rv := vals_ints hi
  have lenV := hi.length
  let ob : Obj := { cls := .type "list", data := .seq vs.toArray }
  let H : Hp := fun b => if b = a ∧ K.lookup a = none then some (.frz ob (.lst (ns.map V.int))) else if b ∈ cs.map (·.2) then some (.tbl #[]) else none
  have tabOf : ∀ b, b ∈ cs.map (·.2) → z.heap.get? b = some tab0 := fun b hb => by
    obtain ⟨p, hp, e⟩ := List.mem_map.mp hb
    exact e ▸ hT p hp
  have inT : ∀ p ∈ cs, p.2 ∈ cs.map (·.2) := fun p hp => List.mem_map_of_mem hp
  have noTa : a ∉ cs.map (·.2) := fun m => by
    have q := (tabOf a m).symm.trans ha
    have q2 : Data.fields #[] = Data.seq vs.toArray _ := congrArg Obj.data (Option.some.inj q)
    cases q2
  have Ha : K.lookup a = none → H a = some (.frz ob (.lst (ns.map V.int))) := fun e => if_pos ⟨rfl, e⟩
  have Ht : ∀ b, b ∈ cs.map (·.2) → H b = some (.tbl #[]) := fun b hb => (if_neg (fun (q : b = a ∧ _) => noTa (q.1 ▸ hb))).trans (if_pos hb)
  have Hn : ∀ b, ¬ (b = a ∧ K.lookup a = none) → b ∉ cs.map (·.2) → H b = none := fun b e m => (if_neg e).trans (if_neg m)
  have Hs : ∀ {b o}, H b = some o → (b = a ∧ K.lookup a = none ∧ o = .frz ob (.lst (ns.map V.int))) ∨ (b ∈ cs.map (·.2) ∧ o = .tbl #[]) := fun {b o} e => by
    by_cases q : b = a ∧ K.lookup a = none
    · exact .inl ⟨q.1, q.2, (Option.some.inj ((if_pos q).symm.trans e)).symm⟩
    · by_cases m : b ∈ cs.map (·.2)
      · exact .inr ⟨m, (Option.some.inj ((Ht b m).symm.trans e)).symm⟩
      · rw [Hn b q m] at e
        cases e
  have hok : HOk P w H z.heap := by
    intro b o e
    rcases Hs e with ⟨rfl, _, rfl⟩ | ⟨m, rfl⟩
    · exact ⟨ha, by rw [List.length_map]; exact hl, vs, _, rv, ha⟩
    · exact tabOf b m
  -- what is neither the script nor a table is not tracked
  have free : ∀ {b : Addr} {o : Obj}, z.heap.get? b = some o → (∀ us n, o.data ≠ .seq us n) → o.data ≠ .fields #[] → H b = none := fun {b o} e n1 n2 => by
    refine Hn b (fun q => ?_) fun m => ?_
    · rw [q.1, ha] at e
      exact n1 _ _ (congrArg Obj.data (Option.some.inj e)).symm
    · rw [tabOf b m] at e
      exact n2 (congrArg Obj.data (Option.some.inj e)).symm
  have dfree : ∀ {b : Addr} {o : Obj} {es : Array DictEntry} {ep : Nat}, z.heap.get? b = some o → o.data = .dict es ep → H b = none := fun e d => free e (fun us n q => by rw [d] at q; cases q) fun q => by rw [d] at q; cases q
  have nsK : ∀ {b : Addr} {m : Str → Option Value}, z.heap.Ns b m → (hidT z.heap H).Ns b m := fun ⟨o, es, ep, e, d, r⟩ => ⟨o, es, ep, hidT_get e (dfree e d), d, r⟩
  have KB : K.In (hidT z.heap H) := fun b o e => hidT_get (KX b o e) (Hn b (fun q => by rw [q.1, q.2] at e; cases e) fun m => by
    obtain ⟨p, hp, ep⟩ := List.mem_map.mp m
    rw [← ep, nT p hp] at e
    cases e)
  have M : Mod K mg (hidT z.heap H) := ⟨KB, nsK gns, ⟨mb, nsK bns, bb⟩, let ⟨mc, h1, h2⟩ := lim; ⟨mc, nsK h1, h2⟩⟩
  have TB : ∀ p ∈ cs, TabB (hidT z.heap H) mg p.1 p.2 := fun p hp => by
    have tp := hT p hp
    refine ⟨?_, ?_, fun q => ?_⟩
    · obtain ⟨o, us, file, tf, flags, tg, inF, text, tt, e1, r1, r2, r3, more⟩ := CH p hp
      refine ⟨o, us, file, tf, flags, tg, inF, text, tt, hidT_get e1 (free e1 (fun ws n q => ?_) fun q => ?_), r1, r2, r3, more⟩
      · rw [r2] at q
        cases q
      · rw [r2] at q
        cases q
        simp at r3
    · obtain ⟨m, mo, b1, b2, b3, b4, b5, b6⟩ := bm
      have nG : m ≠ mainGlobals := fun q => by
        obtain ⟨o, es, ep, e, hd, _⟩ := gns
        rw [q, e] at b3
        cases b3
        rw [hd] at b6
        cases b6
      have nP : m ≠ p.2 := fun q => by
        rw [q, tp] at b3
        cases b3
        cases b6
      refine ⟨m, mo, b1, b2, nG, nP, hidT_get b3 (free b3 (fun ws n q => ?_) fun q => ?_), b4, b5, b6⟩ <;> · rw [b6] at q; cases q
    · obtain ⟨o, es, ep, e, hd, _⟩ := gns
      rw [q, tp] at e
      cases e
      cases hd
  have e0 : Env0 P w K mg (hidT z.heap H) callerA [] z H := ⟨rfl, M, fun _ _ e => of_hidT e, Nat.le_of_eq (hidT_size _ _), trivial, fun _ q => (nomatch q), hok, .of_eq gg⟩
  have SA : SqL K H a (ns.map V.int) := by
    cases hk : K.lookup a with
    | none => exact Or.inl (Or.inr ⟨ob, Ha hk⟩)
    | some o =>
      have e := KX a o hk
      rw [ha] at e
      cases e
      exact Or.inr ⟨_, vs.toArray, _, hk, rfl, rfl, rfl, by rw [List.size_toArray, lenV]; exact hl, by simpa using rv⟩
  refine codeAny_mono ((F _ KB (nsK gns) TB).go callerA rfl hr [] z H e0 ⟨[.ref a], []⟩ [.ref a] [.ref a] (hbind z (.ref a)) (.cons rfl .nil) _ _ (hsp H (fun p hp => Ht _ (inT p hp)) SA)) fun r y h => ?_
  match r, h with
  | .error e, h => exact h.elim
  | .ok (.ret u), ⟨v, H2, os, bare, un, hok2, rv2, q⟩ =>
    cases (show v = V.bl true from q)
    cases (show u = Value.bool true from rv2)
    have grown : ∀ b, b ∈ cs.map (·.2) → ∃ more : Array Value, y.heap.get? b = some { cls := .none, data := .fields more } := fun b m => by
      obtain ⟨more, e⟩ := un.tbls b #[] (Ht b m)
      exact ⟨_, hok2 b _ e⟩
    have kept : ∀ b o, b ∉ cs.map (·.2) → z.heap.get? b = some o → y.heap.get? b = some o := fun b o m e => by
      by_cases hba : b = a ∧ K.lookup a = none
      · obtain ⟨rfl, h2⟩ := hba
        obtain ⟨e2, _⟩ := hok2 b _ (un.frzs b ob _ (Ha h2))
        rw [ha] at e
        cases e
        exact e2
      · exact un.keep b o e (Hn b hba m) (fun q => nomatch q) (fun q => nomatch q)
    refine ⟨rfl, ⟨fun b o e => ?_, fun b o e => ?_⟩, os, bare⟩
    · by_cases m : b ∈ cs.map (·.2)
      · obtain ⟨p, hp, rfl⟩ := List.mem_map.mp m
        obtain ⟨more, hm⟩ := grown _ m
        cases (hT p hp).symm.trans e
        exact .inr (.inl ⟨((CH p hp).tab (hT p hp)).isCodeTable, rfl, #[], more, rfl, by rw [Array.empty_append]; exact hm⟩)
      · exact .inl (kept b o m e)
    · by_cases m : b ∈ cs.map (·.2)
      · obtain ⟨more, hm⟩ := grown _ m
        exact ⟨_, hm⟩
      · exact ⟨o, kept b o m e⟩
/-- what the top tells of a def's code object and its table -/
def TabOf (q : Program) (K : PySem.W.Frag) (h : Heap) : Prop := ∀ (d : DefRec) (x : Str) (c P : Addr), (recsOf q).find? (fun e => e.name == x) = some d → PySem.W.tabIn K x = some (c, P) → PySem.W.CodeHd h c P ∧ h.get? P = some tab0
def LawT (l : PySem.W.OpenLaw) (w : World) (K : PySem.W.Frag) (k n : Nat) (x : Str) (mg : Str → Option Value) (fa : Addr) (h : Heap) : Prop :=
  ∃ (fd : FuncData) (cs : List (Addr × Addr)) (sp : Sp), (∀ p ∈ cs, K.lookup p.2 = none ∧ PySem.W.CodeHd h p.1 p.2 ∧ h.get? p.2 = some tab0) ∧ (∀ (s : Shared) (u : Value), BindsTo s fd ⟨[u], []⟩ [(x, u)]) ∧
    (∀ (H : Hp) (a : Addr) (ns : List Int), ns.length ≤ n → (∀ p ∈ cs, H p.2 = some (.tbl #[])) → SqL K H a (ns.map V.int) → sp [.ref a] H (fun v _ => v = .bl true) fun _ _ _ => False) ∧
    ∀ base : Heap, K.In base → base.Ns mainGlobals mg → (∀ p ∈ cs, TabB base mg p.1 p.2) → FnG l.prog w K mg base CX0 k fa fd [x] sp
theorem walk_ofTG {l : PySem.W.OpenLaw} {n k : Nat} {q : Program} {loose : List Str} {XP : (Str → Option Value) → Heap → Prop} {YP : World → Heap → Prop} {d : DefRec} {K : Params → PySem.W.Frag} {x : Str}
    (hn : l.most = some n) (hn2 : n ≤ sizeLine) (hdf : d.params.defaults = []) (hr : Room k callerA) (hY : ∀ (w : World) (h : Heap), YP w h → (K w.params).In h)
    (F : ∀ (w : World) (mg : Str → Option Value) (fa : Addr) (h : Heap), (K w.params).In h → h.Ns mainGlobals mg → mg d.name = some (.ref fa) → TabOf q (K w.params) h → LawT l w (K w.params) k n x mg fa h) :
    PySem.W.WalkO q loose XP YP l.row.toRowW d [] (fun f vs => PySem.call f vs) :=
  Att.attach_call hn hdf fun w _ s1 mg mb fa o pm cd doc a vs ns G Y ho hd hcd hmg hobj hints hlen hg => by
    have KX := hY w _ Y
    obtain ⟨fd, cs, sp, hc, hb, hsp, hF⟩ := F w mg fa _ KX G.T.g hmg fun d x c P h1 h2 => PySem.W.tab_of G.T KX h1 h2
    exact law_goT KX G.T.g G.T.b G.T.builtins G.T.nolimit hg (fun p hp => (hc p hp).2.2) (fun p hp => (hc p hp).1) (fun p hp => (hc p hp).2.1) G.T.bmain hobj hints (Nat.le_trans hlen hn2) hr hF hb fun H hH hS => hsp H a ns hlen hH hS
end LamD
namespace LamD
open PySem L2 LamX
/-- a def's code object and its table, in the written part -/
theorem tab_mk {K : PySem.W.Frag} {x : Str} {f c P : Addr} {oc oc2 : Value} {od od2 : Option Addr} {fd : FuncData} {sl sl2 : Array (Option Value)} {vs : Array Value} (a : PySem.W.nsIn K mainGlobals x = some (some (.ref f))) (l : K.lookup f = some ⟨oc, od, .func fd, sl⟩)
    (hc : fd.code = .ref c) (cl : K.lookup c = some ⟨oc2, od2, .fields vs, sl2⟩) (hv : (vs[11]? : Option Value) = some (.ref P)) : PySem.W.tabIn K x = some (c, P) := by
  unfold PySem.W.tabIn
  rw [a]
  simp only
  rw [l]
  simp only
  rw [hc]
  simp only
  rw [cl]
  simp only
  rw [hv]
end LamD
namespace L2
open PySem PySem.Spec PyProof.Rows
/-- isinstance(e, c), e a kept error, c an own class or a built-in type -/
def rIsX (K : PySem.W.Frag) : List V → Hp → VK → Prop := fun xs H Q => ∃ (a C dd : Addr) (fs : List (Str × V)) (c : V) (cv : Value) (b : Bool), xs = [.ref a, c] ∧ H a = some (held a (.ref C) (some dd)) ∧ H dd = some (.xd fs) ∧ ExcC K C ∧ ClsV c cv ∧ PySem.W.kitOne K (.ref C) cv = some b ∧ Q (.bl b) H
theorem call_isX {X : Cx} : CallR X (.builtin "isinstance") (rIsX X.K) := by
  intro pins s σ H xs us Q I r h
  obtain ⟨a, C, dd, fs, c, cv, b, rfl, h1, h2, T, k, e, q⟩ := h
  obtain ⟨u1, u2, rfl, r1, r2⟩ := vals2 r
  cases (show u1 = Value.ref a from r1)
  have e2 := k.eq r2
  subst e2
  obtain ⟨oe, od, mA, J, _, _⟩ := held_get I h1 h2
  obtain ⟨cd, hcd, _⟩ := PySem.W.any_some T.hd
  exact PySem.W.kia_one (PySem.W.kitx_exc (by rw [hcd]; rfl) T.hg T.hk T.hs T.ha T.hn T.ht T.hm) I.kIn J e (fun z => nomatch z) fun tk => ⟨.bl b, H, I.kept (t' := tk) fun _ _ z => z, rfl, q⟩
/-- isinstance(e, (c1, c2, ..)) -/
def rIsXT (K : PySem.W.Frag) : List V → Hp → VK → Prop := fun xs H Q => ∃ (a C dd : Addr) (fs : List (Str × V)) (tp : Addr) (cs : List V) (cvs : List Value) (b : Bool), xs = [.ref a, .ref tp] ∧ H a = some (held a (.ref C) (some dd)) ∧ H dd = some (.xd fs) ∧ ExcC K C ∧ H tp = some (.tup cs) ∧
  Paired ClsV cs cvs ∧ PySem.W.kitAny K (.ref C) cvs = some b ∧ Q (.bl b) H
theorem call_isXT {X : Cx} : CallR X (.builtin "isinstance") (rIsXT X.K) := by
  intro pins s σ H xs us Q I r h
  obtain ⟨a, C, dd, fs, tp, cs, ws, b, rfl, h1, h2, T, hT, k, e, q⟩ := h
  obtain ⟨u1, u2, rfl, r1, r2⟩ := vals2 r
  cases (show u1 = Value.ref a from r1)
  cases (show u2 = Value.ref tp from r2)
  obtain ⟨oe, od, mA, J, _, _⟩ := held_get I h1 h2
  obtain ⟨cd, hcd, _⟩ := PySem.W.any_some T.hd
  obtain ⟨_, its, rv, o, g1, g2, n, g3⟩ := (show ObjOk X.prog X.w H s.heap tp (.tup cs) from I.hok tp _ hT)
  have e3 := ClsV.all k rv
  subst e3
  obtain ⟨oc, od2, dt, sl⟩ := o
  simp only at g2 g3
  subst g2 g3
  exact PySem.W.kia_tup (PySem.W.kitx_exc (by rw [hcd]; rfl) T.hg T.hk T.hs T.ha T.hn T.ht T.hm) I.kIn J g1 e (fun z => nomatch z) fun tk => ⟨.bl b, H, I.kept (t' := tk) fun _ _ z => z, rfl, q⟩
section
variable {K : PySem.W.Frag} {H : Hp} {Q : VK}
theorem g_isX {a C dd : Addr} {fs : List (Str × V)} {c : V} {cv : Value} {b : Bool} (h1 : H a = some (held a (.ref C) (some dd))) (h2 : H dd = some (.xd fs)) (T : ExcC K C) (k : ClsV c cv) (e : PySem.W.kitOne K (.ref C) cv = some b) (q : Q (.bl b) H) : rIsX K [.ref a, c] H Q := ⟨a, C, dd, fs, c, cv, b, rfl, h1, h2, T, k, e, q⟩
theorem g_isXT {a C dd tp : Addr} {fs : List (Str × V)} {cs : List V} {cvs : List Value} {b : Bool} (h1 : H a = some (held a (.ref C) (some dd))) (h2 : H dd = some (.xd fs)) (T : ExcC K C) (ht : H tp = some (.tup cs)) (k : Paired ClsV cs cvs) (e : PySem.W.kitAny K (.ref C) cvs = some b) (q : Q (.bl b) H) : rIsXT K [.ref a, .ref tp] H Q := ⟨a, C, dd, fs, tp, cs, cvs, b, rfl, h1, h2, T, ht, k, e, q⟩
end
end L2
namespace XS
open PySem PySem.W
/-- a built-in class -/
theorem kit_ty {K : Frag} {C : Addr} {n : String} {b : Bool} (hm : kitMeta n = true) (hs : subIn K (.ref C) (.type n) = some b) : kitOne K (.ref C) (.type n) = some b := by
  unfold kitOne
  rw [if_neg (show ¬ (Value.ref C == Value.type n) = true from Bool.false_ne_true)]
  show (if kitMeta n = true then subIn K (.ref C) (.type n) else none) = some b
  rw [if_pos hm, hs]
theorem kit_any_f {K : Frag} {t c : Value} {r : List Value} {b : Bool} (h : kitOne K t c = some false) (k : kitAny K t r = some b) : kitAny K t (c :: r) = some b := by
  unfold kitAny
  rw [h]
  exact k
end XS
namespace L2
open PySem PySem.Spec PyProof.Rows
/-! ### list.count of a bool among bools -/
def eqb (b : Bool) (v : Value) : Bool := match v with
  | .bool c => c == b
  | _ => false
theorem eqb_at {A : Around} {s : Shared} {b : Bool} : ∀ {bs : List Bool} {us : List Value}, Vals (bs.map V.bl) us → ∀ y ∈ us, SeqAt.EqAt A s y (.bool b) (eqb b y)
  | [], _, .nil => fun y hy => by cases hy
  | c :: r, _, .cons rc h => fun y hy => by
    cases (show _ = Value.bool c from rc)
    rcases List.mem_cons.mp hy with e | e
    · rw [e]
      exact SeqAt.EqAt.bool_bool c b
    · exact eqb_at h y e
theorem eqb_count {b : Bool} : ∀ {bs : List Bool} {us : List Value}, Vals (bs.map V.bl) us → us.countP (eqb b) = bs.count b
  | [], _, .nil => rfl
  | c :: r, _, .cons rc h => by
    cases (show _ = Value.bool c from rc)
    have ih := eqb_count (b := b) h
    rw [List.countP_cons, List.count_cons, ih] <;> rfl
def rCntB (K : PySem.W.Frag) : V → List V → Hp → VK → Prop := fun x xs H Q => ∃ (p : Addr) (bs : List Bool) (b : Bool), x = .ref p ∧ xs = [.bl b] ∧ SqL K H p (bs.map V.bl) ∧ Q (.int (bs.count b : Nat)) H
theorem mt_lcountB {X : Cx} : MtR X "list.count" (rCntB X.K) := by
  intro pins s σ H x xs v us Q I rx rxs h
  obtain ⟨p, bs, b, rfl, rfl, hs, q⟩ := h
  cases rx
  obtain ⟨u, rfl, ru⟩ := rxs.one
  cases (show u = Value.bool b from ru)
  obtain ⟨its, rv, ⟨⟨cls, dd, data, sl⟩, n, ho, hc, hdn, hd⟩, hlen⟩ := I.list hs
  simp only at hc hd
  subst hc hd
  refine call_meets PySem.F.slot_list_count ⟨_, ho, rfl⟩ PySem.F.entry_list_count (PySem.F.args_list_count_2 _ _)
    (SeqAt.list_countAt p its.toArray n dd sl (.bool b) (eqb b)) ⟨ho, fun y hy => eqb_at rv y (by simpa using hy), ?_⟩
  have ec : its.toArray.toList.countP (eqb b) = bs.count b := eqb_count rv
  refine ⟨.int (bs.count b : Nat), H, I.tok _, ⟨s.toks, ?_⟩, q⟩
  show Value.int ((its.toArray.toList.countP (eqb b) : Nat) : Int) s.toks = Value.int ((bs.count b : Nat) : Int) s.toks
  rw [ec]
theorem g_cntB {K : PySem.W.Frag} {H : Hp} {Q : VK} {p : Addr} {xs : List V} {b : Bool} (bs : List Bool) (e : xs = bs.map V.bl) (h : SqL K H p xs) (q : Q (.int (bs.count b : Nat)) H) : rCntB K (.ref p) [.bl b] H Q := ⟨p, bs, b, rfl, rfl, e ▸ h, q⟩
end L2
namespace Cal
/-! the calendar -/
def leap (y : Int) : Bool := decide (y % 4 = 0) && ((!decide (y % 100 = 0)) || decide (y % 400 = 0))
def lens : List Int := [31, 28, 31, 30, 31, 30, 31, 31, 30, 31, 30, 31]
def len (y m : Int) : Int := if m = 2 ∧ leap y = true then 29 else lens.getD (m - 1).toNat 0
def first (y : Int) : Int := 365 * (y - 1) + (y - 1) / 4 - (y - 1) / 100 + (y - 1) / 400 + 1
def bef (y : Int) : Nat → Int
  | 0 => 0
  | k + 1 => bef y k + len y (1 + (k : Int))
def dayNo (y m d : Int) : Int := first y + bef y (m - 1).toNat + d - 1
def dim (y : Int) : Int := if leap y = true then 366 else 365
theorem leap_iff {y : Int} : leap y = true ↔ y % 4 = 0 ∧ (¬ y % 100 = 0 ∨ y % 400 = 0) := by
  unfold leap
  rw [Bool.and_eq_true, Bool.or_eq_true, Bool.not_eq_true', decide_eq_true_iff, decide_eq_true_iff, decide_eq_false_iff_not]
theorem first_succ (y : Int) : first (y + 1) = first y + dim y := by
  unfold first dim
  by_cases h : leap y = true
  · rw [if_pos h]
    have := leap_iff.mp h
    omega
  · rw [if_neg h]
    have : ¬ (y % 4 = 0 ∧ (¬ y % 100 = 0 ∨ y % 400 = 0)) := fun z => h (leap_iff.mpr z)
    omega
theorem first_one : first 1 = 1 := by decide
theorem bef_leap {y : Int} (h : leap y = true) : ∀ k, k ≤ 12 → bef y k = [0, 31, 60, 91, 121, 152, 182, 213, 244, 274, 305, 335, 366].getD k 0 := by
  intro k hk
  have e : ∀ m : Int, len y m = if m = 2 then 29 else lens.getD (m - 1).toNat 0 := fun m => by
    unfold len
    by_cases q : m = 2
    · rw [if_pos ⟨q, h⟩, if_pos q]
    · rw [if_neg (fun z => q z.1), if_neg q]
  have : ∀ k, bef y k = (List.range k).foldl (fun (a : Int) (j : Nat) => a + (if (1 + (j : Int)) = 2 then 29 else lens.getD ((1 + (j : Int)) - 1).toNat 0)) 0 := by
    intro k
    induction k with
    | zero => rfl
    | succ k ih => rw [List.range_succ, List.foldl_append, ← ih, bef, e]; rfl
  rw [this]
  revert hk
  revert k
  decide
theorem bef_flat {y : Int} (h : ¬ leap y = true) : ∀ k, k ≤ 12 → bef y k = [0, 31, 59, 90, 120, 151, 181, 212, 243, 273, 304, 334, 365].getD k 0 := by
  intro k hk
  have e : ∀ m : Int, len y m = lens.getD (m - 1).toNat 0 := fun m => by
    unfold len
    rw [if_neg (fun z => h z.2)]
  have : ∀ k, bef y k = (List.range k).foldl (fun (a : Int) (j : Nat) => a + (lens.getD ((1 + (j : Int)) - 1).toNat 0)) 0 := by
    intro k
    induction k with
    | zero => rfl
    | succ k ih => rw [List.range_succ, List.foldl_append, ← ih, bef, e]; rfl
  rw [this]
  revert hk
  revert k
  decide
theorem bef12 (y : Int) : bef y 12 = dim y := by
  unfold dim
  by_cases h : leap y = true
  · rw [bef_leap h 12 (by decide), if_pos h]; rfl
  · rw [bef_flat h 12 (by decide), if_neg h]; rfl
theorem len_pos {y m : Int} (h1 : 1 ≤ m) (h2 : m ≤ 12) : 28 ≤ len y m ∧ len y m ≤ 31 := by
  unfold len
  by_cases h : m = 2 ∧ leap y = true
  · rw [if_pos h]; decide
  · rw [if_neg h]
    obtain ⟨k, rfl⟩ : ∃ k : Nat, m = 1 + (k : Int) := ⟨(m - 1).toNat, by omega⟩
    have hk : k < 12 := by omega
    have : (1 + (k : Int) - 1).toNat = k := by omega
    rw [this]
    clear this h h1 h2
    revert k
    decide
theorem bef_mono {y : Int} {j k : Nat} (h : j ≤ k) (hk : k ≤ 12) : bef y j ≤ bef y k := by
  obtain ⟨n, rfl⟩ := Nat.exists_eq_add_of_le h
  induction n with
  | zero => exact Int.le_refl _
  | succ n ih =>
    have := ih (by omega) (by omega)
    rw [show j + (n + 1) = (j + n) + 1 from rfl, bef]
    have := (len_pos (y := y) (m := 1 + ((j + n : Nat) : Int)) (by omega) (by omega)).1
    omega
theorem bef_nonneg {y : Int} {k : Nat} (hk : k ≤ 12) : 0 ≤ bef y k := bef_mono (Nat.zero_le k) hk
/-- the place of a day in its year -/
theorem doy {y m d : Int} (h1 : 1 ≤ m) (h2 : m ≤ 12) (h3 : 1 ≤ d) (h4 : d ≤ len y m) : 0 ≤ bef y (m - 1).toNat + d - 1 ∧ bef y (m - 1).toNat + d - 1 < dim y := by
  have e : bef y ((m - 1).toNat + 1) = bef y (m - 1).toNat + len y m := by rw [bef]; rw [show 1 + (((m - 1).toNat : Nat) : Int) = m by omega]
  have := bef_nonneg (y := y) (k := (m - 1).toNat) (by omega)
  have b := bef_mono (y := y) (j := (m - 1).toNat + 1) (k := 12) (by omega) (by decide)
  rw [bef12, e] at b
  omega
/-- the year of a number -/
def yearOf (n : Int) : Int :=
  let f := (n - 1) / 146097
  let r := (n - 1) % 146097
  let c := if 3 < r / 36524 then 3 else r / 36524
  let r2 := r - c * 36524
  let l := r2 / 1461
  let r3 := r2 % 1461
  f * 400 + c * 100 + l * 4 + (if 3 < r3 / 365 then 3 else r3 / 365) + 1
theorem year_of {y k : Int} (h0 : 1 ≤ y) (hk0 : 0 ≤ k) (hk : k < dim y) : yearOf (first y + k) = y := by
  -- y - 1 = 400 q + 100 c + 4 l + r
  obtain ⟨q, c, l, r, e, c0, c3, l0, l24, r0, r3⟩ : ∃ q c l r : Int, y - 1 = 400 * q + 100 * c + 4 * l + r ∧ 0 ≤ c ∧ c ≤ 3 ∧ 0 ≤ l ∧ l ≤ 24 ∧ 0 ≤ r ∧ r ≤ 3 :=
    ⟨(y - 1) / 400, (y - 1) % 400 / 100, (y - 1) % 100 / 4, (y - 1) % 4, by omega, by omega, by omega, by omega, by omega, by omega, by omega⟩
  have hq : 0 ≤ q := by omega
  have ey : y = 400 * q + 100 * c + 4 * l + r + 1 := by omega
  have d4 : (y - 1) / 4 = 100 * q + 25 * c + l := by omega
  have d100 : (y - 1) / 100 = 4 * q + c := by omega
  have d400 : (y - 1) / 400 = q := by omega
  have hf : first y = 146097 * q + 36524 * c + 1461 * l + 365 * r + 1 := by
    unfold first
    rw [d4, d100, d400]
    omega
  -- the last day of a leap year
  have lp : dim y = 366 → r = 3 ∧ (l < 24 ∨ c = 3) := fun h => by
    have h' : leap y = true := by
      unfold dim at h
      by_cases z : leap y = true
      · exact z
      · rw [if_neg z] at h; cases h
    have := leap_iff.mp h'
    omega
  have hk2 : k < 365 ∨ (k = 365 ∧ r = 3 ∧ (l < 24 ∨ c = 3)) := by
    have : dim y = 365 ∨ dim y = 366 := by unfold dim; by_cases z : leap y = true <;> simp [z]
    rcases this with z | z
    · left; omega
    · by_cases w : k < 365
      · exact .inl w
      · exact .inr ⟨by omega, (lp z).1, (lp z).2⟩
  unfold yearOf
  rw [hf]
  have e1 : (146097 * q + 36524 * c + 1461 * l + 365 * r + 1 + k - 1) / 146097 = q := by omega
  have e2 : (146097 * q + 36524 * c + 1461 * l + 365 * r + 1 + k - 1) % 146097 = 36524 * c + 1461 * l + 365 * r + k := by omega
  rw [e1, e2]
  have e3 : (if 3 < (36524 * c + 1461 * l + 365 * r + k) / 36524 then 3 else (36524 * c + 1461 * l + 365 * r + k) / 36524) = c := by
    split <;> omega
  dsimp only
  rw [e3]
  have e4 : (36524 * c + 1461 * l + 365 * r + k - c * 36524) / 1461 = l := by omega
  have e5 : (36524 * c + 1461 * l + 365 * r + k - c * 36524) % 1461 = 365 * r + k := by omega
  rw [e4, e5]
  have e6 : (if 3 < (365 * r + k) / 365 then 3 else (365 * r + k) / 365) = r := by
    split <;> omega
  rw [e6]
  omega
theorem dim_le (y : Int) : 365 ≤ dim y ∧ dim y ≤ 366 := by unfold dim; by_cases z : leap y = true <;> simp [z]
theorem first_mono {y z : Int} (h0 : 1 ≤ y) (h : y ≤ z) : first y ≤ first z := by unfold first; omega
theorem first_bound {y : Int} (h0 : 1 ≤ y) (h : y ≤ 9999) : 1 ≤ first y ∧ first y + dim y ≤ 3652060 := by
  have a := first_mono (y := 1) (z := y) (by decide) h0
  have b := first_mono (y := y + 1) (z := 10000) (by omega) (by omega)
  rw [first_one] at a
  rw [first_succ] at b
  have : first 10000 = 3652060 := by decide
  omega
theorem dayNo_bound {y m d : Int} (h0 : 1 ≤ y) (h : y ≤ 9999) (h1 : 1 ≤ m) (h2 : m ≤ 12) (h3 : 1 ≤ d) (h4 : d ≤ len y m) : 1 ≤ dayNo y m d ∧ dayNo y m d ≤ 3652059 := by
  have := doy h1 h2 h3 h4
  have := first_bound h0 h
  unfold dayNo
  omega
theorem year_dayNo {y m d : Int} (h0 : 1 ≤ y) (h1 : 1 ≤ m) (h2 : m ≤ 12) (h3 : 1 ≤ d) (h4 : d ≤ len y m) : yearOf (dayNo y m d) = y := by
  have := doy h1 h2 h3 h4
  rw [show dayNo y m d = first y + (bef y (m - 1).toNat + d - 1) by unfold dayNo; omega]
  exact year_of h0 this.1 this.2
/-- the next day -/
def next (y m d : Int) : Int × Int × Int := if d < len y m then (y, m, d + 1) else if m < 12 then (y, m + 1, 1) else (y + 1, 1, 1)
def ok (y m d : Int) : Prop := 1 ≤ y ∧ y ≤ 9999 ∧ 1 ≤ m ∧ m ≤ 12 ∧ 1 ≤ d ∧ d ≤ len y m
theorem next_ok {y m d : Int} (h : ok y m d) : (next y m d).1 = 10000 ∧ dayNo y m d = 3652059 ∨ (¬ (next y m d).1 = 10000) ∧ ok (next y m d).1 (next y m d).2.1 (next y m d).2.2 ∧ dayNo (next y m d).1 (next y m d).2.1 (next y m d).2.2 = dayNo y m d + 1 := by
  obtain ⟨a, b, c, e, f, g⟩ := h
  unfold next
  by_cases h1 : d < len y m
  · rw [if_pos h1]
    refine .inr ⟨by show ¬ y = 10000; omega, ⟨a, b, c, e, by show 1 ≤ d + 1; omega, by show d + 1 ≤ len y m; omega⟩, ?_⟩
    show dayNo y m (d + 1) = _
    unfold dayNo
    omega
  · rw [if_neg h1]
    have el : bef y ((m - 1).toNat + 1) = bef y (m - 1).toNat + len y m := by rw [bef]; rw [show 1 + (((m - 1).toNat : Nat) : Int) = m by omega]
    by_cases h2 : m < 12
    · rw [if_pos h2]
      refine .inr ⟨by show ¬ y = 10000; omega, ⟨a, b, by show 1 ≤ m + 1; omega, by show m + 1 ≤ 12; omega, Int.le_refl 1, ?_⟩, ?_⟩
      · show 1 ≤ len y (m + 1)
        have := (len_pos (y := y) (m := m + 1) (by omega) (by omega)).1
        omega
      · show dayNo y (m + 1) 1 = _
        unfold dayNo
        rw [show (m + 1 - 1).toNat = (m - 1).toNat + 1 by omega, el]
        omega
    · rw [if_neg h2]
      have em : m = 12 := by omega
      subst em
      have b12 : bef y 12 = bef y 11 + len y 12 := el
      rw [bef12] at b12
      have ed : d = len y 12 := by omega
      have e2 : dayNo (y + 1) 1 1 = dayNo y 12 d + 1 := by
        unfold dayNo
        rw [first_succ]
        show first y + dim y + 0 + 1 - 1 = first y + bef y 11 + d - 1 + 1
        omega
      by_cases h3 : y + 1 = 10000
      · refine .inl ⟨h3, ?_⟩
        have : dayNo (y + 1) 1 1 = 3652060 := by rw [h3]; decide
        omega
      · refine .inr ⟨h3, ⟨by show 1 ≤ y + 1; omega, by show y + 1 ≤ 9999; omega, Int.le_refl 1, (show (1:Int) ≤ 12 by decide), Int.le_refl 1, ?_⟩, e2⟩
        show 1 ≤ len (y + 1) 1
        have := (len_pos (y := y + 1) (m := 1) (by omega) (by omega)).1
        omega
end Cal
namespace Cal
theorem bef_sum' (y : Int) (n : Nat) : ((List.range n).map fun i : Nat => len y (1 + (i : Int))).sum = bef y n := by
  induction n with
  | zero => rfl
  | succ n ih => rw [List.range_succ, List.map_append, List.sum_append, ih, bef]; simp
theorem bef_sum (y m : Int) : ((List.range (m - 1).toNat).map fun i : Nat => len y (1 + (i : Int))).sum = bef y (m - 1).toNat := bef_sum' y _
end Cal
namespace Cal
theorem len2' (y : Int) : len y 2 = 29 ↔ leap y = true := by
  unfold len
  by_cases h : leap y = true
  · rw [if_pos ⟨rfl, h⟩]; exact ⟨fun _ => h, fun _ => rfl⟩
  · rw [if_neg (fun z => h z.2)]; exact ⟨fun z => absurd z (by decide), fun z => absurd z h⟩
end Cal
namespace Cal
open PySem L2
/-! promises of the calendar -/
def spHas29 : Sp := fun vs H Q _ => ∃ y : Int, vs = [.int y] ∧ Q (.bl (leap y)) H
def spLen : Sp := fun vs H Q _ => ∃ y m : Int, vs = [.int y, .int m] ∧ 1 ≤ m ∧ m ≤ 12 ∧ Q (.int (len y m)) H
def spFirst : Sp := fun vs H Q _ => ∃ y : Int, vs = [.int y] ∧ Q (.int (first y)) H
def spYearOf : Sp := fun vs H Q _ => ∃ n : Int, vs = [.int n] ∧ ∀ H', Same H H' → Q (.int (yearOf n)) H'
def inNo (n : Int) : Bool := decide (1 ≤ n) && decide (n ≤ 3652059)
def spIsNo : Sp := fun vs H Q _ => ∃ n : Int, vs = [.int n] ∧ Q (.bl (inNo n)) H
def spCheckYear : Sp := fun vs H Q _ => ∃ y : Int, vs = [.int y] ∧ 1 ≤ y ∧ y ≤ 9999 ∧ Q .non H
def spIsLeap : Sp := fun vs H Q _ => ∃ y : Int, vs = [.int y] ∧ 1 ≤ y ∧ y ≤ 9999 ∧ Q (.bl (leap y)) H
def spDaysIn : Sp := fun vs H Q _ => ∃ y m : Int, vs = [.int y, .int m] ∧ 1 ≤ y ∧ y ≤ 9999 ∧ 1 ≤ m ∧ m ≤ 12 ∧ Q (.int (len y m)) H
def spDayNo : Sp := fun vs H Q _ => ∃ y m d : Int, vs = [.int y, .int m, .int d] ∧ ok y m d ∧ ∀ H', Same H H' → Q (.int (dayNo y m d)) H'
def spDateOf : Sp := fun vs H Q _ => ∃ y m d : Int, vs = [.int (dayNo y m d)] ∧ ok y m d ∧ ∀ H' p, Same H H' → H' p = some (.tup [.int y, .int m, .int d]) → Q (.ref p) H'
def spWeekday : Sp := fun vs H Q _ => ∃ n : Int, vs = [.int n] ∧ 1 ≤ n ∧ n ≤ 3652059 ∧ Q (.int ((n - 1) % 7)) H
def spLLen : Sp := fun vs H Q _ => ∃ y m : Int, vs = [.int y, .int m] ∧ 1 ≤ m ∧ m ≤ 12 ∧ ∀ H', Same H H' → Q (.int (len y m)) H'
def spLNext : Sp := fun vs H Q _ => ∃ y m d : Int, vs = [.int y, .int m, .int d] ∧ ok y m d ∧ ∀ H' p, Same H H' → H' p = some (.tup [.int (next y m d).1, .int (next y m d).2.1, .int (next y m d).2.2]) → Q (.ref p) H'
def spLYear : Sp := fun vs H Q _ => ∃ (d l : Addr) (k : Nat), vs = [.ref d] ∧ Dr.Draw H d l k ∧ k < 900000 ∧ ∀ (y : Int) H', 1 ≤ y → y ≤ 9999 → Dr.Draw H' d l (k + 2) → Dr.Kp d H H' → Q (.int y) H'
def spLDate : Sp := fun vs H Q _ => ∃ (a l : Addr) (k : Nat), vs = [.ref a] ∧ Dr.Draw H a l k ∧ k < 900000 ∧ ∀ (y m d : Int) (p : Addr) H', ok y m d → Dr.Draw H' a l (k + 6) → Dr.Kp a H H' → p ≠ a → H' p = some (.tup [.int y, .int m, .int d]) → Q (.ref p) H'
def spDayRight : Sp := fun vs H Q _ => ∃ (p : Addr) (y m d : Int), vs = [.ref p] ∧ H p = some (.tup [.int y, .int m, .int d]) ∧ ok y m d ∧ ∀ H', Same H H' → Q (.bl true) H'
def spLaw (K : PySem.W.Frag) : Sp := fun vs H Q _ => ∃ (a : Addr) (ns : List Int), vs = [.ref a] ∧ SqL K H a (ns.map V.int) ∧ ns.length ≤ 63 ∧ ∀ H', Q (.bl true) H'
theorem lens_at {m : Int} (h1 : 1 ≤ m) (h2 : m ≤ 12) : atI [V.int 31, V.int 28, V.int 31, V.int 30, V.int 31, V.int 30, V.int 31, V.int 31, V.int 30, V.int 31, V.int 30, V.int 31] (m - 1) = some (.int (lens.getD (m - 1).toNat 0)) := by
  obtain ⟨k, rfl⟩ : ∃ k : Nat, m = (k : Int) + 1 := ⟨(m - 1).toNat, by omega⟩
  have hk : k < 12 := by omega
  rw [show (k : Int) + 1 - 1 = (k : Int) by omega]
  refine atI_nat ?_
  clear h1 h2
  rw [Int.toNat_natCast]
  revert k
  decide
end Cal
namespace Cal
open PySem L2
theorem len2 (y : Int) : decide (V.int (len y 2) = V.int 29) = leap y := by
  cases h : leap y with
  | true => exact decide_eq_true (by rw [(len2' y).mpr h])
  | false => exact decide_eq_false fun z => by have := (len2' y).mp (V.int.inj z); rw [h] at this; cases this
def spLNo : Sp := fun vs H Q _ => ∃ y m d : Int, vs = [.int y, .int m, .int d] ∧ ok y m d ∧ ∀ H', Same H H' → Q (.int (dayNo y m d)) H'
theorem len30 {m : Int} (h1 : 1 ≤ m) (h2 : m ≤ 12) (c : inV (.int m) [V.int 4, V.int 6, V.int 9, V.int 11] = true) : lens.getD (m - 1).toNat 0 = 30 := by
  obtain ⟨k, rfl⟩ : ∃ k : Nat, m = (k : Int) + 1 := ⟨(m - 1).toNat, by omega⟩
  have hk : k < 12 := by omega
  rw [show ((k : Int) + 1 - 1).toNat = k by omega]
  have : ∀ k : Nat, k < 12 → inV (.int ((k : Int) + 1)) [V.int 4, V.int 6, V.int 9, V.int 11] = true → lens.getD k 0 = 30 := by decide
  exact this k hk c
theorem len31 {m : Int} (h1 : 1 ≤ m) (h2 : m ≤ 12) (h3 : ¬ m = 2) (c : inV (.int m) [V.int 4, V.int 6, V.int 9, V.int 11] = false) : lens.getD (m - 1).toNat 0 = 31 := by
  obtain ⟨k, rfl⟩ : ∃ k : Nat, m = (k : Int) + 1 := ⟨(m - 1).toNat, by omega⟩
  have hk : k < 12 := by omega
  rw [show ((k : Int) + 1 - 1).toNat = k by omega]
  have : ∀ k : Nat, k < 12 → ¬ ((k : Int) + 1 = 2) → inV (.int ((k : Int) + 1)) [V.int 4, V.int 6, V.int 9, V.int 11] = false → lens.getD k 0 = 31 := by decide
  exact this k hk h3 c
end Cal
namespace Cal
open PySem L2
def isYr : V → Bool
  | .int i => decide (1 ≤ i ∧ i ≤ 9999)
  | _ => false
theorem isYr_of {v : V} (h : isYr v = true) : ∃ y, v = .int y ∧ 1 ≤ y ∧ y ≤ 9999 := by
  cases v with
  | int i => exact ⟨i, rfl, of_decide_eq_true h⟩
  | _ => cases h
def isMo : V → Bool
  | .int i => decide (1 ≤ i ∧ i ≤ 12)
  | _ => false
theorem isMo_of {v : V} (h : isMo v = true) : ∃ y, v = .int y ∧ 1 ≤ y ∧ y ≤ 12 := by
  cases v with
  | int i => exact ⟨i, rfl, of_decide_eq_true h⟩
  | _ => cases h
theorem allMo {r : Int} (h0 : 0 ≤ r) (h1 : r < 12) : [V.int 1, V.int 2, V.int 2, V.int 3, V.int 12, V.int (1 + r)].all isMo = true := by
  simp only [List.all_cons, List.all_nil, isMo, Bool.and_true, Bool.and_eq_true, decide_eq_true_eq]
  omega
section
variable {K : PySem.W.Frag} {H : Hp} {p : Addr} {n y m d : Int}
theorem dp2 (e : H p = some (.lst [.int n, .int n])) : Dp K H (.ref p) (.list [.int n, .int n]) := .lst (SqL.of e) (.cons (.int _) (.cons (.int _) .nil))
theorem dp3 (e : H p = some (.tup [.int y, .int m, .int d])) : Dp K H (.ref p) (.tuple [.int y, .int m, .int d]) := .tup (SqT.of e) (.cons (.int _) (.cons (.int _) (.cons (.int _) .nil)))
theorem sml2 (hb : 1 ≤ n ∧ n ≤ 3652059) : Sml (.list [.int n, .int n]) := by
  simp only [Sml, SmlAll]
  exact ⟨by omega, by omega, trivial⟩
theorem sh2 (hb : 1 ≤ n ∧ n ≤ 3652059) : shows (.list [.int n, .int n]) := shows_sml (sml2 hb) (by simp [wgt, wgtAll]) (by simp [PyData.depth, PyData.depthAll])
theorem sml3 (k : ok y m d) : Sml (.tuple [.int y, .int m, .int d]) := by
  obtain ⟨h1, h2, h3, h4, h5, h6⟩ := k
  have := len_pos (y := y) h3 h4
  simp only [Sml, SmlAll]
  exact ⟨by omega, by omega, by omega, trivial⟩
theorem sh3 (k : ok y m d) : shows (.tuple [.int y, .int m, .int d]) := shows_sml (sml3 k) (by simp [wgt, wgtAll]) (by simp [PyData.depth, PyData.depthAll])
theorem shp3 (k : ok y m d) : SeqAt.shaped (.tuple [.int y, .int m, .int d]) = true := shaped_sml (sml3 k) (by simp [PyData.depth, PyData.depthAll])
theorem eqv3 : PyData.eqv (.tuple [.int y, .int m, .int d]) (.tuple [.int y, .int m, .int d]) = true := by simp [PyData.eqv, PyData.eqvAll]
end
end Cal
namespace Cal
open PySem L2
section
variable {K : PySem.W.Frag} {H : Hp} {p : Addr} {n y m d : Int} {b : Bool}
theorem shb (b : Bool) : shows (.bool b) := shows_sml (by simp only [Sml]) (by simp [wgt]) (by simp [PyData.depth])
theorem dpw (e : H p = some (.lst [.int ((n - 1) % 7), .int ((n - 1) % 7)])) : Dp K H (.ref p) (.list [.int ((n - 1) % 7), .int ((n - 1) % 7)]) := dp2 e
theorem shpw (hb : 1 ≤ n ∧ n ≤ 3652059) : SeqAt.shaped (.list [.int ((n - 1) % 7), .int ((n - 1) % 7)]) = true := shaped_sml (by simp only [Sml, SmlAll]; exact ⟨by omega, by omega, trivial⟩) (by simp [PyData.depth, PyData.depthAll])
theorem eqvw : PyData.eqv (.list [.int ((n - 1) % 7), .int ((n - 1) % 7)]) (.list [.int ((n - 1) % 7), .int ((n - 1) % 7)]) = true := by simp [PyData.eqv, PyData.eqvAll]
theorem dpb (e : H p = some (.lst [.bl b, .bl b])) : Dp K H (.ref p) (.list [.bool b, .bool b]) := .lst (SqL.of e) (.cons (.bl _) (.cons (.bl _) .nil))
theorem shb2 (b : Bool) : shows (.list [.bool b, .bool b]) := shows_sml (by simp only [Sml, SmlAll]; exact ⟨trivial, trivial, trivial⟩) (by simp [wgt, wgtAll]) (by simp [PyData.depth, PyData.depthAll])
def lensOf (y : Int) : List Int := (List.range 12).map fun i : Nat => len y (1 + (i : Int))
theorem dpl (e : H p = some (.lst ((List.range 12).map fun i : Nat => V.int (len y (1 + (i : Int)))))) : Dp K H (.ref p) (.list ((lensOf y).map .int)) := .lst (SqL.of e) (by
  unfold lensOf
  rw [List.map_map]
  generalize List.range 12 = l
  induction l with
  | nil => exact .nil
  | cons a r ih => exact .cons (.int _) ih)
theorem lensOf_cases (y : Int) : lensOf y = [31, 28, 31, 30, 31, 30, 31, 31, 30, 31, 30, 31] ∨ lensOf y = [31, 29, 31, 30, 31, 30, 31, 31, 30, 31, 30, 31] := by
  cases h : leap y with
  | true =>
    refine .inr ?_
    have : ∀ m : Int, len y m = if m = 2 then 29 else lens.getD (m - 1).toNat 0 := fun m => by
      unfold len
      by_cases q : m = 2
      · rw [if_pos ⟨q, h⟩, if_pos q]
      · rw [if_neg (fun z => q z.1), if_neg q]
    unfold lensOf
    simp only [this]
    decide
  | false =>
    refine .inl ?_
    have : ∀ m : Int, len y m = lens.getD (m - 1).toNat 0 := fun m => by
      unfold len
      rw [if_neg (fun z => by rw [h] at z; cases z.2)]
    unfold lensOf
    simp only [this]
    decide
theorem shpl (y : Int) : SeqAt.shaped (.list ((lensOf y).map .int)) = true := by
  rcases lensOf_cases y with h | h <;> rw [h] <;> decide +kernel
theorem eqvl : PyData.eqv (.list ((lensOf y).map .int)) (.list ((lensOf y).map .int)) = true := by
  rcases lensOf_cases y with h | h <;> rw [h] <;> decide +kernel
end
instance (y m d : Int) : Decidable (ok y m d) := inferInstanceAs (Decidable (_ ∧ _))
end Cal
namespace Cal
open PySem L2
theorem dp5 {K : PySem.W.Frag} {H : Hp} {p t u : Addr} {a b c y m d y' m' d' : Int} (e : H p = some (.lst [.int a, .ref t, .int b, .ref u, .int c])) (e1 : H t = some (.tup [.int y, .int m, .int d])) (e2 : H u = some (.tup [.int y', .int m', .int d'])) :
    Dp K H (.ref p) (.list [.int a, .tuple [.int y, .int m, .int d], .int b, .tuple [.int y', .int m', .int d'], .int c]) := .lst (SqL.of e) (.cons (.int _) (.cons (dp3 e1) (.cons (.int _) (.cons (dp3 e2) (.cons (.int _) .nil)))))
end Cal
namespace Cal
open PySem L2
/-! what the calendar refuses -/
def spCheckYearX (C : Addr) : Sp := fun vs H Q E => (∃ v, vs = [v] ∧ AnyO H v ∧ Mk.btw v 1 9999 = false ∧ Pw.Rs H E C "given" v) ∨ spCheckYear vs H Q E
def spIsLeapX (C : Addr) : Sp := fun vs H Q E => (∃ v, vs = [v] ∧ AnyO H v ∧ Mk.btw v 1 9999 = false ∧ Pw.Rs H E C "given" v) ∨ spIsLeap vs H Q E
def spDaysInX (C : Addr) : Sp := fun vs H Q E => (∃ v m, vs = [v, m] ∧ AnyO H v ∧ Mk.btw v 1 9999 = false ∧ Pw.Rs H E C "given" v) ∨
  (∃ (y : Int) (v : V), vs = [.int y, v] ∧ 1 ≤ y ∧ y ≤ 9999 ∧ AnyO H v ∧ Mk.btw v 1 12 = false ∧ Pw.Rs H E C "given" v) ∨ spDaysIn vs H Q E
def spDayNoX (C : Addr) : Sp := fun vs H Q E => (∃ v m d, vs = [v, m, d] ∧ AnyO H v ∧ Mk.btw v 1 9999 = false ∧ Pw.Rs H E C "given" v) ∨
  (∃ (y : Int) (v d : V), vs = [.int y, v, d] ∧ 1 ≤ y ∧ y ≤ 9999 ∧ AnyO H v ∧ Mk.btw v 1 12 = false ∧ Pw.Rs H E C "given" v) ∨
  (∃ (y m : Int) (v : V), vs = [.int y, .int m, v] ∧ 1 ≤ y ∧ y ≤ 9999 ∧ 1 ≤ m ∧ m ≤ 12 ∧ AnyO H v ∧ Mk.btw v 1 (len y m) = false ∧ Pw.Rs H E C "given" v) ∨ spDayNo vs H Q E
def spDateOfX (C : Addr) : Sp := fun vs H Q E => (∃ v, vs = [v] ∧ AnyO H v ∧ Mk.btw v 1 3652059 = false ∧ Pw.Rs H E C "given" v) ∨ spDateOf vs H Q E
def spWeekdayX (C : Addr) : Sp := fun vs H Q E => (∃ v, vs = [v] ∧ AnyO H v ∧ Mk.btw v 1 3652059 = false ∧ Pw.Rs H E C "given" v) ∨ spWeekday vs H Q E
def spIsNoX : Sp := fun vs H Q _ => ∃ v, vs = [v] ∧ AnyO H v ∧ Q (.bl (Mk.btw v 1 3652059)) H
theorem btw_in {n lo hi : Int} (h1 : lo ≤ n) (h2 : n ≤ hi) : Mk.btw (.int n) lo hi = true := by
  show (decide (lo ≤ n) && decide (n ≤ hi)) = true
  rw [decide_eq_true h1, decide_eq_true h2]
  rfl
theorem btw_out {n lo hi : Int} (h : ¬ (lo ≤ n ∧ n ≤ hi)) : Mk.btw (.int n) lo hi = false := by
  show (decide (lo ≤ n) && decide (n ≤ hi)) = false
  by_cases h1 : lo ≤ n
  · rw [decide_eq_false fun z => h ⟨h1, z⟩, Bool.and_false]
  · rw [decide_eq_false h1, Bool.false_and]
end Cal
namespace Pw
open PySem L2 LamX
/-! ### a list to which what is told is appended one by one -/
inductive ObL (H : Hp) (p : Addr) : List HO → List Addr → Prop
  | nil : ObL H p [] []
  | cons {o : HO} {os : List HO} {r : Addr} {rs : List Addr} : H r = some o → (∀ ps, o ≠ .tbl ps) → r ≠ p → ObL H p os rs → ObL H p (o :: os) (r :: rs)
theorem ObL.to {H H' : Hp} {p : Addr} {os : List HO} {rs : List Addr} (h : ObL H p os rs) (k : ∀ r o, r ≠ p → H r = some o → (∀ ps, o ≠ .tbl ps) → H' r = some o) : ObL H' p os rs := by
  induction h with
  | nil => exact .nil
  | cons e n m _ ih => exact .cons (k _ _ m e n) n m ih
theorem ObL.snoc {H : Hp} {p : Addr} {os : List HO} {rs : List Addr} {o : HO} {r : Addr} (h : ObL H p os rs) (e : H r = some o) (n : ∀ ps, o ≠ .tbl ps) (m : r ≠ p) : ObL H p (os ++ [o]) (rs ++ [r]) := by
  induction h with
  | nil => exact .cons e n m .nil
  | cons e' n' m' _ ih => exact .cons e' n' m' ih
theorem ObL.len {H : Hp} {p : Addr} {os : List HO} {rs : List Addr} (h : ObL H p os rs) : rs.length = os.length := by
  induction h with
  | nil => rfl
  | cons _ _ _ _ ih => rw [List.length_cons, List.length_cons, ih]
structure Told (T : List (Addr × Str)) (Hb : Hp) (p : Addr) (os : List HO) (H : Hp) : Prop where
  np : Hb p = none
  x : ExtN Hb H
  tb : Tabs T H
  ob : ∃ rs : List Addr, H p = some (.lst (rs.map V.ref)) ∧ ObL H p os rs
section
variable {T : List (Addr × Str)} {Hb H H' : Hp} {p r : Addr} {os : List HO} {o : HO} {Q : VK}
theorem Told.new (t : Tabs T Hb) (np : Hb p = none) (s : Same Hb H) (e : H p = some (.lst [.ref r])) (er : Hb r = some o) (n : ∀ ps, o ≠ .tbl ps) : Told T Hb p [o] H :=
  ⟨np, ExtN.same s, t.same s, [r], e, .cons (s _ _ er) n (fun z => by rw [z, np] at er; cases er) .nil⟩
theorem Told.ext (t : Told T Hb p os H) (x : ExtN H H') (tb : Tabs T H') : Told T Hb p os H' := by
  obtain ⟨np, x0, _, rs, e, ob⟩ := t
  exact ⟨np, x0.trans x, tb, rs, x.ap e, ob.to fun r o _ e n => x r o e n⟩
theorem Told.ty {K : PySem.W.Frag} (t : Told T Hb p os H) : tyV K "list" (.ref p) H := by
  obtain ⟨_, _, _, rs, e, _⟩ := t
  exact ty_list e
theorem Told.app (t : Told T Hb p os H) (x : ExtN H H') (tb : Tabs T H') (er : H' r = some o) (n : ∀ ps, o ≠ .tbl ps) (nl : ∀ rs : List Addr, rs.length = os.length → o ≠ .lst (rs.map V.ref)) (hl : os.length < 1000) (q : ∀ H2, Told T Hb p (os ++ [o]) H2 → Q .non H2) : rAppend (.ref p) [.ref r] H' Q := by
  obtain ⟨np, x0, _, rs, e, ob⟩ := t
  have e' := x.ap e
  have m : r ≠ p := fun z => by
    rw [z, e'] at er
    exact nl rs ob.len (Option.some.inj er).symm
  refine g_append e' (by rw [List.length_map, ob.len]; exact Nat.lt_of_lt_of_le hl (by decide)) (q _ ⟨np, (x0.trans x).mut np, tabs_updL tb e', rs ++ [r], by rw [upd_same, List.map_append]; rfl, ?_⟩)
  refine ObL.snoc (ob.to fun b u m e n => ?_) (by rw [upd_ne m]; exact er) n m
  rw [upd_ne m]
  exact x b u e n
end
end Pw
namespace Pw
open PySem L2 LamX
/-! ### reprs of short lists of small data -/
def Sd (d : PyData) : Prop := SmZ d ∧ wgz d ≤ 20000 ∧ d.depth ≤ 5
theorem sd_all {ds : List PyData} (h : ∀ d ∈ ds, Sd d) : SmZA ds ∧ wgzA ds ≤ 20001 * ds.length ∧ PyData.depthAll ds ≤ 5 := by
  induction ds with
  | nil => exact ⟨by simp only [SmZA], by simp only [wgzA]; exact Nat.zero_le _, by simp only [PyData.depthAll]; exact Nat.zero_le _⟩
  | cons x r ih =>
    obtain ⟨a1, a2, a3⟩ := h x (List.mem_cons_self ..)
    obtain ⟨b1, b2, b3⟩ := ih fun d hd => h d (List.mem_cons_of_mem _ hd)
    refine ⟨by simp only [SmZA]; exact ⟨a1, b1⟩, by simp only [wgzA, List.length_cons]; omega, by simp only [PyData.depthAll]; omega⟩
theorem shz_ps {ds : List PyData} (h : ∀ d ∈ ds, Sd d) (n : ds.length ≤ 12) : showsZ (.list ds) := by
  obtain ⟨a, b, c⟩ := sd_all h
  refine showsZ_of ?_ ?_ ?_
  · simp only [SmZ]
    exact a
  · simp only [wgz]
    omega
  · simp only [PyData.depth]
    omega
theorem sd_pair {w : Str} {d : PyData} (h : SmZ d ∧ wgz d ≤ 1000 ∧ d.depth ≤ 1) (hw : (PyData.strOk w && decide (w.length ≤ 1000)) = true := by decide +kernel) : Sd (.tuple [.str w, d]) := by
  rw [Bool.and_eq_true, decide_eq_true_eq] at hw
  obtain ⟨h1, h2, h3⟩ := h
  refine ⟨?_, ?_, ?_⟩
  · simp only [SmZ, SmZA]
    exact ⟨hw.1, h1, trivial⟩
  · simp only [wgz, wgzA]
    omega
  · simp only [PyData.depth, PyData.depthAll]
    omega
/-- what is no year, no month, no day, no number of a day, with its data -/
def OddD (H : Hp) (x : V) : Prop := (∀ hi : Int, hi ≤ 3652059 → Mk.btw x 1 hi = false) ∧ ∃ d, Od H x d ∧ SmZ d ∧ wgz d ≤ 1000 ∧ d.depth ≤ 1
def oddsD (t l dd u : Addr) : List V := [.non, .bl true, .bl false, .int 0, .int (0 - 1), .int (10 ^ 20), .int 10000000, .str "1", .str "", .ref t, .ref l, .ref dd, .ref u, .int (0 - 10 ^ 30)]
theorem oddsD_ok {H : Hp} {t l dd u : Addr} (h1 : H t = some (.tup [.int 1])) (h2 : H l = some (.lst [.int 1])) (h3 : H dd = some (.dK [])) (h4 : H u = some (.tup [.int 2000, .int 1, .int 1])) : ∀ v ∈ oddsD t l dd u, OddD H v := by
  intro v hv
  simp only [oddsD, List.mem_cons, List.not_mem_nil, or_false] at hv
  have n : ∀ i : Int, i ≤ 0 ∨ 3652059 < i → i.natAbs < 10 ^ 39 → OddD H (.int i) := fun i h k => ⟨fun hi hh => Cal.btw_out (by omega), _, .sc (.int i k), by simp only [SmZ]; exact k, by simp only [wgz]; decide, by simp only [PyData.depth]; decide⟩
  have s : ∀ z : Str, z.length ≤ 1000 → PyData.strOk z = true → OddD H (.str z) := fun z a b => ⟨fun _ _ => rfl, _, .sc (.str z a b), by simp only [SmZ]; exact b, by simp only [wgz]; exact a, by simp only [PyData.depth]; decide⟩
  have i1 : Sc (.int 1) (.int 1) := .int 1 (by decide)
  rcases hv with rfl | rfl | rfl | rfl | rfl | rfl | rfl | rfl | rfl | rfl | rfl | rfl | rfl | rfl
  · exact ⟨fun _ _ => rfl, _, .sc .non, by simp only [SmZ], by simp only [wgz]; decide, by simp only [PyData.depth]; decide⟩
  · exact ⟨fun _ _ => rfl, _, .sc (.bl true), by simp only [SmZ], by simp only [wgz]; decide, by simp only [PyData.depth]; decide⟩
  · exact ⟨fun _ _ => rfl, _, .sc (.bl false), by simp only [SmZ], by simp only [wgz]; decide, by simp only [PyData.depth]; decide⟩
  · exact n _ (.inl (by decide)) (by decide)
  · exact n _ (.inl (by decide)) (by decide)
  · exact n _ (.inr (by decide)) (by decide +kernel)
  · exact n _ (.inr (by decide)) (by decide +kernel)
  · exact s _ (by decide +kernel) (by decide +kernel)
  · exact s _ (by decide +kernel) (by decide +kernel)
  · exact ⟨fun _ _ => rfl, _, .tup h1 (.cons i1 .nil) (by decide), by simp only [SmZ, SmZA]; decide, by simp only [wgz, wgzA]; decide, by simp only [PyData.depth, PyData.depthAll]; decide⟩
  · exact ⟨fun _ _ => rfl, _, .lst h2 (.cons i1 .nil) (by decide), by simp only [SmZ, SmZA]; decide, by simp only [wgz, wgzA]; decide, by simp only [PyData.depth, PyData.depthAll]; decide⟩
  · exact ⟨fun _ _ => rfl, _, .dic h3, by simp only [SmZ], by simp only [wgz]; decide, by simp only [PyData.depth, PyData.depthKv]; decide⟩
  · exact ⟨fun _ _ => rfl, _, .tup h4 (.cons (.int 2000 (by decide)) (.cons i1 (.cons i1 .nil))) (by decide), by simp only [SmZ, SmZA]; decide, by simp only [wgz, wgzA]; decide, by simp only [PyData.depth, PyData.depthAll]; decide⟩
  · exact n _ (.inl (by decide)) (by decide +kernel)
theorem OddD.od {H : Hp} {x : V} (h : OddD H x) : ∃ d, Od H x d ∧ (SmZ d ∧ wgz d ≤ 1000 ∧ d.depth ≤ 1) := h.2
def spOddD : Sp := fun vs H Q _ => ∃ (d l : Addr) (k : Nat), vs = [.ref d] ∧ Dr.Draw H d l k ∧ k < 900000 ∧ ∀ (v : V) (H' : Hp), OddD H' v → v ≠ .ref d → Dr.Draw H' d l (k + 1) → Dr.Kp d H H' → Q v H'
def spYears (T : List (Addr × Str)) : Sp := fun vs H Q _ => ∃ o b : V, vs = [o, b] ∧ OddD H o ∧ OddD H b ∧ Tabs T H ∧ ∀ H', ExtN H H' → Tabs T H' → Q (.bl true) H'
def spBorders (T : List (Addr × Str)) : Sp := fun vs H Q _ => ∃ y m : Int, vs = [.int y, .int m] ∧ 1 ≤ y ∧ y ≤ 9999 ∧ 1 ≤ m ∧ m ≤ 12 ∧ Tabs T H ∧ ∀ H', ExtN H H' → Tabs T H' → Q (.bl true) H'
theorem OddD.ext {H H' : Hp} {x : V} (h : OddD H x) (e : ExtN H H') : OddD H' x := ⟨h.1, let ⟨d, o, r⟩ := h.2; ⟨d, o.ext e, r⟩⟩
theorem OddD.kp {H H' : Hp} {x : V} {q : Addr} (h : OddD H x) (e : Dr.Kp q H H') (n : x ≠ .ref q) : OddD H' x := ⟨h.1, let ⟨d, o, r⟩ := h.2; ⟨d, o.kp e n, r⟩⟩
theorem OddD.any {H : Hp} {x : V} (h : OddD H x) : AnyO H x := let ⟨_, o, _⟩ := h.2; o.any
theorem OddD.b {H : Hp} {x : V} (h : OddD H x) {hi : Int} (l : hi ≤ 3652059 := by decide) : Mk.btw x 1 hi = false := h.1 hi l
end Pw
namespace Pw
open PySem L2
theorem ob_cons {H : Hp} {p : Addr} {o : HO} {os : List HO} {rs : List Addr} (h : ObL H p (o :: os) rs) : ∃ r rs', H r = some o ∧ rs = r :: rs' ∧ ObL H p os rs' := by
  cases h with
  | cons e _ _ k => exact ⟨_, _, e, rfl, k⟩
end Pw
namespace Pw
open PySem L2 LamX
section
variable {C1 C2 : Addr} {f1 f2 w1 w2 : Str} {tl : XK → Hp → VK → Prop} {H : Hp} {Q : VK}
theorem tt_val (h : ∀ H0, Same H H0 → ∀ (E' : XK) (Q' : VK), (∀ v H1, (∀ r H'', Same H1 H'' → H'' r = some (.lst [v]) → Q (.ref r) H'') → Q' v H1) → tl E' H0 Q') : TT2 C1 C2 f1 f2 w1 w2 tl H Q := fun H0 s0 E' Q' _ _ q' => h H0 s0 E' Q' q'
end
section
variable {T : List (Addr × Str)} {Hb H H' : Hp} {p r : Addr} {os : List HO} {o : HO} {Q : VK}
theorem Told.appK (t : Told T Hb p os H) (x : ExtN H H') (tb : Tabs T H') (er : H' r = some o) (n : ∀ ps, o ≠ .tbl ps) (nl : ∀ rs : List Addr, rs.length = os.length → o ≠ .lst (rs.map V.ref)) (hl : os.length < 1000) (q : ∀ H2, (∀ b u, (∀ xs, u ≠ .lst xs) → H' b = some u → H2 b = some u) → Told T Hb p (os ++ [o]) H2 → Q .non H2) : rAppend (.ref p) [.ref r] H' Q := by
  obtain ⟨np, x0, _, rs, e, ob⟩ := t
  have e' := x.ap e
  have m : r ≠ p := fun z => by
    rw [z, e'] at er
    exact nl rs ob.len (Option.some.inj er).symm
  refine g_append e' (by rw [List.length_map, ob.len]; exact Nat.lt_of_lt_of_le hl (by decide)) (q _ (fun b u nu eb => ?_) ⟨np, (x0.trans x).mut np, tabs_updL tb e', rs ++ [r], by rw [upd_same, List.map_append]; rfl, ?_⟩)
  · rw [upd_ne (fun z => by rw [z, e'] at eb; exact nu _ (Option.some.inj eb).symm)]
    exact eb
  refine ObL.snoc (ob.to fun b u m e n => ?_) (by rw [upd_ne m]; exact er) n m
  rw [upd_ne m]
  exact x b u e n
end
theorem nl_int {i : Int} {n : Nat} : ∀ rs : List Addr, rs.length = n → HO.lst [V.int i] ≠ .lst (rs.map V.ref) := by
  intro rs _ z
  cases rs with
  | nil => cases z
  | cons a r => cases z
theorem nl_len {v : V} {n : Nat} (h : n ≠ 1 := by simp) : ∀ rs : List Addr, rs.length = n → HO.lst [v] ≠ .lst (rs.map V.ref) := by
  intro rs k z
  have : ([v] : List V).length = (rs.map V.ref).length := by rw [HO.lst.inj z]
  rw [List.length_map, k] at this
  exact h this.symm
theorem dzI {K : PySem.W.Frag} {H : Hp} {r : Addr} {i : Int} (e : H r = some (.lst [.int i])) : Dz K H (.ref r) (.list [.int i]) := .lst (SqL.of e) (.cons (.of (.int i) (by simp only [PyData.hasDict])) .nil)
theorem dzB {K : PySem.W.Frag} {H : Hp} {r : Addr} {b : Bool} (e : H r = some (.lst [.bl b])) : Dz K H (.ref r) (.list [.bool b]) := .lst (SqL.of e) (.cons (.of (.bl b) (by simp only [PyData.hasDict])) .nil)
theorem dzT {K : PySem.W.Frag} {H : Hp} {r t : Addr} {i j k : Int} (e : H r = some (.lst [.ref t])) (f : H t = some (.tup [.int i, .int j, .int k])) : Dz K H (.ref r) (.list [.tuple [.int i, .int j, .int k]]) :=
  .lst (SqL.of e) (.cons (.tup (SqT.of f) (.cons (.of (.int i) (by simp only [PyData.hasDict])) (.cons (.of (.int j) (by simp only [PyData.hasDict])) (.cons (.of (.int k) (by simp only [PyData.hasDict])) .nil)))) .nil)
theorem sd_int {w : Str} {i : Int} (h : i.natAbs < 10 ^ 39) (hw : (PyData.strOk w && decide (w.length ≤ 1000)) = true := by decide +kernel) : Sd (.tuple [.str w, .int i]) := sd_pair ⟨by simp only [SmZ]; exact h, by simp only [wgz]; decide, by simp only [PyData.depth]; decide⟩ hw
theorem odI {H : Hp} {i : Int} (h : i.natAbs < 10 ^ 39) : Od H (.int i) (.int i) := .sc (.int i h)
end Pw
/-! own objects compared by == and != with objects of any kind, and made by a constructor that may raise -/
namespace PySem.W
theorem ifBound_objNe {M : Model} {A : Around} {E : Value → Shared → Prop} {s : Shared} {K : Frag} {x C : Addr} {ox : Obj} {od : Option Obj} {args : List Value} {Q : Option Value → Shared → Prop} (hK : K.In s.heap) (J : InstAt s.heap x ox C od)
    (hf : findIn K (.ref C) "__ne__" = some (some (.builtin "object.__ne__"))) (h : wpAny M A (call (.builtin "object.__ne__") (.ref x :: args)) (fun v => Q (some v)) E s) : wpAny M A (callSpecialIfBound? (.ref x) "__ne__" args) Q E s := by
  unfold callSpecialIfBound?
  refine wpAny_holding ?_
  unfold bindSpecialIfBound? specialOf
  refine wpAny_bind (wpAny_bind ?_)
  refine wpAny_bind ?_
  refine J.type.here ?_
  refine (looks_findIn hK hf).here ?_
  refine wpAny_bind (wpAny_askSetting ?_)
  have hb := (CmpFacts.ne F.cmp_object).bind (.ref x)
  rw [hb]
  refine wpAny_ite ?_
  split
  · exact wpAny_bind (wpAny_pure (wpAny_pure (wpAny_bind (wpAny_mono h (fun v s' hq => wpAny_pure hq) fun _ _ z => z))))
  · refine wpAny_tryCatch (wpAny_bind (wpAny_pure (wpAny_pure ?_)))
    exact (wpAny_bind (wpAny_mono h (fun v s' hq => wpAny_pure hq) fun _ _ z => z))
theorem call_objNe {prog : Program} {w : World} {A : Around} {E : Value → Shared → Prop} {s : Shared} {K : Frag} {x C f : Addr} {ox : Obj} {od : Option Obj} {b : Value} {Q : Value → Shared → Prop} (hu : A.in1.units < cLine) (hK : K.In s.heap) (J : InstAt s.heap x ox C od) (hm : mroIn K C (.type "object") = some true)
    (hs : findIn K (.ref C) "__eq__" = some (some (.ref f))) (hf : isFn K (.ref f) = true) (h : wpAny (model prog w) A.in1 (call (.ref f) [.ref x, b]) (fun v s' => ∃ r, v = .bool r ∧ Q (.bool (!r)) s') E s) : wpAny (model prog w) A (call (.builtin "object.__ne__") [.ref x, b]) Q E s := by
  refine wpAny_call (codeAny_call_builtin (CmpFacts.ne F.cmp_object).plain F.cmpEntry_ne ?_)
  refine check_slot F.cmpKind_ne F.cmpSplit_ne (Looks.andThen J.type (looks_mroIn hK hm)) (F.cmpArgs_ne _ _) ?_
  unfold Builtin.«object.__ne__»
  refine wpAny_bind (wpAny_pure ?_)
  refine wpAny_bind (wpAny_cRoomFor hu ?_)
  refine wpAny_bind (ifBound_K hK J hs hf (wpAny_mono h (fun v s' hv => ?_) fun _ _ z => z))
  obtain ⟨r, rfl, hq⟩ := hv
  refine wpAny_bind (wpAny_pure ?_)
  exact wpAny_pure hq
theorem ne_K {prog : Program} {w : World} {A : Around} {E : Value → Shared → Prop} {s : Shared} {K : Frag} {x C L f : Addr} {h₀ : Heap} {m : Str → Option Value} {ox : Obj} {od : Option Obj} {b tb : Value} {Q : Value → Shared → Prop} (hu : A.in1.units < cLine) (hu0 : A.units < cLine) (hF : PyProof.Rows.Fr h₀ L s.heap m) (hK0 : K.In h₀) (hK : K.In s.heap)
    (J : InstAt s.heap x ox C od) (ht : Looks (model prog w) s.heap (typeOf b) tb) (nf : notFirst K C tb = true) (hm : mroIn K C (.type "object") = some true)
    (hn : findIn K (.ref C) "__ne__" = some (some (.builtin "object.__ne__"))) (hs : findIn K (.ref C) "__eq__" = some (some (.ref f))) (hf : isFn K (.ref f) = true)
    (h : wpAny (model prog w) A.in1 (call (.ref f) [.ref x, b]) (fun v s' => ∃ r, v = .bool r ∧ Q (.bool (!r)) s') E s) : wpAny (model prog w) A (richCompare .NotEq (.ref x) b) Q E s := by
  unfold richCompare
  refine wpAny_holding (wpAny_bind (wpAny_cRoomFor hu0 ?_))
  have one : oneThing? .NotEq (.ref x) b = none := by cases b <;> rfl
  rw [one]
  refine wpAny_bind (J.type.here ?_)
  refine wpAny_bind (ht.here ?_)
  have key : wpAny (model prog w) A (tryCompare (.ref x) "__ne__" b) (fun r s' => ∃ v, r = some v ∧ Q v s') E s := by
    unfold tryCompare
    refine wpAny_bind (ifBound_objNe hK J hn (call_objNe hu hK J hm hs hf ?_))
    refine wpAny_mono h (fun v s' hv => ?_) fun _ _ z => z
    obtain ⟨r, rfl, hq⟩ := hv
    exact ⟨r, rfl, wpAny_pure ⟨_, rfl, hq⟩⟩
  have fin : ∀ (k : Sem Value), wpAny (model prog w) A (do
      let r ← tryCompare (.ref x) "__ne__" b
      match r with
        | some v => pure v
        | _ => k) Q E s := fun k => wpAny_bind (wpAny_mono key (fun r s' hv => by obtain ⟨v, rfl, hq⟩ := hv; exact wpAny_pure hq) fun _ _ z => z)
  by_cases e : tb = .ref C
  · subst e
    refine wpAny_ite ?_
    rw [if_neg (by simp)]
    refine wpAny_bind (wpAny_pure ?_)
    refine wpAny_ite ?_
    rw [if_neg (by simp)]
    exact fin _
  · refine wpAny_ite ?_
    rw [if_pos (by simpa using fun z => e z.symm)]
    have ns : subIn K tb (.ref C) = some false := by
      unfold notFirst at nf
      rw [Bool.or_eq_true] at nf
      rcases nf with h | h
      · exact absurd (by simpa using h) e
      · simpa using h
    refine wpAny_bind ((looks_subIn hK ns).here ?_)
    refine wpAny_ite ?_
    rw [if_neg (by simp)]
    exact fin _
end PySem.W

namespace L2
open PySem
/-- what is compared: an own object, and one of a type that is no subclass of its class -/
def rOwnE (K : PySem.W.Frag) (C : Addr) (sp : Sp) (E : XK) (neg : Bool) : R2 := fun x y H Q => ∃ a dx fs t, x = .ref a ∧ H a = some (.ins C dx fs) ∧ TyX K H y t ∧ PySem.W.notFirst K C t = true ∧ sp [.ref a, y] H (fun v H1 => ∃ b, v = .bl b ∧ Q (.bl (neg ^^ b)) H1) E
section
variable {X : Cx} {CX : CXT} {k : Nat} {C f : Addr} {sp : Sp} {E : XK}
theorem op_eqO (F : FnR X.prog X.w X.K X.mg X.base CX k f sp) (hr : Room k X.A) (hx : Passes CX X E) (hs : PySem.W.findIn X.K (.ref C) "__eq__" = some (some (.ref f))) (hf : PySem.W.isFn X.K (.ref f) = true) : OpR X (compareOp .Eq) (rOwnE X.K C sp E false) := by
  intro pins s σ H x y u v Q I rx ry h
  obtain ⟨a, dx, fs, t, rfl, ea, ty, nf, h⟩ := h
  cases rx
  obtain ⟨ox, od, J⟩ := inst_of I ea
  obtain ⟨m, hF⟩ := I.fr
  obtain ⟨P, kx, hp, _⟩ := kit_of I ry ty
  show wpAny _ _ (richCompare .Eq (.ref a) v) _ _ _
  refine PySem.W.cmp_K (op := .Eq) (tb := t) hr.units0 hF I.ok.mod.kin J (kx.ty _ _ I.kIn hp) nf hs hf (wpAny_mono (run_sub (vs := [.ref a, y]) F hr rfl hx I (.cons rfl (.cons ry .nil)) h) (fun u s' hv => ?_) fun _ _ z => z)
  obtain ⟨x, H1, I1, rx, b, rfl, q⟩ := hv
  refine ep_cmp ⟨_, H1, I1, rx, ?_⟩
  simpa using q
theorem op_neO (F : FnR X.prog X.w X.K X.mg X.base CX k f sp) (hr : Room (k + 1) X.A) (hx : Passes CX X E) (hm : PySem.W.mroIn X.K C (.type "object") = some true) (hn : PySem.W.findIn X.K (.ref C) "__ne__" = some (some (.builtin "object.__ne__"))) (hs : PySem.W.findIn X.K (.ref C) "__eq__" = some (some (.ref f))) (hf : PySem.W.isFn X.K (.ref f) = true) : OpR X (compareOp .NotEq) (rOwnE X.K C sp E true) := by
  intro pins s σ H x y u v Q I rx ry h
  obtain ⟨a, dx, fs, t, rfl, ea, ty, nf, h⟩ := h
  cases rx
  obtain ⟨ox, od, J⟩ := inst_of I ea
  obtain ⟨m, hF⟩ := I.fr
  obtain ⟨P, kx, hp, _⟩ := kit_of I ry ty
  show wpAny _ _ (richCompare .NotEq (.ref a) v) _ _ _
  refine PySem.W.ne_K (tb := t) hr.in1.units0 hr.units0 hF I.ok.mod.kin I.kIn J (kx.ty _ _ I.kIn hp) nf hm hn hs hf (wpAny_mono (run_sub (vs := [.ref a, y]) F hr.in1 rfl hx I (.cons rfl (.cons ry .nil)) h) (fun u s' hv => ?_) fun _ _ z => z)
  obtain ⟨x, H1, I1, rx, b, rfl, q⟩ := hv
  obtain ⟨t, rfl⟩ := rx
  refine ⟨b, rfl, .bl (!b), H1, I1, rfl, ?_⟩
  simpa using q
theorem g_ownE {K : PySem.W.Frag} {a dx : Addr} {fs : List (Str × V)} {t : Value} {y : V} {neg : Bool} {H : Hp} {Q : VK} (ea : H a = some (.ins C dx fs)) (ty : TyX K H y t) (nf : PySem.W.notFirst K C t = true) (h : sp [.ref a, y] H (fun v H1 => ∃ b, v = .bl b ∧ Q (.bl (neg ^^ b)) H1) E) : rOwnE K C sp E neg (.ref a) y H Q := ⟨a, dx, fs, t, rfl, ea, ty, nf, h⟩
end
def BTys : List String := ["NoneType", "bool", "int", "str", "list", "tuple", "dict"]
theorem AnyO.tyx {K : PySem.W.Frag} {H : Hp} {x : V} (a : AnyO H x) : ∃ n ∈ BTys, TyX K H x (.type n) := by
  cases a with
  | non => exact ⟨_, by decide, .base .non⟩
  | bl b => exact ⟨_, by decide, .base (.bl b)⟩
  | int i => exact ⟨_, by decide, .base (.int i)⟩
  | str z h h2 => exact ⟨_, by decide, .base (.str z)⟩
  | lst h => exact ⟨_, by decide, .base (.lst h)⟩
  | tup h => exact ⟨_, by decide, .base (.tup h)⟩
  | dic h => exact ⟨_, by decide, .base (.dK h)⟩
theorem nf_bt {K : PySem.W.Frag} {C : Addr} {n : String} (h : n ∈ BTys) : PySem.W.notFirst K C (.type n) = true := by
  have h : n ∈ (["NoneType", "bool", "int", "str", "list", "tuple", "dict"] : List String) := h
  simp only [List.mem_cons, List.not_mem_nil, or_false] at h
  rcases h with rfl | rfl | rfl | rfl | rfl | rfl | rfl <;> (unfold PySem.W.notFirst PySem.W.subIn; rfl)
theorem nf_self {K : PySem.W.Frag} {C : Addr} : PySem.W.notFirst K C (.ref C) = true := by simp [PySem.W.notFirst]
/-- no object of a built-in kind is one of an own class -/
def NoKit (K : PySem.W.Frag) (C : Addr) : Prop := ∀ n ∈ BTys, PySem.W.kitOne K (.type n) (.ref C) = some false
theorem g_isNo {K : PySem.W.Frag} {C : Addr} {H : Hp} {Q : VK} {x : V} (N : NoKit K C) (a : AnyO H x) (q : Q (.bl false) H) : rIsi K [x, .ref C] H Q := by
  obtain ⟨n, hn, t⟩ := a.tyx (K := K)
  exact g_isi (.own _) t (N n hn) q
/-- what a raising def's surroundings let pass -/
theorem passX {X : Cx} {E : XK} (tk : Takes X (fun cls d _ H => E cls d H)) : Passes (L2.CX X.prog X.w) X E := fun pins σ H s e s' I h => passAt tk σ pins H s e s' I h
end L2
namespace Pw
open L2 PySem
theorem Rs.to {H0 H : Hp} {E : XK} {C : Addr} {f : Str} {v : V} (k : Rs H0 E C f v) (s : Same H0 H) : Rs H E C f v := fun H1 d s1 nd => k H1 d (s.trans s1) nd
end Pw
/-! moments -/
namespace Mo
open PySem L2
structure Sv where
  y : Int
  m : Int
  d : Int
  h : Int
  mi : Int
  s : Int
  z : Int
  deriving DecidableEq
def Sv.vals (v : Sv) : List V := [.int v.y, .int v.m, .int v.d, .int v.h, .int v.mi, .int v.s, .int v.z]
structure Sv.ok (v : Sv) : Prop where
  dt : Cal.ok v.y v.m v.d
  h0 : 0 ≤ v.h
  h1 : v.h ≤ 23
  i0 : 0 ≤ v.mi
  i1 : v.mi ≤ 59
  s0 : 0 ≤ v.s
  s1 : v.s ≤ 59
  z0 : -899 ≤ v.z
  z1 : v.z ≤ 899
def Sv.no (v : Sv) : Int := Cal.dayNo v.y v.m v.d
def Sv.there (v : Sv) : Int := v.no * 86400 + v.h * 3600 + v.mi * 60 + v.s
def Sv.inst (v : Sv) : Int := v.there - v.z * 60
def Sv.wd (v : Sv) : Int := (v.no - 1) % 7
def At (H : Hp) (C a : Addr) (v : Sv) : Prop := ∃ dx td tt, H a = some (.ins C dx [("_number", .int v.no), ("_date", .ref td), ("_time", .ref tt), ("_zone", .int v.z)]) ∧ H td = some (.tup [.int v.y, .int v.m, .int v.d]) ∧ H tt = some (.tup [.int v.h, .int v.mi, .int v.s])
section
variable {H H' : Hp} {C a : Addr} {v : Sv}
theorem At.to (h : At H C a v) (k : ∀ p o, H p = some o → (∀ ps, o ≠ .tbl ps) → (∀ kv, o ≠ .dK kv) → H' p = some o) : At H' C a v := by
  obtain ⟨dx, td, tt, e1, e2, e3⟩ := h
  exact ⟨dx, td, tt, k _ _ e1 (by intro _ z; cases z) (by intro _ z; cases z), k _ _ e2 (by intro _ z; cases z) (by intro _ z; cases z), k _ _ e3 (by intro _ z; cases z) (by intro _ z; cases z)⟩
theorem At.same (h : At H C a v) (s : Same H H') : At H' C a v := h.to fun p o e _ _ => s p o e
theorem At.ext (h : At H C a v) (s : LamX.ExtN H H') : At H' C a v := h.to fun p o e n _ => s p o e n
theorem At.kp {d l : Addr} {m : Nat} (h : At H C a v) (D : Dr.Draw H d l m) (s : Dr.Kp d H H') : At H' C a v := h.to fun p o e _ n => s p o (D.ne' e n) e
theorem At.kx {d l : Addr} {m : Nat} (h : At H C a v) (D : Dr.Draw H d l m) (s : LamD.Kx d H H') : At H' C a v := h.to fun p o e t n => s p o (D.ne' e n) e t
end
def spPart (C : Addr) : Sp := fun vs H Q E => ∃ (v : V) (lo hi : Int), vs = [v, .int lo, .int hi] ∧ AnyO H v ∧ ((Mk.btw v lo hi = false ∧ Pw.Rs H E C "given" v) ∨ (Mk.btw v lo hi = true ∧ Q .non H))
/-- the first of the seven that is not as it must be -/
inductive Bad : List V → V → Prop
  | y {v r} : Mk.btw v 1 9999 = false → r.length = 6 → Bad (v :: r) v
  | m {y v r} : 1 ≤ y → y ≤ 9999 → Mk.btw v 1 12 = false → r.length = 5 → Bad (.int y :: v :: r) v
  | d {y m v r} : 1 ≤ y → y ≤ 9999 → 1 ≤ m → m ≤ 12 → Mk.btw v 1 (Cal.len y m) = false → r.length = 4 → Bad (.int y :: .int m :: v :: r) v
  | h {y m d v r} : Cal.ok y m d → Mk.btw v 0 23 = false → r.length = 3 → Bad (.int y :: .int m :: .int d :: v :: r) v
  | mi {y m d h v r} : Cal.ok y m d → 0 ≤ h → h ≤ 23 → Mk.btw v 0 59 = false → r.length = 2 → Bad (.int y :: .int m :: .int d :: .int h :: v :: r) v
  | s {y m d h mi v r} : Cal.ok y m d → 0 ≤ h → h ≤ 23 → 0 ≤ mi → mi ≤ 59 → Mk.btw v 0 59 = false → r.length = 1 → Bad (.int y :: .int m :: .int d :: .int h :: .int mi :: v :: r) v
  | z {y m d h mi s v} : Cal.ok y m d → 0 ≤ h → h ≤ 23 → 0 ≤ mi → mi ≤ 59 → 0 ≤ s → s ≤ 59 → Mk.btw v (-899) 899 = false → Bad [.int y, .int m, .int d, .int h, .int mi, .int s, v] v
def spInit (C Cb : Addr) : Sp := fun vs H Q E => ∃ (x dx : Addr) (a0 a1 a2 a3 a4 a5 a6 : V) (H0 : Hp), vs = [.ref x, a0, a1, a2, a3, a4, a5, a6] ∧ H x = some (.ins C dx []) ∧ H0 x = none ∧ Same H0 H ∧
  ((∃ v, Bad [a0, a1, a2, a3, a4, a5, a6] v ∧ AnyO H0 v ∧ Pw.Rs H0 E Cb "given" v) ∨ ∃ sv : Sv, [a0, a1, a2, a3, a4, a5, a6] = sv.vals ∧ sv.ok ∧ ∀ H1, Same H0 H1 → At H1 C x sv → Q .non H1)
theorem Bad.len {args : List V} {v : V} (b : Bad args v) : args.length = 7 := by cases b <;> simp_all
def spGet (C : Addr) (f : Sv → Int) : Sp := fun vs H Q _ => ∃ a v, vs = [.ref a] ∧ At H C a v ∧ v.ok ∧ Q (.int (f v)) H
def spEq (C : Addr) : Sp := fun vs H Q _ => ∃ a v y, vs = [.ref a, y] ∧ At H C a v ∧ ((∃ b u, y = .ref b ∧ At H C b u ∧ Q (.bl (decide (v = u))) H) ∨ (AnyO H y ∧ Q (.bl false) H))
section
variable {C Cb : Addr} {args : List V} {H : Hp} {Q : VK} {E : XK}
/-- what is made -/
theorem n_mo {sv : Sv} (e : args = sv.vals) (ok : sv.ok) (q : ∀ a H1, H a = none → Same H H1 → At H1 C a sv → Q (.ref a) H1) : ∀ x dx, H x = none → H dx = none → dx ≠ x → spInit C Cb (.ref x :: args) (upd (upd H dx (.own x)) x (.ins C dx [])) (fun v H2 => v = .non ∧ Q (.ref x) H2) E := fun x dx hx hdx ne => by
  subst e
  exact ⟨x, dx, _, _, _, _, _, _, _, H, rfl, upd_same, hx, (same_new hdx).mut hx, .inr ⟨sv, rfl, ok, fun H1 s1 a1 => ⟨rfl, q x H1 hx s1 a1⟩⟩⟩
/-- what is refused -/
theorem n_moB {v : V} (b : Bad args v) (av : AnyO H v) (k : Pw.Rs H E Cb "given" v) : ∀ x dx, H x = none → H dx = none → dx ≠ x → spInit C Cb (.ref x :: args) (upd (upd H dx (.own x)) x (.ins C dx [])) (fun v H2 => v = .non ∧ Q (.ref x) H2) E := fun x dx hx hdx ne => by
  match args, b.len, b with
  | [a0, a1, a2, a3, a4, a5, a6], _, b => exact ⟨x, dx, a0, a1, a2, a3, a4, a5, a6, H, rfl, upd_same, hx, (same_new hdx).mut hx, .inl ⟨v, b, av, k⟩⟩
end
theorem eqv3 (a b c d e f : Int) : PyData.eqv (.tuple [.int a, .int b, .int c]) (.tuple [.int d, .int e, .int f]) = (decide (a = d) && (decide (b = e) && decide (c = f))) := by
  rw [Bool.eq_iff_iff]
  simp [PyData.eqv, PyData.eqvAll]
end Mo
namespace L2
open PySem
theorem FunD.okX {P : Program} {w : World} {K : PySem.W.Frag} {mg : Str → Option Value} {base : Heap} {x qual : Str} {params : Arguments} {body : List Stmt} {scope : Scope} {dvs : List V} {kws : List (Str × V)} {f : Addr} {fd : FuncData} {N ps : List Str} {k : Nat} {sp : Sp} (F : FunD K x qual params body scope dvs kws f fd) (S : FnScope N ps scope) (len : ∀ vs H Q E, sp vs H Q E → vs.length = ps.length)
    (h : ∀ (cdv : Value) (A : Around) (outer : List Env) (s : Shared) (H : Hp) (vs : List V) (Q : VK) (E : XK), Room k (A.deeper (PyProof.Rows.envOfC qual scope s.heap.objs.size f cdv)) → sp vs H Q E → ∃ t, PSs (cxOf (L2.CX P w) P w K mg base N qual scope f cdv A outer s H E) body t ∧ t { nx := fun x H' => Q V.non H', rt := Q } (L2.start N vs) H) :
    FnOk P w K mg base (L2.CX P w) (k + 1) f fd ps sp := F.ok S len h
end L2
namespace Mo
open PySem L2
theorem no_bd {v : Sv} (ok : v.ok) : 1 ≤ v.no ∧ v.no ≤ 3652059 := by
  obtain ⟨h1, h2, h3, h4, h5, h6⟩ := ok.dt
  exact Cal.dayNo_bound h1 h2 h3 h4 h5 h6
end Mo
namespace Mo
open PySem L2
theorem eqv3' (a b c d e f : Int) : PyData.eqv (.tuple [.int a, .int b, .int c]) (.tuple [.int d, .int e, .int f]) = decide (a = d ∧ b = e ∧ c = f) := by
  rw [Bool.eq_iff_iff]
  simp [PyData.eqv, PyData.eqvAll]
theorem sh3 {a b c : Int} (ha : a.natAbs < 100000) (hb : b.natAbs < 100000) (hc : c.natAbs < 100000) : SeqAt.shaped (.tuple [.int a, .int b, .int c]) = true :=
  shaped_sml (d := .tuple [.int a, .int b, .int c]) ⟨Nat.lt_trans ha (by decide), Nat.lt_trans hb (by decide), Nat.lt_trans hc (by decide), trivial⟩ (by simp [PyData.depth, PyData.depthAll])
theorem ok_small {y m d : Int} (h : Cal.ok y m d) : y.natAbs < 100000 ∧ m.natAbs < 100000 ∧ d.natAbs < 100000 := by
  obtain ⟨h1, h2, h3, h4, h5, h6⟩ := h
  have := (Cal.len_pos (y := y) h3 h4).2
  omega
def spEqO (C : Addr) : Sp := fun vs H Q _ => ∃ a v y, vs = [.ref a, y] ∧ At H C a v ∧ v.ok ∧ ((∃ b u, y = .ref b ∧ At H C b u ∧ u.ok ∧ Q (.bl (decide (v = u))) H) ∨ (AnyO H y ∧ Q (.bl false) H))
end Mo
namespace Pl
open PySem L2 Tx
/-- of a word of marks: has it the shape -/
def shapeL (l : List Nat) : Bool := (!decide (32 ∈ l) && decide (4 ≤ l.length)) && (decide (l.take 2 = [61, 63]) && decide (l.drop (l.length - 2) = [63, 61]))
theorem starts_is {l : List Nat} (h : 4 ≤ l.length) : Txt.startswith (Cd.zs l) "=?" = decide (l.take 2 = [61, 63]) := by
  have e : ("=?" : Str) = Cd.zs [61, 63] := by decide +kernel
  rw [e]
  show (decide (0 + (Cd.zs [61, 63]).length ≤ (Cd.zs l).length) && Builtin.Str.subAt _ _ 0) = _
  rw [decide_eq_true (by rw [Cd.zs_len, Cd.zs_len]; show 0 + 2 ≤ l.length; omega), Bool.true_and, StrLaws.subAt_eq, Cd.zs_list, Cd.zs_list, Cd.zs_len]
  exact (Bool.eq_iff_iff.mpr (by rw [beq_iff_eq, decide_eq_true_eq]; exact Iff.rfl))
theorem ends_is {l : List Nat} (h : 4 ≤ l.length) : Txt.endswith (Cd.zs l) "?=" = decide (l.drop (l.length - 2) = [63, 61]) := by
  have e : ("?=" : Str) = Cd.zs [63, 61] := by decide +kernel
  rw [e]
  show (decide (0 + (Cd.zs [63, 61]).length ≤ (Cd.zs l).length) && Builtin.Str.subAt _ _ ((Cd.zs l).length - (Cd.zs [63, 61]).length)) = _
  rw [decide_eq_true (by rw [Cd.zs_len, Cd.zs_len]; show 0 + 2 ≤ l.length; omega), Bool.true_and, StrLaws.subAt_eq, Cd.zs_list, Cd.zs_list, Cd.zs_len, Cd.zs_len]
  refine (Bool.eq_iff_iff.mpr ?_)
  rw [beq_iff_eq, decide_eq_true_eq]
  show ((l.drop (l.length - 2)).take 2 = [63, 61]) ↔ _
  rw [List.take_of_length_le (by rw [List.length_drop]; omega)]
def litC (w : Int) (cs : List Nat) : Bool := (decide (0 < (cs.length : Int)) && decide ((cs.length : Int) < w)) && (cs.all plainC && !shapeL cs)
inductive Pc
  | lit (s : List Nat)
  | txt (r : List Nat)
def PcV (K : PySem.W.Frag) (C : Addr) (H : Hp) : V → Pc → Prop
  | v, .lit s => v = .str (Cd.zs s)
  | v, .txt r => ∃ a, v = .ref a ∧ At K H C a r
theorem PcV.same {K : PySem.W.Frag} {C : Addr} {H H1 : Hp} (s : Same H H1) : ∀ {v : V} {p : Pc}, PcV K C H v p → PcV K C H1 v p
  | _, .lit _, h => h
  | _, .txt _, ⟨a, e, h⟩ => ⟨a, e, h.same s⟩
theorem PcV.upd {K : PySem.W.Frag} {C : Addr} {H : Hp} {l : Addr} {xs : List V} {o : HO} (e : H l = some (.lst xs)) : ∀ {v : V} {p : Pc}, PcV K C H v p → PcV K C (upd H l o) v p
  | _, .lit _, h => h
  | _, .txt _, ⟨a, e1, h⟩ => ⟨a, e1, h.upd e⟩
def joinP (rs : List (List Nat)) : List Pc := if rs = [] then [] else [.txt (joinC rs)]
def pstep (lit : List Nat → Bool) (p : List Pc × List (List Nat)) (x : List Nat) : List Pc × List (List Nat) := if lit x = true then (p.1 ++ joinP p.2 ++ [.lit x], []) else (p.1, p.2 ++ [x])
def pfold (lit : List Nat → Bool) (rs : List (List Nat)) : List Pc × List (List Nat) := rs.foldl (pstep lit) ([], [])
def pieces (lit : List Nat → Bool) (rs : List (List Nat)) : List Pc := (pfold lit rs).1 ++ joinP (pfold lit rs).2
theorem pfold_snoc {lit : List Nat → Bool} {rs : List (List Nat)} {i : Nat} {x : List Nat} (h : rs[i]? = some x) : pfold lit (rs.take (i + 1)) = pstep lit (pfold lit (rs.take i)) x := by
  unfold pfold
  rw [List.take_add_one, h, List.foldl_append]
  rfl
def tot (rs : List (List Nat)) : Nat := (rs.map fun r => r.length + 1).sum
theorem tot_app (a b : List (List Nat)) : tot (a ++ b) = tot a + tot b := by
  unfold tot
  rw [List.map_append, List.sum_append]
theorem flat_tot (rs : List (List Nat)) : ((rs.map fun x => 32 :: x).flatten).length = tot rs := by
  induction rs with
  | nil => rfl
  | cons r rs ih =>
    rw [List.map_cons, List.flatten_cons, List.length_append, ih]
    show r.length + 1 + tot rs = (r.length + 1) + tot rs
    rfl
theorem joinC_tot (rs : List (List Nat)) : (joinC rs).length ≤ tot rs := by
  cases rs with
  | nil => exact Nat.zero_le _
  | cons r rs =>
    show (r ++ (rs.map fun x => 32 :: x).flatten).length ≤ tot (r :: rs)
    rw [List.length_append, flat_tot]
    show r.length + tot rs ≤ (r.length + 1) + tot rs
    omega
theorem pfold_le (lit : List Nat → Bool) (rs : List (List Nat)) : ∀ i, tot (pfold lit (rs.take i)).2 ≤ tot rs ∧ (pfold lit (rs.take i)).2.length ≤ i ∧ (pfold lit (rs.take i)).1.length ≤ 2 * i ∧ tot (pfold lit (rs.take i)).2 ≤ tot (rs.take i)
  | 0 => ⟨Nat.zero_le _, Nat.le_refl _, Nat.le_refl _, Nat.le_refl _⟩
  | i + 1 => by
    obtain ⟨h1, h2, h3, h4⟩ := pfold_le lit rs i
    cases e : rs[i]? with
    | none =>
      rw [List.take_add_one, e]
      simp only [Option.toList, List.append_nil]
      exact ⟨h1, Nat.le_succ_of_le h2, by omega, h4⟩
    | some x =>
      have q : tot (rs.take (i + 1)) ≤ tot rs := by
        have z := tot_app (rs.take (i + 1)) (rs.drop (i + 1))
        rw [List.take_append_drop] at z
        omega
      have t : tot (rs.take (i + 1)) = tot (rs.take i) + tot [x] := by rw [List.take_add_one, e, tot_app]; rfl
      rw [pfold_snoc e]
      unfold pstep
      split
      · refine ⟨Nat.zero_le _, Nat.zero_le _, ?_, Nat.zero_le _⟩
        show (_ ++ joinP _ ++ [Pc.lit x]).length ≤ _
        rw [List.length_append, List.length_append]
        have j : (joinP (pfold lit (rs.take i)).2).length ≤ 1 := by
          unfold joinP
          split
          · exact Nat.zero_le _
          · exact Nat.le_refl _
        simp only [List.length_cons, List.length_nil]
        omega
      · have a : tot ((pfold lit (rs.take i)).2 ++ [x]) ≤ tot (rs.take (i + 1)) := by rw [tot_app]; omega
        refine ⟨Nat.le_trans a q, ?_, Nat.le_trans h3 (by omega), a⟩
        rw [List.length_append]
        exact Nat.add_le_add_right h2 1
/-! the same, as the law goes -/
def dstep (lit : List Nat → Bool) (acc : List Pc) (x : List Nat) : List Pc :=
  if lit x = true then acc ++ [.lit x] else match acc.getLast? with
    | some (.txt r) => acc.dropLast ++ [.txt (r ++ 32 :: x)]
    | _ => acc ++ [.txt x]
theorem dfold_is (lit : List Nat → Bool) (rs : List (List Nat)) : ∀ i, (rs.take i).foldl (dstep lit) [] = (pfold lit (rs.take i)).1 ++ joinP (pfold lit (rs.take i)).2 ∧ ∀ r, (pfold lit (rs.take i)).1.getLast? ≠ some (.txt r)
  | 0 => ⟨rfl, fun r h => nomatch h⟩
  | i + 1 => by
    obtain ⟨h1, h2⟩ := dfold_is lit rs i
    cases e : rs[i]? with
    | none =>
      rw [List.take_add_one, e]
      simp only [Option.toList, List.append_nil]
      exact ⟨h1, h2⟩
    | some x =>
      have f : (rs.take (i + 1)).foldl (dstep lit) [] = dstep lit ((rs.take i).foldl (dstep lit) []) x := by rw [List.take_add_one, e, List.foldl_append]; rfl
      rw [f, pfold_snoc e, h1]
      generalize pfold lit (rs.take i) = p at h2
      unfold dstep pstep
      by_cases hx : lit x = true
      · rw [if_pos hx, if_pos hx]
        refine ⟨by simp [joinP], fun r hr => ?_⟩
        simp at hr
      · rw [if_neg hx, if_neg hx]
        refine ⟨?_, h2⟩
        by_cases hp : p.2 = []
        · have j : joinP p.2 = [] := if_pos hp
          rw [j, List.append_nil, hp]
          have k : joinP ([] ++ [x]) = [.txt x] := by simp [joinP, joinC]
          rw [k]
          split
          · rename_i r hr
            exact absurd hr (h2 r)
          · rfl
        · have j : joinP p.2 = [.txt (joinC p.2)] := if_neg hp
          have k : joinP (p.2 ++ [x]) = [.txt (joinC p.2 ++ 32 :: x)] := by
            rw [joinP, if_neg (by simp), joinC_snoc, if_neg hp]
            rfl
          rw [j, k]
          simp
theorem due_is (lit : List Nat → Bool) (rs : List (List Nat)) : rs.foldl (dstep lit) [] = pieces lit rs := by
  have h := (dfold_is lit rs rs.length).1
  rwa [List.take_of_length_le (Nat.le_refl _)] at h
def piecesOf (w : Int) (cs : List Nat) : List Pc := if cs = [] then [] else pieces (litC w) (cutC cs)
section
variable (K : PySem.W.Frag) (C : Addr)
def spShape : Sp := fun vs H Q _ => ∃ l : List Nat, vs = [.str (Cd.zs l)] ∧ (∀ c ∈ l, plainC c = true) ∧ l.length ≤ 10000 ∧ ∀ H1, Same H H1 → Q (.bl (shapeL l)) H1
def spIsWord : Sp := fun vs H Q _ => ∃ l : List Nat, vs = [.str (Cd.zs l)] ∧ (∀ c ∈ l, plainC c = true) ∧ l.length ≤ 10000 ∧ ∀ H1, Same H H1 → Q (.bl (!decide (32 ∈ l))) H1
def spWidth : Sp := fun vs H Q _ => ∃ w : Int, vs = [.int w] ∧ 50 ≤ w ∧ w ≤ 200 ∧ ∀ H1, Same H H1 → Q (.bl true) H1
def spLit : Sp := fun vs H Q _ => ∃ a cs w, vs = [.ref a, .int w] ∧ At K H C a cs ∧ cs.length ≤ 10000 ∧ ∀ H1, Same H H1 → Q (.bl (litC w cs)) H1
def spPieces : Sp := fun vs H Q _ => ∃ (p l : Addr) (ps : List Addr) (rows : List (List Nat)) (lit : List Nat → Bool), vs = [.ref p, .ref l] ∧ H p = some (.tup (ps.map V.ref)) ∧ Paired (fun x row => At K H C x row) ps rows ∧ H l = some (.lst (rows.map fun r => V.bl (lit r))) ∧ (∀ r ∈ rows, lit r = true → ∀ c ∈ r, plainC c = true) ∧ rows.length ≤ 5000 ∧ tot rows ≤ 10000 ∧ ∀ H1 q xs, Same H H1 → H1 q = some (.tup xs) → Paired (PcV K C H1) xs (pieces lit rows) → Q (.ref q) H1
def spPlain : Sp := fun vs H Q _ => ∃ a cs w, vs = [.ref a, .int w] ∧ At K H C a cs ∧ cs.length ≤ 4000 ∧ 50 ≤ w ∧ w ≤ 200 ∧ ∀ H1 q xs, Same H H1 → H1 q = some (.tup xs) → Paired (PcV K C H1) xs (piecesOf w cs) → Q (.ref q) H1
end
theorem body_plain {l : List Nat} (h : ∀ c ∈ l, plainC c = true) : Mk.isBody (.str (Cd.zs l)) = true := by
  show (Cd.zs l).cps.toList.all (fun c => decide (c ∈ Mk.MARKS.cps.toList)) = true
  rw [Cd.zs_list, List.all_eq_true]
  intro c hc
  obtain ⟨h1, h2, h3⟩ := Cd.isPlain_iff.mp (h c hc)
  exact decide_eq_true (List.mem_of_getElem? (Cd.marks_at c (by omega) h1 h3))
theorem any_plain {l : List Nat} (h : ∀ c ∈ l, plainC c = true) (hl : l.length ≤ 10000) (H : Hp) : AnyO H (.str (Cd.zs l)) := by
  refine .str _ (by rw [Cd.zs_len]; exact hl) ?_
  show (l.toArray).all _ = true
  rw [List.all_toArray, List.all_eq_true]
  intro c hc
  obtain ⟨h1, h2, h3⟩ := Cd.isPlain_iff.mp (h c hc)
  exact decide_eq_true (show c < 1114112 by omega)
theorem cfold_facts (cs : List Nat) : ∀ i, i ≤ cs.length → tot (cfold (cs.take i)).1 + (cfold (cs.take i)).2.length = i
  | 0, _ => rfl
  | i + 1, hi => by
    have ih := cfold_facts cs i (by omega)
    rw [cfold_snoc (List.getElem?_eq_getElem (show i < cs.length by omega))]
    unfold cstep
    split
    · show tot (_ ++ [_]) + 0 = i + 1
      rw [tot_app]
      show _ + ((cfold (cs.take i)).2.length + 1 + 0) + 0 = i + 1
      omega
    · show tot (cfold (cs.take i)).1 + ((cfold (cs.take i)).2 ++ [_]).length = i + 1
      rw [List.length_append]
      show tot (cfold (cs.take i)).1 + ((cfold (cs.take i)).2.length + 1) = i + 1
      omega
theorem cut_tot (cs : List Nat) : tot (cutC cs) = cs.length + 1 := by
  have h := cfold_facts cs cs.length (Nat.le_refl _)
  rw [List.take_of_length_le (Nat.le_refl _)] at h
  unfold cutC
  rw [tot_app]
  show _ + ((cfold cs).2.length + 1 + 0) = _
  omega
theorem tot_mem {rs : List (List Nat)} : ∀ r ∈ rs, r.length + 1 ≤ tot rs := by
  induction rs with
  | nil => intro r h; cases h
  | cons x rs ih =>
    intro r h
    show r.length + 1 ≤ (x.length + 1) + tot rs
    rcases List.mem_cons.mp h with e | m
    · rw [e]
      omega
    · have := ih r m
      omega
theorem tot_len (rs : List (List Nat)) : rs.length ≤ tot rs := by
  induction rs with
  | nil => exact Nat.le_refl _
  | cons x rs ih =>
    show rs.length + 1 ≤ (x.length + 1) + tot rs
    omega
end Pl
namespace Pl
open PySem L2 Tx
theorem lenO {K : PySem.W.Frag} {H : Hp} {C a : Addr} {cs : List Nat} {E : XK} {Q : VK} (h : At K H C a cs) (hl : cs.length ≤ 10000) (q : Q (.int (cs.length : Int)) H) : rLenO C (fun vs H Q E => spLen K C (vs ++ []) H Q E) E [.ref a] H Q := by
  obtain ⟨dx, t, e1, e2⟩ := id h
  exact ⟨a, dx, _, rfl, e1, a, cs, rfl, h, cs.length, rfl, by omega, q⟩
theorem strO {K : PySem.W.Frag} {H : Hp} {C a : Addr} {cs : List Nat} {E : XK} {Q : VK} (h : At K H C a cs) (hl : cs.length ≤ 10000) (hp : ∀ c ∈ cs, plainC c = true) (q : ∀ H1, Same H H1 → Q (.str (Cd.zs cs)) H1) : rStrO C (fun vs H Q E => spStr K C (vs ++ []) H Q E) E [.ref a] H Q := by
  obtain ⟨dx, t, e1, e2⟩ := id h
  exact ⟨a, dx, _, rfl, e1, a, cs, rfl, h, hl, hp, fun H1 s1 => ⟨_, rfl, q H1 s1⟩⟩
theorem propO {K : PySem.W.Frag} {H : Hp} {C a : Addr} {cs : List Nat} {E : XK} {Q : VK} {sp : Sp} (h : At K H C a cs) (q : sp [.ref a] H Q E) : ∃ a1 dx fs, V.ref a = .ref a1 ∧ H a1 = some (.ins C dx fs) ∧ sp (.ref a1 :: []) H Q E := by
  obtain ⟨dx, t, e1, e2⟩ := id h
  exact ⟨a, dx, _, rfl, e1, q⟩
theorem methO {K : PySem.W.Frag} {H : Hp} {C a : Addr} {cs : List Nat} {m : Str} {P : Prop} (h : At K H C a cs) (hm : (m == ("_codes" : Str)) = false) (q : P) : ∃ a1 dx fs, V.ref a = .ref a1 ∧ H a1 = some (.ins C dx fs) ∧ fs.lookup m = none ∧ P := by
  obtain ⟨dx, t, e1, e2⟩ := id h
  refine ⟨a, dx, _, rfl, e1, ?_, q⟩
  simp [List.lookup, hm]
end Pl
namespace L2
open PySem
section
variable {K : PySem.W.Frag} {g : TG} {te : TE} {vs : List Nat} {σ : St} {H1 : Hp} {D : Addr} {Qd : Hp → Prop} {a : Addr} {xs : List V}
/-- over a tuple, with the place -/
theorem lc_pureTi (f : Nat → V) (ha : SqT K H1 a xs) (hD : H1 D = none) (hn : xs.length ≤ 100000)
    (hs : ∀ i x H (N : V → Hp → Prop), xs[i]? = some x → Same H1 H → (∀ H4, Same H H4 → N (f i) H4) → g x (wipe σ vs) H fun σ2 H2 => wipe σ2 vs = wipe σ vs ∧ te σ2 H2 N) (hd : ∀ H, Same H1 H → H D = some (.lst ((List.range xs.length).map f)) → Qd H) :
    ∃ W : Nat → Nat → Hp → Prop, (∃ m, W 0 m (upd H1 D (.lst []))) ∧ ∀ i m H, W i m H →
      ((Itt K a).stop i H ∧ Qd H) ∨ ((Itt K a).go i H ∧ ∃ Nx : Hp → Prop, (∀ H', Nx H' → ∃ m', m' < m ∧ W (i + 1) m' H') ∧ ∀ x H', (Itt K a).yld i H x H' → g x (wipe σ vs) H' fun σ2 H2 => wipe σ2 vs = wipe σ vs ∧ tYes σ2 H2 fun b H3 =>
        if b = true then te σ2 H3 fun y H4 => ∃ acc, H4 D = some (.lst acc) ∧ acc.length < sizeLine ∧ Nx (upd H4 D (.lst (acc ++ [y]))) else Nx H3) := by
  refine lc_pure (n := xs.length) (it := fun i => xs.getD i .non) (G := fun H => SqT K H a xs) f (walk_tup.mono (fun _ h => h) fun i H x H' hi _ y => ⟨y.1, ?_⟩) (fun H s => s.sqt ha) hD hn (fun i H N hi s k => ?_) fun H s e => hd H s e
  · rw [List.getD_eq_getElem?_getD, y.2]
    rfl
  · refine hs i _ H N ?_ s k
    rw [List.getD_eq_getElem?_getD, List.getElem?_eq_getElem hi]
    rfl
end
end L2
namespace Pl
open PySem L2 Tx
theorem lits_list (lit : List Nat → Bool) (rs : List (List Nat)) : (List.range rs.length).map (fun i => V.bl (lit (rs.getD i []))) = rs.map fun r => V.bl (lit r) := by
  apply List.ext_getElem
  · simp
  · intro i h1 h2
    simp at h1
    simp [List.getD_eq_getElem?_getD, List.getElem?_eq_getElem h1]
theorem lit_plain {w : Int} {r : List Nat} (h : litC w r = true) : ∀ c ∈ r, plainC c = true := by
  unfold litC at h
  exact fun c hc => List.all_eq_true.mp (Bool.and_eq_true_iff.mp (Bool.and_eq_true_iff.mp h).2).1 c hc
end Pl
namespace L2
open PySem
def rIntB : List V → Hp → VK → Prop := fun xs H Q => ∃ b : Bool, xs = [.bl b] ∧ Q (.int (if b then 1 else 0)) H
theorem call_intB {X : Cx} : CallR X (.type "int") rIntB := fun pins s σ H xs us Q I r h => by
  obtain ⟨b, e, q⟩ := h
  exact call_int1 pins s σ H xs us Q I r (.inr ⟨b, e, q⟩)
theorem g_intB {b : Bool} {H : Hp} {Q : VK} (q : Q (.int (if b then 1 else 0)) H) : rIntB [.bl b] H Q := ⟨b, rfl, q⟩
end L2
namespace L2
open PySem
theorem g_gsub {to ti : TE} {t : TSet} {v : V} {σ : St} {H : Hp} {Q : St → Hp → Prop} (h : to σ H fun o H1 => ti σ H1 fun i H2 => t o i v H2 fun H3 => Q σ H3) : gSub to ti t v σ H Q := h
end L2
namespace Pl
open PySem L2 Tx
def LRow (B H : Hp) (fl x : Addr) (row : List Nat) : Prop := H x = some (.lst (row.map iv)) ∧ x ≠ fl ∧ B x = none
theorem LRow.upd {B H : Hp} {fl x : Addr} {row : List Nat} {o : HO} (h : LRow B H fl x row) : LRow B (upd H fl o) fl x row := ⟨by rw [upd_ne h.2.1]; exact h.1, h.2⟩
theorem LRow.same {B H H1 : Hp} {fl x : Addr} {row : List Nat} (h : LRow B H fl x row) (s : Same H H1) : LRow B H1 fl x row := ⟨s _ _ h.1, h.2⟩
def spSignL : Sp := fun vs H Q _ => ∃ c : Nat, vs = [iv c] ∧ plainC c = true ∧ Q (.str (Cd.zs [c])) H
def spMarksL : Sp := fun vs H Q _ => vs = [] ∧ Q (.str Mk.MARKS) H
def spWidthL : Sp := fun vs H Q _ => ∃ (d l : Addr) (m : Nat), vs = [.ref d] ∧ Dr.Draw H d l m ∧ m ≤ 500000 ∧ ∀ (w : Int) H1, 50 ≤ w → w ≤ 200 → Dr.Draw H1 d l (m + 1) → Dr.Kp d H H1 → Q (.int w) H1
def spParts : Sp := fun vs H Q _ => ∃ (a : Addr) (cs : List Nat), vs = [.ref a] ∧ H a = some (.lst (cs.map iv)) ∧ cs.length ≤ 2000 ∧ ∀ H1 (q : Addr) (ps : List Addr), Same H H1 → H q = none → H1 q = some (.lst (ps.map V.ref)) → Paired (LRow H H1 q) ps (cutC cs) → Q (.ref q) H1
def spLitL : Sp := fun vs H Q _ => ∃ (a : Addr) (cs : List Nat) (w : Int), vs = [.ref a, .int w] ∧ H a = some (.lst (cs.map iv)) ∧ cs.length ≤ 2000 ∧ (∀ c ∈ cs, Cd.isC c = true) ∧ 32 ∉ cs ∧ ∀ H1, Same H H1 → Q (.str (if litC w cs then Cd.zs cs else "")) H1
theorem cut_no32 (cs : List Nat) : ∀ r ∈ cutC cs, 32 ∉ r := by
  have h : ∀ i, (∀ r ∈ (cfold (cs.take i)).1, 32 ∉ r) ∧ 32 ∉ (cfold (cs.take i)).2 := fun i => by
    induction i with
    | zero => exact ⟨fun r h => (nomatch h), fun h => (nomatch h)⟩
    | succ i ih =>
      cases e : cs[i]? with
      | none =>
        rw [List.take_add_one, e]
        simp only [Option.toList, List.append_nil]
        exact ih
      | some c =>
        rw [cfold_snoc e]
        unfold cstep
        split
        · refine ⟨fun r hr => ?_, fun h => (nomatch h)⟩
          rcases List.mem_append.mp hr with m | m
          · exact ih.1 r m
          · rw [List.mem_singleton.mp m]
            exact ih.2
        · rename_i hc
          refine ⟨ih.1, fun h => ?_⟩
          rcases List.mem_append.mp h with m | m
          · exact ih.2 m
          · exact hc (List.mem_singleton.mp m).symm
  intro r hr
  have q := h cs.length
  rw [List.take_of_length_le (Nat.le_refl _)] at q
  rcases List.mem_append.mp hr with m | m
  · exact q.1 r m
  · rw [List.mem_singleton.mp m]
    exact q.2
theorem cut_mem (cs : List Nat) : ∀ r ∈ cutC cs, ∀ c ∈ r, c ∈ cs := by
  have h : ∀ i, (∀ r ∈ (cfold (cs.take i)).1, ∀ c ∈ r, c ∈ cs) ∧ ∀ c ∈ (cfold (cs.take i)).2, c ∈ cs := fun i => by
    induction i with
    | zero => exact ⟨fun r h => (nomatch h), fun c h => (nomatch h)⟩
    | succ i ih =>
      cases e : cs[i]? with
      | none =>
        rw [List.take_add_one, e]
        simp only [Option.toList, List.append_nil]
        exact ih
      | some c =>
        rw [cfold_snoc e]
        unfold cstep
        split
        · refine ⟨fun r hr => ?_, fun c h => (nomatch h)⟩
          rcases List.mem_append.mp hr with m | m
          · exact ih.1 r m
          · rw [List.mem_singleton.mp m]
            exact ih.2
        · refine ⟨ih.1, fun c' h => ?_⟩
          rcases List.mem_append.mp h with m | m
          · exact ih.2 c' m
          · rw [List.mem_singleton.mp m]
            exact List.mem_of_getElem? e
  intro r hr
  have q := h cs.length
  rw [List.take_of_length_le (Nat.le_refl _)] at q
  rcases List.mem_append.mp hr with m | m
  · exact q.1 r m
  · rw [List.mem_singleton.mp m]
    exact q.2
theorem sign_at {c : Nat} (h : plainC c = true) : atI Mk.MARKS.cps.toList ((c : Int) - 32 - (if decide ((c : Int) > 37) then 1 else 0)) = some c := by
  obtain ⟨h1, h2, h3⟩ := Cd.isPlain_iff.mp h
  obtain ⟨m1, m2⟩ := Cd.mark_ix (c := c) h1 (by omega) h3
  by_cases g : c < 37
  · rw [decide_eq_false (show ¬ (c : Int) > 37 by omega)]
    have := m1 g
    simpa using this
  · rw [decide_eq_true (show (c : Int) > 37 by omega)]
    have := m2 g
    rw [show (c : Int) - 33 = (c : Int) - 32 - 1 by omega] at this
    simpa using this
end Pl
namespace L2
open PySem
section
variable {K : PySem.W.Frag} {g : TG} {te : TE} {tt : TT} {vs : List Nat} {σ : St} {H1 : Hp} {D : Addr} {Qd : Hp → Prop} {a : Addr} {xs : List V}
/-- over a list, what a test lets pass -/
theorem lc_filtL (pr : V → Bool) (ha : SqL K H1 a xs) (hD : H1 D = none) (hn : xs.length ≤ 100000)
    (hs : ∀ x H (N : V → Hp → Prop) (M : Hp → Prop), x ∈ xs → Same H1 H → (pr x = true → N x H) → (pr x = false → M H) → g x (wipe σ vs) H fun σ2 H2 => wipe σ2 vs = wipe σ vs ∧ tt σ2 H2 fun b H3 => if b = true then te σ2 H3 N else M H3)
    (hd : ∀ H, Same H1 H → H D = some (.lst (xs.filter pr)) → Qd H) :
    ∃ W : Nat → Nat → Hp → Prop, (∃ m, W 0 m (upd H1 D (.lst []))) ∧ ∀ i m H, W i m H →
      ((Itl K a).stop i H ∧ Qd H) ∨ ((Itl K a).go i H ∧ ∃ Nx : Hp → Prop, (∀ H', Nx H' → ∃ m', m' < m ∧ W (i + 1) m' H') ∧ ∀ x H', (Itl K a).yld i H x H' → g x (wipe σ vs) H' fun σ2 H2 => wipe σ2 vs = wipe σ vs ∧ tt σ2 H2 fun b H3 =>
        if b = true then te σ2 H3 fun y H4 => ∃ acc, H4 D = some (.lst acc) ∧ acc.length < sizeLine ∧ Nx (upd H4 D (.lst (acc ++ [y]))) else Nx H3) := by
  refine lc_it walk_list (fun i H => Same H1 H ∧ H D = some (.lst ((xs.take i).filter pr))) ⟨same_new hD, upd_same⟩ (fun i H _ p => Same.seq p.1 ha) (fun i x H H' hi p y => ?_) fun H p => hd H p.1 (by have := p.2; rwa [List.take_of_length_le (Nat.le_refl _)] at this)
  obtain ⟨rfl, hx⟩ := y
  have ht : xs.take (i + 1) = xs.take i ++ [x] := by rw [List.take_add_one, hx]; rfl
  refine hs x H' _ _ (List.mem_of_getElem? hx) p.1 (fun hp => ⟨_, p.2, ?_, p.1.mut hD, ?_⟩) fun hp => ⟨p.1, ?_⟩
  · refine Nat.lt_of_le_of_lt (List.length_filter_le _ _) ?_
    rw [List.length_take]
    exact Nat.lt_of_le_of_lt (Nat.min_le_right _ _) (Nat.lt_of_le_of_lt hn (by decide))
  · rw [upd_same, ht, List.filter_append, List.filter_cons, if_pos hp]
    rfl
  · rw [p.2, ht, List.filter_append, List.filter_cons, if_neg (by rw [hp]; decide)]
    simp
end
theorem ixN_last (n : Nat) : ixN (n + 1) (-1) = some n := by
  unfold ixN
  rw [if_neg (by decide), if_pos (by omega)]
  congr 1
  omega
theorem set_last {α : Type} (xs : List α) (x y : α) : (xs ++ [x]).set xs.length y = xs ++ [y] := by simp
end L2
namespace Pl
open PySem L2 Tx
def big6 : V → Bool
  | .int i => decide (i > 126)
  | _ => false
theorem big6_iv (cs : List Nat) : (cs.map iv).filter big6 = (cs.filter fun c => decide (c > 126)).map iv := by
  rw [List.filter_map]
  congr 1
  refine List.filter_congr fun c _ => ?_
  show decide ((c : Int) > 126) = decide (c > 126)
  refine decide_eq_decide.mpr ?_
  omega
theorem low_plain {cs : List Nat} (hc : ∀ c ∈ cs, Cd.isC c = true) : (cs.filter fun c => decide (c > 126)) = [] ↔ cs.all plainC = true := by
  rw [List.filter_eq_nil_iff, List.all_eq_true]
  constructor
  · intro h c hm
    have h1 := h c hm
    rw [decide_eq_true_eq] at h1
    have h2 := Cd.isC_iff.mp (hc c hm)
    exact Cd.isPlain_iff.mpr (by omega)
  · intro h c hm
    have := Cd.isPlain_iff.mp (h c hm)
    rw [decide_eq_true_eq]
    omega
theorem cut_first (l : List Nat) (n : Nat) : cutS (Cd.zs l) none (some (n : Int)) = Cd.zs (l.take n) := by
  have h := Cd.cutS_nat l 0 n
  rw [List.drop_zero, Nat.sub_zero] at h
  rw [← h]
  unfold cutS
  rw [Cd.zs_list, Cd.zs_len]
  simp [HT.sIx]
theorem cut_last2 {l : List Nat} (h : 4 ≤ l.length) : cutS (Cd.zs l) (some (-2)) none = Cd.zs (l.drop (l.length - 2)) := by
  unfold cutS
  rw [Cd.zs_list, Cd.zs_len, HT.sIx_none]
  have e : HT.sIx l.length 0 (some (-2)) = l.length - 2 := by
    show (if (-2 : Int) < 0 then ((-2 : Int) + (l.length : Int)).toNat else min (-2 : Int).toNat l.length) = _
    rw [if_pos (by decide)]
    omega
  rw [e, List.take_of_length_le (by rw [List.length_drop]; exact Nat.le_refl _)]
  rfl
end Pl
namespace Pl
open PySem L2 Tx
def DueV (H : Hp) (fl : Addr) : V → Pc → Prop
  | v, .lit s => v = .str (Cd.zs s)
  | v, .txt r => ∃ x, v = .ref x ∧ H x = some (.lst (r.map iv)) ∧ x ≠ fl
theorem DueV.same {H H1 : Hp} {fl : Addr} (s : Same H H1) : ∀ {v : V} {p : Pc}, DueV H fl v p → DueV H1 fl v p
  | _, .lit _, h => h
  | _, .txt _, ⟨x, e, h, n⟩ => ⟨x, e, s _ _ h, n⟩
theorem DueV.upd {H : Hp} {fl : Addr} {o : HO} : ∀ {v : V} {p : Pc}, DueV H fl v p → DueV (upd H fl o) fl v p
  | _, .lit _, h => h
  | _, .txt _, ⟨x, e, h, n⟩ => ⟨x, e, by rw [upd_ne n]; exact h, n⟩
def dat : Pc → PyData
  | .lit s => .str (Cd.zs s)
  | .txt r => .list (r.map fun (c : Nat) => PyData.int (c : Int))
theorem dps_due {K : PySem.W.Frag} {H : Hp} {fl : Addr} {xs : List V} {pcs : List Pc} (p : Paired (DueV H fl) xs pcs) : DpAll K H xs (pcs.map dat) := by
  induction p with
  | nil => exact .nil
  | @cons v pc vs ps h t ih =>
    refine .cons ?_ ih
    cases pc with
    | lit s =>
      obtain rfl : v = .str (Cd.zs s) := h
      exact .str _
    | txt r =>
      obtain ⟨x, rfl, e, _⟩ := h
      exact .lst (SqL.of e) (Tx.dps r)
theorem eqv_due (pcs : List Pc) : PyData.eqv (.list (pcs.map dat)) (.list []) = decide (pcs = []) := by
  rw [PyData.eqv]
  cases pcs with
  | nil => simp [PyData.eqvAll]
  | cons p ps => simp [PyData.eqvAll]
def litOk : Pc → Bool
  | .lit s => PyData.strOk (Cd.zs s)
  | .txt _ => true
theorem cla_due : ∀ pcs : List Pc, (∀ p ∈ pcs, litOk p = true) → PyData.canLayAll0 (pcs.map dat) = true
  | [], _ => by simp [PyData.canLayAll0]
  | .lit s :: ps, h => by
    have ih := cla_due ps fun p hp => h p (List.mem_cons_of_mem _ hp)
    have h1 : PyData.strOk (Cd.zs s) = true := h (.lit s) List.mem_cons_self
    simp [PyData.canLayAll0, PyData.canLay0, dat, ih, h1]
  | .txt r :: ps, h => by
    have ih := cla_due ps fun p hp => h p (List.mem_cons_of_mem _ hp)
    simp [PyData.canLayAll0, PyData.canLay0, dat, ih, Tx.cla_ints]
theorem dep_due : ∀ pcs : List Pc, PyData.depthAll (pcs.map dat) ≤ 2
  | [] => by simp [PyData.depthAll]
  | .lit s :: ps => by
    have := dep_due ps
    simp only [List.map_cons, PyData.depthAll, PyData.depth, dat]
    omega
  | .txt r :: ps => by
    have := dep_due ps
    have h1 := Tx.dep_ints r
    simp only [List.map_cons, PyData.depthAll, PyData.depth, dat]
    omega
theorem shaped_due {pcs : List Pc} (h : ∀ p ∈ pcs, litOk p = true) : SeqAt.shaped (.list (pcs.map dat)) = true := by
  have h1 := dep_due pcs
  show (PyData.canLay0 _ && decide (PyData.depth _ ≤ 64)) = true
  rw [Bool.and_eq_true]
  refine ⟨?_, decide_eq_true ?_⟩
  · simp only [PyData.canLay0]
    exact cla_due pcs h
  · simp only [PyData.depth]
    omega
end Pl
namespace Pl
open PySem L2 Tx
def spDue (K : PySem.W.Frag) : Sp := fun vs H Q _ => ∃ (a : Addr) (cs : List Nat) (w : Int), vs = [.ref a, .int w] ∧ H a = some (.lst (cs.map iv)) ∧ cs.length ≤ 2000 ∧ (∀ c ∈ cs, Cd.isC c = true) ∧ ∀ H1 (q : Addr) (xs : List V), Same H H1 → H1 q = some (.lst xs) → Paired (DueV H1 q) xs (piecesOf w cs) → Q (.ref q) H1
theorem lit_strOk {w : Int} {r : List Nat} (h : litC w r = true) : litOk (.lit r) = true := by
  show (r.toArray).all _ = true
  rw [List.all_toArray, List.all_eq_true]
  intro c hc
  obtain ⟨h1, h2, h3⟩ := Cd.isPlain_iff.mp (lit_plain h c hc)
  exact decide_eq_true (show c < 1114112 by omega)
theorem dfold_ok (w : Int) (rs : List (List Nat)) : ∀ i, (∀ p ∈ (rs.take i).foldl (dstep (litC w)) [], litOk p = true) ∧ ((rs.take i).foldl (dstep (litC w)) []).length ≤ i
  | 0 => ⟨fun p h => (nomatch h), Nat.le_refl _⟩
  | i + 1 => by
    obtain ⟨h1, h2⟩ := dfold_ok w rs i
    cases e : rs[i]? with
    | none =>
      rw [List.take_add_one, e]
      simp only [Option.toList, List.append_nil]
      exact ⟨h1, Nat.le_succ_of_le h2⟩
    | some x =>
      have f : (rs.take (i + 1)).foldl (dstep (litC w)) [] = dstep (litC w) ((rs.take i).foldl (dstep (litC w)) []) x := by rw [List.take_add_one, e, List.foldl_append]; rfl
      rw [f]
      generalize (rs.take i).foldl (dstep (litC w)) [] = acc at h1 h2
      unfold dstep
      by_cases hx : litC w x = true
      · rw [if_pos hx]
        refine ⟨fun p hp => ?_, by rw [List.length_append]; exact Nat.add_le_add_right h2 1⟩
        rcases List.mem_append.mp hp with m | m
        · exact h1 p m
        · rw [List.mem_singleton.mp m]
          exact lit_strOk hx
      · rw [if_neg hx]
        split
        · rename_i r hr
          refine ⟨fun p hp => ?_, ?_⟩
          · rcases List.mem_append.mp hp with m | m
            · exact h1 p (List.dropLast_subset _ m)
            · rw [List.mem_singleton.mp m]
              rfl
          · rw [List.length_append, List.length_dropLast]
            show acc.length - 1 + 1 ≤ i + 1
            omega
        · refine ⟨fun p hp => ?_, by rw [List.length_append]; exact Nat.add_le_add_right h2 1⟩
          rcases List.mem_append.mp hp with m | m
          · exact h1 p m
          · rw [List.mem_singleton.mp m]
            rfl
theorem paired_last {F : V → Pc → Prop} {xs : List V} {ps : List Pc} (p : Paired F xs ps) : (xs = [] ∧ ps = []) ∨ ∃ ys v qs c, xs = ys ++ [v] ∧ ps = qs ++ [c] ∧ Paired F ys qs ∧ F v c := by
  induction p with
  | nil => exact .inl ⟨rfl, rfl⟩
  | @cons a b l1 l2 h t ih =>
    rcases ih with ⟨rfl, rfl⟩ | ⟨ys, v, qs, c, rfl, rfl, q, f⟩
    · exact .inr ⟨[], a, [], b, rfl, rfl, .nil, h⟩
    · exact .inr ⟨a :: ys, v, b :: qs, c, rfl, rfl, .cons h q, f⟩
theorem dstep_lit {w : Int} {acc : List Pc} {x : List Nat} (h : litC w x = true) : dstep (litC w) acc x = acc ++ [.lit x] := if_pos h
theorem dstep_txt {w : Int} {qs : List Pc} {r x : List Nat} (h : ¬ litC w x = true) : dstep (litC w) (qs ++ [.txt r]) x = qs ++ [.txt (r ++ 32 :: x)] := by
  unfold dstep
  rw [if_neg h]
  simp
theorem dstep_new {w : Int} {qs : List Pc} {s x : List Nat} (h : ¬ litC w x = true) : dstep (litC w) (qs ++ [.lit s]) x = qs ++ [.lit s] ++ [.txt x] := by
  unfold dstep
  rw [if_neg h]
  simp
theorem dstep_nil {w : Int} {x : List Nat} (h : ¬ litC w x = true) : dstep (litC w) [] x = [.txt x] := by
  unfold dstep
  rw [if_neg h]
  simp
end Pl
namespace Pl
open PySem L2 Tx
theorem lit_ne {w : Int} {r : List Nat} (h : litC w r = true) : ¬ V.str (Cd.zs r) = V.str "" := fun e => by
  have e2 : ("" : Str) = Cd.zs [] := by decide +kernel
  rw [e2] at e
  rw [Cd.zs_inj (V.str.inj e)] at h
  cases h
end Pl
namespace Pl
open PySem L2 Tx
theorem dfold_txt (w : Int) (rs : List (List Nat)) : ∀ i, ∀ r, Pc.txt r ∈ (rs.take i).foldl (dstep (litC w)) [] → r.length + 1 ≤ tot (rs.take i)
  | 0, r, h => (nomatch h)
  | i + 1, r, h => by
    cases e : rs[i]? with
    | none =>
      rw [List.take_add_one, e] at h ⊢
      simp only [Option.toList, List.append_nil] at h ⊢
      exact dfold_txt w rs i r h
    | some x =>
      have f : (rs.take (i + 1)).foldl (dstep (litC w)) [] = dstep (litC w) ((rs.take i).foldl (dstep (litC w)) []) x := by rw [List.take_add_one, e, List.foldl_append]; rfl
      have t : tot (rs.take (i + 1)) = tot (rs.take i) + (x.length + 1) := by rw [List.take_add_one, e, tot_app]; rfl
      have ih := dfold_txt w rs i
      rw [f] at h
      rw [t]
      generalize (rs.take i).foldl (dstep (litC w)) [] = acc at h ih
      unfold dstep at h
      by_cases hx : litC w x = true
      · rw [if_pos hx] at h
        rcases List.mem_append.mp h with m | m
        · have := ih r m
          omega
        · cases (List.mem_singleton.mp m)
      · rw [if_neg hx] at h
        split at h
        · rename_i r' hr
          rcases List.mem_append.mp h with m | m
          · have := ih r (List.dropLast_subset _ m)
            omega
          · have e2 := Pc.txt.inj (List.mem_singleton.mp m)
            have := ih r' (List.mem_of_getLast? hr)
            rw [e2, List.length_append, List.length_cons]
            omega
        · rcases List.mem_append.mp h with m | m
          · have := ih r m
            omega
          · have e2 := Pc.txt.inj (List.mem_singleton.mp m)
            rw [e2]
            omega
theorem tot_take (rs : List (List Nat)) (i : Nat) : tot (rs.take i) ≤ tot rs := by
  have z := tot_app (rs.take i) (rs.drop i)
  rw [List.take_append_drop] at z
  omega
end Pl
namespace Pl
open PySem L2 Tx
def spTN : Sp := fun vs H Q _ => ∃ (d l : Addr) (m : Nat) (w : Int), vs = [.ref d, .int w] ∧ Dr.Draw H d l m ∧ m ≤ 400000 ∧ 50 ≤ w ∧ w ≤ 200 ∧ ∀ (cs : List Nat) (p : Addr) H1, cs.length ≤ 2000 → (∀ c ∈ cs, Cd.isC c = true) → H1 p = some (.lst (cs.map iv)) → Dr.Draw H1 d l (m + 400) → Dr.Kp d H H1 → Q (.ref p) H1
def spRightL : Sp := fun vs H Q _ => ∃ (a : Addr) (cs : List Nat) (w : Int), vs = [.ref a, .int w] ∧ H a = some (.lst (cs.map iv)) ∧ cs.length ≤ 2000 ∧ (∀ c ∈ cs, Cd.isC c = true) ∧ 50 ≤ w ∧ w ≤ 200 ∧ ∀ H1, Same H H1 → Q (.bl true) H1
end Pl
namespace Pl
open PySem L2 Tx
abbrev LN (H : Hp) (p : Addr) (cs : List Nat) : Prop := H p = some (.lst (cs.map iv))
theorem g_catN {K : PySem.W.Frag} {H : Hp} {Q : VK} {f p : Addr} {cs ds : List Nat} (h1 : LN H f cs) (h2 : LN H p ds) (hz : cs.length + ds.length ≤ 100000) (q : ∀ r, H r = none → Q (.ref r) (upd H r (.lst ((cs ++ ds).map iv)))) : rCatS K (.ref f) (.ref p) H Q := by
  refine g_cats (SqL.of h1) (SqL.of h2) (by rw [List.length_map, List.length_map]; exact Nat.le_trans hz (by decide)) fun r hr => ?_
  rw [← List.map_append]
  exact q r hr
end Pl
namespace Pl
open PySem L2 Tx
theorem g_repN {H : Hp} {Q : VK} {f : Addr} {c : Nat} {k : Int} (h1 : LN H f [c]) (h0 : 0 ≤ k) (hk : k ≤ 10000) (q : ∀ r, H r = none → Q (.ref r) (upd H r (.lst ((List.replicate k.toNat c).map iv)))) : rRep (.ref f) (.int k) H Q := by
  refine ⟨f, k, _, rfl, rfl, h1, by omega, by omega, Nat.le_trans (show 1 * k.toNat ≤ 10000 by omega) (by decide), fun p hp => ?_⟩
  have e : (List.replicate k.toNat ([c].map iv)).flatten = (List.replicate k.toNat c).map iv := by
    generalize k.toNat = n
    induction n with
    | zero => rfl
    | succ n ih =>
      rw [List.replicate_succ, List.flatten_cons, ih, List.replicate_succ, List.map_cons]
      rfl
  rw [e]
  exact q p hp
theorem isC32 : Cd.isC 32 = true := by decide +kernel
theorem isC97 : Cd.isC 97 = true := by decide +kernel
theorem all_app {p : Nat → Bool} {a b : List Nat} (ha : ∀ c ∈ a, p c = true) (hb : ∀ c ∈ b, p c = true) : ∀ c ∈ a ++ b, p c = true := fun c h => (List.mem_append.mp h).elim (ha c) (hb c)
theorem all_one {p : Nat → Bool} {x : Nat} (h : p x = true) : ∀ c ∈ [x], p c = true := fun c hc => by rw [List.mem_singleton.mp hc]; exact h
theorem all_rep {p : Nat → Bool} {x n : Nat} (h : p x = true) : ∀ c ∈ List.replicate n x, p c = true := fun c hc => by rw [(List.mem_replicate.mp hc).2]; exact h
def TOKS : List Str := ["=?a?=", "=??=", "=?=", "?==?", "=?latin?h?x?=", "=?x"]
theorem toks_ok : ∀ z ∈ TOKS, z.length ≤ 20 ∧ ∀ c ∈ z.cps.toList, Cd.isC c = true := by decide +kernel
theorem kp_same {d : Addr} {H H' : Hp} (k : Dr.Kp d H H') {H2 : Hp} (s : Same H' H2) : Dr.Kp d H H2 := k.trans (Tx.kp_of_same s)
end Pl
namespace Pl
open PySem L2 Tx
theorem eqv_same (z : List Nat) : PyData.eqv (.list (z.map fun (c : Nat) => PyData.int (c : Int))) (.list (z.map fun (c : Nat) => PyData.int (c : Int))) = true := by
  rw [PyData.eqv, Tx.eqvAll_ints]
  exact decide_eq_true rfl
theorem DTup_pcs {K : PySem.W.Frag} {C p q : Addr} {H : Hp} {xs ys : List V} {pcs : List Pc} (h1 : H p = some (.tup xs)) (h2 : H q = some (.tup ys)) (px : Paired (PcV K C H) xs pcs) (py : Paired (PcV K C H) ys pcs) : DTup K (Cd.DT K C) (.ref p) (.ref q) H := by
  refine ⟨p, q, xs, ys, rfl, rfl, SqT.of h1, SqT.of h2, px.length.trans py.length.symm, fun i x y e1 e2 => ?_⟩
  obtain ⟨c, ec, hx⟩ := paired_at px e1
  obtain ⟨c', ec', hy⟩ := paired_at py e2
  rw [ec] at ec'
  obtain rfl := Option.some.inj ec'
  cases c with
  | lit z =>
    obtain rfl : x = .str (Cd.zs z) := hx
    obtain rfl : y = .str (Cd.zs z) := hy
    exact .inr ⟨rfl, rfl, by simp [eqV]⟩
  | txt r =>
    obtain ⟨a, rfl, A⟩ := hx
    obtain ⟨b, rfl, B⟩ := hy
    obtain ⟨dx, t, g1, g2⟩ := id A
    obtain ⟨dy, u, g3, g4⟩ := id B
    exact .inl ⟨a, b, dx, dy, _, _, rfl, rfl, g1, g3, r, A, B⟩
end Pl
namespace L2
open PySem
theorem g_callN {n m : Nat} {sp : Sp} {gV : List V → List V → List V} {E : XK} {t tk : TA} {σ : St} {H : Hp} {Q : VK} (h : t σ H fun vs H1 => tk σ H1 fun zs H2 => vs.length = n ∧ zs.length = m ∧ sp (gV vs zs) H2 Q E) : tCallN n m sp gV E t tk σ H Q := h
end L2
namespace Rd
open Pw Cd
/-! payloads of the coding s, read: by rows of four letters (the program) and bit by bit (the law) -/
/-- row by row: the octets, none where bits are left over -/
def progS : List Nat → Option (List Nat)
  | a :: b :: c :: d :: r => (progS r).map (row3 (digS [a, b, c, d]) ++ ·)
  | [] => some []
  | [a] => none
  | [a, b] => if (row3 (digS [a, b])).drop 1 = [0, 0] then some ((row3 (digS [a, b])).take 1) else none
  | [a, b, c] => if (row3 (digS [a, b, c])).drop 2 = [0] then some ((row3 (digS [a, b, c])).take 2) else none
def v8 (l : List Nat) : Nat := ((List.range 8).map fun j => W8.getD j 0 * l.getD j 0).sum
def b6 (ds : List Nat) : List Nat := (ds.map fun d => bits d W6).flatten
def eights : List Nat → List Nat
  | a :: b :: c :: d :: e :: f :: g :: h :: r => v8 [a, b, c, d, e, f, g, h] :: eights r
  | _ => []
def left8 : List Nat → List Nat
  | _ :: _ :: _ :: _ :: _ :: _ :: _ :: _ :: r => left8 r
  | l => l
def bitS (ds : List Nat) : Option (List Nat) := if 1 ∈ left8 (b6 ds) then none else some (eights (b6 ds))
theorem cc {a b : Nat} {l m : List Nat} (h : a = b) (k : l = m) : a :: l = b :: m := by rw [h, k]
theorem v8_is (a b c d e f g h : Nat) : v8 [a, b, c, d, e, f, g, h] = 128 * a + 64 * b + 32 * c + 16 * d + 8 * e + 4 * f + 2 * g + 1 * h := by
  simp [v8, W8, List.range, List.range.loop, List.getD]
  omega
theorem bits6 (o : Nat) : bits o W6 = [o / 32 % 2, o / 16 % 2, o / 8 % 2, o / 4 % 2, o / 2 % 2, o / 1 % 2] := rfl
theorem f6 : ∀ a, a < 64 → 32 * (a / 32 % 2) + 16 * (a / 16 % 2) + 8 * (a / 8 % 2) + 4 * (a / 4 % 2) + 2 * (a / 2 % 2) + 1 * (a / 1 % 2) = a := by decide +kernel
theorem f2 : ∀ a, a < 64 → 2 * (a / 32 % 2) + 1 * (a / 16 % 2) = a / 16 := by decide +kernel
theorem f4 : ∀ a, a < 64 → 8 * (a / 8 % 2) + 4 * (a / 4 % 2) + 2 * (a / 2 % 2) + 1 * (a / 1 % 2) = a % 16 := by decide +kernel
theorem g4 : ∀ a, a < 64 → 8 * (a / 32 % 2) + 4 * (a / 16 % 2) + 2 * (a / 8 % 2) + 1 * (a / 4 % 2) = a / 4 := by decide +kernel
theorem g2 : ∀ a, a < 64 → 2 * (a / 2 % 2) + 1 * (a / 1 % 2) = a % 4 := by decide +kernel
theorem b6_cons (d : Nat) (r : List Nat) : b6 (d :: r) = bits d W6 ++ b6 r := rfl
theorem dig4 (a b c d : Nat) : digS [a, b, c, d] = ((a * 64 + b) * 64 + c) * 64 + d := by
  show (((0 * 64 + a) * 64 + b) * 64 + c) * 64 + d = _
  omega
theorem dig3 (a b c : Nat) : digS [a, b, c] = ((a * 64 + b) * 64 + c) * 64 := by
  show (((0 * 64 + a) * 64 + b) * 64 + c) * 64 + 0 = _
  omega
theorem dig2 (a b : Nat) : digS [a, b] = ((a * 64 + b) * 64) * 64 := by
  show (((0 * 64 + a) * 64 + b) * 64 + 0) * 64 + 0 = _
  omega
theorem row_4 {a b c d : Nat} (ha : a < 64) (hb : b < 64) (hc : c < 64) (hd : d < 64) : row3 (digS [a, b, c, d]) = [a * 4 + b / 16, b % 16 * 16 + c / 4, c % 4 * 64 + d] := by
  rw [dig4]
  unfold row3
  refine cc (by omega) (cc (by omega) (cc (by omega) rfl))
theorem row_3 {a b c : Nat} (ha : a < 64) (hb : b < 64) (hc : c < 64) : row3 (digS [a, b, c]) = [a * 4 + b / 16, b % 16 * 16 + c / 4, c % 4 * 64] := by
  rw [dig3]
  unfold row3
  refine cc (by omega) (cc (by omega) (cc (by omega) rfl))
theorem row_2 {a b : Nat} (ha : a < 64) (hb : b < 64) : row3 (digS [a, b]) = [a * 4 + b / 16, b % 16 * 16, 0] := by
  rw [dig2]
  unfold row3
  refine cc (by omega) (cc (by omega) (cc (by omega) rfl))
theorem eights_4 {a b c d : Nat} (ha : a < 64) (hb : b < 64) (hc : c < 64) (hd : d < 64) (r : List Nat) : eights (b6 (a :: b :: c :: d :: r)) = row3 (digS [a, b, c, d]) ++ eights (b6 r) := by
  rw [row_4 ha hb hc hd, b6_cons, b6_cons, b6_cons, b6_cons, bits6, bits6, bits6, bits6]
  show v8 _ :: v8 _ :: v8 _ :: eights (b6 r) = _
  rw [v8_is, v8_is, v8_is]
  have e1 := f6 a ha
  have e2 := f2 b hb
  have e3 := f4 b hb
  have e4 := g4 c hc
  have e5 := g2 c hc
  have e6 := f6 d hd
  refine cc (by omega) (cc (by omega) (cc (by omega) rfl))
theorem left_4 (a b c d : Nat) (r : List Nat) : left8 (b6 (a :: b :: c :: d :: r)) = left8 (b6 r) := rfl
theorem one_mem4 : ∀ b, b < 64 → ((1 : Nat) ∈ [b / 8 % 2, b / 4 % 2, b / 2 % 2, b / 1 % 2]) = (b % 16 ≠ 0) := by
  have : ∀ b, b < 64 → (decide ((1 : Nat) ∈ [b / 8 % 2, b / 4 % 2, b / 2 % 2, b / 1 % 2])) = decide (b % 16 ≠ 0) := by decide +kernel
  intro b hb
  exact propext (decide_eq_decide.mp (this b hb))
theorem one_mem2 : ∀ b, b < 64 → ((1 : Nat) ∈ [b / 2 % 2, b / 1 % 2]) = (b % 4 ≠ 0) := by
  have : ∀ b, b < 64 → (decide ((1 : Nat) ∈ [b / 2 % 2, b / 1 % 2])) = decide (b % 4 ≠ 0) := by decide +kernel
  intro b hb
  exact propext (decide_eq_decide.mp (this b hb))
theorem prog_bit : ∀ ds : List Nat, (∀ d ∈ ds, d < 64) → ds.length % 4 ≠ 1 → progS ds = bitS ds
  | [], _, _ => rfl
  | [a], _, h => absurd rfl h
  | [a, b], h, _ => by
    have ha := h a (by simp)
    have hb := h b (by simp)
    have e8 : eights (b6 [a, b]) = [a * 4 + b / 16] := by
      rw [b6_cons, b6_cons, bits6, bits6]
      show [v8 _] = _
      rw [v8_is]
      have e1 := f6 a ha
      have e2 := f2 b hb
      refine cc (by omega) rfl
    have l8 : left8 (b6 [a, b]) = [b / 8 % 2, b / 4 % 2, b / 2 % 2, b / 1 % 2] := rfl
    unfold progS bitS
    rw [row_2 ha hb, e8, l8]
    have om := one_mem4 b hb
    by_cases z : b % 16 = 0
    · rw [if_pos (by simp [z]), if_neg (by rw [om]; exact fun k => k z)]
      rfl
    · rw [if_neg (by simp; omega), if_pos (by rw [om]; exact z)]
  | [a, b, c], h, _ => by
    have ha := h a (by simp)
    have hb := h b (by simp)
    have hc := h c (by simp)
    have e8 : eights (b6 [a, b, c]) = [a * 4 + b / 16, b % 16 * 16 + c / 4] := by
      rw [b6_cons, b6_cons, b6_cons, bits6, bits6, bits6]
      show [v8 _, v8 _] = _
      rw [v8_is, v8_is]
      have e1 := f6 a ha
      have e2 := f2 b hb
      have e3 := f4 b hb
      have e4 := g4 c hc
      refine cc (by omega) (cc (by omega) rfl)
    have l8 : left8 (b6 [a, b, c]) = [c / 2 % 2, c / 1 % 2] := rfl
    unfold progS bitS
    rw [row_3 ha hb hc, e8, l8]
    have om := one_mem2 c hc
    by_cases z : c % 4 = 0
    · rw [if_pos (by simp [z]), if_neg (by rw [om]; exact fun k => k z)]
      rfl
    · rw [if_neg (by simp; omega), if_pos (by rw [om]; exact z)]
  | a :: b :: c :: d :: r, h, hn => by
    have ih := prog_bit r (fun x hx => h x (by simp [hx])) (by simp only [List.length_cons] at hn; omega)
    unfold progS
    rw [ih]
    unfold bitS
    rw [eights_4 (h a (by simp)) (h b (by simp)) (h c (by simp)) (h d (by simp)), left_4]
    by_cases z : 1 ∈ left8 (b6 r)
    · rw [if_pos z, if_pos z]
      rfl
    · rw [if_neg z, if_neg z]
      rfl
/-- what was read is written again as it was -/
theorem pay_prog : ∀ (ds os : List Nat), (∀ d ∈ ds, d < 64) → progS ds = some os → payS os = ds.map al ∧ (∀ o ∈ os, o < 256)
  | [], os, _, e => by
    cases e
    exact ⟨rfl, fun o h => by cases h⟩
  | [a], os, _, e => by cases e
  | [a, b], os, h, e => by
    have ha := h a (by simp)
    have hb := h b (by simp)
    unfold progS at e
    rw [row_2 ha hb] at e
    by_cases z : b % 16 = 0
    · rw [if_pos (by simp [z])] at e
      cases e
      refine ⟨?_, fun o ho => by simp at ho; omega⟩
      show (sForm [a * 4 + b / 16]) = _
      unfold sForm num3 sDigits
      simp only [List.getD_cons_zero, List.getD_cons_succ, List.getD_nil, List.length_cons, List.length_nil, List.take_succ_cons, List.take_zero, List.map_cons, List.map_nil]
      exact cc (congrArg al (by omega)) (cc (congrArg al (by omega)) rfl)
    · rw [if_neg (by simp; omega)] at e
      cases e
  | [a, b, c], os, h, e => by
    have ha := h a (by simp)
    have hb := h b (by simp)
    have hc := h c (by simp)
    unfold progS at e
    rw [row_3 ha hb hc] at e
    by_cases z : c % 4 = 0
    · rw [if_pos (by simp [z])] at e
      cases e
      refine ⟨?_, fun o ho => by simp at ho; omega⟩
      show (sForm [a * 4 + b / 16, b % 16 * 16 + c / 4]) = _
      unfold sForm num3 sDigits
      simp only [List.getD_cons_zero, List.getD_cons_succ, List.getD_nil, List.length_cons, List.length_nil, List.take_succ_cons, List.take_zero, List.map_cons, List.map_nil]
      exact cc (congrArg al (by omega)) (cc (congrArg al (by omega)) (cc (congrArg al (by omega)) rfl))
    · rw [if_neg (by simp; omega)] at e
      cases e
  | a :: b :: c :: d :: r, os, h, e => by
    have ha := h a (by simp)
    have hb := h b (by simp)
    have hc := h c (by simp)
    have hd := h d (by simp)
    unfold progS at e
    rw [row_4 ha hb hc hd] at e
    cases er : progS r with
    | none => rw [er] at e; cases e
    | some ot =>
      rw [er] at e
      cases e
      obtain ⟨i1, i2⟩ := pay_prog r ot (fun x hx => h x (by simp [hx])) er
      refine ⟨?_, fun o ho => ?_⟩
      · show sForm [_, _, _] ++ payS ot = _
        rw [i1]
        unfold sForm num3 sDigits
        simp only [List.getD_cons_zero, List.getD_cons_succ, List.getD_nil, List.length_cons, List.length_nil, List.take_succ_cons, List.take_zero, List.map_cons, List.map_nil]
        exact cc (congrArg al (by omega)) (cc (congrArg al (by omega)) (cc (congrArg al (by omega)) (cc (congrArg al (by omega)) rfl)))
      · rcases List.mem_append.mp ho with k | k
        · simp at k
          omega
        · exact i2 o k
end Rd
namespace Rd
open Pw Cd
open L2 PySem
/-! the coding h: what one form tells -/
def HXl : List Nat := [48, 49, 50, 51, 52, 53, 54, 55, 56, 57, 65, 66, 67, 68, 69, 70]
def hexV (c : Nat) : Option Nat := if 48 ≤ c ∧ c ≤ 57 then some (c - 48) else if 65 ≤ c ∧ c ≤ 70 then some (c - 55) else none
theorem hexV_mem (c : Nat) : (hexV c).isSome = decide (c ∈ HXl) := by
  unfold hexV
  by_cases h1 : 48 ≤ c ∧ c ≤ 57
  · rw [if_pos h1, decide_eq_true (by simp only [HXl, List.mem_cons, List.not_mem_nil, or_false]; omega)]
    rfl
  · by_cases h2 : 65 ≤ c ∧ c ≤ 70
    · rw [if_neg h1, if_pos h2, decide_eq_true (by simp only [HXl, List.mem_cons, List.not_mem_nil, or_false]; omega)]
      rfl
    · rw [if_neg h1, if_neg h2, decide_eq_false (by simp only [HXl, List.mem_cons, List.not_mem_nil, or_false]; omega)]
      rfl
theorem hexV_of {c x : Nat} (h : hexV c = some x) : x < 16 ∧ c = hexD x := by
  have m : c ∈ HXl := by
    have := hexV_mem c
    rw [h] at this
    exact of_decide_eq_true this.symm
  have all : ∀ c ∈ HXl, ∀ x, hexV c = some x → x < 16 ∧ c = hexD x := by
    intro c hc
    simp only [HXl, List.mem_cons, List.not_mem_nil, or_false] at hc
    rcases hc with rfl | rfl | rfl | rfl | rfl | rfl | rfl | rfl | rfl | rfl | rfl | rfl | rfl | rfl | rfl | rfl <;> intro x hx <;> cases hx <;> decide
  exact all c m x h
/-- one form: a sign that stands for itself, the sign of the blank, or = with two digits -/
def hOne : List Nat → Option Nat
  | [c] => if c = 95 then some 32 else if isLD c then some c else none
  | [e, a, b] => if e = 61 then (hexV a).bind fun x => (hexV b).map fun y => x * 16 + y else none
  | _ => none
/-- how many signs the form at the beginning takes -/
def wid (l : List Nat) : Nat := if l.head? = some 61 then 3 else 1
/-- what is read from the i-th sign on: the octets so far, or the place of the first wrong form -/
def hRun : Nat → List Nat → Nat → List Nat → Nat ⊕ List Nat
  | 0, _, i, _ => .inl i
  | n + 1, l, i, acc => if l.length ≤ i then .inr acc else match hOne ((l.drop i).take (wid (l.drop i))) with
    | none => .inl i
    | some o => hRun n l (i + wid (l.drop i)) (acc ++ [o])
theorem hOne_lt {f : List Nat} {o : Nat} (h : hOne f = some o) (hc : ∀ c ∈ f, c < 256) : o < 256 := by
  unfold hOne at h
  split at h
  · rename_i _ c
    have := hc c (by simp)
    split at h
    · cases h
      decide
    · split at h
      · cases h
        exact this
      · cases h
  · rename_i _ e a b
    split at h
    · cases ea : hexV a with
      | none => rw [ea] at h; cases h
      | some x =>
        cases eb : hexV b with
        | none => rw [ea, eb] at h; cases h
        | some y =>
          rw [ea, eb] at h
          cases h
          have := (hexV_of ea).1
          have := (hexV_of eb).1
          show x * 16 + y < 256
          omega
    · cases h
  · cases h
end Rd
namespace Rd
open L2 PySem Pw Cd Tx
def vO : Option Nat → V
  | some o => iv o
  | none => .non
theorem one_ld {c : Nat} (h : c ≠ 95) (k : isLD c = true) : hOne [c] = some c := by
  show (if c = 95 then some 32 else if isLD c then some c else none) = _
  rw [if_neg h, if_pos k]
theorem one_not {c : Nat} (h : c ≠ 95) (k : isLD c = false) : hOne [c] = none := by
  show (if c = 95 then some 32 else if isLD c then some c else none) = _
  rw [if_neg h, if_neg (by rw [k]; decide)]
def spHOct : Sp := fun vs H Q _ => (∃ c : Nat, vs = [.str (zs [c])] ∧ c ≠ 61 ∧ Q (vO (hOne [c])) H) ∨ (∃ r : List Nat, vs = [.str (zs (61 :: r))] ∧ r.length ≤ 2 ∧ Q (vO (hOne (61 :: r))) H)
end Rd
namespace Rd
open L2 PySem Pw Cd Tx
theorem HD_list : HD.cps.toList = HXl := by decide +kernel
theorem hex_in {c : Nat} (m : c ∈ HD.cps.toList) : ∃ x, hexV c = some x ∧ x < 16 ∧ c = hexD x := by
  rw [HD_list] at m
  have e := hexV_mem c
  rw [decide_eq_true m] at e
  obtain ⟨x, hx⟩ := Option.isSome_iff_exists.mp e
  exact ⟨x, hx, hexV_of hx⟩
theorem hex_out {c : Nat} (m : c ∉ HD.cps.toList) : hexV c = none := by
  rw [HD_list] at m
  have e := hexV_mem c
  rw [decide_eq_false m] at e
  cases h : hexV c with
  | none => rfl
  | some x => rw [h] at e; cases e
theorem one_3 (a b : Nat) : hOne [61, a, b] = (hexV a).bind fun x => (hexV b).map fun y => x * 16 + y := rfl
theorem one_hex {a b x y : Nat} (h : hexV a = some x) (k : hexV b = some y) : hOne [61, a, b] = some (x * 16 + y) := by rw [one_3, h, k]; rfl
theorem one_na {a b : Nat} (h : hexV a = none) : hOne [61, a, b] = none := by rw [one_3, h]; rfl
theorem one_nb {a b : Nat} (k : hexV b = none) : hOne [61, a, b] = none := by rw [one_3, k]; cases hexV a <;> rfl
theorem one_short {r : List Nat} (h : r.length ≤ 1) : hOne (61 :: r) = none := by
  match r, h with
  | [], _ => rfl
  | [a], _ => rfl
end Rd
namespace Rd
open L2 PySem Pw Cd Tx
theorem hRun_none {n i : Nat} {l acc : List Nat} (hi : i < l.length) (h : hOne ((l.drop i).take (wid (l.drop i))) = none) : hRun (n + 1) l i acc = .inl i := by
  unfold hRun
  rw [if_neg (by omega), h]
theorem hRun_some {n i o : Nat} {l acc : List Nat} (hi : i < l.length) (h : hOne ((l.drop i).take (wid (l.drop i))) = some o) : hRun (n + 1) l i acc = hRun n l (i + wid (l.drop i)) (acc ++ [o]) := by
  conv => lhs; unfold hRun
  rw [if_neg (by omega), h]
theorem hRun_end {n i : Nat} {l acc : List Nat} (hi : l.length ≤ i) : hRun (n + 1) l i acc = .inr acc := by
  unfold hRun
  rw [if_pos hi]
def spHOctsX (C : Addr) : Sp := fun vs H Q E => ∃ l : List Nat, vs = [.str (zs l)] ∧ l.length ≤ 3000 ∧
  ((∃ i : Nat, hRun (l.length + 1) l 0 [] = .inl i ∧ Rs H E C "place" (iv i)) ∨ ∃ os, hRun (l.length + 1) l 0 [] = .inr os ∧ ∀ H1 p, Same H H1 → H p = none → T0 H1 p os → Q (.ref p) H1)
theorem wid_61 (r : List Nat) : wid (61 :: r) = 3 := rfl
theorem wid_1 {c : Nat} (h : c ≠ 61) (r : List Nat) : wid (c :: r) = 1 := by
  show (if some c = some 61 then 3 else 1) = 1
  rw [if_neg (fun z => h (Option.some.inj z))]
end Rd
namespace Rd
open L2 PySem Pw Cd Tx
theorem step (t : List Nat) (ht : t ≠ []) (h1 : (t.take 4).length ≠ 1) : progS t = if ((row3 (digS (t.take 4))).drop ((t.take 4).length - 1)).all (· == 0) = true then (progS (t.drop 4)).map ((row3 (digS (t.take 4))).take ((t.take 4).length - 1) ++ ·) else none := by
  match t, ht, h1 with
  | [a], _, h1 => exact absurd rfl h1
  | [a, b], _, _ =>
    show (if (row3 (digS [a, b])).drop 1 = [0, 0] then some ((row3 (digS [a, b])).take 1) else none) = if ((row3 (digS [a, b])).drop 1).all (· == 0) = true then some ((row3 (digS [a, b])).take 1 ++ []) else none
    rw [List.append_nil]
    unfold row3
    by_cases z : digS [a, b] / 256 % 256 = 0 ∧ digS [a, b] % 256 = 0
    · rw [if_pos (by simp [z.1, z.2]), if_pos (by simp [z.1, z.2])]
    · rw [if_neg (by simpa using z), if_neg (by simpa using z)]
  | [a, b, c], _, _ =>
    show (if (row3 (digS [a, b, c])).drop 2 = [0] then some ((row3 (digS [a, b, c])).take 2) else none) = if ((row3 (digS [a, b, c])).drop 2).all (· == 0) = true then some ((row3 (digS [a, b, c])).take 2 ++ []) else none
    rw [List.append_nil]
    unfold row3
    by_cases z : digS [a, b, c] % 256 = 0
    · rw [if_pos (by simp [z]), if_pos (by simp [z])]
    · rw [if_neg (by simpa using z), if_neg (by simpa using z)]
  | a :: b :: c :: d :: r, _, _ => rfl
theorem nz_map (l : List Nat) : (l.map iv).map nzV = (l.map fun o => !(o == 0)).map V.bl := by
  rw [List.map_map, List.map_map]
  refine List.map_congr_left fun o _ => ?_
  show V.bl (!decide (V.int (o : Int) = V.int 0)) = V.bl (!(o == 0))
  congr 2
  by_cases h : o = 0
  · subst h
    rfl
  · rw [decide_eq_false (fun z => h (by have := V.int.inj z; omega))]
    exact (beq_eq_false_iff_ne.mpr h).symm
theorem nz_any (l : List Nat) : (l.map fun o => !(o == 0)).any id = !(l.all (· == 0)) := by
  induction l with
  | nil => rfl
  | cons a r ih =>
    rw [List.map_cons, List.any_cons, ih, List.all_cons]
    cases (a == 0) <;> rfl
theorem row_any (l : List Nat) : ∀ n, (row3 n).length = 3 := fun _ => rfl
def spSOctsX (C : Addr) : Sp := fun vs H Q E => ∃ l : List Nat, vs = [.str (zs l)] ∧ l.length ≤ 3000 ∧
  ((∃ (k c : Nat), l[k]? = some c ∧ c ∉ AL.cps.toList ∧ (∀ j c, j < k → l[j]? = some c → c ∈ AL.cps.toList) ∧ Rs H E C "place" (iv k)) ∨
  ∃ ds : List Nat, l = ds.map al ∧ (∀ d ∈ ds, d < 64) ∧
    ((ds.length % 4 = 1 ∧ Rs H E C "place" (iv ds.length)) ∨ (ds.length % 4 ≠ 1 ∧ progS ds = none ∧ Rs H E C "place" (.int ((ds.length : Int) - 1))) ∨
      (ds.length % 4 ≠ 1 ∧ ∃ os, progS ds = some os ∧ ∀ H1 p, Same H H1 → H p = none → T0 H1 p os → Q (.ref p) H1)))
theorem prog_len : ∀ (ds os : List Nat), progS ds = some os → os.length ≤ ds.length
  | [], os, e => by cases e; exact Nat.le_refl _
  | [a], os, e => by cases e
  | [a, b], os, e => by
    unfold progS at e
    split at e
    · cases e
      rw [List.length_take]
      exact Nat.le_trans (Nat.min_le_left _ _) (by simp)
    · cases e
  | [a, b, c], os, e => by
    unfold progS at e
    split at e
    · cases e
      rw [List.length_take]
      exact Nat.le_trans (Nat.min_le_left _ _) (by simp)
    · cases e
  | a :: b :: c :: d :: r, os, e => by
    unfold progS at e
    cases er : progS r with
    | none => rw [er] at e; cases e
    | some ot =>
      rw [er] at e
      cases e
      have := prog_len r ot er
      show (row3 _ ++ ot).length ≤ _
      rw [List.length_append]
      show 3 + ot.length ≤ _
      simp only [List.length_cons]
      omega
end Rd
namespace Rd
open L2 PySem Pw Cd Tx
def spOctX (C1 C2 : Addr) : Sp := fun vs H Q E =>
  (∃ c o, vs = [c, o] ∧ AnyO H c ∧ isCod c = false ∧ Rs H E C1 "given" c) ∨
  (∃ h x, vs = [.str (cname h), x] ∧ AnyO H x ∧ isStrV x = false ∧ Rs H E C2 "place" .non) ∨
  (∃ l, vs = [.str (cname true), .str (zs l)] ∧ spHOctsX C2 [.str (zs l)] H Q E) ∨ ∃ l, vs = [.str (cname false), .str (zs l)] ∧ spSOctsX C2 [.str (zs l)] H Q E
end Rd
/-! payloads read: what the law of octets_of finds -/
namespace Rd
open L2 PySem Pw Cd Tx
def hexI (c : Nat) : V := iv ((hexV c).getD 0)
def pairOf (r : List Nat) : List Nat := (r.filter fun c => decide (c ∈ HD.cps.toList)).map fun c => (hexV c).getD 0
theorem hex_dec (c : Nat) : decide (c ∈ HD.cps.toList) = (hexV c).isSome := by rw [HD_list]; exact (hexV_mem c).symm
theorem pair_nil : pairOf [] = [] := rfl
theorem pair_cons (c : Nat) (r : List Nat) : pairOf (c :: r) = match hexV c with
  | some x => x :: pairOf r
  | none => pairOf r := by
  unfold pairOf
  rw [List.filter_cons, hex_dec]
  cases h : hexV c with
  | none => rfl
  | some x => simp [h]
theorem pair_two {r : List Nat} (h : r.length ≤ 2) : (∃ a b x y, r = [a, b] ∧ hexV a = some x ∧ hexV b = some y ∧ pairOf r = [x, y]) ∨ ((pairOf r).length ≠ 2 ∧ hOne (61 :: r) = none) := by
  match r, h with
  | [], _ => exact .inr ⟨by rw [pair_nil]; decide, rfl⟩
  | [a], _ =>
    refine .inr ⟨?_, one_short (Nat.le_refl _)⟩
    rw [pair_cons]
    cases hexV a <;> simp [pair_nil]
  | [a, b], _ =>
    rw [pair_cons, pair_cons]
    cases ha : hexV a with
    | none =>
      refine .inr ⟨?_, one_na ha⟩
      cases hexV b <;> simp [pair_nil]
    | some x =>
      cases hb : hexV b with
      | none => exact .inr ⟨by simp [pair_nil], one_nb hb⟩
      | some y => exact .inl ⟨a, b, x, y, rfl, ha, hb, rfl⟩
theorem pair_le (r : List Nat) : (pairOf r).length ≤ r.length := by
  unfold pairOf
  rw [List.length_map]
  exact List.length_filter_le _ _
def spFormsL : Sp := fun vs H Q _ => ∃ l : List Nat, vs = [.str (zs l)] ∧ l.length ≤ 300 ∧
  (∀ i, hRun (l.length + 1) l 0 [] = .inl i → ∀ H1, Same H H1 → Q (iv i) H1) ∧ (∀ os, hRun (l.length + 1) l 0 [] = .inr os → ∀ H1 p, Same H H1 → H p = none → H1 p = some (.lst (os.map iv)) → Q (.ref p) H1)
/-! the coding s -/
def alI (c : Nat) : Nat := AL.cps.toList.idxOf c
theorem al_back {c : Nat} (h : c ∈ AL.cps.toList) : al (alI c) = c ∧ alI c < 64 := by
  have all : ∀ c ∈ AL.cps.toList, al (alI c) = c ∧ alI c < 64 := by decide +kernel
  exact all c h
theorem map_al {l : List Nat} (h : ∀ c ∈ l, c ∈ AL.cps.toList) : (l.map alI).map al = l := by
  rw [List.map_map]
  conv => rhs; rw [← List.map_id l]
  exact List.map_congr_left fun c hc => (al_back (h c hc)).1
theorem alI_al {d : Nat} (h : d < 64) : alI (al d) = d := by
  have all : ∀ d, d < 64 → alI (al d) = d := by decide +kernel
  exact all d h
def wrongAt (l : List Nat) (k : Nat) : Bool := decide (l.getD k 0 ∉ AL.cps.toList)
def sRun (l : List Nat) : Nat ⊕ List Nat := match ((List.range l.length).filter (wrongAt l)) with
  | k :: _ => .inl k
  | [] => if l.length % 4 = 1 then .inl l.length else match progS (l.map alI) with
    | none => .inl (l.length - 1)
    | some os => .inr os
def due (h : Bool) (l : List Nat) : Nat ⊕ List Nat := if h then hRun (l.length + 1) l 0 [] else sRun l
theorem filt_head {n k : Nat} {p : Nat → Bool} {r : List Nat} (h : (List.range n).filter p = k :: r) : k < n ∧ p k = true ∧ ∀ j, j < k → p j = false := by
  have e : (List.range n).find? p = some k := by rw [← List.head?_filter, h]; rfl
  rw [List.find?_range_eq_some] at e
  obtain ⟨h1, h2, h3⟩ := e
  exact ⟨List.mem_range.mp h2, h1, fun j hj => by simpa using h3 j hj⟩
theorem filt_nil {n : Nat} {p : Nat → Bool} (h : (List.range n).filter p = []) : ∀ j, j < n → p j = false := fun j hj => by
  have := List.filter_eq_nil_iff.mp h j (List.mem_range.mpr hj)
  cases e : p j with
  | true => exact absurd e this
  | false => rfl
theorem wrong_get {l : List Nat} {k c : Nat} (h : l[k]? = some c) : wrongAt l k = decide (c ∉ AL.cps.toList) := by
  unfold wrongAt
  rw [List.getD_eq_getElem?_getD, h]
  rfl
theorem no_wrong {l : List Nat} (h : (List.range l.length).filter (wrongAt l) = []) : ∀ c ∈ l, c ∈ AL.cps.toList := fun c hc => by
  obtain ⟨k, hk, e⟩ := List.getElem_of_mem hc
  have w := filt_nil h k hk
  rw [wrong_get (List.getElem?_eq_some_iff.mpr ⟨hk, e⟩)] at w
  have := of_decide_eq_false w
  exact Classical.byContradiction fun n => this n
/-- what the program's def does with what the law finds -/
theorem due_oct {C1 C2 : Addr} {H : Hp} {Q : VK} {E : XK} (h : Bool) (l : List Nat) (hl : l.length ≤ 300) (k1 : ∀ i, due h l = .inl i → Rs H E C2 "place" (iv i)) (k2 : ∀ os, due h l = .inr os → ∀ H1 p, Same H H1 → H p = none → T0 H1 p os → Q (.ref p) H1) : spOctX C1 C2 [.str (cname h), .str (zs l)] H Q E := by
  cases h with
  | true =>
    refine .inr (.inr (.inl ⟨l, rfl, l, rfl, Nat.le_trans hl (by decide), ?_⟩))
    have e : due true l = hRun (l.length + 1) l 0 [] := rfl
    cases hr : hRun (l.length + 1) l 0 [] with
    | inl i => exact .inl ⟨i, rfl, k1 i (e.trans hr)⟩
    | inr os => exact .inr ⟨os, rfl, k2 os (e.trans hr)⟩
  | false =>
    refine .inr (.inr (.inr ⟨l, rfl, l, rfl, Nat.le_trans hl (by decide), ?_⟩))
    have e : due false l = sRun l := rfl
    rw [e] at k1 k2
    unfold sRun at k1 k2
    cases hw : (List.range l.length).filter (wrongAt l) with
    | cons k r =>
      rw [hw] at k1
      obtain ⟨h1, h2, h3⟩ := filt_head hw
      have ek : l[k]? = some l[k] := List.getElem?_eq_getElem h1
      rw [wrong_get ek] at h2
      refine .inl ⟨k, l[k], ek, of_decide_eq_true h2, fun j c hj hc => ?_, k1 k rfl⟩
      have := h3 j hj
      rw [wrong_get hc] at this
      have := of_decide_eq_false this
      exact Classical.byContradiction fun n => this n
    | nil =>
      rw [hw] at k1 k2
      have al := no_wrong hw
      refine .inr ⟨l.map alI, (map_al al).symm, fun d hd => by obtain ⟨c, hc, rfl⟩ := List.mem_map.mp hd; exact (al_back (al c hc)).2, ?_⟩
      rw [List.length_map]
      by_cases h4 : l.length % 4 = 1
      · refine .inl ⟨h4, k1 _ ?_⟩
        show (if _ then _ else _) = _
        rw [if_pos h4]
      · have ei : (if l.length % 4 = 1 then (Sum.inl l.length : Nat ⊕ List Nat) else match progS (l.map alI) with
          | none => .inl (l.length - 1)
          | some os => .inr os) = match progS (l.map alI) with
          | none => .inl (l.length - 1)
          | some os => .inr os := if_neg h4
        cases hp : progS (l.map alI) with
        | none =>
          refine .inr (.inl ⟨h4, rfl, ?_⟩)
          have h0 : 1 ≤ l.length := by
            cases l with
            | nil => cases hp
            | cons a r => exact Nat.succ_le_succ (Nat.zero_le _)
          have := k1 (l.length - 1) (ei.trans (by rw [hp]))
          rw [show (iv (l.length - 1)) = V.int ((l.length : Int) - 1) by show V.int _ = _; congr 1; omega] at this
          exact this
        | some os => exact .inr (.inr ⟨h4, os, rfl, k2 os (ei.trans (by rw [hp]))⟩)
theorem sRun_pay {l os : List Nat} (h : sRun l = .inr os) : payS os = l ∧ (∀ o ∈ os, o < 256) := by
  unfold sRun at h
  cases hw : (List.range l.length).filter (wrongAt l) with
  | cons k r => rw [hw] at h; cases h
  | nil =>
    rw [hw] at h
    have al := no_wrong hw
    have h' : (if l.length % 4 = 1 then (Sum.inl l.length : Nat ⊕ List Nat) else match progS (l.map alI) with
          | none => .inl (l.length - 1)
          | some os => .inr os) = .inr os := h
    by_cases h4 : l.length % 4 = 1
    · rw [if_pos h4] at h'; cases h'
    · rw [if_neg h4] at h'
      cases hp : progS (l.map alI) with
      | none => rw [hp] at h'; cases h'
      | some o2 =>
        rw [hp] at h'
        cases h'
        have := pay_prog (l.map alI) os (fun d hd => by obtain ⟨c, hc, rfl⟩ := List.mem_map.mp hd; exact (al_back (al c hc)).2) hp
        rw [map_al al] at this
        exact this
theorem hOne_lt2 {f : List Nat} {o : Nat} (h : hOne f = some o) : o < 256 := by
  match f, h with
  | [c], h =>
    have h : (if c = 95 then some 32 else if isLD c then some c else none) = some o := h
    split at h
    · cases h
      decide
    · split at h
      · rename_i hl
        cases h
        have m : o ∈ Mk.LADS.cps.toList := of_decide_eq_true hl
        have all : ∀ c ∈ Mk.LADS.cps.toList, c < 256 := by decide +kernel
        exact all o m
      · cases h
  | [e, a, b], h =>
    have h : (if e = 61 then (hexV a).bind fun x => (hexV b).map fun y => x * 16 + y else none) = some o := h
    split at h
    · cases ea : hexV a with
      | none => rw [ea] at h; cases h
      | some x =>
        cases eb : hexV b with
        | none => rw [ea, eb] at h; cases h
        | some y =>
          rw [ea, eb] at h
          cases h
          have := (hexV_of ea).1
          have := (hexV_of eb).1
          show x * 16 + y < 256
          omega
    · cases h
theorem wid_ge (l : List Nat) : 1 ≤ wid l := by unfold wid; split <;> decide
theorem hRun_len : ∀ (n : Nat) (l : List Nat) (i : Nat) (acc : List Nat) {os : List Nat}, hRun n l i acc = .inr os → os.length ≤ acc.length + (l.length - i) ∧ ((∀ o ∈ acc, o < 256) → ∀ o ∈ os, o < 256)
  | 0, _, _, _, _, e => by cases e
  | n + 1, l, i, acc, os, e => by
    by_cases h : l.length ≤ i
    · rw [hRun_end h] at e
      cases e
      exact ⟨Nat.le_add_right _ _, fun h => h⟩
    · have hi : i < l.length := Nat.lt_of_not_le h
      cases ho : hOne ((l.drop i).take (wid (l.drop i))) with
      | none => rw [hRun_none hi ho] at e; cases e
      | some o =>
        rw [hRun_some hi ho] at e
        obtain ⟨h1, h2⟩ := hRun_len n l _ _ e
        have w := wid_ge (l.drop i)
        rw [List.length_append] at h1
        refine ⟨?_, fun ha => h2 fun x hx => ?_⟩
        · have h1' : os.length ≤ acc.length + 1 + (l.length - (i + wid (l.drop i))) := h1
          omega
        · rcases List.mem_append.mp hx with k | k
          · exact ha x k
          · rw [List.mem_singleton.mp k]; exact hOne_lt2 ho
theorem sRun_len {l os : List Nat} (h : sRun l = .inr os) : os.length ≤ l.length := by
  unfold sRun at h
  cases hw : (List.range l.length).filter (wrongAt l) with
  | cons k r => rw [hw] at h; cases h
  | nil =>
    rw [hw] at h
    have h' : (if l.length % 4 = 1 then (Sum.inl l.length : Nat ⊕ List Nat) else match progS (l.map alI) with
          | none => .inl (l.length - 1)
          | some os => .inr os) = .inr os := h
    by_cases h4 : l.length % 4 = 1
    · rw [if_pos h4] at h'; cases h'
    · rw [if_neg h4] at h'
      cases hp : progS (l.map alI) with
      | none => rw [hp] at h'; cases h'
      | some o2 =>
        rw [hp] at h'
        cases h'
        have := prog_len _ _ hp
        rwa [List.length_map] at this
/-- the octets that are due are octets, and no more than there are signs -/
theorem due_os {h : Bool} {l os : List Nat} (e : due h l = .inr os) : os.length ≤ l.length ∧ ∀ o ∈ os, o < 256 := by
  cases h with
  | true =>
    obtain ⟨h1, h2⟩ := hRun_len _ _ _ _ (show hRun (l.length + 1) l 0 [] = .inr os from e)
    exact ⟨by simpa using h1, h2 (fun o h => by cases h)⟩
  | false => exact ⟨sRun_len e, (sRun_pay e).2⟩
theorem hRun_at : ∀ (n : Nat) (l : List Nat) (i : Nat) (acc : List Nat) {k : Nat}, hRun n l i acc = .inl k → i ≤ l.length + 2 → k ≤ l.length + 2
  | 0, _, _, _, _, e, h => by cases e; exact h
  | n + 1, l, i, acc, k, e, hk => by
    by_cases h : l.length ≤ i
    · rw [hRun_end h] at e
      cases e
    · have hi : i < l.length := Nat.lt_of_not_le h
      cases ho : hOne ((l.drop i).take (wid (l.drop i))) with
      | none => rw [hRun_none hi ho] at e; cases e; exact hk
      | some o =>
        rw [hRun_some hi ho] at e
        have w : wid (l.drop i) ≤ 3 := by unfold wid; split <;> decide
        exact hRun_at n l _ _ e (by omega)
theorem due_at {h : Bool} {l : List Nat} {k : Nat} (e : due h l = .inl k) : k ≤ l.length + 2 := by
  cases h with
  | true => exact hRun_at _ _ _ _ (show hRun (l.length + 1) l 0 [] = .inl k from e) (Nat.zero_le _)
  | false =>
    have e : sRun l = .inl k := e
    unfold sRun at e
    cases hw : (List.range l.length).filter (wrongAt l) with
    | cons j r =>
      rw [hw] at e
      cases e
      have := (filt_head hw).1
      omega
    | nil =>
      rw [hw] at e
      have h' : (if l.length % 4 = 1 then (Sum.inl l.length : Nat ⊕ List Nat) else match progS (l.map alI) with
          | none => .inl (l.length - 1)
          | some os => .inr os) = .inl k := e
      by_cases h4 : l.length % 4 = 1
      · rw [if_pos h4] at h'; cases h'; omega
      · rw [if_neg h4] at h'
        cases hp : progS (l.map alI) with
        | none => rw [hp] at h'; cases h'; omega
        | some o2 => rw [hp] at h'; cases h'
theorem left_drop : ∀ l : List Nat, left8 l = l.drop (8 * (l.length / 8))
  | a :: b :: c :: d :: e :: f :: g :: h :: r => by
    show left8 r = _
    rw [left_drop r, show (a :: b :: c :: d :: e :: f :: g :: h :: r).length = r.length + 8 from rfl, show 8 * ((r.length + 8) / 8) = 8 * (r.length / 8) + 8 by omega]
    rfl
  | [] => rfl
  | [_] => by simp [left8]
  | [_, _] => by simp [left8]
  | [_, _, _] => by simp [left8]
  | [_, _, _, _] => by simp [left8]
  | [_, _, _, _, _] => by simp [left8]
  | [_, _, _, _, _, _] => by simp [left8]
  | [_, _, _, _, _, _, _] => by simp [left8]
theorem eights_range : ∀ l : List Nat, eights l = (List.range (l.length / 8)).map fun k => v8 ((l.drop (8 * k)).take 8)
  | a :: b :: c :: d :: e :: f :: g :: h :: r => by
    show v8 _ :: eights r = _
    rw [eights_range r, show (a :: b :: c :: d :: e :: f :: g :: h :: r).length / 8 = r.length / 8 + 1 by show (r.length + 8) / 8 = _; omega, List.range_succ_eq_map, List.map_cons, List.map_map]
    rfl
  | [] => rfl
  | [_] => by simp [eights]
  | [_, _] => by simp [eights]
  | [_, _, _] => by simp [eights]
  | [_, _, _, _] => by simp [eights]
  | [_, _, _, _, _] => by simp [eights]
  | [_, _, _, _, _, _] => by simp [eights]
  | [_, _, _, _, _, _, _] => by simp [eights]
theorem b6_len (ds : List Nat) : (b6 ds).length = 6 * ds.length := by
  induction ds with
  | nil => rfl
  | cons d r ih =>
    rw [b6_cons, List.length_append, ih, bits6]
    simp only [List.length_cons, List.length_nil]
    omega
theorem b6_bits (ds : List Nat) : ∀ b ∈ b6 ds, b < 2 := by
  induction ds with
  | nil => intro b h; cases h
  | cons d r ih =>
    intro b h
    rw [b6_cons] at h
    rcases List.mem_append.mp h with k | k
    · rw [bits6] at k
      simp only [List.mem_cons, List.not_mem_nil, or_false] at k
      omega
    · exact ih b k
def pre8 (l : List Nat) (i : Nat) : Nat := ((List.range i).map fun j => W8.getD j 0 * l.getD j 0).sum
theorem pre8_succ (l : List Nat) (i : Nat) : pre8 l (i + 1) = pre8 l i + W8.getD i 0 * l.getD i 0 := by
  unfold pre8
  rw [List.range_succ, List.map_append, List.sum_append]
  simp
def e8s (bs : List Nat) (k : Nat) : List Nat := (List.range k).map fun k => v8 ((bs.drop (8 * k)).take 8)
theorem e8s_succ (bs : List Nat) (k : Nat) : e8s bs (k + 1) = e8s bs k ++ [v8 ((bs.drop (8 * k)).take 8)] := by
  unfold e8s
  rw [List.range_succ, List.map_append]
  rfl
theorem one_in (bs : List Nat) : decide (49 ∈ (bz bs).cps.toList) = decide (1 ∈ bs) := by
  refine decide_eq_decide.mpr ?_
  unfold bz
  rw [zs_list]
  constructor
  · intro h
    obtain ⟨b, hb, e⟩ := List.mem_map.mp h
    have : b = 1 := by omega
    exact this ▸ hb
  · intro h
    exact List.mem_map.mpr ⟨1, h, rfl⟩
/-- the law's bits find what the program's rows find -/
theorem due_bits {l : List Nat} (hw : (List.range l.length).filter (wrongAt l) = []) (h4 : l.length % 4 ≠ 1) : (1 ∈ left8 (b6 (l.map alI)) → due false l = .inl (l.length - 1) ∧ 1 ≤ l.length) ∧ (1 ∉ left8 (b6 (l.map alI)) → due false l = .inr (eights (b6 (l.map alI)))) := by
  have al := no_wrong hw
  have hd : ∀ d ∈ l.map alI, d < 64 := fun d hd => by obtain ⟨c, hc, rfl⟩ := List.mem_map.mp hd; exact (al_back (al c hc)).2
  have e1 : due false l = match progS (l.map alI) with
          | none => .inl (l.length - 1)
          | some os => .inr os := by
    show sRun l = _
    unfold sRun
    rw [hw]
    exact if_neg h4
  rw [prog_bit _ hd (by rwa [List.length_map])] at e1
  unfold bitS at e1
  constructor
  · intro h
    rw [if_pos h] at e1
    refine ⟨e1, ?_⟩
    cases l with
    | nil => cases h
    | cons a r => exact Nat.succ_le_succ (Nat.zero_le _)
  · intro h
    rw [if_neg h] at e1
    exact e1
def spDueL : Sp := fun vs H Q _ => ∃ (h : Bool) (l : List Nat), vs = [.str (cname h), .str (zs l)] ∧ l.length ≤ 300 ∧
  (∀ i, due h l = .inl i → ∀ H1, Same H H1 → Q (iv i) H1) ∧ (∀ os, due h l = .inr os → ∀ H1 p, Same H H1 → H p = none → H1 p = some (.lst (os.map iv)) → Q (.ref p) H1)
/-- what the def that calls the deed makes of it: the list of what it gives, or a word with the field of what it raises -/
def TT3 (C1 C2 : Addr) (f1 f2 w1 w2 : Str) : (XK → Hp → VK → Prop) → Hp → VK → Prop := fun tl H Q =>
  ∀ H0, Same H H0 → ∀ (E' : XK) (Q' : VK),
    (∀ dd v H', H' dd = some (.xd [(f1, v)]) → (∀ r H'', Same H' H'' → H'' r = some (.tup [.str w1, v]) → Q (.ref r) H'') → E' (.ref C1) (some dd) H') →
    (∀ dd v H', H' dd = some (.xd [(f2, v)]) → (∀ r H'', Same H' H'' → H'' r = some (.tup [.str w2, v]) → Q (.ref r) H'') → E' (.ref C2) (some dd) H') →
    (∀ p xs H', H' p = some (.tup xs) → xs.length ≤ 10000 → (∀ r H'', Same H' H'' → H'' r = some (.lst xs) → Q (.ref r) H'') → Q' (.ref p) H') → tl E' H0 Q'
section
variable {C1 C2 : Addr} {f1 f2 w1 w2 : Str} {tl : XK → Hp → VK → Prop} {H : Hp} {Q : VK}
theorem t3_first (v : V) (h : ∀ H0, Same H H0 → ∀ (E' : XK) (Q' : VK), Rs H0 E' C1 f1 v → tl E' H0 Q') (k : ∀ r H', Same H H' → H' r = some (.tup [.str w1, v]) → Q (.ref r) H') : TT3 C1 C2 f1 f2 w1 w2 tl H Q := by
  intro H0 s0 E' Q' q1 _ _
  refine h H0 s0 E' Q' fun H1 d s1 nd => q1 d v _ upd_same fun r H2 s2 e2 => k r H2 ((s0.trans s1).trans ((same_new nd).trans s2)) e2
theorem t3_second (v : V) (h : ∀ H0, Same H H0 → ∀ (E' : XK) (Q' : VK), Rs H0 E' C2 f2 v → tl E' H0 Q') (k : ∀ r H', Same H H' → H' r = some (.tup [.str w2, v]) → Q (.ref r) H') : TT3 C1 C2 f1 f2 w1 w2 tl H Q := by
  intro H0 s0 E' Q' _ q2 _
  refine h H0 s0 E' Q' fun H1 d s1 nd => q2 d v _ upd_same fun r H2 s2 e2 => k r H2 ((s0.trans s1).trans ((same_new nd).trans s2)) e2
end
end Rd
namespace L2
open PySem
section
variable {K : PySem.W.Frag} {g : TG} {te : TE} {tt : TT} {vs : List Nat} {σ : St} {H1 : Hp} {D : Addr} {Qd : Hp → Prop}
/-- over a range, the numbers that a test lets pass -/
theorem lc_filtR {lo : Int} {n : Nat} (pr : Nat → Bool) (hD : H1 D = none) (hn : n ≤ 100000)
    (hs : ∀ i H (N : V → Hp → Prop) (M : Hp → Prop), i < n → Same H1 H → (pr i = true → N (.int (lo + i)) H) → (pr i = false → M H) → g (.int (lo + i)) (wipe σ vs) H fun σ2 H2 => wipe σ2 vs = wipe σ vs ∧ tt σ2 H2 fun b H3 => if b = true then te σ2 H3 N else M H3)
    (hd : ∀ H, Same H1 H → H D = some (.lst (((List.range n).filter pr).map fun k : Nat => V.int (lo + k))) → Qd H) :
    ∃ W : Nat → Nat → Hp → Prop, (∃ m, W 0 m (upd H1 D (.lst []))) ∧ ∀ i m H, W i m H →
      ((Itr lo n).stop i H ∧ Qd H) ∨ ((Itr lo n).go i H ∧ ∃ Nx : Hp → Prop, (∀ H', Nx H' → ∃ m', m' < m ∧ W (i + 1) m' H') ∧ ∀ x H', (Itr lo n).yld i H x H' → g x (wipe σ vs) H' fun σ2 H2 => wipe σ2 vs = wipe σ vs ∧ tt σ2 H2 fun b H3 =>
        if b = true then te σ2 H3 fun y H4 => ∃ acc, H4 D = some (.lst acc) ∧ acc.length < sizeLine ∧ Nx (upd H4 D (.lst (acc ++ [y]))) else Nx H3) := by
  refine lc_it walk_range (fun i H => Same H1 H ∧ H D = some (.lst (((List.range i).filter pr).map fun k : Nat => V.int (lo + k)))) ⟨same_new hD, upd_same⟩ (fun _ _ _ _ => trivial) (fun i x H H' hi p y => ?_) fun H p => hd H p.1 p.2
  obtain ⟨rfl, rfl⟩ := y
  refine hs i H' _ _ hi p.1 (fun hp => ⟨_, p.2, ?_, p.1.mut hD, ?_⟩) fun hp => ⟨p.1, ?_⟩
  · rw [List.length_map]
    refine Nat.lt_of_le_of_lt (List.length_filter_le _ _) ?_
    rw [List.length_range]
    exact Nat.lt_of_lt_of_le hi (Nat.le_trans hn (by decide))
  · rw [upd_same, List.range_succ, List.filter_append, List.map_append, List.filter_cons, if_pos hp]
    rfl
  · rw [p.2, List.range_succ, List.filter_append, List.filter_cons, if_neg (by rw [hp]; decide)]
    simp
end
end L2
namespace L2
open PySem
section
variable {K : PySem.W.Frag} {g : TG} {te : TE} {tt : TT} {vs : List Nat} {σ : St} {H1 : Hp} {D : Addr} {Qd : Hp → Prop}
theorem walk_sgn (x : Str) : Walk (Its x) x.cps.toList.length (fun _ => True) (fun i H y H' => H' = H ∧ y = .str ⟨#[x.cps.toList.getD i 0]⟩) := by
  refine ⟨fun i H hi _ => hi, fun H _ => Nat.le_refl _, fun i H y H' hi _ h => ?_⟩
  obtain ⟨rfl, c, hc, rfl⟩ := h
  refine ⟨rfl, ?_⟩
  rw [List.getD_eq_getElem?_getD, Array.getElem?_toList, hc]
  rfl
/-- over the signs of a text -/
theorem lc_pureS {x : Str} (f : Nat → V) (hD : H1 D = none) (hn : x.cps.toList.length ≤ 100000)
    (hs : ∀ c H (N : V → Hp → Prop), c ∈ x.cps.toList → Same H1 H → (∀ H4, Same H H4 → N (f c) H4) → g (.str ⟨#[c]⟩) (wipe σ vs) H fun σ2 H2 => wipe σ2 vs = wipe σ vs ∧ te σ2 H2 N) (hd : ∀ H, Same H1 H → H D = some (.lst (x.cps.toList.map f)) → Qd H) :
    ∃ W : Nat → Nat → Hp → Prop, (∃ m, W 0 m (upd H1 D (.lst []))) ∧ ∀ i m H, W i m H →
      ((Its x).stop i H ∧ Qd H) ∨ ((Its x).go i H ∧ ∃ Nx : Hp → Prop, (∀ H', Nx H' → ∃ m', m' < m ∧ W (i + 1) m' H') ∧ ∀ y H', (Its x).yld i H y H' → g y (wipe σ vs) H' fun σ2 H2 => wipe σ2 vs = wipe σ vs ∧ tYes σ2 H2 fun b H3 =>
        if b = true then te σ2 H3 fun y H4 => ∃ acc, H4 D = some (.lst acc) ∧ acc.length < sizeLine ∧ Nx (upd H4 D (.lst (acc ++ [y]))) else Nx H3) := by
  refine lc_pure (n := x.cps.toList.length) (it := fun i => .str ⟨#[x.cps.toList.getD i 0]⟩) (G := fun _ => True) (fun i => f (x.cps.toList.getD i 0)) (walk_sgn x) (fun _ _ => trivial) hD hn (fun i H N hi s k => ?_) fun H s e => hd H s ?_
  · refine hs _ H N ?_ s k
    rw [List.getD_eq_getElem?_getD, List.getElem?_eq_getElem hi]
    exact List.getElem_mem hi
  · rw [e]
    congr 2
    apply List.ext_getElem
    · simp
    · intro i h1 h2
      simp at h1
      simp [List.getD_eq_getElem?_getD, h1]
def rListOf (K : PySem.W.Frag) : List V → Hp → VK → Prop := fun xs H Q => ∃ p ys, xs = [V.ref p] ∧ (SqL K H p ys ∨ SqT K H p ys) ∧ ∀ (l : Addr), H l = none → Q (V.ref l) (upd H l (HO.lst ys))
theorem call_listN {X : Cx} : CallR X (.type "list") (rListOf X.K) := call_list_of
theorem n_listT {H : Hp} {p : Addr} {ys : List V} {Q : VK} (h : SqT K H p ys) (q : ∀ r H1, H r = none → Same H H1 → H1 r = some (.lst ys) → Q (.ref r) H1) : rListOf K [.ref p] H Q := ⟨p, ys, rfl, .inr h, new_o q⟩
theorem n_listL {H : Hp} {p : Addr} {ys : List V} {Q : VK} (h : SqL K H p ys) (q : ∀ r H1, H r = none → Same H H1 → H1 r = some (.lst ys) → Q (.ref r) H1) : rListOf K [.ref p] H Q := ⟨p, ys, rfl, .inl h, new_o q⟩
end
end L2
namespace Cd
open PySem L2 Tx
theorem cutS_from (l : List Nat) (i : Nat) : cutS (zs l) (some (i : Int)) none = zs (l.drop i) := by
  have e : cutS (zs l) (some (i : Int)) none = cutS (zs l) (some (i : Int)) (some ((l.length : Nat) : Int)) := by
    unfold cutS
    rw [zs_list, zs_len, HT.sIx_nat, HT.sIx_nat, Nat.min_self]
    rfl
  rw [e, cutS_nat, List.take_of_length_le (by rw [List.length_drop]; exact Nat.le_refl _)]
theorem cutS_to (l : List Nat) (j : Nat) : cutS (zs l) none (some (j : Int)) = zs (l.take j) := by
  have e : cutS (zs l) none (some (j : Int)) = cutS (zs l) (some ((0 : Nat) : Int)) (some (j : Int)) := by
    unfold cutS
    rw [zs_list, zs_len, HT.sIx_nat, HT.sIx_nat]
    rfl
  rw [e, cutS_nat]
  simp
end Cd
namespace Rd
open L2 PySem Pw Cd Tx
def spBent : Sp := fun vs H Q _ => ∃ (d lc : Addr) (m : Nat) (l : List Nat), vs = [.ref d, .str (zs l)] ∧ Dr.Draw H d lc m ∧ m < 900000 ∧ l.length ≤ 200 ∧
  ∀ (l' : List Nat) H1, l'.length ≤ l.length + 3 → Dr.Draw H1 d lc (m + 3) → Dr.Kp d H H1 → Q (.str (zs l')) H1
end Rd
namespace L2
open PySem
theorem call_listK {X : Cx} {K : PySem.W.Frag} (h : X.K = K) : CallR X (.type "list") (rListOf K) := h ▸ call_listN
end L2
namespace Rd
open L2 PySem Pw Cd Tx
theorem hexV_D : ∀ d, d < 16 → hexV (hexD d) = some d := by decide
theorem hOne_form {o : Nat} (h : o < 256) : hOne (hForm o) = some o := by
  unfold hForm
  by_cases h1 : o = 32
  · rw [if_pos h1, h1]
    rfl
  · rw [if_neg h1]
    by_cases h2 : isLD o = true
    · rw [if_pos h2]
      exact one_ld (ld_facts o h h2).2.2.2.2.1 h2
    · rw [if_neg h2, one_hex (hexV_D _ (by omega)) (hexV_D _ (by omega))]
      congr 1
      omega
theorem wid_form {o : Nat} (h : o < 256) (r : List Nat) : wid (hForm o ++ r) = (hForm o).length := by
  obtain ⟨x, xs, e, c⟩ := form_facts h
  rw [e]
  rcases c with ⟨rfl, hx⟩ | ⟨hx, rfl⟩
  · show 3 = _
    rw [List.length_cons, hx]
  · exact wid_1 hx _
theorem hRun_pay : ∀ (os pre acc : List Nat) (n : Nat), (∀ o ∈ os, o < 256) → os.length < n → hRun n (pre ++ payH os) pre.length acc = .inr (acc ++ os)
  | [], pre, acc, n + 1, _, _ => by
    rw [List.append_nil]
    exact hRun_end (by show (pre ++ []).length ≤ _; rw [List.append_nil]; exact Nat.le_refl _)
  | o :: os, pre, acc, n + 1, h, hn => by
    have ho := h o (List.mem_cons_self ..)
    have ed : (pre ++ payH (o :: os)).drop pre.length = hForm o ++ payH os := by rw [List.drop_left, payH_cons]
    have l1 := (@hform_len o).1
    have e := hRun_some (n := n) (i := pre.length) (l := pre ++ payH (o :: os)) (acc := acc) (o := o) (by rw [List.length_append, payH_cons, List.length_append]; omega) (by rw [ed, wid_form ho, List.take_left]; exact hOne_form ho)
    rw [e, ed, wid_form ho]
    have ih := hRun_pay os (pre ++ hForm o) (acc ++ [o]) n (fun x hx => h x (List.mem_cons_of_mem _ hx)) (by simp only [List.length_cons] at hn; omega)
    rw [List.length_append, List.append_assoc, List.append_assoc] at ih
    exact ih
def digs : List Nat → List Nat
  | [] => []
  | [a] => (sDigits (num3 [a])).take 2
  | [a, b] => (sDigits (num3 [a, b])).take 3
  | a :: b :: c :: r => sDigits (num3 [a, b, c]) ++ digs r
theorem payS_digs : ∀ os, payS os = (digs os).map al
  | [] => rfl
  | [a] => rfl
  | [a, b] => rfl
  | a :: b :: c :: r => by
    show sForm [a, b, c] ++ payS r = (sDigits (num3 [a, b, c]) ++ digs r).map al
    rw [payS_digs r, List.map_append]
    rfl
theorem digs_lt : ∀ os, (∀ o ∈ os, o < 256) → ∀ d ∈ digs os, d < 64
  | [], _, d, hd => by cases hd
  | [a], h, d, hd => sdig_lt (num3_lt h) d (List.mem_of_mem_take hd)
  | [a, b], h, d, hd => sdig_lt (num3_lt h) d (List.mem_of_mem_take hd)
  | a :: b :: c :: r, h, d, hd => by
    rcases List.mem_append.mp (show d ∈ sDigits (num3 [a, b, c]) ++ digs r from hd) with k | k
    · exact sdig_lt (num3_lt (fun o ho => h o (by simp only [List.mem_cons, List.not_mem_nil, or_false] at ho; simp; rcases ho with rfl | rfl | rfl <;> simp))) d k
    · exact digs_lt r (fun o ho => h o (by simp [ho])) d k
theorem digs_len : ∀ os, (digs os).length % 4 ≠ 1
  | [] => by decide
  | [a] => by show 2 % 4 ≠ 1; decide
  | [a, b] => by show 3 % 4 ≠ 1; decide
  | a :: b :: c :: r => by
    have := digs_len r
    show (sDigits (num3 [a, b, c]) ++ digs r).length % 4 ≠ 1
    rw [List.length_append]
    show (4 + _) % 4 ≠ 1
    omega
theorem prog_digs : ∀ os, (∀ o ∈ os, o < 256) → progS (digs os) = some os
  | [], _ => rfl
  | [a], h => by
    have e := back1 (h a (by simp))
    show (if (row3 (digS ((sDigits (num3 [a])).take 2))).drop 1 = [0, 0] then some ((row3 (digS ((sDigits (num3 [a])).take 2))).take 1) else none) = _
    rw [e]
    rfl
  | [a, b], h => by
    have e := back2 (h a (by simp)) (h b (by simp))
    show (if (row3 (digS ((sDigits (num3 [a, b])).take 3))).drop 2 = [0] then some ((row3 (digS ((sDigits (num3 [a, b])).take 3))).take 2) else none) = _
    rw [e]
    rfl
  | a :: b :: c :: r, h => by
    have e := back3 (h a (by simp)) (h b (by simp)) (h c (by simp))
    show (progS (digs r)).map (row3 (digS (sDigits (num3 [a, b, c]))) ++ ·) = _
    rw [prog_digs r (fun o ho => h o (by simp [ho])), e]
    rfl
/-- what was written is due -/
theorem due_pay {h : Bool} {os : List Nat} (ho : ∀ o ∈ os, o < 256) : due h (pay h os) = .inr os := by
  cases h with
  | true =>
    show hRun ((payH os).length + 1) (payH os) 0 [] = _
    exact hRun_pay os [] [] _ ho (Nat.lt_succ_of_le (payH_len os).1)
  | false =>
    show sRun (payS os) = _
    have hw : (List.range (payS os).length).filter (wrongAt (payS os)) = [] := by
      rw [List.filter_eq_nil_iff]
      intro k hk
      have hk := List.mem_range.mp hk
      rw [wrong_get (List.getElem?_eq_getElem hk)]
      have := payS_mem os ho _ (List.getElem_mem hk)
      rw [decide_eq_true_eq]
      exact fun n => n this
    unfold sRun
    rw [hw]
    have em : (payS os).map alI = digs os := by
      rw [payS_digs, List.map_map]
      conv => rhs; rw [← List.map_id (digs os)]
      exact List.map_congr_left fun d hd => alI_al (digs_lt os ho d hd)
    have l4 : (payS os).length % 4 ≠ 1 := by
      have := digs_len os
      rwa [payS_digs, List.length_map]
    show (if _ then _ else _) = _
    rw [if_neg l4, em, prog_digs os ho]
theorem pay_len (h : Bool) (os : List Nat) : (pay h os).length ≤ 3 * os.length := by
  cases h with
  | true => exact (payH_len os).2
  | false =>
    show (payS os).length ≤ _
    rw [payS_len]
    omega
theorem t3_val {C1 C2 : Addr} {f1 f2 w1 w2 : Str} {tl : XK → Hp → VK → Prop} {H : Hp} {Q : VK} (h : ∀ H0, Same H H0 → ∀ (E' : XK) (Q' : VK), (∀ p xs H1, H1 p = some (.tup xs) → xs.length ≤ 10000 → (∀ r H'', Same H1 H'' → H'' r = some (.lst xs) → Q (.ref r) H'') → Q' (.ref p) H1) → tl E' H0 Q') : TT3 C1 C2 f1 f2 w1 w2 tl H Q := fun H0 s0 E' Q' _ _ q' => h H0 s0 E' Q' q'
/-- a word with a number, compared -/
theorem sh_wi {w : Str} {i : Nat} (hi : i ≤ 100000) (hw : (PyData.strOk w && decide (w.length ≤ 100000)) = true) : SeqAt.shaped (.tuple [.str w, .int (i : Int)]) = true := by
  rw [Bool.and_eq_true] at hw
  exact shaped_sml (d := .tuple [.str w, .int (i : Int)]) ⟨⟨hw.1, of_decide_eq_true hw.2⟩, (by show (i : Int).natAbs < 10 ^ 12; omega), trivial⟩ (by simp [PyData.depth, PyData.depthAll])
theorem eqv_wi {w : Str} {i : Int} : PyData.eqv (.tuple [.str w, .int i]) (.tuple [.str w, .int i]) = true := by simp [PyData.eqv, PyData.eqvAll]
def spRight (T : List (Addr × Str)) : Sp := fun vs H Q _ => ∃ (h : Bool) (l : List Nat), vs = [.str (cname h), .str (zs l)] ∧ l.length ≤ 300 ∧ LamX.Tabs T H ∧ ∀ H1, LamX.ExtN H H1 → LamX.Tabs T H1 → Q (.bl true) H1
end Rd
namespace Rd
open L2 PySem Pw Cd Tx
def someR : List Nat := [0, 255, 32, 65, 233, 61, 128, 3]
def oddsR (l t d : Addr) : List V := [.str "H", .str "", .non, .int 5, .bl true, .ref l, .ref t, .ref d, .str "wide", .str "sh"]
theorem oddsR_ok {H : Hp} {l t d : Addr} (h1 : H l = some (.lst [.str "h"])) (h2 : H t = some (.tup [.str "s"])) (h3 : H d = some (.dK [])) : ∀ v ∈ oddsR l t d, OddC H v := by
  intro v hv
  have hv : v ∈ ([.str "H", .str "", .non, .int 5, .bl true, .ref l, .ref t, .ref d, .str "wide", .str "sh"] : List V) := hv
  simp only [List.mem_cons, List.not_mem_nil, or_false] at hv
  rcases hv with rfl | rfl | rfl | rfl | rfl | rfl | rfl | rfl | rfl | rfl
  · exact ⟨by decide +kernel, _, .sc (.str _ (by decide +kernel) (by decide +kernel))⟩
  · exact ⟨by decide +kernel, _, .sc (.str _ (by decide +kernel) (by decide +kernel))⟩
  · exact ⟨rfl, _, .sc .non⟩
  · exact ⟨rfl, _, .sc (.int _ (by decide))⟩
  · exact ⟨rfl, _, .sc (.bl _)⟩
  · exact ⟨rfl, _, .lst h1 (.cons (.str _ (by decide +kernel) (by decide +kernel)) .nil) (by decide)⟩
  · exact ⟨rfl, _, .tup h2 (.cons (.str _ (by decide +kernel) (by decide +kernel)) .nil) (by decide)⟩
  · exact ⟨rfl, _, .dic h3⟩
  · exact ⟨by decide +kernel, _, .sc (.str _ (by decide +kernel) (by decide +kernel))⟩
  · exact ⟨by decide +kernel, _, .sc (.str _ (by decide +kernel) (by decide +kernel))⟩
def oths (ta lb dc : Addr) : List V := [.non, .int 5, .bl true, .ref ta, .ref lb, .ref dc]
structure Oth (H : Hp) (p ta lb dc tl : Addr) : Prop where
  ep : H p = some (.tup (oths ta lb dc))
  ea : H ta = some (.tup [.str "A"])
  eb : H lb = some (.lst [.str "A"])
  ec : H dc = some (.dK [])
  np : tl ≠ p
  na : tl ≠ ta
  nb : tl ≠ lb
  nc : tl ≠ dc
theorem Oth.ext {H H' : Hp} {p ta lb dc tl : Addr} (h : Oth H p ta lb dc tl) (x : LamX.ExtN H H') : Oth H' p ta lb dc tl := ⟨x.ap h.ep, x.ap h.ea, x.ap h.eb, x.ap h.ec, h.np, h.na, h.nb, h.nc⟩
theorem Oth.upd {H : Hp} {p ta lb dc tl : Addr} {o : HO} (h : Oth H p ta lb dc tl) : Oth (L2.upd H tl o) p ta lb dc tl := ⟨by rw [upd_ne h.np.symm]; exact h.ep, by rw [upd_ne h.na.symm]; exact h.ea, by rw [upd_ne h.nb.symm]; exact h.eb, by rw [upd_ne h.nc.symm]; exact h.ec, h.np, h.na, h.nb, h.nc⟩
theorem Oth.any {H : Hp} {p ta lb dc tl : Addr} (h : Oth H p ta lb dc tl) : ∀ v ∈ oths ta lb dc, AnyO H v ∧ isStrV v = false := by
  intro v hv
  have hv : v ∈ ([.non, .int 5, .bl true, .ref ta, .ref lb, .ref dc] : List V) := hv
  simp only [List.mem_cons, List.not_mem_nil, or_false] at hv
  rcases hv with rfl | rfl | rfl | rfl | rfl | rfl
  · exact ⟨.non, rfl⟩
  · exact ⟨.int _, rfl⟩
  · exact ⟨.bl _, rfl⟩
  · exact ⟨.tup h.ea, rfl⟩
  · exact ⟨.lst h.eb, rfl⟩
  · exact ⟨.dic h.ec, rfl⟩
end Rd
namespace Rd
open L2 PySem Pw
theorem pr_rep {H : Hp} {w : Str} {v : V} {p : Addr} (e : H p = some (.tup [.str w, v])) : ∀ n, PrA H w v (List.replicate n p)
  | 0 => .nil
  | n + 1 => .cons e (pr_rep e n)
end Rd
namespace L2
open PySem
/-- a tuple or a list, taken apart -/
def gSeq (K : PySem.W.Frag) (n : Nat) (t : TGs) : TG := fun v σ H Q => ∃ a xs, v = .ref a ∧ (SqT K H a xs ∨ SqL K H a xs) ∧ xs.length = n ∧ t xs σ H Q
theorem pg_seq {X : Cx} {pos : Pos} {es : List Expr} {k : Nat} {t : TGs} {n : Nat} (hc : X.calm = true) (ha : PGs X es t) (h1 : (assignEach es X.env).length = n := by rfl) (h2 : List.findIdx? (fun x => x.fst) (assignEach es X.env) = none := by rfl) : PG X (.Tuple es k pos) (gSeq X.K n t) := by
  refine ⟨fun pins s σ H v u Q I r h => ?_⟩
  obtain ⟨a, xs, rfl, c | c, hl, h⟩ := h
  · exact (pg_tup hc ha h1 h2).run pins s σ H _ u Q I r ⟨a, xs, rfl, c, hl, h⟩
  · exact (pg_unl hc ha h1 h2).run pins s σ H _ u Q I r ⟨a, xs, rfl, c, hl, h⟩
theorem g_seqT {K : PySem.W.Frag} {n : Nat} {t : TGs} {a : Addr} {xs : List V} {σ : St} {H : Hp} {Q : St → Hp → Prop} (h : SqT K H a xs ∨ SqL K H a xs) (hn : xs.length = n) (q : t xs σ H Q) : gSeq K n t (.ref a) σ H Q := ⟨a, xs, rfl, h, hn, q⟩
theorem g_notB {a b : Bool} {H : Hp} {Q : VK} (q : Q (.bl (!decide (a = b))) H) : rNotB (.bl a) (.bl b) H Q := ⟨a, b, rfl, rfl, q⟩
theorem g_setL {p : Addr} {xs : List V} {k : Int} {j : Nat} {v : V} {H : Hp} {Q : Hp → Prop} (e : H p = some (.lst xs)) (hj : ixN xs.length k = some j) (q : Q (upd H p (.lst (xs.set j v)))) : rSetL (.ref p) (.int k) v H Q := ⟨p, xs, k, j, rfl, rfl, e, hj, q⟩
theorem ixN_nat {n j : Nat} (h : j < n) : ixN n (j : Int) = some j := by
  unfold ixN
  rw [if_pos (by omega), if_pos (by omega)]
  simp
end L2
namespace Mo
open PySem L2
/-- either a tuple or a list of these -/
def Sq (K : PySem.W.Frag) (H : Hp) (p : Addr) (xs : List V) : Prop := SqT K H p xs ∨ SqL K H p xs
def spMoment (K : PySem.W.Frag) (C Cb : Addr) : Sp := fun vs H Q E => ∃ p args, vs = [.ref p] ∧ Sq K H p args ∧ args.length = 7 ∧
  ((∃ v, Bad args v ∧ AnyO H v ∧ Pw.Rs H E Cb "given" v) ∨ ∃ sv : Sv, args = sv.vals ∧ sv.ok ∧ ∀ a H1, H a = none → Same H H1 → At H1 C a sv → Q (.ref a) H1)
def spTold (C : Addr) : Sp := fun vs H Q _ => ∃ a v, vs = [.ref a] ∧ At H C a v ∧ v.ok ∧ ∀ p H1, H p = none → Same H H1 → H1 p = some (.tup v.vals) → Q (.ref p) H1
def spZone : Sp := fun vs H Q _ => ∃ (d l : Addr) (k : Nat), vs = [.ref d] ∧ Dr.Draw H d l k ∧ k < 900000 ∧ ∀ (z : Int) H', -899 ≤ z → z ≤ 899 → Dr.Draw H' d l (k + 1) → Dr.Kp d H H' → Q (.int z) H'
def spSeven (K : PySem.W.Frag) : Sp := fun vs H Q _ => ∃ (d l : Addr) (k : Nat), vs = [.ref d] ∧ Dr.Draw H d l k ∧ k < 800000 ∧ ∀ (sv : Sv) (p : Addr) H', sv.ok → SqT K H' p sv.vals → Dr.Draw H' d l (k + 12) → Dr.Kp d H H' → Q (.ref p) H'
def isZn : V → Bool
  | .int z => decide (-899 ≤ z) && decide (z ≤ 899)
  | _ => false
theorem isZn_of {v : V} (h : isZn v = true) : ∃ z, v = .int z ∧ -899 ≤ z ∧ z ≤ 899 := by
  cases v with
  | int z =>
    have h : (decide (-899 ≤ z) && decide (z ≤ 899)) = true := h
    rw [Bool.and_eq_true] at h
    exact ⟨z, rfl, of_decide_eq_true h.1, of_decide_eq_true h.2⟩
  | _ => cases h
def isBt (lo hi : Int) : V → Bool
  | .int z => decide (lo ≤ z) && decide (z ≤ hi)
  | _ => false
theorem isBt_of {lo hi : Int} {v : V} (h : isBt lo hi v = true) : ∃ z, v = .int z ∧ lo ≤ z ∧ z ≤ hi := by
  cases v with
  | int z =>
    have h : (decide (lo ≤ z) && decide (z ≤ hi)) = true := h
    rw [Bool.and_eq_true] at h
    exact ⟨z, rfl, of_decide_eq_true h.1, of_decide_eq_true h.2⟩
  | _ => cases h
theorem all_h {r : Int} (h0 : 0 ≤ r) (h1 : r < 24) : ([V.int 0, V.int 23, V.int r] : List V).all (isBt 0 23) = true := by
  simp [isBt]
  omega
/-- nothing that stands in one of the seven places -/
def OddM (v : V) : Prop := ∀ lo hi : Int, -899 ≤ lo → hi ≤ 9999 → Mk.btw v lo hi = false
theorem bad_at {sv : Sv} (ok : sv.ok) {v : V} (b : OddM v) (k : Nat) (hk : k < 7) (r : List V) (hr : r.length = 6 - k) : Bad (sv.vals.take k ++ v :: r) v := by
  have hl := Cal.len_pos (y := sv.y) ok.dt.2.2.1 ok.dt.2.2.2.1
  obtain ⟨h1, h2, h3, h4, h5, h6⟩ := ok.dt
  match k, hk with
  | 0, _ => exact .y (b _ _ (by decide) (by decide)) hr
  | 1, _ => exact .m h1 h2 (b _ _ (by decide) (by decide)) hr
  | 2, _ => exact .d h1 h2 h3 h4 (b _ _ (by decide) (by omega)) hr
  | 3, _ => exact .h ok.dt (b _ _ (by decide) (by decide)) hr
  | 4, _ => exact .mi ok.dt ok.h0 ok.h1 (b _ _ (by decide) (by decide)) hr
  | 5, _ => exact .s ok.dt ok.h0 ok.h1 ok.i0 ok.i1 (b _ _ (by decide) (by decide)) hr
  | 6, _ =>
    match r, hr with
    | [], _ => exact .z ok.dt ok.h0 ok.h1 ok.i0 ok.i1 ok.s0 ok.s1 (b _ _ (by decide) (by decide))
theorem set_at (sv : Sv) (v : V) (k : Nat) (hk : k < 7) : sv.vals.set k v = sv.vals.take k ++ v :: sv.vals.drop (k + 1) := List.set_eq_take_append_cons_drop .. |>.trans (if_pos hk)
theorem len_vals (sv : Sv) : sv.vals.length = 7 := rfl
end Mo
namespace L2
open PySem
theorem g_makeK {C : Addr} {n m : Nat} {sp : Sp} {gV : List V → List V → List V} {E : XK} {t tk : TA} {σ : St} {H : Hp} {Q : VK} (h : t σ H fun vs H1 => tk σ H1 fun zs H2 => vs.length = n ∧ zs.length = m ∧ ∀ x dx, H2 x = none → H2 dx = none → dx ≠ x → sp (gV (.ref x :: vs) zs) (upd (upd H2 dx (.own x)) x (.ins C dx [])) (fun v H3 => v = .non ∧ Q (.ref x) H3) E) : tMakeK C n m sp gV E t tk σ H Q := h
end L2
/-! data of whole numbers -/
namespace In
open PySem L2
def vs (l : List Int) : List V := l.map V.int
def ds (l : List Int) : List PyData := l.map PyData.int
theorem dp {K : PySem.W.Frag} {H : Hp} : ∀ l : List Int, DpAll K H (vs l) (ds l)
  | [] => .nil
  | i :: r => .cons (.int i) (dp r)
theorem dz {K : PySem.W.Frag} {H : Hp} : ∀ l : List Int, DzAll K H (vs l) (ds l)
  | [] => .nil
  | i :: r => .cons (.of (.int i) rfl) (dz r)
theorem eqvA : ∀ l m : List Int, PyData.eqvAll (ds l) (ds m) = decide (l = m)
  | [], [] => rfl
  | [], _ :: _ => rfl
  | _ :: _, [] => rfl
  | i :: r, j :: t => by
    show PyData.eqvAll (PyData.int i :: ds r) (PyData.int j :: ds t) = _
    rw [PyData.eqvAll, eqvA r t, PyData.eqv, Bool.eq_iff_iff]
    simp
theorem eqvT (l m : List Int) : PyData.eqv (.tuple (ds l)) (.tuple (ds m)) = decide (l = m) := by rw [PyData.eqv, eqvA]
theorem eqvL (l m : List Int) : PyData.eqv (.list (ds l)) (.list (ds m)) = decide (l = m) := by rw [PyData.eqv, eqvA]
def Sm (l : List Int) : Prop := ∀ i ∈ l, i.natAbs < 10 ^ 12
theorem smlA : ∀ {l : List Int}, Sm l → SmlAll (ds l)
  | [], _ => trivial
  | i :: r, h => ⟨h i (List.mem_cons_self ..), smlA fun j hj => h j (List.mem_cons_of_mem _ hj)⟩
theorem dep : ∀ l : List Int, PyData.depthAll (ds l) ≤ 1
  | [] => by decide
  | i :: r => by
    have := dep r
    show PyData.depthAll (PyData.int i :: ds r) ≤ 1
    rw [PyData.depthAll, PyData.depth]
    omega
theorem shpT {l : List Int} (h : Sm l) : SeqAt.shaped (.tuple (ds l)) = true := shaped_sml (d := .tuple (ds l)) (smlA h) (by rw [PyData.depth]; have := dep l; omega)
theorem shpL {l : List Int} (h : Sm l) : SeqAt.shaped (.list (ds l)) = true := shaped_sml (d := .list (ds l)) (smlA h) (by rw [PyData.depth]; have := dep l; omega)
theorem smzA : ∀ {l : List Int}, Sm l → SmZA (ds l)
  | [], _ => trivial
  | i :: r, h => ⟨Nat.lt_trans (h i (List.mem_cons_self ..)) (by decide), smzA fun j hj => h j (List.mem_cons_of_mem _ hj)⟩
theorem wgA : ∀ {l : List Int}, wgzA (ds l) ≤ 200 * l.length
  | [] => by decide
  | i :: r => by
    have := @wgA r
    show wgzA (PyData.int i :: ds r) ≤ _
    rw [wgzA, wgz, List.length_cons]
    omega
theorem shzT {l : List Int} (h : Sm l) (hl : l.length ≤ 100) : showsZ (.tuple (ds l)) := showsZ_of (d := .tuple (ds l)) (smzA h) (by rw [wgz]; have := @wgA l; omega) (by rw [PyData.depth]; have := dep l; omega)
theorem shzL {l : List Int} (h : Sm l) (hl : l.length ≤ 100) : showsZ (.list (ds l)) := showsZ_of (d := .list (ds l)) (smzA h) (by rw [wgz]; have := @wgA l; omega) (by rw [PyData.depth]; have := dep l; omega)
end In
namespace Mo
open PySem L2
def Sv.ints (v : Sv) : List Int := [v.y, v.m, v.d, v.h, v.mi, v.s, v.z]
theorem Sv.ok.sm {v : Sv} (ok : v.ok) : In.Sm v.ints := by
  have s := ok_small ok.dt
  intro i hi
  simp only [Sv.ints, List.mem_cons, List.not_mem_nil, or_false] at hi
  have := ok.h0; have := ok.h1; have := ok.i0; have := ok.i1; have := ok.s0; have := ok.s1; have := ok.z0; have := ok.z1
  have b : (100000 : Nat) < 10 ^ 12 := by decide
  rcases hi with rfl | rfl | rfl | rfl | rfl | rfl | rfl <;> omega
theorem inst_is (v : Sv) : 86400 * v.no + 3600 * v.h + 60 * v.mi + v.s - 60 * v.z = v.inst := by unfold Sv.inst Sv.there; omega
theorem inst_bd {v : Sv} (ok : v.ok) : v.inst.natAbs < 10 ^ 12 ∧ v.wd.natAbs < 10 ^ 12 := by
  have := no_bd ok
  have := ok.h0; have := ok.h1; have := ok.i0; have := ok.i1; have := ok.s0; have := ok.s1; have := ok.z0; have := ok.z1
  unfold Sv.inst Sv.there Sv.wd
  omega
def spMade (K : PySem.W.Frag) : Sp := fun vs H Q _ => ∃ p sv, vs = [.ref p] ∧ SqT K H p (Sv.vals sv) ∧ sv.ok ∧ ∀ H1, Same H H1 → Q (.bl true) H1
end Mo
namespace Mo
open PySem L2
theorem n_mk {C Cb : Addr} {args : List V} {H : Hp} {E : XK} {sv : Sv} {N : Addr → Hp → Prop} (e : args = sv.vals) (ok : sv.ok) (q : ∀ a H1, H a = none → Same H H1 → At H1 C a sv → N a H1) : ∀ x dx, H x = none → H dx = none → dx ≠ x → spInit C Cb (.ref x :: args) (upd (upd H dx (.own x)) x (.ins C dx [])) (fun v H2 => v = .non ∧ N x H2) E := fun x dx hx hdx ne => by
  subst e
  exact ⟨x, dx, _, _, _, _, _, _, _, H, rfl, upd_same, hx, (same_new hdx).mut hx, .inr ⟨sv, rfl, ok, fun H1 s1 a1 => ⟨rfl, q x H1 hx s1 a1⟩⟩⟩
theorem n_mkB {C Cb : Addr} {args : List V} {H : Hp} {E : XK} {N : Addr → Hp → Prop} {v : V} (b : Bad args v) (av : AnyO H v) (k : Pw.Rs H E Cb "given" v) : ∀ x dx, H x = none → H dx = none → dx ≠ x → spInit C Cb (.ref x :: args) (upd (upd H dx (.own x)) x (.ins C dx [])) (fun v H2 => v = .non ∧ N x H2) E := fun x dx hx hdx ne => by
  match args, b.len, b with
  | [a0, a1, a2, a3, a4, a5, a6], _, b => exact ⟨x, dx, a0, a1, a2, a3, a4, a5, a6, H, rfl, upd_same, hx, (same_new hdx).mut hx, .inl ⟨v, b, av, k⟩⟩
end Mo
namespace Mo
open PySem L2
theorem ok_mk {y m d h mi s z : Int} (a : Cal.ok y m d) (b : 0 ≤ h) (c : h ≤ 23) (e : 0 ≤ mi) (f : mi ≤ 59) (g : 0 ≤ s) (i : s ≤ 59) (j : -899 ≤ z) (k : z ≤ 899) : (⟨y, m, d, h, mi, s, z⟩ : Sv).ok := ⟨a, b, c, e, f, g, i, j, k⟩
theorem dp7 {K : PySem.W.Frag} {H : Hp} {p : Addr} {sv : Sv} (e : SqT K H p sv.vals) : Dp K H (.ref p) (.tuple (In.ds sv.ints)) := .tup e (In.dp sv.ints)
end Mo
namespace Mo
open PySem L2
def mn (x : Int) : Int := if x < 28 then x else 28
def fl (sv : Sv) : List Int := [1 + sv.y % 9000, 1 + sv.m % 12, 1 + sv.d % 27, 0, 0, 0, 0]
def oI (sv : Sv) (k : Nat) : List Int := sv.ints.set k ((fl sv).getD k 0)
def near (sv : Sv) : Sv := ⟨sv.y, sv.m, mn sv.d, sv.h, sv.mi, sv.s, sv.z⟩
theorem near_ok {sv : Sv} (ok : sv.ok) : (near sv).ok := by
  obtain ⟨h1, h2, h3, h4, h5, h6⟩ := ok.dt
  have hl := Cal.len_pos (y := sv.y) h3 h4
  refine ⟨⟨h1, h2, h3, h4, ?_, ?_⟩, ok.h0, ok.h1, ok.i0, ok.i1, ok.s0, ok.s1, ok.z0, ok.z1⟩
  · show 1 ≤ mn sv.d
    unfold mn
    split <;> omega
  · show mn sv.d ≤ Cal.len sv.y sv.m
    unfold mn
    split <;> omega
theorem near_ints (sv : Sv) : (near sv).ints = sv.ints.set 2 (mn sv.d) := rfl
theorem other_ok {sv : Sv} (ok : sv.ok) (k : Nat) (hk : k < 7) : ∃ ov : Sv, ov.ok ∧ ov.ints = (oI sv k).set 2 (mn ((oI sv k).getD 2 0)) := by
  have no := near_ok ok
  obtain ⟨h1, h2, h3, h4, h5, h6⟩ := no.dt
  have d28 : mn sv.d ≤ 28 := by unfold mn; split <;> omega
  have e28 : ∀ x : Int, mn x ≤ 28 := fun x => by unfold mn; split <;> omega
  have d1 : 1 ≤ mn sv.d := h5
  match k, hk with
  | 0, _ =>
    have hl := Cal.len_pos (y := 1 + sv.y % 9000) h3 h4
    exact ⟨⟨1 + sv.y % 9000, sv.m, mn sv.d, sv.h, sv.mi, sv.s, sv.z⟩, ok_mk ⟨by omega, by omega, h3, h4, d1, Int.le_trans d28 hl.1⟩ ok.h0 ok.h1 ok.i0 ok.i1 ok.s0 ok.s1 ok.z0 ok.z1, rfl⟩
  | 1, _ =>
    have m1 : 1 ≤ 1 + sv.m % 12 := by omega
    have m2 : 1 + sv.m % 12 ≤ 12 := by omega
    have hl := Cal.len_pos (y := sv.y) m1 m2
    exact ⟨⟨sv.y, 1 + sv.m % 12, mn sv.d, sv.h, sv.mi, sv.s, sv.z⟩, ok_mk ⟨h1, h2, m1, m2, d1, Int.le_trans d28 hl.1⟩ ok.h0 ok.h1 ok.i0 ok.i1 ok.s0 ok.s1 ok.z0 ok.z1, rfl⟩
  | 2, _ =>
    have hl := Cal.len_pos (y := sv.y) h3 h4
    have q1 : 1 ≤ mn (1 + sv.d % 27) := by unfold mn; split <;> omega
    exact ⟨⟨sv.y, sv.m, mn (1 + sv.d % 27), sv.h, sv.mi, sv.s, sv.z⟩, ok_mk ⟨h1, h2, h3, h4, q1, Int.le_trans (e28 _) hl.1⟩ ok.h0 ok.h1 ok.i0 ok.i1 ok.s0 ok.s1 ok.z0 ok.z1, rfl⟩
  | 3, _ => exact ⟨⟨sv.y, sv.m, mn sv.d, 0, sv.mi, sv.s, sv.z⟩, ok_mk no.dt (by decide) (by decide) ok.i0 ok.i1 ok.s0 ok.s1 ok.z0 ok.z1, rfl⟩
  | 4, _ => exact ⟨⟨sv.y, sv.m, mn sv.d, sv.h, 0, sv.s, sv.z⟩, ok_mk no.dt ok.h0 ok.h1 (by decide) (by decide) ok.s0 ok.s1 ok.z0 ok.z1, rfl⟩
  | 5, _ => exact ⟨⟨sv.y, sv.m, mn sv.d, sv.h, sv.mi, 0, sv.z⟩, ok_mk no.dt ok.h0 ok.h1 ok.i0 ok.i1 (by decide) (by decide) ok.z0 ok.z1, rfl⟩
  | 6, _ => exact ⟨⟨sv.y, sv.m, mn sv.d, sv.h, sv.mi, sv.s, 0⟩, ok_mk no.dt ok.h0 ok.h1 ok.i0 ok.i1 ok.s0 ok.s1 (by decide) (by decide), rfl⟩
theorem ints_inj {u v : Sv} (h : u.ints = v.ints) : u = v := by
  obtain ⟨a, b, c, d, e, f, g⟩ := u
  obtain ⟨a', b', c', d', e', f', g'⟩ := v
  simp only [Sv.ints, List.cons.injEq, and_true] at h
  obtain ⟨rfl, rfl, rfl, rfl, rfl, rfl, rfl⟩ := h
  rfl
theorem dec_ints (u v : Sv) : decide (u = v) = decide (v.ints = u.ints) := decide_eq_decide.mpr ⟨fun h => by rw [h], fun h => (ints_inj h).symm⟩
theorem vals_ints (v : Sv) : v.vals = v.ints.map V.int := rfl
theorem set_map (l : List Int) (k : Nat) (c : Int) : (l.map V.int).set k (.int c) = (l.set k c).map V.int := by rw [List.map_set]
theorem at_map {l : List Int} {k : Nat} (h : k < l.length) : atI (l.map V.int) (k : Int) = some (.int (l.getD k 0)) := by
  refine atI_nat ?_
  rw [List.getElem?_map, List.getElem?_eq_getElem h, List.getD_eq_getElem?_getD, List.getElem?_eq_getElem h]
  rfl
theorem oI_len (sv : Sv) (k : Nat) : (oI sv k).length = 7 := by unfold oI; rw [List.length_set]; rfl
def spEqual (K : PySem.W.Frag) : Sp := fun vs H Q _ => ∃ (d l : Addr) (k : Nat) (p : Addr) (sv : Sv), vs = [.ref d, .ref p] ∧ Dr.Draw H d l k ∧ k < 800000 ∧ SqT K H p sv.vals ∧ sv.ok ∧ ∀ H1, Dr.Draw H1 d l (k + 1) → Dr.Kp d H H1 → Q (.bl true) H1
theorem two_bls {K : PySem.W.Frag} {H : Hp} {p : Addr} {a b : Bool} (e : H p = some (.lst [.bl a, .bl b])) : Dp K H (.ref p) (.list [.bool a, .bool b]) := .lst (SqL.of e) (.cons (.bl _) (.cons (.bl _) .nil))
theorem two_shp (a b : Bool) : SeqAt.shaped (.list [.bool a, .bool b]) = true := by cases a <;> cases b <;> decide +kernel
theorem two_eqv (a b : Bool) : PyData.eqv (.list [.bool a, .bool b]) (.list [.bool a, .bool b]) = true := by cases a <;> cases b <;> decide +kernel
theorem draw_dk {H : Hp} {d l : Addr} {k : Nat} (D : Dr.Draw H d l k) : ∃ kvs, H d = some (.dK kvs) := by
  obtain ⟨ns, a, lf, u, h, _⟩ := D
  exact ⟨_, h⟩
theorem dk_sqt {K : PySem.W.Frag} {H H' : Hp} {d l p : Addr} {k : Nat} {xs : List V} (D : Dr.Draw H d l k) (h : SqT K H p xs) (s : Dr.Kp d H H') : SqT K H' p xs := by
  obtain ⟨kvs, e⟩ := draw_dk D
  exact Cd.sqt_kp h e s
end Mo
namespace L2
open PySem
section
variable {X : Cx} {CX : CXT} {k : Nat} {C f : Addr} {sp : Sp} {E : XK} {K : PySem.W.Frag}
theorem op_eqOK (h : X.K = K) (F : FnR X.prog X.w X.K X.mg X.base CX k f sp) (hr : Room k X.A) (hx : Passes CX X E) (hs : PySem.W.findIn X.K (.ref C) "__eq__" = some (some (.ref f))) (hf : PySem.W.isFn X.K (.ref f) = true) : OpR X (compareOp .Eq) (rOwnE K C sp E false) := by
  have := op_eqO F hr hx hs hf
  rw [h] at this
  exact this
theorem op_neOK (h : X.K = K) (F : FnR X.prog X.w X.K X.mg X.base CX k f sp) (hr : Room (k + 1) X.A) (hx : Passes CX X E) (hm : PySem.W.mroIn X.K C (.type "object") = some true) (hn : PySem.W.findIn X.K (.ref C) "__ne__" = some (some (.builtin "object.__ne__"))) (hs : PySem.W.findIn X.K (.ref C) "__eq__" = some (some (.ref f))) (hf : PySem.W.isFn X.K (.ref f) = true) : OpR X (compareOp .NotEq) (rOwnE K C sp E true) := by
  have := op_neO F hr hx hm hn hs hf
  rw [h] at this
  exact this
end
end L2
namespace Mo
open PySem L2 LamX
def OddX (H : Hp) (x : V) : Prop := OddM x ∧ ∃ d, L2.Od H x d ∧ (SmZ d ∧ wgz d ≤ 1000 ∧ d.depth ≤ 1)
section
variable {H H' : Hp} {x : V}
theorem OddX.od (h : OddX H x) : ∃ d, L2.Od H x d ∧ (SmZ d ∧ wgz d ≤ 1000 ∧ d.depth ≤ 1) := h.2
theorem OddX.ext (h : OddX H x) (e : ExtN H H') : OddX H' x := ⟨h.1, let ⟨d, o, r⟩ := h.2; ⟨d, o.ext e, r⟩⟩
theorem OddX.same (h : OddX H x) (e : Same H H') : OddX H' x := h.ext (ExtN.same e)
theorem OddX.kp {q : Addr} (h : OddX H x) (e : Dr.Kp q H H') (n : x ≠ .ref q) : OddX H' x := ⟨h.1, let ⟨d, o, r⟩ := h.2; ⟨d, o.kp e n, r⟩⟩
theorem OddX.any (h : OddX H x) : AnyO H x := let ⟨_, o, _⟩ := h.2; o.any
end
def oddsM (t l : Addr) : List V := [.non, .bl true, .bl false, .int (0 - 1000), .int 10000, .str "1", .ref t, .ref l, .int (10 ^ 20)]
theorem oddsM_ok {H : Hp} {t l : Addr} (h1 : H t = some (.tup [.int 1])) (h2 : H l = some (.lst [])) : ∀ v ∈ oddsM t l, OddX H v := by
  intro v hv
  have hv : v ∈ ([.non, .bl true, .bl false, .int (0 - 1000), .int 10000, .str "1", .ref t, .ref l, .int (10 ^ 20)] : List V) := hv
  simp only [List.mem_cons, List.not_mem_nil, or_false] at hv
  have n : ∀ i : Int, i < -899 ∨ 9999 < i → i.natAbs < 10 ^ 39 → OddX H (.int i) := fun i h k => ⟨fun lo hi h1 h2 => Cal.btw_out (by omega), _, .sc (.int i k), by simp only [SmZ]; exact k, by simp only [wgz]; decide, by simp only [PyData.depth]; decide⟩
  have i1 : L2.Sc (.int 1) (.int 1) := .int 1 (by decide)
  rcases hv with rfl | rfl | rfl | rfl | rfl | rfl | rfl | rfl | rfl
  · exact ⟨fun _ _ _ _ => rfl, _, .sc .non, by simp only [SmZ], by simp only [wgz]; decide, by simp only [PyData.depth]; decide⟩
  · exact ⟨fun _ _ _ _ => rfl, _, .sc (.bl true), by simp only [SmZ], by simp only [wgz]; decide, by simp only [PyData.depth]; decide⟩
  · exact ⟨fun _ _ _ _ => rfl, _, .sc (.bl false), by simp only [SmZ], by simp only [wgz]; decide, by simp only [PyData.depth]; decide⟩
  · exact n _ (.inl (by decide)) (by decide)
  · exact n _ (.inr (by decide)) (by decide)
  · exact ⟨fun _ _ _ _ => rfl, _, .sc (.str "1" (by decide +kernel) (by decide +kernel)), by simp only [SmZ]; decide +kernel, by simp only [wgz]; decide +kernel, by simp only [PyData.depth]; decide⟩
  · exact ⟨fun _ _ _ _ => rfl, _, .tup h1 (.cons i1 .nil) (by decide), by simp only [SmZ, SmZA]; decide, by simp only [wgz, wgzA]; decide, by simp only [PyData.depth, PyData.depthAll]; decide⟩
  · exact ⟨fun _ _ _ _ => rfl, _, .lst h2 .nil (by decide), by simp only [SmZ, SmZA], by simp only [wgz, wgzA]; decide, by simp only [PyData.depth, PyData.depthAll]; decide⟩
  · exact n _ (.inr (by decide)) (by decide +kernel)
def spRefM (K : PySem.W.Frag) (T : List (Addr × Str)) : Sp := fun vs H Q _ => ∃ (p : Addr) (j : Nat) (o : V) (sv : Sv), vs = [.ref p, .int j, o] ∧ SqT K H p sv.vals ∧ sv.ok ∧ j < 7 ∧ OddX H o ∧ Tabs T H ∧ ∀ H1, ExtN H H1 → Tabs T H1 → Q (.bl true) H1
end Mo
namespace Mo
open PySem L2 LamX
/-- a list of pairs that were made one by one -/
def Prs (H : Hp) (D : Addr) (w : Str) (vs : List V) (rs : List Addr) (i : Nat) : Prop := rs.length = i ∧ ∀ j v, j < i → vs[j]? = some v → ∃ r, rs[j]? = some r ∧ H r = some (.tup [.str w, v])
theorem Prs.nil {H : Hp} {D : Addr} {w : Str} {vs : List V} : Prs H D w vs [] 0 := ⟨rfl, fun j v h => absurd h (Nat.not_lt_zero _)⟩
theorem Prs.snoc {H H' : Hp} {D r : Addr} {w : Str} {vs : List V} {rs : List Addr} {i : Nat} {v : V} {xs : List V} {o : HO} (h : Prs H D w vs rs i) (s : Same H H') (hv : vs[i]? = some v) (e : H' r = some (.tup [.str w, v])) (eD : H' D = some (.lst xs)) : Prs (L2.upd H' D o) D w vs (rs ++ [r]) (i + 1) := by
  obtain ⟨hl, h⟩ := h
  refine ⟨by rw [List.length_append, hl]; rfl, fun j u hj hu => ?_⟩
  have ne : ∀ {p : Addr} {u : V}, H' p = some (.tup [.str w, u]) → p ≠ D := fun e z => by rw [z, eD] at e; cases e
  rcases Nat.lt_or_ge j i with lt | ge
  · obtain ⟨r', e1, e2⟩ := h j u lt hu
    have e3 := s _ _ e2
    exact ⟨r', by rw [List.getElem?_append_left (by rw [hl]; exact lt)]; exact e1, by rw [upd_ne (ne e3)]; exact e3⟩
  · obtain rfl : j = i := by omega
    rw [hv] at hu
    cases hu
    exact ⟨r, by rw [List.getElem?_append_right (by omega), hl, Nat.sub_self]; rfl, by rw [upd_ne (ne e)]; exact e⟩
end Mo
/-! methods called by keywords; signs of own objects with what is of a built-in kind; what several classes of errors tell -/
namespace L2
open PySem
def tMethK (C : Addr) (m : Str) (n : Nat) (sp : Sp) (gV : List V → List V → List V) (E : XK) (ta : TE) (tk : TA) : TE := fun σ H Q => ta σ H fun x H1 => ∃ a dx fs, x = .ref a ∧ H1 a = some (.ins C dx fs) ∧ List.lookup m fs = none ∧ tk σ H1 fun zs H2 => zs.length = n ∧ sp (gV [x] zs) H2 Q E
section
variable {X : Cx} {CX : CXT} {k : Nat} {f C : Addr} {fd : FuncData} {ps ks : List Str} {sp : Sp} {E : XK} {m : Str} {pos apos : Pos} {o : Expr} {kws : List Keyword} {ta : TE} {tk : TA} {pl : Sem Bool} {g : List Value → List Value → List Value} {gV : List V → List V → List V}
theorem pe_methK (he : PE X o ta) (c : Cls X.K C) (hm : Meth X.K C m f) (F : FnOk X.prog X.w X.K X.mg X.base CX k f fd ps sp) (hr : Room k X.A) (hb : KBn X.K fd ps 1 ks g gV) (hx : Passes CX X E) (hk : PK X kws tk)
    (hall : (backToKw pos (keywordEach kws X.env)).all (·.1.isSome) = true := by rfl) (hks : (backToKw pos (keywordEach kws X.env)).filterMap (·.1) = ks := by rfl)
    (hpl : ((backTo pos (starEach [] X.env)).any (·.1) || (backToKw pos (keywordEach kws X.env)).any (·.1.isNone)) = false := by rfl)
    (hev : eval ((o.Attribute m apos).Call [] kws pos) X.env = (do
          let ov ← eval o X.env
          standAt apos.atName
          let __x ← holding [ov] (getMethod ov m pl)
          match __x with
            | (f, first) => callWith pos f first (backTo pos (starEach [] X.env)) (backToKw pos (keywordEach kws X.env))) := by rfl) :
    PE X ((o.Attribute m apos).Call [] kws pos) (tMethK C m ks.length sp gV E ta tk) := by
  refine ⟨fun pins s σ H Q I h => ?_⟩
  refine PySem.W.methodCall_KW (pl := pl) (thn (he.run pins s σ H _ I h) fun ov s1 hv => ?_) hev
  obtain ⟨x, H1, I1, rx, a, dx, fs, rfl, ea, hl, q⟩ := hv
  cases rx
  refine getmeth_ok I1 ea c hm hl ?_
  refine PySem.W.callWith_KW0 (h₀ := X.base) I1.ok.mod.kin hm.kp hall (thn (hk.run pos pins s1 σ H1 _ I1 q) fun ws s2 ⟨zs, H2, I2, rz, hz, q2⟩ => ⟨I2.kIn, ?_⟩) hpl
  rw [hks]
  refine wpAny_call (codeAny_mono (F.run X.A X.stack s2 H2 ⟨[.ref a], ks.zip ws⟩ (g [.ref a] ws) (gV [.ref a] zs) Q E hr I2.env0 (hb.to s2 [.ref a] ws I2.kIn rfl (rz.length.symm.trans hz)) (hb.rel (.cons rfl .nil) rz) q2) fun o s3 hq => ?_)
  match o, hq with
  | .error e, hq => exact hx pins σ H2 s2 e s3 I2 hq
  | .ok (.ret u), hq => exact I2.after hq
theorem g_methK {n : Nat} {σ : St} {H : Hp} {Q : VK} (h : ta σ H fun x H1 => ∃ a dx fs, x = .ref a ∧ H1 a = some (.ins C dx fs) ∧ List.lookup m fs = none ∧ tk σ H1 fun zs H2 => zs.length = n ∧ sp (gV [x] zs) H2 Q E) : tMethK C m n sp gV E ta tk σ H Q := h
end
end L2
namespace PySem.W
theorem bin_KT {prog : Program} {w : World} {A : Around} {E : Value → Shared → Prop} {s : Shared} {K : Frag} {x C f : Addr} {ox : Obj} {od : Option Obj} {T : String} {op : Operator} {b : Value} {fo ro rc : Option Value} {Q : Value → Shared → Prop} (hK : K.In s.heap) (J : InstAt s.heap x ox C od) (hb : Looks (model prog w) s.heap (typeOf b) (.type T))
    (hc : selfFirst K C = true) (hs : findIn K (.ref C) (PySem.dunder op.info.2) = some (some (.ref f))) (hf : isFn K (.ref f) = true) (hr : findIn K (.ref C) (PySem.dunderR op.info.2) = some rc) (hr2 : rc = none ∨ ∃ g, rc = some (.ref g))
    (h1 : findIn K (.type T) (PySem.dunder op.info.2) = some fo) (h2 : findIn K (.type T) (PySem.dunderR op.info.2) = some ro) (hn : subIn K (.type T) (.ref C) = some false)
    (h : wpAny (model prog w) A (call (.ref f) [.ref x, b]) (CmpBack Q) E s) : wpAny (model prog w) A (binaryOp op (.ref x) b) Q E s := by
  obtain ⟨cd, rest, g1, g2⟩ := ksp_first hc
  have key := ksp_try hK J hs hf h
  unfold binaryOp
  have fin : wpAny (model prog w) A (binaryOp1 op.info.2 (.ref x) b) (fun r s' => ∃ v, r = some v ∧ Q v s') E s := by
    unfold binaryOp1
    have last : ∀ (k : Sem (Option Value)), wpAny (model prog w) A (do
        let r ← tryMethod (.ref x) (PySem.dunder op.info.2) b
        match r with
          | some v => pure (some v)
          | _ => k) (fun r s' => ∃ v, r = some v ∧ Q v s') E s := fun k => wpAny_bind (wpAny_mono key (fun r s' hv => by obtain ⟨v, rfl, hq⟩ := hv; exact wpAny_pure ⟨v, rfl, hq⟩) fun _ _ z => z)
    refine wpAny_bind (J.type.here ?_)
    refine wpAny_bind (hb.here ?_)
    refine wpAny_bind ((fills_K hK g1 g2 hs).here ?_)
    refine wpAny_ite ?_
    rw [if_neg (by simp)]
    refine wpAny_bind ((ksp_fillsT hK h1 h2).here ?_)
    generalize (fo.isSome && !isSeqSlot fo || ro.isSome && !isSeqSlot ro) = right
    cases right
    · refine wpAny_ite ?_
      rw [if_neg (by simp)]
      refine wpAny_ite ?_
      rw [if_neg (by simp)]
      refine wpAny_ite ?_
      rw [if_neg (by simp)]
      refine wpAny_bind (wpAny_pure ?_)
      refine wpAny_ite ?_
      rw [if_neg (by simp)]
      refine wpAny_ite ?_
      rw [if_pos rfl]
      exact last _
    · refine wpAny_ite ?_
      rw [if_pos (by simp)]
      refine wpAny_bind ((looks_subIn hK hn).here ?_)
      refine wpAny_ite ?_
      rw [if_neg (by simp)]
      refine wpAny_ite ?_
      rw [if_neg (by simp)]
      refine wpAny_ite ?_
      rw [if_pos (by simp)]
      refine wpAny_bind ((ksp_inPy hK hs hr hr2).here ?_)
      refine wpAny_ite ?_
      rw [if_pos rfl]
      refine wpAny_bind (wpAny_pure ?_)
      refine wpAny_ite ?_
      rw [if_pos rfl]
      refine wpAny_bind ((looks_findIn hK h2).here ?_)
      refine wpAny_ite ?_
      rw [if_pos rfl]
      exact last _
  refine wpAny_holding ?_
  refine wpAny_bind (wpAny_mono fin (fun r s' hv => ?_) fun _ _ z => z)
  obtain ⟨v, rfl, hq⟩ := hv
  exact wpAny_pure hq
end PySem.W
namespace L2
open PySem
/-- o + y and its like, where y is of a built-in kind or of the class -/
def rOwnB (K : PySem.W.Frag) (C : Addr) (sp : Sp) (E : XK) : R2 := fun x y H Q => ∃ a dx fs t, x = .ref a ∧ H a = some (.ins C dx fs) ∧ TyX K H y t ∧ ((∃ n ∈ BTys, t = .type n) ∨ t = .ref C) ∧ sp [.ref a, y] H Q E
section
variable {X : Cx} {CX : CXT} {k : Nat} {C f : Addr} {sp : Sp} {E : XK}
theorem op_binO {op : Operator} (F : FnR X.prog X.w X.K X.mg X.base CX k f sp) (hr : Room k X.A) (hx : Passes CX X E) (hc : PySem.W.selfFirst X.K C = true) (hs : PySem.W.findIn X.K (.ref C) (PySem.dunder op.info.2) = some (some (.ref f))) (hf : PySem.W.isFn X.K (.ref f) = true)
    (hR : PySem.W.findIn X.K (.ref C) (PySem.dunderR op.info.2) = some none) (hB : ∀ n ∈ BTys, ∃ fo ro, PySem.W.findIn X.K (.type n) (PySem.dunder op.info.2) = some fo ∧ PySem.W.findIn X.K (.type n) (PySem.dunderR op.info.2) = some ro) : OpR X (binaryOp op) (rOwnB X.K C sp E) := by
  intro pins s σ H x y u v Q I rx ry h
  obtain ⟨a, dx, fs, t, rfl, ea, ty, ht, h⟩ := h
  cases rx
  obtain ⟨ox, od, J⟩ := inst_of I ea
  obtain ⟨m, hF⟩ := I.fr
  obtain ⟨P, kx, hp, _⟩ := kit_of I ry ty
  have go := wpAny_mono (run_sub (vs := [.ref a, y]) F hr rfl hx I (.cons rfl (.cons ry .nil)) h) (fun _ _ z => ep_cmp z) fun _ _ z => z
  rcases ht with ⟨n, hn, rfl⟩ | rfl
  · obtain ⟨fo, ro, b1, b2⟩ := hB n hn
    have ns : PySem.W.subIn X.K (.type n) (.ref C) = some false := by
      have := nf_bt (K := X.K) (C := C) hn
      unfold PySem.W.notFirst at this
      rw [Bool.or_eq_true] at this
      rcases this with h | h
      · cases h
      · simpa using h
    exact PySem.W.bin_KT I.kIn J (kx.ty _ _ I.kIn hp) hc hs hf hR (.inl rfl) b1 b2 ns go
  · exact PySem.W.binop_K hF I.ok.mod.kin J (kx.ty _ _ I.kIn hp) hc hs hf go
theorem g_ownB {K : PySem.W.Frag} {a dx : Addr} {fs : List (Str × V)} {t : Value} {y : V} {H : Hp} {Q : VK} (ea : H a = some (.ins C dx fs)) (ty : TyX K H y t) (ht : (∃ n ∈ BTys, t = .type n) ∨ t = .ref C) (h : sp [.ref a, y] H Q E) : rOwnB K C sp E (.ref a) y H Q := ⟨a, dx, fs, t, rfl, ea, ty, ht, h⟩
theorem g_ownBA {K : PySem.W.Frag} {a dx : Addr} {fs : List (Str × V)} {y : V} {H : Hp} {Q : VK} (ea : H a = some (.ins C dx fs)) (ay : AnyO H y) (h : sp [.ref a, y] H Q E) : rOwnB K C sp E (.ref a) y H Q := by
  obtain ⟨n, hn, t⟩ := ay.tyx (K := K)
  exact ⟨a, dx, fs, _, rfl, ea, t, .inl ⟨n, hn, rfl⟩, h⟩
end
theorem bts_add {K : PySem.W.Frag} : ∀ n ∈ BTys, ∃ fo ro, PySem.W.findIn K (.type n) (PySem.dunder Operator.Add.info.2) = some fo ∧ PySem.W.findIn K (.type n) (PySem.dunderR Operator.Add.info.2) = some ro := by
  intro n h
  have h : n ∈ (["NoneType", "bool", "int", "str", "list", "tuple", "dict"] : List String) := h
  simp only [List.mem_cons, List.not_mem_nil, or_false] at h
  rcases h with rfl | rfl | rfl | rfl | rfl | rfl | rfl <;> exact ⟨_, _, rfl, rfl⟩
end L2
namespace Pw
open PySem L2 LamX
/-- what the def that calls the deed makes of it: a list of what it gives, or the word of the class of what it raises, with its field -/
def TTL (L : List (Addr × Str)) (f : Str) : (XK → Hp → VK → Prop) → Hp → VK → Prop := fun tl H Q =>
  ∀ H0, Same H H0 → ∀ (E' : XK) (Q' : VK),
    (∀ c ∈ L, ∀ dd v H', H' dd = some (.xd [(f, v)]) → (∀ r H'', Same H' H'' → H'' r = some (.tup [.str c.2, v]) → Q (.ref r) H'') → E' (.ref c.1) (some dd) H') →
    (∀ v H', (∀ r H'', Same H' H'' → H'' r = some (.lst [v]) → Q (.ref r) H'') → Q' v H') → tl E' H0 Q'
section
variable {L : List (Addr × Str)} {f : Str} {tl : XK → Hp → VK → Prop} {H : Hp} {Q : VK}
theorem ttl {c : Addr × Str} (hc : c ∈ L) (v : V) (h : ∀ H0, Same H H0 → ∀ (E' : XK) (Q' : VK), Rs H0 E' c.1 f v → tl E' H0 Q') (k : ∀ r H', Same H H' → H' r = some (.tup [.str c.2, v]) → Q (.ref r) H') : TTL L f tl H Q := by
  intro H0 s0 E' Q' q1 _
  exact h H0 s0 E' Q' fun H1 d s1 nd => q1 c hc d v _ upd_same fun r H2 s2 e2 => k r H2 ((s0.trans s1).trans ((same_new nd).trans s2)) e2
theorem ttl_val (h : ∀ H0, Same H H0 → ∀ (E' : XK) (Q' : VK), (∀ v H1, (∀ r H'', Same H1 H'' → H'' r = some (.lst [v]) → Q (.ref r) H'') → Q' v H1) → tl E' H0 Q') : TTL L f tl H Q := fun H0 s0 E' Q' _ q' => h H0 s0 E' Q' q'
end
end Pw
/-! moments later and earlier -/
namespace Mo
open PySem L2
/-- the moment of so many seconds in a zone, if there is one -/
def MomOf (n z : Int) (sv : Sv) : Prop := sv.ok ∧ sv.z = z ∧ sv.there = n
def spMomOf (C : Addr) : Sp := fun vs H Q _ => ∃ n z : Int, vs = [.int n, .int z] ∧ -899 ≤ z ∧ z ≤ 899 ∧
  ((∃ sv, MomOf n z sv ∧ ∀ a H1, H a = none → Same H H1 → At H1 C a sv → Q (.ref a) H1) ∨ ((n / 86400 < 1 ∨ 3652059 < n / 86400) ∧ ∀ H1, Same H H1 → Q .non H1))
end Mo
/-! every number of a day is that of one date -/
namespace Cal
theorem ex_no' (k : Nat) : (k : Int) + 1 ≤ 3652059 → ∃ y m d, ok y m d ∧ dayNo y m d = k + 1 := by
  generalize hN : (3652059 : Int) = N
  induction k with
  | zero => exact fun _ => ⟨1, 1, 1, by decide, by decide⟩
  | succ k ih =>
    intro h
    obtain ⟨y, m, d, o, e⟩ := ih (by omega)
    rcases next_ok o with ⟨_, e2⟩ | ⟨_, o2, e2⟩
    · rw [hN] at e2; omega
    · exact ⟨_, _, _, o2, by rw [e2, e]; omega⟩
theorem ex_no {n : Int} (h0 : 1 ≤ n) (h : n ≤ 3652059) : ∃ y m d, ok y m d ∧ dayNo y m d = n := by
  obtain ⟨y, m, d, o, e⟩ := ex_no' (n - 1).toNat (by omega)
  exact ⟨y, m, d, o, by rw [e]; omega⟩
theorem no_inj {y m d y' m' d' : Int} (o : ok y m d) (o' : ok y' m' d') (e : dayNo y m d = dayNo y' m' d') : y = y' ∧ m = m' ∧ d = d' := by
  obtain ⟨a, b, c, f, g, h⟩ := o
  obtain ⟨a', b', c', f', g', h'⟩ := o'
  have ey : y = y' := by rw [← year_dayNo a c f g h, e, year_dayNo a' c' f' g' h']
  subst ey
  have el : ∀ j : Int, 1 ≤ j → bef y ((j - 1).toNat + 1) = bef y (j - 1).toNat + len y j := fun j hj => by rw [bef]; rw [show 1 + (((j - 1).toNat : Nat) : Int) = j by omega]
  have em : m = m' := by
    rcases Int.lt_trichotomy m m' with lt | eq | gt
    · have := bef_mono (y := y) (j := (m - 1).toNat + 1) (k := (m' - 1).toNat) (by omega) (by omega)
      rw [el m c] at this
      unfold dayNo at e
      omega
    · exact eq
    · have := bef_mono (y := y) (j := (m' - 1).toNat + 1) (k := (m - 1).toNat) (by omega) (by omega)
      rw [el m' c'] at this
      unfold dayNo at e
      omega
  subst em
  refine ⟨rfl, rfl, ?_⟩
  unfold dayNo at e
  omega
end Cal
namespace Mo
open PySem L2
theorem there_bd {v : Sv} (ok : v.ok) : v.there / 86400 = v.no ∧ v.there % 86400 = v.h * 3600 + v.mi * 60 + v.s := by
  have := ok.h0; have := ok.h1; have := ok.i0; have := ok.i1; have := ok.s0; have := ok.s1
  unfold Sv.there
  omega
theorem there_parts {v : Sv} (ok : v.ok) : v.there % 86400 / 3600 = v.h ∧ v.there % 86400 / 60 % 60 = v.mi ∧ v.there % 86400 % 60 = v.s := by
  have := ok.h0; have := ok.h1; have := ok.i0; have := ok.i1; have := ok.s0; have := ok.s1
  rw [(there_bd ok).2]
  omega
theorem MomOf.inj {n z : Int} {u v : Sv} (a : MomOf n z u) (b : MomOf n z v) : u = v := by
  obtain ⟨o, ez, et⟩ := a
  obtain ⟨o', ez', et'⟩ := b
  have p := there_parts o
  have p' := there_parts o'
  have q := (there_bd o).1
  have q' := (there_bd o').1
  rw [et] at p q
  rw [et'] at p' q'
  have en : Cal.dayNo u.y u.m u.d = Cal.dayNo v.y v.m v.d := q.symm.trans q'
  obtain ⟨e1, e2, e3⟩ := Cal.no_inj o.dt o'.dt en
  obtain ⟨y, m, d, h, mi, s, z1⟩ := u
  obtain ⟨y', m', d', h', mi', s', z2⟩ := v
  simp only at *
  simp only [Sv.mk.injEq]
  exact ⟨e1, e2, e3, p.1.symm.trans p'.1, p.2.1.symm.trans p'.2.1, p.2.2.symm.trans p'.2.2, ez.trans ez'.symm⟩
/-- there is one, or the number lies outside -/
theorem mom_ex (n z : Int) (z0 : -899 ≤ z) (z1 : z ≤ 899) : (∃ v, MomOf n z v) ∨ (n / 86400 < 1 ∨ 3652059 < n / 86400) := by
  by_cases h : 1 ≤ n / 86400 ∧ n / 86400 ≤ 3652059
  · obtain ⟨y, m, d, o, e⟩ := Cal.ex_no h.1 h.2
    refine .inl ⟨⟨y, m, d, n % 86400 / 3600, n % 86400 / 60 % 60, n % 86400 % 60, z⟩, ok_mk o (by omega) (by omega) (by omega) (by omega) (by omega) (by omega) z0 z1, rfl, ?_⟩
    show Cal.dayNo y m d * 86400 + n % 86400 / 3600 * 3600 + n % 86400 / 60 % 60 * 60 + n % 86400 % 60 = n
    rw [e]
    omega
  · exact .inr (by omega)
theorem not_mom {n z : Int} {v : Sv} (a : MomOf n z v) (h : n / 86400 < 1 ∨ 3652059 < n / 86400) : False := by
  obtain ⟨o, _, e⟩ := a
  have q := (there_bd o).1
  rw [e] at q
  obtain ⟨h1, h2, h3, h4, h5, h6⟩ := o.dt
  have := Cal.dayNo_bound h1 h2 h3 h4 h5 h6
  have : v.no = Cal.dayNo v.y v.m v.d := rfl
  omega
theorem none_of {H H1 : Hp} {a : Addr} (s : Same H H1) (n : H1 a = none) : H a = none := by
  cases h : H a with
  | none => rfl
  | some o => rw [s _ _ h] at n; cases n
theorem mom_self {v : Sv} (ok : v.ok) : MomOf v.there v.z v := ⟨ok, rfl, rfl⟩
end Mo
/-! moments: earlier, in another zone, so much later -/
namespace Mo
open PySem L2
/-- what is to be a moment -/
def OwnO (H : Hp) (C : Addr) (v : V) : Prop := ∃ a sv, v = .ref a ∧ At H C a sv
def spNumO (C : Addr) : Sp := fun vs H Q _ => ∃ v, vs = [v] ∧ OwnO H C v ∧ Q (.bl false) H
/-- the moment of so many seconds, or nothing -/
def Goes (C Cn : Addr) (n z : Int) (g : V) (H : Hp) (Q : VK) (E : XK) : Prop :=
  (∃ sv, MomOf n z sv ∧ ∀ a H1, H a = none → Same H H1 → At H1 C a sv → Q (.ref a) H1) ∨ ((n / 86400 < 1 ∨ 3652059 < n / 86400) ∧ Pw.Rs H E Cn "given" g)
def spBefore (C Cc : Addr) : Sp := fun vs H Q E => ∃ a u y, vs = [.ref a, y] ∧ At H C a u ∧ u.ok ∧ ((∃ b v, y = .ref b ∧ At H C b v ∧ v.ok ∧ Q (.bl (decide (u.inst < v.inst))) H) ∨ (AnyO H y ∧ Pw.Rs H E Cc "given" y))
def spAtZone (C Cd Cn : Addr) : Sp := fun vs H Q E => ∃ a u y, vs = [.ref a, y] ∧ At H C a u ∧ u.ok ∧ ((Mk.btw y (-899) 899 = false ∧ AnyO H y ∧ Pw.Rs H E Cd "given" y) ∨ ∃ z : Int, y = .int z ∧ -899 ≤ z ∧ z ≤ 899 ∧ Goes C Cn (u.inst + z * 60) z y H Q E)
def spAdd (C Cn : Addr) : Sp := fun vs H Q E => ∃ a u y, vs = [.ref a, y] ∧ At H C a u ∧ u.ok ∧ ((OwnO H C y ∧ Pw.Rs H E Cn "given" y) ∨ ((isIntV y && !isBlV y) = false ∧ AnyO H y ∧ Pw.Rs H E Cn "given" y) ∨ ∃ n : Int, y = .int n ∧ Goes C Cn (u.there + n) u.z y H Q E)
def spSub (C : Addr) : Sp := fun vs H Q _ => ∃ a u b v, vs = [.ref a, .ref b] ∧ At H C a u ∧ u.ok ∧ At H C b v ∧ v.ok ∧ Q (.int (u.inst - v.inst)) H
section
variable {C Cn : Addr} {n z : Int} {g : V} {H H' : Hp} {Q : VK} {E : XK}
theorem Goes.to (h : Goes C Cn n z g H Q E) (s : Same H H') : Goes C Cn n z g H' Q E := by
  rcases h with ⟨sv, m, q⟩ | ⟨o, k⟩
  · exact .inl ⟨sv, m, fun a H1 na s1 a1 => q a H1 (none_of s na) (s.trans s1) a1⟩
  · exact .inr ⟨o, k.to s⟩
end
end Mo
/-! the next drawn number below any bound; the date of a number, found by going from month to month -/
namespace Dr
open PySem L2
def spNextB : Sp := fun vs H Q _ => ∃ (d l : Addr) (m : Nat) (b : Int), vs = [.ref d, .int b] ∧ Draw H d l m ∧ m < 1000000 ∧ 0 < b ∧ b < 1000000000000 ∧
  ∀ (r : Int) (H' : Hp), 0 ≤ r → r < b → Draw H' d l (m + 1) → Kp d H H' → (∀ p, H p = none → H' p = none) → Q (.int r) H'
theorem divw {i b : Int} (h0 : 0 < b) (h : b < 1000000000000) : CDivW i b := by
  refine ⟨h0, ?_⟩
  have : b.natAbs < 2 ^ 9000 := Nat.lt_of_lt_of_le (show b.natAbs < 2 ^ 40 by omega) (Nat.pow_le_pow_right (by decide) (by decide))
  exact (Nat.log2_lt (by omega)).mpr this
end Dr
namespace L2
open PySem
theorem n_nextB {H : Hp} {d l : Addr} {m : Nat} {b : Int} {Q : VK} {E : XK} (D : Dr.Draw H d l m) (hm : m < 1000000) (h0 : 0 < b) (h1 : b < 1000000000000) (h : ∀ (r : Int) (H' : Hp), 0 ≤ r → r < b → Dr.Draw H' d l (m + 1) → Dr.Kp d H H' → Q (.int r) H') : Dr.spNextB [.ref d, .int b] H Q E :=
  ⟨d, l, m, b, rfl, D, hm, h0, h1, fun r H' r0 r1 D' K _ => h r H' r0 r1 D' K⟩
end L2
namespace Cal
open PySem L2
def spLNoW : Sp := fun vs H Q _ => ∃ y m d : Int, vs = [.int y, .int m, .int d] ∧ 1 ≤ y ∧ y ≤ 100000 ∧ 1 ≤ m ∧ m ≤ 12 ∧ ∀ H', Same H H' → Q (.int (dayNo y m d)) H'
def base (y m : Int) : Int := first y + bef y (m - 1).toNat
def nx (y m : Int) : Int × Int := if m < 12 then (y, m + 1) else (y + 1, 1)
theorem base_nx {y m : Int} (h1 : 1 ≤ m) (h2 : m ≤ 12) : base (nx y m).1 (nx y m).2 = base y m + len y m ∧ 1 ≤ (nx y m).2 ∧ (nx y m).2 ≤ 12 ∧ y ≤ (nx y m).1 := by
  have el : bef y ((m - 1).toNat + 1) = bef y (m - 1).toNat + len y m := by rw [bef]; rw [show 1 + (((m - 1).toNat : Nat) : Int) = m by omega]
  unfold nx base
  by_cases h : m < 12
  · rw [if_pos h]
    refine ⟨?_, by show 1 ≤ m + 1; omega, by show m + 1 ≤ 12; omega, Int.le_refl _⟩
    show first y + bef y (m + 1 - 1).toNat = _
    rw [show (m + 1 - 1).toNat = (m - 1).toNat + 1 by omega, el]
    omega
  · rw [if_neg h]
    obtain rfl : m = 12 := by omega
    refine ⟨?_, Int.le_refl 1, (by decide : (1 : Int) ≤ 12), by show y ≤ y + 1; omega⟩
    have b12 : bef y 12 = bef y 11 + len y 12 := el
    rw [bef12] at b12
    show first (y + 1) + 0 = first y + bef y 11 + len y 12
    rw [first_succ]
    omega
theorem base_past {y m : Int} (h : 9999 < y) (h1 : 1 ≤ m) (h2 : m ≤ 12) : 3652060 ≤ base y m := by
  have b := first_mono (y := 10000) (z := y) (by decide) (by omega)
  have : first 10000 = 3652060 := by decide
  have := bef_nonneg (y := y) (k := (m - 1).toNat) (by omega)
  unfold base
  omega
/-- what the law says of a number of a day -/
def spLDateOf : Sp := fun vs H Q _ => ∃ c : Int, vs = [.int c] ∧ c ≤ 5000000 ∧
  ((∃ y m d, ok y m d ∧ dayNo y m d = c ∧ ∀ p H1, H p = none → Same H H1 → H1 p = some (.tup [.int y, .int m, .int d]) → Q (.ref p) H1) ∨ ((c < 1 ∨ 3652059 < c) ∧ ∀ H1, Same H H1 → Q .non H1))
/-- the year to begin with -/
def y0 (c : Int) : Int := if 1 < c / 366 - 1 then c / 366 - 1 else 1
theorem y0_ok {c : Int} (h : 1 ≤ c) (h2 : c ≤ 5000000) : 1 ≤ y0 c ∧ y0 c ≤ 100000 ∧ first (y0 c) ≤ c ∧ (9999 < y0 c → 31 ≤ c - first (y0 c)) := by
  unfold y0 first
  split <;> omega
end Cal
/-! what the law finds of a moment so much later -/
namespace Mo
open PySem L2
def spLater (K : PySem.W.Frag) : Sp := fun vs H Q _ => ∃ (p : Addr) (sv : Sv) (more z : Int), vs = [.ref p, .int more, .int z] ∧ SqT K H p sv.vals ∧ sv.ok ∧ -899 ≤ z ∧ z ≤ 899 ∧
  ((∃ u, MomOf (sv.there + more + 60 * (z - sv.z)) z u ∧ ∀ r H1, Same H H1 → SqT K H1 r u.vals → Q (.ref r) H1) ∨
    (((sv.there + more + 60 * (z - sv.z)) / 86400 < 1 ∨ 3652059 < (sv.there + more + 60 * (z - sv.z)) / 86400) ∧ ∀ H1, Same H H1 → Q .non H1))
def spShown (K : PySem.W.Frag) (C : Addr) : Sp := fun vs H Q _ => ∃ p, vs = [.ref p] ∧
  ((∃ a u, H p = some (.lst [.ref a]) ∧ At H C a u ∧ u.ok ∧ ∀ r t H1, H r = none → Same H H1 → H1 r = some (.lst [.ref t]) → H1 t = some (.tup u.vals) → Q (.ref r) H1) ∨
    ∃ xs, H p = some (.tup xs) ∧ Q (.ref p) H)
end Mo
/-! what the law asks of moments so much later -/
namespace Mo
open PySem L2 LamX
def spMore (K : PySem.W.Frag) (T : List (Addr × Str)) : Sp := fun vs H Q _ => ∃ (p : Addr) (sv : Sv) (more : Int), vs = [.ref p, .int more] ∧ SqT K H p sv.vals ∧ sv.ok ∧ more.natAbs < 10 ^ 12 ∧ Tabs T H ∧ ∀ H1, ExtN H H1 → Tabs T H1 → Q (.bl true) H1
end Mo
namespace L2
open PySem
section
variable {X : Cx} {CX : CXT} {k : Nat} {C f : Addr} {sp : Sp} {E : XK} {K : PySem.W.Frag}
theorem op_binOK {op : Operator} (h : X.K = K) (F : FnR X.prog X.w X.K X.mg X.base CX k f sp) (hr : Room k X.A) (hx : Passes CX X E) (hc : PySem.W.selfFirst X.K C = true) (hs : PySem.W.findIn X.K (.ref C) (PySem.dunder op.info.2) = some (some (.ref f))) (hf : PySem.W.isFn X.K (.ref f) = true)
    (hR : PySem.W.findIn X.K (.ref C) (PySem.dunderR op.info.2) = some none) (hB : ∀ n ∈ BTys, ∃ fo ro, PySem.W.findIn X.K (.type n) (PySem.dunder op.info.2) = some fo ∧ PySem.W.findIn X.K (.type n) (PySem.dunderR op.info.2) = some ro) : OpR X (binaryOp op) (rOwnB K C sp E) := by
  have := op_binO F hr hx hc hs hf hR hB
  rw [h] at this
  exact this
end
end L2
namespace Mo
open PySem L2 LamX
theorem sqt_ext {K : PySem.W.Frag} {H H' : Hp} {a : Addr} {xs : List V} (e : ExtN H H') (h : SqT K H a xs) : SqT K H' a xs := by
  rcases h with (h | ⟨o, h⟩) | h
  · exact .inl (.inl (e _ _ h (by intro _ z; cases z)))
  · exact .inl (.inr ⟨o, e _ _ h (by intro _ z; cases z)⟩)
  · exact .inr h
theorem sd7 {v : Sv} (ok : v.ok) : Pw.Sd (.tuple (In.ds v.ints)) := by
  refine ⟨?_, ?_, ?_⟩
  · simp only [SmZ]
    exact In.smzA ok.sm
  · rw [wgz]
    have := @In.wgA v.ints
    have e : v.ints.length = 7 := rfl
    omega
  · rw [PyData.depth]
    have := In.dep v.ints
    omega
theorem shz1 {v : Sv} (ok : v.ok) : showsZ (.list [.tuple (In.ds v.ints)]) := Pw.shz_ps (by simp only [List.mem_cons, List.not_mem_nil, or_false]; intro x hx; rw [hx]; exact sd7 ok) (show 1 ≤ 12 by decide)
end Mo
namespace Mo
open PySem L2 LamX
theorem shz_bls (a b : Bool) : showsZ (.list [.bool a, .bool b]) := by
  refine showsZ_of ?_ ?_ ?_
  · simp only [SmZ, SmZA, and_self]
  · simp only [wgz, wgzA]
    decide
  · simp only [PyData.depth, PyData.depthAll]
    decide
theorem dz_bls {K : PySem.W.Frag} {H : Hp} (a b : Bool) : DzAll K H [.bl a, .bl b] [.bool a, .bool b] := .cons (.of (.bl _) rfl) (.cons (.of (.bl _) rfl) .nil)
theorem inst_more {n z : Int} {u : Sv} (m : MomOf n z u) : u.inst = n - z * 60 := by
  unfold Sv.inst
  rw [m.2.1, m.2.2]
theorem sm_more {m : Int} (h : m.natAbs < 10 ^ 12) : In.Sm [m, 0 - m, 0] := by
  intro i hi
  simp only [List.mem_cons, List.not_mem_nil, or_false] at hi
  have : (0 : Nat) < 10 ^ 12 := by decide
  rcases hi with rfl | rfl | rfl <;> omega
end Mo
namespace Mo
open PySem L2 LamX
theorem sd_num {m : Int} (h : m.natAbs < 10 ^ 39) : SmZ (.int m) ∧ wgz (.int m) ≤ 1000 ∧ (PyData.int m).depth ≤ 1 := ⟨by simp only [SmZ]; exact h, by simp only [wgz]; decide, by simp only [PyData.depth]; decide⟩
theorem shz_num {m : Int} (h : m.natAbs < 10 ^ 39) : showsZ (.tuple [.str "number", .int m]) := by
  obtain ⟨a, b, c⟩ := Pw.sd_pair (w := "number") (sd_num h)
  exact showsZ_of a (by omega) (by omega)
theorem dz_num {K : PySem.W.Frag} {H : Hp} (m : Int) : DzAll K H [.str "number", .int m] [.str "number", .int m] := .cons (.of (.str _) (by simp only [PyData.hasDict])) (.cons (.of (.int _) rfl) .nil)
end Mo
/-! what the law asks of moments in another zone -/
namespace Mo
open PySem L2 LamX
def spZoneR (K : PySem.W.Frag) (T : List (Addr × Str)) : Sp := fun vs H Q _ => ∃ (p : Addr) (sv : Sv) (z : Int), vs = [.ref p, .int z] ∧ SqT K H p sv.vals ∧ sv.ok ∧ -899 ≤ z ∧ z ≤ 899 ∧ Tabs T H ∧ ∀ H1, ExtN H H1 → Tabs T H1 → Q (.bl true) H1
theorem sd7l {v : Sv} (ok : v.ok) : Pw.Sd (.list [.tuple (In.ds v.ints)]) := by
  obtain ⟨a, b, c⟩ := Pw.sd_all (ds := [.tuple (In.ds v.ints)]) (by simp only [List.mem_cons, List.not_mem_nil, or_false]; intro x hx; rw [hx]; exact sd7 ok)
  have dp := In.dep v.ints
  have wg := @In.wgA v.ints
  have e : v.ints.length = 7 := rfl
  refine ⟨by simp only [SmZ]; exact a, ?_, ?_⟩
  · simp only [wgz, wgzA]
    omega
  · simp only [PyData.depth, PyData.depthAll]
    omega
theorem shz2 {v : Sv} (ok : v.ok) : showsZ (.list [.list [.tuple (In.ds v.ints)], .list [.tuple (In.ds v.ints)]]) := Pw.shz_ps (by simp only [List.mem_cons, List.not_mem_nil, or_false]; intro x hx; rcases hx with rfl | rfl <;> exact sd7l ok) (show 2 ≤ 12 by decide)
theorem dz7l {K : PySem.W.Frag} {H : Hp} {r t : Addr} {v : Sv} (e : H r = some (.lst [.ref t])) (h : SqT K H t v.vals) : Dz K H (.ref r) (.list [.tuple (In.ds v.ints)]) := .lst (SqL.of e) (.cons (.tup h (In.dz v.ints)) .nil)
theorem zone_eq {sv u : Sv} {z : Int} (ok : sv.ok) (mo : MomOf (sv.there + 0 + 60 * (z - sv.z)) z u) : decide (u = sv) = decide (z = sv.z) := decide_eq_decide.mpr ⟨fun e => by rw [← e]; exact mo.2.1.symm, fun e => by
  refine mo.inj ?_
  subst e
  refine ⟨ok, rfl, ?_⟩
  omega⟩
end Mo
namespace Mo
open PySem L2 LamX
theorem shows_bl (b : Bool) : shows (.bool b) := by cases b <;> (unfold shows; decide +kernel)
theorem there_zone {sv : Sv} {z : Int} : sv.there + 0 + 60 * (z - sv.z) = sv.inst + z * 60 := by
  show _ = sv.there - sv.z * 60 + z * 60
  omega
theorem inst_zone {sv u : Sv} {z : Int} (mo : MomOf (sv.there + 0 + 60 * (z - sv.z)) z u) : u.inst = sv.inst := by
  have e1 := mo.2.2
  have e2 := mo.2.1
  show u.there - u.z * 60 = sv.there - sv.z * 60
  rw [e1, e2]
  omega
theorem sdz {m : Int} (h : m.natAbs < 10 ^ 39) : showsZ (.list [.tuple [.str "number", .int m], .tuple [.str "number", .int m]]) := Pw.shz_ps (by simp only [List.mem_cons, List.not_mem_nil, or_false]; intro x hx; rcases hx with rfl | rfl <;> exact Pw.sd_pair (sd_num h)) (show 2 ≤ 12 by decide)
end Mo
/-! a list that grows while defs are made and called; what is no number of seconds, no zone and no moment -/
namespace Pw
open PySem L2 LamX
structure TL (T : List (Addr × Str)) (Hb : Hp) (p : Addr) (vs : List V) (H : Hp) : Prop where
  np : Hb p = none
  x : ExtN Hb H
  tb : Tabs T H
  e : H p = some (.lst vs)
section
variable {T : List (Addr × Str)} {Hb H H' : Hp} {p : Addr} {vs : List V} {v : V} {Q : VK}
theorem TL.new (t : Tabs T Hb) (np : Hb p = none) (s : Same Hb H) (e : H p = some (.lst vs)) : TL T Hb p vs H := ⟨np, ExtN.same s, t.same s, e⟩
theorem TL.ty {K : PySem.W.Frag} (t : TL T Hb p vs H) : tyV K "list" (.ref p) H := ty_list t.e
theorem TL.app (t : TL T Hb p vs H) (x : ExtN H H') (tb : Tabs T H') (hl : vs.length < 1000) (q : ∀ H2, (∀ b u, (∀ xs, u ≠ .lst xs) → H' b = some u → H2 b = some u) → TL T Hb p (vs ++ [v]) H2 → Q .non H2) : rAppend (.ref p) [v] H' Q := by
  obtain ⟨np, x0, _, e⟩ := t
  have e' := x.ap e
  refine g_append e' (Nat.lt_of_lt_of_le hl (by decide)) (q _ (fun b u nu eb => ?_) ⟨np, (x0.trans x).mut np, tabs_updL tb e', upd_same⟩)
  rw [upd_ne (fun z => by rw [z, e'] at eb; exact nu _ (Option.some.inj eb).symm)]
  exact eb
end
end Pw
namespace Mo
open PySem L2 LamX
def OddN (H : Hp) (v : V) : Prop := OddX H v ∧ (isIntV v && !isBlV v) = false
def oddsN (t l d : Addr) : List V := [.non, .bl true, .str "1", .ref t, .ref l, .ref d, .bl false, .str "60"]
theorem oddsN_ok {H : Hp} {t l d : Addr} (h1 : H t = some (.tup [.int 1])) (h2 : H l = some (.lst [.int 1])) (h3 : H d = some (.dK [])) : ∀ v ∈ oddsN t l d, OddN H v := by
  intro v hv
  have hv : v ∈ ([.non, .bl true, .str "1", .ref t, .ref l, .ref d, .bl false, .str "60"] : List V) := hv
  simp only [List.mem_cons, List.not_mem_nil, or_false] at hv
  have i1 : L2.Sc (.int 1) (.int 1) := .int 1 (by decide)
  rcases hv with rfl | rfl | rfl | rfl | rfl | rfl | rfl | rfl
  · exact ⟨⟨fun _ _ _ _ => rfl, _, .sc .non, by simp only [SmZ], by simp only [wgz]; decide, by simp only [PyData.depth]; decide⟩, rfl⟩
  · exact ⟨⟨fun _ _ _ _ => rfl, _, .sc (.bl true), by simp only [SmZ], by simp only [wgz]; decide, by simp only [PyData.depth]; decide⟩, rfl⟩
  · exact ⟨⟨fun _ _ _ _ => rfl, _, .sc (.str "1" (by decide +kernel) (by decide +kernel)), by simp only [SmZ]; decide +kernel, by simp only [wgz]; decide +kernel, by simp only [PyData.depth]; decide⟩, rfl⟩
  · exact ⟨⟨fun _ _ _ _ => rfl, _, .tup h1 (.cons i1 .nil) (by decide), by simp only [SmZ, SmZA]; decide, by simp only [wgz, wgzA]; decide, by simp only [PyData.depth, PyData.depthAll]; decide⟩, rfl⟩
  · exact ⟨⟨fun _ _ _ _ => rfl, _, .lst h2 (.cons i1 .nil) (by decide), by simp only [SmZ, SmZA]; decide, by simp only [wgz, wgzA]; decide, by simp only [PyData.depth, PyData.depthAll]; decide⟩, rfl⟩
  · exact ⟨⟨fun _ _ _ _ => rfl, _, .dic h3, by simp only [SmZ], by simp only [wgz]; decide, by simp only [PyData.depth, PyData.depthKv]; decide⟩, rfl⟩
  · exact ⟨⟨fun _ _ _ _ => rfl, _, .sc (.bl false), by simp only [SmZ], by simp only [wgz]; decide, by simp only [PyData.depth]; decide⟩, rfl⟩
  · exact ⟨⟨fun _ _ _ _ => rfl, _, .sc (.str "60" (by decide +kernel) (by decide +kernel)), by simp only [SmZ]; decide +kernel, by simp only [wgz]; decide +kernel, by simp only [PyData.depth]; decide⟩, rfl⟩
def spOddR (K : PySem.W.Frag) (T : List (Addr × Str)) : Sp := fun vs H Q _ => ∃ (d l : Addr) (k : Nat) (p : Addr) (sv : Sv), vs = [.ref d, .ref p] ∧ Dr.Draw H d l k ∧ k < 800000 ∧ SqT K H p sv.vals ∧ sv.ok ∧ Tabs T H ∧ ∀ H1, Dr.Draw H1 d l (k + 1) → Tabs T H1 → Q (.bl true) H1
end Mo
namespace Mo
open PySem L2 LamX
theorem shz5 {dy : PyData} (sy : SmZ dy ∧ wgz dy ≤ 1000 ∧ dy.depth ≤ 1) : showsZ (.list [.tuple [.str "number", dy], .tuple [.str "date", dy], .tuple [.str "content", dy], .str "number", .tuple [.str "date", .int 900]]) := by
  refine Pw.shz_ps ?_ (show 5 ≤ 12 by decide)
  simp only [List.mem_cons, List.not_mem_nil, or_false]
  intro x hx
  rcases hx with rfl | rfl | rfl | rfl | rfl
  · exact Pw.sd_pair sy
  · exact Pw.sd_pair sy
  · exact Pw.sd_pair sy
  · exact ⟨by simp only [SmZ]; decide +kernel, by simp only [wgz]; decide +kernel, by simp only [PyData.depth]; decide⟩
  · exact Pw.sd_pair (sd_num (by decide +kernel))
end Mo
namespace Mo
open PySem L2 LamX
theorem shz_due : showsZ (.list [.tuple [.str "number", .int (0 - 1)], .tuple [.str "number", .int 1], .tuple [.str "number", .int (10 ^ Int.toNat 40)]]) := by
  refine ⟨by decide +kernel, by decide +kernel, ?_⟩
  rw [sizeLine_eq]
  decide +kernel
end Mo
/-! {e:04d} and its like in an f-string -/
namespace L2
open PySem PySem.Spec PyProof.Rows
def tFmtD (sp : Str) (te : TE) : TE := fun σ H Q => te σ H fun x H1 => ∃ i : Int, x = .int i ∧ i.natAbs < 10 ^ 18 ∧ (IntSpecFactsW sp (intSpecWidthOf sp) i → Q (.str (intSpecTextOf sp i)) H1)
theorem noDigits_of {K : PySem.W.Frag} {h : Heap} (X : K.In h) (o : PySem.W.nsOkIn K cStatics = true) (e : PySem.W.nsIn K cStatics "sys.int_max_str_digits" = some none) : h.NoDigits := ⟨_, .of_isNs (PySem.W.isNs_of_in X o), PySem.W.ns_none_of X (.of_isNs (PySem.W.isNs_of_in X o)) e⟩
theorem pe_fmtD {X : Cx} {e : Expr} {te : TE} {pos p2 p3 : Pos} {j : Nat} {sp : Str} (he : PE X e te) (hok : intSpecOk sp = true) (hl : sp.length ≤ 100) (o : PySem.W.nsOkIn X.K cStatics = true) (no : PySem.W.nsIn X.K cStatics "sys.int_max_str_digits" = some none) : PE X (.FormattedValue e (-1) (some (.JoinedStr [.Constant (.str sp) j p2] p3)) pos) (tFmtD sp te) := by
  refine ⟨fun pins s σ H Q I h => wpAny_FormattedValue_spec (thn (he.run pins s σ H _ I h) fun v s1 hv => ?_)⟩
  obtain ⟨x, H1, I1, r1, i, rfl, hi, q⟩ := hv
  obtain ⟨t, rfl⟩ := r1
  have hp : PE X (.JoinedStr [.Constant (.str sp) j p2] p3) (tC (.str sp)) := pe_joined1 pe_str
  refine thn (hp.run pins s1 σ H1 (fun z H2 => z = .str sp ∧ H2 = H1) I1 ⟨rfl, rfl⟩) fun r s2 hr => ?_
  obtain ⟨z, H2, I2, r2, ez, eH⟩ := hr
  subst ez eH
  obtain ⟨t2, rfl⟩ := r2
  refine ⟨_, _, rfl, ?_⟩
  refine formatField_int_specOf ?_ (Nat.lt_of_lt_of_le hi (Nat.pow_le_pow_right (by decide) (by decide))) hok (fun W hW F => ?_) (Nat.le_trans hl (by decide))
  · exact noDigits_of I2.kIn o no
  · subst hW
    exact ⟨.str _, _, (I2.tok _).tok _, ⟨_, rfl⟩, q F⟩
theorem g_fmtD {sp : Str} {te : TE} {σ : St} {H : Hp} {Q : VK} (h : te σ H fun x H1 => ∃ i : Int, x = .int i ∧ i.natAbs < 10 ^ 18 ∧ (IntSpecFactsW sp (intSpecWidthOf sp) i → Q (.str (intSpecTextOf sp i)) H1)) : tFmtD sp te σ H Q := h
theorem fmtD_len {sp : Str} {i : Int} (F : IntSpecFactsW sp (intSpecWidthOf sp) i) (h0 : 0 ≤ i) (h : i.natAbs < 10 ^ 18) (hw : intSpecWidthOf sp ≤ 18) : (intSpecTextOf sp i).length ≤ 18 := by
  rw [F.lenNonneg h0]
  have := digits10_le (k := 18) (by decide) h
  omega
theorem g_js {t : TE} {ts : List TE} {acc : Str} {σ : St} {H : Hp} {Q : Str → Hp → Prop} (h : t σ H fun x H1 => ∃ y : Str, x = .str y ∧ (acc ++ y).length ≤ sizeLine ∧ tJs ts (acc ++ y) σ H1 Q) : tJs (t :: ts) acc σ H Q := h
theorem g_jsN {acc : Str} {σ : St} {H : Hp} {Q : Str → Hp → Prop} (h : Q acc H) : tJs [] acc σ H Q := h
theorem g_fmt {te : TE} {σ : St} {H : Hp} {Q : VK} (h : te σ H fun x H1 => (∃ y : Str, x = .str y ∧ y.length ≤ sizeLine ∧ Q (.str y) H1) ∨ ∃ i : Int, x = .int i ∧ i.natAbs.log2 < 1920 ∧ Q (.str (toString i)) H1) : tFmt te σ H Q := h
theorem len_js {a b : Str} {m n : Nat} (ha : a.length ≤ m) (hb : b.length ≤ n) (h : m + n ≤ 1000) : (a ++ b).length ≤ sizeLine ∧ (a ++ b).length ≤ m + n := by
  have e : (a ++ b).length = a.length + b.length := Str.length_append a b
  have : (1000 : Nat) ≤ sizeLine := by decide
  omega
end L2
/-! the pieces with which a moment is written -/
namespace Mo
open PySem L2 LamX
def wdays : List Str := ["Mon", "Tue", "Wed", "Thu", "Fri", "Sat", "Sun"]
def months : List Str := ["Jan", "Feb", "Mar", "Apr", "May", "Jun", "Jul", "Aug", "Sep", "Oct", "Nov", "Dec"]
def spPieces (C Cc : Addr) : Sp := fun vs H Q E => ∃ v, vs = [v] ∧
  ((v = .non ∧ ∀ p H1, H p = none → Same H H1 → H1 p = some (.tup []) → Q (.ref p) H1) ∨
   (∃ a u, v = .ref a ∧ At H C a u ∧ u.ok ∧ ∀ p H1, H p = none → Same H H1 → (∃ ss : List Str, H1 p = some (.tup (ss.map V.str)) ∧ ss.length = 6 ∧ ∀ y ∈ ss, y.length ≤ 200) → Q (.ref p) H1) ∨
   (v ≠ .non ∧ AnyO H v ∧ Pw.Rs H E Cc "given" v))
end Mo
namespace L2
open PySem
def rAbs : List V → Hp → VK → Prop := fun xs H Q => ∃ i, xs = [.int i] ∧ Q (.int (if i < 0 then -i else i)) H
theorem call_absI {X : Cx} : CallR X (.builtin "abs") rAbs := call_abs
theorem g_abs {i : Int} {H : Hp} {Q : VK} (q : Q (.int (if i < 0 then -i else i)) H) : rAbs [.int i] H Q := ⟨i, rfl, q⟩
end L2
namespace Mo
open PySem L2 LamX
theorem sz1000 : (1000 : Nat) ≤ sizeLine := by decide
theorem wd_at {w : Int} (h0 : 0 ≤ w) (h1 : w < 7) : atI [V.str "Mon", V.str "Tue", V.str "Wed", V.str "Thu", V.str "Fri", V.str "Sat", V.str "Sun"] w = some (.str (wdays.getD w.toNat "")) ∧ (wdays.getD w.toNat "").length = 3 := by
  obtain ⟨j, rfl⟩ : ∃ j : Nat, w = (j : Int) := ⟨w.toNat, by omega⟩
  have hj : j < 7 := by omega
  clear h0 h1
  match j, hj with
  | 0, _ | 1, _ | 2, _ | 3, _ | 4, _ | 5, _ | 6, _ => exact ⟨rfl, rfl⟩
theorem mo_at {m : Int} (h0 : 1 ≤ m) (h1 : m ≤ 12) : atI [V.str "Jan", V.str "Feb", V.str "Mar", V.str "Apr", V.str "May", V.str "Jun", V.str "Jul", V.str "Aug", V.str "Sep", V.str "Oct", V.str "Nov", V.str "Dec"] (m - 1) = some (.str (months.getD (m - 1).toNat "")) ∧ (months.getD (m - 1).toNat "").length = 3 := by
  obtain ⟨j, rfl⟩ : ∃ j : Nat, m = (j : Int) + 1 := ⟨(m - 1).toNat, by omega⟩
  have hj : j < 12 := by omega
  rw [show (j : Int) + 1 - 1 = (j : Int) by omega]
  clear h0 h1
  match j, hj with
  | 0, _ | 1, _ | 2, _ | 3, _ | 4, _ | 5, _ | 6, _ | 7, _ | 8, _ | 9, _ | 10, _ | 11, _ => exact ⟨rfl, rfl⟩
end Mo
namespace Mo
open PySem L2 LamX
def spConsO (C : Addr) : Sp := fun vs H Q _ => ∃ v m, vs = [v, .str m] ∧ OwnO H C v ∧ Q (.bl false) H
def spReadB (C Cb : Addr) : Sp := fun vs H Q E => ∃ v, vs = [v] ∧ ((OwnO H C v ∧ Pw.Rs H E Cb "given" v) ∨ (AnyO H v ∧ Mk.isBody v = false ∧ Pw.Rs H E Cb "given" v))
end Mo
/-! one sign for what may be told in two ways -/
namespace L2
open PySem
theorem op_either {X : Cx} {op : Value → Value → Sem Value} {r1 r2 : R2} (h1 : OpR X op r1) (h2 : OpR X op r2) : OpR X op (fun x y H Q => r1 x y H Q ∨ r2 x y H Q) := by
  intro pins s σ H x y u v Q I rx ry h
  rcases h with h | h
  · exact h1 pins s σ H x y u v Q I rx ry h
  · exact h2 pins s σ H x y u v Q I rx ry h
theorem op_eqDK {X : Cx} {K : PySem.W.Frag} (h : X.K = K) (hu : X.A.units + 64 < cLine) : OpR X (compareOp .Eq) (rEqD K) := by
  have := op_eqD (X := X) hu
  rw [h] at this
  exact this
end L2
/-! what equals itself -/
namespace L2
open PySem PySem.Spec PyProof.Rows
def flatR (v : V) : Prop := flatB v = true ∨ ∃ a, v = .ref a
def DSelf : Eqv := fun x y _ => x = y ∧ flatR x
theorem mon_self : Mon DSelf := fun _ _ _ _ _ d => d
theorem eqG_self {X : Cx} {n : Nat} : EqG X n DSelf := by
  intro A pins s σ H x y u v sb I rx ry d
  obtain ⟨rfl, h⟩ := d
  rcases h with h | ⟨a, rfl⟩
  · exact eqAt_same rx ry h X.prog X.w X.xe _ ⟨rfl, H, I, Ext.rfl'⟩
  · cases rx
    cases ry
    exact SeqAt.EqAt.same (A := A) (s := s) (.ref a) X.prog X.w X.xe _ ⟨rfl, H, I, Ext.rfl'⟩
inductive SelfQ (H : Hp) : V → Prop
  | flat {x : V} : scal x x = true → SelfQ H x
  | lst {a : Addr} {xs : List V} : H a = some (.lst xs) → (∀ v ∈ xs, flatR v) → SelfQ H (.ref a)
  | tup {a : Addr} {xs : List V} : H a = some (.tup xs) → (∀ v ∈ xs, flatR v) → SelfQ H (.ref a)
  | dic {a : Addr} : H a = some (.dK []) → SelfQ H (.ref a)
theorem SelfQ.to {H H' : Hp} {x : V} (h : SelfQ H x) (k : ∀ a o, x = .ref a → H a = some o → (∀ ps, o ≠ .tbl ps) → H' a = some o) : SelfQ H' x := by
  cases h with
  | flat e => exact .flat e
  | lst e r => exact .lst (k _ _ rfl e (by intro _ z; cases z)) r
  | tup e r => exact .tup (k _ _ rfl e (by intro _ z; cases z)) r
  | dic e => exact .dic (k _ _ rfl e (by intro _ z; cases z))
theorem SelfQ.same {H H' : Hp} {x : V} (h : SelfQ H x) (s : Same H H') : SelfQ H' x := h.to fun a o _ e _ => s a o e
theorem SelfQ.ext {H H' : Hp} {x : V} (h : SelfQ H x) (s : LamX.ExtN H H') : SelfQ H' x := h.to fun a o _ e n => s a o e n
theorem SelfQ.kp {q : Addr} {H H' : Hp} {x : V} (h : SelfQ H x) (s : Dr.Kp q H H') (n : x ≠ .ref q) : SelfQ H' x := h.to fun a o e h _ => s a o (fun z => n (by rw [e, z])) h
def rSelf : R2 := fun x y H Q => x = y ∧ SelfQ H x ∧ ∀ H', Same H H' → Q (.bl true) H'
theorem prs_self {H : Hp} {xs : List V} (h : ∀ v ∈ xs, flatR v) : Prs DSelf xs xs H := ⟨rfl, fun i x y h1 h2 => by
  rw [h1] at h2
  cases h2
  exact ⟨rfl, h x (List.mem_of_getElem? h1)⟩⟩
theorem op_eqSelf {X : Cx} (hr : Room 1 X.A) : OpR X (compareOp .Eq) rSelf := by
  intro pins s σ H x y u v Q I rx ry h
  obtain ⟨rfl, h, q⟩ := h
  cases h with
  | flat e => exact op_eq pins s σ H x x u v Q I rx ry ⟨e, by rw [decide_eq_true rfl]; exact q H (Same.refl H)⟩
  | @lst a xs e r => exact op_eqG (rcG_list mon_self eqG_self) hr pins s σ H _ _ u v Q I rx ry ⟨⟨a, a, xs, xs, rfl, rfl, e, e, prs_self r⟩, q⟩
  | @tup a xs e r => exact op_eqG (rcG_tup mon_self eqG_self) hr pins s σ H _ _ u v Q I rx ry ⟨⟨a, a, xs, xs, rfl, rfl, SqT.of e, SqT.of e, prs_self r⟩, q⟩
  | @dic a e => exact op_eq_dict hr.units0 pins s σ H _ _ u v Q I rx ry ⟨a, a, [], rfl, rfl, e, e, List.nodup_nil, (fun p hp => nomatch hp), q H (Same.refl H)⟩
theorem ix_tupKK {X : Cx} {K : PySem.W.Frag} (h : X.K = K) : IxR X (rIxT K) := h ▸ ix_tup
theorem AnyO.ext {H H' : Hp} {v : V} (a : AnyO H v) (x : LamX.ExtN H H') : AnyO H' v := by
  cases a with
  | non => exact .non
  | bl b => exact .bl b
  | int i => exact .int i
  | str z h h2 => exact .str z h h2
  | lst h => exact .lst (x _ _ h (by intro _ z; cases z))
  | tup h => exact .tup (x _ _ h (by intro _ z; cases z))
  | dic h => exact .dic (x _ _ h (by intro _ z; cases z))
end L2
namespace Mo
open PySem L2 LamX
/-- what is no body: among it the moment itself -/
def Rough (C : Addr) (sv : Sv) (H : Hp) (x : V) : Prop := (∃ a, x = .ref a ∧ At H C a sv) ∨ (AnyO H x ∧ Mk.isBody x = false ∧ SelfQ H x)
/-- what is no moment and not None -/
def OddP (H : Hp) (x : V) : Prop := AnyO H x ∧ x ≠ .non ∧ SelfQ H x
section
variable {C : Addr} {sv : Sv} {H H' : Hp} {x : V}
theorem Rough.same (h : Rough C sv H x) (s : Same H H') : Rough C sv H' x := by
  rcases h with ⟨a, e, t⟩ | ⟨av, b, q⟩
  · exact .inl ⟨a, e, t.same s⟩
  · exact .inr ⟨av.same s, b, q.same s⟩
theorem Rough.ext (h : Rough C sv H x) (s : ExtN H H') : Rough C sv H' x := by
  rcases h with ⟨a, e, t⟩ | ⟨av, b, q⟩
  · exact .inl ⟨a, e, t.ext s⟩
  · exact .inr ⟨av.ext s, b, q.ext s⟩
theorem Rough.kp {d l : Addr} {m : Nat} (h : Rough C sv H x) (D : Dr.Draw H d l m) (s : Dr.Kp d H H') (n : x ≠ .ref d) : Rough C sv H' x := by
  rcases h with ⟨a, e, t⟩ | ⟨av, b, q⟩
  · exact .inl ⟨a, e, t.kp D s⟩
  · exact .inr ⟨av.kp s n, b, q.kp s n⟩
theorem OddP.same (h : OddP H x) (s : Same H H') : OddP H' x := ⟨h.1.same s, h.2.1, h.2.2.same s⟩
theorem OddP.ext (h : OddP H x) (s : ExtN H H') : OddP H' x := ⟨h.1.ext s, h.2.1, h.2.2.ext s⟩
theorem OddP.kp {d : Addr} (h : OddP H x) (s : Dr.Kp d H H') (n : x ≠ .ref d) : OddP H' x := ⟨h.1.kp s n, h.2.1, h.2.2.kp s n⟩
end
def roughs (l t d a : Addr) : List V := [.non, .int 5, .bl true, .str "a\nb", .str "a\tb", .ref l, .ref t, .ref d, .str (("a" : Str) ++ ("\n" : Str)), .ref a]
theorem roughs_ok {C : Addr} {sv : Sv} {H : Hp} {l t d a : Addr} (h1 : H l = some (.lst [.str "a"])) (h2 : H t = some (.tup [.str "a"])) (h3 : H d = some (.dK [])) (h4 : At H C a sv) : ∀ v ∈ roughs l t d a, Rough C sv H v := by
  intro v hv
  have hv : v ∈ ([.non, .int 5, .bl true, .str "a\nb", .str "a\tb", .ref l, .ref t, .ref d, .str (("a" : Str) ++ ("\n" : Str)), .ref a] : List V) := hv
  simp only [List.mem_cons, List.not_mem_nil, or_false] at hv
  have f1 : ∀ v ∈ ([.str "a"] : List V), flatR v := fun v h => by rw [List.mem_singleton.mp h]; exact .inl rfl
  rcases hv with rfl | rfl | rfl | rfl | rfl | rfl | rfl | rfl | rfl | rfl
  · exact .inr ⟨.non, rfl, .flat rfl⟩
  · exact .inr ⟨.int _, rfl, .flat rfl⟩
  · exact .inr ⟨.bl _, rfl, .flat rfl⟩
  · exact .inr ⟨.str _ (by decide +kernel) (by decide +kernel), by decide +kernel, .flat rfl⟩
  · exact .inr ⟨.str _ (by decide +kernel) (by decide +kernel), by decide +kernel, .flat rfl⟩
  · exact .inr ⟨.lst h1, rfl, .lst h1 f1⟩
  · exact .inr ⟨.tup h2, rfl, .tup h2 f1⟩
  · exact .inr ⟨.dic h3, rfl, .dic h3⟩
  · exact .inr ⟨.str _ (by decide +kernel) (by decide +kernel), by decide +kernel, .flat rfl⟩
  · exact .inl ⟨a, rfl, h4⟩
def oddsP (t l d u : Addr) : List V := [.int 0, .int 5, .bl true, .str "Mon", .ref t, .ref l, .ref d, .bl false, .ref u, .str ""]
theorem oddsP_ok {H : Hp} {t l d u a : Addr} (h1 : H t = some (.tup [.str "Mon,"])) (h2 : H l = some (.lst [.ref a])) (h3 : H d = some (.dK [])) (h4 : H u = some (.tup [.ref a])) : ∀ v ∈ oddsP t l d u, OddP H v := by
  intro v hv
  have hv : v ∈ ([.int 0, .int 5, .bl true, .str "Mon", .ref t, .ref l, .ref d, .bl false, .ref u, .str ""] : List V) := hv
  simp only [List.mem_cons, List.not_mem_nil, or_false] at hv
  have f1 : ∀ v ∈ ([.str "Mon,"] : List V), flatR v := fun v h => by rw [List.mem_singleton.mp h]; exact .inl rfl
  have f2 : ∀ v ∈ ([.ref a] : List V), flatR v := fun v h => by rw [List.mem_singleton.mp h]; exact .inr ⟨_, rfl⟩
  rcases hv with rfl | rfl | rfl | rfl | rfl | rfl | rfl | rfl | rfl | rfl
  · exact ⟨.int _, nofun, .flat rfl⟩
  · exact ⟨.int _, nofun, .flat rfl⟩
  · exact ⟨.bl _, nofun, .flat rfl⟩
  · exact ⟨.str _ (by decide +kernel) (by decide +kernel), nofun, .flat rfl⟩
  · exact ⟨.tup h1, nofun, .tup h1 f1⟩
  · exact ⟨.lst h2, nofun, .lst h2 f2⟩
  · exact ⟨.dic h3, nofun, .dic h3⟩
  · exact ⟨.bl _, nofun, .flat rfl⟩
  · exact ⟨.tup h4, nofun, .tup h4 f2⟩
  · exact ⟨.str _ (by decide +kernel) (by decide +kernel), nofun, .flat rfl⟩
def spRefR (K : PySem.W.Frag) (T : List (Addr × Str)) : Sp := fun vs H Q _ => ∃ (d l : Addr) (k : Nat) (p : Addr) (sv : Sv), vs = [.ref d, .ref p] ∧ Dr.Draw H d l k ∧ k < 800000 ∧ SqT K H p sv.vals ∧ sv.ok ∧ Tabs T H ∧ ∀ H1, Dr.Draw H1 d l (k + 2) → Tabs T H1 → Q (.bl true) H1
end Mo
namespace L2
open PySem LamX
/-- of a built-in kind: texts of any length among them -/
def BT (H : Hp) (x : V) : Prop := AnyO H x ∨ ∃ z, x = .str z
theorem BT.same {H H' : Hp} {x : V} (h : BT H x) (s : Same H H') : BT H' x := h.elim (fun a => .inl (a.same s)) .inr
theorem BT.tyx {K : PySem.W.Frag} {H : Hp} {x : V} (h : BT H x) : ∃ n ∈ BTys, TyX K H x (.type n) := by
  rcases h with a | ⟨z, rfl⟩
  · exact a.tyx
  · exact ⟨"str", by decide, .base (.str z)⟩
theorem g_isNoT {K : PySem.W.Frag} {C : Addr} {H : Hp} {Q : VK} {x : V} (N : NoKit K C) (a : BT H x) (q : Q (.bl false) H) : rIsi K [x, .ref C] H Q := by
  obtain ⟨n, hn, t⟩ := a.tyx (K := K)
  exact g_isi (.own _) t (N n hn) q
theorem g_isB {a b : Bool} {H : Hp} {Q : VK} (q : Q (.bl (decide (a = b))) H) : rIsB (.bl a) (.bl b) H Q := ⟨a, b, rfl, rfl, q⟩
theorem g_joinT {K : PySem.W.Frag} {H : Hp} {Q : VK} {a : Str} {p : Addr} {ys : List Str} (h : SqT K H p (ys.map V.str)) (hs : (ys.map (·.length)).sum + ys.length * a.length ≤ 16777216) (q : Q (.str (Txt.join a ys)) H) : rJoinV K (.str a) [.ref p] H Q := ⟨a, p, ys, rfl, rfl, Or.inr h, hs, q⟩
end L2
namespace Pw
open PySem L2 LamX
theorem TL.appN {T : List (Addr × Str)} {Hb H H' : Hp} {p : Addr} {vs : List V} {v : V} {Q : VK} (t : TL T Hb p vs H) (x : ExtN H H') (tb : Tabs T H') (hl : vs.length < 1000) (q : ∀ H2, (∀ b u, b ≠ p → H' b = some u → H2 b = some u) → TL T Hb p (vs ++ [v]) H2 → Q .non H2) : rAppend (.ref p) [v] H' Q := by
  obtain ⟨np, x0, _, e⟩ := t
  have e' := x.ap e
  refine g_append e' (Nat.lt_of_lt_of_le hl (by decide)) (q _ (fun b u nu eb => ?_) ⟨np, (x0.trans x).mut np, tabs_updL tb e', upd_same⟩)
  rw [upd_ne nu]
  exact eb
end Pw
namespace Mo
open PySem L2 LamX
theorem Rough.ned {C : Addr} {sv : Sv} {H : Hp} {x : V} {d l : Addr} {m : Nat} (h : Rough C sv H x) (D : Dr.Draw H d l m) : x ≠ .ref d := by
  intro z
  subst z
  obtain ⟨ns, b1, b2, b3, hd, _⟩ := D
  rcases h with ⟨a, e, dx, td, tt, e1, _⟩ | ⟨_, _, q⟩
  · cases e
    rw [hd] at e1
    cases e1
  · cases q with
    | flat e => cases e
    | lst e => rw [hd] at e; cases e
    | tup e => rw [hd] at e; cases e
    | dic e => rw [hd] at e; cases e
def spEqT : Sp := fun vs H Q _ => ∃ a y, vs = [.ref a, y] ∧ BT H y ∧ Q (.bl false) H
theorem shz_told : showsZ (.list [.tuple [.str "content", .none], .list [.tuple []]]) := by
  refine showsZ_of ?_ ?_ ?_
  · simp only [SmZ, SmZA, and_self, and_true]
    decide +kernel
  · simp only [wgz, wgzA]
    decide +kernel
  · simp only [PyData.depth, PyData.depthAll]
    decide
theorem dz_told {K : PySem.W.Frag} {H : Hp} {r1 r2 pe : Addr} (e1 : H r1 = some (.tup [.str "content", .non])) (e2 : H r2 = some (.lst [.ref pe])) (e3 : H pe = some (.tup [])) : DzAll K H [.ref r1, .ref r2] [.tuple [.str "content", .none], .list [.tuple []]] :=
  .cons (.tup (SqT.of e1) (.cons (.of (.str _) (by simp only [PyData.hasDict])) (.cons (.of .non (by simp only [PyData.hasDict])) .nil))) (.cons (.lst (SqL.of e2) (.cons (.tup (SqT.of e3) .nil) .nil)) .nil)
theorem eqv_strs (ys : List Str) : PyData.eqv (.list (ys.map PyData.str)) (.list (ys.map PyData.str)) = true := by
  rw [PyData.eqv]
  induction ys with
  | nil => rfl
  | cons y ys ih => rw [List.map_cons, PyData.eqvAll, ih, PyData.eqv]; simp
theorem eqv_bools (ys : List Bool) : PyData.eqv (.list (ys.map PyData.bool)) (.list (ys.map PyData.bool)) = true := by
  rw [PyData.eqv]
  induction ys with
  | nil => rfl
  | cons y ys ih => rw [List.map_cons, PyData.eqvAll, ih, PyData.eqv]; simp
theorem sum6 {ss : List Str} (h : ss.length = 6) (b : ∀ y ∈ ss, y.length ≤ 200) : (ss.map (·.length)).sum + ss.length * Str.length " " ≤ 16777216 := by
  have := L2.sum_len b
  have e : Str.length (" " : Str) = 1 := rfl
  rw [e]
  omega
end Mo
namespace Mo
open PySem L2 LamX
theorem g_rough {K : PySem.W.Frag} {C : Addr} {sv : Sv} {H : Hp} {x : V} {E : XK} {Nx : VK} (h : Rough C sv H x) (ok : sv.ok) (ty : ∀ (H : Hp) (a dx : Addr) (fs : List (Str × V)), H a = some (.ins C dx fs) → TyX K H (.ref a) (.ref C)) (kt : ∀ H', Same H H' → Nx (.bl true) H') : rSelf x x H Nx ∨ rOwnE K C (fun vs H Q E => Mo.spEqO C (vs ++ []) H Q E) E false x x H Nx := by
  rcases h with ⟨a, rfl, t⟩ | ⟨_, _, q⟩
  · right
    obtain ⟨dx, td, tt, e1, e2, e3⟩ := id t
    refine g_ownE e1 (ty _ _ _ _ e1) nf_self ?_
    refine ⟨a, sv, .ref a, rfl, t, ok, .inl ⟨a, sv, rfl, t, ok, ?_⟩⟩
    rw [decide_eq_true rfl]
    exact ⟨true, rfl, kt _ (Same.refl _)⟩
  · exact .inl ⟨rfl, q, kt⟩
end Mo
/-! == of what is of a built-in kind with an own object on the right -/
namespace QR
open PySem PySem.SeqAt
open AutoSeq1 (wpAny_loadPart')
open MeetsSeq MeetsSeq2 MeetsSeq3 SeqRoads2
section
variable {prog : Program} {w : World} {A : Around} {E : Value → Shared → Prop} {s : Shared} {K : PySem.W.Frag} {x C dx : Addr} {Q : Value → Shared → Prop}
theorem str_own (b : Str) (u : Tok) : Meets (Builtin.«str.__eq__» ⟨[.str b u, .ref x], []⟩) (fun _ R s => s.heap.get? x = some (PySem.W.instObj C dx) ∧ R (.ok (.ret .notImplemented)) s) :=
  .of_wp fun prog w A R s h => by obtain ⟨hp, g, d, tk, os⟩ := s; obtain ⟨hl, h⟩ := h; unfold PySem.W.instObj at hl; wp_walk using wpAny_loadPart' hl, wpAny_load hl; exact ⟨_, rfl, h⟩
theorem int_own (b : Int) (u : Tok) : Meets (Builtin.«int.__eq__» ⟨[.int b u, .ref x], []⟩) (fun _ R s => s.heap.get? x = some (PySem.W.instObj C dx) ∧ R (.ok (.ret .notImplemented)) s) :=
  .of_wp fun prog w A R s h => by obtain ⟨hp, g, d, tk, os⟩ := s; obtain ⟨hl, h⟩ := h; unfold PySem.W.instObj at hl; wp_walk using wpAny_loadPart' hl, wpAny_load hl; exact ⟨_, rfl, h⟩
theorem bool_own (b : Bool) : Meets (Builtin.«int.__eq__» ⟨[.bool b, .ref x], []⟩) (fun _ R s => s.heap.get? x = some (PySem.W.instObj C dx) ∧ R (.ok (.ret .notImplemented)) s) :=
  .of_wp fun prog w A R s h => by obtain ⟨hp, g, d, tk, os⟩ := s; obtain ⟨hl, h⟩ := h; unfold PySem.W.instObj at hl; wp_walk using wpAny_loadPart' hl, wpAny_load hl; exact ⟨_, rfl, h⟩
theorem list_own {l : Addr} {R : Result → Shared → Prop} (hx : s.heap.get? x = some (PySem.W.instObj C dx)) (hK : K.In s.heap) (ns : PySem.W.subIn K (.ref C) (.type "list") = some false) (h : R (.ok (.ret .notImplemented)) s) :
    wpAny (model prog w) A.in1 (Builtin.«list.__eq__» ⟨[.ref l, .ref x], []⟩) (GQ.FinOf prog w A R) (fun e s' => R (.error e) s') s := by
  have hs := PySem.W.looks_subIn (M := model prog w) hK ns
  obtain ⟨hp, g, d, tk, os⟩ := s
  unfold PySem.W.instObj at hx
  wp_walk using wpAny_loadPart' hx, hs.here
  exact h
theorem tuple_own {l : Addr} {R : Result → Shared → Prop} (hx : s.heap.get? x = some (PySem.W.instObj C dx)) (hK : K.In s.heap) (ns : PySem.W.subIn K (.ref C) (.type "tuple") = some false) (h : R (.ok (.ret .notImplemented)) s) :
    wpAny (model prog w) A.in1 (Builtin.«tuple.__eq__» ⟨[.ref l, .ref x], []⟩) (GQ.FinOf prog w A R) (fun e s' => R (.error e) s') s := by
  have hs := PySem.W.looks_subIn (M := model prog w) hK ns
  obtain ⟨hp, g, d, tk, os⟩ := s
  unfold PySem.W.instObj at hx
  wp_walk using wpAny_loadPart' hx, hs.here
  exact h
theorem dict_own {l : Addr} {R : Result → Shared → Prop} (hx : s.heap.get? x = some (PySem.W.instObj C dx)) (hK : K.In s.heap) (ns : PySem.W.subIn K (.ref C) (.type "dict") = some false) (h : R (.ok (.ret .notImplemented)) s) :
    wpAny (model prog w) A.in1 (Builtin.«dict.__eq__» ⟨[.ref l, .ref x], []⟩) (GQ.FinOf prog w A R) (fun e s' => R (.error e) s') s := by
  have hs := PySem.W.looks_subIn (M := model prog w) hK ns
  obtain ⟨hp, g, d, tk, os⟩ := s
  unfold PySem.W.instObj at hx
  wp_walk using wpAny_loadPart' hx, hs.here
  exact h
/-- the left one's kind declines, the right one's own == is asked -/
theorem cmp_Kr {a : Value} {T id : String} {f L : Addr} {h₀ : Heap} {m : Str → Option Value} {ox : Obj} {od : Option Obj} (hu : A.units < cLine) (F : PyProof.Rows.Fr h₀ L s.heap m) (X₀ : K.In h₀) (I : PySem.W.InstAt s.heap x ox C od) (ha : s.TypeIs a T) (sl : Slot T (cmpInfo .Eq).2.1 id)
    (ns : PySem.W.subIn K (.ref C) (.type T) = some false) (hs : PySem.W.findIn K (.ref C) "__eq__" = some (some (.ref f))) (hf : PySem.W.isFn K (.ref f) = true)
    (dec : ∀ Q' : Value → Shared → Prop, Q' .notImplemented s → wpAny (model prog w) A (call (.builtin id) [a, .ref x]) Q' E s)
    (h : wpAny (model prog w) A (call (.ref f) [.ref x, a]) (PySem.W.CmpBack Q) E s) : wpAny (model prog w) A (richCompare .Eq a (.ref x)) Q E s := by
  have X := X₀.keeps F.keep
  have one : wpAny (model prog w) A (tryCompare (.ref x) (cmpInfo .Eq).2.2 a) (fun r s' => ∃ v, r = some v ∧ Q v s') E s := by
    unfold tryCompare
    refine wpAny_bind (PySem.W.ifBound_K X I hs hf (wpAny_mono h (fun v s' hv => ?_) fun _ _ e => e))
    cases v <;> first | exact hv.elim | exact wpAny_pure ⟨_, rfl, hv⟩
  unfold richCompare
  simp only [ha.oneThing_none]
  refine wpAny_holding (wpAny_bind (wpAny_cRoomFor hu ?_))
  refine wpAny_bind (wpAny_typeOf ha (wpAny_bind (I.type.here ?_)))
  have ne : (Value.type T != Value.ref C) = true := by simp
  simp only [ne, if_true]
  refine wpAny_bind ((PySem.W.looks_subIn X ns).here ?_)
  simp only [Bool.false_eq_true, if_false, Bool.not_false, if_true]
  refine wpAny_bind (m := tryCompare a _ (.ref x)) (wpAny_tryCompare_declines ha sl (dec _ ⟨rfl, ?_⟩))
  refine wpAny_bind (wpAny_mono one (fun r s' z => ?_) fun _ _ e => e)
  obtain ⟨v, rfl, hq⟩ := z
  exact wpAny_pure hq
end
end QR
namespace L2
open PySem
/-- no object of the class is of a built-in kind -/
def NoSub (K : PySem.W.Frag) (C : Addr) : Prop := ∀ n ∈ BTys, PySem.W.subIn K (.ref C) (.type n) = some false
/-- what is compared: one of a built-in kind, and an own object -/
def rOwnR (K : PySem.W.Frag) (C : Addr) (sp : Sp) (E : XK) : R2 := fun y x H Q => ∃ a dx fs, x = .ref a ∧ H a = some (.ins C dx fs) ∧ BT H y ∧ sp [.ref a, y] H (fun v H1 => ∃ b, v = .bl b ∧ Q (.bl b) H1) E
section
variable {X : Cx} {CX : CXT} {k : Nat} {C f : Addr} {sp : Sp} {E : XK}
theorem op_eqR (N : NoSub X.K C) (F0 : FnR X.prog X.w X.K X.mg X.base CX k f sp) (hr : Room k X.A) (hx : Passes CX X E) (hs : PySem.W.findIn X.K (.ref C) "__eq__" = some (some (.ref f))) (hf : PySem.W.isFn X.K (.ref f) = true) : OpR X (compareOp .Eq) (rOwnR X.K C sp E) := by
  intro pins s σ H y x v u Q I ry rx h
  obtain ⟨a, dx, fs, rfl, ea, ty, h⟩ := h
  cases rx
  obtain ⟨ox, od, J⟩ := inst_of I ea
  obtain ⟨_, _, _, ox', _⟩ := (show ObjOk X.prog X.w H s.heap a (.ins C dx fs) from I.hok a _ ea)
  obtain ⟨m, hF⟩ := I.fr
  have go := wpAny_mono (run_sub (vs := [.ref a, y]) F0 hr rfl hx I (.cons rfl (.cons ry .nil)) h) (fun u s' hv => show PySem.W.CmpBack (EP X pins σ Q) u s' from by
    obtain ⟨x, H1, I1, rx, b, rfl, q⟩ := hv
    exact ep_cmp ⟨_, H1, I1, rx, q⟩) fun _ _ z => z
  show wpAny _ _ (richCompare .Eq v (.ref a)) _ _ _
  have mk : ∀ {T id : String}, T ∈ BTys → s.TypeIs v T → Slot T (cmpInfo .Eq).2.1 id → (∀ Q' : Value → Shared → Prop, Q' .notImplemented s → wpAny (model X.prog X.w) X.A (call (.builtin id) [v, .ref a]) Q' X.xe s) → wpAny (model X.prog X.w) X.A (richCompare .Eq v (.ref a)) (EP X pins σ Q) X.xe s := fun hT ht sl dec => QR.cmp_Kr hr.units0 hF I.ok.mod.kin J ht sl (N _ hT) hs hf dec go
  rcases ty with ty | ⟨z, rfl⟩
  · cases ty with
    | non =>
      cases (show v = Value.none from ry)
      exact mk (by decide) rfl PySem.F.slot_NoneType_eq fun Q' hq => call_gives PySem.F.slot_NoneType_eq rfl PySem.F.entry_NoneType_eq (PySem.F.args_NoneType_eq_2 _ _) (SeqAt.NoneType___eq___none_ref_0 a) hq
    | bl b =>
      cases (show v = Value.bool b from ry)
      exact mk (by decide) rfl PySem.F.slot_bool_eq fun Q' hq => call_meets PySem.F.slot_bool_eq rfl PySem.F.entry_int_eq (PySem.F.args_int_eq_2 _ _) (QR.bool_own b) ⟨ox', hq⟩
    | int i =>
      obtain ⟨t, rfl⟩ := (show ∃ t, v = Value.int i t from ry)
      exact mk (by decide) (typeIs_int s i t) PySem.F.slot_int_eq fun Q' hq => call_meets PySem.F.slot_int_eq (typeIs_int s i t) PySem.F.entry_int_eq (PySem.F.args_int_eq_2 _ _) (QR.int_own i t) ⟨ox', hq⟩
    | str z h1 h2 =>
      obtain ⟨t, rfl⟩ := (show ∃ t, v = Value.str z t from ry)
      exact mk (by decide) (typeIs_str s z t) PySem.F.slot_str_eq fun Q' hq => call_meets PySem.F.slot_str_eq (typeIs_str s z t) PySem.F.entry_str_eq (PySem.F.args_str_eq_2 _ _) (QR.str_own z t) ⟨ox', hq⟩
    | @lst l xs e =>
      cases (show v = Value.ref l from ry)
      obtain ⟨_, its, n, _, el⟩ := (show ObjOk X.prog X.w H s.heap l (.lst xs) from I.hok l _ e)
      exact mk (by decide) ⟨_, el, rfl⟩ PySem.F.slot_list_eq fun Q' hq => GQ.call_here PySem.F.slot_list_eq ⟨_, el, rfl⟩ PySem.F.entry_list_eq (PySem.F.args_list_eq_2 _ _) (QR.list_own ox' I.kIn (N _ (by decide)) hq)
    | @tup l xs e =>
      cases (show v = Value.ref l from ry)
      obtain ⟨_, its, _, o, ho, hc, _⟩ := (show ObjOk X.prog X.w H s.heap l (.tup xs) from I.hok l _ e)
      exact mk (by decide) ⟨_, ho, hc⟩ PySem.F.slot_tuple_eq fun Q' hq => GQ.call_here PySem.F.slot_tuple_eq ⟨_, ho, hc⟩ PySem.F.entry_tuple_eq (PySem.F.args_tuple_eq_2 _ _) (QR.tuple_own ox' I.kIn (N _ (by decide)) hq)
    | @dic l kvs e =>
      cases (show v = Value.ref l from ry)
      obtain ⟨_, _, vs, _, hd⟩ := (show ObjOk X.prog X.w H s.heap l (.dK kvs) from I.hok l _ e)
      exact mk (by decide) hd.typeIs PySem.F.slot_dict_eq fun Q' hq => GQ.call_here PySem.F.slot_dict_eq hd.typeIs PySem.F.entry_dict_eq (PySem.F.args_dict_eq_2 _ _) (QR.dict_own ox' I.kIn (N _ (by decide)) hq)
  · obtain ⟨t, rfl⟩ := (show ∃ t, v = Value.str z t from ry)
    exact mk (by decide) (typeIs_str s z t) PySem.F.slot_str_eq fun Q' hq => call_meets PySem.F.slot_str_eq (typeIs_str s z t) PySem.F.entry_str_eq (PySem.F.args_str_eq_2 _ _) (QR.str_own z t) ⟨ox', hq⟩
end
end L2
/-! constructors and classmethods inside a try: what they raise by what stands in the slots -/
namespace L2
open PySem PySem.Spec PyProof.Rows
def tMakeKS (C : Addr) (n m : Nat) (sp : Sp) (gV : List V → List V → List V) (E : St → XK) (t tk : TA) : TE := fun σ H Q => t σ H fun vs H1 => tk σ H1 fun zs H2 => vs.length = n ∧ zs.length = m ∧ ∀ x dx, H2 x = none → H2 dx = none → dx ≠ x →
  sp (gV (.ref x :: vs) zs) (upd (upd H2 dx (.own x)) x (.ins C dx [])) (fun v H3 => v = .non ∧ Q (.ref x) H3) (E σ)
def tMakeS (C : Addr) (sp : Sp) (dvs : List V) (E : St → XK) (t : TA) : TE := fun σ H Q => t σ H fun vs H1 => ∀ x dx, H1 x = none → H1 dx = none → dx ≠ x → sp (.ref x :: (vs ++ dvs)) (upd (upd H1 dx (.own x)) x (.ins C dx [])) (fun v H2 => v = .non ∧ Q (.ref x) H2) (E σ)
def tCMethKS (C : Addr) (m : Nat) (sp : Sp) (gV : List V → List V → List V) (E : St → XK) (ta : TE) (tk : TA) : TE := fun σ H Q => ta σ H fun x H1 => x = .ref C ∧ tk σ H1 fun zs H2 => zs.length = m ∧ sp (gV [.ref C] zs) H2 Q (E σ)
section
variable {X : Cx} {CX : CXT} {k n : Nat} {f C : Addr} {fd : FuncData} {ps ks : List Str} {sp : Sp} {E : St → XK} {x : Str} {p pos : Pos} {e : Expr} {es : List Expr} {kws : List Keyword} {t tk : TA} {g : List Value → List Value → List Value} {gV : List V → List V → List V}
theorem run_makeKS {pins : List (Addr × Obj)} {σ : St} {H : Hp} {s : Shared} {Q : VK} {us ws : List Value} {vs zs : List V} (M : Mk X.K C f) (F : FnOk X.prog X.w X.K X.mg X.base CX k f fd ps sp) (hr : Room (k + 1) X.A) (hb : KBn X.K fd ps (n + 1) ks g gV) (hx : PassesAt CX X σ (E σ))
    (I : Inv X pins σ H s) (r : Vals vs us) (rz : Vals zs ws) (l1 : vs.length = n) (l2 : zs.length = ks.length)
    (h : ∀ x dx, H x = none → H dx = none → dx ≠ x → sp (gV (.ref x :: vs) zs) (upd (upd H dx (.own x)) x (.ins C dx [])) (fun v H2 => v = .non ∧ Q (.ref x) H2) (E σ)) :
    wpAny (model X.prog X.w) X.A (call (.ref C) us (ks.zip ws)) (EP X pins σ Q) X.xe s := by
  have hq := h (s.heap.objs.size + 1) s.heap.objs.size (I.hok.fresh (Nat.le_succ _)) (I.hok.fresh (Nat.le_refl _)) (Nat.ne_of_lt (Nat.lt_succ_self _))
  have I2 := Inv.made (C := C) I
  have r1 : Vals (V.ref (s.heap.objs.size + 1) :: vs) (Value.ref (s.heap.objs.size + 1) :: us) := .cons rfl r
  have r2 := hb.rel r1 rz
  have n1 : (Value.ref (s.heap.objs.size + 1) :: us).length = n + 1 := by
    rw [List.length_cons, ← r.length, l1]
  refine wpAny_call (make_map (f := f) I.kIn M.makes M.init (beq_iff_eq.mp M.fn) (codeAny_mono (F.run _ X.stack _ _ ⟨Value.ref (s.heap.objs.size + 1) :: us, ks.zip ws⟩ (g (Value.ref (s.heap.objs.size + 1) :: us) ws) _ _ (E σ) (hr.make C us (ks.zip ws))
    (I2.env0.make C us (ks.zip ws)) (hb.to _ (Value.ref (s.heap.objs.size + 1) :: us) ws I2.kIn n1 (rz.length.symm.trans l2)) r2 hq) fun r s' hq' => ?_))
  cases r with
  | error e => exact hx pins _ _ e s' I2 hq'
  | ok fl =>
    cases fl with
    | ret u =>
      obtain ⟨v, H', I3, rv, ev, q3⟩ := I2.after hq'
      subst ev
      exact ⟨rv, ⟨V.ref (s.heap.objs.size + 1), H', I3, rfl, q3⟩⟩
    | next => exact False.elim hq'
    | brk => exact False.elim hq'
    | cont => exact False.elim hq'
/-- C(k = v, ..) -/
theorem pe_makeK0S (M : Mk X.K C f) (F : FnOk X.prog X.w X.K X.mg X.base CX k f fd ps sp) (hr : Room (k + 1) X.A) (hg : Gl X x) (hm : X.mg x = some (.ref C)) (hb : KBn X.K fd ps 1 ks g gV) (hx : ∀ σ, PassesAt CX X σ (E σ)) (hkw : PK X kws tk)
    (hall : (backToKw pos (keywordEach kws X.env)).all (·.1.isSome) = true := by rfl) (hks : (backToKw pos (keywordEach kws X.env)).filterMap (·.1) = ks := by rfl) (hdb : (x == ("__debug__" : Str)) = false := by decide)
    (hpl : ((backTo pos (starEach [] X.env)).any (·.1) || (backToKw pos (keywordEach kws X.env)).any (·.1.isNone)) = false := by rfl) :
    PE X (.Call (.Name x p) [] kws pos) (tMakeKS C 0 ks.length sp gV E tNil tk) := by
  refine ⟨fun pins s σ H Q I h => ?_⟩
  refine wpAny_Call_Name_kw (ld_glob I hg hm ?_ hdb)
  refine PySem.W.callWith_KW0 (h₀ := X.base) I.ok.mod.kin M.kp hall ?_ hpl
  refine thn (hkw.run pos pins s σ H _ I h) fun ws s2 ⟨zs, H2, I2, rz, l1, l2, q2⟩ => ⟨I2.kIn, ?_⟩
  rw [hks]
  exact run_makeKS (us := []) (vs := []) M F hr hb (hx σ) I2 .nil rz rfl l2 q2
theorem g_makeKS {m : Nat} {σ : St} {H : Hp} {Q : VK} (h : t σ H fun vs H1 => tk σ H1 fun zs H2 => vs.length = n ∧ zs.length = m ∧ ∀ x dx, H2 x = none → H2 dx = none → dx ≠ x → sp (gV (.ref x :: vs) zs) (upd (upd H2 dx (.own x)) x (.ins C dx [])) (fun v H3 => v = .non ∧ Q (.ref x) H3) (E σ)) : tMakeKS C n m sp gV E t tk σ H Q := h
end
section
open ClX
variable {X : Cx} {CX : CXT} {k : Nat} {C p g : Addr} {mc : Value} {fd : FuncData} {ps ks : List Str} {sp : Sp} {E : St → XK} {o : Expr} {m : Str} {pos apos : Pos} {ta : TE} {tk : TA} {pl : Sem Bool} {kws : List Keyword} {gg : List Value → List Value → List Value} {gV : List V → List V → List V}
/-- C.m(k = v, ..) -/
theorem pe_cmethKS (he : PE X o ta) (r : CRead X.K C mc) (c : CMet X.K C mc m p g) (F : FnOk X.prog X.w X.K X.mg X.base CX k g fd ps sp) (hr : Room k X.A) (hb : KBn X.K fd ps 1 ks gg gV) (hx : ∀ σ, PassesAt CX X σ (E σ)) (hkw : PK X kws tk)
    (hall : (backToKw pos (keywordEach kws X.env)).all (·.1.isSome) = true := by rfl) (hks : (backToKw pos (keywordEach kws X.env)).filterMap (·.1) = ks := by rfl)
    (hpl : ((backTo pos (starEach [] X.env)).any (·.1) || (backToKw pos (keywordEach kws X.env)).any (·.1.isNone)) = false := by rfl)
    (ht : eval (.Call (.Attribute o m apos) [] kws pos) X.env = (do
      let ov ← eval o X.env
      standAt apos.atName
      let (f, first) ← holding [ov] (getMethod ov m pl)
      callWith pos f first (backTo pos (starEach [] X.env)) (backToKw pos (keywordEach kws X.env))) := by rfl) :
    PE X (.Call (.Attribute o m apos) [] kws pos) (tCMethKS C ks.length sp gV E ta tk) := by
  refine ⟨fun pins s σ H Q I h => ?_⟩
  refine PySem.W.methodCall_KW (pl := pl) (thn (he.run pins s σ H _ I h) fun u s1 ⟨x, H1, I1, rx, ex, q⟩ => ?_) ht
  subst ex
  obtain rfl : u = Value.ref C := rx
  refine getmethcm_ok I1 r c fun s2 I2 => ?_
  refine PySem.W.callWith_of hpl (PySem.W.keeps_M c.fi) (evalArgs_kw2_nil hall (thn (hkw.run pos _ s2 σ H1 _ I2 q) fun ws s3 ⟨zs, H2, I3, rz, hz, q2⟩ => ⟨⟨pin_at I3, I3.kIn⟩, ?_⟩))
  rw [hks]
  have z : wpAny (model X.prog X.w) X.A (call (.ref s1.heap.objs.size) ([] ++ []) (ks.zip ws)) (EP X ((s1.heap.objs.size, PySem.W.methodObj (.ref g) (.ref C)) :: pins) σ Q) X.xe s3 := by
    refine wpAny_call (PySem.W.method_call (pin_at I3) (codeAny_mono (F.run X.A X.stack s3 H2 ⟨[.ref C], ks.zip ws⟩ (gg [.ref C] ws) (gV [.ref C] zs) Q (E σ) hr I3.env0 (hb.to s3 [.ref C] ws I3.kIn rfl (rz.length.symm.trans hz)) (hb.rel (.cons rfl .nil) rz) q2) fun o s4 hq => ?_))
    match o, hq with
    | .error e, hq => exact hx σ _ H2 s3 e s4 I3 hq
    | .ok (.ret u), hq => exact I3.after hq
  exact thn z fun _ _ y => unpinE y
theorem g_cmethKS {n : Nat} {σ : St} {H : Hp} {Q : VK} (h : ta σ H fun x H1 => x = .ref C ∧ tk σ H1 fun zs H2 => zs.length = n ∧ sp (gV [.ref C] zs) H2 Q (E σ)) : tCMethKS C n sp gV E ta tk σ H Q := h
end
end L2
/-! bool(an own object) -/
namespace QB
open PySem
open PySem.Sem (wp)
section
variable {prog : Program} {w : World}
theorem meets_truthy (x : Value) : MeetsIn prog w (Builtin.«bool.__new__» ⟨[.type "bool", x], []⟩) (fun A R s => wpAny (model prog w) A.in1 (truthy x) (fun b s' => R (.ok (.ret (.bool b))) s') (fun e s' => R (.error e) s') s) := by
  intro A R s h
  obtain ⟨hp, g, d, tk, os⟩ := s
  have f1 := F.conv_sub_bool
  repeat (any_goals (first | assumption | (with_reducible refine wpAny_bind (wpAny_mono h (fun b s' hb => ?_) fun _ _ z => z)) | wp_step))
end
end QB
namespace L2
open PySem PySem.Spec PyProof.Rows
def rBoolO (C : Addr) (sp : Sp) (E : XK) : List V → Hp → VK → Prop := fun xs H Q => ∃ a dx fs, xs = [.ref a] ∧ H a = some (.ins C dx fs) ∧ sp [.ref a] H (fun v H1 => ∃ b, v = .bl b ∧ Q (.bl b) H1) E
section
variable {X : Cx} {CX : CXT} {k : Nat} {C f : Addr} {sp : Sp} {E : XK}
theorem call_boolO (F : FnR X.prog X.w X.K X.mg X.base CX k f sp) (hr : Room (k + 2) X.A) (hx : Passes CX X E) (hs : PySem.W.findIn X.K (.ref C) "__bool__" = some (some (.ref f))) (hf : PySem.W.isFn X.K (.ref f) = true) : CallR X (.type "bool") (rBoolO C sp E) := by
  intro pins s σ H xs us Q I r h
  obtain ⟨a, dx, fs, rfl, ea, h⟩ := h
  obtain ⟨u, rfl, ru⟩ := vals1 r
  cases ru
  obtain ⟨ox, od, J⟩ := inst_of I ea
  obtain ⟨m, hF⟩ := I.fr
  refine callType_newIn PySem.F.called_bool PySem.F.newNe_bool (PySem.F.typeCall_bool_1 _) (PySem.F.newCall_bool_1 _) (fun obj => PySem.F.args_object_init_2 obj _) PySem.F.entry_bool_new (QB.meets_truthy (.ref a)) ?_
  refine PySem.W.truthy_K hF I.ok.mod.kin J hs hf (wpAny_mono (run_sub (vs := [.ref a]) F hr.in1.in1 rfl hx I (.cons rfl .nil) h) (fun r s' hv => ?_) fun _ _ z => z)
  obtain ⟨z, H2, I2, rz, b, rfl, q⟩ := hv
  cases rz
  exact ⟨rfl, .bl b, H2, I2, rfl, q⟩
/-- bool(a bool) -/
def rBoolB : List V → Hp → VK → Prop := fun xs H Q => ∃ b : Bool, xs = [.bl b] ∧ Q (.bl b) H
theorem call_boolB : CallR X (.type "bool") rBoolB := fun pins s σ H xs us Q I r h => by
  obtain ⟨b, rfl, q⟩ := h
  exact call_bool1 pins s σ H _ us Q I r (.inr ⟨b, rfl, q⟩)
theorem g_boolB {b : Bool} {H : Hp} {Q : VK} (q : Q (.bl b) H) : rBoolB [.bl b] H Q := ⟨b, rfl, q⟩
/-- not (an own object) as a value -/
def tNotO (C : Addr) (sp : Sp) (E : XK) (ta : TE) : TE := fun σ H Q => ta σ H fun x H1 => ∃ a dx fs, x = .ref a ∧ H1 a = some (.ins C dx fs) ∧ sp [.ref a] H1 (fun v H2 => ∃ b, v = .bl b ∧ Q (.bl (!b)) H2) E
theorem pe_notO {e : Expr} {pos : Pos} {ta : TE} (ha : PE X e ta) (F : FnR X.prog X.w X.K X.mg X.base CX k f sp) (hr : Room k X.A) (hx : Passes CX X E) (hs : PySem.W.findIn X.K (.ref C) "__bool__" = some (some (.ref f))) (hf : PySem.W.isFn X.K (.ref f) = true) : PE X (.UnaryOp .Not e pos) (tNotO C sp E ta) := by
  refine ⟨fun pins s σ H Q I h => ?_⟩
  refine UnaryOp_ (thn (ha.run pins s σ H _ I h) fun v s1 ⟨x, H1, I1, rx, a, dx, fs, ex, ea, q⟩ => ?_)
  subst ex
  cases rx
  obtain ⟨ox, od, J⟩ := inst_of I1 ea
  obtain ⟨m, hF⟩ := I1.fr
  refine not_of (PySem.W.truthy_K hF I1.ok.mod.kin J hs hf (wpAny_mono (run_sub (vs := [.ref a]) F hr rfl hx I1 (.cons rfl .nil) q) (fun r s' hv => ?_) fun _ _ z => z))
  obtain ⟨z, H2, I2, rz, b, rfl, q⟩ := hv
  cases rz
  exact ⟨.bl (!b), H2, I2, rfl, q⟩
theorem g_notO {σ : St} {H : Hp} {Q : VK} {ta : TE} (h : ta σ H fun x H1 => ∃ a dx fs, x = .ref a ∧ H1 a = some (.ins C dx fs) ∧ sp [.ref a] H1 (fun v H2 => ∃ b, v = .bl b ∧ Q (.bl (!b)) H2) E) : tNotO C sp E ta σ H Q := h
theorem g_truO {σ : St} {H : Hp} {Q : Bool → Hp → Prop} {ta : TE} (h : ta σ H fun x H1 => ∃ a dx fs, x = .ref a ∧ H1 a = some (.ins C dx fs) ∧ sp [.ref a] H1 (fun v H2 => ∃ b, v = .bl b ∧ Q b H2) E) : tTruO C sp E ta σ H Q := h
/-- bool(a tuple) -/
def rBoolT (K : PySem.W.Frag) : List V → Hp → VK → Prop := fun vs H Q => ∃ p xs, vs = [.ref p] ∧ SqT K H p xs ∧ Q (.bl (!xs.isEmpty)) H
theorem call_boolT : CallR X (.type "bool") (rBoolT X.K) := by
  intro pins s σ H xs us Q I r h
  obtain ⟨p, zs, rfl, hx, q⟩ := h
  obtain ⟨u, rfl, ru⟩ := vals1 r
  cases ru
  have hl := line63
  obtain ⟨its, r, pl, hz⟩ := I.tuple hx
  have hlen := r.length
  refine callType_newIn PySem.F.called_bool PySem.F.newNe_bool (PySem.F.typeCall_bool_1 _) (PySem.F.newCall_bool_1 _) (fun obj => PySem.F.args_object_init_2 obj _) PySem.F.entry_bool_new (QB.meets_truthy (.ref p)) ?_
  refine truthy_tuple pl (by simp only [List.size_toArray]; omega) ?_
  rw [isEmpty_of r]
  exact ⟨rfl, .bl _, H, I.tok _, rfl, q⟩
theorem g_boolT {K : PySem.W.Frag} {p : Addr} {xs : List V} {H : Hp} {Q : VK} (h : SqT K H p xs) (q : Q (.bl (!xs.isEmpty)) H) : rBoolT K [.ref p] H Q := ⟨p, xs, rfl, h, q⟩
end
end L2
/-! texts of all codes: made or refused, shown, compared with anything -/
namespace Tx
open PySem L2
def dig (c : Nat) : List Nat := (Str.ofString (toString (c : Int))).cps.toList
def showC (c : Nat) : List Nat := if plainC c = true then [c] else 123 :: (dig c ++ [125])
def showT (cs : List Nat) : List Nat := (cs.map showC).flatten
theorem isC_le {c : Nat} (h : Cd.isC c = true) : c ≤ 65535 := by
  rcases Cd.isC_iff.mp h with h | h <;> omega
theorem str_dig (c : Nat) : Str.ofString (toString (c : Int)) = Cd.zs (dig c) := Cd.zs_ext rfl
theorem dig_len {c : Nat} (h : c ≤ 65535) : (dig c).length ≤ 10 := by
  have : (Str.ofString (toString (c : Int))).length ≤ 6 := by
    rw [PySem.ofString_length]
    exact int_text_length_le10 (k := 5) (by decide) (by have : (10 : Nat) ^ 5 = 100000 := by decide
                                                        omega)
  rw [len_list] at this
  exact Nat.le_trans this (by decide)
theorem showC_len {c : Nat} (h : c ≤ 65535) : (showC c).length ≤ 12 := by
  unfold showC
  split
  · exact (by decide : 1 ≤ 12)
  · have := dig_len h
    simp only [List.length_cons, List.length_append, List.length_nil]
    omega
theorem zs_app (a b : List Nat) : Cd.zs a ++ Cd.zs b = Cd.zs (a ++ b) := Cd.zs_ext (by rw [ap_list, Cd.zs_list, Cd.zs_list])
theorem lit_zs {z : Str} : z = Cd.zs z.cps.toList := Cd.zs_ext rfl
theorem brace_l : ("{" : Str) = Cd.zs [123] := by decide +kernel
theorem brace_r : ("}" : Str) = Cd.zs [125] := by decide +kernel
theorem braced (c : Nat) : ("{" : Str) ++ Str.ofString (toString (c : Int)) ++ ("}" : Str) = Cd.zs (123 :: (dig c ++ [125])) := by
  rw [brace_l, brace_r, str_dig, zs_app, zs_app]
  rfl
theorem showT_take (cs : List Nat) (i : Nat) {c : Nat} (h : cs[i]? = some c) : showT (cs.take (i + 1)) = showT (cs.take i) ++ showC c := by
  unfold showT
  rw [List.take_add_one, h, List.map_append, List.flatten_append]
  simp
theorem showT_split (cs : List Nat) (i : Nat) {c : Nat} (h : cs[i]? = some c) : showT cs = showT (cs.take i) ++ (showC c ++ showT (cs.drop (i + 1))) := by
  have e : cs = cs.take (i + 1) ++ cs.drop (i + 1) := (List.take_append_drop _ _).symm
  have : showT cs = showT (cs.take (i + 1)) ++ showT (cs.drop (i + 1)) := by
    conv => lhs; rw [e]
    unfold showT
    rw [List.map_append, List.flatten_append]
  rw [this, showT_take cs i h, List.append_assoc]
theorem showT_len {cs : List Nat} (h : ∀ c ∈ cs, c ≤ 65535) : (showT cs).length ≤ 12 * cs.length := by
  induction cs with
  | nil => exact Nat.le_refl _
  | cons c cs ih =>
    have a := showC_len (h c (List.mem_cons_self ..))
    have b := ih fun d hd => h d (List.mem_cons_of_mem _ hd)
    show (showC c ++ showT cs).length ≤ 12 * (cs.length + 1)
    rw [List.length_append]
    omega
def spShownX : Sp := fun vs H Q _ => ∃ c : Nat, vs = [iv c] ∧ c ≤ 65535 ∧ ∀ H1, Same H H1 → Q (.str (Cd.zs (showC c))) H1
def spStrX (K : PySem.W.Frag) (C : Addr) : Sp := fun vs H Q _ => ∃ a cs, vs = [.ref a] ∧ At K H C a cs ∧ cs.length ≤ 10000 ∧ (∀ c ∈ cs, c ≤ 65535) ∧ ∀ H1, Same H H1 → Q (.str (Cd.zs (showT cs))) H1
def showV : V → V
  | .int i => .str (Cd.zs (showC i.toNat))
  | v => v
theorem map_showV (cs : List Nat) : (cs.map iv).map showV = ((cs.map showC).map Cd.zs).map V.str := by
  rw [List.map_map, List.map_map, List.map_map]
  rfl
/-- the constructor, for anything -/
def spInitX (C Cb : Addr) : Sp := fun vs H Q E => ∃ x dx m H0, vs = [.ref x, m] ∧ H x = some (.ins C dx []) ∧ H0 x = none ∧ Same H0 H ∧ AnyO H0 m ∧
  ((Mk.isBody m = false ∧ Pw.Rs H0 E Cb "given" m) ∨ ∃ z, m = .str z ∧ Mk.isBody m = true ∧ ∀ H1 t, Same H0 H1 → H1 x = some (.ins C dx [("_codes", .ref t)]) → H1 t = some (.tup (z.cps.toList.map iv)) → Q .non H1)
section
variable {K : PySem.W.Frag} {C Cb : Addr} {H : Hp} {N : Addr → Hp → Prop} {E : XK} {m : V}
theorem n_text {z : Str} (hm : m = .str z) (a : AnyO H m) (b : Mk.isBody m = true) (q : ∀ x H1, H x = none → Same H H1 → At K H1 C x z.cps.toList → N x H1) : ∀ x dx, H x = none → H dx = none → dx ≠ x → spInitX C Cb (.ref x :: [m]) (upd (upd H dx (.own x)) x (.ins C dx [])) (fun v H2 => v = .non ∧ N x H2) E := fun x dx hx hdx ne =>
  ⟨x, dx, m, H, rfl, upd_same, hx, (same_new hdx).mut hx, a, .inr ⟨z, hm, b, fun H1 t s1 e1 e2 => ⟨rfl, q x H1 hx s1 ⟨dx, t, e1, SqT.of e2⟩⟩⟩⟩
theorem n_textB (a : AnyO H m) (b : Mk.isBody m = false) (k : Pw.Rs H E Cb "given" m) : ∀ x dx, H x = none → H dx = none → dx ≠ x → spInitX C Cb (.ref x :: [m]) (upd (upd H dx (.own x)) x (.ins C dx [])) (fun v H2 => v = .non ∧ N x H2) E := fun x dx hx hdx ne =>
  ⟨x, dx, m, H, rfl, upd_same, hx, (same_new hdx).mut hx, a, .inl ⟨b, k⟩⟩
end
/-- the first that is no code -/
def badC (xs : List V) (i : Nat) : Prop := (∀ j v, j < i → xs[j]? = some v → Mk.isCode v = true) ∧ ∃ v, xs[i]? = some v ∧ Mk.isCode v = false
def spOfX (K : PySem.W.Frag) (C Cc : Addr) : Sp := fun vs H Q E => ∃ y m, vs = [y, m] ∧ AnyO H m ∧
  ((L2.isTupH H m = false ∧ Pw.Rs H E Cc "place" .non) ∨
   ∃ t xs, m = .ref t ∧ H t = some (.tup xs) ∧ (∀ v ∈ xs, AnyO H v) ∧ ((∃ i : Nat, badC xs i ∧ Pw.Rs H E Cc "place" (.int i)) ∨ ∃ cs : List Nat, xs = cs.map iv ∧ (∀ c ∈ cs, Mk.isCode (iv c) = true) ∧ ∀ H1 a, Same H H1 → H a = none → At K H1 C a cs → Q (.ref a) H1))
/-- ==, with a text or with what is of a built-in kind -/
def spEqX (K : PySem.W.Frag) (C : Addr) : Sp := fun vs H Q _ => ∃ a cs y, vs = [.ref a, y] ∧ At K H C a cs ∧ ((∃ b ds, y = .ref b ∧ At K H C b ds ∧ Q (.bl (decide (cs = ds))) H) ∨ (BT H y ∧ Q (.bl false) H))
end Tx
namespace L2
open PySem
theorem isTup_same {H H' : Hp} {v : V} (a : AnyO H v) (s : Same H H') : isTupH H' v = isTupH H v := by
  cases a with
  | lst h => simp only [isTupH, h, s _ _ h]
  | tup h => simp only [isTupH, h, s _ _ h]
  | dic h => simp only [isTupH, h, s _ _ h]
  | _ => rfl
end L2
namespace Tx
open PySem L2
def isCV : V → Bool
  | .int i => decide (0 ≤ i) && Cd.isC i.toNat
  | _ => false
theorem isCV_of {v : V} (h : isCV v = true) : ∃ c : Nat, v = iv c ∧ Cd.isC c = true := by
  cases v with
  | int i =>
    have h : (decide (0 ≤ i) && Cd.isC i.toNat) = true := h
    rw [Bool.and_eq_true] at h
    have h0 := of_decide_eq_true h.1
    exact ⟨i.toNat, by unfold iv; rw [Int.toNat_of_nonneg h0], h.2⟩
  | _ => cases h
theorem isCV_rng {i : Int} (h : (32 ≤ i ∧ i ≤ 126 ∧ i ≠ 37) ∨ (160 ≤ i ∧ i ≤ 65535)) : isCV (.int i) = true := by
  show (decide (0 ≤ i) && Cd.isC i.toNat) = true
  rw [decide_eq_true (by omega), Bool.true_and]
  exact Cd.isC_iff.mpr (by omega)
def spLCode : Sp := fun vs H Q _ => ∃ (d l : Addr) (m : Nat), vs = [.ref d] ∧ Dr.Draw H d l m ∧ m < 900000 ∧ ∀ (c : Nat) H1, Cd.isC c = true → Dr.Draw H1 d l (m + 6) → Dr.Kp d H H1 → Q (iv c) H1
def spLPlain : Sp := fun vs H Q _ => ∃ c : Nat, vs = [iv c] ∧ Q (.bl (plainC c)) H
theorem plain_is (c : Nat) : plainC c = (decide (32 ≤ c) && decide (c ≤ 126) && !decide (c = 37)) := by
  rw [Bool.eq_iff_iff, show plainC c = Mk.isPlain (iv c) from rfl, Cd.isPlain_iff]
  simp [and_assoc]
/-- what the law makes of what is refused -/
def spMade : Sp := fun vs H Q _ => ∃ (k : Int) (m : V) (wd : Str) (v : V), vs = [.int k, m] ∧ AnyO H m ∧
  ((k = 0 ∧ Mk.isBody m = false ∧ wd = "text" ∧ v = m) ∨ (k = 1 ∧ L2.isTupH H m = false ∧ wd = "code" ∧ v = .non) ∨
   (k = 1 ∧ ∃ t xs i, m = .ref t ∧ H t = some (.tup xs) ∧ (∀ v ∈ xs, AnyO H v) ∧ badC xs i ∧ wd = "code" ∧ v = .int (i : Nat))) ∧ ∀ r H1, Same H H1 → H1 r = some (.lst [.str wd, v]) → Q (.ref r) H1
theorem ty_sqt {K : PySem.W.Frag} {H : Hp} {t : Addr} {xs : List V} (h : SqT K H t xs) : TyX K H (.ref t) (.type "tuple") := by
  rcases h with (h | ⟨o, h⟩) | ⟨o, its, n, h, c, _⟩
  · exact .base (.tup h)
  · exact .fTuple h
  · exact .kTuple h c
/-- codes as data to be shown -/
def dcs (cs : List Nat) : List PyData := cs.map fun (c : Nat) => PyData.int (c : Int)
theorem dz_cs {K : PySem.W.Frag} {H : Hp} : ∀ cs : List Nat, DzAll K H (cs.map iv) (dcs cs)
  | [] => .nil
  | c :: cs => .cons (.of (.int _) (by simp only [PyData.hasDict])) (dz_cs cs)
theorem sm_cs : ∀ cs : List Nat, (∀ c ∈ cs, c ≤ 65535) → SmZA (dcs cs) ∧ wgzA (dcs cs) ≤ 141 * cs.length ∧ PyData.depthAll (dcs cs) ≤ 1
  | [], _ => ⟨trivial, Nat.le_refl _, by simp [dcs, PyData.depthAll]⟩
  | c :: cs, h => by
    obtain ⟨a, b, d⟩ := sm_cs cs fun x hx => h x (List.mem_cons_of_mem _ hx)
    have hc := h c (List.mem_cons_self ..)
    refine ⟨⟨?_, a⟩, ?_, ?_⟩
    · simp only [SmZ]
      exact Nat.lt_trans (show (c : Int).natAbs < 100000 by omega) (by decide)
    · show wgz (.int (c : Int)) + 1 + wgzA (dcs cs) ≤ _
      simp only [wgz, List.length_cons]
      omega
    · show PyData.depthAll (.int (c : Int) :: dcs cs) ≤ 1
      simp only [PyData.depthAll, PyData.depth]
      omega
theorem shz_ct {cs : List Nat} (h : ∀ c ∈ cs, c ≤ 65535) (hl : cs.length ≤ 1000) : showsZ (.tuple (dcs cs)) := by
  obtain ⟨a, b, d⟩ := sm_cs cs h
  refine showsZ_of (by simp only [SmZ]; exact a) (by simp only [wgz]; omega) (by simp only [PyData.depth]; omega)
theorem sca_cs : ∀ cs : List Nat, (∀ c ∈ cs, c ≤ 65535) → ScA (cs.map iv) (dcs cs)
  | [], _ => .nil
  | c :: cs, h => .cons (.int _ (Nat.lt_trans (show (c : Int).natAbs < 100000 by have := h c (List.mem_cons_self ..); omega) (by decide))) (sca_cs cs fun x hx => h x (List.mem_cons_of_mem _ hx))
end Tx
namespace Tx
open PySem L2
def spRightT (K : PySem.W.Frag) (C : Addr) : Sp := fun vs H Q _ => ∃ a cs p, vs = [.ref a, .ref p] ∧ At K H C a cs ∧ H p = some (.lst (cs.map iv)) ∧ (∀ c ∈ cs, Cd.isC c = true) ∧ cs.length ≤ 100 ∧ ∀ H1, Same H H1 → Q (.bl true) H1
def oddV : V → Bool
  | .int i => !plainC i.toNat
  | _ => false
theorem odd_iv (cs : List Nat) : (cs.map iv).filter oddV = (cs.filter fun c => !plainC c).map iv := by
  rw [List.filter_map]
  rfl
theorem none_odd (cs : List Nat) : decide ((cs.filter fun c => !plainC c) = []) = cs.all plainC := by
  rw [Bool.eq_iff_iff, decide_eq_true_eq, List.filter_eq_nil_iff, List.all_eq_true]
  simp
theorem dp_cs {K : PySem.W.Frag} {H : Hp} : ∀ cs : List Nat, DpAll K H (cs.map iv) (dcs cs) := dps
theorem eqv_cs (cs ds : List Nat) : PyData.eqv (.list (dcs cs)) (.list (dcs ds)) = decide (cs = ds) := by
  rw [PyData.eqv]
  exact eqvAll_ints cs ds
theorem shp_cs (cs : List Nat) : SeqAt.shaped (.list (dcs cs)) = true := Cd.shaped_L cs
end Tx
namespace Tx
open PySem L2
theorem dz_b3 {K : PySem.W.Frag} {H : Hp} (a b c : Bool) : DzAll K H [.bl a, .bl b, .bl c] [.bool a, .bool b, .bool c] := .cons (.of (.bl _) rfl) (.cons (.of (.bl _) rfl) (.cons (.of (.bl _) rfl) .nil))
theorem shz_b3 (a b c : Bool) : showsZ (.list [.bool a, .bool b, .bool c]) := by
  refine showsZ_of ?_ ?_ ?_
  · simp only [SmZ, SmZA, and_self]
  · simp only [wgz, wgzA]
    decide
  · simp only [PyData.depth, PyData.depthAll]
    decide
theorem strX {K : PySem.W.Frag} {H : Hp} {C a : Addr} {cs : List Nat} {E : XK} {Q : VK} (h : At K H C a cs) (hl : cs.length ≤ 10000) (hp : ∀ c ∈ cs, c ≤ 65535) (q : ∀ H1, Same H H1 → Q (.str (Cd.zs (showT cs))) H1) : rStrO C (fun vs H Q E => spStrX K C (vs ++ []) H Q E) E [.ref a] H Q := by
  obtain ⟨dx, t, ha, ht⟩ := id h
  exact ⟨a, dx, _, rfl, ha, a, cs, rfl, h, hl, hp, fun H1 s1 => ⟨_, rfl, q H1 s1⟩⟩
theorem boolX {K : PySem.W.Frag} {H : Hp} {C a : Addr} {cs : List Nat} {E : XK} {Q : VK} (h : At K H C a cs) (q : Q (.bl (!decide (cs = []))) H) : rBoolO C (fun vs H Q E => spTruth K C (vs ++ []) H Q E) E [.ref a] H Q := by
  obtain ⟨dx, t, ha, ht⟩ := id h
  exact ⟨a, dx, _, rfl, ha, a, cs, rfl, h, _, rfl, q⟩
theorem show_at {cs : List Nat} {i c : Nat} (h : cs[i]? = some c) (p : plainC c = true) : (showT cs)[(showT (cs.take i)).length]? = some c ∧ (showT (cs.take i)).length < (showT cs).length ∧ (showT (cs.take (i + 1))).length = (showT (cs.take i)).length + 1 := by
  have e : showC c = [c] := if_pos p
  refine ⟨?_, ?_, ?_⟩
  · rw [showT_split cs i h, e, List.getElem?_append_right (Nat.le_refl _), Nat.sub_self]
    rfl
  · rw [showT_split cs i h, e]
    simp only [List.length_append, List.length_cons, List.length_nil]
    omega
  · rw [showT_take cs i h, e, List.length_append]
    rfl
theorem show_cut {cs : List Nat} {i c : Nat} (h : cs[i]? = some c) (p : ¬ plainC c = true) : ((showT cs).drop (showT (cs.take i)).length).take ((dig c).length + 2) = 123 :: (dig c ++ [125]) ∧ (showT (cs.take (i + 1))).length = (showT (cs.take i)).length + (dig c).length + 2 := by
  have e : showC c = 123 :: (dig c ++ [125]) := if_neg p
  have el : (showC c).length = (dig c).length + 2 := by rw [e]; simp
  refine ⟨?_, ?_⟩
  · rw [showT_split cs i h, List.drop_left, ← el, List.take_left, e]
  · rw [showT_take cs i h, List.length_append, el]
    omega
end Tx
namespace L2
open PySem
theorem n_tupL {K : PySem.W.Frag} {H : Hp} {p : Addr} {ys : List V} {Q : VK} (h : SqL K H p ys) (q : ∀ r H1, H r = none → Same H H1 → H1 r = some (.tup ys) → Q (.ref r) H1) : rTupOf K [.ref p] H Q := ⟨p, ys, rfl, .inl ⟨h, new_o q⟩⟩
end L2
namespace Tx
open PySem L2
def spRefT (K : PySem.W.Frag) : Sp := fun vs H Q _ => ∃ (d l : Addr) (m : Nat) (cs : List Nat) (p : Addr), vs = [.ref d, .ref p] ∧ Dr.Draw H d l m ∧ m < 900000 ∧ H p = some (.lst (cs.map iv)) ∧ (∀ c ∈ cs, Cd.isC c = true) ∧ cs.length ≤ 100 ∧ ∀ H1, Dr.Draw H1 d l (m + 4) → Dr.Kp d H H1 → Q (.bl true) H1
def oddsC (t : Addr) : List V := [.int 31, .int 37, .int 127, .int 159, .int 65536, .int (0 - 1), .bl true, .non, .str "a", .ref t, .int (10 ^ 30)]
theorem oddsC_ok {H : Hp} {t : Addr} (h : H t = some (.tup [.int 97])) : ∀ v ∈ oddsC t, AnyO H v ∧ Mk.isCode v = false := by
  intro v hv
  have hv : v ∈ ([.int 31, .int 37, .int 127, .int 159, .int 65536, .int (0 - 1), .bl true, .non, .str "a", .ref t, .int (10 ^ 30)] : List V) := hv
  simp only [List.mem_cons, List.not_mem_nil, or_false] at hv
  rcases hv with rfl | rfl | rfl | rfl | rfl | rfl | rfl | rfl | rfl | rfl | rfl
  · exact ⟨.int _, by decide +kernel⟩
  · exact ⟨.int _, by decide +kernel⟩
  · exact ⟨.int _, by decide +kernel⟩
  · exact ⟨.int _, by decide +kernel⟩
  · exact ⟨.int _, by decide +kernel⟩
  · exact ⟨.int _, by decide +kernel⟩
  · exact ⟨.bl _, rfl⟩
  · exact ⟨.non, rfl⟩
  · exact ⟨.str _ (by decide +kernel) (by decide +kernel), by decide +kernel⟩
  · exact ⟨.tup h, rfl⟩
  · exact ⟨.int _, by decide +kernel⟩
/-- what is no tuple, and what is no body, as the law draws them -/
def whatsC (a d : Addr) : List V := [.ref a, .non, .int 5, .str "abc", .ref d, .bl true]
theorem whatsC_ok {H : Hp} {a d : Addr} {xs : List V} (h1 : H a = some (.lst xs)) (h2 : H d = some (.dK [])) : ∀ v ∈ whatsC a d, AnyO H v ∧ L2.isTupH H v = false := by
  intro v hv
  have hv : v ∈ ([.ref a, .non, .int 5, .str "abc", .ref d, .bl true] : List V) := hv
  simp only [List.mem_cons, List.not_mem_nil, or_false] at hv
  rcases hv with rfl | rfl | rfl | rfl | rfl | rfl
  · exact ⟨.lst h1, by simp only [isTupH, h1]⟩
  · exact ⟨.non, rfl⟩
  · exact ⟨.int _, rfl⟩
  · exact ⟨.str _ (by decide +kernel) (by decide +kernel), rfl⟩
  · exact ⟨.dic h2, by simp only [isTupH, h2]⟩
  · exact ⟨.bl _, rfl⟩
def othersC (t d l : Addr) : List V := [.ref t, .non, .int 5, .str "a\nb", .ref d, .bl true, .ref l]
def OthC (H : Hp) (v : V) : Prop := Mk.isBody v = false ∧ ∃ y, L2.Od H v y ∧ SmZ y ∧ wgz y ≤ 20000 ∧ y.depth ≤ 2
theorem OthC.same {H H' : Hp} {v : V} (h : OthC H v) (s : Same H H') : OthC H' v := ⟨h.1, let ⟨y, o, r⟩ := h.2; ⟨y, o.same s, r⟩⟩
theorem othersC_ok {H : Hp} {t d l : Addr} {cs : List Nat} (hc : ∀ c ∈ cs, c ≤ 65535) (hl : cs.length ≤ 100) (h1 : H t = some (.tup (cs.map iv))) (h2 : H d = some (.dK [])) (h3 : H l = some (.lst [.str "a"])) : ∀ v ∈ othersC t d l, OthC H v := by
  intro v hv
  have hv : v ∈ ([.ref t, .non, .int 5, .str "a\nb", .ref d, .bl true, .ref l] : List V) := hv
  simp only [List.mem_cons, List.not_mem_nil, or_false] at hv
  obtain ⟨s1, s2, s3⟩ := sm_cs cs hc
  rcases hv with rfl | rfl | rfl | rfl | rfl | rfl | rfl
  · exact ⟨rfl, _, .tup h1 (sca_cs cs hc) (by rw [List.length_map]; exact hl), by simp only [SmZ]; exact s1, by simp only [wgz]; omega, by simp only [PyData.depth]; omega⟩
  · exact ⟨rfl, _, .sc .non, by simp only [SmZ], by simp only [wgz]; decide, by simp only [PyData.depth]; decide⟩
  · exact ⟨rfl, _, .sc (.int 5 (by decide)), by simp only [SmZ]; decide, by simp only [wgz]; decide, by simp only [PyData.depth]; decide⟩
  · exact ⟨by decide +kernel, _, .sc (.str _ (by decide +kernel) (by decide +kernel)), by simp only [SmZ]; decide +kernel, by simp only [wgz]; decide +kernel, by simp only [PyData.depth]; decide⟩
  · exact ⟨rfl, _, .dic h2, by simp only [SmZ], by simp only [wgz]; decide, by simp only [PyData.depth, PyData.depthKv]; decide⟩
  · exact ⟨rfl, _, .sc (.bl true), by simp only [SmZ], by simp only [wgz]; decide, by simp only [PyData.depth]; decide⟩
  · exact ⟨rfl, _, .lst h3 (.cons (.str "a" (by decide +kernel) (by decide +kernel)) .nil) (by decide), by simp only [SmZ, SmZA]; decide +kernel, by simp only [wgz, wgzA]; decide +kernel, by simp only [PyData.depth, PyData.depthAll]; decide⟩
theorem shz_wd {w : Str} {y : PyData} (hw : (PyData.strOk w && decide (w.length ≤ 1000)) = true) (h : SmZ y ∧ wgz y ≤ 20000 ∧ y.depth ≤ 2) : showsZ (.list [.str w, y]) := by
  rw [Bool.and_eq_true] at hw
  have hl := of_decide_eq_true hw.2
  refine showsZ_of ?_ ?_ ?_
  · simp only [SmZ, SmZA]
    exact ⟨hw.1, h.1, trivial⟩
  · simp only [wgz, wgzA]
    have := h.2.1
    omega
  · simp only [PyData.depth, PyData.depthAll]
    have := h.2.2
    omega
theorem dz_wd {K : PySem.W.Frag} {H : Hp} {w : Str} {v : V} {y : PyData} (h : Dz K H v y) : DzAll K H [.str w, v] [.str w, y] := .cons (.of (.str _) (by simp only [PyData.hasDict])) (.cons h .nil)
theorem sm_i (i : Nat) (h : i ≤ 1000) : SmZ (.int (i : Nat)) ∧ wgz (.int (i : Nat)) ≤ 20000 ∧ (PyData.int (i : Nat)).depth ≤ 2 := ⟨by simp only [SmZ]; exact Nat.lt_trans (show ((i : Nat) : Int).natAbs < 100000 by omega) (by decide), by simp only [wgz]; decide, by simp only [PyData.depth]; decide⟩
theorem sm_n : SmZ .none ∧ wgz .none ≤ 20000 ∧ PyData.none.depth ≤ 2 := ⟨by simp only [SmZ], by simp only [wgz]; decide, by simp only [PyData.depth]; decide⟩
/-- codes, one that is none, codes again -/
theorem bad_at {cs : List Nat} {i : Nat} {o : V} (hi : i ≤ cs.length) (hc : ∀ c ∈ cs, Cd.isC c = true) (ho : Mk.isCode o = false) (r : List V) : badC ((cs.take i).map iv ++ o :: r) i := by
  have hl : ((cs.take i).map iv).length = i := by rw [List.length_map, List.length_take]; omega
  refine ⟨fun j v hj hv => ?_, o, ?_, ho⟩
  · rw [List.getElem?_append_left (by omega), List.getElem?_map] at hv
    cases e : (cs.take i)[j]? with
    | none => rw [e] at hv; cases hv
    | some c =>
      rw [e] at hv
      rw [← Option.some.inj hv]
      exact hc c (List.mem_of_mem_take (List.mem_of_getElem? e))
  · rw [List.getElem?_append_right (by omega), hl, Nat.sub_self]
    rfl
end Tx
theorem Dr.Draw.ned {H : L2.Hp} {d l : PySem.Addr} {k : Nat} {p : PySem.Addr} (D : Dr.Draw H d l k) (n : H p = none) : p ≠ d := by
  obtain ⟨ns, a, lf, u, h, _⟩ := D
  intro z
  rw [z, h] at n
  cases n
namespace Tx
open PySem L2
theorem showT_plain {cs : List Nat} (h : ∀ c ∈ cs, plainC c = true) : showT cs = cs := by
  induction cs with
  | nil => rfl
  | cons c cs ih =>
    show showC c ++ showT cs = c :: cs
    rw [ih fun x hx => h x (List.mem_cons_of_mem _ hx), show showC c = [c] from if_pos (h c (List.mem_cons_self ..))]
    rfl
def plainV : V → Bool
  | .int i => plainC i.toNat
  | _ => false
theorem plain_iv (cs : List Nat) : (cs.map iv).filter plainV = (cs.filter plainC).map iv := by
  rw [List.filter_map]
  rfl
theorem any_ivs {H : Hp} (cs : List Nat) : ∀ v ∈ cs.map iv, AnyO H v := fun v hv => by
  obtain ⟨c, _, rfl⟩ := List.mem_map.mp hv
  exact .int _
theorem isC_plain {c : Nat} (h : plainC c = true) : Cd.isC c = true := by
  obtain ⟨a, b, d⟩ := Cd.isPlain_iff.mp h
  exact Cd.isC_iff.mpr (.inl ⟨a, by omega, d⟩)
/-- the text of a tuple of codes -/
theorem n_of {K : PySem.W.Frag} {C Cc t : Addr} {y : V} {H : Hp} {Q : VK} {E : XK} {cs : List Nat} (e : H t = some (.tup (cs.map iv))) (hc : ∀ c ∈ cs, Cd.isC c = true) (q : ∀ a H1, H a = none → Same H H1 → At K H1 C a cs → Q (.ref a) H1) : spOfX K C Cc [y, .ref t] H Q E :=
  ⟨y, .ref t, rfl, .tup e, .inr ⟨t, _, rfl, e, any_ivs cs, .inr ⟨cs, rfl, hc, fun H1 a s n A => q a H1 n s A⟩⟩⟩
/-- text == text -/
theorem g_eqT {K : PySem.W.Frag} {C a b : Addr} {H : Hp} {Q : VK} {E : XK} {cs ds : List Nat} {neg : Bool} (ty : ∀ (H : Hp) (a dx : Addr) (fs : List (Str × V)), H a = some (.ins C dx fs) → TyX K H (.ref a) (.ref C)) (A : At K H C a cs) (B : At K H C b ds) (q : Q (.bl (neg ^^ decide (cs = ds))) H) : rOwnE K C (fun vs H Q E => spEqX K C (vs ++ []) H Q E) E neg (.ref a) (.ref b) H Q := by
  obtain ⟨dx, t, ha, _⟩ := id A
  obtain ⟨dy, u, hb, _⟩ := id B
  exact g_ownE ha (ty _ _ _ _ hb) nf_self ⟨a, cs, .ref b, rfl, A, .inl ⟨b, ds, rfl, B, _, rfl, q⟩⟩
/-- text == anything of a built-in kind -/
theorem g_eqTB {K : PySem.W.Frag} {C a : Addr} {y : V} {H : Hp} {Q : VK} {E : XK} {cs : List Nat} {neg : Bool} (A : At K H C a cs) (b : BT H y) (q : Q (.bl (neg ^^ false)) H) : rOwnE K C (fun vs H Q E => spEqX K C (vs ++ []) H Q E) E neg (.ref a) y H Q := by
  obtain ⟨dx, t, ha, _⟩ := id A
  obtain ⟨nm, hnm, tx⟩ := b.tyx (K := K)
  exact g_ownE ha tx (nf_bt hnm) ⟨a, cs, y, rfl, A, .inr ⟨b, _, rfl, q⟩⟩
/-- .. and the other way round -/
theorem g_eqBT {K : PySem.W.Frag} {C a : Addr} {y : V} {H : Hp} {Q : VK} {E : XK} {cs : List Nat} (A : At K H C a cs) (b : BT H y) (q : Q (.bl false) H) : rOwnR K C (fun vs H Q E => spEqX K C (vs ++ []) H Q E) E y (.ref a) H Q := by
  obtain ⟨dx, t, ha, _⟩ := id A
  exact ⟨a, dx, _, rfl, ha, b, a, cs, y, rfl, A, .inr ⟨b, _, rfl, q⟩⟩
end Tx
namespace Tx
open PySem L2
theorem At.kp {K : PySem.W.Frag} {H H' : Hp} {C a d l : Addr} {m : Nat} {cs : List Nat} (h : At K H C a cs) (D : Dr.Draw H d l m) (k : Dr.Kp d H H') : At K H' C a cs := by
  obtain ⟨dx, t, h1, h2⟩ := h
  obtain ⟨kvs, e⟩ : ∃ kvs, H d = some (.dK kvs) := by
    obtain ⟨ns, a, lf, u, h, _⟩ := D
    exact ⟨_, h⟩
  exact ⟨dx, t, k _ _ (D.ne' h1 (by intro kv z; cases z)) h1, Cd.sqt_kp h2 e k⟩
end Tx
/-! an own object's items; static methods by keywords -/
namespace L2
open PySem PySem.Spec PyProof.Rows
def rIxO (C : Addr) (sp : Sp) (E : XK) : R2 := fun x y H Q => ∃ a dx fs, x = .ref a ∧ H a = some (.ins C dx fs) ∧ sp [.ref a, y] H Q E
section
variable {X : Cx} {CX : CXT} {k : Nat} {C f : Addr} {sp : Sp} {E : XK}
theorem pe_ixO {a b : Expr} {pos : Pos} {ta tb : TE} (F : FnR X.prog X.w X.K X.mg X.base CX k f sp) (hr : Room (k + 1) X.A) (hx : Passes CX X E) (hs : PySem.W.findIn X.K (.ref C) "__getitem__" = some (some (.ref f))) (hf : PySem.W.isFn X.K (.ref f) = true) (hn : PySem.W.fnIn X.K f = true) (ha : PE X a ta) (hb : PE X b tb)
    (hsl : ∀ o i, subscripted b true o i = runValue (.builtin "lifetime.subscript" ⟨[o, i], []⟩)) : PE X (.Subscript a b pos) (tOp (rIxO C sp E) ta tb) := by
  refine ⟨fun pins s σ H Q I h => ?_⟩
  refine Subscript_ (binT ha hb I h fun v u s2 x y H2 I2 rx ry q => ?_)
  obtain ⟨p, dx, fs, rfl, ea, q⟩ := q
  cases rx
  obtain ⟨ox, od, J⟩ := inst_of I2 ea
  obtain ⟨m, hF⟩ := I2.fr
  exact PySem.W.sub_K hF I2.ok.mod.kin J hs hn hf (wpAny_mono (run_sub (vs := [.ref p, y]) F hr.in1 rfl hx I2 (.cons rfl (.cons ry .nil)) q) (fun _ _ z => z) fun _ _ z => z) (hsl _ _)
end
section
open ClX
variable {X : Cx} {CX : CXT} {k : Nat} {C p g : Addr} {fd : FuncData} {ps ks : List Str} {mc : Value} {sp : Sp} {E : XK} {o : Expr} {m : Str} {pos apos : Pos} {ta : TE} {tk : TA} {pl : Sem Bool} {kws : List Keyword} {ix : List Nat}
def tSMethK (C : Addr) (sp : Sp) (n : Nat) (ix : List Nat) (E : XK) (ta : TE) (t : TA) : TE := fun σ H Q => ta σ H fun x H1 => x = .ref C ∧ t σ H1 fun vs H2 => vs.length = n ∧ sp (picked V.non ix vs) H2 Q E
theorem pe_smethK (he : PE X o ta) (r : ClX.CRead X.K C mc) (c : SMet X.K C mc m p g) (F : FnOk X.prog X.w X.K X.mg X.base CX k g fd ps sp) (hr : Room k X.A) (hb : KwB X.K fd ps ks ix) (hx : Passes CX X E) (hkw : PK X kws tk)
    (hall : (backToKw pos (keywordEach kws X.env)).all (·.1.isSome) = true := by rfl) (hks : (backToKw pos (keywordEach kws X.env)).filterMap (·.1) = ks := by rfl)
    (hpl : ((backTo pos (starEach [] X.env)).any (·.1) || (backToKw pos (keywordEach kws X.env)).any (·.1.isNone)) = false := by rfl)
    (ht : eval (.Call (.Attribute o m apos) [] kws pos) X.env = (do
      let ov ← eval o X.env
      standAt apos.atName
      let (f, first) ← holding [ov] (getMethod ov m pl)
      callWith pos f first (backTo pos (starEach [] X.env)) (backToKw pos (keywordEach kws X.env))) := by rfl) :
    PE X (.Call (.Attribute o m apos) [] kws pos) (tSMethK C sp ks.length ix E ta tk) := by
  refine ⟨fun pins s σ H Q I h => ?_⟩
  refine PySem.W.methodCall_KW (pl := pl) (thn (he.run pins s σ H _ I h) fun u s1 ⟨x, H1, I1, rx, ex, q⟩ => ?_) ht
  subst ex
  obtain rfl : u = Value.ref C := rx
  obtain ⟨rest, hp⟩ := c.rc
  refine PySem.W.method_cls I1.kIn r.ga ?_
  refine PySem.W.cls_bind I1.kIn r.rd c.at_ (wpAny_call (PySem.W.sm_get (s := { s1 with toks := s1.toks + 1 }) I1.kIn hp (PySem.W.handed_on rfl ?_)))
  have I2 := I1.tok (s1.toks + 1)
  refine PySem.W.callWith_KW0 (h₀ := X.base) I2.ok.mod.kin c.kp hall (thn (hkw.run pos pins _ σ H1 _ I2 q) fun ws s3 ⟨zs, H2, I3, rz, hz, q2⟩ => ⟨I3.kIn, ?_⟩) hpl
  rw [hks]
  refine wpAny_call (codeAny_mono (F.run X.A X.stack s3 H2 ⟨[], ks.zip ws⟩ (picked Value.none ix ws) (picked V.non ix zs) Q E hr I3.env0 (hb.2 s3 ws I3.kIn (rz.length.symm.trans hz)) (picked_vals rz ix) q2) fun o s4 hq => ?_)
  match o, hq with
  | .error e, hq => exact hx pins σ H2 s3 e s4 I3 hq
  | .ok (.ret u), hq => exact I3.after hq
theorem g_smethK {n : Nat} {σ : St} {H : Hp} {Q : VK} (h : ta σ H fun x H1 => x = .ref C ∧ tk σ H1 fun vs H2 => vs.length = n ∧ sp (picked V.non ix vs) H2 Q E) : tSMethK C sp n ix E ta tk σ H Q := h
end
end L2
/-! != of lists that hold the same objects -/
namespace L2
open PySem PySem.Spec PyProof.Rows
section
open AutoSeq1 (wpAny_loadPart')
open MeetsSeq MeetsSeq2 MeetsSeq3 SeqRoads2
variable {prog : Program} {w : World} {A : Around} {R : Result → Shared → Prop}
theorem ne_loopG (l b : Addr) (N : Nat) (I : Nat → Shared → Prop) (hl : GQ.ListI prog w A (fun e s' => R (.error e) s') l b N I)
    (fin : ∀ s, I N s → R (.ok (.ret (.bool false))) s) (k : Nat) :
    ∀ i : Nat, N - i = k → i ≤ N → ∀ s, I i s →
      wpAny (model prog w) A.in1 (Builtin.«list.__eq__.loop» ⟨[.ref l, .ref b, rawInt i, rawInt 3], []⟩) (GQ.FinOf prog w A R) (fun e s' => R (.error e) s') s := by
  induction k with
  | zero =>
    intro i hk hi s h
    obtain ⟨items, items2, n, n2, hl1, hb1, hs1, hs2, _⟩ := hl _ _ h
    have hi' : i = N := by omega
    have hR : R (.ok (.ret (.bool false))) s := fin s (hi' ▸ h)
    obtain ⟨hp, g, d, tk, os⟩ := s
    wp_walk using wpAny_loadPart' hl1, wpAny_loadPart' hb1
    have hi1 : items[((i : Nat) : Int).toNat]? = none := by simp; omega
    have hi2 : items2[((i : Nat) : Int).toNat]? = none := by simp; omega
    rw [hi1, hi2]
    wp_walk using wpAny_loadPart' hl1, wpAny_loadPart' hb1
    show R (.ok (.ret (.bool (items.size != items2.size)))) _
    rw [hs1, hs2]
    simpa using hR
  | succ k ih =>
    intro i hk hi s h
    obtain ⟨items, items2, n, n2, hl1, hb1, hs1, hs2, turn⟩ := hl _ _ h
    have hlt : i < items.size := by omega
    have hlt2 : i < items2.size := by omega
    have ht := turn hlt hlt2
    obtain ⟨hp, g, d, tk, os⟩ := s
    wp_walk using wpAny_loadPart' hl1, wpAny_loadPart' hb1
    have hi1 : items[((i : Nat) : Int).toNat]? = some items[i] := by simp [hlt]
    have hi2 : items2[((i : Nat) : Int).toNat]? = some items2[i] := by simp [hlt2]
    have hc : ((i : Int) + 1) = ((i + 1 : Nat) : Int) := by omega
    rw [hi1, hi2]
    refine wpAny_bind (wpAny_mono ht (fun r s2 h2 => ?_) fun _ _ x => x)
    obtain ⟨hr, h2⟩ := h2
    subst hr
    have hrec := ih (i + 1) (by omega) (by omega) s2 h2
    obtain ⟨hp2, g2, d2, tk2, os2⟩ := s2
    wp_walk
    rw [hc]
    exact ⟨plainId_quiet plain_eq_loop _, codeAny_builtin entry_eq_loop (by
      rw [Around.under_plainId plain_eq_loop _]
      exact hrec)⟩
theorem list_neG (l b : Addr) (N : Nat) (I : Nat → Shared → Prop) (hl : GQ.ListI prog w A (fun e s' => R (.error e) s') l b N I)
    (fin : ∀ s, I N s → R (.ok (.ret (.bool false))) s) {s : Shared} (h : I 0 s) :
    wpAny (model prog w) A.in1 (Builtin.«list.__ne__» ⟨[.ref l, .ref b], []⟩) (GQ.FinOf prog w A R) (fun e s' => R (.error e) s') s := by
  obtain ⟨items, items2, n, n2, hl1, hb1, hs1, hs2, _⟩ := hl _ _ h
  have hrec := ne_loopG (A := A) (R := R) l b N I hl fin _ 0 rfl (Nat.zero_le _) s h
  obtain ⟨hp, g, d, tk, os⟩ := s
  have f3 := AutoSeq1.sub_list_list
  have hne : ¬ (items.size != items2.size) = true := by simp [hs1, hs2]
  wp_walk using wpAny_loadPart' hl1, wpAny_loadPart' hb1
  exact ⟨plainId_quiet plain_eq_loop _, codeAny_builtin entry_eq_loop (by
    rw [Around.under_plainId plain_eq_loop _]
    exact hrec)⟩
theorem rc_neL {E : Value → Shared → Prop} {l b : Addr} {N : Nat} {Q : Value → Shared → Prop} {s : Shared} (hu : A.units < cLine) (I : Nat → Shared → Prop) (hl : GQ.ListI prog w A E l b N I)
    (fin : ∀ s, I N s → Q (.bool false) s) (h : I 0 s) : wpAny (model prog w) A (richCompare .NotEq (.ref l) (.ref b)) Q E s := by
  obtain ⟨items, items2, n, n2, hl1, hb1, _, _, _⟩ := hl _ _ h
  refine wpAny_richCompare_same_room (op := .NotEq) ⟨_, hl1, rfl⟩ ⟨_, hb1, rfl⟩ F.slot_list_ne (GQ.call_here F.slot_list_ne ⟨_, hl1, rfl⟩ F.entry_list_ne (F.args_list_ne_2 _ _) ?_) hu
  exact list_neG (R := wants (fun v s' => v ≠ .notImplemented ∧ Q v s') E) l b N I hl (fun s' q => ⟨(fun x => nomatch x), fin s' q⟩) h
end
/-- l != m, lists whose items are equal by D: False -/
def rNeL (D : Eqv) : R2 := fun x y H Q => DList D x y H ∧ ∀ H1, Ext H H1 → Q (.bl false) H1
theorem op_neL {X : Cx} {n : Nat} {D : Eqv} (hD : Mon D) (h : EqG X n D) (hr : Room (n + 1) X.A) : OpR X (compareOp .NotEq) (rNeL D) := by
  intro pins s σ H x y u v Q I rx ry hq
  obtain ⟨⟨a, b, xs, ys, rfl, rfl, ha, hb, p⟩, q⟩ := hq
  cases rx
  cases ry
  show wpAny (model X.prog X.w) X.A (richCompare .NotEq (.ref a) (.ref b)) (EP X pins σ Q) X.xe s
  refine rc_neL (N := xs.length) hr.units0 (fun _ s' => LoopI X pins σ H s') (fun i s' q => ?_) (fun s' z => ?_) ⟨H, I, Ext.rfl'⟩
  · obtain ⟨H1, I1, e1⟩ := id q
    obtain ⟨z, its, k, r, e⟩ := I1.hok a _ (e1 _ _ ha)
    obtain ⟨z2, its2, k2, r2, e2⟩ := I1.hok b _ (e1 _ _ hb)
    refine ⟨its.toArray, its2.toArray, k, k2, e, e2, by rw [List.size_toArray, ← r.length], by rw [List.size_toArray, ← r2.length, ← p.1], fun h1 h2 => ?_⟩
    exact turnG hD h ⟨hr, rfl⟩ p r r2 i h1 h2 s' q
  · obtain ⟨H1, I1, ee⟩ := z
    exact ⟨.bl false, H1, I1, rfl, q H1 ee⟩
/-- .. that hold the very same -/
def rNeSelf : R2 := rNeL DSelf
theorem op_neSelf {X : Cx} (hr : Room 1 X.A) : OpR X (compareOp .NotEq) rNeSelf := op_neL mon_self (eqG_self (n := 0)) hr
theorem g_neSelf {H : Hp} {Q : VK} {a b : Addr} {xs : List V} (ha : H a = some (.lst xs)) (hb : H b = some (.lst xs)) (h : ∀ v ∈ xs, flatR v) (q : ∀ H1, Same H H1 → Q (.bl false) H1) : rNeSelf (.ref a) (.ref b) H Q := ⟨⟨a, b, xs, xs, rfl, rfl, ha, hb, prs_self h⟩, q⟩
end L2
namespace Tx
open PySem L2
def NoTexts (K : PySem.W.Frag) (C : Addr) (H : Hp) (f : V) : Prop := (AnyO H f ∧ isTupH H f = false) ∨ ∃ t xs bs, f = .ref t ∧ H t = some (.tup xs) ∧ Paired (fun v b => (b = true ∧ ∃ a row, v = V.ref a ∧ At K H C a row) ∨ (b = false ∧ BT H v)) xs bs ∧ bs.all id = false ∧ xs.length ≤ 1000
theorem NoTexts.same {K : PySem.W.Frag} {C : Addr} {H H' : Hp} {f : V} (h : NoTexts K C H f) (s : Same H H') : NoTexts K C H' f := by
  rcases h with ⟨a, b⟩ | ⟨t, xs, bs, e, ht, p, r⟩
  · exact .inl ⟨a.same s, (isTup_same a s).trans b⟩
  · refine .inr ⟨t, xs, bs, e, s _ _ ht, Paired.mapP p fun v b h => ?_, r⟩
    rcases h with ⟨hb, a, row, ev, A⟩ | ⟨hb, bt⟩
    · exact .inl ⟨hb, a, row, ev, A.same s⟩
    · exact .inr ⟨hb, bt.same s⟩
def spGetX (K : PySem.W.Frag) (C Cn : Addr) : Sp := fun vs H Q E => ∃ a cs k, vs = [.ref a, k] ∧ At K H C a cs ∧ AnyO H k ∧ ((Mk.btw k 0 ((cs.length : Int) - 1) = false ∧ Pw.Rs H E Cn "given" k) ∨ ∃ j c : Nat, k = iv j ∧ cs[j]? = some c ∧ Q (iv c) H)
def spPartX (K : PySem.W.Frag) (C Cb : Addr) : Sp := fun vs H Q E => ∃ a cs f s, vs = [.ref a, f, s] ∧ At K H C a cs ∧ AnyO H f ∧ AnyO H s ∧
  ((Mk.btw f 0 (cs.length : Int) = false ∧ Pw.Rs H E Cb "given" f) ∨ ∃ i : Nat, f = iv i ∧ i ≤ cs.length ∧ ((Mk.btw s (i : Int) (cs.length : Int) = false ∧ Pw.Rs H E Cb "given" s) ∨ ∃ j : Nat, s = iv j ∧ i ≤ j ∧ j ≤ cs.length ∧ ∀ H1 b, Same H H1 → H b = none → At K H1 C b ((cs.drop i).take (j - i)) → Q (.ref b) H1))
def spJoinX (K : PySem.W.Frag) (C Ct : Addr) : Sp := fun vs H Q E => ∃ m, vs = [m] ∧ ((NoTexts K C H m ∧ Pw.Rs H E Ct "given" m) ∨ ∃ p ps rows, m = .ref p ∧ H p = some (.tup (ps.map V.ref)) ∧ Paired (fun x row => At K H C x row) ps rows ∧ rows.length ≤ 1000 ∧ (joinC rows).length ≤ 50000 ∧ ∀ H1 b, Same H H1 → H b = none → At K H1 C b (joinC rows) → Q (.ref b) H1)
def spContX (K : PySem.W.Frag) (C : Addr) : Sp := fun vs H Q _ => ∃ a cs x, vs = [.ref a, x] ∧ At K H C a cs ∧ ((AnyO H x ∧ ∀ H1, Same H H1 → Q (.bl (Mk.isCode x && inV x (cs.map iv))) H1) ∨ (∃ b ds, x = .ref b ∧ At K H C b ds ∧ ∀ H1, Same H H1 → Q (.bl false) H1))
/-- is_code and what it calls, of a text -/
def OwnT (K : PySem.W.Frag) (C : Addr) (H : Hp) (v : V) : Prop := ∃ b ds, v = .ref b ∧ At K H C b ds
def spNumT (K : PySem.W.Frag) (C : Addr) : Sp := fun vs H Q _ => ∃ v, vs = [v] ∧ OwnT K C H v ∧ Q (.bl false) H
def spBtwT (K : PySem.W.Frag) (C : Addr) : Sp := fun vs H Q _ => ∃ v lo hi, vs = [v, .int lo, .int hi] ∧ OwnT K C H v ∧ Q (.bl false) H
/-- what the law asks of a text that is refused: f, then s -/
def Refd (K : PySem.W.Frag) (C : Addr) (H : Hp) (cs : List Nat) (k : Int) (f s v : V) (i : Nat) : Prop :=
  (k = 0 ∧ AnyO H f ∧ Mk.btw f 0 ((cs.length : Int) - 1) = false ∧ v = f ∧ i = 0) ∨
  (k = 1 ∧ AnyO H f ∧ Mk.btw f 0 (cs.length : Int) = false ∧ v = f ∧ i = 1) ∨
  (k = 1 ∧ (∃ j : Nat, f = iv j ∧ j ≤ cs.length ∧ Mk.btw s (j : Int) (cs.length : Int) = false) ∧ v = s ∧ i = 1) ∨
  (k = 2 ∧ NoTexts K C H f ∧ v = f ∧ i = 2)
theorem Refd.same {K : PySem.W.Frag} {C : Addr} {H H' : Hp} {cs : List Nat} {k : Int} {f s v : V} {i : Nat} (h : Refd K C H cs k f s v i) (e : Same H H') : Refd K C H' cs k f s v i := by
  rcases h with ⟨a, b, r⟩ | ⟨a, b, r⟩ | h | ⟨a, b, r⟩
  · exact .inl ⟨a, b.same e, r⟩
  · exact .inr (.inl ⟨a, b.same e, r⟩)
  · exact .inr (.inr (.inl h))
  · exact .inr (.inr (.inr ⟨a, b.same e, r⟩))
def clsOf (Cn Cb Ct : Addr) (i : Nat) : Addr := match i with | 0 => Cn | 1 => Cb | _ => Ct
def wdOf (i : Nat) : Str := match i with | 0 => "none" | 1 => "number" | _ => "text"
def spDoneX (K : PySem.W.Frag) (C Cn Cb Ct : Addr) : Sp := fun vs H Q E => ∃ k a cs f s v i, vs = [.int k, .ref a, f, s] ∧ At K H C a cs ∧ AnyO H s ∧ Refd K C H cs k f s v i ∧ Pw.Rs H E (clsOf Cn Cb Ct i) "given" v
def spWordT (K : PySem.W.Frag) (C : Addr) : Sp := fun vs H Q _ => ∃ k a cs f s v i, vs = [.int k, .ref a, f, s] ∧ At K H C a cs ∧ AnyO H s ∧ Refd K C H cs k f s v i ∧ ∀ r H1, H r = none → Same H H1 → H1 r = some (.lst [.str (wdOf i), v]) → Q (.ref r) H1
end Tx
namespace Tx
open PySem L2
theorem flat_code {x : V} (h : Mk.isCode x = true) : flatV x = true := by
  cases x with
  | ref a => cases h
  | ty a => cases h
  | byt a => cases h
  | flt a => cases h
  | _ => rfl
theorem bools_list (bs : List Bool) : (List.range bs.length).map (fun i => V.bl (bs.getD i true)) = bs.map V.bl := by
  apply List.ext_getElem
  · simp
  · intro i h1 h2
    simp at h1
    simp [List.getD_eq_getElem?_getD, List.getElem?_eq_getElem h1]
end Tx
namespace Tx
open PySem L2 Pl
def LRows (H : Hp) (ps : List Addr) (rows : List (List Nat)) : Prop := Paired (fun x row => H x = some (.lst (row.map iv))) ps rows
def spLCut : Sp := fun vs H Q _ => ∃ (a : Addr) (cs : List Nat), vs = [.ref a] ∧ H a = some (.lst (cs.map iv)) ∧ cs.length ≤ 1000 ∧ ∀ H1 (q : Addr) (ps : List Addr), Same H H1 → H1 q = some (.lst (ps.map V.ref)) → LRows H1 ps (cutC cs) → Q (.ref q) H1
theorem refd_i {K : PySem.W.Frag} {C : Addr} {H : Hp} {cs : List Nat} {k : Int} {f s v : V} {i : Nat} (h : Refd K C H cs k f s v i) : i = 0 ∨ i = 1 ∨ i = 2 := by
  rcases h with h | h | h | h
  · exact .inl h.2.2.2.2
  · exact .inr (.inl h.2.2.2.2)
  · exact .inr (.inl h.2.2.2)
  · exact .inr (.inr h.2.2.2)
end Tx
namespace Tx
open PySem L2 Pl
def spPartsR (K : PySem.W.Frag) (C : Addr) : Sp := fun vs H Q _ => ∃ (d l : Addr) (m : Nat) (a : Addr) (cs : List Nat) (p : Addr), vs = [.ref d, .ref a, .ref p] ∧ Dr.Draw H d l m ∧ m < 900000 ∧ At K H C a cs ∧ H p = some (.lst (cs.map iv)) ∧ (∀ c ∈ cs, Cd.isC c = true) ∧ cs.length ≤ 100 ∧ ∀ H1, Dr.Draw H1 d l (m + 3) → Dr.Kp d H H1 → Q (.bl true) H1
end Tx
namespace L2
open PySem
theorem op_notInK {X : Cx} {K : PySem.W.Frag} (h : X.K = K) : OpR X (compareOp .NotIn) (rIn K true) := h ▸ op_notIn_seq
theorem op_inK {X : Cx} {K : PySem.W.Frag} (h : X.K = K) : OpR X (compareOp .In) (rIn K false) := h ▸ op_in_seq
end L2
namespace L2
open PySem
/-! ### comprehensions whose steps make an object each -/
section
variable {K : PySem.W.Frag} {J : It} {n : Nat} {g : TG} {te : TE} {vs : List Nat} {σ : St} {H1 : Hp} {D : Addr} {Qd : Hp → Prop}
theorem lc_mk {G : Hp → Prop} {it : Nat → V} (R : Nat → Addr → Hp → Prop) (hR : ∀ i r H H' l, R i r H → H D = some (.lst l) → Dr.Kp D H H' → R i r H') (w : Walk J n G (fun i H x H' => H' = H ∧ x = it i)) (hG : ∀ H, Same H1 H → G H) (hD : H1 D = none) (hn : n ≤ 100000)
    (hs : ∀ i H (N : V → Hp → Prop), i < n → Same H1 H → H D ≠ none → (∀ H4 r, Same H H4 → R i r H4 → N (.ref r) H4) → g (it i) (wipe σ vs) H fun σ2 H2 => wipe σ2 vs = wipe σ vs ∧ te σ2 H2 N)
    (hd : ∀ H (rs : List Addr), Same H1 H → H D = some (.lst (rs.map V.ref)) → rs.length = n → (∀ i r, rs[i]? = some r → R i r H) → Qd H) :
    ∃ W : Nat → Nat → Hp → Prop, (∃ m, W 0 m (upd H1 D (.lst []))) ∧ ∀ i m H, W i m H →
      (J.stop i H ∧ Qd H) ∨ (J.go i H ∧ ∃ Nx : Hp → Prop, (∀ H', Nx H' → ∃ m', m' < m ∧ W (i + 1) m' H') ∧ ∀ x H', J.yld i H x H' → g x (wipe σ vs) H' fun σ2 H2 => wipe σ2 vs = wipe σ vs ∧ tYes σ2 H2 fun b H3 =>
        if b = true then te σ2 H3 fun y H4 => ∃ acc, H4 D = some (.lst acc) ∧ acc.length < sizeLine ∧ Nx (upd H4 D (.lst (acc ++ [y]))) else Nx H3) := by
  refine lc_it w (fun i H => ∃ rs : List Addr, Same H1 H ∧ H D = some (.lst (rs.map V.ref)) ∧ rs.length = i ∧ ∀ j r, rs[j]? = some r → R j r H) ⟨[], same_new hD, upd_same, rfl, fun j r h => (nomatch h)⟩ (fun i H _ p => hG H p.choose_spec.1) (fun i x H H' hi p y => ?_) fun H p => by
    obtain ⟨rs, p1, p2, p3, p4⟩ := p
    exact hd H rs p1 p2 p3 p4
  obtain ⟨rs, p1, p2, p3, p4⟩ := p
  obtain ⟨rfl, rfl⟩ := y
  refine hs i H' _ hi p1 (by rw [p2]; exact fun z => nomatch z) fun H4 r s4 hr => ?_
  have e4 := s4 _ _ p2
  have k : Dr.Kp D H4 (upd H4 D (.lst (rs.map V.ref ++ [V.ref r]))) := fun p o n e => by rw [upd_ne n]; exact e
  refine ⟨_, e4, ?_, rs ++ [r], (p1.trans s4).mut hD, ?_, ?_, ?_⟩
  · rw [List.length_map, p3]
    exact Nat.lt_of_lt_of_le hi (Nat.le_trans hn (by decide))
  · rw [upd_same, List.map_append]
    rfl
  · rw [List.length_append, p3]
    rfl
  · intro j r' hj
    rw [List.getElem?_append] at hj
    split at hj
    · refine hR _ _ _ _ _ (hR _ _ _ _ _ (p4 j r' hj) p2 fun p o _ e => s4 p o e) e4 k
    · have jl : j = rs.length := by
        have := (List.getElem?_eq_some_iff.mp hj).1
        simp only [List.length_cons, List.length_nil] at this
        omega
      rw [jl, Nat.sub_self] at hj
      obtain rfl : r = r' := by simpa using hj
      rw [jl, p3]
      exact hR _ _ _ _ _ hr e4 k
end
section
variable {K : PySem.W.Frag} {g : TG} {te : TE} {vs : List Nat} {σ : St} {H1 : Hp} {D : Addr} {Qd : Hp → Prop} {a : Addr} {xs : List V}
theorem lc_mkT (R : Nat → Addr → Hp → Prop) (hR : ∀ i r H H' l, R i r H → H D = some (.lst l) → Dr.Kp D H H' → R i r H') (ha : SqT K H1 a xs) (hD : H1 D = none) (hn : xs.length ≤ 100000)
    (hs : ∀ i x H (N : V → Hp → Prop), xs[i]? = some x → Same H1 H → H D ≠ none → (∀ H4 r, Same H H4 → R i r H4 → N (.ref r) H4) → g x (wipe σ vs) H fun σ2 H2 => wipe σ2 vs = wipe σ vs ∧ te σ2 H2 N)
    (hd : ∀ H (rs : List Addr), Same H1 H → H D = some (.lst (rs.map V.ref)) → rs.length = xs.length → (∀ i r, rs[i]? = some r → R i r H) → Qd H) :
    ∃ W : Nat → Nat → Hp → Prop, (∃ m, W 0 m (upd H1 D (.lst []))) ∧ ∀ i m H, W i m H →
      ((Itt K a).stop i H ∧ Qd H) ∨ ((Itt K a).go i H ∧ ∃ Nx : Hp → Prop, (∀ H', Nx H' → ∃ m', m' < m ∧ W (i + 1) m' H') ∧ ∀ x H', (Itt K a).yld i H x H' → g x (wipe σ vs) H' fun σ2 H2 => wipe σ2 vs = wipe σ vs ∧ tYes σ2 H2 fun b H3 =>
        if b = true then te σ2 H3 fun y H4 => ∃ acc, H4 D = some (.lst acc) ∧ acc.length < sizeLine ∧ Nx (upd H4 D (.lst (acc ++ [y]))) else Nx H3) := by
  refine lc_mk (n := xs.length) (it := fun i => xs.getD i .non) (G := fun H => SqT K H a xs) R hR (walk_tup.mono (fun _ h => h) fun i H x H' hi _ y => ⟨y.1, ?_⟩) (fun H s => s.sqt ha) hD hn (fun i H N hi s nd k => ?_) hd
  · rw [List.getD_eq_getElem?_getD, y.2]
    rfl
  · refine hs i _ H N ?_ s nd k
    rw [List.getD_eq_getElem?_getD, List.getElem?_eq_getElem hi]
    rfl
theorem lc_mkL (R : Nat → Addr → Hp → Prop) (hR : ∀ i r H H' l, R i r H → H D = some (.lst l) → Dr.Kp D H H' → R i r H') (ha : SqL K H1 a xs) (hD : H1 D = none) (hn : xs.length ≤ 100000)
    (hs : ∀ i x H (N : V → Hp → Prop), xs[i]? = some x → Same H1 H → H D ≠ none → (∀ H4 r, Same H H4 → R i r H4 → N (.ref r) H4) → g x (wipe σ vs) H fun σ2 H2 => wipe σ2 vs = wipe σ vs ∧ te σ2 H2 N)
    (hd : ∀ H (rs : List Addr), Same H1 H → H D = some (.lst (rs.map V.ref)) → rs.length = xs.length → (∀ i r, rs[i]? = some r → R i r H) → Qd H) :
    ∃ W : Nat → Nat → Hp → Prop, (∃ m, W 0 m (upd H1 D (.lst []))) ∧ ∀ i m H, W i m H →
      ((Itl K a).stop i H ∧ Qd H) ∨ ((Itl K a).go i H ∧ ∃ Nx : Hp → Prop, (∀ H', Nx H' → ∃ m', m' < m ∧ W (i + 1) m' H') ∧ ∀ x H', (Itl K a).yld i H x H' → g x (wipe σ vs) H' fun σ2 H2 => wipe σ2 vs = wipe σ vs ∧ tYes σ2 H2 fun b H3 =>
        if b = true then te σ2 H3 fun y H4 => ∃ acc, H4 D = some (.lst acc) ∧ acc.length < sizeLine ∧ Nx (upd H4 D (.lst (acc ++ [y]))) else Nx H3) := by
  refine lc_mk (n := xs.length) (it := fun i => xs.getD i .non) (G := fun H => SqL K H a xs) R hR (walk_list.mono (fun _ h => h) fun i H x H' hi _ y => ⟨y.1, ?_⟩) (fun H s => Same.seq s ha) hD hn (fun i H N hi s nd k => ?_) hd
  · rw [List.getD_eq_getElem?_getD, y.2]
    rfl
  · refine hs i _ H N ?_ s nd k
    rw [List.getD_eq_getElem?_getD, List.getElem?_eq_getElem hi]
    rfl
end
theorem ite_join {c : Bool} {H : Hp} {R : Hp → Prop} {B : Prop} (hR : ∀ H', Same H H' → R H') (hB : c = true → (∀ H', Same H H' → R H') → B) : if c = true then B else R H := by
  cases c with
  | true => rw [if_pos rfl]; exact hB rfl hR
  | false => rw [if_neg Bool.false_ne_true]; exact hR H (Same.refl _)
end L2
namespace Tx
open PySem L2
def OddW (H : Hp) (n : Nat) (v : V) : Prop := ((∀ lo : Nat, Mk.btw v (lo : Int) (n : Int) = false) ∧ Mk.btw v 0 ((n : Int) - 1) = false) ∧ ∃ y, L2.Od H v y ∧ SmZ y ∧ wgz y ≤ 20000 ∧ y.depth ≤ 2
theorem OddW.same {H H' : Hp} {n : Nat} {v : V} (h : OddW H n v) (s : Same H H') : OddW H' n v := ⟨h.1, let ⟨y, o, r⟩ := h.2; ⟨y, o.same s, r⟩⟩
def oddsW (n : Nat) (t : Addr) : List V := [.int ((n : Int) + 1), .int (0 - 1), .non, .bl true, .str "0", .ref t, .int (10 ^ 30)]
theorem btw_out {i lo hi : Int} (h : i < lo ∨ hi < i) : Mk.btw (.int i) lo hi = false := by
  show (decide (lo ≤ i) && decide (i ≤ hi)) = false
  rcases h with h | h
  · rw [decide_eq_false (by omega)]; rfl
  · rw [decide_eq_false (show ¬ i ≤ hi by omega), Bool.and_false]
theorem oddsW_ok {H : Hp} {n : Nat} {t : Addr} (hn : n ≤ 100) (h : H t = some (.tup [.int 0])) : ∀ v ∈ oddsW n t, OddW H n v := by
  intro v hv
  have hv : v ∈ ([.int ((n : Int) + 1), .int (0 - 1), .non, .bl true, .str "0", .ref t, .int (10 ^ 30)] : List V) := hv
  have big : (100 : Int) < 10 ^ 30 := by decide
  simp only [List.mem_cons, List.not_mem_nil, or_false] at hv
  rcases hv with rfl | rfl | rfl | rfl | rfl | rfl | rfl
  · exact ⟨⟨fun lo => btw_out (.inr (by omega)), btw_out (.inr (by omega))⟩, _, .sc (.int _ (Nat.lt_trans (show ((n : Int) + 1).natAbs < 1000 by omega) (by decide))), by simp only [SmZ]; exact Nat.lt_trans (show ((n : Int) + 1).natAbs < 1000 by omega) (by decide), by simp only [wgz]; decide, by simp only [PyData.depth]; decide⟩
  · exact ⟨⟨fun lo => btw_out (.inl (by omega)), btw_out (.inl (by omega))⟩, _, .sc (.int _ (by decide)), by simp only [SmZ]; decide, by simp only [wgz]; decide, by simp only [PyData.depth]; decide⟩
  · exact ⟨⟨fun lo => rfl, rfl⟩, _, .sc .non, by simp only [SmZ], by simp only [wgz]; decide, by simp only [PyData.depth]; decide⟩
  · exact ⟨⟨fun lo => rfl, rfl⟩, _, .sc (.bl true), by simp only [SmZ], by simp only [wgz]; decide, by simp only [PyData.depth]; decide⟩
  · exact ⟨⟨fun lo => rfl, rfl⟩, _, .sc (.str _ (by decide +kernel) (by decide +kernel)), by simp only [SmZ]; decide +kernel, by simp only [wgz]; decide +kernel, by simp only [PyData.depth]; decide⟩
  · exact ⟨⟨fun lo => rfl, rfl⟩, _, .tup h (.cons (.int 0 (by decide)) .nil) (by decide), by simp only [SmZ, SmZA]; decide, by simp only [wgz, wgzA]; decide +kernel, by simp only [PyData.depth, PyData.depthAll]; decide⟩
  · exact ⟨⟨fun lo => btw_out (.inr (by omega)), btw_out (.inr (by omega))⟩, _, .sc (.int _ (by decide +kernel)), by simp only [SmZ]; decide +kernel, by simp only [wgz]; decide, by simp only [PyData.depth]; decide⟩
theorem shz_wd2 {w w2 : Str} {y y2 : PyData} (hw : (PyData.strOk w && decide (w.length ≤ 1000)) = true) (hw2 : (PyData.strOk w2 && decide (w2.length ≤ 1000)) = true) (h : SmZ y ∧ wgz y ≤ 20000 ∧ y.depth ≤ 2) (h2 : SmZ y2 ∧ wgz y2 ≤ 20000 ∧ y2.depth ≤ 2) : showsZ (.list [.list [.str w, y], .list [.str w2, y2]]) := by
  rw [Bool.and_eq_true] at hw hw2
  have hl := of_decide_eq_true hw.2
  have hl2 := of_decide_eq_true hw2.2
  refine showsZ_of ?_ ?_ ?_
  · simp only [SmZ, SmZA]
    exact ⟨⟨hw.1, h.1, trivial⟩, ⟨hw2.1, h2.1, trivial⟩, trivial⟩
  · simp only [wgz, wgzA]
    have := h.2.1
    have := h2.2.1
    omega
  · simp only [PyData.depth, PyData.depthAll]
    have := h.2.2
    have := h2.2.2
    omega
theorem dz_wd2 {K : PySem.W.Frag} {H : Hp} {w w2 : Str} {v v2 : V} {y y2 : PyData} {a b : Addr} (ea : H a = some (.lst [.str w, v])) (eb : H b = some (.lst [.str w2, v2])) (h : Dz K H v y) (h2 : Dz K H v2 y2) : DzAll K H [.ref a, .ref b] [.list [.str w, y], .list [.str w2, y2]] :=
  .cons (.lst (SqL.of ea) (dz_wd h)) (.cons (.lst (SqL.of eb) (dz_wd h2)) .nil)
end Tx
namespace Tx
open PySem L2
/-! ### lists of lists of codes -/
def dcr (rows : List (List Nat)) : List PyData := rows.map fun r => PyData.list (dcs r)
theorem dp_rows {K : PySem.W.Frag} {H : Hp} {ps : List Addr} {rows : List (List Nat)} (h : LRows H ps rows) : DpAll K H (ps.map V.ref) (dcr rows) := by
  induction h with
  | nil => exact .nil
  | cons a _ ih => exact .cons (.lst (SqL.of a) (dp_cs _)) ih
theorem eqv_rows (rows : List (List Nat)) : PyData.eqv (.list (dcr rows)) (.list (dcr rows)) = true := by
  rw [PyData.eqv]
  induction rows with
  | nil => simp [dcr, PyData.eqvAll]
  | cons r rows ih =>
    show PyData.eqvAll (PyData.list (dcs r) :: dcr rows) (PyData.list (dcs r) :: dcr rows) = true
    rw [PyData.eqvAll, eqv_cs, ih, decide_eq_true rfl]
    rfl
theorem dep_rows (rows : List (List Nat)) : PyData.depthAll (dcr rows) ≤ 2 := by
  induction rows with
  | nil => simp [dcr, PyData.depthAll]
  | cons r rows ih =>
    have h1 : PyData.depthAll (dcs r) ≤ 1 := dep_ints r
    show PyData.depthAll (PyData.list (dcs r) :: dcr rows) ≤ 2
    simp only [PyData.depthAll, PyData.depth]
    omega
theorem shp_rows (rows : List (List Nat)) : SeqAt.shaped (.list (dcr rows)) = true := by
  have h1 := dep_rows rows
  show (PyData.canLay0 _ && decide (PyData.depth _ ≤ 64)) = true
  rw [Bool.and_eq_true]
  refine ⟨?_, decide_eq_true ?_⟩
  · simp only [PyData.canLay0]
    induction rows with
    | nil => simp [dcr, PyData.canLayAll0]
    | cons r rows ih =>
      have h2 : PyData.canLay0 (.list (dcs r)) = true := by simp only [PyData.canLay0]; exact cla_ints r
      show PyData.canLayAll0 (PyData.list (dcs r) :: dcr rows) = true
      simp only [PyData.canLayAll0, h2, ih (dep_rows rows), Bool.and_true]
  · simp only [PyData.depth]
    omega
theorem paired_ix {α β : Type} {R : α → β → Prop} : ∀ {xs : List α} {ys : List β}, xs.length = ys.length → (∀ (i : Nat) (x : α) (y : β), xs[i]? = some x → ys[i]? = some y → R x y) → Paired R xs ys
  | [], [], _, _ => .nil
  | x :: xs, y :: ys, hl, h => .cons (h 0 x y rfl rfl) (paired_ix (by simpa using hl) fun i x y a b => h (i + 1) x y a b)
end Tx
namespace Tx
open PySem L2
theorem inV_ivs (c : Nat) : ∀ cs : List Nat, inV (iv c) (cs.map iv) = decide (c ∈ cs)
  | [] => by simp [inV]
  | n :: ns => by
    have ih := inV_ivs c ns
    unfold inV at ih ⊢
    rw [List.map_cons, List.any_cons, ih]
    show (decide ((n : Int) = (c : Int)) || decide (c ∈ ns)) = decide (c ∈ n :: ns)
    by_cases h : n = c
    · subst h
      simp
    · have h2 : ¬ c = n := fun e => h e.symm
      have h3 : ¬ (n : Int) = (c : Int) := fun e => h (by omega)
      simp [h2, h3]
theorem isC_iv {c : Nat} (h : Cd.isC c = true) : Mk.isCode (iv c) = true := h
theorem flat_ivs (cs : List Nat) : (cs.map iv).all flatV = true := by rw [List.all_map, List.all_eq_true]; exact fun _ _ => rfl
theorem sh_int {c : Int} (h : c.natAbs < 100000) : shows (.int c) := shows_sml (by simp only [Sml]; exact Nat.lt_trans h (by decide)) (by simp [wgt]) (by simp [PyData.depth])
theorem At.lkp {K : PySem.W.Frag} {D a C : Addr} {H H' : Hp} {cs : List Nat} {l : List V} (h : At K H C a cs) (e : H D = some (.lst l)) (k : Dr.Kp D H H') : At K H' C a cs := by
  obtain ⟨dx, t, h1, h2⟩ := h
  refine ⟨dx, t, k _ _ (fun z => by rw [z, e] at h1; cases h1) h1, ?_⟩
  rcases h2 with (h | ⟨u, h⟩) | h
  · exact .inl (.inl (k _ _ (fun z => by rw [z, e] at h; cases h) h))
  · exact .inl (.inr ⟨u, k _ _ (fun z => by rw [z, e] at h; cases h) h⟩)
  · exact .inr h
theorem LRows.same {H H' : Hp} {ps : List Addr} {rows : List (List Nat)} (h : LRows H ps rows) (s : Same H H') : LRows H' ps rows := Paired.mapP h fun _ _ e => s _ _ e
theorem eqv_num (w : Str) (i : Int) : PyData.eqv (.list [.str w, .int i]) (.list [.str w, .int i]) = true := by simp [PyData.eqv, PyData.eqvAll]
theorem shp_num {w : Str} (h : PyData.strOk w = true) (i : Int) : SeqAt.shaped (.list [.str w, .int i]) = true := by
  show (PyData.canLay0 _ && decide (PyData.depth _ ≤ 64)) = true
  simp [PyData.canLay0, PyData.canLayAll0, PyData.depth, PyData.depthAll, h]
end Tx
namespace L2
open PySem
section
variable {K : PySem.W.Frag} {g : TG} {te : TE} {tt : TT} {vs : List Nat} {σ : St} {H1 : Hp} {D : Addr} {Qd : Hp → Prop} {a : Addr} {xs : List V}
/-- over a list, what a test lets pass that may make objects -/
theorem lc_filtLS (pr : V → Bool) (ha : SqL K H1 a xs) (hD : H1 D = none) (hn : xs.length ≤ 100000)
    (hs : ∀ x H (N : V → Hp → Prop) (M : Hp → Prop), x ∈ xs → Same H1 H → (pr x = true → ∀ H4, Same H H4 → N x H4) → (pr x = false → ∀ H4, Same H H4 → M H4) → g x (wipe σ vs) H fun σ2 H2 => wipe σ2 vs = wipe σ vs ∧ tt σ2 H2 fun b H3 => if b = true then te σ2 H3 N else M H3)
    (hd : ∀ H, Same H1 H → H D = some (.lst (xs.filter pr)) → Qd H) :
    ∃ W : Nat → Nat → Hp → Prop, (∃ m, W 0 m (upd H1 D (.lst []))) ∧ ∀ i m H, W i m H →
      ((Itl K a).stop i H ∧ Qd H) ∨ ((Itl K a).go i H ∧ ∃ Nx : Hp → Prop, (∀ H', Nx H' → ∃ m', m' < m ∧ W (i + 1) m' H') ∧ ∀ x H', (Itl K a).yld i H x H' → g x (wipe σ vs) H' fun σ2 H2 => wipe σ2 vs = wipe σ vs ∧ tt σ2 H2 fun b H3 =>
        if b = true then te σ2 H3 fun y H4 => ∃ acc, H4 D = some (.lst acc) ∧ acc.length < sizeLine ∧ Nx (upd H4 D (.lst (acc ++ [y]))) else Nx H3) := by
  refine lc_it walk_list (fun i H => Same H1 H ∧ H D = some (.lst ((xs.take i).filter pr))) ⟨same_new hD, upd_same⟩ (fun i H _ p => Same.seq p.1 ha) (fun i x H H' hi p y => ?_) fun H p => hd H p.1 (by have := p.2; rwa [List.take_of_length_le (Nat.le_refl _)] at this)
  obtain ⟨rfl, hx⟩ := y
  have ht : xs.take (i + 1) = xs.take i ++ [x] := by rw [List.take_add_one, hx]; rfl
  refine hs x H' _ _ (List.mem_of_getElem? hx) p.1 (fun hp H4 s4 => ⟨_, s4 _ _ p.2, ?_, (p.1.trans s4).mut hD, ?_⟩) fun hp H4 s4 => ⟨p.1.trans s4, ?_⟩
  · refine Nat.lt_of_le_of_lt (List.length_filter_le _ _) ?_
    rw [List.length_take]
    exact Nat.lt_of_le_of_lt (Nat.min_le_right _ _) (Nat.lt_of_le_of_lt hn (by decide))
  · rw [upd_same, ht, List.filter_append, List.filter_cons, if_pos hp]
    rfl
  · rw [s4 _ _ p.2, ht, List.filter_append, List.filter_cons, if_neg (by rw [hp]; decide)]
    simp
end
end L2
namespace L2
open PySem
theorem n_catT {K : PySem.W.Frag} {H : Hp} {Q : VK} {p u : Addr} {xs ys : List V} (h1 : SqT K H p xs) (h2 : SqT K H u ys) (nx : xs ≠ []) (ny : ys ≠ []) (hz : xs.length + ys.length ≤ sizeLine) (q : ∀ r H1, H r = none → Same H H1 → H1 r = some (.tup (xs ++ ys)) → Q (.ref r) H1) : rCatA K (.ref p) (.ref u) H Q :=
  ⟨p, u, xs, ys, rfl, rfl, h1, h2, hz, fun e => absurd e nx, fun _ e => absurd e ny, fun _ _ => new_o q⟩
end L2
namespace Tx
open PySem L2
def spJoinR (K : PySem.W.Frag) (C : Addr) : Sp := fun vs H Q _ => ∃ (p : Addr) (ps : List Addr) (r : Addr) (rps : List Addr) (rows : List (List Nat)), vs = [.ref p, .ref r] ∧ H p = some (.lst (ps.map V.ref)) ∧ Paired (fun x row => At K H C x row) ps rows ∧ H r = some (.lst (rps.map V.ref)) ∧ LRows H rps rows ∧ rows.length ≤ 10 ∧ rows ≠ [] ∧ (∀ n, (joinC (rows.take n)).length ≤ 5000) ∧ ∀ H1, Same H H1 → Q (.bl true) H1
theorem join_step {rows : List (List Nat)} {i : Nat} {row : List Nat} (h : rows[i]? = some row) : joinC (rows.take (i + 1)) = joinC (rows.take i) ++ ((if i = 0 then [] else [32]) ++ row) := by
  rw [List.take_add_one, h]
  show joinC (rows.take i ++ [row]) = _
  rw [joinC_snoc]
  have hl := (List.getElem?_eq_some_iff.mp h).1
  congr 2
  by_cases hi : i = 0
  · subst hi
    simp
  · rw [if_neg hi, if_neg]
    intro e
    have := congrArg List.length e
    rw [List.length_take, List.length_nil] at this
    omega
def OddT (K : PySem.W.Frag) (C : Addr) (H : Hp) (v : V) : Prop := NoTexts K C H v ∧ flatR v
theorem OddT.same {K : PySem.W.Frag} {C : Addr} {H H' : Hp} {v : V} (h : OddT K C H v) (s : Same H H') : OddT K C H' v := ⟨h.1.same s, h.2⟩
def oddsT (l d t1 t2 : Addr) : List V := [.ref l, .non, .int 5, .str "ab", .ref d, .ref t1, .ref t2]
theorem noTexts_end {K : PySem.W.Frag} {C : Addr} {H : Hp} {ps : List Addr} {rows : List (List Nat)} {t : Addr} {v : V} (pr : Paired (fun x row => At K H C x row) ps rows) (hz : rows.length ≤ 10) (ht : H t = some (.tup (ps.map V.ref ++ [v]))) (hv : BT H v) : NoTexts K C H (.ref t) := by
  have lp : ps.length = _ := pr.length
  have key : ∀ {ps : List Addr} {rows : List (List Nat)}, Paired (fun x row => At K H C x row) ps rows → Paired (fun v b => (b = true ∧ ∃ a row, v = V.ref a ∧ At K H C a row) ∨ (b = false ∧ BT H v)) (ps.map V.ref ++ [v]) (List.replicate ps.length true ++ [false]) := by
    intro ps rows h
    induction h with
    | nil => exact .cons (.inr ⟨rfl, hv⟩) .nil
    | cons a _ ih => exact .cons (.inl ⟨rfl, _, _, rfl, a⟩) ih
  refine .inr ⟨t, _, _, rfl, ht, key pr, ?_, ?_⟩
  · rw [List.all_append]
    simp
  · rw [List.length_append, List.length_map, lp]
    simp only [List.length_cons, List.length_nil]
    omega
theorem oddsT_ok {K : PySem.W.Frag} {C : Addr} {H : Hp} {ps : List Addr} {rows : List (List Nat)} {l d t1 t2 : Addr} (pr : Paired (fun x row => At K H C x row) ps rows) (hz : rows.length ≤ 10) (h1 : H l = some (.lst (ps.map V.ref))) (h2 : H d = some (.dK [])) (h3 : H t1 = some (.tup (ps.map V.ref ++ [.str "a"]))) (h4 : H t2 = some (.tup (ps.map V.ref ++ [.non]))) (b1 : BT H (.str "a")) (b2 : BT H .non) : ∀ v ∈ oddsT l d t1 t2, OddT K C H v := by
  intro v hv
  have hv : v ∈ ([.ref l, .non, .int 5, .str "ab", .ref d, .ref t1, .ref t2] : List V) := hv
  simp only [List.mem_cons, List.not_mem_nil, or_false] at hv
  rcases hv with rfl | rfl | rfl | rfl | rfl | rfl | rfl
  · exact ⟨.inl ⟨.lst h1, by simp only [isTupH, h1]⟩, .inr ⟨_, rfl⟩⟩
  · exact ⟨.inl ⟨.non, rfl⟩, .inl rfl⟩
  · exact ⟨.inl ⟨.int _, rfl⟩, .inl rfl⟩
  · exact ⟨.inl ⟨.str _ (by decide +kernel) (by decide +kernel), rfl⟩, .inl rfl⟩
  · exact ⟨.inl ⟨.dic h2, by simp only [isTupH, h2]⟩, .inr ⟨_, rfl⟩⟩
  · exact ⟨noTexts_end pr hz h3 b1, .inr ⟨_, rfl⟩⟩
  · exact ⟨noTexts_end pr hz h4 b2, .inr ⟨_, rfl⟩⟩
end Tx
namespace Tx
open PySem L2
def Rows8 (rows : List (List Nat)) : Prop := ∀ row ∈ rows, (∀ c ∈ row, Cd.isC c = true) ∧ row.length ≤ 8
theorem join_len {rows : List (List Nat)} (h : Rows8 rows) : (joinC rows).length ≤ 9 * rows.length := by
  have key : ∀ rows : List (List Nat), Rows8 rows → ((rows.map fun x => 32 :: x).flatten).length ≤ 9 * rows.length := by
    intro rows
    induction rows with
    | nil => intro _; exact Nat.le_refl _
    | cons r rows ih =>
      intro h
      have h1 := (h r (List.mem_cons_self ..)).2
      have h2 := ih fun x hx => h x (List.mem_cons_of_mem _ hx)
      simp only [List.map_cons, List.flatten_cons, List.length_append, List.length_cons]
      omega
  cases rows with
  | nil => exact Nat.zero_le _
  | cons r rows =>
    have h1 := (h r (List.mem_cons_self ..)).2
    have h2 := key rows fun x hx => h x (List.mem_cons_of_mem _ hx)
    show (r ++ (rows.map fun x => 32 :: x).flatten).length ≤ _
    rw [List.length_append, List.length_cons]
    omega
theorem Rows8.take {rows : List (List Nat)} (h : Rows8 rows) (n : Nat) : Rows8 (rows.take n) := fun r hr => h r (List.mem_of_mem_take hr)
theorem join_len5 {rows : List (List Nat)} (h : Rows8 rows) (hz : rows.length ≤ 3) (n : Nat) : (joinC (rows.take n)).length ≤ 5000 := by
  have h1 := join_len (h.take n)
  have h2 : (rows.take n).length ≤ rows.length := by rw [List.length_take]; omega
  omega
end Tx
namespace L2
open PySem
theorem call_tupK {X : Cx} {K : PySem.W.Frag} (h : X.K = K) : CallR X (.type "tuple") (rTupOf K) := h ▸ call_tupOf
end L2
namespace Tx
open PySem L2
theorem atI_neg1 {xs : List V} {v : V} (h : xs[xs.length - 1]? = some v) : atI xs (-1) = some v := by
  rcases List.eq_nil_or_concat xs with rfl | ⟨ys, y, rfl⟩
  · cases h
  · rw [List.concat_eq_append] at h ⊢
    rw [List.length_append, List.length_cons, List.length_nil, Nat.zero_add, Nat.add_sub_cancel, List.getElem?_append_right (Nat.le_refl _), Nat.sub_self] at h
    rw [atI_last]
    exact h
theorem Rows8.snoc {rows : List (List Nat)} {cs : List Nat} (h : Rows8 rows) (hc : ∀ c ∈ cs, Cd.isC c = true) (hl : cs.length ≤ 8) : Rows8 (rows ++ [cs]) := by
  intro r hr
  rcases List.mem_append.mp hr with a | a
  · exact h r a
  · rw [List.mem_singleton.mp a]
    exact ⟨hc, hl⟩
theorem get_map_ref {ps : List Addr} {j : Nat} {x : V} (h : (ps.map V.ref)[j]? = some x) : ∃ p, ps[j]? = some p ∧ x = .ref p := by
  rw [List.getElem?_map] at h
  cases e : ps[j]? with
  | none => rw [e] at h; cases h
  | some c => rw [e] at h; exact ⟨c, rfl, (Option.some.inj h).symm⟩
end Tx
namespace Cs
open PySem L2 Tx Cd
/-! ### charsets, where something may be wrong (k11) -/
def isCs : V → Bool
  | .str z => decide (z ∈ (["latin", "wide", "steps"] : List Str))
  | _ => false
def spCs : Sp := fun vs H Q _ => ∃ x, vs = [x] ∧ AnyO H x ∧ Q (.bl (isCs x)) H
theorem isCs_name (k : Kd) : isCs (.str k.name) = true := by cases k <;> decide +kernel
/-- a text that latin doesn't hold: its first code above 255 -/
def wideAt (cs : List Nat) (i : Nat) : Prop := (∀ j c, j < i → cs[j]? = some c → c ≤ 255) ∧ ∃ c, cs[i]? = some c ∧ 255 < c
def NoCheck (K : PySem.W.Frag) (C Cb Cc : Addr) (H : Hp) (E : XK) (k : Kd) (x : V) : Prop :=
  (BT H x ∧ Pw.Rs H E Cb "given" x) ∨ ∃ a cs i, x = .ref a ∧ k = .latin ∧ At K H C a cs ∧ wideAt cs i ∧ Pw.Rs H E Cc "place" (.int (i : Nat))
def spCheckTX (K : PySem.W.Frag) (C Cb Cc : Addr) : Sp := fun vs H Q E => (∃ (k : Kd) (x : V), vs = [.str k.name, x] ∧ NoCheck K C Cb Cc H E k x) ∨ spCheckT K C vs H Q E
def spForX (K : PySem.W.Frag) (C Cb Cc Cs : Addr) : Sp := fun vs H Q E =>
  (∃ x y, vs = [x, y] ∧ AnyO H x ∧ isCs x = false ∧ Pw.Rs H E Cs "given" x) ∨ (∃ (k : Kd) (x : V), vs = [.str k.name, x] ∧ NoCheck K C Cb Cc H E k x) ∨ spFor K C vs H Q E
def spFromX (K : PySem.W.Frag) (C Co Cs : Addr) : Sp := fun vs H Q E =>
  (∃ x y, vs = [x, y] ∧ AnyO H x ∧ isCs x = false ∧ Pw.Rs H E Cs "given" x) ∨
  (∃ (k : Kd) (x : V), vs = [.str k.name, x] ∧ AnyO H x ∧ isTupH H x = false ∧ Pw.Rs H E Co "place" .non) ∨
  (∃ (k : Kd) (p : Addr) (xs : List V) (i : Nat), vs = [.str k.name, .ref p] ∧ H p = some (.tup xs) ∧ (∀ v ∈ xs, AnyO H v) ∧ Pw.badAt xs i ∧ Pw.Rs H E Co "place" (.int (i : Nat))) ∨ spFrom K C vs H Q E
end Cs
namespace L2
open PySem PySem.Spec PyProof.Rows
/-! ### a tuple, so many times (none and once too) -/
theorem tup_times1 (l : Addr) (its : Array Value) (n : Nat) (dd : Option Addr) (sl : Array (Option Value)) (u : Tok) :
    Meets (Builtin.«tuple.__mul__» ⟨[.ref l, .int 1 u], []⟩) (fun _ R s => s.heap.get? l = some { cls := .type "tuple", dict := dd, data := .seq its n, slots := sl } ∧ R (.ok (.ret (.ref l))) s) := by
  refine .of_wp fun prog w A R s h => ?_
  obtain ⟨hp, g, d, tk, os⟩ := s
  obtain ⟨hl, q⟩ := h
  have k1 : ¬ (decide ((1 : Int) < -(2 ^ 63)) || decide ((1 : Int) ≥ 2 ^ 63)) = true := by decide
  wp_walk using wpAny_loadPart' hl
  exact ⟨_, rfl, q⟩
theorem tup_times0 (l : Addr) (its : Array Value) (n : Nat) (dd : Option Addr) (sl : Array (Option Value)) (u : Tok) (ne : its.isEmpty = false) :
    Meets (Builtin.«tuple.__mul__» ⟨[.ref l, .int 0 u], []⟩) (fun _ R s => s.heap.get? l = some { cls := .type "tuple", dict := dd, data := .seq its n, slots := sl } ∧ R (.ok (.ret (.ref s.heap.objs.size))) { s with heap := s.heap.push { cls := Value.type "tuple", data := Data.seq #[] }, toks := s.toks }) := by
  refine .of_wp fun prog w A R s h => ?_
  obtain ⟨hp, g, d, tk, os⟩ := s
  obtain ⟨hl, q⟩ := h
  wp_walk using wpAny_loadPart' hl
  exact ⟨_, rfl, q⟩
def rRepM (K : PySem.W.Frag) : R2 := fun x y H Q => ∃ l k xs, x = .ref l ∧ y = .int k ∧ SqT K H l xs ∧ xs ≠ [] ∧ 0 ≤ k ∧ k ≤ 1000 ∧ xs.length ≤ 1000 ∧ (k = 1 → Q (.ref l) H) ∧ (k ≠ 1 → ∀ p, H p = none → Q (.ref p) (upd H p (.tup (List.replicate k.toNat xs).flatten)))
theorem op_repM {X : Cx} : OpR X (binaryOp .Mult) (rRepM X.K) := by
  intro pins s σ H x y v u Q I rx ry h
  obtain ⟨l, k, xs, rfl, rfl, hT, hne, h0, h1, hz, q1, qn⟩ := h
  by_cases big : 2 ≤ k
  · exact op_repT pins s σ H _ _ v u Q I rx ry ⟨l, k, xs, rfl, rfl, hT, hne, big, h1, hz, qn (by omega)⟩
  cases rx
  obtain ⟨t, rfl⟩ := ry
  obtain ⟨its, r, ⟨⟨cls, dd, data, sl⟩, ho, hc, n, hd⟩, hs⟩ := I.tuple hT
  simp only at hc hd
  subst hc hd
  have hi : its.toArray.isEmpty = false := by
    cases its with
    | nil => cases r; exact absurd rfl hne
    | cons a b => rfl
  rcases (show k = 0 ∨ k = 1 by omega) with rfl | rfl
  · refine wpAny_binaryOp_repeat_ref (T := "tuple") (U := "int") (by decide) ⟨_, ho, rfl⟩ (fun s' => typeIs_int s' 0 t) noFill_tuple_mul F.fills_int_mul F.slot_int_rmul repeat_tuple F.slot_int_index.lookup ?_
    refine call_meets F.slot_int_rmul (typeIs_int s 0 t) F.entry_int_rmul (F.args_int_rmul_2 _ _) (int_rmul_tuple 0 t l its.toArray n dd sl) ⟨ho, rfl, ⟨_, ho, rfl⟩, ?_⟩
    refine call_meets F.slot_tuple_mul ⟨_, ho, rfl⟩ F.entry_tuple_mul (F.args_tuple_mul_2 _ _) (tup_times0 l its.toArray n dd sl t hi) ⟨ho, ?_⟩
    refine ⟨.ref s.heap.objs.size, _, I.laid (t' := s.toks) (o := .tup []) (fun b ob q => Heap.get?_push_of_some _ q) (Nat.le_refl _) ?_, rfl, qn (by decide) _ (I.hok.fresh (Nat.le_refl _))⟩
    exact ⟨Nat.zero_le _, [], .nil, IsTup.new _ _⟩
  · refine wpAny_binaryOp_repeat_ref (T := "tuple") (U := "int") (by decide) ⟨_, ho, rfl⟩ (fun s' => typeIs_int s' 1 t) noFill_tuple_mul F.fills_int_mul F.slot_int_rmul repeat_tuple F.slot_int_index.lookup ?_
    refine call_meets F.slot_int_rmul (typeIs_int s 1 t) F.entry_int_rmul (F.args_int_rmul_2 _ _) (int_rmul_tuple 1 t l its.toArray n dd sl) ⟨ho, rfl, ⟨_, ho, rfl⟩, ?_⟩
    refine call_meets F.slot_tuple_mul ⟨_, ho, rfl⟩ F.entry_tuple_mul (F.args_tuple_mul_2 _ _) (tup_times1 l its.toArray n dd sl t) ⟨ho, ?_⟩
    exact ⟨.ref l, _, I, rfl, q1 rfl⟩
end L2
namespace L2
open PySem
theorem g_ienL {σ : St} {H : Hp} {K : PySem.W.Frag} {ta : TA} {R : It → Hp → Prop} (h : ta σ H fun vs H1 => ∃ a xs, vs = [.ref a] ∧ SqL K H1 a xs ∧ R (Ite K a) H1) : iEnum K ta σ H R := h
/-- a loop over an enumerate of a list -/
theorem for_enL {K : PySem.W.Frag} {a : Addr} {xs : List V} {g : TG} {tb : TS} {D : Ends} {σ : St} {H : Hp} (Pv : Nat → St → Hp → Prop) (h0 : Pv 0 σ H) (hl : ∀ i σ H, i ≤ xs.length → Pv i σ H → SqL K H a xs)
    (hs : ∀ i x T σ H H', xs[i]? = some x → Pv i σ H → H T = none → Same H H' → H' T = some (.tup [.int (i : Nat), x]) → g (.ref T) σ H' fun σ2 H2 => tb { D with nx := Pv (i + 1), ct := Pv (i + 1), bk := D.nx } σ2 H2) (hd : ∀ σ H, Pv xs.length σ H → D.nx σ H) :
    ∃ W : Nat → Nat → St → Hp → Prop, (∃ m, W 0 m σ H) ∧ ∀ i m σ H, W i m σ H →
      ((Ite K a).stop i H ∧ D.nx σ H) ∨ ((Ite K a).go i H ∧ ∃ N : St → Hp → Prop, (∀ σ' H', N σ' H' → ∃ m', m' < m ∧ W (i + 1) m' σ' H') ∧ ∀ x H', (Ite K a).yld i H x H' → g x σ H' fun σ2 H2 => tb { D with nx := N, ct := N, bk := D.nx } σ2 H2) := by
  refine for_it walk_enum Pv h0 hl (fun i x σ H H' hi p y => ?_) hd
  obtain ⟨T, n, v, rfl, hT, rfl, e1, e2⟩ := y
  cases e1
  exact hs i v T σ H _ e2 p hT (same_new hT) upd_same
theorem sl_listKK {X : Cx} {K : PySem.W.Frag} (h : X.K = K) : SlR X (rSlL K) := h ▸ sl_list
theorem pg_tupK {X : Cx} {K : PySem.W.Frag} {es : List Expr} {k : Nat} {t : TGs} {n : Nat} {pos : Pos} (h : X.K = K) (hc : X.calm = true) (hp : PGs X es t)
    (hn : (assignEach es X.env).length = n := by rfl) (hst : (assignEach es X.env).findIdx? (·.1) = none := by rfl) : PG X (.Tuple es k pos) (gTup K n t) := h ▸ pg_tup hc hp hn hst
section
variable {K : PySem.W.Frag} {g : TG} {te : TE} {vs : List Nat} {σ : St} {H1 : Hp} {D : Addr} {Qd : Hp → Prop} {a : Addr} {xs : List V}
/-- a comprehension over an enumerate of a list -/
theorem lc_pureE (f : Nat → V) (ha : SqL K H1 a xs) (hD : H1 D = none) (hn : xs.length ≤ 100000)
    (hs : ∀ i x T H (N : V → Hp → Prop), xs[i]? = some x → Same H1 H → H T = some (.tup [.int (i : Nat), x]) → (∀ H4, Same H H4 → N (f i) H4) → g (.ref T) (wipe σ vs) H fun σ2 H2 => wipe σ2 vs = wipe σ vs ∧ te σ2 H2 N) (hd : ∀ H, Same H1 H → H D = some (.lst ((List.range xs.length).map f)) → Qd H) :
    ∃ W : Nat → Nat → Hp → Prop, (∃ m, W 0 m (upd H1 D (.lst []))) ∧ ∀ i m H, W i m H →
      ((Ite K a).stop i H ∧ Qd H) ∨ ((Ite K a).go i H ∧ ∃ Nx : Hp → Prop, (∀ H', Nx H' → ∃ m', m' < m ∧ W (i + 1) m' H') ∧ ∀ x H', (Ite K a).yld i H x H' → g x (wipe σ vs) H' fun σ2 H2 => wipe σ2 vs = wipe σ vs ∧ tYes σ2 H2 fun b H3 =>
        if b = true then te σ2 H3 fun y H4 => ∃ acc, H4 D = some (.lst acc) ∧ acc.length < sizeLine ∧ Nx (upd H4 D (.lst (acc ++ [y]))) else Nx H3) := by
  refine lc_it walk_enum (fun i H => Same H1 H ∧ H D = some (.lst ((List.range i).map f))) ⟨same_new hD, upd_same⟩ (fun i H _ p => Same.seq p.1 ha) (fun i x H H' hi p y => ?_) fun H p => hd H p.1 p.2
  obtain ⟨T, n, v, rfl, hT, rfl, e1, e2⟩ := y
  cases e1
  have sT := same_new (o := .tup [V.int (i : Nat), v]) hT
  refine hs i v T _ _ e2 (p.1.trans sT) upd_same fun H4 s4 => ?_
  refine ⟨_, s4 _ _ (sT _ _ p.2), ?_, ((p.1.trans sT).trans s4).mut hD, ?_⟩
  · rw [List.length_map, List.length_range]
    exact Nat.lt_of_lt_of_le hi (Nat.le_trans hn (by decide))
  · rw [upd_same, List.range_succ, List.map_append]
    rfl
/-- a comprehension over a range with a step, an object each -/
theorem lc_mkC {lo c : Int} {n : Nat} (R : Nat → Addr → Hp → Prop) (hR : ∀ i r H H' l, R i r H → H D = some (.lst l) → Dr.Kp D H H' → R i r H') (hD : H1 D = none) (hn : n ≤ 100000)
    (hs : ∀ i H (N : V → Hp → Prop), i < n → Same H1 H → H D ≠ none → (∀ H4 r, Same H H4 → R i r H4 → N (.ref r) H4) → g (.int (lo + (i : Nat) * c)) (wipe σ vs) H fun σ2 H2 => wipe σ2 vs = wipe σ vs ∧ te σ2 H2 N)
    (hd : ∀ H (rs : List Addr), Same H1 H → H D = some (.lst (rs.map V.ref)) → rs.length = n → (∀ i r, rs[i]? = some r → R i r H) → Qd H) :
    ∃ W : Nat → Nat → Hp → Prop, (∃ m, W 0 m (upd H1 D (.lst []))) ∧ ∀ i m H, W i m H →
      ((Itc lo c n).stop i H ∧ Qd H) ∨ ((Itc lo c n).go i H ∧ ∃ Nx : Hp → Prop, (∀ H', Nx H' → ∃ m', m' < m ∧ W (i + 1) m' H') ∧ ∀ x H', (Itc lo c n).yld i H x H' → g x (wipe σ vs) H' fun σ2 H2 => wipe σ2 vs = wipe σ vs ∧ tYes σ2 H2 fun b H3 =>
        if b = true then te σ2 H3 fun y H4 => ∃ acc, H4 D = some (.lst acc) ∧ acc.length < sizeLine ∧ Nx (upd H4 D (.lst (acc ++ [y]))) else Nx H3) :=
  lc_mk (it := fun i => .int (lo + (i : Nat) * c)) (G := fun _ => True) R hR walk_rangeC (fun _ _ => trivial) hD hn hs hd
end
theorem g_repM {K : PySem.W.Frag} {H : Hp} {l : Addr} {k : Int} {xs : List V} {Q : VK} (e : H l = some (.tup xs)) (ne : xs ≠ []) (h0 : 0 ≤ k) (h1 : k ≤ 1000) (hz : xs.length ≤ 1000) (q : ∀ p H1, Same H H1 → H1 p = some (.tup (List.replicate k.toNat xs).flatten) → Q (.ref p) H1) : rRepM K (.ref l) (.int k) H Q := by
  refine ⟨l, k, xs, rfl, rfl, SqT.of e, ne, h0, h1, hz, fun h => q l H (Same.refl _) ?_, fun _ p hp => q p _ (same_new hp) upd_same⟩
  subst h
  rw [e]
  show _ = some (HO.tup (xs ++ []))
  rw [List.append_nil]
end L2
namespace Pw
open PySem L2 LamX
/-- what the def that calls the deed makes of it: a list of what it gives, or the word of the class of what it raises, with the field of that class -/
def TTF (L : List (Addr × Str × Str)) : (XK → Hp → VK → Prop) → Hp → VK → Prop := fun tl H Q =>
  ∀ H0, Same H H0 → ∀ (E' : XK) (Q' : VK),
    (∀ c ∈ L, ∀ dd v H', H' dd = some (.xd [(c.2.1, v)]) → (∀ r H'', Same H' H'' → H'' r = some (.tup [.str c.2.2, v]) → Q (.ref r) H'') → E' (.ref c.1) (some dd) H') →
    (∀ v H', (∀ r H'', H' r = none → Same H' H'' → H'' r = some (.lst [v]) → Q (.ref r) H'') → Q' v H') → tl E' H0 Q'
section
variable {L : List (Addr × Str × Str)} {tl : XK → Hp → VK → Prop} {H : Hp} {Q : VK}
theorem ttf (c : Addr × Str × Str) (hc : c ∈ L) (v : V) (h : ∀ H0, Same H H0 → ∀ (E' : XK) (Q' : VK), Rs H0 E' c.1 c.2.1 v → tl E' H0 Q') (k : ∀ r H', Same H H' → H' r = some (.tup [.str c.2.2, v]) → Q (.ref r) H') : TTF L tl H Q := by
  intro H0 s0 E' Q' q1 _
  exact h H0 s0 E' Q' fun H1 d s1 nd => q1 c hc d v _ upd_same fun r H2 s2 e2 => k r H2 ((s0.trans s1).trans ((same_new nd).trans s2)) e2
theorem ttf_val (h : ∀ H0, Same H H0 → ∀ (E' : XK) (Q' : VK), (∀ v H1, (∀ r H'', H1 r = none → Same H1 H'' → H'' r = some (.lst [v]) → Q (.ref r) H'') → Q' v H1) → tl E' H0 Q') : TTF L tl H Q := fun H0 s0 E' Q' _ q' => h H0 s0 E' Q' q'
end
end Pw
namespace Cs
open PySem L2 Tx Cd
/-! ### the law's mirrors: mathematics -/
theorem rows_latin0 : ∀ (os : List Nat) (acc : List (List Nat)), os.foldl (rstep .latin) (acc, []) = (acc ++ os.map (fun o => [o]), [])
  | [], acc => by rw [List.map_nil, List.append_nil]; rfl
  | o :: os, acc => by
    rw [List.foldl_cons, show rstep .latin (acc, []) o = (acc ++ [[o]], []) from rfl, rows_latin0 os, List.map_cons, List.append_assoc]
    rfl
theorem rows_latin (os : List Nat) : rowsOf .latin os = os.map fun o => [o] := by
  have e := rows_latin0 os []
  rw [List.nil_append] at e
  rw [rows_nil (k := .latin) (os := os) (by rw [e]), e]
def two : List Nat → List (List Nat)
  | [] => []
  | [a] => [[a]]
  | a :: b :: t => [a, b] :: two t
theorem rows_wide0 : ∀ (os : List Nat) (acc : List (List Nat)), (if (os.foldl (rstep .wide) (acc, [])).2 = [] then (os.foldl (rstep .wide) (acc, [])).1 else (os.foldl (rstep .wide) (acc, [])).1 ++ [(os.foldl (rstep .wide) (acc, [])).2]) = acc ++ two os
  | [], acc => by show (if ([] : List Nat) = [] then acc else _) = acc ++ []; rw [if_pos rfl, List.append_nil]
  | [a], acc => by
    show (if ([a] : List Nat) = [] then acc else acc ++ [[a]]) = acc ++ [[a]]
    exact if_neg (fun h => nomatch h)
  | a :: b :: t, acc => by
    rw [List.foldl_cons, List.foldl_cons, show rstep .wide (rstep .wide (acc, []) a) b = (acc ++ [[a, b]], []) from rfl, rows_wide0 t]
    show (acc ++ [[a, b]]) ++ two t = acc ++ ([a, b] :: two t)
    rw [List.append_assoc]
    rfl
theorem rows_wide (os : List Nat) : rowsOf .wide os = two os := by
  have e := rows_wide0 os []
  rw [List.nil_append] at e
  exact e
theorem two_len : ∀ os : List Nat, (two os).length = (os.length + 1) / 2
  | [] => rfl
  | [a] => by simp [two]
  | a :: b :: t => by
    show (two t).length + 1 = (t.length + 1 + 1 + 1) / 2
    rw [two_len t]
    omega
theorem two_at : ∀ (os : List Nat) (j : Nat), j < (os.length + 1) / 2 → (two os)[j]? = some ((os.drop (2 * j)).take 2)
  | [], j, h => by simp at h
  | [a], j, h => by
    obtain rfl : j = 0 := by simp at h; omega
    rfl
  | a :: b :: t, 0, h => rfl
  | a :: b :: t, j + 1, h => by
    show (two t)[j]? = some (((a :: b :: t).drop (2 * (j + 1))).take 2)
    rw [two_at t j (by simp only [List.length_cons] at h; omega), show 2 * (j + 1) = 2 * j + 1 + 1 by omega]
    rfl
theorem rg2 {n : Nat} (h : n ≤ 100000) : RgC 0 (n : Int) 2 ((n + 1) / 2) := by
  have sz : Builtin.Range.rangeSize 0 (n : Int) 2 = (((n + 1) / 2 : Nat) : Int) := by
    unfold Builtin.Range.rangeSize
    rw [if_pos (by decide)]
    split <;> omega
  refine ⟨by decide, by decide, ?_, sz⟩
  unfold Builtin.Range.small
  rw [sz, if_pos (by decide), fits (by decide) (by decide), fits (by omega) (by omega), fits (by decide) (by decide), fits (by omega) (by omega), fits (by omega) (by omega)]
  exact Bool.or_true _
def wideF : ∀ cs : List Nat, (∃ i, wideAt cs i) ∨ ∀ c ∈ cs, c ≤ 255
  | [] => .inr fun c h => by cases h
  | a :: t => by
    by_cases h : 255 < a
    · exact .inl ⟨0, fun j c hj => absurd hj (Nat.not_lt_zero _), a, rfl, h⟩
    · rcases wideF t with ⟨i, h1, c, h2, h3⟩ | h1
      · refine .inl ⟨i + 1, fun j c hj e => ?_, c, h2, h3⟩
        cases j with
        | zero => cases e; omega
        | succ j => exact h1 j c (by omega) e
      · refine .inr fun c hc => ?_
        rcases List.mem_cons.mp hc with rfl | hc
        · omega
        · exact h1 c hc
theorem kinds (k : Kd) {cs : List Nat} (h : ∀ c ∈ cs, isC c = true) : (∃ i, k = .latin ∧ wideAt cs i) ∨ ∀ c ∈ cs, inKd k c := by
  rcases wideF cs with ⟨i, hi⟩ | h1
  · by_cases e : k = .latin
    · exact .inl ⟨i, e, hi⟩
    · exact .inr fun c hc => inKd_of (h c hc) fun z => absurd z e
  · exact .inr fun c hc => inKd_of (h c hc) fun _ => h1 c hc
def numOf (k : Kd) (r : List Nat) : Nat := match codeOf k r with | some c => if isC c then c else 0 | none => 0
theorem isC_pos {c : Nat} (h : isC c = true) : 0 < c := by
  have := isC_iff.mp h
  omega
theorem isC0 : isC 0 = false := by decide +kernel
theorem known_num (k : Kd) (r : List Nat) : (if 0 < numOf k r then numOf k r else 63) = known (codeOf k r) := by
  unfold numOf known
  cases codeOf k r with
  | none => rfl
  | some c =>
    show (if 0 < (if isC c = true then c else 0) then (if isC c = true then c else 0) else 63) = if isC c = true then c else 63
    by_cases h : isC c = true
    · rw [if_pos h, if_pos (isC_pos h), if_pos h]
    · rw [if_neg h, if_neg (Nat.lt_irrefl 0), if_neg h]
theorem ok_num (k : Kd) (r : List Nat) : decide (numOf k r ≠ 0) = (match codeOf k r with | some c => isC c | none => false) := by
  unfold numOf
  cases codeOf k r with
  | none => rfl
  | some c =>
    show decide ((if isC c = true then c else 0) ≠ 0) = isC c
    by_cases h : isC c = true
    · rw [if_pos h, h]
      exact decide_eq_true (Nat.pos_iff_ne_zero.mp (isC_pos h))
    · rw [if_neg h, Bool.eq_false_iff.mpr h]
      rfl
/-- what the sum of the law is -/
def ten (i : Nat) : Int := ([1, 128, 16384] : List Int).getD i 0
theorem sum_num (g : List Nat) (h : g.length ≤ 3) : ((List.range g.length).map fun i => ((g.getD i 0 : Nat) : Int) % 128 * ten i).sum = ((g.foldr (fun o n => n * 128 + o % 128) 0 : Nat) : Int) := by
  match g, h with
  | [], _ => rfl
  | [a], _ =>
    show ((a : Nat) : Int) % 128 * 1 + 0 = ((0 * 128 + a % 128 : Nat) : Int)
    omega
  | [a, b], _ =>
    show ((a : Nat) : Int) % 128 * 1 + (((b : Nat) : Int) % 128 * 128 + 0) = (((0 * 128 + b % 128) * 128 + a % 128 : Nat) : Int)
    omega
  | [a, b, c], _ =>
    show ((a : Nat) : Int) % 128 * 1 + (((b : Nat) : Int) % 128 * 128 + (((c : Nat) : Int) % 128 * 16384 + 0)) = ((((0 * 128 + c % 128) * 128 + b % 128) * 128 + a % 128 : Nat) : Int)
    omega
theorem last_small {g : List Nat} (ne : g ≠ []) (o : Oct g) : g.getD (g.length - 1) 0 < 256 := by
  obtain ⟨ys, e⟩ := snoc_of ne
  exact o _ (by rw [e]; simp)
theorem nums_list {k : Kd} (rs : List (List Nat)) : (List.range rs.length).map (fun i => iv (numOf k (rs.getD i []))) = (rs.map (numOf k)).map iv := by
  apply List.ext_getElem
  · simp
  · intro i h1 h2
    simp at h1
    simp [List.getD_eq_getElem?_getD, List.getElem?_eq_getElem h1]
theorem knowns_list {k : Kd} (rs : List (List Nat)) : (List.range rs.length).map (fun i => iv (known (codeOf k (rs.getD i [])))) = (rs.map fun r => known (codeOf k r)).map iv := by
  apply List.ext_getElem
  · simp
  · intro i h1 h2
    simp at h1
    simp [List.getD_eq_getElem?_getD, List.getElem?_eq_getElem h1]
/-! the promises -/
def spGet (K : PySem.W.Frag) (C : Addr) : Sp := fun vs H Q _ => ∃ a cs, ∃ j c : Nat, vs = [.ref a, iv j] ∧ At K H C a cs ∧ cs[j]? = some c ∧ Q (iv c) H
def spLOct : Sp := fun vs H Q _ => ∃ (k : Kd) (a : Addr) (cs : List Nat), vs = [.str k.name, .ref a] ∧ H a = some (.lst (cs.map iv)) ∧ (∀ c ∈ cs, isC c = true) ∧ cs.length ≤ 30 ∧
  ((∃ i, k = .latin ∧ wideAt cs i ∧ ∀ H1, Same H H1 → Q (.int (i : Nat)) H1) ∨ ((∀ c ∈ cs, inKd k c) ∧ ∀ H1 p, Same H H1 → H p = none → H1 p = some (.lst ((cs.map (rowOf k)).flatten.map iv)) → Q (.ref p) H1))
def spLIs : Sp := fun vs H Q _ => ∃ c : Nat, vs = [iv c] ∧ Q (.bl (isC c)) H
def spLRows : Sp := fun vs H Q _ => ∃ (k : Kd) (a : Addr) (os : List Nat), vs = [.str k.name, .ref a] ∧ H a = some (.lst (os.map iv)) ∧ os.length ≤ 30 ∧ ∀ H1 p ps, Same H H1 → H p = none → H1 p = some (.lst (ps.map V.ref)) → LRows H1 ps (rowsOf k os) → Q (.ref p) H1
def spLNum : Sp := fun vs H Q _ => ∃ (k : Kd) (p : Addr) (g : List Nat), vs = [.str k.name, .ref p] ∧ H p = some (.lst (g.map iv)) ∧ g ≠ [] ∧ g.length ≤ 3 ∧ Oct g ∧ ∀ H1, Same H H1 → Q (iv (numOf k g)) H1
def okR (k : Kd) (os : List Nat) : Bool := (rowsOf k os).all fun r => match codeOf k r with | some c => isC c | none => false
def readR (k : Kd) (os : List Nat) : List Nat := (rowsOf k os).map fun r => known (codeOf k r)
def spLDec : Sp := fun vs H Q _ => ∃ (k : Kd) (a : Addr) (os : List Nat), vs = [.str k.name, .ref a] ∧ H a = some (.lst (os.map iv)) ∧ os.length ≤ 30 ∧ Oct os ∧ ∀ H1 t p, Same H H1 → H1 t = some (.tup [.ref p, .bl (okR k os)]) → H1 p = some (.lst ((readR k os).map iv)) → Q (.ref t) H1
theorem not_in_num (k : Kd) (rs : List (List Nat)) : (!inV (.int 0) ((rs.map (numOf k)).map iv)) = rs.all fun r => match codeOf k r with | some c => isC c | none => false := by
  induction rs with
  | nil => rfl
  | cons r rs ih =>
    rw [List.all_cons, ← ih, ← ok_num, List.map_cons, List.map_cons]
    unfold inV
    rw [List.any_cons, Bool.not_or]
    congr 1
    show (!(decide _)) = _
    by_cases h : numOf k r = 0
    · rw [h]
      rfl
    · rw [decide_eq_true h]
      rw [Bool.not_eq_true', decide_eq_false_iff_not]
      intro z
      omega
end Cs
namespace Cs
open PySem L2 Tx Cd
/-! ### the law's defs of k11 -/
def spWritten (T : List (Addr × Str)) : Sp := fun vs H Q _ => ∃ (k : Kd) (a : Addr) (cs : List Nat), vs = [.str k.name, .ref a] ∧ H a = some (.lst (cs.map iv)) ∧ (∀ c ∈ cs, isC c = true) ∧ cs.length ≤ 20 ∧ LamX.Tabs T H ∧ ∀ H1, LamX.ExtN H H1 → LamX.Tabs T H1 → Q (.bl true) H1
def spRead : Sp := fun vs H Q _ => ∃ (k : Kd) (a : Addr) (os : List Nat), vs = [.str k.name, .ref a] ∧ H a = some (.lst (os.map iv)) ∧ os.length ≤ 20 ∧ Oct os ∧ ∀ H1, Same H H1 → Q (.bl true) H1
theorem rs_same {H H' : Hp} {E : XK} {C : Addr} {f : Str} {v : V} (r : Pw.Rs H E C f v) (s : Same H H') : Pw.Rs H' E C f v := fun H1 d s1 nd => r H1 d (s.trans s1) nd
/-- a pair of a word and a whole number -/
def wdI (z : Str) (i : Int) : PyData := .tuple [.str z, .int i]
theorem eqv_wdI (z : Str) (i : Int) : PyData.eqv (wdI z i) (wdI z i) = true := by
  unfold wdI
  simp only [PyData.eqv, PyData.eqvAll, beq_self_eq_true, decide_true, Bool.and_self]
theorem shp_wdI {z : Str} (h : PyData.strOk z = true) (i : Int) : SeqAt.shaped (wdI z i) = true := by
  show (PyData.canLay0 _ && decide (PyData.depth _ ≤ 64)) = true
  simp only [wdI, PyData.canLay0, PyData.canLayAll0, PyData.depth, PyData.depthAll]
  rw [h]
  decide
theorem dp_wdI {K : PySem.W.Frag} {H : Hp} {z : Str} {i : Int} {r : Addr} (e : H r = some (.tup [.str z, .int i])) : Dp K H (.ref r) (wdI z i) := .tup (SqT.of e) (.cons (.str _) (.cons (.int _) .nil))
/-- a list of one tuple of codes -/
def ltup (os : List Nat) : PyData := .list [.tuple (os.map fun (c : Nat) => PyData.int (c : Int))]
theorem eqv_ltup (os : List Nat) : PyData.eqv (ltup os) (ltup os) = true := by
  show PyData.eqv (.list [_]) (.list [_]) = true
  rw [PyData.eqv, PyData.eqvAll, eqv_tup, decide_eq_true rfl]
  rfl
theorem shp_ltup (os : List Nat) : SeqAt.shaped (ltup os) = true := by
  have h := shaped_ints os
  have h : (PyData.canLay0 _ && decide (PyData.depth _ ≤ 64)) = true := h
  have h1 := dep_ints os
  rw [Bool.and_eq_true] at h
  show (PyData.canLay0 _ && decide (PyData.depth _ ≤ 64)) = true
  rw [Bool.and_eq_true]
  refine ⟨?_, decide_eq_true ?_⟩
  · show PyData.canLay0 (.list [.tuple (os.map fun (c : Nat) => PyData.int (c : Int))]) = true
    simp only [PyData.canLay0, PyData.canLayAll0]
    have := h.1
    simp only [PyData.canLay0] at this
    rw [this]
    rfl
  · show PyData.depth (.list [.tuple (os.map fun (c : Nat) => PyData.int (c : Int))]) ≤ 64
    simp only [PyData.depth, PyData.depthAll]
    omega
theorem dp_ltup {K : PySem.W.Frag} {H : Hp} {os : List Nat} {r t : Addr} (e : H r = some (.lst [.ref t])) (f : H t = some (.tup (os.map iv))) : Dp K H (.ref r) (ltup os) := .lst (SqL.of e) (.cons (.tup (SqT.of f) (dps _)) .nil)
theorem eqv_same (l : List Nat) : PyData.eqv (.list (l.map fun (c : Nat) => PyData.int (c : Int))) (.list (l.map fun (c : Nat) => PyData.int (c : Int))) = true := (eqv_cs l l).trans (decide_eq_true rfl)
theorem sh_bool (b : Bool) : shows (.bool b) := by cases b <;> exact ⟨by decide +kernel, by decide +kernel⟩
def spRefused (T : List (Addr × Str)) : Sp := fun vs H Q _ => ∃ (d l : Addr) (m : Nat), vs = [.ref d] ∧ Dr.Draw H d l m ∧ m ≤ 500000 ∧ LamX.Tabs T H ∧ ∀ H1, Dr.Draw H1 d l (m + 3) → LamD.Kx d H H1 → LamX.Tabs T H1 → Q (.bl true) H1
def Sm1 (d : PyData) : Prop := SmZ d ∧ wgz d ≤ 1000 ∧ d.depth ≤ 1
def OddK (H : Hp) (v : V) : Prop := isCs v = false ∧ ∃ d, Od H v d ∧ Sm1 d
theorem sm_str {z : Str} (h : (PyData.strOk z && decide (z.length ≤ 1000)) = true) : Sm1 (.str z) := by
  rw [Bool.and_eq_true, decide_eq_true_eq] at h
  exact ⟨by simp only [SmZ]; exact h.1, by simp only [wgz]; exact h.2, by simp only [PyData.depth]; decide⟩
theorem od_str {H : Hp} {z : Str} (h : (PyData.strOk z && decide (z.length ≤ 1000)) = true) : Od H (.str z) (.str z) := by
  rw [Bool.and_eq_true, decide_eq_true_eq] at h
  exact .sc (.str z h.2 h.1)
def oddsK (l t d : Addr) : List V := [.str "Latin", .str "", .non, .int 5, .bl true, .ref l, .ref t, .ref d, .str "h", .str "latin wide"]
theorem oddsK_ok {H : Hp} {l t d : Addr} (h1 : H l = some (.lst [.str "wide"])) (h2 : H t = some (.tup [.str "steps"])) (h3 : H d = some (.dK [])) : ∀ v ∈ oddsK l t d, OddK H v := by
  intro v hv
  simp only [oddsK, List.mem_cons, List.not_mem_nil, or_false] at hv
  rcases hv with rfl | rfl | rfl | rfl | rfl | rfl | rfl | rfl | rfl | rfl
  · exact ⟨by decide +kernel, _, od_str (by decide +kernel), sm_str (by decide +kernel)⟩
  · exact ⟨by decide +kernel, _, od_str (by decide +kernel), sm_str (by decide +kernel)⟩
  · exact ⟨rfl, _, .sc .non, by simp only [SmZ], by simp only [wgz]; decide, by simp only [PyData.depth]; decide⟩
  · exact ⟨rfl, _, .sc (.int 5 (by decide)), by simp only [SmZ]; decide, by simp only [wgz]; decide, by simp only [PyData.depth]; decide⟩
  · exact ⟨rfl, _, .sc (.bl true), by simp only [SmZ], by simp only [wgz]; decide, by simp only [PyData.depth]; decide⟩
  · exact ⟨rfl, _, .lst h1 (.cons (.str _ (by decide +kernel) (by decide +kernel)) .nil) (by decide), by simp only [SmZ, SmZA]; decide +kernel, by simp only [wgz, wgzA]; decide +kernel, by simp only [PyData.depth, PyData.depthAll]; decide⟩
  · exact ⟨rfl, _, .tup h2 (.cons (.str _ (by decide +kernel) (by decide +kernel)) .nil) (by decide), by simp only [SmZ, SmZA]; decide +kernel, by simp only [wgz, wgzA]; decide +kernel, by simp only [PyData.depth, PyData.depthAll]; decide⟩
  · exact ⟨rfl, _, .dic h3, by simp only [SmZ], by simp only [wgz]; decide, by simp only [PyData.depth, PyData.depthKv]; decide⟩
  · exact ⟨by decide +kernel, _, od_str (by decide +kernel), sm_str (by decide +kernel)⟩
  · exact ⟨by decide +kernel, _, od_str (by decide +kernel), sm_str (by decide +kernel)⟩
theorem ext_upd {Hb Hm H1 : Hp} {p : Addr} {o : HO} (xm : LamX.ExtN Hb Hm) (np : Hm p = none) (x : LamX.ExtN Hm H1) : LamX.ExtN Hb (upd H1 p o) := fun b u e n => by
  have := xm b u e n
  have nb : b ≠ p := fun z => by rw [z, np] at this; cases this
  rw [upd_ne nb]
  exact x b u this n
theorem shz_wd {w : Str} {d : PyData} (h : Sm1 d) (hw : (PyData.strOk w && decide (w.length ≤ 1000)) = true := by decide +kernel) : showsZ (.tuple [.str w, d]) := by
  obtain ⟨a, b, c⟩ := Pw.sd_pair (w := w) h hw
  exact showsZ_of a (by omega) (by omega)
/-- what is no text: of a built-in kind, with its data, and whether it is the tuple (97,) -/
def FarF (K : PySem.W.Frag) (H : Hp) (v : V) : Prop := ∃ y : PyData, Od H v y ∧ Sm1 y ∧ Dp K H v y ∧ SeqAt.shaped y = true ∧ ((PyData.eqv y (.tuple [.int 97]) = true) ∨ (PyData.eqv y (.tuple [.int 97]) = false ∧ isTupH H v = false))
theorem far_ok {K : PySem.W.Frag} {H : Hp} {tA lB : Addr} (h1 : H tA = some (.tup [.int 97])) (h2 : H lB = some (.lst [])) : ∀ v ∈ ([.non, .int 5, .str "a", .ref tA, .ref lB] : List V), FarF K H v := by
  intro v hv
  simp only [List.mem_cons, List.not_mem_nil, or_false] at hv
  rcases hv with rfl | rfl | rfl | rfl | rfl
  · exact ⟨_, .sc .non, ⟨by simp only [SmZ], by simp only [wgz]; decide, by simp only [PyData.depth]; decide⟩, .non, by decide +kernel, .inr ⟨by decide +kernel, rfl⟩⟩
  · exact ⟨_, .sc (.int 5 (by decide)), ⟨by simp only [SmZ]; decide, by simp only [wgz]; decide, by simp only [PyData.depth]; decide⟩, .int _, by decide +kernel, .inr ⟨by decide +kernel, rfl⟩⟩
  · exact ⟨_, od_str (by decide +kernel), sm_str (by decide +kernel), .str _, by decide +kernel, .inr ⟨by decide +kernel, rfl⟩⟩
  · exact ⟨_, .tup h1 (.cons (.int 97 (by decide)) .nil) (by decide), ⟨by simp only [SmZ, SmZA]; decide, by simp only [wgz, wgzA]; decide, by simp only [PyData.depth, PyData.depthAll]; decide⟩, .tup (SqT.of h1) (.cons (.int _) .nil), by decide +kernel, .inl (by decide +kernel)⟩
  · exact ⟨_, .lst h2 .nil (by decide), ⟨by simp only [SmZ, SmZA], by simp only [wgz, wgzA]; decide, by simp only [PyData.depth, PyData.depthAll]; decide⟩, .lst (SqL.of h2) .nil, by decide +kernel, .inr ⟨by decide +kernel, by unfold isTupH; simp only [h2]⟩⟩
theorem rep_flat (n : Nat) : (List.replicate ((n : Int)).toNat [V.int 65]).flatten = List.replicate n (V.int 65) := by
  rw [show ((n : Int)).toNat = n from rfl]
  induction n with
  | zero => rfl
  | succ n ih => rw [List.replicate_succ, List.flatten_cons, ih, List.replicate_succ]; rfl
theorem bad_ok (n : Nat) {y : V} (h : Mk.btw y 0 255 = false) : Pw.badAt (List.replicate n (V.int 65) ++ [y] ++ [.int 65, .int 300]) n := by
  refine ⟨fun j x hj e => ?_, y, ?_, h⟩
  · rw [List.append_assoc, List.getElem?_append_left (by rw [List.length_replicate]; exact hj), List.getElem?_replicate, if_pos hj] at e
    cases e
    rfl
  · rw [List.append_assoc, List.getElem?_append_right (by rw [List.length_replicate]; exact Nat.le_refl _), List.length_replicate, Nat.sub_self]
    rfl
theorem bad_any {H : Hp} {n : Nat} {y : V} (h : AnyO H y) : ∀ v ∈ List.replicate n (V.int 65) ++ [y] ++ [.int 65, .int 300], AnyO H v := by
  intro v hv
  rcases List.mem_append.mp hv with hv | hv
  · rcases List.mem_append.mp hv with hv | hv
    · rw [List.eq_of_mem_replicate hv]
      exact .int _
    · rw [List.mem_singleton.mp hv]
      exact h
  · simp only [List.mem_cons, List.not_mem_nil, or_false] at hv
    rcases hv with rfl | rfl <;> exact .int _
def someL : List Nat := [32, 126, 36, 38, 160, 255, 256, 16256, 16383, 16384, 8364, 65535, 233, 16512, 300, 97]
def hereL : List Nat := [0, 1, 31, 32, 37, 65, 126, 127, 128, 129, 159, 160, 165, 233, 254, 255]
theorem some_ok : ∀ c ∈ someL, isC c = true := by decide +kernel
theorem here_ok : ∀ c ∈ hereL, c < 256 := by decide +kernel
theorem pr_of {L : List Nat} {PR : Nat → Prop} (h : ∀ c ∈ L, PR c) : ∀ v ∈ L.map iv, ∃ c : Nat, v = iv c ∧ PR c := by
  intro v hv
  obtain ⟨c, hc, rfl⟩ := List.mem_map.mp hv
  exact ⟨c, rfl, h c hc⟩
theorem rng_iv {H : Hp} {D : Addr} {f : Nat → Nat} {n : Nat} (e : H D = some (.lst ((List.range n).map fun o => iv (f o)))) : H D = some (.lst (((List.range n).map f).map iv)) := by rw [e, List.map_map]; rfl
/-- the octets that are none -/
def oddsB : List V := [.int 256, .int (-1), .bl true, .str "a", .non]
theorem oddsB_ok {H : Hp} : ∀ v ∈ oddsB, AnyO H v ∧ Mk.btw v 0 255 = false := by
  intro v hv
  simp only [oddsB, List.mem_cons, List.not_mem_nil, or_false] at hv
  rcases hv with rfl | rfl | rfl | rfl | rfl
  · exact ⟨.int _, rfl⟩
  · exact ⟨.int _, rfl⟩
  · exact ⟨.bl _, rfl⟩
  · exact ⟨.str _ (by decide +kernel) (by decide +kernel), rfl⟩
  · exact ⟨.non, rfl⟩
end Cs
namespace K11
open PySem L2
abbrev P : Program := PySem.Challenge.pw_headerfold_k11_charsets
local macro_rules | `(tactic| walk_at "g1") => `(tactic| first
  | ((with_reducible show tSeq _ _ _ _ _); refine g_seq ?_)
  | ((with_reducible show tAsg _ _ _ _ _); refine g_asg ?_)
  | ((with_reducible show gName _ _ _ _ _); refine g_name ?_)
  | ((with_reducible show tVar _ _ _ _); refine g_var rfl ?_)
  | ((with_reducible show tC _ _ _ _); refine g_c ?_)
  | ((with_reducible show tOp _ _ _ _ _ _); refine g_op ?_)
  | ((with_reducible show tUn _ _ _ _ _); refine g_un ?_)
  | ((with_reducible show rI0 _ _ _ _ _); refine g_I0 ?_)
  | ((with_reducible show rI _ _ _ _ _ _); refine g_I (by walk_at "side") ?_)
  | ((with_reducible show rU _ _ _ _); refine g_U ?_)
  | ((with_reducible show rEq _ _ _ _); refine g_eq rfl ?_)
  | ((with_reducible show rNe _ _ _ _); refine g_ne rfl ?_)
  | ((with_reducible show tCons _ _ _ _ _); refine g_tcons ?_)
  | ((with_reducible show tNil _ _ _); refine g_tnil ?_)
  | ((with_reducible show tCall _ _ _ _ _ _ _); refine g_call ?_)
  | ((with_reducible show tCB _ _ _ _ _); refine g_cb ?_)
  | ((with_reducible show tTup _ _ _ _); refine g_tup ?_)
  | ((with_reducible show tLst _ _ _ _); refine g_lst ?_)
  | ((with_reducible show tRet _ _ _ _); refine g_ret ?_)
  | ((with_reducible show tDrop _ _ _ _); refine g_drop ?_)
  | ((with_reducible show tNext _ _ _); refine g_next ?_)
  | ((with_reducible show tCont _ _ _); refine g_cont ?_)
  | ((with_reducible show tBreak _ _ _); refine g_break ?_)
  | ((with_reducible show tIfS _ _ _ _ _ _); refine g_ifs ?_)
  | ((with_reducible show tIf _ _ _ _ _ _); refine g_ife ?_)
  | ((with_reducible show tTest _ _ _ _); refine g_test ?_)
  | ((with_reducible show tB _ _ _ _); refine g_tb ?_)
  | ((with_reducible show tAnd _ _ _ _ _); refine g_and ?_)
  | ((with_reducible show tOr _ _ _ _ _); refine g_or ?_)
  | ((with_reducible show tNot _ _ _ _); refine g_not ?_)
  | ((with_reducible show tAndV _ _ _ _ _); refine g_andV ?_)
  | ((with_reducible show tOrV _ _ _ _ _); refine g_orV ?_)
  | ((with_reducible show tNotV _ _ _ _); refine g_notV ?_)
  | ((with_reducible show tChain _ _ _ _ _ _ _ _); refine g_chain ?_)
  | ((with_reducible show tDGet _ _ _ _ _); refine g_dget ?_)
  | ((with_reducible show sDPut _ _ _ _ _ _); refine g_dput ?_)
  | ((with_reducible show tFor _ _ _ _ _ _); refine g_for ?_)
  | ((with_reducible show tSl _ _ _ _ _ _ _); refine g_sl ?_)
  | ((with_reducible show tNoPart _ _ _); refine g_nop ?_)
  | ((with_reducible show tPart _ _ _ _); refine g_part ?_)
  | ((with_reducible show tM1 _ _ _ _ _ _); refine g_m1 ?_)
  | ((with_reducible show tM0 _ _ _ _ _); refine g_m0 ?_)
  | ((with_reducible show tBM _ _ _ _ _ _ _ _); refine g_bm ?_)
  | ((with_reducible show rMin1 _ _ _); refine g_min ?_)
  | ((with_reducible show rMax1 _ _ _); refine g_max ?_)
  | ((with_reducible show rOrd1 _ _ _); refine g_ord ?_)
  | ((with_reducible show rLtZ _ _ _ _); refine g_ltz ?_)
  | ((with_reducible show rIsN _ _ _ _); refine g_isn ?_)
  | ((with_reducible show rNotN _ _ _ _); refine g_notn ?_)
  | ((with_reducible show rInS _ _ _ _); refine g_inS ?_)
  | ((with_reducible show rNotInS _ _ _ _); refine g_notInS ?_)
  | ((with_reducible show iList _ _ _ _ _); refine g_ilist ?_)
  | ((with_reducible show iStr _ _ _ _); refine g_istr ?_)
  | ((with_reducible show iRng1 _ _ _ _); refine g_irng1 ?_)
  | ((with_reducible show tDisp _ _ _ _); refine g_disp ?_)
  | ((with_reducible show tPairs (_ :: _) _ _ _); refine g_pcons ?_)
  | ((with_reducible show tPairs [] _ _ _); refine g_pnil ?_)
  | ((with_reducible show rIsi _ [_, V.ty _] _ _); first | refine g_isint (by assumption) ?_ | refine g_isbl (by assumption) ?_ | refine g_isstr (by assumption) ?_)
  | ((with_reducible show rLeZ _ _ _ _); refine g_lez ?_)
  | ((with_reducible show tYes _ _ _); refine g_yes ?_)
  | ((with_reducible show tPar _ _ _ _ _ _); refine g_par ?_)
  | ((with_reducible show tDNewK _ _ _); refine g_dnew ?_)
  | ((with_reducible show gCons _ _ (_ :: _) _ _ _); refine g_gcons ?_)
  | ((with_reducible show gNil [] _ _ _); refine g_gnil ?_)
  | ((with_reducible show tLc _ _ _ _ _ _ _ _); refine g_lc ?_)
  | ((with_reducible show tKw0 _ _ _ _ _ _ _ _); refine g_kw0 ?_)
  | (with_reducible refine g_two ?_)
  | (with_reducible refine g_bl ?_)
  | (with_reducible refine g_int ?_)
  | (with_reducible refine iteF ?_)
  | (with_reducible refine iteT ?_)
  | (with_reducible refine g_isz ?_)
  | ((with_reducible show ∃ a v, V.ref _ = V.ref a ∧ DGet _ a _ (some v) ∧ _); refine g_dgets (by first | exact Dr.get_at (by assumption) | exact Dr.get_left (by assumption) | exact Dr.get_cells (by assumption) | exact Dr.get_used (by assumption)) ?_)
  | ((with_reducible show ∃ a H4, V.ref _ = V.ref a ∧ DPut _ a _ _ H4 ∧ _); refine g_dputs (by first | exact Dr.put_at (by assumption) | exact Dr.put_left (by assumption) | exact Dr.put_used (by assumption)) ?_)
  )
local macro_rules | `(tactic| walk_at "go") => `(tactic| repeat walk_at "g1")
local macro_rules | `(tactic| walk_at "side") => `(tactic| first
  | decide
  | omega
  | exact ⟨by decide, by decide⟩
  | exact ⟨by omega, by omega⟩
  | exact Or.inl ⟨by omega, by omega⟩
  | exact Or.inr ⟨by omega, by omega⟩
  | (show (0 : Int) < _; omega))
local macro_rules | `(tactic| walk_at "g1") => `(tactic| first
  | ((with_reducible show tRaiseE _ _ _ _ _ _ _); refine g_raise ?_)
  | ((with_reducible show tTryH _ _ _ _ _ _ _ _); refine g_tryH ?_)
  | ((with_reducible show tKw0S _ _ _ _ _ _ _ _); refine g_kw0S ?_)
  | ((with_reducible show iRng3 _ _ _ _); refine g_irng3 ?_)
  | ((with_reducible show tHeld _ _ _ _ _ _); refine g_held ?_)
  | ((with_reducible show tRevL _ _ _ _ _); refine g_revl ?_)
  | ((with_reducible show rStartZ _ _ _ _); refine g_startz ?_)
  | ((with_reducible show rCountZ _ _ _ _); refine g_countz ?_)
  )
local macro_rules | `(tactic| walk_at "g1") => `(tactic| first
  | ((with_reducible show tFld _ _ _ _ _ _); refine g_fld ?_)
  | ((with_reducible show sFld _ _ _ _ _ _ _); refine g_fldS ?_)
  | ((with_reducible show tProp _ _ _ _ _ _ _ _); refine g_prop ?_)
  | ((with_reducible show tMake _ _ _ _ _ _ _ _); refine g_make ?_)
  | ((with_reducible show ClX.tCMeth _ _ _ _ _ _ _ _); refine g_cmeth ?_)
  | ((with_reducible show StX.tStar _ _ _ _ _ _); refine g_starA ?_)
  | ((with_reducible show iEnumT _ _ _ _ _); refine g_ienT ?_)
  | ((with_reducible show iEnumZ _ _ _ _); refine g_ienZ ?_)
  | ((with_reducible show tRevT _ _ _ _ _); refine g_revT ?_)
  | ((with_reducible show tHex _ _ _ _); refine g_hex ?_)
  )
local macro_rules | `(tactic| walk_at "g1") => `(tactic| first
  | ((with_reducible show iTup _ _ _ _ _); refine g_itup ?_)
  )
local macro_rules | `(tactic| walk_at "g1") => `(tactic| first
  | ((with_reducible show ∃ i, Tx.iv _ = V.int i ∧ _); refine g_int ?_)
  )
local macro_rules | `(tactic| walk_at "g1") => `(tactic| first
  | ((with_reducible show iZipM _ _ _ _ _); refine g_zipM ?_)
  | ((with_reducible show tSMeth _ _ _ _ _ _ _ _); refine g_smeth ?_)
  | ((with_reducible show tMeth _ _ _ _ _ _ _ _ _ _); refine g_meth ?_)
  | ((with_reducible show gSub _ _ _ _ _ _ _); refine g_gsub ?_)
  | ((with_reducible show tCallN _ _ _ _ _ _ _ _ _ _); refine g_callN ?_)
  )
local macro_rules | `(tactic| walk_at "g1") => `(tactic| first
  | ((with_reducible show iRng2 _ _ _ _); refine g_irng2 ?_)
  )
local macro_rules | `(tactic| walk_at "hp") => `(tactic| first
  | assumption
  | (refine L2.Same.ap (by assumption) ?_; walk_at "hp")
  | (refine Dr.Kp.ap (by assumption) (by assumption) ?_; walk_at "hp")
  | (refine L2.Same.apL (by assumption) ?_; walk_at "hp")
  | (refine L2.Same.apT (by assumption) ?_; walk_at "hp")
  | (refine L2.SqL.of' ?_; walk_at "hp")
  | (refine L2.SqT.of' ?_; walk_at "hp"))
local macro_rules | `(tactic| walk_at "sm") => `(tactic| first
  | assumption
  | exact L2.Same.refl _
  | (refine L2.Same.trans ?_ (by assumption); walk_at "sm"))
local macro_rules | `(tactic| walk_at "g1") => `(tactic| first
  | ((with_reducible show tLst _ _ _ _); refine L2.g_lstN ?_)
  | ((with_reducible show tTup _ _ _ _); refine L2.g_tupN ?_)
  | ((with_reducible show tPar3 _ _ _ _ _ _ _); refine L2.g_par3 ?_)
  | (with_reducible refine L2.g_three ?_)
  )
local macro_rules | `(tactic| walk_at "g1") => `(tactic| first
  | ((with_reducible show tCallS _ _ _ _ _ _); refine L2.g_callS ?_)
  )
local macro_rules | `(tactic| walk_at "g1") => `(tactic| first
  | ((with_reducible show tDNewK _ _ _); refine L2.g_dnewN ?_)
  )
local macro_rules | `(tactic| walk_at "g1") => `(tactic| first
  | ((with_reducible show tMakeK _ _ _ _ _ _ _ _ _ _ _); refine L2.g_makeK ?_)
  )
local macro_rules | `(tactic| walk_at "g1") => `(tactic| first
  | ((with_reducible show tMakeKS _ _ _ _ _ _ _ _ _ _ _); refine L2.g_makeKS ?_)
  | ((with_reducible show tCMethKS _ _ _ _ _ _ _ _ _ _); refine L2.g_cmethKS ?_)
  | ((with_reducible show tNotO _ _ _ _ _ _ _); refine L2.g_notO ?_)
  | ((with_reducible show tTruO _ _ _ _ _ _ _); refine L2.g_truO ?_)
  )
local macro_rules | `(tactic| walk_at "ff") => `(tactic| ((try (refine iteF ?_)); walk_at "go"))
local macro_rules | `(tactic| walk_at "tt") => `(tactic| ((try (refine iteT ?_)); walk_at "go"))
local macro_rules | `(tactic| walk_at "g1") => `(tactic| first
  | ((with_reducible show tSMethK _ _ _ _ _ _ _ _ _ _); refine L2.g_smethK ?_)
  )
local macro_rules | `(tactic| walk_at "g1") => `(tactic| first
  | ((with_reducible show iEnum _ _ _ _ _); refine L2.g_ienL ?_)
  )
def topS (i : Nat) : Stmt := PySem.Challenge.pw_headerfold_k11_charsets.main.body.getD i (.Pass ⟨0, 0, 0, 0⟩)
abbrev s_is_number : Stmt := topS 12
abbrev sN_is_number : List Str := ["thing"]
theorem sc_is_number : FnScope sN_is_number ["thing"] (defScope s_is_number) := ⟨rfl, rfl, rfl, by decide +kernel, rfl, by decide +kernel, by decide +kernel⟩
abbrev s_is_between : Stmt := topS 13
abbrev sN_is_between : List Str := ["thing", "low", "high"]
theorem sc_is_between : FnScope sN_is_between ["thing", "low", "high"] (defScope s_is_between) := ⟨rfl, rfl, rfl, by decide +kernel, rfl, by decide +kernel, by decide +kernel⟩
abbrev s_consists_of : Stmt := topS 14
abbrev sN_consists_of : List Str := ["thing", "marks", "mark"]
theorem sc_consists_of : FnScope sN_consists_of ["thing", "marks"] (defScope s_consists_of) := ⟨rfl, rfl, rfl, by decide +kernel, rfl, by decide +kernel, by decide +kernel⟩
abbrev s_is_body : Stmt := topS 15
abbrev sN_is_body : List Str := ["thing"]
theorem sc_is_body : FnScope sN_is_body ["thing"] (defScope s_is_body) := ⟨rfl, rfl, rfl, by decide +kernel, rfl, by decide +kernel, by decide +kernel⟩
abbrev s_is_plain_code : Stmt := topS 16
abbrev sN_is_plain_code : List Str := ["thing"]
theorem sc_is_plain_code : FnScope sN_is_plain_code ["thing"] (defScope s_is_plain_code) := ⟨rfl, rfl, rfl, by decide +kernel, rfl, by decide +kernel, by decide +kernel⟩
abbrev s_is_code : Stmt := topS 17
abbrev sN_is_code : List Str := ["thing"]
theorem sc_is_code : FnScope sN_is_code ["thing"] (defScope s_is_code) := ⟨rfl, rfl, rfl, by decide +kernel, rfl, by decide +kernel, by decide +kernel⟩
abbrev s_mark_of : Stmt := topS 18
abbrev sN_mark_of : List Str := ["code"]
theorem sc_mark_of : FnScope sN_mark_of ["code"] (defScope s_mark_of) := ⟨rfl, rfl, rfl, by decide +kernel, rfl, by decide +kernel, by decide +kernel⟩
abbrev s__text_with : Stmt := topS 22
abbrev sN__text_with : List Str := ["codes", "made"]
theorem sc__text_with : FnScope sN__text_with ["codes"] (defScope s__text_with) := ⟨rfl, rfl, rfl, by decide +kernel, rfl, by decide +kernel, by decide +kernel⟩
abbrev s__shown : Stmt := topS 23
abbrev sN__shown : List Str := ["code"]
theorem sc__shown : FnScope sN__shown ["code"] (defScope s__shown) := ⟨rfl, rfl, rfl, by decide +kernel, rfl, by decide +kernel, by decide +kernel⟩
abbrev s_is_charset : Stmt := topS 27
abbrev sN_is_charset : List Str := ["thing"]
theorem sc_is_charset : FnScope sN_is_charset ["thing"] (defScope s_is_charset) := ⟨rfl, rfl, rfl, by decide +kernel, rfl, by decide +kernel, by decide +kernel⟩
abbrev s_check_text : Stmt := topS 28
abbrev sN_check_text : List Str := ["charset", "text", "place", "code"]
theorem sc_check_text : FnScope sN_check_text ["charset", "text"] (defScope s_check_text) := ⟨rfl, rfl, rfl, by decide +kernel, rfl, by decide +kernel, by decide +kernel⟩
abbrev s_octets_for : Stmt := topS 29
abbrev sN_octets_for : List Str := ["charset", "text", "octets", "code"]
theorem sc_octets_for : FnScope sN_octets_for ["charset", "text"] (defScope s_octets_for) := ⟨rfl, rfl, rfl, by decide +kernel, rfl, by decide +kernel, by decide +kernel⟩
abbrev s_text_from : Stmt := topS 30
abbrev sN_text_from : List Str := ["charset", "octets", "codes", "known", "row", "code"]
theorem sc_text_from : FnScope sN_text_from ["charset", "octets"] (defScope s_text_from) := ⟨rfl, rfl, rfl, by decide +kernel, rfl, by decide +kernel, by decide +kernel⟩
abbrev s__check_octets : Stmt := topS 31
abbrev sN__check_octets : List Str := ["octets", "place", "octet"]
theorem sc__check_octets : FnScope sN__check_octets ["octets"] (defScope s__check_octets) := ⟨rfl, rfl, rfl, by decide +kernel, rfl, by decide +kernel, by decide +kernel⟩
abbrev s__row_of : Stmt := topS 32
abbrev sN__row_of : List Str := ["charset", "code", "row"]
theorem sc__row_of : FnScope sN__row_of ["charset", "code"] (defScope s__row_of) := ⟨rfl, rfl, rfl, by decide +kernel, rfl, by decide +kernel, by decide +kernel⟩
abbrev s__rows_of : Stmt := topS 33
abbrev sN__rows_of : List Str := ["charset", "octets", "rows", "row", "octet"]
theorem sc__rows_of : FnScope sN__rows_of ["charset", "octets"] (defScope s__rows_of) := ⟨rfl, rfl, rfl, by decide +kernel, rfl, by decide +kernel, by decide +kernel⟩
abbrev s__is_whole : Stmt := topS 34
abbrev sN__is_whole : List Str := ["charset", "row"]
theorem sc__is_whole : FnScope sN__is_whole ["charset", "row"] (defScope s__is_whole) := ⟨rfl, rfl, rfl, by decide +kernel, rfl, by decide +kernel, by decide +kernel⟩
abbrev s__code_of : Stmt := topS 35
abbrev sN__code_of : List Str := ["charset", "row", "number", "octet"]
theorem sc__code_of : FnScope sN__code_of ["charset", "row"] (defScope s__code_of) := ⟨rfl, rfl, rfl, by decide +kernel, rfl, by decide +kernel, by decide +kernel⟩
abbrev s__law_begin : Stmt := topS 37
abbrev sN__law_begin : List Str := ["script"]
theorem sc__law_begin : FnScope sN__law_begin ["script"] (defScope s__law_begin) := ⟨rfl, rfl, rfl, by decide +kernel, rfl, by decide +kernel, by decide +kernel⟩
abbrev s__law_mixed : Stmt := topS 38
abbrev sN__law_mixed : List Str := ["cell", "k", "mixed"]
theorem sc__law_mixed : FnScope sN__law_mixed ["cell", "k"] (defScope s__law_mixed) := ⟨rfl, rfl, rfl, by decide +kernel, rfl, by decide +kernel, by decide +kernel⟩
abbrev s__law_next : Stmt := topS 39
abbrev sN__law_next : List Str := ["draw", "bound", "found", "cells", "cell"]
theorem sc__law_next : FnScope sN__law_next ["draw", "bound"] (defScope s__law_next) := ⟨rfl, rfl, rfl, by decide +kernel, rfl, by decide +kernel, by decide +kernel⟩
abbrev s__law_octets_for : Stmt := topS 40
abbrev sN__law_octets_for : List Str := ["kind", "numbers", "found", "k", "number"]
theorem sc__law_octets_for : FnScope sN__law_octets_for ["kind", "numbers"] (defScope s__law_octets_for) := ⟨rfl, rfl, rfl, by decide +kernel, rfl, by decide +kernel, by decide +kernel⟩
abbrev s__law_is_code : Stmt := topS 41
abbrev sN__law_is_code : List Str := ["number"]
theorem sc__law_is_code : FnScope sN__law_is_code ["number"] (defScope s__law_is_code) := ⟨rfl, rfl, rfl, by decide +kernel, rfl, by decide +kernel, by decide +kernel⟩
abbrev s__law_rows : Stmt := topS 42
abbrev sN__law_rows : List Str := ["kind", "row", "found", "last", "octet", "k"]
theorem sc__law_rows : FnScope sN__law_rows ["kind", "row"] (defScope s__law_rows) := ⟨rfl, rfl, rfl, by decide +kernel, rfl, by decide +kernel, by decide +kernel⟩
abbrev s__law_number : Stmt := topS 43
abbrev sN__law_number : List Str := ["kind", "group", "number", "k", "octet"]
theorem sc__law_number : FnScope sN__law_number ["kind", "group"] (defScope s__law_number) := ⟨rfl, rfl, rfl, by decide +kernel, rfl, by decide +kernel, by decide +kernel⟩
abbrev s__law_decoded : Stmt := topS 44
abbrev sN__law_decoded : List Str := ["kind", "row", "found", "group", "number"]
theorem sc__law_decoded : FnScope sN__law_decoded ["kind", "row"] (defScope s__law_decoded) := ⟨rfl, rfl, rfl, by decide +kernel, rfl, by decide +kernel, by decide +kernel⟩
abbrev s__law_told : Stmt := topS 45
abbrev sN__law_told : List Str := ["deed", "error", "found", "e"]
theorem sc__law_told : FnScope sN__law_told ["deed"] (defScope s__law_told) := ⟨rfl, rfl, rfl, by decide +kernel, rfl, by decide +kernel, by decide +kernel⟩
abbrev s__law_written_right : Stmt := topS 46
abbrev sN__law_written_right : List Str := ["kind", "numbers", "due", "told", "found", "is_fine"]
theorem sc__law_written_right : FnScope sN__law_written_right ["kind", "numbers"] (defScope s__law_written_right) := ⟨rfl, rfl, rfl, by decide +kernel, rfl, by decide +kernel, by decide +kernel⟩
abbrev s__law_read_right : Stmt := topS 47
abbrev sN__law_read_right : List Str := ["kind", "row", "due", "is_due", "found", "is_fine"]
theorem sc__law_read_right : FnScope sN__law_read_right ["kind", "row"] (defScope s__law_read_right) := ⟨rfl, rfl, rfl, by decide +kernel, rfl, by decide +kernel, by decide +kernel⟩
abbrev s__law_refused_right : Stmt := topS 48
abbrev sN__law_refused_right : List Str := ["draw", "odd", "told", "far", "at", "bad", "kind"]
theorem sc__law_refused_right : FnScope sN__law_refused_right ["draw"] (defScope s__law_refused_right) := ⟨rfl, rfl, rfl, by decide +kernel, rfl, by decide +kernel, by decide +kernel⟩
abbrev s_law : Stmt := topS 49
abbrev sN_law : List Str := ["script", "draw", "some", "numbers_here", "bout", "numbers", "row", "kind", "due", "k", "octet"]
theorem sc_law : FnScope sN_law ["script"] (defScope s_law) := ⟨rfl, rfl, rfl, by decide +kernel, rfl, by decide +kernel, by decide +kernel⟩
def inCls (s : Stmt) (i : Nat) : Stmt := match s with
  | .ClassDef _ _ _ b _ _ _ _ _ _ _ => b.getD i (.Pass ⟨0, 0, 0, 0⟩)
  | _ => .Pass ⟨0, 0, 0, 0⟩
abbrev si_BadText : Stmt := inCls (topS 4) 0
abbrev si_BadCode : Stmt := inCls (topS 5) 0
abbrev si_BadOctet : Stmt := inCls (topS 6) 0
abbrev si_BadCharset : Stmt := inCls (topS 7) 0
abbrev s_Text___init__ : Stmt := inCls (topS 21) 0
abbrev sN_Text___init__ : List Str := ["self", "marks", "mark"]
theorem sc_Text___init__ : FnScope sN_Text___init__ ["self", "marks"] (defScope s_Text___init__) := ⟨rfl, rfl, rfl, by decide +kernel, rfl, by decide +kernel, by decide +kernel⟩
abbrev s_Text_of : Stmt := inCls (topS 21) 1
abbrev sN_Text_of : List Str := ["cls", "codes", "place", "code"]
theorem sc_Text_of : FnScope sN_Text_of ["cls", "codes"] (defScope s_Text_of) := ⟨rfl, rfl, rfl, by decide +kernel, rfl, by decide +kernel, by decide +kernel⟩
abbrev s_Text_codes : Stmt := inCls (topS 21) 3
abbrev sN_Text_codes : List Str := ["self"]
theorem sc_Text_codes : FnScope sN_Text_codes ["self"] (defScope s_Text_codes) := ⟨rfl, rfl, rfl, by decide +kernel, rfl, by decide +kernel, by decide +kernel⟩
abbrev s_Text___getitem__ : Stmt := inCls (topS 21) 8
abbrev sN_Text___getitem__ : List Str := ["self", "at"]
theorem sc_Text___getitem__ : FnScope sN_Text___getitem__ ["self", "at"] (defScope s_Text___getitem__) := ⟨rfl, rfl, rfl, by decide +kernel, rfl, by decide +kernel, by decide +kernel⟩
abbrev s_Text___eq__ : Stmt := inCls (topS 21) 13
abbrev sN_Text___eq__ : List Str := ["self", "other"]
theorem sc_Text___eq__ : FnScope sN_Text___eq__ ["self", "other"] (defScope s_Text___eq__) := ⟨rfl, rfl, rfl, by decide +kernel, rfl, by decide +kernel, by decide +kernel⟩
/-- what the top has written -/
structure Txt (K : PySem.W.Frag) (mg : Str → Option Value) where
  f_is_number : Addr
  fd_is_number : FuncData
  F_is_number : Fun K "is_number" "is_number" s_is_number f_is_number fd_is_number
  g_is_number : mg "is_number" = some (.ref f_is_number)
  b_is_number : Binds K fd_is_number ["thing"] []
  f_is_between : Addr
  fd_is_between : FuncData
  F_is_between : Fun K "is_between" "is_between" s_is_between f_is_between fd_is_between
  g_is_between : mg "is_between" = some (.ref f_is_between)
  b_is_between : Binds K fd_is_between ["thing", "low", "high"] []
  f_consists_of : Addr
  fd_consists_of : FuncData
  F_consists_of : Fun K "consists_of" "consists_of" s_consists_of f_consists_of fd_consists_of
  g_consists_of : mg "consists_of" = some (.ref f_consists_of)
  b_consists_of : Binds K fd_consists_of ["thing", "marks"] []
  f_is_body : Addr
  fd_is_body : FuncData
  F_is_body : Fun K "is_body" "is_body" s_is_body f_is_body fd_is_body
  g_is_body : mg "is_body" = some (.ref f_is_body)
  b_is_body : Binds K fd_is_body ["thing"] []
  f_is_plain_code : Addr
  fd_is_plain_code : FuncData
  F_is_plain_code : Fun K "is_plain_code" "is_plain_code" s_is_plain_code f_is_plain_code fd_is_plain_code
  g_is_plain_code : mg "is_plain_code" = some (.ref f_is_plain_code)
  b_is_plain_code : Binds K fd_is_plain_code ["thing"] []
  f_is_code : Addr
  fd_is_code : FuncData
  F_is_code : Fun K "is_code" "is_code" s_is_code f_is_code fd_is_code
  g_is_code : mg "is_code" = some (.ref f_is_code)
  b_is_code : Binds K fd_is_code ["thing"] []
  f_mark_of : Addr
  fd_mark_of : FuncData
  F_mark_of : Fun K "mark_of" "mark_of" s_mark_of f_mark_of fd_mark_of
  g_mark_of : mg "mark_of" = some (.ref f_mark_of)
  b_mark_of : Binds K fd_mark_of ["code"] []
  f__text_with : Addr
  fd__text_with : FuncData
  F__text_with : Fun K "_text_with" "_text_with" s__text_with f__text_with fd__text_with
  g__text_with : mg "_text_with" = some (.ref f__text_with)
  b__text_with : Binds K fd__text_with ["codes"] []
  f__shown : Addr
  fd__shown : FuncData
  F__shown : Fun K "_shown" "_shown" s__shown f__shown fd__shown
  g__shown : mg "_shown" = some (.ref f__shown)
  b__shown : Binds K fd__shown ["code"] []
  f_is_charset : Addr
  fd_is_charset : FuncData
  F_is_charset : Fun K "is_charset" "is_charset" s_is_charset f_is_charset fd_is_charset
  g_is_charset : mg "is_charset" = some (.ref f_is_charset)
  b_is_charset : Binds K fd_is_charset ["thing"] []
  f_check_text : Addr
  fd_check_text : FuncData
  F_check_text : Fun K "check_text" "check_text" s_check_text f_check_text fd_check_text
  g_check_text : mg "check_text" = some (.ref f_check_text)
  b_check_text : Binds K fd_check_text ["charset", "text"] []
  f_octets_for : Addr
  fd_octets_for : FuncData
  F_octets_for : Fun K "octets_for" "octets_for" s_octets_for f_octets_for fd_octets_for
  g_octets_for : mg "octets_for" = some (.ref f_octets_for)
  b_octets_for : Binds K fd_octets_for ["charset", "text"] []
  f_text_from : Addr
  fd_text_from : FuncData
  F_text_from : Fun K "text_from" "text_from" s_text_from f_text_from fd_text_from
  g_text_from : mg "text_from" = some (.ref f_text_from)
  b_text_from : Binds K fd_text_from ["charset", "octets"] []
  f__check_octets : Addr
  fd__check_octets : FuncData
  F__check_octets : Fun K "_check_octets" "_check_octets" s__check_octets f__check_octets fd__check_octets
  g__check_octets : mg "_check_octets" = some (.ref f__check_octets)
  b__check_octets : Binds K fd__check_octets ["octets"] []
  f__row_of : Addr
  fd__row_of : FuncData
  F__row_of : Fun K "_row_of" "_row_of" s__row_of f__row_of fd__row_of
  g__row_of : mg "_row_of" = some (.ref f__row_of)
  b__row_of : Binds K fd__row_of ["charset", "code"] []
  f__rows_of : Addr
  fd__rows_of : FuncData
  F__rows_of : Fun K "_rows_of" "_rows_of" s__rows_of f__rows_of fd__rows_of
  g__rows_of : mg "_rows_of" = some (.ref f__rows_of)
  b__rows_of : Binds K fd__rows_of ["charset", "octets"] []
  f__is_whole : Addr
  fd__is_whole : FuncData
  F__is_whole : Fun K "_is_whole" "_is_whole" s__is_whole f__is_whole fd__is_whole
  g__is_whole : mg "_is_whole" = some (.ref f__is_whole)
  b__is_whole : Binds K fd__is_whole ["charset", "row"] []
  f__code_of : Addr
  fd__code_of : FuncData
  F__code_of : Fun K "_code_of" "_code_of" s__code_of f__code_of fd__code_of
  g__code_of : mg "_code_of" = some (.ref f__code_of)
  b__code_of : Binds K fd__code_of ["charset", "row"] []
  f__law_begin : Addr
  fd__law_begin : FuncData
  F__law_begin : Fun K "_law_begin" "_law_begin" s__law_begin f__law_begin fd__law_begin
  g__law_begin : mg "_law_begin" = some (.ref f__law_begin)
  b__law_begin : Binds K fd__law_begin ["script"] []
  f__law_mixed : Addr
  fd__law_mixed : FuncData
  F__law_mixed : Fun K "_law_mixed" "_law_mixed" s__law_mixed f__law_mixed fd__law_mixed
  g__law_mixed : mg "_law_mixed" = some (.ref f__law_mixed)
  b__law_mixed : Binds K fd__law_mixed ["cell", "k"] []
  f__law_next : Addr
  fd__law_next : FuncData
  F__law_next : Fun K "_law_next" "_law_next" s__law_next f__law_next fd__law_next
  g__law_next : mg "_law_next" = some (.ref f__law_next)
  b__law_next : Binds K fd__law_next ["draw", "bound"] []
  f__law_octets_for : Addr
  fd__law_octets_for : FuncData
  F__law_octets_for : Fun K "_law_octets_for" "_law_octets_for" s__law_octets_for f__law_octets_for fd__law_octets_for
  g__law_octets_for : mg "_law_octets_for" = some (.ref f__law_octets_for)
  b__law_octets_for : Binds K fd__law_octets_for ["kind", "numbers"] []
  f__law_is_code : Addr
  fd__law_is_code : FuncData
  F__law_is_code : Fun K "_law_is_code" "_law_is_code" s__law_is_code f__law_is_code fd__law_is_code
  g__law_is_code : mg "_law_is_code" = some (.ref f__law_is_code)
  b__law_is_code : Binds K fd__law_is_code ["number"] []
  f__law_rows : Addr
  fd__law_rows : FuncData
  F__law_rows : Fun K "_law_rows" "_law_rows" s__law_rows f__law_rows fd__law_rows
  g__law_rows : mg "_law_rows" = some (.ref f__law_rows)
  b__law_rows : Binds K fd__law_rows ["kind", "row"] []
  f__law_number : Addr
  fd__law_number : FuncData
  F__law_number : Fun K "_law_number" "_law_number" s__law_number f__law_number fd__law_number
  g__law_number : mg "_law_number" = some (.ref f__law_number)
  b__law_number : Binds K fd__law_number ["kind", "group"] []
  f__law_decoded : Addr
  fd__law_decoded : FuncData
  F__law_decoded : Fun K "_law_decoded" "_law_decoded" s__law_decoded f__law_decoded fd__law_decoded
  g__law_decoded : mg "_law_decoded" = some (.ref f__law_decoded)
  b__law_decoded : Binds K fd__law_decoded ["kind", "row"] []
  f__law_told : Addr
  fd__law_told : FuncData
  F__law_told : Fun K "_law_told" "_law_told" s__law_told f__law_told fd__law_told
  g__law_told : mg "_law_told" = some (.ref f__law_told)
  b__law_told : Binds K fd__law_told ["deed"] []
  f__law_written_right : Addr
  fd__law_written_right : FuncData
  F__law_written_right : Fun K "_law_written_right" "_law_written_right" s__law_written_right f__law_written_right fd__law_written_right
  g__law_written_right : mg "_law_written_right" = some (.ref f__law_written_right)
  b__law_written_right : Binds K fd__law_written_right ["kind", "numbers"] []
  f__law_read_right : Addr
  fd__law_read_right : FuncData
  F__law_read_right : Fun K "_law_read_right" "_law_read_right" s__law_read_right f__law_read_right fd__law_read_right
  g__law_read_right : mg "_law_read_right" = some (.ref f__law_read_right)
  b__law_read_right : Binds K fd__law_read_right ["kind", "row"] []
  f__law_refused_right : Addr
  fd__law_refused_right : FuncData
  F__law_refused_right : Fun K "_law_refused_right" "_law_refused_right" s__law_refused_right f__law_refused_right fd__law_refused_right
  g__law_refused_right : mg "_law_refused_right" = some (.ref f__law_refused_right)
  b__law_refused_right : Binds K fd__law_refused_right ["draw"] []
  f_law : Addr
  fd_law : FuncData
  F_law : Fun K "law" "law" s_law f_law fd_law
  g_law : mg "law" = some (.ref f_law)
  b_law : Binds K fd_law ["script"] []
  t_MARKS : Tok
  g_MARKS : mg "MARKS" = some (.str " !\"#$&'()*+,-./0123456789:;<=>?@ABCDEFGHIJKLMNOPQRSTUVWXYZ[\\]^_`abcdefghijklmnopqrstuvwxyz{|}~" t_MARKS)
  t__MISSING_CODE : Tok
  g__MISSING_CODE : mg "_MISSING_CODE" = some (.int 37 t__MISSING_CODE)
  t__SPACE : Tok
  g__SPACE : mg "_SPACE" = some (.int 32 t__SPACE)
  a_CHARSETS : Addr
  g_CHARSETS : mg "CHARSETS" = some (.ref a_CHARSETS)
  q_CHARSETS : ∀ H, SqT K H a_CHARSETS [.str "latin", .str "wide", .str "steps"]
  t__UNKNOWN : Tok
  g__UNKNOWN : mg "_UNKNOWN" = some (.int 63 t__UNKNOWN)
  m_len : mg "len" = none
  m_range : mg "range" = none
  m_isinstance : mg "isinstance" = none
  m_int : mg "int" = none
  m_str : mg "str" = none
  m_bool : mg "bool" = none
  m_repr : mg "repr" = none
  m_all : mg "all" = none
  m_ord : mg "ord" = none
  m_tuple : mg "tuple" = none
  m_list : mg "list" = none
  m_sum : mg "sum" = none
  m_enumerate : mg "enumerate" = none
  co__law_written_right : Addr
  P__law_written_right : Addr
  FC__law_written_right : LamD.FunC K "_law_written_right" "_law_written_right" s__law_written_right f__law_written_right fd__law_written_right co__law_written_right
  co__law_refused_right : Addr
  P__law_refused_right : Addr
  FC__law_refused_right : LamD.FunC K "_law_refused_right" "_law_refused_right" s__law_refused_right f__law_refused_right fd__law_refused_right co__law_refused_right
  ne__law_written_right__law_refused_right : P__law_written_right ≠ P__law_refused_right
  ne__law_refused_right__law_written_right : P__law_refused_right ≠ P__law_written_right
  C_HeaderError : Addr
  g_HeaderError : mg "HeaderError" = some (.ref C_HeaderError)
  C_BadText : Addr
  i_BadText : Addr
  C_BadCode : Addr
  i_BadCode : Addr
  C_BadOctet : Addr
  i_BadOctet : Addr
  C_BadCharset : Addr
  i_BadCharset : Addr
  g_BadText : mg "BadText" = some (.ref C_BadText)
  E_BadText : XS.ErrC P K C_BadText i_BadText "given" "given"
  X_BadText : XfC K C_BadText
  N_BadText : PySem.W.findIn K (.ref C_BadText) "given" = some none
  I_BadText : ExcC K C_BadText
  M_BadText : PySem.W.exmAny K (.ref C_BadText) [.ref C_BadCharset, .ref C_BadCode, .ref C_BadOctet, .ref C_BadText] = some true
  O_BadText_BadText : PySem.W.kitOne K (.ref C_BadText) (.ref C_BadText) = some true
  O_BadText_BadCode : PySem.W.kitOne K (.ref C_BadText) (.ref C_BadCode) = some false
  O_BadText_BadOctet : PySem.W.kitOne K (.ref C_BadText) (.ref C_BadOctet) = some false
  O_BadText_BadCharset : PySem.W.kitOne K (.ref C_BadText) (.ref C_BadCharset) = some false
  g_BadCode : mg "BadCode" = some (.ref C_BadCode)
  E_BadCode : XS.ErrC P K C_BadCode i_BadCode "place" "place"
  X_BadCode : XfC K C_BadCode
  N_BadCode : PySem.W.findIn K (.ref C_BadCode) "place" = some none
  I_BadCode : ExcC K C_BadCode
  M_BadCode : PySem.W.exmAny K (.ref C_BadCode) [.ref C_BadCharset, .ref C_BadCode, .ref C_BadOctet, .ref C_BadText] = some true
  O_BadCode_BadText : PySem.W.kitOne K (.ref C_BadCode) (.ref C_BadText) = some false
  O_BadCode_BadCode : PySem.W.kitOne K (.ref C_BadCode) (.ref C_BadCode) = some true
  O_BadCode_BadOctet : PySem.W.kitOne K (.ref C_BadCode) (.ref C_BadOctet) = some false
  O_BadCode_BadCharset : PySem.W.kitOne K (.ref C_BadCode) (.ref C_BadCharset) = some false
  g_BadOctet : mg "BadOctet" = some (.ref C_BadOctet)
  E_BadOctet : XS.ErrC P K C_BadOctet i_BadOctet "place" "place"
  X_BadOctet : XfC K C_BadOctet
  N_BadOctet : PySem.W.findIn K (.ref C_BadOctet) "place" = some none
  I_BadOctet : ExcC K C_BadOctet
  M_BadOctet : PySem.W.exmAny K (.ref C_BadOctet) [.ref C_BadCharset, .ref C_BadCode, .ref C_BadOctet, .ref C_BadText] = some true
  O_BadOctet_BadText : PySem.W.kitOne K (.ref C_BadOctet) (.ref C_BadText) = some false
  O_BadOctet_BadCode : PySem.W.kitOne K (.ref C_BadOctet) (.ref C_BadCode) = some false
  O_BadOctet_BadOctet : PySem.W.kitOne K (.ref C_BadOctet) (.ref C_BadOctet) = some true
  O_BadOctet_BadCharset : PySem.W.kitOne K (.ref C_BadOctet) (.ref C_BadCharset) = some false
  g_BadCharset : mg "BadCharset" = some (.ref C_BadCharset)
  E_BadCharset : XS.ErrC P K C_BadCharset i_BadCharset "given" "given"
  X_BadCharset : XfC K C_BadCharset
  N_BadCharset : PySem.W.findIn K (.ref C_BadCharset) "given" = some none
  I_BadCharset : ExcC K C_BadCharset
  M_BadCharset : PySem.W.exmAny K (.ref C_BadCharset) [.ref C_BadCharset, .ref C_BadCode, .ref C_BadOctet, .ref C_BadText] = some true
  O_BadCharset_BadText : PySem.W.kitOne K (.ref C_BadCharset) (.ref C_BadText) = some false
  O_BadCharset_BadCode : PySem.W.kitOne K (.ref C_BadCharset) (.ref C_BadCode) = some false
  O_BadCharset_BadOctet : PySem.W.kitOne K (.ref C_BadCharset) (.ref C_BadOctet) = some false
  O_BadCharset_BadCharset : PySem.W.kitOne K (.ref C_BadCharset) (.ref C_BadCharset) = some true
  C_Text : Addr
  g_Text : mg "Text" = some (.ref C_Text)
  c_Text : Cls K C_Text
  sf_Text : PySem.W.selfFirst K C_Text = true
  ty_Text : ∀ (H : Hp) (a dx : Addr) (fs : List (Str × V)), H a = some (.ins C_Text dx fs) → TyX K H (.ref a) (.ref C_Text)
  ks_Text : PySem.W.kitOne K (.ref C_Text) (.ref C_Text) = some true
  nk_Text : NoKit K C_Text
  mo_Text : PySem.W.mroIn K C_Text (.type "object") = some true
  ne_Text : PySem.W.findIn K (.ref C_Text) "__ne__" = some (some (.builtin "object.__ne__"))
  ns_Text : NoSub K C_Text
  kt_Text_int : PySem.W.kitOne K (.ref C_Text) (.type "int") = some false
  nf_Text__codes : NoAttr K C_Text "_codes"
  f_Text___init__ : Addr
  fd_Text___init__ : FuncData
  F_Text___init__ : FunD K "__init__" "Text.__init__" (defArgs s_Text___init__) (defBody s_Text___init__) (defScope s_Text___init__) [.str ""] [] f_Text___init__ fd_Text___init__
  mk_Text : L2.Mk K C_Text f_Text___init__
  ds_Text : List Value
  vi_Text : Vals [.str ""] ds_Text
  bd_Text : Binds K fd_Text___init__ ["self", "marks"] ds_Text
  f_Text_of : Addr
  fd_Text_of : FuncData
  F_Text_of : Fun K "of" "Text.of" s_Text_of f_Text_of fd_Text_of
  b_Text_of : Binds K fd_Text_of ["cls", "codes"] []
  p_Text_of : Addr
  cr_Text : ClX.CRead K C_Text (.type "type")
  cm_Text_of : ClX.CMet K C_Text (.type "type") "of" p_Text_of f_Text_of
  f_Text_codes : Addr
  fd_Text_codes : FuncData
  F_Text_codes : Fun K "codes" "Text.codes" s_Text_codes f_Text_codes fd_Text_codes
  b_Text_codes : Binds K fd_Text_codes ["self"] []
  p_Text_codes : Addr
  pp_Text_codes : PropOf K C_Text "codes" p_Text_codes f_Text_codes
  f_Text___getitem__ : Addr
  fd_Text___getitem__ : FuncData
  F_Text___getitem__ : Fun K "__getitem__" "Text.__getitem__" s_Text___getitem__ f_Text___getitem__ fd_Text___getitem__
  b_Text___getitem__ : Binds K fd_Text___getitem__ ["self", "at"] []
  fn_Text___getitem__ : PySem.W.fnIn K f_Text___getitem__ = true
  at_Text___getitem__ : PySem.W.findIn K (.ref C_Text) "__getitem__" = some (some (.ref f_Text___getitem__))
  if_Text___getitem__ : PySem.W.isFn K (.ref f_Text___getitem__) = true
  f_Text___eq__ : Addr
  fd_Text___eq__ : FuncData
  F_Text___eq__ : Fun K "__eq__" "Text.__eq__" s_Text___eq__ f_Text___eq__ fd_Text___eq__
  b_Text___eq__ : Binds K fd_Text___eq__ ["self", "other"] []
  at_Text___eq__ : PySem.W.findIn K (.ref C_Text) "__eq__" = some (some (.ref f_Text___eq__))
  if_Text___eq__ : PySem.W.isFn K (.ref f_Text___eq__) = true
/-- the makers' tables, at the base -/
structure Tbs {K : PySem.W.Frag} {mg : Str → Option Value} (T : Txt K mg) (base : Heap) : Prop where
  _law_written_right : LamX.TabB base mg T.co__law_written_right T.P__law_written_right
  _law_refused_right : LamX.TabB base mg T.co__law_refused_right T.P__law_refused_right
def tabs {K : PySem.W.Frag} {mg : Str → Option Value} (T : Txt K mg) : List (Addr × Str) := [(T.P__law_written_right, LamD.quaL "_law_written_right"), (T.P__law_refused_right, LamD.quaL "_law_refused_right")]
theorem mem__law_written_right {K : PySem.W.Frag} {mg : Str → Option Value} (T : Txt K mg) : (T.P__law_written_right, LamD.quaL "_law_written_right") ∈ tabs T := (List.Mem.head _)
theorem hu__law_written_right {K : PySem.W.Frag} {mg : Str → Option Value} (T : Txt K mg) : ∀ p ∈ tabs T, p.1 = T.P__law_written_right → p.2 = LamD.quaL "_law_written_right" := fun p hp e => by
  simp only [tabs, List.mem_cons, List.not_mem_nil, or_false] at hp
  rcases hp with rfl | rfl
  · rfl
  · exact absurd e T.ne__law_refused_right__law_written_right
theorem mem__law_refused_right {K : PySem.W.Frag} {mg : Str → Option Value} (T : Txt K mg) : (T.P__law_refused_right, LamD.quaL "_law_refused_right") ∈ tabs T := (List.Mem.tail _ (List.Mem.head _))
theorem hu__law_refused_right {K : PySem.W.Frag} {mg : Str → Option Value} (T : Txt K mg) : ∀ p ∈ tabs T, p.1 = T.P__law_refused_right → p.2 = LamD.quaL "_law_refused_right" := fun p hp e => by
  simp only [tabs, List.mem_cons, List.not_mem_nil, or_false] at hp
  rcases hp with rfl | rfl
  · exact absurd e T.ne__law_written_right__law_refused_right
  · rfl
section
variable {w : World} {K : PySem.W.Frag} {mg : Str → Option Value} {base : Heap}
theorem ok__law_mixed (T : Txt K mg) : FnOk P w K mg base CX0 1 T.f__law_mixed T.fd__law_mixed ["cell", "k"] (Dr.spMixed) := by
  refine T.F__law_mixed.ok sc__law_mixed (fun vs H Q E h => ?_) (fun cdv A outer s H vs Q E hr h => ?_)
  · obtain ⟨c, k, rfl, _⟩ := h
    rfl
  · obtain ⟨c, k, rfl, h0, h1, q⟩ := h
    have hu := hu_of hr
    refine ⟨_, (pss_cons (ps_set (i := 2) sc__law_mixed.nd rfl (Or.inl rfl) (pe_op op_mod (pe_op op_add (pe_op op_add (pe_op op_add (pe_op op_mod (pv 0) pe_int) (pe_op op_mul (pe_op op_mul pe_int (pv 1)) (pv 1))) (pe_op op_mul pe_int (pv 1))) pe_int) pe_int)) (pss_cons (ps_set (i := 2) sc__law_mixed.nd rfl (Or.inl rfl) (pe_op op_mod (pe_op op_mul (pe_op op_mod (pe_op op_mul (pv 2) (pv 2)) pe_int) (pv 2)) pe_int)) (pss_one (ps_ret (pe_op op_fdiv (pe_op op_mod (pe_op op_mul (pv 2) (pe_op op_add pe_int (pe_op op_mul pe_int (pe_op op_mod (pv 1) pe_int)))) pe_int) pe_int))))), ?_⟩
    walk_at "go"
    refine q _ ?_ ?_
    · omega
    · omega
theorem ok__law_next (T : Txt K mg) : FnOk P w K mg base CX0 2 T.f__law_next T.fd__law_next ["draw", "bound"] (Dr.spNext) := by
  refine T.F__law_next.ok sc__law_next (fun vs H Q E h => ?_) (fun cdv A outer s H vs Q E hr h => ?_)
  · obtain ⟨d, l, m, b, rfl, _⟩ := h
    rfl
  · obtain ⟨d, l, m, b, rfl, D, hm, hb0, hb1, q⟩ := h
    have hu := hu_of hr
    refine ⟨_, (pss_cons (ps_if (pt_cmpR op_gt (pe_dget hu (pv 0) pe_str (fun _ _ => rfl)) pe_int (nomark _)) (pss_cons (ps_set (i := 2) sc__law_next.nd rfl (Or.inl rfl) (pe_op op_mod (pe_dget hu (pv 0) pe_str (fun _ _ => rfl)) (pv 1))) (pss_cons (ps_dput hu (pv 0) pe_str (pe_op op_fdiv (pe_dget hu (pv 0) pe_str (fun _ _ => rfl)) (pv 1)) rfl) (pss_one (ps_ret (pv 2))))) pss_nil) (pss_cons (ps_set (i := 3) sc__law_next.nd rfl (Or.inl rfl) (pe_dget hu (pv 0) pe_str (fun _ _ => rfl))) (pss_cons (ps_set (i := 4) sc__law_next.nd rfl (Or.inl rfl) (pe_ix ix_list (pv 3) (pe_op op_mod (pe_dget hu (pv 0) pe_str (fun _ _ => rfl)) (pe_callB call_len1 (by rfl) T.m_len PySem.boot_len (pa_cons (pv 3) pa_nil))) (fun _ _ => rfl))) (pss_cons (ps_dput hu (pv 0) pe_str (pe_op op_add (pe_dget hu (pv 0) pe_str (fun _ _ => rfl)) pe_int) rfl) (pss_cons (ps_if (PW.pt (pw_and (pt_cmpR op_ge (pv 4) (pe_op op_pow pe_int pe_int) (nomark _)) (pw_and1 (pt_cmpR op_le (pe_dget hu (pv 0) pe_str (fun _ _ => rfl)) (pe_callB call_len1 (by rfl) T.m_len PySem.boot_len (pa_cons (pv 3) pa_nil)) (nomark _))))) (pss_cons (ps_dput hu (pv 0) pe_str (pe_op op_fdiv (pv 4) (pv 1)) rfl) (pss_one (ps_ret (pe_op op_mod (pv 4) (pv 1))))) pss_nil) (pss_cons (ps_dput hu (pv 0) pe_str (pe_op op_add (pe_dget hu (pv 0) pe_str (fun _ _ => rfl)) pe_int) rfl) (pss_one (ps_ret (pe_op op_mod (pe_call (ok__law_mixed T) (hr.mono (by decide)) (by rfl) T.g__law_mixed T.F__law_mixed.kp T.b__law_mixed .nil pass0 (pa_cons (pe_call (ok__law_mixed T) (hr.mono (by decide)) (by rfl) T.g__law_mixed T.F__law_mixed.kp T.b__law_mixed .nil pass0 (pa_cons (pv 4) (pa_cons (pe_dget hu (pv 0) pe_str (fun _ _ => rfl)) pa_nil))) (pa_cons (pe_dget hu (pv 0) pe_str (fun _ _ => rfl)) pa_nil))) (pv 1)))))))))), ?_⟩
    obtain ⟨ns, a, lf, u, h1, h2, h3, h4, h5, h6, h7, h8, h9⟩ := id D
    have nld : l ≠ d := ne_of h2 h1 (by intro z; cases z)
    have hS : ∀ o, SqL K (upd H d o) l (ns.map V.int) := fun o => SqL.of (by rw [upd_ne nld]; exact h2)
    have hS2 : ∀ o o2, (upd (upd H d o) d o2) l = some (.lst (ns.map V.int)) := fun o o2 => by rw [upd_ne nld, upd_ne nld]; exact h2
    have hN : ∀ o p, H p = none → (upd H d o) p = none := fun o p e => by rw [upd_ne (fun z => by rw [z, h1] at e; cases e)]; exact e
    have hN2 : ∀ o o2 p, H p = none → (upd (upd H d o) d o2) p = none := fun o o2 p e => by rw [upd_ne (fun z => by rw [z, h1] at e; cases e)]; exact hN o p e
    have hl : 0 < (ns.length : Int) := by omega
    walk_at "go"
    refine g_ifd (fun hc => ?_) (fun hc => ?_)
    · walk_at "go"
      refine q _ _ (Int.emod_nonneg _ (by omega)) (Int.emod_lt_of_pos _ hb0) ?_ Dr.Kp.at (hN _)
      exact ⟨ns, a, _, u, upd_same, by rw [upd_ne nld]; exact h2, h3, h4, h5, by omega, Int.ediv_nonneg h7 (by omega), h8, by omega⟩
    · walk_at "go"
      refine g_len (SqL.of h2) ?_
      have hb := Dr.modB (x := a) (n := ((ns.map V.int).length : Int)) (by rw [List.length_map]; exact hl)
      refine g_I (show (0 : Int) < _ by rw [List.length_map]; exact hl) ?_
      obtain ⟨c, ec⟩ := atI_int (ns := ns) hb.1 (by rw [← List.length_map (f := V.int)]; exact hb.2)
      refine g_ixl (SqL.of h2) ec ?_
      have k1 : (upd H d (.dK (Dr.dkv l (a + 1) lf u))) d = some (.dK (Dr.dkv l (a + 1) lf u)) := upd_same
      walk_at "go"
      refine g_ifd (fun hd => ?_) (fun hd => ?_)
      · walk_at "go"
        refine g_len (hS _) ?_
        walk_at "go"
        refine g_ifd (fun he => ?_) (fun he => ?_)
        · walk_at "go"
          refine q _ _ (Int.emod_nonneg _ (by omega)) (Int.emod_lt_of_pos _ hb0) ?_ (Dr.Kp.at.trans Dr.Kp.at) (hN2 _ _)
          have hc0 : 0 ≤ c := Int.le_trans (by decide) hd
          exact ⟨ns, a + 1, _, u, upd_same, hS2 _ _, h3, h4, by omega, by omega, Int.ediv_nonneg hc0 (by omega), h8, by omega⟩
        · walk_at "go"
          have k2 : (upd (upd H d (.dK (Dr.dkv l (a + 1) lf u))) d (.dK (Dr.dkv l (a + 1) lf (u + 1)))) d = some (.dK (Dr.dkv l (a + 1) lf (u + 1))) := upd_same
          walk_at "go"
          refine ⟨c, a + 1, rfl, by omega, by omega, fun r1 r2 r3 => ?_⟩
          walk_at "go"
          refine ⟨r1, u + 1, rfl, by omega, by omega, fun r4 r5 r6 => ?_⟩
          walk_at "go"
          refine q _ _ (Int.emod_nonneg _ (by omega)) (Int.emod_lt_of_pos _ hb0) ?_ (Dr.Kp.at.trans Dr.Kp.at) (hN2 _ _)
          exact ⟨ns, a + 1, lf, u + 1, upd_same, hS2 _ _, h3, h4, by omega, by omega, h7, by omega, by omega⟩
      · walk_at "go"
        have k2 : (upd (upd H d (.dK (Dr.dkv l (a + 1) lf u))) d (.dK (Dr.dkv l (a + 1) lf (u + 1)))) d = some (.dK (Dr.dkv l (a + 1) lf (u + 1))) := upd_same
        walk_at "go"
        refine ⟨c, a + 1, rfl, by omega, by omega, fun r1 r2 r3 => ?_⟩
        walk_at "go"
        refine ⟨r1, u + 1, rfl, by omega, by omega, fun r4 r5 r6 => ?_⟩
        walk_at "go"
        refine q _ _ (Int.emod_nonneg _ (by omega)) (Int.emod_lt_of_pos _ hb0) ?_ (Dr.Kp.at.trans Dr.Kp.at) (hN2 _ _)
        exact ⟨ns, a + 1, lf, u + 1, upd_same, hS2 _ _, h3, h4, by omega, by omega, h7, by omega, by omega⟩
theorem ok__law_begin (T : Txt K mg) : FnOk P w K mg base CX0 1 T.f__law_begin T.fd__law_begin ["script"] (Dr.spBegin K) := by
  refine T.F__law_begin.ok sc__law_begin (fun vs H Q E h => ?_) (fun cdv A outer s H vs Q E hr h => ?_)
  · obtain ⟨a, ns, rfl, _⟩ := h
    rfl
  · obtain ⟨a, ns, rfl, hS, hl, q⟩ := h
    have hu := hu_of hr
    refine ⟨_, (pss_one (ps_ret (pe_disp (pps_cons pe_str (pe_op op_catS (pv 0) (pe_lst (pa_cons pe_int pa_nil))) (pps_cons pe_str pe_int (pps_cons pe_str pe_int (pps_cons pe_str pe_int pps_nil)))) (by rfl) (by rfl) (fun z => by cases z) (by decide)))), ?_⟩
    walk_at "go"
    intro d hd
    walk_at "go"
    refine ⟨by show 1 ≤ sizeLine; decide, fun z hz => ?_⟩
    have ndz : d ≠ z := fun e => by rw [← e, upd_same] at hz; cases hz
    have s1 : Same H (upd H d (.dK [])) := same_new hd
    have s2 := s1.trans (same_new (o := .lst [V.int 0]) hz)
    refine g_cats (s2.seq hS) (SqL.of upd_same) (by rw [List.length_map]; show _ + 1 ≤ sizeLine; exact Nat.le_trans (Nat.add_le_add_right hl 1) (by decide)) fun l hl2 => ?_
    have ndl : d ≠ l := fun e => by rw [← e, upd_ne ndz, upd_same] at hl2; cases hl2
    have s3 := s2.trans (same_new (o := .lst (ns.map V.int ++ [V.int 0])) hl2)
    walk_at "go"
    refine ⟨by rw [upd_ne ndl, upd_ne ndz, upd_same], [((Sum.inr ("cells" : Str) : Key), V.ref l), (Sum.inr ("at" : Str), .int 0), (Sum.inr ("left" : Str), .int 0), (Sum.inr ("used" : Str), .int 0)], rfl, by show 4 ≤ 15; decide, ?_⟩
    rw [Dr.mrg]
    refine q d l _ hd (s2.free hl2) ⟨ns ++ [0], 0, 0, 0, upd_same, ?_, ?_, ?_, by decide, by decide, by decide, by decide, by decide⟩ (s3.mut hd)
    · rw [upd_ne ndl.symm, upd_same, List.map_append]
      rfl
    · rw [List.length_append]
      exact Nat.lt_of_lt_of_le (by decide : 0 < 1) (Nat.le_add_left _ _)
    · rw [List.length_append]
      exact Nat.add_le_add_right hl 1
end
section
variable {w : World} {K : PySem.W.Frag} {mg : Str → Option Value} {base : Heap}
theorem ok_is_number (T : Txt K mg) : FnOk P w K mg base CX0 1 T.f_is_number T.fd_is_number ["thing"] (Mk.spNum) := by
  refine T.F_is_number.ok sc_is_number (fun vs H Q E h => ?_) (fun cdv A outer s H vs Q E hr h => ?_)
  · obtain ⟨x, rfl, _⟩ := h
    rfl
  · obtain ⟨x, rfl, a, q⟩ := h
    have hu := hu_of hr
    refine ⟨_, (pss_one (ps_ret (pe_and (pe_callB (call_isiQ (K := K) rfl) (by rfl) T.m_isinstance (by decide +kernel) (pa_cons (pv 0) (pa_cons (pe_ty (n := "int") (by rfl) T.m_int (by decide +kernel)) pa_nil))) (pe_one (pe_not (pe_callB (call_isiQ (K := K) rfl) (by rfl) T.m_isinstance (by decide +kernel) (pa_cons (pv 0) (pa_cons (pe_ty (n := "bool") (by rfl) T.m_bool (by decide +kernel)) pa_nil)))))))), ?_⟩
    walk_at "go"
    refine g_if (fun c1 => ?_) (fun c1 => ?_)
    · walk_at "go"
      have e : (isIntV x && !isBlV x) = !isBlV x := by rw [c1]; rfl
      rw [e] at q
      exact q
    · have e : (isIntV x && !isBlV x) = false := by rw [c1]; rfl
      rw [e] at q
      exact q
theorem ok_is_between (T : Txt K mg) : FnOk P w K mg base CX0 2 T.f_is_between T.fd_is_between ["thing", "low", "high"] (Mk.spBetween) := by
  refine T.F_is_between.ok sc_is_between (fun vs H Q E h => ?_) (fun cdv A outer s H vs Q E hr h => ?_)
  · obtain ⟨x, lo, hi, rfl, _⟩ := h
    rfl
  · obtain ⟨x, lo, hi, rfl, a, q⟩ := h
    have hu := hu_of hr
    refine ⟨_, (pss_one (ps_ret (pe_and (pe_call (ok_is_number T) (hr.mono (by decide)) (by rfl) T.g_is_number T.F_is_number.kp T.b_is_number .nil pass0 (pa_cons (pv 0) pa_nil)) (pe_one (pe_chain op_le op_le (pv 1) (pv 0) (pv 2)))))), ?_⟩
    walk_at "go"
    refine ⟨x, rfl, a, ?_⟩
    walk_at "go"
    refine g_if (fun c1 => ?_) (fun c1 => ?_)
    · rw [Bool.and_eq_true, Bool.not_eq_true'] at c1
      obtain ⟨i, rfl⟩ := Mk.int_of c1.1 c1.2
      walk_at "go"
      refine g_ifd (fun c3 => ?_) (fun c3 => ?_)
      · walk_at "go"
        have e : Mk.btw (.int i) lo hi = decide (i ≤ hi) := by show (decide (lo ≤ i) && decide (i ≤ hi)) = _; rw [decide_eq_true c3, Bool.true_and]
        rw [e] at q
        exact q
      · have e : Mk.btw (.int i) lo hi = false := by show (decide (lo ≤ i) && decide (i ≤ hi)) = _; rw [decide_eq_false c3, Bool.false_and]
        rw [e] at q
        exact q
    · have e : Mk.btw x lo hi = false := by
        cases hx : isIntV x with
        | false => exact Mk.btw_no hx
        | true =>
          rw [hx, Bool.true_and, Bool.not_eq_false'] at c1
          exact Mk.btw_bl c1
      rw [e] at q
      exact q
theorem ok_consists_of (T : Txt K mg) : FnOk P w K mg base CX0 1 T.f_consists_of T.fd_consists_of ["thing", "marks"] (Mk.spCons) := by
  refine T.F_consists_of.ok sc_consists_of (fun vs H Q E h => ?_) (fun cdv A outer s H vs Q E hr h => ?_)
  · obtain ⟨x, m, rfl, _⟩ := h
    rfl
  · obtain ⟨x, m, rfl, a, q⟩ := h
    have hu := hu_of hr
    refine ⟨_, (pss_one (ps_ret (pe_and (pe_callB (call_isiQ (K := K) rfl) (by rfl) T.m_isinstance (by decide +kernel) (pa_cons (pv 0) (pa_cons (pe_ty (n := "str") (by rfl) T.m_str (by decide +kernel)) pa_nil))) (pe_one (pe_callB (cr_all (by rfl)) (by rfl) T.m_all (by decide +kernel) (pa_cons (pe_lc (own := [("mark", 2)]) (g := gName 2) (tt := tYes) (by rfl) sc_consists_of.nd (pi_str (pv 0)) (blkOk_by (own := [("mark", 2)]) (N := sN_consists_of) (sc := defScope s_consists_of) (by decide +kernel)) (fun _ _ _ _ _ => (pg_name (i := 2) sc_consists_of.nd rfl (Or.inl rfl))) (fun _ _ _ _ _ => pts_nil) (fun _ _ _ _ _ => (pe_cmpR op_inS (pv 2) (pv 1) (by rfl)))) pa_nil)))))), ?_⟩
    walk_at "go"
    refine g_if (fun c1 => ?_) (fun c1 => ?_)
    · obtain ⟨z, rfl⟩ := Mk.str_of c1
      walk_at "go"
      refine ⟨z, rfl, fun D hD => lc_str (fun _ => true) (fun c => V.bl (decide (c ∈ m.cps.toList))) (Nat.le_trans (Mk.str_len a) (by decide)) (fun c acc Nx hc k1 k2 => ?_) ?_⟩
      · walk_at "go"
        refine ⟨rfl, ?_⟩
        walk_at "go"
        exact k1 rfl _ upd_same rfl
      · walk_at "go"
        refine g_all (bs := z.cps.toList.map fun c => decide (c ∈ m.cps.toList)) (SqL.of ?_) ?_
        · rw [upd_same, List.filter_eq_self.mpr (fun _ _ => rfl), List.map_map]
          rfl
        · have e : (z.cps.toList.map fun c => decide (c ∈ m.cps.toList)).all id = Mk.consists (.str z) m := by
            rw [List.all_map]
            rfl
          rw [e]
          exact q _ (same_new hD)
    · rw [Mk.cons_no c1] at q
      exact q H (Same.refl H)
theorem ok_is_body (T : Txt K mg) : FnOk P w K mg base CX0 2 T.f_is_body T.fd_is_body ["thing"] (Mk.spTest Mk.isBody) := by
  refine T.F_is_body.ok sc_is_body (fun vs H Q E h => ?_) (fun cdv A outer s H vs Q E hr h => ?_)
  · obtain ⟨x, rfl, _⟩ := h
    rfl
  · obtain ⟨x, rfl, a, q⟩ := h
    have hu := hu_of hr
    refine ⟨_, (pss_one (ps_ret (pe_call (ok_consists_of T) (hr.mono (by decide)) (by rfl) T.g_consists_of T.F_consists_of.kp T.b_consists_of .nil pass0 (pa_cons (pv 0) (pa_cons (pe_gs (by rfl) T.g_MARKS) pa_nil))))), ?_⟩
    walk_at "go"
    exact ⟨x, _, rfl, a, q⟩
theorem ok_is_plain_code (T : Txt K mg) : FnOk P w K mg base CX0 3 T.f_is_plain_code T.fd_is_plain_code ["thing"] (Mk.spTest Mk.isPlain) := by
  refine T.F_is_plain_code.ok sc_is_plain_code (fun vs H Q E h => ?_) (fun cdv A outer s H vs Q E hr h => ?_)
  · obtain ⟨x, rfl, _⟩ := h
    rfl
  · obtain ⟨x, rfl, a, q⟩ := h
    have hu := hu_of hr
    refine ⟨_, (pss_one (ps_ret (pe_and (pe_call (ok_is_between T) (hr.mono (by decide)) (by rfl) T.g_is_between T.F_is_between.kp T.b_is_between .nil pass0 (pa_cons (pv 0) (pa_cons pe_int (pa_cons pe_int pa_nil)))) (pe_one (pe_cmpR op_ne (pv 0) (pe_gi (by rfl) T.g__MISSING_CODE) (nomark _)))))), ?_⟩
    walk_at "go"
    refine ⟨x, 32, 126, rfl, a, ?_⟩
    walk_at "go"
    refine g_if (fun c1 => ?_) (fun c1 => ?_)
    · obtain ⟨i, rfl, h1, h2⟩ := Mk.btw_int c1
      walk_at "go"
      have e : Mk.isPlain (.int i) = !decide (V.int i = V.int 37) := by show (Mk.btw _ 32 126 && _) = _; rw [c1, Bool.true_and]
      rw [e] at q
      exact q H (Same.refl H)
    · have e : Mk.isPlain x = false := by show (Mk.btw _ 32 126 && _) = _; rw [c1, Bool.false_and]
      rw [e] at q
      exact q H (Same.refl H)
theorem ok_is_code (T : Txt K mg) : FnOk P w K mg base CX0 4 T.f_is_code T.fd_is_code ["thing"] (Mk.spTest Mk.isCode) := by
  refine T.F_is_code.ok sc_is_code (fun vs H Q E h => ?_) (fun cdv A outer s H vs Q E hr h => ?_)
  · obtain ⟨x, rfl, _⟩ := h
    rfl
  · obtain ⟨x, rfl, a, q⟩ := h
    have hu := hu_of hr
    refine ⟨_, (pss_one (ps_ret (pe_or (pe_call (ok_is_plain_code T) (hr.mono (by decide)) (by rfl) T.g_is_plain_code T.F_is_plain_code.kp T.b_is_plain_code .nil pass0 (pa_cons (pv 0) pa_nil)) (pe_one (pe_call (ok_is_between T) (hr.mono (by decide)) (by rfl) T.g_is_between T.F_is_between.kp T.b_is_between .nil pass0 (pa_cons (pv 0) (pa_cons pe_int (pa_cons pe_int pa_nil)))))))), ?_⟩
    walk_at "go"
    refine ⟨x, rfl, a, fun H2 s2 => ?_⟩
    walk_at "go"
    refine g_if (fun c1 => ?_) (fun c1 => ?_)
    · have e : Mk.isCode x = true := by show (Mk.isPlain x || _) = true; rw [c1, Bool.true_or]
      rw [e] at q
      exact q H2 s2
    · walk_at "go"
      refine ⟨x, 160, 65535, rfl, a.same s2, ?_⟩
      have e : Mk.isCode x = Mk.btw x 160 65535 := by show (Mk.isPlain x || _) = _; rw [c1, Bool.false_or]
      rw [e] at q
      exact q H2 s2
theorem bd_Text_1 (T : Txt K mg) : ∃ ds, Vals [] ds ∧ Binds K T.fd_Text___init__ ["self", "marks"] ds := T.F_Text___init__.binds1 (ps := ["self", "marks"]) 2 1 (by simp) rfl fun _ _ _ _ _ _ _ us its h1 h2 => match us, its, h1, h2 with | [_, _], [_], _, _ => ⟨_, rfl, rfl⟩
theorem kb_Text_0_marks (T : Txt K mg) : ∃ (its mv : List Value), KBn K T.fd_Text___init__ ["self", "marks"] 1 ["marks"] (fun us ws => us ++ ws) fun us ws => us ++ ws := by
  obtain ⟨its, h⟩ := T.F_Text___init__.kbindsD (ps := ["self", "marks"]) 1 ["marks"] (fun us its ws => us ++ ws) (by simp) (fun h1 h2 h3 => h1.append h3) (fun _ _ _ _ _ _ _ us its ws h1 h2 h3 => match us, its, ws, h1, h2, h3 with | [_], [_], [_], _, _, _ => ⟨_, rfl, rfl⟩)
  exact ⟨its, [], h⟩
-- self marks mark
theorem ok_Text___init__ (T : Txt K mg) : FnOk P w K mg base (L2.CX P w) 3 T.f_Text___init__ T.fd_Text___init__ ["self", "marks"] (Tx.spInitX T.C_Text T.C_BadText) := by
  refine T.F_Text___init__.okX sc_Text___init__ (fun vs H Q E h => ?_) (fun cdv A outer s H vs Q E hr h => ?_)
  · rcases h with ⟨x, dx, m, H0, rfl, _⟩ <;> rfl
  · have hu := hu_of hr
    refine ⟨_, (pss_cons (ps_if (pt_not (pt_val (pe_call (ok_is_body T) (hr.mono (by decide)) (by rfl) T.g_is_body T.F_is_body.kp T.b_is_body .nil pass0 (pa_cons (pv 1) pa_nil)))) (pss_one (ps_raiseE (by rfl) (takes_of rfl rfl rfl rfl) T.E_BadText (hr.mono (by decide)) (by rfl) T.g_BadText (pv 1))) pss_nil) (pss_one (ps_fld (pv 0) (pe_callTy call_tupOf (by rfl) T.m_tuple (by decide +kernel) (pa_cons (pe_lc (own := [("mark", 2)]) (g := gName 2) (tt := tYes) (by rfl) sc_Text___init__.nd (pi_str (pv 1)) (blkOk_by (own := [("mark", 2)]) (N := sN_Text___init__) (sc := defScope s_Text___init__) (by decide +kernel)) (fun _ _ _ _ _ => (pg_name (i := 2) sc_Text___init__.nd rfl (Or.inl rfl))) (fun _ _ _ _ _ => pts_nil) (fun _ _ _ _ _ => (pe_callB call_ord1 (by rfl) T.m_ord (by decide +kernel) (pa_cons (pv 2) pa_nil)))) pa_nil)) rfl))), ?_⟩
    obtain ⟨x, dx, m, H0, rfl, hx, nx, s0, a, h⟩ := h
    walk_at "go"
    refine ⟨m, rfl, a.same s0, fun H1 s1 => ?_⟩
    walk_at "go"
    rcases h with ⟨b, k⟩ | ⟨z, em, b, q⟩
    · rw [b]
      walk_at "go"
      refine iteT ?_
      walk_at "go"
      exact fun d nd => k _ d (s0.trans s1) nd
    · rw [b]
      walk_at "go"
      refine iteF ?_
      subst em
      walk_at "go"
      refine ⟨z, rfl, fun D hD => lc_str (fun _ => true) (fun c => Tx.iv c) (Nat.le_trans (Mk.str_len a) (by decide)) (fun c acc Nx hc k1 k2 => ?_) ?_⟩
      · walk_at "go"
        refine ⟨rfl, ?_⟩
        walk_at "go"
        exact k1 rfl _ upd_same rfl
      · walk_at "go"
        refine g_tupOf (SqL.of upd_same) fun l hl => ?_
        have hx1 := s1 _ _ hx
        have nDx : x ≠ D := ne_of_none hx1 hD
        have nlx : x ≠ l := ne_of_none (by rw [upd_ne nDx]; exact hx1) hl
        walk_at "go"
        refine ⟨x, T.C_Text, dx, [], rfl, by rw [upd_ne nlx, upd_ne nDx]; exact hx1, T.c_Text, T.nf_Text__codes, by decide, ?_⟩
        refine q _ l ((((s0.trans s1).trans (same_new hD)).trans (same_new hl)).mut nx) upd_same ?_
        rw [upd_ne nlx.symm, upd_same, List.filter_eq_self.mpr (fun _ _ => rfl)]
theorem ok__text_with (T : Txt K mg) : FnOk P w K mg base CX0 5 T.f__text_with T.fd__text_with ["codes"] (Tx.spWith K T.C_Text) := by
  refine T.F__text_with.ok sc__text_with (fun vs H Q E h => ?_) (fun cdv A outer s H vs Q E hr h => ?_)
  · obtain ⟨t, cs, rfl, _⟩ := h
    rfl
  · obtain ⟨t, cs, rfl, ht, q⟩ := h
    have hu := hu_of hr
    refine ⟨_, (pss_cons (ps_set (i := 1) sc__text_with.nd rfl (Or.inl rfl) (pe_make0 T.mk_Text (ok_Text___init__ T) (hr.mono (by decide)) (by rfl) T.g_Text T.bd_Text T.vi_Text passL)) (pss_cons (ps_fld (pv 1) (pv 0) rfl) (pss_one (ps_ret (pv 1))))), ?_⟩
    walk_at "go"
    refine Tx.n_text (K := K) (m := .str "") rfl (.str _ (by decide +kernel) (by decide +kernel)) (by decide +kernel) fun x H1 hx s1 A1 => ?_
    obtain ⟨dx, t0, e1, _⟩ := A1
    walk_at "go"
    refine ⟨x, T.C_Text, dx, _, rfl, e1, T.c_Text, T.nf_Text__codes, by simp, ?_⟩
    walk_at "go"
    exact q _ x (s1.mut hx) hx ⟨dx, t, upd_same, (s1.mut hx).sqt ht⟩
-- cls codes place code
-- cls codes place code
theorem ok_Text_of (T : Txt K mg) : FnOk P w K mg base (L2.CX P w) 6 T.f_Text_of T.fd_Text_of ["cls", "codes"] (Tx.spOfX K T.C_Text T.C_BadCode) := by
  refine T.F_Text_of.okX sc_Text_of (fun vs H Q E h => ?_) (fun cdv A outer s H vs Q E hr h => ?_)
  · rcases h with ⟨y, m, rfl, _⟩ <;> rfl
  · have hu := hu_of hr
    refine ⟨_, (pss_cons (ps_if (pt_not (pt_val (pe_callB (call_isiQ (K := K) rfl) (by rfl) T.m_isinstance (by decide +kernel) (pa_cons (pv 1) (pa_cons (pe_ty (n := "tuple") (by rfl) T.m_tuple (by decide +kernel)) pa_nil))))) (pss_one (ps_raiseE (by rfl) (takes_of rfl rfl rfl rfl) T.E_BadCode (hr.mono (by decide)) (by rfl) T.g_BadCode pe_non)) pss_nil) (pss_cons (ps_for (passes_of rfl) (by rfl) (pi_enumT (by rfl) T.m_enumerate (pa_cons (pv 1) pa_nil)) (pg_tup (by rfl) (pgs_cons (pg_name (i := 2) sc_Text_of.nd rfl (Or.inl rfl)) (pgs_cons (pg_name (i := 3) sc_Text_of.nd rfl (Or.inl rfl)) pgs_nil))) (pss_one (ps_if (pt_not (pt_val (pe_call (ok_is_code T) (hr.mono (by decide)) (by rfl) T.g_is_code T.F_is_code.kp T.b_is_code .nil pass0 (pa_cons (pv 3) pa_nil)))) (pss_one (ps_raiseE (by rfl) (takes_of rfl rfl rfl rfl) T.E_BadCode (hr.mono (by decide)) (by rfl) T.g_BadCode (pv 2))) pss_nil))) (pss_one (ps_ret (pe_call (ok__text_with T) (hr.mono (by decide)) (by rfl) T.g__text_with T.F__text_with.kp T.b__text_with .nil pass0 (pa_cons (pv 1) pa_nil)))))), ?_⟩
    obtain ⟨y, m, rfl, a, h⟩ := h
    rcases h with ⟨hn, k⟩ | ⟨t, xs, rfl, ht, ha, h⟩
    · walk_at "go"
      refine g_istup a ?_
      rw [hn]
      walk_at "go"
      refine iteT ?_
      walk_at "go"
      exact fun d nd => k _ d (Same.refl _) nd
    · walk_at "go"
      refine g_isi (.ty _) (.base (.tup ht)) (kit_ty (r := true) (by decide +kernel)) ?_
      walk_at "go"
      refine iteF ?_
      walk_at "go"
      rcases h with ⟨i, ⟨h1, v, hv, hb⟩, k⟩ | ⟨cs, rfl, hc, q⟩
      · refine ⟨t, xs, rfl, SqT.of ht, for_enT (K := K) (a := t) (xs := xs) (fun j σ H1 => j ≤ i ∧ (∃ p c, σ = [some y, some (.ref t), p, c]) ∧ Same H H1) ⟨Nat.zero_le _, ⟨none, none, rfl⟩, Same.refl _⟩ (fun j σ H1 _ h => h.2.2.sqt (SqT.of ht)) ?_ ?_⟩
        · rintro j x T2 σ H1 hx ⟨hj, ⟨p, c, rfl⟩, s1⟩ hT
          refine g_gtup (SqT.of upd_same) rfl ?_
          have s2 := s1.trans (same_new (o := .tup [.int (j : Nat), x]) hT)
          walk_at "go"
          refine ⟨x, rfl, (ha x (List.mem_of_getElem? hx)).same s2, fun H2 s3 => ?_⟩
          walk_at "go"
          rcases Nat.lt_or_ge j i with l | l
          · rw [h1 j x l hx]
            refine iteF ?_
            walk_at "go"
            exact ⟨l, ⟨_, _, rfl⟩, s2.trans s3⟩
          · obtain rfl : j = i := Nat.le_antisymm hj l
            rw [hv] at hx
            cases hx
            rw [hb]
            refine iteT ?_
            walk_at "go"
            exact fun d nd => k _ d (s2.trans s3) nd
        · rintro σ H1 ⟨hj, ⟨p, c, rfl⟩, s1⟩
          exact absurd (List.getElem?_eq_some_iff.mp hv).1 (Nat.not_lt.mpr hj)
      · refine ⟨t, cs.map Tx.iv, rfl, SqT.of ht, for_enT (K := K) (a := t) (xs := cs.map Tx.iv) (fun i σ H1 => (∃ p c, σ = [some y, some (.ref t), p, c]) ∧ Same H H1) ⟨⟨none, none, rfl⟩, Same.refl _⟩ (fun i σ H1 _ h => h.2.sqt (SqT.of ht)) ?_ ?_⟩
        · rintro i x T2 σ H1 hx ⟨⟨p, c, rfl⟩, s1⟩ hT
          obtain ⟨n, hn, rfl⟩ := Cd.of_iv hx
          refine g_gtup (SqT.of upd_same) rfl ?_
          walk_at "go"
          refine ⟨Tx.iv n, rfl, .int _, fun H2 s2 => ?_⟩
          walk_at "go"
          rw [hc n hn]
          refine iteF ?_
          walk_at "go"
          exact ⟨⟨_, _, rfl⟩, (s1.trans (same_new hT)).trans s2⟩
        · rintro σ H1 ⟨⟨p, c, rfl⟩, s1⟩
          walk_at "go"
          refine ⟨t, cs, rfl, s1.sqt (SqT.of ht), fun H2 a s2 ha h2 => ?_⟩
          exact q H2 a (s1.trans s2) (s1.free ha) h2
theorem ok_Text_codes (T : Txt K mg) : FnOk P w K mg base CX0 1 T.f_Text_codes T.fd_Text_codes ["self"] (getSp T.C_Text "_codes") := by
  refine T.F_Text_codes.ok sc_Text_codes (fun vs H Q E h => ?_) (fun cdv A outer s H vs Q E hr h => ?_)
  · obtain ⟨a, dx, fs, v, rfl, _⟩ := h
    rfl
  · obtain ⟨a, dx, fs, v, rfl, ha, hv, q⟩ := h
    have hu := hu_of hr
    refine ⟨_, (pss_one (ps_ret (pe_fld (pv 0) rfl))), ?_⟩
    walk_at "go"
    exact ⟨a, T.C_Text, dx, fs, v, rfl, ha, T.c_Text, T.nf_Text__codes, hv, q⟩
-- self other
theorem ok_Text___eq__ (T : Txt K mg) : FnOk P w K mg base CX0 1 T.f_Text___eq__ T.fd_Text___eq__ ["self", "other"] (Tx.spEqX K T.C_Text) := by
  refine T.F_Text___eq__.ok sc_Text___eq__ (fun vs H Q E h => ?_) (fun cdv A outer s H vs Q E hr h => ?_)
  · rcases h with ⟨a, cs, y, rfl, _⟩ <;> rfl
  · have hu := hu_of hr
    refine ⟨_, (pss_one (ps_ret (pe_and (pe_callB (call_isiQ (K := K) rfl) (by rfl) T.m_isinstance (by decide +kernel) (pa_cons (pv 1) (pa_cons (pe_gc (by rfl) T.g_Text) pa_nil))) (pe_one (pe_cmpR (op_eqD hr.units) (pe_fld (pv 0) rfl) (pe_fld (pv 1) rfl) (nomark _)))))), ?_⟩
    obtain ⟨a, cs, y, rfl, ⟨dx, t, ha, ht⟩, h⟩ := h
    rcases h with ⟨b, ds, rfl, ⟨dy, u, hb, hu2⟩, q⟩ | ⟨ay, q⟩
    · walk_at "go"
      refine g_isi (.own _) (T.ty_Text _ _ _ _ hb) T.ks_Text ?_
      walk_at "go"
      refine Tx.fld ha T.c_Text T.nf_Text__codes ?_
      walk_at "go"
      refine Tx.fld hb T.c_Text T.nf_Text__codes ?_
      refine g_eqd (d := .tuple (cs.map fun (c : Nat) => PyData.int (c : Int))) (e := .tuple (ds.map fun (c : Nat) => PyData.int (c : Int))) (.tup ht (Tx.dps cs)) (.tup hu2 (Tx.dps ds)) (Tx.shaped_ints cs) (Tx.shaped_ints ds) ?_
      rw [Tx.eqv_tup]
      exact q
    · walk_at "go"
      refine g_isNoT T.nk_Text ay ?_
      walk_at "go"
      exact q
end
section
variable {w : World} {K : PySem.W.Frag} {mg : Str → Option Value} {base : Heap}
theorem ok__row_of (T : Txt K mg) : FnOk P w K mg base CX0 1 T.f__row_of T.fd__row_of ["charset", "code"] (Cd.spRow) := by
  refine T.F__row_of.ok sc__row_of (fun vs H Q E h => ?_) (fun cdv A outer s H vs Q E hr h => ?_)
  · obtain ⟨k, c, rfl, _⟩ := h
    rfl
  · obtain ⟨k, c, rfl, hc, q⟩ := h
    have hu := hu_of hr
    refine ⟨_, (pss_cons (ps_if (pt_cmpR op_eq (pv 0) pe_str (nomark _)) (pss_one (ps_ret (pe_tup (pa_cons (pv 1) pa_nil)))) pss_nil) (pss_cons (ps_if (pt_cmpR op_eq (pv 0) pe_str (nomark _)) (pss_one (ps_ret (pe_tup (pa_cons (pe_op op_fdiv (pv 1) pe_int) (pa_cons (pe_op op_mod (pv 1) pe_int) pa_nil))))) pss_nil) (pss_cons (ps_set (i := 2) sc__row_of.nd rfl (Or.inl rfl) (pe_lst pa_nil)) (pss_cons (ps_while PassesOwn.never (pt_cmpR op_gt (pv 1) pe_int (nomark _)) (pss_cons (ps_expr (pe_bm PySem.F.plainAttrs_list PySem.F.slot_list_append PySem.F.type_list_append mt_append (pv 2) (pa_cons (pe_op op_add (pe_op op_mod (pv 1) pe_int) pe_int) pa_nil))) (pss_one (ps_set (i := 1) sc__row_of.nd rfl (Or.inl rfl) (pe_op op_fdiv (pv 1) pe_int))))) (pss_one (ps_ret (pe_tup (StX.pa_star (pv 2) (pa_cons (pv 1) pa_nil))))))))), ?_⟩
    walk_at "go"
    refine g_ifd (fun h1 => ?_) (fun h1 => ?_)
    · obtain rfl := Cd.latin_ok.mp h1
      walk_at "go"
      refine ⟨by show 1 ≤ sizeLine; decide, fun p hp => ?_⟩
      exact q _ p (same_new hp) hp upd_same
    · walk_at "go"
      refine g_ifd (fun h2 => ?_) (fun h2 => ?_)
      · obtain rfl := Cd.wide_ok.mp h2
        walk_at "go"
        refine ⟨by show 2 ≤ sizeLine; decide, fun p hp => ?_⟩
        exact q _ p (same_new hp) hp upd_same
      · obtain rfl : k = .steps := by
          cases k with
          | latin => exact absurd (Cd.latin_ok.mpr rfl) h1
          | wide => exact absurd (Cd.wide_ok.mpr rfl) h2
          | steps => rfl
        walk_at "go"
        refine ⟨Nat.zero_le _, fun l hl => ?_⟩
        walk_at "go"
        refine g_while ⟨fun m σ H1 => ∃ (pre : List Nat) (d : Nat), m = d ∧ d ≤ 65535 ∧ σ = [some (.str Cd.Kd.steps.name), some (Tx.iv d), some (.ref l)] ∧ Same H H1 ∧ H1 l = some (.lst (pre.map Tx.iv)) ∧ pre ++ Cd.stepsRow d = Cd.stepsRow c, ⟨c, [], c, rfl, hc.2.1, rfl, same_new hl, upd_same, rfl⟩, ?_⟩
        rintro m σ H1 ⟨pre, d, rfl, hd, rfl, s1, e1, er⟩
        have lpre : pre.length ≤ 3 := by
          have := Cd.steps_len c
          rw [← er, List.length_append] at this
          omega
        walk_at "go"
        refine g_ifd (fun h => ?_) (fun h => ?_)
        · have h' : 127 < m := by
            have : (m : Int) > 127 := h
            omega
          refine ⟨fun σ' H' => σ' = [some (.str Cd.Kd.steps.name), some (Tx.iv (m / 128)), some (.ref l)] ∧ Same H H' ∧ H' l = some (.lst ((pre ++ [m % 128 + 128]).map Tx.iv)), ?_, ?_⟩
          · rintro σ' H' ⟨rfl, s2, e2⟩
            exact ⟨m / 128, by omega, pre ++ [m % 128 + 128], m / 128, rfl, by omega, rfl, s2, e2, by rw [← er, Cd.steps_big h' hd, List.append_assoc]; rfl⟩
          · walk_at "go"
            refine ⟨ty_list e1, ?_⟩
            walk_at "go"
            refine g_append e1 (Nat.lt_of_le_of_lt (by rw [List.length_map]; exact lpre) (by decide)) ?_
            walk_at "go"
            refine ⟨rfl, s1.mut hl, ?_⟩
            rw [upd_same, List.map_append]
            rfl
        · have h' : m ≤ 127 := by
            have : ¬ (m : Int) > 127 := h
            omega
          walk_at "go"
          refine ⟨l, pre.map Tx.iv, rfl, .inr (SqL.of e1), ?_⟩
          walk_at "go"
          refine ⟨?_, fun p hp => ?_⟩
          · rw [List.length_append, List.length_map]
            exact Nat.le_trans (Nat.add_le_add_right lpre 1) (by decide)
          · refine q _ p (s1.trans (same_new hp)) (s1.free hp) ?_
            rw [Cd.steps_small h'] at er
            show (upd H1 p _) p = some (.tup ((Cd.stepsRow c).map Tx.iv))
            rw [upd_same, ← er, List.map_append]
            rfl
theorem ok__is_whole (T : Txt K mg) : FnOk P w K mg base CX0 1 T.f__is_whole T.fd__is_whole ["charset", "row"] (Cd.spWhole K) := by
  refine T.F__is_whole.ok sc__is_whole (fun vs H Q E h => ?_) (fun cdv A outer s H vs Q E hr h => ?_)
  · obtain ⟨k, p, rs, rfl, _⟩ := h
    rfl
  · obtain ⟨k, p, rs, rfl, hp, hne, q⟩ := h
    have hu := hu_of hr
    refine ⟨_, (pss_cons (ps_if (pt_cmpR op_eq (pv 0) pe_str (nomark _)) (pss_one (ps_ret pe_bl)) pss_nil) (pss_cons (ps_if (pt_cmpR op_eq (pv 0) pe_str (nomark _)) (pss_one (ps_ret (pe_cmpR op_eq (pe_callB call_len1 (by rfl) T.m_len PySem.boot_len (pa_cons (pv 1) pa_nil)) pe_int (nomark _)))) pss_nil) (pss_one (ps_ret (pe_or (pe_cmpR op_lt (pe_ix (ix_tupKK (K := K) rfl) (pv 1) (pe_un un_neg pe_int) (fun _ _ => rfl)) pe_int (nomark _)) (pe_one (pe_cmpR op_eq (pe_callB call_len1 (by rfl) T.m_len PySem.boot_len (pa_cons (pv 1) pa_nil)) pe_int (nomark _)))))))), ?_⟩
    walk_at "go"
    refine g_ifd (fun h1 => ?_) (fun h1 => ?_)
    · obtain rfl := Cd.latin_ok.mp h1
      walk_at "go"
      exact q
    · walk_at "go"
      refine g_ifd (fun h2 => ?_) (fun h2 => ?_)
      · obtain rfl := Cd.wide_ok.mp h2
        walk_at "go"
        refine g_lent (SqT.of hp) ?_
        walk_at "go"
        rw [Cd.wide_len]
        exact q
      · obtain rfl : k = .steps := Cd.steps_of h1 h2
        walk_at "go"
        refine g_ixt (SqT.of hp) (Cd.last_iv hne) ?_
        walk_at "go"
        rw [Cd.whole_steps hne] at q
        refine g_ifd (fun c => ?_) (fun c => ?_)
        · rw [decide_eq_true (show rs.getD (rs.length - 1) 0 < 128 by omega), Bool.true_or] at q
          exact q
        · rw [decide_eq_false (show ¬ rs.getD (rs.length - 1) 0 < 128 by omega), Bool.false_or] at q
          walk_at "go"
          refine g_lent (SqT.of hp) ?_
          walk_at "go"
          rw [Cd.len3]
          exact q
theorem ok__code_of (T : Txt K mg) : FnOk P w K mg base CX0 1 T.f__code_of T.fd__code_of ["charset", "row"] (Cd.spCode) := by
  refine T.F__code_of.ok sc__code_of (fun vs H Q E h => ?_) (fun cdv A outer s H vs Q E hr h => ?_)
  · obtain ⟨k, p, rs, rfl, _⟩ := h
    rfl
  · obtain ⟨k, p, rs, rfl, hp, hne, h3, ho, q⟩ := h
    have hu := hu_of hr
    refine ⟨_, (pss_cons (ps_if (pt_cmpR op_eq (pv 0) pe_str (nomark _)) (pss_one (ps_ret (pe_ix (ix_tupKK (K := K) rfl) (pv 1) pe_int (fun _ _ => rfl)))) pss_nil) (pss_cons (ps_if (pt_cmpR op_eq (pv 0) pe_str (nomark _)) (pss_one (ps_ret (pe_ifExp (pt_cmpR op_eq (pe_callB call_len1 (by rfl) T.m_len PySem.boot_len (pa_cons (pv 1) pa_nil)) pe_int (nomark _)) (pe_op op_add (pe_op op_mul (pe_ix (ix_tupKK (K := K) rfl) (pv 1) pe_int (fun _ _ => rfl)) pe_int) (pe_ix (ix_tupKK (K := K) rfl) (pv 1) pe_int (fun _ _ => rfl))) pe_non))) pss_nil) (pss_cons (ps_if (PW.pt (pw_or (pt_cmpR op_gt (pe_ix (ix_tupKK (K := K) rfl) (pv 1) (pe_un un_neg pe_int) (fun _ _ => rfl)) pe_int (nomark _)) (pw_or1 (pt_cmpR op_eq (pe_ix (ix_tupKK (K := K) rfl) (pv 1) (pe_un un_neg pe_int) (fun _ _ => rfl)) pe_int (nomark _))))) (pss_one (ps_ret pe_non)) pss_nil) (pss_cons (ps_set (i := 2) sc__code_of.nd rfl (Or.inl rfl) pe_int) (pss_cons (ps_for PassesOwn.never (by rfl) (pi_tup (pe_revT (pv 1))) (pg_name (i := 3) sc__code_of.nd rfl (Or.inl rfl)) (pss_one (ps_set (i := 2) sc__code_of.nd rfl (Or.inl rfl) (pe_op op_add (pe_op op_mul (pv 2) pe_int) (pe_op op_mod (pv 3) pe_int))))) (pss_one (ps_ret (pv 2)))))))), ?_⟩
    walk_at "go"
    refine g_ifd (fun h1 => ?_) (fun h1 => ?_)
    · obtain rfl := Cd.latin_ok.mp h1
      walk_at "go"
      refine g_ixt (SqT.of hp) (Cd.first_iv hne) ?_
      exact q H (Same.refl H)
    · walk_at "go"
      refine g_ifd (fun h2 => ?_) (fun h2 => ?_)
      · obtain rfl := Cd.wide_ok.mp h2
        walk_at "go"
        refine g_lent (SqT.of hp) ?_
        walk_at "go"
        refine g_ifd (fun h4 => ?_) (fun h4 => ?_)
        · have l2 : rs.length = 2 := by
            have := V.int.inj h4
            rw [List.length_map] at this
            omega
          obtain ⟨a, b, rfl⟩ := Cd.two l2
          walk_at "go"
          refine g_ixt (SqT.of hp) (v := Tx.iv a) (atI_nat (j := 0) rfl) ?_
          walk_at "go"
          refine g_ixt (SqT.of hp) (v := Tx.iv b) (atI_nat (j := 1) rfl) ?_
          walk_at "go"
          exact q H (Same.refl H)
        · have l2 : ¬ rs.length = 2 := fun e => h4 (by rw [List.length_map, e]; rfl)
          walk_at "go"
          have e : Cd.codeOf .wide rs = none := if_neg l2
          rw [e] at q
          exact q H (Same.refl H)
      · obtain rfl : k = .steps := Cd.steps_of h1 h2
        generalize hl : rs.getD (rs.length - 1) 0 = y at *
        have hy := Cd.last_iv hne
        rw [hl] at hy
        walk_at "go"
        refine g_ixt (SqT.of hp) hy ?_
        walk_at "go"
        refine g_ifd (fun h4 => ?_) (fun h4 => ?_)
        · walk_at "go"
          have e : Cd.codeOf .steps rs = none := if_pos (.inl (by rw [hl]; exact (show y > 127 by have : (y : Int) > 127 := h4; omega)))
          rw [e] at q
          exact q H (Same.refl H)
        · walk_at "go"
          refine g_ixt (SqT.of hp) hy ?_
          walk_at "go"
          refine g_ifd (fun h5 => ?_) (fun h5 => ?_)
          · walk_at "go"
            have e : Cd.codeOf .steps rs = none := if_pos (.inr (by rw [hl]; have := V.int.inj h5; omega))
            rw [e] at q
            exact q H (Same.refl H)
          · have e : Cd.codeOf .steps rs = some (Cd.num rs.reverse 0) := by
              rw [Cd.num_back]
              refine if_neg ?_
              rw [hl]
              rintro (z | z)
              · exact h4 (show (y : Int) > 127 by omega)
              · exact h5 (by rw [z]; rfl)
            rw [e] at q
            walk_at "go"
            refine ⟨p, rs.map Tx.iv, rfl, SqT.of hp, fun r hr => ?_⟩
            refine ⟨r, rfl, ⟨_, SqT.of upd_same⟩, for_tup (K := K) (a := r) (xs := (rs.map Tx.iv).reverse) (fun i σ H1 => H1 = upd H r (.tup (rs.map Tx.iv).reverse) ∧ ∃ y0, σ = [some (.str Cd.Kd.steps.name), some (.ref p), some (Tx.iv (Cd.num (rs.reverse.take i) 0)), y0]) ⟨rfl, none, rfl⟩ (fun i σ H1 _ h => by rw [h.1]; exact SqT.of upd_same) ?_ ?_⟩
            · rintro i x σ H1 hx ⟨rfl, y0, rfl⟩
              rw [← List.map_reverse, List.getElem?_map] at hx
              obtain ⟨c, ec, rfl⟩ : ∃ c, rs.reverse[i]? = some c ∧ x = Tx.iv c := by
                cases e : rs.reverse[i]? with
                | none => rw [e] at hx; cases hx
                | some c => rw [e] at hx; exact ⟨c, rfl, (Option.some.inj hx).symm⟩
              walk_at "go"
              refine ⟨rfl, some (Tx.iv c), ?_⟩
              rw [List.take_add_one, ec]
              unfold Cd.num
              rw [List.foldl_append]
              rfl
            · rintro σ H1 ⟨rfl, y0, rfl⟩
              rw [List.length_reverse, List.length_map, List.take_of_length_le (by rw [List.length_reverse]; exact Nat.le_refl _)]
              walk_at "go"
              exact q _ (same_new hr)
theorem ok__rows_of (T : Txt K mg) : FnOk P w K mg base CX0 2 T.f__rows_of T.fd__rows_of ["charset", "octets"] (Cd.spRows) := by
  refine T.F__rows_of.ok sc__rows_of (fun vs H Q E h => ?_) (fun cdv A outer s H vs Q E hr h => ?_)
  · obtain ⟨k, p, os, rfl, _⟩ := h
    rfl
  · obtain ⟨k, p, os, rfl, hp, ho, hz, q⟩ := h
    have hu := hu_of hr
    refine ⟨_, (pss_cons (ps_set (i := 2) sc__rows_of.nd rfl (Or.inl rfl) (pe_lst pa_nil)) (pss_cons (ps_set (i := 3) sc__rows_of.nd rfl (Or.inl rfl) (pe_tup pa_nil)) (pss_cons (ps_for PassesOwn.never (by rfl) (pi_tup (pv 1)) (pg_name (i := 4) sc__rows_of.nd rfl (Or.inl rfl)) (pss_cons (ps_set (i := 3) sc__rows_of.nd rfl (Or.inl rfl) (pe_tup (StX.pa_star (pv 3) (pa_cons (pv 4) pa_nil)))) (pss_one (ps_if (pt_val (pe_call (ok__is_whole T) (hr.mono (by decide)) (by rfl) T.g__is_whole T.F__is_whole.kp T.b__is_whole .nil pass0 (pa_cons (pv 0) (pa_cons (pv 3) pa_nil)))) (pss_cons (ps_expr (pe_bm PySem.F.plainAttrs_list PySem.F.slot_list_append PySem.F.type_list_append mt_append (pv 2) (pa_cons (pv 3) pa_nil))) (pss_one (ps_set (i := 3) sc__rows_of.nd rfl (Or.inl rfl) (pe_tup pa_nil)))) pss_nil)))) (pss_cons (ps_if (pt_cmpR (op_neD hr.units) (pv 3) (pe_tup pa_nil) (nomark _)) (pss_one (ps_expr (pe_bm PySem.F.plainAttrs_list PySem.F.slot_list_append PySem.F.type_list_append mt_append (pv 2) (pa_cons (pv 3) pa_nil)))) pss_nil) (pss_one (ps_ret (pv 2))))))), ?_⟩
    walk_at "go"
    refine ⟨Nat.zero_le _, fun l hl => ?_⟩
    walk_at "go"
    refine ⟨Nat.zero_le _, fun r0 hr0 => ?_⟩
    have ne0 : l ≠ r0 := ne_of_none upd_same hr0
    have s0 : Same H (upd (upd H l (.lst [])) r0 (.tup [])) := (same_new hl).trans (same_new hr0)
    have e0 : (upd (upd H l (.lst [])) r0 (.tup [])) l = some (.lst []) := by rw [upd_ne ne0]; exact upd_same
    have t0 : (upd (upd H l (.lst [])) r0 (.tup [])) r0 = some (.tup []) := upd_same
    generalize upd (upd H l (.lst [])) r0 (.tup []) = H0 at s0 e0 t0 ⊢
    walk_at "go"
    refine ⟨p, rfl, ⟨_, SqT.of (s0 _ _ hp)⟩, for_tup (K := K) (a := p) (xs := os.map Tx.iv) (fun i σ H1 => ∃ (r : Addr) (y : Option V) (ps : List Addr), σ = [some (.str k.name), some (.ref p), some (.ref l), some (.ref r), y] ∧ Same H H1 ∧ H1 l = some (.lst (ps.map V.ref)) ∧ Paired (fun a row => Cd.T0 H1 a row) ps ((os.take i).foldl (Cd.rstep k) ([], [])).1 ∧ Cd.T0 H1 r ((os.take i).foldl (Cd.rstep k) ([], [])).2) ⟨r0, none, [], rfl, s0, e0, .nil, t0⟩ (fun i σ H1 _ h => by obtain ⟨r, y, ps, _, s1, _⟩ := h; exact SqT.of (s1 _ _ hp)) ?_ ?_⟩
    · rintro i x σ H1 hx ⟨r, y, ps, rfl, s1, e1, pr, tr⟩
      obtain ⟨c, ec, rfl⟩ : ∃ c, os[i]? = some c ∧ x = Tx.iv c := by
        rw [List.getElem?_map] at hx
        cases e : os[i]? with
        | none => rw [e] at hx; cases hx
        | some c => rw [e] at hx; exact ⟨c, rfl, (Option.some.inj hx).symm⟩
      have kp := Cd.Kept.at (k := k) os i
      have lp : ps.length = _ := pr.length
      have e2 : (os.take (i + 1)).foldl (Cd.rstep k) ([], []) = Cd.rstep k ((os.take i).foldl (Cd.rstep k) ([], [])) c := by rw [List.take_add_one, ec, List.foldl_append]; rfl
      rw [e2]
      generalize (os.take i).foldl (Cd.rstep k) ([], []) = st at *
      have il : i < os.length := (List.getElem?_eq_some_iff.mp ec).1
      walk_at "go"
      refine ⟨r, st.2.map Tx.iv, rfl, .inl (SqT.of tr), ?_⟩
      walk_at "go"
      refine ⟨?_, fun r2 hr2 => ?_⟩
      · have := kp.few
        have := Cd.mx_le k
        rw [List.length_append, List.length_map]
        exact Nat.le_trans (show st.2.length + 1 ≤ 3 by omega) (by decide)
      have s2 := same_new (o := .tup (st.2.map Tx.iv ++ [Tx.iv c])) hr2
      have t2 : Cd.T0 (upd H1 r2 (.tup (st.2.map Tx.iv ++ [Tx.iv c]))) r2 (st.2 ++ [c]) := by
        show upd _ _ _ _ = _
        rw [upd_same, List.map_append]
        rfl
      have e3 := s2 _ _ e1
      have pr2 := Paired.mapP pr fun a b (h : Cd.T0 H1 a b) => s2 _ _ h
      have S2 := s1.trans s2
      generalize upd H1 r2 (.tup (st.2.map Tx.iv ++ [Tx.iv c])) = H2 at *
      walk_at "go"
      refine ⟨k, r2, st.2 ++ [c], rfl, t2, by simp, ?_⟩
      walk_at "go"
      unfold Cd.rstep
      refine g_if (fun w => ?_) (fun w => ?_)
      · rw [if_pos w]
        walk_at "go"
        refine ⟨ty_list e3, ?_⟩
        walk_at "go"
        refine g_append e3 (Nat.lt_of_le_of_lt (show (ps.map V.ref).length ≤ 5000 by rw [List.length_map, lp]; have := kp.many; omega) (by decide)) ?_
        walk_at "go"
        refine ⟨Nat.zero_le _, fun r3 hr3 => ?_⟩
        walk_at "go"
        refine ⟨r3, _, ps ++ [r2], rfl, (S2.mut hl).trans (same_new hr3), ?_, ?_, upd_same⟩
        · rw [upd_ne (ne_of_none upd_same hr3), upd_same, List.map_append]
          rfl
        · exact (Paired.mapP pr2 fun a b h => Cd.t0_new (Cd.t0_upd h e3) hr3).snoc (Cd.t0_new (Cd.t0_upd t2 e3) hr3)
      · rw [if_neg (by rw [w]; decide)]
        walk_at "go"
        exact ⟨r2, _, ps, rfl, S2, e3, pr2, t2⟩
    · rintro σ H1 ⟨r, y, ps, rfl, s1, e1, pr, tr⟩
      rw [List.length_map, List.take_of_length_le (Nat.le_refl _)] at pr tr
      walk_at "go"
      refine ⟨Nat.zero_le _, fun r3 hr3 => ?_⟩
      walk_at "go"
      have kp := Cd.Kept.at (k := k) os os.length
      rw [List.take_of_length_le (Nat.le_refl _)] at kp
      have lp : ps.length = _ := pr.length
      refine g_ned (.tup (SqT.of (Cd.t0_new tr hr3)) (Tx.dps _)) (.tup (SqT.of upd_same) .nil) (Tx.shaped_ints _) (Tx.shaped_ints []) ?_
      rw [Cd.eqv_nil]
      refine g_bl (g_ifn (fun h => ?_) (fun h => ?_))
      · have e2 := same_new (o := .tup []) hr3 _ _ e1
        walk_at "go"
        refine ⟨ty_list e2, ?_⟩
        walk_at "go"
        refine g_append e2 (Nat.lt_of_le_of_lt (show (ps.map V.ref).length ≤ 5000 by rw [List.length_map, lp]; have := kp.many; omega) (by decide)) ?_
        walk_at "go"
        refine q _ l (ps ++ [r]) ((s1.trans (same_new hr3)).mut hl) hl (by rw [upd_same, List.map_append]; rfl) ?_
        rw [Cd.rows_more h]
        exact (Paired.mapP pr fun a b h => Cd.t0_upd (Cd.t0_new h hr3) e2).snoc (Cd.t0_upd (Cd.t0_new tr hr3) e2)
      · walk_at "go"
        refine q _ l ps (s1.trans (same_new hr3)) hl (same_new hr3 _ _ e1) ?_
        rw [Cd.rows_nil h]
        exact Paired.mapP pr fun a b h => Cd.t0_new h hr3
end
section
variable {w : World} {K : PySem.W.Frag} {mg : Str → Option Value} {base : Heap}
-- thing
theorem ok_is_charset (T : Txt K mg) : FnOk P w K mg base CX0 1 T.f_is_charset T.fd_is_charset ["thing"] (Cs.spCs) := by
  refine T.F_is_charset.ok sc_is_charset (fun vs H Q E h => ?_) (fun cdv A outer s H vs Q E hr h => ?_)
  · obtain ⟨x, rfl, _⟩ := h
    rfl
  · obtain ⟨x, rfl, a, q⟩ := h
    have hu := hu_of hr
    refine ⟨_, (pss_one (ps_ret (pe_and (pe_callB (call_isiQ (K := K) rfl) (by rfl) T.m_isinstance (by decide +kernel) (pa_cons (pv 0) (pa_cons (pe_ty (n := "str") (by rfl) T.m_str (by decide +kernel)) pa_nil))) (pe_one (pe_cmpR op_in_seq (pv 0) (pe_glob (v := .ref T.a_CHARSETS) (by rfl) T.g_CHARSETS rfl) (by rfl)))))), ?_⟩
    walk_at "go"
    refine g_if (fun c1 => ?_) (fun c1 => ?_)
    · obtain ⟨z, rfl⟩ := Mk.str_of c1
      walk_at "go"
      refine ⟨_, _, rfl, .inr (T.q_CHARSETS _), rfl, rfl, ?_⟩
      rw [if_neg Bool.false_ne_true, show inV (.str z) [.str "latin", .str "wide", .str "steps"] = decide (z ∈ (["latin", "wide", "steps"] : List Str)) from Cd.inV_strs z ["latin", "wide", "steps"]]
      exact q
    · have e : Cs.isCs x = false := by
        cases x with
        | str z => cases c1
        | _ => rfl
      rw [e] at q
      exact q
-- charset text place code
-- charset text place code
theorem ok_check_text (T : Txt K mg) : FnOk P w K mg base (L2.CX P w) 3 T.f_check_text T.fd_check_text ["charset", "text"] (Cs.spCheckTX K T.C_Text T.C_BadText T.C_BadCode) := by
  refine T.F_check_text.okX sc_check_text (fun vs H Q E h => ?_) (fun cdv A outer s H vs Q E hr h => ?_)
  · rcases h with ⟨k, x, rfl, _⟩ | ⟨k, a, cs, rfl, _⟩ <;> rfl
  · have hu := hu_of hr
    refine ⟨_, (pss_cons (ps_if (pt_not (pt_val (pe_callB (call_isiQ (K := K) rfl) (by rfl) T.m_isinstance (by decide +kernel) (pa_cons (pv 1) (pa_cons (pe_gc (by rfl) T.g_Text) pa_nil))))) (pss_one (ps_raiseE (by rfl) (takes_of rfl rfl rfl rfl) T.E_BadText (hr.mono (by decide)) (by rfl) T.g_BadText (pv 1))) pss_nil) (pss_one (ps_if (pt_cmpR op_eq (pv 0) pe_str (nomark _)) (pss_one (ps_for (passes_of rfl) (by rfl) (pi_enumT (by rfl) T.m_enumerate (pa_cons (pe_prop (pv 1) T.c_Text T.pp_Text_codes (ok_Text_codes T) (hr.mono (by decide)) T.b_Text_codes .nil pass0 rfl) pa_nil)) (pg_tup (by rfl) (pgs_cons (pg_name (i := 2) sc_check_text.nd rfl (Or.inl rfl)) (pgs_cons (pg_name (i := 3) sc_check_text.nd rfl (Or.inl rfl)) pgs_nil))) (pss_one (ps_if (pt_cmpR op_gt (pv 3) pe_int (nomark _)) (pss_one (ps_raiseE (by rfl) (takes_of rfl rfl rfl rfl) T.E_BadCode (hr.mono (by decide)) (by rfl) T.g_BadCode (pv 2))) pss_nil)))) pss_nil))), ?_⟩
    rcases h with ⟨k, x, rfl, ⟨bt, kk⟩ | ⟨a, cs, i, rfl, rfl, ⟨dx, t, ha, ht⟩, ⟨hb, c, hc, hw⟩, kk⟩⟩ | ⟨k, a, cs, rfl, ⟨dx, t, ha, ht⟩, hc, q⟩
    · walk_at "go"
      refine g_isNoT T.nk_Text bt ?_
      walk_at "go"
      refine iteT ?_
      walk_at "go"
      exact fun d nd => kk H d (Same.refl _) nd
    · walk_at "go"
      refine g_isi (.own _) (T.ty_Text _ _ _ _ ha) T.ks_Text ?_
      walk_at "go"
      refine iteF ?_
      walk_at "go"
      refine g_ifd (fun _ => ?_) (fun z => absurd rfl z)
      walk_at "go"
      refine ⟨a, dx, _, rfl, ha, a, dx, _, .ref t, rfl, ha, rfl, ?_⟩
      walk_at "go"
      refine ⟨t, cs.map Tx.iv, rfl, ht, for_enT (K := K) (a := t) (xs := cs.map Tx.iv) (fun j σ H1 => j ≤ i ∧ (∃ y z, σ = [some (.str Cd.Kd.latin.name), some (.ref a), y, z]) ∧ Same H H1) ⟨Nat.zero_le _, ⟨none, none, rfl⟩, Same.refl _⟩ (fun j σ H1 _ h => h.2.2.sqt ht) ?_ ?_⟩
      · rintro j x T2 σ H1 hx ⟨hj, ⟨y, z, rfl⟩, s1⟩ hT
        obtain ⟨n, en, rfl⟩ : ∃ n, cs[j]? = some n ∧ x = Tx.iv n := by
          rw [List.getElem?_map] at hx
          cases e : cs[j]? with
          | none => rw [e] at hx; cases hx
          | some c => rw [e] at hx; exact ⟨c, rfl, (Option.some.inj hx).symm⟩
        refine g_gtup (SqT.of upd_same) rfl ?_
        have s2 := s1.trans (same_new (o := .tup [.int (j : Nat), Tx.iv n]) hT)
        walk_at "go"
        refine g_ifd (fun h => ?_) (fun h => ?_)
        · have h' : 255 < n := by
            have : (n : Int) > 255 := h
            omega
          have ji : j = i := by
            rcases Nat.lt_or_ge j i with l | l
            · have := hb j n l en
              omega
            · omega
          subst ji
          walk_at "go"
          exact fun d nd => kk _ d s2 nd
        · have l : j < i := by
            rcases Nat.lt_or_ge j i with l | l
            · exact l
            · obtain rfl : j = i := by omega
              rw [hc] at en
              cases en
              exact absurd (show ((c : Nat) : Int) > 255 by omega) h
          walk_at "go"
          exact ⟨l, ⟨_, _, rfl⟩, s2⟩
      · rintro σ H1 ⟨hj, ⟨y, z, rfl⟩, s1⟩
        have := (List.getElem?_eq_some_iff.mp hc).1
        rw [List.length_map] at hj
        omega
    · walk_at "go"
      refine g_isi (.own _) (T.ty_Text _ _ _ _ ha) T.ks_Text ?_
      walk_at "go"
      refine iteF ?_
      walk_at "go"
      refine g_ifd (fun c => ?_) (fun c => ?_)
      · have kl := Cd.latin_ok.mp c
        walk_at "go"
        refine ⟨a, dx, _, rfl, ha, a, dx, _, .ref t, rfl, ha, rfl, ?_⟩
        walk_at "go"
        refine ⟨t, cs.map Tx.iv, rfl, ht, for_enT (K := K) (a := t) (xs := cs.map Tx.iv) (fun i σ H1 => (∃ y z, σ = [some (.str k.name), some (.ref a), y, z]) ∧ Same H H1) ⟨⟨none, none, rfl⟩, Same.refl _⟩ (fun i σ H1 _ h => h.2.sqt ht) ?_ ?_⟩
        · rintro i x T2 σ H1 hx ⟨⟨y, z, rfl⟩, s1⟩ hT
          obtain ⟨n, hn, rfl⟩ := Cd.of_iv hx
          have hb := (hc n hn).2.2 kl
          refine g_gtup (SqT.of upd_same) rfl ?_
          walk_at "go"
          refine g_ifd (fun h => absurd h (by show ¬ ((n : Int) > 255); omega)) (fun _ => ?_)
          walk_at "go"
          exact ⟨⟨_, _, rfl⟩, s1.trans (same_new hT)⟩
        · rintro σ H1 ⟨⟨y, z, rfl⟩, s1⟩
          exact q H1 s1
      · walk_at "go"
        exact q H (Same.refl H)
end
section
variable {w : World} {K : PySem.W.Frag} {mg : Str → Option Value} {base : Heap}
-- octets place octet
theorem ok__check_octets (T : Txt K mg) : FnOk P w K mg base (L2.CX P w) 3 T.f__check_octets T.fd__check_octets ["octets"] (Pw.spCheckX T.C_BadOctet) := by
  refine T.F__check_octets.okX sc__check_octets (fun vs H Q E h => ?_) (fun cdv A outer s H vs Q E hr h => ?_)
  · rcases h with ⟨x, rfl, _⟩ | ⟨p, xs, i, rfl, _⟩ | ⟨p, os, rfl, _⟩ <;> rfl
  · have hu := hu_of hr
    refine ⟨_, (pss_cons (ps_if (pt_not (pt_val (pe_callB (call_isiQ (K := K) rfl) (by rfl) T.m_isinstance (by decide +kernel) (pa_cons (pv 0) (pa_cons (pe_ty (n := "tuple") (by rfl) T.m_tuple (by decide +kernel)) pa_nil))))) (pss_one (ps_raiseE (by rfl) (takes_of rfl rfl rfl rfl) T.E_BadOctet (hr.mono (by decide)) (by rfl) T.g_BadOctet pe_non)) pss_nil) (pss_one (ps_for (passes_of rfl) (by rfl) (pi_enumT (by rfl) T.m_enumerate (pa_cons (pv 0) pa_nil)) (pg_tup (by rfl) (pgs_cons (pg_name (i := 1) sc__check_octets.nd rfl (Or.inl rfl)) (pgs_cons (pg_name (i := 2) sc__check_octets.nd rfl (Or.inl rfl)) pgs_nil))) (pss_one (ps_if (pt_not (pt_val (pe_call (ok_is_between T) (hr.mono (by decide)) (by rfl) T.g_is_between T.F_is_between.kp T.b_is_between .nil pass0 (pa_cons (pv 2) (pa_cons pe_int (pa_cons pe_int pa_nil)))))) (pss_one (ps_raiseE (by rfl) (takes_of rfl rfl rfl rfl) T.E_BadOctet (hr.mono (by decide)) (by rfl) T.g_BadOctet (pv 1))) pss_nil))))), ?_⟩
    rcases h with ⟨x, rfl, a, hn, k⟩ | ⟨p, xs, i, rfl, hp, ha, hb, k⟩ | ⟨p, os, rfl, hp, ho, q⟩
    · walk_at "go"
      refine g_istup a ?_
      rw [hn]
      walk_at "go"
      refine iteT ?_
      walk_at "go"
      exact fun d nd => k H d (Same.refl _) nd
    · walk_at "go"
      refine g_isi (.ty _) (.base (.tup hp)) (kit_ty (r := true) (by decide +kernel)) ?_
      walk_at "go"
      refine iteF ?_
      walk_at "go"
      obtain ⟨h1, v, hv, hbv⟩ := hb
      refine ⟨p, xs, rfl, SqT.of hp, for_enT (K := K) (a := p) (xs := xs) (fun j σ H1 => j ≤ i ∧ (∃ y z, σ = [some (.ref p), y, z]) ∧ Same H H1) ⟨Nat.zero_le _, ⟨none, none, rfl⟩, Same.refl _⟩ (fun j σ H1 _ h => h.2.2.sqt (SqT.of hp)) ?_ ?_⟩
      · rintro j x T2 σ H1 hx ⟨hj, ⟨y, z, rfl⟩, s1⟩ hT
        refine g_gtup (SqT.of upd_same) rfl ?_
        have s2 := s1.trans (same_new (o := .tup [.int (j : Nat), x]) hT)
        walk_at "go"
        refine ⟨x, 0, 255, rfl, (ha x (List.mem_of_getElem? hx)).same s2, ?_⟩
        walk_at "go"
        rcases Nat.lt_or_ge j i with l | l
        · rw [h1 j x l hx]
          refine iteF ?_
          walk_at "go"
          exact ⟨l, ⟨_, _, rfl⟩, s2⟩
        · obtain rfl : j = i := Nat.le_antisymm hj l
          rw [hv] at hx
          cases hx
          rw [hbv]
          refine iteT ?_
          walk_at "go"
          exact fun d nd => k _ d s2 nd
      · rintro σ H1 ⟨hj, ⟨y, z, rfl⟩, s1⟩
        exact absurd (List.getElem?_eq_some_iff.mp hv).1 (Nat.not_lt.mpr hj)
    · walk_at "go"
      refine g_isi (.ty _) (.base (.tup hp)) (kit_ty (r := true) (by decide +kernel)) ?_
      walk_at "go"
      refine iteF ?_
      walk_at "go"
      refine ⟨p, os.map Tx.iv, rfl, SqT.of hp, for_enT (K := K) (a := p) (xs := os.map Tx.iv) (fun i σ H1 => (∃ y z, σ = [some (.ref p), y, z]) ∧ Same H H1) ⟨⟨none, none, rfl⟩, Same.refl _⟩ (fun i σ H1 _ h => h.2.sqt (SqT.of hp)) ?_ ?_⟩
      · rintro i x T2 σ H1 hx ⟨⟨y, z, rfl⟩, s1⟩ hT
        obtain ⟨n, hn, rfl⟩ := Cd.of_iv hx
        have hb := ho n hn
        refine g_gtup (SqT.of upd_same) rfl ?_
        walk_at "go"
        refine ⟨Tx.iv n, 0, 255, rfl, .int _, ?_⟩
        walk_at "go"
        rw [show Mk.btw (Tx.iv n) 0 255 = true by show (decide ((0 : Int) ≤ n) && decide ((n : Int) ≤ 255)) = true; rw [decide_eq_true (by omega), decide_eq_true (by omega)]; rfl]
        refine iteF ?_
        walk_at "go"
        exact ⟨⟨_, _, rfl⟩, s1.trans (same_new hT)⟩
      · rintro σ H1 ⟨⟨y, z, rfl⟩, s1⟩
        exact q H1 s1
-- charset text octets code
-- charset text octets code
theorem ok_octets_for (T : Txt K mg) : FnOk P w K mg base (L2.CX P w) 4 T.f_octets_for T.fd_octets_for ["charset", "text"] (Cs.spForX K T.C_Text T.C_BadText T.C_BadCode T.C_BadCharset) := by
  refine T.F_octets_for.okX sc_octets_for (fun vs H Q E h => ?_) (fun cdv A outer s H vs Q E hr h => ?_)
  · rcases h with ⟨x, y, rfl, _⟩ | ⟨k, x, rfl, _⟩ | ⟨k, a, cs, rfl, _⟩ <;> rfl
  · have hu := hu_of hr
    refine ⟨_, (pss_cons (ps_if (pt_not (pt_val (pe_call (ok_is_charset T) (hr.mono (by decide)) (by rfl) T.g_is_charset T.F_is_charset.kp T.b_is_charset .nil pass0 (pa_cons (pv 0) pa_nil)))) (pss_one (ps_raiseE (by rfl) (takes_of rfl rfl rfl rfl) T.E_BadCharset (hr.mono (by decide)) (by rfl) T.g_BadCharset (pv 0))) pss_nil) (pss_cons (ps_expr (pe_callS (ok_check_text T) (hr.mono (by decide)) (by rfl) T.g_check_text T.F_check_text.kp T.b_check_text (fun σ => passAt (takes_of rfl rfl rfl rfl) σ) (pa_cons (pv 0) (pa_cons (pv 1) pa_nil)))) (pss_cons (ps_set (i := 2) sc_octets_for.nd rfl (Or.inl rfl) (pe_lst pa_nil)) (pss_cons (ps_for (passes_of rfl) (by rfl) (pi_tup (pe_prop (pv 1) T.c_Text T.pp_Text_codes (ok_Text_codes T) (hr.mono (by decide)) T.b_Text_codes .nil pass0 rfl)) (pg_name (i := 3) sc_octets_for.nd rfl (Or.inl rfl)) (pss_one (ps_expr (pe_bm PySem.F.plainAttrs_list PySem.F.slot_list_extend PySem.F.type_list_extend mt_extendT (pv 2) (pa_cons (pe_call (ok__row_of T) (hr.mono (by decide)) (by rfl) T.g__row_of T.F__row_of.kp T.b__row_of .nil pass0 (pa_cons (pv 0) (pa_cons (pv 3) pa_nil))) pa_nil))))) (pss_one (ps_ret (pe_callTy call_tupOf (by rfl) T.m_tuple (by decide +kernel) (pa_cons (pv 2) pa_nil)))))))), ?_⟩
    rcases h with ⟨x, y, rfl, ax, bx, kk⟩ | ⟨k, x, rfl, nc⟩ | ⟨k, a, cs, rfl, A0, hc, hz, q⟩
    · walk_at "go"
      refine ⟨x, rfl, ax, ?_⟩
      rw [bx]
      walk_at "go"
      refine iteT ?_
      walk_at "go"
      exact fun d nd => kk H d (Same.refl _) nd
    · walk_at "go"
      refine ⟨.str k.name, rfl, Cd.name_any k H, ?_⟩
      rw [Cs.isCs_name]
      walk_at "go"
      refine iteF ?_
      walk_at "go"
      exact .inl ⟨k, x, rfl, nc⟩
    · walk_at "go"
      refine ⟨.str k.name, rfl, Cd.name_any k H, ?_⟩
      rw [Cs.isCs_name]
      walk_at "go"
      refine iteF ?_
      walk_at "go"
      refine .inr ⟨k, a, cs, rfl, A0, hc, fun H1 s1 => ?_⟩
      walk_at "go"
      refine ⟨Nat.zero_le _, fun l hl => ?_⟩
      walk_at "go"
      obtain ⟨dx, t, ha, ht⟩ := A0.same (s1.trans (same_new (o := .lst []) hl))
      have S1 := s1.trans (same_new (o := .lst []) hl)
      have e0 : (upd H1 l (.lst [])) l = some (.lst []) := upd_same
      have l0 : H l = none := s1.free hl
      generalize upd H1 l (.lst []) = G at ha ht S1 e0 ⊢
      refine Tx.prop ha ?_
      walk_at "go"
      refine ⟨t, rfl, ⟨_, ht⟩, for_tup (K := K) (a := t) (xs := cs.map Tx.iv) (fun i σ H2 => (∃ y, σ = [some (.str k.name), some (.ref a), some (.ref l), y]) ∧ Same H H2 ∧ SqT K H2 t (cs.map Tx.iv) ∧ H2 l = some (.lst ((((cs.take i).map (Cd.rowOf k)).flatten).map Tx.iv))) ⟨⟨none, rfl⟩, S1, ht, e0⟩ (fun i σ H2 _ h => h.2.2.1) ?_ ?_⟩
      · rintro i x σ H2 hx ⟨⟨y, rfl⟩, s2, t2, e2⟩
        obtain ⟨c, ec, rfl⟩ : ∃ c, cs[i]? = some c ∧ x = Tx.iv c := by
          rw [List.getElem?_map] at hx
          cases e : cs[i]? with
          | none => rw [e] at hx; cases hx
          | some c => rw [e] at hx; exact ⟨c, rfl, (Option.some.inj hx).symm⟩
        walk_at "go"
        refine ⟨ty_list e2, ?_⟩
        walk_at "go"
        refine ⟨k, c, rfl, hc c (List.mem_of_getElem? ec), fun H3 p s3 n3 e3 => ?_⟩
        walk_at "go"
        have lsum : (((cs.take i).map (Cd.rowOf k)).flatten).length ≤ 3 * cs.length := Cd.flat_len cs i
        refine g_extT (s3 _ _ e2) (SqT.of e3) (Nat.le_trans (by rw [List.length_map, List.length_map]; exact (show _ + (Cd.rowOf k c).length ≤ 4000 by have := (Cd.row_len (k := k) (c := c)).2; omega)) (by decide)) ?_
        walk_at "go"
        have S3 := s2.trans s3
        refine ⟨⟨_, rfl⟩, S3.mut l0, ?_, ?_⟩
        · exact Cd.sqt_upd (s3.sqt t2) (s3 _ _ e2)
        · rw [upd_same, List.take_add_one, ec, List.map_append, List.flatten_append, List.map_append]
          congr 3
          exact congrArg (List.map Tx.iv) (List.append_nil _).symm
      · rintro σ H2 ⟨⟨y, rfl⟩, s2, t2, e2⟩
        rw [List.length_map, List.take_of_length_le (Nat.le_refl _)] at e2
        walk_at "go"
        refine g_tupOf (SqL.of e2) fun p hp => ?_
        exact q _ p (s2.trans (same_new hp)) (s2.free hp) upd_same
-- charset octets codes known row code
-- charset octets codes known row code
theorem ok_text_from (T : Txt K mg) : FnOk P w K mg base (L2.CX P w) 7 T.f_text_from T.fd_text_from ["charset", "octets"] (Cs.spFromX K T.C_Text T.C_BadOctet T.C_BadCharset) := by
  refine T.F_text_from.okX sc_text_from (fun vs H Q E h => ?_) (fun cdv A outer s H vs Q E hr h => ?_)
  · rcases h with ⟨x, y, rfl, _⟩ | ⟨k, x, rfl, _⟩ | ⟨k, p, xs, i, rfl, _⟩ | ⟨k, p, os, rfl, _⟩ <;> rfl
  · have hu := hu_of hr
    refine ⟨_, (pss_cons (ps_if (pt_not (pt_val (pe_call (ok_is_charset T) (hr.mono (by decide)) (by rfl) T.g_is_charset T.F_is_charset.kp T.b_is_charset .nil pass0 (pa_cons (pv 0) pa_nil)))) (pss_one (ps_raiseE (by rfl) (takes_of rfl rfl rfl rfl) T.E_BadCharset (hr.mono (by decide)) (by rfl) T.g_BadCharset (pv 0))) pss_nil) (pss_cons (ps_expr (pe_callS (ok__check_octets T) (hr.mono (by decide)) (by rfl) T.g__check_octets T.F__check_octets.kp T.b__check_octets (fun σ => passAt (takes_of rfl rfl rfl rfl) σ) (pa_cons (pv 1) pa_nil))) (pss_cons (ps_setLc (i := 2) (own := [("row", 4)]) (g := gName 4) (tt := tYes) (by rfl) sc_text_from.nd rfl rfl (sw_true rfl rfl rfl (by decide +kernel)) (pi_list (pe_call (ok__rows_of T) (hr.mono (by decide)) (by rfl) T.g__rows_of T.F__rows_of.kp T.b__rows_of .nil pass0 (pa_cons (pv 0) (pa_cons (pv 1) pa_nil)))) (blkOk_by (own := [("row", 4)]) (N := sN_text_from) (sc := defScope s_text_from) (by decide +kernel)) (fun _ _ _ _ _ => (pg_name (i := 4) sc_text_from.nd rfl (Or.inl rfl))) (fun _ _ _ _ _ => pts_nil) (fun _ _ _ _ _ => (pe_call (ok__code_of T) (hr.mono (by decide)) (by rfl) T.g__code_of T.F__code_of.kp T.b__code_of .nil pass0 (pa_cons (pv 0) (pa_cons (pv 4) pa_nil))))) (pss_cons (ps_setLc (i := 3) (own := [("code", 5)]) (g := gName 5) (tt := tYes) (by rfl) sc_text_from.nd rfl rfl (sw_true rfl rfl rfl (by decide +kernel)) (pi_list (pv 2)) (blkOk_by (own := [("code", 5)]) (N := sN_text_from) (sc := defScope s_text_from) (by decide +kernel)) (fun _ _ _ _ _ => (pg_name (i := 5) sc_text_from.nd rfl (Or.inl rfl))) (fun _ _ _ _ _ => pts_nil) (fun _ _ _ _ _ => (pe_ifExp (pt_val (pe_call (ok_is_code T) (hr.mono (by decide)) (by rfl) T.g_is_code T.F_is_code.kp T.b_is_code .nil pass0 (pa_cons (pv 5) pa_nil))) (pv 5) (pe_gi (by rfl) T.g__UNKNOWN)))) (pss_one (ps_ret (pe_tup (pa_cons (ClX.pe_cmeth (pe_gc (by rfl) T.g_Text) T.cr_Text T.cm_Text_of (FnOk.raw (ok_Text_of T) T.b_Text_of .nil) (hr.mono (by decide)) (passX (takes_of rfl rfl rfl rfl)) (pa_cons (pe_callTy call_tupOf (by rfl) T.m_tuple (by decide +kernel) (pa_cons (pv 3) pa_nil)) pa_nil)) (pa_cons (pe_cmpR (op_eqD hr.units) (pv 3) (pv 2) (nomark _)) pa_nil))))))))), ?_⟩
    rcases h with ⟨x, y, rfl, ax, bx, kk⟩ | ⟨k, x, rfl, ax, tx, kk⟩ | ⟨k, p, xs, i, rfl, hp, ha, hb, kk⟩ | ⟨k, p, os, rfl, hp, ho, hz, q⟩
    · walk_at "go"
      refine ⟨x, rfl, ax, ?_⟩
      rw [bx]
      walk_at "go"
      refine iteT ?_
      walk_at "go"
      exact fun d nd => kk H d (Same.refl _) nd
    · walk_at "go"
      refine ⟨.str k.name, rfl, Cd.name_any k H, ?_⟩
      rw [Cs.isCs_name]
      walk_at "go"
      refine iteF ?_
      walk_at "go"
      exact .inl ⟨x, rfl, ax, tx, kk⟩
    · walk_at "go"
      refine ⟨.str k.name, rfl, Cd.name_any k H, ?_⟩
      rw [Cs.isCs_name]
      walk_at "go"
      refine iteF ?_
      walk_at "go"
      exact .inr (.inl ⟨p, xs, i, rfl, hp, ha, hb, kk⟩)
    · walk_at "go"
      refine ⟨.str k.name, rfl, Cd.name_any k H, ?_⟩
      rw [Cs.isCs_name]
      walk_at "go"
      refine iteF ?_
      walk_at "go"
      refine .inr (.inr ⟨p, os, rfl, hp, ho, fun H1 s1 => ?_⟩)
      walk_at "go"
      refine ⟨k, p, os, rfl, s1 _ _ hp, ho, hz, fun H2 l ps s2 nl e2 pr => ?_⟩
      walk_at "go"
      have lp : ps.length = _ := pr.length
      have lr := Cd.rows_len (k := k) os
      refine ⟨l, rfl, ⟨_, SqL.of e2⟩, fun D hD => lc_pureLi (K := K) (xs := ps.map V.ref) (fun i => Cd.oV (Cd.codeOf k ((Cd.rowsOf k os).getD i []))) (SqL.of e2) hD (by rw [List.length_map, lp]; omega) (fun i x H5 N hx s5 kk => ?_) fun H5 s5 e5 => ?_⟩
      · rw [List.getElem?_map] at hx
        obtain ⟨a, ea, rfl⟩ : ∃ a, ps[i]? = some a ∧ x = V.ref a := by
          cases e : ps[i]? with
          | none => rw [e] at hx; cases hx
          | some a => rw [e] at hx; exact ⟨a, rfl, (Option.some.inj hx).symm⟩
        obtain ⟨row, er, tr⟩ := paired_at pr ea
        have hk := Cd.rows_kept (k := k) os row (List.mem_of_getElem? er)
        have eg : (Cd.rowsOf k os).getD i [] = row := by rw [List.getD_eq_getElem?_getD, er]; rfl
        rw [eg] at kk
        walk_at "go"
        refine ⟨rfl, ?_⟩
        walk_at "go"
        exact ⟨k, a, row, rfl, s5 _ _ tr, hk.1, hk.2.1, fun o hom => ho o (hk.2.2 o hom), kk⟩
      · rw [List.length_map, lp, Cd.codes_list] at e5
        walk_at "go"
        have qq : ∀ (G1 : Hp) (r a : Addr), Same H G1 → H r = none → G1 r = some (.tup [.ref a, .bl (((Cd.rowsOf k os).map (Cd.codeOf k)).all Cd.okO)]) → Tx.At K G1 T.C_Text a (((Cd.rowsOf k os).map (Cd.codeOf k)).map Cd.known) → Q (.ref r) G1 := fun G1 r a z1 z2 z3 z4 => q G1 r a z1 z2 (by rw [List.all_map] at z3; exact z3) (by rw [List.map_map] at z4; exact z4)
        have lc : ((Cd.rowsOf k os).map (Cd.codeOf k)).length ≤ 5001 := by rw [List.length_map]; omega
        generalize (Cd.rowsOf k os).map (Cd.codeOf k) = cs at e5 qq lc
        have S5 := (s1.trans s2).trans s5
        refine ⟨D, rfl, ⟨_, SqL.of e5⟩, fun D2 hD2 => lc_pureL (K := K) (xs := cs.map Cd.oV) (fun v => if Mk.isCode v = true then v else .int 63) (SqL.of e5) hD2 (by rw [List.length_map]; omega) (fun x H6 N hx s6 kk => ?_) fun H6 s6 e6 => ?_⟩
        · obtain ⟨o, ho2, rfl⟩ := List.mem_map.mp hx
          walk_at "go"
          refine ⟨rfl, ?_⟩
          walk_at "go"
          refine ⟨Cd.oV o, rfl, Cd.any_oV o H6, fun H7 s7 => ?_⟩
          walk_at "go"
          refine g_if (fun w => ?_) (fun w => ?_)
          · rw [if_pos w] at kk
            walk_at "go"
            exact kk H7 s7
          · rw [if_neg (by rw [w]; decide)] at kk
            walk_at "go"
            exact kk H7 s7
        · rw [Cd.kn_list] at e6
          walk_at "go"
          refine ⟨rfl, ?_⟩
          walk_at "go"
          refine g_tupOf (SqL.of e6) fun t ht => ?_
          have s7 := same_new (o := .tup ((cs.map Cd.known).map Tx.iv)) ht
          walk_at "go"
          refine Tx.n_of upd_same (Cd.known_ok cs) fun a H8 ha s8 h8 => ?_
          walk_at "go"
          refine g_eqd (.lst (SqL.of (s8 _ _ (s7 _ _ e6))) (Tx.dps _)) (.lst (SqL.of (s8 _ _ (s7 _ _ (s6 _ _ e5)))) (Cd.dpO _)) (Cd.shaped_L _) (Cd.shaped_O _) ?_
          rw [Cd.eqv_lst]
          walk_at "go"
          refine ⟨by show 2 ≤ sizeLine; decide, fun r hr => ?_⟩
          have S8 := ((S5.trans s6).trans s7).trans s8
          exact qq _ r a (S8.trans (same_new hr)) (S8.free hr) upd_same (h8.same (same_new hr))
-- self at
theorem ok_Text___getitem__ (T : Txt K mg) : FnOk P w K mg base CX0 4 T.f_Text___getitem__ T.fd_Text___getitem__ ["self", "at"] (Cs.spGet K T.C_Text) := by
  refine T.F_Text___getitem__.ok sc_Text___getitem__ (fun vs H Q E h => ?_) (fun cdv A outer s H vs Q E hr h => ?_)
  · rcases h with ⟨a, cs, j, c, rfl, _⟩ <;> rfl
  · have hu := hu_of hr
    refine ⟨_, (pss_cons (ps_if (pt_not (pt_val (pe_call (ok_is_between T) (hr.mono (by decide)) (by rfl) T.g_is_between T.F_is_between.kp T.b_is_between .nil pass0 (pa_cons (pv 1) (pa_cons pe_int (pa_cons (pe_op op_sub (pe_callB call_len1 (by rfl) T.m_len PySem.boot_len (pa_cons (pe_fld (pv 0) rfl) pa_nil)) pe_int) pa_nil)))))) (pss_one ps_never) pss_nil) (pss_one (ps_ret (pe_ix (ix_tupKK (K := K) rfl) (pe_fld (pv 0) rfl) (pv 1) (fun _ _ => rfl))))), ?_⟩
    obtain ⟨a, cs, j, c, rfl, ⟨dx, t, ha, ht⟩, hj, q⟩ := h
    have jl := (List.getElem?_eq_some_iff.mp hj).1
    walk_at "go"
    refine Tx.fld ha T.c_Text T.nf_Text__codes ?_
    walk_at "go"
    refine g_lent ht ?_
    rw [List.length_map]
    walk_at "go"
    refine ⟨Tx.iv j, 0, _, rfl, .int _, ?_⟩
    rw [show Mk.btw (Tx.iv j) 0 ((cs.length : Int) - 1) = true from Cal.btw_in (by omega) (by omega)]
    walk_at "go"
    refine iteF ?_
    walk_at "go"
    refine Tx.fld ha T.c_Text T.nf_Text__codes ?_
    walk_at "go"
    exact g_ixt ht (atI_nat (by rw [List.getElem?_map, hj]; rfl)) q
end
section
variable {w : World} {K : PySem.W.Frag} {mg : Str → Option Value} {base : Heap}
-- deed error found e
def TT__law_told {K : PySem.W.Frag} {mg : Str → Option Value} (T : Txt K mg) := Pw.TTF [(T.C_BadCharset, "given", "charset"), (T.C_BadText, "given", "text"), (T.C_BadCode, "place", "code"), (T.C_BadOctet, "place", "octet")]
theorem gives__law_told (T : Txt K mg) {A : Around} {stk : List Env} {q : Str} {cdv : Value} : LamD.GivesF P w K mg base A stk sN__law_told "_law_told" (defScope s__law_told) T.f__law_told cdv (defBody s__law_told) "deed" q (TT__law_told T) := by
  intro f c' s H Q tl act hc h hr
  refine ⟨_, (pss_cons (ps_par (i := 1) (j := 2) (by rfl) sc__law_told.nd rfl rfl (by decide) rfl rfl (pa_cons pe_non (pa_cons (pe_lst pa_nil) pa_nil)) (by rfl)) (pss_cons (ps_tryH (i := 3) rfl rfl sc__law_told.nd rfl rfl (LamD.tells_four ⟨by rfl, by decide, Or.inl T.g_BadCharset⟩ ⟨by rfl, by decide, Or.inl T.g_BadCode⟩ ⟨by rfl, by decide, Or.inl T.g_BadOctet⟩ ⟨by rfl, by decide, Or.inl T.g_BadText⟩) takes0 (fun W pn xe tk _ => (pss_one (ps_set (i := 2) sc__law_told.nd rfl (Or.inl rfl) (pe_lst (pa_cons (act W pn xe _ _ tk) pa_nil))))) (fun a pn => (pss_one (ps_set (i := 1) sc__law_told.nd rfl (Or.inl rfl) (pv 3))))) (pss_cons (ps_if (pt_cmpR op_isN1 (pv 1) pe_non (nomark _)) (pss_one (ps_ret (pv 2))) pss_nil) (pss_cons (ps_if (pt_val (pe_callB call_isX (by rfl) T.m_isinstance (by decide +kernel) (pa_cons (pv 1) (pa_cons (pe_gc (by rfl) T.g_BadCharset) pa_nil)))) (pss_one (ps_ret (pe_tup (pa_cons pe_str (pa_cons (pe_held (pv 1)) pa_nil))))) pss_nil) (pss_cons (ps_if (pt_val (pe_callB call_isX (by rfl) T.m_isinstance (by decide +kernel) (pa_cons (pv 1) (pa_cons (pe_gc (by rfl) T.g_BadText) pa_nil)))) (pss_one (ps_ret (pe_tup (pa_cons pe_str (pa_cons (pe_held (pv 1)) pa_nil))))) pss_nil) (pss_one (ps_ret (pe_tup (pa_cons (pe_ifExp (pt_val (pe_callB call_isX (by rfl) T.m_isinstance (by decide +kernel) (pa_cons (pv 1) (pa_cons (pe_gc (by rfl) T.g_BadCode) pa_nil)))) pe_str pe_str) (pa_cons (pe_held (pv 1)) pa_nil)))))))))), ?_⟩
  walk_at "go"
  refine n_lst (Nat.zero_le _) fun p1 H1 np1 s1 e1 => ?_
  walk_at "go"
  refine ⟨rfl, s1 _ _ hc, h H1 s1 _ _ (fun cl hcl => ?_) ?_⟩
  · simp only [List.mem_cons, List.not_mem_nil, or_false] at hcl
    rcases hcl with rfl | rfl | rfl | rfl
    · intro dd v H2 e2 k
      refine g_we (g_heldY T.M_BadCharset fun a na => ?_)
      walk_at "go"
      refine g_ifd (fun z => nomatch z) (fun _ => ?_)
      have sa := same_new (o := held a (.ref T.C_BadCharset) (some dd)) na
      walk_at "go"
      refine g_isX upd_same (sa _ _ e2) T.I_BadCharset (.own _) T.O_BadCharset_BadCharset ?_
      walk_at "go"
      refine ⟨a, T.C_BadCharset, dd, _, v, rfl, upd_same, sa _ _ e2, rfl, T.X_BadCharset, T.N_BadCharset, ?_⟩
      walk_at "go"
      refine n_tup (by show 2 ≤ sizeLine; decide) fun r H3 nr s3 e3 => ?_
      exact k r H3 (sa.trans s3) e3
    · intro dd v H2 e2 k
      refine g_we (g_heldY T.M_BadText fun a na => ?_)
      walk_at "go"
      refine g_ifd (fun z => nomatch z) (fun _ => ?_)
      have sa := same_new (o := held a (.ref T.C_BadText) (some dd)) na
      walk_at "go"
      refine g_isX upd_same (sa _ _ e2) T.I_BadText (.own _) T.O_BadText_BadCharset ?_
      walk_at "go"
      refine g_isX upd_same (sa _ _ e2) T.I_BadText (.own _) T.O_BadText_BadText ?_
      walk_at "go"
      refine ⟨a, T.C_BadText, dd, _, v, rfl, upd_same, sa _ _ e2, rfl, T.X_BadText, T.N_BadText, ?_⟩
      walk_at "go"
      refine n_tup (by show 2 ≤ sizeLine; decide) fun r H3 nr s3 e3 => ?_
      exact k r H3 (sa.trans s3) e3
    · intro dd v H2 e2 k
      refine g_we (g_heldY T.M_BadCode fun a na => ?_)
      walk_at "go"
      refine g_ifd (fun z => nomatch z) (fun _ => ?_)
      have sa := same_new (o := held a (.ref T.C_BadCode) (some dd)) na
      walk_at "go"
      refine g_isX upd_same (sa _ _ e2) T.I_BadCode (.own _) T.O_BadCode_BadCharset ?_
      walk_at "go"
      refine g_isX upd_same (sa _ _ e2) T.I_BadCode (.own _) T.O_BadCode_BadText ?_
      walk_at "go"
      refine g_isX upd_same (sa _ _ e2) T.I_BadCode (.own _) T.O_BadCode_BadCode ?_
      walk_at "go"
      refine ⟨a, T.C_BadCode, dd, _, v, rfl, upd_same, sa _ _ e2, rfl, T.X_BadCode, T.N_BadCode, ?_⟩
      walk_at "go"
      refine n_tup (by show 2 ≤ sizeLine; decide) fun r H3 nr s3 e3 => ?_
      exact k r H3 (sa.trans s3) e3
    · intro dd v H2 e2 k
      refine g_we (g_heldY T.M_BadOctet fun a na => ?_)
      walk_at "go"
      refine g_ifd (fun z => nomatch z) (fun _ => ?_)
      have sa := same_new (o := held a (.ref T.C_BadOctet) (some dd)) na
      walk_at "go"
      refine g_isX upd_same (sa _ _ e2) T.I_BadOctet (.own _) T.O_BadOctet_BadCharset ?_
      walk_at "go"
      refine g_isX upd_same (sa _ _ e2) T.I_BadOctet (.own _) T.O_BadOctet_BadText ?_
      walk_at "go"
      refine g_isX upd_same (sa _ _ e2) T.I_BadOctet (.own _) T.O_BadOctet_BadCode ?_
      walk_at "go"
      refine ⟨a, T.C_BadOctet, dd, _, v, rfl, upd_same, sa _ _ e2, rfl, T.X_BadOctet, T.N_BadOctet, ?_⟩
      walk_at "go"
      refine n_tup (by show 2 ≤ sizeLine; decide) fun r H3 nr s3 e3 => ?_
      exact k r H3 (sa.trans s3) e3
  · intro v H2 k
    walk_at "go"
    refine n_lst (by show 1 ≤ sizeLine; decide) fun r H3 nr s3 e3 => ?_
    walk_at "go"
    refine g_ifd (fun _ => ?_) (fun z => absurd rfl z)
    walk_at "go"
    exact k r H3 nr s3 e3
end
section
variable {w : World} {K : PySem.W.Frag} {mg : Str → Option Value} {base : Heap}
-- number
-- number
theorem ok__law_is_code (T : Txt K mg) : FnOk P w K mg base CX0 1 T.f__law_is_code T.fd__law_is_code ["number"] (Cs.spLIs) := by
  refine T.F__law_is_code.ok sc__law_is_code (fun vs H Q E h => ?_) (fun cdv A outer s H vs Q E hr h => ?_)
  · rcases h with ⟨c, rfl, _⟩ <;> rfl
  · have hu := hu_of hr
    refine ⟨_, (pss_one (ps_ret (pe_or (pe_and (pe_chain op_le op_le pe_int (pv 0) pe_int) (pe_one (pe_cmpR op_ne (pv 0) pe_int (nomark _)))) (pe_one (pe_chain op_le op_le pe_int (pv 0) pe_int))))), ?_⟩
    obtain ⟨c, rfl, q⟩ := h
    walk_at "go"
    refine g_if (fun h1 => ?_) (fun h1 => ?_)
    · have h1 := of_decide_eq_true h1
      walk_at "go"
      refine g_ifd (fun h2 => ?_) (fun h2 => ?_)
      · walk_at "go"
        refine g_ifn (fun h3 => ?_) (fun h3 => ?_)
        · walk_at "go"
          rw [show Cd.isC c = true from Cd.isC_iff.mpr (.inl ⟨by omega, by omega, fun z => h3 (by rw [z]; rfl)⟩)] at q
          exact q
        · have h3 := V.int.inj h3
          walk_at "go"
          refine g_ifd (fun h4 => ?_) (fun h4 => ?_)
          · walk_at "go"
            rw [show Cd.isC c = decide ((c : Int) ≤ 65535) by rw [Bool.eq_iff_iff, Cd.isC_iff, decide_eq_true_eq]; omega] at q
            exact q
          · walk_at "go"
            rw [show Cd.isC c = false from Bool.eq_false_iff.mpr (fun z => by have := Cd.isC_iff.mp z; omega)] at q
            exact q
      · refine ⟨_, rfl, ?_⟩
        walk_at "go"
        refine g_ifd (fun h4 => ?_) (fun h4 => ?_)
        · walk_at "go"
          rw [show Cd.isC c = decide ((c : Int) ≤ 65535) by rw [Bool.eq_iff_iff, Cd.isC_iff, decide_eq_true_eq]; omega] at q
          exact q
        · walk_at "go"
          rw [show Cd.isC c = false from Bool.eq_false_iff.mpr (fun z => by have := Cd.isC_iff.mp z; omega)] at q
          exact q
    · have h1 := of_decide_eq_false h1
      refine ⟨_, rfl, ?_⟩
      walk_at "go"
      refine g_ifd (fun h4 => ?_) (fun h4 => ?_)
      · walk_at "go"
        rw [show Cd.isC c = decide ((c : Int) ≤ 65535) by rw [Bool.eq_iff_iff, Cd.isC_iff, decide_eq_true_eq]; omega] at q
        exact q
      · walk_at "go"
        rw [show Cd.isC c = false from Bool.eq_false_iff.mpr (fun z => by have := Cd.isC_iff.mp z; omega)] at q
        exact q
-- kind numbers found k number
-- kind numbers found k number
theorem ok__law_octets_for (T : Txt K mg) : FnOk P w K mg base CX0 1 T.f__law_octets_for T.fd__law_octets_for ["kind", "numbers"] (Cs.spLOct) := by
  refine T.F__law_octets_for.ok sc__law_octets_for (fun vs H Q E h => ?_) (fun cdv A outer s H vs Q E hr h => ?_)
  · rcases h with ⟨k, a, cs, rfl, _⟩ <;> rfl
  · have hu := hu_of hr
    refine ⟨_, (pss_cons (ps_set (i := 2) sc__law_octets_for.nd rfl (Or.inl rfl) (pe_lst pa_nil)) (pss_cons (ps_for PassesOwn.never (by rfl) (pi_enum (by rfl) T.m_enumerate (pa_cons (pv 1) pa_nil)) (pg_tup (by rfl) (pgs_cons (pg_name (i := 3) sc__law_octets_for.nd rfl (Or.inl rfl)) (pgs_cons (pg_name (i := 4) sc__law_octets_for.nd rfl (Or.inl rfl)) pgs_nil))) (pss_cons (ps_if (PW.pt (pw_and (pt_cmpR op_eq (pv 0) pe_str (nomark _)) (pw_and1 (pt_cmpR op_gt (pv 4) pe_int (nomark _))))) (pss_one (ps_ret (pv 3))) pss_nil) (pss_cons (ps_if (pt_cmpR op_eq (pv 0) pe_str (nomark _)) (pss_one (ps_set (i := 2) sc__law_octets_for.nd rfl (Or.inl rfl) (pe_op op_catS (pv 2) (pe_lst (pa_cons (pe_op op_fdiv (pv 4) pe_int) pa_nil))))) pss_nil) (pss_cons (ps_if (pt_cmpR op_eq (pv 0) pe_str (nomark _)) (pss_one (ps_while PassesOwn.never (pt_cmpR op_gt (pv 4) pe_int (nomark _)) (pss_cons (ps_set (i := 2) sc__law_octets_for.nd rfl (Or.inl rfl) (pe_op op_catS (pv 2) (pe_lst (pa_cons (pe_op op_add pe_int (pe_op op_mod (pv 4) pe_int)) pa_nil)))) (pss_one (ps_set (i := 4) sc__law_octets_for.nd rfl (Or.inl rfl) (pe_op op_fdiv (pv 4) pe_int)))))) pss_nil) (pss_one (ps_expr (pe_bm PySem.F.plainAttrs_list PySem.F.slot_list_append PySem.F.type_list_append mt_append (pv 2) (pa_cons (pe_op op_mod (pv 4) pe_int) pa_nil)))))))) (pss_one (ps_ret (pv 2))))), ?_⟩
    obtain ⟨k, a, cs, rfl, ha, hc, hl, h⟩ := h
    walk_at "go"
    refine n_lst (Nat.zero_le _) fun f0 H0 nf0 s0 e0 => ?_
    walk_at "go"
    refine ⟨a, cs.map Tx.iv, rfl, SqL.of (s0 _ _ ha), for_enL (K := K) (a := a) (xs := cs.map Tx.iv) (fun i σ H1 => (k = .latin → ∀ j c, j < i → cs[j]? = some c → c ≤ 255) ∧ ∃ f y z, σ = [some (.str k.name), some (.ref a), some (.ref f), y, z] ∧ Same H H1 ∧ H f = none ∧ H1 f = some (.lst (((cs.take i).map (Cd.rowOf k)).flatten.map Tx.iv))) ⟨fun _ j c hj => absurd hj (Nat.not_lt_zero _), f0, none, none, rfl, s0, nf0, e0⟩ (fun i σ H1 _ p => by obtain ⟨_, f, y, z, _, s1, _⟩ := p; exact SqL.of (s1 _ _ ha)) ?_ ?_⟩
    · rintro i x T2 σ H1 H2 hx ⟨hb, f, y, z, rfl, s1, nf, e1⟩ nT s2 eT
      obtain ⟨c, ec, rfl⟩ : ∃ c, cs[i]? = some c ∧ x = Tx.iv c := by
        rw [List.getElem?_map] at hx
        cases e : cs[i]? with
        | none => rw [e] at hx; cases hx
        | some c => rw [e] at hx; exact ⟨c, rfl, (Option.some.inj hx).symm⟩
      have S2 := s1.trans s2
      have e2 := s2 _ _ e1
      have cC := hc c (List.mem_of_getElem? ec)
      have il : i < cs.length := (List.getElem?_eq_some_iff.mp ec).1
      have lsum : (((cs.take i).map (Cd.rowOf k)).flatten).length ≤ 3 * cs.length := Cd.flat_len cs i
      have fin : ∀ r : List Nat, Cd.rowOf k c = r → ((cs.take (i + 1)).map (Cd.rowOf k)).flatten = ((cs.take i).map (Cd.rowOf k)).flatten ++ r := fun r er => by
        rw [List.take_add_one, ec, List.map_append, List.flatten_append]
        congr 1
        show (Cd.rowOf k c :: []).flatten = r
        rw [List.flatten_cons, List.flatten_nil, List.append_nil, er]
      refine g_gtup (SqT.of eT) rfl ?_
      walk_at "go"
      have le90 : (((cs.take i).map (Cd.rowOf k)).flatten).length ≤ 90 := by omega
      generalize hpre : ((cs.take i).map (Cd.rowOf k)).flatten = pre at e2 fin le90 lsum
      cases k with
      | latin =>
        refine g_ifd (fun _ => ?_) (fun z => absurd (Cd.latin_ok.mpr rfl) z)
        walk_at "go"
        refine g_ifd (fun h3 => ?_) (fun h3 => ?_)
        · have h3 : 255 < c := by
            have : (c : Int) > 255 := h3
            omega
          walk_at "go"
          rcases h with ⟨i2, _, ⟨hm, c2, hc2, hw⟩, q⟩ | ⟨hk, q⟩
          · have ii : i2 = i := by
              rcases Nat.lt_trichotomy i2 i with l | l | l
              · have := hb rfl i2 c2 l hc2
                omega
              · exact l
              · have := hm i c l ec
                omega
            subst ii
            exact q H2 S2
          · have := (hk c (List.mem_of_getElem? ec)).2.2 rfl
            omega
        · have h3 : c ≤ 255 := by
            have : ¬ (c : Int) > 255 := h3
            omega
          walk_at "go"
          refine g_ifd (fun z => nomatch (Cd.wide_ok (k := .latin)).mp z) (fun _ => ?_)
          walk_at "go"
          refine g_ifd (fun z => absurd z (by decide +kernel)) (fun _ => ?_)
          walk_at "go"
          refine ⟨ty_list e2, ?_⟩
          walk_at "go"
          refine g_append e2 (Nat.lt_of_le_of_lt (show (pre.map Tx.iv).length ≤ 90 by rw [List.length_map]; exact le90) (by decide)) ?_
          walk_at "go"
          refine ⟨fun _ j d hj ed => ?_, f, _, _, rfl, S2.mut nf, nf, ?_⟩
          · rcases Nat.lt_or_ge j i with l | l
            · exact hb rfl j d l ed
            · obtain rfl : j = i := by omega
              rw [ec] at ed
              cases ed
              exact h3
          · rw [upd_same, fin [c] rfl, List.map_append]
            rw [show (c : Int) % 256 = (c : Int) by omega]
            rfl
      | wide =>
        refine g_ifd (fun z => nomatch (Cd.latin_ok (k := .wide)).mp z) (fun _ => ?_)
        walk_at "go"
        refine g_ifd (fun _ => ?_) (fun z => absurd (Cd.wide_ok.mpr rfl) z)
        walk_at "go"
        refine n_lst (by show 1 ≤ sizeLine; decide) fun p3 H3 np3 s3 e3 => ?_
        refine Pw.n_cats (SqL.of (s3 _ _ e2)) (SqL.of e3) (by rw [List.length_map]; exact Nat.le_trans (show pre.length + 1 ≤ 91 by omega) (by decide)) fun p4 H4 np4 s4 e4 => ?_
        walk_at "go"
        refine g_ifd (fun z => absurd z (by decide +kernel)) (fun _ => ?_)
        walk_at "go"
        refine ⟨ty_list e4, ?_⟩
        walk_at "go"
        refine g_append e4 (Nat.lt_of_le_of_lt (show (pre.map Tx.iv ++ [V.int ((c : Int) / 256)]).length ≤ 91 by rw [List.length_append, List.length_map]; show pre.length + 1 ≤ 91; omega) (by decide)) ?_
        walk_at "go"
        have nf4 : H p4 = none := ((S2.trans s3)).free np4
        refine ⟨(fun z => nomatch z), p4, _, _, rfl, ((S2.trans s3).trans s4).mut nf4, nf4, ?_⟩
        rw [upd_same, fin [c / 256, c % 256] rfl, List.map_append, List.append_assoc]
        rfl
      | steps =>
        refine g_ifd (fun z => nomatch (Cd.latin_ok (k := .steps)).mp z) (fun _ => ?_)
        walk_at "go"
        refine g_ifd (fun z => nomatch (Cd.wide_ok (k := .steps)).mp z) (fun _ => ?_)
        walk_at "go"
        refine g_ifd (fun _ => ?_) (fun z => absurd rfl z)
        walk_at "go"
        have c16 : c ≤ 65535 := by have := Cd.isC_iff.mp cC; omega
        refine g_while ⟨fun m σ H3 => ∃ (mid : List Nat) (d : Nat) (f3 : Addr), m = d ∧ d ≤ 65535 ∧ σ = [some (.str Cd.Kd.steps.name), some (.ref a), some (.ref f3), some (.int (i : Nat)), some (Tx.iv d)] ∧ Same H H3 ∧ H f3 = none ∧ H3 f3 = some (.lst ((pre ++ mid).map Tx.iv)) ∧ mid ++ Cd.stepsRow d = Cd.stepsRow c, ⟨c, [], c, f, rfl, c16, rfl, S2, nf, by rw [List.append_nil]; exact e2, rfl⟩, ?_⟩
        rintro m σ H3 ⟨mid, d, f3, rfl, hd, rfl, s3, nf3, e3, er⟩
        have lmid : mid.length ≤ 3 := by
          have := Cd.steps_len c
          rw [← er, List.length_append] at this
          omega
        have l93 : (pre ++ mid).length ≤ 93 := by rw [List.length_append]; omega
        walk_at "go"
        refine g_ifd (fun h5 => ?_) (fun h5 => ?_)
        · have h5 : 127 < m := by
            have : (m : Int) > 127 := h5
            omega
          refine ⟨fun σ' H' => ∃ f4, σ' = [some (.str Cd.Kd.steps.name), some (.ref a), some (.ref f4), some (.int (i : Nat)), some (Tx.iv (m / 128))] ∧ Same H H' ∧ H f4 = none ∧ H' f4 = some (.lst ((pre ++ (mid ++ [m % 128 + 128])).map Tx.iv)), ?_, ?_⟩
          · rintro σ' H' ⟨f4, rfl, s4, n4, e4⟩
            exact ⟨m / 128, by omega, mid ++ [m % 128 + 128], m / 128, f4, rfl, by omega, rfl, s4, n4, e4, by rw [← er, Cd.steps_big h5 hd, List.append_assoc]; rfl⟩
          · walk_at "go"
            refine n_lst (by show 1 ≤ sizeLine; decide) fun p4 H4 np4 s4 e4 => ?_
            refine Pw.n_cats (SqL.of (s4 _ _ e3)) (SqL.of e4) (by rw [List.length_map]; exact Nat.le_trans (show (pre ++ mid).length + 1 ≤ 94 by omega) (by decide)) fun p5 H5 np5 s5 e5 => ?_
            walk_at "go"
            refine ⟨p5, rfl, (s3.trans s4).trans s5, (s3.trans s4).free np5, ?_⟩
            rw [e5, ← List.append_assoc, List.map_append (l₂ := [m % 128 + 128]), show (128 : Int) + (m : Int) % 128 = ((m % 128 + 128 : Nat) : Int) by omega]
            rfl
        · have h5 : m ≤ 127 := by
            have : ¬ (m : Int) > 127 := h5
            omega
          walk_at "go"
          refine ⟨ty_list e3, ?_⟩
          walk_at "go"
          refine g_append e3 (Nat.lt_of_le_of_lt (show ((pre ++ mid).map Tx.iv).length ≤ 93 by rw [List.length_map]; exact l93) (by decide)) ?_
          walk_at "go"
          rw [Cd.steps_small h5] at er
          refine ⟨(fun z => nomatch z), f3, _, _, rfl, s3.mut nf3, nf3, ?_⟩
          rw [upd_same, fin (mid ++ [m]) er.symm, ← List.append_assoc, List.map_append (l₂ := [m])]
          rw [show (m : Int) % 256 = (m : Int) by omega]
          rfl
    · rintro σ H1 ⟨hb, f, y, z, rfl, s1, nf, e1⟩
      rw [List.length_map, List.take_of_length_le (Nat.le_refl _)] at e1
      walk_at "go"
      rcases h with ⟨i, rfl, ⟨_, c, hc1, hc2⟩, q⟩ | ⟨hk, q⟩
      · rw [List.length_map] at hb
        have := hb rfl i c (List.getElem?_eq_some_iff.mp hc1).1 hc1
        omega
      · exact q H1 f s1 nf e1
-- kind row found last octet k
-- kind row found last octet k
theorem ok__law_rows (T : Txt K mg) : FnOk P w K mg base CX0 1 T.f__law_rows T.fd__law_rows ["kind", "row"] (Cs.spLRows) := by
  refine T.F__law_rows.ok sc__law_rows (fun vs H Q E h => ?_) (fun cdv A outer s H vs Q E hr h => ?_)
  · rcases h with ⟨k, a, os, rfl, _⟩ <;> rfl
  · have hu := hu_of hr
    refine ⟨_, (pss_cons (ps_if (pt_cmpR op_eq (pv 0) pe_str (nomark _)) (pss_one (ps_ret (pe_lc (own := [("octet", 4)]) (g := gName 4) (tt := tYes) (by rfl) sc__law_rows.nd (pi_list (pv 1)) (blkOk_by (own := [("octet", 4)]) (N := sN__law_rows) (sc := defScope s__law_rows) (by decide +kernel)) (fun _ _ _ _ _ => (pg_name (i := 4) sc__law_rows.nd rfl (Or.inl rfl))) (fun _ _ _ _ _ => pts_nil) (fun _ _ _ _ _ => (pe_lst (pa_cons (pv 4) pa_nil)))))) pss_nil) (pss_cons (ps_if (pt_cmpR op_eq (pv 0) pe_str (nomark _)) (pss_one (ps_ret (pe_lc (own := [("k", 5)]) (g := gName 5) (tt := tYes) (by rfl) sc__law_rows.nd (pi_range3 (by rfl) T.m_range (pa_cons pe_int (pa_cons (pe_callB call_len1 (by rfl) T.m_len PySem.boot_len (pa_cons (pv 1) pa_nil)) (pa_cons pe_int pa_nil)))) (blkOk_by (own := [("k", 5)]) (N := sN__law_rows) (sc := defScope s__law_rows) (by decide +kernel)) (fun _ _ _ _ _ => (pg_name (i := 5) sc__law_rows.nd rfl (Or.inl rfl))) (fun _ _ _ _ _ => pts_nil) (fun _ _ _ _ _ => (pe_slice (sl_listKK (K := K) rfl) (pv 1) (po_some (pv 5)) (po_some (pe_op op_add (pv 5) pe_int))))))) pss_nil) (pss_cons (ps_par (i := 2) (j := 3) (by rfl) sc__law_rows.nd rfl rfl (by decide) rfl rfl (pa_cons (pe_lst pa_nil) (pa_cons (pe_lst pa_nil) pa_nil)) (by rfl)) (pss_cons (ps_for PassesOwn.never (by rfl) (pi_list (pv 1)) (pg_name (i := 4) sc__law_rows.nd rfl (Or.inl rfl)) (pss_cons (ps_set (i := 3) sc__law_rows.nd rfl (Or.inl rfl) (pe_op op_catS (pv 3) (pe_lst (pa_cons (pv 4) pa_nil)))) (pss_one (ps_if (PW.pt (pw_or (pt_cmpR op_lt (pv 4) pe_int (nomark _)) (pw_or1 (pt_cmpR op_eq (pe_callB call_len1 (by rfl) T.m_len PySem.boot_len (pa_cons (pv 3) pa_nil)) pe_int (nomark _))))) (pss_one (ps_par (i := 2) (j := 3) (by rfl) sc__law_rows.nd rfl rfl (by decide) rfl rfl (pa_cons (pe_op op_catS (pv 2) (pe_lst (pa_cons (pv 3) pa_nil))) (pa_cons (pe_lst pa_nil) pa_nil)) (by rfl))) pss_nil)))) (pss_one (ps_ret (pe_op op_catS (pv 2) (pe_op op_rep (pe_lst (pa_cons (pv 3) pa_nil)) (pe_callTy call_intB (by rfl) T.m_int (by decide +kernel) (pa_cons (pe_cmpR (op_neD hr.units) (pv 3) (pe_lst pa_nil) (nomark _)) pa_nil)))))))))), ?_⟩
    obtain ⟨k, a, os, rfl, ha, hl, q⟩ := h
    walk_at "go"
    refine g_ifd (fun h1 => ?_) (fun h1 => ?_)
    · obtain rfl := Cd.latin_ok.mp h1
      walk_at "go"
      rw [Cs.rows_latin] at q
      refine ⟨a, rfl, ⟨_, SqL.of ha⟩, fun D hD => lc_mkL (K := K) (xs := os.map Tx.iv) (fun i r H => r ≠ D ∧ ∃ o, os[i]? = some o ∧ H r = some (.lst [Tx.iv o])) (fun i r H H' l h e kp => ⟨h.1, h.2.imp fun o h2 => ⟨h2.1, kp _ _ h.1 h2.2⟩⟩) (SqL.of ha) hD (by rw [List.length_map]; omega) (fun i x H3 N hx s3 nd kk => ?_) fun H3 ps s3 e3 l3 h3 => ?_⟩
      · obtain ⟨o, eo, rfl⟩ : ∃ o, os[i]? = some o ∧ x = Tx.iv o := by
          rw [List.getElem?_map] at hx
          cases e : os[i]? with
          | none => rw [e] at hx; cases hx
          | some c => rw [e] at hx; exact ⟨c, rfl, (Option.some.inj hx).symm⟩
        walk_at "go"
        refine ⟨rfl, ?_⟩
        walk_at "go"
        refine n_lst (by show 1 ≤ sizeLine; decide) fun r H4 nr s4 e4 => ?_
        exact kk H4 r s4 ⟨fun z => nd (by rw [← z]; exact nr), o, eo, e4⟩
      · walk_at "go"
        refine q H3 D ps s3 hD e3 (Tx.paired_ix (by rw [l3, List.length_map, List.length_map]) fun i r row hr hrow => ?_)
        obtain ⟨_, o, eo, er⟩ := h3 i r hr
        rw [List.getElem?_map, eo] at hrow
        cases hrow
        exact er
    · walk_at "go"
      refine g_ifd (fun h2 => ?_) (fun h2 => ?_)
      · obtain rfl := Cd.wide_ok.mp h2
        walk_at "go"
        rw [Cs.rows_wide] at q
        refine g_len (SqL.of ha) ?_
        rw [List.length_map]
        walk_at "go"
        refine ⟨0, (os.length : Int), 2, (os.length + 1) / 2, rfl, Cs.rg2 (by omega), fun D hD => lc_mkC (fun i r H => r ≠ D ∧ H r = some (.lst (((os.drop (2 * i)).take 2).map Tx.iv))) (fun i r H H' l h e kp => ⟨h.1, kp _ _ h.1 h.2⟩) hD (by omega) (fun i H3 N hi s3 nd kk => ?_) fun H3 ps s3 e3 l3 h3 => ?_⟩
        · walk_at "go"
          refine ⟨rfl, ?_⟩
          walk_at "go"
          refine Pw.n_sll (SqL.of (s3 _ _ ha)) fun r H4 nr s4 e4 => ?_
          refine kk H4 r s4 ⟨fun z => nd (by rw [← z]; exact nr), ?_⟩
          rw [e4, show (0 : Int) + (i : Int) * 2 = ((2 * i : Nat) : Int) by omega, show ((2 * i : Nat) : Int) + 2 = ((2 * i + 2 : Nat) : Int) by omega, cut_nat, show 2 * i + 2 - 2 * i = 2 by omega, ← List.map_drop, ← List.map_take]
        · walk_at "go"
          refine q H3 D ps s3 hD e3 (Tx.paired_ix (by rw [l3, Cs.two_len]) fun i r row hr hrow => ?_)
          have il : i < (os.length + 1) / 2 := by rw [← l3]; exact (List.getElem?_eq_some_iff.mp hr).1
          rw [Cs.two_at os i il] at hrow
          cases hrow
          exact (h3 i r hr).2
      · obtain rfl : k = .steps := Cd.steps_of h1 h2
        walk_at "go"
        refine n_lst (Nat.zero_le _) fun f0 H0 nf0 s0 e0 => ?_
        walk_at "go"
        refine n_lst (Nat.zero_le _) fun l0 H00 nl0 s00 e00 => ?_
        walk_at "go"
        have S0 := s0.trans s00
        refine ⟨a, rfl, ⟨_, SqL.of (S0 _ _ ha)⟩, for_list (K := K) (a := a) (xs := os.map Tx.iv) (fun i σ H1 => ∃ (f l : Addr) (y : Option V) (ps : List Addr), σ = [some (.str Cd.Kd.steps.name), some (.ref a), some (.ref f), some (.ref l), y, none] ∧ Same H H1 ∧ H f = none ∧ H1 f = some (.lst (ps.map V.ref)) ∧ H1 l = some (.lst (((os.take i).foldl (Cd.rstep .steps) ([], [])).2.map Tx.iv)) ∧ Tx.LRows H1 ps ((os.take i).foldl (Cd.rstep .steps) ([], [])).1) ⟨f0, l0, none, [], rfl, S0, nf0, s00 _ _ e0, e00, .nil⟩ (fun i σ H1 _ p => by obtain ⟨f, l, y, ps, _, s1, _⟩ := p; exact SqL.of (s1 _ _ ha)) ?_ ?_⟩
        · rintro i x σ H1 hx ⟨f, l, y, ps, rfl, s1, nf, e1, e2, pr⟩
          obtain ⟨c, ec, rfl⟩ : ∃ c, os[i]? = some c ∧ x = Tx.iv c := by
            rw [List.getElem?_map] at hx
            cases e : os[i]? with
            | none => rw [e] at hx; cases hx
            | some c => rw [e] at hx; exact ⟨c, rfl, (Option.some.inj hx).symm⟩
          have kp := Cd.Kept.at (k := .steps) os i
          have lp : ps.length = _ := pr.length
          have er : (os.take (i + 1)).foldl (Cd.rstep .steps) ([], []) = Cd.rstep .steps ((os.take i).foldl (Cd.rstep .steps) ([], [])) c := by rw [List.take_add_one, ec, List.foldl_append]; rfl
          rw [er]
          generalize (os.take i).foldl (Cd.rstep .steps) ([], []) = st at *
          have il : i < os.length := (List.getElem?_eq_some_iff.mp ec).1
          have few := kp.few
          have many := kp.many
          have mx := Cd.mx_le .steps
          walk_at "go"
          refine n_lst (by show 1 ≤ sizeLine; decide) fun p4 H4 np4 s4 e4 => ?_
          refine Pw.n_cats (SqL.of (s4 _ _ e2)) (SqL.of e4) (by rw [List.length_map]; exact Nat.le_trans (show st.2.length + 1 ≤ 100 by omega) (by decide)) fun p5 H5 np5 s5 e5 => ?_
          replace e5 : H5 p5 = some (.lst ((st.2 ++ [c]).map Tx.iv)) := by rw [e5, List.map_append]; rfl
          have S5 := (s1.trans s4).trans s5
          have e25 := s5 _ _ (s4 _ _ e1)
          have wh := Cd.whole_steps (rs := st.2 ++ [c]) (by simp)
          rw [show (st.2 ++ [c]).getD ((st.2 ++ [c]).length - 1) 0 = c by simp] at wh
          walk_at "go"
          unfold Cd.rstep
          refine g_ifd (fun h4 => ?_) (fun h4 => ?_)
          · have h4 : c < 128 := by
              have : (c : Int) < 128 := h4
              omega
            rw [decide_eq_true h4, Bool.true_or] at wh
            rw [if_pos wh]
            walk_at "go"
            refine n_lst (by show 1 ≤ sizeLine; decide) fun p7 H7 np7 s7 e7 => ?_
            refine Pw.n_cats (SqL.of (s7 _ _ e25)) (SqL.of e7) (by rw [List.length_map]; exact Nat.le_trans (show ps.length + 1 ≤ 100 by omega) (by decide)) fun p8 H8 np8 s8 e8 => ?_
            walk_at "go"
            refine n_lst (Nat.zero_le _) fun p9 H9 np9 s9 e9 => ?_
            walk_at "go"
            have S9 := ((S5.trans s7).trans s8).trans s9
            refine ⟨p8, p9, _, ps ++ [p5], rfl, S9, (S5.trans s7).free np8, ?_, ?_, ?_⟩
            · rw [s9 _ _ e8, List.map_append]
              rfl
            · exact e9
            · exact (Paired.mapP pr fun x y h => s9 _ _ (s8 _ _ (s7 _ _ (s5 _ _ (s4 _ _ h))))).snoc (s9 _ _ (s8 _ _ (s7 _ _ e5)))
          · have h4 : ¬ c < 128 := fun z => h4 (show (c : Int) < 128 by omega)
            rw [decide_eq_false h4, Bool.false_or] at wh
            walk_at "go"
            refine g_len (SqL.of e5) ?_
            rw [List.length_map]
            walk_at "go"
            refine g_ifd (fun h6 => ?_) (fun h6 => ?_)
            · have h6 : (st.2 ++ [c]).length = 3 := by have := V.int.inj h6; omega
              rw [decide_eq_true h6] at wh
              rw [if_pos wh]
              walk_at "go"
              refine n_lst (by show 1 ≤ sizeLine; decide) fun p7 H7 np7 s7 e7 => ?_
              refine Pw.n_cats (SqL.of (s7 _ _ e25)) (SqL.of e7) (by rw [List.length_map]; exact Nat.le_trans (show ps.length + 1 ≤ 100 by omega) (by decide)) fun p8 H8 np8 s8 e8 => ?_
              walk_at "go"
              refine n_lst (Nat.zero_le _) fun p9 H9 np9 s9 e9 => ?_
              walk_at "go"
              have S9 := ((S5.trans s7).trans s8).trans s9
              refine ⟨p8, p9, _, ps ++ [p5], rfl, S9, (S5.trans s7).free np8, ?_, ?_, ?_⟩
              · rw [s9 _ _ e8, List.map_append]
                rfl
              · exact e9
              · exact (Paired.mapP pr fun x y h => s9 _ _ (s8 _ _ (s7 _ _ (s5 _ _ (s4 _ _ h))))).snoc (s9 _ _ (s8 _ _ (s7 _ _ e5)))
            · have h6 : ¬ (st.2 ++ [c]).length = 3 := fun z => h6 (by rw [z]; rfl)
              rw [decide_eq_false h6] at wh
              rw [if_neg (by rw [wh]; decide)]
              walk_at "go"
              exact ⟨f, p5, _, ps, rfl, S5, nf, e25, e5, Paired.mapP pr fun x y h => s5 _ _ (s4 _ _ h)⟩
        · rintro σ H1 ⟨f, l, y, ps, rfl, s1, nf, e1, e2, pr⟩
          rw [List.length_map, List.take_of_length_le (Nat.le_refl _)] at e2 pr
          have kp := Cd.Kept.at (k := .steps) os os.length
          rw [List.take_of_length_le (Nat.le_refl _)] at kp
          have lp : ps.length = _ := pr.length
          have many := kp.many
          walk_at "go"
          refine n_lst (by show 1 ≤ sizeLine; decide) fun p4 H4 np4 s4 e4 => ?_
          walk_at "go"
          refine n_lst (Nat.zero_le _) fun p5 H5 np5 s5 e5 => ?_
          have S5 := (s1.trans s4).trans s5
          have e15 := s5 _ _ (s4 _ _ e1)
          have e25 := s5 _ _ (s4 _ _ e2)
          refine g_ned (.lst (SqL.of e25) (Tx.dps _)) (.lst (SqL.of e5) .nil) (Cd.shaped_L _) (Cd.shaped_L []) ?_
          rw [Cd.eqv_lnil]
          walk_at "go"
          refine g_intB ?_
          by_cases h6 : (os.foldl (Cd.rstep .steps) ([], [])).2 = []
          · rw [Cd.rows_nil h6] at q
            rw [decide_eq_true h6]
            refine n_rep (s5 _ _ e4) (by decide) (by decide) (by show 1 * 0 ≤ sizeLine; decide) fun p6 H6 np6 s6 e6 => ?_
            refine Pw.n_cats (SqL.of (s6 _ _ e15)) (SqL.of e6) (by rw [List.length_map]; exact Nat.le_trans (show ps.length + 0 ≤ 100 by omega) (by decide)) fun p7 H7 np7 s7 e7 => ?_
            refine q H7 p7 ps ((S5.trans s6).trans s7) ((S5.trans s6).free np7) ?_ (Paired.mapP pr fun x y h => s7 _ _ (s6 _ _ (s5 _ _ (s4 _ _ h))))
            rw [e7]
            show some (HO.lst (ps.map V.ref ++ [])) = _
            rw [List.append_nil]
          · rw [Cd.rows_more h6] at q
            rw [decide_eq_false h6]
            refine n_rep (s5 _ _ e4) (by decide) (by decide) (by show 1 * 1 ≤ sizeLine; decide) fun p6 H6 np6 s6 e6 => ?_
            refine Pw.n_cats (SqL.of (s6 _ _ e15)) (SqL.of e6) (by rw [List.length_map]; exact Nat.le_trans (show ps.length + 1 ≤ 100 by omega) (by decide)) fun p7 H7 np7 s7 e7 => ?_
            refine q H7 p7 (ps ++ [l]) ((S5.trans s6).trans s7) ((S5.trans s6).free np7) ?_ ((Paired.mapP pr fun x y h => s7 _ _ (s6 _ _ (s5 _ _ (s4 _ _ h)))).snoc (s7 _ _ (s6 _ _ e25)))
            rw [e7, List.map_append]
            rfl
-- kind group number k octet
-- kind group number k octet
theorem ok__law_number (T : Txt K mg) : FnOk P w K mg base CX0 2 T.f__law_number T.fd__law_number ["kind", "group"] (Cs.spLNum) := by
  refine T.F__law_number.ok sc__law_number (fun vs H Q E h => ?_) (fun cdv A outer s H vs Q E hr h => ?_)
  · rcases h with ⟨k, p, gs, rfl, _⟩ <;> rfl
  · have hu := hu_of hr
    refine ⟨_, (pss_cons (ps_if (pt_cmpR op_eq (pv 0) pe_str (nomark _)) (pss_one (ps_set (i := 2) sc__law_number.nd rfl (Or.inl rfl) (pe_ix (ix_listKK (K := K) rfl) (pv 1) pe_int (fun _ _ => rfl)))) (pss_one (ps_if (pt_cmpR op_eq (pv 0) pe_str (nomark _)) (pss_one (ps_set (i := 2) sc__law_number.nd rfl (Or.inl rfl) (pe_ifExp (pt_cmpR op_eq (pe_callB call_len1 (by rfl) T.m_len PySem.boot_len (pa_cons (pv 1) pa_nil)) pe_int (nomark _)) (pe_op op_add (pe_op op_mul pe_int (pe_ix (ix_listKK (K := K) rfl) (pv 1) pe_int (fun _ _ => rfl))) (pe_ix (ix_listKK (K := K) rfl) (pv 1) pe_int (fun _ _ => rfl))) pe_int))) (pss_cons (ps_set (i := 2) sc__law_number.nd rfl (Or.inl rfl) (pe_callB (cr_sum (by rfl)) (by rfl) T.m_sum (by decide +kernel) (pa_cons (pe_lc (own := [("k", 3), ("octet", 4)]) (tt := tYes) (by rfl) sc__law_number.nd (pi_enum (by rfl) T.m_enumerate (pa_cons (pv 1) pa_nil)) (blkOk_by (own := [("k", 3), ("octet", 4)]) (N := sN__law_number) (sc := defScope s__law_number) (by decide +kernel)) (fun _ _ _ _ _ => (pg_tupK (K := K) (n := 2) rfl (by rfl) (pgs_cons (pg_name (i := 3) sc__law_number.nd rfl (Or.inl rfl)) (pgs_cons (pg_name (i := 4) sc__law_number.nd rfl (Or.inl rfl)) pgs_nil)))) (fun _ _ _ _ _ => pts_nil) (fun _ _ _ _ _ => (pe_op op_mul (pe_op op_mod (pv 4) pe_int) (pe_ix (ix_listKK (K := K) rfl) (pe_lst (pa_cons pe_int (pa_cons pe_int (pa_cons pe_int pa_nil)))) (pv 3) (fun _ _ => rfl))))) pa_nil))) (pss_one (ps_if (PW.pt (pw_or (pt_cmpR op_gt (pe_ix (ix_listKK (K := K) rfl) (pv 1) (pe_un un_neg pe_int) (fun _ _ => rfl)) pe_int (nomark _)) (pw_or1 (PW.pt (pw_and (pt_cmpR op_eq (pe_ix (ix_listKK (K := K) rfl) (pv 1) (pe_un un_neg pe_int) (fun _ _ => rfl)) pe_int (nomark _)) (pw_and1 (pt_cmpR op_gt (pe_callB call_len1 (by rfl) T.m_len PySem.boot_len (pa_cons (pv 1) pa_nil)) pe_int (nomark _)))))))) (pss_one (ps_set (i := 2) sc__law_number.nd rfl (Or.inl rfl) pe_int)) pss_nil)))))) (pss_one (ps_ret (pe_ifExp (pt_val (pe_call (ok__law_is_code T) (hr.mono (by decide)) (by rfl) T.g__law_is_code T.F__law_is_code.kp T.b__law_is_code .nil pass0 (pa_cons (pv 2) pa_nil))) (pv 2) pe_int)))), ?_⟩
    obtain ⟨k, p, gs, rfl, hp, ne, h3, ho, q⟩ := h
    walk_at "go"
    refine g_ifd (fun h1 => ?_) (fun h1 => ?_)
    · obtain rfl := Cd.latin_ok.mp h1
      walk_at "go"
      refine g_ixl (SqL.of hp) (Cd.first_iv ne) ?_
      walk_at "go"
      have e : Cs.numOf .latin gs = if Cd.isC (gs.getD 0 0) = true then gs.getD 0 0 else 0 := rfl
      refine ⟨gs.getD 0 0, rfl, ?_⟩
      walk_at "go"
      refine g_if (fun w => ?_) (fun w => ?_)
      · rw [e, if_pos w] at q
        walk_at "go"
        exact q _ (Same.refl _)
      · rw [e, if_neg (by rw [w]; decide)] at q
        walk_at "go"
        exact q _ (Same.refl _)
    · walk_at "go"
      refine g_ifd (fun h2 => ?_) (fun h2 => ?_)
      · obtain rfl := Cd.wide_ok.mp h2
        walk_at "go"
        refine g_len (SqL.of hp) ?_
        walk_at "go"
        refine g_ifd (fun h4 => ?_) (fun h4 => ?_)
        · have l2 : gs.length = 2 := by
            have := V.int.inj h4
            rw [List.length_map] at this
            omega
          obtain ⟨a, b, rfl⟩ := Cd.two l2
          have ha := ho a (by simp)
          have hb := ho b (by simp)
          walk_at "go"
          refine g_ixl (SqL.of hp) (v := Tx.iv a) (atI_nat (j := 0) rfl) ?_
          walk_at "go"
          refine g_ixl (SqL.of hp) (v := Tx.iv b) (atI_nat (j := 1) rfl) ?_
          walk_at "go"
          rw [show (256 : Int) * (a : Int) + (b : Int) = ((a * 256 + b : Nat) : Int) by omega]
          have e : Cs.numOf .wide [a, b] = if Cd.isC (a * 256 + b) = true then a * 256 + b else 0 := rfl
          refine ⟨a * 256 + b, rfl, ?_⟩
          walk_at "go"
          refine g_if (fun w => ?_) (fun w => ?_)
          · rw [e, if_pos w] at q
            walk_at "go"
            exact q _ (Same.refl _)
          · rw [e, if_neg (by rw [w]; decide)] at q
            walk_at "go"
            exact q _ (Same.refl _)
        · have l2 : ¬ gs.length = 2 := fun e => h4 (by rw [List.length_map, e]; rfl)
          walk_at "go"
          have cn : Cd.codeOf .wide gs = none := if_neg l2
          have e : Cs.numOf .wide gs = if Cd.isC 0 = true then 0 else 0 := by
            rw [Cs.isC0, if_neg Bool.false_ne_true]
            unfold Cs.numOf
            rw [cn]
          refine ⟨0, rfl, ?_⟩
          walk_at "go"
          refine g_if (fun w => ?_) (fun w => ?_)
          · rw [e, if_pos w] at q
            walk_at "go"
            exact q _ (Same.refl _)
          · rw [e, if_neg (by rw [w]; decide)] at q
            walk_at "go"
            exact q _ (Same.refl _)
      · obtain rfl : k = .steps := Cd.steps_of h1 h2
        walk_at "go"
        refine ⟨p, gs.map Tx.iv, rfl, SqL.of hp, fun D hD => lc_pureE (K := K) (xs := gs.map Tx.iv) (fun i => V.int (((gs.getD i 0 : Nat) : Int) % 128 * Cs.ten i)) (SqL.of hp) hD (by rw [List.length_map]; omega) (fun i x T5 H5 N hx s5 eT kk => ?_) fun H5 s5 e5 => ?_⟩
        · obtain ⟨o, eo, rfl⟩ : ∃ o, gs[i]? = some o ∧ x = Tx.iv o := by
            rw [List.getElem?_map] at hx
            cases e : gs[i]? with
            | none => rw [e] at hx; cases hx
            | some c => rw [e] at hx; exact ⟨c, rfl, (Option.some.inj hx).symm⟩
          have eg : gs.getD i 0 = o := by rw [List.getD_eq_getElem?_getD, eo]; rfl
          rw [eg] at kk
          have ob := ho o (List.mem_of_getElem? eo)
          have i3 : i < 3 := Nat.lt_of_lt_of_le (List.getElem?_eq_some_iff.mp eo).1 h3
          refine g_gtup (SqT.of eT) rfl ?_
          walk_at "go"
          refine ⟨rfl, ?_⟩
          walk_at "go"
          refine n_lst (by show 3 ≤ sizeLine; decide) fun p6 H6 np6 s6 e6 => ?_
          walk_at "go"
          rcases (show i = 0 ∨ i = 1 ∨ i = 2 by omega) with rfl | rfl | rfl
          · refine g_ixl (SqL.of e6) (v := .int 1) (atI_nat (j := 0) rfl) ?_
            walk_at "go"
            exact kk H6 s6
          · refine g_ixl (SqL.of e6) (v := .int 128) (atI_nat (j := 1) rfl) ?_
            walk_at "go"
            exact kk H6 s6
          · refine g_ixl (SqL.of e6) (v := .int 16384) (atI_nat (j := 2) rfl) ?_
            walk_at "go"
            exact kk H6 s6
        · rw [List.length_map] at e5
          walk_at "go"
          refine g_sum (ns := (List.range gs.length).map fun i => ((gs.getD i 0 : Nat) : Int) % 128 * Cs.ten i) (SqL.of (by rw [List.map_map]; exact e5)) ?_
          rw [Cs.sum_num gs h3]
          have hp5 := s5 _ _ hp
          have hy := Cd.last_iv ne
          have e1 : gs.length = 1 → gs.getD (gs.length - 1) 0 = 0 → (gs.foldr (fun o n => n * 128 + o % 128) 0) = 0 := by
            intro l1 y0
            match gs, l1 with
            | [b], _ => obtain rfl : b = 0 := y0; rfl
          have cy := fun z => show Cd.codeOf .steps gs = none from if_pos z
          have cs := fun z => show Cd.codeOf .steps gs = some (gs.foldr (fun o n => n * 128 + o % 128) 0) from if_neg z
          generalize gs.getD (gs.length - 1) 0 = y at hy e1 cy cs
          generalize hN : gs.foldr (fun o n => n * 128 + o % 128) 0 = num at e1 cs ⊢
          walk_at "go"
          refine g_ixl (SqL.of hp5) hy ?_
          walk_at "go"
          refine g_ifd (fun h4 => ?_) (fun h4 => ?_)
          · have cn := cy (.inl (show y > 127 by have : (y : Int) > 127 := h4; omega))
            have e := show Cs.numOf .steps gs = if Cd.isC 0 = true then 0 else 0 from by rw [Cs.isC0, if_neg Bool.false_ne_true]; unfold Cs.numOf; rw [cn]
            walk_at "go"
            refine ⟨0, rfl, ?_⟩
            walk_at "go"
            refine g_if (fun w => ?_) (fun w => ?_)
            · rw [e, if_pos w] at q
              walk_at "go"
              exact q _ s5
            · rw [e, if_neg (by rw [w]; decide)] at q
              walk_at "go"
              exact q _ s5
          · walk_at "go"
            refine g_ixl (SqL.of hp5) hy ?_
            walk_at "go"
            refine g_ifd (fun h6 => ?_) (fun h6 => ?_)
            · have y0 : y = 0 := by have := V.int.inj h6; omega
              have cn := cy (.inr y0)
              have e := show Cs.numOf .steps gs = if Cd.isC 0 = true then 0 else 0 from by rw [Cs.isC0, if_neg Bool.false_ne_true]; unfold Cs.numOf; rw [cn]
              walk_at "go"
              refine g_len (SqL.of hp5) ?_
              rw [List.length_map]
              walk_at "go"
              refine g_ifd (fun h8 => ?_) (fun h8 => ?_)
              · walk_at "go"
                refine ⟨0, rfl, ?_⟩
                walk_at "go"
                refine g_if (fun w => ?_) (fun w => ?_)
                · rw [e, if_pos w] at q
                  walk_at "go"
                  exact q _ s5
                · rw [e, if_neg (by rw [w]; decide)] at q
                  walk_at "go"
                  exact q _ s5
              · have l1 : gs.length = 1 := by
                  have : ¬ (gs.length : Int) > 1 := h8
                  have := List.length_pos_iff.mpr ne
                  omega
                obtain rfl := e1 l1 y0
                walk_at "go"
                refine ⟨0, rfl, ?_⟩
                walk_at "go"
                refine g_if (fun w => ?_) (fun w => ?_)
                · rw [e, if_pos w] at q
                  walk_at "go"
                  exact q _ s5
                · rw [e, if_neg (by rw [w]; decide)] at q
                  walk_at "go"
                  exact q _ s5
            · have cn := cs (fun z => by
                rcases z with z | z
                · exact h4 (show (y : Int) > 127 by omega)
                · exact h6 (by rw [z]; rfl))
              have e : Cs.numOf .steps gs = if Cd.isC num = true then num else 0 := by
                unfold Cs.numOf
                rw [cn]
              walk_at "go"
              refine ⟨num, rfl, ?_⟩
              walk_at "go"
              refine g_if (fun w => ?_) (fun w => ?_)
              · rw [e, if_pos w] at q
                walk_at "go"
                exact q _ s5
              · rw [e, if_neg (by rw [w]; decide)] at q
                walk_at "go"
                exact q _ s5
-- kind row found group number
-- kind row found group number
theorem ok__law_decoded (T : Txt K mg) : FnOk P w K mg base CX0 3 T.f__law_decoded T.fd__law_decoded ["kind", "row"] (Cs.spLDec) := by
  refine T.F__law_decoded.ok sc__law_decoded (fun vs H Q E h => ?_) (fun cdv A outer s H vs Q E hr h => ?_)
  · rcases h with ⟨k, a, os, rfl, _⟩ <;> rfl
  · have hu := hu_of hr
    refine ⟨_, (pss_cons (ps_setLc (i := 2) (own := [("group", 3)]) (g := gName 3) (tt := tYes) (by rfl) sc__law_decoded.nd rfl rfl (sw_true rfl rfl rfl (by decide +kernel)) (pi_list (pe_call (ok__law_rows T) (hr.mono (by decide)) (by rfl) T.g__law_rows T.F__law_rows.kp T.b__law_rows .nil pass0 (pa_cons (pv 0) (pa_cons (pv 1) pa_nil)))) (blkOk_by (own := [("group", 3)]) (N := sN__law_decoded) (sc := defScope s__law_decoded) (by decide +kernel)) (fun _ _ _ _ _ => (pg_name (i := 3) sc__law_decoded.nd rfl (Or.inl rfl))) (fun _ _ _ _ _ => pts_nil) (fun _ _ _ _ _ => (pe_call (ok__law_number T) (hr.mono (by decide)) (by rfl) T.g__law_number T.F__law_number.kp T.b__law_number .nil pass0 (pa_cons (pv 0) (pa_cons (pv 3) pa_nil))))) (pss_one (ps_ret (pe_tup (pa_cons (pe_lc (own := [("number", 4)]) (g := gName 4) (tt := tYes) (by rfl) sc__law_decoded.nd (pi_list (pv 2)) (blkOk_by (own := [("number", 4)]) (N := sN__law_decoded) (sc := defScope s__law_decoded) (by decide +kernel)) (fun _ _ _ _ _ => (pg_name (i := 4) sc__law_decoded.nd rfl (Or.inl rfl))) (fun _ _ _ _ _ => pts_nil) (fun _ _ _ _ _ => (pe_ifExp (pt_cmpR op_gt (pv 4) pe_int (nomark _)) (pv 4) pe_int))) (pa_cons (pe_cmpR op_notIn_seq pe_int (pv 2) (by rfl)) pa_nil)))))), ?_⟩
    obtain ⟨k, a, os, rfl, ha, hl, ho, q⟩ := h
    walk_at "go"
    refine ⟨k, a, os, rfl, ha, hl, fun H1 p ps s1 np e1 pr => ?_⟩
    walk_at "go"
    have lp : ps.length = _ := pr.length
    have lr := Cd.rows_len (k := k) os
    refine ⟨p, rfl, ⟨_, SqL.of e1⟩, fun D hD => lc_pureLi (K := K) (xs := ps.map V.ref) (fun i => Tx.iv (Cs.numOf k ((Cd.rowsOf k os).getD i []))) (SqL.of e1) hD (by rw [List.length_map, lp]; omega) (fun i x H5 N hx s5 kk => ?_) fun H5 s5 e5 => ?_⟩
    · rw [List.getElem?_map] at hx
      obtain ⟨b, eb, rfl⟩ : ∃ b, ps[i]? = some b ∧ x = V.ref b := by
        cases e : ps[i]? with
        | none => rw [e] at hx; cases hx
        | some a => rw [e] at hx; exact ⟨a, rfl, (Option.some.inj hx).symm⟩
      obtain ⟨row, er, tr⟩ := paired_at pr eb
      have hk := Cd.rows_kept (k := k) os row (List.mem_of_getElem? er)
      have eg : (Cd.rowsOf k os).getD i [] = row := by rw [List.getD_eq_getElem?_getD, er]; rfl
      rw [eg] at kk
      walk_at "go"
      refine ⟨rfl, ?_⟩
      walk_at "go"
      exact ⟨k, b, row, rfl, s5 _ _ tr, hk.1, hk.2.1, fun o hom => ho o (hk.2.2 o hom), kk⟩
    · rw [List.length_map, lp, Cs.nums_list] at e5
      walk_at "go"
      refine ⟨D, rfl, ⟨_, SqL.of e5⟩, fun D2 hD2 => lc_pureLi (K := K) (xs := ((Cd.rowsOf k os).map (Cs.numOf k)).map Tx.iv) (fun i => Tx.iv (Cd.known (Cd.codeOf k ((Cd.rowsOf k os).getD i [])))) (SqL.of e5) hD2 (by rw [List.length_map, List.length_map]; omega) (fun i x H6 N hx s6 kk => ?_) fun H6 s6 e6 => ?_⟩
      · obtain ⟨row, er, rfl⟩ : ∃ row, (Cd.rowsOf k os)[i]? = some row ∧ x = Tx.iv (Cs.numOf k row) := by
          rw [List.getElem?_map, List.getElem?_map] at hx
          cases e : (Cd.rowsOf k os)[i]? with
          | none => rw [e] at hx; cases hx
          | some r => rw [e] at hx; exact ⟨r, rfl, (Option.some.inj hx).symm⟩
        have eg : (Cd.rowsOf k os).getD i [] = row := by rw [List.getD_eq_getElem?_getD, er]; rfl
        rw [eg, ← Cs.known_num] at kk
        walk_at "go"
        refine ⟨rfl, ?_⟩
        walk_at "go"
        refine g_ifd (fun h4 => ?_) (fun h4 => ?_)
        · rw [if_pos (show 0 < Cs.numOf k row by have : (Cs.numOf k row : Int) > 0 := h4; omega)] at kk
          walk_at "go"
          exact kk H6 (Same.refl _)
        · rw [if_neg (fun z => h4 (show (Cs.numOf k row : Int) > 0 by omega))] at kk
          walk_at "go"
          exact kk H6 (Same.refl _)
      · rw [List.length_map, List.length_map] at e6
        walk_at "go"
        refine ⟨D, _, rfl, .inl (SqL.of (s6 _ _ e5)), rfl, by rw [List.all_eq_true]; intro v hv; obtain ⟨n, _, rfl⟩ := List.mem_map.mp hv; rfl, ?_⟩
        rw [if_pos rfl, Cs.not_in_num]
        walk_at "go"
        refine n_tup (by show 2 ≤ sizeLine; decide) fun t H7 nt s7 e7 => ?_
        have e67 := s7 _ _ e6
        rw [Cs.knowns_list] at e67
        exact q H7 t D2 (((s1.trans s5).trans s6).trans s7) e7 e67
end
section
variable {w : World} {K : PySem.W.Frag} {mg : Str → Option Value} {base : Heap}
theorem kw_text_from_charset_octets (T : Txt K mg) : KwB K T.fd_text_from ["charset", "octets"] ["charset", "octets"] [0, 1] := T.F_text_from.kwb (ps := ["charset", "octets"]) (ks := ["charset", "octets"]) rfl fun _ _ _ _ _ _ us hl => match us, hl with | [_, _], _ => rfl
theorem kw_octets_for_text_charset (T : Txt K mg) : KwB K T.fd_octets_for ["charset", "text"] ["text", "charset"] [1, 0] := T.F_octets_for.kwb (ps := ["charset", "text"]) (ks := ["text", "charset"]) rfl fun _ _ _ _ _ _ us hl => match us, hl with | [_, _], _ => rfl
-- kind numbers due told found is_fine
-- kind numbers due told found is_fine
theorem ok__law_written_right (T : Txt K mg) (B : Tbs T base) : FnG P w K mg base CX0 11 T.f__law_written_right T.fd__law_written_right ["kind", "numbers"] (Cs.spWritten (tabs T)) := by
  refine T.FC__law_written_right.okG sc__law_written_right (fun vs H Q E h => ?_) (fun A hG outer s H vs Q E hr h => ?_)
  · rcases h with ⟨k, a, cs, rfl, _⟩ <;> rfl
  · have hu := hu_of hr
    refine ⟨_, (pss_cons (ps_set (i := 2) sc__law_written_right.nd rfl (Or.inl rfl) (pe_call (ok__law_octets_for T) (hr.mono (by decide)) (by rfl) T.g__law_octets_for T.F__law_octets_for.kp T.b__law_octets_for .nil pass0 (pa_cons (pv 0) (pa_cons (pv 1) pa_nil)))) (pss_cons (ps_set (i := 3) sc__law_written_right.nd rfl (Or.inl rfl) (LamD.pe_lamF (k := 8) (T := tabs T) (TT := TT__law_told T) T.F__law_told (by rfl) T.g__law_told T.b__law_told sc__law_told rfl (Or.inl rfl) (fun cdv => gives__law_told T) B._law_written_right rfl (mem__law_written_right T) (hu__law_written_right T) (hr.mono (by decide)) (LamD.lamP_by rfl) (.no rfl) rfl (LamD.bindL_no fun _ _ _ _ _ _ => rfl) (fun A outer s H E f c hr => (pe_callS (ok_octets_for T) (hr.mono (by decide)) (by rfl) T.g_octets_for T.F_octets_for.kp T.b_octets_for (fun σ => passAt (takes_of rfl rfl rfl rfl) σ) (pa_cons (pv 0) (pa_cons (ClX.pe_cmeth (pe_gc (by rfl) T.g_Text) T.cr_Text T.cm_Text_of (FnOk.raw (ok_Text_of T) T.b_Text_of .nil) (hr.mono (by decide)) (passX (takes_of rfl rfl rfl rfl)) (pa_cons (pe_callTy (call_tupK (K := K) rfl) (by rfl) T.m_tuple (by decide +kernel) (pa_cons (pv 1) pa_nil)) pa_nil)) pa_nil)))))) (pss_cons (ps_if (pt_not (pt_val (pe_callB (call_isiQ (K := K) rfl) (by rfl) T.m_isinstance (by decide +kernel) (pa_cons (pv 2) (pa_cons (pe_ty (n := "list") (by rfl) T.m_list (by decide +kernel)) pa_nil))))) (pss_one (ps_ret (pe_cmpR (op_eqD hr.units) (pv 3) (pe_tup (pa_cons pe_str (pa_cons (pv 2) pa_nil))) (nomark _)))) pss_nil) (pss_cons (ps_if (pt_cmpR (op_neD hr.units) (pv 3) (pe_lst (pa_cons (pe_callTy (call_tupK (K := K) rfl) (by rfl) T.m_tuple (by decide +kernel) (pa_cons (pv 2) pa_nil)) pa_nil)) (nomark _)) (pss_one (ps_ret pe_bl)) pss_nil) (pss_cons (ps_asg (pe_kw0 (ok_text_from T) (hr.mono (by decide)) (by rfl) T.g_text_from T.F_text_from.kp (kw_text_from_charset_octets T) passL (pk_cons (pv 0) (pk_cons (pe_callTy (call_tupK (K := K) rfl) (by rfl) T.m_tuple (by decide +kernel) (pa_cons (pv 2) pa_nil)) pk_nil))) (pg_tup (by rfl) (pgs_cons (pg_name (i := 4) sc__law_written_right.nd rfl (Or.inl rfl)) (pgs_cons (pg_name (i := 5) sc__law_written_right.nd rfl (Or.inl rfl)) pgs_nil)))) (pss_one (ps_ret (pe_and (pe_cmpR (op_eqO (FnOk.raw (ok_Text___eq__ T) T.b_Text___eq__ .nil) (hr.mono (by decide)) pass0 T.at_Text___eq__ T.if_Text___eq__) (pv 4) (ClX.pe_cmeth (pe_gc (by rfl) T.g_Text) T.cr_Text T.cm_Text_of (FnOk.raw (ok_Text_of T) T.b_Text_of .nil) (hr.mono (by decide)) passL (pa_cons (pe_callTy (call_tupK (K := K) rfl) (by rfl) T.m_tuple (by decide +kernel) (pa_cons (pv 1) pa_nil)) pa_nil)) (nomark _)) (pe_one (pe_cmpR op_isBl (pv 5) pe_bl (nomark _))))))))))), ?_⟩
    obtain ⟨k, a, cs, rfl, ha, hc, hl, T0, q⟩ := h
    walk_at "go"
    rcases Cs.kinds k hc with ⟨i, rfl, wa⟩ | hk
    · refine ⟨.latin, a, cs, rfl, ha, hc, by omega, .inl ⟨i, rfl, wa, fun H1 s1 => ?_⟩⟩
      walk_at "go"
      refine LamD.g_lam (T0.same s1) fun H2 x2 T2 => Pw.ttf (T.C_BadCode, "place", "code") (by simp) (.int (i : Nat)) (fun H3 s3 E' Q' rs => ?_) fun r4 H4 s4 e4 => ?_
      · walk_at "go"
        refine ⟨rfl, ?_⟩
        walk_at "go"
        refine n_tupL (SqL.of (s3 _ _ (x2.ap (s1 _ _ ha)))) fun t5 H5 nt5 s5 e5 => ?_
        walk_at "go"
        refine Tx.n_of e5 hc fun b H6 nb s6 B6 => ?_
        walk_at "go"
        exact .inr (.inl ⟨.latin, .ref b, rfl, .inr ⟨b, cs, i, rfl, rfl, B6, wa, Cs.rs_same rs (s5.trans s6)⟩⟩)
      walk_at "go"
      refine g_isi (.ty _) (.base (.int _)) (kit_ty (r := false) (by decide +kernel)) ?_
      walk_at "go"
      refine iteT ?_
      walk_at "go"
      refine n_tup (by show 2 ≤ sizeLine; decide) fun t5 H5 nt5 s5 e5 => ?_
      refine g_eqd (Cs.dp_wdI (s5 _ _ e4)) (Cs.dp_wdI e5) (Cs.shp_wdI (z := "code") (by decide +kernel) _) (Cs.shp_wdI (z := "code") (by decide +kernel) _) ?_
      rw [Cs.eqv_wdI]
      have S := s4.trans s5
      exact q H5 ((LamX.ExtN.same s1).trans (x2.trans (LamX.ExtN.same S))) (T2.same S)
    · refine ⟨k, a, cs, rfl, ha, hc, by omega, .inr ⟨hk, fun H1 p1 s1 np1 e1 => ?_⟩⟩
      have hoct := Cd.flat_oct hk
      have hlen := Cd.flat_le (k := k) cs
      have rk := Cd.read_known hk hc
      have ra := Cd.read_all hk hc
      generalize hfl : (cs.map (Cd.rowOf k)).flatten = os at e1 hoct hlen rk ra
      walk_at "go"
      refine LamD.g_lam (T0.same s1) fun H2 x2 T2 => Pw.ttf_val fun H3 s3 E' Q' q' => ?_
      walk_at "go"
      have ha3 := s3 _ _ (x2.ap (s1 _ _ ha))
      have e31 := s3 _ _ (x2.ap e1)
      refine ⟨rfl, ?_⟩
      walk_at "go"
      refine n_tupL (SqL.of ha3) fun t5 H5 nt5 s5 e5 => ?_
      walk_at "go"
      refine Tx.n_of e5 hc fun b H6 nb s6 B6 => ?_
      walk_at "go"
      refine .inr (.inr ⟨k, b, cs, rfl, B6, hk, by omega, fun H7 t7 s7 n7 e7 => ?_⟩)
      rw [hfl] at e7
      refine q' _ _ fun r8 H8 nr8 s8 e8 => ?_
      have S38 := ((s5.trans s6).trans s7).trans s8
      have e81 := S38 _ _ e31
      have e87 := s8 _ _ e7
      walk_at "go"
      refine g_isi (.ty _) (.base (.lst e81)) (kit_ty (r := true) (by decide +kernel)) ?_
      walk_at "go"
      refine iteF ?_
      walk_at "go"
      refine n_tupL (SqL.of e81) fun t9 H9 nt9 s9 e9 => ?_
      walk_at "go"
      refine n_lst (by show 1 ≤ sizeLine; decide) fun p10 H10 np10 s10 e10 => ?_
      refine g_ned (Cs.dp_ltup (s10 _ _ (s9 _ _ e8)) (s10 _ _ (s9 _ _ e87))) (Cs.dp_ltup e10 (s10 _ _ e9)) (Cs.shp_ltup _) (Cs.shp_ltup _) ?_
      rw [Cs.eqv_ltup]
      walk_at "go"
      refine iteF ?_
      walk_at "go"
      refine n_tupL (SqL.of (s10 _ _ (s9 _ _ e81))) fun t11 H11 nt11 s11 e11 => ?_
      walk_at "go"
      refine ⟨rfl, .inr (.inr (.inr ⟨k, t11, os, rfl, e11, hoct, by omega, fun H12 t12 a12 s12 n12 e12 A12 => ?_⟩))⟩
      replace e12 : H12 t12 = some (.tup [.ref a12, .bl true]) := e12.trans (congrArg (fun z => some (HO.tup [.ref a12, .bl z])) ra)
      rw [rk] at A12
      walk_at "go"
      refine g_gtup (SqT.of e12) rfl ?_
      walk_at "go"
      refine ⟨rfl, ?_⟩
      walk_at "go"
      have S12 := (((S38.trans s9).trans s10).trans s11).trans s12
      refine n_tupL (SqL.of (S12 _ _ ha3)) fun t13 H13 nt13 s13 e13 => ?_
      walk_at "go"
      refine Tx.n_of e13 hc fun b14 H14 nb14 s14 B14 => ?_
      refine Tx.g_eqT T.ty_Text ((A12.same s13).same s14) B14 ?_
      rw [decide_eq_true rfl]
      walk_at "go"
      refine iteT ?_
      walk_at "go"
      refine ⟨_, _, rfl, rfl, ?_⟩
      have SA := s3.trans ((S12.trans s13).trans s14)
      exact q H14 ((LamX.ExtN.same s1).trans (x2.trans (LamX.ExtN.same SA))) (T2.same SA)
-- kind row due is_due found is_fine
-- kind row due is_due found is_fine
theorem ok__law_read_right (T : Txt K mg) : FnG P w K mg base CX0 8 T.f__law_read_right T.fd__law_read_right ["kind", "row"] (Cs.spRead) := by
  refine T.F__law_read_right.okG sc__law_read_right (fun vs H Q E h => ?_) (fun cdv A hG outer s H vs Q E hr h => ?_)
  · rcases h with ⟨k, a, os, rfl, _⟩ <;> rfl
  · have hu := hu_of hr
    refine ⟨_, (pss_cons (ps_asg (pe_call (ok__law_decoded T) (hr.mono (by decide)) (by rfl) T.g__law_decoded T.F__law_decoded.kp T.b__law_decoded .nil pass0 (pa_cons (pv 0) (pa_cons (pv 1) pa_nil))) (pg_tup (by rfl) (pgs_cons (pg_name (i := 2) sc__law_read_right.nd rfl (Or.inl rfl)) (pgs_cons (pg_name (i := 3) sc__law_read_right.nd rfl (Or.inl rfl)) pgs_nil)))) (pss_cons (ps_asg (pe_call (ok_text_from T) (hr.mono (by decide)) (by rfl) T.g_text_from T.F_text_from.kp T.b_text_from .nil passL (pa_cons (pv 0) (pa_cons (pe_callTy (call_tupK (K := K) rfl) (by rfl) T.m_tuple (by decide +kernel) (pa_cons (pv 1) pa_nil)) pa_nil))) (pg_tup (by rfl) (pgs_cons (pg_name (i := 4) sc__law_read_right.nd rfl (Or.inl rfl)) (pgs_cons (pg_name (i := 5) sc__law_read_right.nd rfl (Or.inl rfl)) pgs_nil)))) (pss_one (ps_ret (pe_and (pe_cmpR (op_eqD hr.units) (pe_callTy (call_listK (K := K) rfl) (by rfl) T.m_list (by decide +kernel) (pa_cons (pe_prop (pv 4) T.c_Text T.pp_Text_codes (ok_Text_codes T) (hr.mono (by decide)) T.b_Text_codes .nil pass0 rfl) pa_nil)) (pv 2) (nomark _)) (pe_one (pe_cmpR op_eq (pe_callB (call_reprA hG hr.units) (by rfl) T.m_repr (by decide +kernel) (pa_cons (pv 5) pa_nil)) (pe_callB (call_reprA hG hr.units) (by rfl) T.m_repr (by decide +kernel) (pa_cons (pv 3) pa_nil)) (nomark _)))))))), ?_⟩
    obtain ⟨k, a, os, rfl, ha, hl, ho, q⟩ := h
    walk_at "go"
    refine ⟨k, a, os, rfl, ha, by omega, ho, fun H1 t1 p1 s1 et1 ep1 => ?_⟩
    walk_at "go"
    refine g_gtup (SqT.of et1) rfl ?_
    walk_at "go"
    refine n_tupL (SqL.of (s1 _ _ ha)) fun t2 H2 nt2 s2 e2 => ?_
    walk_at "go"
    refine .inr (.inr (.inr ⟨k, t2, os, rfl, e2, ho, by omega, fun H3 t3 a3 s3 n3 e3 A3 => ?_⟩))
    walk_at "go"
    refine g_gtup (SqT.of e3) rfl ?_
    walk_at "go"
    obtain ⟨dx, tt, e4, ht4⟩ := id A3
    refine ⟨a3, dx, _, rfl, e4, a3, dx, _, .ref tt, rfl, e4, rfl, ?_⟩
    walk_at "go"
    refine n_listT ht4 fun p5 H5 np5 s5 e5 => ?_
    walk_at "go"
    have S5 := (s2.trans s3).trans s5
    refine g_eqd (.lst (SqL.of e5) (Tx.dps _)) (.lst (SqL.of (S5 _ _ ep1)) (Tx.dps _)) (Cd.shaped_L _) (Cd.shaped_L _) ?_
    rw [show PyData.eqv (PyData.list (((Cd.rowsOf k os).map fun r => Cd.known (Cd.codeOf k r)).map fun (c : Nat) => PyData.int (c : Int))) (PyData.list ((Cs.readR k os).map fun (c : Nat) => PyData.int (c : Int))) = true from Cs.eqv_same _]
    walk_at "tt"
    refine g_repra (.bl _) (Cs.sh_bool _) ?_
    walk_at "go"
    refine g_repra (.bl _) (Cs.sh_bool _) ?_
    walk_at "go"
    show Q (.bl (decide (V.str (PyData.bool (Cs.okR k os)).shown = V.str (PyData.bool (Cs.okR k os)).shown))) H5
    rw [decide_eq_true rfl]
    exact q H5 (s1.trans S5)
end
section
variable {w : World} {K : PySem.W.Frag} {mg : Str → Option Value} {base : Heap}
-- draw odd told far at bad kind
-- draw odd told far at bad kind
theorem ok__law_refused_right (T : Txt K mg) (B : Tbs T base) : FnG P w K mg base CX0 11 T.f__law_refused_right T.fd__law_refused_right ["draw"] (Cs.spRefused (tabs T)) := by
  refine T.FC__law_refused_right.okG sc__law_refused_right (fun vs H Q E h => ?_) (fun A hG outer s H vs Q E hr h => ?_)
  · rcases h with ⟨d, l, m, rfl, _⟩ <;> rfl
  · have hu := hu_of hr
    refine ⟨_, (pss_cons (ps_set (i := 1) sc__law_refused_right.nd rfl (Or.inr rfl) (pe_ix (ix_listKK (K := K) rfl) (pe_lst (pa_cons pe_str (pa_cons pe_str (pa_cons pe_non (pa_cons pe_int (pa_cons pe_bl (pa_cons (pe_lst (pa_cons pe_str pa_nil)) (pa_cons (pe_tup (pa_cons pe_str pa_nil)) (pa_cons pe_dnewK (pa_cons pe_str (pa_cons pe_str pa_nil))))))))))) (pe_call (ok__law_next T) (hr.mono (by decide)) (by rfl) T.g__law_next T.F__law_next.kp T.b__law_next .nil pass0 (pa_cons (pv 0) (pa_cons pe_int pa_nil))) (fun _ _ => rfl))) (pss_cons (ps_set (i := 2) sc__law_refused_right.nd rfl (Or.inl rfl) (pe_lst (pa_cons (LamD.pe_lamF (k := 8) (T := tabs T) (TT := TT__law_told T) T.F__law_told (by rfl) T.g__law_told T.b__law_told sc__law_told rfl (Or.inl rfl) (fun cdv => gives__law_told T) B._law_refused_right rfl (mem__law_refused_right T) (hu__law_refused_right T) (hr.mono (by decide)) (LamD.lamP_by rfl) (.no rfl) rfl (LamD.bindL_no fun _ _ _ _ _ _ => rfl) (fun A outer s H E f c hr => (pe_callS (ok_octets_for T) (hr.mono (by decide)) (by rfl) T.g_octets_for T.F_octets_for.kp T.b_octets_for (fun σ => passAt (takes_of rfl rfl rfl rfl) σ) (pa_cons (pv 1) (pa_cons pe_non pa_nil))))) (pa_cons (LamD.pe_lamF (k := 8) (T := tabs T) (TT := TT__law_told T) T.F__law_told (by rfl) T.g__law_told T.b__law_told sc__law_told rfl (Or.inl rfl) (fun cdv => gives__law_told T) B._law_refused_right rfl (mem__law_refused_right T) (hu__law_refused_right T) (hr.mono (by decide)) (LamD.lamP_by rfl) (.one rfl) rfl (LamD.bindL_one (fun _ _ _ _ _ _ _ => rfl) (fun _ _ _ _ _ _ _ _ => rfl) rfl) (fun A outer s H E f c hr => (pe_callS (ok_text_from T) (hr.mono (by decide)) (by rfl) T.g_text_from T.F_text_from.kp T.b_text_from (fun σ => passAt (takes_of rfl rfl rfl rfl) σ) (pa_cons (pv 1) (pa_cons pe_non pa_nil))))) pa_nil)))) (pss_cons (ps_expr (pe_bm PySem.F.plainAttrs_list PySem.F.slot_list_append PySem.F.type_list_append mt_append (pv 2) (pa_cons (LamD.pe_lamF (k := 8) (T := tabs T) (TT := TT__law_told T) T.F__law_told (by rfl) T.g__law_told T.b__law_told sc__law_told rfl (Or.inl rfl) (fun cdv => gives__law_told T) B._law_refused_right rfl (mem__law_refused_right T) (hu__law_refused_right T) (hr.mono (by decide)) (LamD.lamP_by rfl) (.no rfl) rfl (LamD.bindL_no fun _ _ _ _ _ _ => rfl) (fun A outer s H E f c hr => (pe_kw0S (ok_octets_for T) (hr.mono (by decide)) (by rfl) T.g_octets_for T.F_octets_for.kp (kw_octets_for_text_charset T) (fun σ => passAt (takes_of rfl rfl rfl rfl) σ) (pk_cons (pe_make T.mk_Text (ok_Text___init__ T) (hr.mono (by decide)) (by rfl) T.g_Text (bd_Text_1 T).choose_spec.2 (bd_Text_1 T).choose_spec.1 (passX (takes_of rfl rfl rfl rfl)) (pa_cons pe_str pa_nil)) (pk_cons (pv 1) pk_nil))))) pa_nil))) (pss_cons (ps_if (pt_cmpR op_ne (pe_callB (call_reprZ hG hr.units) (by rfl) T.m_repr (by decide +kernel) (pa_cons (pv 2) pa_nil)) (pe_callB (call_reprZ hG hr.units) (by rfl) T.m_repr (by decide +kernel) (pa_cons (pe_op op_rep (pe_lst (pa_cons (pe_tup (pa_cons pe_str (pa_cons (pv 1) pa_nil))) pa_nil)) pe_int) pa_nil)) (nomark _)) (pss_one (ps_ret pe_bl)) pss_nil) (pss_cons (ps_for PassesOwn.never (by rfl) (pi_tup (pe_tup (pa_cons pe_non (pa_cons pe_int (pa_cons pe_str (pa_cons (pe_tup (pa_cons pe_int pa_nil)) (pa_cons (pe_lst pa_nil) pa_nil))))))) (pg_name (i := 3) sc__law_refused_right.nd rfl (Or.inr rfl)) (pss_cons (ps_if (pt_cmpR op_ne (pe_callB (call_reprZ hG hr.units) (by rfl) T.m_repr (by decide +kernel) (pa_cons (LamD.pe_lamF (k := 8) (T := tabs T) (TT := TT__law_told T) T.F__law_told (by rfl) T.g__law_told T.b__law_told sc__law_told rfl (Or.inl rfl) (fun cdv => gives__law_told T) B._law_refused_right rfl (mem__law_refused_right T) (hu__law_refused_right T) (hr.mono (by decide)) (LamD.lamP_by rfl) (.no rfl) rfl (LamD.bindL_no fun _ _ _ _ _ _ => rfl) (fun A outer s H E f c hr => (pe_callS (ok_octets_for T) (hr.mono (by decide)) (by rfl) T.g_octets_for T.F_octets_for.kp T.b_octets_for (fun σ => passAt (takes_of rfl rfl rfl rfl) σ) (pa_cons pe_str (pa_cons (pv 3) pa_nil))))) pa_nil)) (pe_callB (call_reprZ hG hr.units) (by rfl) T.m_repr (by decide +kernel) (pa_cons (pe_tup (pa_cons pe_str (pa_cons (pv 3) pa_nil))) pa_nil)) (nomark _)) (pss_one (ps_ret pe_bl)) pss_nil) (pss_one (ps_if (PW.pt (pw_and (pt_cmpR (op_neD hr.units) (pv 3) (pe_tup (pa_cons pe_int pa_nil)) (nomark _)) (pw_and1 (pt_cmpR (op_neD hr.units) (LamD.pe_lamF (k := 8) (T := tabs T) (TT := TT__law_told T) T.F__law_told (by rfl) T.g__law_told T.b__law_told sc__law_told rfl (Or.inl rfl) (fun cdv => gives__law_told T) B._law_refused_right rfl (mem__law_refused_right T) (hu__law_refused_right T) (hr.mono (by decide)) (LamD.lamP_by rfl) (.no rfl) rfl (LamD.bindL_no fun _ _ _ _ _ _ => rfl) (fun A outer s H E f c hr => (pe_callS (ok_text_from T) (hr.mono (by decide)) (by rfl) T.g_text_from T.F_text_from.kp T.b_text_from (fun σ => passAt (takes_of rfl rfl rfl rfl) σ) (pa_cons pe_str (pa_cons (pv 3) pa_nil))))) (pe_tup (pa_cons pe_str (pa_cons pe_non pa_nil))) (nomark _))))) (pss_one (ps_ret pe_bl)) pss_nil)))) (pss_cons (ps_set (i := 4) sc__law_refused_right.nd rfl (Or.inl rfl) (pe_call (ok__law_next T) (hr.mono (by decide)) (by rfl) T.g__law_next T.F__law_next.kp T.b__law_next .nil pass0 (pa_cons (pv 0) (pa_cons pe_int pa_nil)))) (pss_cons (ps_set (i := 5) sc__law_refused_right.nd rfl (Or.inr rfl) (pe_op op_catA (pe_op op_catA (pe_op op_repM (pe_tup (pa_cons pe_int pa_nil)) (pv 4)) (pe_tup (pa_cons (pe_ix (ix_listKK (K := K) rfl) (pe_lst (pa_cons pe_int (pa_cons (pe_un un_neg pe_int) (pa_cons pe_bl (pa_cons pe_str (pa_cons pe_non pa_nil)))))) (pe_call (ok__law_next T) (hr.mono (by decide)) (by rfl) T.g__law_next T.F__law_next.kp T.b__law_next .nil pass0 (pa_cons (pv 0) (pa_cons pe_int pa_nil))) (fun _ _ => rfl)) pa_nil))) (pe_tup (pa_cons pe_int (pa_cons pe_int pa_nil))))) (pss_one (ps_ret (pe_cmpR (op_eqD hr.units) (pe_lc (own := [("kind", 6)]) (g := gName 6) (tt := tYes) (by rfl) sc__law_refused_right.nd (pi_tup (pe_tup (pa_cons pe_str (pa_cons pe_str pa_nil)))) (blkOk_by (own := [("kind", 6)]) (N := sN__law_refused_right) (sc := defScope s__law_refused_right) (by decide +kernel)) (fun _ _ _ _ _ => (pg_name (i := 6) sc__law_refused_right.nd rfl (Or.inr rfl))) (fun _ _ _ _ _ => pts_nil) (fun _ _ _ _ _ => (LamD.pe_lamF (k := 8) (T := tabs T) (TT := TT__law_told T) T.F__law_told (by rfl) T.g__law_told T.b__law_told sc__law_told rfl (Or.inl rfl) (fun cdv => gives__law_told T) B._law_refused_right rfl (mem__law_refused_right T) (hu__law_refused_right T) (hr.mono (by decide)) (LamD.lamP_by rfl) (.no rfl) rfl (LamD.bindL_no fun _ _ _ _ _ _ => rfl) (fun A outer s H E f c hr => (pe_callS (ok_text_from T) (hr.mono (by decide)) (by rfl) T.g_text_from T.F_text_from.kp T.b_text_from (fun σ => passAt (takes_of rfl rfl rfl rfl) σ) (pa_cons (pv 6) (pa_cons (pv 5) pa_nil))))))) (pe_op op_rep (pe_lst (pa_cons (pe_tup (pa_cons pe_str (pa_cons (pv 4) pa_nil))) pa_nil)) pe_int) (nomark _))))))))))), ?_⟩
    obtain ⟨d, l, m, rfl, D0, hm, T0, q⟩ := h
    walk_at "go"
    refine n_lst (by show 1 ≤ sizeLine; decide) fun p1 H1 np1 s1 e1 => ?_
    walk_at "go"
    refine n_tup (by show 1 ≤ sizeLine; decide) fun t2 H2 nt2 s2 e2 => ?_
    walk_at "go"
    refine n_dic fun d3 H3 nd3 s3 e3 => ?_
    walk_at "go"
    refine n_lst (by show 10 ≤ sizeLine; decide) fun p4 H4 np4 s4 e4 => ?_
    have S4 := ((s1.trans s2).trans s3).trans s4
    have D4 := D0.same S4
    have n4 := D4.ne' e4 (by intro kv z; cases z)
    have n3 : d3 ≠ d := fun z => by
      obtain ⟨_, _, _, _, h1, _⟩ := D0.same (s1.trans s2)
      rw [z, h1] at nd3
      cases nd3
    walk_at "go"
    refine n_next D4 (by omega) (by decide) (by decide) fun r H5 r0 r1 D5 K5 => ?_
    have n1 : p1 ≠ d := D4.ne' (s4 _ _ (s3 _ _ (s2 _ _ e1))) (by intro kv z; cases z)
    have n2 : t2 ≠ d := D4.ne' (s4 _ _ (s3 _ _ e2)) (by intro kv z; cases z)
    refine g_pickP (pr := Cs.OddK H5) (K5 _ _ n4 e4) r0 r1 (Cs.oddsK_ok (K5 _ _ n1 (s4 _ _ (s3 _ _ (s2 _ _ e1)))) (K5 _ _ n2 (s4 _ _ (s3 _ _ e2))) (K5 _ _ n3 (s4 _ _ e3))) fun x hx => ?_
    obtain ⟨cx, dx, ox, sx⟩ := hx
    have T5 : LamX.Tabs (tabs T) H5 := (T0.same S4).kp D4 K5
    have X5 : LamD.Kx d H H5 := (LamD.Kx.same S4).trans (LamD.Kx.kp K5)
    walk_at "go"
    refine LamD.g_lam T5 fun H6 x6 T6 => Pw.ttf (T.C_BadCharset, "given", "charset") (by simp) x (fun H7 s7 E' Q' rs => ?_) fun r8 H8 s8 e8 => ?_
    · walk_at "go"
      exact .inl ⟨x, _, rfl, ((ox.ext x6).same s7).any, cx, rs⟩
    walk_at "go"
    have x8 := x6.trans (LamX.ExtN.same s8)
    refine LamD.g_lam (T6.same s8) fun H9 x9 T9 => Pw.ttf (T.C_BadCharset, "given", "charset") (by simp) x (fun H10 s10 E' Q' rs => ?_) fun r11 H11 s11 e11 => ?_
    · walk_at "go"
      exact .inl ⟨x, _, rfl, (((ox.ext x8).ext x9).same s10).any, cx, rs⟩
    walk_at "go"
    have x911 := x9.trans (LamX.ExtN.same s11)
    have x11 := x8.trans x911
    refine n_lst (by show 2 ≤ sizeLine; decide) fun p12 H12 np12 s12 e12 => ?_
    have f8 := s12 _ _ (x911.ap e8)
    have f11 := s12 _ _ e11
    have x12 := x11.trans (LamX.ExtN.same s12)
    walk_at "go"
    refine ⟨ty_list e12, ?_⟩
    walk_at "go"
    refine LamD.g_lam ((T9.same s11).same s12) fun H13 x13 T13 => Pw.ttf (T.C_BadCharset, "given", "charset") (by simp) x (fun H14 s14 E' Q' rs => ?_) fun r15 H15 s15 e15 => ?_
    · walk_at "go"
      refine Tx.n_text (K := K) (m := .str "a") rfl (.str _ (by decide +kernel) (by decide +kernel)) (by decide +kernel) fun b H16 nb s16 B16 => ?_
      walk_at "go"
      exact ⟨rfl, .inl ⟨x, .ref b, rfl, ((((ox.ext x12).ext x13).same s14).same s16).any, cx, Cs.rs_same rs s16⟩⟩
    walk_at "go"
    have x1315 := x13.trans (LamX.ExtN.same s15)
    have e1512 := x1315.ap e12
    have m8 : r8 ≠ p12 := fun z => by rw [z, e12] at f8; cases f8
    have m11 : r11 ≠ p12 := fun z => by rw [z, e12] at f11; cases f11
    have m15 : r15 ≠ p12 := fun z => by rw [z, e1512] at e15; cases e15
    refine g_append e1512 (by show 2 < sizeLine; decide) ?_
    have T17 := Pw.tabs_updL (o := HO.lst ([.ref r8, .ref r11] ++ [.ref r15])) (T13.same s15) e1512
    have x17 : LamX.ExtN H5 (upd H15 p12 (HO.lst ([.ref r8, .ref r11] ++ [.ref r15]))) := Cs.ext_upd x11 np12 ((LamX.ExtN.same s12).trans x1315)
    have e17 : (upd H15 p12 (HO.lst ([.ref r8, .ref r11] ++ [.ref r15]))) p12 = some (HO.lst [.ref r8, .ref r11, .ref r15]) := upd_same
    have f8 : (upd H15 p12 (HO.lst ([.ref r8, .ref r11] ++ [.ref r15]))) r8 = some (HO.tup [.str "charset", x]) := by rw [upd_ne m8]; exact x1315.ap f8
    have f11 : (upd H15 p12 (HO.lst ([.ref r8, .ref r11] ++ [.ref r15]))) r11 = some (HO.tup [.str "charset", x]) := by rw [upd_ne m11]; exact x1315.ap f11
    have f15 : (upd H15 p12 (HO.lst ([.ref r8, .ref r11] ++ [.ref r15]))) r15 = some (HO.tup [.str "charset", x]) := by rw [upd_ne m15]; exact e15
    generalize upd H15 p12 (HO.lst ([.ref r8, .ref r11] ++ [.ref r15])) = H17 at T17 x17 e17 f8 f11 f15 ⊢
    have o17 := ox.ext x17
    have shz : ∀ ys : List PyData, (∀ y ∈ ys, y = .tuple [.str "charset", dx]) → ys.length ≤ 12 → showsZ (.list ys) := fun ys hy hl => Pw.shz_ps (fun y h => by rw [hy y h]; exact Pw.sd_pair sx) hl
    walk_at "go"
    refine g_reprzL (SqL.of e17) (.cons (Pw.dz_pair f8 o17) (.cons (Pw.dz_pair f11 o17) (.cons (Pw.dz_pair f15 o17) .nil))) (shz _ (by simp) (show 3 ≤ 12 by decide)) ?_
    walk_at "go"
    refine n_tup (by show 2 ≤ sizeLine; decide) fun u18 H18 nu18 s18 e18 => ?_
    walk_at "go"
    refine n_lst (by show 1 ≤ sizeLine; decide) fun v19 H19 nv19 s19 e19 => ?_
    walk_at "go"
    refine n_rep e19 (by decide) (by decide) (by show 1 * 3 ≤ sizeLine; decide) fun w20 H20 nw20 s20 e20 => ?_
    have S20 := (s18.trans s19).trans s20
    have f18 := s20 _ _ (s19 _ _ e18)
    have o20 := o17.same S20
    walk_at "go"
    refine g_reprzL (vs := [.ref u18, .ref u18, .ref u18]) (SqL.of e20) (.cons (Pw.dz_pair f18 o20) (.cons (Pw.dz_pair f18 o20) (.cons (Pw.dz_pair f18 o20) .nil))) (shz _ (by simp) (show 3 ≤ 12 by decide)) ?_
    walk_at "go"
    refine g_ifn (fun h => absurd rfl h) (fun _ => ?_)
    walk_at "go"
    have x20 := x17.trans (LamX.ExtN.same S20)
    have T20 := T17.same S20
    refine n_tup (by show 1 ≤ sizeLine; decide) fun tA H21 ntA s21 e21 => ?_
    walk_at "go"
    refine n_lst (Nat.zero_le _) fun lB H22 nlB s22 e22 => ?_
    walk_at "go"
    refine n_tup (by show 5 ≤ sizeLine; decide) fun tf H23 ntf s23 e23 => ?_
    have S23 := (s21.trans s22).trans s23
    have eA := s23 _ _ (s22 _ _ e21)
    have eB := s23 _ _ e22
    have x23 := x20.trans (LamX.ExtN.same S23)
    have T23 := T20.same S23
    walk_at "go"
    refine ⟨tf, rfl, ⟨_, SqT.of e23⟩, for_tup (K := K) (a := tf) (xs := [.non, .int 5, .str "a", .ref tA, .ref lB]) (fun i σ H' => (∃ y3, σ = [some (.ref d), some x, some (.ref p12), y3, none, none, none]) ∧ LamX.ExtN H23 H' ∧ LamX.Tabs (tabs T) H') ⟨⟨none, rfl⟩, LamX.ExtN.refl _, T23⟩ (fun i σ H' _ p => SqT.of (p.2.1.ap e23)) ?_ ?_⟩
    · rintro i far σ H24 hfar ⟨⟨y3, rfl⟩, x24, T24⟩
      have ff := fun (H' : Hp) (xx : LamX.ExtN H23 H') => Cs.far_ok (K := K) (xx.ap eA) (xx.ap eB) _ (List.mem_of_getElem? hfar)
      walk_at "go"
      refine LamD.g_lam T24 fun H25 x25 T25 => Pw.ttf (T.C_BadText, "given", "text") (by simp) far (fun H26 s26 E' Q' rs => ?_) fun r27 H27 s27 e27 => ?_
      · walk_at "go"
        obtain ⟨y, oy, _⟩ := ff H26 (x24.trans (x25.trans (LamX.ExtN.same s26)))
        exact .inr (.inl ⟨.wide, far, rfl, .inl ⟨.inl oy.any, rs⟩⟩)
      walk_at "go"
      have x27 := x24.trans (x25.trans (LamX.ExtN.same s27))
      obtain ⟨y, oy, sy, _⟩ := ff H27 x27
      refine g_reprzT (SqT.of e27) (.cons (.of (.str _) (by simp only [PyData.hasDict])) (.cons oy.dz .nil)) (Cs.shz_wd (w := "text") sy) ?_
      walk_at "go"
      refine n_tup (by show 2 ≤ sizeLine; decide) fun t28 H28 nt28 s28 e28 => ?_
      walk_at "go"
      refine g_reprzT (SqT.of e28) (.cons (.of (.str _) (by simp only [PyData.hasDict])) (.cons (oy.same s28).dz .nil)) (Cs.shz_wd (w := "text") sy) ?_
      walk_at "go"
      refine g_ifn (fun h => absurd rfl h) (fun _ => ?_)
      walk_at "go"
      refine n_tup (by show 1 ≤ sizeLine; decide) fun t29 H29 nt29 s29 e29 => ?_
      have x29 := x27.trans (LamX.ExtN.same (s28.trans s29))
      have T29 := (T25.same s27).same (s28.trans s29)
      obtain ⟨y2, oy2, sy2, dy2, hy2, fy2⟩ := ff H29 x29
      refine g_ned dy2 (.tup (SqT.of e29) (.cons (.int _) .nil)) hy2 (by decide +kernel) ?_
      rcases fy2 with fy2 | ⟨fy2, tx2⟩
      · rw [fy2]
        walk_at "go"
        refine iteF ?_
        walk_at "go"
        exact ⟨⟨_, rfl⟩, x29, T29⟩
      · rw [fy2]
        walk_at "go"
        refine iteT ?_
        walk_at "go"
        refine LamD.g_lam T29 fun H30 x30 T30 => Pw.ttf (T.C_BadOctet, "place", "octet") (by simp) .non (fun H31 s31 E' Q' rs => ?_) fun r32 H32 s32 e32 => ?_
        · walk_at "go"
          have x31 := x30.trans (LamX.ExtN.same s31)
          exact .inr (.inl ⟨.wide, far, rfl, (oy2.ext x31).any, Pw.tup_x oy2.any tx2 x31, rs⟩)
        walk_at "go"
        refine n_tup (by show 2 ≤ sizeLine; decide) fun t33 H33 nt33 s33 e33 => ?_
        refine g_ned (d := .tuple [.str "octet", .none]) (e := .tuple [.str "octet", .none]) (.tup (SqT.of (s33 _ _ e32)) (.cons (.str _) (.cons .non .nil))) (.tup (SqT.of e33) (.cons (.str _) (.cons .non .nil))) (by decide +kernel) (by decide +kernel) ?_
        rw [show PyData.eqv (.tuple [.str "octet", .none]) (.tuple [.str "octet", .none]) = true by decide +kernel]
        walk_at "go"
        refine iteF ?_
        walk_at "go"
        exact ⟨⟨_, rfl⟩, x29.trans (x30.trans (LamX.ExtN.same (s32.trans s33))), (T30.same s32).same s33⟩
    · rintro σ H24 ⟨⟨y3, rfl⟩, x24, T24⟩
      walk_at "go"
      have D24 := (x23.trans x24).draw D5
      have X24 : LamD.Kx d H H24 := X5.trans (LamD.Kx.extN (x23.trans x24))
      refine n_next D24 (by omega) (by decide) (by decide) fun at0 H25 a0 a1 D25 K25 => ?_
      have T25 := T24.kp D24 K25
      walk_at "go"
      refine n_tup (by show 1 ≤ sizeLine; decide) fun p26 H26 np26 s26 e26 => ?_
      walk_at "go"
      refine g_repM e26 (by simp) a0 (by omega) (by show 1 ≤ 1000; decide) fun p27 H27 s27 e27 => ?_
      walk_at "go"
      refine n_lst (by show 5 ≤ sizeLine; decide) fun p28 H28 np28 s28 e28 => ?_
      have D28 := D25.same ((s26.trans s27).trans s28)
      have n28 := D28.ne' e28 (by intro kv z; cases z)
      have n27 : p27 ≠ d := (D25.same (s26.trans s27)).ne' e27 (by intro kv z; cases z)
      walk_at "go"
      refine n_next D28 (by omega) (by decide) (by decide) fun r29 H29 r290 r291 D29 K29 => ?_
      refine g_pickP (pr := fun v => AnyO H29 v ∧ Mk.btw v 0 255 = false) (K29 _ _ n28 e28) r290 r291 (Cs.oddsB_ok (H := H29)) fun y hy => ?_
      obtain ⟨ay, by'⟩ := hy
      walk_at "go"
      refine n_tup (by show 1 ≤ sizeLine; decide) fun p30 H30 np30 s30 e30 => ?_
      obtain ⟨n, rfl⟩ : ∃ n : Nat, at0 = (n : Int) := ⟨at0.toNat, by omega⟩
      have n5 : n < 5 := by omega
      have e27' := s30 _ _ (K29 _ _ n27 (s28 _ _ e27))
      rw [show (List.replicate ((n : Int)).toNat [V.int 65]).flatten = List.replicate n (V.int 65) from Cs.rep_flat n] at e27'
      refine g_catT e27' e30 (by rw [List.length_replicate]; exact Nat.le_trans (show n + 1 ≤ 6 by omega) (by decide)) fun H31 p31 s31 e31 => ?_
      walk_at "go"
      refine n_tup (by show 2 ≤ sizeLine; decide) fun p32 H32 np32 s32 e32 => ?_
      refine g_catT (s32 _ _ e31) e32 (by rw [List.length_append, List.length_replicate]; exact Nat.le_trans (show n + 1 + 2 ≤ 8 by omega) (by decide)) fun H33 pb s33 eb => ?_
      walk_at "go"
      refine n_tup (by show 2 ≤ sizeLine; decide) fun p34 H34 np34 s34 e34 => ?_
      have S34 := (((s30.trans s31).trans s32).trans s33).trans s34
      have S28 := (s26.trans s27).trans s28
      have T34 := ((T25.same S28).kp D28 K29).same S34
      have D34 := D29.same S34
      have X34 : LamD.Kx d H H34 := X24.trans ((LamD.Kx.kp K25).trans ((LamD.Kx.same S28).trans ((LamD.Kx.kp K29).trans (LamD.Kx.same S34))))
      have eb34 := s34 _ _ eb
      have ay34 := ay.same S34
      refine ⟨p34, rfl, ⟨_, SqT.of e34⟩, fun D hD => lc_it (Y := YAt [.str "latin", .str "steps"]) walk_tup (fun i H5 => ∃ rs : List Addr, H5 D = some (.lst (rs.map V.ref)) ∧ rs.length = i ∧ Pw.PrA H5 "octet" (.int (n : Nat)) rs ∧ LamX.Tabs (tabs T) H5 ∧ LamX.ExtN H34 H5) ⟨[], upd_same, rfl, .nil, T34.same (same_new hD), LamX.ExtN.same (same_new hD)⟩ (fun i H5 _ pv => ?_) (fun i v H5 H6 hi pv y => ?_) fun H5 pv => ?_⟩
      · obtain ⟨rs, g1, g2, g3, g4, g5⟩ := pv
        exact SqT.of (g5.ap e34)
      · obtain ⟨rfl, hv⟩ := y
        obtain ⟨rs, g1, g2, g3, g4, g5⟩ := pv
        obtain ⟨kd, rfl⟩ : ∃ kd : Cd.Kd, v = .str kd.name := by
          match i, hv with
          | 0, hv => exact ⟨.latin, (Option.some.inj hv).symm⟩
          | 1, hv => exact ⟨.steps, (Option.some.inj hv).symm⟩
        walk_at "go"
        refine ⟨rfl, ?_⟩
        walk_at "go"
        refine LamD.g_lam g4 fun H40 x40 T40 => Pw.ttf (T.C_BadOctet, "place", "octet") (by simp) (.int (n : Nat)) (fun H41 s41 E' Q' rk => ?_) fun r42 H42 s42 e42 => ?_
        · walk_at "go"
          have x41 : LamX.ExtN H34 H41 := g5.trans (x40.trans (LamX.ExtN.same s41))
          exact .inr (.inr (.inl ⟨kd, pb, _, n, rfl, x41.ap eb34, Cs.bad_any (Pw.any_x ay34 x41), Cs.bad_ok n by', rk⟩))
        · have x42 : LamX.ExtN H6 H42 := x40.trans (LamX.ExtN.same s42)
          have d42 := x42.ap g1
          have nr : r42 ≠ D := ne_of e42 d42 (by intro z; cases z)
          refine ⟨_, d42, ?_, rs ++ [r42], ?_, ?_, ?_, Pw.tabs_updL (T40.same s42) d42, (g5.trans x42).mut hD⟩
          · rw [List.length_map, g2]
            exact Nat.lt_of_lt_of_le hi (show 2 ≤ sizeLine by decide)
          · rw [upd_same, List.map_append]
            rfl
          · rw [List.length_append, g2]
            rfl
          · exact (g3.to x42 d42).snoc (by rw [upd_ne nr]; exact e42)
      · obtain ⟨rs, g1, g2, g3, g4, g5⟩ := pv
        walk_at "go"
        refine n_tup (by show 2 ≤ sizeLine; decide) fun p43 H43 np43 s43 e43 => ?_
        walk_at "go"
        refine n_lst (by show 1 ≤ sizeLine; decide) fun p44 H44 np44 s44 e44 => ?_
        walk_at "go"
        refine n_rep e44 (by decide) (by decide) (by show 1 * 2 ≤ sizeLine; decide) fun p45 H45 np45 s45 e45 => ?_
        have f43 : H45 p43 = some (.tup [.str "octet", .int (n : Nat)]) := s45 _ _ (s44 _ _ e43)
        have S45 : Same H5 H45 := (s43.trans s44).trans s45
        have n12 : ((n : Nat) : Int).natAbs < 10 ^ 12 := Nat.lt_trans (show ((n : Nat) : Int).natAbs < 100 by omega) (by decide)
        refine g_eqd (Pw.dp_pairs (S45 _ _ g1) (g3.same S45)) (Pw.dp_pairs (as := [p43, p43]) e45 (.cons f43 (.cons f43 .nil))) (Pw.shp_pairs n12 (by decide +kernel)) (Pw.shp_pairs n12 (by decide +kernel)) ?_
        rw [Pw.eqv_pairs (by rw [g2]; rfl)]
        have xL : LamX.ExtN H34 H45 := g5.trans (LamX.ExtN.same S45)
        exact q H45 (xL.draw D34) (X34.trans (LamD.Kx.extN xL)) (g4.same S45)
end
section
variable {w : World} {K : PySem.W.Frag} {mg : Str → Option Value} {base : Heap}

def spLawT (T : List (Addr × Str)) : L2.Sp := fun vs H Q _ => ∃ (a : Addr) (ns : List Int), vs = [.ref a] ∧ SqL K H a (ns.map V.int) ∧ ns.length ≤ 63 ∧ LamX.Tabs T H ∧ ∀ H', Q (.bl true) H'
-- script draw some numbers_here bout numbers row kind due k octet
-- script draw some numbers_here bout numbers row kind due k octet
theorem ok_law (T : Txt K mg) (B : Tbs T base) : FnG P w K mg base CX0 12 T.f_law T.fd_law ["script"] (spLawT (K := K) (tabs T)) := by
  refine T.F_law.okG sc_law (fun vs H Q E h => ?_) (fun cdv A hG outer s H vs Q E hr h => ?_)
  · rcases h with ⟨a, ns, rfl, _⟩ <;> rfl
  · have hu := hu_of hr
    refine ⟨_, (pss_cons (ps_set (i := 1) sc_law.nd rfl (Or.inr rfl) (pe_call (ok__law_begin T) (hr.mono (by decide)) (by rfl) T.g__law_begin T.F__law_begin.kp T.b__law_begin .nil pass0 (pa_cons (pv 0) pa_nil))) (pss_cons (ps_set (i := 2) sc_law.nd rfl (Or.inr rfl) (pe_lst (pa_cons pe_int (pa_cons pe_int (pa_cons pe_int (pa_cons pe_int (pa_cons pe_int (pa_cons pe_int (pa_cons pe_int (pa_cons (pe_op op_mul pe_int pe_int) (pa_cons pe_int (pa_cons pe_int (pa_cons pe_int (pa_cons pe_int (pa_cons pe_int (pa_cons (pe_op op_add (pe_op op_mul pe_int pe_int) pe_int) (pa_cons pe_int (pa_cons pe_int pa_nil)))))))))))))))))) (pss_cons (ps_set (i := 3) sc_law.nd rfl (Or.inr rfl) (pe_lst (pa_cons pe_int (pa_cons pe_int (pa_cons pe_int (pa_cons pe_int (pa_cons pe_int (pa_cons pe_int (pa_cons pe_int (pa_cons pe_int (pa_cons pe_int (pa_cons pe_int (pa_cons pe_int (pa_cons pe_int (pa_cons pe_int (pa_cons pe_int (pa_cons pe_int (pa_cons pe_int pa_nil)))))))))))))))))) (pss_cons (ps_for PassesOwn.never (by rfl) (pi_range1 (by rfl) T.m_range (pa_cons pe_int pa_nil)) (pg_name (i := 4) sc_law.nd rfl (Or.inl rfl)) (pss_cons (ps_setLc (i := 5) (own := [("k", 9)]) (g := gName 9) (tt := tYes) (by rfl) sc_law.nd rfl rfl (sw_true rfl rfl rfl (by decide +kernel)) (pi_range1 (by rfl) T.m_range (pa_cons (pe_call (ok__law_next T) (hr.mono (by decide)) (by rfl) T.g__law_next T.F__law_next.kp T.b__law_next .nil pass0 (pa_cons (pv 1) (pa_cons pe_int pa_nil))) pa_nil)) (blkOk_by (own := [("k", 9)]) (N := sN_law) (sc := defScope s_law) (by decide +kernel)) (fun _ _ _ _ _ => (pg_name (i := 9) sc_law.nd rfl (Or.inl rfl))) (fun _ _ _ _ _ => pts_nil) (fun _ _ _ _ _ => (pe_ix (ix_listKK (K := K) rfl) (pv 2) (pe_call (ok__law_next T) (hr.mono (by decide)) (by rfl) T.g__law_next T.F__law_next.kp T.b__law_next .nil pass0 (pa_cons (pv 1) (pa_cons pe_int pa_nil))) (fun _ _ => rfl)))) (pss_cons (ps_setLc (i := 6) (own := [("k", 9)]) (g := gName 9) (tt := tYes) (by rfl) sc_law.nd rfl rfl (sw_true rfl rfl rfl (by decide +kernel)) (pi_range1 (by rfl) T.m_range (pa_cons (pe_call (ok__law_next T) (hr.mono (by decide)) (by rfl) T.g__law_next T.F__law_next.kp T.b__law_next .nil pass0 (pa_cons (pv 1) (pa_cons pe_int pa_nil))) pa_nil)) (blkOk_by (own := [("k", 9)]) (N := sN_law) (sc := defScope s_law) (by decide +kernel)) (fun _ _ _ _ _ => (pg_name (i := 9) sc_law.nd rfl (Or.inl rfl))) (fun _ _ _ _ _ => pts_nil) (fun _ _ _ _ _ => (pe_ix (ix_listKK (K := K) rfl) (pv 3) (pe_call (ok__law_next T) (hr.mono (by decide)) (by rfl) T.g__law_next T.F__law_next.kp T.b__law_next .nil pass0 (pa_cons (pv 1) (pa_cons pe_int pa_nil))) (fun _ _ => rfl)))) (pss_cons (ps_for PassesOwn.never (by rfl) (pi_tup (pe_tup (pa_cons pe_str (pa_cons pe_str (pa_cons pe_str pa_nil))))) (pg_name (i := 7) sc_law.nd rfl (Or.inl rfl)) (pss_one (ps_if (PW.pt (pw_or (pt_not (pt_val (pe_callG (ok__law_written_right T B) hG (hr.mono (by decide)) (by rfl) T.g__law_written_right T.F__law_written_right.kp T.b__law_written_right .nil pass0 (pa_cons (pv 7) (pa_cons (pv 5) pa_nil))))) (pw_or1 (pt_not (pt_val (pe_callG (ok__law_read_right T) hG (hr.mono (by decide)) (by rfl) T.g__law_read_right T.F__law_read_right.kp T.b__law_read_right .nil pass0 (pa_cons (pv 7) (pa_cons (pv 6) pa_nil)))))))) (pss_one (ps_ret pe_bl)) pss_nil))) (pss_one (ps_if (pt_not (pt_val (pe_callG (ok__law_refused_right T B) hG (hr.mono (by decide)) (by rfl) T.g__law_refused_right T.F__law_refused_right.kp T.b__law_refused_right .nil pass0 (pa_cons (pv 1) pa_nil)))) (pss_one (ps_ret pe_bl)) pss_nil)))))) (pss_cons (ps_if (PW.pt (pw_or (pt_not (pt_val (pe_callG (ok__law_read_right T) hG (hr.mono (by decide)) (by rfl) T.g__law_read_right T.F__law_read_right.kp T.b__law_read_right .nil pass0 (pa_cons pe_str (pa_cons (pe_lst (pa_cons pe_int (pa_cons pe_int (pa_cons pe_int (pa_cons pe_int (pa_cons pe_int (pa_cons pe_int (pa_cons pe_int (pa_cons pe_int pa_nil))))))))) pa_nil))))) (pw_or1 (pt_not (pt_val (pe_callG (ok__law_read_right T) hG (hr.mono (by decide)) (by rfl) T.g__law_read_right T.F__law_read_right.kp T.b__law_read_right .nil pass0 (pa_cons pe_str (pa_cons (pe_lst (pa_cons pe_int (pa_cons pe_int (pa_cons pe_int pa_nil)))) pa_nil)))))))) (pss_one (ps_ret pe_bl)) pss_nil) (pss_cons (ps_setLc (i := 8) (own := [("octet", 10)]) (g := gName 10) (tt := tYes) (by rfl) sc_law.nd rfl rfl (sw_true rfl rfl rfl (by decide +kernel)) (pi_range1 (by rfl) T.m_range (pa_cons pe_int pa_nil)) (blkOk_by (own := [("octet", 10)]) (N := sN_law) (sc := defScope s_law) (by decide +kernel)) (fun _ _ _ _ _ => (pg_name (i := 10) sc_law.nd rfl (Or.inl rfl))) (fun _ _ _ _ _ => pts_nil) (fun _ _ _ _ _ => (pe_ifExp (pt_val (pe_call (ok__law_is_code T) (hr.mono (by decide)) (by rfl) T.g__law_is_code T.F__law_is_code.kp T.b__law_is_code .nil pass0 (pa_cons (pv 10) pa_nil))) (pv 10) pe_int))) (pss_one (ps_ret (pe_cmpR (op_eqD hr.units) (pe_lc (own := [("octet", 10)]) (g := gName 10) (tt := tYes) (by rfl) sc_law.nd (pi_range1 (by rfl) T.m_range (pa_cons pe_int pa_nil)) (blkOk_by (own := [("octet", 10)]) (N := sN_law) (sc := defScope s_law) (by decide +kernel)) (fun _ _ _ _ _ => (pg_name (i := 10) sc_law.nd rfl (Or.inl rfl))) (fun _ _ _ _ _ => pts_nil) (fun _ _ _ _ _ => (pe_ixO (FnOk.raw (ok_Text___getitem__ T) T.b_Text___getitem__ .nil) (hr.mono (by decide)) pass0 T.at_Text___getitem__ T.if_Text___getitem__ T.fn_Text___getitem__ (pe_ix (ix_tupKK (K := K) rfl) (pe_call (ok_text_from T) (hr.mono (by decide)) (by rfl) T.g_text_from T.F_text_from.kp T.b_text_from .nil passL (pa_cons pe_str (pa_cons (pe_tup (pa_cons (pv 10) pa_nil)) pa_nil))) pe_int (fun _ _ => rfl)) pe_int (fun _ _ => rfl)))) (pv 8) (nomark _)))))))))), ?_⟩
    obtain ⟨a, ns, rfl, hS, hl, T0, q⟩ := h
    walk_at "go"
    refine ⟨a, ns, rfl, hS, hl, fun dd l H1 nd nl D1 s1 => ?_⟩
    walk_at "go"
    refine n_lst (by show 16 ≤ sizeLine; decide) fun ps H2 nps0 s2 e2 => ?_
    replace e2 : H2 ps = some (.lst (Cs.someL.map Tx.iv)) := e2
    walk_at "go"
    refine n_lst (by show 16 ≤ sizeLine; decide) fun pn H3 npn0 s3 e3 => ?_
    replace e3 : H3 pn = some (.lst (Cs.hereL.map Tx.iv)) := e3
    have D3 := (D1.same s2).same s3
    have T3 : LamX.Tabs (tabs T) H3 := ((T0.same s1).same s2).same s3
    have e23 := s3 _ _ e2
    have nps := D3.ne' e23 (by intro kv z; cases z)
    have npn := D3.ne' e3 (by intro kv z; cases z)
    walk_at "go"
    refine ⟨6, rfl, by decide, by decide, for_range (fun i σ H4 => (∃ y4 y5 y6 y7, σ = [some (.ref a), some (.ref dd), some (.ref ps), some (.ref pn), y4, y5, y6, y7, none, none, none]) ∧ Dr.Draw H4 dd l (50 * i) ∧ H4 ps = some (.lst (Cs.someL.map Tx.iv)) ∧ H4 pn = some (.lst (Cs.hereL.map Tx.iv)) ∧ LamX.Tabs (tabs T) H4) ⟨⟨_, _, _, _, rfl⟩, D3, e23, e3, T3⟩ ?_ ?_⟩
    · rintro i σ H4 hi ⟨⟨y4, y5, y6, y7, rfl⟩, D4, e4, f4, T4⟩
      have hi : i < 6 := hi
      walk_at "go"
      refine n_next D4 (by omega) (by decide) (by decide) fun r H5 r0 r1 D5 K5 => ?_
      have T5 := T4.kp D4 K5
      have e5 := K5 _ _ nps e4
      have f5 := K5 _ _ npn f4
      walk_at "go"
      refine ⟨r, rfl, by omega, by omega, fun DA hDA => lc_it walk_range (fun j G5 => ∃ cs : List Nat, cs.length = j ∧ (∀ c ∈ cs, Cd.isC c = true) ∧ G5 DA = some (.lst (cs.map Tx.iv)) ∧ Dr.Draw G5 dd l ((50 * i + 1) + j) ∧ Dr.Kp dd H5 G5) ⟨[], rfl, fun c h => (nomatch h), upd_same, D5.upd hDA, Dr.Kp.new hDA⟩ (fun _ _ _ _ => trivial) (fun j x G5 G6 hj pv y => ?_) fun H6 pv => ?_⟩
      · obtain ⟨rfl, rfl⟩ := y
        obtain ⟨cs, hl, hc, ec, Di, Ki⟩ := pv
        have hj : j < (r).toNat := hj
        walk_at "go"
        refine ⟨rfl, ?_⟩
        walk_at "go"
        refine n_next Di (by omega) (by decide) (by decide) fun v G7 v0 v1 Dj Kj => ?_
        refine g_pickP (pr := fun v => ∃ c : Nat, v = Tx.iv c ∧ Cd.isC c = true) (Kj _ _ nps (Ki _ _ nps e5)) v0 v1 (Cs.pr_of (PR := fun c => Cd.isC c = true) Cs.some_ok) fun v hv => ?_
        obtain ⟨c, rfl, hcm⟩ := hv
        refine ⟨_, Kj _ _ (D5.ne hDA) ec, ?_, cs ++ [c], ?_, ?_, ?_, ?_, ?_⟩
        · rw [List.length_map, hl]
          exact Nat.lt_of_lt_of_le hj (Nat.le_trans (show (r).toNat ≤ 100 by omega) (by decide))
        · rw [List.length_append, hl]
          rfl
        · intro c' hx
          rcases List.mem_append.mp hx with h | h
          · exact hc c' h
          · rw [List.mem_singleton.mp h]
            exact hcm
        · rw [upd_same, List.map_append]
          rfl
        · exact Dj.mut (D5.ne hDA) (D5.nel hDA)
        · exact (Ki.trans Kj).mut hDA
      obtain ⟨cs, hlc, hc, ec, D6, K6⟩ := pv
      have hlc : cs.length ≤ 7 := by
        have : cs.length = r.toNat := hlc
        omega
      have T6 := T5.kp D5 K6
      have e6 := K6 _ _ nps e5
      have f6 := K6 _ _ npn f5
      have nA := D5.ne hDA
      have D6 : Dr.Draw H6 dd l (50 * i + 10) := D6.mono (show 50 * i + 1 + r.toNat ≤ 50 * i + 10 by omega)
      walk_at "go"
      refine n_next D6 (by omega) (by decide) (by decide) fun r7 H7 r70 r71 D7 K7 => ?_
      have T7 := T6.kp D6 K7
      have e7 := K7 _ _ nps e6
      have f7 := K7 _ _ npn f6
      have ec7 := K7 _ _ nA ec
      walk_at "go"
      refine ⟨r7, rfl, by omega, by omega, fun DB hDB => lc_it walk_range (fun j G5 => ∃ cs : List Nat, cs.length = j ∧ (∀ c ∈ cs, c < 256) ∧ G5 DB = some (.lst (cs.map Tx.iv)) ∧ Dr.Draw G5 dd l ((50 * i + 11) + j) ∧ Dr.Kp dd H7 G5) ⟨[], rfl, fun c h => (nomatch h), upd_same, D7.upd hDB, Dr.Kp.new hDB⟩ (fun _ _ _ _ => trivial) (fun j x G5 G6 hj pv y => ?_) fun H8 pv => ?_⟩
      · obtain ⟨rfl, rfl⟩ := y
        obtain ⟨cs, hl, hc, ec, Di, Ki⟩ := pv
        have hj : j < (r7).toNat := hj
        walk_at "go"
        refine ⟨rfl, ?_⟩
        walk_at "go"
        refine n_next Di (by omega) (by decide) (by decide) fun v G7 v0 v1 Dj Kj => ?_
        refine g_pickP (pr := fun v => ∃ c : Nat, v = Tx.iv c ∧ c < 256) (Kj _ _ npn (Ki _ _ npn f7)) v0 v1 (Cs.pr_of (PR := fun c => c < 256) Cs.here_ok) fun v hv => ?_
        obtain ⟨c, rfl, hcm⟩ := hv
        refine ⟨_, Kj _ _ (D7.ne hDB) ec, ?_, cs ++ [c], ?_, ?_, ?_, ?_, ?_⟩
        · rw [List.length_map, hl]
          exact Nat.lt_of_lt_of_le hj (Nat.le_trans (show (r7).toNat ≤ 100 by omega) (by decide))
        · rw [List.length_append, hl]
          rfl
        · intro c' hx
          rcases List.mem_append.mp hx with h | h
          · exact hc c' h
          · rw [List.mem_singleton.mp h]
            exact hcm
        · rw [upd_same, List.map_append]
          rfl
        · exact Dj.mut (D7.ne hDB) (D7.nel hDB)
        · exact (Ki.trans Kj).mut hDB
      obtain ⟨os, hlo, ho, eo, D8, K8⟩ := pv
      have hlo : os.length ≤ 9 := by
        have : os.length = r7.toNat := hlo
        omega
      have T8 := T7.kp D7 K8
      have e8 := K8 _ _ nps e7
      have f8 := K8 _ _ npn f7
      have ec8 := K8 _ _ nA ec7
      have D8 : Dr.Draw H8 dd l (50 * i + 40) := D8.mono (show 50 * i + 11 + r7.toNat ≤ 50 * i + 40 by omega)
      walk_at "go"
      refine n_tup (by show 3 ≤ sizeLine; decide) fun tk H9 ntk s9 e9 => ?_
      have D9 := D8.same s9
      have T9 := T8.same s9
      have ec9 := s9 _ _ ec8
      have eo9 := s9 _ _ eo
      have e89 := s9 _ _ e8
      have f89 := s9 _ _ f8
      walk_at "go"
      refine ⟨tk, rfl, ⟨_, SqT.of e9⟩, for_tup (K := K) (a := tk) (xs := [.str "latin", .str "wide", .str "steps"]) (fun j σ H10 => (∃ y7, σ = [some (.ref a), some (.ref dd), some (.ref ps), some (.ref pn), some (.int (0 + (i : Int))), some (.ref DA), some (.ref DB), y7, none, none, none]) ∧ LamX.ExtN H9 H10 ∧ LamX.Tabs (tabs T) H10) ⟨⟨_, rfl⟩, LamX.ExtN.refl _, T9⟩ (fun j σ H10 _ p => SqT.of (p.2.1.ap e9)) ?_ ?_⟩
      · rintro j x σ H10 hx ⟨⟨y7, rfl⟩, x10, T10⟩
        obtain ⟨kd, rfl⟩ : ∃ kd : Cd.Kd, x = .str kd.name := by
          match j, hx with
          | 0, hx => exact ⟨.latin, (Option.some.inj hx).symm⟩
          | 1, hx => exact ⟨.wide, (Option.some.inj hx).symm⟩
          | 2, hx => exact ⟨.steps, (Option.some.inj hx).symm⟩
        walk_at "go"
        refine ⟨kd, DA, cs, rfl, x10.ap ec9, hc, by omega, T10, fun H11 x11 T11 => ?_⟩
        walk_at "go"
        refine iteF ?_
        walk_at "go"
        refine ⟨kd, DB, os, rfl, (x10.trans x11).ap eo9, by omega, ho, fun H12 s12 => ?_⟩
        walk_at "go"
        refine iteF ?_
        walk_at "go"
        exact ⟨⟨_, rfl⟩, x10.trans (x11.trans (LamX.ExtN.same s12)), T11.same s12⟩
      · rintro σ H10 ⟨⟨y7, rfl⟩, x10, T10⟩
        have D10 := x10.draw D9
        walk_at "go"
        refine ⟨dd, l, _, rfl, D10, by omega, T10, fun H11 D11 X11 T11 => ?_⟩
        walk_at "go"
        refine iteF ?_
        walk_at "go"
        exact ⟨⟨_, _, _, _, rfl⟩, D11.mono (by omega), X11.ap nps (x10.ap e89), X11.ap npn (x10.ap f89), T11⟩
    · rintro σ H4 ⟨⟨y4, y5, y6, y7, rfl⟩, D4, e4, f4, T4⟩
      walk_at "go"
      refine n_lst (by show 8 ≤ sizeLine; decide) fun p5 H5 np5 s5 e5 => ?_
      walk_at "go"
      refine ⟨.steps, p5, [233, 0, 129, 130, 131, 97, 0, 200], rfl, e5, by decide, by unfold Cd.Oct; decide, fun H6 s6 => ?_⟩
      walk_at "go"
      refine iteF ?_
      walk_at "go"
      refine n_lst (by show 3 ≤ sizeLine; decide) fun p7 H7 np7 s7 e7 => ?_
      walk_at "go"
      refine ⟨.wide, p7, [0, 65, 66], rfl, e7, by decide, by unfold Cd.Oct; decide, fun H8 s8 => ?_⟩
      walk_at "go"
      refine iteF ?_
      walk_at "go"
      refine ⟨256, rfl, by decide, by decide, fun D hD => lc_pureR (fun o : Nat => Tx.iv (Cd.known (some o))) hD (by decide) (fun i H9 N hi s9 kk => ?_) fun H9 s9 e9 => ?_⟩
      · walk_at "go"
        refine ⟨rfl, ?_⟩
        walk_at "go"
        refine ⟨i, by rw [Int.zero_add]; rfl, ?_⟩
        walk_at "go"
        refine g_if (fun w => ?_) (fun w => ?_)
        · rw [show Cd.known (some i) = i from if_pos w] at kk
          walk_at "go"
          rw [Int.zero_add]
          exact kk H9 (Same.refl _)
        · rw [show Cd.known (some i) = 63 from if_neg (by rw [w]; decide)] at kk
          walk_at "go"
          exact kk H9 (Same.refl _)
      walk_at "go"
      refine ⟨256, rfl, by decide, by decide, fun D2 hD2 => lc_pureR (fun o : Nat => Tx.iv (Cd.known (some o))) hD2 (by decide) (fun i H10 N hi s10 kk => ?_) fun H10 s10 e10 => ?_⟩
      · walk_at "go"
        refine ⟨rfl, ?_⟩
        have hi : i < 256 := hi
        walk_at "go"
        refine n_tup (by show 1 ≤ sizeLine; decide) fun t11 H11 nt11 s11 e11 => ?_
        walk_at "go"
        rw [Int.zero_add] at e11
        refine .inr (.inr (.inr ⟨.latin, t11, [i], rfl, e11, by intro o h; rw [List.mem_singleton.mp h]; exact hi, Nat.le_trans (show [i].length ≤ 1 from Nat.le_refl _) (by decide), fun H12 t12 a12 s12 n12 e12 A12 => ?_⟩))
        walk_at "go"
        refine g_ixt (SqT.of e12) (v := .ref a12) (atI_nat (j := 0) rfl) ?_
        walk_at "go"
        obtain ⟨dx, tt, e13, _⟩ := id A12
        refine ⟨a12, dx, _, rfl, e13, a12, _, 0, Cd.known (some i), rfl, A12, rfl, ?_⟩
        exact kk H12 (s11.trans s12)
      walk_at "go"
      refine g_eqd (.lst (SqL.of (Cs.rng_iv e10)) (Tx.dps _)) (.lst (SqL.of (Cs.rng_iv (s10 _ _ e9))) (Tx.dps _)) (Cd.shaped_L _) (Cd.shaped_L _) ?_
      rw [Cs.eqv_same]
      exact q _
end
abbrev spLaw (K : PySem.W.Frag) (T : List (Addr × Str)) : L2.Sp := spLawT (K := K) T
theorem all_mk {w : World} {K : PySem.W.Frag} {h : Heap} {mg : Str → Option Value} {fa f0 f1 f2 f3 f4 f5 f6 f7 f8 f9 f10 f11 f12 f13 f14 f15 f16 f17 f18 f19 f20 f21 f22 f23 f24 f25 f26 f27 f28 f29 f30 co27 P27 co29 P29 CHeaderError CBadText iBadText cdBadText ccBadText CBadCode iBadCode cdBadCode ccBadCode CBadOctet iBadOctet cdBadOctet ccBadOctet CBadCharset iBadCharset cdBadCharset ccBadCharset CText fText0 DText0 fText1 pText1 fText2 pText2 fText3 fText4 ac3 : Addr} {t0 t1 t2 tc3x0 tc3x1 tc3x2 t4 : Tok} (X : K.In h) (G : h.Ns mainGlobals mg) (hfa : mg "law" = some (.ref fa))
    {od0 an0 od1 an1 od2 an2 od3 an3 od4 an4 od5 an5 od6 an6 od7 an7 od8 an8 od9 an9 od10 an10 od11 an11 od12 an12 od13 an13 od14 an14 od15 an15 od16 an16 od17 an17 od18 an18 od19 an19 od20 an20 od21 an21 od22 an22 od23 an23 od24 an24 od25 an25 od26 an26 od27 an27 od28 an28 od29 an29 od30 an30 cz27 cz29 : Option Addr} {sl0 sl1 sl2 sl3 sl4 sl5 sl6 sl7 sl8 sl9 sl10 sl11 sl12 sl13 sl14 sl15 sl16 sl17 sl18 sl19 sl20 sl21 sl22 sl23 sl24 sl25 sl26 sl27 sl28 sl29 sl30 cs27 cs29 : Array (Option Value)} {oc0 kV0 dc0 pm0 cd0 ct0 oc1 kV1 dc1 pm1 cd1 ct1 oc2 kV2 dc2 pm2 cd2 ct2 oc3 kV3 dc3 pm3 cd3 ct3 oc4 kV4 dc4 pm4 cd4 ct4 oc5 kV5 dc5 pm5 cd5 ct5 oc6 kV6 dc6 pm6 cd6 ct6 oc7 kV7 dc7 pm7 cd7 ct7 oc8 kV8 dc8 pm8 cd8 ct8 oc9 kV9 dc9 pm9 cd9 ct9 oc10 kV10 dc10 pm10 cd10 ct10 oc11 kV11 dc11 pm11 cd11 ct11 oc12 kV12 dc12 pm12 cd12 ct12 oc13 kV13 dc13 pm13 cd13 ct13 oc14 kV14 dc14 pm14 cd14 ct14 oc15 kV15 dc15 pm15 cd15 ct15 oc16 kV16 dc16 pm16 cd16 ct16 oc17 kV17 dc17 pm17 cd17 ct17 oc18 kV18 dc18 pm18 cd18 ct18 oc19 kV19 dc19 pm19 cd19 ct19 oc20 kV20 dc20 pm20 cd20 ct20 oc21 kV21 dc21 pm21 cd21 ct21 oc22 kV22 dc22 pm22 cd22 ct22 oc23 kV23 dc23 pm23 cd23 ct23 oc24 kV24 dc24 pm24 cd24 ct24 oc25 kV25 dc25 pm25 cd25 ct25 oc26 kV26 dc26 pm26 cd26 ct26 oc27 kV27 dc27 pm27 ct27 oc28 kV28 dc28 pm28 cd28 ct28 oc29 kV29 dc29 pm29 ct29 oc30 kV30 dc30 pm30 cd30 ct30 cc27 x27_0 x27_1 x27_2 x27_3 x27_4 x27_5 x27_6 x27_7 x27_8 x27_9 x27_10 cc29 x29_0 x29_1 x29_2 x29_3 x29_4 x29_5 x29_6 x29_7 x29_8 x29_9 x29_10 : Value}
    {dd3 : Option Addr} {nn3 : Nat} {ss3 : Array (Option Value)}
    {q : Program} (tp : LamD.TabOf q K h)
    {rest27 : List Value} {dr27 : _}
    {rest29 : List Value} {dr29 : _}
    (a0 : PySem.W.nsIn K mainGlobals "is_number" = some (some (.ref f0))) (l0 : K.lookup f0 = some ⟨oc0, od0, .func (PySem.W.fnOf "is_number" "is_number" (defArgs s_is_number) (defBody s_is_number) (defScope s_is_number) .none kV0 dc0 pm0 an0 cd0 ct0), sl0⟩) (c0 : PySem.W.codeIn K cd0 "is_number" = true) (k0 : PySem.W.keepIn K (.ref f0) = true)
    (a1 : PySem.W.nsIn K mainGlobals "is_between" = some (some (.ref f1))) (l1 : K.lookup f1 = some ⟨oc1, od1, .func (PySem.W.fnOf "is_between" "is_between" (defArgs s_is_between) (defBody s_is_between) (defScope s_is_between) .none kV1 dc1 pm1 an1 cd1 ct1), sl1⟩) (c1 : PySem.W.codeIn K cd1 "is_between" = true) (k1 : PySem.W.keepIn K (.ref f1) = true)
    (a2 : PySem.W.nsIn K mainGlobals "consists_of" = some (some (.ref f2))) (l2 : K.lookup f2 = some ⟨oc2, od2, .func (PySem.W.fnOf "consists_of" "consists_of" (defArgs s_consists_of) (defBody s_consists_of) (defScope s_consists_of) .none kV2 dc2 pm2 an2 cd2 ct2), sl2⟩) (c2 : PySem.W.codeIn K cd2 "consists_of" = true) (k2 : PySem.W.keepIn K (.ref f2) = true)
    (a3 : PySem.W.nsIn K mainGlobals "is_body" = some (some (.ref f3))) (l3 : K.lookup f3 = some ⟨oc3, od3, .func (PySem.W.fnOf "is_body" "is_body" (defArgs s_is_body) (defBody s_is_body) (defScope s_is_body) .none kV3 dc3 pm3 an3 cd3 ct3), sl3⟩) (c3 : PySem.W.codeIn K cd3 "is_body" = true) (k3 : PySem.W.keepIn K (.ref f3) = true)
    (a4 : PySem.W.nsIn K mainGlobals "is_plain_code" = some (some (.ref f4))) (l4 : K.lookup f4 = some ⟨oc4, od4, .func (PySem.W.fnOf "is_plain_code" "is_plain_code" (defArgs s_is_plain_code) (defBody s_is_plain_code) (defScope s_is_plain_code) .none kV4 dc4 pm4 an4 cd4 ct4), sl4⟩) (c4 : PySem.W.codeIn K cd4 "is_plain_code" = true) (k4 : PySem.W.keepIn K (.ref f4) = true)
    (a5 : PySem.W.nsIn K mainGlobals "is_code" = some (some (.ref f5))) (l5 : K.lookup f5 = some ⟨oc5, od5, .func (PySem.W.fnOf "is_code" "is_code" (defArgs s_is_code) (defBody s_is_code) (defScope s_is_code) .none kV5 dc5 pm5 an5 cd5 ct5), sl5⟩) (c5 : PySem.W.codeIn K cd5 "is_code" = true) (k5 : PySem.W.keepIn K (.ref f5) = true)
    (a6 : PySem.W.nsIn K mainGlobals "mark_of" = some (some (.ref f6))) (l6 : K.lookup f6 = some ⟨oc6, od6, .func (PySem.W.fnOf "mark_of" "mark_of" (defArgs s_mark_of) (defBody s_mark_of) (defScope s_mark_of) .none kV6 dc6 pm6 an6 cd6 ct6), sl6⟩) (c6 : PySem.W.codeIn K cd6 "mark_of" = true) (k6 : PySem.W.keepIn K (.ref f6) = true)
    (a7 : PySem.W.nsIn K mainGlobals "_text_with" = some (some (.ref f7))) (l7 : K.lookup f7 = some ⟨oc7, od7, .func (PySem.W.fnOf "_text_with" "_text_with" (defArgs s__text_with) (defBody s__text_with) (defScope s__text_with) .none kV7 dc7 pm7 an7 cd7 ct7), sl7⟩) (c7 : PySem.W.codeIn K cd7 "_text_with" = true) (k7 : PySem.W.keepIn K (.ref f7) = true)
    (a8 : PySem.W.nsIn K mainGlobals "_shown" = some (some (.ref f8))) (l8 : K.lookup f8 = some ⟨oc8, od8, .func (PySem.W.fnOf "_shown" "_shown" (defArgs s__shown) (defBody s__shown) (defScope s__shown) .none kV8 dc8 pm8 an8 cd8 ct8), sl8⟩) (c8 : PySem.W.codeIn K cd8 "_shown" = true) (k8 : PySem.W.keepIn K (.ref f8) = true)
    (a9 : PySem.W.nsIn K mainGlobals "is_charset" = some (some (.ref f9))) (l9 : K.lookup f9 = some ⟨oc9, od9, .func (PySem.W.fnOf "is_charset" "is_charset" (defArgs s_is_charset) (defBody s_is_charset) (defScope s_is_charset) .none kV9 dc9 pm9 an9 cd9 ct9), sl9⟩) (c9 : PySem.W.codeIn K cd9 "is_charset" = true) (k9 : PySem.W.keepIn K (.ref f9) = true)
    (a10 : PySem.W.nsIn K mainGlobals "check_text" = some (some (.ref f10))) (l10 : K.lookup f10 = some ⟨oc10, od10, .func (PySem.W.fnOf "check_text" "check_text" (defArgs s_check_text) (defBody s_check_text) (defScope s_check_text) .none kV10 dc10 pm10 an10 cd10 ct10), sl10⟩) (c10 : PySem.W.codeIn K cd10 "check_text" = true) (k10 : PySem.W.keepIn K (.ref f10) = true)
    (a11 : PySem.W.nsIn K mainGlobals "octets_for" = some (some (.ref f11))) (l11 : K.lookup f11 = some ⟨oc11, od11, .func (PySem.W.fnOf "octets_for" "octets_for" (defArgs s_octets_for) (defBody s_octets_for) (defScope s_octets_for) .none kV11 dc11 pm11 an11 cd11 ct11), sl11⟩) (c11 : PySem.W.codeIn K cd11 "octets_for" = true) (k11 : PySem.W.keepIn K (.ref f11) = true)
    (a12 : PySem.W.nsIn K mainGlobals "text_from" = some (some (.ref f12))) (l12 : K.lookup f12 = some ⟨oc12, od12, .func (PySem.W.fnOf "text_from" "text_from" (defArgs s_text_from) (defBody s_text_from) (defScope s_text_from) .none kV12 dc12 pm12 an12 cd12 ct12), sl12⟩) (c12 : PySem.W.codeIn K cd12 "text_from" = true) (k12 : PySem.W.keepIn K (.ref f12) = true)
    (a13 : PySem.W.nsIn K mainGlobals "_check_octets" = some (some (.ref f13))) (l13 : K.lookup f13 = some ⟨oc13, od13, .func (PySem.W.fnOf "_check_octets" "_check_octets" (defArgs s__check_octets) (defBody s__check_octets) (defScope s__check_octets) .none kV13 dc13 pm13 an13 cd13 ct13), sl13⟩) (c13 : PySem.W.codeIn K cd13 "_check_octets" = true) (k13 : PySem.W.keepIn K (.ref f13) = true)
    (a14 : PySem.W.nsIn K mainGlobals "_row_of" = some (some (.ref f14))) (l14 : K.lookup f14 = some ⟨oc14, od14, .func (PySem.W.fnOf "_row_of" "_row_of" (defArgs s__row_of) (defBody s__row_of) (defScope s__row_of) .none kV14 dc14 pm14 an14 cd14 ct14), sl14⟩) (c14 : PySem.W.codeIn K cd14 "_row_of" = true) (k14 : PySem.W.keepIn K (.ref f14) = true)
    (a15 : PySem.W.nsIn K mainGlobals "_rows_of" = some (some (.ref f15))) (l15 : K.lookup f15 = some ⟨oc15, od15, .func (PySem.W.fnOf "_rows_of" "_rows_of" (defArgs s__rows_of) (defBody s__rows_of) (defScope s__rows_of) .none kV15 dc15 pm15 an15 cd15 ct15), sl15⟩) (c15 : PySem.W.codeIn K cd15 "_rows_of" = true) (k15 : PySem.W.keepIn K (.ref f15) = true)
    (a16 : PySem.W.nsIn K mainGlobals "_is_whole" = some (some (.ref f16))) (l16 : K.lookup f16 = some ⟨oc16, od16, .func (PySem.W.fnOf "_is_whole" "_is_whole" (defArgs s__is_whole) (defBody s__is_whole) (defScope s__is_whole) .none kV16 dc16 pm16 an16 cd16 ct16), sl16⟩) (c16 : PySem.W.codeIn K cd16 "_is_whole" = true) (k16 : PySem.W.keepIn K (.ref f16) = true)
    (a17 : PySem.W.nsIn K mainGlobals "_code_of" = some (some (.ref f17))) (l17 : K.lookup f17 = some ⟨oc17, od17, .func (PySem.W.fnOf "_code_of" "_code_of" (defArgs s__code_of) (defBody s__code_of) (defScope s__code_of) .none kV17 dc17 pm17 an17 cd17 ct17), sl17⟩) (c17 : PySem.W.codeIn K cd17 "_code_of" = true) (k17 : PySem.W.keepIn K (.ref f17) = true)
    (a18 : PySem.W.nsIn K mainGlobals "_law_begin" = some (some (.ref f18))) (l18 : K.lookup f18 = some ⟨oc18, od18, .func (PySem.W.fnOf "_law_begin" "_law_begin" (defArgs s__law_begin) (defBody s__law_begin) (defScope s__law_begin) .none kV18 dc18 pm18 an18 cd18 ct18), sl18⟩) (c18 : PySem.W.codeIn K cd18 "_law_begin" = true) (k18 : PySem.W.keepIn K (.ref f18) = true)
    (a19 : PySem.W.nsIn K mainGlobals "_law_mixed" = some (some (.ref f19))) (l19 : K.lookup f19 = some ⟨oc19, od19, .func (PySem.W.fnOf "_law_mixed" "_law_mixed" (defArgs s__law_mixed) (defBody s__law_mixed) (defScope s__law_mixed) .none kV19 dc19 pm19 an19 cd19 ct19), sl19⟩) (c19 : PySem.W.codeIn K cd19 "_law_mixed" = true) (k19 : PySem.W.keepIn K (.ref f19) = true)
    (a20 : PySem.W.nsIn K mainGlobals "_law_next" = some (some (.ref f20))) (l20 : K.lookup f20 = some ⟨oc20, od20, .func (PySem.W.fnOf "_law_next" "_law_next" (defArgs s__law_next) (defBody s__law_next) (defScope s__law_next) .none kV20 dc20 pm20 an20 cd20 ct20), sl20⟩) (c20 : PySem.W.codeIn K cd20 "_law_next" = true) (k20 : PySem.W.keepIn K (.ref f20) = true)
    (a21 : PySem.W.nsIn K mainGlobals "_law_octets_for" = some (some (.ref f21))) (l21 : K.lookup f21 = some ⟨oc21, od21, .func (PySem.W.fnOf "_law_octets_for" "_law_octets_for" (defArgs s__law_octets_for) (defBody s__law_octets_for) (defScope s__law_octets_for) .none kV21 dc21 pm21 an21 cd21 ct21), sl21⟩) (c21 : PySem.W.codeIn K cd21 "_law_octets_for" = true) (k21 : PySem.W.keepIn K (.ref f21) = true)
    (a22 : PySem.W.nsIn K mainGlobals "_law_is_code" = some (some (.ref f22))) (l22 : K.lookup f22 = some ⟨oc22, od22, .func (PySem.W.fnOf "_law_is_code" "_law_is_code" (defArgs s__law_is_code) (defBody s__law_is_code) (defScope s__law_is_code) .none kV22 dc22 pm22 an22 cd22 ct22), sl22⟩) (c22 : PySem.W.codeIn K cd22 "_law_is_code" = true) (k22 : PySem.W.keepIn K (.ref f22) = true)
    (a23 : PySem.W.nsIn K mainGlobals "_law_rows" = some (some (.ref f23))) (l23 : K.lookup f23 = some ⟨oc23, od23, .func (PySem.W.fnOf "_law_rows" "_law_rows" (defArgs s__law_rows) (defBody s__law_rows) (defScope s__law_rows) .none kV23 dc23 pm23 an23 cd23 ct23), sl23⟩) (c23 : PySem.W.codeIn K cd23 "_law_rows" = true) (k23 : PySem.W.keepIn K (.ref f23) = true)
    (a24 : PySem.W.nsIn K mainGlobals "_law_number" = some (some (.ref f24))) (l24 : K.lookup f24 = some ⟨oc24, od24, .func (PySem.W.fnOf "_law_number" "_law_number" (defArgs s__law_number) (defBody s__law_number) (defScope s__law_number) .none kV24 dc24 pm24 an24 cd24 ct24), sl24⟩) (c24 : PySem.W.codeIn K cd24 "_law_number" = true) (k24 : PySem.W.keepIn K (.ref f24) = true)
    (a25 : PySem.W.nsIn K mainGlobals "_law_decoded" = some (some (.ref f25))) (l25 : K.lookup f25 = some ⟨oc25, od25, .func (PySem.W.fnOf "_law_decoded" "_law_decoded" (defArgs s__law_decoded) (defBody s__law_decoded) (defScope s__law_decoded) .none kV25 dc25 pm25 an25 cd25 ct25), sl25⟩) (c25 : PySem.W.codeIn K cd25 "_law_decoded" = true) (k25 : PySem.W.keepIn K (.ref f25) = true)
    (a26 : PySem.W.nsIn K mainGlobals "_law_told" = some (some (.ref f26))) (l26 : K.lookup f26 = some ⟨oc26, od26, .func (PySem.W.fnOf "_law_told" "_law_told" (defArgs s__law_told) (defBody s__law_told) (defScope s__law_told) .none kV26 dc26 pm26 an26 cd26 ct26), sl26⟩) (c26 : PySem.W.codeIn K cd26 "_law_told" = true) (k26 : PySem.W.keepIn K (.ref f26) = true)
    (a27 : PySem.W.nsIn K mainGlobals "_law_written_right" = some (some (.ref f27))) (l27 : K.lookup f27 = some ⟨oc27, od27, .func (PySem.W.fnOf "_law_written_right" "_law_written_right" (defArgs s__law_written_right) (defBody s__law_written_right) (defScope s__law_written_right) .none kV27 dc27 pm27 an27 (.ref co27) ct27), sl27⟩) (c27 : PySem.W.codeIn K (.ref co27) "_law_written_right" = true) (k27 : PySem.W.keepIn K (.ref f27) = true)
    (a28 : PySem.W.nsIn K mainGlobals "_law_read_right" = some (some (.ref f28))) (l28 : K.lookup f28 = some ⟨oc28, od28, .func (PySem.W.fnOf "_law_read_right" "_law_read_right" (defArgs s__law_read_right) (defBody s__law_read_right) (defScope s__law_read_right) .none kV28 dc28 pm28 an28 cd28 ct28), sl28⟩) (c28 : PySem.W.codeIn K cd28 "_law_read_right" = true) (k28 : PySem.W.keepIn K (.ref f28) = true)
    (a29 : PySem.W.nsIn K mainGlobals "_law_refused_right" = some (some (.ref f29))) (l29 : K.lookup f29 = some ⟨oc29, od29, .func (PySem.W.fnOf "_law_refused_right" "_law_refused_right" (defArgs s__law_refused_right) (defBody s__law_refused_right) (defScope s__law_refused_right) .none kV29 dc29 pm29 an29 (.ref co29) ct29), sl29⟩) (c29 : PySem.W.codeIn K (.ref co29) "_law_refused_right" = true) (k29 : PySem.W.keepIn K (.ref f29) = true)
    (a30 : PySem.W.nsIn K mainGlobals "law" = some (some (.ref f30))) (l30 : K.lookup f30 = some ⟨oc30, od30, .func (PySem.W.fnOf "law" "law" (defArgs s_law) (defBody s_law) (defScope s_law) .none kV30 dc30 pm30 an30 cd30 ct30), sl30⟩) (c30 : PySem.W.codeIn K cd30 "law" = true) (k30 : PySem.W.keepIn K (.ref f30) = true)
    {nmHeaderError qHeaderError : Str} {NHeaderError : Addr} {bsHeaderError sbHeaderError : List Value} {snHeaderError : List Str} {abHeaderError : Bool} {coHeaderError : Option Bool} {ddHeaderError : Option Addr} {m0HeaderError m1HeaderError m2HeaderError m3HeaderError m5HeaderError : Option Value}
    {nmBadText qBadText : Str} {NBadText : Addr} {bsBadText sbBadText : List Value} {snBadText : List Str} {abBadText : Bool} {coBadText : Option Bool} {ddBadText : Option Addr} {m0BadText m1BadText m2BadText m3BadText m5BadText : Option Value}
    {ocBadText kVBadText dcBadText pmBadText ctBadText cclBadText clBadText : Value} {odBadText anBadText cddBadText cldBadText : Option Addr} {slBadText ccsBadText cslBadText : Array (Option Value)} {vsBadText : Array Value} {fileBadText : Str} {tfBadText : Tok}
    {nmBadCode qBadCode : Str} {NBadCode : Addr} {bsBadCode sbBadCode : List Value} {snBadCode : List Str} {abBadCode : Bool} {coBadCode : Option Bool} {ddBadCode : Option Addr} {m0BadCode m1BadCode m2BadCode m3BadCode m5BadCode : Option Value}
    {ocBadCode kVBadCode dcBadCode pmBadCode ctBadCode cclBadCode clBadCode : Value} {odBadCode anBadCode cddBadCode cldBadCode : Option Addr} {slBadCode ccsBadCode cslBadCode : Array (Option Value)} {vsBadCode : Array Value} {fileBadCode : Str} {tfBadCode : Tok}
    {nmBadOctet qBadOctet : Str} {NBadOctet : Addr} {bsBadOctet sbBadOctet : List Value} {snBadOctet : List Str} {abBadOctet : Bool} {coBadOctet : Option Bool} {ddBadOctet : Option Addr} {m0BadOctet m1BadOctet m2BadOctet m3BadOctet m5BadOctet : Option Value}
    {ocBadOctet kVBadOctet dcBadOctet pmBadOctet ctBadOctet cclBadOctet clBadOctet : Value} {odBadOctet anBadOctet cddBadOctet cldBadOctet : Option Addr} {slBadOctet ccsBadOctet cslBadOctet : Array (Option Value)} {vsBadOctet : Array Value} {fileBadOctet : Str} {tfBadOctet : Tok}
    {nmBadCharset qBadCharset : Str} {NBadCharset : Addr} {bsBadCharset sbBadCharset : List Value} {snBadCharset : List Str} {abBadCharset : Bool} {coBadCharset : Option Bool} {ddBadCharset : Option Addr} {m0BadCharset m1BadCharset m2BadCharset m3BadCharset m5BadCharset : Option Value}
    {ocBadCharset kVBadCharset dcBadCharset pmBadCharset ctBadCharset cclBadCharset clBadCharset : Value} {odBadCharset anBadCharset cddBadCharset cldBadCharset : Option Addr} {slBadCharset ccsBadCharset cslBadCharset : Array (Option Value)} {vsBadCharset : Array Value} {fileBadCharset : Str} {tfBadCharset : Tok}
    (sup : PySem.W.nsIn K mainGlobals "super" = some none)
    (opq : PySem.W.nsIn K cStatics "thirdparty.any" = some none)
    (uhn : PySem.W.specialIn K (.builtin "object.__class__") "__get__" = some (some (.builtin "getset_descriptor.__get__")))
    (uht : PySem.W.takesIn K (.builtin "object.__class__") = some true)
    (aHeaderError : PySem.W.nsIn K mainGlobals "HeaderError" = some (some (.ref CHeaderError)))
    (eHeaderError : PySem.W.subIn K (.ref CHeaderError) (.type "BaseException") = some true)
    (dHeaderError : PySem.W.hasDictIn K CHeaderError = true)
    (tHeaderError : PySem.W.typeIn K (.ref CHeaderError) = some (.type "type"))
    (xHeaderError : K.lookup CHeaderError = some (excClassObj nmHeaderError qHeaderError CHeaderError NHeaderError bsHeaderError [.type "ValueError", .type "Exception", .type "BaseException", .type "object"] true snHeaderError sbHeaderError abHeaderError coHeaderError ddHeaderError m0HeaderError m1HeaderError m2HeaderError m3HeaderError m5HeaderError "ValueError.__new__"))
    (alHeaderError : PySem.W.findIn K (.ref CHeaderError) "__init__" = some (some (.builtin "ValueError.__init__")))
    (aBadText : PySem.W.nsIn K mainGlobals "BadText" = some (some (.ref CBadText)))
    (aBadCode : PySem.W.nsIn K mainGlobals "BadCode" = some (some (.ref CBadCode)))
    (aBadOctet : PySem.W.nsIn K mainGlobals "BadOctet" = some (some (.ref CBadOctet)))
    (aBadCharset : PySem.W.nsIn K mainGlobals "BadCharset" = some (some (.ref CBadCharset)))
    (xBadText : K.lookup CBadText = some (excClassObj nmBadText qBadText CBadText NBadText bsBadText [.ref CHeaderError, .type "ValueError", .type "Exception", .type "BaseException", .type "object"] true snBadText sbBadText abBadText coBadText ddBadText m0BadText m1BadText m2BadText m3BadText m5BadText "ValueError.__new__"))
    (inBadText : PySem.W.findIn K (.ref CBadText) "__init__" = some (some (.ref iBadText)))
    (tyBadText : PySem.W.typeIn K (.ref iBadText) = some (.type "function"))
    (saBadText : PySem.W.findIn K (.ref CBadText) "__setattr__" = some (some (.builtin "object.__setattr__")))
    (nfBadText : PySem.W.findIn K (.ref CBadText) "given" = some none)
    (eBadText : PySem.W.subIn K (.ref CBadText) (.type "BaseException") = some true)
    (veBadText : PySem.W.subIn K (.ref CBadText) (.type "ValueError") = some true)
    (meBadText : PySem.W.mroIn K CBadText (.ref CBadText) = some true)
    (moBadText : PySem.W.mroIn K CBadText (.type "object") = some true)
    (tBadText : PySem.W.typeIn K (.ref CBadText) = some (.type "type"))
    (dBadText : PySem.W.hasDictIn K CBadText = true)
    (kBadText : PySem.W.keepIn K (.ref CBadText) = true)
    (gaBadText : PySem.W.findIn K (.ref CBadText) "__getattribute__" = some (some (.builtin "BaseException.__getattribute__")))
    (ggBadText : PySem.W.findIn K (.ref CBadText) "__getattr__" = some none)
    (caBadText : PySem.W.findIn K (.ref CBadText) "__class__" = some (some (.builtin "object.__class__")))
    (sBadTextHeaderError : PySem.W.subIn K (.ref CBadText) (.ref CHeaderError) = some true)
    (sBadTextBadText : PySem.W.subIn K (.ref CBadText) (.ref CBadText) = some true)
    (sBadTextBadCode : PySem.W.subIn K (.ref CBadText) (.ref CBadCode) = some false)
    (uBadTextBadCode : (Value.ref CBadText == Value.ref CBadCode) = false)
    (sBadTextBadOctet : PySem.W.subIn K (.ref CBadText) (.ref CBadOctet) = some false)
    (uBadTextBadOctet : (Value.ref CBadText == Value.ref CBadOctet) = false)
    (sBadTextBadCharset : PySem.W.subIn K (.ref CBadText) (.ref CBadCharset) = some false)
    (uBadTextBadCharset : (Value.ref CBadText == Value.ref CBadCharset) = false)
    (lBadText : K.lookup iBadText = some ⟨ocBadText, odBadText, .func (PySem.W.fnX "__init__" "BadText.__init__" (defArgs si_BadText) (defBody si_BadText) (defScope si_BadText) [("__class__", ccBadText)] .none kVBadText dcBadText pmBadText anBadText (.ref cdBadText) ctBadText), slBadText⟩)
    (cBadText : PySem.W.codeIn K (.ref cdBadText) "BadText.__init__" = true)
    (ldBadText : K.lookup cdBadText = some ⟨cclBadText, cddBadText, .fields vsBadText, ccsBadText⟩)
    (vBadText : vsBadText[2]? = some (.str fileBadText tfBadText))
    (fiBadText : ((P).main.file == fileBadText) = true)
    (lcBadText : K.lookup ccBadText = some ⟨clBadText, cldBadText, .cell (some (.ref CBadText)), cslBadText⟩)
    (xBadCode : K.lookup CBadCode = some (excClassObj nmBadCode qBadCode CBadCode NBadCode bsBadCode [.ref CHeaderError, .type "ValueError", .type "Exception", .type "BaseException", .type "object"] true snBadCode sbBadCode abBadCode coBadCode ddBadCode m0BadCode m1BadCode m2BadCode m3BadCode m5BadCode "ValueError.__new__"))
    (inBadCode : PySem.W.findIn K (.ref CBadCode) "__init__" = some (some (.ref iBadCode)))
    (tyBadCode : PySem.W.typeIn K (.ref iBadCode) = some (.type "function"))
    (saBadCode : PySem.W.findIn K (.ref CBadCode) "__setattr__" = some (some (.builtin "object.__setattr__")))
    (nfBadCode : PySem.W.findIn K (.ref CBadCode) "place" = some none)
    (eBadCode : PySem.W.subIn K (.ref CBadCode) (.type "BaseException") = some true)
    (veBadCode : PySem.W.subIn K (.ref CBadCode) (.type "ValueError") = some true)
    (meBadCode : PySem.W.mroIn K CBadCode (.ref CBadCode) = some true)
    (moBadCode : PySem.W.mroIn K CBadCode (.type "object") = some true)
    (tBadCode : PySem.W.typeIn K (.ref CBadCode) = some (.type "type"))
    (dBadCode : PySem.W.hasDictIn K CBadCode = true)
    (kBadCode : PySem.W.keepIn K (.ref CBadCode) = true)
    (gaBadCode : PySem.W.findIn K (.ref CBadCode) "__getattribute__" = some (some (.builtin "BaseException.__getattribute__")))
    (ggBadCode : PySem.W.findIn K (.ref CBadCode) "__getattr__" = some none)
    (caBadCode : PySem.W.findIn K (.ref CBadCode) "__class__" = some (some (.builtin "object.__class__")))
    (sBadCodeHeaderError : PySem.W.subIn K (.ref CBadCode) (.ref CHeaderError) = some true)
    (sBadCodeBadCode : PySem.W.subIn K (.ref CBadCode) (.ref CBadCode) = some true)
    (sBadCodeBadText : PySem.W.subIn K (.ref CBadCode) (.ref CBadText) = some false)
    (uBadCodeBadText : (Value.ref CBadCode == Value.ref CBadText) = false)
    (sBadCodeBadOctet : PySem.W.subIn K (.ref CBadCode) (.ref CBadOctet) = some false)
    (uBadCodeBadOctet : (Value.ref CBadCode == Value.ref CBadOctet) = false)
    (sBadCodeBadCharset : PySem.W.subIn K (.ref CBadCode) (.ref CBadCharset) = some false)
    (uBadCodeBadCharset : (Value.ref CBadCode == Value.ref CBadCharset) = false)
    (lBadCode : K.lookup iBadCode = some ⟨ocBadCode, odBadCode, .func (PySem.W.fnX "__init__" "BadCode.__init__" (defArgs si_BadCode) (defBody si_BadCode) (defScope si_BadCode) [("__class__", ccBadCode)] .none kVBadCode dcBadCode pmBadCode anBadCode (.ref cdBadCode) ctBadCode), slBadCode⟩)
    (cBadCode : PySem.W.codeIn K (.ref cdBadCode) "BadCode.__init__" = true)
    (ldBadCode : K.lookup cdBadCode = some ⟨cclBadCode, cddBadCode, .fields vsBadCode, ccsBadCode⟩)
    (vBadCode : vsBadCode[2]? = some (.str fileBadCode tfBadCode))
    (fiBadCode : ((P).main.file == fileBadCode) = true)
    (lcBadCode : K.lookup ccBadCode = some ⟨clBadCode, cldBadCode, .cell (some (.ref CBadCode)), cslBadCode⟩)
    (xBadOctet : K.lookup CBadOctet = some (excClassObj nmBadOctet qBadOctet CBadOctet NBadOctet bsBadOctet [.ref CHeaderError, .type "ValueError", .type "Exception", .type "BaseException", .type "object"] true snBadOctet sbBadOctet abBadOctet coBadOctet ddBadOctet m0BadOctet m1BadOctet m2BadOctet m3BadOctet m5BadOctet "ValueError.__new__"))
    (inBadOctet : PySem.W.findIn K (.ref CBadOctet) "__init__" = some (some (.ref iBadOctet)))
    (tyBadOctet : PySem.W.typeIn K (.ref iBadOctet) = some (.type "function"))
    (saBadOctet : PySem.W.findIn K (.ref CBadOctet) "__setattr__" = some (some (.builtin "object.__setattr__")))
    (nfBadOctet : PySem.W.findIn K (.ref CBadOctet) "place" = some none)
    (eBadOctet : PySem.W.subIn K (.ref CBadOctet) (.type "BaseException") = some true)
    (veBadOctet : PySem.W.subIn K (.ref CBadOctet) (.type "ValueError") = some true)
    (meBadOctet : PySem.W.mroIn K CBadOctet (.ref CBadOctet) = some true)
    (moBadOctet : PySem.W.mroIn K CBadOctet (.type "object") = some true)
    (tBadOctet : PySem.W.typeIn K (.ref CBadOctet) = some (.type "type"))
    (dBadOctet : PySem.W.hasDictIn K CBadOctet = true)
    (kBadOctet : PySem.W.keepIn K (.ref CBadOctet) = true)
    (gaBadOctet : PySem.W.findIn K (.ref CBadOctet) "__getattribute__" = some (some (.builtin "BaseException.__getattribute__")))
    (ggBadOctet : PySem.W.findIn K (.ref CBadOctet) "__getattr__" = some none)
    (caBadOctet : PySem.W.findIn K (.ref CBadOctet) "__class__" = some (some (.builtin "object.__class__")))
    (sBadOctetHeaderError : PySem.W.subIn K (.ref CBadOctet) (.ref CHeaderError) = some true)
    (sBadOctetBadOctet : PySem.W.subIn K (.ref CBadOctet) (.ref CBadOctet) = some true)
    (sBadOctetBadText : PySem.W.subIn K (.ref CBadOctet) (.ref CBadText) = some false)
    (uBadOctetBadText : (Value.ref CBadOctet == Value.ref CBadText) = false)
    (sBadOctetBadCode : PySem.W.subIn K (.ref CBadOctet) (.ref CBadCode) = some false)
    (uBadOctetBadCode : (Value.ref CBadOctet == Value.ref CBadCode) = false)
    (sBadOctetBadCharset : PySem.W.subIn K (.ref CBadOctet) (.ref CBadCharset) = some false)
    (uBadOctetBadCharset : (Value.ref CBadOctet == Value.ref CBadCharset) = false)
    (lBadOctet : K.lookup iBadOctet = some ⟨ocBadOctet, odBadOctet, .func (PySem.W.fnX "__init__" "BadOctet.__init__" (defArgs si_BadOctet) (defBody si_BadOctet) (defScope si_BadOctet) [("__class__", ccBadOctet)] .none kVBadOctet dcBadOctet pmBadOctet anBadOctet (.ref cdBadOctet) ctBadOctet), slBadOctet⟩)
    (cBadOctet : PySem.W.codeIn K (.ref cdBadOctet) "BadOctet.__init__" = true)
    (ldBadOctet : K.lookup cdBadOctet = some ⟨cclBadOctet, cddBadOctet, .fields vsBadOctet, ccsBadOctet⟩)
    (vBadOctet : vsBadOctet[2]? = some (.str fileBadOctet tfBadOctet))
    (fiBadOctet : ((P).main.file == fileBadOctet) = true)
    (lcBadOctet : K.lookup ccBadOctet = some ⟨clBadOctet, cldBadOctet, .cell (some (.ref CBadOctet)), cslBadOctet⟩)
    (xBadCharset : K.lookup CBadCharset = some (excClassObj nmBadCharset qBadCharset CBadCharset NBadCharset bsBadCharset [.ref CHeaderError, .type "ValueError", .type "Exception", .type "BaseException", .type "object"] true snBadCharset sbBadCharset abBadCharset coBadCharset ddBadCharset m0BadCharset m1BadCharset m2BadCharset m3BadCharset m5BadCharset "ValueError.__new__"))
    (inBadCharset : PySem.W.findIn K (.ref CBadCharset) "__init__" = some (some (.ref iBadCharset)))
    (tyBadCharset : PySem.W.typeIn K (.ref iBadCharset) = some (.type "function"))
    (saBadCharset : PySem.W.findIn K (.ref CBadCharset) "__setattr__" = some (some (.builtin "object.__setattr__")))
    (nfBadCharset : PySem.W.findIn K (.ref CBadCharset) "given" = some none)
    (eBadCharset : PySem.W.subIn K (.ref CBadCharset) (.type "BaseException") = some true)
    (veBadCharset : PySem.W.subIn K (.ref CBadCharset) (.type "ValueError") = some true)
    (meBadCharset : PySem.W.mroIn K CBadCharset (.ref CBadCharset) = some true)
    (moBadCharset : PySem.W.mroIn K CBadCharset (.type "object") = some true)
    (tBadCharset : PySem.W.typeIn K (.ref CBadCharset) = some (.type "type"))
    (dBadCharset : PySem.W.hasDictIn K CBadCharset = true)
    (kBadCharset : PySem.W.keepIn K (.ref CBadCharset) = true)
    (gaBadCharset : PySem.W.findIn K (.ref CBadCharset) "__getattribute__" = some (some (.builtin "BaseException.__getattribute__")))
    (ggBadCharset : PySem.W.findIn K (.ref CBadCharset) "__getattr__" = some none)
    (caBadCharset : PySem.W.findIn K (.ref CBadCharset) "__class__" = some (some (.builtin "object.__class__")))
    (sBadCharsetHeaderError : PySem.W.subIn K (.ref CBadCharset) (.ref CHeaderError) = some true)
    (sBadCharsetBadCharset : PySem.W.subIn K (.ref CBadCharset) (.ref CBadCharset) = some true)
    (sBadCharsetBadText : PySem.W.subIn K (.ref CBadCharset) (.ref CBadText) = some false)
    (uBadCharsetBadText : (Value.ref CBadCharset == Value.ref CBadText) = false)
    (sBadCharsetBadCode : PySem.W.subIn K (.ref CBadCharset) (.ref CBadCode) = some false)
    (uBadCharsetBadCode : (Value.ref CBadCharset == Value.ref CBadCode) = false)
    (sBadCharsetBadOctet : PySem.W.subIn K (.ref CBadCharset) (.ref CBadOctet) = some false)
    (uBadCharsetBadOctet : (Value.ref CBadCharset == Value.ref CBadOctet) = false)
    (lBadCharset : K.lookup iBadCharset = some ⟨ocBadCharset, odBadCharset, .func (PySem.W.fnX "__init__" "BadCharset.__init__" (defArgs si_BadCharset) (defBody si_BadCharset) (defScope si_BadCharset) [("__class__", ccBadCharset)] .none kVBadCharset dcBadCharset pmBadCharset anBadCharset (.ref cdBadCharset) ctBadCharset), slBadCharset⟩)
    (cBadCharset : PySem.W.codeIn K (.ref cdBadCharset) "BadCharset.__init__" = true)
    (ldBadCharset : K.lookup cdBadCharset = some ⟨cclBadCharset, cddBadCharset, .fields vsBadCharset, ccsBadCharset⟩)
    (vBadCharset : vsBadCharset[2]? = some (.str fileBadCharset tfBadCharset))
    (fiBadCharset : ((P).main.file == fileBadCharset) = true)
    (lcBadCharset : K.lookup ccBadCharset = some ⟨clBadCharset, cldBadCharset, .cell (some (.ref CBadCharset)), cslBadCharset⟩)
    {ocText0 kVText0 dcText0 pmText0 cdText0 ctText0 : Value} {odText0 anText0 : Option Addr} {slText0 : Array (Option Value)}
    {oDText0 : Value} {dDText0 : Option Addr} {zDText0 : Nat} {sDText0 : Array (Option Value)} {tDText00 : Tok}
    {ocText1 kVText1 dcText1 pmText1 cdText1 ctText1 : Value} {odText1 anText1 : Option Addr} {slText1 : Array (Option Value)}
    {rText1 : List Value}
    {ocText2 kVText2 dcText2 pmText2 cdText2 ctText2 : Value} {odText2 anText2 : Option Addr} {slText2 : Array (Option Value)}
    {rText2 : List Value}
    {ocText3 kVText3 dcText3 pmText3 cdText3 ctText3 : Value} {odText3 anText3 : Option Addr} {slText3 : Array (Option Value)}
    {ocText4 kVText4 dcText4 pmText4 cdText4 ctText4 : Value} {odText4 anText4 : Option Addr} {slText4 : Array (Option Value)}
    (aText : PySem.W.nsIn K mainGlobals "Text" = some (some (.ref CText)))
    (pgText : PySem.W.plainGet K CText Str.empty = true)
    (hdText : PySem.W.hasDictIn K CText = true)
    (poText : PySem.W.plainOver K CText = true)
    (saText : PySem.W.findIn K (.ref CText) "__setattr__" = some (some (.builtin "object.__setattr__")))
    (mkText : PySem.W.makesIn K CText = true)
    (kcText : PySem.W.keepIn K (.ref CText) = true)
    (sfText : PySem.W.selfFirst K CText = true)
    (hcText : PySem.W.findIn K (.ref CText) "__class__" = some (some (.builtin "object.__class__")))
    (moText : PySem.W.mroIn K CText (.type "object") = some true)
    (uhnText : PySem.W.specialIn K (.builtin "object.__class__") "__get__" = some (some (.builtin "getset_descriptor.__get__")))
    (uhtText : PySem.W.takesIn K (.builtin "object.__class__") = some true)
    (nxText : PySem.W.findIn K (.ref CText) "__ne__" = some (some (.builtin "object.__ne__")))
    (nkText0 : PySem.W.kitOne K (.type "NoneType") (.ref CText) = some false)
    (nkText1 : PySem.W.kitOne K (.type "bool") (.ref CText) = some false)
    (nkText2 : PySem.W.kitOne K (.type "int") (.ref CText) = some false)
    (nkText3 : PySem.W.kitOne K (.type "str") (.ref CText) = some false)
    (nkText4 : PySem.W.kitOne K (.type "list") (.ref CText) = some false)
    (nkText5 : PySem.W.kitOne K (.type "tuple") (.ref CText) = some false)
    (nkText6 : PySem.W.kitOne K (.type "dict") (.ref CText) = some false)
    (nsText0 : PySem.W.subIn K (.ref CText) (.type "NoneType") = some false)
    (nsText1 : PySem.W.subIn K (.ref CText) (.type "bool") = some false)
    (nsText2 : PySem.W.subIn K (.ref CText) (.type "int") = some false)
    (nsText3 : PySem.W.subIn K (.ref CText) (.type "str") = some false)
    (nsText4 : PySem.W.subIn K (.ref CText) (.type "list") = some false)
    (nsText5 : PySem.W.subIn K (.ref CText) (.type "tuple") = some false)
    (nsText6 : PySem.W.subIn K (.ref CText) (.type "dict") = some false)
    (ktTextint : PySem.W.subIn K (.ref CText) (.type "int") = some false)
    (nfText0 : PySem.W.findIn K (.ref CText) "_codes" = some none)
    (rdText : PySem.W.readsIn K CText (.type "type") = true)
    (gaText : PySem.W.specialIn K (.ref CText) "__getattribute__" = some (some (.builtin "type.__getattribute__")))
    (iText0 : PySem.W.findIn K (.ref CText) "__init__" = some (some (.ref fText0)))
    (nText0 : PySem.W.isFn K (.ref fText0) = true)
    (lText0 : K.lookup fText0 = some ⟨ocText0, odText0, .func (PySem.W.fnOf "__init__" "Text.__init__" (defArgs s_Text___init__) (defBody s_Text___init__) (defScope s_Text___init__) (.ref DText0) kVText0 dcText0 pmText0 anText0 cdText0 ctText0), slText0⟩)
    (lDText0 : K.lookup DText0 = some ⟨oDText0, dDText0, .seq #[Value.str "" tDText00] zDText0, sDText0⟩)
    (cText0 : PySem.W.codeIn K cdText0 "Text.__init__" = true)
    (kText0 : PySem.W.keepIn K (.ref fText0) = true)
    (iText1 : PySem.W.findCls K (.ref CText) (.type "type") "of" = some (.get (.builtin "classmethod.__get__") (.ref pText1) .none (.ref CText)))
    (qText1 : PySem.W.recIn K pText1 "classmethod" = some (.ref fText1 :: rText1))
    (nText1 : PySem.W.fnIn K fText1 = true)
    (lText1 : K.lookup fText1 = some ⟨ocText1, odText1, .func (PySem.W.fnOf "of" "Text.of" (defArgs s_Text_of) (defBody s_Text_of) (defScope s_Text_of) .none kVText1 dcText1 pmText1 anText1 cdText1 ctText1), slText1⟩)
    (cText1 : PySem.W.codeIn K cdText1 "Text.of" = true)
    (kText1 : PySem.W.keepIn K (.ref fText1) = true)
    (iText2 : PySem.W.findIn K (.ref CText) "codes" = some (some (.ref pText2)))
    (gText2 : PySem.W.specialIn K (.ref pText2) "__get__" = some (some (.builtin "property.__get__")))
    (tText2 : PySem.W.takesIn K (.ref pText2) = some true)
    (qText2 : PySem.W.recIn K pText2 "property" = some (.ref fText2 :: rText2))
    (lText2 : K.lookup fText2 = some ⟨ocText2, odText2, .func (PySem.W.fnOf "codes" "Text.codes" (defArgs s_Text_codes) (defBody s_Text_codes) (defScope s_Text_codes) .none kVText2 dcText2 pmText2 anText2 cdText2 ctText2), slText2⟩)
    (cText2 : PySem.W.codeIn K cdText2 "Text.codes" = true)
    (kText2 : PySem.W.keepIn K (.ref fText2) = true)
    (iText3 : PySem.W.findIn K (.ref CText) "__getitem__" = some (some (.ref fText3)))
    (nText3 : PySem.W.isFn K (.ref fText3) = true)
    (fnText3 : PySem.W.fnIn K fText3 = true)
    (lText3 : K.lookup fText3 = some ⟨ocText3, odText3, .func (PySem.W.fnOf "__getitem__" "Text.__getitem__" (defArgs s_Text___getitem__) (defBody s_Text___getitem__) (defScope s_Text___getitem__) .none kVText3 dcText3 pmText3 anText3 cdText3 ctText3), slText3⟩)
    (cText3 : PySem.W.codeIn K cdText3 "Text.__getitem__" = true)
    (kText3 : PySem.W.keepIn K (.ref fText3) = true)
    (iText4 : PySem.W.findIn K (.ref CText) "__eq__" = some (some (.ref fText4)))
    (nText4 : PySem.W.isFn K (.ref fText4) = true)
    (lText4 : K.lookup fText4 = some ⟨ocText4, odText4, .func (PySem.W.fnOf "__eq__" "Text.__eq__" (defArgs s_Text___eq__) (defBody s_Text___eq__) (defScope s_Text___eq__) .none kVText4 dcText4 pmText4 anText4 cdText4 ctText4), slText4⟩)
    (cText4 : PySem.W.codeIn K cdText4 "Text.__eq__" = true)
    (kText4 : PySem.W.keepIn K (.ref fText4) = true)
    (cl27 : K.lookup co27 = some ⟨cc27, cz27, .fields (List.toArray (x27_0 :: x27_1 :: x27_2 :: x27_3 :: x27_4 :: x27_5 :: x27_6 :: x27_7 :: x27_8 :: x27_9 :: x27_10 :: Value.ref P27 :: rest27)), cs27⟩) (np27 : K.lookup P27 = none) (rd27 : (PyProof.Rows.recsOf q).find? (fun e => e.name == ("_law_written_right" : Str)) = some dr27)
    (cl29 : K.lookup co29 = some ⟨cc29, cz29, .fields (List.toArray (x29_0 :: x29_1 :: x29_2 :: x29_3 :: x29_4 :: x29_5 :: x29_6 :: x29_7 :: x29_8 :: x29_9 :: x29_10 :: Value.ref P29 :: rest29)), cs29⟩) (np29 : K.lookup P29 = none) (rd29 : (PyProof.Rows.recsOf q).find? (fun e => e.name == ("_law_refused_right" : Str)) = some dr29)
    (ne27_29 : P27 ≠ P29)
    (ne29_27 : P29 ≠ P27)
    (v0 : PySem.W.nsIn K mainGlobals "MARKS" = some (some (.str " !\"#$&'()*+,-./0123456789:;<=>?@ABCDEFGHIJKLMNOPQRSTUVWXYZ[\\]^_`abcdefghijklmnopqrstuvwxyz{|}~" t0)))
    (v1 : PySem.W.nsIn K mainGlobals "_MISSING_CODE" = some (some (.int 37 t1)))
    (v2 : PySem.W.nsIn K mainGlobals "_SPACE" = some (some (.int 32 t2)))
    (v3 : PySem.W.nsIn K mainGlobals "CHARSETS" = some (some (.ref ac3))) (u3 : K.lookup ac3 = some ⟨.type "tuple", dd3, .seq #[Value.str "latin" tc3x0, Value.str "wide" tc3x1, Value.str "steps" tc3x2] nn3, ss3⟩)
    (v4 : PySem.W.nsIn K mainGlobals "_UNKNOWN" = some (some (.int 63 t4)))
    (z0 : PySem.W.nsIn K mainGlobals "len" = some none)
    (z1 : PySem.W.nsIn K mainGlobals "range" = some none)
    (z2 : PySem.W.nsIn K mainGlobals "isinstance" = some none)
    (z3 : PySem.W.nsIn K mainGlobals "int" = some none)
    (z4 : PySem.W.nsIn K mainGlobals "str" = some none)
    (z5 : PySem.W.nsIn K mainGlobals "bool" = some none)
    (z6 : PySem.W.nsIn K mainGlobals "repr" = some none)
    (z7 : PySem.W.nsIn K mainGlobals "all" = some none)
    (z8 : PySem.W.nsIn K mainGlobals "ord" = some none)
    (z9 : PySem.W.nsIn K mainGlobals "tuple" = some none)
    (z10 : PySem.W.nsIn K mainGlobals "list" = some none)
    (z11 : PySem.W.nsIn K mainGlobals "sum" = some none)
    (z12 : PySem.W.nsIn K mainGlobals "enumerate" = some none)
    : ∃ (fd : FuncData) (cs : List (Addr × Addr)) (sp : Sp), (∀ p ∈ cs, K.lookup p.2 = none ∧ PySem.W.CodeHd h p.1 p.2 ∧ h.get? p.2 = some LamD.tab0) ∧ (∀ (s : Shared) (u : Value), BindsTo s fd ⟨[u], []⟩ [("script", u)]) ∧
    (∀ (H : Hp) (a : Addr) (ns : List Int), ns.length ≤ 63 → (∀ p ∈ cs, H p.2 = some (.tbl #[])) → SqL K H a (ns.map V.int) → sp [.ref a] H (fun v _ => v = .bl true) fun _ _ _ => False) ∧
    ∀ base : Heap, K.In base → base.Ns mainGlobals mg → (∀ p ∈ cs, LamX.TabB base mg p.1 p.2) → FnG P w K mg base CX0 12 fa fd ["script"] sp := by
  have e := hfa.symm.trans (PySem.W.mg_of X G a30)
  cases e
  have F0 := fun_mk (st := s_is_number) l0 c0 k0
  have F1 := fun_mk (st := s_is_between) l1 c1 k1
  have F2 := fun_mk (st := s_consists_of) l2 c2 k2
  have F3 := fun_mk (st := s_is_body) l3 c3 k3
  have F4 := fun_mk (st := s_is_plain_code) l4 c4 k4
  have F5 := fun_mk (st := s_is_code) l5 c5 k5
  have F6 := fun_mk (st := s_mark_of) l6 c6 k6
  have F7 := fun_mk (st := s__text_with) l7 c7 k7
  have F8 := fun_mk (st := s__shown) l8 c8 k8
  have F9 := fun_mk (st := s_is_charset) l9 c9 k9
  have F10 := fun_mk (st := s_check_text) l10 c10 k10
  have F11 := fun_mk (st := s_octets_for) l11 c11 k11
  have F12 := fun_mk (st := s_text_from) l12 c12 k12
  have F13 := fun_mk (st := s__check_octets) l13 c13 k13
  have F14 := fun_mk (st := s__row_of) l14 c14 k14
  have F15 := fun_mk (st := s__rows_of) l15 c15 k15
  have F16 := fun_mk (st := s__is_whole) l16 c16 k16
  have F17 := fun_mk (st := s__code_of) l17 c17 k17
  have F18 := fun_mk (st := s__law_begin) l18 c18 k18
  have F19 := fun_mk (st := s__law_mixed) l19 c19 k19
  have F20 := fun_mk (st := s__law_next) l20 c20 k20
  have F21 := fun_mk (st := s__law_octets_for) l21 c21 k21
  have F22 := fun_mk (st := s__law_is_code) l22 c22 k22
  have F23 := fun_mk (st := s__law_rows) l23 c23 k23
  have F24 := fun_mk (st := s__law_number) l24 c24 k24
  have F25 := fun_mk (st := s__law_decoded) l25 c25 k25
  have F26 := fun_mk (st := s__law_told) l26 c26 k26
  have F27 := fun_mk (st := s__law_written_right) l27 c27 k27
  have F28 := fun_mk (st := s__law_read_right) l28 c28 k28
  have F29 := fun_mk (st := s__law_refused_right) l29 c29 k29
  have F30 := fun_mk (st := s_law) l30 c30 k30
  have FText0 : FunD K "__init__" "Text.__init__" (defArgs s_Text___init__) (defBody s_Text___init__) (defScope s_Text___init__) [.str ""] [] fText0 _ := ⟨⟨ocText0, odText0, .ref DText0, kVText0, dcText0, pmText0, anText0, cdText0, ctText0, slText0, rfl, lText0, cText0, .inr ⟨by simp, DText0, _, [Value.str "" tDText00], zDText0, rfl, lDText0, rfl, (.cons ⟨_, rfl⟩ .nil)⟩, .inl rfl⟩, kText0⟩
  obtain ⟨dsText0, viText0, bdText0⟩ := FText0.binds1 (ps := ["self", "marks"]) 1 0 (by simp) rfl fun _ _ _ _ _ _ _ us its h1 h2 => match us, its, h1, h2 with | [_], [_], _, _ => ⟨_, rfl, rfl⟩
  have FText1 := fun_mk (st := s_Text_of) lText1 cText1 kText1
  have FText2 := fun_mk (st := s_Text_codes) lText2 cText2 kText2
  have FText3 := fun_mk (st := s_Text___getitem__) lText3 cText3 kText3
  have FText4 := fun_mk (st := s_Text___eq__) lText4 cText4 kText4
  let T : Txt K mg := {
    f_is_number := f0, fd_is_number := _, F_is_number := F0, g_is_number := PySem.W.mg_of X G a0, b_is_number := F0.binds (ps := ["thing"]) fun _ _ _ _ _ _ us hl => match us, hl with | [_], _ => rfl,
    f_is_between := f1, fd_is_between := _, F_is_between := F1, g_is_between := PySem.W.mg_of X G a1, b_is_between := F1.binds (ps := ["thing", "low", "high"]) fun _ _ _ _ _ _ us hl => match us, hl with | [_, _, _], _ => rfl,
    f_consists_of := f2, fd_consists_of := _, F_consists_of := F2, g_consists_of := PySem.W.mg_of X G a2, b_consists_of := F2.binds (ps := ["thing", "marks"]) fun _ _ _ _ _ _ us hl => match us, hl with | [_, _], _ => rfl,
    f_is_body := f3, fd_is_body := _, F_is_body := F3, g_is_body := PySem.W.mg_of X G a3, b_is_body := F3.binds (ps := ["thing"]) fun _ _ _ _ _ _ us hl => match us, hl with | [_], _ => rfl,
    f_is_plain_code := f4, fd_is_plain_code := _, F_is_plain_code := F4, g_is_plain_code := PySem.W.mg_of X G a4, b_is_plain_code := F4.binds (ps := ["thing"]) fun _ _ _ _ _ _ us hl => match us, hl with | [_], _ => rfl,
    f_is_code := f5, fd_is_code := _, F_is_code := F5, g_is_code := PySem.W.mg_of X G a5, b_is_code := F5.binds (ps := ["thing"]) fun _ _ _ _ _ _ us hl => match us, hl with | [_], _ => rfl,
    f_mark_of := f6, fd_mark_of := _, F_mark_of := F6, g_mark_of := PySem.W.mg_of X G a6, b_mark_of := F6.binds (ps := ["code"]) fun _ _ _ _ _ _ us hl => match us, hl with | [_], _ => rfl,
    f__text_with := f7, fd__text_with := _, F__text_with := F7, g__text_with := PySem.W.mg_of X G a7, b__text_with := F7.binds (ps := ["codes"]) fun _ _ _ _ _ _ us hl => match us, hl with | [_], _ => rfl,
    f__shown := f8, fd__shown := _, F__shown := F8, g__shown := PySem.W.mg_of X G a8, b__shown := F8.binds (ps := ["code"]) fun _ _ _ _ _ _ us hl => match us, hl with | [_], _ => rfl,
    f_is_charset := f9, fd_is_charset := _, F_is_charset := F9, g_is_charset := PySem.W.mg_of X G a9, b_is_charset := F9.binds (ps := ["thing"]) fun _ _ _ _ _ _ us hl => match us, hl with | [_], _ => rfl,
    f_check_text := f10, fd_check_text := _, F_check_text := F10, g_check_text := PySem.W.mg_of X G a10, b_check_text := F10.binds (ps := ["charset", "text"]) fun _ _ _ _ _ _ us hl => match us, hl with | [_, _], _ => rfl,
    f_octets_for := f11, fd_octets_for := _, F_octets_for := F11, g_octets_for := PySem.W.mg_of X G a11, b_octets_for := F11.binds (ps := ["charset", "text"]) fun _ _ _ _ _ _ us hl => match us, hl with | [_, _], _ => rfl,
    f_text_from := f12, fd_text_from := _, F_text_from := F12, g_text_from := PySem.W.mg_of X G a12, b_text_from := F12.binds (ps := ["charset", "octets"]) fun _ _ _ _ _ _ us hl => match us, hl with | [_, _], _ => rfl,
    f__check_octets := f13, fd__check_octets := _, F__check_octets := F13, g__check_octets := PySem.W.mg_of X G a13, b__check_octets := F13.binds (ps := ["octets"]) fun _ _ _ _ _ _ us hl => match us, hl with | [_], _ => rfl,
    f__row_of := f14, fd__row_of := _, F__row_of := F14, g__row_of := PySem.W.mg_of X G a14, b__row_of := F14.binds (ps := ["charset", "code"]) fun _ _ _ _ _ _ us hl => match us, hl with | [_, _], _ => rfl,
    f__rows_of := f15, fd__rows_of := _, F__rows_of := F15, g__rows_of := PySem.W.mg_of X G a15, b__rows_of := F15.binds (ps := ["charset", "octets"]) fun _ _ _ _ _ _ us hl => match us, hl with | [_, _], _ => rfl,
    f__is_whole := f16, fd__is_whole := _, F__is_whole := F16, g__is_whole := PySem.W.mg_of X G a16, b__is_whole := F16.binds (ps := ["charset", "row"]) fun _ _ _ _ _ _ us hl => match us, hl with | [_, _], _ => rfl,
    f__code_of := f17, fd__code_of := _, F__code_of := F17, g__code_of := PySem.W.mg_of X G a17, b__code_of := F17.binds (ps := ["charset", "row"]) fun _ _ _ _ _ _ us hl => match us, hl with | [_, _], _ => rfl,
    f__law_begin := f18, fd__law_begin := _, F__law_begin := F18, g__law_begin := PySem.W.mg_of X G a18, b__law_begin := F18.binds (ps := ["script"]) fun _ _ _ _ _ _ us hl => match us, hl with | [_], _ => rfl,
    f__law_mixed := f19, fd__law_mixed := _, F__law_mixed := F19, g__law_mixed := PySem.W.mg_of X G a19, b__law_mixed := F19.binds (ps := ["cell", "k"]) fun _ _ _ _ _ _ us hl => match us, hl with | [_, _], _ => rfl,
    f__law_next := f20, fd__law_next := _, F__law_next := F20, g__law_next := PySem.W.mg_of X G a20, b__law_next := F20.binds (ps := ["draw", "bound"]) fun _ _ _ _ _ _ us hl => match us, hl with | [_, _], _ => rfl,
    f__law_octets_for := f21, fd__law_octets_for := _, F__law_octets_for := F21, g__law_octets_for := PySem.W.mg_of X G a21, b__law_octets_for := F21.binds (ps := ["kind", "numbers"]) fun _ _ _ _ _ _ us hl => match us, hl with | [_, _], _ => rfl,
    f__law_is_code := f22, fd__law_is_code := _, F__law_is_code := F22, g__law_is_code := PySem.W.mg_of X G a22, b__law_is_code := F22.binds (ps := ["number"]) fun _ _ _ _ _ _ us hl => match us, hl with | [_], _ => rfl,
    f__law_rows := f23, fd__law_rows := _, F__law_rows := F23, g__law_rows := PySem.W.mg_of X G a23, b__law_rows := F23.binds (ps := ["kind", "row"]) fun _ _ _ _ _ _ us hl => match us, hl with | [_, _], _ => rfl,
    f__law_number := f24, fd__law_number := _, F__law_number := F24, g__law_number := PySem.W.mg_of X G a24, b__law_number := F24.binds (ps := ["kind", "group"]) fun _ _ _ _ _ _ us hl => match us, hl with | [_, _], _ => rfl,
    f__law_decoded := f25, fd__law_decoded := _, F__law_decoded := F25, g__law_decoded := PySem.W.mg_of X G a25, b__law_decoded := F25.binds (ps := ["kind", "row"]) fun _ _ _ _ _ _ us hl => match us, hl with | [_, _], _ => rfl,
    f__law_told := f26, fd__law_told := _, F__law_told := F26, g__law_told := PySem.W.mg_of X G a26, b__law_told := F26.binds (ps := ["deed"]) fun _ _ _ _ _ _ us hl => match us, hl with | [_], _ => rfl,
    co__law_written_right := co27, P__law_written_right := P27, FC__law_written_right := LamD.funC_mk (st := s__law_written_right) l27 c27, ne__law_written_right__law_refused_right := ne27_29,
    f__law_written_right := f27, fd__law_written_right := _, F__law_written_right := F27, g__law_written_right := PySem.W.mg_of X G a27, b__law_written_right := F27.binds (ps := ["kind", "numbers"]) fun _ _ _ _ _ _ us hl => match us, hl with | [_, _], _ => rfl,
    f__law_read_right := f28, fd__law_read_right := _, F__law_read_right := F28, g__law_read_right := PySem.W.mg_of X G a28, b__law_read_right := F28.binds (ps := ["kind", "row"]) fun _ _ _ _ _ _ us hl => match us, hl with | [_, _], _ => rfl,
    co__law_refused_right := co29, P__law_refused_right := P29, FC__law_refused_right := LamD.funC_mk (st := s__law_refused_right) l29 c29, ne__law_refused_right__law_written_right := ne29_27,
    f__law_refused_right := f29, fd__law_refused_right := _, F__law_refused_right := F29, g__law_refused_right := PySem.W.mg_of X G a29, b__law_refused_right := F29.binds (ps := ["draw"]) fun _ _ _ _ _ _ us hl => match us, hl with | [_], _ => rfl,
    f_law := fa, fd_law := _, F_law := F30, g_law := PySem.W.mg_of X G a30, b_law := F30.binds (ps := ["script"]) fun _ _ _ _ _ _ us hl => match us, hl with | [_], _ => rfl,
    t_MARKS := t0, g_MARKS := PySem.W.mg_of X G v0,
    t__MISSING_CODE := t1, g__MISSING_CODE := PySem.W.mg_of X G v1,
    t__SPACE := t2, g__SPACE := PySem.W.mg_of X G v2,
    a_CHARSETS := ac3, g_CHARSETS := PySem.W.mg_of X G v3, q_CHARSETS := fun H => .inr ⟨_, _, _, u3, rfl, rfl, (by show 3 ≤ sizeLine; decide), .cons ⟨_, rfl⟩ (.cons ⟨_, rfl⟩ (.cons ⟨_, rfl⟩ (.nil)))⟩,
    t__UNKNOWN := t4, g__UNKNOWN := PySem.W.mg_of X G v4,
    m_len := PySem.W.mg_none_of X G z0,
    m_range := PySem.W.mg_none_of X G z1,
    m_isinstance := PySem.W.mg_none_of X G z2,
    m_int := PySem.W.mg_none_of X G z3,
    m_str := PySem.W.mg_none_of X G z4,
    m_bool := PySem.W.mg_none_of X G z5,
    m_repr := PySem.W.mg_none_of X G z6,
    m_all := PySem.W.mg_none_of X G z7,
    m_ord := PySem.W.mg_none_of X G z8,
    m_tuple := PySem.W.mg_none_of X G z9,
    m_list := PySem.W.mg_none_of X G z10,
    m_sum := PySem.W.mg_none_of X G z11,
    m_enumerate := PySem.W.mg_none_of X G z12,
    C_HeaderError := CHeaderError, g_HeaderError := PySem.W.mg_of X G aHeaderError,
    C_BadText := CBadText, i_BadText := iBadText, g_BadText := PySem.W.mg_of X G aBadText
    E_BadText := {
      cls := ⟨nmBadText, qBadText, NBadText, bsBadText, _, snBadText, sbBadText, abBadText, coBadText, ddBadText, m0BadText, m1BadText, m2BadText, m3BadText, m5BadText, xBadText, rfl, XS.along_of xHeaderError alHeaderError⟩
      init := inBadText, ityp := tyBadText, sa := saBadText, nf := nfBadText, exC := eBadText, veC := veBadText, meC := meBadText, tyC := tBadText, kC := kBadText, opq := opq
      fn := ⟨_, _, _, _, ocBadText, kVBadText, dcBadText, pmBadText, ctBadText, cclBadText, clBadText, odBadText, anBadText, cddBadText, cldBadText, slBadText, ccsBadText, cslBadText, cdBadText, ccBadText, vsBadText, fileBadText, tfBadText, lBadText, cBadText, ldBadText, vBadText, fiBadText, lcBadText, ⟨_, rfl, rfl⟩,
        ⟨_, _, _, _, _, _, _, _, _, _, _, _, rfl, ⟨_, fun _ => rfl⟩, fun _ => rfl, fun _ => rfl, by decide +kernel⟩, fun _ _ _ => .of_eq rfl, rfl, rfl, rfl, by decide +kernel, by decide +kernel, by decide +kernel, by decide +kernel, by decide +kernel⟩
      sup := sup, top := by decide +kernel, psf := by decide +kernel, pdb := by decide +kernel }
    X_BadText := ⟨gaBadText, ggBadText, eBadText, dBadText⟩, N_BadText := nfBadText, I_BadText := ⟨gaBadText, ggBadText, eBadText, dBadText, caBadText, uhn, uht, moBadText⟩
    M_BadText := LamD.any4 (PySem.W.exm_ref eBadCharset dBadCharset tBadCharset sBadTextBadCharset) (PySem.W.exm_ref eBadCode dBadCode tBadCode sBadTextBadCode) (PySem.W.exm_ref eBadOctet dBadOctet tBadOctet sBadTextBadOctet) (PySem.W.exm_ref eBadText dBadText tBadText sBadTextBadText),
    O_BadText_BadText := XS.kit_self,
    O_BadText_BadCode := XS.kit_other dBadCode tBadCode uBadTextBadCode sBadTextBadCode,
    O_BadText_BadOctet := XS.kit_other dBadOctet tBadOctet uBadTextBadOctet sBadTextBadOctet,
    O_BadText_BadCharset := XS.kit_other dBadCharset tBadCharset uBadTextBadCharset sBadTextBadCharset,
    C_BadCode := CBadCode, i_BadCode := iBadCode, g_BadCode := PySem.W.mg_of X G aBadCode
    E_BadCode := {
      cls := ⟨nmBadCode, qBadCode, NBadCode, bsBadCode, _, snBadCode, sbBadCode, abBadCode, coBadCode, ddBadCode, m0BadCode, m1BadCode, m2BadCode, m3BadCode, m5BadCode, xBadCode, rfl, XS.along_of xHeaderError alHeaderError⟩
      init := inBadCode, ityp := tyBadCode, sa := saBadCode, nf := nfBadCode, exC := eBadCode, veC := veBadCode, meC := meBadCode, tyC := tBadCode, kC := kBadCode, opq := opq
      fn := ⟨_, _, _, _, ocBadCode, kVBadCode, dcBadCode, pmBadCode, ctBadCode, cclBadCode, clBadCode, odBadCode, anBadCode, cddBadCode, cldBadCode, slBadCode, ccsBadCode, cslBadCode, cdBadCode, ccBadCode, vsBadCode, fileBadCode, tfBadCode, lBadCode, cBadCode, ldBadCode, vBadCode, fiBadCode, lcBadCode, ⟨_, rfl, rfl⟩,
        ⟨_, _, _, _, _, _, _, _, _, _, _, _, rfl, ⟨_, fun _ => rfl⟩, fun _ => rfl, fun _ => rfl, by decide +kernel⟩, fun _ _ _ => .of_eq rfl, rfl, rfl, rfl, by decide +kernel, by decide +kernel, by decide +kernel, by decide +kernel, by decide +kernel⟩
      sup := sup, top := by decide +kernel, psf := by decide +kernel, pdb := by decide +kernel }
    X_BadCode := ⟨gaBadCode, ggBadCode, eBadCode, dBadCode⟩, N_BadCode := nfBadCode, I_BadCode := ⟨gaBadCode, ggBadCode, eBadCode, dBadCode, caBadCode, uhn, uht, moBadCode⟩
    M_BadCode := LamD.any4 (PySem.W.exm_ref eBadCharset dBadCharset tBadCharset sBadCodeBadCharset) (PySem.W.exm_ref eBadCode dBadCode tBadCode sBadCodeBadCode) (PySem.W.exm_ref eBadOctet dBadOctet tBadOctet sBadCodeBadOctet) (PySem.W.exm_ref eBadText dBadText tBadText sBadCodeBadText),
    O_BadCode_BadText := XS.kit_other dBadText tBadText uBadCodeBadText sBadCodeBadText,
    O_BadCode_BadCode := XS.kit_self,
    O_BadCode_BadOctet := XS.kit_other dBadOctet tBadOctet uBadCodeBadOctet sBadCodeBadOctet,
    O_BadCode_BadCharset := XS.kit_other dBadCharset tBadCharset uBadCodeBadCharset sBadCodeBadCharset,
    C_BadOctet := CBadOctet, i_BadOctet := iBadOctet, g_BadOctet := PySem.W.mg_of X G aBadOctet
    E_BadOctet := {
      cls := ⟨nmBadOctet, qBadOctet, NBadOctet, bsBadOctet, _, snBadOctet, sbBadOctet, abBadOctet, coBadOctet, ddBadOctet, m0BadOctet, m1BadOctet, m2BadOctet, m3BadOctet, m5BadOctet, xBadOctet, rfl, XS.along_of xHeaderError alHeaderError⟩
      init := inBadOctet, ityp := tyBadOctet, sa := saBadOctet, nf := nfBadOctet, exC := eBadOctet, veC := veBadOctet, meC := meBadOctet, tyC := tBadOctet, kC := kBadOctet, opq := opq
      fn := ⟨_, _, _, _, ocBadOctet, kVBadOctet, dcBadOctet, pmBadOctet, ctBadOctet, cclBadOctet, clBadOctet, odBadOctet, anBadOctet, cddBadOctet, cldBadOctet, slBadOctet, ccsBadOctet, cslBadOctet, cdBadOctet, ccBadOctet, vsBadOctet, fileBadOctet, tfBadOctet, lBadOctet, cBadOctet, ldBadOctet, vBadOctet, fiBadOctet, lcBadOctet, ⟨_, rfl, rfl⟩,
        ⟨_, _, _, _, _, _, _, _, _, _, _, _, rfl, ⟨_, fun _ => rfl⟩, fun _ => rfl, fun _ => rfl, by decide +kernel⟩, fun _ _ _ => .of_eq rfl, rfl, rfl, rfl, by decide +kernel, by decide +kernel, by decide +kernel, by decide +kernel, by decide +kernel⟩
      sup := sup, top := by decide +kernel, psf := by decide +kernel, pdb := by decide +kernel }
    X_BadOctet := ⟨gaBadOctet, ggBadOctet, eBadOctet, dBadOctet⟩, N_BadOctet := nfBadOctet, I_BadOctet := ⟨gaBadOctet, ggBadOctet, eBadOctet, dBadOctet, caBadOctet, uhn, uht, moBadOctet⟩
    M_BadOctet := LamD.any4 (PySem.W.exm_ref eBadCharset dBadCharset tBadCharset sBadOctetBadCharset) (PySem.W.exm_ref eBadCode dBadCode tBadCode sBadOctetBadCode) (PySem.W.exm_ref eBadOctet dBadOctet tBadOctet sBadOctetBadOctet) (PySem.W.exm_ref eBadText dBadText tBadText sBadOctetBadText),
    O_BadOctet_BadText := XS.kit_other dBadText tBadText uBadOctetBadText sBadOctetBadText,
    O_BadOctet_BadCode := XS.kit_other dBadCode tBadCode uBadOctetBadCode sBadOctetBadCode,
    O_BadOctet_BadOctet := XS.kit_self,
    O_BadOctet_BadCharset := XS.kit_other dBadCharset tBadCharset uBadOctetBadCharset sBadOctetBadCharset,
    C_BadCharset := CBadCharset, i_BadCharset := iBadCharset, g_BadCharset := PySem.W.mg_of X G aBadCharset
    E_BadCharset := {
      cls := ⟨nmBadCharset, qBadCharset, NBadCharset, bsBadCharset, _, snBadCharset, sbBadCharset, abBadCharset, coBadCharset, ddBadCharset, m0BadCharset, m1BadCharset, m2BadCharset, m3BadCharset, m5BadCharset, xBadCharset, rfl, XS.along_of xHeaderError alHeaderError⟩
      init := inBadCharset, ityp := tyBadCharset, sa := saBadCharset, nf := nfBadCharset, exC := eBadCharset, veC := veBadCharset, meC := meBadCharset, tyC := tBadCharset, kC := kBadCharset, opq := opq
      fn := ⟨_, _, _, _, ocBadCharset, kVBadCharset, dcBadCharset, pmBadCharset, ctBadCharset, cclBadCharset, clBadCharset, odBadCharset, anBadCharset, cddBadCharset, cldBadCharset, slBadCharset, ccsBadCharset, cslBadCharset, cdBadCharset, ccBadCharset, vsBadCharset, fileBadCharset, tfBadCharset, lBadCharset, cBadCharset, ldBadCharset, vBadCharset, fiBadCharset, lcBadCharset, ⟨_, rfl, rfl⟩,
        ⟨_, _, _, _, _, _, _, _, _, _, _, _, rfl, ⟨_, fun _ => rfl⟩, fun _ => rfl, fun _ => rfl, by decide +kernel⟩, fun _ _ _ => .of_eq rfl, rfl, rfl, rfl, by decide +kernel, by decide +kernel, by decide +kernel, by decide +kernel, by decide +kernel⟩
      sup := sup, top := by decide +kernel, psf := by decide +kernel, pdb := by decide +kernel }
    X_BadCharset := ⟨gaBadCharset, ggBadCharset, eBadCharset, dBadCharset⟩, N_BadCharset := nfBadCharset, I_BadCharset := ⟨gaBadCharset, ggBadCharset, eBadCharset, dBadCharset, caBadCharset, uhn, uht, moBadCharset⟩
    M_BadCharset := LamD.any4 (PySem.W.exm_ref eBadCharset dBadCharset tBadCharset sBadCharsetBadCharset) (PySem.W.exm_ref eBadCode dBadCode tBadCode sBadCharsetBadCode) (PySem.W.exm_ref eBadOctet dBadOctet tBadOctet sBadCharsetBadOctet) (PySem.W.exm_ref eBadText dBadText tBadText sBadCharsetBadText),
    O_BadCharset_BadText := XS.kit_other dBadText tBadText uBadCharsetBadText sBadCharsetBadText,
    O_BadCharset_BadCode := XS.kit_other dBadCode tBadCode uBadCharsetBadCode sBadCharsetBadCode,
    O_BadCharset_BadOctet := XS.kit_other dBadOctet tBadOctet uBadCharsetBadOctet sBadCharsetBadOctet,
    O_BadCharset_BadCharset := XS.kit_self,
    C_Text := CText, g_Text := PySem.W.mg_of X G aText, c_Text := ⟨pgText, hdText, poText, saText⟩, sf_Text := sfText, ty_Text := fun H a dx fs e => .base (.ins e ⟨pgText, hdText, poText, saText⟩ hcText uhnText uhtText moText), ks_Text := XS.kit_self,
    nk_Text := fun n hn => by (simp only [BTys, List.mem_cons, List.not_mem_nil, or_false] at hn; rcases hn with rfl | rfl | rfl | rfl | rfl | rfl | rfl <;> assumption), mo_Text := moText, ne_Text := nxText,
    ns_Text := fun n hn => by (simp only [BTys, List.mem_cons, List.not_mem_nil, or_false] at hn; rcases hn with rfl | rfl | rfl | rfl | rfl | rfl | rfl <;> assumption),
    kt_Text_int := XS.kit_ty rfl ktTextint,
    nf_Text__codes := nfText0,
    f_Text___init__ := fText0, fd_Text___init__ := _, F_Text___init__ := FText0, mk_Text := ⟨mkText, iText0, nText0, kcText⟩, ds_Text := dsText0, vi_Text := viText0, bd_Text := bdText0,
    f_Text_of := fText1, fd_Text_of := _, F_Text_of := FText1, b_Text_of := FText1.binds (ps := ["cls", "codes"]) fun _ _ _ _ _ _ us hl => match us, hl with | [_, _], _ => rfl, p_Text_of := pText1, cr_Text := ⟨rdText, gaText⟩, cm_Text_of := ⟨iText1, ⟨_, qText1⟩, nText1⟩,
    f_Text_codes := fText2, fd_Text_codes := _, F_Text_codes := FText2, b_Text_codes := FText2.binds (ps := ["self"]) fun _ _ _ _ _ _ us hl => match us, hl with | [_], _ => rfl, p_Text_codes := pText2, pp_Text_codes := ⟨iText2, gText2, tText2, ⟨_, qText2⟩⟩,
    f_Text___getitem__ := fText3, fd_Text___getitem__ := _, F_Text___getitem__ := FText3, b_Text___getitem__ := FText3.binds (ps := ["self", "at"]) fun _ _ _ _ _ _ us hl => match us, hl with | [_, _], _ => rfl, fn_Text___getitem__ := fnText3, at_Text___getitem__ := iText3, if_Text___getitem__ := nText3,
    f_Text___eq__ := fText4, fd_Text___eq__ := _, F_Text___eq__ := FText4, b_Text___eq__ := FText4.binds (ps := ["self", "other"]) fun _ _ _ _ _ _ us hl => match us, hl with | [_, _], _ => rfl, at_Text___eq__ := iText4, if_Text___eq__ := nText4 }
  have tb27 := LamD.tab_mk a27 l27 rfl cl27 rfl
  have tt27 := tp _ "_law_written_right" co27 P27 rd27 tb27
  have tb29 := LamD.tab_mk a29 l29 rfl cl29 rfl
  have tt29 := tp _ "_law_refused_right" co29 P29 rd29 tb29
  refine ⟨_, [(co27, P27), (co29, P29)], spLaw K (tabs T), ?_, fun s v => .of_eq rfl, fun H a ns hl hH hS => ⟨a, ns, rfl, hS, hl, ?_, fun _ => rfl⟩, fun base _ _ hT => ok_law T ⟨hT (co27, P27) (by simp), hT (co29, P29) (by simp)⟩⟩
  · intro p hp
    simp only [List.mem_cons, List.not_mem_nil, or_false] at hp
    rcases hp with rfl | rfl
    · exact ⟨np27, tt27.1, tt27.2⟩
    · exact ⟨np29, tt29.1, tt29.2⟩
  · intro p hp
    simp only [tabs, List.mem_cons, List.not_mem_nil, or_false] at hp
    rcases hp with rfl | rfl
    · exact LamX.TabS.nil (hH (co27, P27) (by simp))
    · exact LamX.TabS.nil (hH (co29, P29) (by simp))
end K11
open PySem PySem.W PyProof.Rows
set_option maxRecDepth 100000 in
set_option maxHeartbeats 0 in
theorem PySem.Challenge.cw_headerfold_k11_charsets_holds : PySem.Challenge.rw_headerfold_k11_charsets.Holds := by
  w_on; o_law; k_head; (case hw => w_witness2)
  k_fill
  refine LamD.walk_ofTG (l := PySem.Challenge.rw_headerfold_k11_charsets) (n := 63) (k := 12) (x := "script") rfl (by decide) rfl ⟨rfl, by decide, by decide⟩ (fun w h Y => PySem.W.km_in_of Y) ?F
  case F =>
    intro w mg fa h KX G hmg tp
    refine' K11.all_mk KX G hmg tp ?a0 ?l0 ?c0 ?k0 ?a1 ?l1 ?c1 ?k1 ?a2 ?l2 ?c2 ?k2 ?a3 ?l3 ?c3 ?k3 ?a4 ?l4 ?c4 ?k4 ?a5 ?l5 ?c5 ?k5 ?a6 ?l6 ?c6 ?k6 ?a7 ?l7 ?c7 ?k7 ?a8 ?l8 ?c8 ?k8 ?a9 ?l9 ?c9 ?k9 ?a10 ?l10 ?c10 ?k10 ?a11 ?l11 ?c11 ?k11 ?a12 ?l12 ?c12 ?k12 ?a13 ?l13 ?c13 ?k13 ?a14 ?l14 ?c14 ?k14 ?a15 ?l15 ?c15 ?k15 ?a16 ?l16 ?c16 ?k16 ?a17 ?l17 ?c17 ?k17 ?a18 ?l18 ?c18 ?k18 ?a19 ?l19 ?c19 ?k19 ?a20 ?l20 ?c20 ?k20 ?a21 ?l21 ?c21 ?k21 ?a22 ?l22 ?c22 ?k22 ?a23 ?l23 ?c23 ?k23 ?a24 ?l24 ?c24 ?k24 ?a25 ?l25 ?c25 ?k25 ?a26 ?l26 ?c26 ?k26 ?a27 ?l27 ?c27 ?k27 ?a28 ?l28 ?c28 ?k28 ?a29 ?l29 ?c29 ?k29 ?a30 ?l30 ?c30 ?k30 ?sup ?opq ?uhn ?uht ?aHeaderError ?eHeaderError ?dHeaderError ?tHeaderError ?xHeaderError ?alHeaderError ?aBadText ?aBadCode ?aBadOctet ?aBadCharset ?xBadText ?inBadText ?tyBadText ?saBadText ?nfBadText ?eBadText ?veBadText ?meBadText ?moBadText ?tBadText ?dBadText ?kBadText ?gaBadText ?ggBadText ?caBadText ?sBadTextHeaderError ?sBadTextBadText ?sBadTextBadCode ?uBadTextBadCode ?sBadTextBadOctet ?uBadTextBadOctet ?sBadTextBadCharset ?uBadTextBadCharset ?lBadText ?cBadText ?ldBadText ?vBadText ?fiBadText ?lcBadText ?xBadCode ?inBadCode ?tyBadCode ?saBadCode ?nfBadCode ?eBadCode ?veBadCode ?meBadCode ?moBadCode ?tBadCode ?dBadCode ?kBadCode ?gaBadCode ?ggBadCode ?caBadCode ?sBadCodeHeaderError ?sBadCodeBadCode ?sBadCodeBadText ?uBadCodeBadText ?sBadCodeBadOctet ?uBadCodeBadOctet ?sBadCodeBadCharset ?uBadCodeBadCharset ?lBadCode ?cBadCode ?ldBadCode ?vBadCode ?fiBadCode ?lcBadCode ?xBadOctet ?inBadOctet ?tyBadOctet ?saBadOctet ?nfBadOctet ?eBadOctet ?veBadOctet ?meBadOctet ?moBadOctet ?tBadOctet ?dBadOctet ?kBadOctet ?gaBadOctet ?ggBadOctet ?caBadOctet ?sBadOctetHeaderError ?sBadOctetBadOctet ?sBadOctetBadText ?uBadOctetBadText ?sBadOctetBadCode ?uBadOctetBadCode ?sBadOctetBadCharset ?uBadOctetBadCharset ?lBadOctet ?cBadOctet ?ldBadOctet ?vBadOctet ?fiBadOctet ?lcBadOctet ?xBadCharset ?inBadCharset ?tyBadCharset ?saBadCharset ?nfBadCharset ?eBadCharset ?veBadCharset ?meBadCharset ?moBadCharset ?tBadCharset ?dBadCharset ?kBadCharset ?gaBadCharset ?ggBadCharset ?caBadCharset ?sBadCharsetHeaderError ?sBadCharsetBadCharset ?sBadCharsetBadText ?uBadCharsetBadText ?sBadCharsetBadCode ?uBadCharsetBadCode ?sBadCharsetBadOctet ?uBadCharsetBadOctet ?lBadCharset ?cBadCharset ?ldBadCharset ?vBadCharset ?fiBadCharset ?lcBadCharset ?aText ?pgText ?hdText ?poText ?saText ?mkText ?kcText ?sfText ?hcText ?moText ?uhnText ?uhtText ?nxText ?nkText0 ?nkText1 ?nkText2 ?nkText3 ?nkText4 ?nkText5 ?nkText6 ?nsText0 ?nsText1 ?nsText2 ?nsText3 ?nsText4 ?nsText5 ?nsText6 ?ktTextint ?nfText0 ?rdText ?gaText ?iText0 ?nText0 ?lText0 ?lDText0 ?cText0 ?kText0 ?iText1 ?qText1 ?nText1 ?lText1 ?cText1 ?kText1 ?iText2 ?gText2 ?tText2 ?qText2 ?lText2 ?cText2 ?kText2 ?iText3 ?nText3 ?fnText3 ?lText3 ?cText3 ?kText3 ?iText4 ?nText4 ?lText4 ?cText4 ?kText4 ?cl27 ?np27 ?rd27 ?cl29 ?np29 ?rd29 ?ne27_29 ?ne29_27 ?v0 ?v1 ?v2 ?v3 ?u3 ?v4 ?z0 ?z1 ?z2 ?z3 ?z4 ?z5 ?z6 ?z7 ?z8 ?z9 ?z10 ?z11 ?z12
    (case a0 => k_is)
    (case l0 => k_is)
    (case c0 => k_is)
    (case k0 => k_is)
    (case a1 => k_is)
    (case l1 => k_is)
    (case c1 => k_is)
    (case k1 => k_is)
    (case a2 => k_is)
    (case l2 => k_is)
    (case c2 => k_is)
    (case k2 => k_is)
    (case a3 => k_is)
    (case l3 => k_is)
    (case c3 => k_is)
    (case k3 => k_is)
    (case a4 => k_is)
    (case l4 => k_is)
    (case c4 => k_is)
    (case k4 => k_is)
    (case a5 => k_is)
    (case l5 => k_is)
    (case c5 => k_is)
    (case k5 => k_is)
    (case a6 => k_is)
    (case l6 => k_is)
    (case c6 => k_is)
    (case k6 => k_is)
    (case a7 => k_is)
    (case l7 => k_is)
    (case c7 => k_is)
    (case k7 => k_is)
    (case a8 => k_is)
    (case l8 => k_is)
    (case c8 => k_is)
    (case k8 => k_is)
    (case a9 => k_is)
    (case l9 => k_is)
    (case c9 => k_is)
    (case k9 => k_is)
    (case a10 => k_is)
    (case l10 => k_is)
    (case c10 => k_is)
    (case k10 => k_is)
    (case a11 => k_is)
    (case l11 => k_is)
    (case c11 => k_is)
    (case k11 => k_is)
    (case a12 => k_is)
    (case l12 => k_is)
    (case c12 => k_is)
    (case k12 => k_is)
    (case a13 => k_is)
    (case l13 => k_is)
    (case c13 => k_is)
    (case k13 => k_is)
    (case a14 => k_is)
    (case l14 => k_is)
    (case c14 => k_is)
    (case k14 => k_is)
    (case a15 => k_is)
    (case l15 => k_is)
    (case c15 => k_is)
    (case k15 => k_is)
    (case a16 => k_is)
    (case l16 => k_is)
    (case c16 => k_is)
    (case k16 => k_is)
    (case a17 => k_is)
    (case l17 => k_is)
    (case c17 => k_is)
    (case k17 => k_is)
    (case a18 => k_is)
    (case l18 => k_is)
    (case c18 => k_is)
    (case k18 => k_is)
    (case a19 => k_is)
    (case l19 => k_is)
    (case c19 => k_is)
    (case k19 => k_is)
    (case a20 => k_is)
    (case l20 => k_is)
    (case c20 => k_is)
    (case k20 => k_is)
    (case a21 => k_is)
    (case l21 => k_is)
    (case c21 => k_is)
    (case k21 => k_is)
    (case a22 => k_is)
    (case l22 => k_is)
    (case c22 => k_is)
    (case k22 => k_is)
    (case a23 => k_is)
    (case l23 => k_is)
    (case c23 => k_is)
    (case k23 => k_is)
    (case a24 => k_is)
    (case l24 => k_is)
    (case c24 => k_is)
    (case k24 => k_is)
    (case a25 => k_is)
    (case l25 => k_is)
    (case c25 => k_is)
    (case k25 => k_is)
    (case a26 => k_is)
    (case l26 => k_is)
    (case c26 => k_is)
    (case k26 => k_is)
    (case a27 => k_is)
    (case l27 => k_is)
    (case c27 => k_is)
    (case k27 => k_is)
    (case a28 => k_is)
    (case l28 => k_is)
    (case c28 => k_is)
    (case k28 => k_is)
    (case a29 => k_is)
    (case l29 => k_is)
    (case c29 => k_is)
    (case k29 => k_is)
    (case a30 => k_is)
    (case l30 => k_is)
    (case c30 => k_is)
    (case k30 => k_is)
    (case sup => k_is)
    (case opq => k_is)
    (case uhn => k_is)
    (case uht => k_is)
    (case aHeaderError => k_is)
    (case eHeaderError => k_is)
    (case dHeaderError => k_is)
    (case tHeaderError => k_is)
    (case xHeaderError => k_is)
    (case alHeaderError => k_is)
    (case aBadText => k_is)
    (case aBadCode => k_is)
    (case aBadOctet => k_is)
    (case aBadCharset => k_is)
    (case xBadText => k_is)
    (case inBadText => k_is)
    (case tyBadText => k_is)
    (case saBadText => k_is)
    (case nfBadText => k_is)
    (case eBadText => k_is)
    (case veBadText => k_is)
    (case meBadText => k_is)
    (case moBadText => k_is)
    (case tBadText => k_is)
    (case dBadText => k_is)
    (case kBadText => k_is)
    (case gaBadText => k_is)
    (case ggBadText => k_is)
    (case caBadText => k_is)
    (case sBadTextHeaderError => k_is)
    (case sBadTextBadText => k_is)
    (case sBadTextBadCode => k_is)
    (case uBadTextBadCode => rfl)
    (case sBadTextBadOctet => k_is)
    (case uBadTextBadOctet => rfl)
    (case sBadTextBadCharset => k_is)
    (case uBadTextBadCharset => rfl)
    (case lBadText => k_is)
    (case cBadText => k_is)
    (case ldBadText => k_is)
    (case vBadText => rfl)
    (case fiBadText => rfl)
    (case lcBadText => k_is)
    (case xBadCode => k_is)
    (case inBadCode => k_is)
    (case tyBadCode => k_is)
    (case saBadCode => k_is)
    (case nfBadCode => k_is)
    (case eBadCode => k_is)
    (case veBadCode => k_is)
    (case meBadCode => k_is)
    (case moBadCode => k_is)
    (case tBadCode => k_is)
    (case dBadCode => k_is)
    (case kBadCode => k_is)
    (case gaBadCode => k_is)
    (case ggBadCode => k_is)
    (case caBadCode => k_is)
    (case sBadCodeHeaderError => k_is)
    (case sBadCodeBadCode => k_is)
    (case sBadCodeBadText => k_is)
    (case uBadCodeBadText => rfl)
    (case sBadCodeBadOctet => k_is)
    (case uBadCodeBadOctet => rfl)
    (case sBadCodeBadCharset => k_is)
    (case uBadCodeBadCharset => rfl)
    (case lBadCode => k_is)
    (case cBadCode => k_is)
    (case ldBadCode => k_is)
    (case vBadCode => rfl)
    (case fiBadCode => rfl)
    (case lcBadCode => k_is)
    (case xBadOctet => k_is)
    (case inBadOctet => k_is)
    (case tyBadOctet => k_is)
    (case saBadOctet => k_is)
    (case nfBadOctet => k_is)
    (case eBadOctet => k_is)
    (case veBadOctet => k_is)
    (case meBadOctet => k_is)
    (case moBadOctet => k_is)
    (case tBadOctet => k_is)
    (case dBadOctet => k_is)
    (case kBadOctet => k_is)
    (case gaBadOctet => k_is)
    (case ggBadOctet => k_is)
    (case caBadOctet => k_is)
    (case sBadOctetHeaderError => k_is)
    (case sBadOctetBadOctet => k_is)
    (case sBadOctetBadText => k_is)
    (case uBadOctetBadText => rfl)
    (case sBadOctetBadCode => k_is)
    (case uBadOctetBadCode => rfl)
    (case sBadOctetBadCharset => k_is)
    (case uBadOctetBadCharset => rfl)
    (case lBadOctet => k_is)
    (case cBadOctet => k_is)
    (case ldBadOctet => k_is)
    (case vBadOctet => rfl)
    (case fiBadOctet => rfl)
    (case lcBadOctet => k_is)
    (case xBadCharset => k_is)
    (case inBadCharset => k_is)
    (case tyBadCharset => k_is)
    (case saBadCharset => k_is)
    (case nfBadCharset => k_is)
    (case eBadCharset => k_is)
    (case veBadCharset => k_is)
    (case meBadCharset => k_is)
    (case moBadCharset => k_is)
    (case tBadCharset => k_is)
    (case dBadCharset => k_is)
    (case kBadCharset => k_is)
    (case gaBadCharset => k_is)
    (case ggBadCharset => k_is)
    (case caBadCharset => k_is)
    (case sBadCharsetHeaderError => k_is)
    (case sBadCharsetBadCharset => k_is)
    (case sBadCharsetBadText => k_is)
    (case uBadCharsetBadText => rfl)
    (case sBadCharsetBadCode => k_is)
    (case uBadCharsetBadCode => rfl)
    (case sBadCharsetBadOctet => k_is)
    (case uBadCharsetBadOctet => rfl)
    (case lBadCharset => k_is)
    (case cBadCharset => k_is)
    (case ldBadCharset => k_is)
    (case vBadCharset => rfl)
    (case fiBadCharset => rfl)
    (case lcBadCharset => k_is)
    (case aText => k_is)
    (case pgText => k_is)
    (case hdText => k_is)
    (case poText => k_is)
    (case saText => k_is)
    (case mkText => k_is)
    (case kcText => k_is)
    (case sfText => k_is)
    (case hcText => k_is)
    (case moText => k_is)
    (case uhnText => k_is)
    (case uhtText => k_is)
    (case nxText => k_is)
    (case nkText0 => rfl)
    (case nkText1 => rfl)
    (case nkText2 => rfl)
    (case nkText3 => rfl)
    (case nkText4 => rfl)
    (case nkText5 => rfl)
    (case nkText6 => rfl)
    (case nsText0 => k_is)
    (case nsText1 => k_is)
    (case nsText2 => k_is)
    (case nsText3 => k_is)
    (case nsText4 => k_is)
    (case nsText5 => k_is)
    (case nsText6 => k_is)
    (case ktTextint => k_is)
    (case nfText0 => k_is)
    (case rdText => k_is)
    (case gaText => k_is)
    (case iText0 => k_is)
    (case nText0 => k_is)
    (case lText0 => k_is)
    (case lDText0 => k_is)
    (case cText0 => k_is)
    (case kText0 => k_is)
    (case iText1 => k_is)
    (case qText1 => k_is)
    (case nText1 => k_is)
    (case lText1 => k_is)
    (case cText1 => k_is)
    (case kText1 => k_is)
    (case iText2 => k_is)
    (case gText2 => k_is)
    (case tText2 => k_is)
    (case qText2 => k_is)
    (case lText2 => k_is)
    (case cText2 => k_is)
    (case kText2 => k_is)
    (case iText3 => k_is)
    (case nText3 => k_is)
    (case fnText3 => k_is)
    (case lText3 => k_is)
    (case cText3 => k_is)
    (case kText3 => k_is)
    (case iText4 => k_is)
    (case nText4 => k_is)
    (case lText4 => k_is)
    (case cText4 => k_is)
    (case kText4 => k_is)
    (case cl27 => k_is)
    (case cl29 => k_is)
    (case v0 => k_is)
    (case v1 => k_is)
    (case v2 => k_is)
    (case v3 => k_is)
    (case u3 => k_is)
    (case v4 => k_is)
    (case z0 => k_is)
    (case z1 => k_is)
    (case z2 => k_is)
    (case z3 => k_is)
    (case z4 => k_is)
    (case z5 => k_is)
    (case z6 => k_is)
    (case z7 => k_is)
    (case z8 => k_is)
    (case z9 => k_is)
    (case z10 => k_is)
    (case z11 => k_is)
    (case z12 => k_is)
    (case np27 => (first | kernel_rfl | decide +kernel | rfl))
    (case rd27 => rfl)
    (case np29 => (first | kernel_rfl | decide +kernel | rfl))
    (case rd29 => rfl)
    (case ne27_29 => decide)
    (case ne29_27 => decide)
