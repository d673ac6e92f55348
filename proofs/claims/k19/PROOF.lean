import PyProof.Rows.All
import Wide.All
import OpenK.AllK
import Wide.FinOn
import PyProof.EqAt
import PyProof.EqKinds
import PyProof.TupleCall
import PyProof.ReprRoads
import HandS.Base
import HandS.Call
import HandS.List
import HandS.Text
import HandS.Ends
import HandS.Words
import HandS.EndBits
import HandS.Comp
import HandS.Dict
import HandS.Iter
import HandS.WordsList
import HandS.WordsDict
import HandS.WideBits
import HandS.Wide
import HandS.IsInst
import HandS.RaiseMore
import HandS.TupAny
import HandS.Steps
import KE.KExcSuper
import HandS.Exc
import HandS.ExcInit
import HandS.ExcSuper
import HandS.ExcIs
import HandS.TryMany
import HandS.ExcValue
import HandS.ExcField
import KE.KExcIs
import HandS.Style
import HandS.WordsExc
import HandS.ExcOwn
import KE.KExcInit
import PyProof.Rows.StrIntSpec
import PyProof.FString3
import HandS.FStr
import HandS.OwnEq
import HandS.Property
import HandS.ClsMeth
import HandS.Defaults
import HandS.MakeKw
import HandS.More
import PyProof.NeKinds
import KE.KCallOwn
import KE.GoesEnum
import HandS.Replace
import HandS.StrMore
import HandS.Star
import KE.KRevSl
import PyProof.Rows.StrPadFill
import PyProof.Rows.StrPadWhole
import HandS.Walk
import PyProof.StrLawsIn
import KE.GoesZip
import KE.GoesMore
import PySem.Challenge.RW_headerfold_k19_plain_pieces
set_option Elab.async false
set_option linter.all false
set_option maxRecDepth 100000
set_option maxHeartbeats 4000000
namespace L2
open PySem PySem.Spec PyProof.Rows
section
variable {X : Cx} {pins : List (Addr × Obj)} {σ : St} {H : Hp} {s : Shared}
/-- list + list, both to be read (locked ones and the module's own too) -/
def rCatS (K : PySem.W.Frag) : R2 := fun x y H Q => ∃ l b xs zs, x = .ref l ∧ y = .ref b ∧ SqL K H l xs ∧ SqL K H b zs ∧ xs.length + zs.length ≤ sizeLine ∧ ∀ p, H p = none → Q (.ref p) (upd H p (.lst (xs ++ zs)))
theorem op_catS : OpR X (binaryOp .Add) (rCatS X.K) := by
  intro pins s σ H x y v u Q I rx ry h
  obtain ⟨l, b, xs, zs, rfl, rfl, hH, hB, hz, q⟩ := h
  cases rx
  cases ry
  obtain ⟨its, r, ⟨⟨c1, d1, a1, s1⟩, n, ho, hc, hd, hs⟩, _⟩ := I.list hH
  obtain ⟨its2, r2, ⟨⟨c2, d2, a2, s2⟩, n2, ho2, hc2, hd2, hs2⟩, _⟩ := I.list hB
  simp only at hc hd hs hc2 hd2 hs2
  subst hc hd hs hc2 hd2 hs2
  have hl := r.length
  have hl2 := r2.length
  have ea : its.toArray ++ its2.toArray = (its ++ its2).toArray := by simp
  refine concat_meets ⟨_, ho, rfl⟩ ⟨_, ho2, rfl⟩ noFill_list_add seq_list_add F.slot_list_add F.entry_list_add (F.args_list_add_2 _ _) (list_addW l b its.toArray its2.toArray n n2 none none s1 s2 (by rw [List.size_toArray, List.size_toArray]; omega)) ⟨ho, ho2, ?_⟩
  rw [ea]
  exact ⟨.ref _, _, I.lnew (t' := s.toks) (r.append r2) (by rw [List.length_append]; omega), rfl, q _ I.fresh⟩
/-- repr of data -/
def rRepr (K : PySem.W.Frag) : List V → Hp → VK → Prop := fun xs H Q => ∃ a d, xs = [.ref a] ∧ Dp K H (.ref a) d ∧ d.showable = true ∧ d.hasDict = false ∧ d.depth ≤ 20 ∧ d.shown.length ≤ sizeLine ∧ Q (.str d.shown) H
end
end L2
namespace L2
open PySem PySem.Spec PyProof.Rows
/-- the promise of a def that is called while no text of an object is being made (repr asks that) -/
structure FnG (P : Program) (w : World) (K : PySem.W.Frag) (mg : Str → Option Value) (base : Heap) (CX : CXT) (k : Nat) (f : Addr) (fd : FuncData) (ps : List Str) (sp : Sp) : Prop where
  len : ∀ vs H Q E, sp vs H Q E → vs.length = ps.length
  go : ∀ (A : Around), A.guards = some [] → Room k A → ∀ (out : List Env) (s : Shared) (H : Hp), Env0 P w K mg base A out s H → ∀ (args : Args) (us : List Value) (vs : List V), BindsTo s fd args (ps.zip us) → Vals vs us → ∀ (Q : VK) (E : XK), sp vs H Q E →
    codeAny (model P w) A (.call (.ref f) args) (CR CX out P w H s Q E) s
section
variable {P : Program} {w : World} {K : PySem.W.Frag} {mg : Str → Option Value} {base : Heap} {CX : CXT} {k : Nat} {f : Addr} {fd : FuncData} {ps : List Str} {sp : Sp}
theorem FnOk.toG (F : FnOk P w K mg base CX k f fd ps sp) : FnG P w K mg base CX k f fd ps sp := ⟨F.len, fun A _ hr out s H e0 args us vs hb hv Q E hs => F.run A out s H args us vs Q E hr e0 hb hv hs⟩
theorem fnG_of {name qual : Str} {params : Arguments} {body : List Stmt} {scope : Scope} {dV kV doc pm cdv ct oc : Value} {an od : Option Addr} {osl : Array (Option Value)} {N : List Str}
    (lk : K.lookup f = some ⟨oc, od, .func (PySem.W.fnOf name qual params body scope dV kV doc pm an cdv ct), osl⟩) (hcd : PySem.W.codeIn K cdv qual = true) (S : FnScope N ps scope) (len : ∀ vs H Q E, sp vs H Q E → vs.length = ps.length)
    (hb : ∀ (A : Around), A.guards = some [] → ∀ (out : List Env) (s : Shared) (H : Hp) (vs : List V) (Q : VK) (E : XK), Room k (A.deeper (envOfC qual scope s.heap.objs.size f cdv)) → sp vs H Q E →
      ∃ t, PSs (cxOf CX P w K mg base N qual scope f cdv A out s H E) body t ∧ t { nx := fun _ H' => Q .non H', rt := Q } (start N vs) H) :
    FnG P w K mg base CX (k + 1) f (PySem.W.fnOf name qual params body scope dV kV doc pm an cdv ct) ps sp := by
  refine ⟨len, fun A hG hr out s H e0 args us vs hbd r Q E hsp => ?_⟩
  have hl := len _ _ _ _ hsp
  have KX : K.In s.heap := e0.mod.kin.keeps fun c z q => (e0.bs c z q).1
  have lim : s.heap.NoLimit := e0.mod.nolimit.keeps fun c z q => (e0.bs c z q).1
  have hk2 : ∀ z ∈ ps.zip us, scope.names.lookup z.1 = some .local ∨ (scope.names.lookup z.1 = some .cell ∧ ((cellsFrom (s.heap.objs.size + 1) scope.names []).lookup z.1).isSome = true) := by
    intro z hz
    rcases S.par z.1 (List.of_mem_zip (a := z.1) (b := z.2) hz).1 with g | g
    · exact Or.inl g
    · exact Or.inr ⟨g, PySem.W.cellsFrom_some _ _ _ (Or.inl g)⟩
  refine codeAny_call_function hr.depth (KX f _ lk) rfl S.co S.gen rfl (PySem.W.codeRec_of KX hcd) (hbd _ _ _ _ ?_)
  refine wpAny_newFunctionEnv_cells S.kind hk2 fun env he s2 x => ?_
  cases he
  refine ⟨lim.keeps x.toInCall.keep, codeAny_func ?_⟩
  obtain ⟨t, ht, hq⟩ := hb A hG out s H vs Q E (Room.deeper hr _) hsp
  have J0 : Inv (cxOf CX P w K mg base N qual scope f cdv A out s H E) [] (start N vs) H s2 := inv_start S hr.hd e0 hl r x
  refine wpAny_mono (ht.run [] s2 (start N vs) H _ J0 hq) (fun fl s3 h3 => ?_) (fun _ _ z => z)
  match fl, h3 with
  | .ret u, ⟨v, σ', H', J, rv, q⟩ => exact ⟨v, H', J.os, J.bare, J.base, J.hok, rv, q⟩
  | .next, ⟨σ', H', J, q⟩ => exact ⟨V.non, H', J.os, J.bare, J.base, J.hok, (rfl : RelV V.non Value.none), q⟩
  | .brk, ⟨_, _, _, q⟩ => exact q.elim
  | .cont, ⟨_, _, _, q⟩ => exact q.elim
theorem Fun.okG {x qual : Str} {st : Stmt} {N : List Str} (F : Fun K x qual st f fd) (S : FnScope N ps (defScope st)) (len : ∀ vs H Q E, sp vs H Q E → vs.length = ps.length)
    (hb : ∀ (cdv : Value) (A : Around), A.guards = some [] → ∀ (out : List Env) (s : Shared) (H : Hp) (vs : List V) (Q : VK) (E : XK), Room k (A.deeper (envOfC qual (defScope st) s.heap.objs.size f cdv)) → sp vs H Q E →
      ∃ t, PSs (cxOf CX0 P w K mg base N qual (defScope st) f cdv A out s H E).nox (defBody st) t ∧ t { nx := fun _ H' => Q .non H', rt := Q } (start N vs) H) : FnG P w K mg base CX0 (k + 1) f fd ps sp := by
  obtain ⟨oc, od, kV, doc, pm, an, cdv, ct, osl, rfl, lk, hcd⟩ := F.ex
  refine fnG_of lk hcd S len fun A hG out s H vs Q E hr hsp => ?_
  obtain ⟨t, h, q⟩ := hb cdv A hG out s H vs Q E hr hsp
  exact ⟨t, PSs.nox h, q⟩
end
section
variable {X : Cx} {CX : CXT} {k : Nat} {f : Addr} {fd : FuncData} {ps : List Str} {sp : Sp} {dvs : List V} {ds : List Value} {E : XK} {x : Str} {p pos : Pos} {e : Expr} {es : List Expr} {t : TA}
theorem run_fnG {pins : List (Addr × Obj)} {σ : St} {H : Hp} {s : Shared} {Q : VK} {us : List Value} {vs : List V} (F : FnG X.prog X.w X.K X.mg X.base CX k f fd ps sp) (hG : X.A.guards = some []) (hr : Room k X.A) (hb : Binds X.K fd ps ds) (hd : Vals dvs ds) (hx : Passes CX X E)
    (I : Inv X pins σ H s) (r : Vals vs us) (h : sp (vs ++ dvs) H Q E) : wpAny (model X.prog X.w) X.A (call (.ref f) us) (EP X pins σ Q) X.xe s := by
  have r2 : Vals (vs ++ dvs) (us ++ ds) := r.append hd
  have hl : (us ++ ds).length = ps.length := r2.length ▸ F.len _ _ _ _ h
  refine wpAny_call (codeAny_mono (F.go X.A hG hr X.stack s H I.env0 ⟨us, []⟩ (us ++ ds) (vs ++ dvs) (hb s us I.kIn hl) r2 Q E h) fun o s2 hq => ?_)
  match o, hq with
  | .error e, hq => exact hx pins σ H s e s2 I hq
  | .ok (.ret u), hq => exact I.after hq
/-- f(e, ..) of such a def -/
theorem pe_callG (F : FnG X.prog X.w X.K X.mg X.base CX k f fd ps sp) (hG : X.A.guards = some []) (hr : Room k X.A) (hg : Gl X x) (hm : X.mg x = some (.ref f)) (hk : PySem.W.keepIn X.K (.ref f) = true) (hb : Binds X.K fd ps ds) (hd : Vals dvs ds) (hx : Passes CX X E)
    (ha : PA X (e :: es) t) (hdb : (x == ("__debug__" : Str)) = false := by decide) (he : starEach (e :: es) X.env = (false, eval e X.env) :: starEach es X.env := by rfl) (hpl : (backTo pos (starEach es X.env)).any (·.1) = false := by rfl) :
    PE X (.Call (.Name x p) (e :: es) [] pos) (tCall sp dvs E t) := ⟨fun pins s σ H Q I h =>
  wpAny_Call_Name_kw (ld_glob I hg hm (PySem.W.callWith_K (h₀ := X.base) I.ok.mod.kin hk (thn (ha.run pos pins s σ H _ I h) fun us s1 ⟨vs, H1, I1, r, q⟩ => ⟨I1.kIn, run_fnG F hG hr hb hd hx I1 r q⟩) he hpl) hdb)⟩
/-- repr(x) -/
theorem call_repr (hG : X.A.guards = some []) (hu : X.A.units + 64 < cLine) : CallR X (.builtin "repr") (rRepr X.K) := by
  intro pins s σ H xs us Q I r h
  obtain ⟨a, d, rfl, hd, h1, h2, h3, h4, q⟩ := h
  obtain ⟨u, rfl, ru⟩ := vals1 r
  cases (show u = Value.ref a from ru)
  obtain ⟨as, rd⟩ := Dp.reads I d _ _ hd (rfl : RelV (V.ref a) (Value.ref a))
  refine repr_of_reads' (h₀ := s.heap) rd h1 (fun z => absurd (h2.symm.trans z) (by decide)) hG (by omega) (fun _ _ z => z) (fun h' u tk hk => ?_) h4
  exact ⟨.str d.shown, H, I.kept hk, ⟨u, rfl⟩, q⟩
end
end L2
namespace L2
open PySem PySem.Spec PyProof.Rows
/-- the end of a law whose def runs where no text of an object is being made -/
theorem law_goG {P : Program} {w : World} {K : PySem.W.Frag} {mg mb : Str → Option Value} {k : Nat} {fa a : Addr} {fd : FuncData} {x : Str} {sp : Sp} {z : Shared} {vs : List Value} {ns : List Int}
    (KX : K.In z.heap) (hns : z.heap.Ns mainGlobals mg) (hb : z.heap.Ns builtinsNs mb) (hbb : ∀ x : Str, x ≠ "__name__" → mb x = bootBuiltins x) (hlim : z.heap.NoLimit) (hg : z.gens = #[])
    (ha : z.heap.get? a = some { cls := .type "list", data := .seq vs.toArray }) (hi : IntsAre vs ns) (hl : ns.length ≤ sizeLine) (hr : Room k callerA)
    (F : ∀ base : Heap, K.In base → base.Ns mainGlobals mg → FnG P w K mg base CX0 k fa fd [x] sp) (hbind : ∀ (s : Shared) (u : Value), BindsTo s fd ⟨[u], []⟩ [(x, u)])
    (hsp : ∀ H : Hp, SqL K H a (ns.map V.int) → sp [.ref a] H (fun v _ => v = .bl true) fun _ _ _ => False) :
    codeAny (model P w) callerA (.call (.ref fa) ⟨[.ref a], []⟩) (fun r y => r = .ok (.ret (.bool true)) ∧ OldK z.heap y.heap ∧ y.os = z.os ∧ AllBare y.gens) z := by
  let ob : Obj := { cls := .type "list", data := .seq vs.toArray }
  let H : Hp := fun b => if b = a ∧ K.lookup a = none then some (.frz ob (.lst (ns.map V.int))) else none
  have rv := vals_ints hi
  have lenV := hi.length
  have Ha : K.lookup a = none → H a = some (.frz ob (.lst (ns.map V.int))) := fun e => if_pos ⟨rfl, e⟩
  have Hn : ∀ b, ¬ (b = a ∧ K.lookup a = none) → H b = none := fun b e => if_neg e
  have Hs : ∀ {b o}, H b = some o → b = a ∧ K.lookup a = none ∧ o = .frz ob (.lst (ns.map V.int)) := fun {b o} e => by
    by_cases hba : b = a ∧ K.lookup a = none
    · rw [show H b = some (.frz ob (.lst (ns.map V.int))) from if_pos hba] at e
      exact ⟨hba.1, hba.2, (Option.some.inj e).symm⟩
    · rw [Hn b hba] at e
      cases e
  have hok : HOk P w H z.heap := by
    intro b o e
    obtain ⟨e1, e2, e3⟩ := Hs e
    subst e1 e3
    exact ⟨ha, by rw [List.length_map]; exact hl, vs, _, rv, ha⟩
  have dn : ∀ {b : Addr} {o : Obj} {es : Array DictEntry} {ep : Nat}, z.heap.get? b = some o → o.data = .dict es ep → H b = none := by
    intro b o es ep e d
    refine Hn b fun q => ?_
    rw [q.1, ha] at e
    cases e
    cases d
  have nsK : ∀ {b : Addr} {m : Str → Option Value}, z.heap.Ns b m → (hidT z.heap H).Ns b m := fun ⟨o, es, ep, e, d, r⟩ => ⟨o, es, ep, hidT_get e (dn e d), d, r⟩
  have KB : K.In (hidT z.heap H) := by
    intro b o e
    refine hidT_get (KX b o e) (Hn b fun q => ?_)
    rw [q.1, q.2] at e
    cases e
  have M : Mod K mg (hidT z.heap H) := ⟨KB, nsK hns, ⟨mb, nsK hb, hbb⟩, let ⟨mc, h1, h2⟩ := hlim; ⟨mc, nsK h1, h2⟩⟩
  have e0 : Env0 P w K mg (hidT z.heap H) callerA [] z H := ⟨rfl, M, fun _ _ e => of_hidT e, Nat.le_of_eq (hidT_size _ _), trivial, fun _ q => (nomatch q), hok, .of_eq hg⟩
  have SA : SqL K H a (ns.map V.int) := by
    cases hk : K.lookup a with
    | none => exact Or.inl (Or.inr ⟨ob, Ha hk⟩)
    | some o =>
      have e := KX a o hk
      rw [ha] at e
      cases e
      exact Or.inr ⟨_, vs.toArray, _, hk, rfl, rfl, rfl, by rw [List.size_toArray, lenV]; exact hl, by simpa using rv⟩
  refine codeAny_mono ((F _ KB (nsK hns)).go callerA rfl hr [] z H e0 ⟨[.ref a], []⟩ [.ref a] [.ref a] (hbind z (.ref a)) (.cons rfl .nil) _ _ (hsp H SA)) fun r y h => ?_
  match r, h with
  | .error e, h => exact h.elim
  | .ok (.ret u), ⟨v, H2, os, bare, un, hok2, rv2, q⟩ =>
    cases (show v = V.bl true from q)
    cases (show u = Value.bool true from rv2)
    refine ⟨rfl, OldK.of_keep fun b o e => ?_, os, bare⟩
    by_cases hba : b = a ∧ K.lookup a = none
    · obtain ⟨rfl, h2⟩ := hba
      obtain ⟨e2, _⟩ := hok2 b _ (un.frzs b ob _ (Ha h2))
      rw [ha] at e
      cases e
      exact e2
    · exact un.keep b o e (Hn b hba) (fun q => nomatch q) (fun q => nomatch q)
/-- the goal that k_head leaves, for a law by FnG; the script's bits are not told -/
theorem walk_ofG {l : PySem.W.OpenLaw} {n k : Nat} {q : Program} {loose : List Str} {XP : (Str → Option Value) → Heap → Prop} {YP : World → Heap → Prop} {d : DefRec} {K : Params → PySem.W.Frag} {sp : PySem.W.Frag → Sp} {x : Str}
    (hn : l.most = some n) (hn2 : n ≤ sizeLine) (hdf : d.params.defaults = []) (hr : Room k callerA) (hY : ∀ (w : World) (h : Heap), YP w h → (K w.params).In h)
    (F : ∀ (w : World) (mg : Str → Option Value) (fa : Addr) (h : Heap), (K w.params).In h → h.Ns mainGlobals mg → mg d.name = some (.ref fa) →
      ∃ fd : FuncData, (∀ (s : Shared) (u : Value), BindsTo s fd ⟨[u], []⟩ [(x, u)]) ∧ ∀ base : Heap, (K w.params).In base → base.Ns mainGlobals mg → FnG l.prog w (K w.params) mg base CX0 k fa fd [x] (sp (K w.params)))
    (hsp : ∀ (K : PySem.W.Frag) (H : Hp) (a : Addr) (ns : List Int), ns.length ≤ n → SqL K H a (ns.map V.int) → sp K [.ref a] H (fun v _ => v = .bl true) fun _ _ _ => False) :
    PySem.W.WalkO q loose XP YP l.row.toRowW d [] (fun f vs => PySem.call f vs) :=
  Att.attach_call hn hdf fun w _ s1 mg mb fa o pm cd doc a vs ns G Y ho hd hcd hmg hobj hints hlen hg => by
    obtain ⟨fd, hb, hF⟩ := F w mg fa _ (hY w _ Y) G.T.g hmg
    exact law_goG (hY w _ Y) G.T.g G.T.b G.T.builtins G.T.nolimit hg hobj hints (Nat.le_trans hlen hn2) hr hF hb fun H hS => hsp _ H a ns hlen hS
end L2
namespace L2
open PySem PySem.Spec PyProof.Rows
/-- values in another order -/
def picked {α : Type} (d : α) (ix : List Nat) (ws : List α) : List α := ix.map fun i => ws.getD i d
theorem picked_vals {zs : List V} {ws : List Value} (r : Vals zs ws) (ix : List Nat) : Vals (picked V.non ix zs) (picked Value.none ix ws) := by
  induction ix with
  | nil => exact .nil
  | cons i r2 ih =>
    refine .cons ?_ ih
    show RelV (zs.getD i V.non) (ws.getD i Value.none)
    have hl := r.length
    by_cases hi : i < zs.length
    · have e1 : zs[i]? = some (zs.getD i V.non) := by rw [List.getD_eq_getElem?_getD, List.getElem?_eq_getElem hi]; rfl
      obtain ⟨u, e2, ru⟩ := r.get e1
      rw [show ws.getD i Value.none = u by rw [List.getD_eq_getElem?_getD, e2]; rfl]
      exact ru
    · rw [List.getD_eq_getElem?_getD, List.getD_eq_getElem?_getD, List.getElem?_eq_none (by omega), List.getElem?_eq_none (by omega)]
      exact (rfl : RelV V.non Value.none)
/-- how a call by keywords alone binds -/
def KwB (K : PySem.W.Frag) (fd : FuncData) (ps ks : List Str) (ix : List Nat) : Prop := ix.length = ps.length ∧ ∀ (s : Shared) (ws : List Value), K.In s.heap → ws.length = ks.length → BindsTo s fd ⟨[], ks.zip ws⟩ (ps.zip (picked Value.none ix ws))
def tKw0 (sp : Sp) (n : Nat) (ix : List Nat) (E : XK) (t : TA) : TE := fun σ H Q => t σ H fun vs H1 => vs.length = n ∧ sp (picked V.non ix vs) H1 Q E
section
variable {X : Cx} {CX : CXT} {k : Nat} {f : Addr} {fd : FuncData} {ps ks : List Str} {sp : Sp} {E : XK} {x : Str} {p pos : Pos} {kws : List Keyword} {t : TA} {ix : List Nat}
/-- f(k = v, ..) -/
theorem pe_kw0 (F : FnOk X.prog X.w X.K X.mg X.base CX k f fd ps sp) (hr : Room k X.A) (hg : Gl X x) (hm : X.mg x = some (.ref f)) (hk : PySem.W.keepIn X.K (.ref f) = true) (hb : KwB X.K fd ps ks ix) (hx : Passes CX X E)
    (ha : PK X kws t) (hall : (backToKw pos (keywordEach kws X.env)).all (·.1.isSome) = true := by rfl) (hks : (backToKw pos (keywordEach kws X.env)).filterMap (·.1) = ks := by rfl) (hdb : (x == ("__debug__" : Str)) = false := by decide)
    (hpl : ((backTo pos (starEach [] X.env)).any (·.1) || (backToKw pos (keywordEach kws X.env)).any (·.1.isNone)) = false := by rfl) : PE X (.Call (.Name x p) [] kws pos) (tKw0 sp ks.length ix E t) := by
  refine ⟨fun pins s σ H Q I h => wpAny_Call_Name_kw (ld_glob I hg hm ?_ hdb)⟩
  refine PySem.W.callWith_KW0 (h₀ := X.base) I.ok.mod.kin hk hall (thn (ha.run pos pins s σ H _ I h) fun ws s2 ⟨zs, H2, I2, rz, hl, q2⟩ => ⟨I2.kIn, ?_⟩) hpl
  rw [hks]
  have r2 := picked_vals rz ix
  refine wpAny_call (codeAny_mono (F.run X.A X.stack s2 H2 ⟨[], ks.zip ws⟩ (picked Value.none ix ws) (picked V.non ix zs) Q E hr I2.env0 (hb.2 s2 ws I2.kIn (rz.length.symm.trans hl)) r2 q2) fun o s3 hq => ?_)
  match o, hq with
  | .error e, hq => exact hx pins σ H2 s2 e s3 I2 hq
  | .ok (.ret u), hq => exact I2.after hq
end
section
variable {K : PySem.W.Frag} {x qual : Str} {st : Stmt} {f : Addr} {fd : FuncData} {ps ks : List Str} {ix : List Nat}
theorem Fun.kwb (F : Fun K x qual st f fd) (hix : ix.length = ps.length) (h : ∀ (kV doc pm : Value) (an : Option Addr) (cdv ct : Value) (us : List Value), us.length = ks.length → bindArgs (PySem.W.fnOf x qual (defArgs st) (defBody st) (defScope st) .none kV doc pm an cdv ct) ⟨[], ks.zip us⟩ = pure (ps.zip (picked Value.none ix us))) : KwB K fd ps ks ix := by
  obtain ⟨oc, od, kV, doc, pm, an, cdv, ct, osl, rfl, lk, hcd⟩ := F.ex
  exact ⟨hix, fun s ws _ hl => .of_eq (h kV doc pm an cdv ct ws hl)⟩
end
/-! ### readings, one step each: what stands at the head -/
section
variable {σ : St} {H : Hp} {Q : VK} {D : Ends} {ta tb tc te : TE} {t u : TS} {v : V} {i : Nat} {a b : TT} {K : PySem.W.Frag}
theorem g_seq (h : t { D with nx := u D } σ H) : tSeq t u D σ H := h
theorem g_asg {g : TG} (h : te σ H fun x H1 => g x σ H1 D.nx) : tAsg te g D σ H := h
theorem g_name {Q : St → Hp → Prop} (h : Q (σ.set i (some v)) H) : gName i v σ H Q := h
theorem g_var (e : σ[i]? = some (some v)) (h : Q v H) : tVar i σ H Q := ⟨v, e, h⟩
theorem g_c (h : Q v H) : tC v σ H Q := h
theorem g_op {r : R2} (h : ta σ H fun x H1 => tb σ H1 fun y H2 => r x y H2 Q) : tOp r ta tb σ H Q := h
theorem g_un {r : V → Hp → VK → Prop} (h : ta σ H fun x H1 => r x H1 Q) : tUn r ta σ H Q := h
theorem g_I0 {g : Int → Int → V} {i j : Int} (h : Q (g i j) H) : rI0 g (.int i) (.int j) H Q := ⟨i, j, rfl, rfl, h⟩
theorem g_I {C : Int → Int → Prop} {g : Int → Int → V} {i j : Int} (c : C i j) (h : Q (g i j) H) : rI C g (.int i) (.int j) H Q := ⟨i, j, rfl, rfl, c, h⟩
theorem g_U {g : Int → V} {i : Int} (h : Q (g i) H) : rU g (.int i) H Q := ⟨i, rfl, h⟩
theorem g_eq {x y : V} (c : scal x y = true) (h : Q (.bl (decide (x = y))) H) : rEq x y H Q := ⟨c, h⟩
theorem g_ne {x y : V} (c : scal x y = true) (h : Q (.bl (!decide (x = y))) H) : rNe x y H Q := ⟨c, h⟩
theorem g_tcons {tr : TA} {Q : List V → Hp → Prop} (h : ta σ H fun x H1 => tr σ H1 fun xs H2 => Q (x :: xs) H2) : tCons ta tr σ H Q := h
theorem g_tnil {Q : List V → Hp → Prop} (h : Q [] H) : tNil σ H Q := h
theorem g_call {sp : Sp} {dvs : List V} {E : XK} {tr : TA} (h : tr σ H fun vs H1 => sp (vs ++ dvs) H1 Q E) : tCall sp dvs E tr σ H Q := h
theorem g_cb {r : List V → Hp → VK → Prop} {tr : TA} (h : tr σ H fun vs H1 => r vs H1 Q) : tCB r tr σ H Q := h
theorem g_tup {tr : TA} (h : tr σ H fun xs H1 => xs.length ≤ sizeLine ∧ ∀ p, H1 p = none → Q (.ref p) (upd H1 p (.tup xs))) : tTup tr σ H Q := h
theorem g_lst {tr : TA} (h : tr σ H fun xs H1 => xs.length ≤ sizeLine ∧ ∀ p, H1 p = none → Q (.ref p) (upd H1 p (.lst xs))) : tLst tr σ H Q := h
theorem g_ret (h : te σ H D.rt) : tRet te D σ H := h
theorem g_drop (h : te σ H fun _ H1 => D.nx σ H1) : tDrop te D σ H := h
theorem g_next (h : D.nx σ H) : tNext D σ H := h
theorem g_cont (h : D.ct σ H) : tCont D σ H := h
theorem g_break (h : D.bk σ H) : tBreak D σ H := h
theorem g_ifs (h : a σ H fun b H1 => if b = true then t D σ H1 else u D σ H1) : tIfS a t u D σ H := h
theorem g_ife (h : a σ H fun c H1 => if c = true then ta σ H1 Q else tb σ H1 Q) : tIf a ta tb σ H Q := h
theorem g_test {Q : Bool → Hp → Prop} (h : te σ H fun x H1 => ∃ k, x = .bl k ∧ Q k H1) : tTest te σ H Q := h
theorem g_tb {Q : Bool → Hp → Prop} (h : te σ H fun x H1 => ∃ k, x = .bl k ∧ Q k H1) : tB te σ H Q := h
theorem g_and {Q : Bool → Hp → Prop} (h : a σ H fun c H1 => if c = true then b σ H1 Q else Q false H1) : tAnd a b σ H Q := h
theorem g_or {Q : Bool → Hp → Prop} (h : a σ H fun c H1 => if c = true then Q true H1 else b σ H1 Q) : tOr a b σ H Q := h
theorem g_not {Q : Bool → Hp → Prop} (h : a σ H fun c H1 => Q (!c) H1) : tNot a σ H Q := h
theorem g_andV (h : ta σ H fun x H1 => ∃ c, x = .bl c ∧ if c = true then tb σ H1 Q else Q (.bl false) H1) : tAndV ta tb σ H Q := h
theorem g_orV (h : ta σ H fun x H1 => ∃ c, x = .bl c ∧ if c = true then Q (.bl true) H1 else tb σ H1 Q) : tOrV ta tb σ H Q := h
theorem g_notV (h : ta σ H fun x H1 => ∃ c, x = .bl c ∧ Q (.bl (!c)) H1) : tNotV ta σ H Q := h
theorem g_bl {k : Bool} {P : Bool → Prop} (h : P k) : ∃ c, V.bl k = V.bl c ∧ P c := ⟨k, rfl, h⟩
theorem g_chain {r r' : R2} (h : ta σ H fun x H1 => tb σ H1 fun y H2 => r x y H2 fun z H3 => ∃ k, z = .bl k ∧ (if k = true then tc σ H3 fun w' H4 => r' y w' H4 Q else Q (.bl false) H3)) : tChain r r' ta tb tc σ H Q := h
theorem g_dget (h : ta σ H fun x H1 => tb σ H1 fun y H2 => ∃ a v, x = .ref a ∧ DGet H2 a y (some v) ∧ Q v H2) : tDGet ta tb σ H Q := h
theorem g_dput (h : tc σ H fun v H1 => ta σ H1 fun x H2 => tb σ H2 fun y H3 => ∃ a H4, x = .ref a ∧ DPut H3 a y v H4 ∧ D.nx σ H4) : sDPut ta tb tc D σ H := h
theorem g_for {wi : TI} {g : TG} (h : wi σ H fun J H1 => ∃ W : Nat → Nat → St → Hp → Prop, (∃ m, W 0 m σ H1) ∧ ∀ i m σ H, W i m σ H → (J.stop i H ∧ D.nx σ H) ∨ (J.go i H ∧ ∃ N : St → Hp → Prop, (∀ σ' H', N σ' H' → ∃ m', m' < m ∧ W (i + 1) m' σ' H') ∧ ∀ x H', J.yld i H x H' → g x σ H' fun σ2 H2 => t { D with nx := N, ct := N, bk := D.nx } σ2 H2)) : tFor wi g t D σ H := h
theorem g_ilist {R : It → Hp → Prop} (h : ta σ H fun x H1 => ∃ a, x = .ref a ∧ (∃ xs, SqL K H1 a xs) ∧ R (Itl K a) H1) : iList K ta σ H R := h
theorem g_istr {R : It → Hp → Prop} (h : ta σ H fun v H1 => ∃ x, v = .str x ∧ R (Its x) H1) : iStr ta σ H R := h
theorem g_irng1 {tr : TA} {R : It → Hp → Prop} (h : tr σ H fun vs H1 => ∃ j : Int, vs = [.int j] ∧ -(2 ^ 62) ≤ j ∧ j < 2 ^ 62 ∧ R (Itr 0 j.toNat) H1) : iRng1 tr σ H R := h
theorem g_itrue {c : Bool} {A B : Prop} (e : c = true) (h : A) : if c = true then A else B := by rw [if_pos e]; exact h
theorem g_ifalse {c : Bool} {A B : Prop} (e : c = false) (h : B) : if c = true then A else B := by rw [e, if_neg Bool.false_ne_true]; exact h
theorem g_if {c : Bool} {A B : Prop} (h1 : c = true → A) (h2 : c = false → B) : if c = true then A else B := by
  cases c with
  | true => rw [if_pos rfl]; exact h1 rfl
  | false => rw [if_neg Bool.false_ne_true]; exact h2 rfl
end
end L2
namespace Dr
open PySem L2
/-! the draws of the laws: a dict with four keys -/
def dkv (l : Addr) (a lf u : Int) : List (Key × V) := [(Sum.inr ("cells" : Str), .ref l), (Sum.inr ("at" : Str), .int a), (Sum.inr ("left" : Str), .int lf), (Sum.inr ("used" : Str), .int u)]
theorem n1 : ¬ ((Sum.inr ("cells" : Str) : Key) = Sum.inr ("at" : Str)) := by decide +kernel
theorem n2 : ¬ ((Sum.inr ("cells" : Str) : Key) = Sum.inr ("left" : Str)) := by decide +kernel
theorem n3 : ¬ ((Sum.inr ("cells" : Str) : Key) = Sum.inr ("used" : Str)) := by decide +kernel
theorem n4 : ¬ ((Sum.inr ("at" : Str) : Key) = Sum.inr ("left" : Str)) := by decide +kernel
theorem n5 : ¬ ((Sum.inr ("at" : Str) : Key) = Sum.inr ("used" : Str)) := by decide +kernel
theorem n6 : ¬ ((Sum.inr ("left" : Str) : Key) = Sum.inr ("used" : Str)) := by decide +kernel
theorem m1 : ¬ (("cells" : Str) = "at") := by decide +kernel
theorem m2 : ¬ (("cells" : Str) = "left") := by decide +kernel
theorem m3 : ¬ (("cells" : Str) = "used") := by decide +kernel
theorem m4 : ¬ (("at" : Str) = "cells") := by decide +kernel
theorem m5 : ¬ (("at" : Str) = "left") := by decide +kernel
theorem m6 : ¬ (("at" : Str) = "used") := by decide +kernel
theorem m7 : ¬ (("left" : Str) = "cells") := by decide +kernel
theorem m8 : ¬ (("left" : Str) = "at") := by decide +kernel
theorem m9 : ¬ (("left" : Str) = "used") := by decide +kernel
theorem m10 : ¬ (("used" : Str) = "cells") := by decide +kernel
theorem m11 : ¬ (("used" : Str) = "at") := by decide +kernel
theorem m12 : ¬ (("used" : Str) = "left") := by decide +kernel
variable {l : Addr} {a lf u z : Int} {H : Hp} {d : Addr}
theorem v_cells : valV (dkv l a lf u) (Sum.inr ("cells" : Str)) = some (.ref l) := valV_pos rfl
theorem v_at : valV (dkv l a lf u) (Sum.inr ("at" : Str)) = some (.int a) := by unfold dkv; rw [valV_neg n1, valV_pos rfl]
theorem v_left : valV (dkv l a lf u) (Sum.inr ("left" : Str)) = some (.int lf) := by unfold dkv; rw [valV_neg n2, valV_neg n4, valV_pos rfl]
theorem v_used : valV (dkv l a lf u) (Sum.inr ("used" : Str)) = some (.int u) := by unfold dkv; rw [valV_neg n3, valV_neg n5, valV_neg n6, valV_pos rfl]
theorem p_at : putK (dkv l a lf u) (Sum.inr ("at" : Str)) (.int z) = dkv l z lf u := by simp [putK, mergeK, dkv, m1, m2, m3, m4, m5, m6, m7, m8, m9, m10, m11, m12]
theorem p_left : putK (dkv l a lf u) (Sum.inr ("left" : Str)) (.int z) = dkv l a z u := by simp [putK, mergeK, dkv, m1, m2, m3, m4, m5, m6, m7, m8, m9, m10, m11, m12]
theorem p_used : putK (dkv l a lf u) (Sum.inr ("used" : Str)) (.int z) = dkv l a lf z := by simp [putK, mergeK, dkv, m1, m2, m3, m4, m5, m6, m7, m8, m9, m10, m11, m12]
theorem mrg : mergeK [] [((Sum.inr ("cells" : Str) : Key), V.ref l), (Sum.inr ("at" : Str), .int a), (Sum.inr ("left" : Str), .int lf), (Sum.inr ("used" : Str), .int u)] = dkv l a lf u := by
  simp [putK, mergeK, dkv, m1, m2, m3, m4, m5, m6, m7, m8, m9, m10, m11, m12]
theorem get_cells (h : H d = some (.dK (dkv l a lf u))) : DGet H d (.str "cells") (some (.ref l)) := by rw [← v_cells (a := a) (lf := lf) (u := u)]; exact DGet.k (k := Sum.inr ("cells" : Str)) h
theorem get_at (h : H d = some (.dK (dkv l a lf u))) : DGet H d (.str "at") (some (.int a)) := by rw [← v_at (l := l) (lf := lf) (u := u)]; exact DGet.k (k := Sum.inr ("at" : Str)) h
theorem get_left (h : H d = some (.dK (dkv l a lf u))) : DGet H d (.str "left") (some (.int lf)) := by rw [← v_left (l := l) (a := a) (u := u)]; exact DGet.k (k := Sum.inr ("left" : Str)) h
theorem get_used (h : H d = some (.dK (dkv l a lf u))) : DGet H d (.str "used") (some (.int u)) := by rw [← v_used (l := l) (a := a) (lf := lf)]; exact DGet.k (k := Sum.inr ("used" : Str)) h
theorem put_at (h : H d = some (.dK (dkv l a lf u))) : DPut H d (.str "at") (.int z) (upd H d (.dK (dkv l z lf u))) := by rw [← p_at (a := a)]; exact DPut.k (k := Sum.inr ("at" : Str)) h (by show 4 < _; decide)
theorem put_left (h : H d = some (.dK (dkv l a lf u))) : DPut H d (.str "left") (.int z) (upd H d (.dK (dkv l a z u))) := by rw [← p_left (lf := lf)]; exact DPut.k (k := Sum.inr ("left" : Str)) h (by show 4 < _; decide)
theorem put_used (h : H d = some (.dK (dkv l a lf u))) : DPut H d (.str "used") (.int z) (upd H d (.dK (dkv l a lf z))) := by rw [← p_used (u := u)]; exact DPut.k (k := Sum.inr ("used" : Str)) h (by show 4 < _; decide)
/-- the draws stand at d, at most m of them are used -/
def Draw (H : Hp) (d l : Addr) (m : Nat) : Prop := ∃ (ns : List Int) (a lf u : Int), H d = some (.dK (dkv l a lf u)) ∧ H l = some (.lst (ns.map V.int)) ∧ 0 < ns.length ∧ ns.length ≤ 64 ∧ 0 ≤ a ∧ a ≤ m ∧ 0 ≤ lf ∧ 0 ≤ u ∧ u ≤ m
/-- all but what stands at d is kept -/
def Kp (d : Addr) (H H' : Hp) : Prop := ∀ p o, p ≠ d → H p = some o → H' p = some o
theorem Kp.refl : Kp d H H := fun _ _ _ h => h
theorem Kp.trans {H1 H2 : Hp} (a : Kp d H H1) (b : Kp d H1 H2) : Kp d H H2 := fun p o n h => b p o n (a p o n h)
theorem Kp.new {p : Addr} {o : HO} (h : H p = none) : Kp d H (upd H p o) := fun b x _ e => by rw [upd_ne (ne_of_none e h)]; exact e
theorem Kp.at {o : HO} : Kp d H (upd H d o) := fun b x n e => by rw [upd_ne n]; exact e
theorem Kp.mut {p : Addr} {o : HO} {H1 : Hp} (k : Kp d H H1) (h : H p = none) : Kp d H (upd H1 p o) := fun b x n e => by
  rw [upd_ne (ne_of_none e h)]
  exact k b x n e
theorem Draw.mono {m m' : Nat} (D : Draw H d l m) (h : m ≤ m') : Draw H d l m' := by
  obtain ⟨ns, a, lf, u, h1, h2, h3, h4, h5, h6, h7, h8, h9⟩ := D
  exact ⟨ns, a, lf, u, h1, h2, h3, h4, h5, by omega, h7, h8, by omega⟩
theorem Draw.ne {m : Nat} {p : Addr} (D : Draw H d l m) (h : H p = none) : p ≠ d := by
  obtain ⟨ns, a, lf, u, h1, _⟩ := D
  exact fun e => by rw [e, h1] at h; cases h
/-- a new object leaves the draws -/
theorem Draw.upd {m : Nat} {p : Addr} {o : HO} (D : Draw H d l m) (h : H p = none) : Draw (L2.upd H p o) d l m := by
  obtain ⟨ns, a, lf, u, h1, h2, h3⟩ := D
  exact ⟨ns, a, lf, u, by rw [upd_ne (ne_of_none h1 h)]; exact h1, by rw [upd_ne (ne_of_none h2 h)]; exact h2, h3⟩
theorem Draw.nel {m : Nat} {p : Addr} (D : Draw H d l m) (h : H p = none) : p ≠ l := by
  obtain ⟨ns, a, lf, u, h1, h2, _⟩ := D
  exact fun e => by rw [e, h2] at h; cases h
/-- a change elsewhere leaves the draws -/
theorem Draw.mut {m : Nat} {p : Addr} {o : HO} (D : Draw H d l m) (n1 : p ≠ d) (n2 : p ≠ l) : Draw (L2.upd H p o) d l m := by
  obtain ⟨ns, a, lf, u, h1, h2, h3⟩ := D
  exact ⟨ns, a, lf, u, by rw [upd_ne n1.symm]; exact h1, by rw [upd_ne n2.symm]; exact h2, h3⟩
/-- heaps that know all that an elder one knew -/
theorem Draw.same {H' : Hp} {m : Nat} (D : Draw H d l m) (s : ∀ p o, H p = some o → H' p = some o) : Draw H' d l m := by
  obtain ⟨ns, a, lf, u, h1, h2, h3⟩ := D
  exact ⟨ns, a, lf, u, s _ _ h1, s _ _ h2, h3⟩
/-- the promise of _law_next -/
def spNext : Sp := fun vs H Q _ => ∃ (d l : Addr) (m : Nat) (b : Int), vs = [.ref d, .int b] ∧ Draw H d l m ∧ m < 1000000 ∧ 0 < b ∧ b < 1000000 ∧
  ∀ (r : Int) (H' : Hp), 0 ≤ r → r < b → Draw H' d l (m + 1) → Kp d H H' → (∀ p, H p = none → H' p = none) → Q (.int r) H'
/-- the promise of _law_mixed -/
def spMixed : Sp := fun vs H Q _ => ∃ c k : Int, vs = [.int c, .int k] ∧ 0 ≤ k ∧ k ≤ 1000000 ∧ ∀ r : Int, 0 ≤ r → r < 2147483648 → Q (.int r) H
/-- the promise of _law_begin -/
def spBegin (K : PySem.W.Frag) : Sp := fun vs H Q _ => ∃ (a : Addr) (ns : List Int), vs = [.ref a] ∧ SqL K H a (ns.map V.int) ∧ ns.length ≤ 63 ∧ ∀ (d l : Addr) (H' : Hp), H d = none → H l = none → Draw H' d l 0 → (∀ p o, H p = some o → H' p = some o) → Q (.ref d) H'
/-! the numbers -/
theorem mixA {c k : Int} (hk : 0 ≤ k) : 0 ≤ (c % 1000000007 + 7919 * k * k + 31 * k + 7) := by
  have h1 : 0 ≤ c % 1000000007 := Int.emod_nonneg _ (by decide)
  have h2 : 0 ≤ 7919 * k * k := Int.mul_nonneg (Int.mul_nonneg (by decide) hk) hk
  omega
theorem modB {x : Int} {n : Int} (hn : 0 < n) : 0 ≤ x % n ∧ x % n < n := ⟨Int.emod_nonneg _ (by omega), Int.emod_lt_of_pos _ hn⟩
end Dr
namespace L2
open PySem
section
variable {A B : Prop}
theorem g_ifd {p : Prop} [Decidable p] (h1 : p → A) (h2 : ¬ p → B) : if decide p = true then A else B := by
  by_cases h : p
  · rw [if_pos (decide_eq_true h)]; exact h1 h
  · rw [if_neg (fun z => h (of_decide_eq_true z))]; exact h2 h
theorem g_ifn {p : Prop} [Decidable p] (h1 : ¬ p → A) (h2 : p → B) : if (!decide p) = true then A else B := by
  by_cases h : p
  · rw [decide_eq_true h]; exact (iteF (h2 h))
  · rw [decide_eq_false h]; exact (iteT (h1 h))
end
section
variable {σ : St} {H : Hp} {Q : VK} {K : PySem.W.Frag}
theorem g_ixl {p : Addr} {xs : List V} {i : Int} {v : V} (h : SqL K H p xs) (e : atI xs i = some v) (q : Q v H) : rIxL K (.ref p) (.int i) H Q := ⟨p, xs, i, v, rfl, rfl, h, e, q⟩
theorem g_ixt {p : Addr} {xs : List V} {i : Int} {v : V} (h : SqT K H p xs) (e : atI xs i = some v) (q : Q v H) : rIxT K (.ref p) (.int i) H Q := ⟨p, xs, i, v, rfl, rfl, h, e, q⟩
theorem g_dgets {d : Addr} {y v : V} {N : V → Prop} (h : DGet H d y (some v)) (q : N v) : ∃ a v1, V.ref d = .ref a ∧ DGet H a y (some v1) ∧ N v1 := ⟨d, v, rfl, h, q⟩
theorem g_dputs {d : Addr} {y v : V} {H' : Hp} {N : Hp → Prop} (h : DPut H d y v H') (q : N H') : ∃ a H4, V.ref d = .ref a ∧ DPut H a y v H4 ∧ N H4 := ⟨d, H', rfl, h, q⟩
end
section
variable {X : Cx} {x : Str} {pos : Pos} {z : Str} {i : Int} {t : Tok} {n : String}
theorem pe_gs (hg : Gl X x) (hm : X.mg x = some (.str z t)) (hdb : (x == ("__debug__" : Str)) = false := by decide) : PE X (.Name x pos) (tC (.str z)) := pe_glob (v := .str z) hg hm ⟨t, rfl⟩ hdb
theorem pe_gi (hg : Gl X x) (hm : X.mg x = some (.int i t)) (hdb : (x == ("__debug__" : Str)) = false := by decide) : PE X (.Name x pos) (tC (.int i)) := pe_glob (v := .int i) hg hm ⟨t, rfl⟩ hdb
theorem pe_ty (hg : Gl X x) (hm : X.mg x = none) (hv : bootBuiltins x = some (.type n)) (hn : x ≠ "__name__" := by decide) (hdb : (x == ("__debug__" : Str)) = false := by decide) : PE X (.Name x pos) (tC (.ty n)) := pe_bltn (v := .ty n) hg hm hv rfl hn hdb
end
/-! names for readings that have none -/
section
variable {X : Cx} {H : Hp} {Q : VK} {K : PySem.W.Frag} {σ : St} {ta tb : TE}
def rLen1 (K : PySem.W.Frag) : List V → Hp → VK → Prop := fun xs H Q => ∃ p ys, xs = [.ref p] ∧ (SqL K H p ys ∨ SqT K H p ys) ∧ Q (.int ys.length) H
theorem call_len1 : CallR X (.builtin "len") (rLen1 X.K) := call_len_seq
theorem g_len {p : Addr} {ys : List V} (h : SqL K H p ys) (q : Q (.int ys.length) H) : rLen1 K [.ref p] H Q := ⟨p, ys, rfl, Or.inl h, q⟩
theorem g_lent {p : Addr} {ys : List V} (h : SqT K H p ys) (q : Q (.int ys.length) H) : rLen1 K [.ref p] H Q := ⟨p, ys, rfl, Or.inr h, q⟩
def rLenZ : List V → Hp → VK → Prop := fun xs H Q => ∃ z, xs = [.str z] ∧ z.length ≤ sizeLine ∧ Q (.int z.length) H
theorem call_lenZ : CallR X (.builtin "len") rLenZ := call_len_str
theorem g_lenz {z : Str} (h : z.length ≤ sizeLine) (q : Q (.int z.length) H) : rLenZ [.str z] H Q := ⟨z, rfl, h, q⟩
def rMin1 : List V → Hp → VK → Prop := fun xs H Q => ∃ i j, xs = [.int i, .int j] ∧ Q (.int (if j < i then j else i)) H
theorem call_min1 (hc : X.calm = true) : CallR X (.builtin "min") rMin1 := call_min2 hc
theorem g_min {i j : Int} (q : Q (.int (if j < i then j else i)) H) : rMin1 [.int i, .int j] H Q := ⟨i, j, rfl, q⟩
def rMax1 : List V → Hp → VK → Prop := fun xs H Q => ∃ i j, xs = [.int i, .int j] ∧ Q (.int (if j > i then j else i)) H
theorem call_max1 (hc : X.calm = true) : CallR X (.builtin "max") rMax1 := call_max2 hc
theorem g_max {i j : Int} (q : Q (.int (if j > i then j else i)) H) : rMax1 [.int i, .int j] H Q := ⟨i, j, rfl, q⟩
def rOrd1 : List V → Hp → VK → Prop := fun xs H Q => ∃ x, xs = [.str x] ∧ x.length = 1 ∧ Q (.int (x.cps.getD 0 0 : Nat)) H
theorem call_ord1 : CallR X (.builtin "ord") rOrd1 := call_ord
theorem g_ord {c : Nat} (q : Q (.int (c : Nat)) H) : rOrd1 [.str ⟨#[c]⟩] H Q := ⟨_, rfl, rfl, q⟩
def rCatZ : R2 := fun x y H Q => ∃ i j, x = .str i ∧ y = .str j ∧ i.length + j.length ≤ sizeLine ∧ Q (.str (i ++ j)) H
theorem op_addZ : OpR X (binaryOp .Add) rCatZ := op_add_str
theorem g_addz {i j : Str} (h : i.length + j.length ≤ sizeLine) (q : Q (.str (i ++ j)) H) : rCatZ (.str i) (.str j) H Q := ⟨i, j, rfl, rfl, h, q⟩
def rLtZ : R2 := fun x y H Q => ∃ i j, x = .str i ∧ y = .str j ∧ Q (.bl (decide (i.cps.toList < j.cps.toList))) H
theorem op_ltZ : OpR X (compareOp .Lt) rLtZ := op_lt_str
theorem g_ltz {i j : Str} (q : Q (.bl (decide (i.cps.toList < j.cps.toList))) H) : rLtZ (.str i) (.str j) H Q := ⟨i, j, rfl, rfl, q⟩
theorem g_isn {x : V} (q : Q (.bl (decide (x = .non))) H) : rIsN x .non H Q := ⟨rfl, q⟩
theorem g_notn {x : V} (q : Q (.bl (!decide (x = .non))) H) : rNotN x .non H Q := ⟨rfl, q⟩
theorem g_inS {c : Nat} {z : Str} (q : Q (.bl (decide (c ∈ z.cps.toList))) H) : rInS (.str ⟨#[c]⟩) (.str z) H Q := ⟨c, z, rfl, rfl, q⟩
theorem g_notInS {c : Nat} {z : Str} (q : Q (.bl (!decide (c ∈ z.cps.toList))) H) : rNotInS (.str ⟨#[c]⟩) (.str z) H Q := ⟨c, z, rfl, rfl, q⟩
theorem g_ixz {z : Str} {i : Int} {c : Nat} (h : z.length ≤ sizeLine) (e : atI z.cps.toList i = some c) (q : Q (.str ⟨#[c]⟩) H) : rIxS (.str z) (.int i) H Q := ⟨z, i, c, rfl, rfl, h, e, q⟩
theorem g_isi {x c : V} {t u : Value} {b : Bool} (k : ClsV c u) (ty : TyX K H x t) (e : PySem.W.kitOne K t u = some b) (q : Q (.bl b) H) : rIsi K [x, c] H Q := ⟨x, c, t, u, b, rfl, k, ty, e, q⟩
theorem g_all {a : Addr} {bs : List Bool} (h : SqL K H a (bs.map V.bl)) (q : Q (.bl (bs.all id)) H) : rAll K [.ref a] H Q := ⟨a, bs, rfl, h, q⟩
theorem g_any {a : Addr} {bs : List Bool} (h : SqL K H a (bs.map V.bl)) (q : Q (.bl (bs.any id)) H) : rAny K [.ref a] H Q := ⟨a, bs, rfl, h, q⟩
theorem g_cats {l b : Addr} {xs zs : List V} (h1 : SqL K H l xs) (h2 : SqL K H b zs) (h3 : xs.length + zs.length ≤ sizeLine) (q : ∀ p, H p = none → Q (.ref p) (upd H p (.lst (xs ++ zs)))) : rCatS K (.ref l) (.ref b) H Q := ⟨l, b, xs, zs, rfl, rfl, h1, h2, h3, q⟩
theorem g_eqd {x y : V} {d e : PyData} (h1 : Dp K H x d) (h2 : Dp K H y e) (s1 : SeqAt.shaped d = true) (s2 : SeqAt.shaped e = true) (q : Q (.bl (PyData.eqv d e)) H) : rEqD K x y H Q := ⟨d, e, h1, h2, s1, s2, q⟩
theorem g_ned {x y : V} {d e : PyData} (h1 : Dp K H x d) (h2 : Dp K H y e) (s1 : SeqAt.shaped d = true) (s2 : SeqAt.shaped e = true) (q : Q (.bl (!PyData.eqv d e)) H) : rNeD K x y H Q := ⟨d, e, h1, h2, s1, s2, q⟩
theorem g_sl {tl th : TO} {r : V → Option Int → Option Int → Hp → VK → Prop} (h : ta σ H fun x H1 => tl σ H1 fun l H2 => th σ H2 fun u H3 => r x l u H3 Q) : tSl r ta tl th σ H Q := h
theorem g_nop {Q : Option Int → Hp → Prop} (h : Q none H) : tNoPart σ H Q := h
theorem g_part {Q : Option Int → Hp → Prop} (h : ta σ H fun x H1 => ∃ i, x = .int i ∧ Q (some i) H1) : tPart ta σ H Q := h
theorem g_int {i : Int} {N : Int → Prop} (q : N i) : ∃ j, V.int i = .int j ∧ N j := ⟨i, rfl, q⟩
theorem g_slz {z : Str} {lo hi : Option Int} (h : z.length ≤ sizeLine) (q : Q (.str (cutS z lo hi)) H) : rSlS (.str z) lo hi H Q := ⟨z, rfl, h, q⟩
theorem g_m1 {r : V → List V → Hp → VK → Prop} (h : ta σ H fun x H1 => (∃ a, x = .str a) ∧ tb σ H1 fun y H2 => r x [y] H2 Q) : tM1 r ta tb σ H Q := h
theorem g_m0 {r : V → List V → Hp → VK → Prop} (h : ta σ H fun x H1 => (∃ a, x = .str a) ∧ r x [] H1 Q) : tM0 r ta σ H Q := h
theorem g_isz {z : Str} {N : Prop} (h : N) : (∃ a, V.str z = .str a) ∧ N := ⟨⟨z, rfl⟩, h⟩
def rJoinV (K : PySem.W.Frag) : V → List V → Hp → VK → Prop := fun x xs H Q => ∃ a p, ∃ ys : List Str, x = .str a ∧ xs = [.ref p] ∧ (SqL K H p (ys.map V.str) ∨ SqT K H p (ys.map V.str)) ∧ (ys.map (·.length)).sum + ys.length * a.length ≤ 16777216 ∧ Q (.str (Txt.join a ys)) H
theorem mt_joinV : MtR X "str.join" (rJoinV X.K) := mt_join
theorem g_join {a : Str} {p : Addr} {ys : List Str} (h : SqL K H p (ys.map V.str)) (hs : (ys.map (·.length)).sum + ys.length * a.length ≤ 16777216) (q : Q (.str (Txt.join a ys)) H) : rJoinV K (.str a) [.ref p] H Q := ⟨a, p, ys, rfl, rfl, Or.inl h, hs, q⟩
def rUpV : V → List V → Hp → VK → Prop := fun x xs H Q => ∃ a, x = .str a ∧ xs = [] ∧ a.length ≤ 5592405 ∧ Q (.str (Txt.upper a)) H
theorem mt_upV : MtR X "str.upper" rUpV := mt_upper
theorem g_up {a : Str} (h : a.length ≤ 5592405) (q : Q (.str (Txt.upper a)) H) : rUpV (.str a) [] H Q := ⟨a, rfl, rfl, h, q⟩
theorem g_bm {T : String} {r : V → List V → Hp → VK → Prop} {tr : TA} (h : ta σ H fun x H1 => tyV K T x H1 ∧ tr σ H1 fun xs H2 => r x xs H2 Q) : tBM K T r ta tr σ H Q := h
theorem g_append {l : Addr} {xs : List V} {y : V} (h : H l = some (.lst xs)) (hs : xs.length < sizeLine) (q : Q .non (upd H l (.lst (xs ++ [y])))) : rAppend (.ref l) [y] H Q := ⟨l, xs, y, rfl, rfl, h, hs, q⟩
theorem ty_list {l : Addr} {xs : List V} (h : H l = some (.lst xs)) : tyV K "list" (.ref l) H := Or.inl ⟨rfl, _, SqL.of h⟩
end
section
variable {σ : St} {H : Hp} {Q : VK} {ta tb : TE}
theorem g_pcons {r : List (TE × TE)} {Q : List (V × V) → Hp → Prop} (h : ta σ H fun x H1 => tb σ H1 fun y H2 => tPairs r σ H2 fun ps H3 => Q ((x, y) :: ps) H3) : tPairs ((ta, tb) :: r) σ H Q := h
theorem g_yes {Q : Bool → Hp → Prop} (h : Q true H) : tYes σ H Q := h
theorem g_pnil {Q : List (V × V) → Hp → Prop} (h : Q [] H) : tPairs [] σ H Q := h
theorem g_disp {trs : List (TE × TE)} (h : ∀ p, H p = none → tPairs trs σ (upd H p (.dK [])) fun ps H2 => H2 p = some (.dK []) ∧ ∃ kvs : List (Key × V), ps = kvs.map (fun kv => (kV kv.1, kv.2)) ∧ kvs.length ≤ 15 ∧ Q (.ref p) (upd H2 p (.dK (mergeK [] kvs)))) : tDisp trs σ H Q := h
end
theorem same_new {H : Hp} {p : Addr} {o : HO} (h : H p = none) : Same H (upd H p o) := fun b x e => by
  rw [upd_ne (ne_of_none e h)]
  exact e
theorem Same.sqt {K : PySem.W.Frag} {H H' : Hp} {a : Addr} {xs : List V} (e : Same H H') (h : SqT K H a xs) : SqT K H' a xs := by
  rcases h with (h | ⟨o, h⟩) | h
  · exact .inl (.inl (e _ _ h))
  · exact .inl (.inr ⟨o, e _ _ h⟩)
  · exact .inr h
theorem Same.mut {H H1 : Hp} {p : Addr} {o : HO} (s : Same H H1) (h : H p = none) : Same H (upd H1 p o) := fun b x e => by
  rw [upd_ne (ne_of_none e h)]
  exact s b x e
/-- an item of a list of ints -/
theorem atI_int {ns : List Int} {i : Int} (h0 : 0 ≤ i) (h1 : i < ns.length) : ∃ c, atI (ns.map V.int) i = some (.int c) := by
  have hi : i.toNat < ns.length := by omega
  refine ⟨ns[i.toNat], ?_⟩
  have e := atI_nat (xs := ns.map V.int) (j := i.toNat) (v := V.int ns[i.toNat]) (by rw [List.getElem?_map, List.getElem?_eq_getElem hi]; rfl)
  rw [Int.toNat_of_nonneg h0] at e
  exact e
end L2
namespace L2
open PySem
/-! ### any object that a law hands in -/
/-- the kinds of objects: what is needed of them -/
inductive AnyO (H : Hp) : V → Prop where
  | non : AnyO H .non
  | bl (b : Bool) : AnyO H (.bl b)
  | int (i : Int) : AnyO H (.int i)
  | str (s : Str) (h : s.length ≤ 10000) (h2 : PyData.strOk s = true) : AnyO H (.str s)
  | lst {a : Addr} {xs : List V} (h : H a = some (.lst xs)) : AnyO H (.ref a)
  | tup {a : Addr} {xs : List V} (h : H a = some (.tup xs)) : AnyO H (.ref a)
  | dic {a : Addr} {kvs : List (Key × V)} (h : H a = some (.dK kvs)) : AnyO H (.ref a)
theorem AnyO.same {H H' : Hp} {x : V} (a : AnyO H x) (s : Same H H') : AnyO H' x := by
  cases a with
  | non => exact .non
  | bl b => exact .bl b
  | int i => exact .int i
  | str z h h2 => exact .str z h h2
  | lst h => exact .lst (s _ _ h)
  | tup h => exact .tup (s _ _ h)
  | dic h => exact .dic (s _ _ h)
def isIntV : V → Bool | .int _ => true | .bl _ => true | _ => false
def isBlV : V → Bool | .bl _ => true | _ => false
def isStrV : V → Bool | .str _ => true | _ => false
theorem AnyO.kit {K : PySem.W.Frag} {H : Hp} {x : V} (a : AnyO H x) : ∃ t, TyX K H x t ∧ PySem.W.kitOne K t (.type "int") = some (isIntV x) ∧ PySem.W.kitOne K t (.type "bool") = some (isBlV x) ∧ PySem.W.kitOne K t (.type "str") = some (isStrV x) := by
  cases a with
  | non => exact ⟨_, .base .non, kit_ty (r := false) (by decide +kernel), kit_ty (r := false) (by decide +kernel), kit_ty (r := false) (by decide +kernel)⟩
  | bl b => exact ⟨_, .base (.bl b), kit_ty (r := true) (by decide +kernel), kit_ty (r := true) (by decide +kernel), kit_ty (r := false) (by decide +kernel)⟩
  | int i => exact ⟨_, .base (.int i), kit_ty (r := true) (by decide +kernel), kit_ty (r := false) (by decide +kernel), kit_ty (r := false) (by decide +kernel)⟩
  | str z h h2 => exact ⟨_, .base (.str z), kit_ty (r := false) (by decide +kernel), kit_ty (r := false) (by decide +kernel), kit_ty (r := true) (by decide +kernel)⟩
  | lst h => exact ⟨_, .base (.lst h), kit_ty (r := false) (by decide +kernel), kit_ty (r := false) (by decide +kernel), kit_ty (r := false) (by decide +kernel)⟩
  | tup h => exact ⟨_, .base (.tup h), kit_ty (r := false) (by decide +kernel), kit_ty (r := false) (by decide +kernel), kit_ty (r := false) (by decide +kernel)⟩
  | dic h => exact ⟨_, .base (.dK h), kit_ty (r := false) (by decide +kernel), kit_ty (r := false) (by decide +kernel), kit_ty (r := false) (by decide +kernel)⟩
section
variable {X : Cx} {H : Hp} {Q : VK} {K : PySem.W.Frag} {σ : St} {ta tb te : TE}
theorem g_isint {x : V} (a : AnyO H x) (q : Q (.bl (isIntV x)) H) : rIsi K [x, .ty "int"] H Q := by
  obtain ⟨t, h1, h2, h3, h4⟩ := a.kit (K := K)
  exact g_isi (.ty _) h1 h2 q
theorem g_isbl {x : V} (a : AnyO H x) (q : Q (.bl (isBlV x)) H) : rIsi K [x, .ty "bool"] H Q := by
  obtain ⟨t, h1, h2, h3, h4⟩ := a.kit (K := K)
  exact g_isi (.ty _) h1 h3 q
theorem g_isstr {x : V} (a : AnyO H x) (q : Q (.bl (isStrV x)) H) : rIsi K [x, .ty "str"] H Q := by
  obtain ⟨t, h1, h2, h3, h4⟩ := a.kit (K := K)
  exact g_isi (.ty _) h1 h4 q
def rLeZ : R2 := fun x y H Q => ∃ i j, x = .str i ∧ y = .str j ∧ Q (.bl (!decide (j.cps.toList < i.cps.toList))) H
theorem op_leZ : OpR X (compareOp .LtE) rLeZ := op_le_str
theorem g_lez {i j : Str} (q : Q (.bl (!decide (j.cps.toList < i.cps.toList))) H) : rLeZ (.str i) (.str j) H Q := ⟨i, j, rfl, rfl, q⟩
/-! ### comprehensions over the signs of a text whose steps make nothing -/
theorem g_lc {wi : TI} {g : TG} {tt : TT} {vs : List Nat} (h : wi σ H fun J H1 => ∀ D, H1 D = none → ∃ W : Nat → Nat → Hp → Prop, (∃ m, W 0 m (upd H1 D (.lst []))) ∧ ∀ i m H, W i m H →
  (J.stop i H ∧ Q (.ref D) H) ∨ (J.go i H ∧ ∃ Nx : Hp → Prop, (∀ H', Nx H' → ∃ m', m' < m ∧ W (i + 1) m' H') ∧ ∀ x H', J.yld i H x H' → g x (wipe σ vs) H' fun σ2 H2 => wipe σ2 vs = wipe σ vs ∧ tt σ2 H2 fun b H3 =>
    if b = true then te σ2 H3 fun y H4 => ∃ acc, H4 D = some (.lst acc) ∧ acc.length < sizeLine ∧ Nx (upd H4 D (.lst (acc ++ [y]))) else Nx H3)) : tLc wi g tt te vs σ H Q := h
theorem lc_str {x : Str} {g : TG} {tt : TT} {te : TE} {vs : List Nat} {σ : St} {H1 : Hp} {D : Addr} {Qd : Hp → Prop} (p : Nat → Bool) (f : Nat → V) (hz : x.length ≤ 100000)
    (hs : ∀ c acc (Nx : Hp → Prop), c ∈ x.cps.toList → (p c = true → ∀ H4 : Hp, H4 D = some (.lst acc) → H4 = upd H1 D (.lst acc) → ∃ acc', H4 D = some (.lst acc') ∧ acc'.length < sizeLine ∧ Nx (upd H4 D (.lst (acc' ++ [f c])))) → (p c = false → Nx (upd H1 D (.lst acc))) →
      g (.str ⟨#[c]⟩) (wipe σ vs) (upd H1 D (.lst acc)) fun σ2 H2 => wipe σ2 vs = wipe σ vs ∧ tt σ2 H2 fun b H3 => if b = true then te σ2 H3 fun y H4 => ∃ acc, H4 D = some (.lst acc) ∧ acc.length < sizeLine ∧ Nx (upd H4 D (.lst (acc ++ [y]))) else Nx H3)
    (hd : Qd (upd H1 D (.lst ((x.cps.toList.filter p).map f)))) :
    ∃ W : Nat → Nat → Hp → Prop, (∃ m, W 0 m (upd H1 D (.lst []))) ∧ ∀ i m H, W i m H →
      ((Its x).stop i H ∧ Qd H) ∨ ((Its x).go i H ∧ ∃ Nx : Hp → Prop, (∀ H', Nx H' → ∃ m', m' < m ∧ W (i + 1) m' H') ∧ ∀ y H', (Its x).yld i H y H' → g y (wipe σ vs) H' fun σ2 H2 => wipe σ2 vs = wipe σ vs ∧ tt σ2 H2 fun b H3 =>
        if b = true then te σ2 H3 fun y H4 => ∃ acc, H4 D = some (.lst acc) ∧ acc.length < sizeLine ∧ Nx (upd H4 D (.lst (acc ++ [y]))) else Nx H3) := by
  refine ⟨fun i m H => m = x.cps.size - i ∧ i ≤ x.cps.size ∧ H = upd H1 D (.lst (((x.cps.toList.take i).filter p).map f)), ⟨x.cps.size, by simp, Nat.zero_le _, rfl⟩, ?_⟩
  rintro i m H ⟨rfl, hi, rfl⟩
  by_cases hlt : i < x.cps.size
  · refine Or.inr ⟨hlt, fun H => H = upd H1 D (.lst (((x.cps.toList.take (i + 1)).filter p).map f)), fun H' e => ⟨x.cps.size - (i + 1), by omega, rfl, by omega, e⟩, ?_⟩
    rintro y H' ⟨rfl, c, hc, rfl⟩
    have hl : x.cps.toList[i]? = some c := by rw [Array.getElem?_toList]; exact hc
    have ht : x.cps.toList.take (i + 1) = x.cps.toList.take i ++ [c] := by rw [List.take_add_one, hl]; rfl
    refine hs c _ _ (List.mem_of_getElem? hl) (fun hp H4 e1 e2 => ⟨_, e1, ?_, ?_⟩) (fun hp => ?_)
    · rw [List.length_map]
      refine Nat.lt_of_le_of_lt (List.length_filter_le _ _) ?_
      rw [List.length_take]
      exact Nat.lt_of_le_of_lt (Nat.min_le_right _ _) (Nat.lt_of_le_of_lt (show x.cps.toList.length ≤ 100000 from hz) (by decide))
    · rw [e2, upd_upd, ht, List.filter_append, List.map_append]
      simp [hp]
    · rw [ht, List.filter_append]
      simp [hp]
  · have e : i = x.cps.size := by omega
    subst e
    refine Or.inl ⟨Nat.le_refl _, ?_⟩
    have et : x.cps.toList.take x.cps.size = x.cps.toList := List.take_of_length_le (by simp)
    rw [et]
    exact hd
end
end L2
namespace Mk
open PySem L2
/-! the marks: what the functions are worth -/
def btw (x : V) (lo hi : Int) : Bool := match x with
  | .int i => decide (lo ≤ i) && decide (i ≤ hi)
  | _ => false
def consists (x : V) (m : Str) : Bool := match x with
  | .str s => s.cps.toList.all fun c => decide (c ∈ m.cps.toList)
  | _ => false
def MARKS : Str := " !\"#$&'()*+,-./0123456789:;<=>?@ABCDEFGHIJKLMNOPQRSTUVWXYZ[\\]^_`abcdefghijklmnopqrstuvwxyz{|}~"
def LETS : Str := "ABCDEFGHIJKLMNOPQRSTUVWXYZabcdefghijklmnopqrstuvwxyz"
def LADS : Str := "ABCDEFGHIJKLMNOPQRSTUVWXYZabcdefghijklmnopqrstuvwxyz0123456789"
def NOAT : Str := " ()<>,;:@\""
def isPlain (x : V) : Bool := btw x 32 126 && !decide (x = .int 37)
def isCode (x : V) : Bool := isPlain x || btw x 160 65535
def isBody (x : V) : Bool := consists x MARKS
def isRaw (x : V) : Bool := consists x (MARKS ++ ("\n" : Str))
def isLabel (x : V) : Bool := match x with
  | .str s => consists x (LADS ++ ("-" : Str)) && decide (1 ≤ s.length) && decide (s.length ≤ 20) && (match s.cps.toList with | c :: _ => decide (c ∈ LETS.cps.toList) | [] => false)
  | _ => false
def isAtom (x : V) : Bool := match x with
  | .str s => isBody x && decide (s ≠ "") && !(s.cps.toList.any fun c => decide (c ∈ NOAT.cps.toList))
  | _ => false
theorem int_of {x : V} (h1 : isIntV x = true) (h2 : isBlV x = false) : ∃ i, x = .int i := by
  cases x with
  | int i => exact ⟨i, rfl⟩
  | bl b => cases h2
  | _ => cases h1
theorem str_of {x : V} (h1 : isStrV x = true) : ∃ s, x = .str s := by
  cases x with
  | str s => exact ⟨s, rfl⟩
  | _ => cases h1
theorem btw_no {x : V} {lo hi : Int} (h : isIntV x = false) : btw x lo hi = false := by
  cases x with
  | int i => cases h
  | _ => rfl
theorem btw_bl {x : V} {lo hi : Int} (h : isBlV x = true) : btw x lo hi = false := by
  cases x with
  | bl i => rfl
  | _ => cases h
theorem btw_int {x : V} {lo hi : Int} (h : btw x lo hi = true) : ∃ i, x = .int i ∧ lo ≤ i ∧ i ≤ hi := by
  cases x with
  | int i =>
    have h' : (decide (lo ≤ i) && decide (i ≤ hi)) = true := h
    rw [Bool.and_eq_true] at h'
    exact ⟨i, rfl, of_decide_eq_true h'.1, of_decide_eq_true h'.2⟩
  | _ => cases h
theorem cons_no {x : V} {m : Str} (h : isStrV x = false) : consists x m = false := by
  cases x with
  | str i => cases h
  | _ => rfl
theorem str_len {H : Hp} {s : Str} (a : AnyO H (.str s)) : s.length ≤ 10000 := by
  cases a with
  | str _ h _ => exact h
theorem str_ok {H : Hp} {s : Str} (a : AnyO H (.str s)) : PyData.strOk s = true := by
  cases a with
  | str _ _ h => exact h
/-! the promises -/
def spBetween : Sp := fun vs H Q _ => ∃ (x : V) (lo hi : Int), vs = [x, .int lo, .int hi] ∧ AnyO H x ∧ Q (.bl (btw x lo hi)) H
def spCons : Sp := fun vs H Q _ => ∃ (x : V) (m : Str), vs = [x, .str m] ∧ AnyO H x ∧ ∀ H', Same H H' → Q (.bl (consists x m)) H'
/-- a test of one object -/
def spTest (f : V → Bool) : Sp := fun vs H Q _ => ∃ (x : V), vs = [x] ∧ AnyO H x ∧ ∀ H', Same H H' → Q (.bl (f x)) H'
end Mk
namespace Mk
open PySem L2
def spNum : Sp := fun vs H Q _ => ∃ (x : V), vs = [x] ∧ AnyO H x ∧ Q (.bl (isIntV x && !isBlV x)) H
end Mk
namespace L2
open PySem
theorem atI_all {xs : List V} {p : V → Bool} {i : Int} (ha : xs.all p = true) (h0 : 0 ≤ i) (h1 : i < xs.length) : ∃ v, atI xs i = some v ∧ p v = true := by
  have hi : i.toNat < xs.length := by omega
  refine ⟨xs[i.toNat], ?_, List.all_eq_true.mp ha _ (List.getElem_mem hi)⟩
  have e := atI_nat (xs := xs) (j := i.toNat) (List.getElem?_eq_getElem hi)
  rw [Int.toNat_of_nonneg h0] at e
  exact e
theorem atI_mem {xs : List V} {i : Int} (h0 : 0 ≤ i) (h1 : i < xs.length) : ∃ v, atI xs i = some v ∧ v ∈ xs := by
  have hi : i.toNat < xs.length := by omega
  refine ⟨xs[i.toNat], ?_, List.getElem_mem hi⟩
  have e := atI_nat (xs := xs) (j := i.toNat) (List.getElem?_eq_getElem hi)
  rw [Int.toNat_of_nonneg h0] at e
  exact e
def strLe (n : Nat) : V → Bool
  | .str s => decide (s.length ≤ n) && PyData.strOk s
  | _ => false
theorem strLe_of {n : Nat} {v : V} (h : strLe n v = true) : ∃ s, v = .str s ∧ s.length ≤ n ∧ PyData.strOk s = true := by
  cases v with
  | str s =>
    have h' : (decide (s.length ≤ n) && PyData.strOk s) = true := h
    rw [Bool.and_eq_true] at h'
    exact ⟨s, rfl, of_decide_eq_true h'.1, h'.2⟩
  | _ => cases h
def isI : V → Bool
  | .int _ => true
  | _ => false
theorem isI_of {v : V} (h : isI v = true) : ∃ i, v = .int i := by
  cases v with
  | int i => exact ⟨i, rfl⟩
  | _ => cases h
theorem len_app {a b : Str} : (a ++ b).length = a.length + b.length := by
  show (a.cps ++ b.cps).size = _
  rw [Array.size_append]
  rfl
/-- all of a written list -/
theorem all_mem {p : V → Prop} {xs : List V} (h : ∀ v ∈ xs, p v) {v : V} (hv : v ∈ xs) : p v := h v hv
theorem fm_cons {p : V → Prop} {x : V} {xs : List V} (h : p x) (hs : ∀ v ∈ xs, p v) : ∀ v ∈ x :: xs, p v := fun v hv => by
  rcases List.mem_cons.mp hv with e | e
  · rw [e]; exact h
  · exact hs v e
theorem fm_nil {p : V → Prop} : ∀ v ∈ ([] : List V), p v := fun _ h => nomatch h
section
variable {H : Hp} {Q : VK} {K : PySem.W.Frag} {σ : St} {ta tb te : TE} {D : Ends}
theorem g_pick (pr : V → Bool) {p : Addr} {xs : List V} {i : Int} (h : H p = some (.lst xs)) (h0 : 0 ≤ i) (h1 : i < xs.length) (ha : xs.all pr = true) (q : ∀ v, pr v = true → Q v H) : rIxL K (.ref p) (.int i) H Q := by
  obtain ⟨v, e, hv⟩ := atI_all ha h0 h1
  exact g_ixl (SqL.of h) e (q v hv)
theorem g_pickP {pr : V → Prop} {p : Addr} {xs : List V} {i : Int} (h : H p = some (.lst xs)) (h0 : 0 ≤ i) (h1 : i < xs.length) (ha : ∀ v ∈ xs, pr v) (q : ∀ v, pr v → Q v H) : rIxL K (.ref p) (.int i) H Q := by
  obtain ⟨v, e, hv⟩ := atI_mem h0 h1
  exact g_ixl (SqL.of h) e (q v (ha v hv))
theorem g_par {i j : Nat} {tr : TA} (h : tr σ H fun vs H1 => ∃ v w, vs = [v, w] ∧ D.nx ((σ.set i (some v)).set j (some w)) H1) : tPar i j tr D σ H := h
theorem g_two {v w : V} {N : V → V → Prop} (h : N v w) : ∃ v1 w1, [v, w] = [v1, w1] ∧ N v1 w1 := ⟨v, w, rfl, h⟩
theorem g_dnew (h : ∀ p, H p = none → Q (.ref p) (upd H p (.dK []))) : tDNewK σ H Q := h
theorem g_gtup {n : Nat} {t : TGs} {a : Addr} {xs : List V} {Q : St → Hp → Prop} (h : SqT K H a xs) (hn : xs.length = n) (q : t xs σ H Q) : gTup K n t (.ref a) σ H Q := ⟨a, xs, rfl, h, hn, q⟩
theorem g_gcons {t : TG} {u : TGs} {v : V} {r : List V} {Q : St → Hp → Prop} (h : t v σ H fun σ' H' => u r σ' H' Q) : gCons t u (v :: r) σ H Q := ⟨v, r, rfl, h⟩
theorem g_gnil {Q : St → Hp → Prop} (h : Q σ H) : gNil [] σ H Q := ⟨rfl, h⟩
theorem g_kw0 {sp : Sp} {n : Nat} {ix : List Nat} {E : XK} {tr : TA} (h : tr σ H fun vs H1 => vs.length = n ∧ sp (picked V.non ix vs) H1 Q E) : tKw0 sp n ix E tr σ H Q := h
theorem g_repr {a : Addr} {d : PyData} (h : Dp K H (.ref a) d) (h1 : d.showable = true) (h2 : d.hasDict = false) (h3 : d.depth ≤ 20) (h4 : d.shown.length ≤ sizeLine) (q : Q (.str d.shown) H) : rRepr K [.ref a] H Q := ⟨a, d, rfl, h, h1, h2, h3, h4, q⟩
end
end L2
namespace L2
open PySem
theorem ap_list (a b : Str) : (a ++ b).cps.toList = a.cps.toList ++ b.cps.toList := by
  show (a.cps ++ b.cps).toList = _
  rw [Array.toList_append]
theorem sj_list : ∀ ys : List Str, (Str.join ("" : Str) ys).cps.toList = (ys.map fun y => y.cps.toList).flatten
  | [] => rfl
  | [x] => by
    show x.cps.toList = _
    simp
  | x :: y :: r => by
    show ((x ++ ("" : Str)) ++ Str.join ("" : Str) (y :: r)).cps.toList = _
    rw [ap_list, ap_list, sj_list (y :: r)]
    show (x.cps.toList ++ []) ++ _ = _
    rw [List.append_nil]
    rfl
theorem join_list (ys : List Str) : (Txt.join ("" : Str) ys).cps.toList = (ys.map fun y => y.cps.toList).flatten := by
  rw [show Txt.join ("" : Str) ys = Str.join ("" : Str) ys from PySem.StrLaws.glued_eq_join _ ys, sj_list]
theorem len_list (z : Str) : z.length = z.cps.toList.length := by
  show z.cps.size = _
  rw [Array.length_toList]
theorem join_len {ys : List Str} {b : Nat} (h : ∀ y ∈ ys, y.length ≤ b) : (Txt.join ("" : Str) ys).length ≤ ys.length * b := by
  rw [len_list, join_list]
  induction ys with
  | nil => exact Nat.zero_le _
  | cons y r ih =>
    rw [List.map_cons, List.flatten_cons, List.length_append, List.length_cons, Nat.add_mul, Nat.one_mul, Nat.add_comm]
    exact Nat.add_le_add (ih fun z hz => h z (List.mem_cons_of_mem _ hz)) (by rw [← len_list]; exact h y List.mem_cons_self)
theorem sum_len {ys : List Str} {b : Nat} (h : ∀ y ∈ ys, y.length ≤ b) : (ys.map (·.length)).sum ≤ ys.length * b := by
  induction ys with
  | nil => exact Nat.zero_le _
  | cons y r ih =>
    rw [List.map_cons, List.sum_cons, List.length_cons, Nat.add_mul, Nat.one_mul, Nat.add_comm]
    exact Nat.add_le_add (ih fun z hz => h z (List.mem_cons_of_mem _ hz)) (h y List.mem_cons_self)
section
variable {H : Hp} {Q : VK} {K : PySem.W.Frag}
theorem g_pickz {z : Str} {i : Int} (h : z.length ≤ sizeLine) (h0 : 0 ≤ i) (h1 : i < z.length) (q : ∀ c, c ∈ z.cps.toList → Q (.str ⟨#[c]⟩) H) : rIxS (.str z) (.int i) H Q := by
  have hi : i.toNat < z.cps.toList.length := by rw [← len_list]; omega
  have e := atI_nat (xs := z.cps.toList) (j := i.toNat) (List.getElem?_eq_getElem hi)
  rw [Int.toNat_of_nonneg h0] at e
  exact g_ixz h e (q _ (List.getElem_mem hi))
end
end L2
namespace L2
theorem AnyO.kp {d : PySem.Addr} {H H' : Hp} {x : V} (a : AnyO H x) (k : Dr.Kp d H H') (n : x ≠ .ref d) : AnyO H' x := by
  cases a with
  | non => exact .non
  | bl b => exact .bl b
  | int i => exact .int i
  | str z h h2 => exact .str z h h2
  | lst h => exact .lst (k _ _ (fun e => n (by rw [e])) h)
  | tup h => exact .tup (k _ _ (fun e => n (by rw [e])) h)
  | dic h => exact .dic (k _ _ (fun e => n (by rw [e])) h)
end L2
namespace L2
open PySem
theorem for_str {x : Str} {g : TG} {tb : TS} {D : Ends} {σ : St} {H : Hp} (Pv : Nat → St → Hp → Prop) (h0 : Pv 0 σ H)
    (hs : ∀ i c σ H, x.cps.toList[i]? = some c → Pv i σ H → g (.str ⟨#[c]⟩) σ H fun σ2 H2 => tb { D with nx := Pv (i + 1), ct := Pv (i + 1), bk := D.nx } σ2 H2) (hd : ∀ σ H, Pv x.length σ H → D.nx σ H) :
    ∃ W : Nat → Nat → St → Hp → Prop, (∃ m, W 0 m σ H) ∧ ∀ i m σ H, W i m σ H → ((Its x).stop i H ∧ D.nx σ H) ∨ ((Its x).go i H ∧ ∃ N : St → Hp → Prop, (∀ σ' H', N σ' H' → ∃ m', m' < m ∧ W (i + 1) m' σ' H') ∧
      ∀ y H', (Its x).yld i H y H' → g y σ H' fun σ2 H2 => tb { D with nx := N, ct := N, bk := D.nx } σ2 H2) := by
  refine ⟨fun i m σ H => m = x.length - i ∧ i ≤ x.length ∧ Pv i σ H, ⟨x.length, by simp, Nat.zero_le _, h0⟩, ?_⟩
  rintro i m σ H ⟨rfl, hi, p⟩
  by_cases hlt : i < x.length
  · refine Or.inr ⟨hlt, Pv (i + 1), fun σ' H' p' => ⟨x.length - (i + 1), by omega, rfl, hlt, p'⟩, ?_⟩
    rintro y H' ⟨rfl, c, hc, rfl⟩
    exact hs i c σ _ (by rw [Array.getElem?_toList]; exact hc) p
  · have e : i = x.length := by omega
    subst e
    exact Or.inl ⟨Nat.le_refl _, hd σ H p⟩
theorem one_lt {a b : Nat} : (([a] : List Nat) < [b]) ↔ a < b := by
  constructor
  · intro h
    rcases List.cons_lt_cons_iff.mp h with h | ⟨_, h⟩
    · exact h
    · exact absurd h (List.lt_irrefl [])
  · intro h
    exact List.cons_lt_cons_iff.mpr (Or.inl h)
theorem len_pos {z : Str} (h : 1 ≤ z.length) : ∃ c r, z.cps.toList = c :: r := by
  rw [len_list] at h
  cases hq : z.cps.toList with
  | nil => rw [hq] at h; exact absurd h (by decide)
  | cons c r => exact ⟨c, r, rfl⟩
/-- data of a list of texts -/
theorem dp_strs {K : PySem.W.Frag} {H : Hp} : ∀ ys : List Str, DpAll K H (ys.map V.str) (ys.map PyData.str)
  | [] => .nil
  | y :: r => .cons (.str y) (dp_strs r)
theorem dp_bools {K : PySem.W.Frag} {H : Hp} : ∀ bs : List Bool, DpAll K H (bs.map V.bl) (bs.map PyData.bool)
  | [] => .nil
  | b :: r => .cons (.bl b) (dp_bools r)
theorem eqv_nil (ds : List PyData) : PyData.eqv (.list ds) (.list []) = ds.isEmpty := by
  cases ds with
  | nil => rfl
  | cons d r => rfl
end L2
namespace L2
open PySem
theorem cla_strs : ∀ ys : List Str, (∀ y ∈ ys, PyData.strOk y = true) → PyData.canLayAll0 (ys.map PyData.str) = true
  | [], _ => by simp only [List.map_nil, PyData.canLayAll0]
  | y :: r, h => by
    simp only [List.map_cons, PyData.canLayAll0, PyData.canLay0, Bool.and_eq_true]
    exact ⟨h y List.mem_cons_self, cla_strs r fun z hz => h z (List.mem_cons_of_mem _ hz)⟩
theorem dep_strs : ∀ ys : List Str, PyData.depthAll (ys.map PyData.str) ≤ 1
  | [] => by simp only [List.map_nil, PyData.depthAll]; decide
  | y :: r => by
    have := dep_strs r
    simp only [List.map_cons, PyData.depthAll, PyData.depth]
    omega
theorem shaped_strs {ys : List Str} (h : ∀ y ∈ ys, PyData.strOk y = true) : SeqAt.shaped (.list (ys.map PyData.str)) = true := by
  have h1 := dep_strs ys
  have h2 : PyData.depth (.list (ys.map PyData.str)) ≤ 64 := by simp only [PyData.depth]; omega
  show (PyData.canLay0 _ && decide (PyData.depth _ ≤ 64)) = true
  rw [Bool.and_eq_true]
  refine ⟨?_, decide_eq_true h2⟩
  simp only [PyData.canLay0]
  exact cla_strs ys h
theorem sok_app {a b : Str} (ha : PyData.strOk a = true) (hb : PyData.strOk b = true) : PyData.strOk (a ++ b) = true := by
  show (a.cps ++ b.cps).all _ = true
  rw [Array.all_append, Bool.and_eq_true]
  exact ⟨ha, hb⟩
theorem sok_iff {a : Str} : PyData.strOk a = true ↔ ∀ c ∈ a.cps.toList, c < 0x110000 := by
  show a.cps.all _ = true ↔ _
  rw [Array.all_eq_true_iff_forall_mem]
  constructor
  · intro h c hc
    exact of_decide_eq_true (h c (by simpa using hc))
  · intro h c hc
    exact decide_eq_true (h c (by simpa using hc))
theorem sok_join {ys : List Str} (h : ∀ y ∈ ys, PyData.strOk y = true) : PyData.strOk (Txt.join ("" : Str) ys) = true := by
  rw [sok_iff, join_list]
  intro c hc
  obtain ⟨l, hl, hc⟩ := List.mem_flatten.mp hc
  obtain ⟨y, hy, rfl⟩ := List.mem_map.mp hl
  exact sok_iff.mp (h y hy) c hc
theorem sok_cut {z : Str} (h : PyData.strOk z = true) (lo hi : Option Int) : PyData.strOk (cutS z lo hi) = true := by
  rw [sok_iff]
  intro c hc
  have hc' : c ∈ (z.cps.toList.drop (HT.sIx z.length 0 lo)).take (HT.sIx z.length z.length hi - HT.sIx z.length 0 lo) := by simpa [cutS] using hc
  exact sok_iff.mp h c (List.mem_of_mem_drop (List.mem_of_mem_take hc'))
theorem sok_mem {z : Str} {c : Nat} (h : PyData.strOk z = true) (hc : c ∈ z.cps.toList) : PyData.strOk ⟨#[c]⟩ = true := by
  rw [sok_iff]
  intro d hd
  have : d = c := by simpa using hd
  rw [this]
  exact sok_iff.mp h c hc
end L2
namespace L2
open PySem
theorem g_ifnn {A B : Prop} {p : Prop} [Decidable p] (h1 : p → A) (h2 : ¬ p → B) : if (!!decide p) = true then A else B := by
  rw [Bool.not_not]
  exact g_ifd h1 h2
theorem lt_sp {c : Nat} : (⟨#[c]⟩ : Str).cps.toList < (" " : Str).cps.toList ↔ c < 32 := by
  rw [show (" " : Str).cps.toList = [32] by decide +kernel]
  exact one_lt
theorem lt_tl {c : Nat} : ("~" : Str).cps.toList < (⟨#[c]⟩ : Str).cps.toList ↔ 126 < c := by
  rw [show ("~" : Str).cps.toList = [126] by decide +kernel]
  exact one_lt
end L2
namespace XS
open PySem PySem.W PySem.Calls
/-- an own error class under ValueError whose __init__ calls the one above it with a written text, then keeps its one argument -/
structure ErrC (prog : Program) (K : Frag) (C fI : Addr) (par fld : Str) : Prop where
  cls : ∃ nm q N bs bm sn sub ab col dd k0 k1 k2 k3 k5, K.lookup C = some (excClassObj nm q C N bs bm true sn sub ab col dd k0 k1 k2 k3 k5 "ValueError.__new__") ∧ HandSPX.refsVE bm = true ∧ alongIn K "__init__" bm = some (some (.builtin "ValueError.__init__"))
  init : findIn K (.ref C) "__init__" = some (some (.ref fI))
  ityp : typeIn K (.ref fI) = some (.type "function")
  sa : findIn K (.ref C) "__setattr__" = some (some (.builtin "object.__setattr__"))
  nf : findIn K (.ref C) fld = some none
  exC : subIn K (.ref C) (.type "BaseException") = some true
  veC : subIn K (.ref C) (.type "ValueError") = some true
  meC : mroIn K C (.ref C) = some true
  tyC : typeIn K (.ref C) = some (.type "type")
  kC : keepIn K (.ref C) = true
  opq : nsIn K cStatics "thirdparty.any" = some none
  fn : ∃ (qual : Str) (params : Arguments) (body : List Stmt) (scope : Scope) (oc kV doc pm ct ccl cl : Value) (od an cdd cld : Option Addr) (osl ccs csl : Array (Option Value)) (cda cc : Addr) (vs : Array Value) (file : Str) (tf : Tok),
    K.lookup fI = some ⟨oc, od, .func (fnX "__init__" qual params body scope [("__class__", cc)] .none kV doc pm an (.ref cda) ct), osl⟩ ∧ codeIn K (.ref cda) qual = true ∧
    K.lookup cda = some ⟨ccl, cdd, .fields vs, ccs⟩ ∧ vs[2]? = some (.str file tf) ∧ ((prog.main.file : Str) == file) = true ∧ K.lookup cc = some ⟨cl, cld, .cell (some (.ref C)), csl⟩ ∧
    (∃ ar, (params.posonlyargs ++ params.args).head? = some ar ∧ ar.arg = ("self" : Str)) ∧
    (∃ (msg : Str) (j : Nat) (p0 p1 p2 p3 p4 p5 p6 p7 p8 p9 : Pos), body = [.Expr (.Call (.Attribute (.Call (.Name "super" p0) [] [] p1) "__init__" p2) [.Constant (.str msg) j p3] [] p4) p5, .Assign [.Attribute (.Name "self" p6) fld p7] (.Name par p8) p9] ∧
      (∃ pl : Env → Sem Bool, ∀ env : Env, eval (.Call (.Attribute (.Call (.Name "super" p0) [] [] p1) "__init__" p2) [.Constant (.str msg) j p3] [] p4) env = (do
        let ov ← attributeBase (.Call (.Name "super" p0) [] [] p1) "__init__" env (eval (.Call (.Name "super" p0) [] [] p1) env)
        standAt p2.atName
        let (f, first) ← holding [ov] (getMethod ov "__init__" (pl env))
        callWith p4 f first (backTo p4 (starEach [.Constant (.str msg) j p3] env)) [])) ∧
      (∀ env : Env, swapsWith (.Call (.Attribute (.Call (.Name "super" p0) [] [] p1) "__init__" p2) [.Constant (.str msg) j p3] [] p4) none p5.line env = pure false) ∧
      (∀ env : Env, swapsWith (.Name par p8) (some (.Attribute (.Name "self" p6) fld p7)) p9.line env = pure false) ∧ msg.length ≤ 1000) ∧
    (∀ (s : Shared) (x u : Value), BindsTo s (fnX "__init__" qual params body scope [("__class__", cc)] .none kV doc pm an (.ref cda) ct) ⟨[x, u], []⟩ [("self", x), (par, u)]) ∧
    scope.kind = .function ∧ scope.isCoroutine = false ∧ scope.isGenerator = false ∧ (∀ x ∈ scope.names, x.2 ≠ .cell) ∧
    scope.names.lookup ("super" : Str) = some .globalImplicit ∧ scope.names.lookup ("__class__" : Str) = some .free ∧ scope.names.lookup ("self" : Str) = some .local ∧ scope.names.lookup par = some .local
  sup : nsIn K mainGlobals "super" = some none
  top : (prog.main.scope.names.lookup ("super" : Str)).isSome = false
  psf : (par == ("self" : Str)) = false
  pdb : (par == ("__debug__" : Str)) = false
theorem drop_own (C : Addr) (l : List Value) : ((Value.ref C :: l).dropWhile (· != .ref C)).drop 1 = l := by simp [List.dropWhile_cons]
section
variable {prog : Program} {w : World} {A : Around} {K : Frag} {C fI a t0 : Addr} {par fld : Str} {u : Value} {mg mb : Str → Option Value} {R : Result → Shared → Prop}
/-- the bound __init__ of the class above, called -/
theorem call_mw {h : Heap} {g : Array GenState} {d : Drawn} {tk : Nat} {os : OsState} {uw : Addr} {rest : List Value} {nm q : Str} {N : Addr} {bs bm sub : List Value} {sn : List Str} {ab : Bool} {col : Option Bool} {dd : Option Addr} {k0 k1 k2 k3 k5 : Option Value} {Q : Value → Shared → Prop} {E : Value → Shared → Prop}
    (hu : h.get? uw = some (kxs_mw "ValueError.__init__" a)) (hC : h.get? C = some (excClassObj nm q C N bs bm true sn sub ab col dd k0 k1 k2 k3 k5 "ValueError.__new__")) (he : h.get? a = some (HandSPX.excO C t0)) (hz : rest.length ≤ sizeLine)
    (hq : ∀ h', (∀ b o, b ≠ a → h.get? b = some o → h'.get? b = some o) → h'.get? a = some (HandSPX.excO C h.objs.size) → Q .none ⟨h', g, d, tk, os⟩) :
    wpAny (model prog w) A (call (.ref uw) rest) Q E ⟨h, g, d, tk, os⟩ := by
  refine wpAny_call (codeAny_of_tree ?_)
  show wpAny _ A.in1 (callAny (.ref uw) ⟨rest, []⟩) _ _ _
  unfold callAny
  refine wpAny_bind (wpAny_load hu ?_)
  simp (decide := true) only [kxs_mw, if_true]
  refine wpAny_bind (check_bound_init F.excBase_ValueError.toExcCallFacts hC he rfl ?_)
  refine wpAny_bind (wpAny_pure (wpAny_pure ?_))
  refine ⟨plainId_quiet F.excBase_ValueError.init.plain _, codeAny_builtin F.excBase_ValueError.initEntry ?_⟩
  exact exc_init_tree (cls := .ref C) (t0 := t0) (dv := none) (c2 := .none) (c3 := .none) (b4 := .bool false) he hz fun h' k e1 _ => hq h' k e1
theorem err_code {s : Shared} (X : K.In s.heap) (hg : s.heap.Ns mainGlobals mg) (hb : s.heap.Ns builtinsNs mb) (hbb : ∀ x : Str, x ≠ "__name__" → mb x = bootBuiltins x) (hlim : s.heap.NoLimit) (T : ErrC prog K C fI par fld) (hroom : A.depth < recursionLimit)
    (ha : s.heap.get? a = some (HandSPX.excO C t0)) (hK : K.lookup a = none) (hL : K.lookup s.heap.objs.size = none)
    (h : ∀ h' tk t1 dx, (∀ b o, b ≠ a → s.heap.get? b = some o → h'.get? b = some o) → h'.get? a = some { cls := .ref C, dict := some dx, data := .fields #[.ref t1, .none, .none, .none, .bool false, .none] } → s.heap.objs.size ≤ dx → dx ≠ a →
      h'.Ns1 dx (fun y => if y = fld then some u else none) → R (.ok (.ret .none)) { s with heap := h', toks := tk }) :
    codeAny (model prog w) A (.call (.ref fI) ⟨[.ref a, u], []⟩) R s := by
  obtain ⟨nm, q, N, bs, bm, sn, sub, ab, col, dd, k0, k1, k2, k3, k5, lC, hbm, hal⟩ := T.cls
  obtain ⟨qual, params, body, scope, oc, kV, doc, pm, ct, ccl, cl, od, an, cdd, cld, osl, ccs, csl, cda, cc, vs, file, tf, lf, hcd, lcd, hvs, hfile, lcc, ⟨ar, har, hself⟩, ⟨msg, j, p0, p1, p2, p3, p4, p5, p6, p7, p8, p9, hbody, ⟨pl, hev⟩, hw1, hw2, hmsg⟩, hbind, hk, hco, hgen, hcell, hsu, hcl, hsl, hpl⟩ := T.fn
  have hloc : ∀ x ∈ [(("self" : Str), Value.ref a), (par, u)], scope.names.lookup x.1 = some .local := by
    intro x hx
    rcases List.mem_cons.mp hx with e | hx
    · rw [e]; exact hsl
    · rw [List.mem_singleton.mp hx]; exact hpl
  refine ks_codeAny_call_defAt (body := body) (binds := [("self", .ref a), (par, u)]) hroom (X _ _ lf) rfl hlim (codeRec_of X hcd) rfl (hbind s (.ref a) u) hcell hloc (fun h1 hns kk1 => ?_) hco hgen hk
  subst hbody
  have X1 : K.In h1 := X.keeps kk1
  have hg1 : h1.Ns mainGlobals mg := hg.keeps kk1
  have hb1 : h1.Ns builtinsNs mb := hb.keeps kk1
  have ha1 := kk1 _ _ ha
  have hC1 := X1 _ _ lC
  have eself : (fun x => [(("self" : Str), Value.ref a), (par, u)].reverse.lookup x) ar.arg = some (.ref a) := by
    rw [hself]
    show List.lookup ("self" : Str) [(par, u), ("self", Value.ref a)] = _
    rw [List.lookup_cons, show (("self" : Str) == par) = false from by rw [beq_eq_false_iff_ne]; exact fun z => (beq_eq_false_iff_ne.mp T.psf) z.symm, List.lookup_cons, beq_self_eq_true]
  have epar : (fun x => [(("self" : Str), Value.ref a), (par, u)].reverse.lookup x) par = some u := by
    show List.lookup par [(par, u), ("self", Value.ref a)] = _
    rw [List.lookup_cons, beq_self_eq_true]
  refine ks_wpAt_execs_cons (ks_wpAt_Expr_any ?_ (by show interactive _ = false; simp [interactive, callEnv, newEnv, hk]) (hw1 _))
  refine ks_wpAt_MethodCall ?_ (hev _)
  refine ks_wpAt_super_base hsu hcl (by decide) rfl (X1 _ _ lf) rfl har rfl (X1 _ _ lcd) rfl hvs hfile T.top ?_
  refine ks_loadName_global hk hsu (loadGlobal_builtin hg1 (mg_none_of X1 hg1 T.sup) hb1 ((hbb _ (by decide +kernel)).trans (by decide +kernel)) ⟨rfl, ?_⟩)
  refine wpAny_loadName_free hk hcl rfl ⟨_, X1 _ _ lcc, rfl⟩ ?_
  refine wpAny_loadName_local hk (by rw [hself]; exact hsl) hns eself ?_
  obtain ⟨hp0, g, d, tk0, os⟩ := s
  refine ks_wpAny_isType_cls hC1 rfl ⟨rfl, ?_⟩
  refine ks_wpAny_call_super (C := C) hC1 rfl ha1 rfl (fun c e => by cases e) (looks_mroIn X1 T.meC) (fun h2 e2 kk2 => ?_)
  have X2 : K.In h2 := X1.keeps kk2
  have hcl2 : clsIn K C = some { name := nm, bases := bs, mro := .ref C :: bm, ns := N, qualname := q, hasDict := true, slotNames := sn, subclasses := sub, abstract := ab, collection := col, hasDel := false } := by unfold clsIn; rw [lC]
  have I2 : InstAt h2 a (HandSPX.excO C t0) C none := ⟨kk2 _ _ ha1, rfl, rfl, trivial⟩
  refine kxs_getMethod kxs_ValueError e2 (looks_opaque X2 T.opq) (l₀ := .ref C :: bm) (fun A Q E s k q => wpAny_bind ((looks_clsIn X2 hcl2) A _ E s k (wpAny_pure q))) (drop_own C bm) X2 hal (I2.type.andThen (looks_subIn X2 T.veC)) (ks_ne X2 I2 hcl2) (by decide) ?_
  have kk3 : ∀ b o, h2.get? b = some o → (h2.push (kxs_mw "ValueError.__init__" a)).get? b = some o := fun b o e => Heap.get?_push_of_some _ e
  have hu3 : (h2.push (kxs_mw "ValueError.__init__" a)).get? h2.objs.size = some (kxs_mw "ValueError.__init__" a) := Heap.get?_push_at rfl rfl
  refine kxs_callWith (i := "ValueError.__init__") (x := a) (by rfl) (evalArgs_plain (spliced_cons (Constant_str (pos := p3) (k := j) (spliced_nil ⟨hu3, ?_⟩))))
  refine call_mw hu3 (kk3 _ _ (X2 _ _ lC)) (kk3 _ _ (kk2 _ _ ha1)) (by show 1 ≤ sizeLine; decide) fun h4 kk4 e4 => ?_
  -- self.fld = par
  have kk14 : ∀ b o, b ≠ a → h1.get? b = some o → h4.get? b = some o := fun b o n e => kk4 b o n (kk3 _ _ (kk2 _ _ e))
  have X4 : K.In h4 := fun b o e => kk14 b o (fun z => by rw [z, hK] at e; cases e) (X1 b o e)
  have hns4 : h4.Ns hp0.objs.size (fun x => [(("self" : Str), Value.ref a), (par, u)].reverse.lookup x) := by
    obtain ⟨o, es, ep, e, dd2, r⟩ := hns
    have na : hp0.objs.size ≠ a := fun z => absurd (Heap.lt_size ha) (by rw [← z]; exact Nat.lt_irrefl _)
    exact ⟨o, es, ep, kk14 _ _ na e, dd2, r⟩
  refine ks_wpAt_execs_cons (wpAt_of_wpAny (plainObj_wpAny_Assign_Attribute (ESX.ldL hns4 epar (ESX.ldL hns4 (by show List.lookup ("self" : Str) [(par, u), ("self", Value.ref a)] = some (.ref a); rw [List.lookup_cons, show (("self" : Str) == par) = false from by rw [beq_eq_false_iff_ne]; exact fun z => (beq_eq_false_iff_ne.mp T.psf) z.symm, List.lookup_cons, beq_self_eq_true]) ?_ hk hsl (by decide)) hk hpl T.pdb) (hw2 _)))
  have hcl4 : clsIn K C = some { name := nm, bases := bs, mro := .ref C :: bm, ns := N, qualname := q, hasDict := true, slotNames := sn, subclasses := sub, abstract := ab, collection := col, hasDel := false } := hcl2
  refine set_plain X4 (ox := _) (od := none) ⟨e4, rfl, rfl, trivial⟩ T.sa ?_
  refine HandSPX.exc_osa X4 e4 hcl4 (show HandSPX.refsVE (.ref C :: bm) = true from hbm) rfl T.nf (fun h5 tk5 dx kk5 hdx hda e5 ns5 => ?_)
  refine wpAt_of_wpAny (wpAny_pure ?_)
  have hlt : hp0.objs.size < h4.objs.size := by
    obtain ⟨o, es, ep, e, _⟩ := hns4
    exact Heap.lt_size e
  exact h h5 tk5 _ dx (fun b o n e => kk5 b o n (kk14 b o n (kk1 b o e))) e5 (Nat.le_of_lt (Nat.lt_of_lt_of_le hlt hdx)) hda ns5
end
end XS
namespace L2
open PySem PySem.Spec PyProof.Rows
section
variable {X : Cx} {C fI : Addr} {par fld x : Str} {p pos : Pos} {e : Expr} {te : TE}
/-- what the making of such an error reads: its own dict is new -/
def tMkE (C : Addr) (fld : Str) (te : TE) : St → Hp → XK → Prop := fun σ H Q => te σ H fun v H1 => ∀ d, H1 d = none → Q (.ref C) (some d) (upd H1 d (.xd [(fld, v)]))
theorem pmk_err (T : XS.ErrC X.prog X.K C fI par fld) (hr : Room 1 X.A) (hg : Gl X x) (hm : X.mg x = some (.ref C)) (ha : PE X e te) (hdb : (x == ("__debug__" : Str)) = false := by decide)
    (he : starEach [e] X.env = (false, eval e X.env) :: starEach [] X.env := by rfl) : PMk X (.Call (.Name x p) [e] [] pos) (tMkE C fld te) := by
  intro pins s σ H Q I h
  obtain ⟨nm, q, N, bs, bm, sn, sub, ab, col, dd, k0, k1, k2, k3, k5, hC, hbm, _⟩ := T.cls
  refine wpAny_Call_Name_kw (ld_glob I hg hm ?_ hdb)
  refine PySem.W.callWith_K (h₀ := X.base) I.ok.mod.kin T.kC ?_ he (by rfl)
  rw [he]
  show wpAny _ _ (spliced ((false, eval e X.env) :: backTo pos (starEach [] X.env))) _ _ s
  refine Calls.spliced_cons (thn (ha.run pins s σ H _ I h) fun u s1 ⟨v, H1, I1, r1, q1⟩ => Calls.spliced_nil ⟨I1.kIn, ?_⟩)
  show wpAny _ _ (call (.ref C) [u]) _ _ _
  obtain ⟨hp, g, dr, tk, os⟩ := s1
  have kk : ∀ b o, hp.get? b = some o → ((hp.push (PySem.W.kdv_tup [u])).push (PySem.HandSPX.excO C hp.objs.size)).get? b = some o := fun b o z => Heap.get?_push_of_some _ (Heap.get?_push_of_some _ z)
  have hget : ((hp.push (PySem.W.kdv_tup [u])).push (PySem.HandSPX.excO C hp.objs.size)).get? (hp.objs.size + 1) = some (PySem.HandSPX.excO C hp.objs.size) := by heap_get
  have hK : ∀ b, hp.objs.size ≤ b → X.K.lookup b = none := fun b hb => by
    cases z : X.K.lookup b with
    | none => rfl
    | some o => exact absurd (Heap.lt_size (I1.kIn b o z)) (Nat.not_lt.mpr hb)
  have hsz2 : ((hp.push (PySem.W.kdv_tup [u])).push (PySem.HandSPX.excO C hp.objs.size)).objs.size = hp.objs.size + 2 := by
    simp [Heap.push]
  obtain ⟨mb, hb1, hb2⟩ := I1.mod.blt
  have kb : ∀ b o, X.base.get? b = some o → ((hp.push (PySem.W.kdv_tup [u])).push (PySem.HandSPX.excO C hp.objs.size)).get? b = some o := fun b o z => kk b o (I1.bk b o z)
  refine wpAny_call (PySem.HandSPX.call_own F.excBase_ValueError (fun Y => PySem.HandSPX.refsVE_contains Y bm hbm) (I1.kIn _ _ hC) (PySem.W.looks_findIn I1.kIn T.init) (fun self => PySem.W.bind_fn I1.kIn self T.ityp) (by show 1 ≤ sizeLine; decide) ?_)
  refine XS.err_code (mg := X.mg) (mb := mb) (I1.ok.mod.kin.keeps kb) (I1.mod.glob.keeps kb) (hb1.keeps kb) hb2 (I1.mod.nolimit.keeps kb) T (hr.make C [u] []).depth hget (hK _ (Nat.le_succ _)) (hK _ (by rw [hsz2]; exact Nat.le_add_right _ 2)) fun h5 tk5 t1 dx k5 e5 hdx hda n5 => ?_
  rw [hsz2] at hdx
  obtain ⟨G, g1, g2⟩ := restrict h5 fun b => decide (b ≠ hp.objs.size + 1)
  have gk : ∀ b, b ≠ hp.objs.size + 1 → G.get? b = h5.get? b := fun b hb => g1 b (decide_eq_true hb)
  have ge : G.get? (hp.objs.size + 1) = none := g2 _ (by simp)
  have kG : ∀ b o, hp.get? b = some o → G.get? b = some o := fun b o z => by
    have nb : b ≠ hp.objs.size + 1 := Nat.ne_of_lt (Nat.lt_succ_of_lt (Heap.lt_size z))
    rw [gk b nb]
    exact k5 b o nb (kk b o z)
  have J := I1.laid (t' := tk5) (a := dx) (o := .xd [(fld, v)]) (h' := G) kG (Nat.le_trans (Nat.le_add_right _ 2) hdx) ⟨_, n5.at fun o y => (gk dx hda).trans y, fun f => by
    show RelO (List.lookup f [(fld, v)]) _
    rw [lookup_put]
    by_cases hf : f = fld
    · rw [if_pos hf, if_pos hf]
      exact r1
    · rw [if_neg hf, if_neg hf]
      exact True.intro⟩
  have na : H1 (hp.objs.size + 1) = none := I1.hok.fresh (Nat.le_succ _)
  have nd : H1 dx = none := I1.hok.fresh (Nat.le_trans (Nat.le_add_right _ 2) hdx)
  refine ⟨rfl, hp.objs.size + 1, _, _, ⟨G, g, dr, tk5, os⟩, _, .ref C, some dx, rfl, J, fun b o z => ?_, ge, e5, ⟨rfl, rfl⟩, rfl, rfl, ?_, rfl, I1.bare, raises_own T.exC T.tyC, q1 dx nd⟩
  · by_cases hb : b = hp.objs.size + 1
    · rw [hb, ge] at z
      cases z
    · exact (gk b hb).symm.trans z
  · rw [upd_ne (Ne.symm hda)]
    exact na
end
end L2
namespace L2
open PySem PySem.Spec PyProof.Rows
open PySem.W (exmOne exmAny exm_one exm_tup3 Looks)

/-- a caught error, kept: its object at a, of the class cls, its dict d -/
def held (a : Addr) (cls : Value) (d : Option Addr) : HO := .ext fun h => ∃ (oe : Obj) (vs : Array Value), h.get? a = some oe ∧ Zc cls d oe ∧ oe.data = .fields vs
theorem held_ok {P : Program} {w : World} {H : Hp} {h : Heap} {a : Addr} {cls : Value} {d : Option Addr} {oe : Obj} {vs : Array Value} (e : h.get? a = some oe) (z : Zc cls d oe) (f : oe.data = .fields vs) : ObjOk P w H h a (held a cls d) :=
  ⟨⟨oe, vs, e, z, f⟩, ⟨oe, e⟩, fun _ _ ⟨o, v, q, r⟩ k => ⟨o, v, k o q, r⟩⟩
theorem flying_more {B h h' : Heap} {l : List Env} {a : Addr} {Z : Obj → Prop} (x : HandSPX.FlyingZ B l a Z h) (k : ∀ b o, h.get? b = some o → h'.get? b = some o) : HandSPX.FlyingZ B l a Z h' := by
  obtain ⟨x1, x2, x3, oe, vs, T, oT, ts, e1, e2, e3, e4, e5, e6, e7, e8, e9⟩ := x
  exact ⟨fun b o q => k b o (x1 b o q), x2, x3.of_keeps fun b o q _ => ⟨o, k b o q, rfl⟩, oe, vs, T, oT, ts, k _ _ e1, e2, e3, e4, e5, e6, k _ _ e7, e8, e9⟩
section
variable {X : Cx} {pins : List (Addr × Obj)} {σ : St} {H : Hp} {sI s' : Shared} {B : Heap}
/-- on the ground again, the error's object tracked from here on -/
theorem landed_held {a : Addr} {cls : Value} {d : Option Addr} {oe : Obj} {vs : Array Value} (I : Inv X pins σ H sI) (nb : ∀ b o, sI.heap.get? b = some o → b ∉ frs X.stack → B.get? b = some o) (st : B.StaysIn s'.heap) (up : sI.heap.UpToSlots s'.heap)
    (os : s'.os = sI.os) (ag : AllBare s'.gens) (na : sI.heap.get? a = none) (hn : H a = none) (e : s'.heap.get? a = some oe) (z : Zc cls d oe) (f : oe.data = .fields vs) : Inv X pins σ (upd H a (held a cls d)) s' := by
  have nea : ∀ b o, sI.heap.get? b = some o → b ≠ a := fun b o q c => by rw [c, na] at q; cases q
  have neH : ∀ b o, H b = some o → b ≠ a := fun b o q c => by rw [c, hn] at q; cases q
  have fr : ∀ b, b ∈ frs X.stack → ∀ o, sI.heap.get? b = some o → ∃ sl, s'.heap.get? b = some { o with slots := sl } := fun b hb o q => by
    obtain ⟨_, o', q', hd⟩ := I.stack.mem hb
    rw [q] at q'; cases q'
    exact up b o q hd
  have u : Un (frs X.stack) [] H (upd H a (held a cls d)) sI.heap s'.heap := by
    refine ⟨fun b o q _ hb _ => st b o (nb b o q hb), fun b o q _ hb _ => fr b hb o q, fun b o q n _ => ?_, fun b o q _ => ?_, fun b xs q => ?_, fun b o xs q => ?_, fun b ps q => ⟨#[], ?_⟩⟩
    · rw [upd_ne (nea b o q)]
      exact n
    · by_cases hb : b ∈ frs X.stack
      · obtain ⟨sl, q2⟩ := fr b hb o q
        exact ⟨_, q2⟩
      · exact ⟨o, st b o (nb b o q hb)⟩
    · rw [upd_ne (neH _ _ q)]
      exact q
    · rw [upd_ne (neH _ _ q)]
      exact q
    · rw [upd_ne (neH _ _ q), q]
      simp
  have hk : HOk X.prog X.w (upd H a (held a cls d)) s'.heap := HOk.laidN ((I.inGround nb).kept st) (fun _ _ q => q) hn (held_ok e z f)
  have J := I.call (ch := []) (h' := s'.heap) (g' := s'.gens) (t' := s'.toks) (d' := s'.drawn) u hk ag (fun _ q => nomatch q)
  obtain ⟨b1, b2, b3, b4, b5⟩ := s'
  obtain rfl : b5 = sI.os := os
  exact J
theorem Inv.inSuite (I : Inv X pins σ H sI) (a : Addr) : Inv (X.suite a (X.pn ++ pins)) [] σ H sI :=
  ⟨I.ok.suite _ _, I.os, I.bare, I.base, I.loc, I.cell, I.free, I.freeC, fun p hp => I.pin p (by rw [List.append_nil] at hp; exact hp), I.hok, I.len⟩
theorem Inv.outSuite {a : Addr} {pn' : List (Addr × Obj)} (I : Inv (X.suite a (X.pn ++ pins)) pn' σ H sI) (ok : X.Ok) : Inv X pins σ H sI :=
  ⟨ok, I.os, I.bare, I.base, I.loc, I.cell, I.free, I.freeC, fun p hp => I.pin p (List.mem_append_left _ hp), I.hok, I.len⟩
end
/-- what the type of a clause tells of the errors of a class -/
def Tells (X : Cx) (tt : Expr) (m : Value → Option Bool) : Prop :=
  ∀ (a : Addr) (pn : List (Addr × Obj)) (σ : St) (H : Hp) (s : Shared) (cls : Value) (b : Bool) (Q : Bool → Shared → Prop) (E : Value → Shared → Prop), Inv (X.suite a pn) [] σ H s → Looks (model X.prog X.w) s.heap (typeOf (.ref a)) cls → m cls = some b →
    (∀ h', (∀ c o, s.heap.get? c = some o → h'.get? c = some o) → Q b { s with heap := h' }) →
    wpAny (model X.prog X.w) (X.A.mark (some (.ref a))) (eval tt X.env) (fun c s₁ => wpAny (model X.prog X.w) (X.A.mark (some (.ref a))) (excMatches (.ref a) c) Q E s₁) E s
section
variable {X : Cx}
theorem ld_named {a : Addr} {pn : List (Addr × Obj)} {σ : St} {H : Hp} {s : Shared} {x : Str} {c : Value} {np : Pos} {Q : Value → Shared → Prop} {E : Value → Shared → Prop} (I : Inv (X.suite a pn) [] σ H s) (hc : Names X x c) (q : Q c s) :
    wpAny (model X.prog X.w) (X.A.mark (some (.ref a))) (eval (.Name x np) X.env) Q E s := by
  obtain ⟨hg, hd, hm | ⟨hm, hv, hn⟩⟩ := hc
  · exact ld_glob (X := X.suite a pn) I hg hm q hd
  · exact ld_blt (X := X.suite a pn) I hg hm hv q hn hd
theorem tells_one {x : Str} {c : Value} {np : Pos} (hc : Names X x c) : Tells X (.Name x np) (fun cls => exmOne X.K cls c) := fun a pn σ H s cls b Q E I L hb q =>
  ld_named I hc ((exm_one I.kIn L hb).here (q s.heap fun _ _ z => z))
theorem tells_three {x1 x2 x3 : Str} {c1 c2 c3 : Value} {p1 p2 p3 tp : Pos} {kk : Nat} (n1 : Names X x1 c1) (n2 : Names X x2 c2) (n3 : Names X x3 c3) : Tells X (.Tuple [.Name x1 p1, .Name x2 p2, .Name x3 p3] kk tp) (fun cls => exmAny X.K cls [c1, c2, c3]) := fun a pn σ H s cls b Q E I L hb q => by
  refine wpAny_Tuple (wpAny_items_cons (ld_named I n1 (wpAny_items_cons (ld_named I n2 (wpAny_items_cons (ld_named I n3 (wpAny_items_nil ⟨by size_fits, ?_⟩)))))))
  have k : ∀ c o, s.heap.get? c = some o → (s.heap.push { cls := .type "tuple", data := .seq [c1, c2, c3].toArray }).get? c = some o := fun _ _ z => Heap.get?_push_of_some _ z
  exact (exm_tup3 (I.kIn.keeps k) (L.keeps k) (Heap.get?_push_size s.heap rfl) hb).here (q _ k)
/-- what 'except .. as n' wishes where the caught error stays -/
def wHeld (m : Value → Option Bool) (i : Nat) (ts : TS) (Wout : WX) (D : Ends) : WX := fun cls d σ H =>
  ∃ b, m cls = some b ∧ (b = true → ∀ a, H a = none → ts { nx := fun σ' H' => D.nx (σ'.set i none) H', rt := D.rt, bk := fun σ' H' => D.bk (σ'.set i none) H', ct := fun σ' H' => D.ct (σ'.set i none) H' } (σ.set i (some (.ref a))) (upd H a (held a cls d))) ∧
    (b = false → Wout cls d σ H)
variable {n : Str} {i : Nat} {body suite : List Stmt} {b₀ : Stmt} {tt : Expr} {m : Value → Option Bool} {pos pos' : Pos} {tb : WX → TS} {ts : TS} {Wout : WX}
theorem ps_try_held (hs : X.stack = X.env :: X.outer) (hf : X.env.frame = some X.env.locals) (hN : X.N.Nodup) (hi : X.N[i]? = some n) (hln : X.env.kindOf n = some .local) (ht : Tells X tt m) (tk : Takes X Wout)
    (hb : ∀ (W : WX) (pn : List (Addr × Obj)) (xe : Value → Shared → Prop), Takes (X.tr pn xe) W → PassesOwn (model X.prog X.w) X.A X.env xe → PSs (X.tr pn xe) body (tb W))
    (hsu : ∀ (a : Addr) (pn : List (Addr × Obj)), PSs (X.suite a pn) (b₀ :: suite) ts) :
    PS X (.Try body [.ExceptHandler (some tt) (some n) (b₀ :: suite) pos'] [] [] pos) (fun D σ H => tb (wHeld m i ts Wout D) D σ H) := by
  refine ⟨fun pins s σ H D I h => ?_⟩
  have ok := I.ok
  have hfr : X.A.frames = some (X.env :: X.outer) := by rw [ok.frames, hs]
  refine wpAny_Try_except (wpAny_mono ((hb (wHeld m i ts Wout D) (X.pn ++ pins) (fun e s₁ => wpAny (model X.prog X.w) X.A (noteFrame e X.env) (fun _ s₂ => wpAny (model X.prog X.w) X.A (setFlight e none) (fun _ s₃ =>
    wpAny (model X.prog X.w) X.A (handleBy e X.env [.ExceptHandler (some tt) (some n) (b₀ :: suite) pos']) (SP X pins D) X.xe s₃) X.xe s₂) X.xe s₁) (fun u s' xx => ?_) PassesOwn.looking).run [] s σ H D (I.toTry _) h) (fun f s1 hsp => ?_) (fun _ _ z => z))
  · obtain ⟨a, B, sI, pins', σ', H', cls, d, rfl, J', nb, up, sky, na, os, ag, b, hmb, hyes, hno⟩ := xx
    have J : Inv X pins σ' H' sI := J'.ofTry ok
    have sky' : Sky B (X.env :: X.outer) a (Zc cls d) X.env.locals s'.heap := by rw [← hs]; exact sky
    show wpAny (model X.prog X.w) X.A (noteFrame (.ref a) X.env) _ _ _
    refine Sky.land Zc.steady hfr hf sky' fun h1 fl1 up1 => ?_
    obtain ⟨oe1, vs1, he1, hz1, hd1⟩ := fl1.there
    have out : a ∉ frs X.stack := fun hm => by
      rw [hs] at hm
      obtain ⟨_, o', e', hnf⟩ := fl1.2.2.1.mem hm
      rw [he1] at e'; cases e'
      exact hnf _ hd1
    have naI : sI.heap.get? a = none := by
      cases q : sI.heap.get? a with
      | none => rfl
      | some o => exact absurd (nb a o q out) (by rw [fl1.2.1]; exact fun z => nomatch z)
    have J1 : Inv X pins σ' H' { s' with heap := h1 } := J.landed nb fl1.1 (up.trans up1) os ag
    refine wpAny_handleBy_cons (codeAny_handlers_test ?_) (by intro q; cases q)
    refine ht a (X.pn ++ pins) σ' H' _ cls b _ _ (Inv.inSuite J1 a) (fun A Q E s k q => wpAny_typeOf_ref (k _ _ he1) (by rw [hz1.1]; exact q)) hmb fun h2 k2 => ?_
    have fl2 : HandSPX.FlyingZ B (X.env :: X.outer) a (Zc cls d) h2 := flying_more fl1 k2
    have up2 : sI.heap.UpToSlots h2 := (up.trans up1).trans (Heap.UpToSlots.of_keeps k2)
    cases b with
    | true =>
      refine codeAny_handlers_suite_as ?_
      refine HandSPX.lands_againZ fl2 fun h3 fl3 up3 => ?_
      obtain ⟨oe3, vs3, he3, hz3, hd3⟩ := fl3.there
      have J3 : Inv X pins σ' (upd H' a (held a cls d)) { s' with heap := h3 } := landed_held J nb fl3.1 (up2.trans up3) os ag naI na he3 hz3 hd3
      refine store_ok (X := X.suite a (X.pn ++ pins)) (v := .ref a) (Inv.inSuite J3 a) hN hi (.inl hln) rfl (fun s5 S5 => ?_) (.inr hln)
      refine wpAny_mono ((hsu a (X.pn ++ pins)).run [] s5 _ _ _ S5 (hyes rfl a na)) (fun f s6 hsp => ?_) (fun _ _ z => False.elim z)
      have fin : ∀ {σ6 : St} {H6 : Hp} {Q : Shared → Prop}, Inv (X.suite a (X.pn ++ pins)) [] σ6 H6 s6 → (∀ s7, Inv X pins (σ6.set i none) H6 s7 → Q s7) →
          wpAny (model X.prog X.w) X.A (do bindName X.env n .none; unbindBehindTheSuite X.env n pos') (fun _ s7 => Q s7) X.xe s6 := fun S6 hq => gone_ok (Inv.outSuite S6 ok) hN hi hln hq
      cases f with
      | next =>
        obtain ⟨σ6, H6, S6, q6⟩ := hsp
        exact fin S6 fun s7 J7 => ⟨_, _, J7, q6⟩
      | brk =>
        obtain ⟨σ6, H6, S6, q6⟩ := hsp
        exact fin S6 fun s7 J7 => ⟨_, _, J7, q6⟩
      | cont =>
        obtain ⟨σ6, H6, S6, q6⟩ := hsp
        exact fin S6 fun s7 J7 => ⟨_, _, J7, q6⟩
      | ret u =>
        obtain ⟨v6, σ6, H6, S6, r6, q6⟩ := hsp
        exact fin S6 fun s7 J7 => ⟨_, _, _, J7, r6, q6⟩
    | false =>
      show wpAny _ X.A (handleBy (.ref a) X.env []) _ _ _
      refine wpAny_handleBy_nil ?_
      obtain ⟨k1, k2', k3, oe, vs, T, oT, ts', he, hz, hd, h1', hr⟩ := id fl2
      unfold PySem.passOn
      refine wpAny_bind (wpAny_field he hd h1' ?_)
      rw [if_neg (show ¬ ((Value.ref T == Value.none) = true) from by simp)]
      have go : wpAny (model X.prog X.w) X.A (setFlight (.ref a) X.env.frame) (fun _ s4 => wpAny (model X.prog X.w) X.A (throw (.ref a) : Sem Flow) (SP X pins D) X.xe s4) X.xe { s' with heap := h2 } := by
        rw [hf]
        exact HandSPX.setFlight_upZ fl2 fun h4 hh4 up4 => wpAny_throw (tk _ _ ⟨a, B, sI, pins, σ', H', cls, d, rfl, J, nb, up2.trans up4, .inr (.inr (by rw [hs]; exact hh4)), na, os, ag, hno rfl⟩)
      first
        | exact wpAny_bind (wpAny_pure (wpAny_bind go))
        | exact wpAny_bind go
  · cases f with
    | next =>
      obtain ⟨σ', H', J', q⟩ := hsp
      exact wpAny_execs_nil ⟨σ', H', J'.ofTry ok, q⟩
    | brk =>
      obtain ⟨σ', H', J', q⟩ := hsp
      exact ⟨σ', H', J'.ofTry ok, q⟩
    | cont =>
      obtain ⟨σ', H', J', q⟩ := hsp
      exact ⟨σ', H', J'.ofTry ok, q⟩
    | ret u =>
      obtain ⟨v, σ', H', J', r, q⟩ := hsp
      exact ⟨v, σ', H', J'.ofTry ok, r, q⟩
end
end L2
namespace L2
open PySem PySem.Spec PyProof.Rows
/-! ### a call by keywords alone that may raise -/
def tKw0S (sp : Sp) (n : Nat) (ix : List Nat) (E : St → XK) (t : TA) : TE := fun σ H Q => t σ H fun vs H1 => vs.length = n ∧ sp (picked V.non ix vs) H1 Q (E σ)
section
variable {X : Cx} {CX : CXT} {k : Nat} {f : Addr} {fd : FuncData} {ps ks : List Str} {sp : Sp} {E : St → XK} {x : Str} {p pos : Pos} {kws : List Keyword} {t : TA} {ix : List Nat}
theorem pe_kw0S (F : FnOk X.prog X.w X.K X.mg X.base CX k f fd ps sp) (hr : Room k X.A) (hg : Gl X x) (hm : X.mg x = some (.ref f)) (hk : PySem.W.keepIn X.K (.ref f) = true) (hb : KwB X.K fd ps ks ix) (hx : ∀ σ, PassesAt CX X σ (E σ))
    (ha : PK X kws t) (hall : (backToKw pos (keywordEach kws X.env)).all (·.1.isSome) = true := by rfl) (hks : (backToKw pos (keywordEach kws X.env)).filterMap (·.1) = ks := by rfl) (hdb : (x == ("__debug__" : Str)) = false := by decide)
    (hpl : ((backTo pos (starEach [] X.env)).any (·.1) || (backToKw pos (keywordEach kws X.env)).any (·.1.isNone)) = false := by rfl) : PE X (.Call (.Name x p) [] kws pos) (tKw0S sp ks.length ix E t) := by
  refine ⟨fun pins s σ H Q I h => wpAny_Call_Name_kw (ld_glob I hg hm ?_ hdb)⟩
  refine PySem.W.callWith_KW0 (h₀ := X.base) I.ok.mod.kin hk hall (thn (ha.run pos pins s σ H _ I h) fun ws s2 ⟨zs, H2, I2, rz, hl, q2⟩ => ⟨I2.kIn, ?_⟩) hpl
  rw [hks]
  have r2 := picked_vals rz ix
  refine wpAny_call (codeAny_mono (F.run X.A X.stack s2 H2 ⟨[], ks.zip ws⟩ (picked Value.none ix ws) (picked V.non ix zs) Q (E σ) hr I2.env0 (hb.2 s2 ws I2.kIn (rz.length.symm.trans hl)) r2 q2) fun o s3 hq => ?_)
  match o, hq with
  | .error e, hq => exact hx σ pins H2 s2 e s3 I2 hq
  | .ok (.ret u), hq => exact I2.after hq
end
/-! ### what is asked of a caught error that was kept -/
theorem held_get {X : Cx} {pins : List (Addr × Obj)} {σ : St} {H : Hp} {s : Shared} {a C dd : Addr} {fs : List (Str × V)} (I : Inv X pins σ H s) (h : H a = some (held a (.ref C) (some dd))) (hf : H dd = some (.xd fs)) :
    ∃ (oe od : Obj) (mA : Str → Option Value), PySem.W.InstAt s.heap a oe C (some od) ∧ (∀ n, PySem.W.lookIn n od = some (mA n)) ∧ ∀ f, RelO (fs.lookup f) (mA f) := by
  obtain ⟨⟨oe, vs, ha, hz, hd⟩, _, _⟩ := I.hok a _ h
  obtain ⟨mA, hns, hr⟩ := I.hok dd _ hf
  obtain ⟨od, ho, hl⟩ := lookIn_ns hns
  exact ⟨oe, od, mA, ⟨ha, hz.1, by unfold PySem.W.notCls; rw [hd] <;> rfl, by rw [hz.2]; exact ho⟩, hl, hr⟩
/-- e.f, e a kept error -/
def tHeld (K : PySem.W.Frag) (n : Str) (te : TE) : TE := fun σ H Q => te σ H fun x H1 => ∃ (a C dd : Addr) (fs : List (Str × V)) (v : V), x = .ref a ∧ H1 a = some (held a (.ref C) (some dd)) ∧ H1 dd = some (.xd fs) ∧ fs.lookup n = some v ∧ XfC K C ∧ PySem.W.findIn K (.ref C) n = some none ∧ Q v H1
theorem pe_held {X : Cx} {e : Expr} {te : TE} {pos : Pos} {n : Str} (he : PE X e te) (hb : attributeBase e n X.env (eval e X.env) = eval e X.env := by rfl) : PE X (.Attribute e n pos) (tHeld X.K n te) := by
  refine ⟨fun pins s σ H Q I h => attr_of hb (thn (he.run pins s σ H _ I h) fun u s1 hh => ?_)⟩
  obtain ⟨x, H1, I1, rx, a, C, dd, fs, v, rfl, h1, h2, l, T, hno, q⟩ := hh
  cases (show u = Value.ref a from rx)
  obtain ⟨oe, od, mA, J, hl, hr⟩ := held_get I1 h1 h2
  obtain ⟨u, hu, ru⟩ := RelO.some_of (v := v) (o := mA n) (by rw [← l]; exact hr n)
  exact HandSPX.exc_get I1.kIn J T.ga T.gg T.exC (PySem.W.findObj_own T.hdC hno rfl (by rw [hl, hu])) (handed_of ru) ⟨v, H1, I1.tok _, ru, q⟩
/-- isinstance(e, c), e a kept error -/
def rIsH (K : PySem.W.Frag) : List V → Hp → VK → Prop := fun xs H Q => ∃ (a C dd : Addr) (fs : List (Str × V)) (D : Addr) (b : Bool), xs = [.ref a, .ref D] ∧ H a = some (held a (.ref C) (some dd)) ∧ H dd = some (.xd fs) ∧ ExcC K C ∧ PySem.W.kitOne K (.ref C) (.ref D) = some b ∧ Q (.bl b) H
theorem call_isH {X : Cx} : CallR X (.builtin "isinstance") (rIsH X.K) := by
  intro pins s σ H xs us Q I r h
  obtain ⟨a, C, dd, fs, D, b, rfl, h1, h2, T, e, q⟩ := h
  cases r with
  | cons rx rr =>
    cases rr with
    | cons rt rr =>
      cases rr
      cases rx
      cases rt
      obtain ⟨oe, od, mA, J, _, _⟩ := held_get I h1 h2
      obtain ⟨cd, hcd, _⟩ := PySem.W.any_some T.hd
      exact PySem.W.kia_one (PySem.W.kitx_exc (by rw [hcd]; rfl) T.hg T.hk T.hs T.ha T.hn T.ht T.hm) I.kIn J e (fun z => nomatch z) fun tk => ⟨.bl b, H, I.kept (t' := tk) fun _ _ z => z, rfl, q⟩
end L2
namespace L2
open PySem PySem.Spec PyProof.Rows
/-! ### repr of a list whose items may be empty dicts -/
inductive Dq (K : PySem.W.Frag) (H : Hp) : V → PyData → Prop
  | of {v : V} {d : PyData} : Dp K H v d → d.hasDict = false → Dq K H v d
  | dic {a : Addr} : H a = some (.dK []) → Dq K H (.ref a) (.dict [])
inductive DqAll (K : PySem.W.Frag) (H : Hp) : List V → List PyData → Prop
  | nil : DqAll K H [] []
  | cons {v : V} {vs : List V} {d : PyData} {ds : List PyData} : Dq K H v d → DqAll K H vs ds → DqAll K H (v :: vs) (d :: ds)
section
variable {X : Cx} {pins : List (Addr × Obj)} {σ : St} {H : Hp} {s : Shared}
theorem Dq.shows (I : Inv X pins σ H s) {d : PyData} {v : V} {u : Value} (h : Dq X.K H v d) (r : RelV v u) (hs : d.showable = true) (hz : d.shown.length ≤ sizeLine) :
    ∃ as, Reads s.heap u d as ∧ ∃ bs, ReadAtMost s.heap d.depth bs ∧ ReprK X.prog X.w bs s.heap d.depth u d.shown := by
  cases h with
  | of h hd =>
    obtain ⟨as, q⟩ := Dp.reads I d _ _ h r
    exact ⟨as, q, ReprK.of_reads q hs (fun z => absurd (hd.symm.trans z) (by decide)) hz⟩
  | dic hl =>
    cases r
    obtain ⟨_, hne, vs, rk, o, es, ep, ho, hx, hd, _, he, _⟩ := I.hok _ _ hl
    cases rk
    have he : es.toList = [] := by generalize es.toList = l at he ⊢; cases he; rfl
    have q : Reads s.heap (.ref _) (.dict []) _ := Reads.dict (as := []) (bs := []) ho hx.1 hd (by rw [he]; exact .nil) (by rw [he]; exact .nil)
    refine ⟨_, q, ReprK.of_reads q hs (fun _ z => ?_) hz⟩
    rcases List.mem_cons.mp z with z | z
    · rw [← z] at hne
      exact Bool.noConfusion hne
    · cases z
theorem DqAll.shows (I : Inv X pins σ H s) : ∀ {ds : List PyData} {vs : List V} {us : List Value}, DqAll X.K H vs ds → Vals vs us → PyData.showableAll ds = true → (∀ t ∈ PyData.shownAll ds, t.length ≤ sizeLine) →
    ∃ as, ReadsAll s.heap us ds as ∧ ∃ bs, ReadAtMost s.heap (PyData.depthAll ds) bs ∧ ReprAllK X.prog X.w bs s.heap (PyData.depthAll ds) us (PyData.shownAll ds) := by
  intro ds vs us h r hs hz
  induction h generalizing us with
  | nil =>
    cases r
    exact ⟨_, .nil, [], (fun _ q => nomatch q), by simp only [PyData.shownAll]; exact .nil⟩
  | cons h1 h2 ih =>
    rename_i v vs d ds
    cases r with
    | cons r1 r2 =>
      have hs' : d.showable = true ∧ PyData.showableAll ds = true := by simpa [PyData.showableAll] using hs
      obtain ⟨a1, q1, b1, m1, k1⟩ := h1.shows I r1 hs'.1 (hz _ (by simp only [PyData.shownAll]; exact List.mem_cons_self))
      obtain ⟨a2, q2, b2, m2, k2⟩ := ih r2 hs'.2 fun t ht => hz t (by simp only [PyData.shownAll]; exact List.mem_cons_of_mem _ ht)
      have l1 : d.depth ≤ PyData.depthAll (d :: ds) := by simp only [PyData.depthAll]; exact Nat.le_max_left _ _
      have l2 : PyData.depthAll ds ≤ PyData.depthAll (d :: ds) := by simp only [PyData.depthAll]; exact Nat.le_max_right _ _
      refine ⟨_, .cons q1 q2, b1 ++ b2, (m1.mono l1).append (m2.mono l2), ?_⟩
      have e : PyData.shownAll (d :: ds) = d.shown :: PyData.shownAll ds := by simp only [PyData.shownAll]
      rw [e]
      exact .cons ((k1.more fun b hb => List.mem_append_left _ hb).level_le l1) (k2.more_le (fun b hb => List.mem_append_right _ hb) l2)
end
def rReprQ (K : PySem.W.Frag) : List V → Hp → VK → Prop := fun xs H Q => ∃ a vs ds, xs = [.ref a] ∧ SqL K H a vs ∧ DqAll K H vs ds ∧ vs ≠ [] ∧ PyData.showableAll ds = true ∧ (PyData.list ds).depth ≤ 20 ∧ (PyData.list ds).shown.length ≤ sizeLine ∧ Q (.str (PyData.list ds).shown) H
theorem call_reprQ {X : Cx} (hG : X.A.guards = some []) (hu : X.A.units + 64 < cLine) : CallR X (.builtin "repr") (rReprQ X.K) := by
  intro pins s σ H xs us Q I r h
  obtain ⟨a, vs, ds, rfl, hl, hd, hne, h1, h3, h4, q⟩ := h
  obtain ⟨u, rfl, ru⟩ := vals1 r
  cases (show u = Value.ref a from ru)
  obtain ⟨its, rv, ⟨o, n, ho, hc, _, ho3⟩, _⟩ := I.list hl
  have hz : (listText (PyData.shownAll ds)).length ≤ sizeLine := by simpa only [PyData.shown] using h4
  obtain ⟨as, q1, bs, hb, hk⟩ := hd.shows I rv h1 fun t ht => Nat.le_trans (listText_mem_le ht) hz
  have rd : Reads s.heap (.ref a) (.list ds) _ := .list ho hc ho3 (by simpa using q1)
  have hna : a ∉ bs := not_mem_of_deeper rd (by simp only [PyData.depth]; omega) hb
  simp only [PyData.depth] at h3
  cases its with
  | nil =>
    cases rv
    exact absurd rfl hne
  | cons x l =>
    refine call_repr_slot (by omega) (show s.TypeIs (.ref a) "list" from ⟨o, ho, hc⟩) F.slot_list_repr.toG ?_
    refine call_list_reprK ho hc ho3 hna (by simpa using hk.length_eq) (fun i y e => hk.item i y (by simpa using e)) hG (fun b _ => Clear.nil b) (by show X.A.units + 1 + (PyData.depthAll ds + 1) < cLine; omega) (fun _ _ z => z) (fun h' u tk hk' => ⟨_, _, rfl, ?_⟩) hz
    refine ⟨.str (PyData.list ds).shown, H, I.kept hk', ⟨u, by simp only [PyData.shown]⟩, q⟩
theorem g_reprQ {K : PySem.W.Frag} {H : Hp} {Q : VK} {a : Addr} {vs : List V} {ds : List PyData} (h : SqL K H a vs) (hd : DqAll K H vs ds) (hne : vs ≠ []) (h1 : PyData.showableAll ds = true) (h3 : (PyData.list ds).depth ≤ 20) (h4 : (PyData.list ds).shown.length ≤ sizeLine) (q : Q (.str (PyData.list ds).shown) H) : rReprQ K [.ref a] H Q :=
  ⟨a, vs, ds, rfl, h, hd, hne, h1, h3, h4, q⟩
end L2
namespace XS
open PySem PySem.W
theorem along_of {K : Frag} {C N : Addr} {nm q n : Str} {bs bm sb : List Value} {hd ab : Bool} {sn : List Str} {co : Option Bool} {dd : Option Addr} {m0 m1 m2 m3 m5 r : Option Value} {nw : String} (x : K.lookup C = some (excClassObj nm q C N bs bm hd sn sb ab co dd m0 m1 m2 m3 m5 nw)) (e : findIn K (.ref C) n = some r) :
    alongIn K n (.ref C :: bm) = some r := by
  unfold findIn at e
  dsimp only at e
  rw [x] at e
  exact e
theorem any3 {K : Frag} {c c1 c2 c3 : Value} {b1 b2 b3 : Bool} (h1 : exmOne K c c1 = some b1) (h2 : exmOne K c c2 = some b2) (h3 : exmOne K c c3 = some b3) : exmAny K c [c1, c2, c3] = some (b1 || (b2 || (b3 || false))) := by
  unfold exmAny exmAny exmAny exmAny
  rw [h1, h2, h3]
theorem kit_self {K : Frag} {C : Addr} : kitOne K (.ref C) (.ref C) = some true := if_pos (beq_self_eq_true _)
theorem kit_other {K : Frag} {C D : Addr} {b : Bool} (hd : hasDictIn K D = true) (ht : typeIn K (.ref D) = some (.type "type")) (hn : (Value.ref C == Value.ref D) = false) (hs : subIn K (.ref C) (.ref D) = some b) : kitOne K (.ref C) (.ref D) = some b := by
  obtain ⟨cd, hc, _⟩ := any_some hd
  unfold kitOne
  rw [if_neg (by rw [hn]; exact Bool.false_ne_true)]
  show (if ((clsIn K D).isSome && typeIn K (.ref D) == some (.type "type")) = true then subIn K (.ref C) (.ref D) else none) = some b
  rw [if_pos (by rw [hc, ht] <;> rfl), hs]
end XS
namespace L2
open PySem
section
variable {X : Cx} {H : Hp} {Q : VK} {K : PySem.W.Frag} {σ : St} {ta tb te : TE} {D : Ends}
/-! more names -/
def rSplitZ : V → List V → Hp → VK → Prop := fun x xs H Q => ∃ a b, x = .str a ∧ xs = [.str b] ∧ (b.length == 0) = false ∧ a.length + 2 ≤ sizeLine ∧ rNewStrs (Txt.split a b) H Q
theorem pe_splitZ {o e : Expr} {to te : TE} {apos pos : Pos} (ho : PE X o to) (he : PE X e te) (hs : starEach [e] X.env = [(false, eval e X.env)] := by rfl) (hbase : attributeBase o "split" X.env (eval o X.env) = eval o X.env := by rfl) (hline : (apos.endLine == pos.line) = true := by rfl) :
    PE X (.Call (.Attribute o "split" apos) [e] [] pos) (tM1 rSplitZ to te) := pe_split ho he hs hbase hline
theorem g_splitz {a b : Str} (h1 : (b.length == 0) = false) (h2 : a.length + 2 ≤ sizeLine) (q : ∀ p, H p = none → Q (.ref p) (upd H p (.lst ((Txt.split a b).map V.str)))) : rSplitZ (.str a) [.str b] H Q := ⟨a, b, rfl, rfl, h1, h2, q⟩
def rStartZ : V → List V → Hp → VK → Prop := fun x xs H Q => ∃ a b, x = .str a ∧ xs = [.str b] ∧ Q (.bl (Txt.startswith a b)) H
theorem mt_startZ : MtR X "str.startswith" rStartZ := mt_startswith
theorem g_startz {a b : Str} (q : Q (.bl (Txt.startswith a b)) H) : rStartZ (.str a) [.str b] H Q := ⟨a, b, rfl, rfl, q⟩
def rCountZ : V → List V → Hp → VK → Prop := fun x xs H Q => ∃ a b, x = .str a ∧ xs = [.str b] ∧ Q (.int (Txt.count a b)) H
theorem mt_countZ : MtR X "str.count" rCountZ := mt_count
theorem g_countz {a b : Str} (q : Q (.int (Txt.count a b)) H) : rCountZ (.str a) [.str b] H Q := ⟨a, b, rfl, rfl, q⟩
def rTupOf (K : PySem.W.Frag) : List V → Hp → VK → Prop := fun xs H Q => ∃ p ys, xs = [.ref p] ∧ ((SqL K H p ys ∧ ∀ l, H l = none → Q (.ref l) (upd H l (.tup ys))) ∨ (SqT K H p ys ∧ Q (.ref p) H))
theorem call_tupOf : CallR X (.type "tuple") (rTupOf X.K) := call_tuple_of
theorem g_tupOf {p : Addr} {ys : List V} (h : SqL K H p ys) (q : ∀ l, H l = none → Q (.ref l) (upd H l (.tup ys))) : rTupOf K [.ref p] H Q := ⟨p, ys, rfl, .inl ⟨h, q⟩⟩
theorem g_sll {p : Addr} {xs : List V} {lo hi : Option Int} (h : SqL K H p xs) (q : ∀ l, H l = none → Q (.ref l) (upd H l (.lst (cutV xs lo hi)))) : rSlL K (.ref p) lo hi H Q := ⟨p, xs, rfl, h, q⟩
theorem g_revl (h : te σ H fun x H1 => ∃ a xs, x = .ref a ∧ SqL K H1 a xs ∧ ∀ p, H1 p = none → Q (.ref p) (upd H1 p (.lst xs.reverse))) : tRevL K te σ H Q := h
/-! raising and catching -/
def tRaiseE (C : Addr) (fld : Str) (te : TE) (E : XK) : TS := fun _ σ H => tMkE C fld te σ H fun cls d H' => E cls d H'
theorem ps_raiseE {C fI : Addr} {par fld x : Str} {e : Expr} {E : XK} {p pos pos2 : Pos} (hc : X.calm = true) (tk : Takes X (fun cls d _ H => E cls d H)) (T : XS.ErrC X.prog X.K C fI par fld) (hr : Room 1 X.A) (hg : Gl X x) (hm : X.mg x = some (.ref C)) (ha : PE X e te) (hdb : (x == ("__debug__" : Str)) = false := by decide)
    (he : starEach [e] X.env = (false, eval e X.env) :: starEach [] X.env := by rfl) : PS X (.Raise (some (.Call (.Name x p) [e] [] pos)) none pos2) (tRaiseE C fld te E) := ps_raise hc tk (pmk_err T hr hg hm ha hdb he)
theorem g_raise {C : Addr} {fld : Str} {E : XK} (h : te σ H fun v H1 => ∀ d, H1 d = none → E (.ref C) (some d) (upd H1 d (.xd [(fld, v)]))) : tRaiseE C fld te E D σ H := h
def tTryH (tb : WX → TS) (m : Value → Option Bool) (i : Nat) (ts : TS) (Wout : WX) : TS := fun D σ H => tb (wHeld m i ts Wout D) D σ H
theorem ps_tryH {n : Str} {i : Nat} {body suite : List Stmt} {b₀ : Stmt} {tt : Expr} {m : Value → Option Bool} {pos pos' : Pos} {tb : WX → TS} {ts : TS} {Wout : WX} (hs : X.stack = X.env :: X.outer) (hf : X.env.frame = some X.env.locals) (hN : X.N.Nodup) (hi : X.N[i]? = some n) (hln : X.env.kindOf n = some .local) (ht : Tells X tt m) (tk : Takes X Wout)
    (hb : ∀ (W : WX) (pn : List (Addr × Obj)) (xe : Value → Shared → Prop), Takes (X.tr pn xe) W → PassesOwn (model X.prog X.w) X.A X.env xe → PSs (X.tr pn xe) body (tb W))
    (hsu : ∀ (a : Addr) (pn : List (Addr × Obj)), PSs (X.suite a pn) (b₀ :: suite) ts) :
    PS X (.Try body [.ExceptHandler (some tt) (some n) (b₀ :: suite) pos'] [] [] pos) (tTryH tb m i ts Wout) := ps_try_held hs hf hN hi hln ht tk hb hsu
theorem g_tryH {tb : WX → TS} {m : Value → Option Bool} {i : Nat} {ts : TS} {Wout : WX} (h : tb (wHeld m i ts Wout D) D σ H) : tTryH tb m i ts Wout D σ H := h
theorem g_kw0S {sp : Sp} {n : Nat} {ix : List Nat} {E : St → XK} {tr : TA} (h : tr σ H fun vs H1 => vs.length = n ∧ sp (picked V.non ix vs) H1 Q (E σ)) : tKw0S sp n ix E tr σ H Q := h
theorem g_we {W : WX} {cls : Value} {d : Option Addr} (h : W cls d σ H) : WE W σ cls d H := h
theorem g_heldY {m : Value → Option Bool} {i : Nat} {ts : TS} {Wout : WX} {cls : Value} {d : Option Addr} (hm : m cls = some true) (h : ∀ a, H a = none → ts { nx := fun σ' H' => D.nx (σ'.set i none) H', rt := D.rt, bk := fun σ' H' => D.bk (σ'.set i none) H', ct := fun σ' H' => D.ct (σ'.set i none) H' } (σ.set i (some (.ref a))) (upd H a (held a cls d))) : wHeld m i ts Wout D cls d σ H :=
  ⟨true, hm, fun _ => h, fun z => Bool.noConfusion z⟩
theorem g_held {n : Str} (h : te σ H fun x H1 => ∃ (a C dd : Addr) (fs : List (Str × V)) (v : V), x = .ref a ∧ H1 a = some (held a (.ref C) (some dd)) ∧ H1 dd = some (.xd fs) ∧ fs.lookup n = some v ∧ XfC K C ∧ PySem.W.findIn K (.ref C) n = some none ∧ Q v H1) : tHeld K n te σ H Q := h
theorem g_isH {a C dd D0 : Addr} {fs : List (Str × V)} {b : Bool} (h1 : H a = some (held a (.ref C) (some dd))) (h2 : H dd = some (.xd fs)) (T : ExcC K C) (e : PySem.W.kitOne K (.ref C) (.ref D0) = some b) (q : Q (.bl b) H) : rIsH K [.ref a, .ref D0] H Q := ⟨a, C, dd, fs, D0, b, rfl, h1, h2, T, e, q⟩
theorem g_irng3 {ta : TA} {R : It → Hp → Prop} (h : ta σ H fun vs H1 => ∃ (i j c : Int) (n : Nat), vs = [.int i, .int j, .int c] ∧ RgC i j c n ∧ R (Itc i c n) H1) : iRng3 ta σ H R := h
/-- a class of the text -/
theorem pe_gc {x : Str} {C : Addr} {pos : Pos} (hg : Gl X x) (hm : X.mg x = some (.ref C)) (hdb : (x == ("__debug__" : Str)) = false := by decide) : PE X (.Name x pos) (tC (.ref C)) := pe_glob (v := .ref C) hg hm rfl hdb
end
theorem cut1 (x : V) (r : List V) : cutV (x :: r) (some 1) none = r := by
  show ((x :: r).drop _).take _ = r
  have e1 : HT.sIx (x :: r).length 0 (some 1) = 1 := by
    show min (1 : Nat) (r.length + 1) = 1
    omega
  have e2 : HT.sIx (x :: r).length (x :: r).length none = (x :: r).length := by rfl
  rw [e1, e2]
  simp
end L2
namespace XO
open PySem PySem.W PySem.Calls PySem.HandSPX PySem.Builtin PySem.Builtin.ObjectAttr
/-- the first field of an error under any built-in family -/
theorem own_field {prog : Program} {w : World} {A : Around} {R : Result → Shared → Prop} {hp : Heap} {g : Array GenState} {d : Drawn} {t : Nat} {os : OsState} {B : String} {bmB : List Value} (SF : StoreFacts B bmB "object.__setattr__" "object") {K : Frag} {name : Str} {tk : Tok} {v : Value} {x C : Addr} {fv : Array Value} {nm q : Str} {bs bm sb : List Value} {N : Addr} {sn : List Str} {ab : Bool} {co : Option Bool}
    (X : K.In hp) (hx : hp.get? x = some { cls := .ref C, data := .fields fv }) (hcd : clsIn K C = some { name := nm, bases := bs, mro := .ref C :: bm, ns := N, qualname := q, hasDict := true, slotNames := sn, subclasses := sb, abstract := ab, collection := co, hasDel := false }) (hm : excTail bmB bm = true) (ha : findIn K (.ref C) name = some none)
    (hq : ∀ h' tk' dx, (∀ b o, b ≠ x → hp.get? b = some o → h'.get? b = some o) → hp.objs.size ≤ dx → dx ≠ x → h'.get? x = some { cls := .ref C, dict := some dx, data := .fields fv } → h'.Ns1 dx (fun y => if y = name then some v else none) → R (.ok (.ret .none)) ⟨h', g, d, tk', os⟩) :
    codeAny (model prog w) A (.call (.builtin "object.__setattr__") ⟨[.ref x, .str name tk, v], []⟩) R ⟨hp, g, d, t, os⟩ := by
  have J : InstAt hp x { cls := .ref C, data := .fields fv } C none := ⟨hx, rfl, rfl, trivial⟩
  have nx : x ≠ hp.objs.size := Nat.ne_of_lt (Heap.lt_size hx)
  have LC : Looks (model prog w) hp (classData C) _ := looks_clsIn X hcd
  refine osa_openX (r := none) SF X J (by unfold excOver; rw [hcd]; simp [hm]) (by unfold takerIn; rw [ha]; rfl) fun b => ?_
  show wpAny _ _ (storeInOwnDict (.ref x) (.ref C) (.str name tk) name v b) _ _ _
  unfold storeInOwnDict ownDictForStores
  repeat (first | with_reducible refine store_in_new ?_ ?_ | with_reducible refine wpAny_loadPart_at hx ?_ | with_reducible refine LC.at ?_ | wp_step)
  · refine ⟨_, #[], _, (Heap.get?_update_ne _ _ _ _ nx.symm).trans (Heap.get?_push_at rfl rfl), rfl, fun e he => ?_, fun _ => rfl⟩
    exact absurd he (by simp)
  · intro h2 tk2 ns2 same
    have old : (hp.push { cls := .type "dict", data := .dict #[] }).get? x = some { cls := .ref C, data := .fields fv } := Heap.get?_push_of_some _ hx
    refine hq h2 tk2 hp.objs.size (fun c o hc ho => ?_) (Nat.le_refl _) nx.symm ((same.2 x nx).trans (Heap.get?_update_self _ old rfl)) ns2
    refine (same.2 c (Nat.ne_of_lt (Heap.lt_size ho))).trans ?_
    exact (Heap.get?_update_ne _ _ _ _ hc).trans (Heap.get?_push_of_some _ ho)
end XO
namespace XR
open PySem PySem.W PySem.Calls
abbrev tailB : List Value := [.type "RuntimeError", .type "Exception", .type "BaseException", .type "object"]
/-- an own error class under ValueError whose __init__ calls the one above it with a written text, then keeps its one argument -/
structure ErrC (prog : Program) (K : Frag) (C fI : Addr) (par fld : Str) : Prop where
  cls : ∃ nm q N bs bm sn sub ab col dd k0 k1 k2 k3 k5, K.lookup C = some (excClassObj nm q C N bs bm true sn sub ab col dd k0 k1 k2 k3 k5 "RuntimeError.__new__") ∧ excTail tailB bm = true ∧ alongIn K "__init__" bm = some (some (.builtin "RuntimeError.__init__"))
  init : findIn K (.ref C) "__init__" = some (some (.ref fI))
  ityp : typeIn K (.ref fI) = some (.type "function")
  sa : findIn K (.ref C) "__setattr__" = some (some (.builtin "object.__setattr__"))
  nf : findIn K (.ref C) fld = some none
  exC : subIn K (.ref C) (.type "BaseException") = some true
  veC : subIn K (.ref C) (.type "RuntimeError") = some true
  meC : mroIn K C (.ref C) = some true
  tyC : typeIn K (.ref C) = some (.type "type")
  kC : keepIn K (.ref C) = true
  opq : nsIn K cStatics "thirdparty.any" = some none
  fn : ∃ (qual : Str) (params : Arguments) (body : List Stmt) (scope : Scope) (oc kV doc pm ct ccl cl : Value) (od an cdd cld : Option Addr) (osl ccs csl : Array (Option Value)) (cda cc : Addr) (vs : Array Value) (file : Str) (tf : Tok),
    K.lookup fI = some ⟨oc, od, .func (fnX "__init__" qual params body scope [("__class__", cc)] .none kV doc pm an (.ref cda) ct), osl⟩ ∧ codeIn K (.ref cda) qual = true ∧
    K.lookup cda = some ⟨ccl, cdd, .fields vs, ccs⟩ ∧ vs[2]? = some (.str file tf) ∧ ((prog.main.file : Str) == file) = true ∧ K.lookup cc = some ⟨cl, cld, .cell (some (.ref C)), csl⟩ ∧
    (∃ ar, (params.posonlyargs ++ params.args).head? = some ar ∧ ar.arg = ("self" : Str)) ∧
    (∃ (msg : Str) (j : Nat) (p0 p1 p2 p3 p4 p5 p6 p7 p8 p9 : Pos), body = [.Expr (.Call (.Attribute (.Call (.Name "super" p0) [] [] p1) "__init__" p2) [.Constant (.str msg) j p3] [] p4) p5, .Assign [.Attribute (.Name "self" p6) fld p7] (.Name par p8) p9] ∧
      (∃ pl : Env → Sem Bool, ∀ env : Env, eval (.Call (.Attribute (.Call (.Name "super" p0) [] [] p1) "__init__" p2) [.Constant (.str msg) j p3] [] p4) env = (do
        let ov ← attributeBase (.Call (.Name "super" p0) [] [] p1) "__init__" env (eval (.Call (.Name "super" p0) [] [] p1) env)
        standAt p2.atName
        let (f, first) ← holding [ov] (getMethod ov "__init__" (pl env))
        callWith p4 f first (backTo p4 (starEach [.Constant (.str msg) j p3] env)) [])) ∧
      (∀ env : Env, swapsWith (.Call (.Attribute (.Call (.Name "super" p0) [] [] p1) "__init__" p2) [.Constant (.str msg) j p3] [] p4) none p5.line env = pure false) ∧
      (∀ env : Env, swapsWith (.Name par p8) (some (.Attribute (.Name "self" p6) fld p7)) p9.line env = pure false) ∧ msg.length ≤ 1000) ∧
    (∀ (s : Shared) (x u : Value), BindsTo s (fnX "__init__" qual params body scope [("__class__", cc)] .none kV doc pm an (.ref cda) ct) ⟨[x, u], []⟩ [("self", x), (par, u)]) ∧
    scope.kind = .function ∧ scope.isCoroutine = false ∧ scope.isGenerator = false ∧ (∀ x ∈ scope.names, x.2 ≠ .cell) ∧
    scope.names.lookup ("super" : Str) = some .globalImplicit ∧ scope.names.lookup ("__class__" : Str) = some .free ∧ scope.names.lookup ("self" : Str) = some .local ∧ scope.names.lookup par = some .local
  sup : nsIn K mainGlobals "super" = some none
  top : (prog.main.scope.names.lookup ("super" : Str)).isSome = false
  psf : (par == ("self" : Str)) = false
  pdb : (par == ("__debug__" : Str)) = false
theorem drop_own (C : Addr) (l : List Value) : ((Value.ref C :: l).dropWhile (· != .ref C)).drop 1 = l := by simp [List.dropWhile_cons]
section
variable {prog : Program} {w : World} {A : Around} {K : Frag} {C fI a t0 : Addr} {par fld : Str} {u : Value} {mg mb : Str → Option Value} {R : Result → Shared → Prop}
/-- the bound __init__ of the class above, called -/
theorem call_mw {h : Heap} {g : Array GenState} {d : Drawn} {tk : Nat} {os : OsState} {uw : Addr} {rest : List Value} {nm q : Str} {N : Addr} {bs bm sub : List Value} {sn : List Str} {ab : Bool} {col : Option Bool} {dd : Option Addr} {k0 k1 k2 k3 k5 : Option Value} {Q : Value → Shared → Prop} {E : Value → Shared → Prop}
    (hu : h.get? uw = some (kxs_mw "RuntimeError.__init__" a)) (hC : h.get? C = some (excClassObj nm q C N bs bm true sn sub ab col dd k0 k1 k2 k3 k5 "RuntimeError.__new__")) (he : h.get? a = some (HandSPX.excO C t0)) (hz : rest.length ≤ sizeLine)
    (hq : ∀ h', (∀ b o, b ≠ a → h.get? b = some o → h'.get? b = some o) → h'.get? a = some (HandSPX.excO C h.objs.size) → Q .none ⟨h', g, d, tk, os⟩) :
    wpAny (model prog w) A (call (.ref uw) rest) Q E ⟨h, g, d, tk, os⟩ := by
  refine wpAny_call (codeAny_of_tree ?_)
  show wpAny _ A.in1 (callAny (.ref uw) ⟨rest, []⟩) _ _ _
  unfold callAny
  refine wpAny_bind (wpAny_load hu ?_)
  simp (decide := true) only [kxs_mw, if_true]
  refine wpAny_bind (check_bound_init F.excBase_RuntimeError.toExcCallFacts hC he rfl ?_)
  refine wpAny_bind (wpAny_pure (wpAny_pure ?_))
  refine ⟨plainId_quiet F.excBase_RuntimeError.init.plain _, codeAny_builtin F.excBase_RuntimeError.initEntry ?_⟩
  exact exc_init_tree (cls := .ref C) (t0 := t0) (dv := none) (c2 := .none) (c3 := .none) (b4 := .bool false) he hz fun h' k e1 _ => hq h' k e1
theorem err_code {s : Shared} (X : K.In s.heap) (hg : s.heap.Ns mainGlobals mg) (hb : s.heap.Ns builtinsNs mb) (hbb : ∀ x : Str, x ≠ "__name__" → mb x = bootBuiltins x) (hlim : s.heap.NoLimit) (T : ErrC prog K C fI par fld) (hroom : A.depth < recursionLimit)
    (ha : s.heap.get? a = some (HandSPX.excO C t0)) (hK : K.lookup a = none) (hL : K.lookup s.heap.objs.size = none)
    (h : ∀ h' tk t1 dx, (∀ b o, b ≠ a → s.heap.get? b = some o → h'.get? b = some o) → h'.get? a = some { cls := .ref C, dict := some dx, data := .fields #[.ref t1, .none, .none, .none, .bool false, .none] } → s.heap.objs.size ≤ dx → dx ≠ a →
      h'.Ns1 dx (fun y => if y = fld then some u else none) → R (.ok (.ret .none)) { s with heap := h', toks := tk }) :
    codeAny (model prog w) A (.call (.ref fI) ⟨[.ref a, u], []⟩) R s := by
  obtain ⟨nm, q, N, bs, bm, sn, sub, ab, col, dd, k0, k1, k2, k3, k5, lC, hbm, hal⟩ := T.cls
  obtain ⟨qual, params, body, scope, oc, kV, doc, pm, ct, ccl, cl, od, an, cdd, cld, osl, ccs, csl, cda, cc, vs, file, tf, lf, hcd, lcd, hvs, hfile, lcc, ⟨ar, har, hself⟩, ⟨msg, j, p0, p1, p2, p3, p4, p5, p6, p7, p8, p9, hbody, ⟨pl, hev⟩, hw1, hw2, hmsg⟩, hbind, hk, hco, hgen, hcell, hsu, hcl, hsl, hpl⟩ := T.fn
  have hloc : ∀ x ∈ [(("self" : Str), Value.ref a), (par, u)], scope.names.lookup x.1 = some .local := by
    intro x hx
    rcases List.mem_cons.mp hx with e | hx
    · rw [e]; exact hsl
    · rw [List.mem_singleton.mp hx]; exact hpl
  refine ks_codeAny_call_defAt (body := body) (binds := [("self", .ref a), (par, u)]) hroom (X _ _ lf) rfl hlim (codeRec_of X hcd) rfl (hbind s (.ref a) u) hcell hloc (fun h1 hns kk1 => ?_) hco hgen hk
  subst hbody
  have X1 : K.In h1 := X.keeps kk1
  have hg1 : h1.Ns mainGlobals mg := hg.keeps kk1
  have hb1 : h1.Ns builtinsNs mb := hb.keeps kk1
  have ha1 := kk1 _ _ ha
  have hC1 := X1 _ _ lC
  have eself : (fun x => [(("self" : Str), Value.ref a), (par, u)].reverse.lookup x) ar.arg = some (.ref a) := by
    rw [hself]
    show List.lookup ("self" : Str) [(par, u), ("self", Value.ref a)] = _
    rw [List.lookup_cons, show (("self" : Str) == par) = false from by rw [beq_eq_false_iff_ne]; exact fun z => (beq_eq_false_iff_ne.mp T.psf) z.symm, List.lookup_cons, beq_self_eq_true]
  have epar : (fun x => [(("self" : Str), Value.ref a), (par, u)].reverse.lookup x) par = some u := by
    show List.lookup par [(par, u), ("self", Value.ref a)] = _
    rw [List.lookup_cons, beq_self_eq_true]
  refine ks_wpAt_execs_cons (ks_wpAt_Expr_any ?_ (by show interactive _ = false; simp [interactive, callEnv, newEnv, hk]) (hw1 _))
  refine ks_wpAt_MethodCall ?_ (hev _)
  refine ks_wpAt_super_base hsu hcl (by decide) rfl (X1 _ _ lf) rfl har rfl (X1 _ _ lcd) rfl hvs hfile T.top ?_
  refine ks_loadName_global hk hsu (loadGlobal_builtin hg1 (mg_none_of X1 hg1 T.sup) hb1 ((hbb _ (by decide +kernel)).trans (by decide +kernel)) ⟨rfl, ?_⟩)
  refine wpAny_loadName_free hk hcl rfl ⟨_, X1 _ _ lcc, rfl⟩ ?_
  refine wpAny_loadName_local hk (by rw [hself]; exact hsl) hns eself ?_
  obtain ⟨hp0, g, d, tk0, os⟩ := s
  refine ks_wpAny_isType_cls hC1 rfl ⟨rfl, ?_⟩
  refine ks_wpAny_call_super (C := C) hC1 rfl ha1 rfl (fun c e => by cases e) (looks_mroIn X1 T.meC) (fun h2 e2 kk2 => ?_)
  have X2 : K.In h2 := X1.keeps kk2
  have hcl2 : clsIn K C = some { name := nm, bases := bs, mro := .ref C :: bm, ns := N, qualname := q, hasDict := true, slotNames := sn, subclasses := sub, abstract := ab, collection := col, hasDel := false } := by unfold clsIn; rw [lC]
  have I2 : InstAt h2 a (HandSPX.excO C t0) C none := ⟨kk2 _ _ ha1, rfl, rfl, trivial⟩
  refine kxs_getMethod kxs_RuntimeError e2 (looks_opaque X2 T.opq) (l₀ := .ref C :: bm) (fun A Q E s k q => wpAny_bind ((looks_clsIn X2 hcl2) A _ E s k (wpAny_pure q))) (drop_own C bm) X2 hal (I2.type.andThen (looks_subIn X2 T.veC)) (ks_ne X2 I2 hcl2) (by decide) ?_
  have kk3 : ∀ b o, h2.get? b = some o → (h2.push (kxs_mw "RuntimeError.__init__" a)).get? b = some o := fun b o e => Heap.get?_push_of_some _ e
  have hu3 : (h2.push (kxs_mw "RuntimeError.__init__" a)).get? h2.objs.size = some (kxs_mw "RuntimeError.__init__" a) := Heap.get?_push_at rfl rfl
  refine kxs_callWith (i := "RuntimeError.__init__") (x := a) (by rfl) (evalArgs_plain (spliced_cons (Constant_str (pos := p3) (k := j) (spliced_nil ⟨hu3, ?_⟩))))
  refine call_mw hu3 (kk3 _ _ (X2 _ _ lC)) (kk3 _ _ (kk2 _ _ ha1)) (by show 1 ≤ sizeLine; decide) fun h4 kk4 e4 => ?_
  -- self.fld = par
  have kk14 : ∀ b o, b ≠ a → h1.get? b = some o → h4.get? b = some o := fun b o n e => kk4 b o n (kk3 _ _ (kk2 _ _ e))
  have X4 : K.In h4 := fun b o e => kk14 b o (fun z => by rw [z, hK] at e; cases e) (X1 b o e)
  have hns4 : h4.Ns hp0.objs.size (fun x => [(("self" : Str), Value.ref a), (par, u)].reverse.lookup x) := by
    obtain ⟨o, es, ep, e, dd2, r⟩ := hns
    have na : hp0.objs.size ≠ a := fun z => absurd (Heap.lt_size ha) (by rw [← z]; exact Nat.lt_irrefl _)
    exact ⟨o, es, ep, kk14 _ _ na e, dd2, r⟩
  refine ks_wpAt_execs_cons (wpAt_of_wpAny (plainObj_wpAny_Assign_Attribute (ESX.ldL hns4 epar (ESX.ldL hns4 (by show List.lookup ("self" : Str) [(par, u), ("self", Value.ref a)] = some (.ref a); rw [List.lookup_cons, show (("self" : Str) == par) = false from by rw [beq_eq_false_iff_ne]; exact fun z => (beq_eq_false_iff_ne.mp T.psf) z.symm, List.lookup_cons, beq_self_eq_true]) ?_ hk hsl (by decide)) hk hpl T.pdb) (hw2 _)))
  have hcl4 : clsIn K C = some { name := nm, bases := bs, mro := .ref C :: bm, ns := N, qualname := q, hasDict := true, slotNames := sn, subclasses := sub, abstract := ab, collection := col, hasDel := false } := hcl2
  refine set_plain X4 (ox := _) (od := none) ⟨e4, rfl, rfl, trivial⟩ T.sa ?_
  refine XO.own_field PySem.F.store_RuntimeError X4 e4 hcl4 hbm T.nf (fun h5 tk5 dx kk5 hdx hda e5 ns5 => ?_)
  refine wpAt_of_wpAny (wpAny_pure ?_)
  have hlt : hp0.objs.size < h4.objs.size := by
    obtain ⟨o, es, ep, e, _⟩ := hns4
    exact Heap.lt_size e
  exact h h5 tk5 _ dx (fun b o n e => kk5 b o n (kk14 b o n (kk1 b o e))) e5 (Nat.le_of_lt (Nat.lt_of_lt_of_le hlt hdx)) hda ns5
end
end XR
namespace L2
open PySem PySem.Spec PyProof.Rows
section
variable {X : Cx} {C fI : Addr} {par fld x : Str} {p pos : Pos} {e : Expr} {te : TE}
theorem pmk_errR (T : XR.ErrC X.prog X.K C fI par fld) (hr : Room 1 X.A) (hg : Gl X x) (hm : X.mg x = some (.ref C)) (ha : PE X e te) (hdb : (x == ("__debug__" : Str)) = false := by decide)
    (he : starEach [e] X.env = (false, eval e X.env) :: starEach [] X.env := by rfl) : PMk X (.Call (.Name x p) [e] [] pos) (tMkE C fld te) := by
  intro pins s σ H Q I h
  obtain ⟨nm, q, N, bs, bm, sn, sub, ab, col, dd, k0, k1, k2, k3, k5, hC, hbm, _⟩ := T.cls
  refine wpAny_Call_Name_kw (ld_glob I hg hm ?_ hdb)
  refine PySem.W.callWith_K (h₀ := X.base) I.ok.mod.kin T.kC ?_ he (by rfl)
  rw [he]
  show wpAny _ _ (spliced ((false, eval e X.env) :: backTo pos (starEach [] X.env))) _ _ s
  refine Calls.spliced_cons (thn (ha.run pins s σ H _ I h) fun u s1 ⟨v, H1, I1, r1, q1⟩ => Calls.spliced_nil ⟨I1.kIn, ?_⟩)
  show wpAny _ _ (call (.ref C) [u]) _ _ _
  obtain ⟨hp, g, dr, tk, os⟩ := s1
  have kk : ∀ b o, hp.get? b = some o → ((hp.push (PySem.W.kdv_tup [u])).push (PySem.HandSPX.excO C hp.objs.size)).get? b = some o := fun b o z => Heap.get?_push_of_some _ (Heap.get?_push_of_some _ z)
  have hget : ((hp.push (PySem.W.kdv_tup [u])).push (PySem.HandSPX.excO C hp.objs.size)).get? (hp.objs.size + 1) = some (PySem.HandSPX.excO C hp.objs.size) := by heap_get
  have hK : ∀ b, hp.objs.size ≤ b → X.K.lookup b = none := fun b hb => by
    cases z : X.K.lookup b with
    | none => rfl
    | some o => exact absurd (Heap.lt_size (I1.kIn b o z)) (Nat.not_lt.mpr hb)
  have hsz2 : ((hp.push (PySem.W.kdv_tup [u])).push (PySem.HandSPX.excO C hp.objs.size)).objs.size = hp.objs.size + 2 := by
    simp [Heap.push]
  obtain ⟨mb, hb1, hb2⟩ := I1.mod.blt
  have kb : ∀ b o, X.base.get? b = some o → ((hp.push (PySem.W.kdv_tup [u])).push (PySem.HandSPX.excO C hp.objs.size)).get? b = some o := fun b o z => kk b o (I1.bk b o z)
  refine wpAny_call (PySem.HandSPX.call_own F.excBase_RuntimeError (fun Y => PySem.W.excTail_contains Y bm hbm) (I1.kIn _ _ hC) (PySem.W.looks_findIn I1.kIn T.init) (fun self => PySem.W.bind_fn I1.kIn self T.ityp) (by show 1 ≤ sizeLine; decide) ?_)
  refine XR.err_code (mg := X.mg) (mb := mb) (I1.ok.mod.kin.keeps kb) (I1.mod.glob.keeps kb) (hb1.keeps kb) hb2 (I1.mod.nolimit.keeps kb) T (hr.make C [u] []).depth hget (hK _ (Nat.le_succ _)) (hK _ (by rw [hsz2]; exact Nat.le_add_right _ 2)) fun h5 tk5 t1 dx k5 e5 hdx hda n5 => ?_
  rw [hsz2] at hdx
  obtain ⟨G, g1, g2⟩ := restrict h5 fun b => decide (b ≠ hp.objs.size + 1)
  have gk : ∀ b, b ≠ hp.objs.size + 1 → G.get? b = h5.get? b := fun b hb => g1 b (decide_eq_true hb)
  have ge : G.get? (hp.objs.size + 1) = none := g2 _ (by simp)
  have kG : ∀ b o, hp.get? b = some o → G.get? b = some o := fun b o z => by
    have nb : b ≠ hp.objs.size + 1 := Nat.ne_of_lt (Nat.lt_succ_of_lt (Heap.lt_size z))
    rw [gk b nb]
    exact k5 b o nb (kk b o z)
  have J := I1.laid (t' := tk5) (a := dx) (o := .xd [(fld, v)]) (h' := G) kG (Nat.le_trans (Nat.le_add_right _ 2) hdx) ⟨_, n5.at fun o y => (gk dx hda).trans y, fun f => by
    show RelO (List.lookup f [(fld, v)]) _
    rw [lookup_put]
    by_cases hf : f = fld
    · rw [if_pos hf, if_pos hf]
      exact r1
    · rw [if_neg hf, if_neg hf]
      exact True.intro⟩
  have na : H1 (hp.objs.size + 1) = none := I1.hok.fresh (Nat.le_succ _)
  have nd : H1 dx = none := I1.hok.fresh (Nat.le_trans (Nat.le_add_right _ 2) hdx)
  refine ⟨rfl, hp.objs.size + 1, _, _, ⟨G, g, dr, tk5, os⟩, _, .ref C, some dx, rfl, J, fun b o z => ?_, ge, e5, ⟨rfl, rfl⟩, rfl, rfl, ?_, rfl, I1.bare, raises_own T.exC T.tyC, q1 dx nd⟩
  · by_cases hb : b = hp.objs.size + 1
    · rw [hb, ge] at z
      cases z
    · exact (gk b hb).symm.trans z
  · rw [upd_ne (Ne.symm hda)]
    exact na
end
end L2
namespace L2
open PySem
section
variable {X : Cx} {te : TE}
theorem ps_raiseER {C fI : Addr} {par fld x : Str} {e : Expr} {E : XK} {p pos pos2 : Pos} (hc : X.calm = true) (tk : Takes X (fun cls d _ H => E cls d H)) (T : XR.ErrC X.prog X.K C fI par fld) (hr : Room 1 X.A) (hg : Gl X x) (hm : X.mg x = some (.ref C)) (ha : PE X e te) (hdb : (x == ("__debug__" : Str)) = false := by decide)
    (he : starEach [e] X.env = (false, eval e X.env) :: starEach [] X.env := by rfl) : PS X (.Raise (some (.Call (.Name x p) [e] [] pos)) none pos2) (tRaiseE C fld te E) := ps_raise hc tk (pmk_errR T hr hg hm ha hdb he)
end
end L2
namespace XL
open PySem PySem.W PySem.Calls
abbrev tailB : List Value := [.type "LookupError", .type "Exception", .type "BaseException", .type "object"]
/-- an own error class under ValueError whose __init__ calls the one above it with a written text, then keeps its one argument -/
structure ErrC (prog : Program) (K : Frag) (C fI : Addr) (par fld : Str) : Prop where
  cls : ∃ nm q N bs bm sn sub ab col dd k0 k1 k2 k3 k5, K.lookup C = some (excClassObj nm q C N bs bm true sn sub ab col dd k0 k1 k2 k3 k5 "LookupError.__new__") ∧ excTail tailB bm = true ∧ alongIn K "__init__" bm = some (some (.builtin "LookupError.__init__"))
  init : findIn K (.ref C) "__init__" = some (some (.ref fI))
  ityp : typeIn K (.ref fI) = some (.type "function")
  sa : findIn K (.ref C) "__setattr__" = some (some (.builtin "object.__setattr__"))
  nf : findIn K (.ref C) fld = some none
  exC : subIn K (.ref C) (.type "BaseException") = some true
  veC : subIn K (.ref C) (.type "LookupError") = some true
  meC : mroIn K C (.ref C) = some true
  tyC : typeIn K (.ref C) = some (.type "type")
  kC : keepIn K (.ref C) = true
  opq : nsIn K cStatics "thirdparty.any" = some none
  fn : ∃ (qual : Str) (params : Arguments) (body : List Stmt) (scope : Scope) (oc kV doc pm ct ccl cl : Value) (od an cdd cld : Option Addr) (osl ccs csl : Array (Option Value)) (cda cc : Addr) (vs : Array Value) (file : Str) (tf : Tok),
    K.lookup fI = some ⟨oc, od, .func (fnX "__init__" qual params body scope [("__class__", cc)] .none kV doc pm an (.ref cda) ct), osl⟩ ∧ codeIn K (.ref cda) qual = true ∧
    K.lookup cda = some ⟨ccl, cdd, .fields vs, ccs⟩ ∧ vs[2]? = some (.str file tf) ∧ ((prog.main.file : Str) == file) = true ∧ K.lookup cc = some ⟨cl, cld, .cell (some (.ref C)), csl⟩ ∧
    (∃ ar, (params.posonlyargs ++ params.args).head? = some ar ∧ ar.arg = ("self" : Str)) ∧
    (∃ (msg : Str) (j : Nat) (p0 p1 p2 p3 p4 p5 p6 p7 p8 p9 : Pos), body = [.Expr (.Call (.Attribute (.Call (.Name "super" p0) [] [] p1) "__init__" p2) [.Constant (.str msg) j p3] [] p4) p5, .Assign [.Attribute (.Name "self" p6) fld p7] (.Name par p8) p9] ∧
      (∃ pl : Env → Sem Bool, ∀ env : Env, eval (.Call (.Attribute (.Call (.Name "super" p0) [] [] p1) "__init__" p2) [.Constant (.str msg) j p3] [] p4) env = (do
        let ov ← attributeBase (.Call (.Name "super" p0) [] [] p1) "__init__" env (eval (.Call (.Name "super" p0) [] [] p1) env)
        standAt p2.atName
        let (f, first) ← holding [ov] (getMethod ov "__init__" (pl env))
        callWith p4 f first (backTo p4 (starEach [.Constant (.str msg) j p3] env)) [])) ∧
      (∀ env : Env, swapsWith (.Call (.Attribute (.Call (.Name "super" p0) [] [] p1) "__init__" p2) [.Constant (.str msg) j p3] [] p4) none p5.line env = pure false) ∧
      (∀ env : Env, swapsWith (.Name par p8) (some (.Attribute (.Name "self" p6) fld p7)) p9.line env = pure false) ∧ msg.length ≤ 1000) ∧
    (∀ (s : Shared) (x u : Value), BindsTo s (fnX "__init__" qual params body scope [("__class__", cc)] .none kV doc pm an (.ref cda) ct) ⟨[x, u], []⟩ [("self", x), (par, u)]) ∧
    scope.kind = .function ∧ scope.isCoroutine = false ∧ scope.isGenerator = false ∧ (∀ x ∈ scope.names, x.2 ≠ .cell) ∧
    scope.names.lookup ("super" : Str) = some .globalImplicit ∧ scope.names.lookup ("__class__" : Str) = some .free ∧ scope.names.lookup ("self" : Str) = some .local ∧ scope.names.lookup par = some .local
  sup : nsIn K mainGlobals "super" = some none
  top : (prog.main.scope.names.lookup ("super" : Str)).isSome = false
  psf : (par == ("self" : Str)) = false
  pdb : (par == ("__debug__" : Str)) = false
theorem drop_own (C : Addr) (l : List Value) : ((Value.ref C :: l).dropWhile (· != .ref C)).drop 1 = l := by simp [List.dropWhile_cons]
section
variable {prog : Program} {w : World} {A : Around} {K : Frag} {C fI a t0 : Addr} {par fld : Str} {u : Value} {mg mb : Str → Option Value} {R : Result → Shared → Prop}
/-- the bound __init__ of the class above, called -/
theorem call_mw {h : Heap} {g : Array GenState} {d : Drawn} {tk : Nat} {os : OsState} {uw : Addr} {rest : List Value} {nm q : Str} {N : Addr} {bs bm sub : List Value} {sn : List Str} {ab : Bool} {col : Option Bool} {dd : Option Addr} {k0 k1 k2 k3 k5 : Option Value} {Q : Value → Shared → Prop} {E : Value → Shared → Prop}
    (hu : h.get? uw = some (kxs_mw "LookupError.__init__" a)) (hC : h.get? C = some (excClassObj nm q C N bs bm true sn sub ab col dd k0 k1 k2 k3 k5 "LookupError.__new__")) (he : h.get? a = some (HandSPX.excO C t0)) (hz : rest.length ≤ sizeLine)
    (hq : ∀ h', (∀ b o, b ≠ a → h.get? b = some o → h'.get? b = some o) → h'.get? a = some (HandSPX.excO C h.objs.size) → Q .none ⟨h', g, d, tk, os⟩) :
    wpAny (model prog w) A (call (.ref uw) rest) Q E ⟨h, g, d, tk, os⟩ := by
  refine wpAny_call (codeAny_of_tree ?_)
  show wpAny _ A.in1 (callAny (.ref uw) ⟨rest, []⟩) _ _ _
  unfold callAny
  refine wpAny_bind (wpAny_load hu ?_)
  simp (decide := true) only [kxs_mw, if_true]
  refine wpAny_bind (check_bound_init F.excBase_LookupError.toExcCallFacts hC he rfl ?_)
  refine wpAny_bind (wpAny_pure (wpAny_pure ?_))
  refine ⟨plainId_quiet F.excBase_LookupError.init.plain _, codeAny_builtin F.excBase_LookupError.initEntry ?_⟩
  exact exc_init_tree (cls := .ref C) (t0 := t0) (dv := none) (c2 := .none) (c3 := .none) (b4 := .bool false) he hz fun h' k e1 _ => hq h' k e1
theorem err_code {s : Shared} (X : K.In s.heap) (hg : s.heap.Ns mainGlobals mg) (hb : s.heap.Ns builtinsNs mb) (hbb : ∀ x : Str, x ≠ "__name__" → mb x = bootBuiltins x) (hlim : s.heap.NoLimit) (T : ErrC prog K C fI par fld) (hroom : A.depth < recursionLimit)
    (ha : s.heap.get? a = some (HandSPX.excO C t0)) (hK : K.lookup a = none) (hL : K.lookup s.heap.objs.size = none)
    (h : ∀ h' tk t1 dx, (∀ b o, b ≠ a → s.heap.get? b = some o → h'.get? b = some o) → h'.get? a = some { cls := .ref C, dict := some dx, data := .fields #[.ref t1, .none, .none, .none, .bool false, .none] } → s.heap.objs.size ≤ dx → dx ≠ a →
      h'.Ns1 dx (fun y => if y = fld then some u else none) → R (.ok (.ret .none)) { s with heap := h', toks := tk }) :
    codeAny (model prog w) A (.call (.ref fI) ⟨[.ref a, u], []⟩) R s := by
  obtain ⟨nm, q, N, bs, bm, sn, sub, ab, col, dd, k0, k1, k2, k3, k5, lC, hbm, hal⟩ := T.cls
  obtain ⟨qual, params, body, scope, oc, kV, doc, pm, ct, ccl, cl, od, an, cdd, cld, osl, ccs, csl, cda, cc, vs, file, tf, lf, hcd, lcd, hvs, hfile, lcc, ⟨ar, har, hself⟩, ⟨msg, j, p0, p1, p2, p3, p4, p5, p6, p7, p8, p9, hbody, ⟨pl, hev⟩, hw1, hw2, hmsg⟩, hbind, hk, hco, hgen, hcell, hsu, hcl, hsl, hpl⟩ := T.fn
  have hloc : ∀ x ∈ [(("self" : Str), Value.ref a), (par, u)], scope.names.lookup x.1 = some .local := by
    intro x hx
    rcases List.mem_cons.mp hx with e | hx
    · rw [e]; exact hsl
    · rw [List.mem_singleton.mp hx]; exact hpl
  refine ks_codeAny_call_defAt (body := body) (binds := [("self", .ref a), (par, u)]) hroom (X _ _ lf) rfl hlim (codeRec_of X hcd) rfl (hbind s (.ref a) u) hcell hloc (fun h1 hns kk1 => ?_) hco hgen hk
  subst hbody
  have X1 : K.In h1 := X.keeps kk1
  have hg1 : h1.Ns mainGlobals mg := hg.keeps kk1
  have hb1 : h1.Ns builtinsNs mb := hb.keeps kk1
  have ha1 := kk1 _ _ ha
  have hC1 := X1 _ _ lC
  have eself : (fun x => [(("self" : Str), Value.ref a), (par, u)].reverse.lookup x) ar.arg = some (.ref a) := by
    rw [hself]
    show List.lookup ("self" : Str) [(par, u), ("self", Value.ref a)] = _
    rw [List.lookup_cons, show (("self" : Str) == par) = false from by rw [beq_eq_false_iff_ne]; exact fun z => (beq_eq_false_iff_ne.mp T.psf) z.symm, List.lookup_cons, beq_self_eq_true]
  have epar : (fun x => [(("self" : Str), Value.ref a), (par, u)].reverse.lookup x) par = some u := by
    show List.lookup par [(par, u), ("self", Value.ref a)] = _
    rw [List.lookup_cons, beq_self_eq_true]
  refine ks_wpAt_execs_cons (ks_wpAt_Expr_any ?_ (by show interactive _ = false; simp [interactive, callEnv, newEnv, hk]) (hw1 _))
  refine ks_wpAt_MethodCall ?_ (hev _)
  refine ks_wpAt_super_base hsu hcl (by decide) rfl (X1 _ _ lf) rfl har rfl (X1 _ _ lcd) rfl hvs hfile T.top ?_
  refine ks_loadName_global hk hsu (loadGlobal_builtin hg1 (mg_none_of X1 hg1 T.sup) hb1 ((hbb _ (by decide +kernel)).trans (by decide +kernel)) ⟨rfl, ?_⟩)
  refine wpAny_loadName_free hk hcl rfl ⟨_, X1 _ _ lcc, rfl⟩ ?_
  refine wpAny_loadName_local hk (by rw [hself]; exact hsl) hns eself ?_
  obtain ⟨hp0, g, d, tk0, os⟩ := s
  refine ks_wpAny_isType_cls hC1 rfl ⟨rfl, ?_⟩
  refine ks_wpAny_call_super (C := C) hC1 rfl ha1 rfl (fun c e => by cases e) (looks_mroIn X1 T.meC) (fun h2 e2 kk2 => ?_)
  have X2 : K.In h2 := X1.keeps kk2
  have hcl2 : clsIn K C = some { name := nm, bases := bs, mro := .ref C :: bm, ns := N, qualname := q, hasDict := true, slotNames := sn, subclasses := sub, abstract := ab, collection := col, hasDel := false } := by unfold clsIn; rw [lC]
  have I2 : InstAt h2 a (HandSPX.excO C t0) C none := ⟨kk2 _ _ ha1, rfl, rfl, trivial⟩
  refine kxs_getMethod kxs_LookupError e2 (looks_opaque X2 T.opq) (l₀ := .ref C :: bm) (fun A Q E s k q => wpAny_bind ((looks_clsIn X2 hcl2) A _ E s k (wpAny_pure q))) (drop_own C bm) X2 hal (I2.type.andThen (looks_subIn X2 T.veC)) (ks_ne X2 I2 hcl2) (by decide) ?_
  have kk3 : ∀ b o, h2.get? b = some o → (h2.push (kxs_mw "LookupError.__init__" a)).get? b = some o := fun b o e => Heap.get?_push_of_some _ e
  have hu3 : (h2.push (kxs_mw "LookupError.__init__" a)).get? h2.objs.size = some (kxs_mw "LookupError.__init__" a) := Heap.get?_push_at rfl rfl
  refine kxs_callWith (i := "LookupError.__init__") (x := a) (by rfl) (evalArgs_plain (spliced_cons (Constant_str (pos := p3) (k := j) (spliced_nil ⟨hu3, ?_⟩))))
  refine call_mw hu3 (kk3 _ _ (X2 _ _ lC)) (kk3 _ _ (kk2 _ _ ha1)) (by show 1 ≤ sizeLine; decide) fun h4 kk4 e4 => ?_
  -- self.fld = par
  have kk14 : ∀ b o, b ≠ a → h1.get? b = some o → h4.get? b = some o := fun b o n e => kk4 b o n (kk3 _ _ (kk2 _ _ e))
  have X4 : K.In h4 := fun b o e => kk14 b o (fun z => by rw [z, hK] at e; cases e) (X1 b o e)
  have hns4 : h4.Ns hp0.objs.size (fun x => [(("self" : Str), Value.ref a), (par, u)].reverse.lookup x) := by
    obtain ⟨o, es, ep, e, dd2, r⟩ := hns
    have na : hp0.objs.size ≠ a := fun z => absurd (Heap.lt_size ha) (by rw [← z]; exact Nat.lt_irrefl _)
    exact ⟨o, es, ep, kk14 _ _ na e, dd2, r⟩
  refine ks_wpAt_execs_cons (wpAt_of_wpAny (plainObj_wpAny_Assign_Attribute (ESX.ldL hns4 epar (ESX.ldL hns4 (by show List.lookup ("self" : Str) [(par, u), ("self", Value.ref a)] = some (.ref a); rw [List.lookup_cons, show (("self" : Str) == par) = false from by rw [beq_eq_false_iff_ne]; exact fun z => (beq_eq_false_iff_ne.mp T.psf) z.symm, List.lookup_cons, beq_self_eq_true]) ?_ hk hsl (by decide)) hk hpl T.pdb) (hw2 _)))
  have hcl4 : clsIn K C = some { name := nm, bases := bs, mro := .ref C :: bm, ns := N, qualname := q, hasDict := true, slotNames := sn, subclasses := sub, abstract := ab, collection := col, hasDel := false } := hcl2
  refine set_plain X4 (ox := _) (od := none) ⟨e4, rfl, rfl, trivial⟩ T.sa ?_
  refine XO.own_field PySem.F.store_LookupError X4 e4 hcl4 hbm T.nf (fun h5 tk5 dx kk5 hdx hda e5 ns5 => ?_)
  refine wpAt_of_wpAny (wpAny_pure ?_)
  have hlt : hp0.objs.size < h4.objs.size := by
    obtain ⟨o, es, ep, e, _⟩ := hns4
    exact Heap.lt_size e
  exact h h5 tk5 _ dx (fun b o n e => kk5 b o n (kk14 b o n (kk1 b o e))) e5 (Nat.le_of_lt (Nat.lt_of_lt_of_le hlt hdx)) hda ns5
end
end XL
namespace L2
open PySem PySem.Spec PyProof.Rows
section
variable {X : Cx} {C fI : Addr} {par fld x : Str} {p pos : Pos} {e : Expr} {te : TE}
theorem pmk_errL (T : XL.ErrC X.prog X.K C fI par fld) (hr : Room 1 X.A) (hg : Gl X x) (hm : X.mg x = some (.ref C)) (ha : PE X e te) (hdb : (x == ("__debug__" : Str)) = false := by decide)
    (he : starEach [e] X.env = (false, eval e X.env) :: starEach [] X.env := by rfl) : PMk X (.Call (.Name x p) [e] [] pos) (tMkE C fld te) := by
  intro pins s σ H Q I h
  obtain ⟨nm, q, N, bs, bm, sn, sub, ab, col, dd, k0, k1, k2, k3, k5, hC, hbm, _⟩ := T.cls
  refine wpAny_Call_Name_kw (ld_glob I hg hm ?_ hdb)
  refine PySem.W.callWith_K (h₀ := X.base) I.ok.mod.kin T.kC ?_ he (by rfl)
  rw [he]
  show wpAny _ _ (spliced ((false, eval e X.env) :: backTo pos (starEach [] X.env))) _ _ s
  refine Calls.spliced_cons (thn (ha.run pins s σ H _ I h) fun u s1 ⟨v, H1, I1, r1, q1⟩ => Calls.spliced_nil ⟨I1.kIn, ?_⟩)
  show wpAny _ _ (call (.ref C) [u]) _ _ _
  obtain ⟨hp, g, dr, tk, os⟩ := s1
  have kk : ∀ b o, hp.get? b = some o → ((hp.push (PySem.W.kdv_tup [u])).push (PySem.HandSPX.excO C hp.objs.size)).get? b = some o := fun b o z => Heap.get?_push_of_some _ (Heap.get?_push_of_some _ z)
  have hget : ((hp.push (PySem.W.kdv_tup [u])).push (PySem.HandSPX.excO C hp.objs.size)).get? (hp.objs.size + 1) = some (PySem.HandSPX.excO C hp.objs.size) := by heap_get
  have hK : ∀ b, hp.objs.size ≤ b → X.K.lookup b = none := fun b hb => by
    cases z : X.K.lookup b with
    | none => rfl
    | some o => exact absurd (Heap.lt_size (I1.kIn b o z)) (Nat.not_lt.mpr hb)
  have hsz2 : ((hp.push (PySem.W.kdv_tup [u])).push (PySem.HandSPX.excO C hp.objs.size)).objs.size = hp.objs.size + 2 := by
    simp [Heap.push]
  obtain ⟨mb, hb1, hb2⟩ := I1.mod.blt
  have kb : ∀ b o, X.base.get? b = some o → ((hp.push (PySem.W.kdv_tup [u])).push (PySem.HandSPX.excO C hp.objs.size)).get? b = some o := fun b o z => kk b o (I1.bk b o z)
  refine wpAny_call (PySem.HandSPX.call_own F.excBase_LookupError (fun Y => PySem.W.excTail_contains Y bm hbm) (I1.kIn _ _ hC) (PySem.W.looks_findIn I1.kIn T.init) (fun self => PySem.W.bind_fn I1.kIn self T.ityp) (by show 1 ≤ sizeLine; decide) ?_)
  refine XL.err_code (mg := X.mg) (mb := mb) (I1.ok.mod.kin.keeps kb) (I1.mod.glob.keeps kb) (hb1.keeps kb) hb2 (I1.mod.nolimit.keeps kb) T (hr.make C [u] []).depth hget (hK _ (Nat.le_succ _)) (hK _ (by rw [hsz2]; exact Nat.le_add_right _ 2)) fun h5 tk5 t1 dx k5 e5 hdx hda n5 => ?_
  rw [hsz2] at hdx
  obtain ⟨G, g1, g2⟩ := restrict h5 fun b => decide (b ≠ hp.objs.size + 1)
  have gk : ∀ b, b ≠ hp.objs.size + 1 → G.get? b = h5.get? b := fun b hb => g1 b (decide_eq_true hb)
  have ge : G.get? (hp.objs.size + 1) = none := g2 _ (by simp)
  have kG : ∀ b o, hp.get? b = some o → G.get? b = some o := fun b o z => by
    have nb : b ≠ hp.objs.size + 1 := Nat.ne_of_lt (Nat.lt_succ_of_lt (Heap.lt_size z))
    rw [gk b nb]
    exact k5 b o nb (kk b o z)
  have J := I1.laid (t' := tk5) (a := dx) (o := .xd [(fld, v)]) (h' := G) kG (Nat.le_trans (Nat.le_add_right _ 2) hdx) ⟨_, n5.at fun o y => (gk dx hda).trans y, fun f => by
    show RelO (List.lookup f [(fld, v)]) _
    rw [lookup_put]
    by_cases hf : f = fld
    · rw [if_pos hf, if_pos hf]
      exact r1
    · rw [if_neg hf, if_neg hf]
      exact True.intro⟩
  have na : H1 (hp.objs.size + 1) = none := I1.hok.fresh (Nat.le_succ _)
  have nd : H1 dx = none := I1.hok.fresh (Nat.le_trans (Nat.le_add_right _ 2) hdx)
  refine ⟨rfl, hp.objs.size + 1, _, _, ⟨G, g, dr, tk5, os⟩, _, .ref C, some dx, rfl, J, fun b o z => ?_, ge, e5, ⟨rfl, rfl⟩, rfl, rfl, ?_, rfl, I1.bare, raises_own T.exC T.tyC, q1 dx nd⟩
  · by_cases hb : b = hp.objs.size + 1
    · rw [hb, ge] at z
      cases z
    · exact (gk b hb).symm.trans z
  · rw [upd_ne (Ne.symm hda)]
    exact na
end
end L2
namespace L2
open PySem
section
variable {X : Cx} {te : TE}
theorem ps_raiseEL {C fI : Addr} {par fld x : Str} {e : Expr} {E : XK} {p pos pos2 : Pos} (hc : X.calm = true) (tk : Takes X (fun cls d _ H => E cls d H)) (T : XL.ErrC X.prog X.K C fI par fld) (hr : Room 1 X.A) (hg : Gl X x) (hm : X.mg x = some (.ref C)) (ha : PE X e te) (hdb : (x == ("__debug__" : Str)) = false := by decide)
    (he : starEach [e] X.env = (false, eval e X.env) :: starEach [] X.env := by rfl) : PS X (.Raise (some (.Call (.Name x p) [e] [] pos)) none pos2) (tRaiseE C fld te E) := ps_raise hc tk (pmk_errL T hr hg hm ha hdb he)
end
end L2
namespace L2
open PySem PySem.Spec PyProof.Rows PySem.Builtin PySem.Builtin.Float
/-! ### two digits to the base 16 in an f-string -/
def hexSpec : Str := "02X"
def hexF : FormatSpec := match parseFormatSpec hexSpec.cps.toList "int" 62 with | .ok f => f | .error _ => { align := 62 }
theorem hexF_ok : parseFormatSpec hexSpec.cps.toList "int" 62 = .ok hexF := by kernel_rfl
def hexText (a : Int) : Str := intField' hexF (decide (a < 0)) [] ((Nat.toDigits 16 a.natAbs).map fun c => c.toUpper.toNat) [] 4
def hexD (n : Nat) : Nat := if n < 10 then 48 + n else 55 + n
theorem hexText_all : ∀ n : Nat, n < 256 → (hexText (n : Int)).cps.toList = [hexD (n / 16), hexD (n % 16)] := by decide +kernel
theorem gives_hex {n : Nat} {t u : Tok} (hn : n < 256) : Gives (Builtin.«int.__format__» ⟨[.int (n : Int) t, .str hexSpec u], []⟩) (.str (hexText (n : Int))) := by
  intro prog w A R s hq
  have e1 : (hexSpec.length == 0) = false := by decide +kernel
  have e2 : ((hexSpec.cps.toList.drop 1).any (· ≥ 128) || (hexSpec.cps.getD 0 0 ≥ 128 && !([60, 62, 61, 94] : List Nat).contains (hexSpec.cps.getD 1 0))) = false := by decide +kernel
  have e3 : hexF.type.getD (if hexSpec.cps.back? == some 0 then 0 else 100) = 88 := by decide +kernel
  have e4 : hexF.precision.isSome = false := by decide +kernel
  have e5 : hexF.noNeg0 = false := by decide +kernel
  have e6 : ¬ (hexF.width.getD 0 > 100000) := by decide +kernel
  have e7 : hexF.alt = false := by decide +kernel
  have e8 : hexF.grouping = none := by decide +kernel
  have e9 : hexF.sign = none := by decide +kernel
  unfold Builtin.«int.__format__»
  simp only [selfAndOne, noKeywords, Int.intOfSelf, asInt?, asStr?, List.isEmpty_nil, if_true, pure_bind, bind_pure, bind_assoc, e1, e2, Bool.false_eq_true, if_false,
    show (Value.str hexSpec u == Value.none) = false from rfl]
  refine wpAny_bind (wpAny_typeNameOf (T := "str") (typeIs_str _ _ _) (by decide) fun _ => ?_)
  first | refine wpAny_bind (wpAny_typeNameOfCut_int ?_) | refine wpAny_bind (wpAny_typeNameOf_int ?_)
  simp only [hexF_ok, e3]
  rw [if_pos (by decide)]
  have hlen : (hexText (n : Int)).length ≤ sizeLine := by
    have e := congrArg List.length (hexText_all n hn)
    rw [Array.length_toList] at e
    show (hexText (n : Int)).cps.size ≤ sizeLine
    rw [e]
    show 2 ≤ sizeLine
    decide
  unfold hexText at hq hlen
  generalize hexF = f at e3 e4 e5 e6 e7 e8 e9 hq hlen ⊢
  show wpAny _ _ (if _ then _ else _) _ _ _
  rw [if_neg (by simp [e4])]
  show wpAny _ _ (if _ then _ else _) _ _ _
  rw [if_neg (by simp [e5])]
  show wpAny _ _ (if _ then _ else _) _ _ _
  rw [if_neg (by decide)]
  show wpAny _ _ (if _ then _ else _) _ _ _
  rw [if_neg (by decide)]
  show wpAny _ _ (if _ then _ else _) _ _ _
  rw [if_neg (by simpa using e6)]
  show wpAny _ _ (retStr _) _ _ _
  unfold retStr
  refine wpAny_bind (wpAny_mkStr (wpAny_pure ?_) ?hs2)
  case hs2 =>
    simp only [e7, Bool.false_eq_true, if_false, beq_self_eq_true, if_true, show ((16 : Nat) == 10) = false by decide]
    conv => lhs; arg 1; whnf
    simp only [intField', e7, e8, e9, Bool.false_eq_true, if_false] at hlen ⊢
    exact hlen
  dsimp only
  simp only [e7, Bool.false_eq_true, if_false, beq_self_eq_true, if_true, show ((16 : Nat) == 10) = false by decide]
  have hq2 : R (.ok (.ret (.str (intField' f (decide ((n : Int) < 0)) [] (List.map (fun c => c.toUpper.toNat) (Nat.toDigits 16 (n : Int).natAbs)) [] 4) s.toks))) { s with toks := s.toks + 1 } := hq.2
  conv => arg 1; arg 1; arg 1; arg 1; whnf
  simp only [intField', e7, e8, e9, Bool.false_eq_true, if_false] at hq2 ⊢
  exact hq2
theorem hexText_of {n : Nat} (hn : n < 256) : hexText (n : Int) = ⟨#[hexD (n / 16), hexD (n % 16)]⟩ := by
  have e := hexText_all n hn
  cases h : hexText (n : Int) with
  | mk a =>
    rw [h] at e
    exact congrArg Str.mk (Array.toList_inj.mp e)
/-- {e:02X}, e a number below 256 -/
def tHex (te : TE) : TE := fun σ H Q => te σ H fun x H1 => ∃ n : Nat, x = .int (n : Int) ∧ n < 256 ∧ Q (.str ⟨#[hexD (n / 16), hexD (n % 16)]⟩) H1
theorem g_hex {te : TE} {σ : St} {H : Hp} {Q : VK} (h : te σ H fun x H1 => ∃ n : Nat, x = .int (n : Int) ∧ n < 256 ∧ Q (.str ⟨#[hexD (n / 16), hexD (n % 16)]⟩) H1) : tHex te σ H Q := h
theorem pe_fmtHex {X : Cx} {e : Expr} {te : TE} {pos p2 p3 : Pos} {j : Nat} (he : PE X e te) : PE X (.FormattedValue e (-1) (some (.JoinedStr [.Constant (.str "02X") j p2] p3)) pos) (tHex te) := by
  refine ⟨fun pins s σ H Q I h => wpAny_FormattedValue_spec (thn (he.run pins s σ H _ I h) fun v s1 hv => ?_)⟩
  obtain ⟨x, H1, I1, r1, n, rfl, hn, q⟩ := hv
  obtain ⟨t, rfl⟩ := r1
  have hp : PE X (.JoinedStr [.Constant (.str "02X") j p2] p3) (tC (.str "02X")) := pe_joined1 pe_str
  refine thn (hp.run pins s1 σ H1 (fun z H2 => z = .str "02X" ∧ H2 = H1) I1 ⟨rfl, rfl⟩) fun r s2 hr => ?_
  obtain ⟨z, H2, I2, r2, ez, eH⟩ := hr
  subst ez eH
  obtain ⟨t2, rfl⟩ := r2
  refine ⟨_, _, rfl, ?_⟩
  have ex := hexText_of hn
  refine wpAny_formatField_spec (sp := hexSpec) (x := hexText (n : Int)) (by decide +kernel) (fun s' => typeIs_int s' _ _) slot_int_format entry_int_format args_int_format (fun u => gives_hex hn) ?_ (by decide +kernel) (by rw [ex]; show 2 ≤ sizeLine; decide)
  rw [ex]
  exact ⟨.str _, _, I2.tok _, ⟨_, rfl⟩, q⟩
end L2
namespace L2
open PySem PySem.Spec PyProof.Rows
/-! ### what an own class says of the signs of Python -/
section
variable {X : Cx} {CX : CXT} {k : Nat} {f C : Addr} {sp : Sp} {E : XK} {pins : List (Addr × Obj)} {σ : St} {H : Hp} {s : Shared} {A : Around} {Q : VK} {us : List Value} {vs : List V}
/-- a promise used deeper within a builtin -/
theorem run_sub (F : FnR X.prog X.w X.K X.mg X.base CX k f sp) (hr : Room k A) (hfr : A.frames = X.A.frames) (hx : Passes CX X E) (I : Inv X pins σ H s) (r : Vals vs us) (h : sp vs H Q E) :
    wpAny (model X.prog X.w) A (call (.ref f) us) (EP X pins σ Q) X.xe s := by
  have z := I.env0
  have e0 : Env0 X.prog X.w X.K X.mg X.base A X.stack s H := ⟨hfr.trans z.frames, z.mod, z.bs, z.bsz, z.funs, z.frf, z.hok, z.bare⟩
  refine wpAny_call (codeAny_mono (F A X.stack s H us vs Q E hr e0 r h) fun o s2 q => ?_)
  match o, q with
  | .error e, q => exact hx pins σ H s e s2 I q
  | .ok (.ret u), q => exact I.after q
theorem inst_of (I : Inv X pins σ H s) {a dx : Addr} {fs : List (Str × V)} (e : H a = some (.ins C dx fs)) : ∃ ox od, PySem.W.InstAt s.heap a ox C od := by
  obtain ⟨m, J, _⟩ := ins_get I.hok e
  obtain ⟨od, J, _⟩ := J.look
  exact ⟨_, _, J⟩
theorem ep_cmp {u : Value} {s' : Shared} (h : EP X pins σ Q u s') : PySem.W.CmpBack (EP X pins σ Q) u s' := by
  obtain ⟨v, H1, I1, r, q⟩ := id h
  cases u with
  | notImplemented =>
    cases v with
    | int i => obtain ⟨t, z⟩ := r; cases z
    | str i => obtain ⟨t, z⟩ := r; cases z
    | byt i => obtain ⟨t, z⟩ := r; cases z
    | flt i => obtain ⟨t, z⟩ := r; cases z
    | _ => cases r
  | _ => exact h
/-- len(o) -/
def rLenO (C : Addr) (sp : Sp) (E : XK) : List V → Hp → VK → Prop := fun xs H Q => ∃ a dx fs, xs = [.ref a] ∧ H a = some (.ins C dx fs) ∧ sp [.ref a] H (fun v H1 => ∃ n : Nat, v = .int (n : Int) ∧ n < 1000000000 ∧ Q v H1) E
theorem call_lenO (F : FnR X.prog X.w X.K X.mg X.base CX k f sp) (hr : Room (k + 1) X.A) (hx : Passes CX X E) (hs : PySem.W.findIn X.K (.ref C) "__len__" = some (some (.ref f))) (hf : PySem.W.isFn X.K (.ref f) = true) : CallR X (.builtin "len") (rLenO C sp E) := by
  intro pins s σ H xs us Q I r h
  obtain ⟨a, dx, fs, rfl, ea, h⟩ := h
  obtain ⟨u, rfl, ru⟩ := vals1 r
  cases ru
  obtain ⟨ox, od, J⟩ := inst_of I ea
  obtain ⟨m, hF⟩ := I.fr
  refine PySem.W.len_K hF I.ok.mod.kin J hs hf (wpAny_mono (run_sub (vs := [.ref a]) F hr.in1 rfl hx I (.cons rfl .nil) h) (fun v s' hv => ?_) fun _ _ z => z)
  obtain ⟨x, H1, I1, rx, n, rfl, hn, q⟩ := hv
  obtain ⟨t, rfl⟩ := rx
  exact ⟨⟨by omega, by omega⟩, .int (n : Int), H1, I1.tok _, ⟨_, rfl⟩, q⟩
/-- o + p and its like, both of the class -/
def rOwn2 (C : Addr) (sp : Sp) (E : XK) : R2 := fun x y H Q => ∃ a b dx dy fs gs, x = .ref a ∧ y = .ref b ∧ H a = some (.ins C dx fs) ∧ H b = some (.ins C dy gs) ∧ sp [.ref a, .ref b] H Q E
theorem op_own {op : Operator} (F : FnR X.prog X.w X.K X.mg X.base CX k f sp) (hr : Room k X.A) (hx : Passes CX X E) (hc : PySem.W.selfFirst X.K C = true) (hs : PySem.W.findIn X.K (.ref C) (PySem.dunder op.info.2) = some (some (.ref f))) (hf : PySem.W.isFn X.K (.ref f) = true) :
    OpR X (binaryOp op) (rOwn2 C sp E) := by
  intro pins s σ H x y u v Q I rx ry h
  obtain ⟨a, b, dx, dy, fs, gs, rfl, rfl, ea, eb, h⟩ := h
  cases rx
  cases ry
  obtain ⟨ox, od, J⟩ := inst_of I ea
  obtain ⟨oy, oe, J2⟩ := inst_of I eb
  obtain ⟨m, hF⟩ := I.fr
  exact PySem.W.binop_K hF I.ok.mod.kin J J2.type hc hs hf (wpAny_mono (run_sub (vs := [.ref a, .ref b]) F hr rfl hx I (.cons rfl (.cons rfl .nil)) h) (fun _ _ z => ep_cmp z) fun _ _ z => z)
/-- o == p, both of the class -/
theorem op_ownEq (F : FnR X.prog X.w X.K X.mg X.base CX k f sp) (hr : Room k X.A) (hx : Passes CX X E) (hs : PySem.W.findIn X.K (.ref C) "__eq__" = some (some (.ref f))) (hf : PySem.W.isFn X.K (.ref f) = true) : OpR X (compareOp .Eq) (rOwn2 C sp E) := by
  intro pins s σ H x y u v Q I rx ry h
  obtain ⟨a, b, dx, dy, fs, gs, rfl, rfl, ea, eb, h⟩ := h
  cases rx
  cases ry
  obtain ⟨ox, od, J⟩ := inst_of I ea
  obtain ⟨oy, oe, J2⟩ := inst_of I eb
  obtain ⟨m, hF⟩ := I.fr
  show wpAny _ _ (richCompare .Eq (.ref a) (.ref b)) _ _ _
  exact PySem.W.cmp_K (op := .Eq) (tb := .ref C) hr.units0 hF I.ok.mod.kin J J2.type (by simp [PySem.W.notFirst]) hs hf (wpAny_mono (run_sub (vs := [.ref a, .ref b]) F hr rfl hx I (.cons rfl (.cons rfl .nil)) h) (fun _ _ z => ep_cmp z) fun _ _ z => z)
/-- x in o, x not in o -/
def rInO (C : Addr) (sp : Sp) (E : XK) (neg : Bool) : R2 := fun x y H Q => ∃ a dx fs, y = .ref a ∧ H a = some (.ins C dx fs) ∧ sp [.ref a, x] H (fun v H1 => ∃ b, v = .bl b ∧ Q (.bl (neg ^^ b)) H1) E
theorem op_inO (F : FnR X.prog X.w X.K X.mg X.base CX k f sp) (hr : Room k X.A) (hx : Passes CX X E) (hs : PySem.W.findIn X.K (.ref C) "__contains__" = some (some (.ref f))) (hf : PySem.W.isFn X.K (.ref f) = true) : OpR X (compareOp .In) (rInO C sp E false) := by
  intro pins s σ H x y u v Q I rx ry h
  obtain ⟨a, dx, fs, rfl, ea, h⟩ := h
  cases ry
  obtain ⟨ox, od, J⟩ := inst_of I ea
  obtain ⟨m, hF⟩ := I.fr
  refine PySem.W.in_K hF I.ok.mod.kin J hs hf (wpAny_mono (run_sub (vs := [.ref a, x]) F hr rfl hx I (.cons rfl (.cons rx .nil)) h) (fun r s' hv => ?_) fun _ _ z => z)
  obtain ⟨z, H1, I1, rz, b, rfl, q⟩ := hv
  cases rz
  exact wpAny_truthy_bool ⟨.bl b, H1, I1, rfl, by simpa using q⟩
theorem op_notInO (F : FnR X.prog X.w X.K X.mg X.base CX k f sp) (hr : Room k X.A) (hx : Passes CX X E) (hs : PySem.W.findIn X.K (.ref C) "__contains__" = some (some (.ref f))) (hf : PySem.W.isFn X.K (.ref f) = true) : OpR X (compareOp .NotIn) (rInO C sp E true) := by
  intro pins s σ H x y u v Q I rx ry h
  obtain ⟨a, dx, fs, rfl, ea, h⟩ := h
  cases ry
  obtain ⟨ox, od, J⟩ := inst_of I ea
  obtain ⟨m, hF⟩ := I.fr
  refine PySem.W.notIn_K hF I.ok.mod.kin J hs hf (wpAny_mono (run_sub (vs := [.ref a, x]) F hr rfl hx I (.cons rfl (.cons rx .nil)) h) (fun r s' hv => ?_) fun _ _ z => z)
  obtain ⟨z, H1, I1, rz, b, rfl, q⟩ := hv
  cases rz
  exact wpAny_truthy_bool ⟨.bl (!b), H1, I1, rfl, by simpa using q⟩
/-- str(o) -/
def rStrO (C : Addr) (sp : Sp) (E : XK) : List V → Hp → VK → Prop := fun xs H Q => ∃ a dx fs, xs = [.ref a] ∧ H a = some (.ins C dx fs) ∧ sp [.ref a] H (fun v H1 => ∃ z : Str, v = .str z ∧ Q v H1) E
theorem call_strO (F : FnR X.prog X.w X.K X.mg X.base CX k f sp) (hr : Room (k + 2) X.A) (hx : Passes CX X E) (hs : PySem.W.findIn X.K (.ref C) "__str__" = some (some (.ref f))) (hf : PySem.W.isFn X.K (.ref f) = true) : CallR X (.type "str") (rStrO C sp E) := by
  intro pins s σ H xs us Q I r h
  obtain ⟨a, dx, fs, rfl, ea, h⟩ := h
  obtain ⟨u, rfl, ru⟩ := vals1 r
  cases ru
  obtain ⟨ox, od, J⟩ := inst_of I ea
  refine PySem.W.kso_call hr.in1.in1.units0 I.kIn J hs hf (wpAny_mono (run_sub (vs := [.ref a]) F hr.in1.in1 rfl hx I (.cons rfl .nil) h) (fun v s' hv => ?_) fun _ _ z => z)
  obtain ⟨x, H1, I1, rx, z, rfl, q⟩ := hv
  obtain ⟨t, rfl⟩ := rx
  exact ⟨.str z, H1, I1, ⟨_, rfl⟩, q⟩
/-- an own object's truth -/
def tTruO (C : Addr) (sp : Sp) (E : XK) (ta : TE) : TT := fun σ H Q => ta σ H fun x H1 => ∃ a dx fs, x = .ref a ∧ H1 a = some (.ins C dx fs) ∧ sp [.ref a] H1 (fun v H2 => ∃ b, v = .bl b ∧ Q b H2) E
theorem pt_truO {e : Expr} {ta : TE} (ha : PE X e ta) (F : FnR X.prog X.w X.K X.mg X.base CX k f sp) (hr : Room k X.A) (hx : Passes CX X E) (hs : PySem.W.findIn X.K (.ref C) "__bool__" = some (some (.ref f))) (hf : PySem.W.isFn X.K (.ref f) = true)
    (he : ∀ whole, isTrue e X.env whole = (do let v ← whole; standAt e.pos; holding [v] (truthy v))) : PT X e (tTruO C sp E ta) := by
  refine ⟨fun pins s σ H Q I h => ?_⟩
  rw [he]
  refine wpAny_bind (thn (ha.run pins s σ H _ I h) fun u s1 ⟨x, H1, I1, rx, a, dx, fs, ex, ea, q⟩ => ?_)
  subst ex
  cases rx
  obtain ⟨ox, od, J⟩ := inst_of I1 ea
  obtain ⟨m, hF⟩ := I1.fr
  refine wpAny_bind (wpAny_standAt (wpAny_holding ?_))
  refine PySem.W.truthy_K hF I1.ok.mod.kin J hs hf (wpAny_mono (run_sub (vs := [.ref a]) F hr rfl hx I1 (.cons rfl .nil) q) (fun r s' hv => ?_) fun _ _ z => z)
  obtain ⟨z, H2, I2, rz, b, rfl, q⟩ := hv
  cases rz
  exact ⟨H2, I2, q⟩
end
end L2
namespace L2
open PySem PySem.Spec PyProof.Rows
/-! ### tuples that hold own objects: != of what is equal, item by item -/
section
open AutoSeq1 (wpAny_loadPart')
variable {prog : Program} {w : World} {A : Around} {R : Result → Shared → Prop}
theorem tup_neT (p q : Addr) (us vs : Array Value) (m n : Nat) (d1 d2 : Option Addr) (z1 z2 : Array (Option Value)) (hlen : us.size = vs.size) (W : Nat → Shared → Prop)
    (step : ∀ j (a : j < us.size) (b : j < vs.size) sj, W j sj → wpAny (model prog w) A.in1 (eqBool us[j] vs[j]) (fun r sk => r = true ∧ W (j + 1) sk) (fun e sk => R (.error e) sk) sj)
    (out : ∀ sj, W us.size sj → R (.ok (.ret (.bool false))) sj) {s : Shared} (hp1 : s.heap.get? p = some { cls := .type "tuple", dict := d1, data := .seq us m, slots := z1 }) (hq1 : s.heap.get? q = some { cls := .type "tuple", dict := d2, data := .seq vs n, slots := z2 }) (w0 : W 0 s) :
    wpAny (model prog w) A.in1 (Builtin.«tuple.__ne__» ⟨[.ref p, .ref q], []⟩) (GQ.FinOf prog w A R) (fun e sk => R (.error e) sk) s := by
  have sub := AutoSeq1.sub_tuple_tuple
  have zl : (us.toList.zip vs.toList).length = us.size := by rw [List.length_zip, Array.length_toList, Array.length_toList, ← hlen, Nat.min_self]
  have w0' := w0
  obtain ⟨h0, g0, e0, t0, o0⟩ := s
  wp_walk using wpAny_loadPart' hp1, wpAny_loadPart' hq1, wpAny_forIn_list _ (fun tail b sj => b.1 = none ∧ ∃ j, tail = (us.toList.zip vs.toList).drop j ∧ j ≤ us.size ∧ W j sj) _
  case turn =>
    rintro ⟨y, x⟩ tail b sj ⟨eb, j, et, hj, wj⟩
    have lt0 : j < (us.toList.zip vs.toList).length := Nat.lt_of_not_le fun ge => by rw [List.drop_of_length_le ge] at et; cases et
    have lt1 : j < us.size := zl ▸ lt0
    have lt2 : j < vs.size := hlen ▸ lt1
    rw [List.drop_eq_getElem_cons lt0] at et
    injection et with exy etl
    have ey : y = us[j] := by have z := congrArg Prod.fst exy; simpa using z
    have ex : x = vs[j] := by have z := congrArg Prod.snd exy; simpa using z
    subst ey ex
    refine wpAny_bind (wpAny_mono (step j lt1 lt2 sj wj) (fun r sk z => ?_) fun _ _ z => z)
    obtain ⟨er, wk⟩ := z
    subst er
    wp_walk
    exact ⟨rfl, j + 1, etl, lt1, wk⟩
  case fin =>
    rintro ⟨b1, b2⟩ sj ⟨eb, j, et, hj, wj⟩
    simp only at eb
    subst eb
    have ge : us.size ≤ j := Nat.le_of_not_lt fun lt => by rw [List.drop_eq_getElem_cons (zl.symm ▸ lt)] at et; cases et
    have ej : j = us.size := Nat.le_antisymm hj ge
    have done : R (.ok (.ret (.bool false))) sj := out sj (ej ▸ wj)
    wp_walk
    simpa [Builtin.Tuple.tupleCompareSizes, hlen] using done
  case h =>
    exact ⟨rfl, 0, rfl, Nat.zero_le _, w0'⟩
theorem rc_neT {E : Value → Shared → Prop} {p q : Addr} {us vs : Array Value} {s : Shared} {Q : Value → Shared → Prop} (hlen : us.size = vs.size) (hu : A.units < cLine) (W : Nat → Shared → Prop) (hp1 : s.heap.IsTuple p us) (hq1 : s.heap.IsTuple q vs)
    (step : ∀ j (a : j < us.size) (b : j < vs.size) sj, W j sj → wpAny (model prog w) A.in1 (eqBool us[j] vs[j]) (fun r sk => r = true ∧ W (j + 1) sk) E sj)
    (out : ∀ sj, W us.size sj → Q (.bool false) sj) (w0 : W 0 s) : wpAny (model prog w) A (richCompare .NotEq (.ref p) (.ref q)) Q E s := by
  obtain ⟨⟨c1, d1, a1, s1⟩, o1, k1, n1, r1⟩ := id hp1
  obtain ⟨⟨c2, d2, a2, s2⟩, o2, k2, n2, r2⟩ := id hq1
  simp only at k1 r1 k2 r2
  subst k1 r1 k2 r2
  refine wpAny_richCompare_same_room (op := .NotEq) ⟨_, o1, rfl⟩ ⟨_, o2, rfl⟩ F.slot_tuple_ne (GQ.call_here F.slot_tuple_ne ⟨_, o1, rfl⟩ F.entry_tuple_ne (F.args_tuple_ne_2 _ _) ?_) hu
  exact tup_neT (R := wants (fun v sk => v ≠ .notImplemented ∧ Q v sk) E) p q us vs n1 n2 d1 d2 s1 s2 hlen W step (fun sk z => ⟨(fun e => nomatch e), out sk z⟩) o1 o2 w0
end
/-- t != u, tuples whose items are equal by D: False -/
def rNeT (K : PySem.W.Frag) (D : Eqv) : R2 := fun x y H Q => DTup K D x y H ∧ ∀ H1, Ext H H1 → Q (.bl false) H1
theorem op_neT {X : Cx} {n : Nat} {D : Eqv} (hD : Mon D) (h : EqG X n D) (hr : Room (n + 1) X.A) : OpR X (compareOp .NotEq) (rNeT X.K D) := by
  intro pins s σ H x y u v Q I rx ry hq
  obtain ⟨⟨a, b, xs, ys, rfl, rfl, ha, hb, p⟩, q⟩ := hq
  cases rx
  cases ry
  obtain ⟨us, r1, e1, _⟩ := I.tuple ha
  obtain ⟨vs, r2, e2, _⟩ := I.tuple hb
  have hlen : us.toArray.size = vs.toArray.size := by rw [List.size_toArray, List.size_toArray, ← r1.length, ← r2.length]; exact p.1
  show wpAny (model X.prog X.w) X.A (richCompare .NotEq (.ref a) (.ref b)) (EP X pins σ Q) X.xe s
  refine rc_neT hlen hr.units0 (fun _ sj => LoopI X pins σ H sj) e1 e2 (fun j l1 l2 sj z => turnG hD h ⟨hr, rfl⟩ p r1 r2 j l1 l2 sj z) (fun sj z => ?_) ⟨H, I, Ext.rfl'⟩
  obtain ⟨H1, I1, ee⟩ := z
  exact ⟨.bl false, H1, I1, rfl, q H1 ee⟩
end L2
/-! ### enumerate of a tuple, of a text -/
namespace EnX
open PySem PySem.Spec PyProof.Rows L2
theorem new_enum {v : Value} {o : Obj} {G : Heap → Prop} (B : Begins v o G) :
    Meets (Builtin.«enumerate.__new__» ⟨[.type "enumerate", v], []⟩) (fun _ R s => G s.heap ∧
      R (.ok (.ret (.ref (s.heap.push o).objs.size))) { s with heap := (s.heap.push o).push { cls := .type "enumerate", data := .fields #[.none, .bool false, .ref s.heap.objs.size, rawInt 0, .none, .none] } }) :=
  .of_wp fun prog w A R s h => by
    obtain ⟨hp, g, d, tk, os⟩ := s
    obtain ⟨hG, h⟩ := h
    have sub := sub_enumerate
    have begins := fun (A : Around) (E : Value → Shared → Prop) (Q : Value → Shared → Prop) (q : Q (.ref hp.objs.size) ⟨hp.push o, g, d, tk, os⟩) => B.iter prog w A E ⟨hp, g, d, tk, os⟩ Q hG q
    wp_walk
    refine wpAny_stack_any fun st => wpAny_pure ?_
    split
    · rename_i c _ _ _ _ _
      cases (c == Value.type "enumerate")
      · wp_walk using begins
        exact ⟨_, rfl, h⟩
      · wp_walk using begins
        exact ⟨_, rfl, h⟩
    · wp_walk using begins
      exact ⟨_, rfl, h⟩
section
variable {prog : Program} {w : World} {A : Around} {E : Value → Shared → Prop} {s : Shared}
theorem call_enum {v : Value} {o : Obj} {G : Heap → Prop} {Q : Value → Shared → Prop} (B : Begins v o G) (hG : G s.heap)
    (h : ∀ h', IsEnum h' (s.heap.objs.size + 1) s.heap.objs.size 0 .none → h'.get? s.heap.objs.size = some o → (∀ b u, s.heap.get? b = some u → h'.get? b = some u) → Q (.ref (s.heap.objs.size + 1)) { s with heap := h' }) :
    wpAny (model prog w) A (call (.type "enumerate") [v]) Q E s := by
  refine callType_new F.called_enumerate (by decide) (F.typeCall_enumerate_1 _) (F.newCall_enumerate_1 _) (fun obj => F.args_object_init_2 obj _) F.entry_enumerate_new (new_enum B) ⟨hG, ?_⟩
  have z : (s.heap.push o).objs.size = s.heap.objs.size + 1 := Heap.size_push ..
  show _ ∧ _
  rw [z]
  have e : IsEnum ((s.heap.push o).push { cls := .type "enumerate", data := .fields #[.none, .bool false, .ref s.heap.objs.size, rawInt 0, .none, .none] }) (s.heap.objs.size + 1) s.heap.objs.size 0 .none := by
    have q := Heap.get?_push_size (s.heap.push o) (o := { cls := .type "enumerate", data := .fields #[.none, .bool false, .ref s.heap.objs.size, rawInt 0, .none, .none] }) rfl
    rw [z] at q
    exact q
  exact ⟨⟨_, e, rfl⟩, h _ e (Heap.get?_push_of_some _ (Heap.get?_push_size _ B.free)) fun b u x => Heap.get?_push_of_some _ (Heap.get?_push_of_some _ x)⟩
end
end EnX
namespace L2
open PySem PySem.Spec PyProof.Rows
/-- turn i of an enumerate: a new pair of the number and the item -/
def YEn (f : Nat → Option V) (i : Nat) (H : Hp) (v : V) (H' : Hp) : Prop := ∃ T x, v = .ref T ∧ H T = none ∧ H' = upd H T (.tup [.int (i : Nat), x]) ∧ f i = some x
/-- an enumerate that is turned: by what its iterator draws -/
theorem en_item {X : Cx} {pins : List (Addr × Obj)} {σ : St} {H : Hp} {s : Shared} {E : Value → Shared → Prop} {elts : List Expr} {kk : Nat} {tpos : Pos} {e it : Addr} {fp : List Addr} {n i : Nat} {old : Value} {P : Nat → Value → Prop} {S : Nat → Heap → Prop} {x : V} {R : V → Shared → Prop}
    (D : Draws X.prog X.w X.A.in1 it fp n P S) (I : Inv X pins σ H s) (hf : ∀ b ∈ [e, it], FpOk X pins H b) (he : IsEnum s.heap e it ((i : Nat) : Int) old) (hs : S i s.heap) (hi : i < n) (ne : e ≠ it) (nf : e ∉ fp) (fr : it < s.heap.objs.size) (hP : ∀ u, P i u → RelV x u)
    (q : ∀ s' T, H T = none → Inv X pins σ (upd H T (.tup [.int (i : Nat), x])) s' → (∃ old, IsEnum s'.heap e it ((i + 1 : Nat) : Int) old) → S (i + 1) s'.heap → T = s.heap.objs.size → R (.ref T) s') :
    wpAny (model X.prog X.w) X.A (pyNext (.ref e)) (fun r s' => ∃ u, r = some u ∧ wpAny (model X.prog X.w) X.A (letOwnedTupleGo (.Tuple elts kk tpos) (.ref e) u) (fun _ s2 => ∃ v, RelV v u ∧ R v s2) E s') E s := by
  have le : e < s.heap.objs.size := Heap.lt_size he
  refine wpAny_pyNext_enum_itemD D he hs hi ne nf fun u h1 tk hu ho h1S hT hz hk => ?_
  refine ⟨_, rfl, wpAny_letOwnedTupleGo_enum (s := { s with heap := h1, toks := tk + 1 }) ho fun h2 he2 sb => ?_⟩
  have hT2 : h2.get? s.heap.objs.size = some { cls := .type "tuple", data := .seq #[.int i tk, u] } := (sb.2 _ (Nat.ne_of_gt le)).trans hT
  have new : ObjOk X.prog X.w (upd H s.heap.objs.size (.tup [.int (i : Nat), x])) h2 s.heap.objs.size (.tup [.int (i : Nat), x]) := ⟨by show 2 ≤ sizeLine; decide, [.int i tk, u], .cons ⟨_, rfl⟩ (.cons (hP u hu) .nil), ⟨_, hT2, rfl, _, rfl⟩⟩
  have I1 : Inv X pins σ (upd H s.heap.objs.size (.tup [.int (i : Nat), x])) { s with heap := h2, toks := tk + 1 } :=
    I.turnedNew (ch := [e, it]) (fun b ob hb y => (sb.2 b (fun z => hb (by simp [z]))).trans (hk b ob (fun z => hb (by simp [z])) (fun z => hb (by simp [z])) y)) hf (Nat.le_refl _) new
  refine ⟨.ref s.heap.objs.size, rfl, q _ _ (I.hok.fresh (Nat.le_refl _)) I1 ⟨u, ?_⟩ (D.frame _ _ _ h1S fun b hb o y => (sb.2 b (fun z => nf (z ▸ hb))).trans y) rfl⟩
  have z : ((i + 1 : Nat) : Int) = (i : Int) + 1 := by omega
  rw [z]
  exact he2
end L2
namespace L2
open PySem PySem.Spec PyProof.Rows
/-- enumerate of the tuple at a -/
def IetT (K : PySem.W.Frag) (a : Addr) : It :=
  ⟨fun i H => ∃ xs x, SqT K H a xs ∧ xs[i]? = some x, fun i H v H' => ∃ T x, v = .ref T ∧ H T = none ∧ H' = upd H T (.tup [.int (i : Nat), x]) ∧ ∀ xs, SqT K H a xs → xs[i]? = some x, fun i H => ∃ xs, SqT K H a xs ∧ xs.length = i⟩
/-- enumerate of a text -/
def IetZ (z : Str) : It :=
  ⟨fun i _ => i < z.cps.size, fun i H v H' => ∃ T c, v = .ref T ∧ H T = none ∧ H' = upd H T (.tup [.int (i : Nat), .str ⟨#[c]⟩]) ∧ z.cps[i]? = some c, fun i _ => z.cps.size = i⟩
theorem turn_etT {P : Program} {w : World} {K : PySem.W.Frag} {elts : List Expr} {kk : Nat} {tpos : Pos} (a e it : Addr) :
    Turn P w K (.Tuple elts kk tpos) (IetT K a) [e, it] e (fun i h => (∃ old, IsEnum h e it ((i : Nat) : Int) old) ∧ h.IsTupleIter it a i ∧ e ≠ it) where
  mem := by simp
  obj := fun i h st b hb => by
    obtain ⟨⟨old, he⟩, ⟨o, ho, hc, hd⟩, _⟩ := st
    rcases (by simpa using hb : b = e ∨ b = it) with z | z
    · rw [z]
      exact ⟨_, he, fun v q => nomatch q⟩
    · rw [z]
      exact ⟨o, ho, fun v q => by rw [hd] at q; cases q⟩
  keep := fun i h h' st k => by
    obtain ⟨⟨old, he⟩, hi, ne⟩ := st
    exact ⟨⟨old, k e (by simp) _ he⟩, hi.at fun o q => k it (by simp) o q, ne⟩
  item := by
    intro X hP hw hK hc i pins s σ H E I hf st hg
    subst hP hw hK
    obtain ⟨⟨old, he⟩, hit, ne⟩ := st
    obtain ⟨xs, x, hq, hx⟩ := hg
    obtain ⟨its, rv, p, z⟩ := I.tuple hq
    obtain ⟨u, hu, ru⟩ := rv.get hx
    have hil : it < s.heap.objs.size := by obtain ⟨_, q, _⟩ := hit; exact Heap.lt_size q
    have hel : e < s.heap.objs.size := Heap.lt_size he
    have nt : a ≠ it := fun z => by
      obtain ⟨o1, e1, c1, _⟩ := p
      obtain ⟨o2, e2, c2, _⟩ := hit
      rw [z, e2] at e1
      cases e1
      rw [c2] at c1
      exact absurd c1 (by decide)
    have nea : e ≠ a := fun z => by
      obtain ⟨o1, e1, c1, _⟩ := p
      rw [← z, he] at e1
      cases e1
      exact absurd (show Value.type "enumerate" = .type "tuple" from c1) (by decide)
    have hlt : i < its.toArray.size := by
      have := List.getElem?_eq_some_iff.mp hu
      simpa using this.1
    refine wpAny_mono (en_item (elts := elts) (kk := kk) (tpos := tpos) (x := x) (R := fun v s2 => ∃ H', Inv X pins σ H' s2 ∧ (IetT X.K a).yld i H v H' ∧ ((∃ old, IsEnum s2.heap e it ((i + 1 : Nat) : Int) old) ∧ s2.heap.IsTupleIter it a (i + 1) ∧ e ≠ it) ∧ ∀ b ∈ [e, it], H' b = none) (Draws.tuple (show X.A.in1.handled = none from I.ok.hd hc) it a nt its.toArray) I hf he ⟨hit, p⟩ hlt ne (by simp [ne, nea]) hil (fun u' hu' => ?_) fun s' T hT I' he' hs' eT => ?_) (fun r s1 hr => ?_) fun _ _ z => z
    · have e2 : its[i]? = some u' := by simpa using hu'
      rw [hu] at e2
      cases e2
      exact ru
    · refine ⟨_, I', ⟨T, x, rfl, hT, rfl, fun ys hy => by rw [I.tuple_inj hy hq]; exact hx⟩, ⟨he', hs'.1, ne⟩, fun b hb => ?_⟩
      have hb' : b < s.heap.objs.size := by
        rcases (by simpa using hb : b = e ∨ b = it) with z | z
        · rw [z]; exact hel
        · rw [z]; exact hil
      rw [upd_ne (by rw [eT]; exact Nat.ne_of_lt hb')]
      exact (hf b hb).1
    · obtain ⟨u, er, hr⟩ := hr
      refine ⟨u, er, wpAny_mono hr (fun _ s2 h2 => ?_) fun _ _ z => z⟩
      obtain ⟨v, rv, H', I', y, st', n'⟩ := h2
      exact ⟨v, H', I', rv, y, st', n'⟩
  done := by
    intro X hP hw hK hc i pins s σ H E I hf st hg
    subst hP hw hK
    obtain ⟨⟨old, he⟩, hit, ne⟩ := st
    obtain ⟨xs, hq, hx⟩ := hg
    obtain ⟨its, rv, p, z⟩ := I.tuple hq
    obtain ⟨f0, f1, f2, f3, f4, f5⟩ := hf it (by simp)
    have nt : a ≠ it := fun z => by
      obtain ⟨o1, e1, c1, _⟩ := p
      obtain ⟨o2, e2, c2, _⟩ := hit
      rw [z, e2] at e1
      cases e1
      rw [c2] at c1
      exact absurd c1 (by decide)
    have ei : i = its.toArray.size := by rw [List.size_toArray, ← rv.length]; exact hx.symm
    refine wpAny_pyNext_enum_endD (Draws.tuple (show X.A.in1.handled = none from I.ok.hd hc) it a nt its.toArray) he ⟨by rw [← ei]; exact hit, p⟩ fun h' eb => ⟨rfl, I.turned (t' := s.toks) (fun b o hb q => eb b o hb q) f0 f1 f3 f4 f5⟩
  self := fun A i s Q E st h => let ⟨⟨_, he⟩, _⟩ := st; wpAny_pyIter_enum he h
theorem turn_etZ {P : Program} {w : World} {K : PySem.W.Frag} {elts : List Expr} {kk : Nat} {tpos : Pos} (z : Str) (t : Tok) (e it : Addr) :
    Turn P w K (.Tuple elts kk tpos) (IetZ z) [e, it] e (fun i h => (∃ old, IsEnum h e it ((i : Nat) : Int) old) ∧ h.IsStrIter it (strIterType z) z t i ∧ e ≠ it) where
  mem := by simp
  obj := fun i h st b hb => by
    obtain ⟨⟨old, he⟩, ⟨o, ho, hc, hd⟩, _⟩ := st
    rcases (by simpa using hb : b = e ∨ b = it) with z | z
    · rw [z]
      exact ⟨_, he, fun v q => nomatch q⟩
    · rw [z]
      exact ⟨o, ho, fun v q => by rw [hd] at q; cases q⟩
  keep := fun i h h' st k => by
    obtain ⟨⟨old, he⟩, ⟨o, ho, r⟩, ne⟩ := st
    exact ⟨⟨old, k e (by simp) _ he⟩, ⟨o, k it (by simp) o ho, r⟩, ne⟩
  item := by
    intro X hP hw hK hc i pins s σ H E I hf st hg
    subst hP hw hK
    obtain ⟨⟨old, he⟩, hit, ne⟩ := st
    have hlt : i < z.cps.size := hg
    have hil : it < s.heap.objs.size := by obtain ⟨_, q, _⟩ := hit; exact Heap.lt_size q
    have hel : e < s.heap.objs.size := Heap.lt_size he
    refine wpAny_mono (en_item (elts := elts) (kk := kk) (tpos := tpos) (x := .str ⟨#[z.cps[i]]⟩) (R := fun v s2 => ∃ H', Inv X pins σ H' s2 ∧ (IetZ z).yld i H v H' ∧ ((∃ old, IsEnum s2.heap e it ((i + 1 : Nat) : Int) old) ∧ s2.heap.IsStrIter it (strIterType z) z t (i + 1) ∧ e ≠ it) ∧ ∀ b ∈ [e, it], H' b = none) (Draws.text (show X.A.in1.handled = none from I.ok.hd hc) it z t) I hf he hit hlt ne (by simp [ne]) hil (fun u' hu' => ?_) fun s' T hT I' he' hs' eT => ?_) (fun r s1 hr => ?_) fun _ _ z => z
    · obtain ⟨c, u, hc2, rfl⟩ := hu'
      rw [Array.getElem?_eq_getElem hlt] at hc2
      cases hc2
      exact ⟨u, rfl⟩
    · refine ⟨_, I', ⟨T, z.cps[i], rfl, hT, rfl, Array.getElem?_eq_getElem hlt⟩, ⟨he', hs', ne⟩, fun b hb => ?_⟩
      have hb' : b < s.heap.objs.size := by
        rcases (by simpa using hb : b = e ∨ b = it) with z | z
        · rw [z]; exact hel
        · rw [z]; exact hil
      rw [upd_ne (by rw [eT]; exact Nat.ne_of_lt hb')]
      exact (hf b hb).1
    · obtain ⟨u, er, hr⟩ := hr
      refine ⟨u, er, wpAny_mono hr (fun _ s2 h2 => ?_) fun _ _ z => z⟩
      obtain ⟨v, rv, H', I', y, st', n'⟩ := h2
      exact ⟨v, H', I', rv, y, st', n'⟩
  done := by
    intro X hP hw hK hc i pins s σ H E I hf st hg
    subst hP hw hK
    obtain ⟨⟨old, he⟩, hit, ne⟩ := st
    have ei : z.cps.size = i := hg
    obtain ⟨f0, f1, f2, f3, f4, f5⟩ := hf it (by simp)
    exact wpAny_pyNext_enum_endD (Draws.text (show X.A.in1.handled = none from I.ok.hd hc) it z t) he (by rw [ei]; exact hit) fun h' eb => ⟨rfl, I.turned (t' := s.toks) (fun b o hb q => eb b o hb q) f0 f1 f3 f4 f5⟩
  self := fun A i s Q E st h => let ⟨⟨_, he⟩, _⟩ := st; wpAny_pyIter_enum he h
section
variable {X : Cx} {e : Expr} {ta : TA} {p pos tpos : Pos} {elts : List Expr} {kk : Nat}
def iEnumT (K : PySem.W.Frag) (ta : TA) : TI := fun σ H R => ta σ H fun vs H1 => ∃ a xs, vs = [.ref a] ∧ SqT K H1 a xs ∧ R (IetT K a) H1
theorem pi_enumT (hg : Gl X "enumerate") (hm : X.mg "enumerate" = none) (ha : PA X [e] ta) (hs : starEach [e] X.env = [(false, eval e X.env)] := by rfl) : PI X (.Tuple elts kk tpos) (.Call (.Name "enumerate" p) [e] [] pos) (iEnumT X.K ta) := by
  refine ⟨fun pins s σ H R I h => Call_ (ld_blt I hg hm boot_enumerate (PyProof.Rows.callWith_type1 (thn (ha.run pos pins s σ H _ I h) fun us s1 ⟨vs, H1, I1, r1, q1⟩ => ?_) hs rfl))⟩
  obtain ⟨a, xs, ex, hq, q⟩ := q1
  subst ex
  obtain ⟨u, rfl, ru⟩ := vals1 r1
  cases ru
  obtain ⟨its, rv, p', z⟩ := I1.tuple hq
  refine EnX.call_enum (begins_tuple a its.toArray) p' fun h' he hit hk => wpAny_pyIter_enum he ?_
  have I2 : Inv X pins σ H1 { s1 with heap := h' } := I1.kept (t' := s1.toks) hk
  refine ⟨s1.heap.objs.size + 1, [s1.heap.objs.size + 1, s1.heap.objs.size], _, _, H1, rfl, I2, turn_etT a (s1.heap.objs.size + 1) s1.heap.objs.size, ⟨⟨.none, he⟩, ⟨_, hit, rfl, rfl⟩, Nat.succ_ne_self _⟩, fun b hb => ?_, q⟩
  have hle : s1.heap.objs.size ≤ b := by
    rcases (by simpa using hb : b = s1.heap.objs.size + 1 ∨ b = s1.heap.objs.size) with z | z
    · rw [z]; exact Nat.le_add_right _ _
    · rw [z]; exact Nat.le_refl _
  exact I1.fpOk hle (I1.hok.fresh hle)
def iEnumZ (ta : TA) : TI := fun σ H R => ta σ H fun vs H1 => ∃ z, vs = [.str z] ∧ R (IetZ z) H1
theorem pi_enumZ (hg : Gl X "enumerate") (hm : X.mg "enumerate" = none) (ha : PA X [e] ta) (hs : starEach [e] X.env = [(false, eval e X.env)] := by rfl) : PI X (.Tuple elts kk tpos) (.Call (.Name "enumerate" p) [e] [] pos) (iEnumZ ta) := by
  refine ⟨fun pins s σ H R I h => Call_ (ld_blt I hg hm boot_enumerate (PyProof.Rows.callWith_type1 (thn (ha.run pos pins s σ H _ I h) fun us s1 ⟨vs, H1, I1, r1, q1⟩ => ?_) hs rfl))⟩
  obtain ⟨z, ex, q⟩ := q1
  subst ex
  obtain ⟨u, rfl, ru⟩ := vals1 r1
  obtain ⟨t, rfl⟩ := ru
  refine EnX.call_enum (begins_text z t) True.intro fun h' he hit hk => wpAny_pyIter_enum he ?_
  have I2 : Inv X pins σ H1 { s1 with heap := h' } := I1.kept (t' := s1.toks) hk
  refine ⟨s1.heap.objs.size + 1, [s1.heap.objs.size + 1, s1.heap.objs.size], _, _, H1, rfl, I2, turn_etZ z t (s1.heap.objs.size + 1) s1.heap.objs.size, ⟨⟨.none, he⟩, ⟨_, hit, rfl, rfl⟩, Nat.succ_ne_self _⟩, fun b hb => ?_, q⟩
  have hle : s1.heap.objs.size ≤ b := by
    rcases (by simpa using hb : b = s1.heap.objs.size + 1 ∨ b = s1.heap.objs.size) with z | z
    · rw [z]; exact Nat.le_add_right _ _
    · rw [z]; exact Nat.le_refl _
  exact I1.fpOk hle (I1.hok.fresh hle)
end
section
variable {σ : St} {H : Hp} {K : PySem.W.Frag} {ta : TA} {R : It → Hp → Prop}
theorem g_ienT (h : ta σ H fun vs H1 => ∃ a xs, vs = [.ref a] ∧ SqT K H1 a xs ∧ R (IetT K a) H1) : iEnumT K ta σ H R := h
theorem g_ienZ (h : ta σ H fun vs H1 => ∃ z, vs = [.str z] ∧ R (IetZ z) H1) : iEnumZ ta σ H R := h
end
/-- a loop over an enumerate of a tuple; Pv: what holds ahead of turn i -/
theorem for_enT {K : PySem.W.Frag} {a : Addr} {xs : List V} {g : TG} {tb : TS} {D : Ends} {σ : St} {H : Hp} (Pv : Nat → St → Hp → Prop) (h0 : Pv 0 σ H) (hl : ∀ i σ H, i ≤ xs.length → Pv i σ H → SqT K H a xs)
    (hs : ∀ i x T σ H, xs[i]? = some x → Pv i σ H → H T = none → g (.ref T) σ (upd H T (.tup [.int (i : Nat), x])) fun σ2 H2 => tb { D with nx := Pv (i + 1), ct := Pv (i + 1), bk := D.nx } σ2 H2) (hd : ∀ σ H, Pv xs.length σ H → D.nx σ H) :
    ∃ W : Nat → Nat → St → Hp → Prop, (∃ m, W 0 m σ H) ∧ ∀ i m σ H, W i m σ H →
      ((IetT K a).stop i H ∧ D.nx σ H) ∨ ((IetT K a).go i H ∧ ∃ N : St → Hp → Prop, (∀ σ' H', N σ' H' → ∃ m', m' < m ∧ W (i + 1) m' σ' H') ∧ ∀ x H', (IetT K a).yld i H x H' → g x σ H' fun σ2 H2 => tb { D with nx := N, ct := N, bk := D.nx } σ2 H2) := by
  refine ⟨fun i m σ H => m = xs.length - i ∧ i ≤ xs.length ∧ Pv i σ H, ⟨xs.length, by simp, Nat.zero_le _, h0⟩, ?_⟩
  rintro i m σ H ⟨rfl, hi, p⟩
  have q := hl i σ H hi p
  by_cases lt : i < xs.length
  · refine .inr ⟨⟨xs, xs[i], q, List.getElem?_eq_getElem lt⟩, Pv (i + 1), fun σ' H' p' => ⟨xs.length - (i + 1), by omega, rfl, lt, p'⟩, fun v H' y => ?_⟩
    obtain ⟨T, x, rfl, hT, rfl, hx⟩ := y
    exact hs i x T σ H (hx xs q) p hT
  · have e : i = xs.length := by omega
    subst e
    exact .inl ⟨⟨xs, q, rfl⟩, hd σ H p⟩
theorem for_enZ {z : Str} {g : TG} {tb : TS} {D : Ends} {σ : St} {H : Hp} (Pv : Nat → St → Hp → Prop) (h0 : Pv 0 σ H)
    (hs : ∀ i c T σ H, z.cps.toList[i]? = some c → Pv i σ H → H T = none → g (.ref T) σ (upd H T (.tup [.int (i : Nat), .str ⟨#[c]⟩])) fun σ2 H2 => tb { D with nx := Pv (i + 1), ct := Pv (i + 1), bk := D.nx } σ2 H2) (hd : ∀ σ H, Pv z.cps.toList.length σ H → D.nx σ H) :
    ∃ W : Nat → Nat → St → Hp → Prop, (∃ m, W 0 m σ H) ∧ ∀ i m σ H, W i m σ H →
      ((IetZ z).stop i H ∧ D.nx σ H) ∨ ((IetZ z).go i H ∧ ∃ N : St → Hp → Prop, (∀ σ' H', N σ' H' → ∃ m', m' < m ∧ W (i + 1) m' σ' H') ∧ ∀ x H', (IetZ z).yld i H x H' → g x σ H' fun σ2 H2 => tb { D with nx := N, ct := N, bk := D.nx } σ2 H2) := by
  rw [Array.length_toList] at hd
  refine ⟨fun i m σ H => m = z.cps.size - i ∧ i ≤ z.cps.size ∧ Pv i σ H, ⟨z.cps.size, by simp, Nat.zero_le _, h0⟩, ?_⟩
  rintro i m σ H ⟨rfl, hi, p⟩
  by_cases lt : i < z.cps.size
  · refine .inr ⟨lt, Pv (i + 1), fun σ' H' p' => ⟨z.cps.size - (i + 1), by omega, rfl, lt, p'⟩, fun v H' y => ?_⟩
    obtain ⟨T, c, rfl, hT, rfl, hc⟩ := y
    exact hs i c T σ H (by rw [Array.getElem?_toList]; exact hc) p hT
  · have e : i = z.cps.size := by omega
    subst e
    exact .inl ⟨rfl, hd σ H p⟩
end L2
namespace RvX
open PySem PySem.Spec PyProof.Rows L2
section
variable {prog : Program} {w : World} {A : Around} {E : Value → Shared → Prop} {s : Shared}
theorem applied_back {sl : Addr} {vs : Value} {n : Nat} {Q : Int × Int × Nat → Shared → Prop} (hs : s.heap.IsSliceOf sl .none .none vs) (ps : IsPart vs (some (-1))) (h : Q ((n : Int) - 1, -1, n) s) :
    wpAny (model prog w) A (Builtin.Slice.sliceApplied (.ref sl) (pure (n : Int))) Q E s := by
  obtain ⟨os, hos, hcs, hds⟩ := id hs
  unfold Builtin.Slice.sliceApplied Builtin.Slice.sliceFields
  refine wpAny_bind (wpAny_bind (wpAny_field hos hds (x := .none) rfl (wpAny_bind (wpAny_field hos hds (x := .none) rfl (wpAny_bind (wpAny_field hos hds (x := vs) rfl (wpAny_pure ?_)))))))
  refine wpAny_bind (HT.slicePart_ ps ?_)
  show wpAny _ _ (if ((-1 : Int) == 0) = true then _ else _) _ _ s
  rw [if_neg (by decide)]
  refine wpAny_bind (HT.slicePart_ .none (wpAny_bind (HT.slicePart_ .none (wpAny_bind (wpAny_pure ?_)))))
  show wpAny _ _ (match Builtin.Slice.sliceAdjust none none (-1) (n : Int) with | (a, b) => pure (a, (-1 : Int), Builtin.Slice.slicePlaces a b (-1))) _ _ s
  rw [show Builtin.Slice.sliceAdjust none none (-1) (n : Int) = ((n : Int) - 1, -1) by
    unfold Builtin.Slice.sliceAdjust
    simp]
  show wpAny _ _ (pure ((n : Int) - 1, (-1 : Int), Builtin.Slice.slicePlaces ((n : Int) - 1) (-1) (-1))) _ _ s
  rw [show Builtin.Slice.slicePlaces ((n : Int) - 1) (-1) (-1) = n by
    unfold Builtin.Slice.slicePlaces
    have h1 : ¬ ((-1 : Int) > 0) := by decide
    simp only [h1, if_false]
    by_cases hn : (n : Int) - 1 > -1
    · simp only [hn, if_true]
      rw [show (- -1 : Int) = 1 by decide, Int.ediv_one]
      omega
    · simp only [hn, if_false]
      omega]
  exact wpAny_pure h
theorem fm_congr {α β : Type} {f g : α → Option β} : ∀ {l : List α}, (∀ x ∈ l, f x = g x) → l.filterMap f = l.filterMap g
  | [], _ => rfl
  | x :: l, h => by
    rw [List.filterMap_cons, List.filterMap_cons, h x (List.mem_cons_self ..), fm_congr fun y hy => h y (List.mem_cons_of_mem _ hy)]
theorem pick_back (xs : Array Value) : ((List.range xs.size).filterMap fun (m : Nat) => xs[((xs.size : Int) - 1 + (m : Int) * (-1)).toNat]?).toArray = xs.toList.reverse.toArray := by
  have e : (List.range xs.size).filterMap (fun (m : Nat) => xs[((xs.size : Int) - 1 + (m : Int) * (-1)).toNat]?) = ((List.range xs.size).map fun k => xs.size - 1 - k).filterMap (xs[·]?) := by
    rw [List.filterMap_map]
    refine fm_congr fun k hk => ?_
    have := List.mem_range.mp hk
    show xs[((xs.size : Int) - 1 + (k : Int) * (-1)).toNat]? = xs[xs.size - 1 - k]?
    congr 1
    omega
  rw [e, PySem.W.krv_range, List.filterMap_reverse, PySem.W.krv_all]
theorem getItem_back {t sl : Addr} {items : Array Value} {vs : Value} {Q : Value → Shared → Prop} (ht : IsTup s.heap t items) (hs : s.heap.IsSliceOf sl .none .none vs) (ps : IsPart vs (some (-1)))
    (h : Q (.ref s.heap.objs.size) { s with heap := s.heap.push { cls := .type "tuple", data := .seq items.toList.reverse.toArray } }) (hsz : items.size ≤ sizeLine) : wpAny (model prog w) A (getItem (.ref t) (.ref sl)) Q E s := by
  have fit : sizeOk (.seq items.toList.reverse.toArray) := by
    show items.toList.reverse.toArray.size ≤ sizeLine
    rw [List.size_toArray, List.length_reverse, Array.length_toList]
    exact hsz
  obtain ⟨os, hos, hcs, hds⟩ := id hs
  have hTs : s.TypeIs (.ref sl) "slice" := ⟨os, hos, hcs⟩
  unfold getItem
  try with_reducible refine wpAny_holding ?_
  first | refine wpAny_bind (wpAny_pure ?_) | skip
  refine wpAny_bind (wpAny_sequenceKey ht.typeIs (by decide) ?_)
  refine wpAny_bind (wpAny_callSpecial?_slot (name := Str.ofString "__getitem__") ht.typeIs PyProof.Rows.slot_tuple_getitem
    (wpAny_call_entry PyProof.Rows.slot_tuple_getitem ht.typeIs PyProof.Rows.entry_tuple_getitem ?_ (PyProof.Rows.args_tuple_getitem _ _)))
  show wpAny _ _ (Builtin.Tuple.tupleItemsOf (.ref t) >>= _) _ _ s
  refine wpAny_bind (tupleItemsOf_ ht ?_)
  refine wpAny_bind (wpAny_typeOf hTs ?_)
  rw [if_pos (by decide)]
  refine wpAny_bind (applied_back hs ps ?_)
  show wpAny _ _ (if (((items.size : Int) - 1) == 0 && (-1 : Int) == 1 && items.size == items.size) = true then _ else _) _ _ s
  rw [if_neg (by simp), pick_back]
  first
    | exact wpAny_bind (wpAny_bind (m := Builtin.Tuple.tupleExact _) (wpAny_newObj_type (wpAny_pure (wpAny_pure ⟨_, rfl, wpAny_pure h⟩)) fit))
    | exact wpAny_bind (m := Builtin.Tuple.tupleExact _) (wpAny_newObj_type (wpAny_pure ⟨_, rfl, wpAny_pure h⟩) fit)
    | exact wpAny_bind (wpAny_bind (m := Builtin.Tuple.tupleExact _) (wpAny_newObj_type (wpAny_pure ⟨_, rfl, wpAny_pure h⟩) fit))
    | exact wpAny_bind (m := Builtin.Tuple.tupleExact _) (wpAny_newObj_type (wpAny_bind (wpAny_pure (wpAny_pure ⟨_, rfl, wpAny_pure h⟩))) fit)
end
end RvX
namespace L2
open PySem PySem.Spec PyProof.Rows
/-- t[::-1], t a tuple -/
def tRevT (K : PySem.W.Frag) (te : TE) : TE := fun σ H Q => te σ H fun x H1 => ∃ a xs, x = .ref a ∧ SqT K H1 a xs ∧ ∀ p, H1 p = none → Q (.ref p) (upd H1 p (.tup xs.reverse))
theorem pe_revT {X : Cx} {e : Expr} {te : TE} {k : Nat} {p1 p2 p3 pos : Pos} (he : PE X e te) : PE X (.Subscript e (.Slice none none (some (.UnaryOp .USub (.Constant (.int 1) k p1) p2)) p3) pos) (tRevT X.K te) := by
  refine ⟨fun pins s σ H Q I h => Subscript_ (thn (he.run pins s σ H _ I h) fun v s1 ⟨x, H1, I1, r1, a, xs, ex, hx, q⟩ => ?_)⟩
  subst ex
  cases r1
  have back : PO X (some (.UnaryOp .USub (.Constant (.int 1) k p1) p2)) (tPart (tUn (rU fun i => .int (-i)) (tC (.int 1)))) := po_some (pe_un un_neg pe_int)
  refine wpAny_Slice (thn (po_none.run pins s1 σ H1 (fun o H2 => o = none ∧ H2 = H1) I1 ⟨rfl, rfl⟩) fun vl s2 ⟨l, H2, I2, pl, el, e2⟩ => ?_)
  subst el e2
  refine thn (po_none.run pins s2 σ H2 (fun o H3 => o = none ∧ H3 = H2) I2 ⟨rfl, rfl⟩) fun vu s3 ⟨u, H3, I3, pu, eu, e3⟩ => ?_
  subst eu e3
  refine thn (back.run pins s3 σ H3 (fun o H4 => o = some (-1) ∧ H4 = H3) I3 ⟨1, rfl, -1, rfl, rfl, rfl⟩) fun vs s4 ⟨o, H4, I4, ps, eo, e4⟩ => ?_
  subst eo e4
  cases pl
  cases pu
  have I5 : Inv X pins σ H4 { s4 with heap := s4.heap.push { cls := .type "slice", data := .fields #[.none, .none, vs] } } := I4.kept (t' := s4.toks) fun b ob q => Heap.get?_push_of_some _ q
  obtain ⟨its, r, ht, hz⟩ := I5.tuple hx
  have len := r.length
  show wpAny (model X.prog X.w) X.A (subscriptTail e (.Slice none none (some (.UnaryOp .USub (.Constant (.int 1) k p1) p2)) p3) (.ref a) (.ref s4.heap.objs.size)) (EP X pins σ Q) X.xe { s4 with heap := s4.heap.push { cls := .type "slice", data := .fields #[.none, .none, vs] } }
  refine tail_any (ops := [.ref a, .ref s4.heap.objs.size]) ht.typeIs (PyProof.Rows.slot_tuple_getitem.lookup) ?_ (by with_unfolding_all rfl)
  refine RvX.getItem_back ht (Heap.IsSliceOf.new _ .none .none vs) ps ?_ (by rw [List.size_toArray]; omega)
  refine ⟨.ref _, _, I5.laid (t' := s4.toks) (o := .tup xs.reverse) (fun b ob q => Heap.get?_push_of_some _ q) (Nat.le_refl _) ?_, rfl, q _ (I5.hok.fresh (Nat.le_refl _))⟩
  exact ⟨by rw [List.length_reverse]; exact hz, _, r.reverse, IsTup.new _ _⟩
theorem g_revT {K : PySem.W.Frag} {σ : St} {H : Hp} {Q : VK} {te : TE} (h : te σ H fun x H1 => ∃ a xs, x = .ref a ∧ SqT K H1 a xs ∧ ∀ p, H1 p = none → Q (.ref p) (upd H1 p (.tup xs.reverse))) : tRevT K te σ H Q := h
/-- z.ljust(n, c) -/
def rLjust : V → List V → Hp → VK → Prop := fun x xs H Q => ∃ (a : Str) (i : Int) (c : Nat), x = .str a ∧ xs = [.int i, .str ⟨#[c]⟩] ∧ PadOk i = true ∧ Q (.str (Txt.ljustF a i c)) H
theorem mt_ljust2 {X : Cx} : MtR X "str.ljust" rLjust := by
  intro pins s σ H x xs v us Q I rx rs h
  obtain ⟨a, i, c, rfl, rfl, hp, q⟩ := h
  obtain ⟨t, rfl⟩ := rx
  obtain ⟨u1, u2, rfl, r1, r2⟩ := vals2 rs
  obtain ⟨t1, rfl⟩ := r1
  obtain ⟨t2, rfl⟩ := r2
  exact ljust_fill hp rfl fun t' k => ⟨.str _, H, I.tok _, ⟨_, rfl⟩, q⟩
theorem g_ljust {a : Str} {i : Int} {c : Nat} {H : Hp} {Q : VK} (h : PadOk i = true) (q : Q (.str (Txt.ljustF a i c)) H) : rLjust (.str a) [.int i, .str ⟨#[c]⟩] H Q := ⟨a, i, c, rfl, rfl, h, q⟩
/-- z.index(c), c one sign that is there -/
def rSIndex : V → List V → Hp → VK → Prop := fun x xs H Q => ∃ (a : Str) (c : Nat) (i : Nat) , x = .str a ∧ xs = [.str ⟨#[c]⟩] ∧ (∃ rest, Builtin.Str.occurrences a ⟨#[c]⟩ 0 a.length 1 = i :: rest) ∧ Q (.int (i : Nat)) H
theorem mt_sindex1 {X : Cx} : MtR X "str.index" rSIndex := by
  intro pins s σ H x xs v us Q I rx rs h
  obtain ⟨a, c, i, e1, e2, ⟨rest, ho⟩, q⟩ := h
  exact mt_sindex pins s σ H x xs v us Q I rx rs ⟨a, ⟨#[c]⟩, i, rest, e1, e2, ho, q⟩
theorem g_sindex {a : Str} {c i : Nat} {H : Hp} {Q : VK} (h : ∃ rest, Builtin.Str.occurrences a ⟨#[c]⟩ 0 a.length 1 = i :: rest) (q : Q (.int (i : Nat)) H) : rSIndex (.str a) [.str ⟨#[c]⟩] H Q := ⟨a, c, i, rfl, rfl, h, q⟩
end L2
namespace L2
open PySem
/-! readings of own objects, a step each -/
section
variable {σ : St} {H : Hp} {Q : VK} {D : Ends} {ta tv : TE} {K : PySem.W.Frag} {f : Str} {C : Addr} {sp : Sp} {dvs : List V} {E : XK} {t : TA}
theorem g_fld (h : ta σ H fun x H1 => ∃ a C dx fs v, x = .ref a ∧ H1 a = some (.ins C dx fs) ∧ Cls K C ∧ NoAttr K C f ∧ fs.lookup f = some v ∧ Q v H1) : tFld K ta f σ H Q := h
theorem g_fldS (h : tv σ H fun y H1 => ta σ H1 fun x H2 => ∃ a C dx fs, x = .ref a ∧ H2 a = some (.ins C dx fs) ∧ Cls K C ∧ NoAttr K C f ∧ fs.length < 1000 ∧ D.nx σ (upd H2 a (.ins C dx (putF f y fs)))) : sFld K ta tv f D σ H := h
theorem g_prop (h : ta σ H fun x H1 => ∃ a dx fs, x = .ref a ∧ H1 a = some (.ins C dx fs) ∧ sp (.ref a :: dvs) H1 Q E) : tProp C sp dvs E ta σ H Q := h
theorem g_make (h : t σ H fun vs H1 => ∀ x dx, H1 x = none → H1 dx = none → dx ≠ x → sp (.ref x :: (vs ++ dvs)) (upd (upd H1 dx (.own x)) x (.ins C dx [])) (fun v H2 => v = .non ∧ Q (.ref x) H2) E) : tMake C sp dvs E t σ H Q := h
theorem g_cmeth (h : ta σ H fun x H1 => x = .ref C ∧ t σ H1 fun vs H2 => sp (.ref C :: vs) H2 Q E) : ClX.tCMeth C sp E ta t σ H Q := h
theorem g_starA {te : TE} {Q : List V → Hp → Prop} (h : te σ H fun x H1 => ∃ p xs, x = V.ref p ∧ (SqT K H1 p xs ∨ SqL K H1 p xs) ∧ t σ H1 fun ys H2 => Q (xs ++ ys) H2) : StX.tStar K te t σ H Q := h
theorem g_while {c : TT} {tb : TS} (h : ∃ W : Nat → St → Hp → Prop, (∃ m, W m σ H) ∧ ∀ m σ H, W m σ H → c σ H fun b H1 => if b = true then ∃ N : St → Hp → Prop, (∀ σ' H', N σ' H' → ∃ m', m' < m ∧ W m' σ' H') ∧ tb { D with nx := N, ct := N, bk := D.nx } σ H1 else D.nx σ H1) : tWhile c tb D σ H := h
end
end L2
/-! ### texts -/
namespace Tx
open PySem L2
/-- numbers as values -/
def iv (c : Nat) : V := .int (c : Int)
/-- the object at a is the text of these codes -/
def At (K : PySem.W.Frag) (H : Hp) (C a : Addr) (cs : List Nat) : Prop := ∃ dx t, H a = some (.ins C dx [("_codes", .ref t)]) ∧ SqT K H t (cs.map iv)
section
variable {K : PySem.W.Frag} {H H' : Hp} {C a t dx : Addr} {cs : List Nat} {Q : VK} {E : XK}
theorem At.same (h : At K H C a cs) (s : Same H H') : At K H' C a cs := by
  obtain ⟨dx, t, h1, h2⟩ := h
  exact ⟨dx, t, s _ _ h1, s.sqt h2⟩
theorem fld {P : V → Prop} (h : H a = some (.ins C dx [("_codes", .ref t)])) (c : Cls K C) (n : NoAttr K C "_codes") (q : P (.ref t)) :
    ∃ a1 C1 dx1 fs v, V.ref a = .ref a1 ∧ H a1 = some (.ins C1 dx1 fs) ∧ Cls K C1 ∧ NoAttr K C1 "_codes" ∧ fs.lookup ("_codes" : Str) = some v ∧ P v := ⟨a, C, dx, _, .ref t, rfl, h, c, n, rfl, q⟩
theorem prop (h : H a = some (.ins C dx [("_codes", .ref t)])) (q : Q (.ref t) H) : ∃ a1 dx1 fs, V.ref a = .ref a1 ∧ H a1 = some (.ins C dx1 fs) ∧ getSp C "_codes" (.ref a1 :: []) H Q E := ⟨a, dx, _, rfl, h, a, dx, _, .ref t, rfl, h, rfl, q⟩
end
theorem kp_of_same {x : Addr} {H H' : Hp} (s : Same H H') : Dr.Kp x H H' := fun p o _ h => s p o h
/-- the promises: made of a body, of a tuple of codes -/
def spInit (C : Addr) : Sp := fun vs H Q _ => ∃ x dx m z, vs = [.ref x, m] ∧ H x = some (.ins C dx []) ∧ AnyO H m ∧ m = .str z ∧ Mk.isBody m = true ∧ ∀ H1 t, Dr.Kp x H H1 → H1 x = some (.ins C dx [("_codes", .ref t)]) → H1 t = some (.tup (z.cps.toList.map iv)) → Q .non H1
def spWith (K : PySem.W.Frag) (C : Addr) : Sp := fun vs H Q _ => ∃ t cs, vs = [.ref t] ∧ SqT K H t (cs.map iv) ∧ ∀ H1 a, Same H H1 → H a = none → At K H1 C a cs → Q (.ref a) H1
def spOf (K : PySem.W.Frag) (C : Addr) : Sp := fun vs H Q _ => ∃ y t cs, vs = [y, .ref t] ∧ H t = some (.tup (cs.map iv)) ∧ (∀ c ∈ cs, Mk.isCode (iv c) = true) ∧ ∀ H1 a, Same H H1 → H a = none → At K H1 C a cs → Q (.ref a) H1
def spAdd (K : PySem.W.Frag) (C : Addr) : Sp := fun vs H Q _ => ∃ a b cs ds, vs = [.ref a, .ref b] ∧ At K H C a cs ∧ At K H C b ds ∧ cs.length + ds.length ≤ 100000 ∧ ∀ H1 p, Same H H1 → At K H1 C p (cs ++ ds) → Q (.ref p) H1
def spEq (K : PySem.W.Frag) (C : Addr) : Sp := fun vs H Q _ => ∃ a b cs ds, vs = [.ref a, .ref b] ∧ At K H C a cs ∧ At K H C b ds ∧ Q (.bl (decide (cs = ds))) H
theorem iv_inj {cs ds : List Nat} (h : cs.map iv = ds.map iv) : cs = ds := by
  induction cs generalizing ds with
  | nil => cases ds with
    | nil => rfl
    | cons d ds => cases h
  | cons c cs ih => cases ds with
    | nil => cases h
    | cons d ds =>
      rw [List.map_cons, List.map_cons] at h
      injection h with h1 h2
      have : c = d := by
        have := V.int.inj h1
        omega
      rw [this, ih h2]
/-- numbers as data -/
theorem dps {K : PySem.W.Frag} {H : Hp} : ∀ cs : List Nat, DpAll K H (cs.map iv) (cs.map fun (c : Nat) => PyData.int (c : Int))
  | [] => .nil
  | c :: cs => .cons (.int _) (dps cs)
theorem eqvAll_ints : ∀ (cs ds : List Nat), PyData.eqvAll (cs.map fun (c : Nat) => PyData.int (c : Int)) (ds.map fun (c : Nat) => PyData.int (c : Int)) = decide (cs = ds)
  | [], [] => by simp [PyData.eqvAll]
  | [], d :: ds => by simp [PyData.eqvAll]
  | c :: cs, [] => by simp [PyData.eqvAll]
  | c :: cs, d :: ds => by
    rw [List.map_cons, List.map_cons, PyData.eqvAll, eqvAll_ints cs ds, PyData.eqv]
    by_cases h1 : c = d
    · subst h1
      simp
    · have h2 : ¬ ((c : Int) = (d : Int)) := by omega
      simp [h1, h2]
theorem eqv_tup (cs ds : List Nat) : PyData.eqv (.tuple (cs.map fun (c : Nat) => PyData.int (c : Int))) (.tuple (ds.map fun (c : Nat) => PyData.int (c : Int))) = decide (cs = ds) := by
  rw [PyData.eqv, eqvAll_ints]
theorem cla_ints : ∀ cs : List Nat, PyData.canLayAll0 (cs.map fun (c : Nat) => PyData.int (c : Int)) = true
  | [] => by simp [PyData.canLayAll0]
  | c :: cs => by
    have := cla_ints cs
    simp [PyData.canLayAll0, PyData.canLay0, this]
theorem dep_ints : ∀ cs : List Nat, PyData.depthAll (cs.map fun (c : Nat) => PyData.int (c : Int)) ≤ 1
  | [] => by simp [PyData.depthAll]
  | c :: cs => by
    have := dep_ints cs
    simp only [List.map_cons, PyData.depthAll, PyData.depth]
    omega
theorem shaped_ints (cs : List Nat) : SeqAt.shaped (.tuple (cs.map fun (c : Nat) => PyData.int (c : Int))) = true := by
  have h1 := dep_ints cs
  show (PyData.canLay0 _ && decide (PyData.depth _ ≤ 64)) = true
  rw [Bool.and_eq_true]
  refine ⟨?_, decide_eq_true ?_⟩
  · simp only [PyData.canLay0]
    exact cla_ints cs
  · simp only [PyData.depth]
    omega
end Tx
namespace L2
open PySem
/-- xs + ys, tuples: whatever object it is -/
theorem g_catA {K : PySem.W.Frag} {H : Hp} {Q : VK} {p u : Addr} {xs ys : List V} (h1 : SqT K H p xs) (h2 : SqT K H u ys) (hz : xs.length + ys.length ≤ sizeLine) (q : ∀ H1 r, Same H H1 → SqT K H1 r (xs ++ ys) → Q (.ref r) H1) : rCatA K (.ref p) (.ref u) H Q := by
  refine ⟨p, u, xs, ys, rfl, rfl, h1, h2, hz, fun e => q H u (Same.refl H) ?_, fun _ e => q H p (Same.refl H) ?_, fun _ _ r hr => q _ r (same_new hr) (SqT.of upd_same)⟩
  · rw [e, List.nil_append]
    exact h2
  · rw [e, List.append_nil]
    exact h1
/-- t[lo:hi], a tuple -/
theorem g_slA {K : PySem.W.Frag} {H : Hp} {Q : VK} {p : Addr} {xs : List V} {lo hi : Option Int} (h : SqT K H p xs) (q : ∀ H1 r, Same H H1 → SqT K H1 r (cutV xs lo hi) → Q (.ref r) H1) : rSlA K (.ref p) lo hi H Q := by
  refine ⟨p, xs, rfl, h, fun w => q H p (Same.refl H) ?_, fun _ r hr => q _ r (same_new hr) (SqT.of upd_same)⟩
  have e : cutV xs lo hi = xs := by
    unfold cutV
    rw [w.1, w.2, List.drop_zero, Nat.sub_zero, List.take_of_length_le (Nat.le_refl _)]
  rw [e]
  exact h
end L2
namespace L2
open PySem PySem.Spec PyProof.Rows
open AutoSeq1 (wpAny_loadPart') in
theorem extend_tup (l b : Addr) (us vs : Array Value) (m n : Nat) (dd : Option Addr) (sl : Array (Option Value)) (short : ¬(!us.isEmpty && Builtin.List.listTooLong (us.size + vs.size)) = true) (h1 : us.size ≤ sizeLine) (h2 : us.size + vs.size ≤ sizeLine + 1) :
    Meets (Builtin.«list.extend» ⟨[.ref l, .ref b], []⟩) (fun _ R s => s.heap.get? l = some { cls := .type "list", dict := none, data := .seq us m, slots := #[] } ∧ s.heap.get? b = some { cls := .type "tuple", dict := dd, data := .seq vs n, slots := sl } ∧
      R (.ok (.ret Value.none)) { s with heap := s.heap.update l (Obj.mapSeq fun x => x ++ vs), toks := s.toks }) :=
  .of_wp fun prog w A R s q => by
    obtain ⟨hp, g, d, tk, os⟩ := s
    obtain ⟨hl, hb, q⟩ := q
    have e1 := AutoSeq1.idx_int
    have e2 := AutoSeq1.sub_tuple_tuple
    have e3 := AutoSeq1.sub_list_list
    have e4 := AutoSeq1.sub_tuple_list
    have e5 := AutoSeq1.sub_list_tuple
    have fit : (us ++ vs).size ≤ sizeLine + 1 := by
      rw [Array.size_append]
      exact h2
    wp_walk using (wpAny_updateSeq hl rfl (hz := h1) (_hz' := fit)), wpAny_loadPart' hl, wpAny_loadPart' hb
    exact ⟨_, rfl, q⟩
/-- l.extend(t), t a tuple -/
def rExtT (K : PySem.W.Frag) : V → List V → Hp → VK → Prop := fun x vs H Q => ∃ l b xs zs, x = .ref l ∧ vs = [.ref b] ∧ H l = some (.lst xs) ∧ SqT K H b zs ∧ xs.length + zs.length ≤ sizeLine ∧ Q .non (upd H l (.lst (xs ++ zs)))
theorem mt_extendT {X : Cx} : MtM X "list.extend" (rExtT X.K) := by
  intro pins s σ H x vs v us Q I rx rv h
  obtain ⟨l, b, xs, zs, rfl, rfl, hH, hB, hz, q⟩ := h
  cases rx
  obtain ⟨u, rfl, ru⟩ := rv.one
  cases ru
  obtain ⟨z, its, n, r, hl, e⟩ := I.lstM hH
  obtain ⟨its2, r2, ⟨⟨c2, d2, a2, s2⟩, o2, k2, n2, q2⟩, z2⟩ := I.tuple hB
  simp only at k2 q2
  subst k2 q2
  have len1 := r.length
  have len2 := r2.length
  have fit : its.toArray.size + its2.toArray.size ≤ sizeLine := by rw [List.size_toArray, List.size_toArray]; omega
  have short : ¬ (!its.toArray.isEmpty && Builtin.List.listTooLong (its.toArray.size + its2.toArray.size)) = true := by
    rw [notLongL fit, Bool.and_false]
    exact Bool.false_ne_true
  refine call_meets F.slot_list_extend ⟨_, e, rfl⟩ F.entry_list_extend (F.args_list_extend_2 _ _) (extend_tup l b its.toArray its2.toArray n n2 d2 s2 short (by rw [List.size_toArray]; omega) (by omega)) ⟨e, o2, ?_⟩
  refine ⟨.non, _, I.lset (its' := its ++ its2) hH e (by simp) (r.append r2) ?_, rfl, q⟩
  rw [List.length_append]
  omega
theorem g_extT {K : PySem.W.Frag} {H : Hp} {Q : VK} {l b : Addr} {xs zs : List V} (h1 : H l = some (.lst xs)) (h2 : SqT K H b zs) (hz : xs.length + zs.length ≤ sizeLine) (q : Q .non (upd H l (.lst (xs ++ zs)))) : rExtT K (.ref l) [.ref b] H Q := ⟨l, b, xs, zs, rfl, rfl, h1, h2, hz, q⟩
end L2
/-! payloads and charsets: the mathematics -/
namespace Cd
open PySem L2
theorem marks_at : ∀ c, c < 127 → 32 ≤ c → c ≠ 37 → Mk.MARKS.cps.toList[if c < 37 then c - 32 else c - 33]? = some c := by decide +kernel
def HD : Str := "0123456789ABCDEF"
def AL : Str := "ABCDEFGHIJKLMNOPQRSTUVWXYZabcdefghijklmnopqrstuvwxyz0123456789+-"
def al (d : Nat) : Nat := AL.cps.toList.getD d 0
def isLD (o : Nat) : Bool := decide (o ∈ Mk.LADS.cps.toList)
/-- the coding h -/
def hForm (o : Nat) : List Nat := if o = 32 then [95] else if isLD o then [o] else [61, hexD (o / 16), hexD (o % 16)]
def payH (os : List Nat) : List Nat := (os.map hForm).flatten
theorem ld_facts : ∀ o, o < 256 → isLD o = true → 32 ≤ o ∧ o ≤ 126 ∧ o ≠ 37 ∧ o ≠ 61 ∧ o ≠ 95 ∧ o ≠ 32 := by decide +kernel
theorem hform_len {o : Nat} : 1 ≤ (hForm o).length ∧ (hForm o).length ≤ 3 := by
  unfold hForm
  split
  · exact ⟨by decide, by decide⟩
  · split <;> exact ⟨by simp, by simp⟩
theorem payH_len : ∀ os : List Nat, os.length ≤ (payH os).length ∧ (payH os).length ≤ 3 * os.length
  | [] => ⟨Nat.le_refl _, Nat.le_refl _⟩
  | o :: os => by
    have ih := payH_len os
    have h := @hform_len o
    show _ ≤ (hForm o ++ payH os).length ∧ (hForm o ++ payH os).length ≤ _
    rw [List.length_append, List.length_cons]
    omega
theorem payH_app (a b : List Nat) : payH (a ++ b) = payH a ++ payH b := by
  unfold payH
  rw [List.map_append, List.flatten_append]
theorem hex_ne : ∀ d, d < 16 → hexD d ≠ 61 := by decide +kernel
theorem payH_count : ∀ os : List Nat, (∀ o ∈ os, o < 256) → (payH os).count 61 * 2 + os.length = (payH os).length
  | [], _ => rfl
  | o :: os, h => by
    have ih := payH_count os fun x hx => h x (List.mem_cons_of_mem _ hx)
    have ho := h o (List.mem_cons_self ..)
    show (hForm o ++ payH os).count 61 * 2 + _ = (hForm o ++ payH os).length
    rw [List.count_append, List.length_append, List.length_cons]
    have e : (hForm o).count 61 * 2 + 1 = (hForm o).length := by
      unfold hForm
      split
      · decide
      · split
        · rename_i h1 h2
          have n := (ld_facts o ho h2).2.2.2.1
          rw [List.count_cons, List.count_nil, if_neg (by simpa using n)]
          rfl
        · have n1 := hex_ne (o / 16) (by omega)
          have n2 := hex_ne (o % 16) (by omega)
          simp [List.count_cons, n1, n2]
    omega
/-- the coding s -/
def num3 (os : List Nat) : Nat := os.getD 0 0 * 65536 + os.getD 1 0 * 256 + os.getD 2 0
def sDigits (n : Nat) : List Nat := [n / 262144, n / 4096 % 64, n / 64 % 64, n % 64]
def sForm (os : List Nat) : List Nat := ((sDigits (num3 os)).take (os.length + 1)).map al
def payS : List Nat → List Nat
  | [] => []
  | [a] => sForm [a]
  | [a, b] => sForm [a, b]
  | a :: b :: c :: r => sForm [a, b, c] ++ payS r
theorem payS3 {os : List Nat} (h : 3 ≤ os.length) : payS os = sForm (os.take 3) ++ payS (os.drop 3) := by
  match os, h with
  | a :: b :: c :: r, _ => rfl
theorem payS_few {os : List Nat} (h0 : os ≠ []) (h : os.length ≤ 3) : payS os = sForm os := by
  match os, h0, h with
  | [a], _, _ => rfl
  | [a, b], _, _ => rfl
  | [a, b, c], _, _ => exact List.append_nil _
/-- row by row -/
theorem payS_rows (os : List Nat) : ∀ (m i : Nat), os.length ≤ 3 * (i + m) → 3 * (i + m) < os.length + 3 → ((List.range' i m).map fun k => sForm ((os.drop (3 * k)).take 3)).flatten = payS (os.drop (3 * i))
  | 0, i, h1, h2 => by rw [List.drop_of_length_le (by omega)]; rfl
  | m + 1, i, h1, h2 => by
    rw [List.range'_succ, List.map_cons, List.flatten_cons, payS_rows os m (i + 1) (by omega) (by omega)]
    by_cases h : 3 ≤ (os.drop (3 * i)).length
    · rw [payS3 h, List.drop_drop]
      rfl
    · have h0 : os.drop (3 * i) ≠ [] := fun e => by
        have := congrArg List.length e
        rw [List.length_drop] at this
        simp at this
        omega
      rw [payS_few h0 (by omega), List.take_of_length_le (by omega), show payS (os.drop (3 * (i + 1))) = [] by rw [List.drop_of_length_le (by rw [List.length_drop] at h; omega)]; rfl, List.append_nil]
theorem sform_len {os : List Nat} (h : os.length ≤ 3) : (sForm os).length = os.length + 1 := by
  unfold sForm sDigits
  rw [List.length_map, List.length_take]
  show min (os.length + 1) 4 = _
  omega
theorem payS_len : ∀ os : List Nat, (payS os).length = (4 * os.length + 2) / 3
  | [] => rfl
  | [a] => by
    rw [show payS [a] = sForm [a] from rfl, sform_len (by simp)]
    simp
  | [a, b] => by
    rw [show payS [a, b] = sForm [a, b] from rfl, sform_len (by simp)]
    simp
  | a :: b :: c :: r => by
    show (sForm [a, b, c] ++ payS r).length = _
    rw [List.length_append, sform_len (Nat.le_refl _), payS_len r]
    simp only [List.length_cons, List.length_nil]
    omega
theorem payS_app : ∀ (a b : List Nat), a.length % 3 = 0 → payS (a ++ b) = payS a ++ payS b
  | [], b, _ => rfl
  | [x], b, h => by simp at h
  | [x, y], b, h => by simp at h
  | x :: y :: z :: r, b, h => by
    show sForm [x, y, z] ++ payS (r ++ b) = (sForm [x, y, z] ++ payS r) ++ payS b
    rw [payS_app r b (by simp only [List.length_cons] at h; omega), List.append_assoc]
def digS (ds : List Nat) : Nat := (ds ++ List.replicate (4 - ds.length) 0).foldl (fun n d => n * 64 + d) 0
def row3 (n : Nat) : List Nat := [n / 65536, n / 256 % 256, n % 256]
theorem back3 {a b c : Nat} (ha : a < 256) (hb : b < 256) (hc : c < 256) : row3 (digS (sDigits (num3 [a, b, c]))) = [a, b, c] := by
  have e : digS (sDigits (num3 [a, b, c])) = a * 65536 + b * 256 + c := by
    show (((0 * 64 + (a * 65536 + b * 256 + c) / 262144) * 64 + (a * 65536 + b * 256 + c) / 4096 % 64) * 64 + (a * 65536 + b * 256 + c) / 64 % 64) * 64 + (a * 65536 + b * 256 + c) % 64 = _
    omega
  rw [e]
  unfold row3
  congr 1
  · omega
  · congr 1
    · omega
    · congr 1
      omega
theorem back2 {a b : Nat} (ha : a < 256) (hb : b < 256) : row3 (digS ((sDigits (num3 [a, b])).take 3)) = [a, b, 0] := by
  have e : digS ((sDigits (num3 [a, b])).take 3) = a * 65536 + b * 256 := by
    show (((0 * 64 + (a * 65536 + b * 256 + 0) / 262144) * 64 + (a * 65536 + b * 256 + 0) / 4096 % 64) * 64 + (a * 65536 + b * 256 + 0) / 64 % 64) * 64 + 0 = _
    omega
  rw [e]
  unfold row3
  congr 1
  · omega
  · congr 1
    · omega
    · congr 1
      omega
theorem back1 {a : Nat} (ha : a < 256) : row3 (digS ((sDigits (num3 [a])).take 2)) = [a, 0, 0] := by
  have e : digS ((sDigits (num3 [a])).take 2) = a * 65536 := by
    show (((0 * 64 + (a * 65536 + 0 * 256 + 0) / 262144) * 64 + (a * 65536 + 0 * 256 + 0) / 4096 % 64) * 64 + 0) * 64 + 0 = _
    omega
  rw [e]
  unfold row3
  congr 1
  · omega
  · congr 1
    · omega
    · congr 1
      omega
theorem sdig_lt {n : Nat} (h : n < 16777216) : ∀ d ∈ sDigits n, d < 64 := by
  intro d hd
  simp only [sDigits, List.mem_cons, List.not_mem_nil, or_false] at hd
  omega
theorem num3_lt {os : List Nat} (h : ∀ o ∈ os, o < 256) : num3 os < 16777216 := by
  have g : ∀ i, os.getD i 0 < 256 := fun i => by
    rw [List.getD_eq_getElem?_getD]
    cases e : os[i]? with
    | none => exact (by decide : (0 : Nat) < 256)
    | some v => exact h v (List.mem_of_getElem? e)
  unfold num3
  have := g 0
  have := g 1
  have := g 2
  omega
/-- one row of digits, read -/
def sBack (ds : List Nat) : List Nat := (row3 (digS ds)).take (ds.length - 1)
theorem sback {os : List Nat} (h : ∀ o ∈ os, o < 256) (h0 : os ≠ []) (h3 : os.length ≤ 3) : row3 (digS ((sDigits (num3 os)).take (os.length + 1))) = os ++ List.replicate (3 - os.length) 0 := by
  match os, h0, h3, h with
  | [a], _, _, h => exact back1 (h a (by simp))
  | [a, b], _, _, h => exact back2 (h a (by simp)) (h b (by simp))
  | [a, b, c], _, _, h => exact back3 (h a (by simp)) (h b (by simp)) (h c (by simp))
end Cd
namespace Cd
open PySem L2
theorem al_sign : ∀ d, d < 64 → AL.cps.toList[d]? = some (al d) ∧ (AL.cps.toList.take d).all (fun c => decide (c ≠ al d)) = true := by decide +kernel
theorem hd_sign : ∀ d, d < 16 → HD.cps.toList[d]? = some (hexD d) ∧ (HD.cps.toList.take d).all (fun c => decide (c ≠ hexD d)) = true := by decide +kernel
/-! charsets -/
inductive Kd | latin | wide | steps deriving DecidableEq
def Kd.name : Kd → Str | .latin => "latin" | .wide => "wide" | .steps => "steps"
def stepsRow (c : Nat) : List Nat := if c < 128 then [c] else if c < 16384 then [c % 128 + 128, c / 128] else [c % 128 + 128, c / 128 % 128 + 128, c / 16384]
def rowOf : Kd → Nat → List Nat
  | .latin, c => [c]
  | .wide, c => [c / 256, c % 256]
  | .steps, c => stepsRow c
def whole : Kd → List Nat → Bool
  | .latin, _ => true
  | .wide, r => decide (r.length = 2)
  | .steps, r => decide (r.getLast? = some (r.getD (r.length - 1) 0) ∧ r.getD (r.length - 1) 0 < 128) || decide (r.length = 3)
def rstep (k : Kd) (p : List (List Nat) × List Nat) (o : Nat) : List (List Nat) × List Nat := if whole k (p.2 ++ [o]) then (p.1 ++ [p.2 ++ [o]], []) else (p.1, p.2 ++ [o])
def rowsOf (k : Kd) (os : List Nat) : List (List Nat) := let p := os.foldl (rstep k) ([], []); if p.2 = [] then p.1 else p.1 ++ [p.2]
def codeOf : Kd → List Nat → Option Nat
  | .latin, r => some (r.getD 0 0)
  | .wide, r => if r.length = 2 then some (r.getD 0 0 * 256 + r.getD 1 0) else none
  | .steps, r => if r.getD (r.length - 1) 0 > 127 ∨ r.getD (r.length - 1) 0 = 0 then none else some (r.foldr (fun o n => n * 128 + o % 128) 0)
/-- a code that the charset has -/
def inKd (k : Kd) (c : Nat) : Prop := 1 ≤ c ∧ c ≤ 65535 ∧ (k = .latin → c ≤ 255)
theorem row_lt {k : Kd} {c : Nat} (h : inKd k c) : ∀ o ∈ rowOf k c, o < 256 := by
  obtain ⟨h1, h2, h3⟩ := h
  intro o ho
  cases k with
  | latin =>
    have := h3 rfl
    simp only [rowOf, List.mem_singleton] at ho
    omega
  | wide =>
    simp only [rowOf, List.mem_cons, List.not_mem_nil, or_false] at ho
    omega
  | steps =>
    simp only [rowOf, stepsRow] at ho
    split at ho
    · simp only [List.mem_singleton] at ho
      omega
    · split at ho
      · simp only [List.mem_cons, List.not_mem_nil, or_false] at ho
        omega
      · simp only [List.mem_cons, List.not_mem_nil, or_false] at ho
        omega
theorem row_len {k : Kd} {c : Nat} : 1 ≤ (rowOf k c).length ∧ (rowOf k c).length ≤ 3 := by
  cases k with
  | latin => simp [rowOf]
  | wide => simp [rowOf]
  | steps =>
    simp only [rowOf, stepsRow]
    split
    · simp
    · split <;> simp
/-- the octets of a code make one row -/
theorem row_fold {k : Kd} {c : Nat} (h : inKd k c) (acc : List (List Nat)) : (rowOf k c).foldl (rstep k) (acc, []) = (acc ++ [rowOf k c], []) := by
  obtain ⟨h1, h2, h3⟩ := h
  cases k with
  | latin => rfl
  | wide => rfl
  | steps =>
    simp only [rowOf, stepsRow]
    split
    · rename_i a
      have w : whole .steps [c] = true := by simp [whole, a]
      simp [rstep, w]
    · split
      · rename_i a b
        have w1 : whole .steps [c % 128 + 128] = false := by simp [whole]
        have w2 : whole .steps [c % 128 + 128, c / 128] = true := by simp [whole]; omega
        simp [rstep, w1, w2]
      · rename_i a b
        have w1 : whole .steps [c % 128 + 128] = false := by simp [whole]
        have w2 : whole .steps [c % 128 + 128, c / 128 % 128 + 128] = false := by simp [whole]
        have w3 : whole .steps [c % 128 + 128, c / 128 % 128 + 128, c / 16384] = true := by simp [whole]
        simp [rstep, w1, w2, w3]
theorem rows_fold {k : Kd} : ∀ (cs : List Nat) (acc : List (List Nat)), (∀ c ∈ cs, inKd k c) → ((cs.map (rowOf k)).flatten).foldl (rstep k) (acc, []) = (acc ++ cs.map (rowOf k), [])
  | [], acc, _ => by simp
  | c :: cs, acc, h => by
    rw [List.map_cons, List.flatten_cons, List.foldl_append, row_fold (h c (List.mem_cons_self ..)), rows_fold cs _ fun x hx => h x (List.mem_cons_of_mem _ hx)]
    simp
theorem rows_back {k : Kd} {cs : List Nat} (h : ∀ c ∈ cs, inKd k c) : rowsOf k (cs.map (rowOf k)).flatten = cs.map (rowOf k) := by
  unfold rowsOf
  rw [rows_fold cs [] h]
  simp
theorem code_back {k : Kd} {c : Nat} (h : inKd k c) : codeOf k (rowOf k c) = some c := by
  obtain ⟨h1, h2, h3⟩ := h
  cases k with
  | latin => rfl
  | wide =>
    show some (c / 256 * 256 + c % 256) = some c
    congr 1
    omega
  | steps =>
    simp only [rowOf, stepsRow]
    split
    · rename_i a
      show (if c > 127 ∨ c = 0 then none else some (0 * 128 + c % 128)) = some c
      rw [if_neg (by omega)]
      congr 1
      omega
    · split
      · rename_i a b
        show (if c / 128 > 127 ∨ c / 128 = 0 then none else some ((0 * 128 + c / 128 % 128) * 128 + (c % 128 + 128) % 128)) = some c
        rw [if_neg (by omega)]
        congr 1
        omega
      · rename_i a b
        show (if c / 16384 > 127 ∨ c / 16384 = 0 then none else some (((0 * 128 + c / 16384 % 128) * 128 + (c / 128 % 128 + 128) % 128) * 128 + (c % 128 + 128) % 128)) = some c
        rw [if_neg (by omega)]
        congr 1
        omega
def isC (c : Nat) : Bool := Mk.isCode (.int (c : Int))
def known (o : Option Nat) : Nat := match o with | some c => if isC c then c else 63 | none => 63
theorem isC_iff {c : Nat} : isC c = true ↔ (32 ≤ c ∧ c ≤ 126 ∧ c ≠ 37) ∨ (160 ≤ c ∧ c ≤ 65535) := by
  show ((decide ((32 : Int) ≤ c) && decide ((c : Int) ≤ 126) && !decide (V.int (c : Int) = V.int 37)) || (decide ((160 : Int) ≤ c) && decide ((c : Int) ≤ 65535))) = true ↔ _
  simp only [Bool.or_eq_true, Bool.and_eq_true, decide_eq_true_eq, Bool.not_eq_true', decide_eq_false_iff_not, V.int.injEq]
  omega
theorem inKd_of {k : Kd} {c : Nat} (h : isC c = true) (hl : k = .latin → c ≤ 255) : inKd k c := by
  have := isC_iff.mp h
  exact ⟨by omega, by omega, hl⟩
end Cd
namespace L2
open PySem
/-! ### comprehensions whose steps make what they like and give f of the item -/
section
variable {K : PySem.W.Frag} {J : It} {n : Nat} {g : TG} {te : TE} {vs : List Nat} {σ : St} {H1 : Hp} {D : Addr} {Qd : Hp → Prop}
theorem lc_pure {G : Hp → Prop} {it : Nat → V} (f : Nat → V) (w : Walk J n G (fun i H x H' => H' = H ∧ x = it i)) (hG : ∀ H, Same H1 H → G H) (hD : H1 D = none) (hn : n ≤ 100000)
    (hs : ∀ i H (N : V → Hp → Prop), i < n → Same H1 H → (∀ H4, Same H H4 → N (f i) H4) → g (it i) (wipe σ vs) H fun σ2 H2 => wipe σ2 vs = wipe σ vs ∧ te σ2 H2 N) (hd : ∀ H, Same H1 H → H D = some (.lst ((List.range n).map f)) → Qd H) :
    ∃ W : Nat → Nat → Hp → Prop, (∃ m, W 0 m (upd H1 D (.lst []))) ∧ ∀ i m H, W i m H →
      (J.stop i H ∧ Qd H) ∨ (J.go i H ∧ ∃ Nx : Hp → Prop, (∀ H', Nx H' → ∃ m', m' < m ∧ W (i + 1) m' H') ∧ ∀ x H', J.yld i H x H' → g x (wipe σ vs) H' fun σ2 H2 => wipe σ2 vs = wipe σ vs ∧ tYes σ2 H2 fun b H3 =>
        if b = true then te σ2 H3 fun y H4 => ∃ acc, H4 D = some (.lst acc) ∧ acc.length < sizeLine ∧ Nx (upd H4 D (.lst (acc ++ [y]))) else Nx H3) := by
  refine lc_it w (fun i H => Same H1 H ∧ H D = some (.lst ((List.range i).map f))) ⟨same_new hD, upd_same⟩ (fun i H _ p => hG H p.1) (fun i x H H' hi p y => ?_) fun H p => hd H p.1 p.2
  obtain ⟨rfl, rfl⟩ := y
  refine hs i H' _ hi p.1 fun H4 s4 => ?_
  refine ⟨_, s4 _ _ p.2, ?_, (p.1.trans s4).mut hD, ?_⟩
  · rw [List.length_map, List.length_range]
    exact Nat.lt_of_lt_of_le hi (Nat.le_trans hn (by decide))
  · rw [upd_same, List.range_succ, List.map_append]
    rfl
end
section
variable {K : PySem.W.Frag} {g : TG} {te : TE} {vs : List Nat} {σ : St} {H1 : Hp} {D : Addr} {Qd : Hp → Prop} {a : Addr} {xs : List V}
theorem rng_get (xs : List V) (f : V → V) : (List.range xs.length).map (fun i => f (xs.getD i .non)) = xs.map f := by
  apply List.ext_getElem
  · simp
  · intro i h1 h2
    simp at h1
    simp [List.getD_eq_getElem?_getD, List.getElem?_eq_getElem h1]
/-- over a tuple -/
theorem lc_pureT (f : V → V) (ha : SqT K H1 a xs) (hD : H1 D = none) (hn : xs.length ≤ 100000)
    (hs : ∀ x H (N : V → Hp → Prop), x ∈ xs → Same H1 H → (∀ H4, Same H H4 → N (f x) H4) → g x (wipe σ vs) H fun σ2 H2 => wipe σ2 vs = wipe σ vs ∧ te σ2 H2 N) (hd : ∀ H, Same H1 H → H D = some (.lst (xs.map f)) → Qd H) :
    ∃ W : Nat → Nat → Hp → Prop, (∃ m, W 0 m (upd H1 D (.lst []))) ∧ ∀ i m H, W i m H →
      ((Itt K a).stop i H ∧ Qd H) ∨ ((Itt K a).go i H ∧ ∃ Nx : Hp → Prop, (∀ H', Nx H' → ∃ m', m' < m ∧ W (i + 1) m' H') ∧ ∀ x H', (Itt K a).yld i H x H' → g x (wipe σ vs) H' fun σ2 H2 => wipe σ2 vs = wipe σ vs ∧ tYes σ2 H2 fun b H3 =>
        if b = true then te σ2 H3 fun y H4 => ∃ acc, H4 D = some (.lst acc) ∧ acc.length < sizeLine ∧ Nx (upd H4 D (.lst (acc ++ [y]))) else Nx H3) := by
  refine lc_pure (n := xs.length) (it := fun i => xs.getD i .non) (G := fun H => SqT K H a xs) (fun i => f (xs.getD i .non)) (walk_tup.mono (fun _ h => h) fun i H x H' hi _ y => ⟨y.1, ?_⟩) (fun H s => s.sqt ha) hD hn (fun i H N hi s k => ?_) fun H s e => hd H s (by rw [e, rng_get])
  · rw [List.getD_eq_getElem?_getD, y.2]
    rfl
  · refine hs _ H N ?_ s k
    rw [List.getD_eq_getElem?_getD, List.getElem?_eq_getElem hi]
    exact List.getElem_mem hi
/-- over a list -/
theorem lc_pureL (f : V → V) (ha : SqL K H1 a xs) (hD : H1 D = none) (hn : xs.length ≤ 100000)
    (hs : ∀ x H (N : V → Hp → Prop), x ∈ xs → Same H1 H → (∀ H4, Same H H4 → N (f x) H4) → g x (wipe σ vs) H fun σ2 H2 => wipe σ2 vs = wipe σ vs ∧ te σ2 H2 N) (hd : ∀ H, Same H1 H → H D = some (.lst (xs.map f)) → Qd H) :
    ∃ W : Nat → Nat → Hp → Prop, (∃ m, W 0 m (upd H1 D (.lst []))) ∧ ∀ i m H, W i m H →
      ((Itl K a).stop i H ∧ Qd H) ∨ ((Itl K a).go i H ∧ ∃ Nx : Hp → Prop, (∀ H', Nx H' → ∃ m', m' < m ∧ W (i + 1) m' H') ∧ ∀ x H', (Itl K a).yld i H x H' → g x (wipe σ vs) H' fun σ2 H2 => wipe σ2 vs = wipe σ vs ∧ tYes σ2 H2 fun b H3 =>
        if b = true then te σ2 H3 fun y H4 => ∃ acc, H4 D = some (.lst acc) ∧ acc.length < sizeLine ∧ Nx (upd H4 D (.lst (acc ++ [y]))) else Nx H3) := by
  refine lc_pure (n := xs.length) (it := fun i => xs.getD i .non) (G := fun H => SqL K H a xs) (fun i => f (xs.getD i .non)) (walk_list.mono (fun _ h => h) fun i H x H' hi _ y => ⟨y.1, ?_⟩) (fun H s => Same.seq s ha) hD hn (fun i H N hi s k => ?_) fun H s e => hd H s (by rw [e, rng_get])
  · rw [List.getD_eq_getElem?_getD, y.2]
    rfl
  · refine hs _ H N ?_ s k
    rw [List.getD_eq_getElem?_getD, List.getElem?_eq_getElem hi]
    exact List.getElem_mem hi
/-- over a range with a step -/
theorem lc_pureC {lo c : Int} {n : Nat} (f : Nat → V) (hD : H1 D = none) (hn : n ≤ 100000)
    (hs : ∀ i H (N : V → Hp → Prop), i < n → Same H1 H → (∀ H4, Same H H4 → N (f i) H4) → g (.int (lo + (i : Nat) * c)) (wipe σ vs) H fun σ2 H2 => wipe σ2 vs = wipe σ vs ∧ te σ2 H2 N) (hd : ∀ H, Same H1 H → H D = some (.lst ((List.range n).map f)) → Qd H) :
    ∃ W : Nat → Nat → Hp → Prop, (∃ m, W 0 m (upd H1 D (.lst []))) ∧ ∀ i m H, W i m H →
      ((Itc lo c n).stop i H ∧ Qd H) ∨ ((Itc lo c n).go i H ∧ ∃ Nx : Hp → Prop, (∀ H', Nx H' → ∃ m', m' < m ∧ W (i + 1) m' H') ∧ ∀ x H', (Itc lo c n).yld i H x H' → g x (wipe σ vs) H' fun σ2 H2 => wipe σ2 vs = wipe σ vs ∧ tYes σ2 H2 fun b H3 =>
        if b = true then te σ2 H3 fun y H4 => ∃ acc, H4 D = some (.lst acc) ∧ acc.length < sizeLine ∧ Nx (upd H4 D (.lst (acc ++ [y]))) else Nx H3) :=
  lc_pure (it := fun i => .int (lo + (i : Nat) * c)) (G := fun _ => True) f walk_rangeC (fun _ _ => trivial) hD hn hs hd
end
/-- tuples that the heap tracks -/
theorem g_catT {K : PySem.W.Frag} {H : Hp} {Q : VK} {p u : Addr} {xs ys : List V} (h1 : H p = some (.tup xs)) (h2 : H u = some (.tup ys)) (hz : xs.length + ys.length ≤ sizeLine) (q : ∀ H1 r, Same H H1 → H1 r = some (.tup (xs ++ ys)) → Q (.ref r) H1) : rCatA K (.ref p) (.ref u) H Q := by
  refine ⟨p, u, xs, ys, rfl, rfl, SqT.of h1, SqT.of h2, hz, fun e => q H u (Same.refl H) ?_, fun _ e => q H p (Same.refl H) ?_, fun _ _ r hr => q _ r (same_new hr) upd_same⟩
  · rw [e, List.nil_append]
    exact h2
  · rw [e, List.append_nil]
    exact h1
theorem g_slT {K : PySem.W.Frag} {H : Hp} {Q : VK} {p : Addr} {xs : List V} {lo hi : Option Int} (h : H p = some (.tup xs)) (q : ∀ H1 r, Same H H1 → H1 r = some (.tup (cutV xs lo hi)) → Q (.ref r) H1) : rSlA K (.ref p) lo hi H Q := by
  refine ⟨p, xs, rfl, SqT.of h, fun w => q H p (Same.refl H) ?_, fun _ r hr => q _ r (same_new hr) upd_same⟩
  have e : cutV xs lo hi = xs := by
    unfold cutV
    rw [w.1, w.2, List.drop_zero, Nat.sub_zero, List.take_of_length_le (Nat.le_refl _)]
  rw [e]
  exact h
theorem cut_nat (xs : List V) (i j : Nat) : cutV xs (some (i : Int)) (some (j : Int)) = (xs.drop i).take (j - i) := by
  unfold cutV
  rw [HT.sIx_nat, HT.sIx_nat]
  by_cases hi : i ≤ xs.length
  · rw [Nat.min_eq_left hi]
    by_cases hj : j ≤ xs.length
    · rw [Nat.min_eq_left hj]
    · rw [Nat.min_eq_right (show xs.length ≤ j by omega)]
      rw [List.take_of_length_le (by rw [List.length_drop]; exact Nat.le_refl _), List.take_of_length_le (by rw [List.length_drop]; omega)]
  · rw [Nat.min_eq_right (show xs.length ≤ i by omega)]
    rw [List.drop_of_length_le (Nat.le_refl _), List.drop_of_length_le (show xs.length ≤ i by omega)]
    simp
theorem cut_to (xs : List V) (j : Nat) : cutV xs none (some (j : Int)) = xs.take j := by
  unfold cutV
  rw [HT.sIx_nat, HT.sIx_none, List.drop_zero, Nat.sub_zero]
  by_cases hj : j ≤ xs.length
  · rw [Nat.min_eq_left hj]
  · rw [Nat.min_eq_right (show xs.length ≤ j by omega), List.take_of_length_le (Nat.le_refl _), List.take_of_length_le (by omega)]
theorem cut_of (xs : List V) (i : Nat) : cutV xs (some (i : Int)) none = xs.drop i := by
  unfold cutV
  rw [HT.sIx_nat, HT.sIx_none]
  by_cases hi : i ≤ xs.length
  · rw [Nat.min_eq_left hi, List.take_of_length_le (by rw [List.length_drop]; exact Nat.le_refl _)]
  · rw [Nat.min_eq_right (show xs.length ≤ i by omega), List.drop_of_length_le (Nat.le_refl _), List.drop_of_length_le (show xs.length ≤ i by omega)]
    simp
end L2
namespace Cd
open PySem L2 Tx
/-- a text of these signs -/
def zs (l : List Nat) : Str := ⟨l.toArray⟩
theorem zs_list (l : List Nat) : (zs l).cps.toList = l := by simp [zs]
theorem zs_len (l : List Nat) : (zs l).length = l.length := by rw [len_list, zs_list]
theorem zs_ext {z : Str} {l : List Nat} (h : z.cps.toList = l) : z = zs l := by
  cases z
  rw [← h]
  simp [zs]
theorem zs_join (ls : List (List Nat)) : Txt.join ("" : Str) (ls.map zs) = zs ls.flatten := by
  refine zs_ext ?_
  rw [join_list, List.map_map]
  congr 1
  exact (List.map_congr_left (g := id) fun l _ => zs_list l).trans (List.map_id _)
theorem al_occ : ∀ d, d < 64 → Builtin.Str.occurrences AL ⟨#[al d]⟩ 0 AL.length 1 = [d] := by decide +kernel
theorem hd_occ : ∀ d, d < 16 → Builtin.Str.occurrences HD ⟨#[hexD d]⟩ 0 HD.length 1 = [d] := by decide +kernel
def pay (h : Bool) (os : List Nat) : List Nat := if h then payH os else payS os
def cname (h : Bool) : Str := if h then "h" else "s"
abbrev T0 (H : Hp) (p : Addr) (os : List Nat) : Prop := H p = some (.tup (os.map iv))
def Oct (os : List Nat) : Prop := ∀ o ∈ os, o < 256
/-! the promises -/
def spMark : Sp := fun vs H Q _ => ∃ c : Nat, vs = [iv c] ∧ 32 ≤ c ∧ c < 127 ∧ c ≠ 37 ∧ Q (.str ⟨#[c]⟩) H
def spIn (ns : List Str) : Sp := fun vs H Q _ => ∃ (z : Str), vs = [.str z] ∧ AnyO H (.str z) ∧ Q (.bl (decide (z ∈ ns))) H
def spHForm : Sp := fun vs H Q _ => ∃ o : Nat, vs = [iv o] ∧ o < 256 ∧ ∀ H1, Same H H1 → Q (.str (zs (hForm o))) H1
def spCheckO : Sp := fun vs H Q _ => ∃ p os, vs = [.ref p] ∧ T0 H p os ∧ Oct os ∧ ∀ H1, Same H H1 → Q .non H1
def spSForm : Sp := fun vs H Q _ => ∃ p os, vs = [.ref p] ∧ T0 H p os ∧ Oct os ∧ 1 ≤ os.length ∧ os.length ≤ 3 ∧ ∀ H1, Same H H1 → Q (.str (zs (sForm os))) H1
def spPay : Sp := fun vs H Q _ => ∃ h p os, vs = [.str (cname h), .ref p] ∧ T0 H p os ∧ Oct os ∧ os.length ≤ 3000 ∧ ∀ H1, Same H H1 → Q (.str (zs (pay h os))) H1
def spHOct : Sp := fun vs H Q _ => ∃ o : Nat, vs = [.str (zs (hForm o))] ∧ o < 256 ∧ Q (iv o) H
def spHOcts : Sp := fun vs H Q _ => ∃ os, vs = [.str (zs (payH os))] ∧ Oct os ∧ os.length ≤ 3000 ∧ ∀ H1 p, Same H H1 → H p = none → T0 H1 p os → Q (.ref p) H1
def spSRow : Sp := fun vs H Q _ => ∃ ds : List Nat, vs = [.str (zs (ds.map al))] ∧ ds.length ≤ 4 ∧ (∀ d ∈ ds, d < 64) ∧ ∀ p, H p = none → Q (.ref p) (upd H p (.tup ((row3 (digS ds)).map iv)))
def spSOcts : Sp := fun vs H Q _ => ∃ os, vs = [.str (zs (payS os))] ∧ Oct os ∧ os.length ≤ 3000 ∧ ∀ H1 p, Same H H1 → H p = none → T0 H1 p os → Q (.ref p) H1
def spOcts : Sp := fun vs H Q _ => ∃ h os, vs = [.str (cname h), .str (zs (pay h os))] ∧ Oct os ∧ os.length ≤ 3000 ∧ ∀ H1 p, Same H H1 → H p = none → T0 H1 p os → Q (.ref p) H1
def spCheckT (K : PySem.W.Frag) (C : Addr) : Sp := fun vs H Q _ => ∃ k a cs, vs = [.str (Kd.name k), .ref a] ∧ At K H C a cs ∧ (∀ c ∈ cs, inKd k c) ∧ ∀ H1, Same H H1 → Q .non H1
def spRow : Sp := fun vs H Q _ => ∃ k c, vs = [.str (Kd.name k), iv c] ∧ inKd k c ∧ ∀ H1 p, Same H H1 → H p = none → T0 H1 p (rowOf k c) → Q (.ref p) H1
def spFor (K : PySem.W.Frag) (C : Addr) : Sp := fun vs H Q _ => ∃ k a cs, vs = [.str (Kd.name k), .ref a] ∧ At K H C a cs ∧ (∀ c ∈ cs, inKd k c) ∧ cs.length ≤ 1000 ∧ ∀ H1 p, Same H H1 → H p = none → T0 H1 p (cs.map (rowOf k)).flatten → Q (.ref p) H1
def spWhole (K : PySem.W.Frag) : Sp := fun vs H Q _ => ∃ k p rs, vs = [.str (Kd.name k), .ref p] ∧ T0 H p rs ∧ rs ≠ [] ∧ Q (.bl (whole k rs)) H
def spRows : Sp := fun vs H Q _ => ∃ k p os, vs = [.str (Kd.name k), .ref p] ∧ T0 H p os ∧ Oct os ∧ os.length ≤ 5000 ∧ ∀ H1 q ps, Same H H1 → H q = none → H1 q = some (.lst (ps.map V.ref)) → Paired (fun r row => T0 H1 r row) ps (rowsOf k os) → Q (.ref q) H1
def oV : Option Nat → V | some c => iv c | none => .non
def spCode : Sp := fun vs H Q _ => ∃ k p rs, vs = [.str (Kd.name k), .ref p] ∧ T0 H p rs ∧ rs ≠ [] ∧ rs.length ≤ 3 ∧ Oct rs ∧ ∀ H1, Same H H1 → Q (oV (codeOf k rs)) H1
/-- what text_from gives: a pair of the text and whether all were codes -/
def spFrom (K : PySem.W.Frag) (C : Addr) : Sp := fun vs H Q _ => ∃ k p os, vs = [.str (Kd.name k), .ref p] ∧ T0 H p os ∧ Oct os ∧ os.length ≤ 5000 ∧ ∀ H1 q a, Same H H1 → H q = none → H1 q = some (.tup [.ref a, .bl ((rowsOf k os).all fun r => match codeOf k r with | some c => isC c | none => false)]) → At K H1 C a ((rowsOf k os).map fun r => known (codeOf k r)) → Q (.ref q) H1
end Cd
namespace Cd
open PySem L2 Tx
theorem inV_strs (z : Str) : ∀ ns : List Str, inV (.str z) (ns.map V.str) = decide (z ∈ ns)
  | [] => by simp [inV]
  | n :: ns => by
    have ih := inV_strs z ns
    unfold inV at ih ⊢
    rw [List.map_cons, List.any_cons, ih]
    show ((n == z) || decide (z ∈ ns)) = decide (z ∈ n :: ns)
    by_cases h : n = z
    · subst h
      simp
    · have h2 : ¬ z = n := fun e => h e.symm
      simp [h, h2]
theorem mark_ix {c : Nat} (h1 : 32 ≤ c) (h2 : c < 127) (h3 : c ≠ 37) : (c < 37 → atI Mk.MARKS.cps.toList ((c : Int) - 32) = some c) ∧ (¬ c < 37 → atI Mk.MARKS.cps.toList ((c : Int) - 33) = some c) := by
  have e := marks_at c h2 h1 h3
  constructor
  · intro h
    rw [if_pos h] at e
    have := atI_nat (j := c - 32) e
    rwa [show ((c - 32 : Nat) : Int) = (c : Int) - 32 by omega] at this
  · intro h
    rw [if_neg h] at e
    have := atI_nat (j := c - 33) e
    rwa [show ((c - 33 : Nat) : Int) = (c : Int) - 33 by omega] at this
theorem isPlain_iff {c : Nat} : Mk.isPlain (iv c) = true ↔ 32 ≤ c ∧ c ≤ 126 ∧ c ≠ 37 := by
  show ((decide ((32 : Int) ≤ c) && decide ((c : Int) ≤ 126)) && !decide (V.int (c : Int) = V.int 37)) = true ↔ _
  simp only [Bool.and_eq_true, decide_eq_true_eq, Bool.not_eq_true', decide_eq_false_iff_not, V.int.injEq]
  omega
end Cd
namespace Cd
open PySem L2 Tx
theorem of_iv {os : List Nat} {i : Nat} {x : V} (h : (os.map iv)[i]? = some x) : ∃ n ∈ os, x = iv n := by
  rw [List.getElem?_map] at h
  cases e : os[i]? with
  | none => rw [e] at h; cases h
  | some n => rw [e] at h; exact ⟨n, List.mem_of_getElem? e, (Option.some.inj h).symm⟩
end Cd
namespace Cd
open PySem L2 Tx
def alV : V → V
  | .int i => .str ⟨#[al i.toNat]⟩
  | v => v
theorem three {os : List Nat} (ho : Oct os) (h1 : 1 ≤ os.length) (h3 : os.length ≤ 3) : ∃ a b c : Nat, cutV (os.map iv ++ [.int 0, .int 0]) none (some 3) = [iv a, iv b, iv c] ∧ num3 os = a * 65536 + b * 256 + c ∧ a < 256 ∧ b < 256 ∧ c < 256 := by
  have ct := fun xs => cut_to xs 3
  match os, ho, h1, h3 with
  | [a], ho, _, _ => exact ⟨a, 0, 0, ct _, rfl, ho a (by simp), by decide, by decide⟩
  | [a, b], ho, _, _ => exact ⟨a, b, 0, ct _, rfl, ho a (by simp), ho b (by simp), by decide⟩
  | [a, b, c], ho, _, _ => exact ⟨a, b, c, ct _, rfl, ho a (by simp), ho b (by simp), ho c (by simp)⟩
theorem digs_iv (a b c : Nat) : [V.int (((a : Int) * 65536 + (b : Int) * 256 + (c : Int)) / 262144), .int (((a : Int) * 65536 + (b : Int) * 256 + (c : Int)) / 4096 % 64), .int (((a : Int) * 65536 + (b : Int) * 256 + (c : Int)) / 64 % 64), .int (((a : Int) * 65536 + (b : Int) * 256 + (c : Int)) % 64)] = (sDigits (a * 65536 + b * 256 + c)).map iv := by
  have h1 : ((a : Int) * 65536 + (b : Int) * 256 + (c : Int)) = ((a * 65536 + b * 256 + c : Nat) : Int) := by omega
  rw [h1]
  rfl
theorem take_iv (os : List Nat) (n : Nat) : (os.map iv).take n = (os.take n).map iv := (List.map_take).symm
theorem al_ix {d : Nat} (h : d < 64) : atI AL.cps.toList (d : Int) = some (al d) := atI_nat (al_sign d h).1
theorem map_alV (ds : List Nat) : (ds.map iv).map alV = (ds.map fun d => zs [al d]).map V.str := by
  rw [List.map_map, List.map_map]
  rfl
theorem flat_one (ds : List Nat) : (ds.map fun d => [al d]).flatten = ds.map al := by
  induction ds with
  | nil => rfl
  | cons d ds ih => rw [List.map_cons, List.flatten_cons, ih]; rfl
theorem sum_len1 (ls : List (List Nat)) {b : Nat} (h : ∀ l ∈ ls, l.length ≤ b) : ((ls.map zs).map (·.length)).sum ≤ ls.length * b := by
  rw [← List.length_map (f := zs)]
  refine sum_len fun y hy => ?_
  obtain ⟨l, hl, rfl⟩ := List.mem_map.mp hy
  rw [zs_len]
  exact h l hl
end Cd
namespace L2
open PySem
theorem g_itup {K : PySem.W.Frag} {σ : St} {H : Hp} {ta : TE} {R : It → Hp → Prop} (h : ta σ H fun x H1 => ∃ a, x = .ref a ∧ (∃ xs, SqT K H1 a xs) ∧ R (Itt K a) H1) : iTup K ta σ H R := h
end L2
namespace Cd
open PySem L2 Tx
theorem fits {x : Int} (h0 : 0 ≤ x) (h1 : x ≤ 1000000) : Builtin.Range.rangeFitsLong x = true := by
  unfold Builtin.Range.rangeFitsLong
  rw [decide_eq_true (show -(2 ^ 63) ≤ x by omega), decide_eq_true (show x < 2 ^ 63 by omega)]
  rfl
theorem rg3 {n : Nat} (h : n ≤ 100000) : RgC 0 (n : Int) 3 ((n + 2) / 3) := by
  have sz : Builtin.Range.rangeSize 0 (n : Int) 3 = (((n + 2) / 3 : Nat) : Int) := by
    unfold Builtin.Range.rangeSize
    rw [if_pos (by decide)]
    split <;> omega
  refine ⟨by decide, by decide, ?_, sz⟩
  unfold Builtin.Range.small
  rw [sz, if_pos (by decide), fits (by decide) (by decide), fits (by omega) (by omega), fits (by decide) (by decide), fits (by omega) (by omega), fits (by omega) (by omega)]
  exact Bool.or_true _
theorem rg4 {n : Nat} (h : n ≤ 100000) : RgC 0 (n : Int) 4 ((n + 3) / 4) := by
  have sz : Builtin.Range.rangeSize 0 (n : Int) 4 = (((n + 3) / 4 : Nat) : Int) := by
    unfold Builtin.Range.rangeSize
    rw [if_pos (by decide)]
    split <;> omega
  refine ⟨by decide, by decide, ?_, sz⟩
  unfold Builtin.Range.small
  rw [sz, if_pos (by decide), fits (by decide) (by decide), fits (by omega) (by omega), fits (by decide) (by decide), fits (by omega) (by omega), fits (by omega) (by omega)]
  exact Bool.or_true _
def hV : V → V
  | .int i => .str (zs (hForm i.toNat))
  | v => v
theorem map_hV (os : List Nat) : (os.map iv).map hV = ((os.map hForm).map zs).map V.str := by
  rw [List.map_map, List.map_map, List.map_map]
  rfl
theorem not_in {x : Str} {c : Nat} {l : List Nat} (h : c ∉ x.cps.toList) : (!(Builtin.Str.occurrences x (zs (c :: l)) 0 x.length 1).isEmpty) = false := by
  cases e : (!(Builtin.Str.occurrences x (zs (c :: l)) 0 x.length 1).isEmpty) with
  | false => rfl
  | true =>
    obtain ⟨i, h1, h2⟩ := (StrLaws.found_iff x (zs (c :: l))).mp e
    rw [StrLaws.subAt_eq, beq_iff_eq, zs_list, zs_len] at h2
    have m : c ∈ (x.cps.toList.drop i).take (c :: l).length := by rw [h2]; exact List.mem_cons_self ..
    exact absurd (List.mem_of_mem_drop (List.mem_of_mem_take m)) h
theorem hd_in {d : Nat} (h : d < 16) : hexD d ∈ HD.cps.toList := List.mem_of_getElem? (hd_sign d h).1
theorem hex_val {o : Nat} : ((o / 16 : Nat) : Int) * 16 + ((o % 16 : Nat) : Int) = (o : Int) := by omega
/-- the forms lie side by side -/
theorem payH_drop (os : List Nat) (i : Nat) : (payH os).drop (payH (os.take i)).length = payH (os.drop i) := by
  have e : payH os = payH (os.take i) ++ payH (os.drop i) := by rw [← payH_app, List.take_append_drop]
  rw [e, List.drop_left]
theorem payH_cons {o : Nat} {os : List Nat} : payH (o :: os) = hForm o ++ payH os := rfl
theorem payH_take {os : List Nat} {i o : Nat} (h : os[i]? = some o) : payH (os.take (i + 1)) = payH (os.take i) ++ hForm o := by
  rw [List.take_add_one, h, payH_app]
  show _ = _
  congr 1
  exact List.append_nil _
end Cd
namespace L2
open PySem
theorem sl_tupKK {X : Cx} {K : PySem.W.Frag} (h : X.K = K) : SlR X (rSlA K) := h ▸ sl_tupA
end L2
namespace Cd
open PySem L2 Tx
theorem cutS_nat (l : List Nat) (i j : Nat) : cutS (zs l) (some (i : Int)) (some (j : Int)) = zs ((l.drop i).take (j - i)) := by
  unfold cutS
  rw [zs_list, zs_len, HT.sIx_nat, HT.sIx_nat]
  show zs _ = zs _
  congr 1
  by_cases hi : i ≤ l.length
  · rw [Nat.min_eq_left hi]
    by_cases hj : j ≤ l.length
    · rw [Nat.min_eq_left hj]
    · rw [Nat.min_eq_right (show l.length ≤ j by omega)]
      rw [List.take_of_length_le (by rw [List.length_drop]; exact Nat.le_refl _), List.take_of_length_le (by rw [List.length_drop]; omega)]
  · rw [Nat.min_eq_right (show l.length ≤ i by omega)]
    rw [List.drop_of_length_le (Nat.le_refl _), List.drop_of_length_le (show l.length ≤ i by omega)]
    simp
theorem form_facts {o : Nat} (ho : o < 256) : ∃ x xs, hForm o = x :: xs ∧ ((x = 61 ∧ xs.length = 2) ∨ (x ≠ 61 ∧ xs = [])) := by
  unfold hForm
  by_cases h1 : o = 32
  · rw [if_pos h1]
    exact ⟨95, [], rfl, .inr ⟨by decide, rfl⟩⟩
  · rw [if_neg h1]
    by_cases h2 : isLD o = true
    · rw [if_pos h2]
      exact ⟨o, [], rfl, .inr ⟨(ld_facts o ho h2).2.2.2.1, rfl⟩⟩
    · rw [if_neg h2]
      exact ⟨61, _, rfl, .inl ⟨rfl, rfl⟩⟩
theorem al_mem : ∀ d, d < 64 → al d ∈ AL.cps.toList := fun d h => List.mem_of_getElem? (al_sign d h).1
theorem sform_mem {os : List Nat} (h : Oct os) : ∀ c ∈ sForm os, c ∈ AL.cps.toList := by
  intro c hc
  obtain ⟨d, hd, rfl⟩ := List.mem_map.mp hc
  exact al_mem d (sdig_lt (num3_lt h) d (List.mem_of_mem_take hd))
theorem payS_mem : ∀ os : List Nat, Oct os → ∀ c ∈ payS os, c ∈ AL.cps.toList
  | [], _, c, hc => by cases hc
  | [a], h, c, hc => sform_mem h c hc
  | [a, b], h, c, hc => sform_mem h c hc
  | x :: y :: z :: r, h, c, hc => by
    rcases List.mem_append.mp (show c ∈ sForm [x, y, z] ++ payS r from hc) with m | m
    · exact sform_mem (fun o ho => h o (by simp at ho ⊢; rcases ho with e | e | e <;> simp [e])) c m
    · exact payS_mem r (fun o ho => h o (by simp [ho])) c m
theorem payS_drop : ∀ (i : Nat) (os : List Nat), 3 * i ≤ os.length → (payS os).drop (4 * i) = payS (os.drop (3 * i))
  | 0, os, _ => rfl
  | i + 1, os, h => by
    have h3 : 3 ≤ os.length := by omega
    have e : (sForm (os.take 3)).length = 4 := by rw [sform_len (by rw [List.length_take]; omega), List.length_take]; omega
    rw [payS3 h3, show 4 * (i + 1) = (sForm (os.take 3)).length + 4 * i by omega, ← List.drop_drop, List.drop_left, payS_drop i (os.drop 3) (by rw [List.length_drop]; omega), List.drop_drop]
    congr 2
    omega
theorem payS_take4 {os : List Nat} (h : os ≠ []) : (payS os).take 4 = sForm (os.take 3) := by
  by_cases h3 : 3 ≤ os.length
  · have e : (sForm (os.take 3)).length = 4 := by rw [sform_len (by rw [List.length_take]; omega), List.length_take]; omega
    rw [payS3 h3, List.take_append_of_le_length (by omega), List.take_of_length_le (by omega)]
  · rw [payS_few h (by omega), List.take_of_length_le (show os.length ≤ 3 by omega), List.take_of_length_le (by rw [sform_len (by omega)]; omega)]
/-- digits, filled up -/
def fill (ds : List Nat) : List Nat := ds ++ List.replicate (4 - ds.length) 0
theorem ljust_al {ds : List Nat} : Txt.ljustF (zs (ds.map al)) 4 65 = zs ((fill ds).map al) := by
  refine zs_ext ?_
  rw [PyProof.Rows.ljustF_list, zs_list, zs_len]
  unfold fill
  rw [List.map_append, List.map_replicate, List.length_map]
  rfl
def fS (n d : Nat) : Nat := n * 64 + d
theorem digS_fill (ds : List Nat) : digS ds = (fill ds).foldl fS 0 := rfl
theorem fold_lt : ∀ (l : List Nat) (a : Nat), (∀ d ∈ l, d < 64) → l.foldl fS a < (a + 1) * 64 ^ l.length
  | [], a, _ => by simp
  | d :: l, a, h => by
    have ih := fold_lt l (fS a d) fun x hx => h x (List.mem_cons_of_mem _ hx)
    have hd := h d (List.mem_cons_self ..)
    rw [List.foldl_cons, List.length_cons, Nat.pow_succ]
    refine Nat.lt_of_lt_of_le ih ?_
    rw [Nat.mul_comm (64 ^ l.length) 64, ← Nat.mul_assoc]
    refine Nat.mul_le_mul_right _ ?_
    unfold fS
    omega
theorem row_iv (n : Nat) : [V.int ((n : Int) / 65536), .int ((n : Int) / 256 % 256), .int ((n : Int) % 256)] = (row3 n).map iv := rfl
def nzV : V → V
  | .int i => .bl (!decide (V.int i = V.int 0))
  | v => v
theorem zeros_none (n : Nat) : ((List.replicate n (iv 0)).map nzV) = (List.replicate n false).map V.bl := by
  rw [List.map_replicate, List.map_replicate]
  rfl
end Cd
namespace Cd
open PySem L2 Tx
theorem steps_big {d : Nat} (h1 : 127 < d) (h2 : d ≤ 65535) : stepsRow d = (d % 128 + 128) :: stepsRow (d / 128) := by
  unfold stepsRow
  rw [if_neg (by omega)]
  by_cases h : d < 16384
  · rw [if_pos h, if_pos (by omega)]
  · rw [if_neg h, if_neg (by omega), if_pos (by omega)]
    rw [Nat.div_div_eq_div_mul]
theorem steps_small {d : Nat} (h : d ≤ 127) : stepsRow d = [d] := by
  unfold stepsRow
  rw [if_pos (by omega)]
theorem steps_len (d : Nat) : (stepsRow d).length ≤ 3 := (row_len (k := .steps) (c := d)).2
theorem latin_ok {k : Kd} : V.str k.name = V.str "latin" ↔ k = .latin := by
  cases k with
  | latin => exact ⟨fun _ => rfl, fun _ => rfl⟩
  | wide => exact ⟨fun h => absurd (V.str.inj h) (by decide +kernel), fun h => by cases h⟩
  | steps => exact ⟨fun h => absurd (V.str.inj h) (by decide +kernel), fun h => by cases h⟩
theorem wide_ok {k : Kd} : V.str k.name = V.str "wide" ↔ k = .wide := by
  cases k with
  | latin => exact ⟨fun h => absurd (V.str.inj h) (by decide +kernel), fun h => by cases h⟩
  | wide => exact ⟨fun _ => rfl, fun _ => rfl⟩
  | steps => exact ⟨fun h => absurd (V.str.inj h) (by decide +kernel), fun h => by cases h⟩
theorem name_in (k : Kd) : decide (k.name ∈ ([("latin" : Str), "wide", "steps"] : List Str)) = true := by cases k <;> decide +kernel
theorem name_any (k : Kd) (H : Hp) : AnyO H (.str k.name) := .str _ (by cases k <;> decide +kernel) (by cases k <;> decide +kernel)
theorem snoc_of {rs : List Nat} (h : rs ≠ []) : ∃ ys, rs = ys ++ [rs.getD (rs.length - 1) 0] := by
  refine ⟨rs.dropLast, ?_⟩
  have e := List.dropLast_concat_getLast h
  rw [List.getLast_eq_getElem h] at e
  have hp : 0 < rs.length := List.length_pos_iff.mpr h
  rw [List.getD_eq_getElem?_getD, List.getElem?_eq_getElem (show rs.length - 1 < rs.length by omega)]
  exact e.symm
theorem last_iv {rs : List Nat} (h : rs ≠ []) : atI (rs.map iv) (-1) = some (iv (rs.getD (rs.length - 1) 0)) := by
  obtain ⟨ys, e⟩ := snoc_of h
  generalize rs.getD (rs.length - 1) 0 = y at e ⊢
  subst e
  rw [List.map_append]
  exact atI_last _ _
theorem first_iv {rs : List Nat} (h : rs ≠ []) : atI (rs.map iv) 0 = some (iv (rs.getD 0 0)) := by
  match rs, h with
  | r :: rs, _ => exact atI_nat (j := 0) rfl
theorem whole_steps {rs : List Nat} (h : rs ≠ []) : whole .steps rs = (decide (rs.getD (rs.length - 1) 0 < 128) || decide (rs.length = 3)) := by
  have hp : 0 < rs.length := List.length_pos_iff.mpr h
  have e : rs.getLast? = some (rs.getD (rs.length - 1) 0) := by
    rw [List.getLast?_eq_getElem?, List.getD_eq_getElem?_getD, List.getElem?_eq_getElem (show rs.length - 1 < rs.length by omega)]
    rfl
  show (decide (_ ∧ _) || _) = _
  rw [e]
  simp
def mx : Kd → Nat | .latin => 0 | .wide => 1 | .steps => 2
theorem not_whole {k : Kd} {r : List Nat} {o : Nat} (h : r.length ≤ mx k) (w : ¬ whole k (r ++ [o]) = true) : (r ++ [o]).length ≤ mx k := by
  refine Nat.le_of_not_lt fun z => w ?_
  rw [List.length_append] at z
  cases k with
  | latin => rfl
  | wide =>
    have e : (r ++ [o]).length = 2 := by
      rw [List.length_append]
      have : mx .wide = 1 := rfl
      simp at z
      simp
      omega
    exact decide_eq_true e
  | steps =>
    have e : (r ++ [o]).length = 3 := by
      rw [List.length_append]
      have : mx .steps = 2 := rfl
      simp at z
      simp
      omega
    rw [whole_steps (by simp), decide_eq_true e, Bool.or_true]
structure Kept (k : Kd) (os : List Nat) (n : Nat) (p : List (List Nat) × List Nat) : Prop where
  rows : ∀ r ∈ p.1, r ≠ [] ∧ r.length ≤ 3 ∧ ∀ o ∈ r, o ∈ os
  few : p.2.length ≤ mx k
  open_ : ∀ o ∈ p.2, o ∈ os
  many : p.1.length ≤ n
theorem mx_le (k : Kd) : mx k ≤ 2 := by cases k <;> decide
theorem Kept.step {k : Kd} {os : List Nat} {n : Nat} {p : List (List Nat) × List Nat} (h : Kept k os n p) {o : Nat} (ho : o ∈ os) : Kept k os (n + 1) (rstep k p o) := by
  have ml := mx_le k
  have hw : ∀ x ∈ p.2 ++ [o], x ∈ os := fun x hx => by
    rcases List.mem_append.mp hx with y | y
    · exact h.open_ x y
    · rw [List.mem_singleton.mp y]
      exact ho
  unfold rstep
  by_cases w : whole k (p.2 ++ [o]) = true
  · rw [if_pos w]
    refine ⟨fun r hr => ?_, Nat.zero_le _, fun x hx => (nomatch hx), ?_⟩
    · rcases List.mem_append.mp hr with m | m
      · exact h.rows r m
      · rw [List.mem_singleton.mp m]
        refine ⟨by simp, ?_, hw⟩
        have := h.few
        rw [List.length_append]
        simp
        omega
    · show (p.1 ++ [p.2 ++ [o]]).length ≤ n + 1
      rw [List.length_append]
      exact Nat.add_le_add_right h.many 1
  · rw [if_neg w]
    exact ⟨h.rows, not_whole h.few w, hw, Nat.le_succ_of_le h.many⟩
theorem Kept.at {k : Kd} (os : List Nat) : ∀ i, Kept k os i ((os.take i).foldl (rstep k) ([], []))
  | 0 => ⟨fun r hr => (nomatch hr), Nat.zero_le _, fun x hx => (nomatch hx), Nat.le_refl _⟩
  | i + 1 => by
    cases e : os[i]? with
    | none =>
      rw [List.take_add_one, e]
      have ih := Kept.at (k := k) os i
      simp only [Option.toList, List.append_nil]
      exact ⟨ih.rows, ih.few, ih.open_, Nat.le_succ_of_le ih.many⟩
    | some o =>
      rw [List.take_add_one, e, List.foldl_append]
      exact (Kept.at (k := k) os i).step (List.mem_of_getElem? e)
theorem rows_kept {k : Kd} (os : List Nat) : ∀ r ∈ rowsOf k os, r ≠ [] ∧ r.length ≤ 3 ∧ ∀ o ∈ r, o ∈ os := by
  have h := Kept.at (k := k) os os.length
  rw [List.take_of_length_le (Nat.le_refl _)] at h
  unfold rowsOf
  intro r hr
  by_cases e : (os.foldl (rstep k) ([], [])).2 = []
  · simp only [e, if_true] at hr
    exact h.rows r hr
  · simp only [e, if_false] at hr
    rcases List.mem_append.mp hr with m | m
    · exact h.rows r m
    · rw [List.mem_singleton.mp m]
      exact ⟨e, Nat.le_trans h.few (Nat.le_trans (mx_le k) (by decide)), h.open_⟩
theorem rows_len {k : Kd} (os : List Nat) : (rowsOf k os).length ≤ os.length + 1 := by
  have h := Kept.at (k := k) os os.length
  rw [List.take_of_length_le (Nat.le_refl _)] at h
  unfold rowsOf
  by_cases e : (os.foldl (rstep k) ([], [])).2 = []
  · simp only [e, if_true]
    exact Nat.le_succ_of_le h.many
  · simp only [e, if_false]
    rw [List.length_append]
    exact Nat.add_le_add_right h.many 1
def num (r : List Nat) (a : Nat) : Nat := r.foldl (fun n o => n * 128 + o % 128) a
theorem num_back (r : List Nat) : num r.reverse 0 = r.foldr (fun o n => n * 128 + o % 128) 0 := by
  unfold num
  rw [List.foldl_reverse]
end Cd
namespace Cd
open PySem L2 Tx
theorem flat_len {k : Kd} (cs : List Nat) (i : Nat) : (((cs.take i).map (rowOf k)).flatten).length ≤ 3 * cs.length := by
  have h : ∀ l : List Nat, ((l.map (rowOf k)).flatten).length ≤ 3 * l.length := fun l => by
    induction l with
    | nil => exact Nat.le_refl _
    | cons c l ih =>
      rw [List.map_cons, List.flatten_cons, List.length_append, List.length_cons]
      have := (row_len (k := k) (c := c)).2
      omega
  have := h (cs.take i)
  rw [List.length_take] at this
  omega
/-- a tuple is left by a change of a list -/
theorem sqt_upd {K : PySem.W.Frag} {H : Hp} {t l : Addr} {xs ys : List V} {o : HO} (h : SqT K H t xs) (e : H l = some (.lst ys)) : SqT K (upd H l o) t xs := by
  rcases h with (h | ⟨u, h⟩) | h
  · exact .inl (.inl (by rw [upd_ne (ne_of h e (by intro z; cases z))]; exact h))
  · exact .inl (.inr ⟨u, by rw [upd_ne (ne_of h e (by intro z; cases z))]; exact h⟩)
  · exact .inr h
end Cd
namespace L2
open PySem
theorem paired_at {α β : Type} {F : α → β → Prop} {l1 : List α} {l2 : List β} (p : Paired F l1 l2) : ∀ {i : Nat} {a : α}, l1[i]? = some a → ∃ b, l2[i]? = some b ∧ F a b := by
  induction p with
  | nil => intro i a h; simp at h
  | cons hd tl ih =>
    intro i a h
    cases i with
    | zero =>
      simp only [List.getElem?_cons_zero, Option.some.injEq] at h ⊢
      subst h
      exact ⟨_, rfl, hd⟩
    | succ i =>
      simp only [List.getElem?_cons_succ] at h ⊢
      exact ih h
section
variable {K : PySem.W.Frag} {g : TG} {te : TE} {vs : List Nat} {σ : St} {H1 : Hp} {D : Addr} {Qd : Hp → Prop} {a : Addr} {xs : List V}
/-- over a list, with the place -/
theorem lc_pureLi (f : Nat → V) (ha : SqL K H1 a xs) (hD : H1 D = none) (hn : xs.length ≤ 100000)
    (hs : ∀ i x H (N : V → Hp → Prop), xs[i]? = some x → Same H1 H → (∀ H4, Same H H4 → N (f i) H4) → g x (wipe σ vs) H fun σ2 H2 => wipe σ2 vs = wipe σ vs ∧ te σ2 H2 N) (hd : ∀ H, Same H1 H → H D = some (.lst ((List.range xs.length).map f)) → Qd H) :
    ∃ W : Nat → Nat → Hp → Prop, (∃ m, W 0 m (upd H1 D (.lst []))) ∧ ∀ i m H, W i m H →
      ((Itl K a).stop i H ∧ Qd H) ∨ ((Itl K a).go i H ∧ ∃ Nx : Hp → Prop, (∀ H', Nx H' → ∃ m', m' < m ∧ W (i + 1) m' H') ∧ ∀ x H', (Itl K a).yld i H x H' → g x (wipe σ vs) H' fun σ2 H2 => wipe σ2 vs = wipe σ vs ∧ tYes σ2 H2 fun b H3 =>
        if b = true then te σ2 H3 fun y H4 => ∃ acc, H4 D = some (.lst acc) ∧ acc.length < sizeLine ∧ Nx (upd H4 D (.lst (acc ++ [y]))) else Nx H3) := by
  refine lc_pure (n := xs.length) (it := fun i => xs.getD i .non) (G := fun H => SqL K H a xs) f (walk_list.mono (fun _ h => h) fun i H x H' hi _ y => ⟨y.1, ?_⟩) (fun H s => Same.seq s ha) hD hn (fun i H N hi s k => ?_) fun H s e => hd H s e
  · rw [List.getD_eq_getElem?_getD, y.2]
    rfl
  · refine hs i _ H N ?_ s k
    rw [List.getD_eq_getElem?_getD, List.getElem?_eq_getElem hi]
    rfl
end
end L2
namespace Cd
open PySem L2 Tx
def oD : Option Nat → PyData | some c => .int (c : Int) | none => .none
def okO (o : Option Nat) : Bool := match o with | some c => isC c | none => false
theorem isC63 : isC 63 = true := by decide +kernel
theorem known_eqv (o : Option Nat) : PyData.eqv (.int (known o : Int)) (oD o) = okO o := by
  cases o with
  | none => simp [known, oD, okO, PyData.eqv]
  | some c =>
    show PyData.eqv (.int ((if isC c = true then c else 63 : Nat) : Int)) (.int (c : Int)) = isC c
    rw [PyData.eqv]
    by_cases h : isC c = true
    · rw [if_pos h, h]
      simp
    · rw [if_neg h]
      have h2 : c ≠ 63 := fun e => h (e ▸ isC63)
      have h3 : ¬ ((63 : Nat) : Int) = (c : Int) := by omega
      cases e : isC c with
      | true => exact absurd e h
      | false => simpa using h3
theorem dpO {K : PySem.W.Frag} {H : Hp} : ∀ os : List (Option Nat), DpAll K H (os.map oV) (os.map oD)
  | [] => .nil
  | none :: os => .cons .non (dpO os)
  | some c :: os => .cons (.int _) (dpO os)
theorem knowns_eqv : ∀ os : List (Option Nat), PyData.eqvAll (os.map fun o => PyData.int (known o : Int)) (os.map oD) = os.all okO
  | [] => by simp [PyData.eqvAll]
  | o :: os => by
    rw [List.map_cons, List.map_cons, PyData.eqvAll, knowns_eqv os, known_eqv, List.all_cons]
theorem cla_O : ∀ os : List (Option Nat), PyData.canLayAll0 (os.map oD) = true
  | [] => by simp [PyData.canLayAll0]
  | none :: os => by
    have := cla_O os
    simp [PyData.canLayAll0, PyData.canLay0, oD, this]
  | some c :: os => by
    have := cla_O os
    simp [PyData.canLayAll0, PyData.canLay0, oD, this]
theorem dep_O : ∀ os : List (Option Nat), PyData.depthAll (os.map oD) ≤ 1
  | [] => by simp [PyData.depthAll]
  | none :: os => by
    have := dep_O os
    simp only [List.map_cons, PyData.depthAll, PyData.depth, oD]
    omega
  | some c :: os => by
    have := dep_O os
    simp only [List.map_cons, PyData.depthAll, PyData.depth, oD]
    omega
theorem shaped_O (os : List (Option Nat)) : SeqAt.shaped (.list (os.map oD)) = true := by
  have h1 := dep_O os
  show (PyData.canLay0 _ && decide (PyData.depth _ ≤ 64)) = true
  rw [Bool.and_eq_true]
  refine ⟨?_, decide_eq_true ?_⟩
  · simp only [PyData.canLay0]
    exact cla_O os
  · simp only [PyData.depth]
    omega
theorem shaped_L (cs : List Nat) : SeqAt.shaped (.list (cs.map fun (c : Nat) => PyData.int (c : Int))) = true := by
  have h1 := dep_ints cs
  show (PyData.canLay0 _ && decide (PyData.depth _ ≤ 64)) = true
  rw [Bool.and_eq_true]
  refine ⟨?_, decide_eq_true ?_⟩
  · simp only [PyData.canLay0]
    exact cla_ints cs
  · simp only [PyData.depth]
    omega
theorem eqv_lst (os : List (Option Nat)) : PyData.eqv (.list ((os.map known).map fun (c : Nat) => PyData.int (c : Int))) (.list (os.map oD)) = os.all okO := by
  rw [PyData.eqv, List.map_map]
  exact knowns_eqv os
theorem knV (o : Option Nat) : (if Mk.isCode (oV o) = true then oV o else V.int 63) = iv (known o) := by
  cases o with
  | none => rfl
  | some c =>
    show (if isC c = true then iv c else V.int 63) = iv (if isC c = true then c else 63)
    by_cases h : isC c = true
    · rw [if_pos h, if_pos h]
    · rw [if_neg h, if_neg h]
      rfl
theorem eqv_nil (rs : List Nat) : PyData.eqv (.tuple (rs.map fun (c : Nat) => PyData.int (c : Int))) (.tuple []) = decide (rs = []) := eqv_tup rs []
end Cd
namespace Cd
open PySem L2 Tx
theorem steps_of {k : Kd} (h1 : ¬ V.str k.name = V.str "latin") (h2 : ¬ V.str k.name = V.str "wide") : k = .steps := by
  cases k with
  | latin => exact absurd (latin_ok.mpr rfl) h1
  | wide => exact absurd (wide_ok.mpr rfl) h2
  | steps => rfl
theorem two {rs : List Nat} (h : rs.length = 2) : ∃ a b, rs = [a, b] := by
  match rs, h with
  | [a, b], _ => exact ⟨a, b, rfl⟩
end Cd
namespace Cd
open PySem L2 Tx
theorem wide_len (rs : List Nat) : decide (V.int ((rs.map iv).length : Int) = V.int 2) = whole .wide rs := by
  refine decide_eq_decide.mpr ?_
  rw [List.length_map]
  exact ⟨fun h => by have := V.int.inj h; omega, fun h => by rw [h]; rfl⟩
theorem len3 (rs : List Nat) : decide (V.int ((rs.map iv).length : Int) = V.int 3) = decide (rs.length = 3) := by
  refine decide_eq_decide.mpr ?_
  rw [List.length_map]
  exact ⟨fun h => by have := V.int.inj h; omega, fun h => by rw [h]; rfl⟩
theorem t0_upd {H : Hp} {a l : Addr} {row : List Nat} {xs : List V} {o : HO} (h : T0 H a row) (e : H l = some (.lst xs)) : T0 (upd H l o) a row := by
  show upd _ _ _ _ = _
  rw [upd_ne (ne_of h e (by intro z; cases z))]
  exact h
theorem t0_new {H : Hp} {a r : Addr} {row : List Nat} {o : HO} (h : T0 H a row) (e : H r = none) : T0 (upd H r o) a row := same_new e _ _ h
end Cd
namespace Cd
open PySem L2 Tx
theorem rows_nil {k : Kd} {os : List Nat} (h : (os.foldl (rstep k) ([], [])).2 = []) : rowsOf k os = (os.foldl (rstep k) ([], [])).1 := if_pos h
theorem rows_more {k : Kd} {os : List Nat} (h : ¬ (os.foldl (rstep k) ([], [])).2 = []) : rowsOf k os = (os.foldl (rstep k) ([], [])).1 ++ [(os.foldl (rstep k) ([], [])).2] := if_neg h
end Cd
namespace Cd
open PySem L2 Tx
theorem codes_list {k : Kd} (rs : List (List Nat)) : (List.range rs.length).map (fun i => oV (codeOf k (rs.getD i []))) = (rs.map (codeOf k)).map oV := by
  apply List.ext_getElem
  · simp
  · intro i h1 h2
    simp at h1
    simp [List.getD_eq_getElem?_getD, List.getElem?_eq_getElem h1]
end Cd
namespace Cd
open PySem L2 Tx
theorem any_oV (o : Option Nat) (H : Hp) : AnyO H (oV o) := by
  cases o with
  | none => exact .non
  | some c => exact .int _
theorem kn_list (cs : List (Option Nat)) : (cs.map oV).map (fun v => if Mk.isCode v = true then v else V.int 63) = (cs.map known).map iv := by
  rw [List.map_map, List.map_map]
  exact List.map_congr_left fun o _ => knV o
theorem known_ok (cs : List (Option Nat)) : ∀ c ∈ cs.map known, Mk.isCode (iv c) = true := by
  intro c hc
  obtain ⟨o, _, rfl⟩ := List.mem_map.mp hc
  cases o with
  | none => exact isC63
  | some d =>
    show isC (if isC d = true then d else 63) = true
    by_cases h : isC d = true
    · rw [if_pos h]
      exact h
    · rw [if_neg h]
      exact isC63
end Cd
namespace Cd
open PySem L2 Tx
theorem al_inj {d e : Nat} (hd : d < 64) (he : e < 64) (h : al d = al e) : d = e := by
  have a := al_occ d hd
  rw [h, al_occ e he] at a
  exact (List.cons.inj a).1.symm
theorem map_al_inj : ∀ {l m : List Nat}, (∀ d ∈ l, d < 64) → (∀ d ∈ m, d < 64) → l.map al = m.map al → l = m
  | [], [], _, _, _ => rfl
  | [], e :: m, _, _, h => by cases h
  | d :: l, [], _, _, h => by cases h
  | d :: l, e :: m, hl, hm, h => by
    rw [List.map_cons, List.map_cons] at h
    injection h with h1 h2
    rw [al_inj (hl d (by simp)) (hm e (by simp)) h1, map_al_inj (fun x hx => hl x (by simp [hx])) (fun x hx => hm x (by simp [hx])) h2]
theorem sForm_inj {a b : List Nat} (ha : Oct a) (hb : Oct b) (a0 : a ≠ []) (b0 : b ≠ []) (a3 : a.length ≤ 3) (hl : a.length = b.length) (h : sForm a = sForm b) : a = b := by
  have la : ∀ d ∈ (sDigits (num3 a)).take (a.length + 1), d < 64 := fun d hd => sdig_lt (num3_lt ha) d (List.mem_of_mem_take hd)
  have lb : ∀ d ∈ (sDigits (num3 b)).take (b.length + 1), d < 64 := fun d hd => sdig_lt (num3_lt hb) d (List.mem_of_mem_take hd)
  have e := map_al_inj la lb h
  have p := sback ha a0 a3
  rw [e, sback hb b0 (hl ▸ a3), hl] at p
  exact (List.append_cancel_right p).symm
theorem payS_inj0 : ∀ (n : Nat) (a b : List Nat), a.length ≤ n → Oct a → Oct b → a.length = b.length → payS a = payS b → a = b
  | 0, a, b, hn, _, _, hl, _ => by
    have e1 := List.length_eq_zero_iff.mp (Nat.le_zero.mp hn)
    subst e1
    exact (List.length_eq_zero_iff.mp hl.symm).symm
  | n + 1, a, b, hn, ha, hb, hl, h => by
    by_cases a0 : a = []
    · subst a0
      exact (List.length_eq_zero_iff.mp hl.symm).symm
    have b0 : b ≠ [] := fun e => by
      rw [e] at hl
      exact a0 (List.length_eq_zero_iff.mp hl)
    have pa : 0 < a.length := List.length_pos_iff.mpr a0
    have e1 : sForm (a.take 3) = sForm (b.take 3) := by rw [← payS_take4 a0, ← payS_take4 b0, h]
    have l3 : (a.take 3).length = (b.take 3).length := by rw [List.length_take, List.length_take, hl]
    have e2 : a.take 3 = b.take 3 := sForm_inj (fun o ho => ha o (List.mem_of_mem_take ho)) (fun o ho => hb o (List.mem_of_mem_take ho)) (fun e => (List.take_eq_nil_iff.mp e).elim (fun z => absurd z (by decide)) a0) (fun e => (List.take_eq_nil_iff.mp e).elim (fun z => absurd z (by decide)) b0) (by rw [List.length_take]; exact Nat.min_le_left _ _) l3 e1
    by_cases h3 : 3 ≤ a.length
    · have d1 := payS_drop 1 a (by omega)
      have d2 := payS_drop 1 b (by omega)
      rw [h] at d1
      have e3 : a.drop 3 = b.drop 3 := payS_inj0 n _ _ (by rw [List.length_drop]; omega) (fun o ho => ha o (List.mem_of_mem_drop ho)) (fun o ho => hb o (List.mem_of_mem_drop ho)) (by rw [List.length_drop, List.length_drop, hl]) (d1.symm.trans d2)
      rw [← List.take_append_drop 3 a, ← List.take_append_drop 3 b, e2, e3]
    · rw [List.take_of_length_le (by omega), List.take_of_length_le (by omega)] at e2
      exact e2
theorem payS_inj {a b : List Nat} (ha : Oct a) (hb : Oct b) (h : payS a = payS b) : a = b := by
  refine payS_inj0 a.length a b (Nat.le_refl _) ha hb ?_ h
  have := congrArg List.length h
  rw [payS_len, payS_len] at this
  omega
theorem flat_inj {k : Kd} {cs ds : List Nat} (hc : ∀ c ∈ cs, inKd k c) (hd : ∀ c ∈ ds, inKd k c) (h : (cs.map (rowOf k)).flatten = (ds.map (rowOf k)).flatten) : cs = ds := by
  have e := rows_back hc
  rw [h, rows_back hd] at e
  have f := congrArg (List.map (codeOf k)) e
  rw [List.map_map, List.map_map] at f
  have g : ∀ l : List Nat, (∀ c ∈ l, inKd k c) → l.map (codeOf k ∘ rowOf k) = l.map some := fun l hl => List.map_congr_left fun c hm => code_back (hl c hm)
  rw [g _ hc, g _ hd] at f
  exact ((List.map_inj_right (fun _ _ h => Option.some.inj h)).mp f).symm
theorem flat_oct {k : Kd} {cs : List Nat} (hc : ∀ c ∈ cs, inKd k c) : Oct (cs.map (rowOf k)).flatten := by
  intro o ho
  obtain ⟨r, hr, hm⟩ := List.mem_flatten.mp ho
  obtain ⟨c, hcm, rfl⟩ := List.mem_map.mp hr
  exact row_lt (hc c hcm) o hm
theorem flat_le {k : Kd} (cs : List Nat) : ((cs.map (rowOf k)).flatten).length ≤ 3 * cs.length := by
  have := flat_len (k := k) cs cs.length
  rwa [List.take_of_length_le (Nat.le_refl _)] at this
theorem flat_app {k : Kd} (cs ds : List Nat) : ((cs ++ ds).map (rowOf k)).flatten = (cs.map (rowOf k)).flatten ++ (ds.map (rowOf k)).flatten := by rw [List.map_append, List.flatten_append]
/-- what is read again -/
theorem read_known {k : Kd} {cs : List Nat} (hc : ∀ c ∈ cs, inKd k c) (hk : ∀ c ∈ cs, isC c = true) : ((rowsOf k (cs.map (rowOf k)).flatten).map fun r => known (codeOf k r)) = cs := by
  rw [rows_back hc, List.map_map]
  refine (List.map_congr_left (g := id) fun c hm => ?_).trans (List.map_id _)
  show known (codeOf k (rowOf k c)) = c
  rw [code_back (hc c hm)]
  exact if_pos (hk c hm)
theorem read_all {k : Kd} {cs : List Nat} (hc : ∀ c ∈ cs, inKd k c) (hk : ∀ c ∈ cs, isC c = true) : ((rowsOf k (cs.map (rowOf k)).flatten).all fun r => match codeOf k r with | some c => isC c | none => false) = true := by
  rw [rows_back hc, List.all_map, List.all_eq_true]
  intro c hm
  show (match codeOf k (rowOf k c) with | some c => isC c | none => false) = true
  rw [code_back (hc c hm)]
  exact hk c hm
theorem zs_inj {l m : List Nat} (h : zs l = zs m) : l = m := by
  have := congrArg (fun z : Str => z.cps.toList) h
  rwa [zs_list, zs_list] at this
theorem zs_app (l m : List Nat) : zs l ++ zs m = zs (l ++ m) := by
  refine zs_ext ?_
  rw [ap_list, zs_list, zs_list]
theorem sqt_kp {K : PySem.W.Frag} {d t : Addr} {H H' : Hp} {xs : List V} {kvs : List (Key × V)} (h : SqT K H t xs) (e : H d = some (.dK kvs)) (k : Dr.Kp d H H') : SqT K H' t xs := by
  rcases h with (h | ⟨u, h⟩) | h
  · exact .inl (.inl (k _ _ (ne_of h e (by intro z; cases z)) h))
  · exact .inl (.inr ⟨u, k _ _ (ne_of h e (by intro z; cases z)) h⟩)
  · exact .inr h
theorem At.kp {K : PySem.W.Frag} {d l C a : Addr} {m : Nat} {H H' : Hp} {cs : List Nat} (h : At K H C a cs) (D : Dr.Draw H d l m) (k : Dr.Kp d H H') : At K H' C a cs := by
  obtain ⟨ns, u1, u2, u3, e, _⟩ := D
  obtain ⟨dx, t, h1, h2⟩ := h
  exact ⟨dx, t, k _ _ (ne_of h1 e (by intro z; cases z)) h1, sqt_kp h2 e k⟩
theorem cnt_is (c : Nat) : ∀ l : List Nat, PyProof.Rows.cnt c l = (l.count c : Int)
  | [] => rfl
  | n :: l => by
    rw [PyProof.Rows.cnt_cons, cnt_is c l, List.count_cons]
    by_cases h : n = c
    · rw [if_pos h, if_pos (by rw [h]; exact beq_self_eq_true c)]
      omega
    · rw [if_neg h, if_neg (by rw [beq_iff_eq]; exact h)]
      omega
theorem count_eq61 (l : List Nat) : Txt.count (zs l) "=" = (l.count 61 : Int) := by
  have e : ("=" : Str) = ⟨#[61]⟩ := by decide +kernel
  rw [e, PyProof.Rows.count_is]
  exact (cnt_is 61 _).trans (by rw [zs_list])
/-- the equality of texts, for the comparison of tuples that hold them -/
def RT (K : PySem.W.Frag) (C : Addr) (a b : Addr) (H : Hp) : Prop := ∃ cs, At K H C a cs ∧ At K H C b cs
def DT (K : PySem.W.Frag) (C : Addr) : Eqv := fun x y H => DIns C (RT K C) x y H ∨ DFlat x y H
theorem At.ext {K : PySem.W.Frag} {C a : Addr} {H H' : Hp} {cs : List Nat} (h : At K H C a cs) (e : Ext H H') : At K H' C a cs := h.same fun _ _ => e _ _
theorem mon_DT {K : PySem.W.Frag} {C : Addr} : Mon (DT K C) := Mon.or (mon_ins fun a b H H' e ⟨cs, h1, h2⟩ => ⟨cs, At.ext h1 e, At.ext h2 e⟩) mon_flat
theorem eqG_DT {X : Cx} {n : Nat} {CX : CXT} {C f : Addr} {fd : FuncData} {ps : List Str} (F : FnOk X.prog X.w X.K X.mg X.base CX n f fd ps (Tx.spEq X.K C))
    (hs : PySem.W.findIn X.K (.ref C) "__eq__" = some (some (.ref f))) (hf : PySem.W.isFn X.K (.ref f) = true) (hb : Binds X.K fd ps []) {E : XK} (hx : Passes CX X E) : EqG X n (DT X.K C) :=
  EqG.or (eqG_ins (F.imp fun vs H Q E h => by
    obtain ⟨a, b, rfl, ⟨cs, h1, h2⟩, q⟩ := h
    refine ⟨a, b, cs, cs, rfl, h1, h2, ?_⟩
    rw [decide_eq_true rfl]
    exact q H Ext.rfl') hs hf hb hx) (eqG_flat.mono (Nat.zero_le _))
theorem DTup_of {K : PySem.W.Frag} {C p q a b : Addr} {H : Hp} {cs : List Nat} (h1 : H p = some (.tup [.ref a, .bl true])) (h2 : H q = some (.tup [.ref b, .bl true])) (ha : At K H C a cs) (hb : At K H C b cs) : DTup K (DT K C) (.ref p) (.ref q) H := by
  refine ⟨p, q, _, _, rfl, rfl, SqT.of h1, SqT.of h2, rfl, fun i x y e1 e2 => ?_⟩
  match i, e1, e2 with
  | 0, e1, e2 =>
    obtain rfl := Option.some.inj e1
    obtain rfl := Option.some.inj e2
    obtain ⟨dx, t, g1, g2⟩ := id ha
    obtain ⟨dy, u, g3, g4⟩ := id hb
    exact .inl ⟨a, b, dx, dy, _, _, rfl, rfl, g1, g3, cs, ha, hb⟩
  | 1, e1, e2 =>
    obtain rfl := Option.some.inj e1
    obtain rfl := Option.some.inj e2
    exact .inr ⟨rfl, rfl, rfl⟩
  | i + 2, e1, e2 => cases e1
/-! promises of the law's own -/
def spNumbers : Sp := fun vs H Q _ => ∃ (d l : Addr) (m n : Nat), vs = [.ref d, iv n] ∧ Dr.Draw H d l m ∧ m ≤ 500000 ∧ n ≤ 30 ∧ ∀ (cs : List Nat) (p : Addr) H1, cs.length ≤ n → (∀ c ∈ cs, isC c = true) → H1 p = some (.lst (cs.map iv)) → Dr.Draw H1 d l (m + 40) → Dr.Kp d H H1 → Q (.ref p) H1
def spText (K : PySem.W.Frag) (C : Addr) : Sp := fun vs H Q _ => ∃ (d l : Addr) (m n : Nat), vs = [.ref d, iv n] ∧ Dr.Draw H d l m ∧ m ≤ 500000 ∧ n ≤ 30 ∧ ∀ (cs : List Nat) (p : Addr) H1, cs.length ≤ n → (∀ c ∈ cs, isC c = true) → At K H1 C p cs → Dr.Draw H1 d l (m + 40) → Dr.Kp d H H1 → Q (.ref p) H1
def spRight (K : PySem.W.Frag) (C : Addr) : Sp := fun vs H Q _ => ∃ k a cs, vs = [.ref a, .str (Kd.name k)] ∧ At K H C a cs ∧ cs.length ≤ 30 ∧ (∀ c ∈ cs, isC c = true) ∧ (∀ c ∈ cs, inKd k c) ∧ ∀ H1, Same H H1 → Q (.bl true) H1
def spSums (K : PySem.W.Frag) (C : Addr) : Sp := fun vs H Q _ => ∃ k a b cs ds, vs = [.ref a, .ref b, .str (Kd.name k)] ∧ At K H C a cs ∧ At K H C b ds ∧ cs.length ≤ 30 ∧ ds.length ≤ 30 ∧ (∀ c ∈ cs, inKd k c) ∧ (∀ c ∈ ds, inKd k c) ∧ ∀ H1, Same H H1 → Q (.bl true) H1

theorem ways {i : Nat} {x : V} (h : [V.str "h", V.str "s"][i]? = some x) : ∃ b, x = V.str (cname b) := by
  match i, h with
  | 0, h => exact ⟨true, (Option.some.inj h).symm⟩
  | 1, h => exact ⟨false, (Option.some.inj h).symm⟩
  | i + 2, h => cases h

end Cd
namespace L2
open PySem
theorem ix_listKK {X : Cx} {K : PySem.W.Frag} (h : X.K = K) : IxR X (rIxL K) := h ▸ ix_list
end L2
namespace Cd
open PySem L2 Tx
def SOMES : List Nat := [97, 98, 32, 32, 122, 65, 48, 32, 97, 34, 92, 61, 63, 95, 44, 60, 62, 40, 41, 59, 64, 58, 126, 45, 160, 233, 255, 256, 8364, 65535]
theorem somes_ok : ∀ c ∈ SOMES, isC c = true := by decide +kernel
end Cd
namespace Cd
open PySem L2 Tx
theorem pick {v : Int} (h0 : 0 ≤ v) (h1 : v < 30) : ∃ c ∈ SOMES, atI (SOMES.map iv) v = some (iv c) := by
  have hl : SOMES.length = 30 := by decide +kernel
  have hi : v.toNat < SOMES.length := by omega
  refine ⟨SOMES[v.toNat], List.getElem_mem hi, ?_⟩
  have e := atI_nat (xs := SOMES.map iv) (j := v.toNat) (v := iv SOMES[v.toNat]) (by rw [List.getElem?_map, List.getElem?_eq_getElem hi]; rfl)
  rw [Int.toNat_of_nonneg h0] at e
  exact e
theorem in_app {k : Kd} {cs ds : List Nat} (h1 : ∀ c ∈ cs, inKd k c) (h2 : ∀ c ∈ ds, inKd k c) : ∀ c ∈ cs ++ ds, inKd k c := fun c h => (List.mem_append.mp h).elim (h1 c) (h2 c)
end Cd
namespace Cd
open PySem L2 Tx
theorem own2 {K : PySem.W.Frag} {H : Hp} {C a b : Addr} {cs ds : List Nat} {sp : Sp} {E : XK} {Q : VK} (h1 : At K H C a cs) (h2 : At K H C b ds) (q : sp [.ref a, .ref b] H Q E) : rOwn2 C sp E (.ref a) (.ref b) H Q := by
  obtain ⟨dx, t, e1, _⟩ := h1
  obtain ⟨dy, u, e2, _⟩ := h2
  exact ⟨a, b, dx, dy, _, _, rfl, rfl, e1, e2, q⟩
theorem oct_app {a b : List Nat} (ha : Oct a) (hb : Oct b) : Oct (a ++ b) := fun o h => (List.mem_append.mp h).elim (ha o) (hb o)
theorem payS_le {os : List Nat} (h : os.length ≤ 1000) : (zs (payS os)).length ≤ 2000 := by
  rw [zs_len, payS_len]
  omega
theorem payH_le {os : List Nat} (h : os.length ≤ 1000) : (zs (payH os)).length ≤ 3000 := by
  rw [zs_len]
  have := payH_len os
  omega
theorem payS_cut (os rs : List Nat) : payS (os.take (os.length - os.length % 3)) ++ payS (os.drop (os.length - os.length % 3) ++ rs) = payS (os ++ rs) := by
  rw [← payS_app _ _ (by rw [List.length_take]; omega), ← List.append_assoc, List.take_append_drop]
theorem same_pay {cs ds os rs : List Nat} (oc : Oct os) (od : Oct rs) (inj : os = rs → cs = ds) (fwd : cs = ds → os = rs) : decide (V.bl (decide (V.str (zs (payS os)) = V.str (zs (payS rs)))) = V.bl (decide (cs = ds))) = true := by
  refine decide_eq_true (congrArg V.bl (decide_eq_decide.mpr ⟨fun h => inj (payS_inj oc od (zs_inj (V.str.inj h))), fun h => ?_⟩))
  rw [fwd h]
end Cd
namespace L2
open PySem
section
variable {K : PySem.W.Frag} {g : TG} {te : TE} {tt : TT} {vs : List Nat} {σ : St} {H1 : Hp} {D : Addr} {Qd : Hp → Prop} {a : Addr} {xs : List V}
/-- over a tuple, what a test lets pass -/
theorem lc_filtT (pr : V → Bool) (ha : SqT K H1 a xs) (hD : H1 D = none) (hn : xs.length ≤ 100000)
    (hs : ∀ x H (N : V → Hp → Prop) (M : Hp → Prop), x ∈ xs → Same H1 H → (pr x = true → N x H) → (pr x = false → M H) → g x (wipe σ vs) H fun σ2 H2 => wipe σ2 vs = wipe σ vs ∧ tt σ2 H2 fun b H3 => if b = true then te σ2 H3 N else M H3)
    (hd : ∀ H, Same H1 H → H D = some (.lst (xs.filter pr)) → Qd H) :
    ∃ W : Nat → Nat → Hp → Prop, (∃ m, W 0 m (upd H1 D (.lst []))) ∧ ∀ i m H, W i m H →
      ((Itt K a).stop i H ∧ Qd H) ∨ ((Itt K a).go i H ∧ ∃ Nx : Hp → Prop, (∀ H', Nx H' → ∃ m', m' < m ∧ W (i + 1) m' H') ∧ ∀ x H', (Itt K a).yld i H x H' → g x (wipe σ vs) H' fun σ2 H2 => wipe σ2 vs = wipe σ vs ∧ tt σ2 H2 fun b H3 =>
        if b = true then te σ2 H3 fun y H4 => ∃ acc, H4 D = some (.lst acc) ∧ acc.length < sizeLine ∧ Nx (upd H4 D (.lst (acc ++ [y]))) else Nx H3) := by
  refine lc_it walk_tup (fun i H => Same H1 H ∧ H D = some (.lst ((xs.take i).filter pr))) ⟨same_new hD, upd_same⟩ (fun i H _ p => p.1.sqt ha) (fun i x H H' hi p y => ?_) fun H p => hd H p.1 (by have := p.2; rwa [List.take_of_length_le (Nat.le_refl _)] at this)
  obtain ⟨rfl, hx⟩ := y
  have ht : xs.take (i + 1) = xs.take i ++ [x] := by rw [List.take_add_one, hx]; rfl
  refine hs x H' _ _ (List.mem_of_getElem? hx) p.1 (fun hp => ⟨_, p.2, ?_, p.1.mut hD, ?_⟩) fun hp => ⟨p.1, ?_⟩
  · refine Nat.lt_of_le_of_lt (List.length_filter_le _ _) ?_
    rw [List.length_take]
    exact Nat.lt_of_le_of_lt (Nat.min_le_right _ _) (Nat.lt_of_le_of_lt hn (by decide))
  · rw [upd_same, ht, List.filter_append, List.filter_cons, if_pos hp]
    rfl
  · rw [p.2, ht, List.filter_append, List.filter_cons, if_neg (by rw [hp]; decide)]
    simp
end
end L2
namespace Cd
open PySem L2 Tx
def big : V → Bool
  | .int i => decide (i > 255)
  | _ => false
theorem big_iv (cs : List Nat) : (cs.map iv).filter big = (cs.filter fun c => decide (c > 255)).map iv := by
  rw [List.filter_map]
  congr 1
  refine List.filter_congr fun c _ => ?_
  show decide ((c : Int) > 255) = decide (c > 255)
  refine decide_eq_decide.mpr ?_
  omega
theorem eqv_lnil (l : List Nat) : PyData.eqv (.list (l.map fun (c : Nat) => PyData.int (c : Int))) (.list []) = decide (l = []) := by
  rw [PyData.eqv]
  exact eqvAll_ints l []
theorem small_of {cs ds : List Nat} (h : (cs ++ ds).filter (fun c => decide (c > 255)) = []) : (∀ c ∈ cs, c ≤ 255) ∧ (∀ c ∈ ds, c ≤ 255) := by
  have f := List.filter_eq_nil_iff.mp h
  have g : ∀ c ∈ cs ++ ds, c ≤ 255 := fun c hc => by
    have := f c hc
    rw [decide_eq_true_eq] at this
    omega
  exact ⟨fun c hc => g c (List.mem_append_left _ hc), fun c hc => g c (List.mem_append_right _ hc)⟩
theorem kinds_at {ks : List Kd} {i : Nat} {x : V} (h : (ks.map fun k => V.str k.name)[i]? = some x) : ∃ k ∈ ks, x = V.str k.name := by
  rw [List.getElem?_map] at h
  cases e : ks[i]? with
  | none => rw [e] at h; cases h
  | some k => rw [e] at h; exact ⟨k, List.mem_of_getElem? e, (Option.some.inj h).symm⟩
theorem in_wide {cs : List Nat} (h : ∀ c ∈ cs, isC c = true) : ∀ k ∈ [Kd.wide, Kd.steps], ∀ c ∈ cs, inKd k c := fun k hk c hc => inKd_of (h c hc) fun e => by
  subst e
  simp at hk
theorem in_all {cs : List Nat} (h : ∀ c ∈ cs, isC c = true) (hs : ∀ c ∈ cs, c ≤ 255) : ∀ k ∈ [Kd.latin, Kd.wide, Kd.steps], ∀ c ∈ cs, inKd k c := fun k _ c hc => inKd_of (h c hc) fun _ => hs c hc
end Cd
namespace L2
open PySem PySem.Spec PyProof.Rows
/-! ### static methods, called by their class -/
structure SMet (K : PySem.W.Frag) (C : Addr) (mc : Value) (m : Str) (p g : Addr) : Prop where
  at_ : PySem.W.findCls K (.ref C) mc m = some (.get (.builtin "staticmethod.__get__") (.ref p) .none (.ref C))
  rc : ∃ rest, PySem.W.recIn K p "staticmethod" = some (.ref g :: rest)
  kp : PySem.W.keepIn K (.ref g) = true
def tSMeth (C : Addr) (sp : Sp) (E : XK) (ta : TE) (t : TA) : TE := fun σ H Q => ta σ H fun x H1 => x = .ref C ∧ t σ H1 fun vs H2 => sp (vs ++ []) H2 Q E
section
variable {X : Cx} {CX : CXT} {k : Nat} {C p g : Addr} {fd : FuncData} {ps : List Str} {mc : Value} {sp : Sp} {E : XK} {o e : Expr} {es : List Expr} {m : Str} {pos apos : Pos} {ta : TE} {t : TA} {pl : Sem Bool}
theorem pe_smeth (he : PE X o ta) (r : ClX.CRead X.K C mc) (c : SMet X.K C mc m p g) (F : FnOk X.prog X.w X.K X.mg X.base CX k g fd ps sp) (hr : Room k X.A) (hb : Binds X.K fd ps []) (hx : Passes CX X E) (ha : PA X (e :: es) t)
    (hst : starEach (e :: es) X.env = (false, eval e X.env) :: starEach es X.env := by rfl) (hpl : (backTo pos (starEach es X.env)).any (·.1) = false := by rfl)
    (ht : eval (.Call (.Attribute o m apos) (e :: es) [] pos) X.env = (do
      let ov ← eval o X.env
      standAt apos.atName
      let (f, first) ← holding [ov] (getMethod ov m pl)
      callWith pos f first (backTo pos (starEach (e :: es) X.env)) (backToKw pos (keywordEach [] X.env))) := by rfl) :
    PE X (.Call (.Attribute o m apos) (e :: es) [] pos) (tSMeth C sp E ta t) := by
  refine ⟨fun pins s σ H Q I h => ?_⟩
  refine PySem.W.methodCall_KW (pl := pl) (thn (he.run pins s σ H _ I h) fun u s1 ⟨x, H1, I1, rx, ex, q⟩ => ?_) ht
  subst ex
  obtain rfl : u = Value.ref C := rx
  obtain ⟨rest, hp⟩ := c.rc
  refine PySem.W.method_cls I1.kIn r.ga ?_
  refine PySem.W.cls_bind I1.kIn r.rd c.at_ (wpAny_call (PySem.W.sm_get (s := { s1 with toks := s1.toks + 1 }) I1.kIn hp (PySem.W.handed_on rfl ?_)))
  have I2 := I1.tok (s1.toks + 1)
  refine PySem.W.callWith_K (h₀ := X.base) I2.ok.mod.kin c.kp (thn (ha.run pos pins _ σ H1 _ I2 q) fun us s3 ⟨vs, H2, I3, rv, q2⟩ => ⟨I3.kIn, ?_⟩) hst hpl
  exact run_fn F hr hb .nil hx I3 rv q2
end
end L2
namespace Tx
open PySem L2
/-- the parts between the codes 32 -/
def cstep (p : List (List Nat) × List Nat) (c : Nat) : List (List Nat) × List Nat := if c = 32 then (p.1 ++ [p.2], []) else (p.1, p.2 ++ [c])
def cfold (cs : List Nat) : List (List Nat) × List Nat := cs.foldl cstep ([], [])
def cutC (cs : List Nat) : List (List Nat) := (cfold cs).1 ++ [(cfold cs).2]
/-- the parts with 32 between them -/
def joinC : List (List Nat) → List Nat
  | [] => []
  | r :: rs => r ++ (rs.map fun x => 32 :: x).flatten
theorem joinC_snoc (rs : List (List Nat)) (x : List Nat) : joinC (rs ++ [x]) = joinC rs ++ ((if rs = [] then [] else [32]) ++ x) := by
  cases rs with
  | nil => simp [joinC]
  | cons r rs =>
    show r ++ ((rs ++ [x]).map fun x => 32 :: x).flatten = (r ++ (rs.map fun x => 32 :: x).flatten) ++ ((if r :: rs = [] then [] else [32]) ++ x)
    rw [List.map_append, List.flatten_append, if_neg (by simp)]
    simp
theorem cfold_snoc {cs : List Nat} {i c : Nat} (h : cs[i]? = some c) : cfold (cs.take (i + 1)) = cstep (cfold (cs.take i)) c := by
  unfold cfold
  rw [List.take_add_one, h, List.foldl_append]
  rfl
theorem cfold_len (cs : List Nat) : ∀ i, (cfold (cs.take i)).1.length ≤ i
  | 0 => Nat.le_refl _
  | i + 1 => by
    cases h : cs[i]? with
    | none =>
      rw [List.take_add_one, h]
      simp only [Option.toList, List.append_nil]
      exact Nat.le_succ_of_le (cfold_len cs i)
    | some c =>
      rw [cfold_snoc h]
      unfold cstep
      split
      · rw [List.length_append]
        exact Nat.add_le_add_right (cfold_len cs i) 1
      · exact Nat.le_succ_of_le (cfold_len cs i)
def plainC (c : Nat) : Bool := Mk.isPlain (iv c)
section
variable (K : PySem.W.Frag) (C : Addr)
def spLen : Sp := fun vs H Q _ => ∃ a cs, vs = [.ref a] ∧ At K H C a cs ∧ Q (.int (cs.length : Int)) H
def spTruth : Sp := fun vs H Q _ => ∃ a cs, vs = [.ref a] ∧ At K H C a cs ∧ Q (.bl (!decide (cs = []))) H
def spIsPlain : Sp := fun vs H Q _ => ∃ a cs, vs = [.ref a] ∧ At K H C a cs ∧ cs.length ≤ 10000 ∧ ∀ H1, Same H H1 → Q (.bl (cs.all plainC)) H1
def spStr : Sp := fun vs H Q _ => ∃ a cs, vs = [.ref a] ∧ At K H C a cs ∧ cs.length ≤ 10000 ∧ (∀ c ∈ cs, plainC c = true) ∧ ∀ H1, Same H H1 → Q (.str (Cd.zs cs)) H1
def spGet : Sp := fun vs H Q _ => ∃ a cs k c, vs = [.ref a, iv k] ∧ At K H C a cs ∧ cs[k]? = some c ∧ Q (iv c) H
def spPart : Sp := fun vs H Q _ => ∃ a cs i j, vs = [.ref a, iv i, iv j] ∧ At K H C a cs ∧ i ≤ j ∧ j ≤ cs.length ∧ ∀ H1 b, Same H H1 → At K H1 C b ((cs.drop i).take (j - i)) → Q (.ref b) H1
def spCut : Sp := fun vs H Q _ => ∃ a cs, vs = [.ref a] ∧ At K H C a cs ∧ cs.length ≤ 10000 ∧ ∀ H1 p ps, Same H H1 → H1 p = some (.tup (ps.map V.ref)) → Paired (fun x row => At K H1 C x row) ps (cutC cs) → Q (.ref p) H1
def spJoined : Sp := fun vs H Q _ => ∃ p ps rows, vs = [.ref p] ∧ H p = some (.tup (ps.map V.ref)) ∧ Paired (fun x row => At K H C x row) ps rows ∧ rows.length ≤ 10000 ∧ (joinC rows).length ≤ 50000 ∧ ∀ H1 b, Same H H1 → H b = none → At K H1 C b (joinC rows) → Q (.ref b) H1
end
def spShown : Sp := fun vs H Q _ => ∃ c : Nat, vs = [iv c] ∧ plainC c = true ∧ ∀ H1, Same H H1 → Q (.str (Cd.zs [c])) H1
theorem paired_same {K : PySem.W.Frag} {C : Addr} {H H1 : Hp} {ps : List Addr} {rows : List (List Nat)} (p : Paired (fun x row => At K H C x row) ps rows) (s : Same H H1) : Paired (fun x row => At K H1 C x row) ps rows := Paired.mapP p fun _ _ h => h.same s
theorem At.upd {K : PySem.W.Frag} {H : Hp} {C a l : Addr} {cs : List Nat} {xs : List V} {o : HO} (h : At K H C a cs) (e : H l = some (.lst xs)) : At K (upd H l o) C a cs := by
  obtain ⟨dx, t, h1, h2⟩ := h
  exact ⟨dx, t, by rw [upd_ne (ne_of h1 e (by intro z; cases z))]; exact h1, Cd.sqt_upd h2 e⟩
theorem strV_join (cs : List Nat) : ((cs.map fun c => V.str (Cd.zs [c]))) = (cs.map fun c => Cd.zs [c]).map V.str := by rw [List.map_map]; rfl
end Tx
namespace Tx
open PySem L2
def oneV : V → V
  | .int i => .str (Cd.zs [i.toNat])
  | v => v
theorem map_oneV (cs : List Nat) : (cs.map iv).map oneV = ((cs.map fun c => [c]).map Cd.zs).map V.str := by
  rw [List.map_map, List.map_map, List.map_map]
  rfl
theorem flat_self (cs : List Nat) : (cs.map fun c => [c]).flatten = cs := by
  induction cs with
  | nil => rfl
  | cons c cs ih => rw [List.map_cons, List.flatten_cons, ih]; rfl
end Tx
namespace Tx
theorem joinC_le (rows : List (List Nat)) (i : Nat) : (joinC (rows.take i)).length ≤ (joinC rows).length := by
  have h : ∀ (xs ys : List (List Nat)), (joinC xs).length ≤ (joinC (xs ++ ys)).length := fun xs ys => by
    cases xs with
    | nil => exact Nat.zero_le _
    | cons r rs =>
      show (r ++ (rs.map fun x => 32 :: x).flatten).length ≤ (r ++ ((rs ++ ys).map fun x => 32 :: x).flatten).length
      rw [List.map_append, List.flatten_append, List.length_append, List.length_append, List.length_append]
      omega
  have := h (rows.take i) (rows.drop i)
  rwa [List.take_append_drop] at this
end Tx
namespace L2
open PySem
theorem call_isiQ {X : Cx} {K : PySem.W.Frag} (h : X.K = K) : CallR X (.builtin "isinstance") (rIsi K) := h ▸ call_isi
theorem call_len1Q {X : Cx} {K : PySem.W.Frag} (h : X.K = K) : CallR X (.builtin "len") (rLen1 K) := h ▸ call_len1
end L2
namespace L2
open PySem PySem.Spec PyProof.Rows
/-! ### zip of a tuple and a list -/
def ItzM (K : PySem.W.Frag) (a b : Addr) : It :=
  ⟨fun i H => ∃ xs ys x y, (SqT K H a xs ∧ xs[i]? = some x) ∧ SqL K H b ys ∧ ys[i]? = some y,
    fun i H v H' => ∃ T x y, (v = .ref T ∧ H T = none ∧ H' = upd H T (.tup [x, y])) ∧ (∀ xs, SqT K H a xs → xs[i]? = some x) ∧ ∀ ys, SqL K H b ys → ys[i]? = some y,
    fun i H => ∃ xs ys, (SqT K H a xs ∧ SqL K H b ys) ∧ i ≤ xs.length ∧ i ≤ ys.length ∧ (i = xs.length ∨ i = ys.length)⟩
def StM (a b z TI TO i1 i2 : Addr) (i : Nat) (h : Heap) : Prop := (IsZip h z TI TO .none ∧ IsTupOf2 h TI (.ref i1) (.ref i2)) ∧ (∃ x y, IsTupOf2 h TO x y) ∧ h.IsTupleIter i1 a i ∧ h.IsListIter i2 b i
theorem turn_zipM {P : Program} {w : World} {K : PySem.W.Frag} {elts : List Expr} {kk : Nat} {tpos : Pos} {a b z TI TO i1 i2 : Addr} (S : ZipSep2 z TI TO i1 i2 [i1, a] [i2, b]) (na : a ≠ i1) (nb : b ≠ i2) :
    Turn P w K (.Tuple elts kk tpos) (ItzM K a b) [z, TI, TO, i1, i2] z (StM a b z TI TO i1 i2) where
  mem := List.mem_cons_self
  obj := fun i h st c hc => by
    obtain ⟨⟨hz, hI⟩, ⟨x, y, hO⟩, ⟨o1, e1, _, d1⟩, ⟨o2, e2, _, d2⟩⟩ := st
    simp only [List.mem_cons, List.not_mem_nil, or_false] at hc
    rcases hc with rfl | rfl | rfl | rfl | rfl
    · exact ⟨_, hz, fun v q => nomatch q⟩
    · exact ⟨_, hI, fun v q => nomatch q⟩
    · exact ⟨_, hO, fun v q => nomatch q⟩
    · exact ⟨o1, e1, fun v q => by rw [d1] at q; cases q⟩
    · exact ⟨o2, e2, fun v q => by rw [d2] at q; cases q⟩
  keep := fun i h h' st k => by
    obtain ⟨⟨hz, hI⟩, ⟨x, y, hO⟩, h1, h2⟩ := st
    exact ⟨⟨k _ (by simp) _ hz, k _ (by simp) _ hI⟩, ⟨x, y, k _ (by simp) _ hO⟩, h1.at fun o q => k _ (by simp) o q, h2.at fun o q => k _ (by simp) o q⟩
  item := by
    intro X hP hw hK hc i pins s σ H E I hf st hg
    subst hP hw hK
    obtain ⟨⟨hz, hI⟩, ⟨x0, y0, hO⟩, h1, h2⟩ := st
    obtain ⟨xs, ys, x, y, ⟨hqx, hx⟩, hqy, hy⟩ := hg
    obtain ⟨its, rv, p, _⟩ := I.tuple hqx
    obtain ⟨jts, rw', p', _⟩ := I.list hqy
    obtain ⟨u, hu, ru⟩ := rv.get hx
    obtain ⟨v, hv, rv'⟩ := rw'.get hy
    have hh : X.A.in1.handled = none := I.ok.hd hc
    have lz : z < s.heap.objs.size := Heap.lt_size hz
    have sz : ∀ c ∈ [z, TI, TO, i1, i2], c < s.heap.objs.size := fun c hcm => by
      simp only [List.mem_cons, List.not_mem_nil, or_false] at hcm
      obtain ⟨o1, e1, _⟩ := id h1
      obtain ⟨o2, e2, _⟩ := id h2
      rcases hcm with rfl | rfl | rfl | rfl | rfl
      · exact lz
      · exact Heap.lt_size hI
      · exact Heap.lt_size hO
      · exact Heap.lt_size e1
      · exact Heap.lt_size e2
    refine wpAny_pyNext_zipD2_item S (Draws.tuple hh i1 a na its.toArray) (Draws.list hh i2 b nb jts.toArray) hz hI hO ⟨h1, p⟩ ⟨h2, p'.isList⟩ (by simpa using (List.getElem?_eq_some_iff.mp hu).1) (by simpa using (List.getElem?_eq_some_iff.mp hv).1) fun u' v' g tk eu ev gz gO g1 g2 gT gs gk => ?_
    have eu' : u' = u := by rw [List.getElem?_toArray, hu] at eu; exact (Option.some.inj eu).symm
    have ev' : v' = v := by rw [List.getElem?_toArray, hv] at ev; exact (Option.some.inj ev).symm
    subst eu' ev'
    refine ⟨_, rfl, wpAny_letOwnedTupleGo_zip (s := { s with heap := g, toks := tk }) gz fun g' gz' sb => ?_⟩
    have tT : g'.get? s.heap.objs.size = some { cls := .type "tuple", data := .seq #[u', v'] } := (sb.2 _ (Nat.ne_of_gt lz)).trans gT
    have I1 : Inv X pins σ (upd H s.heap.objs.size (.tup [x, y])) { s with heap := g', toks := tk } :=
      I.turnedNew (ch := [z, TI, TO, i1, i2]) (fun c o hb q => (sb.2 c fun e => hb (by simp [e])).trans (gk c o (fun e => hb (by simp [e])) (fun e => hb (by simp [e])) (fun e => hb (by simp [e])) (fun e => hb (by simp [e])) q)) hf (Nat.le_refl _)
        ⟨by show 2 ≤ sizeLine; decide, [u', v'], .cons ru (.cons rv' .nil), ⟨_, tT, rfl, _, rfl⟩⟩
    refine ⟨.ref s.heap.objs.size, _, I1, rfl, ⟨_, x, y, ⟨rfl, I.hok.fresh (Nat.le_refl _), rfl⟩, fun l hl => by rw [I.tuple_inj hl hqx]; exact hx, fun l hl => by rw [I.list_inj hl hqy]; exact hy⟩, ⟨⟨gz', ?_⟩, ⟨u', v', (sb.2 _ S.TOz).trans gO⟩, ?_, ?_⟩, fun c hcm => ?_⟩
    · exact (sb.2 _ S.TIz).trans (gk _ _ S.TIz S.TITO S.TIi1 S.TIi2 hI)
    · exact g1.1.at fun o q => (sb.2 _ S.zi1.symm).trans q
    · exact g2.1.at fun o q => (sb.2 _ S.zi2.symm).trans q
    · rw [upd_ne (Nat.ne_of_lt (sz c hcm))]
      exact (hf c hcm).1
  done := by
    intro X hP hw hK hc i pins s σ H E I hf st hg
    subst hP hw hK
    obtain ⟨⟨hz, hI⟩, ⟨x0, y0, hO⟩, h1, h2⟩ := st
    obtain ⟨xs, ys, ⟨hqx, hqy⟩, lx, ly, en⟩ := hg
    obtain ⟨its, rv, p, _⟩ := I.tuple hqx
    obtain ⟨jts, rw', p', _⟩ := I.list hqy
    have hh : X.A.in1.handled = none := I.ok.hd hc
    have a1 : its.toArray.size = xs.length := by rw [List.size_toArray, rv.length]
    have a2 : jts.toArray.size = ys.length := by rw [List.size_toArray, rw'.length]
    exact wpAny_pyNext_zipD2_end S (Draws.tuple hh i1 a na its.toArray) (Draws.list hh i2 b nb jts.toArray) hz hI hO ⟨h1, p⟩ ⟨h2, p'.isList⟩ (by rw [a1]; exact lx) (by rw [a2]; exact ly) (by rw [a1, a2]; exact en) fun g tk gk => ⟨rfl, I.turnedL (ch := [z, TI, TO, i1, i2]) (fun c o hb q =>
      gk c o (fun e => hb (by simp [e])) (fun e => hb (by simp [e])) (fun e => hb (by simp [e])) (fun e => hb (by simp [e])) q) hf⟩
  self := fun A i s Q E st h => wpAny_pyIter_zip st.1.1 h
section
variable {X : Cx} {e e2 : Expr} {ta : TA} {p pos tpos : Pos} {elts : List Expr} {kk : Nat}
def iZipM (K : PySem.W.Frag) (ta : TA) : TI := fun σ H R => ta σ H fun vs H1 => ∃ a b xs ys, vs = [.ref a, .ref b] ∧ SqT K H1 a xs ∧ SqL K H1 b ys ∧ R (ItzM K a b) H1
theorem pi_zipM (hg : Gl X "zip") (hm : X.mg "zip" = none) (ha : PA X [e, e2] ta) (hs : starEach [e, e2] X.env = (false, eval e X.env) :: starEach [e2] X.env := by rfl) (hpl : (backTo pos (starEach [e2] X.env)).any (·.1) = false := by rfl) :
    PI X (.Tuple elts kk tpos) (.Call (.Name "zip" p) [e, e2] [] pos) (iZipM X.K ta) := by
  refine ⟨fun pins s σ H R I h => Call_ (ld_blt I hg hm boot_zip (PyProof.Rows.callWith_type1 (thn (ha.run pos pins s σ H _ I h) fun us s1 ⟨vs, H1, I1, r1, q1⟩ => ?_) hs hpl))⟩
  obtain ⟨a, b, xs, ys, ex, hqx, hqy, q⟩ := q1
  subst ex
  obtain ⟨u, v, rfl, ru, rv⟩ := vals2 r1
  cases ru
  cases rv
  obtain ⟨its, _, pa, _⟩ := I1.tuple hqx
  obtain ⟨jts, _, pb, _⟩ := I1.list hqy
  have la : a < s1.heap.objs.size := by obtain ⟨o, e, _⟩ := pa; exact Heap.lt_size e
  have lb : b < s1.heap.objs.size := pb.lt
  refine zip_begins2 (begins_tuple a its.toArray) (begins_list b jts.toArray) pa pb.isList fun g hz hI hO e1 e2 _ hk => wpAny_pyIter_zip hz ?_
  have I2 : Inv X pins σ H1 { s1 with heap := g } := I1.kept (t' := s1.toks) hk
  refine ⟨s1.heap.objs.size + 4, [s1.heap.objs.size + 4, s1.heap.objs.size + 2, s1.heap.objs.size + 3, s1.heap.objs.size, s1.heap.objs.size + 1], _, _, H1, rfl, I2,
    turn_zipM (zip_sep2 (fp1 := [a]) (fp2 := [b]) (fun c hc => by rw [List.mem_singleton.mp hc]; exact la) (fun c hc => by rw [List.mem_singleton.mp hc]; exact lb)) (Nat.ne_of_lt la) (Nat.ne_of_lt (Nat.lt_succ_of_lt lb)), ⟨⟨hz, hI⟩, ⟨_, _, hO⟩, ⟨_, e1, rfl, rfl⟩, ⟨_, e2, rfl, rfl⟩⟩, fun c hc => ?_, q⟩
  have hle : s1.heap.objs.size ≤ c := by
    simp only [List.mem_cons, List.not_mem_nil, or_false] at hc
    rcases hc with rfl | rfl | rfl | rfl | rfl
    · exact Nat.le_add_right _ _
    · exact Nat.le_add_right _ _
    · exact Nat.le_add_right _ _
    · exact Nat.le_refl _
    · exact Nat.le_add_right _ _
  exact I1.fpOk hle (I1.hok.fresh hle)
end
theorem g_zipM {σ : St} {H : Hp} {K : PySem.W.Frag} {ta : TA} {R : It → Hp → Prop} (h : ta σ H fun vs H1 => ∃ a b xs ys, vs = [.ref a, .ref b] ∧ SqT K H1 a xs ∧ SqL K H1 b ys ∧ R (ItzM K a b) H1) : iZipM K ta σ H R := h
/-- a loop over such a zip, both of one length -/
theorem for_zipM {K : PySem.W.Frag} {a b : Addr} {xs ys : List V} {g : TG} {tb : TS} {D : Ends} {σ : St} {H : Hp} (hl : xs.length = ys.length) (Pv : Nat → St → Hp → Prop) (h0 : Pv 0 σ H) (hq : ∀ i σ H, Pv i σ H → SqT K H a xs ∧ SqL K H b ys)
    (hs : ∀ i x y T σ H, xs[i]? = some x → ys[i]? = some y → Pv i σ H → H T = none → g (.ref T) σ (upd H T (.tup [x, y])) fun σ2 H2 => tb { D with nx := Pv (i + 1), ct := Pv (i + 1), bk := D.nx } σ2 H2) (hd : ∀ σ H, Pv xs.length σ H → D.nx σ H) :
    ∃ W : Nat → Nat → St → Hp → Prop, (∃ m, W 0 m σ H) ∧ ∀ i m σ H, W i m σ H →
      ((ItzM K a b).stop i H ∧ D.nx σ H) ∨ ((ItzM K a b).go i H ∧ ∃ N : St → Hp → Prop, (∀ σ' H', N σ' H' → ∃ m', m' < m ∧ W (i + 1) m' σ' H') ∧ ∀ v H', (ItzM K a b).yld i H v H' → g v σ H' fun σ2 H2 => tb { D with nx := N, ct := N, bk := D.nx } σ2 H2) := by
  refine ⟨fun i m σ H => (i ≤ xs.length ∧ m = xs.length - i) ∧ Pv i σ H, ⟨_, ⟨Nat.zero_le _, rfl⟩, h0⟩, ?_⟩
  rintro i m σ H ⟨⟨hi, rfl⟩, pv⟩
  obtain ⟨qx, qy⟩ := hq i σ H pv
  rcases Nat.lt_or_ge i xs.length with lt | ge
  · refine .inr ⟨⟨xs, ys, _, _, ⟨qx, List.getElem?_eq_getElem lt⟩, qy, List.getElem?_eq_getElem (hl ▸ lt)⟩, Pv (i + 1), fun σ' H' pv' => ⟨_, by omega, ⟨lt, rfl⟩, pv'⟩, fun v H' yl => ?_⟩
    obtain ⟨T, x, y, ⟨rfl, hT, rfl⟩, fx, fy⟩ := yl
    exact hs i x y T σ H (fx xs qx) (fy ys qy) pv hT
  · have e : i = xs.length := Nat.le_antisymm hi ge
    subst e
    exact .inl ⟨⟨xs, ys, ⟨qx, qy⟩, Nat.le_refl _, by omega, .inl rfl⟩, hd σ H pv⟩
end L2
namespace L2
open PySem
section
variable {σ : St} {H : Hp} {Q : VK} {C : Addr} {m : Str} {sp : Sp} {E : XK} {dvs : List V} {ta : TE} {t : TA}
theorem g_smeth (h : ta σ H fun x H1 => x = .ref C ∧ t σ H1 fun vs H2 => sp (vs ++ []) H2 Q E) : tSMeth C sp E ta t σ H Q := h
theorem g_meth (h : ta σ H fun x H1 => ∃ a dx fs, x = .ref a ∧ H1 a = some (.ins C dx fs) ∧ fs.lookup m = none ∧ t σ H1 fun vs H2 => sp (x :: (vs ++ dvs)) H2 Q E) : tMeth C m sp dvs E ta t σ H Q := h
end
end L2
namespace Pl
open PySem L2 Tx
/-- of a word of marks: has it the shape -/
def shapeL (l : List Nat) : Bool := (!decide (32 ∈ l) && decide (4 ≤ l.length)) && (decide (l.take 2 = [61, 63]) && decide (l.drop (l.length - 2) = [63, 61]))
theorem starts_is {l : List Nat} (h : 4 ≤ l.length) : Txt.startswith (Cd.zs l) "=?" = decide (l.take 2 = [61, 63]) := by
  have e : ("=?" : Str) = Cd.zs [61, 63] := by decide +kernel
  rw [e]
  show (decide (0 + (Cd.zs [61, 63]).length ≤ (Cd.zs l).length) && Builtin.Str.subAt _ _ 0) = _
  rw [decide_eq_true (by rw [Cd.zs_len, Cd.zs_len]; show 0 + 2 ≤ l.length; omega), Bool.true_and, StrLaws.subAt_eq, Cd.zs_list, Cd.zs_list, Cd.zs_len]
  exact (Bool.eq_iff_iff.mpr (by rw [beq_iff_eq, decide_eq_true_eq]; exact Iff.rfl))
theorem ends_is {l : List Nat} (h : 4 ≤ l.length) : Txt.endswith (Cd.zs l) "?=" = decide (l.drop (l.length - 2) = [63, 61]) := by
  have e : ("?=" : Str) = Cd.zs [63, 61] := by decide +kernel
  rw [e]
  show (decide (0 + (Cd.zs [63, 61]).length ≤ (Cd.zs l).length) && Builtin.Str.subAt _ _ ((Cd.zs l).length - (Cd.zs [63, 61]).length)) = _
  rw [decide_eq_true (by rw [Cd.zs_len, Cd.zs_len]; show 0 + 2 ≤ l.length; omega), Bool.true_and, StrLaws.subAt_eq, Cd.zs_list, Cd.zs_list, Cd.zs_len, Cd.zs_len]
  refine (Bool.eq_iff_iff.mpr ?_)
  rw [beq_iff_eq, decide_eq_true_eq]
  show ((l.drop (l.length - 2)).take 2 = [63, 61]) ↔ _
  rw [List.take_of_length_le (by rw [List.length_drop]; omega)]
def litC (w : Int) (cs : List Nat) : Bool := (decide (0 < (cs.length : Int)) && decide ((cs.length : Int) < w)) && (cs.all plainC && !shapeL cs)
inductive Pc
  | lit (s : List Nat)
  | txt (r : List Nat)
def PcV (K : PySem.W.Frag) (C : Addr) (H : Hp) : V → Pc → Prop
  | v, .lit s => v = .str (Cd.zs s)
  | v, .txt r => ∃ a, v = .ref a ∧ At K H C a r
theorem PcV.same {K : PySem.W.Frag} {C : Addr} {H H1 : Hp} (s : Same H H1) : ∀ {v : V} {p : Pc}, PcV K C H v p → PcV K C H1 v p
  | _, .lit _, h => h
  | _, .txt _, ⟨a, e, h⟩ => ⟨a, e, h.same s⟩
theorem PcV.upd {K : PySem.W.Frag} {C : Addr} {H : Hp} {l : Addr} {xs : List V} {o : HO} (e : H l = some (.lst xs)) : ∀ {v : V} {p : Pc}, PcV K C H v p → PcV K C (upd H l o) v p
  | _, .lit _, h => h
  | _, .txt _, ⟨a, e1, h⟩ => ⟨a, e1, h.upd e⟩
def joinP (rs : List (List Nat)) : List Pc := if rs = [] then [] else [.txt (joinC rs)]
def pstep (lit : List Nat → Bool) (p : List Pc × List (List Nat)) (x : List Nat) : List Pc × List (List Nat) := if lit x = true then (p.1 ++ joinP p.2 ++ [.lit x], []) else (p.1, p.2 ++ [x])
def pfold (lit : List Nat → Bool) (rs : List (List Nat)) : List Pc × List (List Nat) := rs.foldl (pstep lit) ([], [])
def pieces (lit : List Nat → Bool) (rs : List (List Nat)) : List Pc := (pfold lit rs).1 ++ joinP (pfold lit rs).2
theorem pfold_snoc {lit : List Nat → Bool} {rs : List (List Nat)} {i : Nat} {x : List Nat} (h : rs[i]? = some x) : pfold lit (rs.take (i + 1)) = pstep lit (pfold lit (rs.take i)) x := by
  unfold pfold
  rw [List.take_add_one, h, List.foldl_append]
  rfl
def tot (rs : List (List Nat)) : Nat := (rs.map fun r => r.length + 1).sum
theorem tot_app (a b : List (List Nat)) : tot (a ++ b) = tot a + tot b := by
  unfold tot
  rw [List.map_append, List.sum_append]
theorem flat_tot (rs : List (List Nat)) : ((rs.map fun x => 32 :: x).flatten).length = tot rs := by
  induction rs with
  | nil => rfl
  | cons r rs ih =>
    rw [List.map_cons, List.flatten_cons, List.length_append, ih]
    show r.length + 1 + tot rs = (r.length + 1) + tot rs
    rfl
theorem joinC_tot (rs : List (List Nat)) : (joinC rs).length ≤ tot rs := by
  cases rs with
  | nil => exact Nat.zero_le _
  | cons r rs =>
    show (r ++ (rs.map fun x => 32 :: x).flatten).length ≤ tot (r :: rs)
    rw [List.length_append, flat_tot]
    show r.length + tot rs ≤ (r.length + 1) + tot rs
    omega
theorem pfold_le (lit : List Nat → Bool) (rs : List (List Nat)) : ∀ i, tot (pfold lit (rs.take i)).2 ≤ tot rs ∧ (pfold lit (rs.take i)).2.length ≤ i ∧ (pfold lit (rs.take i)).1.length ≤ 2 * i ∧ tot (pfold lit (rs.take i)).2 ≤ tot (rs.take i)
  | 0 => ⟨Nat.zero_le _, Nat.le_refl _, Nat.le_refl _, Nat.le_refl _⟩
  | i + 1 => by
    obtain ⟨h1, h2, h3, h4⟩ := pfold_le lit rs i
    cases e : rs[i]? with
    | none =>
      rw [List.take_add_one, e]
      simp only [Option.toList, List.append_nil]
      exact ⟨h1, Nat.le_succ_of_le h2, by omega, h4⟩
    | some x =>
      have q : tot (rs.take (i + 1)) ≤ tot rs := by
        have z := tot_app (rs.take (i + 1)) (rs.drop (i + 1))
        rw [List.take_append_drop] at z
        omega
      have t : tot (rs.take (i + 1)) = tot (rs.take i) + tot [x] := by rw [List.take_add_one, e, tot_app]; rfl
      rw [pfold_snoc e]
      unfold pstep
      split
      · refine ⟨Nat.zero_le _, Nat.zero_le _, ?_, Nat.zero_le _⟩
        show (_ ++ joinP _ ++ [Pc.lit x]).length ≤ _
        rw [List.length_append, List.length_append]
        have j : (joinP (pfold lit (rs.take i)).2).length ≤ 1 := by
          unfold joinP
          split
          · exact Nat.zero_le _
          · exact Nat.le_refl _
        simp only [List.length_cons, List.length_nil]
        omega
      · have a : tot ((pfold lit (rs.take i)).2 ++ [x]) ≤ tot (rs.take (i + 1)) := by rw [tot_app]; omega
        refine ⟨Nat.le_trans a q, ?_, Nat.le_trans h3 (by omega), a⟩
        rw [List.length_append]
        exact Nat.add_le_add_right h2 1
/-! the same, as the law goes -/
def dstep (lit : List Nat → Bool) (acc : List Pc) (x : List Nat) : List Pc :=
  if lit x = true then acc ++ [.lit x] else match acc.getLast? with
    | some (.txt r) => acc.dropLast ++ [.txt (r ++ 32 :: x)]
    | _ => acc ++ [.txt x]
theorem dfold_is (lit : List Nat → Bool) (rs : List (List Nat)) : ∀ i, (rs.take i).foldl (dstep lit) [] = (pfold lit (rs.take i)).1 ++ joinP (pfold lit (rs.take i)).2 ∧ ∀ r, (pfold lit (rs.take i)).1.getLast? ≠ some (.txt r)
  | 0 => ⟨rfl, fun r h => nomatch h⟩
  | i + 1 => by
    obtain ⟨h1, h2⟩ := dfold_is lit rs i
    cases e : rs[i]? with
    | none =>
      rw [List.take_add_one, e]
      simp only [Option.toList, List.append_nil]
      exact ⟨h1, h2⟩
    | some x =>
      have f : (rs.take (i + 1)).foldl (dstep lit) [] = dstep lit ((rs.take i).foldl (dstep lit) []) x := by rw [List.take_add_one, e, List.foldl_append]; rfl
      rw [f, pfold_snoc e, h1]
      generalize pfold lit (rs.take i) = p at h2
      unfold dstep pstep
      by_cases hx : lit x = true
      · rw [if_pos hx, if_pos hx]
        refine ⟨by simp [joinP], fun r hr => ?_⟩
        simp at hr
      · rw [if_neg hx, if_neg hx]
        refine ⟨?_, h2⟩
        by_cases hp : p.2 = []
        · have j : joinP p.2 = [] := if_pos hp
          rw [j, List.append_nil, hp]
          have k : joinP ([] ++ [x]) = [.txt x] := by simp [joinP, joinC]
          rw [k]
          split
          · rename_i r hr
            exact absurd hr (h2 r)
          · rfl
        · have j : joinP p.2 = [.txt (joinC p.2)] := if_neg hp
          have k : joinP (p.2 ++ [x]) = [.txt (joinC p.2 ++ 32 :: x)] := by
            rw [joinP, if_neg (by simp), joinC_snoc, if_neg hp]
            rfl
          rw [j, k]
          simp
theorem due_is (lit : List Nat → Bool) (rs : List (List Nat)) : rs.foldl (dstep lit) [] = pieces lit rs := by
  have h := (dfold_is lit rs rs.length).1
  rwa [List.take_of_length_le (Nat.le_refl _)] at h
def piecesOf (w : Int) (cs : List Nat) : List Pc := if cs = [] then [] else pieces (litC w) (cutC cs)
section
variable (K : PySem.W.Frag) (C : Addr)
def spShape : Sp := fun vs H Q _ => ∃ l : List Nat, vs = [.str (Cd.zs l)] ∧ (∀ c ∈ l, plainC c = true) ∧ l.length ≤ 10000 ∧ ∀ H1, Same H H1 → Q (.bl (shapeL l)) H1
def spIsWord : Sp := fun vs H Q _ => ∃ l : List Nat, vs = [.str (Cd.zs l)] ∧ (∀ c ∈ l, plainC c = true) ∧ l.length ≤ 10000 ∧ ∀ H1, Same H H1 → Q (.bl (!decide (32 ∈ l))) H1
def spWidth : Sp := fun vs H Q _ => ∃ w : Int, vs = [.int w] ∧ 50 ≤ w ∧ w ≤ 200 ∧ ∀ H1, Same H H1 → Q (.bl true) H1
def spLit : Sp := fun vs H Q _ => ∃ a cs w, vs = [.ref a, .int w] ∧ At K H C a cs ∧ cs.length ≤ 10000 ∧ ∀ H1, Same H H1 → Q (.bl (litC w cs)) H1
def spPieces : Sp := fun vs H Q _ => ∃ (p l : Addr) (ps : List Addr) (rows : List (List Nat)) (lit : List Nat → Bool), vs = [.ref p, .ref l] ∧ H p = some (.tup (ps.map V.ref)) ∧ Paired (fun x row => At K H C x row) ps rows ∧ H l = some (.lst (rows.map fun r => V.bl (lit r))) ∧ (∀ r ∈ rows, lit r = true → ∀ c ∈ r, plainC c = true) ∧ rows.length ≤ 5000 ∧ tot rows ≤ 10000 ∧ ∀ H1 q xs, Same H H1 → H1 q = some (.tup xs) → Paired (PcV K C H1) xs (pieces lit rows) → Q (.ref q) H1
def spPlain : Sp := fun vs H Q _ => ∃ a cs w, vs = [.ref a, .int w] ∧ At K H C a cs ∧ cs.length ≤ 4000 ∧ 50 ≤ w ∧ w ≤ 200 ∧ ∀ H1 q xs, Same H H1 → H1 q = some (.tup xs) → Paired (PcV K C H1) xs (piecesOf w cs) → Q (.ref q) H1
end
theorem body_plain {l : List Nat} (h : ∀ c ∈ l, plainC c = true) : Mk.isBody (.str (Cd.zs l)) = true := by
  show (Cd.zs l).cps.toList.all (fun c => decide (c ∈ Mk.MARKS.cps.toList)) = true
  rw [Cd.zs_list, List.all_eq_true]
  intro c hc
  obtain ⟨h1, h2, h3⟩ := Cd.isPlain_iff.mp (h c hc)
  exact decide_eq_true (List.mem_of_getElem? (Cd.marks_at c (by omega) h1 h3))
theorem any_plain {l : List Nat} (h : ∀ c ∈ l, plainC c = true) (hl : l.length ≤ 10000) (H : Hp) : AnyO H (.str (Cd.zs l)) := by
  refine .str _ (by rw [Cd.zs_len]; exact hl) ?_
  show (l.toArray).all _ = true
  rw [List.all_toArray, List.all_eq_true]
  intro c hc
  obtain ⟨h1, h2, h3⟩ := Cd.isPlain_iff.mp (h c hc)
  exact decide_eq_true (show c < 1114112 by omega)
theorem cfold_facts (cs : List Nat) : ∀ i, i ≤ cs.length → tot (cfold (cs.take i)).1 + (cfold (cs.take i)).2.length = i
  | 0, _ => rfl
  | i + 1, hi => by
    have ih := cfold_facts cs i (by omega)
    rw [cfold_snoc (List.getElem?_eq_getElem (show i < cs.length by omega))]
    unfold cstep
    split
    · show tot (_ ++ [_]) + 0 = i + 1
      rw [tot_app]
      show _ + ((cfold (cs.take i)).2.length + 1 + 0) + 0 = i + 1
      omega
    · show tot (cfold (cs.take i)).1 + ((cfold (cs.take i)).2 ++ [_]).length = i + 1
      rw [List.length_append]
      show tot (cfold (cs.take i)).1 + ((cfold (cs.take i)).2.length + 1) = i + 1
      omega
theorem cut_tot (cs : List Nat) : tot (cutC cs) = cs.length + 1 := by
  have h := cfold_facts cs cs.length (Nat.le_refl _)
  rw [List.take_of_length_le (Nat.le_refl _)] at h
  unfold cutC
  rw [tot_app]
  show _ + ((cfold cs).2.length + 1 + 0) = _
  omega
theorem tot_mem {rs : List (List Nat)} : ∀ r ∈ rs, r.length + 1 ≤ tot rs := by
  induction rs with
  | nil => intro r h; cases h
  | cons x rs ih =>
    intro r h
    show r.length + 1 ≤ (x.length + 1) + tot rs
    rcases List.mem_cons.mp h with e | m
    · rw [e]
      omega
    · have := ih r m
      omega
theorem tot_len (rs : List (List Nat)) : rs.length ≤ tot rs := by
  induction rs with
  | nil => exact Nat.le_refl _
  | cons x rs ih =>
    show rs.length + 1 ≤ (x.length + 1) + tot rs
    omega
end Pl
namespace Pl
open PySem L2 Tx
theorem lenO {K : PySem.W.Frag} {H : Hp} {C a : Addr} {cs : List Nat} {E : XK} {Q : VK} (h : At K H C a cs) (hl : cs.length ≤ 10000) (q : Q (.int (cs.length : Int)) H) : rLenO C (fun vs H Q E => spLen K C (vs ++ []) H Q E) E [.ref a] H Q := by
  obtain ⟨dx, t, e1, e2⟩ := id h
  exact ⟨a, dx, _, rfl, e1, a, cs, rfl, h, cs.length, rfl, by omega, q⟩
theorem strO {K : PySem.W.Frag} {H : Hp} {C a : Addr} {cs : List Nat} {E : XK} {Q : VK} (h : At K H C a cs) (hl : cs.length ≤ 10000) (hp : ∀ c ∈ cs, plainC c = true) (q : ∀ H1, Same H H1 → Q (.str (Cd.zs cs)) H1) : rStrO C (fun vs H Q E => spStr K C (vs ++ []) H Q E) E [.ref a] H Q := by
  obtain ⟨dx, t, e1, e2⟩ := id h
  exact ⟨a, dx, _, rfl, e1, a, cs, rfl, h, hl, hp, fun H1 s1 => ⟨_, rfl, q H1 s1⟩⟩
theorem propO {K : PySem.W.Frag} {H : Hp} {C a : Addr} {cs : List Nat} {E : XK} {Q : VK} {sp : Sp} (h : At K H C a cs) (q : sp [.ref a] H Q E) : ∃ a1 dx fs, V.ref a = .ref a1 ∧ H a1 = some (.ins C dx fs) ∧ sp (.ref a1 :: []) H Q E := by
  obtain ⟨dx, t, e1, e2⟩ := id h
  exact ⟨a, dx, _, rfl, e1, q⟩
theorem methO {K : PySem.W.Frag} {H : Hp} {C a : Addr} {cs : List Nat} {m : Str} {P : Prop} (h : At K H C a cs) (hm : (m == ("_codes" : Str)) = false) (q : P) : ∃ a1 dx fs, V.ref a = .ref a1 ∧ H a1 = some (.ins C dx fs) ∧ fs.lookup m = none ∧ P := by
  obtain ⟨dx, t, e1, e2⟩ := id h
  refine ⟨a, dx, _, rfl, e1, ?_, q⟩
  simp [List.lookup, hm]
end Pl
namespace L2
open PySem
section
variable {K : PySem.W.Frag} {g : TG} {te : TE} {vs : List Nat} {σ : St} {H1 : Hp} {D : Addr} {Qd : Hp → Prop} {a : Addr} {xs : List V}
/-- over a tuple, with the place -/
theorem lc_pureTi (f : Nat → V) (ha : SqT K H1 a xs) (hD : H1 D = none) (hn : xs.length ≤ 100000)
    (hs : ∀ i x H (N : V → Hp → Prop), xs[i]? = some x → Same H1 H → (∀ H4, Same H H4 → N (f i) H4) → g x (wipe σ vs) H fun σ2 H2 => wipe σ2 vs = wipe σ vs ∧ te σ2 H2 N) (hd : ∀ H, Same H1 H → H D = some (.lst ((List.range xs.length).map f)) → Qd H) :
    ∃ W : Nat → Nat → Hp → Prop, (∃ m, W 0 m (upd H1 D (.lst []))) ∧ ∀ i m H, W i m H →
      ((Itt K a).stop i H ∧ Qd H) ∨ ((Itt K a).go i H ∧ ∃ Nx : Hp → Prop, (∀ H', Nx H' → ∃ m', m' < m ∧ W (i + 1) m' H') ∧ ∀ x H', (Itt K a).yld i H x H' → g x (wipe σ vs) H' fun σ2 H2 => wipe σ2 vs = wipe σ vs ∧ tYes σ2 H2 fun b H3 =>
        if b = true then te σ2 H3 fun y H4 => ∃ acc, H4 D = some (.lst acc) ∧ acc.length < sizeLine ∧ Nx (upd H4 D (.lst (acc ++ [y]))) else Nx H3) := by
  refine lc_pure (n := xs.length) (it := fun i => xs.getD i .non) (G := fun H => SqT K H a xs) f (walk_tup.mono (fun _ h => h) fun i H x H' hi _ y => ⟨y.1, ?_⟩) (fun H s => s.sqt ha) hD hn (fun i H N hi s k => ?_) fun H s e => hd H s e
  · rw [List.getD_eq_getElem?_getD, y.2]
    rfl
  · refine hs i _ H N ?_ s k
    rw [List.getD_eq_getElem?_getD, List.getElem?_eq_getElem hi]
    rfl
end
end L2
namespace Pl
open PySem L2 Tx
theorem lits_list (lit : List Nat → Bool) (rs : List (List Nat)) : (List.range rs.length).map (fun i => V.bl (lit (rs.getD i []))) = rs.map fun r => V.bl (lit r) := by
  apply List.ext_getElem
  · simp
  · intro i h1 h2
    simp at h1
    simp [List.getD_eq_getElem?_getD, List.getElem?_eq_getElem h1]
theorem lit_plain {w : Int} {r : List Nat} (h : litC w r = true) : ∀ c ∈ r, plainC c = true := by
  unfold litC at h
  exact fun c hc => List.all_eq_true.mp (Bool.and_eq_true_iff.mp (Bool.and_eq_true_iff.mp h).2).1 c hc
end Pl
namespace L2
open PySem
def rIntB : List V → Hp → VK → Prop := fun xs H Q => ∃ b : Bool, xs = [.bl b] ∧ Q (.int (if b then 1 else 0)) H
theorem call_intB {X : Cx} : CallR X (.type "int") rIntB := fun pins s σ H xs us Q I r h => by
  obtain ⟨b, e, q⟩ := h
  exact call_int1 pins s σ H xs us Q I r (.inr ⟨b, e, q⟩)
theorem g_intB {b : Bool} {H : Hp} {Q : VK} (q : Q (.int (if b then 1 else 0)) H) : rIntB [.bl b] H Q := ⟨b, rfl, q⟩
end L2
namespace L2
open PySem
theorem g_gsub {to ti : TE} {t : TSet} {v : V} {σ : St} {H : Hp} {Q : St → Hp → Prop} (h : to σ H fun o H1 => ti σ H1 fun i H2 => t o i v H2 fun H3 => Q σ H3) : gSub to ti t v σ H Q := h
end L2
namespace Pl
open PySem L2 Tx
def LRow (B H : Hp) (fl x : Addr) (row : List Nat) : Prop := H x = some (.lst (row.map iv)) ∧ x ≠ fl ∧ B x = none
theorem LRow.upd {B H : Hp} {fl x : Addr} {row : List Nat} {o : HO} (h : LRow B H fl x row) : LRow B (upd H fl o) fl x row := ⟨by rw [upd_ne h.2.1]; exact h.1, h.2⟩
theorem LRow.same {B H H1 : Hp} {fl x : Addr} {row : List Nat} (h : LRow B H fl x row) (s : Same H H1) : LRow B H1 fl x row := ⟨s _ _ h.1, h.2⟩
def spSignL : Sp := fun vs H Q _ => ∃ c : Nat, vs = [iv c] ∧ plainC c = true ∧ Q (.str (Cd.zs [c])) H
def spMarksL : Sp := fun vs H Q _ => vs = [] ∧ Q (.str Mk.MARKS) H
def spWidthL : Sp := fun vs H Q _ => ∃ (d l : Addr) (m : Nat), vs = [.ref d] ∧ Dr.Draw H d l m ∧ m ≤ 500000 ∧ ∀ (w : Int) H1, 50 ≤ w → w ≤ 200 → Dr.Draw H1 d l (m + 1) → Dr.Kp d H H1 → Q (.int w) H1
def spParts : Sp := fun vs H Q _ => ∃ (a : Addr) (cs : List Nat), vs = [.ref a] ∧ H a = some (.lst (cs.map iv)) ∧ cs.length ≤ 2000 ∧ ∀ H1 (q : Addr) (ps : List Addr), Same H H1 → H q = none → H1 q = some (.lst (ps.map V.ref)) → Paired (LRow H H1 q) ps (cutC cs) → Q (.ref q) H1
def spLitL : Sp := fun vs H Q _ => ∃ (a : Addr) (cs : List Nat) (w : Int), vs = [.ref a, .int w] ∧ H a = some (.lst (cs.map iv)) ∧ cs.length ≤ 2000 ∧ (∀ c ∈ cs, Cd.isC c = true) ∧ 32 ∉ cs ∧ ∀ H1, Same H H1 → Q (.str (if litC w cs then Cd.zs cs else "")) H1
theorem cut_no32 (cs : List Nat) : ∀ r ∈ cutC cs, 32 ∉ r := by
  have h : ∀ i, (∀ r ∈ (cfold (cs.take i)).1, 32 ∉ r) ∧ 32 ∉ (cfold (cs.take i)).2 := fun i => by
    induction i with
    | zero => exact ⟨fun r h => (nomatch h), fun h => (nomatch h)⟩
    | succ i ih =>
      cases e : cs[i]? with
      | none =>
        rw [List.take_add_one, e]
        simp only [Option.toList, List.append_nil]
        exact ih
      | some c =>
        rw [cfold_snoc e]
        unfold cstep
        split
        · refine ⟨fun r hr => ?_, fun h => (nomatch h)⟩
          rcases List.mem_append.mp hr with m | m
          · exact ih.1 r m
          · rw [List.mem_singleton.mp m]
            exact ih.2
        · rename_i hc
          refine ⟨ih.1, fun h => ?_⟩
          rcases List.mem_append.mp h with m | m
          · exact ih.2 m
          · exact hc (List.mem_singleton.mp m).symm
  intro r hr
  have q := h cs.length
  rw [List.take_of_length_le (Nat.le_refl _)] at q
  rcases List.mem_append.mp hr with m | m
  · exact q.1 r m
  · rw [List.mem_singleton.mp m]
    exact q.2
theorem cut_mem (cs : List Nat) : ∀ r ∈ cutC cs, ∀ c ∈ r, c ∈ cs := by
  have h : ∀ i, (∀ r ∈ (cfold (cs.take i)).1, ∀ c ∈ r, c ∈ cs) ∧ ∀ c ∈ (cfold (cs.take i)).2, c ∈ cs := fun i => by
    induction i with
    | zero => exact ⟨fun r h => (nomatch h), fun c h => (nomatch h)⟩
    | succ i ih =>
      cases e : cs[i]? with
      | none =>
        rw [List.take_add_one, e]
        simp only [Option.toList, List.append_nil]
        exact ih
      | some c =>
        rw [cfold_snoc e]
        unfold cstep
        split
        · refine ⟨fun r hr => ?_, fun c h => (nomatch h)⟩
          rcases List.mem_append.mp hr with m | m
          · exact ih.1 r m
          · rw [List.mem_singleton.mp m]
            exact ih.2
        · refine ⟨ih.1, fun c' h => ?_⟩
          rcases List.mem_append.mp h with m | m
          · exact ih.2 c' m
          · rw [List.mem_singleton.mp m]
            exact List.mem_of_getElem? e
  intro r hr
  have q := h cs.length
  rw [List.take_of_length_le (Nat.le_refl _)] at q
  rcases List.mem_append.mp hr with m | m
  · exact q.1 r m
  · rw [List.mem_singleton.mp m]
    exact q.2
theorem sign_at {c : Nat} (h : plainC c = true) : atI Mk.MARKS.cps.toList ((c : Int) - 32 - (if decide ((c : Int) > 37) then 1 else 0)) = some c := by
  obtain ⟨h1, h2, h3⟩ := Cd.isPlain_iff.mp h
  obtain ⟨m1, m2⟩ := Cd.mark_ix (c := c) h1 (by omega) h3
  by_cases g : c < 37
  · rw [decide_eq_false (show ¬ (c : Int) > 37 by omega)]
    have := m1 g
    simpa using this
  · rw [decide_eq_true (show (c : Int) > 37 by omega)]
    have := m2 g
    rw [show (c : Int) - 33 = (c : Int) - 32 - 1 by omega] at this
    simpa using this
end Pl
namespace L2
open PySem
section
variable {K : PySem.W.Frag} {g : TG} {te : TE} {tt : TT} {vs : List Nat} {σ : St} {H1 : Hp} {D : Addr} {Qd : Hp → Prop} {a : Addr} {xs : List V}
/-- over a list, what a test lets pass -/
theorem lc_filtL (pr : V → Bool) (ha : SqL K H1 a xs) (hD : H1 D = none) (hn : xs.length ≤ 100000)
    (hs : ∀ x H (N : V → Hp → Prop) (M : Hp → Prop), x ∈ xs → Same H1 H → (pr x = true → N x H) → (pr x = false → M H) → g x (wipe σ vs) H fun σ2 H2 => wipe σ2 vs = wipe σ vs ∧ tt σ2 H2 fun b H3 => if b = true then te σ2 H3 N else M H3)
    (hd : ∀ H, Same H1 H → H D = some (.lst (xs.filter pr)) → Qd H) :
    ∃ W : Nat → Nat → Hp → Prop, (∃ m, W 0 m (upd H1 D (.lst []))) ∧ ∀ i m H, W i m H →
      ((Itl K a).stop i H ∧ Qd H) ∨ ((Itl K a).go i H ∧ ∃ Nx : Hp → Prop, (∀ H', Nx H' → ∃ m', m' < m ∧ W (i + 1) m' H') ∧ ∀ x H', (Itl K a).yld i H x H' → g x (wipe σ vs) H' fun σ2 H2 => wipe σ2 vs = wipe σ vs ∧ tt σ2 H2 fun b H3 =>
        if b = true then te σ2 H3 fun y H4 => ∃ acc, H4 D = some (.lst acc) ∧ acc.length < sizeLine ∧ Nx (upd H4 D (.lst (acc ++ [y]))) else Nx H3) := by
  refine lc_it walk_list (fun i H => Same H1 H ∧ H D = some (.lst ((xs.take i).filter pr))) ⟨same_new hD, upd_same⟩ (fun i H _ p => Same.seq p.1 ha) (fun i x H H' hi p y => ?_) fun H p => hd H p.1 (by have := p.2; rwa [List.take_of_length_le (Nat.le_refl _)] at this)
  obtain ⟨rfl, hx⟩ := y
  have ht : xs.take (i + 1) = xs.take i ++ [x] := by rw [List.take_add_one, hx]; rfl
  refine hs x H' _ _ (List.mem_of_getElem? hx) p.1 (fun hp => ⟨_, p.2, ?_, p.1.mut hD, ?_⟩) fun hp => ⟨p.1, ?_⟩
  · refine Nat.lt_of_le_of_lt (List.length_filter_le _ _) ?_
    rw [List.length_take]
    exact Nat.lt_of_le_of_lt (Nat.min_le_right _ _) (Nat.lt_of_le_of_lt hn (by decide))
  · rw [upd_same, ht, List.filter_append, List.filter_cons, if_pos hp]
    rfl
  · rw [p.2, ht, List.filter_append, List.filter_cons, if_neg (by rw [hp]; decide)]
    simp
end
theorem ixN_last (n : Nat) : ixN (n + 1) (-1) = some n := by
  unfold ixN
  rw [if_neg (by decide), if_pos (by omega)]
  congr 1
  omega
theorem set_last {α : Type} (xs : List α) (x y : α) : (xs ++ [x]).set xs.length y = xs ++ [y] := by simp
end L2
namespace Pl
open PySem L2 Tx
def big6 : V → Bool
  | .int i => decide (i > 126)
  | _ => false
theorem big6_iv (cs : List Nat) : (cs.map iv).filter big6 = (cs.filter fun c => decide (c > 126)).map iv := by
  rw [List.filter_map]
  congr 1
  refine List.filter_congr fun c _ => ?_
  show decide ((c : Int) > 126) = decide (c > 126)
  refine decide_eq_decide.mpr ?_
  omega
theorem low_plain {cs : List Nat} (hc : ∀ c ∈ cs, Cd.isC c = true) : (cs.filter fun c => decide (c > 126)) = [] ↔ cs.all plainC = true := by
  rw [List.filter_eq_nil_iff, List.all_eq_true]
  constructor
  · intro h c hm
    have h1 := h c hm
    rw [decide_eq_true_eq] at h1
    have h2 := Cd.isC_iff.mp (hc c hm)
    exact Cd.isPlain_iff.mpr (by omega)
  · intro h c hm
    have := Cd.isPlain_iff.mp (h c hm)
    rw [decide_eq_true_eq]
    omega
theorem cut_first (l : List Nat) (n : Nat) : cutS (Cd.zs l) none (some (n : Int)) = Cd.zs (l.take n) := by
  have h := Cd.cutS_nat l 0 n
  rw [List.drop_zero, Nat.sub_zero] at h
  rw [← h]
  unfold cutS
  rw [Cd.zs_list, Cd.zs_len]
  simp [HT.sIx]
theorem cut_last2 {l : List Nat} (h : 4 ≤ l.length) : cutS (Cd.zs l) (some (-2)) none = Cd.zs (l.drop (l.length - 2)) := by
  unfold cutS
  rw [Cd.zs_list, Cd.zs_len, HT.sIx_none]
  have e : HT.sIx l.length 0 (some (-2)) = l.length - 2 := by
    show (if (-2 : Int) < 0 then ((-2 : Int) + (l.length : Int)).toNat else min (-2 : Int).toNat l.length) = _
    rw [if_pos (by decide)]
    omega
  rw [e, List.take_of_length_le (by rw [List.length_drop]; exact Nat.le_refl _)]
  rfl
end Pl
namespace Pl
open PySem L2 Tx
def DueV (H : Hp) (fl : Addr) : V → Pc → Prop
  | v, .lit s => v = .str (Cd.zs s)
  | v, .txt r => ∃ x, v = .ref x ∧ H x = some (.lst (r.map iv)) ∧ x ≠ fl
theorem DueV.same {H H1 : Hp} {fl : Addr} (s : Same H H1) : ∀ {v : V} {p : Pc}, DueV H fl v p → DueV H1 fl v p
  | _, .lit _, h => h
  | _, .txt _, ⟨x, e, h, n⟩ => ⟨x, e, s _ _ h, n⟩
theorem DueV.upd {H : Hp} {fl : Addr} {o : HO} : ∀ {v : V} {p : Pc}, DueV H fl v p → DueV (upd H fl o) fl v p
  | _, .lit _, h => h
  | _, .txt _, ⟨x, e, h, n⟩ => ⟨x, e, by rw [upd_ne n]; exact h, n⟩
def dat : Pc → PyData
  | .lit s => .str (Cd.zs s)
  | .txt r => .list (r.map fun (c : Nat) => PyData.int (c : Int))
theorem dps_due {K : PySem.W.Frag} {H : Hp} {fl : Addr} {xs : List V} {pcs : List Pc} (p : Paired (DueV H fl) xs pcs) : DpAll K H xs (pcs.map dat) := by
  induction p with
  | nil => exact .nil
  | @cons v pc vs ps h t ih =>
    refine .cons ?_ ih
    cases pc with
    | lit s =>
      obtain rfl : v = .str (Cd.zs s) := h
      exact .str _
    | txt r =>
      obtain ⟨x, rfl, e, _⟩ := h
      exact .lst (SqL.of e) (Tx.dps r)
theorem eqv_due (pcs : List Pc) : PyData.eqv (.list (pcs.map dat)) (.list []) = decide (pcs = []) := by
  rw [PyData.eqv]
  cases pcs with
  | nil => simp [PyData.eqvAll]
  | cons p ps => simp [PyData.eqvAll]
def litOk : Pc → Bool
  | .lit s => PyData.strOk (Cd.zs s)
  | .txt _ => true
theorem cla_due : ∀ pcs : List Pc, (∀ p ∈ pcs, litOk p = true) → PyData.canLayAll0 (pcs.map dat) = true
  | [], _ => by simp [PyData.canLayAll0]
  | .lit s :: ps, h => by
    have ih := cla_due ps fun p hp => h p (List.mem_cons_of_mem _ hp)
    have h1 : PyData.strOk (Cd.zs s) = true := h (.lit s) List.mem_cons_self
    simp [PyData.canLayAll0, PyData.canLay0, dat, ih, h1]
  | .txt r :: ps, h => by
    have ih := cla_due ps fun p hp => h p (List.mem_cons_of_mem _ hp)
    simp [PyData.canLayAll0, PyData.canLay0, dat, ih, Tx.cla_ints]
theorem dep_due : ∀ pcs : List Pc, PyData.depthAll (pcs.map dat) ≤ 2
  | [] => by simp [PyData.depthAll]
  | .lit s :: ps => by
    have := dep_due ps
    simp only [List.map_cons, PyData.depthAll, PyData.depth, dat]
    omega
  | .txt r :: ps => by
    have := dep_due ps
    have h1 := Tx.dep_ints r
    simp only [List.map_cons, PyData.depthAll, PyData.depth, dat]
    omega
theorem shaped_due {pcs : List Pc} (h : ∀ p ∈ pcs, litOk p = true) : SeqAt.shaped (.list (pcs.map dat)) = true := by
  have h1 := dep_due pcs
  show (PyData.canLay0 _ && decide (PyData.depth _ ≤ 64)) = true
  rw [Bool.and_eq_true]
  refine ⟨?_, decide_eq_true ?_⟩
  · simp only [PyData.canLay0]
    exact cla_due pcs h
  · simp only [PyData.depth]
    omega
end Pl
namespace Pl
open PySem L2 Tx
def spDue (K : PySem.W.Frag) : Sp := fun vs H Q _ => ∃ (a : Addr) (cs : List Nat) (w : Int), vs = [.ref a, .int w] ∧ H a = some (.lst (cs.map iv)) ∧ cs.length ≤ 2000 ∧ (∀ c ∈ cs, Cd.isC c = true) ∧ ∀ H1 (q : Addr) (xs : List V), Same H H1 → H1 q = some (.lst xs) → Paired (DueV H1 q) xs (piecesOf w cs) → Q (.ref q) H1
theorem lit_strOk {w : Int} {r : List Nat} (h : litC w r = true) : litOk (.lit r) = true := by
  show (r.toArray).all _ = true
  rw [List.all_toArray, List.all_eq_true]
  intro c hc
  obtain ⟨h1, h2, h3⟩ := Cd.isPlain_iff.mp (lit_plain h c hc)
  exact decide_eq_true (show c < 1114112 by omega)
theorem dfold_ok (w : Int) (rs : List (List Nat)) : ∀ i, (∀ p ∈ (rs.take i).foldl (dstep (litC w)) [], litOk p = true) ∧ ((rs.take i).foldl (dstep (litC w)) []).length ≤ i
  | 0 => ⟨fun p h => (nomatch h), Nat.le_refl _⟩
  | i + 1 => by
    obtain ⟨h1, h2⟩ := dfold_ok w rs i
    cases e : rs[i]? with
    | none =>
      rw [List.take_add_one, e]
      simp only [Option.toList, List.append_nil]
      exact ⟨h1, Nat.le_succ_of_le h2⟩
    | some x =>
      have f : (rs.take (i + 1)).foldl (dstep (litC w)) [] = dstep (litC w) ((rs.take i).foldl (dstep (litC w)) []) x := by rw [List.take_add_one, e, List.foldl_append]; rfl
      rw [f]
      generalize (rs.take i).foldl (dstep (litC w)) [] = acc at h1 h2
      unfold dstep
      by_cases hx : litC w x = true
      · rw [if_pos hx]
        refine ⟨fun p hp => ?_, by rw [List.length_append]; exact Nat.add_le_add_right h2 1⟩
        rcases List.mem_append.mp hp with m | m
        · exact h1 p m
        · rw [List.mem_singleton.mp m]
          exact lit_strOk hx
      · rw [if_neg hx]
        split
        · rename_i r hr
          refine ⟨fun p hp => ?_, ?_⟩
          · rcases List.mem_append.mp hp with m | m
            · exact h1 p (List.dropLast_subset _ m)
            · rw [List.mem_singleton.mp m]
              rfl
          · rw [List.length_append, List.length_dropLast]
            show acc.length - 1 + 1 ≤ i + 1
            omega
        · refine ⟨fun p hp => ?_, by rw [List.length_append]; exact Nat.add_le_add_right h2 1⟩
          rcases List.mem_append.mp hp with m | m
          · exact h1 p m
          · rw [List.mem_singleton.mp m]
            rfl
theorem paired_last {F : V → Pc → Prop} {xs : List V} {ps : List Pc} (p : Paired F xs ps) : (xs = [] ∧ ps = []) ∨ ∃ ys v qs c, xs = ys ++ [v] ∧ ps = qs ++ [c] ∧ Paired F ys qs ∧ F v c := by
  induction p with
  | nil => exact .inl ⟨rfl, rfl⟩
  | @cons a b l1 l2 h t ih =>
    rcases ih with ⟨rfl, rfl⟩ | ⟨ys, v, qs, c, rfl, rfl, q, f⟩
    · exact .inr ⟨[], a, [], b, rfl, rfl, .nil, h⟩
    · exact .inr ⟨a :: ys, v, b :: qs, c, rfl, rfl, .cons h q, f⟩
theorem dstep_lit {w : Int} {acc : List Pc} {x : List Nat} (h : litC w x = true) : dstep (litC w) acc x = acc ++ [.lit x] := if_pos h
theorem dstep_txt {w : Int} {qs : List Pc} {r x : List Nat} (h : ¬ litC w x = true) : dstep (litC w) (qs ++ [.txt r]) x = qs ++ [.txt (r ++ 32 :: x)] := by
  unfold dstep
  rw [if_neg h]
  simp
theorem dstep_new {w : Int} {qs : List Pc} {s x : List Nat} (h : ¬ litC w x = true) : dstep (litC w) (qs ++ [.lit s]) x = qs ++ [.lit s] ++ [.txt x] := by
  unfold dstep
  rw [if_neg h]
  simp
theorem dstep_nil {w : Int} {x : List Nat} (h : ¬ litC w x = true) : dstep (litC w) [] x = [.txt x] := by
  unfold dstep
  rw [if_neg h]
  simp
end Pl
namespace Pl
open PySem L2 Tx
theorem lit_ne {w : Int} {r : List Nat} (h : litC w r = true) : ¬ V.str (Cd.zs r) = V.str "" := fun e => by
  have e2 : ("" : Str) = Cd.zs [] := by decide +kernel
  rw [e2] at e
  rw [Cd.zs_inj (V.str.inj e)] at h
  cases h
end Pl
namespace Pl
open PySem L2 Tx
theorem dfold_txt (w : Int) (rs : List (List Nat)) : ∀ i, ∀ r, Pc.txt r ∈ (rs.take i).foldl (dstep (litC w)) [] → r.length + 1 ≤ tot (rs.take i)
  | 0, r, h => (nomatch h)
  | i + 1, r, h => by
    cases e : rs[i]? with
    | none =>
      rw [List.take_add_one, e] at h ⊢
      simp only [Option.toList, List.append_nil] at h ⊢
      exact dfold_txt w rs i r h
    | some x =>
      have f : (rs.take (i + 1)).foldl (dstep (litC w)) [] = dstep (litC w) ((rs.take i).foldl (dstep (litC w)) []) x := by rw [List.take_add_one, e, List.foldl_append]; rfl
      have t : tot (rs.take (i + 1)) = tot (rs.take i) + (x.length + 1) := by rw [List.take_add_one, e, tot_app]; rfl
      have ih := dfold_txt w rs i
      rw [f] at h
      rw [t]
      generalize (rs.take i).foldl (dstep (litC w)) [] = acc at h ih
      unfold dstep at h
      by_cases hx : litC w x = true
      · rw [if_pos hx] at h
        rcases List.mem_append.mp h with m | m
        · have := ih r m
          omega
        · cases (List.mem_singleton.mp m)
      · rw [if_neg hx] at h
        split at h
        · rename_i r' hr
          rcases List.mem_append.mp h with m | m
          · have := ih r (List.dropLast_subset _ m)
            omega
          · have e2 := Pc.txt.inj (List.mem_singleton.mp m)
            have := ih r' (List.mem_of_getLast? hr)
            rw [e2, List.length_append, List.length_cons]
            omega
        · rcases List.mem_append.mp h with m | m
          · have := ih r m
            omega
          · have e2 := Pc.txt.inj (List.mem_singleton.mp m)
            rw [e2]
            omega
theorem tot_take (rs : List (List Nat)) (i : Nat) : tot (rs.take i) ≤ tot rs := by
  have z := tot_app (rs.take i) (rs.drop i)
  rw [List.take_append_drop] at z
  omega
end Pl
namespace Pl
open PySem L2 Tx
def spTN : Sp := fun vs H Q _ => ∃ (d l : Addr) (m : Nat) (w : Int), vs = [.ref d, .int w] ∧ Dr.Draw H d l m ∧ m ≤ 400000 ∧ 50 ≤ w ∧ w ≤ 200 ∧ ∀ (cs : List Nat) (p : Addr) H1, cs.length ≤ 2000 → (∀ c ∈ cs, Cd.isC c = true) → H1 p = some (.lst (cs.map iv)) → Dr.Draw H1 d l (m + 400) → Dr.Kp d H H1 → Q (.ref p) H1
def spRightL : Sp := fun vs H Q _ => ∃ (a : Addr) (cs : List Nat) (w : Int), vs = [.ref a, .int w] ∧ H a = some (.lst (cs.map iv)) ∧ cs.length ≤ 2000 ∧ (∀ c ∈ cs, Cd.isC c = true) ∧ 50 ≤ w ∧ w ≤ 200 ∧ ∀ H1, Same H H1 → Q (.bl true) H1
end Pl
namespace Pl
open PySem L2 Tx
abbrev LN (H : Hp) (p : Addr) (cs : List Nat) : Prop := H p = some (.lst (cs.map iv))
theorem g_catN {K : PySem.W.Frag} {H : Hp} {Q : VK} {f p : Addr} {cs ds : List Nat} (h1 : LN H f cs) (h2 : LN H p ds) (hz : cs.length + ds.length ≤ 100000) (q : ∀ r, H r = none → Q (.ref r) (upd H r (.lst ((cs ++ ds).map iv)))) : rCatS K (.ref f) (.ref p) H Q := by
  refine g_cats (SqL.of h1) (SqL.of h2) (by rw [List.length_map, List.length_map]; exact Nat.le_trans hz (by decide)) fun r hr => ?_
  rw [← List.map_append]
  exact q r hr
end Pl
namespace Pl
open PySem L2 Tx
theorem g_repN {H : Hp} {Q : VK} {f : Addr} {c : Nat} {k : Int} (h1 : LN H f [c]) (h0 : 0 ≤ k) (hk : k ≤ 10000) (q : ∀ r, H r = none → Q (.ref r) (upd H r (.lst ((List.replicate k.toNat c).map iv)))) : rRep (.ref f) (.int k) H Q := by
  refine ⟨f, k, _, rfl, rfl, h1, by omega, by omega, Nat.le_trans (show 1 * k.toNat ≤ 10000 by omega) (by decide), fun p hp => ?_⟩
  have e : (List.replicate k.toNat ([c].map iv)).flatten = (List.replicate k.toNat c).map iv := by
    generalize k.toNat = n
    induction n with
    | zero => rfl
    | succ n ih =>
      rw [List.replicate_succ, List.flatten_cons, ih, List.replicate_succ, List.map_cons]
      rfl
  rw [e]
  exact q p hp
theorem isC32 : Cd.isC 32 = true := by decide +kernel
theorem isC97 : Cd.isC 97 = true := by decide +kernel
theorem all_app {p : Nat → Bool} {a b : List Nat} (ha : ∀ c ∈ a, p c = true) (hb : ∀ c ∈ b, p c = true) : ∀ c ∈ a ++ b, p c = true := fun c h => (List.mem_append.mp h).elim (ha c) (hb c)
theorem all_one {p : Nat → Bool} {x : Nat} (h : p x = true) : ∀ c ∈ [x], p c = true := fun c hc => by rw [List.mem_singleton.mp hc]; exact h
theorem all_rep {p : Nat → Bool} {x n : Nat} (h : p x = true) : ∀ c ∈ List.replicate n x, p c = true := fun c hc => by rw [(List.mem_replicate.mp hc).2]; exact h
def TOKS : List Str := ["=?a?=", "=??=", "=?=", "?==?", "=?latin?h?x?=", "=?x"]
theorem toks_ok : ∀ z ∈ TOKS, z.length ≤ 20 ∧ ∀ c ∈ z.cps.toList, Cd.isC c = true := by decide +kernel
theorem kp_same {d : Addr} {H H' : Hp} (k : Dr.Kp d H H') {H2 : Hp} (s : Same H' H2) : Dr.Kp d H H2 := k.trans (Tx.kp_of_same s)
end Pl
namespace Pl
open PySem L2 Tx
theorem eqv_same (z : List Nat) : PyData.eqv (.list (z.map fun (c : Nat) => PyData.int (c : Int))) (.list (z.map fun (c : Nat) => PyData.int (c : Int))) = true := by
  rw [PyData.eqv, Tx.eqvAll_ints]
  exact decide_eq_true rfl
theorem DTup_pcs {K : PySem.W.Frag} {C p q : Addr} {H : Hp} {xs ys : List V} {pcs : List Pc} (h1 : H p = some (.tup xs)) (h2 : H q = some (.tup ys)) (px : Paired (PcV K C H) xs pcs) (py : Paired (PcV K C H) ys pcs) : DTup K (Cd.DT K C) (.ref p) (.ref q) H := by
  refine ⟨p, q, xs, ys, rfl, rfl, SqT.of h1, SqT.of h2, px.length.trans py.length.symm, fun i x y e1 e2 => ?_⟩
  obtain ⟨c, ec, hx⟩ := paired_at px e1
  obtain ⟨c', ec', hy⟩ := paired_at py e2
  rw [ec] at ec'
  obtain rfl := Option.some.inj ec'
  cases c with
  | lit z =>
    obtain rfl : x = .str (Cd.zs z) := hx
    obtain rfl : y = .str (Cd.zs z) := hy
    exact .inr ⟨rfl, rfl, by simp [eqV]⟩
  | txt r =>
    obtain ⟨a, rfl, A⟩ := hx
    obtain ⟨b, rfl, B⟩ := hy
    obtain ⟨dx, t, g1, g2⟩ := id A
    obtain ⟨dy, u, g3, g4⟩ := id B
    exact .inl ⟨a, b, dx, dy, _, _, rfl, rfl, g1, g3, r, A, B⟩
end Pl
namespace L2
open PySem
theorem g_callN {n m : Nat} {sp : Sp} {gV : List V → List V → List V} {E : XK} {t tk : TA} {σ : St} {H : Hp} {Q : VK} (h : t σ H fun vs H1 => tk σ H1 fun zs H2 => vs.length = n ∧ zs.length = m ∧ sp (gV vs zs) H2 Q E) : tCallN n m sp gV E t tk σ H Q := h
end L2
namespace K19
open PySem L2
abbrev P : Program := PySem.Challenge.pw_headerfold_k19_plain_pieces
local macro_rules | `(tactic| walk_at "g1") => `(tactic| first
  | ((with_reducible show tSeq _ _ _ _ _); refine g_seq ?_)
  | ((with_reducible show tAsg _ _ _ _ _); refine g_asg ?_)
  | ((with_reducible show gName _ _ _ _ _); refine g_name ?_)
  | ((with_reducible show tVar _ _ _ _); refine g_var rfl ?_)
  | ((with_reducible show tC _ _ _ _); refine g_c ?_)
  | ((with_reducible show tOp _ _ _ _ _ _); refine g_op ?_)
  | ((with_reducible show tUn _ _ _ _ _); refine g_un ?_)
  | ((with_reducible show rI0 _ _ _ _ _); refine g_I0 ?_)
  | ((with_reducible show rI _ _ _ _ _ _); refine g_I (by walk_at "side") ?_)
  | ((with_reducible show rU _ _ _ _); refine g_U ?_)
  | ((with_reducible show rEq _ _ _ _); refine g_eq rfl ?_)
  | ((with_reducible show rNe _ _ _ _); refine g_ne rfl ?_)
  | ((with_reducible show tCons _ _ _ _ _); refine g_tcons ?_)
  | ((with_reducible show tNil _ _ _); refine g_tnil ?_)
  | ((with_reducible show tCall _ _ _ _ _ _ _); refine g_call ?_)
  | ((with_reducible show tCB _ _ _ _ _); refine g_cb ?_)
  | ((with_reducible show tTup _ _ _ _); refine g_tup ?_)
  | ((with_reducible show tLst _ _ _ _); refine g_lst ?_)
  | ((with_reducible show tRet _ _ _ _); refine g_ret ?_)
  | ((with_reducible show tDrop _ _ _ _); refine g_drop ?_)
  | ((with_reducible show tNext _ _ _); refine g_next ?_)
  | ((with_reducible show tCont _ _ _); refine g_cont ?_)
  | ((with_reducible show tBreak _ _ _); refine g_break ?_)
  | ((with_reducible show tIfS _ _ _ _ _ _); refine g_ifs ?_)
  | ((with_reducible show tIf _ _ _ _ _ _); refine g_ife ?_)
  | ((with_reducible show tTest _ _ _ _); refine g_test ?_)
  | ((with_reducible show tB _ _ _ _); refine g_tb ?_)
  | ((with_reducible show tAnd _ _ _ _ _); refine g_and ?_)
  | ((with_reducible show tOr _ _ _ _ _); refine g_or ?_)
  | ((with_reducible show tNot _ _ _ _); refine g_not ?_)
  | ((with_reducible show tAndV _ _ _ _ _); refine g_andV ?_)
  | ((with_reducible show tOrV _ _ _ _ _); refine g_orV ?_)
  | ((with_reducible show tNotV _ _ _ _); refine g_notV ?_)
  | ((with_reducible show tChain _ _ _ _ _ _ _ _); refine g_chain ?_)
  | ((with_reducible show tDGet _ _ _ _ _); refine g_dget ?_)
  | ((with_reducible show sDPut _ _ _ _ _ _); refine g_dput ?_)
  | ((with_reducible show tFor _ _ _ _ _ _); refine g_for ?_)
  | ((with_reducible show tSl _ _ _ _ _ _ _); refine g_sl ?_)
  | ((with_reducible show tNoPart _ _ _); refine g_nop ?_)
  | ((with_reducible show tPart _ _ _ _); refine g_part ?_)
  | ((with_reducible show tM1 _ _ _ _ _ _); refine g_m1 ?_)
  | ((with_reducible show tM0 _ _ _ _ _); refine g_m0 ?_)
  | ((with_reducible show tBM _ _ _ _ _ _ _ _); refine g_bm ?_)
  | ((with_reducible show rMin1 _ _ _); refine g_min ?_)
  | ((with_reducible show rMax1 _ _ _); refine g_max ?_)
  | ((with_reducible show rOrd1 _ _ _); refine g_ord ?_)
  | ((with_reducible show rLtZ _ _ _ _); refine g_ltz ?_)
  | ((with_reducible show rIsN _ _ _ _); refine g_isn ?_)
  | ((with_reducible show rNotN _ _ _ _); refine g_notn ?_)
  | ((with_reducible show rInS _ _ _ _); refine g_inS ?_)
  | ((with_reducible show rNotInS _ _ _ _); refine g_notInS ?_)
  | ((with_reducible show iList _ _ _ _ _); refine g_ilist ?_)
  | ((with_reducible show iStr _ _ _ _); refine g_istr ?_)
  | ((with_reducible show iRng1 _ _ _ _); refine g_irng1 ?_)
  | ((with_reducible show tDisp _ _ _ _); refine g_disp ?_)
  | ((with_reducible show tPairs (_ :: _) _ _ _); refine g_pcons ?_)
  | ((with_reducible show tPairs [] _ _ _); refine g_pnil ?_)
  | ((with_reducible show rIsi _ [_, V.ty _] _ _); first | refine g_isint (by assumption) ?_ | refine g_isbl (by assumption) ?_ | refine g_isstr (by assumption) ?_)
  | ((with_reducible show rLeZ _ _ _ _); refine g_lez ?_)
  | ((with_reducible show tYes _ _ _); refine g_yes ?_)
  | ((with_reducible show tPar _ _ _ _ _ _); refine g_par ?_)
  | ((with_reducible show tDNewK _ _ _); refine g_dnew ?_)
  | ((with_reducible show gCons _ _ (_ :: _) _ _ _); refine g_gcons ?_)
  | ((with_reducible show gNil [] _ _ _); refine g_gnil ?_)
  | ((with_reducible show tLc _ _ _ _ _ _ _ _); refine g_lc ?_)
  | ((with_reducible show tKw0 _ _ _ _ _ _ _ _); refine g_kw0 ?_)
  | (with_reducible refine g_two ?_)
  | (with_reducible refine g_bl ?_)
  | (with_reducible refine g_int ?_)
  | (with_reducible refine iteF ?_)
  | (with_reducible refine iteT ?_)
  | (with_reducible refine g_isz ?_)
  | ((with_reducible show ∃ a v, V.ref _ = V.ref a ∧ DGet _ a _ (some v) ∧ _); refine g_dgets (by first | exact Dr.get_at (by assumption) | exact Dr.get_left (by assumption) | exact Dr.get_cells (by assumption) | exact Dr.get_used (by assumption)) ?_)
  | ((with_reducible show ∃ a H4, V.ref _ = V.ref a ∧ DPut _ a _ _ H4 ∧ _); refine g_dputs (by first | exact Dr.put_at (by assumption) | exact Dr.put_left (by assumption) | exact Dr.put_used (by assumption)) ?_)
  )
local macro_rules | `(tactic| walk_at "go") => `(tactic| repeat walk_at "g1")
local macro_rules | `(tactic| walk_at "side") => `(tactic| first
  | decide
  | omega
  | exact ⟨by decide, by decide⟩
  | exact ⟨by omega, by omega⟩
  | exact Or.inl ⟨by omega, by omega⟩
  | exact Or.inr ⟨by omega, by omega⟩
  | (show (0 : Int) < _; omega))
local macro_rules | `(tactic| walk_at "g1") => `(tactic| first
  | ((with_reducible show tRaiseE _ _ _ _ _ _ _); refine g_raise ?_)
  | ((with_reducible show tTryH _ _ _ _ _ _ _ _); refine g_tryH ?_)
  | ((with_reducible show tKw0S _ _ _ _ _ _ _ _); refine g_kw0S ?_)
  | ((with_reducible show iRng3 _ _ _ _); refine g_irng3 ?_)
  | ((with_reducible show tHeld _ _ _ _ _ _); refine g_held ?_)
  | ((with_reducible show tRevL _ _ _ _ _); refine g_revl ?_)
  | ((with_reducible show rStartZ _ _ _ _); refine g_startz ?_)
  | ((with_reducible show rCountZ _ _ _ _); refine g_countz ?_)
  )
local macro_rules | `(tactic| walk_at "g1") => `(tactic| first
  | ((with_reducible show tFld _ _ _ _ _ _); refine g_fld ?_)
  | ((with_reducible show sFld _ _ _ _ _ _ _); refine g_fldS ?_)
  | ((with_reducible show tProp _ _ _ _ _ _ _ _); refine g_prop ?_)
  | ((with_reducible show tMake _ _ _ _ _ _ _ _); refine g_make ?_)
  | ((with_reducible show ClX.tCMeth _ _ _ _ _ _ _ _); refine g_cmeth ?_)
  | ((with_reducible show StX.tStar _ _ _ _ _ _); refine g_starA ?_)
  | ((with_reducible show iEnumT _ _ _ _ _); refine g_ienT ?_)
  | ((with_reducible show iEnumZ _ _ _ _); refine g_ienZ ?_)
  | ((with_reducible show tRevT _ _ _ _ _); refine g_revT ?_)
  | ((with_reducible show tHex _ _ _ _); refine g_hex ?_)
  )
local macro_rules | `(tactic| walk_at "g1") => `(tactic| first
  | ((with_reducible show iTup _ _ _ _ _); refine g_itup ?_)
  )
local macro_rules | `(tactic| walk_at "g1") => `(tactic| first
  | ((with_reducible show ∃ i, Tx.iv _ = V.int i ∧ _); refine g_int ?_)
  )
local macro_rules | `(tactic| walk_at "g1") => `(tactic| first
  | ((with_reducible show iZipM _ _ _ _ _); refine g_zipM ?_)
  | ((with_reducible show tSMeth _ _ _ _ _ _ _ _); refine g_smeth ?_)
  | ((with_reducible show tMeth _ _ _ _ _ _ _ _ _ _); refine g_meth ?_)
  | ((with_reducible show gSub _ _ _ _ _ _ _); refine g_gsub ?_)
  | ((with_reducible show tCallN _ _ _ _ _ _ _ _ _ _); refine g_callN ?_)
  )
def topS (i : Nat) : Stmt := PySem.Challenge.pw_headerfold_k19_plain_pieces.main.body.getD i (.Pass ⟨0, 0, 0, 0⟩)
abbrev s_is_number : Stmt := topS 11
abbrev sN_is_number : List Str := ["thing"]
theorem sc_is_number : FnScope sN_is_number ["thing"] (defScope s_is_number) := ⟨rfl, rfl, rfl, by decide +kernel, rfl, by decide +kernel, by decide +kernel⟩
abbrev s_is_between : Stmt := topS 12
abbrev sN_is_between : List Str := ["thing", "low", "high"]
theorem sc_is_between : FnScope sN_is_between ["thing", "low", "high"] (defScope s_is_between) := ⟨rfl, rfl, rfl, by decide +kernel, rfl, by decide +kernel, by decide +kernel⟩
abbrev s_consists_of : Stmt := topS 13
abbrev sN_consists_of : List Str := ["thing", "marks", "mark"]
theorem sc_consists_of : FnScope sN_consists_of ["thing", "marks"] (defScope s_consists_of) := ⟨rfl, rfl, rfl, by decide +kernel, rfl, by decide +kernel, by decide +kernel⟩
abbrev s_is_body : Stmt := topS 14
abbrev sN_is_body : List Str := ["thing"]
theorem sc_is_body : FnScope sN_is_body ["thing"] (defScope s_is_body) := ⟨rfl, rfl, rfl, by decide +kernel, rfl, by decide +kernel, by decide +kernel⟩
abbrev s_is_plain_code : Stmt := topS 15
abbrev sN_is_plain_code : List Str := ["thing"]
theorem sc_is_plain_code : FnScope sN_is_plain_code ["thing"] (defScope s_is_plain_code) := ⟨rfl, rfl, rfl, by decide +kernel, rfl, by decide +kernel, by decide +kernel⟩
abbrev s_is_code : Stmt := topS 16
abbrev sN_is_code : List Str := ["thing"]
theorem sc_is_code : FnScope sN_is_code ["thing"] (defScope s_is_code) := ⟨rfl, rfl, rfl, by decide +kernel, rfl, by decide +kernel, by decide +kernel⟩
abbrev s_mark_of : Stmt := topS 17
abbrev sN_mark_of : List Str := ["code"]
theorem sc_mark_of : FnScope sN_mark_of ["code"] (defScope s_mark_of) := ⟨rfl, rfl, rfl, by decide +kernel, rfl, by decide +kernel, by decide +kernel⟩
abbrev s__text_with : Stmt := topS 21
abbrev sN__text_with : List Str := ["codes", "made"]
theorem sc__text_with : FnScope sN__text_with ["codes"] (defScope s__text_with) := ⟨rfl, rfl, rfl, by decide +kernel, rfl, by decide +kernel, by decide +kernel⟩
abbrev s__shown : Stmt := topS 22
abbrev sN__shown : List Str := ["code"]
theorem sc__shown : FnScope sN__shown ["code"] (defScope s__shown) := ⟨rfl, rfl, rfl, by decide +kernel, rfl, by decide +kernel, by decide +kernel⟩
abbrev s_has_shape : Stmt := topS 25
abbrev sN_has_shape : List Str := ["word"]
theorem sc_has_shape : FnScope sN_has_shape ["word"] (defScope s_has_shape) := ⟨rfl, rfl, rfl, by decide +kernel, rfl, by decide +kernel, by decide +kernel⟩
abbrev s__is_word : Stmt := topS 26
abbrev sN__is_word : List Str := ["thing"]
theorem sc__is_word : FnScope sN__is_word ["thing"] (defScope s__is_word) := ⟨rfl, rfl, rfl, by decide +kernel, rfl, by decide +kernel, by decide +kernel⟩
abbrev s_is_width : Stmt := topS 30
abbrev sN_is_width : List Str := ["thing"]
theorem sc_is_width : FnScope sN_is_width ["thing"] (defScope s_is_width) := ⟨rfl, rfl, rfl, by decide +kernel, rfl, by decide +kernel, by decide +kernel⟩
abbrev s_plain_pieces : Stmt := topS 32
abbrev sN_plain_pieces : List Str := ["text", "width", "parts", "part"]
theorem sc_plain_pieces : FnScope sN_plain_pieces ["text", "width"] (defScope s_plain_pieces) := ⟨rfl, rfl, rfl, by decide +kernel, rfl, by decide +kernel, by decide +kernel⟩
abbrev s_pieces_of_parts : Stmt := topS 33
abbrev sN_pieces_of_parts : List Str := ["parts", "literals", "pieces", "row", "part", "is_literal"]
theorem sc_pieces_of_parts : FnScope sN_pieces_of_parts ["parts", "literals"] (defScope s_pieces_of_parts) := ⟨rfl, rfl, rfl, by decide +kernel, rfl, by decide +kernel, by decide +kernel⟩
abbrev s__is_literal : Stmt := topS 34
abbrev sN__is_literal : List Str := ["part", "width"]
theorem sc__is_literal : FnScope sN__is_literal ["part", "width"] (defScope s__is_literal) := ⟨rfl, rfl, rfl, by decide +kernel, rfl, by decide +kernel, by decide +kernel⟩
abbrev s__law_begin : Stmt := topS 36
abbrev sN__law_begin : List Str := ["script"]
theorem sc__law_begin : FnScope sN__law_begin ["script"] (defScope s__law_begin) := ⟨rfl, rfl, rfl, by decide +kernel, rfl, by decide +kernel, by decide +kernel⟩
abbrev s__law_mixed : Stmt := topS 37
abbrev sN__law_mixed : List Str := ["cell", "k", "mixed"]
theorem sc__law_mixed : FnScope sN__law_mixed ["cell", "k"] (defScope s__law_mixed) := ⟨rfl, rfl, rfl, by decide +kernel, rfl, by decide +kernel, by decide +kernel⟩
abbrev s__law_next : Stmt := topS 38
abbrev sN__law_next : List Str := ["draw", "bound", "found", "cells", "cell"]
theorem sc__law_next : FnScope sN__law_next ["draw", "bound"] (defScope s__law_next) := ⟨rfl, rfl, rfl, by decide +kernel, rfl, by decide +kernel, by decide +kernel⟩
abbrev s__law_marks : Stmt := topS 39
abbrev sN__law_marks : List Str := ["some"]
theorem sc__law_marks : FnScope sN__law_marks [] (defScope s__law_marks) := ⟨rfl, rfl, rfl, by decide +kernel, rfl, by decide +kernel, by decide +kernel⟩
abbrev s__law_sign : Stmt := topS 40
abbrev sN__law_sign : List Str := ["number"]
theorem sc__law_sign : FnScope sN__law_sign ["number"] (defScope s__law_sign) := ⟨rfl, rfl, rfl, by decide +kernel, rfl, by decide +kernel, by decide +kernel⟩
abbrev s__law_numbers : Stmt := topS 41
abbrev sN__law_numbers : List Str := ["draw", "most", "some", "k"]
theorem sc__law_numbers : FnScope sN__law_numbers ["draw", "most"] (defScope s__law_numbers) := ⟨rfl, rfl, rfl, by decide +kernel, rfl, by decide +kernel, by decide +kernel⟩
abbrev s__law_width : Stmt := topS 42
abbrev sN__law_width : List Str := ["draw"]
theorem sc__law_width : FnScope sN__law_width ["draw"] (defScope s__law_width) := ⟨rfl, rfl, rfl, by decide +kernel, rfl, by decide +kernel, by decide +kernel⟩
abbrev s__law_parts : Stmt := topS 43
abbrev sN__law_parts : List Str := ["numbers", "found", "number"]
theorem sc__law_parts : FnScope sN__law_parts ["numbers"] (defScope s__law_parts) := ⟨rfl, rfl, rfl, by decide +kernel, rfl, by decide +kernel, by decide +kernel⟩
abbrev s__law_literal : Stmt := topS 44
abbrev sN__law_literal : List Str := ["part", "wide", "signs", "number"]
theorem sc__law_literal : FnScope sN__law_literal ["part", "wide"] (defScope s__law_literal) := ⟨rfl, rfl, rfl, by decide +kernel, rfl, by decide +kernel, by decide +kernel⟩
abbrev s__law_pieces_due : Stmt := topS 45
abbrev sN__law_pieces_due : List Str := ["numbers", "wide", "found", "part", "signs"]
theorem sc__law_pieces_due : FnScope sN__law_pieces_due ["numbers", "wide"] (defScope s__law_pieces_due) := ⟨rfl, rfl, rfl, by decide +kernel, rfl, by decide +kernel, by decide +kernel⟩
abbrev s__law_text_numbers : Stmt := topS 46
abbrev sN__law_text_numbers : List Str := ["draw", "wide", "found", "k", "way", "signs", "sign"]
theorem sc__law_text_numbers : FnScope sN__law_text_numbers ["draw", "wide"] (defScope s__law_text_numbers) := ⟨rfl, rfl, rfl, by decide +kernel, rfl, by decide +kernel, by decide +kernel⟩
abbrev s__law_right : Stmt := topS 47
abbrev sN__law_right : List Str := ["numbers", "wide", "due", "told", "one", "row"]
theorem sc__law_right : FnScope sN__law_right ["numbers", "wide"] (defScope s__law_right) := ⟨rfl, rfl, rfl, by decide +kernel, rfl, by decide +kernel, by decide +kernel⟩
abbrev s_law : Stmt := topS 48
abbrev sN_law : List Str := ["script", "draw", "bout", "wide", "numbers", "whole"]
theorem sc_law : FnScope sN_law ["script"] (defScope s_law) := ⟨rfl, rfl, rfl, by decide +kernel, rfl, by decide +kernel, by decide +kernel⟩
def inCls (s : Stmt) (i : Nat) : Stmt := match s with
  | .ClassDef _ _ _ b _ _ _ _ _ _ _ => b.getD i (.Pass ⟨0, 0, 0, 0⟩)
  | _ => .Pass ⟨0, 0, 0, 0⟩
abbrev s_Text___init__ : Stmt := inCls (topS 20) 0
abbrev sN_Text___init__ : List Str := ["self", "marks", "mark"]
theorem sc_Text___init__ : FnScope sN_Text___init__ ["self", "marks"] (defScope s_Text___init__) := ⟨rfl, rfl, rfl, by decide +kernel, rfl, by decide +kernel, by decide +kernel⟩
abbrev s_Text_of : Stmt := inCls (topS 20) 1
abbrev sN_Text_of : List Str := ["cls", "codes", "place", "code"]
theorem sc_Text_of : FnScope sN_Text_of ["cls", "codes"] (defScope s_Text_of) := ⟨rfl, rfl, rfl, by decide +kernel, rfl, by decide +kernel, by decide +kernel⟩
abbrev s_Text_joined : Stmt := inCls (topS 20) 2
abbrev sN_Text_joined : List Str := ["texts", "codes", "place", "text"]
theorem sc_Text_joined : FnScope sN_Text_joined ["texts"] (defScope s_Text_joined) := ⟨rfl, rfl, rfl, by decide +kernel, rfl, by decide +kernel, by decide +kernel⟩
abbrev s_Text_codes : Stmt := inCls (topS 20) 3
abbrev sN_Text_codes : List Str := ["self"]
theorem sc_Text_codes : FnScope sN_Text_codes ["self"] (defScope s_Text_codes) := ⟨rfl, rfl, rfl, by decide +kernel, rfl, by decide +kernel, by decide +kernel⟩
abbrev s_Text_is_plain : Stmt := inCls (topS 20) 4
abbrev sN_Text_is_plain : List Str := ["self", "code"]
theorem sc_Text_is_plain : FnScope sN_Text_is_plain ["self"] (defScope s_Text_is_plain) := ⟨rfl, rfl, rfl, by decide +kernel, rfl, by decide +kernel, by decide +kernel⟩
abbrev s_Text_cut : Stmt := inCls (topS 20) 5
abbrev sN_Text_cut : List Str := ["self", "parts", "start", "place", "code"]
theorem sc_Text_cut : FnScope sN_Text_cut ["self"] (defScope s_Text_cut) := ⟨rfl, rfl, rfl, by decide +kernel, rfl, by decide +kernel, by decide +kernel⟩
abbrev s_Text___len__ : Stmt := inCls (topS 20) 10
abbrev sN_Text___len__ : List Str := ["self"]
theorem sc_Text___len__ : FnScope sN_Text___len__ ["self"] (defScope s_Text___len__) := ⟨rfl, rfl, rfl, by decide +kernel, rfl, by decide +kernel, by decide +kernel⟩
abbrev s_Text___str__ : Stmt := inCls (topS 20) 14
abbrev sN_Text___str__ : List Str := ["self", "code"]
theorem sc_Text___str__ : FnScope sN_Text___str__ ["self"] (defScope s_Text___str__) := ⟨rfl, rfl, rfl, by decide +kernel, rfl, by decide +kernel, by decide +kernel⟩
abbrev s_Text___eq__ : Stmt := inCls (topS 20) 13
abbrev sN_Text___eq__ : List Str := ["self", "other"]
theorem sc_Text___eq__ : FnScope sN_Text___eq__ ["self", "other"] (defScope s_Text___eq__) := ⟨rfl, rfl, rfl, by decide +kernel, rfl, by decide +kernel, by decide +kernel⟩
/-- what the top has written -/
structure Txt (K : PySem.W.Frag) (mg : Str → Option Value) where
  f_is_number : Addr
  fd_is_number : FuncData
  F_is_number : Fun K "is_number" "is_number" s_is_number f_is_number fd_is_number
  g_is_number : mg "is_number" = some (.ref f_is_number)
  b_is_number : Binds K fd_is_number ["thing"] []
  f_is_between : Addr
  fd_is_between : FuncData
  F_is_between : Fun K "is_between" "is_between" s_is_between f_is_between fd_is_between
  g_is_between : mg "is_between" = some (.ref f_is_between)
  b_is_between : Binds K fd_is_between ["thing", "low", "high"] []
  f_consists_of : Addr
  fd_consists_of : FuncData
  F_consists_of : Fun K "consists_of" "consists_of" s_consists_of f_consists_of fd_consists_of
  g_consists_of : mg "consists_of" = some (.ref f_consists_of)
  b_consists_of : Binds K fd_consists_of ["thing", "marks"] []
  f_is_body : Addr
  fd_is_body : FuncData
  F_is_body : Fun K "is_body" "is_body" s_is_body f_is_body fd_is_body
  g_is_body : mg "is_body" = some (.ref f_is_body)
  b_is_body : Binds K fd_is_body ["thing"] []
  f_is_plain_code : Addr
  fd_is_plain_code : FuncData
  F_is_plain_code : Fun K "is_plain_code" "is_plain_code" s_is_plain_code f_is_plain_code fd_is_plain_code
  g_is_plain_code : mg "is_plain_code" = some (.ref f_is_plain_code)
  b_is_plain_code : Binds K fd_is_plain_code ["thing"] []
  f_is_code : Addr
  fd_is_code : FuncData
  F_is_code : Fun K "is_code" "is_code" s_is_code f_is_code fd_is_code
  g_is_code : mg "is_code" = some (.ref f_is_code)
  b_is_code : Binds K fd_is_code ["thing"] []
  f_mark_of : Addr
  fd_mark_of : FuncData
  F_mark_of : Fun K "mark_of" "mark_of" s_mark_of f_mark_of fd_mark_of
  g_mark_of : mg "mark_of" = some (.ref f_mark_of)
  b_mark_of : Binds K fd_mark_of ["code"] []
  f__text_with : Addr
  fd__text_with : FuncData
  F__text_with : Fun K "_text_with" "_text_with" s__text_with f__text_with fd__text_with
  g__text_with : mg "_text_with" = some (.ref f__text_with)
  b__text_with : Binds K fd__text_with ["codes"] []
  f__shown : Addr
  fd__shown : FuncData
  F__shown : Fun K "_shown" "_shown" s__shown f__shown fd__shown
  g__shown : mg "_shown" = some (.ref f__shown)
  b__shown : Binds K fd__shown ["code"] []
  f_has_shape : Addr
  fd_has_shape : FuncData
  F_has_shape : Fun K "has_shape" "has_shape" s_has_shape f_has_shape fd_has_shape
  g_has_shape : mg "has_shape" = some (.ref f_has_shape)
  b_has_shape : Binds K fd_has_shape ["word"] []
  f__is_word : Addr
  fd__is_word : FuncData
  F__is_word : Fun K "_is_word" "_is_word" s__is_word f__is_word fd__is_word
  g__is_word : mg "_is_word" = some (.ref f__is_word)
  b__is_word : Binds K fd__is_word ["thing"] []
  f_is_width : Addr
  fd_is_width : FuncData
  F_is_width : Fun K "is_width" "is_width" s_is_width f_is_width fd_is_width
  g_is_width : mg "is_width" = some (.ref f_is_width)
  b_is_width : Binds K fd_is_width ["thing"] []
  f_plain_pieces : Addr
  fd_plain_pieces : FuncData
  F_plain_pieces : Fun K "plain_pieces" "plain_pieces" s_plain_pieces f_plain_pieces fd_plain_pieces
  g_plain_pieces : mg "plain_pieces" = some (.ref f_plain_pieces)
  ds_plain_pieces : List Value
  vi_plain_pieces : Vals [.int 78] ds_plain_pieces
  bd_plain_pieces : Binds K fd_plain_pieces ["text", "width"] ds_plain_pieces
  f_pieces_of_parts : Addr
  fd_pieces_of_parts : FuncData
  F_pieces_of_parts : Fun K "pieces_of_parts" "pieces_of_parts" s_pieces_of_parts f_pieces_of_parts fd_pieces_of_parts
  g_pieces_of_parts : mg "pieces_of_parts" = some (.ref f_pieces_of_parts)
  b_pieces_of_parts : Binds K fd_pieces_of_parts ["parts", "literals"] []
  f__is_literal : Addr
  fd__is_literal : FuncData
  F__is_literal : Fun K "_is_literal" "_is_literal" s__is_literal f__is_literal fd__is_literal
  g__is_literal : mg "_is_literal" = some (.ref f__is_literal)
  b__is_literal : Binds K fd__is_literal ["part", "width"] []
  f__law_begin : Addr
  fd__law_begin : FuncData
  F__law_begin : Fun K "_law_begin" "_law_begin" s__law_begin f__law_begin fd__law_begin
  g__law_begin : mg "_law_begin" = some (.ref f__law_begin)
  b__law_begin : Binds K fd__law_begin ["script"] []
  f__law_mixed : Addr
  fd__law_mixed : FuncData
  F__law_mixed : Fun K "_law_mixed" "_law_mixed" s__law_mixed f__law_mixed fd__law_mixed
  g__law_mixed : mg "_law_mixed" = some (.ref f__law_mixed)
  b__law_mixed : Binds K fd__law_mixed ["cell", "k"] []
  f__law_next : Addr
  fd__law_next : FuncData
  F__law_next : Fun K "_law_next" "_law_next" s__law_next f__law_next fd__law_next
  g__law_next : mg "_law_next" = some (.ref f__law_next)
  b__law_next : Binds K fd__law_next ["draw", "bound"] []
  f__law_marks : Addr
  fd__law_marks : FuncData
  F__law_marks : Fun K "_law_marks" "_law_marks" s__law_marks f__law_marks fd__law_marks
  g__law_marks : mg "_law_marks" = some (.ref f__law_marks)
  b__law_marks : Binds K fd__law_marks [] []
  f__law_sign : Addr
  fd__law_sign : FuncData
  F__law_sign : Fun K "_law_sign" "_law_sign" s__law_sign f__law_sign fd__law_sign
  g__law_sign : mg "_law_sign" = some (.ref f__law_sign)
  b__law_sign : Binds K fd__law_sign ["number"] []
  f__law_numbers : Addr
  fd__law_numbers : FuncData
  F__law_numbers : Fun K "_law_numbers" "_law_numbers" s__law_numbers f__law_numbers fd__law_numbers
  g__law_numbers : mg "_law_numbers" = some (.ref f__law_numbers)
  b__law_numbers : Binds K fd__law_numbers ["draw", "most"] []
  f__law_width : Addr
  fd__law_width : FuncData
  F__law_width : Fun K "_law_width" "_law_width" s__law_width f__law_width fd__law_width
  g__law_width : mg "_law_width" = some (.ref f__law_width)
  b__law_width : Binds K fd__law_width ["draw"] []
  f__law_parts : Addr
  fd__law_parts : FuncData
  F__law_parts : Fun K "_law_parts" "_law_parts" s__law_parts f__law_parts fd__law_parts
  g__law_parts : mg "_law_parts" = some (.ref f__law_parts)
  b__law_parts : Binds K fd__law_parts ["numbers"] []
  f__law_literal : Addr
  fd__law_literal : FuncData
  F__law_literal : Fun K "_law_literal" "_law_literal" s__law_literal f__law_literal fd__law_literal
  g__law_literal : mg "_law_literal" = some (.ref f__law_literal)
  b__law_literal : Binds K fd__law_literal ["part", "wide"] []
  f__law_pieces_due : Addr
  fd__law_pieces_due : FuncData
  F__law_pieces_due : Fun K "_law_pieces_due" "_law_pieces_due" s__law_pieces_due f__law_pieces_due fd__law_pieces_due
  g__law_pieces_due : mg "_law_pieces_due" = some (.ref f__law_pieces_due)
  b__law_pieces_due : Binds K fd__law_pieces_due ["numbers", "wide"] []
  f__law_text_numbers : Addr
  fd__law_text_numbers : FuncData
  F__law_text_numbers : Fun K "_law_text_numbers" "_law_text_numbers" s__law_text_numbers f__law_text_numbers fd__law_text_numbers
  g__law_text_numbers : mg "_law_text_numbers" = some (.ref f__law_text_numbers)
  b__law_text_numbers : Binds K fd__law_text_numbers ["draw", "wide"] []
  f__law_right : Addr
  fd__law_right : FuncData
  F__law_right : Fun K "_law_right" "_law_right" s__law_right f__law_right fd__law_right
  g__law_right : mg "_law_right" = some (.ref f__law_right)
  b__law_right : Binds K fd__law_right ["numbers", "wide"] []
  f_law : Addr
  fd_law : FuncData
  F_law : Fun K "law" "law" s_law f_law fd_law
  g_law : mg "law" = some (.ref f_law)
  b_law : Binds K fd_law ["script"] []
  t_MARKS : Tok
  g_MARKS : mg "MARKS" = some (.str " !\"#$&'()*+,-./0123456789:;<=>?@ABCDEFGHIJKLMNOPQRSTUVWXYZ[\\]^_`abcdefghijklmnopqrstuvwxyz{|}~" t_MARKS)
  t__MISSING_CODE : Tok
  g__MISSING_CODE : mg "_MISSING_CODE" = some (.int 37 t__MISSING_CODE)
  t__SPACE : Tok
  g__SPACE : mg "_SPACE" = some (.int 32 t__SPACE)
  t__SHORTEST_SHAPE : Tok
  g__SHORTEST_SHAPE : mg "_SHORTEST_SHAPE" = some (.int 4 t__SHORTEST_SHAPE)
  t__NARROWEST : Tok
  g__NARROWEST : mg "_NARROWEST" = some (.int 50 t__NARROWEST)
  t__WIDEST : Tok
  g__WIDEST : mg "_WIDEST" = some (.int 200 t__WIDEST)
  m_len : mg "len" = none
  m_range : mg "range" = none
  m_isinstance : mg "isinstance" = none
  m_int : mg "int" = none
  m_str : mg "str" = none
  m_bool : mg "bool" = none
  m_all : mg "all" = none
  m_ord : mg "ord" = none
  m_tuple : mg "tuple" = none
  m_list : mg "list" = none
  m_enumerate : mg "enumerate" = none
  m_zip : mg "zip" = none
  C_Text : Addr
  g_Text : mg "Text" = some (.ref C_Text)
  c_Text : Cls K C_Text
  sf_Text : PySem.W.selfFirst K C_Text = true
  ty_Text : ∀ (H : Hp) (a dx : Addr) (fs : List (Str × V)), H a = some (.ins C_Text dx fs) → TyX K H (.ref a) (.ref C_Text)
  ks_Text : PySem.W.kitOne K (.ref C_Text) (.ref C_Text) = some true
  nf_Text__codes : NoAttr K C_Text "_codes"
  f_Text___init__ : Addr
  fd_Text___init__ : FuncData
  F_Text___init__ : FunD K "__init__" "Text.__init__" (defArgs s_Text___init__) (defBody s_Text___init__) (defScope s_Text___init__) [.str ""] [] f_Text___init__ fd_Text___init__
  mk_Text : L2.Mk K C_Text f_Text___init__
  ds_Text : List Value
  vi_Text : Vals [.str ""] ds_Text
  bd_Text : Binds K fd_Text___init__ ["self", "marks"] ds_Text
  f_Text_of : Addr
  fd_Text_of : FuncData
  F_Text_of : Fun K "of" "Text.of" s_Text_of f_Text_of fd_Text_of
  b_Text_of : Binds K fd_Text_of ["cls", "codes"] []
  p_Text_of : Addr
  cr_Text : ClX.CRead K C_Text (.type "type")
  cm_Text_of : ClX.CMet K C_Text (.type "type") "of" p_Text_of f_Text_of
  f_Text_joined : Addr
  fd_Text_joined : FuncData
  F_Text_joined : Fun K "joined" "Text.joined" s_Text_joined f_Text_joined fd_Text_joined
  b_Text_joined : Binds K fd_Text_joined ["texts"] []
  p_Text_joined : Addr
  sm_Text_joined : SMet K C_Text (.type "type") "joined" p_Text_joined f_Text_joined
  f_Text_codes : Addr
  fd_Text_codes : FuncData
  F_Text_codes : Fun K "codes" "Text.codes" s_Text_codes f_Text_codes fd_Text_codes
  b_Text_codes : Binds K fd_Text_codes ["self"] []
  p_Text_codes : Addr
  pp_Text_codes : PropOf K C_Text "codes" p_Text_codes f_Text_codes
  f_Text_is_plain : Addr
  fd_Text_is_plain : FuncData
  F_Text_is_plain : Fun K "is_plain" "Text.is_plain" s_Text_is_plain f_Text_is_plain fd_Text_is_plain
  b_Text_is_plain : Binds K fd_Text_is_plain ["self"] []
  p_Text_is_plain : Addr
  pp_Text_is_plain : PropOf K C_Text "is_plain" p_Text_is_plain f_Text_is_plain
  f_Text_cut : Addr
  fd_Text_cut : FuncData
  F_Text_cut : Fun K "cut" "Text.cut" s_Text_cut f_Text_cut fd_Text_cut
  b_Text_cut : Binds K fd_Text_cut ["self"] []
  at_Text_cut : PySem.W.findIn K (.ref C_Text) "cut" = some (some (.ref f_Text_cut))
  if_Text_cut : PySem.W.isFn K (.ref f_Text_cut) = true
  f_Text___len__ : Addr
  fd_Text___len__ : FuncData
  F_Text___len__ : Fun K "__len__" "Text.__len__" s_Text___len__ f_Text___len__ fd_Text___len__
  b_Text___len__ : Binds K fd_Text___len__ ["self"] []
  at_Text___len__ : PySem.W.findIn K (.ref C_Text) "__len__" = some (some (.ref f_Text___len__))
  if_Text___len__ : PySem.W.isFn K (.ref f_Text___len__) = true
  f_Text___str__ : Addr
  fd_Text___str__ : FuncData
  F_Text___str__ : Fun K "__str__" "Text.__str__" s_Text___str__ f_Text___str__ fd_Text___str__
  b_Text___str__ : Binds K fd_Text___str__ ["self"] []
  at_Text___str__ : PySem.W.findIn K (.ref C_Text) "__str__" = some (some (.ref f_Text___str__))
  if_Text___str__ : PySem.W.isFn K (.ref f_Text___str__) = true
  f_Text___eq__ : Addr
  fd_Text___eq__ : FuncData
  F_Text___eq__ : Fun K "__eq__" "Text.__eq__" s_Text___eq__ f_Text___eq__ fd_Text___eq__
  b_Text___eq__ : Binds K fd_Text___eq__ ["self", "other"] []
  at_Text___eq__ : PySem.W.findIn K (.ref C_Text) "__eq__" = some (some (.ref f_Text___eq__))
  if_Text___eq__ : PySem.W.isFn K (.ref f_Text___eq__) = true
section
variable {w : World} {K : PySem.W.Frag} {mg : Str → Option Value} {base : Heap}
theorem ok__law_mixed (T : Txt K mg) : FnOk P w K mg base CX0 1 T.f__law_mixed T.fd__law_mixed ["cell", "k"] (Dr.spMixed) := by
  refine T.F__law_mixed.ok sc__law_mixed (fun vs H Q E h => ?_) (fun cdv A outer s H vs Q E hr h => ?_)
  · obtain ⟨c, k, rfl, _⟩ := h
    rfl
  · obtain ⟨c, k, rfl, h0, h1, q⟩ := h
    have hu := hu_of hr
    refine ⟨_, (pss_cons (ps_set (i := 2) sc__law_mixed.nd rfl (Or.inl rfl) (pe_op op_mod (pe_op op_add (pe_op op_add (pe_op op_add (pe_op op_mod (pv 0) pe_int) (pe_op op_mul (pe_op op_mul pe_int (pv 1)) (pv 1))) (pe_op op_mul pe_int (pv 1))) pe_int) pe_int)) (pss_cons (ps_set (i := 2) sc__law_mixed.nd rfl (Or.inl rfl) (pe_op op_mod (pe_op op_mul (pe_op op_mod (pe_op op_mul (pv 2) (pv 2)) pe_int) (pv 2)) pe_int)) (pss_one (ps_ret (pe_op op_fdiv (pe_op op_mod (pe_op op_mul (pv 2) (pe_op op_add pe_int (pe_op op_mul pe_int (pe_op op_mod (pv 1) pe_int)))) pe_int) pe_int))))), ?_⟩
    walk_at "go"
    refine q _ ?_ ?_
    · omega
    · omega
theorem ok__law_next (T : Txt K mg) : FnOk P w K mg base CX0 2 T.f__law_next T.fd__law_next ["draw", "bound"] (Dr.spNext) := by
  refine T.F__law_next.ok sc__law_next (fun vs H Q E h => ?_) (fun cdv A outer s H vs Q E hr h => ?_)
  · obtain ⟨d, l, m, b, rfl, _⟩ := h
    rfl
  · obtain ⟨d, l, m, b, rfl, D, hm, hb0, hb1, q⟩ := h
    have hu := hu_of hr
    refine ⟨_, (pss_cons (ps_if (pt_cmpR op_gt (pe_dget hu (pv 0) pe_str (fun _ _ => rfl)) pe_int (nomark _)) (pss_cons (ps_set (i := 2) sc__law_next.nd rfl (Or.inl rfl) (pe_op op_mod (pe_dget hu (pv 0) pe_str (fun _ _ => rfl)) (pv 1))) (pss_cons (ps_dput hu (pv 0) pe_str (pe_op op_fdiv (pe_dget hu (pv 0) pe_str (fun _ _ => rfl)) (pv 1)) rfl) (pss_one (ps_ret (pv 2))))) pss_nil) (pss_cons (ps_set (i := 3) sc__law_next.nd rfl (Or.inl rfl) (pe_dget hu (pv 0) pe_str (fun _ _ => rfl))) (pss_cons (ps_set (i := 4) sc__law_next.nd rfl (Or.inl rfl) (pe_ix ix_list (pv 3) (pe_op op_mod (pe_dget hu (pv 0) pe_str (fun _ _ => rfl)) (pe_callB call_len1 (by rfl) T.m_len PySem.boot_len (pa_cons (pv 3) pa_nil))) (fun _ _ => rfl))) (pss_cons (ps_dput hu (pv 0) pe_str (pe_op op_add (pe_dget hu (pv 0) pe_str (fun _ _ => rfl)) pe_int) rfl) (pss_cons (ps_if (PW.pt (pw_and (pt_cmpR op_ge (pv 4) (pe_op op_pow pe_int pe_int) (nomark _)) (pw_and1 (pt_cmpR op_le (pe_dget hu (pv 0) pe_str (fun _ _ => rfl)) (pe_callB call_len1 (by rfl) T.m_len PySem.boot_len (pa_cons (pv 3) pa_nil)) (nomark _))))) (pss_cons (ps_dput hu (pv 0) pe_str (pe_op op_fdiv (pv 4) (pv 1)) rfl) (pss_one (ps_ret (pe_op op_mod (pv 4) (pv 1))))) pss_nil) (pss_cons (ps_dput hu (pv 0) pe_str (pe_op op_add (pe_dget hu (pv 0) pe_str (fun _ _ => rfl)) pe_int) rfl) (pss_one (ps_ret (pe_op op_mod (pe_call (ok__law_mixed T) (hr.mono (by decide)) (by rfl) T.g__law_mixed T.F__law_mixed.kp T.b__law_mixed .nil pass0 (pa_cons (pe_call (ok__law_mixed T) (hr.mono (by decide)) (by rfl) T.g__law_mixed T.F__law_mixed.kp T.b__law_mixed .nil pass0 (pa_cons (pv 4) (pa_cons (pe_dget hu (pv 0) pe_str (fun _ _ => rfl)) pa_nil))) (pa_cons (pe_dget hu (pv 0) pe_str (fun _ _ => rfl)) pa_nil))) (pv 1)))))))))), ?_⟩
    obtain ⟨ns, a, lf, u, h1, h2, h3, h4, h5, h6, h7, h8, h9⟩ := id D
    have nld : l ≠ d := ne_of h2 h1 (by intro z; cases z)
    have hS : ∀ o, SqL K (upd H d o) l (ns.map V.int) := fun o => SqL.of (by rw [upd_ne nld]; exact h2)
    have hS2 : ∀ o o2, (upd (upd H d o) d o2) l = some (.lst (ns.map V.int)) := fun o o2 => by rw [upd_ne nld, upd_ne nld]; exact h2
    have hN : ∀ o p, H p = none → (upd H d o) p = none := fun o p e => by rw [upd_ne (fun z => by rw [z, h1] at e; cases e)]; exact e
    have hN2 : ∀ o o2 p, H p = none → (upd (upd H d o) d o2) p = none := fun o o2 p e => by rw [upd_ne (fun z => by rw [z, h1] at e; cases e)]; exact hN o p e
    have hl : 0 < (ns.length : Int) := by omega
    walk_at "go"
    refine g_ifd (fun hc => ?_) (fun hc => ?_)
    · walk_at "go"
      refine q _ _ (Int.emod_nonneg _ (by omega)) (Int.emod_lt_of_pos _ hb0) ?_ Dr.Kp.at (hN _)
      exact ⟨ns, a, _, u, upd_same, by rw [upd_ne nld]; exact h2, h3, h4, h5, by omega, Int.ediv_nonneg h7 (by omega), h8, by omega⟩
    · walk_at "go"
      refine g_len (SqL.of h2) ?_
      have hb := Dr.modB (x := a) (n := ((ns.map V.int).length : Int)) (by rw [List.length_map]; exact hl)
      refine g_I (show (0 : Int) < _ by rw [List.length_map]; exact hl) ?_
      obtain ⟨c, ec⟩ := atI_int (ns := ns) hb.1 (by rw [← List.length_map (f := V.int)]; exact hb.2)
      refine g_ixl (SqL.of h2) ec ?_
      have k1 : (upd H d (.dK (Dr.dkv l (a + 1) lf u))) d = some (.dK (Dr.dkv l (a + 1) lf u)) := upd_same
      walk_at "go"
      refine g_ifd (fun hd => ?_) (fun hd => ?_)
      · walk_at "go"
        refine g_len (hS _) ?_
        walk_at "go"
        refine g_ifd (fun he => ?_) (fun he => ?_)
        · walk_at "go"
          refine q _ _ (Int.emod_nonneg _ (by omega)) (Int.emod_lt_of_pos _ hb0) ?_ (Dr.Kp.at.trans Dr.Kp.at) (hN2 _ _)
          have hc0 : 0 ≤ c := Int.le_trans (by decide) hd
          exact ⟨ns, a + 1, _, u, upd_same, hS2 _ _, h3, h4, by omega, by omega, Int.ediv_nonneg hc0 (by omega), h8, by omega⟩
        · walk_at "go"
          have k2 : (upd (upd H d (.dK (Dr.dkv l (a + 1) lf u))) d (.dK (Dr.dkv l (a + 1) lf (u + 1)))) d = some (.dK (Dr.dkv l (a + 1) lf (u + 1))) := upd_same
          walk_at "go"
          refine ⟨c, a + 1, rfl, by omega, by omega, fun r1 r2 r3 => ?_⟩
          walk_at "go"
          refine ⟨r1, u + 1, rfl, by omega, by omega, fun r4 r5 r6 => ?_⟩
          walk_at "go"
          refine q _ _ (Int.emod_nonneg _ (by omega)) (Int.emod_lt_of_pos _ hb0) ?_ (Dr.Kp.at.trans Dr.Kp.at) (hN2 _ _)
          exact ⟨ns, a + 1, lf, u + 1, upd_same, hS2 _ _, h3, h4, by omega, by omega, h7, by omega, by omega⟩
      · walk_at "go"
        have k2 : (upd (upd H d (.dK (Dr.dkv l (a + 1) lf u))) d (.dK (Dr.dkv l (a + 1) lf (u + 1)))) d = some (.dK (Dr.dkv l (a + 1) lf (u + 1))) := upd_same
        walk_at "go"
        refine ⟨c, a + 1, rfl, by omega, by omega, fun r1 r2 r3 => ?_⟩
        walk_at "go"
        refine ⟨r1, u + 1, rfl, by omega, by omega, fun r4 r5 r6 => ?_⟩
        walk_at "go"
        refine q _ _ (Int.emod_nonneg _ (by omega)) (Int.emod_lt_of_pos _ hb0) ?_ (Dr.Kp.at.trans Dr.Kp.at) (hN2 _ _)
        exact ⟨ns, a + 1, lf, u + 1, upd_same, hS2 _ _, h3, h4, by omega, by omega, h7, by omega, by omega⟩
theorem ok__law_begin (T : Txt K mg) : FnOk P w K mg base CX0 1 T.f__law_begin T.fd__law_begin ["script"] (Dr.spBegin K) := by
  refine T.F__law_begin.ok sc__law_begin (fun vs H Q E h => ?_) (fun cdv A outer s H vs Q E hr h => ?_)
  · obtain ⟨a, ns, rfl, _⟩ := h
    rfl
  · obtain ⟨a, ns, rfl, hS, hl, q⟩ := h
    have hu := hu_of hr
    refine ⟨_, (pss_one (ps_ret (pe_disp (pps_cons pe_str (pe_op op_catS (pv 0) (pe_lst (pa_cons pe_int pa_nil))) (pps_cons pe_str pe_int (pps_cons pe_str pe_int (pps_cons pe_str pe_int pps_nil)))) (by rfl) (by rfl) (fun z => by cases z) (by decide)))), ?_⟩
    walk_at "go"
    intro d hd
    walk_at "go"
    refine ⟨by show 1 ≤ sizeLine; decide, fun z hz => ?_⟩
    have ndz : d ≠ z := fun e => by rw [← e, upd_same] at hz; cases hz
    have s1 : Same H (upd H d (.dK [])) := same_new hd
    have s2 := s1.trans (same_new (o := .lst [V.int 0]) hz)
    refine g_cats (s2.seq hS) (SqL.of upd_same) (by rw [List.length_map]; show _ + 1 ≤ sizeLine; exact Nat.le_trans (Nat.add_le_add_right hl 1) (by decide)) fun l hl2 => ?_
    have ndl : d ≠ l := fun e => by rw [← e, upd_ne ndz, upd_same] at hl2; cases hl2
    have s3 := s2.trans (same_new (o := .lst (ns.map V.int ++ [V.int 0])) hl2)
    walk_at "go"
    refine ⟨by rw [upd_ne ndl, upd_ne ndz, upd_same], [((Sum.inr ("cells" : Str) : Key), V.ref l), (Sum.inr ("at" : Str), .int 0), (Sum.inr ("left" : Str), .int 0), (Sum.inr ("used" : Str), .int 0)], rfl, by show 4 ≤ 15; decide, ?_⟩
    rw [Dr.mrg]
    refine q d l _ hd (s2.free hl2) ⟨ns ++ [0], 0, 0, 0, upd_same, ?_, ?_, ?_, by decide, by decide, by decide, by decide, by decide⟩ (s3.mut hd)
    · rw [upd_ne ndl.symm, upd_same, List.map_append]
      rfl
    · rw [List.length_append]
      exact Nat.lt_of_lt_of_le (by decide : 0 < 1) (Nat.le_add_left _ _)
    · rw [List.length_append]
      exact Nat.add_le_add_right hl 1
end
section
variable {w : World} {K : PySem.W.Frag} {mg : Str → Option Value} {base : Heap}
theorem ok_is_number (T : Txt K mg) : FnOk P w K mg base CX0 1 T.f_is_number T.fd_is_number ["thing"] (Mk.spNum) := by
  refine T.F_is_number.ok sc_is_number (fun vs H Q E h => ?_) (fun cdv A outer s H vs Q E hr h => ?_)
  · obtain ⟨x, rfl, _⟩ := h
    rfl
  · obtain ⟨x, rfl, a, q⟩ := h
    have hu := hu_of hr
    refine ⟨_, (pss_one (ps_ret (pe_and (pe_callB call_isi (by rfl) T.m_isinstance (by decide +kernel) (pa_cons (pv 0) (pa_cons (pe_ty (n := "int") (by rfl) T.m_int (by decide +kernel)) pa_nil))) (pe_one (pe_not (pe_callB call_isi (by rfl) T.m_isinstance (by decide +kernel) (pa_cons (pv 0) (pa_cons (pe_ty (n := "bool") (by rfl) T.m_bool (by decide +kernel)) pa_nil)))))))), ?_⟩
    walk_at "go"
    refine g_if (fun c1 => ?_) (fun c1 => ?_)
    · walk_at "go"
      have e : (isIntV x && !isBlV x) = !isBlV x := by rw [c1]; rfl
      rw [e] at q
      exact q
    · have e : (isIntV x && !isBlV x) = false := by rw [c1]; rfl
      rw [e] at q
      exact q
theorem ok_is_between (T : Txt K mg) : FnOk P w K mg base CX0 2 T.f_is_between T.fd_is_between ["thing", "low", "high"] (Mk.spBetween) := by
  refine T.F_is_between.ok sc_is_between (fun vs H Q E h => ?_) (fun cdv A outer s H vs Q E hr h => ?_)
  · obtain ⟨x, lo, hi, rfl, _⟩ := h
    rfl
  · obtain ⟨x, lo, hi, rfl, a, q⟩ := h
    have hu := hu_of hr
    refine ⟨_, (pss_one (ps_ret (pe_and (pe_call (ok_is_number T) (hr.mono (by decide)) (by rfl) T.g_is_number T.F_is_number.kp T.b_is_number .nil pass0 (pa_cons (pv 0) pa_nil)) (pe_one (pe_chain op_le op_le (pv 1) (pv 0) (pv 2)))))), ?_⟩
    walk_at "go"
    refine ⟨x, rfl, a, ?_⟩
    walk_at "go"
    refine g_if (fun c1 => ?_) (fun c1 => ?_)
    · rw [Bool.and_eq_true, Bool.not_eq_true'] at c1
      obtain ⟨i, rfl⟩ := Mk.int_of c1.1 c1.2
      walk_at "go"
      refine g_ifd (fun c3 => ?_) (fun c3 => ?_)
      · walk_at "go"
        have e : Mk.btw (.int i) lo hi = decide (i ≤ hi) := by show (decide (lo ≤ i) && decide (i ≤ hi)) = _; rw [decide_eq_true c3, Bool.true_and]
        rw [e] at q
        exact q
      · have e : Mk.btw (.int i) lo hi = false := by show (decide (lo ≤ i) && decide (i ≤ hi)) = _; rw [decide_eq_false c3, Bool.false_and]
        rw [e] at q
        exact q
    · have e : Mk.btw x lo hi = false := by
        cases hx : isIntV x with
        | false => exact Mk.btw_no hx
        | true =>
          rw [hx, Bool.true_and, Bool.not_eq_false'] at c1
          exact Mk.btw_bl c1
      rw [e] at q
      exact q
theorem ok_consists_of (T : Txt K mg) : FnOk P w K mg base CX0 1 T.f_consists_of T.fd_consists_of ["thing", "marks"] (Mk.spCons) := by
  refine T.F_consists_of.ok sc_consists_of (fun vs H Q E h => ?_) (fun cdv A outer s H vs Q E hr h => ?_)
  · obtain ⟨x, m, rfl, _⟩ := h
    rfl
  · obtain ⟨x, m, rfl, a, q⟩ := h
    have hu := hu_of hr
    refine ⟨_, (pss_one (ps_ret (pe_and (pe_callB call_isi (by rfl) T.m_isinstance (by decide +kernel) (pa_cons (pv 0) (pa_cons (pe_ty (n := "str") (by rfl) T.m_str (by decide +kernel)) pa_nil))) (pe_one (pe_callB (cr_all (by rfl)) (by rfl) T.m_all (by decide +kernel) (pa_cons (pe_lc (own := [("mark", 2)]) (g := gName 2) (tt := tYes) (by rfl) sc_consists_of.nd (pi_str (pv 0)) (blkOk_by (own := [("mark", 2)]) (N := sN_consists_of) (sc := defScope s_consists_of) (by decide +kernel)) (fun _ _ _ _ _ => (pg_name (i := 2) sc_consists_of.nd rfl (Or.inl rfl))) (fun _ _ _ _ _ => pts_nil) (fun _ _ _ _ _ => (pe_cmpR op_inS (pv 2) (pv 1) (by rfl)))) pa_nil)))))), ?_⟩
    walk_at "go"
    refine g_if (fun c1 => ?_) (fun c1 => ?_)
    · obtain ⟨z, rfl⟩ := Mk.str_of c1
      walk_at "go"
      refine ⟨z, rfl, fun D hD => lc_str (fun _ => true) (fun c => V.bl (decide (c ∈ m.cps.toList))) (Nat.le_trans (Mk.str_len a) (by decide)) (fun c acc Nx hc k1 k2 => ?_) ?_⟩
      · walk_at "go"
        refine ⟨rfl, ?_⟩
        walk_at "go"
        exact k1 rfl _ upd_same rfl
      · walk_at "go"
        refine g_all (bs := z.cps.toList.map fun c => decide (c ∈ m.cps.toList)) (SqL.of ?_) ?_
        · rw [upd_same, List.filter_eq_self.mpr (fun _ _ => rfl), List.map_map]
          rfl
        · have e : (z.cps.toList.map fun c => decide (c ∈ m.cps.toList)).all id = Mk.consists (.str z) m := by
            rw [List.all_map]
            rfl
          rw [e]
          exact q _ (same_new hD)
    · rw [Mk.cons_no c1] at q
      exact q H (Same.refl H)
theorem ok_is_body (T : Txt K mg) : FnOk P w K mg base CX0 2 T.f_is_body T.fd_is_body ["thing"] (Mk.spTest Mk.isBody) := by
  refine T.F_is_body.ok sc_is_body (fun vs H Q E h => ?_) (fun cdv A outer s H vs Q E hr h => ?_)
  · obtain ⟨x, rfl, _⟩ := h
    rfl
  · obtain ⟨x, rfl, a, q⟩ := h
    have hu := hu_of hr
    refine ⟨_, (pss_one (ps_ret (pe_call (ok_consists_of T) (hr.mono (by decide)) (by rfl) T.g_consists_of T.F_consists_of.kp T.b_consists_of .nil pass0 (pa_cons (pv 0) (pa_cons (pe_gs (by rfl) T.g_MARKS) pa_nil))))), ?_⟩
    walk_at "go"
    exact ⟨x, _, rfl, a, q⟩
theorem ok_is_plain_code (T : Txt K mg) : FnOk P w K mg base CX0 3 T.f_is_plain_code T.fd_is_plain_code ["thing"] (Mk.spTest Mk.isPlain) := by
  refine T.F_is_plain_code.ok sc_is_plain_code (fun vs H Q E h => ?_) (fun cdv A outer s H vs Q E hr h => ?_)
  · obtain ⟨x, rfl, _⟩ := h
    rfl
  · obtain ⟨x, rfl, a, q⟩ := h
    have hu := hu_of hr
    refine ⟨_, (pss_one (ps_ret (pe_and (pe_call (ok_is_between T) (hr.mono (by decide)) (by rfl) T.g_is_between T.F_is_between.kp T.b_is_between .nil pass0 (pa_cons (pv 0) (pa_cons pe_int (pa_cons pe_int pa_nil)))) (pe_one (pe_cmpR op_ne (pv 0) (pe_gi (by rfl) T.g__MISSING_CODE) (nomark _)))))), ?_⟩
    walk_at "go"
    refine ⟨x, 32, 126, rfl, a, ?_⟩
    walk_at "go"
    refine g_if (fun c1 => ?_) (fun c1 => ?_)
    · obtain ⟨i, rfl, h1, h2⟩ := Mk.btw_int c1
      walk_at "go"
      have e : Mk.isPlain (.int i) = !decide (V.int i = V.int 37) := by show (Mk.btw _ 32 126 && _) = _; rw [c1, Bool.true_and]
      rw [e] at q
      exact q H (Same.refl H)
    · have e : Mk.isPlain x = false := by show (Mk.btw _ 32 126 && _) = _; rw [c1, Bool.false_and]
      rw [e] at q
      exact q H (Same.refl H)
theorem ok_is_code (T : Txt K mg) : FnOk P w K mg base CX0 4 T.f_is_code T.fd_is_code ["thing"] (Mk.spTest Mk.isCode) := by
  refine T.F_is_code.ok sc_is_code (fun vs H Q E h => ?_) (fun cdv A outer s H vs Q E hr h => ?_)
  · obtain ⟨x, rfl, _⟩ := h
    rfl
  · obtain ⟨x, rfl, a, q⟩ := h
    have hu := hu_of hr
    refine ⟨_, (pss_one (ps_ret (pe_or (pe_call (ok_is_plain_code T) (hr.mono (by decide)) (by rfl) T.g_is_plain_code T.F_is_plain_code.kp T.b_is_plain_code .nil pass0 (pa_cons (pv 0) pa_nil)) (pe_one (pe_call (ok_is_between T) (hr.mono (by decide)) (by rfl) T.g_is_between T.F_is_between.kp T.b_is_between .nil pass0 (pa_cons (pv 0) (pa_cons pe_int (pa_cons pe_int pa_nil)))))))), ?_⟩
    walk_at "go"
    refine ⟨x, rfl, a, fun H2 s2 => ?_⟩
    walk_at "go"
    refine g_if (fun c1 => ?_) (fun c1 => ?_)
    · have e : Mk.isCode x = true := by show (Mk.isPlain x || _) = true; rw [c1, Bool.true_or]
      rw [e] at q
      exact q H2 s2
    · walk_at "go"
      refine ⟨x, 160, 65535, rfl, a.same s2, ?_⟩
      have e : Mk.isCode x = Mk.btw x 160 65535 := by show (Mk.isPlain x || _) = _; rw [c1, Bool.false_or]
      rw [e] at q
      exact q H2 s2
theorem ok_Text___init__ (T : Txt K mg) : FnOk P w K mg base CX0 3 T.f_Text___init__ T.fd_Text___init__ ["self", "marks"] (Tx.spInit T.C_Text) := by
  refine T.F_Text___init__.ok sc_Text___init__ (fun vs H Q E h => ?_) (fun cdv A outer s H vs Q E hr h => ?_)
  · obtain ⟨x, dx, m, z, rfl, _⟩ := h
    rfl
  · obtain ⟨x, dx, m, z, rfl, hx, a, em, hb, q⟩ := h
    have hu := hu_of hr
    refine ⟨_, (pss_cons (ps_if (pt_not (pt_val (pe_call (ok_is_body T) (hr.mono (by decide)) (by rfl) T.g_is_body T.F_is_body.kp T.b_is_body .nil pass0 (pa_cons (pv 1) pa_nil)))) (pss_one ps_never) pss_nil) (pss_one (ps_fld (pv 0) (pe_callTy call_tupOf (by rfl) T.m_tuple (by decide +kernel) (pa_cons (pe_lc (own := [("mark", 2)]) (g := gName 2) (tt := tYes) (by rfl) sc_Text___init__.nd (pi_str (pv 1)) (blkOk_by (own := [("mark", 2)]) (N := sN_Text___init__) (sc := defScope s_Text___init__) (by decide +kernel)) (fun _ _ _ _ _ => (pg_name (i := 2) sc_Text___init__.nd rfl (Or.inl rfl))) (fun _ _ _ _ _ => pts_nil) (fun _ _ _ _ _ => (pe_callB call_ord1 (by rfl) T.m_ord (by decide +kernel) (pa_cons (pv 2) pa_nil)))) pa_nil)) rfl))), ?_⟩
    walk_at "go"
    refine ⟨m, rfl, a, fun H1 s1 => ?_⟩
    walk_at "go"
    rw [hb]
    refine iteF ?_
    subst em
    walk_at "go"
    refine ⟨z, rfl, fun D hD => lc_str (fun _ => true) (fun c => Tx.iv c) (Nat.le_trans (Mk.str_len a) (by decide)) (fun c acc Nx hc k1 k2 => ?_) ?_⟩
    · walk_at "go"
      refine ⟨rfl, ?_⟩
      walk_at "go"
      exact k1 rfl _ upd_same rfl
    · walk_at "go"
      refine g_tupOf (SqL.of upd_same) fun l hl => ?_
      have hx1 := s1 _ _ hx
      have nDx : x ≠ D := ne_of_none hx1 hD
      have nlx : x ≠ l := ne_of_none (by rw [upd_ne nDx]; exact hx1) hl
      walk_at "go"
      refine ⟨x, T.C_Text, dx, [], rfl, by rw [upd_ne nlx, upd_ne nDx]; exact hx1, T.c_Text, T.nf_Text__codes, by decide, ?_⟩
      refine q _ l (fun p o n e => ?_) upd_same ?_
      · rw [upd_ne n, upd_ne (ne_of_none (same_new hD _ _ (s1 _ _ e)) hl), upd_ne (ne_of_none (s1 _ _ e) hD)]
        exact s1 _ _ e
      · rw [upd_ne nlx.symm, upd_same, List.filter_eq_self.mpr (fun _ _ => rfl)]
theorem ok__text_with (T : Txt K mg) : FnOk P w K mg base CX0 5 T.f__text_with T.fd__text_with ["codes"] (Tx.spWith K T.C_Text) := by
  refine T.F__text_with.ok sc__text_with (fun vs H Q E h => ?_) (fun cdv A outer s H vs Q E hr h => ?_)
  · obtain ⟨t, cs, rfl, _⟩ := h
    rfl
  · obtain ⟨t, cs, rfl, ht, q⟩ := h
    have hu := hu_of hr
    refine ⟨_, (pss_cons (ps_set (i := 1) sc__text_with.nd rfl (Or.inl rfl) (pe_make0 T.mk_Text (ok_Text___init__ T) (hr.mono (by decide)) (by rfl) T.g_Text T.bd_Text T.vi_Text pass0)) (pss_cons (ps_fld (pv 1) (pv 0) rfl) (pss_one (ps_ret (pv 1))))), ?_⟩
    walk_at "go"
    refine fun x dx hx hdx ne => ⟨x, dx, .str "", "", rfl, upd_same, .str _ (by decide +kernel) (by decide +kernel), rfl, by decide +kernel, fun H1 u k1 e1 e2 => ⟨rfl, ?_⟩⟩
    have s0 : Same H (upd (upd H dx (.own x)) x (.ins T.C_Text dx [])) := (same_new hdx).mut hx
    have s1 : Same H H1 := fun p o e => k1 p o (ne_of_none e hx) (s0 p o e)
    walk_at "go"
    refine ⟨x, T.C_Text, dx, _, rfl, e1, T.c_Text, T.nf_Text__codes, by simp, ?_⟩
    walk_at "go"
    exact q _ x (s1.mut hx) hx ⟨dx, t, upd_same, (s1.mut hx).sqt ht⟩
theorem ok_Text_of (T : Txt K mg) : FnOk P w K mg base CX0 6 T.f_Text_of T.fd_Text_of ["cls", "codes"] (Tx.spOf K T.C_Text) := by
  refine T.F_Text_of.ok sc_Text_of (fun vs H Q E h => ?_) (fun cdv A outer s H vs Q E hr h => ?_)
  · obtain ⟨y, t, cs, rfl, _⟩ := h
    rfl
  · obtain ⟨y, t, cs, rfl, ht, hc, q⟩ := h
    have hu := hu_of hr
    refine ⟨_, (pss_cons (ps_if (pt_not (pt_val (pe_callB call_isi (by rfl) T.m_isinstance (by decide +kernel) (pa_cons (pv 1) (pa_cons (pe_ty (n := "tuple") (by rfl) T.m_tuple (by decide +kernel)) pa_nil))))) (pss_one ps_never) pss_nil) (pss_cons (ps_for PassesOwn.never (by rfl) (pi_enumT (by rfl) T.m_enumerate (pa_cons (pv 1) pa_nil)) (pg_tup (by rfl) (pgs_cons (pg_name (i := 2) sc_Text_of.nd rfl (Or.inl rfl)) (pgs_cons (pg_name (i := 3) sc_Text_of.nd rfl (Or.inl rfl)) pgs_nil))) (pss_one (ps_if (pt_not (pt_val (pe_call (ok_is_code T) (hr.mono (by decide)) (by rfl) T.g_is_code T.F_is_code.kp T.b_is_code .nil pass0 (pa_cons (pv 3) pa_nil)))) (pss_one ps_never) pss_nil))) (pss_one (ps_ret (pe_call (ok__text_with T) (hr.mono (by decide)) (by rfl) T.g__text_with T.F__text_with.kp T.b__text_with .nil pass0 (pa_cons (pv 1) pa_nil)))))), ?_⟩
    walk_at "go"
    refine g_isi (.ty _) (.base (.tup ht)) (kit_ty (r := true) (by decide +kernel)) ?_
    walk_at "go"
    refine iteF ?_
    walk_at "go"
    refine ⟨t, cs.map Tx.iv, rfl, SqT.of ht, for_enT (K := K) (a := t) (xs := cs.map Tx.iv) (fun i σ H1 => (∃ p c, σ = [some y, some (.ref t), p, c]) ∧ Same H H1) ⟨⟨none, none, rfl⟩, Same.refl _⟩ (fun i σ H1 _ h => h.2.sqt (SqT.of ht)) ?_ ?_⟩
    · rintro i x T2 σ H1 hx ⟨⟨p, c, rfl⟩, s1⟩ hT
      obtain ⟨n, hn, rfl⟩ : ∃ n ∈ cs, x = Tx.iv n := by
        rw [List.getElem?_map] at hx
        cases e : cs[i]? with
        | none => rw [e] at hx; cases hx
        | some n => rw [e] at hx; exact ⟨n, List.mem_of_getElem? e, (Option.some.inj hx).symm⟩
      refine g_gtup (SqT.of upd_same) rfl ?_
      walk_at "go"
      refine ⟨Tx.iv n, rfl, .int _, fun H2 s2 => ?_⟩
      walk_at "go"
      rw [hc n hn]
      refine iteF ?_
      walk_at "go"
      exact ⟨⟨_, _, rfl⟩, (s1.trans (same_new hT)).trans s2⟩
    · rintro σ H1 ⟨⟨p, c, rfl⟩, s1⟩
      walk_at "go"
      refine ⟨t, cs, rfl, s1.sqt (SqT.of ht), fun H2 a s2 ha h2 => ?_⟩
      exact q H2 a (s1.trans s2) (s1.free ha) h2
theorem ok_Text_codes (T : Txt K mg) : FnOk P w K mg base CX0 1 T.f_Text_codes T.fd_Text_codes ["self"] (getSp T.C_Text "_codes") := by
  refine T.F_Text_codes.ok sc_Text_codes (fun vs H Q E h => ?_) (fun cdv A outer s H vs Q E hr h => ?_)
  · obtain ⟨a, dx, fs, v, rfl, _⟩ := h
    rfl
  · obtain ⟨a, dx, fs, v, rfl, ha, hv, q⟩ := h
    have hu := hu_of hr
    refine ⟨_, (pss_one (ps_ret (pe_fld (pv 0) rfl))), ?_⟩
    walk_at "go"
    exact ⟨a, T.C_Text, dx, fs, v, rfl, ha, T.c_Text, T.nf_Text__codes, hv, q⟩
theorem ok_Text___eq__ (T : Txt K mg) : FnOk P w K mg base CX0 1 T.f_Text___eq__ T.fd_Text___eq__ ["self", "other"] (Tx.spEq K T.C_Text) := by
  refine T.F_Text___eq__.ok sc_Text___eq__ (fun vs H Q E h => ?_) (fun cdv A outer s H vs Q E hr h => ?_)
  · obtain ⟨a, b, cs, ds, rfl, _⟩ := h
    rfl
  · obtain ⟨a, b, cs, ds, rfl, ⟨dx, t, ha, ht⟩, ⟨dy, u, hb, hu2⟩, q⟩ := h
    have hu := hu_of hr
    refine ⟨_, (pss_one (ps_ret (pe_and (pe_callB call_isi (by rfl) T.m_isinstance (by decide +kernel) (pa_cons (pv 1) (pa_cons (pe_gc (by rfl) T.g_Text) pa_nil))) (pe_one (pe_cmpR (op_eqD hr.units) (pe_fld (pv 0) rfl) (pe_fld (pv 1) rfl) (nomark _)))))), ?_⟩
    walk_at "go"
    refine g_isi (.own _) (T.ty_Text _ _ _ _ hb) T.ks_Text ?_
    walk_at "go"
    refine Tx.fld ha T.c_Text T.nf_Text__codes ?_
    walk_at "go"
    refine Tx.fld hb T.c_Text T.nf_Text__codes ?_
    refine g_eqd (d := .tuple (cs.map fun (c : Nat) => PyData.int (c : Int))) (e := .tuple (ds.map fun (c : Nat) => PyData.int (c : Int))) (.tup ht (Tx.dps cs)) (.tup hu2 (Tx.dps ds)) (Tx.shaped_ints cs) (Tx.shaped_ints ds) ?_
    rw [Tx.eqv_tup]
    exact q
end
section
variable {w : World} {K : PySem.W.Frag} {mg : Str → Option Value} {base : Heap}
theorem ok_mark_of (T : Txt K mg) : FnOk P w K mg base CX0 1 T.f_mark_of T.fd_mark_of ["code"] (Cd.spMark) := by
  refine T.F_mark_of.ok sc_mark_of (fun vs H Q E h => ?_) (fun cdv A outer s H vs Q E hr h => ?_)
  · obtain ⟨c, rfl, _⟩ := h
    rfl
  · obtain ⟨c, rfl, h1, h2, h3, q⟩ := h
    have hu := hu_of hr
    refine ⟨_, (pss_cons (ps_if (pt_cmpR op_lt (pv 0) (pe_gi (by rfl) T.g__MISSING_CODE) (nomark _)) (pss_one (ps_ret (pe_ix ix_str (pe_gs (by rfl) T.g_MARKS) (pe_op op_sub (pv 0) pe_int) (fun _ _ => rfl)))) pss_nil) (pss_one (ps_ret (pe_ix ix_str (pe_gs (by rfl) T.g_MARKS) (pe_op op_sub (pv 0) pe_int) (fun _ _ => rfl))))), ?_⟩
    have e := Cd.mark_ix h1 h2 h3
    have lm : Mk.MARKS.length ≤ sizeLine := by decide +kernel
    walk_at "go"
    refine g_ifd (fun c1 => ?_) (fun c1 => ?_)
    · walk_at "go"
      refine g_ixz (c := c) lm (e.1 (by omega)) ?_
      exact q
    · walk_at "go"
      refine g_ixz (c := c) lm (e.2 (by omega)) ?_
      exact q
-- self
theorem ok_Text___len__ (T : Txt K mg) : FnOk P w K mg base CX0 1 T.f_Text___len__ T.fd_Text___len__ ["self"] (Tx.spLen K T.C_Text) := by
  refine T.F_Text___len__.ok sc_Text___len__ (fun vs H Q E h => ?_) (fun cdv A outer s H vs Q E hr h => ?_)
  · obtain ⟨a, cs, rfl, _⟩ := h
    rfl
  · obtain ⟨a, cs, rfl, ⟨dx, t, ha, ht⟩, q⟩ := h
    have hu := hu_of hr
    refine ⟨_, (pss_one (ps_ret (pe_callB call_len1 (by rfl) T.m_len PySem.boot_len (pa_cons (pe_fld (pv 0) rfl) pa_nil)))), ?_⟩
    walk_at "go"
    refine Tx.fld ha T.c_Text T.nf_Text__codes ?_
    refine g_lent ht ?_
    rw [List.length_map]
    exact q
-- self code
theorem ok_Text_is_plain (T : Txt K mg) : FnOk P w K mg base CX0 4 T.f_Text_is_plain T.fd_Text_is_plain ["self"] (Tx.spIsPlain K T.C_Text) := by
  refine T.F_Text_is_plain.ok sc_Text_is_plain (fun vs H Q E h => ?_) (fun cdv A outer s H vs Q E hr h => ?_)
  · obtain ⟨a, cs, rfl, _⟩ := h
    rfl
  · obtain ⟨a, cs, rfl, ⟨dx, t, ha, ht⟩, hz, q⟩ := h
    have hu := hu_of hr
    refine ⟨_, (pss_one (ps_ret (pe_callB (cr_all (by rfl)) (by rfl) T.m_all (by decide +kernel) (pa_cons (pe_lc (own := [("code", 1)]) (g := gName 1) (tt := tYes) (by rfl) sc_Text_is_plain.nd (pi_tup (pe_fld (pv 0) rfl)) (blkOk_by (own := [("code", 1)]) (N := sN_Text_is_plain) (sc := defScope s_Text_is_plain) (by decide +kernel)) (fun _ _ _ _ _ => (pg_name (i := 1) sc_Text_is_plain.nd rfl (Or.inl rfl))) (fun _ _ _ _ _ => pts_nil) (fun _ _ _ _ _ => (pe_call (ok_is_plain_code T) (hr.mono (by decide)) (by rfl) T.g_is_plain_code T.F_is_plain_code.kp T.b_is_plain_code .nil pass0 (pa_cons (pv 1) pa_nil)))) pa_nil)))), ?_⟩
    walk_at "go"
    refine Tx.fld ha T.c_Text T.nf_Text__codes ?_
    refine ⟨t, rfl, ⟨_, ht⟩, fun D hD => lc_pureT (K := K) (xs := cs.map Tx.iv) (fun v => V.bl (Mk.isPlain v)) ht hD (by rw [List.length_map]; omega) (fun x H5 N hx s5 k => ?_) fun H5 s5 e5 => ?_⟩
    · obtain ⟨c, hc, rfl⟩ := List.mem_map.mp hx
      walk_at "go"
      refine ⟨rfl, ?_⟩
      walk_at "go"
      exact ⟨Tx.iv c, rfl, .int _, fun H2 s2 => k H2 s2⟩
    · walk_at "go"
      refine g_all (bs := cs.map Tx.plainC) (SqL.of ?_) ?_
      · rw [e5, List.map_map, List.map_map]
        rfl
      · rw [List.all_map]
        exact q H5 s5
-- code
theorem ok__shown (T : Txt K mg) : FnOk P w K mg base CX0 4 T.f__shown T.fd__shown ["code"] (Tx.spShown) := by
  refine T.F__shown.ok sc__shown (fun vs H Q E h => ?_) (fun cdv A outer s H vs Q E hr h => ?_)
  · obtain ⟨c, rfl, _⟩ := h
    rfl
  · obtain ⟨c, rfl, hp, q⟩ := h
    have hu := hu_of hr
    refine ⟨_, (pss_cons (ps_if (pt_val (pe_call (ok_is_plain_code T) (hr.mono (by decide)) (by rfl) T.g_is_plain_code T.F_is_plain_code.kp T.b_is_plain_code .nil pass0 (pa_cons (pv 0) pa_nil))) (pss_one (ps_ret (pe_call (ok_mark_of T) (hr.mono (by decide)) (by rfl) T.g_mark_of T.F_mark_of.kp T.b_mark_of .nil pass0 (pa_cons (pv 0) pa_nil)))) pss_nil) (pss_one (ps_ret (pe_op op_addZ (pe_op op_addZ pe_str (pe_callTy call_str_int (by rfl) T.m_str (by decide +kernel) (pa_cons (pv 0) pa_nil))) pe_str)))), ?_⟩
    walk_at "go"
    refine ⟨Tx.iv c, rfl, .int _, fun H1 s1 => ?_⟩
    walk_at "go"
    rw [show Mk.isPlain (Tx.iv c) = true from hp]
    refine iteT ?_
    walk_at "go"
    obtain ⟨h1, h2, h3⟩ := Cd.isPlain_iff.mp hp
    exact ⟨c, rfl, h1, by omega, h3, q H1 s1⟩
-- self code
theorem ok_Text___str__ (T : Txt K mg) : FnOk P w K mg base CX0 5 T.f_Text___str__ T.fd_Text___str__ ["self"] (Tx.spStr K T.C_Text) := by
  refine T.F_Text___str__.ok sc_Text___str__ (fun vs H Q E h => ?_) (fun cdv A outer s H vs Q E hr h => ?_)
  · obtain ⟨a, cs, rfl, _⟩ := h
    rfl
  · obtain ⟨a, cs, rfl, ⟨dx, t, ha, ht⟩, hz, hp, q⟩ := h
    have hu := hu_of hr
    refine ⟨_, (pss_one (ps_ret (pe_m1 PySem.F.slot_str_join PySem.F.type_str_join mt_joinV pe_str (pe_lc (own := [("code", 1)]) (g := gName 1) (tt := tYes) (by rfl) sc_Text___str__.nd (pi_tup (pe_fld (pv 0) rfl)) (blkOk_by (own := [("code", 1)]) (N := sN_Text___str__) (sc := defScope s_Text___str__) (by decide +kernel)) (fun _ _ _ _ _ => (pg_name (i := 1) sc_Text___str__.nd rfl (Or.inl rfl))) (fun _ _ _ _ _ => pts_nil) (fun _ _ _ _ _ => (pe_call (ok__shown T) (hr.mono (by decide)) (by rfl) T.g__shown T.F__shown.kp T.b__shown .nil pass0 (pa_cons (pv 1) pa_nil))))))), ?_⟩
    walk_at "go"
    refine Tx.fld ha T.c_Text T.nf_Text__codes ?_
    refine ⟨t, rfl, ⟨_, ht⟩, fun D hD => lc_pureT (K := K) (xs := cs.map Tx.iv) Tx.oneV ht hD (by rw [List.length_map]; omega) (fun x H5 N hx s5 k => ?_) fun H5 s5 e5 => ?_⟩
    · obtain ⟨c, hc, rfl⟩ := List.mem_map.mp hx
      walk_at "go"
      refine ⟨rfl, ?_⟩
      walk_at "go"
      exact ⟨c, rfl, hp c hc, fun H2 s2 => k H2 s2⟩
    · rw [Tx.map_oneV] at e5
      walk_at "go"
      refine g_join (SqL.of e5) (Nat.le_trans (Nat.add_le_add (Cd.sum_len1 _ (b := 1) fun l hl => by obtain ⟨d, _, rfl⟩ := List.mem_map.mp hl; exact Nat.le_refl 1) (Nat.le_refl _)) (by rw [List.length_map, List.length_map]; exact Nat.le_trans (show cs.length * 1 + cs.length * 0 ≤ 10000 by omega) (by decide))) ?_
      rw [Cd.zs_join, Tx.flat_self]
      exact q H5 s5
-- self parts start place code
theorem ok_Text_cut (T : Txt K mg) : FnOk P w K mg base CX0 6 T.f_Text_cut T.fd_Text_cut ["self"] (Tx.spCut K T.C_Text) := by
  refine T.F_Text_cut.ok sc_Text_cut (fun vs H Q E h => ?_) (fun cdv A outer s H vs Q E hr h => ?_)
  · obtain ⟨a, cs, rfl, _⟩ := h
    rfl
  · obtain ⟨a, cs, rfl, A0, hz, q⟩ := h
    have hu := hu_of hr
    refine ⟨_, (pss_cons (ps_set (i := 1) sc_Text_cut.nd rfl (Or.inl rfl) (pe_lst pa_nil)) (pss_cons (ps_set (i := 2) sc_Text_cut.nd rfl (Or.inl rfl) pe_int) (pss_cons (ps_for PassesOwn.never (by rfl) (pi_enumT (by rfl) T.m_enumerate (pa_cons (pe_fld (pv 0) rfl) pa_nil)) (pg_tup (by rfl) (pgs_cons (pg_name (i := 3) sc_Text_cut.nd rfl (Or.inl rfl)) (pgs_cons (pg_name (i := 4) sc_Text_cut.nd rfl (Or.inl rfl)) pgs_nil))) (pss_one (ps_if (pt_cmpR op_eq (pv 4) (pe_gi (by rfl) T.g__SPACE) (nomark _)) (pss_cons (ps_expr (pe_bm PySem.F.plainAttrs_list PySem.F.slot_list_append PySem.F.type_list_append mt_append (pv 1) (pa_cons (pe_call (ok__text_with T) (hr.mono (by decide)) (by rfl) T.g__text_with T.F__text_with.kp T.b__text_with .nil pass0 (pa_cons (pe_slice (sl_tupKK (K := K) rfl) (pe_fld (pv 0) rfl) (po_some (pv 2)) (po_some (pv 3))) pa_nil)) pa_nil))) (pss_one (ps_set (i := 2) sc_Text_cut.nd rfl (Or.inl rfl) (pe_op op_add (pv 3) pe_int)))) pss_nil))) (pss_cons (ps_expr (pe_bm PySem.F.plainAttrs_list PySem.F.slot_list_append PySem.F.type_list_append mt_append (pv 1) (pa_cons (pe_call (ok__text_with T) (hr.mono (by decide)) (by rfl) T.g__text_with T.F__text_with.kp T.b__text_with .nil pass0 (pa_cons (pe_slice (sl_tupKK (K := K) rfl) (pe_fld (pv 0) rfl) (po_some (pv 2)) po_none) pa_nil)) pa_nil))) (pss_one (ps_ret (pe_callTy call_tupOf (by rfl) T.m_tuple (by decide +kernel) (pa_cons (pv 1) pa_nil)))))))), ?_⟩
    obtain ⟨dx, t, ha0, ht0⟩ := id A0
    walk_at "go"
    refine ⟨Nat.zero_le _, fun l hl => ?_⟩
    have s0 := same_new (o := .lst []) hl
    have e0 : (upd H l (.lst [])) l = some (.lst []) := upd_same
    have ha := s0 _ _ ha0
    have ht := s0.sqt ht0
    generalize upd H l (.lst []) = H0 at s0 e0 ha ht ⊢
    walk_at "go"
    refine Tx.fld ha T.c_Text T.nf_Text__codes ?_
    walk_at "go"
    refine ⟨t, cs.map Tx.iv, rfl, ht, for_enT (K := K) (a := t) (xs := cs.map Tx.iv) (fun i σ H1 => ∃ (st : Nat) (ps : List Addr) (y4 y5 : Option V), σ = [some (.ref a), some (.ref l), some (Tx.iv st), y4, y5] ∧ Same H H1 ∧ H1 l = some (.lst (ps.map V.ref)) ∧ Paired (fun x row => Tx.At K H1 T.C_Text x row) ps (Tx.cfold (cs.take i)).1 ∧ st ≤ i ∧ (cs.take i).drop st = (Tx.cfold (cs.take i)).2) ⟨0, [], none, none, rfl, s0, e0, .nil, Nat.le_refl _, rfl⟩ (fun i σ H1 _ h => by obtain ⟨st, ps, y4, y5, _, s1, _⟩ := h; exact s1.sqt ht0) ?_ ?_⟩
    · rintro i x T2 σ H1 hx ⟨st, ps, y4, y5, rfl, s1, e1, pr, hst, hcur⟩ hT
      obtain ⟨c, ec, rfl⟩ : ∃ c, cs[i]? = some c ∧ x = Tx.iv c := by
        rw [List.getElem?_map] at hx
        cases e : cs[i]? with
        | none => rw [e] at hx; cases hx
        | some c => rw [e] at hx; exact ⟨c, rfl, (Option.some.inj hx).symm⟩
      have il : i < cs.length := (List.getElem?_eq_some_iff.mp ec).1
      have kl := Tx.cfold_len cs i
      have lp : ps.length = _ := pr.length
      rw [Tx.cfold_snoc ec]
      have tk1 : cs.take (i + 1) = cs.take i ++ [c] := by rw [List.take_add_one, ec]; rfl
      refine g_gtup (SqT.of upd_same) rfl ?_
      have sT := same_new (o := .tup [V.int (i : Nat), Tx.iv c]) hT
      have e1 := sT _ _ e1
      have pr := Tx.paired_same pr sT
      have s1 := s1.trans sT
      generalize upd H1 T2 (.tup [V.int (i : Nat), Tx.iv c]) = H2 at e1 pr s1 ⊢
      walk_at "go"
      refine g_ifd (fun h => ?_) (fun h => ?_)
      · have hc : c = 32 := by have := V.int.inj h; omega
        walk_at "go"
        refine ⟨ty_list e1, ?_⟩
        walk_at "go"
        refine Tx.fld (s1 _ _ ha0) T.c_Text T.nf_Text__codes ?_
        walk_at "go"
        refine g_slA (s1.sqt ht0) fun H3 r s3 h3 => ?_
        rw [cut_nat, ← List.map_drop, ← List.map_take] at h3
        rw [show (cs.drop st).take (i - st) = (Tx.cfold (cs.take i)).2 by rw [← hcur, List.drop_take]] at h3
        walk_at "go"
        refine ⟨r, _, rfl, h3, fun H4 b s4 nb B4 => ?_⟩
        have S4 := s3.trans s4
        have e4 := S4 _ _ e1
        walk_at "go"
        refine g_append e4 (Nat.lt_of_le_of_lt (show (ps.map V.ref).length ≤ 10000 by rw [List.length_map]; omega) (by decide)) ?_
        walk_at "go"
        refine ⟨i + 1, ps ++ [b], _, _, rfl, (s1.trans S4).mut hl, ?_, ?_, Nat.le_refl _, ?_⟩
        · rw [upd_same, List.map_append]
          rfl
        · unfold Tx.cstep
          rw [if_pos hc]
          exact (Paired.mapP (Tx.paired_same pr S4) fun x row h => Tx.At.upd h e4).snoc (Tx.At.upd B4 e4)
        · unfold Tx.cstep
          rw [if_pos hc]
          exact List.drop_of_length_le (by rw [List.length_take]; exact Nat.min_le_left _ _)
      · have hc : ¬ c = 32 := fun e => h (by rw [e]; rfl)
        walk_at "go"
        refine ⟨st, ps, _, _, rfl, s1, e1, ?_, Nat.le_succ_of_le hst, ?_⟩
        · unfold Tx.cstep
          rw [if_neg hc]
          exact pr
        · unfold Tx.cstep
          rw [if_neg hc, ← hcur, tk1, List.drop_append_of_le_length (by rw [List.length_take]; omega)]
    · rintro σ H1 ⟨st, ps, y4, y5, rfl, s1, e1, pr, hst, hcur⟩
      have kl := Tx.cfold_len cs cs.length
      rw [List.length_map, List.take_of_length_le (Nat.le_refl _)] at pr hcur
      rw [List.take_of_length_le (Nat.le_refl _)] at kl
      have lp : ps.length = _ := pr.length
      walk_at "go"
      refine ⟨ty_list e1, ?_⟩
      walk_at "go"
      refine Tx.fld (s1 _ _ ha0) T.c_Text T.nf_Text__codes ?_
      walk_at "go"
      refine g_slA (s1.sqt ht0) fun H3 r s3 h3 => ?_
      rw [cut_of, ← List.map_drop, hcur] at h3
      walk_at "go"
      refine ⟨r, _, rfl, h3, fun H4 b s4 nb B4 => ?_⟩
      have S4 := s3.trans s4
      have e4 := S4 _ _ e1
      walk_at "go"
      refine g_append e4 (Nat.lt_of_le_of_lt (show (ps.map V.ref).length ≤ 10000 by rw [List.length_map]; omega) (by decide)) ?_
      walk_at "go"
      refine g_tupOf (SqL.of upd_same) fun p hp => ?_
      refine q _ p (ps ++ [b]) (((s1.trans S4).mut hl).trans (same_new hp)) (by rw [upd_same, List.map_append]; rfl) ?_
      exact (Paired.mapP (Tx.paired_same pr S4) fun x row h => (Tx.At.upd h e4).same (same_new hp)).snoc ((Tx.At.upd B4 e4).same (same_new hp))
-- texts codes place text
theorem ok_Text_joined (T : Txt K mg) : FnOk P w K mg base CX0 6 T.f_Text_joined T.fd_Text_joined ["texts"] (Tx.spJoined K T.C_Text) := by
  refine T.F_Text_joined.ok sc_Text_joined (fun vs H Q E h => ?_) (fun cdv A outer s H vs Q E hr h => ?_)
  · obtain ⟨p, ps, rows, rfl, _⟩ := h
    rfl
  · obtain ⟨p, ps, rows, rfl, hp, pr, hz, hj, q⟩ := h
    have hu := hu_of hr
    refine ⟨_, (pss_cons (ps_if (PW.pt (pw_or (pt_not (pt_val (pe_callB (call_isiQ (K := K) rfl) (by rfl) T.m_isinstance (by decide +kernel) (pa_cons (pv 0) (pa_cons (pe_ty (n := "tuple") (by rfl) T.m_tuple (by decide +kernel)) pa_nil))))) (pw_or1 (pt_not (pt_val (pe_callB (cr_all (by rfl)) (by rfl) T.m_all (by decide +kernel) (pa_cons (pe_lc (own := [("text", 3)]) (g := gName 3) (tt := tYes) (by rfl) sc_Text_joined.nd (pi_tup (pv 0)) (blkOk_by (own := [("text", 3)]) (N := sN_Text_joined) (sc := defScope s_Text_joined) (by decide +kernel)) (fun _ _ _ _ _ => (pg_name (i := 3) sc_Text_joined.nd rfl (Or.inl rfl))) (fun _ _ _ _ _ => pts_nil) (fun _ _ _ _ _ => (pe_callB (call_isiQ (K := K) rfl) (by rfl) T.m_isinstance (by decide +kernel) (pa_cons (pv 3) (pa_cons (pe_gc (by rfl) T.g_Text) pa_nil))))) pa_nil))))))) (pss_one ps_never) pss_nil) (pss_cons (ps_set (i := 1) sc_Text_joined.nd rfl (Or.inl rfl) (pe_lst pa_nil)) (pss_cons (ps_for PassesOwn.never (by rfl) (pi_enumT (by rfl) T.m_enumerate (pa_cons (pv 0) pa_nil)) (pg_tup (by rfl) (pgs_cons (pg_name (i := 2) sc_Text_joined.nd rfl (Or.inl rfl)) (pgs_cons (pg_name (i := 3) sc_Text_joined.nd rfl (Or.inl rfl)) pgs_nil))) (pss_cons (ps_if (pt_cmpR op_gt (pv 2) pe_int (nomark _)) (pss_one (ps_expr (pe_bm PySem.F.plainAttrs_list PySem.F.slot_list_append PySem.F.type_list_append mt_append (pv 1) (pa_cons (pe_gi (by rfl) T.g__SPACE) pa_nil)))) pss_nil) (pss_one (ps_expr (pe_bm PySem.F.plainAttrs_list PySem.F.slot_list_extend PySem.F.type_list_extend mt_extendT (pv 1) (pa_cons (pe_prop (pv 3) T.c_Text T.pp_Text_codes (ok_Text_codes T) (hr.mono (by decide)) T.b_Text_codes .nil pass0 rfl) pa_nil)))))) (pss_one (ps_ret (pe_call (ok__text_with T) (hr.mono (by decide)) (by rfl) T.g__text_with T.F__text_with.kp T.b__text_with .nil pass0 (pa_cons (pe_callTy call_tupOf (by rfl) T.m_tuple (by decide +kernel) (pa_cons (pv 1) pa_nil)) pa_nil))))))), ?_⟩
    have lp : ps.length = _ := pr.length
    walk_at "go"
    refine g_isi (.ty _) (.base (.tup hp)) (kit_ty (r := true) (by decide +kernel)) ?_
    walk_at "go"
    refine iteF ?_
    walk_at "go"
    refine ⟨p, rfl, ⟨_, SqT.of hp⟩, fun D hD => lc_pureT (K := K) (xs := ps.map V.ref) (fun _ => V.bl true) (SqT.of hp) hD (by rw [List.length_map]; omega) (fun x H5 N hx s5 k => ?_) fun H5 s5 e5 => ?_⟩
    · obtain ⟨a, ham, rfl⟩ := List.mem_map.mp hx
      obtain ⟨i, hi⟩ := List.getElem?_of_mem ham
      obtain ⟨row, er, dx, t, ha, ht⟩ := paired_at pr hi
      walk_at "go"
      refine ⟨rfl, ?_⟩
      walk_at "go"
      refine g_isi (.own _) (T.ty_Text _ _ _ _ (s5 _ _ ha)) T.ks_Text ?_
      exact k H5 (Same.refl _)
    · walk_at "go"
      refine g_all (bs := (ps.map V.ref).map fun _ => true) (SqL.of ?_) ?_
      · rw [e5, List.map_map, List.map_map, List.map_map]
        rfl
      · rw [show ((ps.map V.ref).map fun _ => true).all id = true by rw [List.all_map, List.all_eq_true]; exact fun _ _ => rfl]
        walk_at "go"
        refine iteF ?_
        walk_at "go"
        refine ⟨Nat.zero_le _, fun l hl => ?_⟩
        have s6 := s5.trans (same_new (o := .lst []) hl)
        have e6 : (upd H5 l (.lst [])) l = some (.lst []) := upd_same
        have l0 : H l = none := s5.free hl
        generalize upd H5 l (.lst []) = H6 at s6 e6 ⊢
        walk_at "go"
        refine ⟨p, ps.map V.ref, rfl, SqT.of (s6 _ _ hp), for_enT (K := K) (a := p) (xs := ps.map V.ref) (fun i σ H1 => (∃ y2 y3, σ = [some (.ref p), some (.ref l), y2, y3]) ∧ Same H H1 ∧ H1 l = some (.lst ((Tx.joinC (rows.take i)).map Tx.iv))) ⟨⟨_, _, rfl⟩, s6, e6⟩ (fun i σ H1 _ h => SqT.of (h.2.1 _ _ hp)) ?_ ?_⟩
        · rintro i x T2 σ H1 hx ⟨⟨y2, y3, rfl⟩, s1, e1⟩ hT
          rw [List.getElem?_map] at hx
          obtain ⟨a, ea, rfl⟩ : ∃ a, ps[i]? = some a ∧ x = V.ref a := by
            cases e : ps[i]? with
            | none => rw [e] at hx; cases hx
            | some a => rw [e] at hx; exact ⟨a, rfl, (Option.some.inj hx).symm⟩
          obtain ⟨row, er, A0⟩ := paired_at pr ea
          have tk1 : rows.take (i + 1) = rows.take i ++ [row] := by rw [List.take_add_one, er]; rfl
          have il : i < rows.length := (List.getElem?_eq_some_iff.mp er).1
          have jl : (Tx.joinC (rows.take (i + 1))).length ≤ 50000 := Nat.le_trans (Tx.joinC_le rows (i + 1)) hj
          rw [tk1, Tx.joinC_snoc, List.length_append, List.length_append] at jl
          have e0 : rows.take i = [] ↔ i = 0 := by
            constructor
            · intro h
              rcases List.take_eq_nil_iff.mp h with z | z
              · exact z
              · rw [z] at il
                exact absurd il (Nat.not_lt_zero _)
            · intro h
              rw [h]
              rfl
          rw [tk1, Tx.joinC_snoc]
          refine g_gtup (SqT.of upd_same) rfl ?_
          have sT := same_new (o := .tup [V.int (i : Nat), V.ref a]) hT
          have e1 := sT _ _ e1
          have s1 := s1.trans sT
          generalize upd H1 T2 (.tup [V.int (i : Nat), V.ref a]) = H2 at e1 s1 ⊢
          walk_at "go"
          refine g_ifd (fun h => ?_) (fun h => ?_)
          · have i0 : ¬ rows.take i = [] := fun e => by
              have := e0.mp e
              have : (i : Int) > 0 := h
              omega
            rw [if_neg i0] at jl ⊢
            walk_at "go"
            refine ⟨ty_list e1, ?_⟩
            walk_at "go"
            refine g_append e1 (Nat.lt_of_le_of_lt (show ((Tx.joinC (rows.take i)).map Tx.iv).length ≤ 50000 by rw [List.length_map]; omega) (by decide)) ?_
            have S2 := s1.mut (o := .lst ((Tx.joinC (rows.take i)).map Tx.iv ++ [V.int 32])) l0
            obtain ⟨dx, t, ha, ht⟩ := A0.same S2
            have e2 : (upd H2 l (.lst ((Tx.joinC (rows.take i)).map Tx.iv ++ [V.int 32]))) l = some (.lst ((Tx.joinC (rows.take i)).map Tx.iv ++ [V.int 32])) := upd_same
            generalize upd H2 l (.lst ((Tx.joinC (rows.take i)).map Tx.iv ++ [V.int 32])) = H3 at S2 ha ht e2 ⊢
            walk_at "go"
            refine ⟨ty_list e2, ?_⟩
            walk_at "go"
            refine Tx.prop ha ?_
            walk_at "go"
            refine g_extT e2 ht (Nat.le_trans (show ((Tx.joinC (rows.take i)).map Tx.iv ++ [V.int 32]).length + (row.map Tx.iv).length ≤ 50000 by rw [List.length_append, List.length_map, List.length_map]; exact (by simpa [Nat.add_assoc] using jl)) (by decide)) ?_
            walk_at "go"
            refine ⟨⟨_, _, rfl⟩, S2.mut l0, ?_⟩
            rw [upd_same, List.map_append, List.map_append, List.append_assoc]
            rfl
          · have i0 : rows.take i = [] := e0.mpr (by
              have : ¬ (i : Int) > 0 := h
              omega)
            rw [if_pos i0] at jl ⊢
            walk_at "go"
            refine ⟨ty_list e1, ?_⟩
            walk_at "go"
            obtain ⟨dx, t, ha, ht⟩ := A0.same s1
            refine Tx.prop ha ?_
            walk_at "go"
            refine g_extT e1 ht (Nat.le_trans (show ((Tx.joinC (rows.take i)).map Tx.iv).length + (row.map Tx.iv).length ≤ 50000 by rw [List.length_map, List.length_map]; simpa using jl) (by decide)) ?_
            walk_at "go"
            refine ⟨⟨_, _, rfl⟩, s1.mut l0, ?_⟩
            rw [upd_same, List.map_append]
            rfl
        · rintro σ H1 ⟨⟨y2, y3, rfl⟩, s1, e1⟩
          rw [List.length_map, List.take_of_length_le (by rw [lp]; exact Nat.le_refl _)] at e1
          walk_at "go"
          refine g_tupOf (SqL.of e1) fun t ht => ?_
          have s7 := s1.trans (same_new (o := .tup ((Tx.joinC rows).map Tx.iv)) ht)
          walk_at "go"
          exact ⟨t, _, rfl, SqT.of upd_same, fun H8 b s8 nb B8 => q H8 b (s7.trans s8) (s7.free nb) B8⟩
end
section
variable {w : World} {K : PySem.W.Frag} {mg : Str → Option Value} {base : Heap}
-- thing
theorem ok__is_word (T : Txt K mg) : FnOk P w K mg base CX0 3 T.f__is_word T.fd__is_word ["thing"] (Pl.spIsWord) := by
  refine T.F__is_word.ok sc__is_word (fun vs H Q E h => ?_) (fun cdv A outer s H vs Q E hr h => ?_)
  · obtain ⟨l, rfl, _⟩ := h
    rfl
  · obtain ⟨l, rfl, hp, hl, q⟩ := h
    have hu := hu_of hr
    refine ⟨_, (pss_one (ps_ret (pe_and (pe_call (ok_is_body T) (hr.mono (by decide)) (by rfl) T.g_is_body T.F_is_body.kp T.b_is_body .nil pass0 (pa_cons (pv 0) pa_nil)) (pe_one (pe_cmpR op_notInS pe_str (pv 0) (by rfl)))))), ?_⟩
    walk_at "go"
    refine ⟨.str (Cd.zs l), rfl, Pl.any_plain hp hl H, fun H1 s1 => ?_⟩
    rw [Pl.body_plain hp]
    walk_at "go"
    rw [Cd.zs_list]
    exact q H1 s1
-- word
theorem ok_has_shape (T : Txt K mg) : FnOk P w K mg base CX0 4 T.f_has_shape T.fd_has_shape ["word"] (Pl.spShape) := by
  refine T.F_has_shape.ok sc_has_shape (fun vs H Q E h => ?_) (fun cdv A outer s H vs Q E hr h => ?_)
  · obtain ⟨l, rfl, _⟩ := h
    rfl
  · obtain ⟨l, rfl, hp, hl, q⟩ := h
    have hu := hu_of hr
    refine ⟨_, (pss_one (ps_ret (pe_and (pe_call (ok__is_word T) (hr.mono (by decide)) (by rfl) T.g__is_word T.F__is_word.kp T.b__is_word .nil pass0 (pa_cons (pv 0) pa_nil)) (pe_and (pe_cmpR op_ge (pe_callB call_lenZ (by rfl) T.m_len PySem.boot_len (pa_cons (pv 0) pa_nil)) (pe_gi (by rfl) T.g__SHORTEST_SHAPE) (nomark _)) (pe_and (pe_m1 PySem.F.slot_str_startswith PySem.F.type_str_startswith mt_startZ (pv 0) pe_str) (pe_one (pe_m1 PySem.F.slot_str_endswith PySem.F.type_str_endswith mt_endswith (pv 0) pe_str))))))), ?_⟩
    walk_at "go"
    refine ⟨l, rfl, hp, hl, fun H1 s1 => ?_⟩
    have q1 := q H1 s1
    unfold Pl.shapeL at q1
    walk_at "go"
    refine g_if (fun c1 => ?_) (fun c1 => ?_)
    · rw [c1, Bool.true_and] at q1
      walk_at "go"
      refine g_lenz (by rw [Cd.zs_len]; exact Nat.le_trans hl (by decide)) ?_
      rw [Cd.zs_len]
      walk_at "go"
      refine g_ifd (fun c2 => ?_) (fun c2 => ?_)
      · have c3 : 4 ≤ l.length := by
          have : (l.length : Int) ≥ 4 := c2
          omega
        rw [decide_eq_true c3, Bool.true_and] at q1
        walk_at "go"
        rw [Pl.starts_is c3]
        refine g_ifd (fun c4 => ?_) (fun c4 => ?_)
        · rw [decide_eq_true c4, Bool.true_and] at q1
          walk_at "go"
          refine ⟨_, _, rfl, rfl, ?_⟩
          rw [Pl.ends_is c3]
          exact q1
        · rw [decide_eq_false c4, Bool.false_and] at q1
          walk_at "go"
          exact q1
      · have c3 : ¬ 4 ≤ l.length := fun h => c2 (show (l.length : Int) ≥ 4 by omega)
        rw [decide_eq_false c3, Bool.false_and] at q1
        walk_at "go"
        exact q1
    · rw [c1, Bool.false_and, Bool.false_and] at q1
      walk_at "go"
      exact q1
-- thing
theorem ok_is_width (T : Txt K mg) : FnOk P w K mg base CX0 3 T.f_is_width T.fd_is_width ["thing"] (Pl.spWidth) := by
  refine T.F_is_width.ok sc_is_width (fun vs H Q E h => ?_) (fun cdv A outer s H vs Q E hr h => ?_)
  · obtain ⟨w, rfl, _⟩ := h
    rfl
  · obtain ⟨w, rfl, h1, h2, q⟩ := h
    have hu := hu_of hr
    refine ⟨_, (pss_one (ps_ret (pe_call (ok_is_between T) (hr.mono (by decide)) (by rfl) T.g_is_between T.F_is_between.kp T.b_is_between .nil pass0 (pa_cons (pv 0) (pa_cons (pe_gi (by rfl) T.g__NARROWEST) (pa_cons (pe_gi (by rfl) T.g__WIDEST) pa_nil)))))), ?_⟩
    walk_at "go"
    refine ⟨.int w, 50, 200, rfl, .int _, ?_⟩
    rw [show Mk.btw (.int w) 50 200 = true by show (decide (50 ≤ w) && decide (w ≤ 200)) = true; rw [decide_eq_true h1, decide_eq_true h2]; rfl]
    exact q H (Same.refl H)
-- part width
theorem ok__is_literal (T : Txt K mg) : FnOk P w K mg base CX0 8 T.f__is_literal T.fd__is_literal ["part", "width"] (Pl.spLit K T.C_Text) := by
  refine T.F__is_literal.ok sc__is_literal (fun vs H Q E h => ?_) (fun cdv A outer s H vs Q E hr h => ?_)
  · obtain ⟨a, cs, w, rfl, _⟩ := h
    rfl
  · obtain ⟨a, cs, w, rfl, A0, hl, q⟩ := h
    have hu := hu_of hr
    refine ⟨_, (pss_one (ps_ret (pe_and (pe_chain op_lt op_lt pe_int (pe_callB (call_lenO (FnOk.raw (ok_Text___len__ T) T.b_Text___len__ .nil) (hr.mono (by decide)) pass0 T.at_Text___len__ T.if_Text___len__) (by rfl) T.m_len PySem.boot_len (pa_cons (pv 0) pa_nil)) (pv 1)) (pe_and (pe_prop (pv 0) T.c_Text T.pp_Text_is_plain (ok_Text_is_plain T) (hr.mono (by decide)) T.b_Text_is_plain .nil pass0 rfl) (pe_one (pe_not (pe_call (ok_has_shape T) (hr.mono (by decide)) (by rfl) T.g_has_shape T.F_has_shape.kp T.b_has_shape .nil pass0 (pa_cons (pe_callTy (call_strO (FnOk.raw (ok_Text___str__ T) T.b_Text___str__ .nil) (hr.mono (by decide)) pass0 T.at_Text___str__ T.if_Text___str__) (by rfl) T.m_str (by decide +kernel) (pa_cons (pv 0) pa_nil)) pa_nil)))))))), ?_⟩
    have q1 : ∀ H1, Same H H1 → Q (.bl (Pl.litC w cs)) H1 := q
    unfold Pl.litC at q1
    walk_at "go"
    refine Pl.lenO A0 hl ?_
    walk_at "go"
    refine g_ifd (fun c1 => ?_) (fun c1 => ?_)
    · rw [decide_eq_true c1, Bool.true_and] at q1
      walk_at "go"
      refine g_ifd (fun c2 => ?_) (fun c2 => ?_)
      · rw [decide_eq_true c2, Bool.true_and] at q1
        walk_at "go"
        refine Pl.propO A0 ⟨a, cs, rfl, A0, hl, fun H1 s1 => ?_⟩
        walk_at "go"
        refine g_if (fun c3 => ?_) (fun c3 => ?_)
        · rw [c3, Bool.true_and] at q1
          have hp : ∀ c ∈ cs, Tx.plainC c = true := fun c hc => List.all_eq_true.mp c3 c hc
          walk_at "go"
          refine Pl.strO (A0.same s1) hl hp fun H2 s2 => ?_
          walk_at "go"
          refine ⟨cs, rfl, hp, hl, fun H3 s3 => ?_⟩
          walk_at "go"
          exact q1 H3 (s1.trans (s2.trans s3))
        · rw [c3, Bool.false_and] at q1
          walk_at "go"
          exact q1 H1 s1
      · rw [decide_eq_false c2, Bool.false_and] at q1
        walk_at "go"
        exact q1 H (Same.refl H)
    · rw [decide_eq_false c1, Bool.false_and, Bool.false_and] at q1
      walk_at "go"
      exact q1 H (Same.refl H)
-- parts literals pieces row part is_literal
theorem ok_pieces_of_parts (T : Txt K mg) : FnOk P w K mg base CX0 8 T.f_pieces_of_parts T.fd_pieces_of_parts ["parts", "literals"] (Pl.spPieces K T.C_Text) := by
  refine T.F_pieces_of_parts.ok sc_pieces_of_parts (fun vs H Q E h => ?_) (fun cdv A outer s H vs Q E hr h => ?_)
  · obtain ⟨p, l, ps, rows, lit, rfl, _⟩ := h
    rfl
  · obtain ⟨p, l, ps, rows, lit, rfl, hp, pr, hl, hlit, hz, ht, q⟩ := h
    have hu := hu_of hr
    refine ⟨_, (pss_cons (ps_set (i := 2) sc_pieces_of_parts.nd rfl (Or.inl rfl) (pe_lst pa_nil)) (pss_cons (ps_set (i := 3) sc_pieces_of_parts.nd rfl (Or.inl rfl) (pe_lst pa_nil)) (pss_cons (ps_for PassesOwn.never (by rfl) (pi_zipM (by rfl) T.m_zip (pa_cons (pv 0) (pa_cons (pv 1) pa_nil))) (pg_tup (by rfl) (pgs_cons (pg_name (i := 4) sc_pieces_of_parts.nd rfl (Or.inl rfl)) (pgs_cons (pg_name (i := 5) sc_pieces_of_parts.nd rfl (Or.inl rfl)) pgs_nil))) (pss_cons (ps_if (pt_not (pt_val (pv 5))) (pss_cons (ps_expr (pe_bm PySem.F.plainAttrs_list PySem.F.slot_list_append PySem.F.type_list_append mt_append (pv 3) (pa_cons (pv 4) pa_nil))) (pss_one ps_continue)) pss_nil) (pss_cons (ps_if (pt_cmpR op_gt (pe_callB call_len1 (by rfl) T.m_len PySem.boot_len (pa_cons (pv 3) pa_nil)) pe_int (nomark _)) (pss_cons (ps_expr (pe_bm PySem.F.plainAttrs_list PySem.F.slot_list_append PySem.F.type_list_append mt_append (pv 2) (pa_cons (pe_smeth (pe_gc (by rfl) T.g_Text) T.cr_Text T.sm_Text_joined (ok_Text_joined T) (hr.mono (by decide)) T.b_Text_joined pass0 (pa_cons (pe_callTy call_tupOf (by rfl) T.m_tuple (by decide +kernel) (pa_cons (pv 3) pa_nil)) pa_nil)) pa_nil))) (pss_one (ps_set (i := 3) sc_pieces_of_parts.nd rfl (Or.inl rfl) (pe_lst pa_nil)))) pss_nil) (pss_one (ps_expr (pe_bm PySem.F.plainAttrs_list PySem.F.slot_list_append PySem.F.type_list_append mt_append (pv 2) (pa_cons (pe_callTy (call_strO (FnOk.raw (ok_Text___str__ T) T.b_Text___str__ .nil) (hr.mono (by decide)) pass0 T.at_Text___str__ T.if_Text___str__) (by rfl) T.m_str (by decide +kernel) (pa_cons (pv 4) pa_nil)) pa_nil))))))) (pss_cons (ps_if (pt_cmpR op_gt (pe_callB call_len1 (by rfl) T.m_len PySem.boot_len (pa_cons (pv 3) pa_nil)) pe_int (nomark _)) (pss_one (ps_expr (pe_bm PySem.F.plainAttrs_list PySem.F.slot_list_append PySem.F.type_list_append mt_append (pv 2) (pa_cons (pe_smeth (pe_gc (by rfl) T.g_Text) T.cr_Text T.sm_Text_joined (ok_Text_joined T) (hr.mono (by decide)) T.b_Text_joined pass0 (pa_cons (pe_callTy call_tupOf (by rfl) T.m_tuple (by decide +kernel) (pa_cons (pv 3) pa_nil)) pa_nil)) pa_nil)))) pss_nil) (pss_one (ps_ret (pe_callTy call_tupOf (by rfl) T.m_tuple (by decide +kernel) (pa_cons (pv 2) pa_nil)))))))), ?_⟩
    have lp : ps.length = rows.length := pr.length
    walk_at "go"
    refine ⟨Nat.zero_le _, fun pl hpl => ?_⟩
    walk_at "go"
    refine ⟨Nat.zero_le _, fun rl hrl => ?_⟩
    have s0 := (same_new (o := .lst []) hpl).trans (same_new (o := .lst []) hrl)
    have nep : pl ≠ rl := ne_of_none upd_same hrl
    have e1 : (upd (upd H pl (.lst [])) rl (.lst [])) pl = some (.lst []) := by rw [upd_ne nep]; exact upd_same
    have e2 : (upd (upd H pl (.lst [])) rl (.lst [])) rl = some (.lst []) := upd_same
    have nrl : H rl = none := (same_new (o := .lst []) hpl).free hrl
    generalize upd (upd H pl (.lst [])) rl (.lst []) = H0 at s0 e1 e2 ⊢
    walk_at "go"
    refine ⟨p, l, ps.map V.ref, rows.map fun r => V.bl (lit r), rfl, SqT.of (s0 _ _ hp), SqL.of (s0 _ _ hl), for_zipM (K := K) (xs := ps.map V.ref) (ys := rows.map fun r => V.bl (lit r)) (by rw [List.length_map, List.length_map, lp]) (fun i σ H1 => ∃ (rl : Addr) (xs : List V) (rs : List Addr) (y4 y5 : Option V), σ = [some (.ref p), some (.ref l), some (.ref pl), some (.ref rl), y4, y5] ∧ Same H H1 ∧ H1 pl = some (.lst xs) ∧ H1 rl = some (.lst (rs.map V.ref)) ∧ pl ≠ rl ∧ H rl = none ∧ Paired (Pl.PcV K T.C_Text H1) xs (Pl.pfold lit (rows.take i)).1 ∧ Paired (fun x row => Tx.At K H1 T.C_Text x row) rs (Pl.pfold lit (rows.take i)).2) ⟨rl, [], [], none, none, rfl, s0, e1, e2, nep, nrl, .nil, .nil⟩ (fun i σ H1 h => by obtain ⟨rl, xs, rs, y4, y5, _, s1, _⟩ := h; exact ⟨SqT.of (s1 _ _ hp), SqL.of (s1 _ _ hl)⟩) ?_ ?_⟩
    · rintro i x y T2 σ H1 hx hy ⟨rl, xs, rs, y4, y5, rfl, s1, e1, e2, nep, nrl, px, pq⟩ hT
      rw [List.getElem?_map] at hx
      obtain ⟨a, ea, rfl⟩ : ∃ a, ps[i]? = some a ∧ x = V.ref a := by
        cases e : ps[i]? with
        | none => rw [e] at hx; cases hx
        | some a => rw [e] at hx; exact ⟨a, rfl, (Option.some.inj hx).symm⟩
      obtain ⟨row, er, A0⟩ := paired_at pr ea
      have ey : y = V.bl (lit row) := by
        rw [List.getElem?_map, er] at hy
        exact (Option.some.inj hy).symm
      subst ey
      have rm : row ∈ rows := List.mem_of_getElem? er
      have rlen := Pl.tot_mem row rm
      obtain ⟨b1, b2, b3, _⟩ := Pl.pfold_le lit rows i
      have il : i < rows.length := (List.getElem?_eq_some_iff.mp er).1
      rw [Pl.pfold_snoc er]
      generalize Pl.pfold lit (rows.take i) = st at px pq b1 b2 b3 ⊢
      have lx : xs.length = _ := px.length
      have lr : rs.length = _ := pq.length
      refine g_gtup (SqT.of upd_same) rfl ?_
      have sT := same_new (o := .tup [V.ref a, V.bl (lit row)]) hT
      have s1 := s1.trans sT
      have e1 := sT _ _ e1
      have e2 := sT _ _ e2
      have px := Paired.mapP px fun v c h => Pl.PcV.same sT h
      have pq := Tx.paired_same pq sT
      generalize upd H1 T2 (.tup [V.ref a, V.bl (lit row)]) = H2 at s1 e1 e2 px pq ⊢
      have A2 := A0.same s1
      have A0' := A0
      walk_at "go"
      unfold Pl.pstep
      cases hb : lit row with
      | false =>
        refine iteT ?_
        rw [if_neg Bool.false_ne_true]
        walk_at "go"
        refine ⟨ty_list e2, ?_⟩
        walk_at "go"
        refine g_append e2 (Nat.lt_of_le_of_lt (show (rs.map V.ref).length ≤ 5000 by rw [List.length_map]; omega) (by decide)) ?_
        walk_at "go"
        refine ⟨rl, xs, rs ++ [a], _, _, rfl, s1.mut nrl, ?_, ?_, nep, nrl, ?_, ?_⟩
        · rw [upd_ne nep]
          exact e1
        · rw [upd_same, List.map_append]
          rfl
        · exact Paired.mapP px fun v c h => Pl.PcV.upd e2 h
        · exact (Paired.mapP pq fun v c h => Tx.At.upd h e2).snoc (Tx.At.upd A2 e2)
      | true =>
        have hplain := hlit row rm hb
        refine iteF ?_
        rw [if_pos rfl]
        walk_at "go"
        refine g_len (SqL.of e2) ?_
        walk_at "go"
        refine g_ifd (fun c => ?_) (fun c => ?_)
        · have rne : ¬ st.2 = [] := fun e => by
            rw [e] at lr
            have : ((rs.map V.ref).length : Int) > 0 := c
            rw [List.length_map, lr] at this
            exact absurd this (by decide)
          walk_at "go"
          refine ⟨ty_list e1, ?_⟩
          walk_at "go"
          refine ⟨rfl, ?_⟩
          walk_at "go"
          refine g_tupOf (SqL.of e2) fun t ht2 => ?_
          have s3 := same_new (o := .tup (rs.map V.ref)) ht2
          refine ⟨t, rs, st.2, rfl, upd_same, Tx.paired_same pq s3, by omega, Nat.le_trans (Pl.joinC_tot _) (by omega), fun H4 b s4 nb B4 => ?_⟩
          have S4 := s3.trans s4
          have e1 := S4 _ _ e1
          walk_at "go"
          refine g_append e1 (Nat.lt_of_le_of_lt (show xs.length ≤ 20000 by omega) (by decide)) ?_
          walk_at "go"
          refine ⟨Nat.zero_le _, fun rlx hrlx => ?_⟩
          have SG := ((s1.trans S4).mut (o := .lst (xs ++ [V.ref b])) hpl).trans (same_new (o := .lst []) hrlx)
          have nepx : pl ≠ rlx := ne_of_none upd_same hrlx
          have f1 : (upd (upd H4 pl (.lst (xs ++ [V.ref b]))) rlx (.lst [])) pl = some (.lst (xs ++ [V.ref b])) := by rw [upd_ne nepx]; exact upd_same
          have f2 : (upd (upd H4 pl (.lst (xs ++ [V.ref b]))) rlx (.lst [])) rlx = some (.lst []) := upd_same
          have nrlx : H rlx = none := ((s1.trans S4).mut (o := .lst (xs ++ [V.ref b])) hpl).free hrlx
          have AG := A0'.same SG
          have pz : Paired (Pl.PcV K T.C_Text (upd (upd H4 pl (.lst (xs ++ [V.ref b]))) rlx (.lst []))) (xs ++ [V.ref b]) (st.1 ++ Pl.joinP st.2) := by
            rw [Pl.joinP, if_neg rne]
            exact (Paired.mapP px fun v c h => Pl.PcV.same (same_new hrlx) (Pl.PcV.upd e1 (Pl.PcV.same S4 h))).snoc ⟨b, rfl, (B4.upd e1).same (same_new hrlx)⟩
          have zl : (xs ++ [V.ref b]).length ≤ 20001 := by rw [List.length_append]; exact Nat.add_le_add_right (show xs.length ≤ 20000 by omega) 1
          generalize upd (upd H4 pl (.lst (xs ++ [V.ref b]))) rlx (.lst []) = G at SG f1 f2 AG pz ⊢
          generalize xs ++ [V.ref b] = zs at f1 pz zl
          walk_at "go"
          refine ⟨ty_list f1, ?_⟩
          walk_at "go"
          refine Pl.strO AG (by omega) hplain fun G1 g1 => ?_
          have f1 := g1 _ _ f1
          have f2 := g1 _ _ f2
          walk_at "go"
          refine g_append f1 (Nat.lt_of_le_of_lt zl (by decide)) ?_
          walk_at "go"
          refine ⟨rlx, zs ++ [.str (Cd.zs row)], [], _, _, rfl, (SG.trans g1).mut hpl, upd_same, by rw [upd_ne nepx.symm]; exact f2, nepx, nrlx, ?_, .nil⟩
          exact (Paired.mapP pz fun v c h => Pl.PcV.upd f1 (Pl.PcV.same g1 h)).snoc rfl
        · have re : st.2 = [] := by
            have h0 : ¬ ((rs.map V.ref).length : Int) > 0 := c
            rw [List.length_map, lr] at h0
            exact List.length_eq_zero_iff.mp (by omega)
          have rse : rs = [] := by
            rw [re] at lr
            exact List.length_eq_zero_iff.mp lr
          subst rse
          have SG := s1
          have nepx := nep
          have f1 := e1
          have f2 := e2
          have nrlx := nrl
          have AG := A2
          have zl : xs.length ≤ 20001 := by omega
          have pz : Paired (Pl.PcV K T.C_Text H2) xs (st.1 ++ Pl.joinP st.2) := by
            rw [Pl.joinP, if_pos re, List.append_nil]
            exact px
          generalize hG : H2 = G at SG f1 f2 AG pz ⊢
          generalize hzs : xs = zs at f1 pz zl
          generalize hrlx : rl = rlx at nepx f2 nrlx ⊢
          walk_at "go"
          refine ⟨ty_list f1, ?_⟩
          walk_at "go"
          refine Pl.strO AG (by omega) hplain fun G1 g1 => ?_
          have f1 := g1 _ _ f1
          have f2 := g1 _ _ f2
          walk_at "go"
          refine g_append f1 (Nat.lt_of_le_of_lt zl (by decide)) ?_
          walk_at "go"
          refine ⟨rlx, zs ++ [.str (Cd.zs row)], [], _, _, rfl, (SG.trans g1).mut hpl, upd_same, by rw [upd_ne nepx.symm]; exact f2, nepx, nrlx, ?_, .nil⟩
          exact (Paired.mapP pz fun v c h => Pl.PcV.upd f1 (Pl.PcV.same g1 h)).snoc rfl
    · rintro σ H1 ⟨rl, xs, rs, y4, y5, rfl, s1, e1, e2, nep, nrl, px, pq⟩
      rw [List.length_map, List.take_of_length_le (by rw [lp]; exact Nat.le_refl _)] at px pq
      obtain ⟨b1, b2, b3, _⟩ := Pl.pfold_le lit rows rows.length
      rw [List.take_of_length_le (Nat.le_refl _)] at b1 b2 b3
      have qq : ∀ (G : Hp) (r : Addr) (zs : List V), Same H G → G r = some (.tup zs) → Paired (Pl.PcV K T.C_Text G) zs ((Pl.pfold lit rows).1 ++ Pl.joinP (Pl.pfold lit rows).2) → Q (.ref r) G := fun G r zs h1 h2 h3 => q G r zs h1 h2 h3
      generalize Pl.pfold lit rows = st at px pq b1 b2 b3 qq
      have lx : xs.length = _ := px.length
      have lr : rs.length = _ := pq.length
      walk_at "go"
      refine g_len (SqL.of e2) ?_
      walk_at "go"
      refine g_ifd (fun c => ?_) (fun c => ?_)
      · have rne : ¬ st.2 = [] := fun e => by
          rw [e] at lr
          have : ((rs.map V.ref).length : Int) > 0 := c
          rw [List.length_map, lr] at this
          exact absurd this (by decide)
        walk_at "go"
        refine ⟨ty_list e1, ?_⟩
        walk_at "go"
        refine ⟨rfl, ?_⟩
        walk_at "go"
        refine g_tupOf (SqL.of e2) fun t ht2 => ?_
        have s3 := same_new (o := .tup (rs.map V.ref)) ht2
        refine ⟨t, rs, st.2, rfl, upd_same, Tx.paired_same pq s3, by omega, Nat.le_trans (Pl.joinC_tot _) (by omega), fun H4 b s4 nb B4 => ?_⟩
        have S4 := s3.trans s4
        have e1 := S4 _ _ e1
        walk_at "go"
        refine g_append e1 (Nat.lt_of_le_of_lt (show xs.length ≤ 20000 by omega) (by decide)) ?_
        walk_at "go"
        refine g_tupOf (SqL.of upd_same) fun r hr => ?_
        refine qq _ r _ (((s1.trans S4).mut hpl).trans (same_new hr)) upd_same ?_
        rw [Pl.joinP, if_neg rne]
        exact (Paired.mapP px fun v c h => Pl.PcV.same (same_new hr) (Pl.PcV.upd e1 (Pl.PcV.same S4 h))).snoc ⟨b, rfl, (B4.upd e1).same (same_new hr)⟩
      · have re : st.2 = [] := by
          have h0 : ¬ ((rs.map V.ref).length : Int) > 0 := c
          rw [List.length_map, lr] at h0
          exact List.length_eq_zero_iff.mp (by omega)
        walk_at "go"
        refine g_tupOf (SqL.of e1) fun r hr => ?_
        refine qq _ r _ (s1.trans (same_new hr)) upd_same ?_
        rw [Pl.joinP, if_pos re, List.append_nil]
        exact Paired.mapP px fun v c h => Pl.PcV.same (same_new hr) h
-- text width parts part
theorem ok_plain_pieces (T : Txt K mg) : FnOk P w K mg base CX0 9 T.f_plain_pieces T.fd_plain_pieces ["text", "width"] (Pl.spPlain K T.C_Text) := by
  refine T.F_plain_pieces.ok sc_plain_pieces (fun vs H Q E h => ?_) (fun cdv A outer s H vs Q E hr h => ?_)
  · obtain ⟨a, cs, w, rfl, _⟩ := h
    rfl
  · obtain ⟨a, cs, w, rfl, A0, hl, w1, w2, q⟩ := h
    have hu := hu_of hr
    refine ⟨_, (pss_cons (ps_if (pt_not (pt_val (pe_callB (call_isiQ (K := K) rfl) (by rfl) T.m_isinstance (by decide +kernel) (pa_cons (pv 0) (pa_cons (pe_gc (by rfl) T.g_Text) pa_nil))))) (pss_one ps_never) pss_nil) (pss_cons (ps_if (pt_not (pt_val (pe_call (ok_is_width T) (hr.mono (by decide)) (by rfl) T.g_is_width T.F_is_width.kp T.b_is_width .nil pass0 (pa_cons (pv 1) pa_nil)))) (pss_one ps_never) pss_nil) (pss_cons (ps_if (pt_cmpR op_eq (pe_callB (call_lenO (FnOk.raw (ok_Text___len__ T) T.b_Text___len__ .nil) (hr.mono (by decide)) pass0 T.at_Text___len__ T.if_Text___len__) (by rfl) T.m_len PySem.boot_len (pa_cons (pv 0) pa_nil)) pe_int (nomark _)) (pss_one (ps_ret (pe_tup pa_nil))) pss_nil) (pss_cons (ps_set (i := 2) sc_plain_pieces.nd rfl (Or.inl rfl) (pe_meth0 (pv 0) T.c_Text ⟨T.at_Text_cut, T.if_Text_cut, T.F_Text_cut.kp⟩ (ok_Text_cut T) (hr.mono (by decide)) T.b_Text_cut .nil pass0)) (pss_one (ps_ret (pe_call (ok_pieces_of_parts T) (hr.mono (by decide)) (by rfl) T.g_pieces_of_parts T.F_pieces_of_parts.kp T.b_pieces_of_parts .nil pass0 (pa_cons (pv 2) (pa_cons (pe_lc (own := [("part", 3)]) (g := gName 3) (tt := tYes) (by rfl) sc_plain_pieces.nd (pi_tup (pv 2)) (blkOk_by (own := [("part", 3)]) (N := sN_plain_pieces) (sc := defScope s_plain_pieces) (by decide +kernel)) (fun _ _ _ _ _ => (pg_name (i := 3) sc_plain_pieces.nd rfl (Or.inl rfl))) (fun _ _ _ _ _ => pts_nil) (fun _ _ _ _ _ => (pe_call (ok__is_literal T) (hr.mono (by decide)) (by rfl) T.g__is_literal T.F__is_literal.kp T.b__is_literal .nil pass0 (pa_cons (pv 3) (pa_cons (pv 1) pa_nil))))) pa_nil))))))))), ?_⟩
    obtain ⟨dx, t, ha, ht⟩ := id A0
    walk_at "go"
    refine g_isi (.own _) (T.ty_Text _ _ _ _ ha) T.ks_Text ?_
    walk_at "go"
    refine iteF ?_
    walk_at "go"
    refine ⟨w, rfl, w1, w2, fun H1 s1 => ?_⟩
    walk_at "go"
    refine iteF ?_
    walk_at "go"
    refine Pl.lenO (A0.same s1) (by omega) ?_
    walk_at "go"
    refine g_ifd (fun c => ?_) (fun c => ?_)
    · have c0 : cs = [] := List.length_eq_zero_iff.mp (by have := V.int.inj c; omega)
      walk_at "go"
      refine ⟨Nat.zero_le _, fun p hp => ?_⟩
      refine q _ p [] (s1.trans (same_new hp)) upd_same ?_
      rw [Pl.piecesOf, if_pos c0]
      exact .nil
    · have c0 : ¬ cs = [] := fun e => c (by rw [e]; rfl)
      walk_at "go"
      refine Pl.methO (m := "cut") (A0.same s1) (by decide +kernel) ?_
      walk_at "go"
      refine ⟨a, cs, rfl, A0.same s1, by omega, fun H2 p ps s2 e2 pr => ?_⟩
      walk_at "go"
      have lp : ps.length = _ := pr.length
      have ct := Pl.cut_tot cs
      have cl := Pl.tot_len (Tx.cutC cs)
      refine ⟨p, rfl, ⟨_, SqT.of e2⟩, fun D hD => lc_pureTi (K := K) (xs := ps.map V.ref) (fun i => V.bl (Pl.litC w ((Tx.cutC cs).getD i []))) (SqT.of e2) hD (by rw [List.length_map, lp]; omega) (fun i x H5 N hx s5 kk => ?_) fun H5 s5 e5 => ?_⟩
      · rw [List.getElem?_map] at hx
        obtain ⟨b, eb, rfl⟩ : ∃ b, ps[i]? = some b ∧ x = V.ref b := by
          cases e : ps[i]? with
          | none => rw [e] at hx; cases hx
          | some b => rw [e] at hx; exact ⟨b, rfl, (Option.some.inj hx).symm⟩
        obtain ⟨row, er, B0⟩ := paired_at pr eb
        have eg : (Tx.cutC cs).getD i [] = row := by rw [List.getD_eq_getElem?_getD, er]; rfl
        rw [eg] at kk
        have rl := Pl.tot_mem row (List.mem_of_getElem? er)
        walk_at "go"
        refine ⟨rfl, ?_⟩
        walk_at "go"
        exact ⟨b, row, w, rfl, B0.same s5, by omega, kk⟩
      · rw [List.length_map, lp, Pl.lits_list] at e5
        walk_at "go"
        refine ⟨p, D, ps, Tx.cutC cs, Pl.litC w, rfl, s5 _ _ e2, Tx.paired_same pr s5, e5, fun r _ h => Pl.lit_plain h, by omega, by omega, fun H6 r xs s6 e6 px => ?_⟩
        refine q H6 r xs ((s1.trans s2).trans (s5.trans s6)) e6 ?_
        rw [Pl.piecesOf, if_neg c0]
        exact px
theorem kw_plain_pieces_width_text (T : Txt K mg) : KwB K T.fd_plain_pieces ["text", "width"] ["width", "text"] [1, 0] := T.F_plain_pieces.kwb (ps := ["text", "width"]) (ks := ["width", "text"]) rfl fun _ _ _ _ _ _ us hl => match us, hl with | [_, _], _ => rfl
theorem kn_plain_pieces_width (T : Txt K mg) : KBn K T.fd_plain_pieces ["text", "width"] 1 ["width"] (fun us ws => us ++ ws) (fun vs zs => vs ++ zs) := by
  obtain ⟨oc, od, kV, doc, pm, an, cdv, ct, osl, e, lk, hcd⟩ := T.F_plain_pieces.ex
  refine ⟨fun s us ws _ l1 l2 => ?_, fun r1 r2 => r1.append r2⟩
  match us, ws, l1, l2 with
  | [a], [b], _, _ => exact .of_eq (by rw [e]; rfl)
end
section
variable {w : World} {K : PySem.W.Frag} {mg : Str → Option Value} {base : Heap}
-- draw most some k
theorem ok__law_numbers (T : Txt K mg) : FnOk P w K mg base CX0 3 T.f__law_numbers T.fd__law_numbers ["draw", "most"] (Cd.spNumbers) := by
  refine T.F__law_numbers.ok sc__law_numbers (fun vs H Q E h => ?_) (fun cdv A outer s H vs Q E hr h => ?_)
  · obtain ⟨d, l, m, n, rfl, _⟩ := h
    rfl
  · obtain ⟨d, l, m, n, rfl, D0, hm, hn, q⟩ := h
    have hu := hu_of hr
    refine ⟨_, (pss_cons (ps_set (i := 2) sc__law_numbers.nd rfl (Or.inr rfl) (pe_lst (pa_cons pe_int (pa_cons pe_int (pa_cons pe_int (pa_cons pe_int (pa_cons pe_int (pa_cons pe_int (pa_cons pe_int (pa_cons pe_int (pa_cons pe_int (pa_cons pe_int (pa_cons pe_int (pa_cons pe_int (pa_cons pe_int (pa_cons pe_int (pa_cons pe_int (pa_cons pe_int (pa_cons pe_int (pa_cons pe_int (pa_cons pe_int (pa_cons pe_int (pa_cons pe_int (pa_cons pe_int (pa_cons pe_int (pa_cons pe_int pa_nil)))))))))))))))))))))))))) (pss_cons (ps_set (i := 2) sc__law_numbers.nd rfl (Or.inr rfl) (pe_op op_catS (pv 2) (pe_lst (pa_cons pe_int (pa_cons pe_int (pa_cons pe_int (pa_cons pe_int (pa_cons pe_int (pa_cons pe_int pa_nil))))))))) (pss_one (ps_ret (pe_lc (own := [("k", 3)]) (g := gName 3) (tt := tYes) (by rfl) sc__law_numbers.nd (pi_range1 (by rfl) T.m_range (pa_cons (pe_call (ok__law_next T) (hr.mono (by decide)) (by rfl) T.g__law_next T.F__law_next.kp T.b__law_next .nil pass0 (pa_cons (pv 0) (pa_cons (pe_op op_add (pv 1) pe_int) pa_nil))) pa_nil)) (blkOk_by (own := [("k", 3)]) (N := sN__law_numbers) (sc := defScope s__law_numbers) (by decide +kernel)) (fun _ _ _ _ _ => (pg_name (i := 3) sc__law_numbers.nd rfl (Or.inl rfl))) (fun _ _ _ _ _ => pts_nil) (fun _ _ _ _ _ => (pe_ix (ix_listKK (K := K) rfl) (pv 2) (pe_call (ok__law_next T) (hr.mono (by decide)) (by rfl) T.g__law_next T.F__law_next.kp T.b__law_next .nil pass0 (pa_cons (pv 0) (pa_cons pe_int pa_nil))) (fun _ _ => rfl)))))))), ?_⟩
    walk_at "go"
    refine ⟨by show 24 ≤ sizeLine; decide, fun p1 hp1 => ?_⟩
    walk_at "go"
    refine ⟨by show 6 ≤ sizeLine; decide, fun p2 hp2 => ?_⟩
    have s2 : Same H (upd (upd H p1 (.lst [V.int 97, V.int 98, V.int 32, V.int 32, V.int 122, V.int 65, V.int 48, V.int 32, V.int 97, V.int 34, V.int 92, V.int 61, V.int 63, V.int 95, V.int 44, V.int 60, V.int 62, V.int 40, V.int 41, V.int 59, V.int 64, V.int 58, V.int 126, V.int 45])) p2 (.lst [V.int 160, V.int 233, V.int 255, V.int 256, V.int 8364, V.int 65535])) := (same_new hp1).trans (same_new hp2)
    have f1 : (upd (upd H p1 (.lst [V.int 97, V.int 98, V.int 32, V.int 32, V.int 122, V.int 65, V.int 48, V.int 32, V.int 97, V.int 34, V.int 92, V.int 61, V.int 63, V.int 95, V.int 44, V.int 60, V.int 62, V.int 40, V.int 41, V.int 59, V.int 64, V.int 58, V.int 126, V.int 45])) p2 (.lst [V.int 160, V.int 233, V.int 255, V.int 256, V.int 8364, V.int 65535])) p1 = some (.lst [V.int 97, V.int 98, V.int 32, V.int 32, V.int 122, V.int 65, V.int 48, V.int 32, V.int 97, V.int 34, V.int 92, V.int 61, V.int 63, V.int 95, V.int 44, V.int 60, V.int 62, V.int 40, V.int 41, V.int 59, V.int 64, V.int 58, V.int 126, V.int 45]) := same_new hp2 _ _ upd_same
    have f2 : (upd (upd H p1 (.lst [V.int 97, V.int 98, V.int 32, V.int 32, V.int 122, V.int 65, V.int 48, V.int 32, V.int 97, V.int 34, V.int 92, V.int 61, V.int 63, V.int 95, V.int 44, V.int 60, V.int 62, V.int 40, V.int 41, V.int 59, V.int 64, V.int 58, V.int 126, V.int 45])) p2 (.lst [V.int 160, V.int 233, V.int 255, V.int 256, V.int 8364, V.int 65535])) p2 = some (.lst [V.int 160, V.int 233, V.int 255, V.int 256, V.int 8364, V.int 65535]) := upd_same
    generalize upd (upd H p1 (.lst [V.int 97, V.int 98, V.int 32, V.int 32, V.int 122, V.int 65, V.int 48, V.int 32, V.int 97, V.int 34, V.int 92, V.int 61, V.int 63, V.int 95, V.int 44, V.int 60, V.int 62, V.int 40, V.int 41, V.int 59, V.int 64, V.int 58, V.int 126, V.int 45])) p2 (.lst [V.int 160, V.int 233, V.int 255, V.int 256, V.int 8364, V.int 65535]) = H2 at s2 f1 f2 ⊢
    refine g_cats (SqL.of f1) (SqL.of f2) (by show 24 + 6 ≤ sizeLine; decide) fun p3 hp3 => ?_
    have s3 := s2.trans (same_new (o := .lst ([V.int 97, V.int 98, V.int 32, V.int 32, V.int 122, V.int 65, V.int 48, V.int 32, V.int 97, V.int 34, V.int 92, V.int 61, V.int 63, V.int 95, V.int 44, V.int 60, V.int 62, V.int 40, V.int 41, V.int 59, V.int 64, V.int 58, V.int 126, V.int 45] ++ [V.int 160, V.int 233, V.int 255, V.int 256, V.int 8364, V.int 65535])) hp3)
    have e3 : (upd H2 p3 (.lst ([V.int 97, V.int 98, V.int 32, V.int 32, V.int 122, V.int 65, V.int 48, V.int 32, V.int 97, V.int 34, V.int 92, V.int 61, V.int 63, V.int 95, V.int 44, V.int 60, V.int 62, V.int 40, V.int 41, V.int 59, V.int 64, V.int 58, V.int 126, V.int 45] ++ [V.int 160, V.int 233, V.int 255, V.int 256, V.int 8364, V.int 65535]))) p3 = some (.lst (Cd.SOMES.map Tx.iv)) := upd_same
    have D3 := D0.same s3
    generalize upd H2 p3 (.lst ([V.int 97, V.int 98, V.int 32, V.int 32, V.int 122, V.int 65, V.int 48, V.int 32, V.int 97, V.int 34, V.int 92, V.int 61, V.int 63, V.int 95, V.int 44, V.int 60, V.int 62, V.int 40, V.int 41, V.int 59, V.int 64, V.int 58, V.int 126, V.int 45] ++ [V.int 160, V.int 233, V.int 255, V.int 256, V.int 8364, V.int 65535])) = H3 at s3 e3 D3 ⊢
    walk_at "go"
    refine ⟨d, l, m, _, rfl, D3, by omega, by omega, by omega, fun r H4 r0 r1 D4 K4 f4 => ?_⟩
    walk_at "go"
    have n3 : p3 ≠ d := by
      obtain ⟨ns, u1, u2, u3, e, _⟩ := id D3
      exact ne_of e3 e (by intro z; cases z)
    refine ⟨r, rfl, by omega, by omega, fun D hD => lc_it walk_range (fun i H5 => ∃ cs : List Nat, cs.length = i ∧ (∀ c ∈ cs, Cd.isC c = true) ∧ H5 D = some (.lst (cs.map Tx.iv)) ∧ Dr.Draw H5 d l (m + 1 + i) ∧ Dr.Kp d H4 H5) ⟨[], rfl, fun c h => (nomatch h), upd_same, D4.upd hD, Dr.Kp.new hD⟩ (fun _ _ _ _ => trivial) (fun i x H5 H6 hi pv y => ?_) fun H5 pv => ?_⟩
    · obtain ⟨rfl, rfl⟩ := y
      obtain ⟨cs, hl, hc, ec, D5, K5⟩ := pv
      walk_at "go"
      refine ⟨rfl, ?_⟩
      walk_at "go"
      refine ⟨d, l, _, 30, rfl, D5, by omega, by omega, by omega, fun v H7 v0 v1 D7 K7 f7 => ?_⟩
      obtain ⟨c, hcm, hat⟩ := Cd.pick v0 v1
      refine g_ixl (SqL.of (K7 _ _ n3 (K5 _ _ n3 (K4 _ _ n3 e3)))) hat ?_
      refine ⟨_, K7 _ _ (D4.ne hD) ec, ?_, cs ++ [c], ?_, ?_, ?_, ?_, ?_⟩
      · rw [List.length_map, hl]
        exact Nat.lt_of_lt_of_le hi (Nat.le_trans (show r.toNat ≤ 100 by omega) (by decide))
      · rw [List.length_append, hl]
        rfl
      · intro x hx
        rcases List.mem_append.mp hx with h | h
        · exact hc x h
        · rw [List.mem_singleton.mp h]
          exact Cd.somes_ok c hcm
      · rw [upd_same, List.map_append]
        rfl
      · exact D7.mut (D4.ne hD) (D4.nel hD)
      · exact (K5.trans K7).mut hD
    · obtain ⟨cs, hl, hc, ec, D5, K5⟩ := pv
      exact q cs D H5 (by omega) hc ec (D5.mono (by omega)) ((Tx.kp_of_same s3).trans (K4.trans K5))
-- some
theorem ok__law_marks (T : Txt K mg) : FnOk P w K mg base CX0 1 T.f__law_marks T.fd__law_marks [] (Pl.spMarksL) := by
  refine T.F__law_marks.ok sc__law_marks (fun vs H Q E h => ?_) (fun cdv A outer s H vs Q E hr h => ?_)
  · obtain ⟨rfl, _⟩ := h
    rfl
  · obtain ⟨rfl, q⟩ := h
    have hu := hu_of hr
    refine ⟨_, (pss_cons (ps_set (i := 0) sc__law_marks.nd rfl (Or.inl rfl) pe_str) (pss_one (ps_ret (pv 0)))), ?_⟩
    walk_at "go"
    exact q
-- number
theorem ok__law_sign (T : Txt K mg) : FnOk P w K mg base CX0 2 T.f__law_sign T.fd__law_sign ["number"] (Pl.spSignL) := by
  refine T.F__law_sign.ok sc__law_sign (fun vs H Q E h => ?_) (fun cdv A outer s H vs Q E hr h => ?_)
  · obtain ⟨c, rfl, _⟩ := h
    rfl
  · obtain ⟨c, rfl, hp, q⟩ := h
    have hu := hu_of hr
    refine ⟨_, (pss_one (ps_ret (pe_ix ix_str (pe_call0 (ok__law_marks T) (hr.mono (by decide)) (by rfl) T.g__law_marks T.F__law_marks.kp T.b__law_marks .nil pass0) (pe_op op_sub (pe_op op_sub (pv 0) pe_int) (pe_callTy call_intB (by rfl) T.m_int (by decide +kernel) (pa_cons (pe_cmpR op_gt (pv 0) pe_int (nomark _)) pa_nil))) (fun _ _ => rfl)))), ?_⟩
    walk_at "go"
    refine ⟨rfl, ?_⟩
    walk_at "go"
    refine g_intB ?_
    walk_at "go"
    refine g_ixz (c := c) (by decide +kernel) (Pl.sign_at hp) ?_
    exact q
-- draw
theorem ok__law_width (T : Txt K mg) : FnOk P w K mg base CX0 3 T.f__law_width T.fd__law_width ["draw"] (Pl.spWidthL) := by
  refine T.F__law_width.ok sc__law_width (fun vs H Q E h => ?_) (fun cdv A outer s H vs Q E hr h => ?_)
  · obtain ⟨d, l, m, rfl, _⟩ := h
    rfl
  · obtain ⟨d, l, m, rfl, D0, hm, q⟩ := h
    have hu := hu_of hr
    refine ⟨_, (pss_one (ps_ret (pe_ix (ix_listKK (K := K) rfl) (pe_lst (pa_cons pe_int (pa_cons pe_int (pa_cons pe_int (pa_cons pe_int (pa_cons pe_int (pa_cons pe_int (pa_cons pe_int (pa_cons pe_int (pa_cons pe_int (pa_cons pe_int (pa_cons pe_int (pa_cons pe_int pa_nil))))))))))))) (pe_call (ok__law_next T) (hr.mono (by decide)) (by rfl) T.g__law_next T.F__law_next.kp T.b__law_next .nil pass0 (pa_cons (pv 0) (pa_cons pe_int pa_nil))) (fun _ _ => rfl)))), ?_⟩
    walk_at "go"
    refine ⟨by show 12 ≤ sizeLine; decide, fun p hp => ?_⟩
    walk_at "go"
    refine ⟨d, l, m, 12, rfl, D0.upd hp, by omega, by omega, by omega, fun r H1 r0 r1 D1 K1 f1 => ?_⟩
    refine g_pickP (pr := fun v => ∃ w : Int, v = .int w ∧ 50 ≤ w ∧ w ≤ 200) (K1 _ _ (D0.ne hp) upd_same) r0 r1 (by simp) fun v hv => ?_
    obtain ⟨w, rfl, w1, w2⟩ := hv
    exact q w H1 w1 w2 D1 ((Dr.Kp.new hp).trans K1)
-- numbers found number
theorem ok__law_parts (T : Txt K mg) : FnOk P w K mg base CX0 1 T.f__law_parts T.fd__law_parts ["numbers"] (Pl.spParts) := by
  refine T.F__law_parts.ok sc__law_parts (fun vs H Q E h => ?_) (fun cdv A outer s H vs Q E hr h => ?_)
  · obtain ⟨a, cs, rfl, _⟩ := h
    rfl
  · obtain ⟨a, cs, rfl, ha, hz, q⟩ := h
    have hu := hu_of hr
    refine ⟨_, (pss_cons (ps_set (i := 1) sc__law_parts.nd rfl (Or.inl rfl) (pe_lst (pa_cons (pe_lst pa_nil) pa_nil))) (pss_cons (ps_for PassesOwn.never (by rfl) (pi_list (pv 0)) (pg_name (i := 2) sc__law_parts.nd rfl (Or.inl rfl)) (pss_one (ps_if (pt_cmpR op_eq (pv 2) pe_int (nomark _)) (pss_one (ps_expr (pe_bm PySem.F.plainAttrs_list PySem.F.slot_list_append PySem.F.type_list_append mt_append (pv 1) (pa_cons (pe_lst pa_nil) pa_nil)))) (pss_one (ps_asg (pe_op op_catS (pe_ix (ix_listKK (K := K) rfl) (pv 1) (pe_un un_neg pe_int) (fun _ _ => rfl)) (pe_lst (pa_cons (pv 2) pa_nil))) (pg_sub (pv 1) (pe_un un_neg pe_int) set_list)))))) (pss_one (ps_ret (pv 1))))), ?_⟩
    walk_at "go"
    refine ⟨Nat.zero_le _, fun r0 hr0 => ?_⟩
    walk_at "go"
    refine ⟨by show 1 ≤ sizeLine; decide, fun fl hfl => ?_⟩
    have s0 := (same_new (o := .lst []) hr0).trans (same_new (o := .lst [V.ref r0]) hfl)
    have nr : r0 ≠ fl := ne_of_none upd_same hfl
    have e0 : (upd (upd H r0 (.lst [])) fl (.lst [V.ref r0])) fl = some (.lst [V.ref r0]) := upd_same
    have e1 : (upd (upd H r0 (.lst [])) fl (.lst [V.ref r0])) r0 = some (.lst []) := by rw [upd_ne nr]; exact upd_same
    have nfl : H fl = none := (same_new (o := .lst []) hr0).free hfl
    generalize upd (upd H r0 (.lst [])) fl (.lst [V.ref r0]) = H0 at s0 e0 e1 ⊢
    walk_at "go"
    refine ⟨a, rfl, ⟨_, SqL.of (s0 _ _ ha)⟩, for_list (K := K) (a := a) (xs := cs.map Tx.iv) (fun i σ H1 => ∃ (ps : List Addr) (r : Addr) (y : Option V), σ = [some (.ref a), some (.ref fl), y] ∧ Same H H1 ∧ H1 fl = some (.lst (ps.map V.ref ++ [V.ref r])) ∧ Paired (Pl.LRow H H1 fl) ps (Tx.cfold (cs.take i)).1 ∧ Pl.LRow H H1 fl r (Tx.cfold (cs.take i)).2) ⟨[], r0, none, rfl, s0, e0, .nil, e1, nr, hr0⟩ (fun i σ H1 _ h => by obtain ⟨ps, r, y, _, s1, _⟩ := h; exact SqL.of (s1 _ _ ha)) ?_ ?_⟩
    · rintro i x σ H1 hx ⟨ps, r, y, rfl, s1, f1, pr, lr⟩
      obtain ⟨c, ec, rfl⟩ : ∃ c, cs[i]? = some c ∧ x = Tx.iv c := by
        rw [List.getElem?_map] at hx
        cases e : cs[i]? with
        | none => rw [e] at hx; cases hx
        | some c => rw [e] at hx; exact ⟨c, rfl, (Option.some.inj hx).symm⟩
      have il : i < cs.length := (List.getElem?_eq_some_iff.mp ec).1
      have kf := Pl.cfold_facts cs i (by omega)
      have kl := Pl.tot_len (Tx.cfold (cs.take i)).1
      have lp : ps.length = _ := pr.length
      rw [Tx.cfold_snoc ec]
      unfold Tx.cstep
      walk_at "go"
      refine g_ifd (fun h => ?_) (fun h => ?_)
      · have hc : c = 32 := by have := V.int.inj h; omega
        rw [if_pos hc]
        walk_at "go"
        refine ⟨ty_list f1, ?_⟩
        walk_at "go"
        refine ⟨Nat.zero_le _, fun p hp => ?_⟩
        walk_at "go"
        have sp := same_new (o := .lst []) hp
        have f2 := sp _ _ f1
        have np : p ≠ fl := (ne_of_none f1 hp).symm
        refine g_append f2 (Nat.lt_of_le_of_lt (show (ps.map V.ref ++ [V.ref r]).length ≤ 10000 by rw [List.length_append, List.length_map]; exact (show ps.length + 1 ≤ 10000 by omega)) (by decide)) ?_
        walk_at "go"
        refine ⟨ps ++ [r], p, _, rfl, (s1.trans sp).mut nfl, ?_, ?_, ⟨by rw [upd_ne np]; exact upd_same, np, s1.free hp⟩⟩
        · rw [upd_same, List.map_append]
          rfl
        · exact (Paired.mapP pr fun x row h => (h.same sp).upd).snoc (lr.same sp).upd
      · have hc : ¬ c = 32 := fun e => h (by rw [e]; rfl)
        rw [if_neg hc]
        walk_at "go"
        refine g_ixl (v := V.ref r) (SqL.of f1) (atI_last _ _) ?_
        walk_at "go"
        refine ⟨by show 1 ≤ sizeLine; decide, fun p hp => ?_⟩
        have sp := same_new (o := .lst [Tx.iv c]) hp
        refine g_cats (SqL.of (sp _ _ lr.1)) (SqL.of upd_same) (by rw [List.length_map]; exact Nat.le_trans (show (Tx.cfold (cs.take i)).2.length + 1 ≤ 10000 by omega) (by decide)) fun p2 hp2 => ?_
        have sq := sp.trans (same_new (o := .lst ((Tx.cfold (cs.take i)).2.map Tx.iv ++ [Tx.iv c])) hp2)
        have f2 := sq _ _ f1
        have n2 : p2 ≠ fl := (ne_of_none (sp _ _ f1) hp2).symm
        have e2 : (upd (upd H1 p (.lst [Tx.iv c])) p2 (.lst ((Tx.cfold (cs.take i)).2.map Tx.iv ++ [Tx.iv c]))) p2 = some (.lst (((Tx.cfold (cs.take i)).2 ++ [c]).map Tx.iv)) := by
          rw [upd_same, List.map_append]
          rfl
        generalize upd (upd H1 p (.lst [Tx.iv c])) p2 (.lst ((Tx.cfold (cs.take i)).2.map Tx.iv ++ [Tx.iv c])) = H2 at sq f2 e2 ⊢
        walk_at "go"
        refine ⟨fl, _, -1, (ps.map V.ref).length, rfl, rfl, f2, by rw [List.length_append]; exact ixN_last _, ?_⟩
        rw [set_last]
        refine ⟨ps, p2, _, rfl, (s1.trans sq).mut nfl, upd_same, ?_, ⟨by rw [upd_ne n2]; exact e2, n2, (s1.trans sp).free hp2⟩⟩
        exact Paired.mapP pr fun x row h => (h.same sq).upd
    · rintro σ H1 ⟨ps, r, y, rfl, s1, f1, pr, lr⟩
      rw [List.length_map, List.take_of_length_le (Nat.le_refl _)] at pr lr
      walk_at "go"
      exact q H1 fl (ps ++ [r]) s1 nfl (by rw [f1, List.map_append]; rfl) (pr.snoc lr)
-- part wide signs number
theorem ok__law_literal (T : Txt K mg) : FnOk P w K mg base CX0 3 T.f__law_literal T.fd__law_literal ["part", "wide"] (Pl.spLitL) := by
  refine T.F__law_literal.ok sc__law_literal (fun vs H Q E h => ?_) (fun cdv A outer s H vs Q E hr h => ?_)
  · obtain ⟨a, cs, w, rfl, _⟩ := h
    rfl
  · obtain ⟨a, cs, w, rfl, ha, hz, hc, h32, q⟩ := h
    have hu := hu_of hr
    refine ⟨_, (pss_cons (ps_if (PW.pt (pw_or (pt_cmpR (op_eqD hr.units) (pv 0) (pe_lst pa_nil) (nomark _)) (pw_or (pt_cmpR op_ge (pe_callB call_len1 (by rfl) T.m_len PySem.boot_len (pa_cons (pv 0) pa_nil)) (pv 1) (nomark _)) (pw_or1 (pt_cmpR (op_neD hr.units) (pe_lc (own := [("number", 3)]) (g := gName 3) (by rfl) sc__law_literal.nd (pi_list (pv 0)) (blkOk_by (own := [("number", 3)]) (N := sN__law_literal) (sc := defScope s__law_literal) (by decide +kernel)) (fun _ _ _ _ _ => (pg_name (i := 3) sc__law_literal.nd rfl (Or.inl rfl))) (fun _ _ _ _ _ => pts_one (pt_cmpR op_gt (pv 3) pe_int (nomark _))) (fun _ _ _ _ _ => (pv 3))) (pe_lst pa_nil) (nomark _)))))) (pss_one (ps_ret pe_str)) pss_nil) (pss_cons (ps_set (i := 2) sc__law_literal.nd rfl (Or.inl rfl) (pe_m1 PySem.F.slot_str_join PySem.F.type_str_join mt_joinV pe_str (pe_lc (own := [("number", 3)]) (g := gName 3) (tt := tYes) (by rfl) sc__law_literal.nd (pi_list (pv 0)) (blkOk_by (own := [("number", 3)]) (N := sN__law_literal) (sc := defScope s__law_literal) (by decide +kernel)) (fun _ _ _ _ _ => (pg_name (i := 3) sc__law_literal.nd rfl (Or.inl rfl))) (fun _ _ _ _ _ => pts_nil) (fun _ _ _ _ _ => (pe_call (ok__law_sign T) (hr.mono (by decide)) (by rfl) T.g__law_sign T.F__law_sign.kp T.b__law_sign .nil pass0 (pa_cons (pv 3) pa_nil)))))) (pss_one (ps_ret (pe_ifExp (PW.pt (pw_and (pt_cmpR op_gt (pe_callB call_lenZ (by rfl) T.m_len PySem.boot_len (pa_cons (pv 2) pa_nil)) pe_int (nomark _)) (pw_and (pt_cmpR op_eq (pe_slice sl_str (pv 2) po_none (po_some pe_int)) pe_str (nomark _)) (pw_and1 (pt_cmpR op_eq (pe_slice sl_str (pv 2) (po_some (pe_un un_neg pe_int)) po_none) pe_str (nomark _)))))) pe_str (pv 2)))))), ?_⟩
    have qe : Pl.litC w cs = false → ∀ H1, Same H H1 → Q (.str "") H1 := fun e H1 s1 => by
      have := q H1 s1
      rwa [e] at this
    have qt : Pl.litC w cs = true → ∀ H1, Same H H1 → Q (.str (Cd.zs cs)) H1 := fun e H1 s1 => by
      have := q H1 s1
      rwa [e] at this
    walk_at "go"
    refine ⟨Nat.zero_le _, fun p hp => ?_⟩
    have s1 := same_new (o := .lst []) hp
    refine g_eqd (.lst (SqL.of (s1 _ _ ha)) (Tx.dps _)) (.lst (SqL.of upd_same) .nil) (Cd.shaped_L _) (Cd.shaped_L []) ?_
    rw [Cd.eqv_lnil]
    generalize upd H p (.lst []) = H1 at s1 ⊢
    refine g_bl (g_ifd (fun c1 => ?_) (fun c1 => ?_))
    · walk_at "go"
      refine qe ?_ _ s1
      subst c1
      rfl
    · have cp : 0 < cs.length := List.length_pos_iff.mpr c1
      walk_at "go"
      refine g_len (SqL.of (s1 _ _ ha)) ?_
      rw [List.length_map]
      walk_at "go"
      refine g_ifd (fun c2 => ?_) (fun c2 => ?_)
      · walk_at "go"
        refine qe ?_ _ s1
        unfold Pl.litC
        rw [decide_eq_false (show ¬ (cs.length : Int) < w by have : (cs.length : Int) ≥ w := c2; omega), Bool.and_false, Bool.false_and]
      · have lw : (cs.length : Int) < w := by
          have : ¬ (cs.length : Int) ≥ w := c2
          omega
        walk_at "go"
        refine ⟨a, rfl, ⟨_, SqL.of (s1 _ _ ha)⟩, fun D hD => lc_filtL (K := K) (xs := cs.map Tx.iv) Pl.big6 (SqL.of (s1 _ _ ha)) hD (by rw [List.length_map]; omega) (fun x H5 Nt Mt hx s5 kt kf => ?_) fun H5 s5 e5 => ?_⟩
        · obtain ⟨c, hcm, rfl⟩ := List.mem_map.mp hx
          walk_at "go"
          refine ⟨rfl, ?_⟩
          walk_at "go"
          refine g_ifd (fun h => ?_) (fun h => ?_)
          · walk_at "go"
            exact kt (decide_eq_true h)
          · exact kf (decide_eq_false h)
        · rw [Pl.big6_iv] at e5
          walk_at "go"
          refine ⟨Nat.zero_le _, fun p6 hp6 => ?_⟩
          have s6 := same_new (o := .lst []) hp6
          refine g_ned (.lst (SqL.of (s6 _ _ e5)) (Tx.dps _)) (.lst (SqL.of upd_same) .nil) (Cd.shaped_L _) (Cd.shaped_L []) ?_
          rw [Cd.eqv_lnil]
          have S6 := s1.trans (s5.trans s6)
          have h6 := S6 _ _ ha
          generalize upd H5 p6 (.lst []) = H6 at S6 h6 ⊢
          refine g_bl (g_ifn (fun c3 => ?_) (fun c3 => ?_))
          · walk_at "go"
            refine qe ?_ _ S6
            unfold Pl.litC
            rw [show cs.all Tx.plainC = false from Bool.eq_false_iff.mpr fun h => c3 ((Pl.low_plain hc).mpr h), Bool.false_and, Bool.and_false]
          · have ap := (Pl.low_plain hc).mp c3
            have hpl : ∀ c ∈ cs, Tx.plainC c = true := fun c hm => List.all_eq_true.mp ap c hm
            walk_at "go"
            refine ⟨a, rfl, ⟨_, SqL.of h6⟩, fun D2 hD2 => lc_pureL (K := K) (xs := cs.map Tx.iv) Tx.oneV (SqL.of h6) hD2 (by rw [List.length_map]; omega) (fun x H7 N hx s7 kk => ?_) fun H7 s7 e7 => ?_⟩
            · obtain ⟨c, hcm, rfl⟩ := List.mem_map.mp hx
              walk_at "go"
              refine ⟨rfl, ?_⟩
              walk_at "go"
              exact ⟨c, rfl, hpl c hcm, kk H7 (Same.refl _)⟩
            · rw [Tx.map_oneV] at e7
              walk_at "go"
              refine g_join (SqL.of e7) (Nat.le_trans (Nat.add_le_add (Cd.sum_len1 _ (b := 1) fun l hl => by obtain ⟨d, _, rfl⟩ := List.mem_map.mp hl; exact Nat.le_refl 1) (Nat.le_refl _)) (by rw [List.length_map, List.length_map]; exact Nat.le_trans (show cs.length * 1 + cs.length * 0 ≤ 10000 by omega) (by decide))) ?_
              rw [Cd.zs_join, Tx.flat_self]
              have S7 := S6.trans s7
              have zl : (Cd.zs cs).length ≤ sizeLine := by rw [Cd.zs_len]; exact Nat.le_trans (show cs.length ≤ 2000 from hz) (by decide)
              have base : Pl.litC w cs = !Pl.shapeL cs := by
                unfold Pl.litC
                rw [decide_eq_true (show 0 < (cs.length : Int) by omega), decide_eq_true lw, ap, Bool.true_and, Bool.true_and]
                rfl
              have sh : Pl.shapeL cs = (decide (4 ≤ cs.length) && (decide (cs.take 2 = [61, 63]) && decide (cs.drop (cs.length - 2) = [63, 61]))) := by
                unfold Pl.shapeL
                rw [decide_eq_false h32]
                rfl
              have e1 : ("=?" : Str) = Cd.zs [61, 63] := by decide +kernel
              have e2 : ("?=" : Str) = Cd.zs [63, 61] := by decide +kernel
              walk_at "go"
              refine g_lenz zl ?_
              rw [Cd.zs_len]
              walk_at "go"
              refine g_ifd (fun d1 => ?_) (fun d1 => ?_)
              · have l4 : 4 ≤ cs.length := by
                  have : (cs.length : Int) > 3 := d1
                  omega
                rw [decide_eq_true l4, Bool.true_and] at sh
                walk_at "go"
                refine g_slz zl ?_
                rw [show cutS (Cd.zs cs) none (some 2) = Cd.zs (cs.take 2) from Pl.cut_first cs 2, e1]
                walk_at "go"
                refine g_ifd (fun d2 => ?_) (fun d2 => ?_)
                · rw [decide_eq_true (Cd.zs_inj (V.str.inj d2)), Bool.true_and] at sh
                  walk_at "go"
                  refine g_slz zl ?_
                  rw [show cutS (Cd.zs cs) (some (-2)) none = _ from Pl.cut_last2 l4, e2]
                  walk_at "go"
                  refine g_ifd (fun d3 => ?_) (fun d3 => ?_)
                  · rw [decide_eq_true (Cd.zs_inj (V.str.inj d3))] at sh
                    walk_at "go"
                    exact qe (by rw [base, sh]; rfl) _ S7
                  · rw [decide_eq_false (fun e => d3 (by rw [e]))] at sh
                    walk_at "go"
                    exact qt (by rw [base, sh]; rfl) _ S7
                · rw [decide_eq_false (fun e => d2 (by rw [e])), Bool.false_and] at sh
                  walk_at "go"
                  exact qt (by rw [base, sh]; rfl) _ S7
              · have l4 : ¬ 4 ≤ cs.length := fun h => d1 (show (cs.length : Int) > 3 by omega)
                rw [decide_eq_false l4, Bool.false_and] at sh
                walk_at "go"
                exact qt (by rw [base, sh]; rfl) _ S7
end
section
variable {w : World} {K : PySem.W.Frag} {mg : Str → Option Value} {base : Heap}
-- numbers wide found part signs
theorem ok__law_pieces_due (T : Txt K mg) : FnOk P w K mg base CX0 4 T.f__law_pieces_due T.fd__law_pieces_due ["numbers", "wide"] (Pl.spDue K) := by
  refine T.F__law_pieces_due.ok sc__law_pieces_due (fun vs H Q E h => ?_) (fun cdv A outer s H vs Q E hr h => ?_)
  · obtain ⟨a, cs, w, rfl, _⟩ := h
    rfl
  · obtain ⟨a, cs, w, rfl, ha, hz, hc, q⟩ := h
    have hu := hu_of hr
    refine ⟨_, (pss_cons (ps_set (i := 2) sc__law_pieces_due.nd rfl (Or.inl rfl) (pe_lst pa_nil)) (pss_cons (ps_for PassesOwn.never (by rfl) (pi_list (pe_ifExp (pt_cmpR (op_neD hr.units) (pv 0) (pe_lst pa_nil) (nomark _)) (pe_call (ok__law_parts T) (hr.mono (by decide)) (by rfl) T.g__law_parts T.F__law_parts.kp T.b__law_parts .nil pass0 (pa_cons (pv 0) pa_nil)) (pe_lst pa_nil))) (pg_name (i := 3) sc__law_pieces_due.nd rfl (Or.inl rfl)) (pss_cons (ps_set (i := 4) sc__law_pieces_due.nd rfl (Or.inl rfl) (pe_call (ok__law_literal T) (hr.mono (by decide)) (by rfl) T.g__law_literal T.F__law_literal.kp T.b__law_literal .nil pass0 (pa_cons (pv 3) (pa_cons (pv 1) pa_nil)))) (pss_one (ps_if (pt_cmpR op_ne (pv 4) pe_str (nomark _)) (pss_one (ps_expr (pe_bm PySem.F.plainAttrs_list PySem.F.slot_list_append PySem.F.type_list_append mt_append (pv 2) (pa_cons (pv 4) pa_nil)))) (pss_one (ps_if (PW.pt (pw_and (pt_cmpR (op_neD hr.units) (pv 2) (pe_lst pa_nil) (nomark _)) (pw_and1 (pt_val (pe_callB (call_isiQ (K := K) rfl) (by rfl) T.m_isinstance (by decide +kernel) (pa_cons (pe_ix (ix_listKK (K := K) rfl) (pv 2) (pe_un un_neg pe_int) (fun _ _ => rfl)) (pa_cons (pe_ty (n := "list") (by rfl) T.m_list (by decide +kernel)) pa_nil))))))) (pss_one (ps_asg (pe_op op_catS (pe_op op_catS (pe_ix (ix_listKK (K := K) rfl) (pv 2) (pe_un un_neg pe_int) (fun _ _ => rfl)) (pe_lst (pa_cons pe_int pa_nil))) (pv 3)) (pg_sub (pv 2) (pe_un un_neg pe_int) set_list))) (pss_one (ps_expr (pe_bm PySem.F.plainAttrs_list PySem.F.slot_list_append PySem.F.type_list_append mt_append (pv 2) (pa_cons (pv 3) pa_nil)))))))))) (pss_one (ps_ret (pv 2))))), ?_⟩
    walk_at "go"
    refine ⟨Nat.zero_le _, fun fl hfl => ?_⟩
    have s0 := same_new (o := .lst []) hfl
    have f0 : (upd H fl (.lst [])) fl = some (.lst []) := upd_same
    generalize upd H fl (.lst []) = H0 at s0 f0 ⊢
    walk_at "go"
    refine ⟨Nat.zero_le _, fun p hp => ?_⟩
    have s1 := same_new (o := .lst []) hp
    refine g_ned (.lst (SqL.of (s1 _ _ (s0 _ _ ha))) (Tx.dps _)) (.lst (SqL.of upd_same) .nil) (Cd.shaped_L _) (Cd.shaped_L []) ?_
    rw [Cd.eqv_lnil]
    have S1 := s0.trans s1
    have f1 := s1 _ _ f0
    generalize upd H0 p (.lst []) = H1 at S1 f1 ⊢
    refine g_bl (g_ifn (fun c1 => ?_) (fun c1 => ?_))
    · walk_at "go"
      refine ⟨a, cs, rfl, S1 _ _ ha, by omega, fun H2 pl ps s2 npl e2 pr => ?_⟩
      have S2 := S1.trans s2
      have f2 := s2 _ _ f1
      have npf : pl ≠ fl := (ne_of_none f1 npl).symm
      have lp : ps.length = _ := pr.length
      have ct := Pl.cut_tot cs
      have cl := Pl.tot_len (Tx.cutC cs)
      walk_at "go"
      refine ⟨pl, rfl, ⟨_, SqL.of e2⟩, for_list (K := K) (a := pl) (xs := ps.map V.ref) (fun i σ H3 => ∃ (xs : List V) (y z : Option V), σ = [some (.ref a), some (.int w), some (.ref fl), y, z] ∧ Same H H3 ∧ (∀ p o, p ≠ fl → H2 p = some o → H3 p = some o) ∧ H3 fl = some (.lst xs) ∧ Paired (Pl.DueV H3 fl) xs (((Tx.cutC cs).take i).foldl (Pl.dstep (Pl.litC w)) [])) ⟨[], none, none, rfl, S2, fun _ _ _ h => h, f2, .nil⟩ (fun i σ H3 _ h => by obtain ⟨xs, y, z, _, _, k3, _⟩ := h; exact SqL.of (k3 _ _ npf e2)) ?_ ?_⟩
      · rintro i x σ H3 hx ⟨xs, y, z, rfl, s3, k3, f3, px⟩
        rw [List.getElem?_map] at hx
        obtain ⟨b, eb, rfl⟩ : ∃ b, ps[i]? = some b ∧ x = V.ref b := by
          cases e : ps[i]? with
          | none => rw [e] at hx; cases hx
          | some b => rw [e] at hx; exact ⟨b, rfl, (Option.some.inj hx).symm⟩
        obtain ⟨row, er, B0, nb, fb⟩ := paired_at pr eb
        have nbf : b ≠ fl := (ne_of_none f1 fb).symm
        have B3 := k3 _ _ nbf B0
        have rm : row ∈ Tx.cutC cs := List.mem_of_getElem? er
        have rl := Pl.tot_mem row rm
        obtain ⟨dok, dle⟩ := Pl.dfold_ok w (Tx.cutC cs) i
        have dtx := Pl.dfold_txt w (Tx.cutC cs) i
        have il : i < (Tx.cutC cs).length := (List.getElem?_eq_some_iff.mp er).1
        have fe : ((Tx.cutC cs).take (i + 1)).foldl (Pl.dstep (Pl.litC w)) [] = Pl.dstep (Pl.litC w) (((Tx.cutC cs).take i).foldl (Pl.dstep (Pl.litC w)) []) row := by rw [List.take_add_one, er, List.foldl_append]; rfl
        rw [fe]
        generalize ((Tx.cutC cs).take i).foldl (Pl.dstep (Pl.litC w)) [] = acc at px dok dle dtx ⊢
        have lx : xs.length = _ := px.length
        walk_at "go"
        refine ⟨b, row, w, rfl, B3, by omega, fun c hm => hc c (Pl.cut_mem cs row rm c hm), Pl.cut_no32 cs row rm, fun H4 s4 => ?_⟩
        have S4 := s3.trans s4
        have k4 : ∀ p o, p ≠ fl → H2 p = some o → H4 p = some o := fun p o n h => s4 _ _ (k3 p o n h)
        have f4 := s4 _ _ f3
        have B4 := s4 _ _ B3
        have px4 := Paired.mapP px fun v c h => Pl.DueV.same s4 h
        walk_at "go"
        by_cases hlit : Pl.litC w row = true
        · rw [if_pos hlit, Pl.dstep_lit hlit]
          have rne : ¬ V.str (Cd.zs row) = V.str "" := Pl.lit_ne hlit
          refine g_ifn (fun _ => ?_) (fun h => absurd h rne)
          walk_at "go"
          refine ⟨ty_list f4, ?_⟩
          walk_at "go"
          refine g_append f4 (Nat.lt_of_le_of_lt (show xs.length ≤ 10000 by omega) (by decide)) ?_
          walk_at "go"
          exact ⟨xs ++ [.str (Cd.zs row)], _, _, rfl, S4.mut hfl, fun p o n h => by rw [upd_ne n]; exact k4 p o n h, upd_same, (Paired.mapP px4 fun v c h => Pl.DueV.upd h).snoc (show Pl.DueV _ fl (.str (Cd.zs row)) (.lit row) from rfl)⟩
        · rw [if_neg hlit]
          refine g_ifn (fun h => absurd rfl h) (fun _ => ?_)
          walk_at "go"
          refine ⟨Nat.zero_le _, fun p5 hp5 => ?_⟩
          have s5 := same_new (o := .lst []) hp5
          refine g_ned (.lst (SqL.of (s5 _ _ f4)) (Pl.dps_due (Paired.mapP px4 fun v c h => Pl.DueV.same s5 h))) (.lst (SqL.of upd_same) .nil) (Pl.shaped_due dok) (Cd.shaped_L []) ?_
          rw [Pl.eqv_due]
          have S5 := S4.trans s5
          have k5 : ∀ p o, p ≠ fl → H2 p = some o → (upd H4 p5 (.lst [])) p = some o := fun p o n h => s5 _ _ (k4 p o n h)
          have f5 := s5 _ _ f4
          have B5 := s5 _ _ B4
          have px5 := Paired.mapP px4 fun v c h => Pl.DueV.same s5 h
          generalize upd H4 p5 (.lst []) = H5 at S5 k5 f5 B5 px5 ⊢
          rcases Pl.paired_last px5 with ⟨rfl, rfl⟩ | ⟨ys, v, qs, c, rfl, rfl, pq, hv⟩
          · refine g_bl (g_ifn (fun h => absurd rfl h) (fun _ => ?_))
            rw [Pl.dstep_nil hlit]
            walk_at "go"
            refine ⟨ty_list f5, ?_⟩
            walk_at "go"
            refine g_append f5 (by decide) ?_
            walk_at "go"
            exact ⟨[.ref b], _, _, rfl, S5.mut hfl, fun p o n h => by rw [upd_ne n]; exact k5 p o n h, upd_same, .cons ⟨b, rfl, by rw [upd_ne nbf]; exact B5, nbf⟩ .nil⟩
          · refine g_bl (g_ifn (fun _ => ?_) (fun h => absurd h (by simp)))
            walk_at "go"
            refine g_ixl (v := v) (SqL.of f5) (atI_last _ _) ?_
            walk_at "go"
            cases c with
            | lit s =>
              obtain rfl : v = .str (Cd.zs s) := hv
              refine g_isi (.ty _) (.base (.str _)) (kit_ty (r := false) (by decide +kernel)) ?_
              walk_at "go"
              refine ⟨ty_list f5, ?_⟩
              walk_at "go"
              refine g_append f5 (Nat.lt_of_le_of_lt (show (ys ++ [V.str (Cd.zs s)]).length ≤ 10000 by omega) (by decide)) ?_
              walk_at "go"
              rw [Pl.dstep_new hlit]
              exact ⟨_, _, _, rfl, S5.mut hfl, fun p o n h => by rw [upd_ne n]; exact k5 p o n h, upd_same, (Paired.mapP px5 fun v c h => Pl.DueV.upd h).snoc ⟨b, rfl, by rw [upd_ne nbf]; exact B5, nbf⟩⟩
            | txt r =>
              obtain ⟨x, rfl, hx2, nx⟩ := hv
              have rl2 : r.length + 1 ≤ _ := dtx r (List.mem_append_right _ (List.mem_singleton.mpr rfl))
              have tt := Pl.tot_take (Tx.cutC cs) i
              refine g_isi (.ty _) (.base (.lst hx2)) (kit_ty (r := true) (by decide +kernel)) ?_
              walk_at "go"
              refine g_ixl (v := V.ref x) (SqL.of f5) (atI_last _ _) ?_
              walk_at "go"
              refine ⟨by show 1 ≤ sizeLine; decide, fun p6 hp6 => ?_⟩
              have s6 := same_new (o := .lst [V.int 32]) hp6
              refine g_cats (SqL.of (s6 _ _ hx2)) (SqL.of upd_same) (Nat.le_trans (show (r.map Tx.iv).length + 1 ≤ 10000 by rw [List.length_map]; omega) (by decide)) fun p7 hp7 => ?_
              have s7 := s6.trans (same_new (o := .lst (r.map Tx.iv ++ [V.int 32])) hp7)
              have e7 : (upd (upd H5 p6 (.lst [V.int 32])) p7 (.lst (r.map Tx.iv ++ [V.int 32]))) p7 = some (.lst (r.map Tx.iv ++ [V.int 32])) := upd_same
              generalize upd (upd H5 p6 (.lst [V.int 32])) p7 (.lst (r.map Tx.iv ++ [V.int 32])) = H7 at s7 e7 ⊢
              walk_at "go"
              refine g_cats (SqL.of e7) (SqL.of (s7 _ _ B5)) (Nat.le_trans (show (r.map Tx.iv ++ [V.int 32]).length + (row.map Tx.iv).length ≤ 10000 by rw [List.length_append, List.length_map, List.length_map]; exact (show r.length + 1 + row.length ≤ 10000 by omega)) (by decide)) fun p8 hp8 => ?_
              have s8 := s7.trans (same_new (o := .lst (r.map Tx.iv ++ [V.int 32] ++ row.map Tx.iv)) hp8)
              have f8 := s8 _ _ f5
              have n8 : p8 ≠ fl := (ne_of_none (s7 _ _ f5) hp8).symm
              have e8 : (upd H7 p8 (.lst (r.map Tx.iv ++ [V.int 32] ++ row.map Tx.iv))) p8 = some (.lst ((r ++ 32 :: row).map Tx.iv)) := by
                rw [upd_same, List.map_append, List.append_assoc]
                rfl
              generalize upd H7 p8 (.lst (r.map Tx.iv ++ [V.int 32] ++ row.map Tx.iv)) = H8 at s8 f8 e8 ⊢
              walk_at "go"
              refine ⟨fl, _, -1, ys.length, rfl, rfl, f8, by rw [List.length_append]; exact ixN_last _, ?_⟩
              rw [set_last, Pl.dstep_txt hlit]
              exact ⟨ys ++ [.ref p8], _, _, rfl, (S5.trans s8).mut hfl, fun p o n h => by rw [upd_ne n]; exact s8 _ _ (k5 p o n h), upd_same, (Paired.mapP pq fun v c h => Pl.DueV.upd (Pl.DueV.same s8 h)).snoc ⟨p8, rfl, by rw [upd_ne n8]; exact e8, n8⟩⟩
      · rintro σ H3 ⟨xs, y, z, rfl, s3, k3, f3, px⟩
        rw [List.length_map, List.take_of_length_le (by rw [lp]; exact Nat.le_refl _), Pl.due_is] at px
        walk_at "go"
        refine q H3 fl xs s3 f3 ?_
        rw [Pl.piecesOf, if_neg c1]
        exact px
    · walk_at "go"
      refine ⟨Nat.zero_le _, fun p2 hp2 => ?_⟩
      have s2 := same_new (o := .lst []) hp2
      walk_at "go"
      refine ⟨p2, rfl, ⟨_, SqL.of upd_same⟩, for_list (K := K) (a := p2) (xs := []) (fun i σ H3 => (∃ y z, σ = [some (.ref a), some (.int w), some (.ref fl), y, z]) ∧ H3 = upd H1 p2 (.lst [])) ⟨⟨none, none, rfl⟩, rfl⟩ (fun i σ H3 _ h => by rw [h.2]; exact SqL.of upd_same) ?_ ?_⟩
      · rintro i x σ H3 hx _
        cases hx
      · rintro σ H3 ⟨⟨y, z, rfl⟩, rfl⟩
        walk_at "go"
        refine q _ fl [] (S1.trans s2) (s2 _ _ f1) ?_
        rw [Pl.piecesOf, if_pos c1]
        exact .nil
end
section
variable {w : World} {K : PySem.W.Frag} {mg : Str → Option Value} {base : Heap}
-- draw wide found k way signs sign
theorem ok__law_text_numbers (T : Txt K mg) : FnOk P w K mg base CX0 4 T.f__law_text_numbers T.fd__law_text_numbers ["draw", "wide"] (Pl.spTN) := by
  refine T.F__law_text_numbers.ok sc__law_text_numbers (fun vs H Q E h => ?_) (fun cdv A outer s H vs Q E hr h => ?_)
  · obtain ⟨d, l, m, w, rfl, _⟩ := h
    rfl
  · obtain ⟨d, l, m, w, rfl, D0, hm, w1, w2, q⟩ := h
    have hu := hu_of hr
    refine ⟨_, (pss_cons (ps_set (i := 2) sc__law_text_numbers.nd rfl (Or.inl rfl) (pe_call (ok__law_numbers T) (hr.mono (by decide)) (by rfl) T.g__law_numbers T.F__law_numbers.kp T.b__law_numbers .nil pass0 (pa_cons (pv 0) (pa_cons pe_int pa_nil)))) (pss_cons (ps_for PassesOwn.never (by rfl) (pi_range1 (by rfl) T.m_range (pa_cons (pe_call (ok__law_next T) (hr.mono (by decide)) (by rfl) T.g__law_next T.F__law_next.kp T.b__law_next .nil pass0 (pa_cons (pv 0) (pa_cons pe_int pa_nil))) pa_nil)) (pg_name (i := 3) sc__law_text_numbers.nd rfl (Or.inl rfl)) (pss_cons (ps_set (i := 4) sc__law_text_numbers.nd rfl (Or.inl rfl) (pe_call (ok__law_next T) (hr.mono (by decide)) (by rfl) T.g__law_next T.F__law_next.kp T.b__law_next .nil pass0 (pa_cons (pv 0) (pa_cons pe_int pa_nil)))) (pss_one (ps_if (pt_cmpR op_eq (pv 4) pe_int (nomark _)) (pss_one (ps_set (i := 2) sc__law_text_numbers.nd rfl (Or.inl rfl) (pe_op op_catS (pe_op op_catS (pe_op op_catS (pv 2) (pe_lst (pa_cons pe_int pa_nil))) (pe_op op_rep (pe_lst (pa_cons pe_int pa_nil)) (pe_op op_add (pe_op op_sub (pv 1) pe_int) (pe_call (ok__law_next T) (hr.mono (by decide)) (by rfl) T.g__law_next T.F__law_next.kp T.b__law_next .nil pass0 (pa_cons (pv 0) (pa_cons pe_int pa_nil)))))) (pe_lst (pa_cons pe_int pa_nil))))) (pss_one (ps_if (pt_cmpR op_eq (pv 4) pe_int (nomark _)) (pss_cons (ps_set (i := 5) sc__law_text_numbers.nd rfl (Or.inl rfl) (pe_ix (ix_listKK (K := K) rfl) (pe_lst (pa_cons pe_str (pa_cons pe_str (pa_cons pe_str (pa_cons pe_str (pa_cons pe_str (pa_cons pe_str pa_nil))))))) (pe_call (ok__law_next T) (hr.mono (by decide)) (by rfl) T.g__law_next T.F__law_next.kp T.b__law_next .nil pass0 (pa_cons (pv 0) (pa_cons pe_int pa_nil))) (fun _ _ => rfl))) (pss_one (ps_set (i := 2) sc__law_text_numbers.nd rfl (Or.inl rfl) (pe_op op_catS (pe_op op_catS (pe_op op_catS (pv 2) (pe_lst (pa_cons pe_int pa_nil))) (pe_lc (own := [("sign", 6)]) (g := gName 6) (tt := tYes) (by rfl) sc__law_text_numbers.nd (pi_str (pv 5)) (blkOk_by (own := [("sign", 6)]) (N := sN__law_text_numbers) (sc := defScope s__law_text_numbers) (by decide +kernel)) (fun _ _ _ _ _ => (pg_name (i := 6) sc__law_text_numbers.nd rfl (Or.inl rfl))) (fun _ _ _ _ _ => pts_nil) (fun _ _ _ _ _ => (pe_callB call_ord1 (by rfl) T.m_ord (by decide +kernel) (pa_cons (pv 6) pa_nil))))) (pe_op op_rep (pe_lst (pa_cons pe_int pa_nil)) (pe_call (ok__law_next T) (hr.mono (by decide)) (by rfl) T.g__law_next T.F__law_next.kp T.b__law_next .nil pass0 (pa_cons (pv 0) (pa_cons pe_int pa_nil)))))))) (pss_one (ps_set (i := 2) sc__law_text_numbers.nd rfl (Or.inl rfl) (pe_op op_catS (pe_op op_catS (pv 2) (pe_op op_rep (pe_lst (pa_cons pe_int pa_nil)) (pe_call (ok__law_next T) (hr.mono (by decide)) (by rfl) T.g__law_next T.F__law_next.kp T.b__law_next .nil pass0 (pa_cons (pv 0) (pa_cons pe_int pa_nil))))) (pe_call (ok__law_numbers T) (hr.mono (by decide)) (by rfl) T.g__law_numbers T.F__law_numbers.kp T.b__law_numbers .nil pass0 (pa_cons (pv 0) (pa_cons pe_int pa_nil)))))))))))) (pss_one (ps_ret (pv 2))))), ?_⟩
    walk_at "go"
    refine ⟨d, l, m, 20, rfl, D0, by omega, by omega, fun cs0 f0 H1 l0 c0 e0 D1 K1 => ?_⟩
    walk_at "go"
    refine ⟨d, l, _, 5, rfl, D1, by omega, by omega, by omega, fun j H2 j0 j1 D2 K2 _ => ?_⟩
    have nf0 : f0 ≠ d := by
      obtain ⟨ns, u1, u2, u3, e, _⟩ := id D1
      exact ne_of e0 e (by intro z; cases z)
    walk_at "go"
    refine ⟨j, rfl, by omega, by omega, for_range (fun i σ H3 => ∃ (cs : List Nat) (f : Addr) (y1 y2 y3 y4 : Option V), σ = [some (.ref d), some (.int w), some (.ref f), y1, y2, y3, y4] ∧ Dr.Draw H3 d l (m + 41 + 45 * i) ∧ Dr.Kp d H H3 ∧ H3 f = some (.lst (cs.map Tx.iv)) ∧ f ≠ d ∧ cs.length ≤ 20 + 230 * i ∧ ∀ c ∈ cs, Cd.isC c = true) ⟨cs0, f0, none, none, none, none, rfl, D2, K1.trans K2, K2 _ _ nf0 e0, nf0, by omega, c0⟩ ?_ ?_⟩
    · rintro i σ H3 hi ⟨cs, f, y1, y2, y3, y4, rfl, D3, K3, e3, nf, lc, hc⟩
      walk_at "go"
      refine ⟨d, l, _, 5, rfl, D3, by omega, by omega, by omega, fun way H4 v0 v1 D4 K4 _ => ?_⟩
      have e4 := K4 _ _ nf e3
      have K4' := K3.trans K4
      walk_at "go"
      refine g_ifd (fun c1 => ?_) (fun c1 => ?_)
      · walk_at "go"
        refine ⟨by show 1 ≤ sizeLine; decide, fun p1 hp1 => ?_⟩
        have t1 := same_new (o := .lst [V.int 32]) hp1
        refine Pl.g_catN (cs := cs) (ds := [32]) (t1 _ _ e4) upd_same (by simp; omega) fun p2 hp2 => ?_
        have t2 := t1.trans (same_new (o := .lst ((cs ++ [32]).map Tx.iv)) hp2)
        have f2 : Pl.LN (upd (upd H4 p1 (.lst [V.int 32])) p2 (.lst ((cs ++ [32]).map Tx.iv))) p2 (cs ++ [32]) := upd_same
        have D5 := D4.same t2
        have K5 := Pl.kp_same K4' t2
        have n2 : p2 ≠ d := (D4.same t1).ne hp2
        generalize upd (upd H4 p1 (.lst [V.int 32])) p2 (.lst ((cs ++ [32]).map Tx.iv)) = H5 at t2 f2 D5 K5 ⊢
        walk_at "go"
        refine ⟨by show 1 ≤ sizeLine; decide, fun p3 hp3 => ?_⟩
        have t3 := same_new (o := .lst [V.int 97]) hp3
        have n3 : p3 ≠ d := D5.ne hp3
        walk_at "go"
        refine ⟨d, l, _, 4, rfl, D5.same t3, by omega, by omega, by omega, fun v H6 u0 u1 D6 K6 _ => ?_⟩
        have f6 := K6 _ _ n2 (t3 _ _ f2)
        have g6 : Pl.LN H6 p3 [97] := K6 _ _ n3 upd_same
        have K6' := (Pl.kp_same K5 t3).trans K6
        walk_at "go"
        refine Pl.g_repN g6 (by omega) (by omega) fun p4 hp4 => ?_
        have t4 := same_new (o := .lst ((List.replicate (w - 2 + v).toNat 97).map Tx.iv)) hp4
        refine Pl.g_catN (t4 _ _ f6) upd_same (by rw [List.length_append, List.length_replicate]; simp; omega) fun p5 hp5 => ?_
        have t5 := t4.trans (same_new (o := .lst ((cs ++ [32] ++ List.replicate (w - 2 + v).toNat 97).map Tx.iv)) hp5)
        have f5 : Pl.LN (upd (upd H6 p4 (.lst ((List.replicate (w - 2 + v).toNat 97).map Tx.iv))) p5 (.lst ((cs ++ [32] ++ List.replicate (w - 2 + v).toNat 97).map Tx.iv))) p5 (cs ++ [32] ++ List.replicate (w - 2 + v).toNat 97) := upd_same
        generalize upd (upd H6 p4 (.lst ((List.replicate (w - 2 + v).toNat 97).map Tx.iv))) p5 (.lst ((cs ++ [32] ++ List.replicate (w - 2 + v).toNat 97).map Tx.iv)) = H7 at t5 f5 ⊢
        walk_at "go"
        refine ⟨by show 1 ≤ sizeLine; decide, fun p6 hp6 => ?_⟩
        have t6 := t5.trans (same_new (o := .lst [V.int 32]) hp6)
        refine Pl.g_catN (ds := [32]) (same_new (o := .lst [V.int 32]) hp6 _ _ f5) upd_same (by rw [List.length_append, List.length_append, List.length_replicate]; simp; omega) fun p7 hp7 => ?_
        have t7 := t6.trans (same_new (o := .lst ((cs ++ [32] ++ List.replicate (w - 2 + v).toNat 97 ++ [32]).map Tx.iv)) hp7)
        walk_at "go"
        refine ⟨_, p7, _, _, _, _, rfl, (D6.same t7).mono (by omega), Pl.kp_same K6' t7, upd_same, (D6.same t6).ne hp7, ?_, Pl.all_app (Pl.all_app (Pl.all_app hc (Pl.all_one Pl.isC32)) (Pl.all_rep Pl.isC97)) (Pl.all_one Pl.isC32)⟩
        rw [List.length_append, List.length_append, List.length_append, List.length_replicate]
        simp
        omega
      · walk_at "go"
        refine g_ifd (fun c2 => ?_) (fun c2 => ?_)
        · walk_at "go"
          refine ⟨by show 6 ≤ sizeLine; decide, fun p1 hp1 => ?_⟩
          have t1 := same_new (o := .lst (Pl.TOKS.map V.str)) hp1
          have n1 : p1 ≠ d := D4.ne hp1
          walk_at "go"
          refine ⟨d, l, _, 6, rfl, D4.same t1, by omega, by omega, by omega, fun v H5 u0 u1 D5 K5 _ => ?_⟩
          have f5 := K5 _ _ nf (t1 _ _ e4)
          have K5' := (Pl.kp_same K4' t1).trans K5
          refine g_pickP (pr := fun v => ∃ z ∈ Pl.TOKS, v = V.str z) (xs := Pl.TOKS.map V.str) (K5 _ _ n1 upd_same) u0 (by exact u1) (fun v hv => by obtain ⟨z, hz, rfl⟩ := List.mem_map.mp hv; exact ⟨z, hz, rfl⟩) fun sv hv => ?_
          obtain ⟨z, hz, rfl⟩ := hv
          obtain ⟨z1, z2⟩ := Pl.toks_ok z hz
          walk_at "go"
          refine ⟨by show 1 ≤ sizeLine; decide, fun p2 hp2 => ?_⟩
          have t2 := same_new (o := .lst [V.int 32]) hp2
          refine Pl.g_catN (cs := cs) (ds := [32]) (t2 _ _ f5) upd_same (by simp; omega) fun p3 hp3 => ?_
          have t3 := t2.trans (same_new (o := .lst ((cs ++ [32]).map Tx.iv)) hp3)
          have f3 : Pl.LN (upd (upd H5 p2 (.lst [V.int 32])) p3 (.lst ((cs ++ [32]).map Tx.iv))) p3 (cs ++ [32]) := upd_same
          have D6 := D5.same t3
          have K6 := Pl.kp_same K5' t3
          generalize upd (upd H5 p2 (.lst [V.int 32])) p3 (.lst ((cs ++ [32]).map Tx.iv)) = H6 at t3 f3 D6 K6 ⊢
          walk_at "go"
          refine ⟨z, rfl, fun D hD => lc_str (fun _ => true) (fun c => Tx.iv c) (Nat.le_trans z1 (by decide)) (fun c acc Nx hcm k1 k2 => ?_) ?_⟩
          · walk_at "go"
            refine ⟨rfl, ?_⟩
            walk_at "go"
            exact k1 rfl _ upd_same rfl
          · rw [List.filter_eq_self.mpr (fun _ _ => rfl)]
            have t7 := same_new (o := .lst (z.cps.toList.map fun c => Tx.iv c)) hD
            have zl : z.cps.toList.length ≤ 20 := by rw [← len_list]; exact z1
            have zl2 : z.cps.size ≤ 20 := z1
            refine Pl.g_catN (ds := z.cps.toList) (t7 _ _ f3) upd_same (by rw [List.length_append]; simp; omega) fun p4 hp4 => ?_
            have t8 := t7.trans (same_new (o := .lst ((cs ++ [32] ++ z.cps.toList).map Tx.iv)) hp4)
            have f8 : Pl.LN (upd (upd H6 D (.lst (z.cps.toList.map fun c => Tx.iv c))) p4 (.lst ((cs ++ [32] ++ z.cps.toList).map Tx.iv))) p4 (cs ++ [32] ++ z.cps.toList) := upd_same
            have n8 : p4 ≠ d := (D6.same t7).ne hp4
            have D8 := D6.same t8
            have K8 := Pl.kp_same K6 t8
            generalize upd (upd H6 D (.lst (z.cps.toList.map fun c => Tx.iv c))) p4 (.lst ((cs ++ [32] ++ z.cps.toList).map Tx.iv)) = H8 at f8 D8 K8 ⊢
            walk_at "go"
            refine ⟨by show 1 ≤ sizeLine; decide, fun p5 hp5 => ?_⟩
            have t9 := same_new (o := .lst [V.int 32]) hp5
            have n9 : p5 ≠ d := D8.ne hp5
            walk_at "go"
            refine ⟨d, l, _, 2, rfl, D8.same t9, by omega, by omega, by omega, fun v2 H9 x0 x1 D9 K9 _ => ?_⟩
            have f9 := K9 _ _ n8 (t9 _ _ f8)
            have g9 : Pl.LN H9 p5 [32] := K9 _ _ n9 upd_same
            have K9' := (Pl.kp_same K8 t9).trans K9
            refine Pl.g_repN g9 (by omega) (by omega) fun p6 hp6 => ?_
            have ta := same_new (o := .lst ((List.replicate v2.toNat 32).map Tx.iv)) hp6
            refine Pl.g_catN (ta _ _ f9) upd_same (by rw [List.length_append, List.length_append, List.length_replicate]; simp; omega) fun p7 hp7 => ?_
            have tb := ta.trans (same_new (o := .lst ((cs ++ [32] ++ z.cps.toList ++ List.replicate v2.toNat 32).map Tx.iv)) hp7)
            walk_at "go"
            refine ⟨_, p7, _, _, _, _, rfl, (D9.same tb).mono (by omega), Pl.kp_same K9' tb, upd_same, (D9.same ta).ne hp7, ?_, Pl.all_app (Pl.all_app (Pl.all_app hc (Pl.all_one Pl.isC32)) z2) (Pl.all_rep Pl.isC32)⟩
            rw [List.length_append, List.length_append, List.length_append, List.length_replicate]
            simp
            omega
        · walk_at "go"
          refine ⟨by show 1 ≤ sizeLine; decide, fun p1 hp1 => ?_⟩
          have t1 := same_new (o := .lst [V.int 32]) hp1
          have n1 : p1 ≠ d := D4.ne hp1
          walk_at "go"
          refine ⟨d, l, _, 4, rfl, D4.same t1, by omega, by omega, by omega, fun v H5 u0 u1 D5 K5 _ => ?_⟩
          have f5 := K5 _ _ nf (t1 _ _ e4)
          have g5 : Pl.LN H5 p1 [32] := K5 _ _ n1 upd_same
          have K5' := (Pl.kp_same K4' t1).trans K5
          refine Pl.g_repN g5 (by omega) (by omega) fun p2 hp2 => ?_
          have t2 := same_new (o := .lst ((List.replicate v.toNat 32).map Tx.iv)) hp2
          refine Pl.g_catN (t2 _ _ f5) upd_same (by rw [List.length_replicate]; omega) fun p3 hp3 => ?_
          have t3 := t2.trans (same_new (o := .lst ((cs ++ List.replicate v.toNat 32).map Tx.iv)) hp3)
          have f3 : Pl.LN (upd (upd H5 p2 (.lst ((List.replicate v.toNat 32).map Tx.iv))) p3 (.lst ((cs ++ List.replicate v.toNat 32).map Tx.iv))) p3 (cs ++ List.replicate v.toNat 32) := upd_same
          have n3 : p3 ≠ d := (D5.same t2).ne hp3
          have D6 := D5.same t3
          have K6 := Pl.kp_same K5' t3
          generalize upd (upd H5 p2 (.lst ((List.replicate v.toNat 32).map Tx.iv))) p3 (.lst ((cs ++ List.replicate v.toNat 32).map Tx.iv)) = H6 at f3 D6 K6 ⊢
          walk_at "go"
          refine ⟨d, l, _, 8, rfl, D6, by omega, by omega, fun ds f7 H7 ld hd e7 D7 K7 => ?_⟩
          refine Pl.g_catN (K7 _ _ n3 f3) e7 (by rw [List.length_append, List.length_replicate]; omega) fun p4 hp4 => ?_
          have t4 := same_new (o := .lst ((cs ++ List.replicate v.toNat 32 ++ ds).map Tx.iv)) hp4
          walk_at "go"
          refine ⟨_, p4, _, _, _, _, rfl, (D7.same t4).mono (by omega), Pl.kp_same (K6.trans K7) t4, upd_same, D7.ne hp4, ?_, Pl.all_app (Pl.all_app hc (Pl.all_rep Pl.isC32)) hd⟩
          rw [List.length_append, List.length_append, List.length_replicate]
          omega
    · rintro σ H3 ⟨cs, f, y1, y2, y3, y4, rfl, D3, K3, e3, nf, lc, hc⟩
      walk_at "go"
      exact q cs f H3 (by omega) hc e3 (D3.mono (by omega)) K3
end
section
variable {w : World} {K : PySem.W.Frag} {mg : Str → Option Value} {base : Heap}
-- numbers wide due told one row
theorem ok__law_right (T : Txt K mg) : FnOk P w K mg base CX0 10 T.f__law_right T.fd__law_right ["numbers", "wide"] (Pl.spRightL) := by
  refine T.F__law_right.ok sc__law_right (fun vs H Q E h => ?_) (fun cdv A outer s H vs Q E hr h => ?_)
  · obtain ⟨a, cs, w, rfl, _⟩ := h
    rfl
  · obtain ⟨a, cs, w, rfl, ha, hz, hc, w1, w2, q⟩ := h
    have hu := hu_of hr
    refine ⟨_, (pss_cons (ps_set (i := 2) sc__law_right.nd rfl (Or.inl rfl) (pe_call (ok__law_pieces_due T) (hr.mono (by decide)) (by rfl) T.g__law_pieces_due T.F__law_pieces_due.kp T.b__law_pieces_due .nil pass0 (pa_cons (pv 0) (pa_cons (pv 1) pa_nil)))) (pss_cons (ps_set (i := 3) sc__law_right.nd rfl (Or.inl rfl) (pe_kw0 (ok_plain_pieces T) (hr.mono (by decide)) (by rfl) T.g_plain_pieces T.F_plain_pieces.kp (kw_plain_pieces_width_text T) pass0 (pk_cons (pv 1) (pk_cons (ClX.pe_cmeth (pe_gc (by rfl) T.g_Text) T.cr_Text T.cm_Text_of (FnOk.raw (ok_Text_of T) T.b_Text_of .nil) (hr.mono (by decide)) pass0 (pa_cons (pe_callTy call_tupOf (by rfl) T.m_tuple (by decide +kernel) (pa_cons (pv 0) pa_nil)) pa_nil)) pk_nil)))) (pss_cons (ps_if (pt_cmpR op_ne (pe_callB call_len1 (by rfl) T.m_len PySem.boot_len (pa_cons (pv 3) pa_nil)) (pe_callB call_len1 (by rfl) T.m_len PySem.boot_len (pa_cons (pv 2) pa_nil)) (nomark _)) (pss_one (ps_ret pe_bl)) pss_nil) (pss_cons (ps_for PassesOwn.never (by rfl) (pi_zipM (by rfl) T.m_zip (pa_cons (pv 3) (pa_cons (pv 2) pa_nil))) (pg_tup (by rfl) (pgs_cons (pg_name (i := 4) sc__law_right.nd rfl (Or.inl rfl)) (pgs_cons (pg_name (i := 5) sc__law_right.nd rfl (Or.inl rfl)) pgs_nil))) (pss_cons (ps_if (PW.pt (pw_and (pt_val (pe_callB (call_isiQ (K := K) rfl) (by rfl) T.m_isinstance (by decide +kernel) (pa_cons (pv 5) (pa_cons (pe_ty (n := "list") (by rfl) T.m_list (by decide +kernel)) pa_nil)))) (pw_and1 (pt_not (PW.pt (pw_and (pt_val (pe_callB (call_isiQ (K := K) rfl) (by rfl) T.m_isinstance (by decide +kernel) (pa_cons (pv 4) (pa_cons (pe_gc (by rfl) T.g_Text) pa_nil)))) (pw_and1 (pt_cmpR (op_eqD hr.units) (pe_callTy call_list_of (by rfl) T.m_list (by decide +kernel) (pa_cons (pe_prop (pv 4) T.c_Text T.pp_Text_codes (ok_Text_codes T) (hr.mono (by decide)) T.b_Text_codes .nil pass0 rfl) pa_nil)) (pv 5) (nomark _))))))))) (pss_one (ps_ret pe_bl)) pss_nil) (pss_one (ps_if (PW.pt (pw_and (pt_not (pt_val (pe_callB (call_isiQ (K := K) rfl) (by rfl) T.m_isinstance (by decide +kernel) (pa_cons (pv 5) (pa_cons (pe_ty (n := "list") (by rfl) T.m_list (by decide +kernel)) pa_nil))))) (pw_and1 (pt_cmpR op_ne (pv 4) (pv 5) (nomark _))))) (pss_one (ps_ret pe_bl)) pss_nil)))) (pss_one (ps_ret pe_bl)))))), ?_⟩
    walk_at "go"
    refine ⟨a, cs, w, rfl, ha, hz, hc, fun H1 dl xs s1 e1 px => ?_⟩
    walk_at "go"
    refine ⟨rfl, ?_⟩
    walk_at "go"
    refine g_tupOf (SqL.of (s1 _ _ ha)) fun t ht => ?_
    have st := same_new (o := .tup (cs.map Tx.iv)) ht
    refine ⟨_, t, cs, rfl, upd_same, hc, fun H2 b s2 nb B2 => ?_⟩
    walk_at "go"
    refine ⟨rfl, b, cs, w, rfl, B2, by omega, w1, w2, fun H3 r ys s3 e3 py => ?_⟩
    have S3 := (st.trans s2).trans s3
    have S0 := s1.trans S3
    have e1 := S3 _ _ e1
    have px := Paired.mapP px fun v c h => Pl.DueV.same S3 h
    have lx : xs.length = _ := px.length
    have ly : ys.length = _ := py.length
    walk_at "go"
    refine g_lent (SqT.of e3) ?_
    walk_at "go"
    refine g_len (SqL.of e1) ?_
    walk_at "go"
    refine g_ifn (fun h => absurd (by rw [lx, ly]) h) (fun _ => ?_)
    walk_at "go"
    refine ⟨r, dl, ys, xs, rfl, SqT.of e3, SqL.of e1, for_zipM (K := K) (xs := ys) (ys := xs) (by rw [lx, ly]) (fun i σ H4 => (∃ y1 y2, σ = [some (.ref a), some (.int w), some (.ref dl), some (.ref r), y1, y2]) ∧ Same H3 H4) ⟨⟨none, none, rfl⟩, Same.refl _⟩ (fun i σ H4 h => ⟨SqT.of (h.2 _ _ e3), SqL.of (h.2 _ _ e1)⟩) ?_ ?_⟩
    · rintro i y x T2 σ H4 hy hx ⟨⟨y1, y2, rfl⟩, s4⟩ hT
      obtain ⟨c, ec, hyc⟩ := paired_at py hy
      obtain ⟨c', ec', hxc⟩ := paired_at px hx
      rw [ec] at ec'
      obtain rfl := Option.some.inj ec'
      have sT := s4.trans (same_new (o := .tup [y, x]) hT)
      refine g_gtup (SqT.of upd_same) rfl ?_
      have hyc := Pl.PcV.same sT hyc
      have hxc := Pl.DueV.same sT hxc
      generalize upd H4 T2 (.tup [y, x]) = H5 at sT hyc hxc ⊢
      cases c with
      | lit z =>
        obtain rfl : y = .str (Cd.zs z) := hyc
        obtain rfl : x = .str (Cd.zs z) := hxc
        walk_at "go"
        refine g_isi (.ty _) (.base (.str _)) (kit_ty (r := false) (by decide +kernel)) ?_
        walk_at "go"
        refine g_isi (.ty _) (.base (.str _)) (kit_ty (r := false) (by decide +kernel)) ?_
        walk_at "go"
        refine iteT ?_
        walk_at "go"
        refine g_ifn (fun h => absurd rfl h) (fun _ => ?_)
        walk_at "go"
        exact ⟨⟨_, _, rfl⟩, sT⟩
      | txt z =>
        obtain ⟨o, rfl, A5⟩ := hyc
        obtain ⟨x2, rfl, hx2, _⟩ := hxc
        obtain ⟨dx, t5, ha5, ht5⟩ := id A5
        walk_at "go"
        refine g_isi (.ty _) (.base (.lst hx2)) (kit_ty (r := true) (by decide +kernel)) ?_
        walk_at "go"
        refine g_isi (.own _) (T.ty_Text _ _ _ _ ha5) T.ks_Text ?_
        walk_at "go"
        refine Tx.prop ha5 ?_
        walk_at "go"
        refine ⟨t5, _, rfl, .inr ht5, fun l5 hl5 => ?_⟩
        have s6 := same_new (o := .lst (z.map Tx.iv)) hl5
        walk_at "go"
        refine g_eqd (.lst (SqL.of upd_same) (Tx.dps _)) (.lst (SqL.of (s6 _ _ hx2)) (Tx.dps _)) (Cd.shaped_L _) (Cd.shaped_L _) ?_
        rw [Pl.eqv_same]
        walk_at "go"
        refine iteF ?_
        walk_at "go"
        refine g_isi (.ty _) (.base (.lst (s6 _ _ hx2))) (kit_ty (r := true) (by decide +kernel)) ?_
        walk_at "go"
        refine iteF ?_
        walk_at "go"
        exact ⟨⟨_, _, rfl⟩, sT.trans s6⟩
    · rintro σ H4 ⟨⟨y1, y2, rfl⟩, s4⟩
      walk_at "go"
      exact q _ (S0.trans s4)
-- script draw bout wide numbers whole
def spLaw (K : PySem.W.Frag) : Sp := fun vs H Q _ => ∃ (a : Addr) (ns : List Int), vs = [.ref a] ∧ SqL K H a (ns.map V.int) ∧ ns.length ≤ 63 ∧ ∀ H', Q (.bl true) H'
theorem ok_law (T : Txt K mg) : FnG P w K mg base CX0 11 T.f_law T.fd_law ["script"] (spLaw K) := by
  refine T.F_law.okG sc_law (fun vs H Q E h => ?_) (fun cdv A hG outer s H vs Q E hr h => ?_)
  · obtain ⟨a, ns, rfl, _⟩ := h
    rfl
  · obtain ⟨a, ns, rfl, hS, hl, q⟩ := h
    have hu := hu_of hr
    refine ⟨_, (pss_cons (ps_set (i := 1) sc_law.nd rfl (Or.inl rfl) (pe_call (ok__law_begin T) (hr.mono (by decide)) (by rfl) T.g__law_begin T.F__law_begin.kp T.b__law_begin .nil pass0 (pa_cons (pv 0) pa_nil))) (pss_cons (ps_for PassesOwn.never (by rfl) (pi_range1 (by rfl) T.m_range (pa_cons pe_int pa_nil)) (pg_name (i := 2) sc_law.nd rfl (Or.inl rfl)) (pss_cons (ps_set (i := 3) sc_law.nd rfl (Or.inl rfl) (pe_call (ok__law_width T) (hr.mono (by decide)) (by rfl) T.g__law_width T.F__law_width.kp T.b__law_width .nil pass0 (pa_cons (pv 1) pa_nil))) (pss_cons (ps_set (i := 4) sc_law.nd rfl (Or.inl rfl) (pe_call (ok__law_text_numbers T) (hr.mono (by decide)) (by rfl) T.g__law_text_numbers T.F__law_text_numbers.kp T.b__law_text_numbers .nil pass0 (pa_cons (pv 1) (pa_cons (pv 3) pa_nil)))) (pss_cons (ps_if (PW.pt (pw_or (pt_not (pt_val (pe_call (ok__law_right T) (hr.mono (by decide)) (by rfl) T.g__law_right T.F__law_right.kp T.b__law_right .nil pass0 (pa_cons (pv 4) (pa_cons (pv 3) pa_nil))))) (pw_or1 (pt_not (pt_val (pe_call (ok__law_right T) (hr.mono (by decide)) (by rfl) T.g__law_right T.F__law_right.kp T.b__law_right .nil pass0 (pa_cons (pv 4) (pa_cons (pe_op op_add pe_int (pe_call (ok__law_next T) (hr.mono (by decide)) (by rfl) T.g__law_next T.F__law_next.kp T.b__law_next .nil pass0 (pa_cons (pv 1) (pa_cons pe_int pa_nil)))) pa_nil)))))))) (pss_one (ps_ret pe_bl)) pss_nil) (pss_cons (ps_set (i := 5) sc_law.nd rfl (Or.inl rfl) (ClX.pe_cmeth (pe_gc (by rfl) T.g_Text) T.cr_Text T.cm_Text_of (FnOk.raw (ok_Text_of T) T.b_Text_of .nil) (hr.mono (by decide)) pass0 (pa_cons (pe_callTy call_tupOf (by rfl) T.m_tuple (by decide +kernel) (pa_cons (pv 4) pa_nil)) pa_nil))) (pss_one (ps_if (pt_cmpR (op_neT Cd.mon_DT (Cd.eqG_DT (ok_Text___eq__ T) T.at_Text___eq__ T.if_Text___eq__ T.b_Text___eq__ pass0) (hr.mono (by decide))) (pe_call (ok_plain_pieces T) (hr.mono (by decide)) (by rfl) T.g_plain_pieces T.F_plain_pieces.kp T.bd_plain_pieces T.vi_plain_pieces pass0 (pa_cons (pv 5) pa_nil)) (pe_callN (ok_plain_pieces T) (hr.mono (by decide)) (by rfl) T.g_plain_pieces T.F_plain_pieces.kp (kn_plain_pieces_width T) pass0 (pa_cons (pv 5) pa_nil) (pk_cons pe_int pk_nil)) (nomark _)) (pss_one (ps_ret pe_bl)) pss_nil))))))) (pss_one (ps_ret (pe_and (pe_call (ok__law_right T) (hr.mono (by decide)) (by rfl) T.g__law_right T.F__law_right.kp T.b__law_right .nil pass0 (pa_cons (pe_lst pa_nil) (pa_cons pe_int pa_nil))) (pe_and (pe_call (ok__law_right T) (hr.mono (by decide)) (by rfl) T.g__law_right T.F__law_right.kp T.b__law_right .nil pass0 (pa_cons (pe_lst (pa_cons pe_int pa_nil)) (pa_cons pe_int pa_nil))) (pe_one (pe_call (ok__law_right T) (hr.mono (by decide)) (by rfl) T.g__law_right T.F__law_right.kp T.b__law_right .nil pass0 (pa_cons (pe_lst (pa_cons pe_int (pa_cons pe_int (pa_cons pe_int (pa_cons pe_int pa_nil))))) (pa_cons pe_int pa_nil)))))))))), ?_⟩
    walk_at "go"
    refine ⟨a, ns, rfl, hS, hl, fun d l H1 hd hl0 D1 s1 => ?_⟩
    walk_at "go"
    refine ⟨10, rfl, by omega, by omega, for_range (fun i σ H3 => (∃ y1 y2 y3 y4, σ = [some (.ref a), some (.ref d), y1, y2, y3, y4]) ∧ Dr.Draw H3 d l (402 * i)) ⟨⟨none, none, none, none, rfl⟩, D1⟩ ?_ ?_⟩
    · rintro i σ H3 hi ⟨⟨y1, y2, y3, y4, rfl⟩, D3⟩
      walk_at "go"
      refine ⟨d, l, _, rfl, D3, by omega, fun w H4 w1 w2 D4 K4 => ?_⟩
      walk_at "go"
      refine ⟨d, l, _, w, rfl, D4, by omega, w1, w2, fun cs p H5 lc hc e5 D5 K5 => ?_⟩
      have np : p ≠ d := by
        obtain ⟨ns, u1, u2, u3, e, _⟩ := id D5
        exact ne_of e5 e (by intro z; cases z)
      walk_at "go"
      refine ⟨p, cs, w, rfl, e5, lc, hc, w1, w2, fun H6 s6 => ?_⟩
      walk_at "go"
      refine iteF ?_
      walk_at "go"
      refine ⟨d, l, _, 151, rfl, D5.same s6, by omega, by omega, by omega, fun v H7 v0 v1 D7 K7 _ => ?_⟩
      walk_at "go"
      have e7 := K7 _ _ np (s6 _ _ e5)
      refine ⟨p, cs, 50 + v, rfl, e7, lc, hc, by omega, by omega, fun H8 s8 => ?_⟩
      walk_at "go"
      refine iteF ?_
      walk_at "go"
      refine ⟨rfl, ?_⟩
      walk_at "go"
      refine g_tupOf (SqL.of (s8 _ _ e7)) fun t ht => ?_
      have st := s8.trans (same_new (o := .tup (cs.map Tx.iv)) ht)
      refine ⟨_, t, cs, rfl, upd_same, hc, fun H9 b s9 nb B9 => ?_⟩
      walk_at "go"
      refine ⟨b, cs, 78, rfl, B9, by omega, by omega, by omega, fun HA r1 xs1 sA eA pA => ?_⟩
      walk_at "go"
      refine ⟨rfl, rfl, b, cs, 78, rfl, B9.same sA, by omega, by omega, by omega, fun HB r2 xs2 sB eB pB => ?_⟩
      refine ⟨Pl.DTup_pcs (sB _ _ eA) eB (Paired.mapP pA fun v c h => Pl.PcV.same sB h) pB, fun HC xC => ?_⟩
      have SS : Same H7 HC := (st.trans (s9.trans (sA.trans sB))).trans fun _ _ => xC _ _
      walk_at "go"
      exact ⟨⟨_, _, _, _, rfl⟩, (D7.same SS).mono (by omega)⟩
    · rintro σ H3 ⟨⟨y1, y2, y3, y4, rfl⟩, D3⟩
      walk_at "go"
      refine ⟨Nat.zero_le _, fun p1 hp1 => ?_⟩
      refine ⟨p1, [], 50, rfl, upd_same, Nat.zero_le _, fun c h => (nomatch h), by omega, by omega, fun H4 s4 => ?_⟩
      walk_at "go"
      refine ⟨by show 1 ≤ sizeLine; decide, fun p2 hp2 => ?_⟩
      walk_at "go"
      refine ⟨p2, [32], 50, rfl, upd_same, by decide, Pl.all_one Pl.isC32, by omega, by omega, fun H5 s5 => ?_⟩
      walk_at "go"
      refine ⟨by show 4 ≤ sizeLine; decide, fun p3 hp3 => ?_⟩
      walk_at "go"
      refine ⟨p3, [32, 32, 97, 32], 200, rfl, upd_same, by decide, by decide +kernel, by omega, by omega, fun H6 s6 => ?_⟩
      exact q _
end
theorem all_mk {w : World} {K : PySem.W.Frag} {h : Heap} {mg : Str → Option Value} {fa f0 f1 f2 f3 f4 f5 f6 f7 f8 f9 f10 f11 f12 f13 f14 f15 f16 f17 f18 f19 f20 f21 f22 f23 f24 f25 f26 f27 Dk12 CText fText0 DText0 fText1 pText1 fText2 pText2 fText3 pText3 fText4 pText4 fText5 fText6 fText7 fText8 : Addr} {tk12x0 t0 t1 t2 t3 t4 t5 : Tok} (X : K.In h) (G : h.Ns mainGlobals mg) (hfa : mg "law" = some (.ref fa))
    {od0 an0 od1 an1 od2 an2 od3 an3 od4 an4 od5 an5 od6 an6 od7 an7 od8 an8 od9 an9 od10 an10 od11 an11 od12 an12 od13 an13 od14 an14 od15 an15 od16 an16 od17 an17 od18 an18 od19 an19 od20 an20 od21 an21 od22 an22 od23 an23 od24 an24 od25 an25 od26 an26 od27 an27 : Option Addr} {sl0 sl1 sl2 sl3 sl4 sl5 sl6 sl7 sl8 sl9 sl10 sl11 sl12 sl13 sl14 sl15 sl16 sl17 sl18 sl19 sl20 sl21 sl22 sl23 sl24 sl25 sl26 sl27 : Array (Option Value)} {oc0 kV0 dc0 pm0 cd0 ct0 oc1 kV1 dc1 pm1 cd1 ct1 oc2 kV2 dc2 pm2 cd2 ct2 oc3 kV3 dc3 pm3 cd3 ct3 oc4 kV4 dc4 pm4 cd4 ct4 oc5 kV5 dc5 pm5 cd5 ct5 oc6 kV6 dc6 pm6 cd6 ct6 oc7 kV7 dc7 pm7 cd7 ct7 oc8 kV8 dc8 pm8 cd8 ct8 oc9 kV9 dc9 pm9 cd9 ct9 oc10 kV10 dc10 pm10 cd10 ct10 oc11 kV11 dc11 pm11 cd11 ct11 oc12 dc12 pm12 cd12 ct12 oc13 kV13 dc13 pm13 cd13 ct13 oc14 kV14 dc14 pm14 cd14 ct14 oc15 kV15 dc15 pm15 cd15 ct15 oc16 kV16 dc16 pm16 cd16 ct16 oc17 kV17 dc17 pm17 cd17 ct17 oc18 kV18 dc18 pm18 cd18 ct18 oc19 kV19 dc19 pm19 cd19 ct19 oc20 kV20 dc20 pm20 cd20 ct20 oc21 kV21 dc21 pm21 cd21 ct21 oc22 kV22 dc22 pm22 cd22 ct22 oc23 kV23 dc23 pm23 cd23 ct23 oc24 kV24 dc24 pm24 cd24 ct24 oc25 kV25 dc25 pm25 cd25 ct25 oc26 kV26 dc26 pm26 cd26 ct26 oc27 kV27 dc27 pm27 cd27 ct27 : Value}
    (a0 : PySem.W.nsIn K mainGlobals "is_number" = some (some (.ref f0))) (l0 : K.lookup f0 = some ⟨oc0, od0, .func (PySem.W.fnOf "is_number" "is_number" (defArgs s_is_number) (defBody s_is_number) (defScope s_is_number) .none kV0 dc0 pm0 an0 cd0 ct0), sl0⟩) (c0 : PySem.W.codeIn K cd0 "is_number" = true) (k0 : PySem.W.keepIn K (.ref f0) = true)
    (a1 : PySem.W.nsIn K mainGlobals "is_between" = some (some (.ref f1))) (l1 : K.lookup f1 = some ⟨oc1, od1, .func (PySem.W.fnOf "is_between" "is_between" (defArgs s_is_between) (defBody s_is_between) (defScope s_is_between) .none kV1 dc1 pm1 an1 cd1 ct1), sl1⟩) (c1 : PySem.W.codeIn K cd1 "is_between" = true) (k1 : PySem.W.keepIn K (.ref f1) = true)
    (a2 : PySem.W.nsIn K mainGlobals "consists_of" = some (some (.ref f2))) (l2 : K.lookup f2 = some ⟨oc2, od2, .func (PySem.W.fnOf "consists_of" "consists_of" (defArgs s_consists_of) (defBody s_consists_of) (defScope s_consists_of) .none kV2 dc2 pm2 an2 cd2 ct2), sl2⟩) (c2 : PySem.W.codeIn K cd2 "consists_of" = true) (k2 : PySem.W.keepIn K (.ref f2) = true)
    (a3 : PySem.W.nsIn K mainGlobals "is_body" = some (some (.ref f3))) (l3 : K.lookup f3 = some ⟨oc3, od3, .func (PySem.W.fnOf "is_body" "is_body" (defArgs s_is_body) (defBody s_is_body) (defScope s_is_body) .none kV3 dc3 pm3 an3 cd3 ct3), sl3⟩) (c3 : PySem.W.codeIn K cd3 "is_body" = true) (k3 : PySem.W.keepIn K (.ref f3) = true)
    (a4 : PySem.W.nsIn K mainGlobals "is_plain_code" = some (some (.ref f4))) (l4 : K.lookup f4 = some ⟨oc4, od4, .func (PySem.W.fnOf "is_plain_code" "is_plain_code" (defArgs s_is_plain_code) (defBody s_is_plain_code) (defScope s_is_plain_code) .none kV4 dc4 pm4 an4 cd4 ct4), sl4⟩) (c4 : PySem.W.codeIn K cd4 "is_plain_code" = true) (k4 : PySem.W.keepIn K (.ref f4) = true)
    (a5 : PySem.W.nsIn K mainGlobals "is_code" = some (some (.ref f5))) (l5 : K.lookup f5 = some ⟨oc5, od5, .func (PySem.W.fnOf "is_code" "is_code" (defArgs s_is_code) (defBody s_is_code) (defScope s_is_code) .none kV5 dc5 pm5 an5 cd5 ct5), sl5⟩) (c5 : PySem.W.codeIn K cd5 "is_code" = true) (k5 : PySem.W.keepIn K (.ref f5) = true)
    (a6 : PySem.W.nsIn K mainGlobals "mark_of" = some (some (.ref f6))) (l6 : K.lookup f6 = some ⟨oc6, od6, .func (PySem.W.fnOf "mark_of" "mark_of" (defArgs s_mark_of) (defBody s_mark_of) (defScope s_mark_of) .none kV6 dc6 pm6 an6 cd6 ct6), sl6⟩) (c6 : PySem.W.codeIn K cd6 "mark_of" = true) (k6 : PySem.W.keepIn K (.ref f6) = true)
    (a7 : PySem.W.nsIn K mainGlobals "_text_with" = some (some (.ref f7))) (l7 : K.lookup f7 = some ⟨oc7, od7, .func (PySem.W.fnOf "_text_with" "_text_with" (defArgs s__text_with) (defBody s__text_with) (defScope s__text_with) .none kV7 dc7 pm7 an7 cd7 ct7), sl7⟩) (c7 : PySem.W.codeIn K cd7 "_text_with" = true) (k7 : PySem.W.keepIn K (.ref f7) = true)
    (a8 : PySem.W.nsIn K mainGlobals "_shown" = some (some (.ref f8))) (l8 : K.lookup f8 = some ⟨oc8, od8, .func (PySem.W.fnOf "_shown" "_shown" (defArgs s__shown) (defBody s__shown) (defScope s__shown) .none kV8 dc8 pm8 an8 cd8 ct8), sl8⟩) (c8 : PySem.W.codeIn K cd8 "_shown" = true) (k8 : PySem.W.keepIn K (.ref f8) = true)
    (a9 : PySem.W.nsIn K mainGlobals "has_shape" = some (some (.ref f9))) (l9 : K.lookup f9 = some ⟨oc9, od9, .func (PySem.W.fnOf "has_shape" "has_shape" (defArgs s_has_shape) (defBody s_has_shape) (defScope s_has_shape) .none kV9 dc9 pm9 an9 cd9 ct9), sl9⟩) (c9 : PySem.W.codeIn K cd9 "has_shape" = true) (k9 : PySem.W.keepIn K (.ref f9) = true)
    (a10 : PySem.W.nsIn K mainGlobals "_is_word" = some (some (.ref f10))) (l10 : K.lookup f10 = some ⟨oc10, od10, .func (PySem.W.fnOf "_is_word" "_is_word" (defArgs s__is_word) (defBody s__is_word) (defScope s__is_word) .none kV10 dc10 pm10 an10 cd10 ct10), sl10⟩) (c10 : PySem.W.codeIn K cd10 "_is_word" = true) (k10 : PySem.W.keepIn K (.ref f10) = true)
    (a11 : PySem.W.nsIn K mainGlobals "is_width" = some (some (.ref f11))) (l11 : K.lookup f11 = some ⟨oc11, od11, .func (PySem.W.fnOf "is_width" "is_width" (defArgs s_is_width) (defBody s_is_width) (defScope s_is_width) .none kV11 dc11 pm11 an11 cd11 ct11), sl11⟩) (c11 : PySem.W.codeIn K cd11 "is_width" = true) (k11 : PySem.W.keepIn K (.ref f11) = true)
    (a12 : PySem.W.nsIn K mainGlobals "plain_pieces" = some (some (.ref f12))) (l12 : K.lookup f12 = some ⟨oc12, od12, .func (PySem.W.fnOf "plain_pieces" "plain_pieces" (defArgs s_plain_pieces) (defBody s_plain_pieces) (defScope s_plain_pieces) .none (.ref Dk12) dc12 pm12 an12 cd12 ct12), sl12⟩) (c12 : PySem.W.codeIn K cd12 "plain_pieces" = true) (k12 : PySem.W.keepIn K (.ref f12) = true) (kw12x0 : PySem.W.nsIn K Dk12 "width" = some (some (.int 78 tk12x0)))
    (a13 : PySem.W.nsIn K mainGlobals "pieces_of_parts" = some (some (.ref f13))) (l13 : K.lookup f13 = some ⟨oc13, od13, .func (PySem.W.fnOf "pieces_of_parts" "pieces_of_parts" (defArgs s_pieces_of_parts) (defBody s_pieces_of_parts) (defScope s_pieces_of_parts) .none kV13 dc13 pm13 an13 cd13 ct13), sl13⟩) (c13 : PySem.W.codeIn K cd13 "pieces_of_parts" = true) (k13 : PySem.W.keepIn K (.ref f13) = true)
    (a14 : PySem.W.nsIn K mainGlobals "_is_literal" = some (some (.ref f14))) (l14 : K.lookup f14 = some ⟨oc14, od14, .func (PySem.W.fnOf "_is_literal" "_is_literal" (defArgs s__is_literal) (defBody s__is_literal) (defScope s__is_literal) .none kV14 dc14 pm14 an14 cd14 ct14), sl14⟩) (c14 : PySem.W.codeIn K cd14 "_is_literal" = true) (k14 : PySem.W.keepIn K (.ref f14) = true)
    (a15 : PySem.W.nsIn K mainGlobals "_law_begin" = some (some (.ref f15))) (l15 : K.lookup f15 = some ⟨oc15, od15, .func (PySem.W.fnOf "_law_begin" "_law_begin" (defArgs s__law_begin) (defBody s__law_begin) (defScope s__law_begin) .none kV15 dc15 pm15 an15 cd15 ct15), sl15⟩) (c15 : PySem.W.codeIn K cd15 "_law_begin" = true) (k15 : PySem.W.keepIn K (.ref f15) = true)
    (a16 : PySem.W.nsIn K mainGlobals "_law_mixed" = some (some (.ref f16))) (l16 : K.lookup f16 = some ⟨oc16, od16, .func (PySem.W.fnOf "_law_mixed" "_law_mixed" (defArgs s__law_mixed) (defBody s__law_mixed) (defScope s__law_mixed) .none kV16 dc16 pm16 an16 cd16 ct16), sl16⟩) (c16 : PySem.W.codeIn K cd16 "_law_mixed" = true) (k16 : PySem.W.keepIn K (.ref f16) = true)
    (a17 : PySem.W.nsIn K mainGlobals "_law_next" = some (some (.ref f17))) (l17 : K.lookup f17 = some ⟨oc17, od17, .func (PySem.W.fnOf "_law_next" "_law_next" (defArgs s__law_next) (defBody s__law_next) (defScope s__law_next) .none kV17 dc17 pm17 an17 cd17 ct17), sl17⟩) (c17 : PySem.W.codeIn K cd17 "_law_next" = true) (k17 : PySem.W.keepIn K (.ref f17) = true)
    (a18 : PySem.W.nsIn K mainGlobals "_law_marks" = some (some (.ref f18))) (l18 : K.lookup f18 = some ⟨oc18, od18, .func (PySem.W.fnOf "_law_marks" "_law_marks" (defArgs s__law_marks) (defBody s__law_marks) (defScope s__law_marks) .none kV18 dc18 pm18 an18 cd18 ct18), sl18⟩) (c18 : PySem.W.codeIn K cd18 "_law_marks" = true) (k18 : PySem.W.keepIn K (.ref f18) = true)
    (a19 : PySem.W.nsIn K mainGlobals "_law_sign" = some (some (.ref f19))) (l19 : K.lookup f19 = some ⟨oc19, od19, .func (PySem.W.fnOf "_law_sign" "_law_sign" (defArgs s__law_sign) (defBody s__law_sign) (defScope s__law_sign) .none kV19 dc19 pm19 an19 cd19 ct19), sl19⟩) (c19 : PySem.W.codeIn K cd19 "_law_sign" = true) (k19 : PySem.W.keepIn K (.ref f19) = true)
    (a20 : PySem.W.nsIn K mainGlobals "_law_numbers" = some (some (.ref f20))) (l20 : K.lookup f20 = some ⟨oc20, od20, .func (PySem.W.fnOf "_law_numbers" "_law_numbers" (defArgs s__law_numbers) (defBody s__law_numbers) (defScope s__law_numbers) .none kV20 dc20 pm20 an20 cd20 ct20), sl20⟩) (c20 : PySem.W.codeIn K cd20 "_law_numbers" = true) (k20 : PySem.W.keepIn K (.ref f20) = true)
    (a21 : PySem.W.nsIn K mainGlobals "_law_width" = some (some (.ref f21))) (l21 : K.lookup f21 = some ⟨oc21, od21, .func (PySem.W.fnOf "_law_width" "_law_width" (defArgs s__law_width) (defBody s__law_width) (defScope s__law_width) .none kV21 dc21 pm21 an21 cd21 ct21), sl21⟩) (c21 : PySem.W.codeIn K cd21 "_law_width" = true) (k21 : PySem.W.keepIn K (.ref f21) = true)
    (a22 : PySem.W.nsIn K mainGlobals "_law_parts" = some (some (.ref f22))) (l22 : K.lookup f22 = some ⟨oc22, od22, .func (PySem.W.fnOf "_law_parts" "_law_parts" (defArgs s__law_parts) (defBody s__law_parts) (defScope s__law_parts) .none kV22 dc22 pm22 an22 cd22 ct22), sl22⟩) (c22 : PySem.W.codeIn K cd22 "_law_parts" = true) (k22 : PySem.W.keepIn K (.ref f22) = true)
    (a23 : PySem.W.nsIn K mainGlobals "_law_literal" = some (some (.ref f23))) (l23 : K.lookup f23 = some ⟨oc23, od23, .func (PySem.W.fnOf "_law_literal" "_law_literal" (defArgs s__law_literal) (defBody s__law_literal) (defScope s__law_literal) .none kV23 dc23 pm23 an23 cd23 ct23), sl23⟩) (c23 : PySem.W.codeIn K cd23 "_law_literal" = true) (k23 : PySem.W.keepIn K (.ref f23) = true)
    (a24 : PySem.W.nsIn K mainGlobals "_law_pieces_due" = some (some (.ref f24))) (l24 : K.lookup f24 = some ⟨oc24, od24, .func (PySem.W.fnOf "_law_pieces_due" "_law_pieces_due" (defArgs s__law_pieces_due) (defBody s__law_pieces_due) (defScope s__law_pieces_due) .none kV24 dc24 pm24 an24 cd24 ct24), sl24⟩) (c24 : PySem.W.codeIn K cd24 "_law_pieces_due" = true) (k24 : PySem.W.keepIn K (.ref f24) = true)
    (a25 : PySem.W.nsIn K mainGlobals "_law_text_numbers" = some (some (.ref f25))) (l25 : K.lookup f25 = some ⟨oc25, od25, .func (PySem.W.fnOf "_law_text_numbers" "_law_text_numbers" (defArgs s__law_text_numbers) (defBody s__law_text_numbers) (defScope s__law_text_numbers) .none kV25 dc25 pm25 an25 cd25 ct25), sl25⟩) (c25 : PySem.W.codeIn K cd25 "_law_text_numbers" = true) (k25 : PySem.W.keepIn K (.ref f25) = true)
    (a26 : PySem.W.nsIn K mainGlobals "_law_right" = some (some (.ref f26))) (l26 : K.lookup f26 = some ⟨oc26, od26, .func (PySem.W.fnOf "_law_right" "_law_right" (defArgs s__law_right) (defBody s__law_right) (defScope s__law_right) .none kV26 dc26 pm26 an26 cd26 ct26), sl26⟩) (c26 : PySem.W.codeIn K cd26 "_law_right" = true) (k26 : PySem.W.keepIn K (.ref f26) = true)
    (a27 : PySem.W.nsIn K mainGlobals "law" = some (some (.ref f27))) (l27 : K.lookup f27 = some ⟨oc27, od27, .func (PySem.W.fnOf "law" "law" (defArgs s_law) (defBody s_law) (defScope s_law) .none kV27 dc27 pm27 an27 cd27 ct27), sl27⟩) (c27 : PySem.W.codeIn K cd27 "law" = true) (k27 : PySem.W.keepIn K (.ref f27) = true)
    {ocText0 kVText0 dcText0 pmText0 cdText0 ctText0 : Value} {odText0 anText0 : Option Addr} {slText0 : Array (Option Value)}
    {oDText0 : Value} {dDText0 : Option Addr} {zDText0 : Nat} {sDText0 : Array (Option Value)} {tDText00 : Tok}
    {ocText1 kVText1 dcText1 pmText1 cdText1 ctText1 : Value} {odText1 anText1 : Option Addr} {slText1 : Array (Option Value)}
    {rText1 : List Value}
    {ocText2 kVText2 dcText2 pmText2 cdText2 ctText2 : Value} {odText2 anText2 : Option Addr} {slText2 : Array (Option Value)}
    {rText2 : List Value}
    {ocText3 kVText3 dcText3 pmText3 cdText3 ctText3 : Value} {odText3 anText3 : Option Addr} {slText3 : Array (Option Value)}
    {rText3 : List Value}
    {ocText4 kVText4 dcText4 pmText4 cdText4 ctText4 : Value} {odText4 anText4 : Option Addr} {slText4 : Array (Option Value)}
    {rText4 : List Value}
    {ocText5 kVText5 dcText5 pmText5 cdText5 ctText5 : Value} {odText5 anText5 : Option Addr} {slText5 : Array (Option Value)}
    {ocText6 kVText6 dcText6 pmText6 cdText6 ctText6 : Value} {odText6 anText6 : Option Addr} {slText6 : Array (Option Value)}
    {ocText7 kVText7 dcText7 pmText7 cdText7 ctText7 : Value} {odText7 anText7 : Option Addr} {slText7 : Array (Option Value)}
    {ocText8 kVText8 dcText8 pmText8 cdText8 ctText8 : Value} {odText8 anText8 : Option Addr} {slText8 : Array (Option Value)}
    (aText : PySem.W.nsIn K mainGlobals "Text" = some (some (.ref CText)))
    (pgText : PySem.W.plainGet K CText Str.empty = true)
    (hdText : PySem.W.hasDictIn K CText = true)
    (poText : PySem.W.plainOver K CText = true)
    (saText : PySem.W.findIn K (.ref CText) "__setattr__" = some (some (.builtin "object.__setattr__")))
    (mkText : PySem.W.makesIn K CText = true)
    (kcText : PySem.W.keepIn K (.ref CText) = true)
    (sfText : PySem.W.selfFirst K CText = true)
    (hcText : PySem.W.findIn K (.ref CText) "__class__" = some (some (.builtin "object.__class__")))
    (moText : PySem.W.mroIn K CText (.type "object") = some true)
    (uhnText : PySem.W.specialIn K (.builtin "object.__class__") "__get__" = some (some (.builtin "getset_descriptor.__get__")))
    (uhtText : PySem.W.takesIn K (.builtin "object.__class__") = some true)
    (nfText0 : PySem.W.findIn K (.ref CText) "_codes" = some none)
    (rdText : PySem.W.readsIn K CText (.type "type") = true)
    (gaText : PySem.W.specialIn K (.ref CText) "__getattribute__" = some (some (.builtin "type.__getattribute__")))
    (iText0 : PySem.W.findIn K (.ref CText) "__init__" = some (some (.ref fText0)))
    (nText0 : PySem.W.isFn K (.ref fText0) = true)
    (lText0 : K.lookup fText0 = some ⟨ocText0, odText0, .func (PySem.W.fnOf "__init__" "Text.__init__" (defArgs s_Text___init__) (defBody s_Text___init__) (defScope s_Text___init__) (.ref DText0) kVText0 dcText0 pmText0 anText0 cdText0 ctText0), slText0⟩)
    (lDText0 : K.lookup DText0 = some ⟨oDText0, dDText0, .seq #[Value.str "" tDText00] zDText0, sDText0⟩)
    (cText0 : PySem.W.codeIn K cdText0 "Text.__init__" = true)
    (kText0 : PySem.W.keepIn K (.ref fText0) = true)
    (iText1 : PySem.W.findCls K (.ref CText) (.type "type") "of" = some (.get (.builtin "classmethod.__get__") (.ref pText1) .none (.ref CText)))
    (qText1 : PySem.W.recIn K pText1 "classmethod" = some (.ref fText1 :: rText1))
    (nText1 : PySem.W.fnIn K fText1 = true)
    (lText1 : K.lookup fText1 = some ⟨ocText1, odText1, .func (PySem.W.fnOf "of" "Text.of" (defArgs s_Text_of) (defBody s_Text_of) (defScope s_Text_of) .none kVText1 dcText1 pmText1 anText1 cdText1 ctText1), slText1⟩)
    (cText1 : PySem.W.codeIn K cdText1 "Text.of" = true)
    (kText1 : PySem.W.keepIn K (.ref fText1) = true)
    (iText2 : PySem.W.findCls K (.ref CText) (.type "type") "joined" = some (.get (.builtin "staticmethod.__get__") (.ref pText2) .none (.ref CText)))
    (qText2 : PySem.W.recIn K pText2 "staticmethod" = some (.ref fText2 :: rText2))
    (lText2 : K.lookup fText2 = some ⟨ocText2, odText2, .func (PySem.W.fnOf "joined" "Text.joined" (defArgs s_Text_joined) (defBody s_Text_joined) (defScope s_Text_joined) .none kVText2 dcText2 pmText2 anText2 cdText2 ctText2), slText2⟩)
    (cText2 : PySem.W.codeIn K cdText2 "Text.joined" = true)
    (kText2 : PySem.W.keepIn K (.ref fText2) = true)
    (iText3 : PySem.W.findIn K (.ref CText) "codes" = some (some (.ref pText3)))
    (gText3 : PySem.W.specialIn K (.ref pText3) "__get__" = some (some (.builtin "property.__get__")))
    (tText3 : PySem.W.takesIn K (.ref pText3) = some true)
    (qText3 : PySem.W.recIn K pText3 "property" = some (.ref fText3 :: rText3))
    (lText3 : K.lookup fText3 = some ⟨ocText3, odText3, .func (PySem.W.fnOf "codes" "Text.codes" (defArgs s_Text_codes) (defBody s_Text_codes) (defScope s_Text_codes) .none kVText3 dcText3 pmText3 anText3 cdText3 ctText3), slText3⟩)
    (cText3 : PySem.W.codeIn K cdText3 "Text.codes" = true)
    (kText3 : PySem.W.keepIn K (.ref fText3) = true)
    (iText4 : PySem.W.findIn K (.ref CText) "is_plain" = some (some (.ref pText4)))
    (gText4 : PySem.W.specialIn K (.ref pText4) "__get__" = some (some (.builtin "property.__get__")))
    (tText4 : PySem.W.takesIn K (.ref pText4) = some true)
    (qText4 : PySem.W.recIn K pText4 "property" = some (.ref fText4 :: rText4))
    (lText4 : K.lookup fText4 = some ⟨ocText4, odText4, .func (PySem.W.fnOf "is_plain" "Text.is_plain" (defArgs s_Text_is_plain) (defBody s_Text_is_plain) (defScope s_Text_is_plain) .none kVText4 dcText4 pmText4 anText4 cdText4 ctText4), slText4⟩)
    (cText4 : PySem.W.codeIn K cdText4 "Text.is_plain" = true)
    (kText4 : PySem.W.keepIn K (.ref fText4) = true)
    (iText5 : PySem.W.findIn K (.ref CText) "cut" = some (some (.ref fText5)))
    (nText5 : PySem.W.isFn K (.ref fText5) = true)
    (lText5 : K.lookup fText5 = some ⟨ocText5, odText5, .func (PySem.W.fnOf "cut" "Text.cut" (defArgs s_Text_cut) (defBody s_Text_cut) (defScope s_Text_cut) .none kVText5 dcText5 pmText5 anText5 cdText5 ctText5), slText5⟩)
    (cText5 : PySem.W.codeIn K cdText5 "Text.cut" = true)
    (kText5 : PySem.W.keepIn K (.ref fText5) = true)
    (iText6 : PySem.W.findIn K (.ref CText) "__len__" = some (some (.ref fText6)))
    (nText6 : PySem.W.isFn K (.ref fText6) = true)
    (lText6 : K.lookup fText6 = some ⟨ocText6, odText6, .func (PySem.W.fnOf "__len__" "Text.__len__" (defArgs s_Text___len__) (defBody s_Text___len__) (defScope s_Text___len__) .none kVText6 dcText6 pmText6 anText6 cdText6 ctText6), slText6⟩)
    (cText6 : PySem.W.codeIn K cdText6 "Text.__len__" = true)
    (kText6 : PySem.W.keepIn K (.ref fText6) = true)
    (iText7 : PySem.W.findIn K (.ref CText) "__str__" = some (some (.ref fText7)))
    (nText7 : PySem.W.isFn K (.ref fText7) = true)
    (lText7 : K.lookup fText7 = some ⟨ocText7, odText7, .func (PySem.W.fnOf "__str__" "Text.__str__" (defArgs s_Text___str__) (defBody s_Text___str__) (defScope s_Text___str__) .none kVText7 dcText7 pmText7 anText7 cdText7 ctText7), slText7⟩)
    (cText7 : PySem.W.codeIn K cdText7 "Text.__str__" = true)
    (kText7 : PySem.W.keepIn K (.ref fText7) = true)
    (iText8 : PySem.W.findIn K (.ref CText) "__eq__" = some (some (.ref fText8)))
    (nText8 : PySem.W.isFn K (.ref fText8) = true)
    (lText8 : K.lookup fText8 = some ⟨ocText8, odText8, .func (PySem.W.fnOf "__eq__" "Text.__eq__" (defArgs s_Text___eq__) (defBody s_Text___eq__) (defScope s_Text___eq__) .none kVText8 dcText8 pmText8 anText8 cdText8 ctText8), slText8⟩)
    (cText8 : PySem.W.codeIn K cdText8 "Text.__eq__" = true)
    (kText8 : PySem.W.keepIn K (.ref fText8) = true)
    (v0 : PySem.W.nsIn K mainGlobals "MARKS" = some (some (.str " !\"#$&'()*+,-./0123456789:;<=>?@ABCDEFGHIJKLMNOPQRSTUVWXYZ[\\]^_`abcdefghijklmnopqrstuvwxyz{|}~" t0)))
    (v1 : PySem.W.nsIn K mainGlobals "_MISSING_CODE" = some (some (.int 37 t1)))
    (v2 : PySem.W.nsIn K mainGlobals "_SPACE" = some (some (.int 32 t2)))
    (v3 : PySem.W.nsIn K mainGlobals "_SHORTEST_SHAPE" = some (some (.int 4 t3)))
    (v4 : PySem.W.nsIn K mainGlobals "_NARROWEST" = some (some (.int 50 t4)))
    (v5 : PySem.W.nsIn K mainGlobals "_WIDEST" = some (some (.int 200 t5)))
    (z0 : PySem.W.nsIn K mainGlobals "len" = some none)
    (z1 : PySem.W.nsIn K mainGlobals "range" = some none)
    (z2 : PySem.W.nsIn K mainGlobals "isinstance" = some none)
    (z3 : PySem.W.nsIn K mainGlobals "int" = some none)
    (z4 : PySem.W.nsIn K mainGlobals "str" = some none)
    (z5 : PySem.W.nsIn K mainGlobals "bool" = some none)
    (z6 : PySem.W.nsIn K mainGlobals "all" = some none)
    (z7 : PySem.W.nsIn K mainGlobals "ord" = some none)
    (z8 : PySem.W.nsIn K mainGlobals "tuple" = some none)
    (z9 : PySem.W.nsIn K mainGlobals "list" = some none)
    (z10 : PySem.W.nsIn K mainGlobals "enumerate" = some none)
    (z11 : PySem.W.nsIn K mainGlobals "zip" = some none)
    : ∃ fd : FuncData, (∀ (s : Shared) (v : Value), BindsTo s fd ⟨[v], []⟩ [("script", v)]) ∧ ∀ base : Heap, K.In base → base.Ns mainGlobals mg → FnG P w K mg base CX0 11 fa fd ["script"] (spLaw K) := by
  have e := hfa.symm.trans (PySem.W.mg_of X G a27)
  cases e
  have F0 := fun_mk (st := s_is_number) l0 c0 k0
  have F1 := fun_mk (st := s_is_between) l1 c1 k1
  have F2 := fun_mk (st := s_consists_of) l2 c2 k2
  have F3 := fun_mk (st := s_is_body) l3 c3 k3
  have F4 := fun_mk (st := s_is_plain_code) l4 c4 k4
  have F5 := fun_mk (st := s_is_code) l5 c5 k5
  have F6 := fun_mk (st := s_mark_of) l6 c6 k6
  have F7 := fun_mk (st := s__text_with) l7 c7 k7
  have F8 := fun_mk (st := s__shown) l8 c8 k8
  have F9 := fun_mk (st := s_has_shape) l9 c9 k9
  have F10 := fun_mk (st := s__is_word) l10 c10 k10
  have F11 := fun_mk (st := s_is_width) l11 c11 k11
  have F12 := fun_mk (st := s_plain_pieces) l12 c12 k12
  have F13 := fun_mk (st := s_pieces_of_parts) l13 c13 k13
  have F14 := fun_mk (st := s__is_literal) l14 c14 k14
  have F15 := fun_mk (st := s__law_begin) l15 c15 k15
  have F16 := fun_mk (st := s__law_mixed) l16 c16 k16
  have F17 := fun_mk (st := s__law_next) l17 c17 k17
  have F18 := fun_mk (st := s__law_marks) l18 c18 k18
  have F19 := fun_mk (st := s__law_sign) l19 c19 k19
  have F20 := fun_mk (st := s__law_numbers) l20 c20 k20
  have F21 := fun_mk (st := s__law_width) l21 c21 k21
  have F22 := fun_mk (st := s__law_parts) l22 c22 k22
  have F23 := fun_mk (st := s__law_literal) l23 c23 k23
  have F24 := fun_mk (st := s__law_pieces_due) l24 c24 k24
  have F25 := fun_mk (st := s__law_text_numbers) l25 c25 k25
  have F26 := fun_mk (st := s__law_right) l26 c26 k26
  have F27 := fun_mk (st := s_law) l27 c27 k27
  have FD12 : FunD K "plain_pieces" "plain_pieces" (defArgs s_plain_pieces) (defBody s_plain_pieces) (defScope s_plain_pieces) [] [("width", .int 78)] f12 _ := ⟨⟨oc12, od12, .none, .ref Dk12, dc12, pm12, an12, cd12, ct12, sl12, rfl, l12, c12, .inl ⟨rfl, rfl⟩, .inr ⟨Dk12, rfl, fun q hq => by rw [List.mem_singleton.mp hq]; exact ⟨_, kw12x0, ⟨_, rfl⟩⟩⟩⟩, k12⟩
  obtain ⟨ds12, vi12, bd12⟩ := FD12.binds0 (ps := ["text", "width"]) 1 (by simp) rfl fun _ _ _ _ _ _ us ks h1 h2 => match us, ks, h1, h2 with | [_], [_], _, _ => ⟨_, _, _, _, _, _, rfl, rfl, rfl⟩
  have FText0 : FunD K "__init__" "Text.__init__" (defArgs s_Text___init__) (defBody s_Text___init__) (defScope s_Text___init__) [.str ""] [] fText0 _ := ⟨⟨ocText0, odText0, .ref DText0, kVText0, dcText0, pmText0, anText0, cdText0, ctText0, slText0, rfl, lText0, cText0, .inr ⟨by simp, DText0, _, [Value.str "" tDText00], zDText0, rfl, lDText0, rfl, (.cons ⟨_, rfl⟩ .nil)⟩, .inl rfl⟩, kText0⟩
  obtain ⟨dsText0, viText0, bdText0⟩ := FText0.binds1 (ps := ["self", "marks"]) 1 0 (by simp) rfl fun _ _ _ _ _ _ _ us its h1 h2 => match us, its, h1, h2 with | [_], [_], _, _ => ⟨_, rfl, rfl⟩
  have FText1 := fun_mk (st := s_Text_of) lText1 cText1 kText1
  have FText2 := fun_mk (st := s_Text_joined) lText2 cText2 kText2
  have FText3 := fun_mk (st := s_Text_codes) lText3 cText3 kText3
  have FText4 := fun_mk (st := s_Text_is_plain) lText4 cText4 kText4
  have FText5 := fun_mk (st := s_Text_cut) lText5 cText5 kText5
  have FText6 := fun_mk (st := s_Text___len__) lText6 cText6 kText6
  have FText7 := fun_mk (st := s_Text___str__) lText7 cText7 kText7
  have FText8 := fun_mk (st := s_Text___eq__) lText8 cText8 kText8
  let T : Txt K mg := {
    f_is_number := f0, fd_is_number := _, F_is_number := F0, g_is_number := PySem.W.mg_of X G a0, b_is_number := F0.binds (ps := ["thing"]) fun _ _ _ _ _ _ us hl => match us, hl with | [_], _ => rfl,
    f_is_between := f1, fd_is_between := _, F_is_between := F1, g_is_between := PySem.W.mg_of X G a1, b_is_between := F1.binds (ps := ["thing", "low", "high"]) fun _ _ _ _ _ _ us hl => match us, hl with | [_, _, _], _ => rfl,
    f_consists_of := f2, fd_consists_of := _, F_consists_of := F2, g_consists_of := PySem.W.mg_of X G a2, b_consists_of := F2.binds (ps := ["thing", "marks"]) fun _ _ _ _ _ _ us hl => match us, hl with | [_, _], _ => rfl,
    f_is_body := f3, fd_is_body := _, F_is_body := F3, g_is_body := PySem.W.mg_of X G a3, b_is_body := F3.binds (ps := ["thing"]) fun _ _ _ _ _ _ us hl => match us, hl with | [_], _ => rfl,
    f_is_plain_code := f4, fd_is_plain_code := _, F_is_plain_code := F4, g_is_plain_code := PySem.W.mg_of X G a4, b_is_plain_code := F4.binds (ps := ["thing"]) fun _ _ _ _ _ _ us hl => match us, hl with | [_], _ => rfl,
    f_is_code := f5, fd_is_code := _, F_is_code := F5, g_is_code := PySem.W.mg_of X G a5, b_is_code := F5.binds (ps := ["thing"]) fun _ _ _ _ _ _ us hl => match us, hl with | [_], _ => rfl,
    f_mark_of := f6, fd_mark_of := _, F_mark_of := F6, g_mark_of := PySem.W.mg_of X G a6, b_mark_of := F6.binds (ps := ["code"]) fun _ _ _ _ _ _ us hl => match us, hl with | [_], _ => rfl,
    f__text_with := f7, fd__text_with := _, F__text_with := F7, g__text_with := PySem.W.mg_of X G a7, b__text_with := F7.binds (ps := ["codes"]) fun _ _ _ _ _ _ us hl => match us, hl with | [_], _ => rfl,
    f__shown := f8, fd__shown := _, F__shown := F8, g__shown := PySem.W.mg_of X G a8, b__shown := F8.binds (ps := ["code"]) fun _ _ _ _ _ _ us hl => match us, hl with | [_], _ => rfl,
    f_has_shape := f9, fd_has_shape := _, F_has_shape := F9, g_has_shape := PySem.W.mg_of X G a9, b_has_shape := F9.binds (ps := ["word"]) fun _ _ _ _ _ _ us hl => match us, hl with | [_], _ => rfl,
    f__is_word := f10, fd__is_word := _, F__is_word := F10, g__is_word := PySem.W.mg_of X G a10, b__is_word := F10.binds (ps := ["thing"]) fun _ _ _ _ _ _ us hl => match us, hl with | [_], _ => rfl,
    f_is_width := f11, fd_is_width := _, F_is_width := F11, g_is_width := PySem.W.mg_of X G a11, b_is_width := F11.binds (ps := ["thing"]) fun _ _ _ _ _ _ us hl => match us, hl with | [_], _ => rfl,
    f_plain_pieces := f12, fd_plain_pieces := _, F_plain_pieces := F12, g_plain_pieces := PySem.W.mg_of X G a12, ds_plain_pieces := ds12, vi_plain_pieces := vi12, bd_plain_pieces := bd12,
    f_pieces_of_parts := f13, fd_pieces_of_parts := _, F_pieces_of_parts := F13, g_pieces_of_parts := PySem.W.mg_of X G a13, b_pieces_of_parts := F13.binds (ps := ["parts", "literals"]) fun _ _ _ _ _ _ us hl => match us, hl with | [_, _], _ => rfl,
    f__is_literal := f14, fd__is_literal := _, F__is_literal := F14, g__is_literal := PySem.W.mg_of X G a14, b__is_literal := F14.binds (ps := ["part", "width"]) fun _ _ _ _ _ _ us hl => match us, hl with | [_, _], _ => rfl,
    f__law_begin := f15, fd__law_begin := _, F__law_begin := F15, g__law_begin := PySem.W.mg_of X G a15, b__law_begin := F15.binds (ps := ["script"]) fun _ _ _ _ _ _ us hl => match us, hl with | [_], _ => rfl,
    f__law_mixed := f16, fd__law_mixed := _, F__law_mixed := F16, g__law_mixed := PySem.W.mg_of X G a16, b__law_mixed := F16.binds (ps := ["cell", "k"]) fun _ _ _ _ _ _ us hl => match us, hl with | [_, _], _ => rfl,
    f__law_next := f17, fd__law_next := _, F__law_next := F17, g__law_next := PySem.W.mg_of X G a17, b__law_next := F17.binds (ps := ["draw", "bound"]) fun _ _ _ _ _ _ us hl => match us, hl with | [_, _], _ => rfl,
    f__law_marks := f18, fd__law_marks := _, F__law_marks := F18, g__law_marks := PySem.W.mg_of X G a18, b__law_marks := F18.binds (ps := []) fun _ _ _ _ _ _ us hl => match us, hl with | [], _ => rfl,
    f__law_sign := f19, fd__law_sign := _, F__law_sign := F19, g__law_sign := PySem.W.mg_of X G a19, b__law_sign := F19.binds (ps := ["number"]) fun _ _ _ _ _ _ us hl => match us, hl with | [_], _ => rfl,
    f__law_numbers := f20, fd__law_numbers := _, F__law_numbers := F20, g__law_numbers := PySem.W.mg_of X G a20, b__law_numbers := F20.binds (ps := ["draw", "most"]) fun _ _ _ _ _ _ us hl => match us, hl with | [_, _], _ => rfl,
    f__law_width := f21, fd__law_width := _, F__law_width := F21, g__law_width := PySem.W.mg_of X G a21, b__law_width := F21.binds (ps := ["draw"]) fun _ _ _ _ _ _ us hl => match us, hl with | [_], _ => rfl,
    f__law_parts := f22, fd__law_parts := _, F__law_parts := F22, g__law_parts := PySem.W.mg_of X G a22, b__law_parts := F22.binds (ps := ["numbers"]) fun _ _ _ _ _ _ us hl => match us, hl with | [_], _ => rfl,
    f__law_literal := f23, fd__law_literal := _, F__law_literal := F23, g__law_literal := PySem.W.mg_of X G a23, b__law_literal := F23.binds (ps := ["part", "wide"]) fun _ _ _ _ _ _ us hl => match us, hl with | [_, _], _ => rfl,
    f__law_pieces_due := f24, fd__law_pieces_due := _, F__law_pieces_due := F24, g__law_pieces_due := PySem.W.mg_of X G a24, b__law_pieces_due := F24.binds (ps := ["numbers", "wide"]) fun _ _ _ _ _ _ us hl => match us, hl with | [_, _], _ => rfl,
    f__law_text_numbers := f25, fd__law_text_numbers := _, F__law_text_numbers := F25, g__law_text_numbers := PySem.W.mg_of X G a25, b__law_text_numbers := F25.binds (ps := ["draw", "wide"]) fun _ _ _ _ _ _ us hl => match us, hl with | [_, _], _ => rfl,
    f__law_right := f26, fd__law_right := _, F__law_right := F26, g__law_right := PySem.W.mg_of X G a26, b__law_right := F26.binds (ps := ["numbers", "wide"]) fun _ _ _ _ _ _ us hl => match us, hl with | [_, _], _ => rfl,
    f_law := fa, fd_law := _, F_law := F27, g_law := PySem.W.mg_of X G a27, b_law := F27.binds (ps := ["script"]) fun _ _ _ _ _ _ us hl => match us, hl with | [_], _ => rfl,
    t_MARKS := t0, g_MARKS := PySem.W.mg_of X G v0,
    t__MISSING_CODE := t1, g__MISSING_CODE := PySem.W.mg_of X G v1,
    t__SPACE := t2, g__SPACE := PySem.W.mg_of X G v2,
    t__SHORTEST_SHAPE := t3, g__SHORTEST_SHAPE := PySem.W.mg_of X G v3,
    t__NARROWEST := t4, g__NARROWEST := PySem.W.mg_of X G v4,
    t__WIDEST := t5, g__WIDEST := PySem.W.mg_of X G v5,
    m_len := PySem.W.mg_none_of X G z0,
    m_range := PySem.W.mg_none_of X G z1,
    m_isinstance := PySem.W.mg_none_of X G z2,
    m_int := PySem.W.mg_none_of X G z3,
    m_str := PySem.W.mg_none_of X G z4,
    m_bool := PySem.W.mg_none_of X G z5,
    m_all := PySem.W.mg_none_of X G z6,
    m_ord := PySem.W.mg_none_of X G z7,
    m_tuple := PySem.W.mg_none_of X G z8,
    m_list := PySem.W.mg_none_of X G z9,
    m_enumerate := PySem.W.mg_none_of X G z10,
    m_zip := PySem.W.mg_none_of X G z11,
    C_Text := CText, g_Text := PySem.W.mg_of X G aText, c_Text := ⟨pgText, hdText, poText, saText⟩, sf_Text := sfText, ty_Text := fun H a dx fs e => .base (.ins e ⟨pgText, hdText, poText, saText⟩ hcText uhnText uhtText moText), ks_Text := XS.kit_self,
    nf_Text__codes := nfText0,
    f_Text___init__ := fText0, fd_Text___init__ := _, F_Text___init__ := FText0, mk_Text := ⟨mkText, iText0, nText0, kcText⟩, ds_Text := dsText0, vi_Text := viText0, bd_Text := bdText0,
    f_Text_of := fText1, fd_Text_of := _, F_Text_of := FText1, b_Text_of := FText1.binds (ps := ["cls", "codes"]) fun _ _ _ _ _ _ us hl => match us, hl with | [_, _], _ => rfl, p_Text_of := pText1, cr_Text := ⟨rdText, gaText⟩, cm_Text_of := ⟨iText1, ⟨_, qText1⟩, nText1⟩,
    f_Text_joined := fText2, fd_Text_joined := _, F_Text_joined := FText2, b_Text_joined := FText2.binds (ps := ["texts"]) fun _ _ _ _ _ _ us hl => match us, hl with | [_], _ => rfl, p_Text_joined := pText2, sm_Text_joined := ⟨iText2, ⟨_, qText2⟩, kText2⟩,
    f_Text_codes := fText3, fd_Text_codes := _, F_Text_codes := FText3, b_Text_codes := FText3.binds (ps := ["self"]) fun _ _ _ _ _ _ us hl => match us, hl with | [_], _ => rfl, p_Text_codes := pText3, pp_Text_codes := ⟨iText3, gText3, tText3, ⟨_, qText3⟩⟩,
    f_Text_is_plain := fText4, fd_Text_is_plain := _, F_Text_is_plain := FText4, b_Text_is_plain := FText4.binds (ps := ["self"]) fun _ _ _ _ _ _ us hl => match us, hl with | [_], _ => rfl, p_Text_is_plain := pText4, pp_Text_is_plain := ⟨iText4, gText4, tText4, ⟨_, qText4⟩⟩,
    f_Text_cut := fText5, fd_Text_cut := _, F_Text_cut := FText5, b_Text_cut := FText5.binds (ps := ["self"]) fun _ _ _ _ _ _ us hl => match us, hl with | [_], _ => rfl, at_Text_cut := iText5, if_Text_cut := nText5,
    f_Text___len__ := fText6, fd_Text___len__ := _, F_Text___len__ := FText6, b_Text___len__ := FText6.binds (ps := ["self"]) fun _ _ _ _ _ _ us hl => match us, hl with | [_], _ => rfl, at_Text___len__ := iText6, if_Text___len__ := nText6,
    f_Text___str__ := fText7, fd_Text___str__ := _, F_Text___str__ := FText7, b_Text___str__ := FText7.binds (ps := ["self"]) fun _ _ _ _ _ _ us hl => match us, hl with | [_], _ => rfl, at_Text___str__ := iText7, if_Text___str__ := nText7,
    f_Text___eq__ := fText8, fd_Text___eq__ := _, F_Text___eq__ := FText8, b_Text___eq__ := FText8.binds (ps := ["self", "other"]) fun _ _ _ _ _ _ us hl => match us, hl with | [_, _], _ => rfl, at_Text___eq__ := iText8, if_Text___eq__ := nText8 }
  exact ⟨_, fun s v => .of_eq rfl, fun base _ _ => ok_law T⟩
end K19
open PySem PySem.W PyProof.Rows
set_option maxRecDepth 100000 in
set_option maxHeartbeats 0 in
theorem PySem.Challenge.cw_headerfold_k19_plain_pieces_holds : PySem.Challenge.rw_headerfold_k19_plain_pieces.Holds := by
  w_on; o_law; k_head; (case hw => w_witness2)
  k_fill
  refine L2.walk_ofG (l := PySem.Challenge.rw_headerfold_k19_plain_pieces) (n := 63) (k := 11) (x := "script") (sp := K19.spLaw) rfl (by decide) rfl ⟨rfl, by decide, by decide⟩ (fun w h Y => PySem.W.kIn_of Y) ?F (fun _ _ a ns hl hS => ⟨a, ns, rfl, hS, hl, fun _ => rfl⟩)
  case F =>
    intro w mg fa h KX G hmg
    refine' K19.all_mk KX G hmg ?a0 ?l0 ?c0 ?k0 ?a1 ?l1 ?c1 ?k1 ?a2 ?l2 ?c2 ?k2 ?a3 ?l3 ?c3 ?k3 ?a4 ?l4 ?c4 ?k4 ?a5 ?l5 ?c5 ?k5 ?a6 ?l6 ?c6 ?k6 ?a7 ?l7 ?c7 ?k7 ?a8 ?l8 ?c8 ?k8 ?a9 ?l9 ?c9 ?k9 ?a10 ?l10 ?c10 ?k10 ?a11 ?l11 ?c11 ?k11 ?a12 ?l12 ?c12 ?k12 ?kw12x0 ?a13 ?l13 ?c13 ?k13 ?a14 ?l14 ?c14 ?k14 ?a15 ?l15 ?c15 ?k15 ?a16 ?l16 ?c16 ?k16 ?a17 ?l17 ?c17 ?k17 ?a18 ?l18 ?c18 ?k18 ?a19 ?l19 ?c19 ?k19 ?a20 ?l20 ?c20 ?k20 ?a21 ?l21 ?c21 ?k21 ?a22 ?l22 ?c22 ?k22 ?a23 ?l23 ?c23 ?k23 ?a24 ?l24 ?c24 ?k24 ?a25 ?l25 ?c25 ?k25 ?a26 ?l26 ?c26 ?k26 ?a27 ?l27 ?c27 ?k27 ?aText ?pgText ?hdText ?poText ?saText ?mkText ?kcText ?sfText ?hcText ?moText ?uhnText ?uhtText ?nfText0 ?rdText ?gaText ?iText0 ?nText0 ?lText0 ?lDText0 ?cText0 ?kText0 ?iText1 ?qText1 ?nText1 ?lText1 ?cText1 ?kText1 ?iText2 ?qText2 ?lText2 ?cText2 ?kText2 ?iText3 ?gText3 ?tText3 ?qText3 ?lText3 ?cText3 ?kText3 ?iText4 ?gText4 ?tText4 ?qText4 ?lText4 ?cText4 ?kText4 ?iText5 ?nText5 ?lText5 ?cText5 ?kText5 ?iText6 ?nText6 ?lText6 ?cText6 ?kText6 ?iText7 ?nText7 ?lText7 ?cText7 ?kText7 ?iText8 ?nText8 ?lText8 ?cText8 ?kText8 ?v0 ?v1 ?v2 ?v3 ?v4 ?v5 ?z0 ?z1 ?z2 ?z3 ?z4 ?z5 ?z6 ?z7 ?z8 ?z9 ?z10 ?z11
    (case a0 => k_is)
    (case l0 => k_is)
    (case c0 => k_is)
    (case k0 => k_is)
    (case a1 => k_is)
    (case l1 => k_is)
    (case c1 => k_is)
    (case k1 => k_is)
    (case a2 => k_is)
    (case l2 => k_is)
    (case c2 => k_is)
    (case k2 => k_is)
    (case a3 => k_is)
    (case l3 => k_is)
    (case c3 => k_is)
    (case k3 => k_is)
    (case a4 => k_is)
    (case l4 => k_is)
    (case c4 => k_is)
    (case k4 => k_is)
    (case a5 => k_is)
    (case l5 => k_is)
    (case c5 => k_is)
    (case k5 => k_is)
    (case a6 => k_is)
    (case l6 => k_is)
    (case c6 => k_is)
    (case k6 => k_is)
    (case a7 => k_is)
    (case l7 => k_is)
    (case c7 => k_is)
    (case k7 => k_is)
    (case a8 => k_is)
    (case l8 => k_is)
    (case c8 => k_is)
    (case k8 => k_is)
    (case a9 => k_is)
    (case l9 => k_is)
    (case c9 => k_is)
    (case k9 => k_is)
    (case a10 => k_is)
    (case l10 => k_is)
    (case c10 => k_is)
    (case k10 => k_is)
    (case a11 => k_is)
    (case l11 => k_is)
    (case c11 => k_is)
    (case k11 => k_is)
    (case a12 => k_is)
    (case l12 => k_is)
    (case c12 => k_is)
    (case k12 => k_is)
    (case kw12x0 => k_is)
    (case a13 => k_is)
    (case l13 => k_is)
    (case c13 => k_is)
    (case k13 => k_is)
    (case a14 => k_is)
    (case l14 => k_is)
    (case c14 => k_is)
    (case k14 => k_is)
    (case a15 => k_is)
    (case l15 => k_is)
    (case c15 => k_is)
    (case k15 => k_is)
    (case a16 => k_is)
    (case l16 => k_is)
    (case c16 => k_is)
    (case k16 => k_is)
    (case a17 => k_is)
    (case l17 => k_is)
    (case c17 => k_is)
    (case k17 => k_is)
    (case a18 => k_is)
    (case l18 => k_is)
    (case c18 => k_is)
    (case k18 => k_is)
    (case a19 => k_is)
    (case l19 => k_is)
    (case c19 => k_is)
    (case k19 => k_is)
    (case a20 => k_is)
    (case l20 => k_is)
    (case c20 => k_is)
    (case k20 => k_is)
    (case a21 => k_is)
    (case l21 => k_is)
    (case c21 => k_is)
    (case k21 => k_is)
    (case a22 => k_is)
    (case l22 => k_is)
    (case c22 => k_is)
    (case k22 => k_is)
    (case a23 => k_is)
    (case l23 => k_is)
    (case c23 => k_is)
    (case k23 => k_is)
    (case a24 => k_is)
    (case l24 => k_is)
    (case c24 => k_is)
    (case k24 => k_is)
    (case a25 => k_is)
    (case l25 => k_is)
    (case c25 => k_is)
    (case k25 => k_is)
    (case a26 => k_is)
    (case l26 => k_is)
    (case c26 => k_is)
    (case k26 => k_is)
    (case a27 => k_is)
    (case l27 => k_is)
    (case c27 => k_is)
    (case k27 => k_is)
    (case aText => k_is)
    (case pgText => k_is)
    (case hdText => k_is)
    (case poText => k_is)
    (case saText => k_is)
    (case mkText => k_is)
    (case kcText => k_is)
    (case sfText => k_is)
    (case hcText => k_is)
    (case moText => k_is)
    (case uhnText => k_is)
    (case uhtText => k_is)
    (case nfText0 => k_is)
    (case rdText => k_is)
    (case gaText => k_is)
    (case iText0 => k_is)
    (case nText0 => k_is)
    (case lText0 => k_is)
    (case lDText0 => k_is)
    (case cText0 => k_is)
    (case kText0 => k_is)
    (case iText1 => k_is)
    (case qText1 => k_is)
    (case nText1 => k_is)
    (case lText1 => k_is)
    (case cText1 => k_is)
    (case kText1 => k_is)
    (case iText2 => k_is)
    (case qText2 => k_is)
    (case lText2 => k_is)
    (case cText2 => k_is)
    (case kText2 => k_is)
    (case iText3 => k_is)
    (case gText3 => k_is)
    (case tText3 => k_is)
    (case qText3 => k_is)
    (case lText3 => k_is)
    (case cText3 => k_is)
    (case kText3 => k_is)
    (case iText4 => k_is)
    (case gText4 => k_is)
    (case tText4 => k_is)
    (case qText4 => k_is)
    (case lText4 => k_is)
    (case cText4 => k_is)
    (case kText4 => k_is)
    (case iText5 => k_is)
    (case nText5 => k_is)
    (case lText5 => k_is)
    (case cText5 => k_is)
    (case kText5 => k_is)
    (case iText6 => k_is)
    (case nText6 => k_is)
    (case lText6 => k_is)
    (case cText6 => k_is)
    (case kText6 => k_is)
    (case iText7 => k_is)
    (case nText7 => k_is)
    (case lText7 => k_is)
    (case cText7 => k_is)
    (case kText7 => k_is)
    (case iText8 => k_is)
    (case nText8 => k_is)
    (case lText8 => k_is)
    (case cText8 => k_is)
    (case kText8 => k_is)
    (case v0 => k_is)
    (case v1 => k_is)
    (case v2 => k_is)
    (case v3 => k_is)
    (case v4 => k_is)
    (case v5 => k_is)
    (case z0 => k_is)
    (case z1 => k_is)
    (case z2 => k_is)
    (case z3 => k_is)
    (case z4 => k_is)
    (case z5 => k_is)
    (case z6 => k_is)
    (case z7 => k_is)
    (case z8 => k_is)
    (case z9 => k_is)
    (case z10 => k_is)
    (case z11 => k_is)
    all_goals exact Value.none
