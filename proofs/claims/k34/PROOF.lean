import PyProof.Rows.All
import Wide.All
import OpenK.AllK
import Wide.FinOn
import PyProof.EqAt
import PyProof.EqKinds
import PyProof.TupleCall
import PyProof.ReprRoads
import HandS.Base
import HandS.Call
import HandS.List
import HandS.Text
import HandS.Ends
import HandS.Words
import HandS.EndBits
import HandS.Comp
import HandS.Dict
import HandS.Iter
import HandS.WordsList
import HandS.WordsDict
import HandS.WideBits
import HandS.Wide
import HandS.IsInst
import HandS.RaiseMore
import HandS.TupAny
import HandS.Steps
import KE.KExcSuper
import HandS.Exc
import HandS.ExcInit
import HandS.ExcSuper
import HandS.ExcIs
import HandS.TryMany
import HandS.ExcValue
import HandS.ExcField
import KE.KExcIs
import HandS.Style
import HandS.WordsExc
import HandS.ExcOwn
import KE.KExcInit
import PyProof.Rows.StrIntSpec
import PyProof.FString3
import HandS.FStr
import HandS.OwnEq
import HandS.Property
import HandS.ClsMeth
import HandS.Defaults
import HandS.MakeKw
import HandS.More
import PyProof.NeKinds
import KE.KCallOwn
import KE.GoesEnum
import HandS.Replace
import HandS.StrMore
import HandS.Star
import KE.KRevSl
import PyProof.Rows.StrPadFill
import PyProof.Rows.StrPadWhole
import HandS.Walk
import PyProof.StrLawsIn
import KE.GoesZip
import KE.GoesMore
import PyProof.Rows.RegFStrParts
import PySem.Challenge.RW_headerfold_k34_days_and_their_numbers
set_option Elab.async false
set_option linter.all false
set_option maxRecDepth 100000
set_option maxHeartbeats 4000000
namespace L2
open PySem PySem.Spec PyProof.Rows
section
variable {X : Cx} {pins : List (Addr × Obj)} {σ : St} {H : Hp} {s : Shared}
/-- list + list, both to be read (locked ones and the module's own too) -/
def rCatS (K : PySem.W.Frag) : R2 := fun x y H Q => ∃ l b xs zs, x = .ref l ∧ y = .ref b ∧ SqL K H l xs ∧ SqL K H b zs ∧ xs.length + zs.length ≤ sizeLine ∧ ∀ p, H p = none → Q (.ref p) (upd H p (.lst (xs ++ zs)))
theorem op_catS : OpR X (binaryOp .Add) (rCatS X.K) := by
  intro pins s σ H x y v u Q I rx ry h
  obtain ⟨l, b, xs, zs, rfl, rfl, hH, hB, hz, q⟩ := h
  cases rx
  cases ry
  obtain ⟨its, r, ⟨⟨c1, d1, a1, s1⟩, n, ho, hc, hd, hs⟩, _⟩ := I.list hH
  obtain ⟨its2, r2, ⟨⟨c2, d2, a2, s2⟩, n2, ho2, hc2, hd2, hs2⟩, _⟩ := I.list hB
  simp only at hc hd hs hc2 hd2 hs2
  subst hc hd hs hc2 hd2 hs2
  have hl := r.length
  have hl2 := r2.length
  have ea : its.toArray ++ its2.toArray = (its ++ its2).toArray := by simp
  refine concat_meets ⟨_, ho, rfl⟩ ⟨_, ho2, rfl⟩ noFill_list_add seq_list_add F.slot_list_add F.entry_list_add (F.args_list_add_2 _ _) (list_addW l b its.toArray its2.toArray n n2 none none s1 s2 (by rw [List.size_toArray, List.size_toArray]; omega)) ⟨ho, ho2, ?_⟩
  rw [ea]
  exact ⟨.ref _, _, I.lnew (t' := s.toks) (r.append r2) (by rw [List.length_append]; omega), rfl, q _ I.fresh⟩
/-- repr of data -/
def rRepr (K : PySem.W.Frag) : List V → Hp → VK → Prop := fun xs H Q => ∃ a d, xs = [.ref a] ∧ Dp K H (.ref a) d ∧ d.showable = true ∧ d.hasDict = false ∧ d.depth ≤ 20 ∧ d.shown.length ≤ sizeLine ∧ Q (.str d.shown) H
end
end L2
namespace L2
open PySem PySem.Spec PyProof.Rows
/-- the promise of a def that is called while no text of an object is being made (repr asks that) -/
structure FnG (P : Program) (w : World) (K : PySem.W.Frag) (mg : Str → Option Value) (base : Heap) (CX : CXT) (k : Nat) (f : Addr) (fd : FuncData) (ps : List Str) (sp : Sp) : Prop where
  len : ∀ vs H Q E, sp vs H Q E → vs.length = ps.length
  go : ∀ (A : Around), A.guards = some [] → Room k A → ∀ (out : List Env) (s : Shared) (H : Hp), Env0 P w K mg base A out s H → ∀ (args : Args) (us : List Value) (vs : List V), BindsTo s fd args (ps.zip us) → Vals vs us → ∀ (Q : VK) (E : XK), sp vs H Q E →
    codeAny (model P w) A (.call (.ref f) args) (CR CX out P w H s Q E) s
section
variable {P : Program} {w : World} {K : PySem.W.Frag} {mg : Str → Option Value} {base : Heap} {CX : CXT} {k : Nat} {f : Addr} {fd : FuncData} {ps : List Str} {sp : Sp}
theorem FnOk.toG (F : FnOk P w K mg base CX k f fd ps sp) : FnG P w K mg base CX k f fd ps sp := ⟨F.len, fun A _ hr out s H e0 args us vs hb hv Q E hs => F.run A out s H args us vs Q E hr e0 hb hv hs⟩
theorem fnG_of {name qual : Str} {params : Arguments} {body : List Stmt} {scope : Scope} {dV kV doc pm cdv ct oc : Value} {an od : Option Addr} {osl : Array (Option Value)} {N : List Str}
    (lk : K.lookup f = some ⟨oc, od, .func (PySem.W.fnOf name qual params body scope dV kV doc pm an cdv ct), osl⟩) (hcd : PySem.W.codeIn K cdv qual = true) (S : FnScope N ps scope) (len : ∀ vs H Q E, sp vs H Q E → vs.length = ps.length)
    (hb : ∀ (A : Around), A.guards = some [] → ∀ (out : List Env) (s : Shared) (H : Hp) (vs : List V) (Q : VK) (E : XK), Room k (A.deeper (envOfC qual scope s.heap.objs.size f cdv)) → sp vs H Q E →
      ∃ t, PSs (cxOf CX P w K mg base N qual scope f cdv A out s H E) body t ∧ t { nx := fun _ H' => Q .non H', rt := Q } (start N vs) H) :
    FnG P w K mg base CX (k + 1) f (PySem.W.fnOf name qual params body scope dV kV doc pm an cdv ct) ps sp := by
  refine ⟨len, fun A hG hr out s H e0 args us vs hbd r Q E hsp => ?_⟩
  have hl := len _ _ _ _ hsp
  have KX : K.In s.heap := e0.mod.kin.keeps fun c z q => (e0.bs c z q).1
  have lim : s.heap.NoLimit := e0.mod.nolimit.keeps fun c z q => (e0.bs c z q).1
  have hk2 : ∀ z ∈ ps.zip us, scope.names.lookup z.1 = some .local ∨ (scope.names.lookup z.1 = some .cell ∧ ((cellsFrom (s.heap.objs.size + 1) scope.names []).lookup z.1).isSome = true) := by
    intro z hz
    rcases S.par z.1 (List.of_mem_zip (a := z.1) (b := z.2) hz).1 with g | g
    · exact Or.inl g
    · exact Or.inr ⟨g, PySem.W.cellsFrom_some _ _ _ (Or.inl g)⟩
  refine codeAny_call_function hr.depth (KX f _ lk) rfl S.co S.gen rfl (PySem.W.codeRec_of KX hcd) (hbd _ _ _ _ ?_)
  refine wpAny_newFunctionEnv_cells S.kind hk2 fun env he s2 x => ?_
  cases he
  refine ⟨lim.keeps x.toInCall.keep, codeAny_func ?_⟩
  obtain ⟨t, ht, hq⟩ := hb A hG out s H vs Q E (Room.deeper hr _) hsp
  have J0 : Inv (cxOf CX P w K mg base N qual scope f cdv A out s H E) [] (start N vs) H s2 := inv_start S hr.hd e0 hl r x
  refine wpAny_mono (ht.run [] s2 (start N vs) H _ J0 hq) (fun fl s3 h3 => ?_) (fun _ _ z => z)
  match fl, h3 with
  | .ret u, ⟨v, σ', H', J, rv, q⟩ => exact ⟨v, H', J.os, J.bare, J.base, J.hok, rv, q⟩
  | .next, ⟨σ', H', J, q⟩ => exact ⟨V.non, H', J.os, J.bare, J.base, J.hok, (rfl : RelV V.non Value.none), q⟩
  | .brk, ⟨_, _, _, q⟩ => exact q.elim
  | .cont, ⟨_, _, _, q⟩ => exact q.elim
theorem Fun.okG {x qual : Str} {st : Stmt} {N : List Str} (F : Fun K x qual st f fd) (S : FnScope N ps (defScope st)) (len : ∀ vs H Q E, sp vs H Q E → vs.length = ps.length)
    (hb : ∀ (cdv : Value) (A : Around), A.guards = some [] → ∀ (out : List Env) (s : Shared) (H : Hp) (vs : List V) (Q : VK) (E : XK), Room k (A.deeper (envOfC qual (defScope st) s.heap.objs.size f cdv)) → sp vs H Q E →
      ∃ t, PSs (cxOf CX0 P w K mg base N qual (defScope st) f cdv A out s H E).nox (defBody st) t ∧ t { nx := fun _ H' => Q .non H', rt := Q } (start N vs) H) : FnG P w K mg base CX0 (k + 1) f fd ps sp := by
  obtain ⟨oc, od, kV, doc, pm, an, cdv, ct, osl, rfl, lk, hcd⟩ := F.ex
  refine fnG_of lk hcd S len fun A hG out s H vs Q E hr hsp => ?_
  obtain ⟨t, h, q⟩ := hb cdv A hG out s H vs Q E hr hsp
  exact ⟨t, PSs.nox h, q⟩
end
section
variable {X : Cx} {CX : CXT} {k : Nat} {f : Addr} {fd : FuncData} {ps : List Str} {sp : Sp} {dvs : List V} {ds : List Value} {E : XK} {x : Str} {p pos : Pos} {e : Expr} {es : List Expr} {t : TA}
theorem run_fnG {pins : List (Addr × Obj)} {σ : St} {H : Hp} {s : Shared} {Q : VK} {us : List Value} {vs : List V} (F : FnG X.prog X.w X.K X.mg X.base CX k f fd ps sp) (hG : X.A.guards = some []) (hr : Room k X.A) (hb : Binds X.K fd ps ds) (hd : Vals dvs ds) (hx : Passes CX X E)
    (I : Inv X pins σ H s) (r : Vals vs us) (h : sp (vs ++ dvs) H Q E) : wpAny (model X.prog X.w) X.A (call (.ref f) us) (EP X pins σ Q) X.xe s := by
  have r2 : Vals (vs ++ dvs) (us ++ ds) := r.append hd
  have hl : (us ++ ds).length = ps.length := r2.length ▸ F.len _ _ _ _ h
  refine wpAny_call (codeAny_mono (F.go X.A hG hr X.stack s H I.env0 ⟨us, []⟩ (us ++ ds) (vs ++ dvs) (hb s us I.kIn hl) r2 Q E h) fun o s2 hq => ?_)
  match o, hq with
  | .error e, hq => exact hx pins σ H s e s2 I hq
  | .ok (.ret u), hq => exact I.after hq
/-- f(e, ..) of such a def -/
theorem pe_callG (F : FnG X.prog X.w X.K X.mg X.base CX k f fd ps sp) (hG : X.A.guards = some []) (hr : Room k X.A) (hg : Gl X x) (hm : X.mg x = some (.ref f)) (hk : PySem.W.keepIn X.K (.ref f) = true) (hb : Binds X.K fd ps ds) (hd : Vals dvs ds) (hx : Passes CX X E)
    (ha : PA X (e :: es) t) (hdb : (x == ("__debug__" : Str)) = false := by decide) (he : starEach (e :: es) X.env = (false, eval e X.env) :: starEach es X.env := by rfl) (hpl : (backTo pos (starEach es X.env)).any (·.1) = false := by rfl) :
    PE X (.Call (.Name x p) (e :: es) [] pos) (tCall sp dvs E t) := ⟨fun pins s σ H Q I h =>
  wpAny_Call_Name_kw (ld_glob I hg hm (PySem.W.callWith_K (h₀ := X.base) I.ok.mod.kin hk (thn (ha.run pos pins s σ H _ I h) fun us s1 ⟨vs, H1, I1, r, q⟩ => ⟨I1.kIn, run_fnG F hG hr hb hd hx I1 r q⟩) he hpl) hdb)⟩
/-- repr(x) -/
theorem call_repr (hG : X.A.guards = some []) (hu : X.A.units + 64 < cLine) : CallR X (.builtin "repr") (rRepr X.K) := by
  intro pins s σ H xs us Q I r h
  obtain ⟨a, d, rfl, hd, h1, h2, h3, h4, q⟩ := h
  obtain ⟨u, rfl, ru⟩ := vals1 r
  cases (show u = Value.ref a from ru)
  obtain ⟨as, rd⟩ := Dp.reads I d _ _ hd (rfl : RelV (V.ref a) (Value.ref a))
  refine repr_of_reads' (h₀ := s.heap) rd h1 (fun z => absurd (h2.symm.trans z) (by decide)) hG (by omega) (fun _ _ z => z) (fun h' u tk hk => ?_) h4
  exact ⟨.str d.shown, H, I.kept hk, ⟨u, rfl⟩, q⟩
end
end L2
namespace L2
open PySem PySem.Spec PyProof.Rows
/-- the end of a law whose def runs where no text of an object is being made -/
theorem law_goG {P : Program} {w : World} {K : PySem.W.Frag} {mg mb : Str → Option Value} {k : Nat} {fa a : Addr} {fd : FuncData} {x : Str} {sp : Sp} {z : Shared} {vs : List Value} {ns : List Int}
    (KX : K.In z.heap) (hns : z.heap.Ns mainGlobals mg) (hb : z.heap.Ns builtinsNs mb) (hbb : ∀ x : Str, x ≠ "__name__" → mb x = bootBuiltins x) (hlim : z.heap.NoLimit) (hg : z.gens = #[])
    (ha : z.heap.get? a = some { cls := .type "list", data := .seq vs.toArray }) (hi : IntsAre vs ns) (hl : ns.length ≤ sizeLine) (hr : Room k callerA)
    (F : ∀ base : Heap, K.In base → base.Ns mainGlobals mg → FnG P w K mg base CX0 k fa fd [x] sp) (hbind : ∀ (s : Shared) (u : Value), BindsTo s fd ⟨[u], []⟩ [(x, u)])
    (hsp : ∀ H : Hp, SqL K H a (ns.map V.int) → sp [.ref a] H (fun v _ => v = .bl true) fun _ _ _ => False) :
    codeAny (model P w) callerA (.call (.ref fa) ⟨[.ref a], []⟩) (fun r y => r = .ok (.ret (.bool true)) ∧ OldK z.heap y.heap ∧ y.os = z.os ∧ AllBare y.gens) z := by
  let ob : Obj := { cls := .type "list", data := .seq vs.toArray }
  let H : Hp := fun b => if b = a ∧ K.lookup a = none then some (.frz ob (.lst (ns.map V.int))) else none
  have rv := vals_ints hi
  have lenV := hi.length
  have Ha : K.lookup a = none → H a = some (.frz ob (.lst (ns.map V.int))) := fun e => if_pos ⟨rfl, e⟩
  have Hn : ∀ b, ¬ (b = a ∧ K.lookup a = none) → H b = none := fun b e => if_neg e
  have Hs : ∀ {b o}, H b = some o → b = a ∧ K.lookup a = none ∧ o = .frz ob (.lst (ns.map V.int)) := fun {b o} e => by
    by_cases hba : b = a ∧ K.lookup a = none
    · rw [show H b = some (.frz ob (.lst (ns.map V.int))) from if_pos hba] at e
      exact ⟨hba.1, hba.2, (Option.some.inj e).symm⟩
    · rw [Hn b hba] at e
      cases e
  have hok : HOk P w H z.heap := by
    intro b o e
    obtain ⟨e1, e2, e3⟩ := Hs e
    subst e1 e3
    exact ⟨ha, by rw [List.length_map]; exact hl, vs, _, rv, ha⟩
  have dn : ∀ {b : Addr} {o : Obj} {es : Array DictEntry} {ep : Nat}, z.heap.get? b = some o → o.data = .dict es ep → H b = none := by
    intro b o es ep e d
    refine Hn b fun q => ?_
    rw [q.1, ha] at e
    cases e
    cases d
  have nsK : ∀ {b : Addr} {m : Str → Option Value}, z.heap.Ns b m → (hidT z.heap H).Ns b m := fun ⟨o, es, ep, e, d, r⟩ => ⟨o, es, ep, hidT_get e (dn e d), d, r⟩
  have KB : K.In (hidT z.heap H) := by
    intro b o e
    refine hidT_get (KX b o e) (Hn b fun q => ?_)
    rw [q.1, q.2] at e
    cases e
  have M : Mod K mg (hidT z.heap H) := ⟨KB, nsK hns, ⟨mb, nsK hb, hbb⟩, let ⟨mc, h1, h2⟩ := hlim; ⟨mc, nsK h1, h2⟩⟩
  have e0 : Env0 P w K mg (hidT z.heap H) callerA [] z H := ⟨rfl, M, fun _ _ e => of_hidT e, Nat.le_of_eq (hidT_size _ _), trivial, fun _ q => (nomatch q), hok, .of_eq hg⟩
  have SA : SqL K H a (ns.map V.int) := by
    cases hk : K.lookup a with
    | none => exact Or.inl (Or.inr ⟨ob, Ha hk⟩)
    | some o =>
      have e := KX a o hk
      rw [ha] at e
      cases e
      exact Or.inr ⟨_, vs.toArray, _, hk, rfl, rfl, rfl, by rw [List.size_toArray, lenV]; exact hl, by simpa using rv⟩
  refine codeAny_mono ((F _ KB (nsK hns)).go callerA rfl hr [] z H e0 ⟨[.ref a], []⟩ [.ref a] [.ref a] (hbind z (.ref a)) (.cons rfl .nil) _ _ (hsp H SA)) fun r y h => ?_
  match r, h with
  | .error e, h => exact h.elim
  | .ok (.ret u), ⟨v, H2, os, bare, un, hok2, rv2, q⟩ =>
    cases (show v = V.bl true from q)
    cases (show u = Value.bool true from rv2)
    refine ⟨rfl, OldK.of_keep fun b o e => ?_, os, bare⟩
    by_cases hba : b = a ∧ K.lookup a = none
    · obtain ⟨rfl, h2⟩ := hba
      obtain ⟨e2, _⟩ := hok2 b _ (un.frzs b ob _ (Ha h2))
      rw [ha] at e
      cases e
      exact e2
    · exact un.keep b o e (Hn b hba) (fun q => nomatch q) (fun q => nomatch q)
/-- the goal that k_head leaves, for a law by FnG; the script's bits are not told -/
theorem walk_ofG {l : PySem.W.OpenLaw} {n k : Nat} {q : Program} {loose : List Str} {XP : (Str → Option Value) → Heap → Prop} {YP : World → Heap → Prop} {d : DefRec} {K : Params → PySem.W.Frag} {sp : PySem.W.Frag → Sp} {x : Str}
    (hn : l.most = some n) (hn2 : n ≤ sizeLine) (hdf : d.params.defaults = []) (hr : Room k callerA) (hY : ∀ (w : World) (h : Heap), YP w h → (K w.params).In h)
    (F : ∀ (w : World) (mg : Str → Option Value) (fa : Addr) (h : Heap), (K w.params).In h → h.Ns mainGlobals mg → mg d.name = some (.ref fa) →
      ∃ fd : FuncData, (∀ (s : Shared) (u : Value), BindsTo s fd ⟨[u], []⟩ [(x, u)]) ∧ ∀ base : Heap, (K w.params).In base → base.Ns mainGlobals mg → FnG l.prog w (K w.params) mg base CX0 k fa fd [x] (sp (K w.params)))
    (hsp : ∀ (K : PySem.W.Frag) (H : Hp) (a : Addr) (ns : List Int), ns.length ≤ n → SqL K H a (ns.map V.int) → sp K [.ref a] H (fun v _ => v = .bl true) fun _ _ _ => False) :
    PySem.W.WalkO q loose XP YP l.row.toRowW d [] (fun f vs => PySem.call f vs) :=
  Att.attach_call hn hdf fun w _ s1 mg mb fa o pm cd doc a vs ns G Y ho hd hcd hmg hobj hints hlen hg => by
    obtain ⟨fd, hb, hF⟩ := F w mg fa _ (hY w _ Y) G.T.g hmg
    exact law_goG (hY w _ Y) G.T.g G.T.b G.T.builtins G.T.nolimit hg hobj hints (Nat.le_trans hlen hn2) hr hF hb fun H hS => hsp _ H a ns hlen hS
end L2
namespace L2
open PySem PySem.Spec PyProof.Rows
/-- values in another order -/
def picked {α : Type} (d : α) (ix : List Nat) (ws : List α) : List α := ix.map fun i => ws.getD i d
theorem picked_vals {zs : List V} {ws : List Value} (r : Vals zs ws) (ix : List Nat) : Vals (picked V.non ix zs) (picked Value.none ix ws) := by
  induction ix with
  | nil => exact .nil
  | cons i r2 ih =>
    refine .cons ?_ ih
    show RelV (zs.getD i V.non) (ws.getD i Value.none)
    have hl := r.length
    by_cases hi : i < zs.length
    · have e1 : zs[i]? = some (zs.getD i V.non) := by rw [List.getD_eq_getElem?_getD, List.getElem?_eq_getElem hi]; rfl
      obtain ⟨u, e2, ru⟩ := r.get e1
      rw [show ws.getD i Value.none = u by rw [List.getD_eq_getElem?_getD, e2]; rfl]
      exact ru
    · rw [List.getD_eq_getElem?_getD, List.getD_eq_getElem?_getD, List.getElem?_eq_none (by omega), List.getElem?_eq_none (by omega)]
      exact (rfl : RelV V.non Value.none)
/-- how a call by keywords alone binds -/
def KwB (K : PySem.W.Frag) (fd : FuncData) (ps ks : List Str) (ix : List Nat) : Prop := ix.length = ps.length ∧ ∀ (s : Shared) (ws : List Value), K.In s.heap → ws.length = ks.length → BindsTo s fd ⟨[], ks.zip ws⟩ (ps.zip (picked Value.none ix ws))
def tKw0 (sp : Sp) (n : Nat) (ix : List Nat) (E : XK) (t : TA) : TE := fun σ H Q => t σ H fun vs H1 => vs.length = n ∧ sp (picked V.non ix vs) H1 Q E
section
variable {X : Cx} {CX : CXT} {k : Nat} {f : Addr} {fd : FuncData} {ps ks : List Str} {sp : Sp} {E : XK} {x : Str} {p pos : Pos} {kws : List Keyword} {t : TA} {ix : List Nat}
/-- f(k = v, ..) -/
theorem pe_kw0 (F : FnOk X.prog X.w X.K X.mg X.base CX k f fd ps sp) (hr : Room k X.A) (hg : Gl X x) (hm : X.mg x = some (.ref f)) (hk : PySem.W.keepIn X.K (.ref f) = true) (hb : KwB X.K fd ps ks ix) (hx : Passes CX X E)
    (ha : PK X kws t) (hall : (backToKw pos (keywordEach kws X.env)).all (·.1.isSome) = true := by rfl) (hks : (backToKw pos (keywordEach kws X.env)).filterMap (·.1) = ks := by rfl) (hdb : (x == ("__debug__" : Str)) = false := by decide)
    (hpl : ((backTo pos (starEach [] X.env)).any (·.1) || (backToKw pos (keywordEach kws X.env)).any (·.1.isNone)) = false := by rfl) : PE X (.Call (.Name x p) [] kws pos) (tKw0 sp ks.length ix E t) := by
  refine ⟨fun pins s σ H Q I h => wpAny_Call_Name_kw (ld_glob I hg hm ?_ hdb)⟩
  refine PySem.W.callWith_KW0 (h₀ := X.base) I.ok.mod.kin hk hall (thn (ha.run pos pins s σ H _ I h) fun ws s2 ⟨zs, H2, I2, rz, hl, q2⟩ => ⟨I2.kIn, ?_⟩) hpl
  rw [hks]
  have r2 := picked_vals rz ix
  refine wpAny_call (codeAny_mono (F.run X.A X.stack s2 H2 ⟨[], ks.zip ws⟩ (picked Value.none ix ws) (picked V.non ix zs) Q E hr I2.env0 (hb.2 s2 ws I2.kIn (rz.length.symm.trans hl)) r2 q2) fun o s3 hq => ?_)
  match o, hq with
  | .error e, hq => exact hx pins σ H2 s2 e s3 I2 hq
  | .ok (.ret u), hq => exact I2.after hq
end
section
variable {K : PySem.W.Frag} {x qual : Str} {st : Stmt} {f : Addr} {fd : FuncData} {ps ks : List Str} {ix : List Nat}
theorem Fun.kwb (F : Fun K x qual st f fd) (hix : ix.length = ps.length) (h : ∀ (kV doc pm : Value) (an : Option Addr) (cdv ct : Value) (us : List Value), us.length = ks.length → bindArgs (PySem.W.fnOf x qual (defArgs st) (defBody st) (defScope st) .none kV doc pm an cdv ct) ⟨[], ks.zip us⟩ = pure (ps.zip (picked Value.none ix us))) : KwB K fd ps ks ix := by
  obtain ⟨oc, od, kV, doc, pm, an, cdv, ct, osl, rfl, lk, hcd⟩ := F.ex
  exact ⟨hix, fun s ws _ hl => .of_eq (h kV doc pm an cdv ct ws hl)⟩
end
/-! ### readings, one step each: what stands at the head -/
section
variable {σ : St} {H : Hp} {Q : VK} {D : Ends} {ta tb tc te : TE} {t u : TS} {v : V} {i : Nat} {a b : TT} {K : PySem.W.Frag}
theorem g_seq (h : t { D with nx := u D } σ H) : tSeq t u D σ H := h
theorem g_asg {g : TG} (h : te σ H fun x H1 => g x σ H1 D.nx) : tAsg te g D σ H := h
theorem g_name {Q : St → Hp → Prop} (h : Q (σ.set i (some v)) H) : gName i v σ H Q := h
theorem g_var (e : σ[i]? = some (some v)) (h : Q v H) : tVar i σ H Q := ⟨v, e, h⟩
theorem g_c (h : Q v H) : tC v σ H Q := h
theorem g_op {r : R2} (h : ta σ H fun x H1 => tb σ H1 fun y H2 => r x y H2 Q) : tOp r ta tb σ H Q := h
theorem g_un {r : V → Hp → VK → Prop} (h : ta σ H fun x H1 => r x H1 Q) : tUn r ta σ H Q := h
theorem g_I0 {g : Int → Int → V} {i j : Int} (h : Q (g i j) H) : rI0 g (.int i) (.int j) H Q := ⟨i, j, rfl, rfl, h⟩
theorem g_I {C : Int → Int → Prop} {g : Int → Int → V} {i j : Int} (c : C i j) (h : Q (g i j) H) : rI C g (.int i) (.int j) H Q := ⟨i, j, rfl, rfl, c, h⟩
theorem g_U {g : Int → V} {i : Int} (h : Q (g i) H) : rU g (.int i) H Q := ⟨i, rfl, h⟩
theorem g_eq {x y : V} (c : scal x y = true) (h : Q (.bl (decide (x = y))) H) : rEq x y H Q := ⟨c, h⟩
theorem g_ne {x y : V} (c : scal x y = true) (h : Q (.bl (!decide (x = y))) H) : rNe x y H Q := ⟨c, h⟩
theorem g_tcons {tr : TA} {Q : List V → Hp → Prop} (h : ta σ H fun x H1 => tr σ H1 fun xs H2 => Q (x :: xs) H2) : tCons ta tr σ H Q := h
theorem g_tnil {Q : List V → Hp → Prop} (h : Q [] H) : tNil σ H Q := h
theorem g_call {sp : Sp} {dvs : List V} {E : XK} {tr : TA} (h : tr σ H fun vs H1 => sp (vs ++ dvs) H1 Q E) : tCall sp dvs E tr σ H Q := h
theorem g_cb {r : List V → Hp → VK → Prop} {tr : TA} (h : tr σ H fun vs H1 => r vs H1 Q) : tCB r tr σ H Q := h
theorem g_tup {tr : TA} (h : tr σ H fun xs H1 => xs.length ≤ sizeLine ∧ ∀ p, H1 p = none → Q (.ref p) (upd H1 p (.tup xs))) : tTup tr σ H Q := h
theorem g_lst {tr : TA} (h : tr σ H fun xs H1 => xs.length ≤ sizeLine ∧ ∀ p, H1 p = none → Q (.ref p) (upd H1 p (.lst xs))) : tLst tr σ H Q := h
theorem g_ret (h : te σ H D.rt) : tRet te D σ H := h
theorem g_drop (h : te σ H fun _ H1 => D.nx σ H1) : tDrop te D σ H := h
theorem g_next (h : D.nx σ H) : tNext D σ H := h
theorem g_cont (h : D.ct σ H) : tCont D σ H := h
theorem g_break (h : D.bk σ H) : tBreak D σ H := h
theorem g_ifs (h : a σ H fun b H1 => if b = true then t D σ H1 else u D σ H1) : tIfS a t u D σ H := h
theorem g_ife (h : a σ H fun c H1 => if c = true then ta σ H1 Q else tb σ H1 Q) : tIf a ta tb σ H Q := h
theorem g_test {Q : Bool → Hp → Prop} (h : te σ H fun x H1 => ∃ k, x = .bl k ∧ Q k H1) : tTest te σ H Q := h
theorem g_tb {Q : Bool → Hp → Prop} (h : te σ H fun x H1 => ∃ k, x = .bl k ∧ Q k H1) : tB te σ H Q := h
theorem g_and {Q : Bool → Hp → Prop} (h : a σ H fun c H1 => if c = true then b σ H1 Q else Q false H1) : tAnd a b σ H Q := h
theorem g_or {Q : Bool → Hp → Prop} (h : a σ H fun c H1 => if c = true then Q true H1 else b σ H1 Q) : tOr a b σ H Q := h
theorem g_not {Q : Bool → Hp → Prop} (h : a σ H fun c H1 => Q (!c) H1) : tNot a σ H Q := h
theorem g_andV (h : ta σ H fun x H1 => ∃ c, x = .bl c ∧ if c = true then tb σ H1 Q else Q (.bl false) H1) : tAndV ta tb σ H Q := h
theorem g_orV (h : ta σ H fun x H1 => ∃ c, x = .bl c ∧ if c = true then Q (.bl true) H1 else tb σ H1 Q) : tOrV ta tb σ H Q := h
theorem g_notV (h : ta σ H fun x H1 => ∃ c, x = .bl c ∧ Q (.bl (!c)) H1) : tNotV ta σ H Q := h
theorem g_bl {k : Bool} {P : Bool → Prop} (h : P k) : ∃ c, V.bl k = V.bl c ∧ P c := ⟨k, rfl, h⟩
theorem g_chain {r r' : R2} (h : ta σ H fun x H1 => tb σ H1 fun y H2 => r x y H2 fun z H3 => ∃ k, z = .bl k ∧ (if k = true then tc σ H3 fun w' H4 => r' y w' H4 Q else Q (.bl false) H3)) : tChain r r' ta tb tc σ H Q := h
theorem g_dget (h : ta σ H fun x H1 => tb σ H1 fun y H2 => ∃ a v, x = .ref a ∧ DGet H2 a y (some v) ∧ Q v H2) : tDGet ta tb σ H Q := h
theorem g_dput (h : tc σ H fun v H1 => ta σ H1 fun x H2 => tb σ H2 fun y H3 => ∃ a H4, x = .ref a ∧ DPut H3 a y v H4 ∧ D.nx σ H4) : sDPut ta tb tc D σ H := h
theorem g_for {wi : TI} {g : TG} (h : wi σ H fun J H1 => ∃ W : Nat → Nat → St → Hp → Prop, (∃ m, W 0 m σ H1) ∧ ∀ i m σ H, W i m σ H → (J.stop i H ∧ D.nx σ H) ∨ (J.go i H ∧ ∃ N : St → Hp → Prop, (∀ σ' H', N σ' H' → ∃ m', m' < m ∧ W (i + 1) m' σ' H') ∧ ∀ x H', J.yld i H x H' → g x σ H' fun σ2 H2 => t { D with nx := N, ct := N, bk := D.nx } σ2 H2)) : tFor wi g t D σ H := h
theorem g_ilist {R : It → Hp → Prop} (h : ta σ H fun x H1 => ∃ a, x = .ref a ∧ (∃ xs, SqL K H1 a xs) ∧ R (Itl K a) H1) : iList K ta σ H R := h
theorem g_istr {R : It → Hp → Prop} (h : ta σ H fun v H1 => ∃ x, v = .str x ∧ R (Its x) H1) : iStr ta σ H R := h
theorem g_irng1 {tr : TA} {R : It → Hp → Prop} (h : tr σ H fun vs H1 => ∃ j : Int, vs = [.int j] ∧ -(2 ^ 62) ≤ j ∧ j < 2 ^ 62 ∧ R (Itr 0 j.toNat) H1) : iRng1 tr σ H R := h
theorem g_itrue {c : Bool} {A B : Prop} (e : c = true) (h : A) : if c = true then A else B := by rw [if_pos e]; exact h
theorem g_ifalse {c : Bool} {A B : Prop} (e : c = false) (h : B) : if c = true then A else B := by rw [e, if_neg Bool.false_ne_true]; exact h
theorem g_if {c : Bool} {A B : Prop} (h1 : c = true → A) (h2 : c = false → B) : if c = true then A else B := by
  cases c with
  | true => rw [if_pos rfl]; exact h1 rfl
  | false => rw [if_neg Bool.false_ne_true]; exact h2 rfl
end
end L2
namespace Dr
open PySem L2
/-! the draws of the laws: a dict with four keys -/
def dkv (l : Addr) (a lf u : Int) : List (Key × V) := [(Sum.inr ("cells" : Str), .ref l), (Sum.inr ("at" : Str), .int a), (Sum.inr ("left" : Str), .int lf), (Sum.inr ("used" : Str), .int u)]
theorem n1 : ¬ ((Sum.inr ("cells" : Str) : Key) = Sum.inr ("at" : Str)) := by decide +kernel
theorem n2 : ¬ ((Sum.inr ("cells" : Str) : Key) = Sum.inr ("left" : Str)) := by decide +kernel
theorem n3 : ¬ ((Sum.inr ("cells" : Str) : Key) = Sum.inr ("used" : Str)) := by decide +kernel
theorem n4 : ¬ ((Sum.inr ("at" : Str) : Key) = Sum.inr ("left" : Str)) := by decide +kernel
theorem n5 : ¬ ((Sum.inr ("at" : Str) : Key) = Sum.inr ("used" : Str)) := by decide +kernel
theorem n6 : ¬ ((Sum.inr ("left" : Str) : Key) = Sum.inr ("used" : Str)) := by decide +kernel
theorem m1 : ¬ (("cells" : Str) = "at") := by decide +kernel
theorem m2 : ¬ (("cells" : Str) = "left") := by decide +kernel
theorem m3 : ¬ (("cells" : Str) = "used") := by decide +kernel
theorem m4 : ¬ (("at" : Str) = "cells") := by decide +kernel
theorem m5 : ¬ (("at" : Str) = "left") := by decide +kernel
theorem m6 : ¬ (("at" : Str) = "used") := by decide +kernel
theorem m7 : ¬ (("left" : Str) = "cells") := by decide +kernel
theorem m8 : ¬ (("left" : Str) = "at") := by decide +kernel
theorem m9 : ¬ (("left" : Str) = "used") := by decide +kernel
theorem m10 : ¬ (("used" : Str) = "cells") := by decide +kernel
theorem m11 : ¬ (("used" : Str) = "at") := by decide +kernel
theorem m12 : ¬ (("used" : Str) = "left") := by decide +kernel
variable {l : Addr} {a lf u z : Int} {H : Hp} {d : Addr}
theorem v_cells : valV (dkv l a lf u) (Sum.inr ("cells" : Str)) = some (.ref l) := valV_pos rfl
theorem v_at : valV (dkv l a lf u) (Sum.inr ("at" : Str)) = some (.int a) := by unfold dkv; rw [valV_neg n1, valV_pos rfl]
theorem v_left : valV (dkv l a lf u) (Sum.inr ("left" : Str)) = some (.int lf) := by unfold dkv; rw [valV_neg n2, valV_neg n4, valV_pos rfl]
theorem v_used : valV (dkv l a lf u) (Sum.inr ("used" : Str)) = some (.int u) := by unfold dkv; rw [valV_neg n3, valV_neg n5, valV_neg n6, valV_pos rfl]
theorem p_at : putK (dkv l a lf u) (Sum.inr ("at" : Str)) (.int z) = dkv l z lf u := by simp [putK, mergeK, dkv, m1, m2, m3, m4, m5, m6, m7, m8, m9, m10, m11, m12]
theorem p_left : putK (dkv l a lf u) (Sum.inr ("left" : Str)) (.int z) = dkv l a z u := by simp [putK, mergeK, dkv, m1, m2, m3, m4, m5, m6, m7, m8, m9, m10, m11, m12]
theorem p_used : putK (dkv l a lf u) (Sum.inr ("used" : Str)) (.int z) = dkv l a lf z := by simp [putK, mergeK, dkv, m1, m2, m3, m4, m5, m6, m7, m8, m9, m10, m11, m12]
theorem mrg : mergeK [] [((Sum.inr ("cells" : Str) : Key), V.ref l), (Sum.inr ("at" : Str), .int a), (Sum.inr ("left" : Str), .int lf), (Sum.inr ("used" : Str), .int u)] = dkv l a lf u := by
  simp [putK, mergeK, dkv, m1, m2, m3, m4, m5, m6, m7, m8, m9, m10, m11, m12]
theorem get_cells (h : H d = some (.dK (dkv l a lf u))) : DGet H d (.str "cells") (some (.ref l)) := by rw [← v_cells (a := a) (lf := lf) (u := u)]; exact DGet.k (k := Sum.inr ("cells" : Str)) h
theorem get_at (h : H d = some (.dK (dkv l a lf u))) : DGet H d (.str "at") (some (.int a)) := by rw [← v_at (l := l) (lf := lf) (u := u)]; exact DGet.k (k := Sum.inr ("at" : Str)) h
theorem get_left (h : H d = some (.dK (dkv l a lf u))) : DGet H d (.str "left") (some (.int lf)) := by rw [← v_left (l := l) (a := a) (u := u)]; exact DGet.k (k := Sum.inr ("left" : Str)) h
theorem get_used (h : H d = some (.dK (dkv l a lf u))) : DGet H d (.str "used") (some (.int u)) := by rw [← v_used (l := l) (a := a) (lf := lf)]; exact DGet.k (k := Sum.inr ("used" : Str)) h
theorem put_at (h : H d = some (.dK (dkv l a lf u))) : DPut H d (.str "at") (.int z) (upd H d (.dK (dkv l z lf u))) := by rw [← p_at (a := a)]; exact DPut.k (k := Sum.inr ("at" : Str)) h (by show 4 < _; decide)
theorem put_left (h : H d = some (.dK (dkv l a lf u))) : DPut H d (.str "left") (.int z) (upd H d (.dK (dkv l a z u))) := by rw [← p_left (lf := lf)]; exact DPut.k (k := Sum.inr ("left" : Str)) h (by show 4 < _; decide)
theorem put_used (h : H d = some (.dK (dkv l a lf u))) : DPut H d (.str "used") (.int z) (upd H d (.dK (dkv l a lf z))) := by rw [← p_used (u := u)]; exact DPut.k (k := Sum.inr ("used" : Str)) h (by show 4 < _; decide)
/-- the draws stand at d, at most m of them are used -/
def Draw (H : Hp) (d l : Addr) (m : Nat) : Prop := ∃ (ns : List Int) (a lf u : Int), H d = some (.dK (dkv l a lf u)) ∧ H l = some (.lst (ns.map V.int)) ∧ 0 < ns.length ∧ ns.length ≤ 64 ∧ 0 ≤ a ∧ a ≤ m ∧ 0 ≤ lf ∧ 0 ≤ u ∧ u ≤ m
/-- all but what stands at d is kept -/
def Kp (d : Addr) (H H' : Hp) : Prop := ∀ p o, p ≠ d → H p = some o → H' p = some o
theorem Kp.refl : Kp d H H := fun _ _ _ h => h
theorem Kp.trans {H1 H2 : Hp} (a : Kp d H H1) (b : Kp d H1 H2) : Kp d H H2 := fun p o n h => b p o n (a p o n h)
theorem Kp.new {p : Addr} {o : HO} (h : H p = none) : Kp d H (upd H p o) := fun b x _ e => by rw [upd_ne (ne_of_none e h)]; exact e
theorem Kp.at {o : HO} : Kp d H (upd H d o) := fun b x n e => by rw [upd_ne n]; exact e
theorem Kp.mut {p : Addr} {o : HO} {H1 : Hp} (k : Kp d H H1) (h : H p = none) : Kp d H (upd H1 p o) := fun b x n e => by
  rw [upd_ne (ne_of_none e h)]
  exact k b x n e
theorem Draw.mono {m m' : Nat} (D : Draw H d l m) (h : m ≤ m') : Draw H d l m' := by
  obtain ⟨ns, a, lf, u, h1, h2, h3, h4, h5, h6, h7, h8, h9⟩ := D
  exact ⟨ns, a, lf, u, h1, h2, h3, h4, h5, by omega, h7, h8, by omega⟩
theorem Draw.ne {m : Nat} {p : Addr} (D : Draw H d l m) (h : H p = none) : p ≠ d := by
  obtain ⟨ns, a, lf, u, h1, _⟩ := D
  exact fun e => by rw [e, h1] at h; cases h
/-- a new object leaves the draws -/
theorem Draw.upd {m : Nat} {p : Addr} {o : HO} (D : Draw H d l m) (h : H p = none) : Draw (L2.upd H p o) d l m := by
  obtain ⟨ns, a, lf, u, h1, h2, h3⟩ := D
  exact ⟨ns, a, lf, u, by rw [upd_ne (ne_of_none h1 h)]; exact h1, by rw [upd_ne (ne_of_none h2 h)]; exact h2, h3⟩
theorem Draw.nel {m : Nat} {p : Addr} (D : Draw H d l m) (h : H p = none) : p ≠ l := by
  obtain ⟨ns, a, lf, u, h1, h2, _⟩ := D
  exact fun e => by rw [e, h2] at h; cases h
/-- a change elsewhere leaves the draws -/
theorem Draw.mut {m : Nat} {p : Addr} {o : HO} (D : Draw H d l m) (n1 : p ≠ d) (n2 : p ≠ l) : Draw (L2.upd H p o) d l m := by
  obtain ⟨ns, a, lf, u, h1, h2, h3⟩ := D
  exact ⟨ns, a, lf, u, by rw [upd_ne n1.symm]; exact h1, by rw [upd_ne n2.symm]; exact h2, h3⟩
/-- heaps that know all that an elder one knew -/
theorem Draw.same {H' : Hp} {m : Nat} (D : Draw H d l m) (s : ∀ p o, H p = some o → H' p = some o) : Draw H' d l m := by
  obtain ⟨ns, a, lf, u, h1, h2, h3⟩ := D
  exact ⟨ns, a, lf, u, s _ _ h1, s _ _ h2, h3⟩
/-- the promise of _law_next -/
def spNext : Sp := fun vs H Q _ => ∃ (d l : Addr) (m : Nat) (b : Int), vs = [.ref d, .int b] ∧ Draw H d l m ∧ m < 1000000 ∧ 0 < b ∧ b < 1000000 ∧
  ∀ (r : Int) (H' : Hp), 0 ≤ r → r < b → Draw H' d l (m + 1) → Kp d H H' → (∀ p, H p = none → H' p = none) → Q (.int r) H'
/-- the promise of _law_mixed -/
def spMixed : Sp := fun vs H Q _ => ∃ c k : Int, vs = [.int c, .int k] ∧ 0 ≤ k ∧ k ≤ 1000000 ∧ ∀ r : Int, 0 ≤ r → r < 2147483648 → Q (.int r) H
/-- the promise of _law_begin -/
def spBegin (K : PySem.W.Frag) : Sp := fun vs H Q _ => ∃ (a : Addr) (ns : List Int), vs = [.ref a] ∧ SqL K H a (ns.map V.int) ∧ ns.length ≤ 63 ∧ ∀ (d l : Addr) (H' : Hp), H d = none → H l = none → Draw H' d l 0 → (∀ p o, H p = some o → H' p = some o) → Q (.ref d) H'
/-! the numbers -/
theorem mixA {c k : Int} (hk : 0 ≤ k) : 0 ≤ (c % 1000000007 + 7919 * k * k + 31 * k + 7) := by
  have h1 : 0 ≤ c % 1000000007 := Int.emod_nonneg _ (by decide)
  have h2 : 0 ≤ 7919 * k * k := Int.mul_nonneg (Int.mul_nonneg (by decide) hk) hk
  omega
theorem modB {x : Int} {n : Int} (hn : 0 < n) : 0 ≤ x % n ∧ x % n < n := ⟨Int.emod_nonneg _ (by omega), Int.emod_lt_of_pos _ hn⟩
end Dr
namespace L2
open PySem
section
variable {A B : Prop}
theorem g_ifd {p : Prop} [Decidable p] (h1 : p → A) (h2 : ¬ p → B) : if decide p = true then A else B := by
  by_cases h : p
  · rw [if_pos (decide_eq_true h)]; exact h1 h
  · rw [if_neg (fun z => h (of_decide_eq_true z))]; exact h2 h
theorem g_ifn {p : Prop} [Decidable p] (h1 : ¬ p → A) (h2 : p → B) : if (!decide p) = true then A else B := by
  by_cases h : p
  · rw [decide_eq_true h]; exact (iteF (h2 h))
  · rw [decide_eq_false h]; exact (iteT (h1 h))
end
section
variable {σ : St} {H : Hp} {Q : VK} {K : PySem.W.Frag}
theorem g_ixl {p : Addr} {xs : List V} {i : Int} {v : V} (h : SqL K H p xs) (e : atI xs i = some v) (q : Q v H) : rIxL K (.ref p) (.int i) H Q := ⟨p, xs, i, v, rfl, rfl, h, e, q⟩
theorem g_ixt {p : Addr} {xs : List V} {i : Int} {v : V} (h : SqT K H p xs) (e : atI xs i = some v) (q : Q v H) : rIxT K (.ref p) (.int i) H Q := ⟨p, xs, i, v, rfl, rfl, h, e, q⟩
theorem g_dgets {d : Addr} {y v : V} {N : V → Prop} (h : DGet H d y (some v)) (q : N v) : ∃ a v1, V.ref d = .ref a ∧ DGet H a y (some v1) ∧ N v1 := ⟨d, v, rfl, h, q⟩
theorem g_dputs {d : Addr} {y v : V} {H' : Hp} {N : Hp → Prop} (h : DPut H d y v H') (q : N H') : ∃ a H4, V.ref d = .ref a ∧ DPut H a y v H4 ∧ N H4 := ⟨d, H', rfl, h, q⟩
end
section
variable {X : Cx} {x : Str} {pos : Pos} {z : Str} {i : Int} {t : Tok} {n : String}
theorem pe_gs (hg : Gl X x) (hm : X.mg x = some (.str z t)) (hdb : (x == ("__debug__" : Str)) = false := by decide) : PE X (.Name x pos) (tC (.str z)) := pe_glob (v := .str z) hg hm ⟨t, rfl⟩ hdb
theorem pe_gi (hg : Gl X x) (hm : X.mg x = some (.int i t)) (hdb : (x == ("__debug__" : Str)) = false := by decide) : PE X (.Name x pos) (tC (.int i)) := pe_glob (v := .int i) hg hm ⟨t, rfl⟩ hdb
theorem pe_ty (hg : Gl X x) (hm : X.mg x = none) (hv : bootBuiltins x = some (.type n)) (hn : x ≠ "__name__" := by decide) (hdb : (x == ("__debug__" : Str)) = false := by decide) : PE X (.Name x pos) (tC (.ty n)) := pe_bltn (v := .ty n) hg hm hv rfl hn hdb
end
/-! names for readings that have none -/
section
variable {X : Cx} {H : Hp} {Q : VK} {K : PySem.W.Frag} {σ : St} {ta tb : TE}
def rLen1 (K : PySem.W.Frag) : List V → Hp → VK → Prop := fun xs H Q => ∃ p ys, xs = [.ref p] ∧ (SqL K H p ys ∨ SqT K H p ys) ∧ Q (.int ys.length) H
theorem call_len1 : CallR X (.builtin "len") (rLen1 X.K) := call_len_seq
theorem g_len {p : Addr} {ys : List V} (h : SqL K H p ys) (q : Q (.int ys.length) H) : rLen1 K [.ref p] H Q := ⟨p, ys, rfl, Or.inl h, q⟩
theorem g_lent {p : Addr} {ys : List V} (h : SqT K H p ys) (q : Q (.int ys.length) H) : rLen1 K [.ref p] H Q := ⟨p, ys, rfl, Or.inr h, q⟩
def rLenZ : List V → Hp → VK → Prop := fun xs H Q => ∃ z, xs = [.str z] ∧ z.length ≤ sizeLine ∧ Q (.int z.length) H
theorem call_lenZ : CallR X (.builtin "len") rLenZ := call_len_str
theorem g_lenz {z : Str} (h : z.length ≤ sizeLine) (q : Q (.int z.length) H) : rLenZ [.str z] H Q := ⟨z, rfl, h, q⟩
def rMin1 : List V → Hp → VK → Prop := fun xs H Q => ∃ i j, xs = [.int i, .int j] ∧ Q (.int (if j < i then j else i)) H
theorem call_min1 (hc : X.calm = true) : CallR X (.builtin "min") rMin1 := call_min2 hc
theorem g_min {i j : Int} (q : Q (.int (if j < i then j else i)) H) : rMin1 [.int i, .int j] H Q := ⟨i, j, rfl, q⟩
def rMax1 : List V → Hp → VK → Prop := fun xs H Q => ∃ i j, xs = [.int i, .int j] ∧ Q (.int (if j > i then j else i)) H
theorem call_max1 (hc : X.calm = true) : CallR X (.builtin "max") rMax1 := call_max2 hc
theorem g_max {i j : Int} (q : Q (.int (if j > i then j else i)) H) : rMax1 [.int i, .int j] H Q := ⟨i, j, rfl, q⟩
def rOrd1 : List V → Hp → VK → Prop := fun xs H Q => ∃ x, xs = [.str x] ∧ x.length = 1 ∧ Q (.int (x.cps.getD 0 0 : Nat)) H
theorem call_ord1 : CallR X (.builtin "ord") rOrd1 := call_ord
theorem g_ord {c : Nat} (q : Q (.int (c : Nat)) H) : rOrd1 [.str ⟨#[c]⟩] H Q := ⟨_, rfl, rfl, q⟩
def rCatZ : R2 := fun x y H Q => ∃ i j, x = .str i ∧ y = .str j ∧ i.length + j.length ≤ sizeLine ∧ Q (.str (i ++ j)) H
theorem op_addZ : OpR X (binaryOp .Add) rCatZ := op_add_str
theorem g_addz {i j : Str} (h : i.length + j.length ≤ sizeLine) (q : Q (.str (i ++ j)) H) : rCatZ (.str i) (.str j) H Q := ⟨i, j, rfl, rfl, h, q⟩
def rLtZ : R2 := fun x y H Q => ∃ i j, x = .str i ∧ y = .str j ∧ Q (.bl (decide (i.cps.toList < j.cps.toList))) H
theorem op_ltZ : OpR X (compareOp .Lt) rLtZ := op_lt_str
theorem g_ltz {i j : Str} (q : Q (.bl (decide (i.cps.toList < j.cps.toList))) H) : rLtZ (.str i) (.str j) H Q := ⟨i, j, rfl, rfl, q⟩
theorem g_isn {x : V} (q : Q (.bl (decide (x = .non))) H) : rIsN x .non H Q := ⟨rfl, q⟩
theorem g_notn {x : V} (q : Q (.bl (!decide (x = .non))) H) : rNotN x .non H Q := ⟨rfl, q⟩
theorem g_inS {c : Nat} {z : Str} (q : Q (.bl (decide (c ∈ z.cps.toList))) H) : rInS (.str ⟨#[c]⟩) (.str z) H Q := ⟨c, z, rfl, rfl, q⟩
theorem g_notInS {c : Nat} {z : Str} (q : Q (.bl (!decide (c ∈ z.cps.toList))) H) : rNotInS (.str ⟨#[c]⟩) (.str z) H Q := ⟨c, z, rfl, rfl, q⟩
theorem g_ixz {z : Str} {i : Int} {c : Nat} (h : z.length ≤ sizeLine) (e : atI z.cps.toList i = some c) (q : Q (.str ⟨#[c]⟩) H) : rIxS (.str z) (.int i) H Q := ⟨z, i, c, rfl, rfl, h, e, q⟩
theorem g_isi {x c : V} {t u : Value} {b : Bool} (k : ClsV c u) (ty : TyX K H x t) (e : PySem.W.kitOne K t u = some b) (q : Q (.bl b) H) : rIsi K [x, c] H Q := ⟨x, c, t, u, b, rfl, k, ty, e, q⟩
theorem g_all {a : Addr} {bs : List Bool} (h : SqL K H a (bs.map V.bl)) (q : Q (.bl (bs.all id)) H) : rAll K [.ref a] H Q := ⟨a, bs, rfl, h, q⟩
theorem g_any {a : Addr} {bs : List Bool} (h : SqL K H a (bs.map V.bl)) (q : Q (.bl (bs.any id)) H) : rAny K [.ref a] H Q := ⟨a, bs, rfl, h, q⟩
theorem g_cats {l b : Addr} {xs zs : List V} (h1 : SqL K H l xs) (h2 : SqL K H b zs) (h3 : xs.length + zs.length ≤ sizeLine) (q : ∀ p, H p = none → Q (.ref p) (upd H p (.lst (xs ++ zs)))) : rCatS K (.ref l) (.ref b) H Q := ⟨l, b, xs, zs, rfl, rfl, h1, h2, h3, q⟩
theorem g_eqd {x y : V} {d e : PyData} (h1 : Dp K H x d) (h2 : Dp K H y e) (s1 : SeqAt.shaped d = true) (s2 : SeqAt.shaped e = true) (q : Q (.bl (PyData.eqv d e)) H) : rEqD K x y H Q := ⟨d, e, h1, h2, s1, s2, q⟩
theorem g_ned {x y : V} {d e : PyData} (h1 : Dp K H x d) (h2 : Dp K H y e) (s1 : SeqAt.shaped d = true) (s2 : SeqAt.shaped e = true) (q : Q (.bl (!PyData.eqv d e)) H) : rNeD K x y H Q := ⟨d, e, h1, h2, s1, s2, q⟩
theorem g_sl {tl th : TO} {r : V → Option Int → Option Int → Hp → VK → Prop} (h : ta σ H fun x H1 => tl σ H1 fun l H2 => th σ H2 fun u H3 => r x l u H3 Q) : tSl r ta tl th σ H Q := h
theorem g_nop {Q : Option Int → Hp → Prop} (h : Q none H) : tNoPart σ H Q := h
theorem g_part {Q : Option Int → Hp → Prop} (h : ta σ H fun x H1 => ∃ i, x = .int i ∧ Q (some i) H1) : tPart ta σ H Q := h
theorem g_int {i : Int} {N : Int → Prop} (q : N i) : ∃ j, V.int i = .int j ∧ N j := ⟨i, rfl, q⟩
theorem g_slz {z : Str} {lo hi : Option Int} (h : z.length ≤ sizeLine) (q : Q (.str (cutS z lo hi)) H) : rSlS (.str z) lo hi H Q := ⟨z, rfl, h, q⟩
theorem g_m1 {r : V → List V → Hp → VK → Prop} (h : ta σ H fun x H1 => (∃ a, x = .str a) ∧ tb σ H1 fun y H2 => r x [y] H2 Q) : tM1 r ta tb σ H Q := h
theorem g_m0 {r : V → List V → Hp → VK → Prop} (h : ta σ H fun x H1 => (∃ a, x = .str a) ∧ r x [] H1 Q) : tM0 r ta σ H Q := h
theorem g_isz {z : Str} {N : Prop} (h : N) : (∃ a, V.str z = .str a) ∧ N := ⟨⟨z, rfl⟩, h⟩
def rJoinV (K : PySem.W.Frag) : V → List V → Hp → VK → Prop := fun x xs H Q => ∃ a p, ∃ ys : List Str, x = .str a ∧ xs = [.ref p] ∧ (SqL K H p (ys.map V.str) ∨ SqT K H p (ys.map V.str)) ∧ (ys.map (·.length)).sum + ys.length * a.length ≤ 16777216 ∧ Q (.str (Txt.join a ys)) H
theorem mt_joinV : MtR X "str.join" (rJoinV X.K) := mt_join
theorem g_join {a : Str} {p : Addr} {ys : List Str} (h : SqL K H p (ys.map V.str)) (hs : (ys.map (·.length)).sum + ys.length * a.length ≤ 16777216) (q : Q (.str (Txt.join a ys)) H) : rJoinV K (.str a) [.ref p] H Q := ⟨a, p, ys, rfl, rfl, Or.inl h, hs, q⟩
def rUpV : V → List V → Hp → VK → Prop := fun x xs H Q => ∃ a, x = .str a ∧ xs = [] ∧ a.length ≤ 5592405 ∧ Q (.str (Txt.upper a)) H
theorem mt_upV : MtR X "str.upper" rUpV := mt_upper
theorem g_up {a : Str} (h : a.length ≤ 5592405) (q : Q (.str (Txt.upper a)) H) : rUpV (.str a) [] H Q := ⟨a, rfl, rfl, h, q⟩
theorem g_bm {T : String} {r : V → List V → Hp → VK → Prop} {tr : TA} (h : ta σ H fun x H1 => tyV K T x H1 ∧ tr σ H1 fun xs H2 => r x xs H2 Q) : tBM K T r ta tr σ H Q := h
theorem g_append {l : Addr} {xs : List V} {y : V} (h : H l = some (.lst xs)) (hs : xs.length < sizeLine) (q : Q .non (upd H l (.lst (xs ++ [y])))) : rAppend (.ref l) [y] H Q := ⟨l, xs, y, rfl, rfl, h, hs, q⟩
theorem ty_list {l : Addr} {xs : List V} (h : H l = some (.lst xs)) : tyV K "list" (.ref l) H := Or.inl ⟨rfl, _, SqL.of h⟩
end
section
variable {σ : St} {H : Hp} {Q : VK} {ta tb : TE}
theorem g_pcons {r : List (TE × TE)} {Q : List (V × V) → Hp → Prop} (h : ta σ H fun x H1 => tb σ H1 fun y H2 => tPairs r σ H2 fun ps H3 => Q ((x, y) :: ps) H3) : tPairs ((ta, tb) :: r) σ H Q := h
theorem g_yes {Q : Bool → Hp → Prop} (h : Q true H) : tYes σ H Q := h
theorem g_pnil {Q : List (V × V) → Hp → Prop} (h : Q [] H) : tPairs [] σ H Q := h
theorem g_disp {trs : List (TE × TE)} (h : ∀ p, H p = none → tPairs trs σ (upd H p (.dK [])) fun ps H2 => H2 p = some (.dK []) ∧ ∃ kvs : List (Key × V), ps = kvs.map (fun kv => (kV kv.1, kv.2)) ∧ kvs.length ≤ 15 ∧ Q (.ref p) (upd H2 p (.dK (mergeK [] kvs)))) : tDisp trs σ H Q := h
end
theorem same_new {H : Hp} {p : Addr} {o : HO} (h : H p = none) : Same H (upd H p o) := fun b x e => by
  rw [upd_ne (ne_of_none e h)]
  exact e
theorem Same.sqt {K : PySem.W.Frag} {H H' : Hp} {a : Addr} {xs : List V} (e : Same H H') (h : SqT K H a xs) : SqT K H' a xs := by
  rcases h with (h | ⟨o, h⟩) | h
  · exact .inl (.inl (e _ _ h))
  · exact .inl (.inr ⟨o, e _ _ h⟩)
  · exact .inr h
theorem Same.mut {H H1 : Hp} {p : Addr} {o : HO} (s : Same H H1) (h : H p = none) : Same H (upd H1 p o) := fun b x e => by
  rw [upd_ne (ne_of_none e h)]
  exact s b x e
/-- an item of a list of ints -/
theorem atI_int {ns : List Int} {i : Int} (h0 : 0 ≤ i) (h1 : i < ns.length) : ∃ c, atI (ns.map V.int) i = some (.int c) := by
  have hi : i.toNat < ns.length := by omega
  refine ⟨ns[i.toNat], ?_⟩
  have e := atI_nat (xs := ns.map V.int) (j := i.toNat) (v := V.int ns[i.toNat]) (by rw [List.getElem?_map, List.getElem?_eq_getElem hi]; rfl)
  rw [Int.toNat_of_nonneg h0] at e
  exact e
end L2
namespace L2
open PySem
/-! ### any object that a law hands in -/
/-- the kinds of objects: what is needed of them -/
inductive AnyO (H : Hp) : V → Prop where
  | non : AnyO H .non
  | bl (b : Bool) : AnyO H (.bl b)
  | int (i : Int) : AnyO H (.int i)
  | str (s : Str) (h : s.length ≤ 10000) (h2 : PyData.strOk s = true) : AnyO H (.str s)
  | lst {a : Addr} {xs : List V} (h : H a = some (.lst xs)) : AnyO H (.ref a)
  | tup {a : Addr} {xs : List V} (h : H a = some (.tup xs)) : AnyO H (.ref a)
  | dic {a : Addr} {kvs : List (Key × V)} (h : H a = some (.dK kvs)) : AnyO H (.ref a)
theorem AnyO.same {H H' : Hp} {x : V} (a : AnyO H x) (s : Same H H') : AnyO H' x := by
  cases a with
  | non => exact .non
  | bl b => exact .bl b
  | int i => exact .int i
  | str z h h2 => exact .str z h h2
  | lst h => exact .lst (s _ _ h)
  | tup h => exact .tup (s _ _ h)
  | dic h => exact .dic (s _ _ h)
def isIntV : V → Bool | .int _ => true | .bl _ => true | _ => false
def isBlV : V → Bool | .bl _ => true | _ => false
def isStrV : V → Bool | .str _ => true | _ => false
theorem AnyO.kit {K : PySem.W.Frag} {H : Hp} {x : V} (a : AnyO H x) : ∃ t, TyX K H x t ∧ PySem.W.kitOne K t (.type "int") = some (isIntV x) ∧ PySem.W.kitOne K t (.type "bool") = some (isBlV x) ∧ PySem.W.kitOne K t (.type "str") = some (isStrV x) := by
  cases a with
  | non => exact ⟨_, .base .non, kit_ty (r := false) (by decide +kernel), kit_ty (r := false) (by decide +kernel), kit_ty (r := false) (by decide +kernel)⟩
  | bl b => exact ⟨_, .base (.bl b), kit_ty (r := true) (by decide +kernel), kit_ty (r := true) (by decide +kernel), kit_ty (r := false) (by decide +kernel)⟩
  | int i => exact ⟨_, .base (.int i), kit_ty (r := true) (by decide +kernel), kit_ty (r := false) (by decide +kernel), kit_ty (r := false) (by decide +kernel)⟩
  | str z h h2 => exact ⟨_, .base (.str z), kit_ty (r := false) (by decide +kernel), kit_ty (r := false) (by decide +kernel), kit_ty (r := true) (by decide +kernel)⟩
  | lst h => exact ⟨_, .base (.lst h), kit_ty (r := false) (by decide +kernel), kit_ty (r := false) (by decide +kernel), kit_ty (r := false) (by decide +kernel)⟩
  | tup h => exact ⟨_, .base (.tup h), kit_ty (r := false) (by decide +kernel), kit_ty (r := false) (by decide +kernel), kit_ty (r := false) (by decide +kernel)⟩
  | dic h => exact ⟨_, .base (.dK h), kit_ty (r := false) (by decide +kernel), kit_ty (r := false) (by decide +kernel), kit_ty (r := false) (by decide +kernel)⟩
section
variable {X : Cx} {H : Hp} {Q : VK} {K : PySem.W.Frag} {σ : St} {ta tb te : TE}
theorem g_isint {x : V} (a : AnyO H x) (q : Q (.bl (isIntV x)) H) : rIsi K [x, .ty "int"] H Q := by
  obtain ⟨t, h1, h2, h3, h4⟩ := a.kit (K := K)
  exact g_isi (.ty _) h1 h2 q
theorem g_isbl {x : V} (a : AnyO H x) (q : Q (.bl (isBlV x)) H) : rIsi K [x, .ty "bool"] H Q := by
  obtain ⟨t, h1, h2, h3, h4⟩ := a.kit (K := K)
  exact g_isi (.ty _) h1 h3 q
theorem g_isstr {x : V} (a : AnyO H x) (q : Q (.bl (isStrV x)) H) : rIsi K [x, .ty "str"] H Q := by
  obtain ⟨t, h1, h2, h3, h4⟩ := a.kit (K := K)
  exact g_isi (.ty _) h1 h4 q
def rLeZ : R2 := fun x y H Q => ∃ i j, x = .str i ∧ y = .str j ∧ Q (.bl (!decide (j.cps.toList < i.cps.toList))) H
theorem op_leZ : OpR X (compareOp .LtE) rLeZ := op_le_str
theorem g_lez {i j : Str} (q : Q (.bl (!decide (j.cps.toList < i.cps.toList))) H) : rLeZ (.str i) (.str j) H Q := ⟨i, j, rfl, rfl, q⟩
/-! ### comprehensions over the signs of a text whose steps make nothing -/
theorem g_lc {wi : TI} {g : TG} {tt : TT} {vs : List Nat} (h : wi σ H fun J H1 => ∀ D, H1 D = none → ∃ W : Nat → Nat → Hp → Prop, (∃ m, W 0 m (upd H1 D (.lst []))) ∧ ∀ i m H, W i m H →
  (J.stop i H ∧ Q (.ref D) H) ∨ (J.go i H ∧ ∃ Nx : Hp → Prop, (∀ H', Nx H' → ∃ m', m' < m ∧ W (i + 1) m' H') ∧ ∀ x H', J.yld i H x H' → g x (wipe σ vs) H' fun σ2 H2 => wipe σ2 vs = wipe σ vs ∧ tt σ2 H2 fun b H3 =>
    if b = true then te σ2 H3 fun y H4 => ∃ acc, H4 D = some (.lst acc) ∧ acc.length < sizeLine ∧ Nx (upd H4 D (.lst (acc ++ [y]))) else Nx H3)) : tLc wi g tt te vs σ H Q := h
theorem lc_str {x : Str} {g : TG} {tt : TT} {te : TE} {vs : List Nat} {σ : St} {H1 : Hp} {D : Addr} {Qd : Hp → Prop} (p : Nat → Bool) (f : Nat → V) (hz : x.length ≤ 100000)
    (hs : ∀ c acc (Nx : Hp → Prop), c ∈ x.cps.toList → (p c = true → ∀ H4 : Hp, H4 D = some (.lst acc) → H4 = upd H1 D (.lst acc) → ∃ acc', H4 D = some (.lst acc') ∧ acc'.length < sizeLine ∧ Nx (upd H4 D (.lst (acc' ++ [f c])))) → (p c = false → Nx (upd H1 D (.lst acc))) →
      g (.str ⟨#[c]⟩) (wipe σ vs) (upd H1 D (.lst acc)) fun σ2 H2 => wipe σ2 vs = wipe σ vs ∧ tt σ2 H2 fun b H3 => if b = true then te σ2 H3 fun y H4 => ∃ acc, H4 D = some (.lst acc) ∧ acc.length < sizeLine ∧ Nx (upd H4 D (.lst (acc ++ [y]))) else Nx H3)
    (hd : Qd (upd H1 D (.lst ((x.cps.toList.filter p).map f)))) :
    ∃ W : Nat → Nat → Hp → Prop, (∃ m, W 0 m (upd H1 D (.lst []))) ∧ ∀ i m H, W i m H →
      ((Its x).stop i H ∧ Qd H) ∨ ((Its x).go i H ∧ ∃ Nx : Hp → Prop, (∀ H', Nx H' → ∃ m', m' < m ∧ W (i + 1) m' H') ∧ ∀ y H', (Its x).yld i H y H' → g y (wipe σ vs) H' fun σ2 H2 => wipe σ2 vs = wipe σ vs ∧ tt σ2 H2 fun b H3 =>
        if b = true then te σ2 H3 fun y H4 => ∃ acc, H4 D = some (.lst acc) ∧ acc.length < sizeLine ∧ Nx (upd H4 D (.lst (acc ++ [y]))) else Nx H3) := by
  refine ⟨fun i m H => m = x.cps.size - i ∧ i ≤ x.cps.size ∧ H = upd H1 D (.lst (((x.cps.toList.take i).filter p).map f)), ⟨x.cps.size, by simp, Nat.zero_le _, rfl⟩, ?_⟩
  rintro i m H ⟨rfl, hi, rfl⟩
  by_cases hlt : i < x.cps.size
  · refine Or.inr ⟨hlt, fun H => H = upd H1 D (.lst (((x.cps.toList.take (i + 1)).filter p).map f)), fun H' e => ⟨x.cps.size - (i + 1), by omega, rfl, by omega, e⟩, ?_⟩
    rintro y H' ⟨rfl, c, hc, rfl⟩
    have hl : x.cps.toList[i]? = some c := by rw [Array.getElem?_toList]; exact hc
    have ht : x.cps.toList.take (i + 1) = x.cps.toList.take i ++ [c] := by rw [List.take_add_one, hl]; rfl
    refine hs c _ _ (List.mem_of_getElem? hl) (fun hp H4 e1 e2 => ⟨_, e1, ?_, ?_⟩) (fun hp => ?_)
    · rw [List.length_map]
      refine Nat.lt_of_le_of_lt (List.length_filter_le _ _) ?_
      rw [List.length_take]
      exact Nat.lt_of_le_of_lt (Nat.min_le_right _ _) (Nat.lt_of_le_of_lt (show x.cps.toList.length ≤ 100000 from hz) (by decide))
    · rw [e2, upd_upd, ht, List.filter_append, List.map_append]
      simp [hp]
    · rw [ht, List.filter_append]
      simp [hp]
  · have e : i = x.cps.size := by omega
    subst e
    refine Or.inl ⟨Nat.le_refl _, ?_⟩
    have et : x.cps.toList.take x.cps.size = x.cps.toList := List.take_of_length_le (by simp)
    rw [et]
    exact hd
end
end L2
namespace Mk
open PySem L2
/-! the marks: what the functions are worth -/
def btw (x : V) (lo hi : Int) : Bool := match x with
  | .int i => decide (lo ≤ i) && decide (i ≤ hi)
  | _ => false
def consists (x : V) (m : Str) : Bool := match x with
  | .str s => s.cps.toList.all fun c => decide (c ∈ m.cps.toList)
  | _ => false
def MARKS : Str := " !\"#$&'()*+,-./0123456789:;<=>?@ABCDEFGHIJKLMNOPQRSTUVWXYZ[\\]^_`abcdefghijklmnopqrstuvwxyz{|}~"
def LETS : Str := "ABCDEFGHIJKLMNOPQRSTUVWXYZabcdefghijklmnopqrstuvwxyz"
def LADS : Str := "ABCDEFGHIJKLMNOPQRSTUVWXYZabcdefghijklmnopqrstuvwxyz0123456789"
def NOAT : Str := " ()<>,;:@\""
def isPlain (x : V) : Bool := btw x 32 126 && !decide (x = .int 37)
def isCode (x : V) : Bool := isPlain x || btw x 160 65535
def isBody (x : V) : Bool := consists x MARKS
def isRaw (x : V) : Bool := consists x (MARKS ++ ("\n" : Str))
def isLabel (x : V) : Bool := match x with
  | .str s => consists x (LADS ++ ("-" : Str)) && decide (1 ≤ s.length) && decide (s.length ≤ 20) && (match s.cps.toList with | c :: _ => decide (c ∈ LETS.cps.toList) | [] => false)
  | _ => false
def isAtom (x : V) : Bool := match x with
  | .str s => isBody x && decide (s ≠ "") && !(s.cps.toList.any fun c => decide (c ∈ NOAT.cps.toList))
  | _ => false
theorem int_of {x : V} (h1 : isIntV x = true) (h2 : isBlV x = false) : ∃ i, x = .int i := by
  cases x with
  | int i => exact ⟨i, rfl⟩
  | bl b => cases h2
  | _ => cases h1
theorem str_of {x : V} (h1 : isStrV x = true) : ∃ s, x = .str s := by
  cases x with
  | str s => exact ⟨s, rfl⟩
  | _ => cases h1
theorem btw_no {x : V} {lo hi : Int} (h : isIntV x = false) : btw x lo hi = false := by
  cases x with
  | int i => cases h
  | _ => rfl
theorem btw_bl {x : V} {lo hi : Int} (h : isBlV x = true) : btw x lo hi = false := by
  cases x with
  | bl i => rfl
  | _ => cases h
theorem btw_int {x : V} {lo hi : Int} (h : btw x lo hi = true) : ∃ i, x = .int i ∧ lo ≤ i ∧ i ≤ hi := by
  cases x with
  | int i =>
    have h' : (decide (lo ≤ i) && decide (i ≤ hi)) = true := h
    rw [Bool.and_eq_true] at h'
    exact ⟨i, rfl, of_decide_eq_true h'.1, of_decide_eq_true h'.2⟩
  | _ => cases h
theorem cons_no {x : V} {m : Str} (h : isStrV x = false) : consists x m = false := by
  cases x with
  | str i => cases h
  | _ => rfl
theorem str_len {H : Hp} {s : Str} (a : AnyO H (.str s)) : s.length ≤ 10000 := by
  cases a with
  | str _ h _ => exact h
theorem str_ok {H : Hp} {s : Str} (a : AnyO H (.str s)) : PyData.strOk s = true := by
  cases a with
  | str _ _ h => exact h
/-! the promises -/
def spBetween : Sp := fun vs H Q _ => ∃ (x : V) (lo hi : Int), vs = [x, .int lo, .int hi] ∧ AnyO H x ∧ Q (.bl (btw x lo hi)) H
def spCons : Sp := fun vs H Q _ => ∃ (x : V) (m : Str), vs = [x, .str m] ∧ AnyO H x ∧ ∀ H', Same H H' → Q (.bl (consists x m)) H'
/-- a test of one object -/
def spTest (f : V → Bool) : Sp := fun vs H Q _ => ∃ (x : V), vs = [x] ∧ AnyO H x ∧ ∀ H', Same H H' → Q (.bl (f x)) H'
end Mk
namespace Mk
open PySem L2
def spNum : Sp := fun vs H Q _ => ∃ (x : V), vs = [x] ∧ AnyO H x ∧ Q (.bl (isIntV x && !isBlV x)) H
end Mk
namespace L2
open PySem
theorem atI_all {xs : List V} {p : V → Bool} {i : Int} (ha : xs.all p = true) (h0 : 0 ≤ i) (h1 : i < xs.length) : ∃ v, atI xs i = some v ∧ p v = true := by
  have hi : i.toNat < xs.length := by omega
  refine ⟨xs[i.toNat], ?_, List.all_eq_true.mp ha _ (List.getElem_mem hi)⟩
  have e := atI_nat (xs := xs) (j := i.toNat) (List.getElem?_eq_getElem hi)
  rw [Int.toNat_of_nonneg h0] at e
  exact e
theorem atI_mem {xs : List V} {i : Int} (h0 : 0 ≤ i) (h1 : i < xs.length) : ∃ v, atI xs i = some v ∧ v ∈ xs := by
  have hi : i.toNat < xs.length := by omega
  refine ⟨xs[i.toNat], ?_, List.getElem_mem hi⟩
  have e := atI_nat (xs := xs) (j := i.toNat) (List.getElem?_eq_getElem hi)
  rw [Int.toNat_of_nonneg h0] at e
  exact e
def strLe (n : Nat) : V → Bool
  | .str s => decide (s.length ≤ n) && PyData.strOk s
  | _ => false
theorem strLe_of {n : Nat} {v : V} (h : strLe n v = true) : ∃ s, v = .str s ∧ s.length ≤ n ∧ PyData.strOk s = true := by
  cases v with
  | str s =>
    have h' : (decide (s.length ≤ n) && PyData.strOk s) = true := h
    rw [Bool.and_eq_true] at h'
    exact ⟨s, rfl, of_decide_eq_true h'.1, h'.2⟩
  | _ => cases h
def isI : V → Bool
  | .int _ => true
  | _ => false
theorem isI_of {v : V} (h : isI v = true) : ∃ i, v = .int i := by
  cases v with
  | int i => exact ⟨i, rfl⟩
  | _ => cases h
theorem len_app {a b : Str} : (a ++ b).length = a.length + b.length := by
  show (a.cps ++ b.cps).size = _
  rw [Array.size_append]
  rfl
/-- all of a written list -/
theorem all_mem {p : V → Prop} {xs : List V} (h : ∀ v ∈ xs, p v) {v : V} (hv : v ∈ xs) : p v := h v hv
theorem fm_cons {p : V → Prop} {x : V} {xs : List V} (h : p x) (hs : ∀ v ∈ xs, p v) : ∀ v ∈ x :: xs, p v := fun v hv => by
  rcases List.mem_cons.mp hv with e | e
  · rw [e]; exact h
  · exact hs v e
theorem fm_nil {p : V → Prop} : ∀ v ∈ ([] : List V), p v := fun _ h => nomatch h
section
variable {H : Hp} {Q : VK} {K : PySem.W.Frag} {σ : St} {ta tb te : TE} {D : Ends}
theorem g_pick (pr : V → Bool) {p : Addr} {xs : List V} {i : Int} (h : H p = some (.lst xs)) (h0 : 0 ≤ i) (h1 : i < xs.length) (ha : xs.all pr = true) (q : ∀ v, pr v = true → Q v H) : rIxL K (.ref p) (.int i) H Q := by
  obtain ⟨v, e, hv⟩ := atI_all ha h0 h1
  exact g_ixl (SqL.of h) e (q v hv)
theorem g_pickP {pr : V → Prop} {p : Addr} {xs : List V} {i : Int} (h : H p = some (.lst xs)) (h0 : 0 ≤ i) (h1 : i < xs.length) (ha : ∀ v ∈ xs, pr v) (q : ∀ v, pr v → Q v H) : rIxL K (.ref p) (.int i) H Q := by
  obtain ⟨v, e, hv⟩ := atI_mem h0 h1
  exact g_ixl (SqL.of h) e (q v (ha v hv))
theorem g_par {i j : Nat} {tr : TA} (h : tr σ H fun vs H1 => ∃ v w, vs = [v, w] ∧ D.nx ((σ.set i (some v)).set j (some w)) H1) : tPar i j tr D σ H := h
theorem g_two {v w : V} {N : V → V → Prop} (h : N v w) : ∃ v1 w1, [v, w] = [v1, w1] ∧ N v1 w1 := ⟨v, w, rfl, h⟩
theorem g_dnew (h : ∀ p, H p = none → Q (.ref p) (upd H p (.dK []))) : tDNewK σ H Q := h
theorem g_gtup {n : Nat} {t : TGs} {a : Addr} {xs : List V} {Q : St → Hp → Prop} (h : SqT K H a xs) (hn : xs.length = n) (q : t xs σ H Q) : gTup K n t (.ref a) σ H Q := ⟨a, xs, rfl, h, hn, q⟩
theorem g_gcons {t : TG} {u : TGs} {v : V} {r : List V} {Q : St → Hp → Prop} (h : t v σ H fun σ' H' => u r σ' H' Q) : gCons t u (v :: r) σ H Q := ⟨v, r, rfl, h⟩
theorem g_gnil {Q : St → Hp → Prop} (h : Q σ H) : gNil [] σ H Q := ⟨rfl, h⟩
theorem g_kw0 {sp : Sp} {n : Nat} {ix : List Nat} {E : XK} {tr : TA} (h : tr σ H fun vs H1 => vs.length = n ∧ sp (picked V.non ix vs) H1 Q E) : tKw0 sp n ix E tr σ H Q := h
theorem g_repr {a : Addr} {d : PyData} (h : Dp K H (.ref a) d) (h1 : d.showable = true) (h2 : d.hasDict = false) (h3 : d.depth ≤ 20) (h4 : d.shown.length ≤ sizeLine) (q : Q (.str d.shown) H) : rRepr K [.ref a] H Q := ⟨a, d, rfl, h, h1, h2, h3, h4, q⟩
end
end L2
namespace L2
open PySem
theorem ap_list (a b : Str) : (a ++ b).cps.toList = a.cps.toList ++ b.cps.toList := by
  show (a.cps ++ b.cps).toList = _
  rw [Array.toList_append]
theorem sj_list : ∀ ys : List Str, (Str.join ("" : Str) ys).cps.toList = (ys.map fun y => y.cps.toList).flatten
  | [] => rfl
  | [x] => by
    show x.cps.toList = _
    simp
  | x :: y :: r => by
    show ((x ++ ("" : Str)) ++ Str.join ("" : Str) (y :: r)).cps.toList = _
    rw [ap_list, ap_list, sj_list (y :: r)]
    show (x.cps.toList ++ []) ++ _ = _
    rw [List.append_nil]
    rfl
theorem join_list (ys : List Str) : (Txt.join ("" : Str) ys).cps.toList = (ys.map fun y => y.cps.toList).flatten := by
  rw [show Txt.join ("" : Str) ys = Str.join ("" : Str) ys from PySem.StrLaws.glued_eq_join _ ys, sj_list]
theorem len_list (z : Str) : z.length = z.cps.toList.length := by
  show z.cps.size = _
  rw [Array.length_toList]
theorem join_len {ys : List Str} {b : Nat} (h : ∀ y ∈ ys, y.length ≤ b) : (Txt.join ("" : Str) ys).length ≤ ys.length * b := by
  rw [len_list, join_list]
  induction ys with
  | nil => exact Nat.zero_le _
  | cons y r ih =>
    rw [List.map_cons, List.flatten_cons, List.length_append, List.length_cons, Nat.add_mul, Nat.one_mul, Nat.add_comm]
    exact Nat.add_le_add (ih fun z hz => h z (List.mem_cons_of_mem _ hz)) (by rw [← len_list]; exact h y List.mem_cons_self)
theorem sum_len {ys : List Str} {b : Nat} (h : ∀ y ∈ ys, y.length ≤ b) : (ys.map (·.length)).sum ≤ ys.length * b := by
  induction ys with
  | nil => exact Nat.zero_le _
  | cons y r ih =>
    rw [List.map_cons, List.sum_cons, List.length_cons, Nat.add_mul, Nat.one_mul, Nat.add_comm]
    exact Nat.add_le_add (ih fun z hz => h z (List.mem_cons_of_mem _ hz)) (h y List.mem_cons_self)
section
variable {H : Hp} {Q : VK} {K : PySem.W.Frag}
theorem g_pickz {z : Str} {i : Int} (h : z.length ≤ sizeLine) (h0 : 0 ≤ i) (h1 : i < z.length) (q : ∀ c, c ∈ z.cps.toList → Q (.str ⟨#[c]⟩) H) : rIxS (.str z) (.int i) H Q := by
  have hi : i.toNat < z.cps.toList.length := by rw [← len_list]; omega
  have e := atI_nat (xs := z.cps.toList) (j := i.toNat) (List.getElem?_eq_getElem hi)
  rw [Int.toNat_of_nonneg h0] at e
  exact g_ixz h e (q _ (List.getElem_mem hi))
end
end L2
namespace L2
theorem AnyO.kp {d : PySem.Addr} {H H' : Hp} {x : V} (a : AnyO H x) (k : Dr.Kp d H H') (n : x ≠ .ref d) : AnyO H' x := by
  cases a with
  | non => exact .non
  | bl b => exact .bl b
  | int i => exact .int i
  | str z h h2 => exact .str z h h2
  | lst h => exact .lst (k _ _ (fun e => n (by rw [e])) h)
  | tup h => exact .tup (k _ _ (fun e => n (by rw [e])) h)
  | dic h => exact .dic (k _ _ (fun e => n (by rw [e])) h)
end L2
namespace L2
open PySem
theorem for_str {x : Str} {g : TG} {tb : TS} {D : Ends} {σ : St} {H : Hp} (Pv : Nat → St → Hp → Prop) (h0 : Pv 0 σ H)
    (hs : ∀ i c σ H, x.cps.toList[i]? = some c → Pv i σ H → g (.str ⟨#[c]⟩) σ H fun σ2 H2 => tb { D with nx := Pv (i + 1), ct := Pv (i + 1), bk := D.nx } σ2 H2) (hd : ∀ σ H, Pv x.length σ H → D.nx σ H) :
    ∃ W : Nat → Nat → St → Hp → Prop, (∃ m, W 0 m σ H) ∧ ∀ i m σ H, W i m σ H → ((Its x).stop i H ∧ D.nx σ H) ∨ ((Its x).go i H ∧ ∃ N : St → Hp → Prop, (∀ σ' H', N σ' H' → ∃ m', m' < m ∧ W (i + 1) m' σ' H') ∧
      ∀ y H', (Its x).yld i H y H' → g y σ H' fun σ2 H2 => tb { D with nx := N, ct := N, bk := D.nx } σ2 H2) := by
  refine ⟨fun i m σ H => m = x.length - i ∧ i ≤ x.length ∧ Pv i σ H, ⟨x.length, by simp, Nat.zero_le _, h0⟩, ?_⟩
  rintro i m σ H ⟨rfl, hi, p⟩
  by_cases hlt : i < x.length
  · refine Or.inr ⟨hlt, Pv (i + 1), fun σ' H' p' => ⟨x.length - (i + 1), by omega, rfl, hlt, p'⟩, ?_⟩
    rintro y H' ⟨rfl, c, hc, rfl⟩
    exact hs i c σ _ (by rw [Array.getElem?_toList]; exact hc) p
  · have e : i = x.length := by omega
    subst e
    exact Or.inl ⟨Nat.le_refl _, hd σ H p⟩
theorem one_lt {a b : Nat} : (([a] : List Nat) < [b]) ↔ a < b := by
  constructor
  · intro h
    rcases List.cons_lt_cons_iff.mp h with h | ⟨_, h⟩
    · exact h
    · exact absurd h (List.lt_irrefl [])
  · intro h
    exact List.cons_lt_cons_iff.mpr (Or.inl h)
theorem len_pos {z : Str} (h : 1 ≤ z.length) : ∃ c r, z.cps.toList = c :: r := by
  rw [len_list] at h
  cases hq : z.cps.toList with
  | nil => rw [hq] at h; exact absurd h (by decide)
  | cons c r => exact ⟨c, r, rfl⟩
/-- data of a list of texts -/
theorem dp_strs {K : PySem.W.Frag} {H : Hp} : ∀ ys : List Str, DpAll K H (ys.map V.str) (ys.map PyData.str)
  | [] => .nil
  | y :: r => .cons (.str y) (dp_strs r)
theorem dp_bools {K : PySem.W.Frag} {H : Hp} : ∀ bs : List Bool, DpAll K H (bs.map V.bl) (bs.map PyData.bool)
  | [] => .nil
  | b :: r => .cons (.bl b) (dp_bools r)
theorem eqv_nil (ds : List PyData) : PyData.eqv (.list ds) (.list []) = ds.isEmpty := by
  cases ds with
  | nil => rfl
  | cons d r => rfl
end L2
namespace L2
open PySem
theorem cla_strs : ∀ ys : List Str, (∀ y ∈ ys, PyData.strOk y = true) → PyData.canLayAll0 (ys.map PyData.str) = true
  | [], _ => by simp only [List.map_nil, PyData.canLayAll0]
  | y :: r, h => by
    simp only [List.map_cons, PyData.canLayAll0, PyData.canLay0, Bool.and_eq_true]
    exact ⟨h y List.mem_cons_self, cla_strs r fun z hz => h z (List.mem_cons_of_mem _ hz)⟩
theorem dep_strs : ∀ ys : List Str, PyData.depthAll (ys.map PyData.str) ≤ 1
  | [] => by simp only [List.map_nil, PyData.depthAll]; decide
  | y :: r => by
    have := dep_strs r
    simp only [List.map_cons, PyData.depthAll, PyData.depth]
    omega
theorem shaped_strs {ys : List Str} (h : ∀ y ∈ ys, PyData.strOk y = true) : SeqAt.shaped (.list (ys.map PyData.str)) = true := by
  have h1 := dep_strs ys
  have h2 : PyData.depth (.list (ys.map PyData.str)) ≤ 64 := by simp only [PyData.depth]; omega
  show (PyData.canLay0 _ && decide (PyData.depth _ ≤ 64)) = true
  rw [Bool.and_eq_true]
  refine ⟨?_, decide_eq_true h2⟩
  simp only [PyData.canLay0]
  exact cla_strs ys h
theorem sok_app {a b : Str} (ha : PyData.strOk a = true) (hb : PyData.strOk b = true) : PyData.strOk (a ++ b) = true := by
  show (a.cps ++ b.cps).all _ = true
  rw [Array.all_append, Bool.and_eq_true]
  exact ⟨ha, hb⟩
theorem sok_iff {a : Str} : PyData.strOk a = true ↔ ∀ c ∈ a.cps.toList, c < 0x110000 := by
  show a.cps.all _ = true ↔ _
  rw [Array.all_eq_true_iff_forall_mem]
  constructor
  · intro h c hc
    exact of_decide_eq_true (h c (by simpa using hc))
  · intro h c hc
    exact decide_eq_true (h c (by simpa using hc))
theorem sok_join {ys : List Str} (h : ∀ y ∈ ys, PyData.strOk y = true) : PyData.strOk (Txt.join ("" : Str) ys) = true := by
  rw [sok_iff, join_list]
  intro c hc
  obtain ⟨l, hl, hc⟩ := List.mem_flatten.mp hc
  obtain ⟨y, hy, rfl⟩ := List.mem_map.mp hl
  exact sok_iff.mp (h y hy) c hc
theorem sok_cut {z : Str} (h : PyData.strOk z = true) (lo hi : Option Int) : PyData.strOk (cutS z lo hi) = true := by
  rw [sok_iff]
  intro c hc
  have hc' : c ∈ (z.cps.toList.drop (HT.sIx z.length 0 lo)).take (HT.sIx z.length z.length hi - HT.sIx z.length 0 lo) := by simpa [cutS] using hc
  exact sok_iff.mp h c (List.mem_of_mem_drop (List.mem_of_mem_take hc'))
theorem sok_mem {z : Str} {c : Nat} (h : PyData.strOk z = true) (hc : c ∈ z.cps.toList) : PyData.strOk ⟨#[c]⟩ = true := by
  rw [sok_iff]
  intro d hd
  have : d = c := by simpa using hd
  rw [this]
  exact sok_iff.mp h c hc
end L2
namespace L2
open PySem
theorem g_ifnn {A B : Prop} {p : Prop} [Decidable p] (h1 : p → A) (h2 : ¬ p → B) : if (!!decide p) = true then A else B := by
  rw [Bool.not_not]
  exact g_ifd h1 h2
theorem lt_sp {c : Nat} : (⟨#[c]⟩ : Str).cps.toList < (" " : Str).cps.toList ↔ c < 32 := by
  rw [show (" " : Str).cps.toList = [32] by decide +kernel]
  exact one_lt
theorem lt_tl {c : Nat} : ("~" : Str).cps.toList < (⟨#[c]⟩ : Str).cps.toList ↔ 126 < c := by
  rw [show ("~" : Str).cps.toList = [126] by decide +kernel]
  exact one_lt
end L2
namespace XS
open PySem PySem.W PySem.Calls
/-- an own error class under ValueError whose __init__ calls the one above it with a written text, then keeps its one argument -/
structure ErrC (prog : Program) (K : Frag) (C fI : Addr) (par fld : Str) : Prop where
  cls : ∃ nm q N bs bm sn sub ab col dd k0 k1 k2 k3 k5, K.lookup C = some (excClassObj nm q C N bs bm true sn sub ab col dd k0 k1 k2 k3 k5 "ValueError.__new__") ∧ HandSPX.refsVE bm = true ∧ alongIn K "__init__" bm = some (some (.builtin "ValueError.__init__"))
  init : findIn K (.ref C) "__init__" = some (some (.ref fI))
  ityp : typeIn K (.ref fI) = some (.type "function")
  sa : findIn K (.ref C) "__setattr__" = some (some (.builtin "object.__setattr__"))
  nf : findIn K (.ref C) fld = some none
  exC : subIn K (.ref C) (.type "BaseException") = some true
  veC : subIn K (.ref C) (.type "ValueError") = some true
  meC : mroIn K C (.ref C) = some true
  tyC : typeIn K (.ref C) = some (.type "type")
  kC : keepIn K (.ref C) = true
  opq : nsIn K cStatics "thirdparty.any" = some none
  fn : ∃ (qual : Str) (params : Arguments) (body : List Stmt) (scope : Scope) (oc kV doc pm ct ccl cl : Value) (od an cdd cld : Option Addr) (osl ccs csl : Array (Option Value)) (cda cc : Addr) (vs : Array Value) (file : Str) (tf : Tok),
    K.lookup fI = some ⟨oc, od, .func (fnX "__init__" qual params body scope [("__class__", cc)] .none kV doc pm an (.ref cda) ct), osl⟩ ∧ codeIn K (.ref cda) qual = true ∧
    K.lookup cda = some ⟨ccl, cdd, .fields vs, ccs⟩ ∧ vs[2]? = some (.str file tf) ∧ ((prog.main.file : Str) == file) = true ∧ K.lookup cc = some ⟨cl, cld, .cell (some (.ref C)), csl⟩ ∧
    (∃ ar, (params.posonlyargs ++ params.args).head? = some ar ∧ ar.arg = ("self" : Str)) ∧
    (∃ (msg : Str) (j : Nat) (p0 p1 p2 p3 p4 p5 p6 p7 p8 p9 : Pos), body = [.Expr (.Call (.Attribute (.Call (.Name "super" p0) [] [] p1) "__init__" p2) [.Constant (.str msg) j p3] [] p4) p5, .Assign [.Attribute (.Name "self" p6) fld p7] (.Name par p8) p9] ∧
      (∃ pl : Env → Sem Bool, ∀ env : Env, eval (.Call (.Attribute (.Call (.Name "super" p0) [] [] p1) "__init__" p2) [.Constant (.str msg) j p3] [] p4) env = (do
        let ov ← attributeBase (.Call (.Name "super" p0) [] [] p1) "__init__" env (eval (.Call (.Name "super" p0) [] [] p1) env)
        standAt p2.atName
        let (f, first) ← holding [ov] (getMethod ov "__init__" (pl env))
        callWith p4 f first (backTo p4 (starEach [.Constant (.str msg) j p3] env)) [])) ∧
      (∀ env : Env, swapsWith (.Call (.Attribute (.Call (.Name "super" p0) [] [] p1) "__init__" p2) [.Constant (.str msg) j p3] [] p4) none p5.line env = pure false) ∧
      (∀ env : Env, swapsWith (.Name par p8) (some (.Attribute (.Name "self" p6) fld p7)) p9.line env = pure false) ∧ msg.length ≤ 1000) ∧
    (∀ (s : Shared) (x u : Value), BindsTo s (fnX "__init__" qual params body scope [("__class__", cc)] .none kV doc pm an (.ref cda) ct) ⟨[x, u], []⟩ [("self", x), (par, u)]) ∧
    scope.kind = .function ∧ scope.isCoroutine = false ∧ scope.isGenerator = false ∧ (∀ x ∈ scope.names, x.2 ≠ .cell) ∧
    scope.names.lookup ("super" : Str) = some .globalImplicit ∧ scope.names.lookup ("__class__" : Str) = some .free ∧ scope.names.lookup ("self" : Str) = some .local ∧ scope.names.lookup par = some .local
  sup : nsIn K mainGlobals "super" = some none
  top : (prog.main.scope.names.lookup ("super" : Str)).isSome = false
  psf : (par == ("self" : Str)) = false
  pdb : (par == ("__debug__" : Str)) = false
theorem drop_own (C : Addr) (l : List Value) : ((Value.ref C :: l).dropWhile (· != .ref C)).drop 1 = l := by simp [List.dropWhile_cons]
section
variable {prog : Program} {w : World} {A : Around} {K : Frag} {C fI a t0 : Addr} {par fld : Str} {u : Value} {mg mb : Str → Option Value} {R : Result → Shared → Prop}
/-- the bound __init__ of the class above, called -/
theorem call_mw {h : Heap} {g : Array GenState} {d : Drawn} {tk : Nat} {os : OsState} {uw : Addr} {rest : List Value} {nm q : Str} {N : Addr} {bs bm sub : List Value} {sn : List Str} {ab : Bool} {col : Option Bool} {dd : Option Addr} {k0 k1 k2 k3 k5 : Option Value} {Q : Value → Shared → Prop} {E : Value → Shared → Prop}
    (hu : h.get? uw = some (kxs_mw "ValueError.__init__" a)) (hC : h.get? C = some (excClassObj nm q C N bs bm true sn sub ab col dd k0 k1 k2 k3 k5 "ValueError.__new__")) (he : h.get? a = some (HandSPX.excO C t0)) (hz : rest.length ≤ sizeLine)
    (hq : ∀ h', (∀ b o, b ≠ a → h.get? b = some o → h'.get? b = some o) → h'.get? a = some (HandSPX.excO C h.objs.size) → Q .none ⟨h', g, d, tk, os⟩) :
    wpAny (model prog w) A (call (.ref uw) rest) Q E ⟨h, g, d, tk, os⟩ := by
  refine wpAny_call (codeAny_of_tree ?_)
  show wpAny _ A.in1 (callAny (.ref uw) ⟨rest, []⟩) _ _ _
  unfold callAny
  refine wpAny_bind (wpAny_load hu ?_)
  simp (decide := true) only [kxs_mw, if_true]
  refine wpAny_bind (check_bound_init F.excBase_ValueError.toExcCallFacts hC he rfl ?_)
  refine wpAny_bind (wpAny_pure (wpAny_pure ?_))
  refine ⟨plainId_quiet F.excBase_ValueError.init.plain _, codeAny_builtin F.excBase_ValueError.initEntry ?_⟩
  exact exc_init_tree (cls := .ref C) (t0 := t0) (dv := none) (c2 := .none) (c3 := .none) (b4 := .bool false) he hz fun h' k e1 _ => hq h' k e1
theorem err_code {s : Shared} (X : K.In s.heap) (hg : s.heap.Ns mainGlobals mg) (hb : s.heap.Ns builtinsNs mb) (hbb : ∀ x : Str, x ≠ "__name__" → mb x = bootBuiltins x) (hlim : s.heap.NoLimit) (T : ErrC prog K C fI par fld) (hroom : A.depth < recursionLimit)
    (ha : s.heap.get? a = some (HandSPX.excO C t0)) (hK : K.lookup a = none) (hL : K.lookup s.heap.objs.size = none)
    (h : ∀ h' tk t1 dx, (∀ b o, b ≠ a → s.heap.get? b = some o → h'.get? b = some o) → h'.get? a = some { cls := .ref C, dict := some dx, data := .fields #[.ref t1, .none, .none, .none, .bool false, .none] } → s.heap.objs.size ≤ dx → dx ≠ a →
      h'.Ns1 dx (fun y => if y = fld then some u else none) → R (.ok (.ret .none)) { s with heap := h', toks := tk }) :
    codeAny (model prog w) A (.call (.ref fI) ⟨[.ref a, u], []⟩) R s := by
  obtain ⟨nm, q, N, bs, bm, sn, sub, ab, col, dd, k0, k1, k2, k3, k5, lC, hbm, hal⟩ := T.cls
  obtain ⟨qual, params, body, scope, oc, kV, doc, pm, ct, ccl, cl, od, an, cdd, cld, osl, ccs, csl, cda, cc, vs, file, tf, lf, hcd, lcd, hvs, hfile, lcc, ⟨ar, har, hself⟩, ⟨msg, j, p0, p1, p2, p3, p4, p5, p6, p7, p8, p9, hbody, ⟨pl, hev⟩, hw1, hw2, hmsg⟩, hbind, hk, hco, hgen, hcell, hsu, hcl, hsl, hpl⟩ := T.fn
  have hloc : ∀ x ∈ [(("self" : Str), Value.ref a), (par, u)], scope.names.lookup x.1 = some .local := by
    intro x hx
    rcases List.mem_cons.mp hx with e | hx
    · rw [e]; exact hsl
    · rw [List.mem_singleton.mp hx]; exact hpl
  refine ks_codeAny_call_defAt (body := body) (binds := [("self", .ref a), (par, u)]) hroom (X _ _ lf) rfl hlim (codeRec_of X hcd) rfl (hbind s (.ref a) u) hcell hloc (fun h1 hns kk1 => ?_) hco hgen hk
  subst hbody
  have X1 : K.In h1 := X.keeps kk1
  have hg1 : h1.Ns mainGlobals mg := hg.keeps kk1
  have hb1 : h1.Ns builtinsNs mb := hb.keeps kk1
  have ha1 := kk1 _ _ ha
  have hC1 := X1 _ _ lC
  have eself : (fun x => [(("self" : Str), Value.ref a), (par, u)].reverse.lookup x) ar.arg = some (.ref a) := by
    rw [hself]
    show List.lookup ("self" : Str) [(par, u), ("self", Value.ref a)] = _
    rw [List.lookup_cons, show (("self" : Str) == par) = false from by rw [beq_eq_false_iff_ne]; exact fun z => (beq_eq_false_iff_ne.mp T.psf) z.symm, List.lookup_cons, beq_self_eq_true]
  have epar : (fun x => [(("self" : Str), Value.ref a), (par, u)].reverse.lookup x) par = some u := by
    show List.lookup par [(par, u), ("self", Value.ref a)] = _
    rw [List.lookup_cons, beq_self_eq_true]
  refine ks_wpAt_execs_cons (ks_wpAt_Expr_any ?_ (by show interactive _ = false; simp [interactive, callEnv, newEnv, hk]) (hw1 _))
  refine ks_wpAt_MethodCall ?_ (hev _)
  refine ks_wpAt_super_base hsu hcl (by decide) rfl (X1 _ _ lf) rfl har rfl (X1 _ _ lcd) rfl hvs hfile T.top ?_
  refine ks_loadName_global hk hsu (loadGlobal_builtin hg1 (mg_none_of X1 hg1 T.sup) hb1 ((hbb _ (by decide +kernel)).trans (by decide +kernel)) ⟨rfl, ?_⟩)
  refine wpAny_loadName_free hk hcl rfl ⟨_, X1 _ _ lcc, rfl⟩ ?_
  refine wpAny_loadName_local hk (by rw [hself]; exact hsl) hns eself ?_
  obtain ⟨hp0, g, d, tk0, os⟩ := s
  refine ks_wpAny_isType_cls hC1 rfl ⟨rfl, ?_⟩
  refine ks_wpAny_call_super (C := C) hC1 rfl ha1 rfl (fun c e => by cases e) (looks_mroIn X1 T.meC) (fun h2 e2 kk2 => ?_)
  have X2 : K.In h2 := X1.keeps kk2
  have hcl2 : clsIn K C = some { name := nm, bases := bs, mro := .ref C :: bm, ns := N, qualname := q, hasDict := true, slotNames := sn, subclasses := sub, abstract := ab, collection := col, hasDel := false } := by unfold clsIn; rw [lC]
  have I2 : InstAt h2 a (HandSPX.excO C t0) C none := ⟨kk2 _ _ ha1, rfl, rfl, trivial⟩
  refine kxs_getMethod kxs_ValueError e2 (looks_opaque X2 T.opq) (l₀ := .ref C :: bm) (fun A Q E s k q => wpAny_bind ((looks_clsIn X2 hcl2) A _ E s k (wpAny_pure q))) (drop_own C bm) X2 hal (I2.type.andThen (looks_subIn X2 T.veC)) (ks_ne X2 I2 hcl2) (by decide) ?_
  have kk3 : ∀ b o, h2.get? b = some o → (h2.push (kxs_mw "ValueError.__init__" a)).get? b = some o := fun b o e => Heap.get?_push_of_some _ e
  have hu3 : (h2.push (kxs_mw "ValueError.__init__" a)).get? h2.objs.size = some (kxs_mw "ValueError.__init__" a) := Heap.get?_push_at rfl rfl
  refine kxs_callWith (i := "ValueError.__init__") (x := a) (by rfl) (evalArgs_plain (spliced_cons (Constant_str (pos := p3) (k := j) (spliced_nil ⟨hu3, ?_⟩))))
  refine call_mw hu3 (kk3 _ _ (X2 _ _ lC)) (kk3 _ _ (kk2 _ _ ha1)) (by show 1 ≤ sizeLine; decide) fun h4 kk4 e4 => ?_
  -- self.fld = par
  have kk14 : ∀ b o, b ≠ a → h1.get? b = some o → h4.get? b = some o := fun b o n e => kk4 b o n (kk3 _ _ (kk2 _ _ e))
  have X4 : K.In h4 := fun b o e => kk14 b o (fun z => by rw [z, hK] at e; cases e) (X1 b o e)
  have hns4 : h4.Ns hp0.objs.size (fun x => [(("self" : Str), Value.ref a), (par, u)].reverse.lookup x) := by
    obtain ⟨o, es, ep, e, dd2, r⟩ := hns
    have na : hp0.objs.size ≠ a := fun z => absurd (Heap.lt_size ha) (by rw [← z]; exact Nat.lt_irrefl _)
    exact ⟨o, es, ep, kk14 _ _ na e, dd2, r⟩
  refine ks_wpAt_execs_cons (wpAt_of_wpAny (plainObj_wpAny_Assign_Attribute (ESX.ldL hns4 epar (ESX.ldL hns4 (by show List.lookup ("self" : Str) [(par, u), ("self", Value.ref a)] = some (.ref a); rw [List.lookup_cons, show (("self" : Str) == par) = false from by rw [beq_eq_false_iff_ne]; exact fun z => (beq_eq_false_iff_ne.mp T.psf) z.symm, List.lookup_cons, beq_self_eq_true]) ?_ hk hsl (by decide)) hk hpl T.pdb) (hw2 _)))
  have hcl4 : clsIn K C = some { name := nm, bases := bs, mro := .ref C :: bm, ns := N, qualname := q, hasDict := true, slotNames := sn, subclasses := sub, abstract := ab, collection := col, hasDel := false } := hcl2
  refine set_plain X4 (ox := _) (od := none) ⟨e4, rfl, rfl, trivial⟩ T.sa ?_
  refine HandSPX.exc_osa X4 e4 hcl4 (show HandSPX.refsVE (.ref C :: bm) = true from hbm) rfl T.nf (fun h5 tk5 dx kk5 hdx hda e5 ns5 => ?_)
  refine wpAt_of_wpAny (wpAny_pure ?_)
  have hlt : hp0.objs.size < h4.objs.size := by
    obtain ⟨o, es, ep, e, _⟩ := hns4
    exact Heap.lt_size e
  exact h h5 tk5 _ dx (fun b o n e => kk5 b o n (kk14 b o n (kk1 b o e))) e5 (Nat.le_of_lt (Nat.lt_of_lt_of_le hlt hdx)) hda ns5
end
end XS
namespace L2
open PySem PySem.Spec PyProof.Rows
section
variable {X : Cx} {C fI : Addr} {par fld x : Str} {p pos : Pos} {e : Expr} {te : TE}
/-- what the making of such an error reads: its own dict is new -/
def tMkE (C : Addr) (fld : Str) (te : TE) : St → Hp → XK → Prop := fun σ H Q => te σ H fun v H1 => ∀ d, H1 d = none → Q (.ref C) (some d) (upd H1 d (.xd [(fld, v)]))
theorem pmk_err (T : XS.ErrC X.prog X.K C fI par fld) (hr : Room 1 X.A) (hg : Gl X x) (hm : X.mg x = some (.ref C)) (ha : PE X e te) (hdb : (x == ("__debug__" : Str)) = false := by decide)
    (he : starEach [e] X.env = (false, eval e X.env) :: starEach [] X.env := by rfl) : PMk X (.Call (.Name x p) [e] [] pos) (tMkE C fld te) := by
  intro pins s σ H Q I h
  obtain ⟨nm, q, N, bs, bm, sn, sub, ab, col, dd, k0, k1, k2, k3, k5, hC, hbm, _⟩ := T.cls
  refine wpAny_Call_Name_kw (ld_glob I hg hm ?_ hdb)
  refine PySem.W.callWith_K (h₀ := X.base) I.ok.mod.kin T.kC ?_ he (by rfl)
  rw [he]
  show wpAny _ _ (spliced ((false, eval e X.env) :: backTo pos (starEach [] X.env))) _ _ s
  refine Calls.spliced_cons (thn (ha.run pins s σ H _ I h) fun u s1 ⟨v, H1, I1, r1, q1⟩ => Calls.spliced_nil ⟨I1.kIn, ?_⟩)
  show wpAny _ _ (call (.ref C) [u]) _ _ _
  obtain ⟨hp, g, dr, tk, os⟩ := s1
  have kk : ∀ b o, hp.get? b = some o → ((hp.push (PySem.W.kdv_tup [u])).push (PySem.HandSPX.excO C hp.objs.size)).get? b = some o := fun b o z => Heap.get?_push_of_some _ (Heap.get?_push_of_some _ z)
  have hget : ((hp.push (PySem.W.kdv_tup [u])).push (PySem.HandSPX.excO C hp.objs.size)).get? (hp.objs.size + 1) = some (PySem.HandSPX.excO C hp.objs.size) := by heap_get
  have hK : ∀ b, hp.objs.size ≤ b → X.K.lookup b = none := fun b hb => by
    cases z : X.K.lookup b with
    | none => rfl
    | some o => exact absurd (Heap.lt_size (I1.kIn b o z)) (Nat.not_lt.mpr hb)
  have hsz2 : ((hp.push (PySem.W.kdv_tup [u])).push (PySem.HandSPX.excO C hp.objs.size)).objs.size = hp.objs.size + 2 := by
    simp [Heap.push]
  obtain ⟨mb, hb1, hb2⟩ := I1.mod.blt
  have kb : ∀ b o, X.base.get? b = some o → ((hp.push (PySem.W.kdv_tup [u])).push (PySem.HandSPX.excO C hp.objs.size)).get? b = some o := fun b o z => kk b o (I1.bk b o z)
  refine wpAny_call (PySem.HandSPX.call_own F.excBase_ValueError (fun Y => PySem.HandSPX.refsVE_contains Y bm hbm) (I1.kIn _ _ hC) (PySem.W.looks_findIn I1.kIn T.init) (fun self => PySem.W.bind_fn I1.kIn self T.ityp) (by show 1 ≤ sizeLine; decide) ?_)
  refine XS.err_code (mg := X.mg) (mb := mb) (I1.ok.mod.kin.keeps kb) (I1.mod.glob.keeps kb) (hb1.keeps kb) hb2 (I1.mod.nolimit.keeps kb) T (hr.make C [u] []).depth hget (hK _ (Nat.le_succ _)) (hK _ (by rw [hsz2]; exact Nat.le_add_right _ 2)) fun h5 tk5 t1 dx k5 e5 hdx hda n5 => ?_
  rw [hsz2] at hdx
  obtain ⟨G, g1, g2⟩ := restrict h5 fun b => decide (b ≠ hp.objs.size + 1)
  have gk : ∀ b, b ≠ hp.objs.size + 1 → G.get? b = h5.get? b := fun b hb => g1 b (decide_eq_true hb)
  have ge : G.get? (hp.objs.size + 1) = none := g2 _ (by simp)
  have kG : ∀ b o, hp.get? b = some o → G.get? b = some o := fun b o z => by
    have nb : b ≠ hp.objs.size + 1 := Nat.ne_of_lt (Nat.lt_succ_of_lt (Heap.lt_size z))
    rw [gk b nb]
    exact k5 b o nb (kk b o z)
  have J := I1.laid (t' := tk5) (a := dx) (o := .xd [(fld, v)]) (h' := G) kG (Nat.le_trans (Nat.le_add_right _ 2) hdx) ⟨_, n5.at fun o y => (gk dx hda).trans y, fun f => by
    show RelO (List.lookup f [(fld, v)]) _
    rw [lookup_put]
    by_cases hf : f = fld
    · rw [if_pos hf, if_pos hf]
      exact r1
    · rw [if_neg hf, if_neg hf]
      exact True.intro⟩
  have na : H1 (hp.objs.size + 1) = none := I1.hok.fresh (Nat.le_succ _)
  have nd : H1 dx = none := I1.hok.fresh (Nat.le_trans (Nat.le_add_right _ 2) hdx)
  refine ⟨rfl, hp.objs.size + 1, _, _, ⟨G, g, dr, tk5, os⟩, _, .ref C, some dx, rfl, J, fun b o z => ?_, ge, e5, ⟨rfl, rfl⟩, rfl, rfl, ?_, rfl, I1.bare, raises_own T.exC T.tyC, q1 dx nd⟩
  · by_cases hb : b = hp.objs.size + 1
    · rw [hb, ge] at z
      cases z
    · exact (gk b hb).symm.trans z
  · rw [upd_ne (Ne.symm hda)]
    exact na
end
end L2
namespace L2
open PySem PySem.Spec PyProof.Rows
open PySem.W (exmOne exmAny exm_one exm_tup3 Looks)

/-- a caught error, kept: its object at a, of the class cls, its dict d -/
def held (a : Addr) (cls : Value) (d : Option Addr) : HO := .ext fun h => ∃ (oe : Obj) (vs : Array Value), h.get? a = some oe ∧ Zc cls d oe ∧ oe.data = .fields vs
theorem held_ok {P : Program} {w : World} {H : Hp} {h : Heap} {a : Addr} {cls : Value} {d : Option Addr} {oe : Obj} {vs : Array Value} (e : h.get? a = some oe) (z : Zc cls d oe) (f : oe.data = .fields vs) : ObjOk P w H h a (held a cls d) :=
  ⟨⟨oe, vs, e, z, f⟩, ⟨oe, e⟩, fun _ _ ⟨o, v, q, r⟩ k => ⟨o, v, k o q, r⟩⟩
theorem flying_more {B h h' : Heap} {l : List Env} {a : Addr} {Z : Obj → Prop} (x : HandSPX.FlyingZ B l a Z h) (k : ∀ b o, h.get? b = some o → h'.get? b = some o) : HandSPX.FlyingZ B l a Z h' := by
  obtain ⟨x1, x2, x3, oe, vs, T, oT, ts, e1, e2, e3, e4, e5, e6, e7, e8, e9⟩ := x
  exact ⟨fun b o q => k b o (x1 b o q), x2, x3.of_keeps fun b o q _ => ⟨o, k b o q, rfl⟩, oe, vs, T, oT, ts, k _ _ e1, e2, e3, e4, e5, e6, k _ _ e7, e8, e9⟩
section
variable {X : Cx} {pins : List (Addr × Obj)} {σ : St} {H : Hp} {sI s' : Shared} {B : Heap}
/-- on the ground again, the error's object tracked from here on -/
theorem landed_held {a : Addr} {cls : Value} {d : Option Addr} {oe : Obj} {vs : Array Value} (I : Inv X pins σ H sI) (nb : ∀ b o, sI.heap.get? b = some o → b ∉ frs X.stack → B.get? b = some o) (st : B.StaysIn s'.heap) (up : sI.heap.UpToSlots s'.heap)
    (os : s'.os = sI.os) (ag : AllBare s'.gens) (na : sI.heap.get? a = none) (hn : H a = none) (e : s'.heap.get? a = some oe) (z : Zc cls d oe) (f : oe.data = .fields vs) : Inv X pins σ (upd H a (held a cls d)) s' := by
  have nea : ∀ b o, sI.heap.get? b = some o → b ≠ a := fun b o q c => by rw [c, na] at q; cases q
  have neH : ∀ b o, H b = some o → b ≠ a := fun b o q c => by rw [c, hn] at q; cases q
  have fr : ∀ b, b ∈ frs X.stack → ∀ o, sI.heap.get? b = some o → ∃ sl, s'.heap.get? b = some { o with slots := sl } := fun b hb o q => by
    obtain ⟨_, o', q', hd⟩ := I.stack.mem hb
    rw [q] at q'; cases q'
    exact up b o q hd
  have u : Un (frs X.stack) [] H (upd H a (held a cls d)) sI.heap s'.heap := by
    refine ⟨fun b o q _ hb _ => st b o (nb b o q hb), fun b o q _ hb _ => fr b hb o q, fun b o q n _ => ?_, fun b o q _ => ?_, fun b xs q => ?_, fun b o xs q => ?_, fun b ps q => ⟨#[], ?_⟩⟩
    · rw [upd_ne (nea b o q)]
      exact n
    · by_cases hb : b ∈ frs X.stack
      · obtain ⟨sl, q2⟩ := fr b hb o q
        exact ⟨_, q2⟩
      · exact ⟨o, st b o (nb b o q hb)⟩
    · rw [upd_ne (neH _ _ q)]
      exact q
    · rw [upd_ne (neH _ _ q)]
      exact q
    · rw [upd_ne (neH _ _ q), q]
      simp
  have hk : HOk X.prog X.w (upd H a (held a cls d)) s'.heap := HOk.laidN ((I.inGround nb).kept st) (fun _ _ q => q) hn (held_ok e z f)
  have J := I.call (ch := []) (h' := s'.heap) (g' := s'.gens) (t' := s'.toks) (d' := s'.drawn) u hk ag (fun _ q => nomatch q)
  obtain ⟨b1, b2, b3, b4, b5⟩ := s'
  obtain rfl : b5 = sI.os := os
  exact J
theorem Inv.inSuite (I : Inv X pins σ H sI) (a : Addr) : Inv (X.suite a (X.pn ++ pins)) [] σ H sI :=
  ⟨I.ok.suite _ _, I.os, I.bare, I.base, I.loc, I.cell, I.free, I.freeC, fun p hp => I.pin p (by rw [List.append_nil] at hp; exact hp), I.hok, I.len⟩
theorem Inv.outSuite {a : Addr} {pn' : List (Addr × Obj)} (I : Inv (X.suite a (X.pn ++ pins)) pn' σ H sI) (ok : X.Ok) : Inv X pins σ H sI :=
  ⟨ok, I.os, I.bare, I.base, I.loc, I.cell, I.free, I.freeC, fun p hp => I.pin p (List.mem_append_left _ hp), I.hok, I.len⟩
end
/-- what the type of a clause tells of the errors of a class -/
def Tells (X : Cx) (tt : Expr) (m : Value → Option Bool) : Prop :=
  ∀ (a : Addr) (pn : List (Addr × Obj)) (σ : St) (H : Hp) (s : Shared) (cls : Value) (b : Bool) (Q : Bool → Shared → Prop) (E : Value → Shared → Prop), Inv (X.suite a pn) [] σ H s → Looks (model X.prog X.w) s.heap (typeOf (.ref a)) cls → m cls = some b →
    (∀ h', (∀ c o, s.heap.get? c = some o → h'.get? c = some o) → Q b { s with heap := h' }) →
    wpAny (model X.prog X.w) (X.A.mark (some (.ref a))) (eval tt X.env) (fun c s₁ => wpAny (model X.prog X.w) (X.A.mark (some (.ref a))) (excMatches (.ref a) c) Q E s₁) E s
section
variable {X : Cx}
theorem ld_named {a : Addr} {pn : List (Addr × Obj)} {σ : St} {H : Hp} {s : Shared} {x : Str} {c : Value} {np : Pos} {Q : Value → Shared → Prop} {E : Value → Shared → Prop} (I : Inv (X.suite a pn) [] σ H s) (hc : Names X x c) (q : Q c s) :
    wpAny (model X.prog X.w) (X.A.mark (some (.ref a))) (eval (.Name x np) X.env) Q E s := by
  obtain ⟨hg, hd, hm | ⟨hm, hv, hn⟩⟩ := hc
  · exact ld_glob (X := X.suite a pn) I hg hm q hd
  · exact ld_blt (X := X.suite a pn) I hg hm hv q hn hd
theorem tells_one {x : Str} {c : Value} {np : Pos} (hc : Names X x c) : Tells X (.Name x np) (fun cls => exmOne X.K cls c) := fun a pn σ H s cls b Q E I L hb q =>
  ld_named I hc ((exm_one I.kIn L hb).here (q s.heap fun _ _ z => z))
theorem tells_three {x1 x2 x3 : Str} {c1 c2 c3 : Value} {p1 p2 p3 tp : Pos} {kk : Nat} (n1 : Names X x1 c1) (n2 : Names X x2 c2) (n3 : Names X x3 c3) : Tells X (.Tuple [.Name x1 p1, .Name x2 p2, .Name x3 p3] kk tp) (fun cls => exmAny X.K cls [c1, c2, c3]) := fun a pn σ H s cls b Q E I L hb q => by
  refine wpAny_Tuple (wpAny_items_cons (ld_named I n1 (wpAny_items_cons (ld_named I n2 (wpAny_items_cons (ld_named I n3 (wpAny_items_nil ⟨by size_fits, ?_⟩)))))))
  have k : ∀ c o, s.heap.get? c = some o → (s.heap.push { cls := .type "tuple", data := .seq [c1, c2, c3].toArray }).get? c = some o := fun _ _ z => Heap.get?_push_of_some _ z
  exact (exm_tup3 (I.kIn.keeps k) (L.keeps k) (Heap.get?_push_size s.heap rfl) hb).here (q _ k)
/-- what 'except .. as n' wishes where the caught error stays -/
def wHeld (m : Value → Option Bool) (i : Nat) (ts : TS) (Wout : WX) (D : Ends) : WX := fun cls d σ H =>
  ∃ b, m cls = some b ∧ (b = true → ∀ a, H a = none → ts { nx := fun σ' H' => D.nx (σ'.set i none) H', rt := D.rt, bk := fun σ' H' => D.bk (σ'.set i none) H', ct := fun σ' H' => D.ct (σ'.set i none) H' } (σ.set i (some (.ref a))) (upd H a (held a cls d))) ∧
    (b = false → Wout cls d σ H)
variable {n : Str} {i : Nat} {body suite : List Stmt} {b₀ : Stmt} {tt : Expr} {m : Value → Option Bool} {pos pos' : Pos} {tb : WX → TS} {ts : TS} {Wout : WX}
theorem ps_try_held (hs : X.stack = X.env :: X.outer) (hf : X.env.frame = some X.env.locals) (hN : X.N.Nodup) (hi : X.N[i]? = some n) (hln : X.env.kindOf n = some .local) (ht : Tells X tt m) (tk : Takes X Wout)
    (hb : ∀ (W : WX) (pn : List (Addr × Obj)) (xe : Value → Shared → Prop), Takes (X.tr pn xe) W → PassesOwn (model X.prog X.w) X.A X.env xe → PSs (X.tr pn xe) body (tb W))
    (hsu : ∀ (a : Addr) (pn : List (Addr × Obj)), PSs (X.suite a pn) (b₀ :: suite) ts) :
    PS X (.Try body [.ExceptHandler (some tt) (some n) (b₀ :: suite) pos'] [] [] pos) (fun D σ H => tb (wHeld m i ts Wout D) D σ H) := by
  refine ⟨fun pins s σ H D I h => ?_⟩
  have ok := I.ok
  have hfr : X.A.frames = some (X.env :: X.outer) := by rw [ok.frames, hs]
  refine wpAny_Try_except (wpAny_mono ((hb (wHeld m i ts Wout D) (X.pn ++ pins) (fun e s₁ => wpAny (model X.prog X.w) X.A (noteFrame e X.env) (fun _ s₂ => wpAny (model X.prog X.w) X.A (setFlight e none) (fun _ s₃ =>
    wpAny (model X.prog X.w) X.A (handleBy e X.env [.ExceptHandler (some tt) (some n) (b₀ :: suite) pos']) (SP X pins D) X.xe s₃) X.xe s₂) X.xe s₁) (fun u s' xx => ?_) PassesOwn.looking).run [] s σ H D (I.toTry _) h) (fun f s1 hsp => ?_) (fun _ _ z => z))
  · obtain ⟨a, B, sI, pins', σ', H', cls, d, rfl, J', nb, up, sky, na, os, ag, b, hmb, hyes, hno⟩ := xx
    have J : Inv X pins σ' H' sI := J'.ofTry ok
    have sky' : Sky B (X.env :: X.outer) a (Zc cls d) X.env.locals s'.heap := by rw [← hs]; exact sky
    show wpAny (model X.prog X.w) X.A (noteFrame (.ref a) X.env) _ _ _
    refine Sky.land Zc.steady hfr hf sky' fun h1 fl1 up1 => ?_
    obtain ⟨oe1, vs1, he1, hz1, hd1⟩ := fl1.there
    have out : a ∉ frs X.stack := fun hm => by
      rw [hs] at hm
      obtain ⟨_, o', e', hnf⟩ := fl1.2.2.1.mem hm
      rw [he1] at e'; cases e'
      exact hnf _ hd1
    have naI : sI.heap.get? a = none := by
      cases q : sI.heap.get? a with
      | none => rfl
      | some o => exact absurd (nb a o q out) (by rw [fl1.2.1]; exact fun z => nomatch z)
    have J1 : Inv X pins σ' H' { s' with heap := h1 } := J.landed nb fl1.1 (up.trans up1) os ag
    refine wpAny_handleBy_cons (codeAny_handlers_test ?_) (by intro q; cases q)
    refine ht a (X.pn ++ pins) σ' H' _ cls b _ _ (Inv.inSuite J1 a) (fun A Q E s k q => wpAny_typeOf_ref (k _ _ he1) (by rw [hz1.1]; exact q)) hmb fun h2 k2 => ?_
    have fl2 : HandSPX.FlyingZ B (X.env :: X.outer) a (Zc cls d) h2 := flying_more fl1 k2
    have up2 : sI.heap.UpToSlots h2 := (up.trans up1).trans (Heap.UpToSlots.of_keeps k2)
    cases b with
    | true =>
      refine codeAny_handlers_suite_as ?_
      refine HandSPX.lands_againZ fl2 fun h3 fl3 up3 => ?_
      obtain ⟨oe3, vs3, he3, hz3, hd3⟩ := fl3.there
      have J3 : Inv X pins σ' (upd H' a (held a cls d)) { s' with heap := h3 } := landed_held J nb fl3.1 (up2.trans up3) os ag naI na he3 hz3 hd3
      refine store_ok (X := X.suite a (X.pn ++ pins)) (v := .ref a) (Inv.inSuite J3 a) hN hi (.inl hln) rfl (fun s5 S5 => ?_) (.inr hln)
      refine wpAny_mono ((hsu a (X.pn ++ pins)).run [] s5 _ _ _ S5 (hyes rfl a na)) (fun f s6 hsp => ?_) (fun _ _ z => False.elim z)
      have fin : ∀ {σ6 : St} {H6 : Hp} {Q : Shared → Prop}, Inv (X.suite a (X.pn ++ pins)) [] σ6 H6 s6 → (∀ s7, Inv X pins (σ6.set i none) H6 s7 → Q s7) →
          wpAny (model X.prog X.w) X.A (do bindName X.env n .none; unbindBehindTheSuite X.env n pos') (fun _ s7 => Q s7) X.xe s6 := fun S6 hq => gone_ok (Inv.outSuite S6 ok) hN hi hln hq
      cases f with
      | next =>
        obtain ⟨σ6, H6, S6, q6⟩ := hsp
        exact fin S6 fun s7 J7 => ⟨_, _, J7, q6⟩
      | brk =>
        obtain ⟨σ6, H6, S6, q6⟩ := hsp
        exact fin S6 fun s7 J7 => ⟨_, _, J7, q6⟩
      | cont =>
        obtain ⟨σ6, H6, S6, q6⟩ := hsp
        exact fin S6 fun s7 J7 => ⟨_, _, J7, q6⟩
      | ret u =>
        obtain ⟨v6, σ6, H6, S6, r6, q6⟩ := hsp
        exact fin S6 fun s7 J7 => ⟨_, _, _, J7, r6, q6⟩
    | false =>
      show wpAny _ X.A (handleBy (.ref a) X.env []) _ _ _
      refine wpAny_handleBy_nil ?_
      obtain ⟨k1, k2', k3, oe, vs, T, oT, ts', he, hz, hd, h1', hr⟩ := id fl2
      unfold PySem.passOn
      refine wpAny_bind (wpAny_field he hd h1' ?_)
      rw [if_neg (show ¬ ((Value.ref T == Value.none) = true) from by simp)]
      have go : wpAny (model X.prog X.w) X.A (setFlight (.ref a) X.env.frame) (fun _ s4 => wpAny (model X.prog X.w) X.A (throw (.ref a) : Sem Flow) (SP X pins D) X.xe s4) X.xe { s' with heap := h2 } := by
        rw [hf]
        exact HandSPX.setFlight_upZ fl2 fun h4 hh4 up4 => wpAny_throw (tk _ _ ⟨a, B, sI, pins, σ', H', cls, d, rfl, J, nb, up2.trans up4, .inr (.inr (by rw [hs]; exact hh4)), na, os, ag, hno rfl⟩)
      first
        | exact wpAny_bind (wpAny_pure (wpAny_bind go))
        | exact wpAny_bind go
  · cases f with
    | next =>
      obtain ⟨σ', H', J', q⟩ := hsp
      exact wpAny_execs_nil ⟨σ', H', J'.ofTry ok, q⟩
    | brk =>
      obtain ⟨σ', H', J', q⟩ := hsp
      exact ⟨σ', H', J'.ofTry ok, q⟩
    | cont =>
      obtain ⟨σ', H', J', q⟩ := hsp
      exact ⟨σ', H', J'.ofTry ok, q⟩
    | ret u =>
      obtain ⟨v, σ', H', J', r, q⟩ := hsp
      exact ⟨v, σ', H', J'.ofTry ok, r, q⟩
end
end L2
namespace L2
open PySem PySem.Spec PyProof.Rows
/-! ### a call by keywords alone that may raise -/
def tKw0S (sp : Sp) (n : Nat) (ix : List Nat) (E : St → XK) (t : TA) : TE := fun σ H Q => t σ H fun vs H1 => vs.length = n ∧ sp (picked V.non ix vs) H1 Q (E σ)
section
variable {X : Cx} {CX : CXT} {k : Nat} {f : Addr} {fd : FuncData} {ps ks : List Str} {sp : Sp} {E : St → XK} {x : Str} {p pos : Pos} {kws : List Keyword} {t : TA} {ix : List Nat}
theorem pe_kw0S (F : FnOk X.prog X.w X.K X.mg X.base CX k f fd ps sp) (hr : Room k X.A) (hg : Gl X x) (hm : X.mg x = some (.ref f)) (hk : PySem.W.keepIn X.K (.ref f) = true) (hb : KwB X.K fd ps ks ix) (hx : ∀ σ, PassesAt CX X σ (E σ))
    (ha : PK X kws t) (hall : (backToKw pos (keywordEach kws X.env)).all (·.1.isSome) = true := by rfl) (hks : (backToKw pos (keywordEach kws X.env)).filterMap (·.1) = ks := by rfl) (hdb : (x == ("__debug__" : Str)) = false := by decide)
    (hpl : ((backTo pos (starEach [] X.env)).any (·.1) || (backToKw pos (keywordEach kws X.env)).any (·.1.isNone)) = false := by rfl) : PE X (.Call (.Name x p) [] kws pos) (tKw0S sp ks.length ix E t) := by
  refine ⟨fun pins s σ H Q I h => wpAny_Call_Name_kw (ld_glob I hg hm ?_ hdb)⟩
  refine PySem.W.callWith_KW0 (h₀ := X.base) I.ok.mod.kin hk hall (thn (ha.run pos pins s σ H _ I h) fun ws s2 ⟨zs, H2, I2, rz, hl, q2⟩ => ⟨I2.kIn, ?_⟩) hpl
  rw [hks]
  have r2 := picked_vals rz ix
  refine wpAny_call (codeAny_mono (F.run X.A X.stack s2 H2 ⟨[], ks.zip ws⟩ (picked Value.none ix ws) (picked V.non ix zs) Q (E σ) hr I2.env0 (hb.2 s2 ws I2.kIn (rz.length.symm.trans hl)) r2 q2) fun o s3 hq => ?_)
  match o, hq with
  | .error e, hq => exact hx σ pins H2 s2 e s3 I2 hq
  | .ok (.ret u), hq => exact I2.after hq
end
/-! ### what is asked of a caught error that was kept -/
theorem held_get {X : Cx} {pins : List (Addr × Obj)} {σ : St} {H : Hp} {s : Shared} {a C dd : Addr} {fs : List (Str × V)} (I : Inv X pins σ H s) (h : H a = some (held a (.ref C) (some dd))) (hf : H dd = some (.xd fs)) :
    ∃ (oe od : Obj) (mA : Str → Option Value), PySem.W.InstAt s.heap a oe C (some od) ∧ (∀ n, PySem.W.lookIn n od = some (mA n)) ∧ ∀ f, RelO (fs.lookup f) (mA f) := by
  obtain ⟨⟨oe, vs, ha, hz, hd⟩, _, _⟩ := I.hok a _ h
  obtain ⟨mA, hns, hr⟩ := I.hok dd _ hf
  obtain ⟨od, ho, hl⟩ := lookIn_ns hns
  exact ⟨oe, od, mA, ⟨ha, hz.1, by unfold PySem.W.notCls; rw [hd] <;> rfl, by rw [hz.2]; exact ho⟩, hl, hr⟩
/-- e.f, e a kept error -/
def tHeld (K : PySem.W.Frag) (n : Str) (te : TE) : TE := fun σ H Q => te σ H fun x H1 => ∃ (a C dd : Addr) (fs : List (Str × V)) (v : V), x = .ref a ∧ H1 a = some (held a (.ref C) (some dd)) ∧ H1 dd = some (.xd fs) ∧ fs.lookup n = some v ∧ XfC K C ∧ PySem.W.findIn K (.ref C) n = some none ∧ Q v H1
theorem pe_held {X : Cx} {e : Expr} {te : TE} {pos : Pos} {n : Str} (he : PE X e te) (hb : attributeBase e n X.env (eval e X.env) = eval e X.env := by rfl) : PE X (.Attribute e n pos) (tHeld X.K n te) := by
  refine ⟨fun pins s σ H Q I h => attr_of hb (thn (he.run pins s σ H _ I h) fun u s1 hh => ?_)⟩
  obtain ⟨x, H1, I1, rx, a, C, dd, fs, v, rfl, h1, h2, l, T, hno, q⟩ := hh
  cases (show u = Value.ref a from rx)
  obtain ⟨oe, od, mA, J, hl, hr⟩ := held_get I1 h1 h2
  obtain ⟨u, hu, ru⟩ := RelO.some_of (v := v) (o := mA n) (by rw [← l]; exact hr n)
  exact HandSPX.exc_get I1.kIn J T.ga T.gg T.exC (PySem.W.findObj_own T.hdC hno rfl (by rw [hl, hu])) (handed_of ru) ⟨v, H1, I1.tok _, ru, q⟩
/-- isinstance(e, c), e a kept error -/
def rIsH (K : PySem.W.Frag) : List V → Hp → VK → Prop := fun xs H Q => ∃ (a C dd : Addr) (fs : List (Str × V)) (D : Addr) (b : Bool), xs = [.ref a, .ref D] ∧ H a = some (held a (.ref C) (some dd)) ∧ H dd = some (.xd fs) ∧ ExcC K C ∧ PySem.W.kitOne K (.ref C) (.ref D) = some b ∧ Q (.bl b) H
theorem call_isH {X : Cx} : CallR X (.builtin "isinstance") (rIsH X.K) := by
  intro pins s σ H xs us Q I r h
  obtain ⟨a, C, dd, fs, D, b, rfl, h1, h2, T, e, q⟩ := h
  cases r with
  | cons rx rr =>
    cases rr with
    | cons rt rr =>
      cases rr
      cases rx
      cases rt
      obtain ⟨oe, od, mA, J, _, _⟩ := held_get I h1 h2
      obtain ⟨cd, hcd, _⟩ := PySem.W.any_some T.hd
      exact PySem.W.kia_one (PySem.W.kitx_exc (by rw [hcd]; rfl) T.hg T.hk T.hs T.ha T.hn T.ht T.hm) I.kIn J e (fun z => nomatch z) fun tk => ⟨.bl b, H, I.kept (t' := tk) fun _ _ z => z, rfl, q⟩
end L2
namespace L2
open PySem PySem.Spec PyProof.Rows
/-! ### repr of a list whose items may be empty dicts -/
inductive Dq (K : PySem.W.Frag) (H : Hp) : V → PyData → Prop
  | of {v : V} {d : PyData} : Dp K H v d → d.hasDict = false → Dq K H v d
  | dic {a : Addr} : H a = some (.dK []) → Dq K H (.ref a) (.dict [])
inductive DqAll (K : PySem.W.Frag) (H : Hp) : List V → List PyData → Prop
  | nil : DqAll K H [] []
  | cons {v : V} {vs : List V} {d : PyData} {ds : List PyData} : Dq K H v d → DqAll K H vs ds → DqAll K H (v :: vs) (d :: ds)
section
variable {X : Cx} {pins : List (Addr × Obj)} {σ : St} {H : Hp} {s : Shared}
theorem Dq.shows (I : Inv X pins σ H s) {d : PyData} {v : V} {u : Value} (h : Dq X.K H v d) (r : RelV v u) (hs : d.showable = true) (hz : d.shown.length ≤ sizeLine) :
    ∃ as, Reads s.heap u d as ∧ ∃ bs, ReadAtMost s.heap d.depth bs ∧ ReprK X.prog X.w bs s.heap d.depth u d.shown := by
  cases h with
  | of h hd =>
    obtain ⟨as, q⟩ := Dp.reads I d _ _ h r
    exact ⟨as, q, ReprK.of_reads q hs (fun z => absurd (hd.symm.trans z) (by decide)) hz⟩
  | dic hl =>
    cases r
    obtain ⟨_, hne, vs, rk, o, es, ep, ho, hx, hd, _, he, _⟩ := I.hok _ _ hl
    cases rk
    have he : es.toList = [] := by generalize es.toList = l at he ⊢; cases he; rfl
    have q : Reads s.heap (.ref _) (.dict []) _ := Reads.dict (as := []) (bs := []) ho hx.1 hd (by rw [he]; exact .nil) (by rw [he]; exact .nil)
    refine ⟨_, q, ReprK.of_reads q hs (fun _ z => ?_) hz⟩
    rcases List.mem_cons.mp z with z | z
    · rw [← z] at hne
      exact Bool.noConfusion hne
    · cases z
theorem DqAll.shows (I : Inv X pins σ H s) : ∀ {ds : List PyData} {vs : List V} {us : List Value}, DqAll X.K H vs ds → Vals vs us → PyData.showableAll ds = true → (∀ t ∈ PyData.shownAll ds, t.length ≤ sizeLine) →
    ∃ as, ReadsAll s.heap us ds as ∧ ∃ bs, ReadAtMost s.heap (PyData.depthAll ds) bs ∧ ReprAllK X.prog X.w bs s.heap (PyData.depthAll ds) us (PyData.shownAll ds) := by
  intro ds vs us h r hs hz
  induction h generalizing us with
  | nil =>
    cases r
    exact ⟨_, .nil, [], (fun _ q => nomatch q), by simp only [PyData.shownAll]; exact .nil⟩
  | cons h1 h2 ih =>
    rename_i v vs d ds
    cases r with
    | cons r1 r2 =>
      have hs' : d.showable = true ∧ PyData.showableAll ds = true := by simpa [PyData.showableAll] using hs
      obtain ⟨a1, q1, b1, m1, k1⟩ := h1.shows I r1 hs'.1 (hz _ (by simp only [PyData.shownAll]; exact List.mem_cons_self))
      obtain ⟨a2, q2, b2, m2, k2⟩ := ih r2 hs'.2 fun t ht => hz t (by simp only [PyData.shownAll]; exact List.mem_cons_of_mem _ ht)
      have l1 : d.depth ≤ PyData.depthAll (d :: ds) := by simp only [PyData.depthAll]; exact Nat.le_max_left _ _
      have l2 : PyData.depthAll ds ≤ PyData.depthAll (d :: ds) := by simp only [PyData.depthAll]; exact Nat.le_max_right _ _
      refine ⟨_, .cons q1 q2, b1 ++ b2, (m1.mono l1).append (m2.mono l2), ?_⟩
      have e : PyData.shownAll (d :: ds) = d.shown :: PyData.shownAll ds := by simp only [PyData.shownAll]
      rw [e]
      exact .cons ((k1.more fun b hb => List.mem_append_left _ hb).level_le l1) (k2.more_le (fun b hb => List.mem_append_right _ hb) l2)
end
def rReprQ (K : PySem.W.Frag) : List V → Hp → VK → Prop := fun xs H Q => ∃ a vs ds, xs = [.ref a] ∧ SqL K H a vs ∧ DqAll K H vs ds ∧ vs ≠ [] ∧ PyData.showableAll ds = true ∧ (PyData.list ds).depth ≤ 20 ∧ (PyData.list ds).shown.length ≤ sizeLine ∧ Q (.str (PyData.list ds).shown) H
theorem call_reprQ {X : Cx} (hG : X.A.guards = some []) (hu : X.A.units + 64 < cLine) : CallR X (.builtin "repr") (rReprQ X.K) := by
  intro pins s σ H xs us Q I r h
  obtain ⟨a, vs, ds, rfl, hl, hd, hne, h1, h3, h4, q⟩ := h
  obtain ⟨u, rfl, ru⟩ := vals1 r
  cases (show u = Value.ref a from ru)
  obtain ⟨its, rv, ⟨o, n, ho, hc, _, ho3⟩, _⟩ := I.list hl
  have hz : (listText (PyData.shownAll ds)).length ≤ sizeLine := by simpa only [PyData.shown] using h4
  obtain ⟨as, q1, bs, hb, hk⟩ := hd.shows I rv h1 fun t ht => Nat.le_trans (listText_mem_le ht) hz
  have rd : Reads s.heap (.ref a) (.list ds) _ := .list ho hc ho3 (by simpa using q1)
  have hna : a ∉ bs := not_mem_of_deeper rd (by simp only [PyData.depth]; omega) hb
  simp only [PyData.depth] at h3
  cases its with
  | nil =>
    cases rv
    exact absurd rfl hne
  | cons x l =>
    refine call_repr_slot (by omega) (show s.TypeIs (.ref a) "list" from ⟨o, ho, hc⟩) F.slot_list_repr.toG ?_
    refine call_list_reprK ho hc ho3 hna (by simpa using hk.length_eq) (fun i y e => hk.item i y (by simpa using e)) hG (fun b _ => Clear.nil b) (by show X.A.units + 1 + (PyData.depthAll ds + 1) < cLine; omega) (fun _ _ z => z) (fun h' u tk hk' => ⟨_, _, rfl, ?_⟩) hz
    refine ⟨.str (PyData.list ds).shown, H, I.kept hk', ⟨u, by simp only [PyData.shown]⟩, q⟩
theorem g_reprQ {K : PySem.W.Frag} {H : Hp} {Q : VK} {a : Addr} {vs : List V} {ds : List PyData} (h : SqL K H a vs) (hd : DqAll K H vs ds) (hne : vs ≠ []) (h1 : PyData.showableAll ds = true) (h3 : (PyData.list ds).depth ≤ 20) (h4 : (PyData.list ds).shown.length ≤ sizeLine) (q : Q (.str (PyData.list ds).shown) H) : rReprQ K [.ref a] H Q :=
  ⟨a, vs, ds, rfl, h, hd, hne, h1, h3, h4, q⟩
end L2
namespace XS
open PySem PySem.W
theorem along_of {K : Frag} {C N : Addr} {nm q n : Str} {bs bm sb : List Value} {hd ab : Bool} {sn : List Str} {co : Option Bool} {dd : Option Addr} {m0 m1 m2 m3 m5 r : Option Value} {nw : String} (x : K.lookup C = some (excClassObj nm q C N bs bm hd sn sb ab co dd m0 m1 m2 m3 m5 nw)) (e : findIn K (.ref C) n = some r) :
    alongIn K n (.ref C :: bm) = some r := by
  unfold findIn at e
  dsimp only at e
  rw [x] at e
  exact e
theorem any3 {K : Frag} {c c1 c2 c3 : Value} {b1 b2 b3 : Bool} (h1 : exmOne K c c1 = some b1) (h2 : exmOne K c c2 = some b2) (h3 : exmOne K c c3 = some b3) : exmAny K c [c1, c2, c3] = some (b1 || (b2 || (b3 || false))) := by
  unfold exmAny exmAny exmAny exmAny
  rw [h1, h2, h3]
theorem kit_self {K : Frag} {C : Addr} : kitOne K (.ref C) (.ref C) = some true := if_pos (beq_self_eq_true _)
theorem kit_other {K : Frag} {C D : Addr} {b : Bool} (hd : hasDictIn K D = true) (ht : typeIn K (.ref D) = some (.type "type")) (hn : (Value.ref C == Value.ref D) = false) (hs : subIn K (.ref C) (.ref D) = some b) : kitOne K (.ref C) (.ref D) = some b := by
  obtain ⟨cd, hc, _⟩ := any_some hd
  unfold kitOne
  rw [if_neg (by rw [hn]; exact Bool.false_ne_true)]
  show (if ((clsIn K D).isSome && typeIn K (.ref D) == some (.type "type")) = true then subIn K (.ref C) (.ref D) else none) = some b
  rw [if_pos (by rw [hc, ht] <;> rfl), hs]
end XS
namespace L2
open PySem
section
variable {X : Cx} {H : Hp} {Q : VK} {K : PySem.W.Frag} {σ : St} {ta tb te : TE} {D : Ends}
/-! more names -/
def rSplitZ : V → List V → Hp → VK → Prop := fun x xs H Q => ∃ a b, x = .str a ∧ xs = [.str b] ∧ (b.length == 0) = false ∧ a.length + 2 ≤ sizeLine ∧ rNewStrs (Txt.split a b) H Q
theorem pe_splitZ {o e : Expr} {to te : TE} {apos pos : Pos} (ho : PE X o to) (he : PE X e te) (hs : starEach [e] X.env = [(false, eval e X.env)] := by rfl) (hbase : attributeBase o "split" X.env (eval o X.env) = eval o X.env := by rfl) (hline : (apos.endLine == pos.line) = true := by rfl) :
    PE X (.Call (.Attribute o "split" apos) [e] [] pos) (tM1 rSplitZ to te) := pe_split ho he hs hbase hline
theorem g_splitz {a b : Str} (h1 : (b.length == 0) = false) (h2 : a.length + 2 ≤ sizeLine) (q : ∀ p, H p = none → Q (.ref p) (upd H p (.lst ((Txt.split a b).map V.str)))) : rSplitZ (.str a) [.str b] H Q := ⟨a, b, rfl, rfl, h1, h2, q⟩
def rStartZ : V → List V → Hp → VK → Prop := fun x xs H Q => ∃ a b, x = .str a ∧ xs = [.str b] ∧ Q (.bl (Txt.startswith a b)) H
theorem mt_startZ : MtR X "str.startswith" rStartZ := mt_startswith
theorem g_startz {a b : Str} (q : Q (.bl (Txt.startswith a b)) H) : rStartZ (.str a) [.str b] H Q := ⟨a, b, rfl, rfl, q⟩
def rCountZ : V → List V → Hp → VK → Prop := fun x xs H Q => ∃ a b, x = .str a ∧ xs = [.str b] ∧ Q (.int (Txt.count a b)) H
theorem mt_countZ : MtR X "str.count" rCountZ := mt_count
theorem g_countz {a b : Str} (q : Q (.int (Txt.count a b)) H) : rCountZ (.str a) [.str b] H Q := ⟨a, b, rfl, rfl, q⟩
def rTupOf (K : PySem.W.Frag) : List V → Hp → VK → Prop := fun xs H Q => ∃ p ys, xs = [.ref p] ∧ ((SqL K H p ys ∧ ∀ l, H l = none → Q (.ref l) (upd H l (.tup ys))) ∨ (SqT K H p ys ∧ Q (.ref p) H))
theorem call_tupOf : CallR X (.type "tuple") (rTupOf X.K) := call_tuple_of
theorem g_tupOf {p : Addr} {ys : List V} (h : SqL K H p ys) (q : ∀ l, H l = none → Q (.ref l) (upd H l (.tup ys))) : rTupOf K [.ref p] H Q := ⟨p, ys, rfl, .inl ⟨h, q⟩⟩
theorem g_sll {p : Addr} {xs : List V} {lo hi : Option Int} (h : SqL K H p xs) (q : ∀ l, H l = none → Q (.ref l) (upd H l (.lst (cutV xs lo hi)))) : rSlL K (.ref p) lo hi H Q := ⟨p, xs, rfl, h, q⟩
theorem g_revl (h : te σ H fun x H1 => ∃ a xs, x = .ref a ∧ SqL K H1 a xs ∧ ∀ p, H1 p = none → Q (.ref p) (upd H1 p (.lst xs.reverse))) : tRevL K te σ H Q := h
/-! raising and catching -/
def tRaiseE (C : Addr) (fld : Str) (te : TE) (E : XK) : TS := fun _ σ H => tMkE C fld te σ H fun cls d H' => E cls d H'
theorem ps_raiseE {C fI : Addr} {par fld x : Str} {e : Expr} {E : XK} {p pos pos2 : Pos} (hc : X.calm = true) (tk : Takes X (fun cls d _ H => E cls d H)) (T : XS.ErrC X.prog X.K C fI par fld) (hr : Room 1 X.A) (hg : Gl X x) (hm : X.mg x = some (.ref C)) (ha : PE X e te) (hdb : (x == ("__debug__" : Str)) = false := by decide)
    (he : starEach [e] X.env = (false, eval e X.env) :: starEach [] X.env := by rfl) : PS X (.Raise (some (.Call (.Name x p) [e] [] pos)) none pos2) (tRaiseE C fld te E) := ps_raise hc tk (pmk_err T hr hg hm ha hdb he)
theorem g_raise {C : Addr} {fld : Str} {E : XK} (h : te σ H fun v H1 => ∀ d, H1 d = none → E (.ref C) (some d) (upd H1 d (.xd [(fld, v)]))) : tRaiseE C fld te E D σ H := h
def tTryH (tb : WX → TS) (m : Value → Option Bool) (i : Nat) (ts : TS) (Wout : WX) : TS := fun D σ H => tb (wHeld m i ts Wout D) D σ H
theorem ps_tryH {n : Str} {i : Nat} {body suite : List Stmt} {b₀ : Stmt} {tt : Expr} {m : Value → Option Bool} {pos pos' : Pos} {tb : WX → TS} {ts : TS} {Wout : WX} (hs : X.stack = X.env :: X.outer) (hf : X.env.frame = some X.env.locals) (hN : X.N.Nodup) (hi : X.N[i]? = some n) (hln : X.env.kindOf n = some .local) (ht : Tells X tt m) (tk : Takes X Wout)
    (hb : ∀ (W : WX) (pn : List (Addr × Obj)) (xe : Value → Shared → Prop), Takes (X.tr pn xe) W → PassesOwn (model X.prog X.w) X.A X.env xe → PSs (X.tr pn xe) body (tb W))
    (hsu : ∀ (a : Addr) (pn : List (Addr × Obj)), PSs (X.suite a pn) (b₀ :: suite) ts) :
    PS X (.Try body [.ExceptHandler (some tt) (some n) (b₀ :: suite) pos'] [] [] pos) (tTryH tb m i ts Wout) := ps_try_held hs hf hN hi hln ht tk hb hsu
theorem g_tryH {tb : WX → TS} {m : Value → Option Bool} {i : Nat} {ts : TS} {Wout : WX} (h : tb (wHeld m i ts Wout D) D σ H) : tTryH tb m i ts Wout D σ H := h
theorem g_kw0S {sp : Sp} {n : Nat} {ix : List Nat} {E : St → XK} {tr : TA} (h : tr σ H fun vs H1 => vs.length = n ∧ sp (picked V.non ix vs) H1 Q (E σ)) : tKw0S sp n ix E tr σ H Q := h
theorem g_we {W : WX} {cls : Value} {d : Option Addr} (h : W cls d σ H) : WE W σ cls d H := h
theorem g_heldY {m : Value → Option Bool} {i : Nat} {ts : TS} {Wout : WX} {cls : Value} {d : Option Addr} (hm : m cls = some true) (h : ∀ a, H a = none → ts { nx := fun σ' H' => D.nx (σ'.set i none) H', rt := D.rt, bk := fun σ' H' => D.bk (σ'.set i none) H', ct := fun σ' H' => D.ct (σ'.set i none) H' } (σ.set i (some (.ref a))) (upd H a (held a cls d))) : wHeld m i ts Wout D cls d σ H :=
  ⟨true, hm, fun _ => h, fun z => Bool.noConfusion z⟩
theorem g_held {n : Str} (h : te σ H fun x H1 => ∃ (a C dd : Addr) (fs : List (Str × V)) (v : V), x = .ref a ∧ H1 a = some (held a (.ref C) (some dd)) ∧ H1 dd = some (.xd fs) ∧ fs.lookup n = some v ∧ XfC K C ∧ PySem.W.findIn K (.ref C) n = some none ∧ Q v H1) : tHeld K n te σ H Q := h
theorem g_isH {a C dd D0 : Addr} {fs : List (Str × V)} {b : Bool} (h1 : H a = some (held a (.ref C) (some dd))) (h2 : H dd = some (.xd fs)) (T : ExcC K C) (e : PySem.W.kitOne K (.ref C) (.ref D0) = some b) (q : Q (.bl b) H) : rIsH K [.ref a, .ref D0] H Q := ⟨a, C, dd, fs, D0, b, rfl, h1, h2, T, e, q⟩
theorem g_irng3 {ta : TA} {R : It → Hp → Prop} (h : ta σ H fun vs H1 => ∃ (i j c : Int) (n : Nat), vs = [.int i, .int j, .int c] ∧ RgC i j c n ∧ R (Itc i c n) H1) : iRng3 ta σ H R := h
/-- a class of the text -/
theorem pe_gc {x : Str} {C : Addr} {pos : Pos} (hg : Gl X x) (hm : X.mg x = some (.ref C)) (hdb : (x == ("__debug__" : Str)) = false := by decide) : PE X (.Name x pos) (tC (.ref C)) := pe_glob (v := .ref C) hg hm rfl hdb
end
theorem cut1 (x : V) (r : List V) : cutV (x :: r) (some 1) none = r := by
  show ((x :: r).drop _).take _ = r
  have e1 : HT.sIx (x :: r).length 0 (some 1) = 1 := by
    show min (1 : Nat) (r.length + 1) = 1
    omega
  have e2 : HT.sIx (x :: r).length (x :: r).length none = (x :: r).length := by rfl
  rw [e1, e2]
  simp
end L2
namespace XO
open PySem PySem.W PySem.Calls PySem.HandSPX PySem.Builtin PySem.Builtin.ObjectAttr
/-- the first field of an error under any built-in family -/
theorem own_field {prog : Program} {w : World} {A : Around} {R : Result → Shared → Prop} {hp : Heap} {g : Array GenState} {d : Drawn} {t : Nat} {os : OsState} {B : String} {bmB : List Value} (SF : StoreFacts B bmB "object.__setattr__" "object") {K : Frag} {name : Str} {tk : Tok} {v : Value} {x C : Addr} {fv : Array Value} {nm q : Str} {bs bm sb : List Value} {N : Addr} {sn : List Str} {ab : Bool} {co : Option Bool}
    (X : K.In hp) (hx : hp.get? x = some { cls := .ref C, data := .fields fv }) (hcd : clsIn K C = some { name := nm, bases := bs, mro := .ref C :: bm, ns := N, qualname := q, hasDict := true, slotNames := sn, subclasses := sb, abstract := ab, collection := co, hasDel := false }) (hm : excTail bmB bm = true) (ha : findIn K (.ref C) name = some none)
    (hq : ∀ h' tk' dx, (∀ b o, b ≠ x → hp.get? b = some o → h'.get? b = some o) → hp.objs.size ≤ dx → dx ≠ x → h'.get? x = some { cls := .ref C, dict := some dx, data := .fields fv } → h'.Ns1 dx (fun y => if y = name then some v else none) → R (.ok (.ret .none)) ⟨h', g, d, tk', os⟩) :
    codeAny (model prog w) A (.call (.builtin "object.__setattr__") ⟨[.ref x, .str name tk, v], []⟩) R ⟨hp, g, d, t, os⟩ := by
  have J : InstAt hp x { cls := .ref C, data := .fields fv } C none := ⟨hx, rfl, rfl, trivial⟩
  have nx : x ≠ hp.objs.size := Nat.ne_of_lt (Heap.lt_size hx)
  have LC : Looks (model prog w) hp (classData C) _ := looks_clsIn X hcd
  refine osa_openX (r := none) SF X J (by unfold excOver; rw [hcd]; simp [hm]) (by unfold takerIn; rw [ha]; rfl) fun b => ?_
  show wpAny _ _ (storeInOwnDict (.ref x) (.ref C) (.str name tk) name v b) _ _ _
  unfold storeInOwnDict ownDictForStores
  repeat (first | with_reducible refine store_in_new ?_ ?_ | with_reducible refine wpAny_loadPart_at hx ?_ | with_reducible refine LC.at ?_ | wp_step)
  · refine ⟨_, #[], _, (Heap.get?_update_ne _ _ _ _ nx.symm).trans (Heap.get?_push_at rfl rfl), rfl, fun e he => ?_, fun _ => rfl⟩
    exact absurd he (by simp)
  · intro h2 tk2 ns2 same
    have old : (hp.push { cls := .type "dict", data := .dict #[] }).get? x = some { cls := .ref C, data := .fields fv } := Heap.get?_push_of_some _ hx
    refine hq h2 tk2 hp.objs.size (fun c o hc ho => ?_) (Nat.le_refl _) nx.symm ((same.2 x nx).trans (Heap.get?_update_self _ old rfl)) ns2
    refine (same.2 c (Nat.ne_of_lt (Heap.lt_size ho))).trans ?_
    exact (Heap.get?_update_ne _ _ _ _ hc).trans (Heap.get?_push_of_some _ ho)
end XO
namespace XR
open PySem PySem.W PySem.Calls
abbrev tailB : List Value := [.type "RuntimeError", .type "Exception", .type "BaseException", .type "object"]
/-- an own error class under ValueError whose __init__ calls the one above it with a written text, then keeps its one argument -/
structure ErrC (prog : Program) (K : Frag) (C fI : Addr) (par fld : Str) : Prop where
  cls : ∃ nm q N bs bm sn sub ab col dd k0 k1 k2 k3 k5, K.lookup C = some (excClassObj nm q C N bs bm true sn sub ab col dd k0 k1 k2 k3 k5 "RuntimeError.__new__") ∧ excTail tailB bm = true ∧ alongIn K "__init__" bm = some (some (.builtin "RuntimeError.__init__"))
  init : findIn K (.ref C) "__init__" = some (some (.ref fI))
  ityp : typeIn K (.ref fI) = some (.type "function")
  sa : findIn K (.ref C) "__setattr__" = some (some (.builtin "object.__setattr__"))
  nf : findIn K (.ref C) fld = some none
  exC : subIn K (.ref C) (.type "BaseException") = some true
  veC : subIn K (.ref C) (.type "RuntimeError") = some true
  meC : mroIn K C (.ref C) = some true
  tyC : typeIn K (.ref C) = some (.type "type")
  kC : keepIn K (.ref C) = true
  opq : nsIn K cStatics "thirdparty.any" = some none
  fn : ∃ (qual : Str) (params : Arguments) (body : List Stmt) (scope : Scope) (oc kV doc pm ct ccl cl : Value) (od an cdd cld : Option Addr) (osl ccs csl : Array (Option Value)) (cda cc : Addr) (vs : Array Value) (file : Str) (tf : Tok),
    K.lookup fI = some ⟨oc, od, .func (fnX "__init__" qual params body scope [("__class__", cc)] .none kV doc pm an (.ref cda) ct), osl⟩ ∧ codeIn K (.ref cda) qual = true ∧
    K.lookup cda = some ⟨ccl, cdd, .fields vs, ccs⟩ ∧ vs[2]? = some (.str file tf) ∧ ((prog.main.file : Str) == file) = true ∧ K.lookup cc = some ⟨cl, cld, .cell (some (.ref C)), csl⟩ ∧
    (∃ ar, (params.posonlyargs ++ params.args).head? = some ar ∧ ar.arg = ("self" : Str)) ∧
    (∃ (msg : Str) (j : Nat) (p0 p1 p2 p3 p4 p5 p6 p7 p8 p9 : Pos), body = [.Expr (.Call (.Attribute (.Call (.Name "super" p0) [] [] p1) "__init__" p2) [.Constant (.str msg) j p3] [] p4) p5, .Assign [.Attribute (.Name "self" p6) fld p7] (.Name par p8) p9] ∧
      (∃ pl : Env → Sem Bool, ∀ env : Env, eval (.Call (.Attribute (.Call (.Name "super" p0) [] [] p1) "__init__" p2) [.Constant (.str msg) j p3] [] p4) env = (do
        let ov ← attributeBase (.Call (.Name "super" p0) [] [] p1) "__init__" env (eval (.Call (.Name "super" p0) [] [] p1) env)
        standAt p2.atName
        let (f, first) ← holding [ov] (getMethod ov "__init__" (pl env))
        callWith p4 f first (backTo p4 (starEach [.Constant (.str msg) j p3] env)) [])) ∧
      (∀ env : Env, swapsWith (.Call (.Attribute (.Call (.Name "super" p0) [] [] p1) "__init__" p2) [.Constant (.str msg) j p3] [] p4) none p5.line env = pure false) ∧
      (∀ env : Env, swapsWith (.Name par p8) (some (.Attribute (.Name "self" p6) fld p7)) p9.line env = pure false) ∧ msg.length ≤ 1000) ∧
    (∀ (s : Shared) (x u : Value), BindsTo s (fnX "__init__" qual params body scope [("__class__", cc)] .none kV doc pm an (.ref cda) ct) ⟨[x, u], []⟩ [("self", x), (par, u)]) ∧
    scope.kind = .function ∧ scope.isCoroutine = false ∧ scope.isGenerator = false ∧ (∀ x ∈ scope.names, x.2 ≠ .cell) ∧
    scope.names.lookup ("super" : Str) = some .globalImplicit ∧ scope.names.lookup ("__class__" : Str) = some .free ∧ scope.names.lookup ("self" : Str) = some .local ∧ scope.names.lookup par = some .local
  sup : nsIn K mainGlobals "super" = some none
  top : (prog.main.scope.names.lookup ("super" : Str)).isSome = false
  psf : (par == ("self" : Str)) = false
  pdb : (par == ("__debug__" : Str)) = false
theorem drop_own (C : Addr) (l : List Value) : ((Value.ref C :: l).dropWhile (· != .ref C)).drop 1 = l := by simp [List.dropWhile_cons]
section
variable {prog : Program} {w : World} {A : Around} {K : Frag} {C fI a t0 : Addr} {par fld : Str} {u : Value} {mg mb : Str → Option Value} {R : Result → Shared → Prop}
/-- the bound __init__ of the class above, called -/
theorem call_mw {h : Heap} {g : Array GenState} {d : Drawn} {tk : Nat} {os : OsState} {uw : Addr} {rest : List Value} {nm q : Str} {N : Addr} {bs bm sub : List Value} {sn : List Str} {ab : Bool} {col : Option Bool} {dd : Option Addr} {k0 k1 k2 k3 k5 : Option Value} {Q : Value → Shared → Prop} {E : Value → Shared → Prop}
    (hu : h.get? uw = some (kxs_mw "RuntimeError.__init__" a)) (hC : h.get? C = some (excClassObj nm q C N bs bm true sn sub ab col dd k0 k1 k2 k3 k5 "RuntimeError.__new__")) (he : h.get? a = some (HandSPX.excO C t0)) (hz : rest.length ≤ sizeLine)
    (hq : ∀ h', (∀ b o, b ≠ a → h.get? b = some o → h'.get? b = some o) → h'.get? a = some (HandSPX.excO C h.objs.size) → Q .none ⟨h', g, d, tk, os⟩) :
    wpAny (model prog w) A (call (.ref uw) rest) Q E ⟨h, g, d, tk, os⟩ := by
  refine wpAny_call (codeAny_of_tree ?_)
  show wpAny _ A.in1 (callAny (.ref uw) ⟨rest, []⟩) _ _ _
  unfold callAny
  refine wpAny_bind (wpAny_load hu ?_)
  simp (decide := true) only [kxs_mw, if_true]
  refine wpAny_bind (check_bound_init F.excBase_RuntimeError.toExcCallFacts hC he rfl ?_)
  refine wpAny_bind (wpAny_pure (wpAny_pure ?_))
  refine ⟨plainId_quiet F.excBase_RuntimeError.init.plain _, codeAny_builtin F.excBase_RuntimeError.initEntry ?_⟩
  exact exc_init_tree (cls := .ref C) (t0 := t0) (dv := none) (c2 := .none) (c3 := .none) (b4 := .bool false) he hz fun h' k e1 _ => hq h' k e1
theorem err_code {s : Shared} (X : K.In s.heap) (hg : s.heap.Ns mainGlobals mg) (hb : s.heap.Ns builtinsNs mb) (hbb : ∀ x : Str, x ≠ "__name__" → mb x = bootBuiltins x) (hlim : s.heap.NoLimit) (T : ErrC prog K C fI par fld) (hroom : A.depth < recursionLimit)
    (ha : s.heap.get? a = some (HandSPX.excO C t0)) (hK : K.lookup a = none) (hL : K.lookup s.heap.objs.size = none)
    (h : ∀ h' tk t1 dx, (∀ b o, b ≠ a → s.heap.get? b = some o → h'.get? b = some o) → h'.get? a = some { cls := .ref C, dict := some dx, data := .fields #[.ref t1, .none, .none, .none, .bool false, .none] } → s.heap.objs.size ≤ dx → dx ≠ a →
      h'.Ns1 dx (fun y => if y = fld then some u else none) → R (.ok (.ret .none)) { s with heap := h', toks := tk }) :
    codeAny (model prog w) A (.call (.ref fI) ⟨[.ref a, u], []⟩) R s := by
  obtain ⟨nm, q, N, bs, bm, sn, sub, ab, col, dd, k0, k1, k2, k3, k5, lC, hbm, hal⟩ := T.cls
  obtain ⟨qual, params, body, scope, oc, kV, doc, pm, ct, ccl, cl, od, an, cdd, cld, osl, ccs, csl, cda, cc, vs, file, tf, lf, hcd, lcd, hvs, hfile, lcc, ⟨ar, har, hself⟩, ⟨msg, j, p0, p1, p2, p3, p4, p5, p6, p7, p8, p9, hbody, ⟨pl, hev⟩, hw1, hw2, hmsg⟩, hbind, hk, hco, hgen, hcell, hsu, hcl, hsl, hpl⟩ := T.fn
  have hloc : ∀ x ∈ [(("self" : Str), Value.ref a), (par, u)], scope.names.lookup x.1 = some .local := by
    intro x hx
    rcases List.mem_cons.mp hx with e | hx
    · rw [e]; exact hsl
    · rw [List.mem_singleton.mp hx]; exact hpl
  refine ks_codeAny_call_defAt (body := body) (binds := [("self", .ref a), (par, u)]) hroom (X _ _ lf) rfl hlim (codeRec_of X hcd) rfl (hbind s (.ref a) u) hcell hloc (fun h1 hns kk1 => ?_) hco hgen hk
  subst hbody
  have X1 : K.In h1 := X.keeps kk1
  have hg1 : h1.Ns mainGlobals mg := hg.keeps kk1
  have hb1 : h1.Ns builtinsNs mb := hb.keeps kk1
  have ha1 := kk1 _ _ ha
  have hC1 := X1 _ _ lC
  have eself : (fun x => [(("self" : Str), Value.ref a), (par, u)].reverse.lookup x) ar.arg = some (.ref a) := by
    rw [hself]
    show List.lookup ("self" : Str) [(par, u), ("self", Value.ref a)] = _
    rw [List.lookup_cons, show (("self" : Str) == par) = false from by rw [beq_eq_false_iff_ne]; exact fun z => (beq_eq_false_iff_ne.mp T.psf) z.symm, List.lookup_cons, beq_self_eq_true]
  have epar : (fun x => [(("self" : Str), Value.ref a), (par, u)].reverse.lookup x) par = some u := by
    show List.lookup par [(par, u), ("self", Value.ref a)] = _
    rw [List.lookup_cons, beq_self_eq_true]
  refine ks_wpAt_execs_cons (ks_wpAt_Expr_any ?_ (by show interactive _ = false; simp [interactive, callEnv, newEnv, hk]) (hw1 _))
  refine ks_wpAt_MethodCall ?_ (hev _)
  refine ks_wpAt_super_base hsu hcl (by decide) rfl (X1 _ _ lf) rfl har rfl (X1 _ _ lcd) rfl hvs hfile T.top ?_
  refine ks_loadName_global hk hsu (loadGlobal_builtin hg1 (mg_none_of X1 hg1 T.sup) hb1 ((hbb _ (by decide +kernel)).trans (by decide +kernel)) ⟨rfl, ?_⟩)
  refine wpAny_loadName_free hk hcl rfl ⟨_, X1 _ _ lcc, rfl⟩ ?_
  refine wpAny_loadName_local hk (by rw [hself]; exact hsl) hns eself ?_
  obtain ⟨hp0, g, d, tk0, os⟩ := s
  refine ks_wpAny_isType_cls hC1 rfl ⟨rfl, ?_⟩
  refine ks_wpAny_call_super (C := C) hC1 rfl ha1 rfl (fun c e => by cases e) (looks_mroIn X1 T.meC) (fun h2 e2 kk2 => ?_)
  have X2 : K.In h2 := X1.keeps kk2
  have hcl2 : clsIn K C = some { name := nm, bases := bs, mro := .ref C :: bm, ns := N, qualname := q, hasDict := true, slotNames := sn, subclasses := sub, abstract := ab, collection := col, hasDel := false } := by unfold clsIn; rw [lC]
  have I2 : InstAt h2 a (HandSPX.excO C t0) C none := ⟨kk2 _ _ ha1, rfl, rfl, trivial⟩
  refine kxs_getMethod kxs_RuntimeError e2 (looks_opaque X2 T.opq) (l₀ := .ref C :: bm) (fun A Q E s k q => wpAny_bind ((looks_clsIn X2 hcl2) A _ E s k (wpAny_pure q))) (drop_own C bm) X2 hal (I2.type.andThen (looks_subIn X2 T.veC)) (ks_ne X2 I2 hcl2) (by decide) ?_
  have kk3 : ∀ b o, h2.get? b = some o → (h2.push (kxs_mw "RuntimeError.__init__" a)).get? b = some o := fun b o e => Heap.get?_push_of_some _ e
  have hu3 : (h2.push (kxs_mw "RuntimeError.__init__" a)).get? h2.objs.size = some (kxs_mw "RuntimeError.__init__" a) := Heap.get?_push_at rfl rfl
  refine kxs_callWith (i := "RuntimeError.__init__") (x := a) (by rfl) (evalArgs_plain (spliced_cons (Constant_str (pos := p3) (k := j) (spliced_nil ⟨hu3, ?_⟩))))
  refine call_mw hu3 (kk3 _ _ (X2 _ _ lC)) (kk3 _ _ (kk2 _ _ ha1)) (by show 1 ≤ sizeLine; decide) fun h4 kk4 e4 => ?_
  -- self.fld = par
  have kk14 : ∀ b o, b ≠ a → h1.get? b = some o → h4.get? b = some o := fun b o n e => kk4 b o n (kk3 _ _ (kk2 _ _ e))
  have X4 : K.In h4 := fun b o e => kk14 b o (fun z => by rw [z, hK] at e; cases e) (X1 b o e)
  have hns4 : h4.Ns hp0.objs.size (fun x => [(("self" : Str), Value.ref a), (par, u)].reverse.lookup x) := by
    obtain ⟨o, es, ep, e, dd2, r⟩ := hns
    have na : hp0.objs.size ≠ a := fun z => absurd (Heap.lt_size ha) (by rw [← z]; exact Nat.lt_irrefl _)
    exact ⟨o, es, ep, kk14 _ _ na e, dd2, r⟩
  refine ks_wpAt_execs_cons (wpAt_of_wpAny (plainObj_wpAny_Assign_Attribute (ESX.ldL hns4 epar (ESX.ldL hns4 (by show List.lookup ("self" : Str) [(par, u), ("self", Value.ref a)] = some (.ref a); rw [List.lookup_cons, show (("self" : Str) == par) = false from by rw [beq_eq_false_iff_ne]; exact fun z => (beq_eq_false_iff_ne.mp T.psf) z.symm, List.lookup_cons, beq_self_eq_true]) ?_ hk hsl (by decide)) hk hpl T.pdb) (hw2 _)))
  have hcl4 : clsIn K C = some { name := nm, bases := bs, mro := .ref C :: bm, ns := N, qualname := q, hasDict := true, slotNames := sn, subclasses := sub, abstract := ab, collection := col, hasDel := false } := hcl2
  refine set_plain X4 (ox := _) (od := none) ⟨e4, rfl, rfl, trivial⟩ T.sa ?_
  refine XO.own_field PySem.F.store_RuntimeError X4 e4 hcl4 hbm T.nf (fun h5 tk5 dx kk5 hdx hda e5 ns5 => ?_)
  refine wpAt_of_wpAny (wpAny_pure ?_)
  have hlt : hp0.objs.size < h4.objs.size := by
    obtain ⟨o, es, ep, e, _⟩ := hns4
    exact Heap.lt_size e
  exact h h5 tk5 _ dx (fun b o n e => kk5 b o n (kk14 b o n (kk1 b o e))) e5 (Nat.le_of_lt (Nat.lt_of_lt_of_le hlt hdx)) hda ns5
end
end XR
namespace L2
open PySem PySem.Spec PyProof.Rows
section
variable {X : Cx} {C fI : Addr} {par fld x : Str} {p pos : Pos} {e : Expr} {te : TE}
theorem pmk_errR (T : XR.ErrC X.prog X.K C fI par fld) (hr : Room 1 X.A) (hg : Gl X x) (hm : X.mg x = some (.ref C)) (ha : PE X e te) (hdb : (x == ("__debug__" : Str)) = false := by decide)
    (he : starEach [e] X.env = (false, eval e X.env) :: starEach [] X.env := by rfl) : PMk X (.Call (.Name x p) [e] [] pos) (tMkE C fld te) := by
  intro pins s σ H Q I h
  obtain ⟨nm, q, N, bs, bm, sn, sub, ab, col, dd, k0, k1, k2, k3, k5, hC, hbm, _⟩ := T.cls
  refine wpAny_Call_Name_kw (ld_glob I hg hm ?_ hdb)
  refine PySem.W.callWith_K (h₀ := X.base) I.ok.mod.kin T.kC ?_ he (by rfl)
  rw [he]
  show wpAny _ _ (spliced ((false, eval e X.env) :: backTo pos (starEach [] X.env))) _ _ s
  refine Calls.spliced_cons (thn (ha.run pins s σ H _ I h) fun u s1 ⟨v, H1, I1, r1, q1⟩ => Calls.spliced_nil ⟨I1.kIn, ?_⟩)
  show wpAny _ _ (call (.ref C) [u]) _ _ _
  obtain ⟨hp, g, dr, tk, os⟩ := s1
  have kk : ∀ b o, hp.get? b = some o → ((hp.push (PySem.W.kdv_tup [u])).push (PySem.HandSPX.excO C hp.objs.size)).get? b = some o := fun b o z => Heap.get?_push_of_some _ (Heap.get?_push_of_some _ z)
  have hget : ((hp.push (PySem.W.kdv_tup [u])).push (PySem.HandSPX.excO C hp.objs.size)).get? (hp.objs.size + 1) = some (PySem.HandSPX.excO C hp.objs.size) := by heap_get
  have hK : ∀ b, hp.objs.size ≤ b → X.K.lookup b = none := fun b hb => by
    cases z : X.K.lookup b with
    | none => rfl
    | some o => exact absurd (Heap.lt_size (I1.kIn b o z)) (Nat.not_lt.mpr hb)
  have hsz2 : ((hp.push (PySem.W.kdv_tup [u])).push (PySem.HandSPX.excO C hp.objs.size)).objs.size = hp.objs.size + 2 := by
    simp [Heap.push]
  obtain ⟨mb, hb1, hb2⟩ := I1.mod.blt
  have kb : ∀ b o, X.base.get? b = some o → ((hp.push (PySem.W.kdv_tup [u])).push (PySem.HandSPX.excO C hp.objs.size)).get? b = some o := fun b o z => kk b o (I1.bk b o z)
  refine wpAny_call (PySem.HandSPX.call_own F.excBase_RuntimeError (fun Y => PySem.W.excTail_contains Y bm hbm) (I1.kIn _ _ hC) (PySem.W.looks_findIn I1.kIn T.init) (fun self => PySem.W.bind_fn I1.kIn self T.ityp) (by show 1 ≤ sizeLine; decide) ?_)
  refine XR.err_code (mg := X.mg) (mb := mb) (I1.ok.mod.kin.keeps kb) (I1.mod.glob.keeps kb) (hb1.keeps kb) hb2 (I1.mod.nolimit.keeps kb) T (hr.make C [u] []).depth hget (hK _ (Nat.le_succ _)) (hK _ (by rw [hsz2]; exact Nat.le_add_right _ 2)) fun h5 tk5 t1 dx k5 e5 hdx hda n5 => ?_
  rw [hsz2] at hdx
  obtain ⟨G, g1, g2⟩ := restrict h5 fun b => decide (b ≠ hp.objs.size + 1)
  have gk : ∀ b, b ≠ hp.objs.size + 1 → G.get? b = h5.get? b := fun b hb => g1 b (decide_eq_true hb)
  have ge : G.get? (hp.objs.size + 1) = none := g2 _ (by simp)
  have kG : ∀ b o, hp.get? b = some o → G.get? b = some o := fun b o z => by
    have nb : b ≠ hp.objs.size + 1 := Nat.ne_of_lt (Nat.lt_succ_of_lt (Heap.lt_size z))
    rw [gk b nb]
    exact k5 b o nb (kk b o z)
  have J := I1.laid (t' := tk5) (a := dx) (o := .xd [(fld, v)]) (h' := G) kG (Nat.le_trans (Nat.le_add_right _ 2) hdx) ⟨_, n5.at fun o y => (gk dx hda).trans y, fun f => by
    show RelO (List.lookup f [(fld, v)]) _
    rw [lookup_put]
    by_cases hf : f = fld
    · rw [if_pos hf, if_pos hf]
      exact r1
    · rw [if_neg hf, if_neg hf]
      exact True.intro⟩
  have na : H1 (hp.objs.size + 1) = none := I1.hok.fresh (Nat.le_succ _)
  have nd : H1 dx = none := I1.hok.fresh (Nat.le_trans (Nat.le_add_right _ 2) hdx)
  refine ⟨rfl, hp.objs.size + 1, _, _, ⟨G, g, dr, tk5, os⟩, _, .ref C, some dx, rfl, J, fun b o z => ?_, ge, e5, ⟨rfl, rfl⟩, rfl, rfl, ?_, rfl, I1.bare, raises_own T.exC T.tyC, q1 dx nd⟩
  · by_cases hb : b = hp.objs.size + 1
    · rw [hb, ge] at z
      cases z
    · exact (gk b hb).symm.trans z
  · rw [upd_ne (Ne.symm hda)]
    exact na
end
end L2
namespace L2
open PySem
section
variable {X : Cx} {te : TE}
theorem ps_raiseER {C fI : Addr} {par fld x : Str} {e : Expr} {E : XK} {p pos pos2 : Pos} (hc : X.calm = true) (tk : Takes X (fun cls d _ H => E cls d H)) (T : XR.ErrC X.prog X.K C fI par fld) (hr : Room 1 X.A) (hg : Gl X x) (hm : X.mg x = some (.ref C)) (ha : PE X e te) (hdb : (x == ("__debug__" : Str)) = false := by decide)
    (he : starEach [e] X.env = (false, eval e X.env) :: starEach [] X.env := by rfl) : PS X (.Raise (some (.Call (.Name x p) [e] [] pos)) none pos2) (tRaiseE C fld te E) := ps_raise hc tk (pmk_errR T hr hg hm ha hdb he)
end
end L2
namespace XL
open PySem PySem.W PySem.Calls
abbrev tailB : List Value := [.type "LookupError", .type "Exception", .type "BaseException", .type "object"]
/-- an own error class under ValueError whose __init__ calls the one above it with a written text, then keeps its one argument -/
structure ErrC (prog : Program) (K : Frag) (C fI : Addr) (par fld : Str) : Prop where
  cls : ∃ nm q N bs bm sn sub ab col dd k0 k1 k2 k3 k5, K.lookup C = some (excClassObj nm q C N bs bm true sn sub ab col dd k0 k1 k2 k3 k5 "LookupError.__new__") ∧ excTail tailB bm = true ∧ alongIn K "__init__" bm = some (some (.builtin "LookupError.__init__"))
  init : findIn K (.ref C) "__init__" = some (some (.ref fI))
  ityp : typeIn K (.ref fI) = some (.type "function")
  sa : findIn K (.ref C) "__setattr__" = some (some (.builtin "object.__setattr__"))
  nf : findIn K (.ref C) fld = some none
  exC : subIn K (.ref C) (.type "BaseException") = some true
  veC : subIn K (.ref C) (.type "LookupError") = some true
  meC : mroIn K C (.ref C) = some true
  tyC : typeIn K (.ref C) = some (.type "type")
  kC : keepIn K (.ref C) = true
  opq : nsIn K cStatics "thirdparty.any" = some none
  fn : ∃ (qual : Str) (params : Arguments) (body : List Stmt) (scope : Scope) (oc kV doc pm ct ccl cl : Value) (od an cdd cld : Option Addr) (osl ccs csl : Array (Option Value)) (cda cc : Addr) (vs : Array Value) (file : Str) (tf : Tok),
    K.lookup fI = some ⟨oc, od, .func (fnX "__init__" qual params body scope [("__class__", cc)] .none kV doc pm an (.ref cda) ct), osl⟩ ∧ codeIn K (.ref cda) qual = true ∧
    K.lookup cda = some ⟨ccl, cdd, .fields vs, ccs⟩ ∧ vs[2]? = some (.str file tf) ∧ ((prog.main.file : Str) == file) = true ∧ K.lookup cc = some ⟨cl, cld, .cell (some (.ref C)), csl⟩ ∧
    (∃ ar, (params.posonlyargs ++ params.args).head? = some ar ∧ ar.arg = ("self" : Str)) ∧
    (∃ (msg : Str) (j : Nat) (p0 p1 p2 p3 p4 p5 p6 p7 p8 p9 : Pos), body = [.Expr (.Call (.Attribute (.Call (.Name "super" p0) [] [] p1) "__init__" p2) [.Constant (.str msg) j p3] [] p4) p5, .Assign [.Attribute (.Name "self" p6) fld p7] (.Name par p8) p9] ∧
      (∃ pl : Env → Sem Bool, ∀ env : Env, eval (.Call (.Attribute (.Call (.Name "super" p0) [] [] p1) "__init__" p2) [.Constant (.str msg) j p3] [] p4) env = (do
        let ov ← attributeBase (.Call (.Name "super" p0) [] [] p1) "__init__" env (eval (.Call (.Name "super" p0) [] [] p1) env)
        standAt p2.atName
        let (f, first) ← holding [ov] (getMethod ov "__init__" (pl env))
        callWith p4 f first (backTo p4 (starEach [.Constant (.str msg) j p3] env)) [])) ∧
      (∀ env : Env, swapsWith (.Call (.Attribute (.Call (.Name "super" p0) [] [] p1) "__init__" p2) [.Constant (.str msg) j p3] [] p4) none p5.line env = pure false) ∧
      (∀ env : Env, swapsWith (.Name par p8) (some (.Attribute (.Name "self" p6) fld p7)) p9.line env = pure false) ∧ msg.length ≤ 1000) ∧
    (∀ (s : Shared) (x u : Value), BindsTo s (fnX "__init__" qual params body scope [("__class__", cc)] .none kV doc pm an (.ref cda) ct) ⟨[x, u], []⟩ [("self", x), (par, u)]) ∧
    scope.kind = .function ∧ scope.isCoroutine = false ∧ scope.isGenerator = false ∧ (∀ x ∈ scope.names, x.2 ≠ .cell) ∧
    scope.names.lookup ("super" : Str) = some .globalImplicit ∧ scope.names.lookup ("__class__" : Str) = some .free ∧ scope.names.lookup ("self" : Str) = some .local ∧ scope.names.lookup par = some .local
  sup : nsIn K mainGlobals "super" = some none
  top : (prog.main.scope.names.lookup ("super" : Str)).isSome = false
  psf : (par == ("self" : Str)) = false
  pdb : (par == ("__debug__" : Str)) = false
theorem drop_own (C : Addr) (l : List Value) : ((Value.ref C :: l).dropWhile (· != .ref C)).drop 1 = l := by simp [List.dropWhile_cons]
section
variable {prog : Program} {w : World} {A : Around} {K : Frag} {C fI a t0 : Addr} {par fld : Str} {u : Value} {mg mb : Str → Option Value} {R : Result → Shared → Prop}
/-- the bound __init__ of the class above, called -/
theorem call_mw {h : Heap} {g : Array GenState} {d : Drawn} {tk : Nat} {os : OsState} {uw : Addr} {rest : List Value} {nm q : Str} {N : Addr} {bs bm sub : List Value} {sn : List Str} {ab : Bool} {col : Option Bool} {dd : Option Addr} {k0 k1 k2 k3 k5 : Option Value} {Q : Value → Shared → Prop} {E : Value → Shared → Prop}
    (hu : h.get? uw = some (kxs_mw "LookupError.__init__" a)) (hC : h.get? C = some (excClassObj nm q C N bs bm true sn sub ab col dd k0 k1 k2 k3 k5 "LookupError.__new__")) (he : h.get? a = some (HandSPX.excO C t0)) (hz : rest.length ≤ sizeLine)
    (hq : ∀ h', (∀ b o, b ≠ a → h.get? b = some o → h'.get? b = some o) → h'.get? a = some (HandSPX.excO C h.objs.size) → Q .none ⟨h', g, d, tk, os⟩) :
    wpAny (model prog w) A (call (.ref uw) rest) Q E ⟨h, g, d, tk, os⟩ := by
  refine wpAny_call (codeAny_of_tree ?_)
  show wpAny _ A.in1 (callAny (.ref uw) ⟨rest, []⟩) _ _ _
  unfold callAny
  refine wpAny_bind (wpAny_load hu ?_)
  simp (decide := true) only [kxs_mw, if_true]
  refine wpAny_bind (check_bound_init F.excBase_LookupError.toExcCallFacts hC he rfl ?_)
  refine wpAny_bind (wpAny_pure (wpAny_pure ?_))
  refine ⟨plainId_quiet F.excBase_LookupError.init.plain _, codeAny_builtin F.excBase_LookupError.initEntry ?_⟩
  exact exc_init_tree (cls := .ref C) (t0 := t0) (dv := none) (c2 := .none) (c3 := .none) (b4 := .bool false) he hz fun h' k e1 _ => hq h' k e1
theorem err_code {s : Shared} (X : K.In s.heap) (hg : s.heap.Ns mainGlobals mg) (hb : s.heap.Ns builtinsNs mb) (hbb : ∀ x : Str, x ≠ "__name__" → mb x = bootBuiltins x) (hlim : s.heap.NoLimit) (T : ErrC prog K C fI par fld) (hroom : A.depth < recursionLimit)
    (ha : s.heap.get? a = some (HandSPX.excO C t0)) (hK : K.lookup a = none) (hL : K.lookup s.heap.objs.size = none)
    (h : ∀ h' tk t1 dx, (∀ b o, b ≠ a → s.heap.get? b = some o → h'.get? b = some o) → h'.get? a = some { cls := .ref C, dict := some dx, data := .fields #[.ref t1, .none, .none, .none, .bool false, .none] } → s.heap.objs.size ≤ dx → dx ≠ a →
      h'.Ns1 dx (fun y => if y = fld then some u else none) → R (.ok (.ret .none)) { s with heap := h', toks := tk }) :
    codeAny (model prog w) A (.call (.ref fI) ⟨[.ref a, u], []⟩) R s := by
  obtain ⟨nm, q, N, bs, bm, sn, sub, ab, col, dd, k0, k1, k2, k3, k5, lC, hbm, hal⟩ := T.cls
  obtain ⟨qual, params, body, scope, oc, kV, doc, pm, ct, ccl, cl, od, an, cdd, cld, osl, ccs, csl, cda, cc, vs, file, tf, lf, hcd, lcd, hvs, hfile, lcc, ⟨ar, har, hself⟩, ⟨msg, j, p0, p1, p2, p3, p4, p5, p6, p7, p8, p9, hbody, ⟨pl, hev⟩, hw1, hw2, hmsg⟩, hbind, hk, hco, hgen, hcell, hsu, hcl, hsl, hpl⟩ := T.fn
  have hloc : ∀ x ∈ [(("self" : Str), Value.ref a), (par, u)], scope.names.lookup x.1 = some .local := by
    intro x hx
    rcases List.mem_cons.mp hx with e | hx
    · rw [e]; exact hsl
    · rw [List.mem_singleton.mp hx]; exact hpl
  refine ks_codeAny_call_defAt (body := body) (binds := [("self", .ref a), (par, u)]) hroom (X _ _ lf) rfl hlim (codeRec_of X hcd) rfl (hbind s (.ref a) u) hcell hloc (fun h1 hns kk1 => ?_) hco hgen hk
  subst hbody
  have X1 : K.In h1 := X.keeps kk1
  have hg1 : h1.Ns mainGlobals mg := hg.keeps kk1
  have hb1 : h1.Ns builtinsNs mb := hb.keeps kk1
  have ha1 := kk1 _ _ ha
  have hC1 := X1 _ _ lC
  have eself : (fun x => [(("self" : Str), Value.ref a), (par, u)].reverse.lookup x) ar.arg = some (.ref a) := by
    rw [hself]
    show List.lookup ("self" : Str) [(par, u), ("self", Value.ref a)] = _
    rw [List.lookup_cons, show (("self" : Str) == par) = false from by rw [beq_eq_false_iff_ne]; exact fun z => (beq_eq_false_iff_ne.mp T.psf) z.symm, List.lookup_cons, beq_self_eq_true]
  have epar : (fun x => [(("self" : Str), Value.ref a), (par, u)].reverse.lookup x) par = some u := by
    show List.lookup par [(par, u), ("self", Value.ref a)] = _
    rw [List.lookup_cons, beq_self_eq_true]
  refine ks_wpAt_execs_cons (ks_wpAt_Expr_any ?_ (by show interactive _ = false; simp [interactive, callEnv, newEnv, hk]) (hw1 _))
  refine ks_wpAt_MethodCall ?_ (hev _)
  refine ks_wpAt_super_base hsu hcl (by decide) rfl (X1 _ _ lf) rfl har rfl (X1 _ _ lcd) rfl hvs hfile T.top ?_
  refine ks_loadName_global hk hsu (loadGlobal_builtin hg1 (mg_none_of X1 hg1 T.sup) hb1 ((hbb _ (by decide +kernel)).trans (by decide +kernel)) ⟨rfl, ?_⟩)
  refine wpAny_loadName_free hk hcl rfl ⟨_, X1 _ _ lcc, rfl⟩ ?_
  refine wpAny_loadName_local hk (by rw [hself]; exact hsl) hns eself ?_
  obtain ⟨hp0, g, d, tk0, os⟩ := s
  refine ks_wpAny_isType_cls hC1 rfl ⟨rfl, ?_⟩
  refine ks_wpAny_call_super (C := C) hC1 rfl ha1 rfl (fun c e => by cases e) (looks_mroIn X1 T.meC) (fun h2 e2 kk2 => ?_)
  have X2 : K.In h2 := X1.keeps kk2
  have hcl2 : clsIn K C = some { name := nm, bases := bs, mro := .ref C :: bm, ns := N, qualname := q, hasDict := true, slotNames := sn, subclasses := sub, abstract := ab, collection := col, hasDel := false } := by unfold clsIn; rw [lC]
  have I2 : InstAt h2 a (HandSPX.excO C t0) C none := ⟨kk2 _ _ ha1, rfl, rfl, trivial⟩
  refine kxs_getMethod kxs_LookupError e2 (looks_opaque X2 T.opq) (l₀ := .ref C :: bm) (fun A Q E s k q => wpAny_bind ((looks_clsIn X2 hcl2) A _ E s k (wpAny_pure q))) (drop_own C bm) X2 hal (I2.type.andThen (looks_subIn X2 T.veC)) (ks_ne X2 I2 hcl2) (by decide) ?_
  have kk3 : ∀ b o, h2.get? b = some o → (h2.push (kxs_mw "LookupError.__init__" a)).get? b = some o := fun b o e => Heap.get?_push_of_some _ e
  have hu3 : (h2.push (kxs_mw "LookupError.__init__" a)).get? h2.objs.size = some (kxs_mw "LookupError.__init__" a) := Heap.get?_push_at rfl rfl
  refine kxs_callWith (i := "LookupError.__init__") (x := a) (by rfl) (evalArgs_plain (spliced_cons (Constant_str (pos := p3) (k := j) (spliced_nil ⟨hu3, ?_⟩))))
  refine call_mw hu3 (kk3 _ _ (X2 _ _ lC)) (kk3 _ _ (kk2 _ _ ha1)) (by show 1 ≤ sizeLine; decide) fun h4 kk4 e4 => ?_
  -- self.fld = par
  have kk14 : ∀ b o, b ≠ a → h1.get? b = some o → h4.get? b = some o := fun b o n e => kk4 b o n (kk3 _ _ (kk2 _ _ e))
  have X4 : K.In h4 := fun b o e => kk14 b o (fun z => by rw [z, hK] at e; cases e) (X1 b o e)
  have hns4 : h4.Ns hp0.objs.size (fun x => [(("self" : Str), Value.ref a), (par, u)].reverse.lookup x) := by
    obtain ⟨o, es, ep, e, dd2, r⟩ := hns
    have na : hp0.objs.size ≠ a := fun z => absurd (Heap.lt_size ha) (by rw [← z]; exact Nat.lt_irrefl _)
    exact ⟨o, es, ep, kk14 _ _ na e, dd2, r⟩
  refine ks_wpAt_execs_cons (wpAt_of_wpAny (plainObj_wpAny_Assign_Attribute (ESX.ldL hns4 epar (ESX.ldL hns4 (by show List.lookup ("self" : Str) [(par, u), ("self", Value.ref a)] = some (.ref a); rw [List.lookup_cons, show (("self" : Str) == par) = false from by rw [beq_eq_false_iff_ne]; exact fun z => (beq_eq_false_iff_ne.mp T.psf) z.symm, List.lookup_cons, beq_self_eq_true]) ?_ hk hsl (by decide)) hk hpl T.pdb) (hw2 _)))
  have hcl4 : clsIn K C = some { name := nm, bases := bs, mro := .ref C :: bm, ns := N, qualname := q, hasDict := true, slotNames := sn, subclasses := sub, abstract := ab, collection := col, hasDel := false } := hcl2
  refine set_plain X4 (ox := _) (od := none) ⟨e4, rfl, rfl, trivial⟩ T.sa ?_
  refine XO.own_field PySem.F.store_LookupError X4 e4 hcl4 hbm T.nf (fun h5 tk5 dx kk5 hdx hda e5 ns5 => ?_)
  refine wpAt_of_wpAny (wpAny_pure ?_)
  have hlt : hp0.objs.size < h4.objs.size := by
    obtain ⟨o, es, ep, e, _⟩ := hns4
    exact Heap.lt_size e
  exact h h5 tk5 _ dx (fun b o n e => kk5 b o n (kk14 b o n (kk1 b o e))) e5 (Nat.le_of_lt (Nat.lt_of_lt_of_le hlt hdx)) hda ns5
end
end XL
namespace L2
open PySem PySem.Spec PyProof.Rows
section
variable {X : Cx} {C fI : Addr} {par fld x : Str} {p pos : Pos} {e : Expr} {te : TE}
theorem pmk_errL (T : XL.ErrC X.prog X.K C fI par fld) (hr : Room 1 X.A) (hg : Gl X x) (hm : X.mg x = some (.ref C)) (ha : PE X e te) (hdb : (x == ("__debug__" : Str)) = false := by decide)
    (he : starEach [e] X.env = (false, eval e X.env) :: starEach [] X.env := by rfl) : PMk X (.Call (.Name x p) [e] [] pos) (tMkE C fld te) := by
  intro pins s σ H Q I h
  obtain ⟨nm, q, N, bs, bm, sn, sub, ab, col, dd, k0, k1, k2, k3, k5, hC, hbm, _⟩ := T.cls
  refine wpAny_Call_Name_kw (ld_glob I hg hm ?_ hdb)
  refine PySem.W.callWith_K (h₀ := X.base) I.ok.mod.kin T.kC ?_ he (by rfl)
  rw [he]
  show wpAny _ _ (spliced ((false, eval e X.env) :: backTo pos (starEach [] X.env))) _ _ s
  refine Calls.spliced_cons (thn (ha.run pins s σ H _ I h) fun u s1 ⟨v, H1, I1, r1, q1⟩ => Calls.spliced_nil ⟨I1.kIn, ?_⟩)
  show wpAny _ _ (call (.ref C) [u]) _ _ _
  obtain ⟨hp, g, dr, tk, os⟩ := s1
  have kk : ∀ b o, hp.get? b = some o → ((hp.push (PySem.W.kdv_tup [u])).push (PySem.HandSPX.excO C hp.objs.size)).get? b = some o := fun b o z => Heap.get?_push_of_some _ (Heap.get?_push_of_some _ z)
  have hget : ((hp.push (PySem.W.kdv_tup [u])).push (PySem.HandSPX.excO C hp.objs.size)).get? (hp.objs.size + 1) = some (PySem.HandSPX.excO C hp.objs.size) := by heap_get
  have hK : ∀ b, hp.objs.size ≤ b → X.K.lookup b = none := fun b hb => by
    cases z : X.K.lookup b with
    | none => rfl
    | some o => exact absurd (Heap.lt_size (I1.kIn b o z)) (Nat.not_lt.mpr hb)
  have hsz2 : ((hp.push (PySem.W.kdv_tup [u])).push (PySem.HandSPX.excO C hp.objs.size)).objs.size = hp.objs.size + 2 := by
    simp [Heap.push]
  obtain ⟨mb, hb1, hb2⟩ := I1.mod.blt
  have kb : ∀ b o, X.base.get? b = some o → ((hp.push (PySem.W.kdv_tup [u])).push (PySem.HandSPX.excO C hp.objs.size)).get? b = some o := fun b o z => kk b o (I1.bk b o z)
  refine wpAny_call (PySem.HandSPX.call_own F.excBase_LookupError (fun Y => PySem.W.excTail_contains Y bm hbm) (I1.kIn _ _ hC) (PySem.W.looks_findIn I1.kIn T.init) (fun self => PySem.W.bind_fn I1.kIn self T.ityp) (by show 1 ≤ sizeLine; decide) ?_)
  refine XL.err_code (mg := X.mg) (mb := mb) (I1.ok.mod.kin.keeps kb) (I1.mod.glob.keeps kb) (hb1.keeps kb) hb2 (I1.mod.nolimit.keeps kb) T (hr.make C [u] []).depth hget (hK _ (Nat.le_succ _)) (hK _ (by rw [hsz2]; exact Nat.le_add_right _ 2)) fun h5 tk5 t1 dx k5 e5 hdx hda n5 => ?_
  rw [hsz2] at hdx
  obtain ⟨G, g1, g2⟩ := restrict h5 fun b => decide (b ≠ hp.objs.size + 1)
  have gk : ∀ b, b ≠ hp.objs.size + 1 → G.get? b = h5.get? b := fun b hb => g1 b (decide_eq_true hb)
  have ge : G.get? (hp.objs.size + 1) = none := g2 _ (by simp)
  have kG : ∀ b o, hp.get? b = some o → G.get? b = some o := fun b o z => by
    have nb : b ≠ hp.objs.size + 1 := Nat.ne_of_lt (Nat.lt_succ_of_lt (Heap.lt_size z))
    rw [gk b nb]
    exact k5 b o nb (kk b o z)
  have J := I1.laid (t' := tk5) (a := dx) (o := .xd [(fld, v)]) (h' := G) kG (Nat.le_trans (Nat.le_add_right _ 2) hdx) ⟨_, n5.at fun o y => (gk dx hda).trans y, fun f => by
    show RelO (List.lookup f [(fld, v)]) _
    rw [lookup_put]
    by_cases hf : f = fld
    · rw [if_pos hf, if_pos hf]
      exact r1
    · rw [if_neg hf, if_neg hf]
      exact True.intro⟩
  have na : H1 (hp.objs.size + 1) = none := I1.hok.fresh (Nat.le_succ _)
  have nd : H1 dx = none := I1.hok.fresh (Nat.le_trans (Nat.le_add_right _ 2) hdx)
  refine ⟨rfl, hp.objs.size + 1, _, _, ⟨G, g, dr, tk5, os⟩, _, .ref C, some dx, rfl, J, fun b o z => ?_, ge, e5, ⟨rfl, rfl⟩, rfl, rfl, ?_, rfl, I1.bare, raises_own T.exC T.tyC, q1 dx nd⟩
  · by_cases hb : b = hp.objs.size + 1
    · rw [hb, ge] at z
      cases z
    · exact (gk b hb).symm.trans z
  · rw [upd_ne (Ne.symm hda)]
    exact na
end
end L2
namespace L2
open PySem
section
variable {X : Cx} {te : TE}
theorem ps_raiseEL {C fI : Addr} {par fld x : Str} {e : Expr} {E : XK} {p pos pos2 : Pos} (hc : X.calm = true) (tk : Takes X (fun cls d _ H => E cls d H)) (T : XL.ErrC X.prog X.K C fI par fld) (hr : Room 1 X.A) (hg : Gl X x) (hm : X.mg x = some (.ref C)) (ha : PE X e te) (hdb : (x == ("__debug__" : Str)) = false := by decide)
    (he : starEach [e] X.env = (false, eval e X.env) :: starEach [] X.env := by rfl) : PS X (.Raise (some (.Call (.Name x p) [e] [] pos)) none pos2) (tRaiseE C fld te E) := ps_raise hc tk (pmk_errL T hr hg hm ha hdb he)
end
end L2
namespace L2
open PySem PySem.Spec PyProof.Rows PySem.Builtin PySem.Builtin.Float
/-! ### two digits to the base 16 in an f-string -/
def hexSpec : Str := "02X"
def hexF : FormatSpec := match parseFormatSpec hexSpec.cps.toList "int" 62 with | .ok f => f | .error _ => { align := 62 }
theorem hexF_ok : parseFormatSpec hexSpec.cps.toList "int" 62 = .ok hexF := by kernel_rfl
def hexText (a : Int) : Str := intField' hexF (decide (a < 0)) [] ((Nat.toDigits 16 a.natAbs).map fun c => c.toUpper.toNat) [] 4
def hexD (n : Nat) : Nat := if n < 10 then 48 + n else 55 + n
theorem hexText_all : ∀ n : Nat, n < 256 → (hexText (n : Int)).cps.toList = [hexD (n / 16), hexD (n % 16)] := by decide +kernel
theorem gives_hex {n : Nat} {t u : Tok} (hn : n < 256) : Gives (Builtin.«int.__format__» ⟨[.int (n : Int) t, .str hexSpec u], []⟩) (.str (hexText (n : Int))) := by
  intro prog w A R s hq
  have e1 : (hexSpec.length == 0) = false := by decide +kernel
  have e2 : ((hexSpec.cps.toList.drop 1).any (· ≥ 128) || (hexSpec.cps.getD 0 0 ≥ 128 && !([60, 62, 61, 94] : List Nat).contains (hexSpec.cps.getD 1 0))) = false := by decide +kernel
  have e3 : hexF.type.getD (if hexSpec.cps.back? == some 0 then 0 else 100) = 88 := by decide +kernel
  have e4 : hexF.precision.isSome = false := by decide +kernel
  have e5 : hexF.noNeg0 = false := by decide +kernel
  have e6 : ¬ (hexF.width.getD 0 > 100000) := by decide +kernel
  have e7 : hexF.alt = false := by decide +kernel
  have e8 : hexF.grouping = none := by decide +kernel
  have e9 : hexF.sign = none := by decide +kernel
  unfold Builtin.«int.__format__»
  simp only [selfAndOne, noKeywords, Int.intOfSelf, asInt?, asStr?, List.isEmpty_nil, if_true, pure_bind, bind_pure, bind_assoc, e1, e2, Bool.false_eq_true, if_false,
    show (Value.str hexSpec u == Value.none) = false from rfl]
  refine wpAny_bind (wpAny_typeNameOf (T := "str") (typeIs_str _ _ _) (by decide) fun _ => ?_)
  first | refine wpAny_bind (wpAny_typeNameOfCut_int ?_) | refine wpAny_bind (wpAny_typeNameOf_int ?_)
  simp only [hexF_ok, e3]
  rw [if_pos (by decide)]
  have hlen : (hexText (n : Int)).length ≤ sizeLine := by
    have e := congrArg List.length (hexText_all n hn)
    rw [Array.length_toList] at e
    show (hexText (n : Int)).cps.size ≤ sizeLine
    rw [e]
    show 2 ≤ sizeLine
    decide
  unfold hexText at hq hlen
  generalize hexF = f at e3 e4 e5 e6 e7 e8 e9 hq hlen ⊢
  show wpAny _ _ (if _ then _ else _) _ _ _
  rw [if_neg (by simp [e4])]
  show wpAny _ _ (if _ then _ else _) _ _ _
  rw [if_neg (by simp [e5])]
  show wpAny _ _ (if _ then _ else _) _ _ _
  rw [if_neg (by decide)]
  show wpAny _ _ (if _ then _ else _) _ _ _
  rw [if_neg (by decide)]
  show wpAny _ _ (if _ then _ else _) _ _ _
  rw [if_neg (by simpa using e6)]
  show wpAny _ _ (retStr _) _ _ _
  unfold retStr
  refine wpAny_bind (wpAny_mkStr (wpAny_pure ?_) ?hs2)
  case hs2 =>
    simp only [e7, Bool.false_eq_true, if_false, beq_self_eq_true, if_true, show ((16 : Nat) == 10) = false by decide]
    conv => lhs; arg 1; whnf
    simp only [intField', e7, e8, e9, Bool.false_eq_true, if_false] at hlen ⊢
    exact hlen
  dsimp only
  simp only [e7, Bool.false_eq_true, if_false, beq_self_eq_true, if_true, show ((16 : Nat) == 10) = false by decide]
  have hq2 : R (.ok (.ret (.str (intField' f (decide ((n : Int) < 0)) [] (List.map (fun c => c.toUpper.toNat) (Nat.toDigits 16 (n : Int).natAbs)) [] 4) s.toks))) { s with toks := s.toks + 1 } := hq.2
  conv => arg 1; arg 1; arg 1; arg 1; whnf
  simp only [intField', e7, e8, e9, Bool.false_eq_true, if_false] at hq2 ⊢
  exact hq2
theorem hexText_of {n : Nat} (hn : n < 256) : hexText (n : Int) = ⟨#[hexD (n / 16), hexD (n % 16)]⟩ := by
  have e := hexText_all n hn
  cases h : hexText (n : Int) with
  | mk a =>
    rw [h] at e
    exact congrArg Str.mk (Array.toList_inj.mp e)
/-- {e:02X}, e a number below 256 -/
def tHex (te : TE) : TE := fun σ H Q => te σ H fun x H1 => ∃ n : Nat, x = .int (n : Int) ∧ n < 256 ∧ Q (.str ⟨#[hexD (n / 16), hexD (n % 16)]⟩) H1
theorem g_hex {te : TE} {σ : St} {H : Hp} {Q : VK} (h : te σ H fun x H1 => ∃ n : Nat, x = .int (n : Int) ∧ n < 256 ∧ Q (.str ⟨#[hexD (n / 16), hexD (n % 16)]⟩) H1) : tHex te σ H Q := h
theorem pe_fmtHex {X : Cx} {e : Expr} {te : TE} {pos p2 p3 : Pos} {j : Nat} (he : PE X e te) : PE X (.FormattedValue e (-1) (some (.JoinedStr [.Constant (.str "02X") j p2] p3)) pos) (tHex te) := by
  refine ⟨fun pins s σ H Q I h => wpAny_FormattedValue_spec (thn (he.run pins s σ H _ I h) fun v s1 hv => ?_)⟩
  obtain ⟨x, H1, I1, r1, n, rfl, hn, q⟩ := hv
  obtain ⟨t, rfl⟩ := r1
  have hp : PE X (.JoinedStr [.Constant (.str "02X") j p2] p3) (tC (.str "02X")) := pe_joined1 pe_str
  refine thn (hp.run pins s1 σ H1 (fun z H2 => z = .str "02X" ∧ H2 = H1) I1 ⟨rfl, rfl⟩) fun r s2 hr => ?_
  obtain ⟨z, H2, I2, r2, ez, eH⟩ := hr
  subst ez eH
  obtain ⟨t2, rfl⟩ := r2
  refine ⟨_, _, rfl, ?_⟩
  have ex := hexText_of hn
  refine wpAny_formatField_spec (sp := hexSpec) (x := hexText (n : Int)) (by decide +kernel) (fun s' => typeIs_int s' _ _) slot_int_format entry_int_format args_int_format (fun u => gives_hex hn) ?_ (by decide +kernel) (by rw [ex]; show 2 ≤ sizeLine; decide)
  rw [ex]
  exact ⟨.str _, _, I2.tok _, ⟨_, rfl⟩, q⟩
end L2
namespace L2
open PySem PySem.Spec PyProof.Rows
/-! ### what an own class says of the signs of Python -/
section
variable {X : Cx} {CX : CXT} {k : Nat} {f C : Addr} {sp : Sp} {E : XK} {pins : List (Addr × Obj)} {σ : St} {H : Hp} {s : Shared} {A : Around} {Q : VK} {us : List Value} {vs : List V}
/-- a promise used deeper within a builtin -/
theorem run_sub (F : FnR X.prog X.w X.K X.mg X.base CX k f sp) (hr : Room k A) (hfr : A.frames = X.A.frames) (hx : Passes CX X E) (I : Inv X pins σ H s) (r : Vals vs us) (h : sp vs H Q E) :
    wpAny (model X.prog X.w) A (call (.ref f) us) (EP X pins σ Q) X.xe s := by
  have z := I.env0
  have e0 : Env0 X.prog X.w X.K X.mg X.base A X.stack s H := ⟨hfr.trans z.frames, z.mod, z.bs, z.bsz, z.funs, z.frf, z.hok, z.bare⟩
  refine wpAny_call (codeAny_mono (F A X.stack s H us vs Q E hr e0 r h) fun o s2 q => ?_)
  match o, q with
  | .error e, q => exact hx pins σ H s e s2 I q
  | .ok (.ret u), q => exact I.after q
theorem inst_of (I : Inv X pins σ H s) {a dx : Addr} {fs : List (Str × V)} (e : H a = some (.ins C dx fs)) : ∃ ox od, PySem.W.InstAt s.heap a ox C od := by
  obtain ⟨m, J, _⟩ := ins_get I.hok e
  obtain ⟨od, J, _⟩ := J.look
  exact ⟨_, _, J⟩
theorem ep_cmp {u : Value} {s' : Shared} (h : EP X pins σ Q u s') : PySem.W.CmpBack (EP X pins σ Q) u s' := by
  obtain ⟨v, H1, I1, r, q⟩ := id h
  cases u with
  | notImplemented =>
    cases v with
    | int i => obtain ⟨t, z⟩ := r; cases z
    | str i => obtain ⟨t, z⟩ := r; cases z
    | byt i => obtain ⟨t, z⟩ := r; cases z
    | flt i => obtain ⟨t, z⟩ := r; cases z
    | _ => cases r
  | _ => exact h
/-- len(o) -/
def rLenO (C : Addr) (sp : Sp) (E : XK) : List V → Hp → VK → Prop := fun xs H Q => ∃ a dx fs, xs = [.ref a] ∧ H a = some (.ins C dx fs) ∧ sp [.ref a] H (fun v H1 => ∃ n : Nat, v = .int (n : Int) ∧ n < 1000000000 ∧ Q v H1) E
theorem call_lenO (F : FnR X.prog X.w X.K X.mg X.base CX k f sp) (hr : Room (k + 1) X.A) (hx : Passes CX X E) (hs : PySem.W.findIn X.K (.ref C) "__len__" = some (some (.ref f))) (hf : PySem.W.isFn X.K (.ref f) = true) : CallR X (.builtin "len") (rLenO C sp E) := by
  intro pins s σ H xs us Q I r h
  obtain ⟨a, dx, fs, rfl, ea, h⟩ := h
  obtain ⟨u, rfl, ru⟩ := vals1 r
  cases ru
  obtain ⟨ox, od, J⟩ := inst_of I ea
  obtain ⟨m, hF⟩ := I.fr
  refine PySem.W.len_K hF I.ok.mod.kin J hs hf (wpAny_mono (run_sub (vs := [.ref a]) F hr.in1 rfl hx I (.cons rfl .nil) h) (fun v s' hv => ?_) fun _ _ z => z)
  obtain ⟨x, H1, I1, rx, n, rfl, hn, q⟩ := hv
  obtain ⟨t, rfl⟩ := rx
  exact ⟨⟨by omega, by omega⟩, .int (n : Int), H1, I1.tok _, ⟨_, rfl⟩, q⟩
/-- o + p and its like, both of the class -/
def rOwn2 (C : Addr) (sp : Sp) (E : XK) : R2 := fun x y H Q => ∃ a b dx dy fs gs, x = .ref a ∧ y = .ref b ∧ H a = some (.ins C dx fs) ∧ H b = some (.ins C dy gs) ∧ sp [.ref a, .ref b] H Q E
theorem op_own {op : Operator} (F : FnR X.prog X.w X.K X.mg X.base CX k f sp) (hr : Room k X.A) (hx : Passes CX X E) (hc : PySem.W.selfFirst X.K C = true) (hs : PySem.W.findIn X.K (.ref C) (PySem.dunder op.info.2) = some (some (.ref f))) (hf : PySem.W.isFn X.K (.ref f) = true) :
    OpR X (binaryOp op) (rOwn2 C sp E) := by
  intro pins s σ H x y u v Q I rx ry h
  obtain ⟨a, b, dx, dy, fs, gs, rfl, rfl, ea, eb, h⟩ := h
  cases rx
  cases ry
  obtain ⟨ox, od, J⟩ := inst_of I ea
  obtain ⟨oy, oe, J2⟩ := inst_of I eb
  obtain ⟨m, hF⟩ := I.fr
  exact PySem.W.binop_K hF I.ok.mod.kin J J2.type hc hs hf (wpAny_mono (run_sub (vs := [.ref a, .ref b]) F hr rfl hx I (.cons rfl (.cons rfl .nil)) h) (fun _ _ z => ep_cmp z) fun _ _ z => z)
/-- o == p, both of the class -/
theorem op_ownEq (F : FnR X.prog X.w X.K X.mg X.base CX k f sp) (hr : Room k X.A) (hx : Passes CX X E) (hs : PySem.W.findIn X.K (.ref C) "__eq__" = some (some (.ref f))) (hf : PySem.W.isFn X.K (.ref f) = true) : OpR X (compareOp .Eq) (rOwn2 C sp E) := by
  intro pins s σ H x y u v Q I rx ry h
  obtain ⟨a, b, dx, dy, fs, gs, rfl, rfl, ea, eb, h⟩ := h
  cases rx
  cases ry
  obtain ⟨ox, od, J⟩ := inst_of I ea
  obtain ⟨oy, oe, J2⟩ := inst_of I eb
  obtain ⟨m, hF⟩ := I.fr
  show wpAny _ _ (richCompare .Eq (.ref a) (.ref b)) _ _ _
  exact PySem.W.cmp_K (op := .Eq) (tb := .ref C) hr.units0 hF I.ok.mod.kin J J2.type (by simp [PySem.W.notFirst]) hs hf (wpAny_mono (run_sub (vs := [.ref a, .ref b]) F hr rfl hx I (.cons rfl (.cons rfl .nil)) h) (fun _ _ z => ep_cmp z) fun _ _ z => z)
/-- x in o, x not in o -/
def rInO (C : Addr) (sp : Sp) (E : XK) (neg : Bool) : R2 := fun x y H Q => ∃ a dx fs, y = .ref a ∧ H a = some (.ins C dx fs) ∧ sp [.ref a, x] H (fun v H1 => ∃ b, v = .bl b ∧ Q (.bl (neg ^^ b)) H1) E
theorem op_inO (F : FnR X.prog X.w X.K X.mg X.base CX k f sp) (hr : Room k X.A) (hx : Passes CX X E) (hs : PySem.W.findIn X.K (.ref C) "__contains__" = some (some (.ref f))) (hf : PySem.W.isFn X.K (.ref f) = true) : OpR X (compareOp .In) (rInO C sp E false) := by
  intro pins s σ H x y u v Q I rx ry h
  obtain ⟨a, dx, fs, rfl, ea, h⟩ := h
  cases ry
  obtain ⟨ox, od, J⟩ := inst_of I ea
  obtain ⟨m, hF⟩ := I.fr
  refine PySem.W.in_K hF I.ok.mod.kin J hs hf (wpAny_mono (run_sub (vs := [.ref a, x]) F hr rfl hx I (.cons rfl (.cons rx .nil)) h) (fun r s' hv => ?_) fun _ _ z => z)
  obtain ⟨z, H1, I1, rz, b, rfl, q⟩ := hv
  cases rz
  exact wpAny_truthy_bool ⟨.bl b, H1, I1, rfl, by simpa using q⟩
theorem op_notInO (F : FnR X.prog X.w X.K X.mg X.base CX k f sp) (hr : Room k X.A) (hx : Passes CX X E) (hs : PySem.W.findIn X.K (.ref C) "__contains__" = some (some (.ref f))) (hf : PySem.W.isFn X.K (.ref f) = true) : OpR X (compareOp .NotIn) (rInO C sp E true) := by
  intro pins s σ H x y u v Q I rx ry h
  obtain ⟨a, dx, fs, rfl, ea, h⟩ := h
  cases ry
  obtain ⟨ox, od, J⟩ := inst_of I ea
  obtain ⟨m, hF⟩ := I.fr
  refine PySem.W.notIn_K hF I.ok.mod.kin J hs hf (wpAny_mono (run_sub (vs := [.ref a, x]) F hr rfl hx I (.cons rfl (.cons rx .nil)) h) (fun r s' hv => ?_) fun _ _ z => z)
  obtain ⟨z, H1, I1, rz, b, rfl, q⟩ := hv
  cases rz
  exact wpAny_truthy_bool ⟨.bl (!b), H1, I1, rfl, by simpa using q⟩
/-- str(o) -/
def rStrO (C : Addr) (sp : Sp) (E : XK) : List V → Hp → VK → Prop := fun xs H Q => ∃ a dx fs, xs = [.ref a] ∧ H a = some (.ins C dx fs) ∧ sp [.ref a] H (fun v H1 => ∃ z : Str, v = .str z ∧ Q v H1) E
theorem call_strO (F : FnR X.prog X.w X.K X.mg X.base CX k f sp) (hr : Room (k + 2) X.A) (hx : Passes CX X E) (hs : PySem.W.findIn X.K (.ref C) "__str__" = some (some (.ref f))) (hf : PySem.W.isFn X.K (.ref f) = true) : CallR X (.type "str") (rStrO C sp E) := by
  intro pins s σ H xs us Q I r h
  obtain ⟨a, dx, fs, rfl, ea, h⟩ := h
  obtain ⟨u, rfl, ru⟩ := vals1 r
  cases ru
  obtain ⟨ox, od, J⟩ := inst_of I ea
  refine PySem.W.kso_call hr.in1.in1.units0 I.kIn J hs hf (wpAny_mono (run_sub (vs := [.ref a]) F hr.in1.in1 rfl hx I (.cons rfl .nil) h) (fun v s' hv => ?_) fun _ _ z => z)
  obtain ⟨x, H1, I1, rx, z, rfl, q⟩ := hv
  obtain ⟨t, rfl⟩ := rx
  exact ⟨.str z, H1, I1, ⟨_, rfl⟩, q⟩
/-- an own object's truth -/
def tTruO (C : Addr) (sp : Sp) (E : XK) (ta : TE) : TT := fun σ H Q => ta σ H fun x H1 => ∃ a dx fs, x = .ref a ∧ H1 a = some (.ins C dx fs) ∧ sp [.ref a] H1 (fun v H2 => ∃ b, v = .bl b ∧ Q b H2) E
theorem pt_truO {e : Expr} {ta : TE} (ha : PE X e ta) (F : FnR X.prog X.w X.K X.mg X.base CX k f sp) (hr : Room k X.A) (hx : Passes CX X E) (hs : PySem.W.findIn X.K (.ref C) "__bool__" = some (some (.ref f))) (hf : PySem.W.isFn X.K (.ref f) = true)
    (he : ∀ whole, isTrue e X.env whole = (do let v ← whole; standAt e.pos; holding [v] (truthy v))) : PT X e (tTruO C sp E ta) := by
  refine ⟨fun pins s σ H Q I h => ?_⟩
  rw [he]
  refine wpAny_bind (thn (ha.run pins s σ H _ I h) fun u s1 ⟨x, H1, I1, rx, a, dx, fs, ex, ea, q⟩ => ?_)
  subst ex
  cases rx
  obtain ⟨ox, od, J⟩ := inst_of I1 ea
  obtain ⟨m, hF⟩ := I1.fr
  refine wpAny_bind (wpAny_standAt (wpAny_holding ?_))
  refine PySem.W.truthy_K hF I1.ok.mod.kin J hs hf (wpAny_mono (run_sub (vs := [.ref a]) F hr rfl hx I1 (.cons rfl .nil) q) (fun r s' hv => ?_) fun _ _ z => z)
  obtain ⟨z, H2, I2, rz, b, rfl, q⟩ := hv
  cases rz
  exact ⟨H2, I2, q⟩
end
end L2
namespace L2
open PySem PySem.Spec PyProof.Rows
/-! ### tuples that hold own objects: != of what is equal, item by item -/
section
open AutoSeq1 (wpAny_loadPart')
variable {prog : Program} {w : World} {A : Around} {R : Result → Shared → Prop}
theorem tup_neT (p q : Addr) (us vs : Array Value) (m n : Nat) (d1 d2 : Option Addr) (z1 z2 : Array (Option Value)) (hlen : us.size = vs.size) (W : Nat → Shared → Prop)
    (step : ∀ j (a : j < us.size) (b : j < vs.size) sj, W j sj → wpAny (model prog w) A.in1 (eqBool us[j] vs[j]) (fun r sk => r = true ∧ W (j + 1) sk) (fun e sk => R (.error e) sk) sj)
    (out : ∀ sj, W us.size sj → R (.ok (.ret (.bool false))) sj) {s : Shared} (hp1 : s.heap.get? p = some { cls := .type "tuple", dict := d1, data := .seq us m, slots := z1 }) (hq1 : s.heap.get? q = some { cls := .type "tuple", dict := d2, data := .seq vs n, slots := z2 }) (w0 : W 0 s) :
    wpAny (model prog w) A.in1 (Builtin.«tuple.__ne__» ⟨[.ref p, .ref q], []⟩) (GQ.FinOf prog w A R) (fun e sk => R (.error e) sk) s := by
  have sub := AutoSeq1.sub_tuple_tuple
  have zl : (us.toList.zip vs.toList).length = us.size := by rw [List.length_zip, Array.length_toList, Array.length_toList, ← hlen, Nat.min_self]
  have w0' := w0
  obtain ⟨h0, g0, e0, t0, o0⟩ := s
  wp_walk using wpAny_loadPart' hp1, wpAny_loadPart' hq1, wpAny_forIn_list _ (fun tail b sj => b.1 = none ∧ ∃ j, tail = (us.toList.zip vs.toList).drop j ∧ j ≤ us.size ∧ W j sj) _
  case turn =>
    rintro ⟨y, x⟩ tail b sj ⟨eb, j, et, hj, wj⟩
    have lt0 : j < (us.toList.zip vs.toList).length := Nat.lt_of_not_le fun ge => by rw [List.drop_of_length_le ge] at et; cases et
    have lt1 : j < us.size := zl ▸ lt0
    have lt2 : j < vs.size := hlen ▸ lt1
    rw [List.drop_eq_getElem_cons lt0] at et
    injection et with exy etl
    have ey : y = us[j] := by have z := congrArg Prod.fst exy; simpa using z
    have ex : x = vs[j] := by have z := congrArg Prod.snd exy; simpa using z
    subst ey ex
    refine wpAny_bind (wpAny_mono (step j lt1 lt2 sj wj) (fun r sk z => ?_) fun _ _ z => z)
    obtain ⟨er, wk⟩ := z
    subst er
    wp_walk
    exact ⟨rfl, j + 1, etl, lt1, wk⟩
  case fin =>
    rintro ⟨b1, b2⟩ sj ⟨eb, j, et, hj, wj⟩
    simp only at eb
    subst eb
    have ge : us.size ≤ j := Nat.le_of_not_lt fun lt => by rw [List.drop_eq_getElem_cons (zl.symm ▸ lt)] at et; cases et
    have ej : j = us.size := Nat.le_antisymm hj ge
    have done : R (.ok (.ret (.bool false))) sj := out sj (ej ▸ wj)
    wp_walk
    simpa [Builtin.Tuple.tupleCompareSizes, hlen] using done
  case h =>
    exact ⟨rfl, 0, rfl, Nat.zero_le _, w0'⟩
theorem rc_neT {E : Value → Shared → Prop} {p q : Addr} {us vs : Array Value} {s : Shared} {Q : Value → Shared → Prop} (hlen : us.size = vs.size) (hu : A.units < cLine) (W : Nat → Shared → Prop) (hp1 : s.heap.IsTuple p us) (hq1 : s.heap.IsTuple q vs)
    (step : ∀ j (a : j < us.size) (b : j < vs.size) sj, W j sj → wpAny (model prog w) A.in1 (eqBool us[j] vs[j]) (fun r sk => r = true ∧ W (j + 1) sk) E sj)
    (out : ∀ sj, W us.size sj → Q (.bool false) sj) (w0 : W 0 s) : wpAny (model prog w) A (richCompare .NotEq (.ref p) (.ref q)) Q E s := by
  obtain ⟨⟨c1, d1, a1, s1⟩, o1, k1, n1, r1⟩ := id hp1
  obtain ⟨⟨c2, d2, a2, s2⟩, o2, k2, n2, r2⟩ := id hq1
  simp only at k1 r1 k2 r2
  subst k1 r1 k2 r2
  refine wpAny_richCompare_same_room (op := .NotEq) ⟨_, o1, rfl⟩ ⟨_, o2, rfl⟩ F.slot_tuple_ne (GQ.call_here F.slot_tuple_ne ⟨_, o1, rfl⟩ F.entry_tuple_ne (F.args_tuple_ne_2 _ _) ?_) hu
  exact tup_neT (R := wants (fun v sk => v ≠ .notImplemented ∧ Q v sk) E) p q us vs n1 n2 d1 d2 s1 s2 hlen W step (fun sk z => ⟨(fun e => nomatch e), out sk z⟩) o1 o2 w0
end
/-- t != u, tuples whose items are equal by D: False -/
def rNeT (K : PySem.W.Frag) (D : Eqv) : R2 := fun x y H Q => DTup K D x y H ∧ ∀ H1, Ext H H1 → Q (.bl false) H1
theorem op_neT {X : Cx} {n : Nat} {D : Eqv} (hD : Mon D) (h : EqG X n D) (hr : Room (n + 1) X.A) : OpR X (compareOp .NotEq) (rNeT X.K D) := by
  intro pins s σ H x y u v Q I rx ry hq
  obtain ⟨⟨a, b, xs, ys, rfl, rfl, ha, hb, p⟩, q⟩ := hq
  cases rx
  cases ry
  obtain ⟨us, r1, e1, _⟩ := I.tuple ha
  obtain ⟨vs, r2, e2, _⟩ := I.tuple hb
  have hlen : us.toArray.size = vs.toArray.size := by rw [List.size_toArray, List.size_toArray, ← r1.length, ← r2.length]; exact p.1
  show wpAny (model X.prog X.w) X.A (richCompare .NotEq (.ref a) (.ref b)) (EP X pins σ Q) X.xe s
  refine rc_neT hlen hr.units0 (fun _ sj => LoopI X pins σ H sj) e1 e2 (fun j l1 l2 sj z => turnG hD h ⟨hr, rfl⟩ p r1 r2 j l1 l2 sj z) (fun sj z => ?_) ⟨H, I, Ext.rfl'⟩
  obtain ⟨H1, I1, ee⟩ := z
  exact ⟨.bl false, H1, I1, rfl, q H1 ee⟩
end L2
/-! ### enumerate of a tuple, of a text -/
namespace EnX
open PySem PySem.Spec PyProof.Rows L2
theorem new_enum {v : Value} {o : Obj} {G : Heap → Prop} (B : Begins v o G) :
    Meets (Builtin.«enumerate.__new__» ⟨[.type "enumerate", v], []⟩) (fun _ R s => G s.heap ∧
      R (.ok (.ret (.ref (s.heap.push o).objs.size))) { s with heap := (s.heap.push o).push { cls := .type "enumerate", data := .fields #[.none, .bool false, .ref s.heap.objs.size, rawInt 0, .none, .none] } }) :=
  .of_wp fun prog w A R s h => by
    obtain ⟨hp, g, d, tk, os⟩ := s
    obtain ⟨hG, h⟩ := h
    have sub := sub_enumerate
    have begins := fun (A : Around) (E : Value → Shared → Prop) (Q : Value → Shared → Prop) (q : Q (.ref hp.objs.size) ⟨hp.push o, g, d, tk, os⟩) => B.iter prog w A E ⟨hp, g, d, tk, os⟩ Q hG q
    wp_walk
    refine wpAny_stack_any fun st => wpAny_pure ?_
    split
    · rename_i c _ _ _ _ _
      cases (c == Value.type "enumerate")
      · wp_walk using begins
        exact ⟨_, rfl, h⟩
      · wp_walk using begins
        exact ⟨_, rfl, h⟩
    · wp_walk using begins
      exact ⟨_, rfl, h⟩
section
variable {prog : Program} {w : World} {A : Around} {E : Value → Shared → Prop} {s : Shared}
theorem call_enum {v : Value} {o : Obj} {G : Heap → Prop} {Q : Value → Shared → Prop} (B : Begins v o G) (hG : G s.heap)
    (h : ∀ h', IsEnum h' (s.heap.objs.size + 1) s.heap.objs.size 0 .none → h'.get? s.heap.objs.size = some o → (∀ b u, s.heap.get? b = some u → h'.get? b = some u) → Q (.ref (s.heap.objs.size + 1)) { s with heap := h' }) :
    wpAny (model prog w) A (call (.type "enumerate") [v]) Q E s := by
  refine callType_new F.called_enumerate (by decide) (F.typeCall_enumerate_1 _) (F.newCall_enumerate_1 _) (fun obj => F.args_object_init_2 obj _) F.entry_enumerate_new (new_enum B) ⟨hG, ?_⟩
  have z : (s.heap.push o).objs.size = s.heap.objs.size + 1 := Heap.size_push ..
  show _ ∧ _
  rw [z]
  have e : IsEnum ((s.heap.push o).push { cls := .type "enumerate", data := .fields #[.none, .bool false, .ref s.heap.objs.size, rawInt 0, .none, .none] }) (s.heap.objs.size + 1) s.heap.objs.size 0 .none := by
    have q := Heap.get?_push_size (s.heap.push o) (o := { cls := .type "enumerate", data := .fields #[.none, .bool false, .ref s.heap.objs.size, rawInt 0, .none, .none] }) rfl
    rw [z] at q
    exact q
  exact ⟨⟨_, e, rfl⟩, h _ e (Heap.get?_push_of_some _ (Heap.get?_push_size _ B.free)) fun b u x => Heap.get?_push_of_some _ (Heap.get?_push_of_some _ x)⟩
end
end EnX
namespace L2
open PySem PySem.Spec PyProof.Rows
/-- turn i of an enumerate: a new pair of the number and the item -/
def YEn (f : Nat → Option V) (i : Nat) (H : Hp) (v : V) (H' : Hp) : Prop := ∃ T x, v = .ref T ∧ H T = none ∧ H' = upd H T (.tup [.int (i : Nat), x]) ∧ f i = some x
/-- an enumerate that is turned: by what its iterator draws -/
theorem en_item {X : Cx} {pins : List (Addr × Obj)} {σ : St} {H : Hp} {s : Shared} {E : Value → Shared → Prop} {elts : List Expr} {kk : Nat} {tpos : Pos} {e it : Addr} {fp : List Addr} {n i : Nat} {old : Value} {P : Nat → Value → Prop} {S : Nat → Heap → Prop} {x : V} {R : V → Shared → Prop}
    (D : Draws X.prog X.w X.A.in1 it fp n P S) (I : Inv X pins σ H s) (hf : ∀ b ∈ [e, it], FpOk X pins H b) (he : IsEnum s.heap e it ((i : Nat) : Int) old) (hs : S i s.heap) (hi : i < n) (ne : e ≠ it) (nf : e ∉ fp) (fr : it < s.heap.objs.size) (hP : ∀ u, P i u → RelV x u)
    (q : ∀ s' T, H T = none → Inv X pins σ (upd H T (.tup [.int (i : Nat), x])) s' → (∃ old, IsEnum s'.heap e it ((i + 1 : Nat) : Int) old) → S (i + 1) s'.heap → T = s.heap.objs.size → R (.ref T) s') :
    wpAny (model X.prog X.w) X.A (pyNext (.ref e)) (fun r s' => ∃ u, r = some u ∧ wpAny (model X.prog X.w) X.A (letOwnedTupleGo (.Tuple elts kk tpos) (.ref e) u) (fun _ s2 => ∃ v, RelV v u ∧ R v s2) E s') E s := by
  have le : e < s.heap.objs.size := Heap.lt_size he
  refine wpAny_pyNext_enum_itemD D he hs hi ne nf fun u h1 tk hu ho h1S hT hz hk => ?_
  refine ⟨_, rfl, wpAny_letOwnedTupleGo_enum (s := { s with heap := h1, toks := tk + 1 }) ho fun h2 he2 sb => ?_⟩
  have hT2 : h2.get? s.heap.objs.size = some { cls := .type "tuple", data := .seq #[.int i tk, u] } := (sb.2 _ (Nat.ne_of_gt le)).trans hT
  have new : ObjOk X.prog X.w (upd H s.heap.objs.size (.tup [.int (i : Nat), x])) h2 s.heap.objs.size (.tup [.int (i : Nat), x]) := ⟨by show 2 ≤ sizeLine; decide, [.int i tk, u], .cons ⟨_, rfl⟩ (.cons (hP u hu) .nil), ⟨_, hT2, rfl, _, rfl⟩⟩
  have I1 : Inv X pins σ (upd H s.heap.objs.size (.tup [.int (i : Nat), x])) { s with heap := h2, toks := tk + 1 } :=
    I.turnedNew (ch := [e, it]) (fun b ob hb y => (sb.2 b (fun z => hb (by simp [z]))).trans (hk b ob (fun z => hb (by simp [z])) (fun z => hb (by simp [z])) y)) hf (Nat.le_refl _) new
  refine ⟨.ref s.heap.objs.size, rfl, q _ _ (I.hok.fresh (Nat.le_refl _)) I1 ⟨u, ?_⟩ (D.frame _ _ _ h1S fun b hb o y => (sb.2 b (fun z => nf (z ▸ hb))).trans y) rfl⟩
  have z : ((i + 1 : Nat) : Int) = (i : Int) + 1 := by omega
  rw [z]
  exact he2
end L2
namespace L2
open PySem PySem.Spec PyProof.Rows
/-- enumerate of the tuple at a -/
def IetT (K : PySem.W.Frag) (a : Addr) : It :=
  ⟨fun i H => ∃ xs x, SqT K H a xs ∧ xs[i]? = some x, fun i H v H' => ∃ T x, v = .ref T ∧ H T = none ∧ H' = upd H T (.tup [.int (i : Nat), x]) ∧ ∀ xs, SqT K H a xs → xs[i]? = some x, fun i H => ∃ xs, SqT K H a xs ∧ xs.length = i⟩
/-- enumerate of a text -/
def IetZ (z : Str) : It :=
  ⟨fun i _ => i < z.cps.size, fun i H v H' => ∃ T c, v = .ref T ∧ H T = none ∧ H' = upd H T (.tup [.int (i : Nat), .str ⟨#[c]⟩]) ∧ z.cps[i]? = some c, fun i _ => z.cps.size = i⟩
theorem turn_etT {P : Program} {w : World} {K : PySem.W.Frag} {elts : List Expr} {kk : Nat} {tpos : Pos} (a e it : Addr) :
    Turn P w K (.Tuple elts kk tpos) (IetT K a) [e, it] e (fun i h => (∃ old, IsEnum h e it ((i : Nat) : Int) old) ∧ h.IsTupleIter it a i ∧ e ≠ it) where
  mem := by simp
  obj := fun i h st b hb => by
    obtain ⟨⟨old, he⟩, ⟨o, ho, hc, hd⟩, _⟩ := st
    rcases (by simpa using hb : b = e ∨ b = it) with z | z
    · rw [z]
      exact ⟨_, he, fun v q => nomatch q⟩
    · rw [z]
      exact ⟨o, ho, fun v q => by rw [hd] at q; cases q⟩
  keep := fun i h h' st k => by
    obtain ⟨⟨old, he⟩, hi, ne⟩ := st
    exact ⟨⟨old, k e (by simp) _ he⟩, hi.at fun o q => k it (by simp) o q, ne⟩
  item := by
    intro X hP hw hK hc i pins s σ H E I hf st hg
    subst hP hw hK
    obtain ⟨⟨old, he⟩, hit, ne⟩ := st
    obtain ⟨xs, x, hq, hx⟩ := hg
    obtain ⟨its, rv, p, z⟩ := I.tuple hq
    obtain ⟨u, hu, ru⟩ := rv.get hx
    have hil : it < s.heap.objs.size := by obtain ⟨_, q, _⟩ := hit; exact Heap.lt_size q
    have hel : e < s.heap.objs.size := Heap.lt_size he
    have nt : a ≠ it := fun z => by
      obtain ⟨o1, e1, c1, _⟩ := p
      obtain ⟨o2, e2, c2, _⟩ := hit
      rw [z, e2] at e1
      cases e1
      rw [c2] at c1
      exact absurd c1 (by decide)
    have nea : e ≠ a := fun z => by
      obtain ⟨o1, e1, c1, _⟩ := p
      rw [← z, he] at e1
      cases e1
      exact absurd (show Value.type "enumerate" = .type "tuple" from c1) (by decide)
    have hlt : i < its.toArray.size := by
      have := List.getElem?_eq_some_iff.mp hu
      simpa using this.1
    refine wpAny_mono (en_item (elts := elts) (kk := kk) (tpos := tpos) (x := x) (R := fun v s2 => ∃ H', Inv X pins σ H' s2 ∧ (IetT X.K a).yld i H v H' ∧ ((∃ old, IsEnum s2.heap e it ((i + 1 : Nat) : Int) old) ∧ s2.heap.IsTupleIter it a (i + 1) ∧ e ≠ it) ∧ ∀ b ∈ [e, it], H' b = none) (Draws.tuple (show X.A.in1.handled = none from I.ok.hd hc) it a nt its.toArray) I hf he ⟨hit, p⟩ hlt ne (by simp [ne, nea]) hil (fun u' hu' => ?_) fun s' T hT I' he' hs' eT => ?_) (fun r s1 hr => ?_) fun _ _ z => z
    · have e2 : its[i]? = some u' := by simpa using hu'
      rw [hu] at e2
      cases e2
      exact ru
    · refine ⟨_, I', ⟨T, x, rfl, hT, rfl, fun ys hy => by rw [I.tuple_inj hy hq]; exact hx⟩, ⟨he', hs'.1, ne⟩, fun b hb => ?_⟩
      have hb' : b < s.heap.objs.size := by
        rcases (by simpa using hb : b = e ∨ b = it) with z | z
        · rw [z]; exact hel
        · rw [z]; exact hil
      rw [upd_ne (by rw [eT]; exact Nat.ne_of_lt hb')]
      exact (hf b hb).1
    · obtain ⟨u, er, hr⟩ := hr
      refine ⟨u, er, wpAny_mono hr (fun _ s2 h2 => ?_) fun _ _ z => z⟩
      obtain ⟨v, rv, H', I', y, st', n'⟩ := h2
      exact ⟨v, H', I', rv, y, st', n'⟩
  done := by
    intro X hP hw hK hc i pins s σ H E I hf st hg
    subst hP hw hK
    obtain ⟨⟨old, he⟩, hit, ne⟩ := st
    obtain ⟨xs, hq, hx⟩ := hg
    obtain ⟨its, rv, p, z⟩ := I.tuple hq
    obtain ⟨f0, f1, f2, f3, f4, f5⟩ := hf it (by simp)
    have nt : a ≠ it := fun z => by
      obtain ⟨o1, e1, c1, _⟩ := p
      obtain ⟨o2, e2, c2, _⟩ := hit
      rw [z, e2] at e1
      cases e1
      rw [c2] at c1
      exact absurd c1 (by decide)
    have ei : i = its.toArray.size := by rw [List.size_toArray, ← rv.length]; exact hx.symm
    refine wpAny_pyNext_enum_endD (Draws.tuple (show X.A.in1.handled = none from I.ok.hd hc) it a nt its.toArray) he ⟨by rw [← ei]; exact hit, p⟩ fun h' eb => ⟨rfl, I.turned (t' := s.toks) (fun b o hb q => eb b o hb q) f0 f1 f3 f4 f5⟩
  self := fun A i s Q E st h => let ⟨⟨_, he⟩, _⟩ := st; wpAny_pyIter_enum he h
theorem turn_etZ {P : Program} {w : World} {K : PySem.W.Frag} {elts : List Expr} {kk : Nat} {tpos : Pos} (z : Str) (t : Tok) (e it : Addr) :
    Turn P w K (.Tuple elts kk tpos) (IetZ z) [e, it] e (fun i h => (∃ old, IsEnum h e it ((i : Nat) : Int) old) ∧ h.IsStrIter it (strIterType z) z t i ∧ e ≠ it) where
  mem := by simp
  obj := fun i h st b hb => by
    obtain ⟨⟨old, he⟩, ⟨o, ho, hc, hd⟩, _⟩ := st
    rcases (by simpa using hb : b = e ∨ b = it) with z | z
    · rw [z]
      exact ⟨_, he, fun v q => nomatch q⟩
    · rw [z]
      exact ⟨o, ho, fun v q => by rw [hd] at q; cases q⟩
  keep := fun i h h' st k => by
    obtain ⟨⟨old, he⟩, ⟨o, ho, r⟩, ne⟩ := st
    exact ⟨⟨old, k e (by simp) _ he⟩, ⟨o, k it (by simp) o ho, r⟩, ne⟩
  item := by
    intro X hP hw hK hc i pins s σ H E I hf st hg
    subst hP hw hK
    obtain ⟨⟨old, he⟩, hit, ne⟩ := st
    have hlt : i < z.cps.size := hg
    have hil : it < s.heap.objs.size := by obtain ⟨_, q, _⟩ := hit; exact Heap.lt_size q
    have hel : e < s.heap.objs.size := Heap.lt_size he
    refine wpAny_mono (en_item (elts := elts) (kk := kk) (tpos := tpos) (x := .str ⟨#[z.cps[i]]⟩) (R := fun v s2 => ∃ H', Inv X pins σ H' s2 ∧ (IetZ z).yld i H v H' ∧ ((∃ old, IsEnum s2.heap e it ((i + 1 : Nat) : Int) old) ∧ s2.heap.IsStrIter it (strIterType z) z t (i + 1) ∧ e ≠ it) ∧ ∀ b ∈ [e, it], H' b = none) (Draws.text (show X.A.in1.handled = none from I.ok.hd hc) it z t) I hf he hit hlt ne (by simp [ne]) hil (fun u' hu' => ?_) fun s' T hT I' he' hs' eT => ?_) (fun r s1 hr => ?_) fun _ _ z => z
    · obtain ⟨c, u, hc2, rfl⟩ := hu'
      rw [Array.getElem?_eq_getElem hlt] at hc2
      cases hc2
      exact ⟨u, rfl⟩
    · refine ⟨_, I', ⟨T, z.cps[i], rfl, hT, rfl, Array.getElem?_eq_getElem hlt⟩, ⟨he', hs', ne⟩, fun b hb => ?_⟩
      have hb' : b < s.heap.objs.size := by
        rcases (by simpa using hb : b = e ∨ b = it) with z | z
        · rw [z]; exact hel
        · rw [z]; exact hil
      rw [upd_ne (by rw [eT]; exact Nat.ne_of_lt hb')]
      exact (hf b hb).1
    · obtain ⟨u, er, hr⟩ := hr
      refine ⟨u, er, wpAny_mono hr (fun _ s2 h2 => ?_) fun _ _ z => z⟩
      obtain ⟨v, rv, H', I', y, st', n'⟩ := h2
      exact ⟨v, H', I', rv, y, st', n'⟩
  done := by
    intro X hP hw hK hc i pins s σ H E I hf st hg
    subst hP hw hK
    obtain ⟨⟨old, he⟩, hit, ne⟩ := st
    have ei : z.cps.size = i := hg
    obtain ⟨f0, f1, f2, f3, f4, f5⟩ := hf it (by simp)
    exact wpAny_pyNext_enum_endD (Draws.text (show X.A.in1.handled = none from I.ok.hd hc) it z t) he (by rw [ei]; exact hit) fun h' eb => ⟨rfl, I.turned (t' := s.toks) (fun b o hb q => eb b o hb q) f0 f1 f3 f4 f5⟩
  self := fun A i s Q E st h => let ⟨⟨_, he⟩, _⟩ := st; wpAny_pyIter_enum he h
section
variable {X : Cx} {e : Expr} {ta : TA} {p pos tpos : Pos} {elts : List Expr} {kk : Nat}
def iEnumT (K : PySem.W.Frag) (ta : TA) : TI := fun σ H R => ta σ H fun vs H1 => ∃ a xs, vs = [.ref a] ∧ SqT K H1 a xs ∧ R (IetT K a) H1
theorem pi_enumT (hg : Gl X "enumerate") (hm : X.mg "enumerate" = none) (ha : PA X [e] ta) (hs : starEach [e] X.env = [(false, eval e X.env)] := by rfl) : PI X (.Tuple elts kk tpos) (.Call (.Name "enumerate" p) [e] [] pos) (iEnumT X.K ta) := by
  refine ⟨fun pins s σ H R I h => Call_ (ld_blt I hg hm boot_enumerate (PyProof.Rows.callWith_type1 (thn (ha.run pos pins s σ H _ I h) fun us s1 ⟨vs, H1, I1, r1, q1⟩ => ?_) hs rfl))⟩
  obtain ⟨a, xs, ex, hq, q⟩ := q1
  subst ex
  obtain ⟨u, rfl, ru⟩ := vals1 r1
  cases ru
  obtain ⟨its, rv, p', z⟩ := I1.tuple hq
  refine EnX.call_enum (begins_tuple a its.toArray) p' fun h' he hit hk => wpAny_pyIter_enum he ?_
  have I2 : Inv X pins σ H1 { s1 with heap := h' } := I1.kept (t' := s1.toks) hk
  refine ⟨s1.heap.objs.size + 1, [s1.heap.objs.size + 1, s1.heap.objs.size], _, _, H1, rfl, I2, turn_etT a (s1.heap.objs.size + 1) s1.heap.objs.size, ⟨⟨.none, he⟩, ⟨_, hit, rfl, rfl⟩, Nat.succ_ne_self _⟩, fun b hb => ?_, q⟩
  have hle : s1.heap.objs.size ≤ b := by
    rcases (by simpa using hb : b = s1.heap.objs.size + 1 ∨ b = s1.heap.objs.size) with z | z
    · rw [z]; exact Nat.le_add_right _ _
    · rw [z]; exact Nat.le_refl _
  exact I1.fpOk hle (I1.hok.fresh hle)
def iEnumZ (ta : TA) : TI := fun σ H R => ta σ H fun vs H1 => ∃ z, vs = [.str z] ∧ R (IetZ z) H1
theorem pi_enumZ (hg : Gl X "enumerate") (hm : X.mg "enumerate" = none) (ha : PA X [e] ta) (hs : starEach [e] X.env = [(false, eval e X.env)] := by rfl) : PI X (.Tuple elts kk tpos) (.Call (.Name "enumerate" p) [e] [] pos) (iEnumZ ta) := by
  refine ⟨fun pins s σ H R I h => Call_ (ld_blt I hg hm boot_enumerate (PyProof.Rows.callWith_type1 (thn (ha.run pos pins s σ H _ I h) fun us s1 ⟨vs, H1, I1, r1, q1⟩ => ?_) hs rfl))⟩
  obtain ⟨z, ex, q⟩ := q1
  subst ex
  obtain ⟨u, rfl, ru⟩ := vals1 r1
  obtain ⟨t, rfl⟩ := ru
  refine EnX.call_enum (begins_text z t) True.intro fun h' he hit hk => wpAny_pyIter_enum he ?_
  have I2 : Inv X pins σ H1 { s1 with heap := h' } := I1.kept (t' := s1.toks) hk
  refine ⟨s1.heap.objs.size + 1, [s1.heap.objs.size + 1, s1.heap.objs.size], _, _, H1, rfl, I2, turn_etZ z t (s1.heap.objs.size + 1) s1.heap.objs.size, ⟨⟨.none, he⟩, ⟨_, hit, rfl, rfl⟩, Nat.succ_ne_self _⟩, fun b hb => ?_, q⟩
  have hle : s1.heap.objs.size ≤ b := by
    rcases (by simpa using hb : b = s1.heap.objs.size + 1 ∨ b = s1.heap.objs.size) with z | z
    · rw [z]; exact Nat.le_add_right _ _
    · rw [z]; exact Nat.le_refl _
  exact I1.fpOk hle (I1.hok.fresh hle)
end
section
variable {σ : St} {H : Hp} {K : PySem.W.Frag} {ta : TA} {R : It → Hp → Prop}
theorem g_ienT (h : ta σ H fun vs H1 => ∃ a xs, vs = [.ref a] ∧ SqT K H1 a xs ∧ R (IetT K a) H1) : iEnumT K ta σ H R := h
theorem g_ienZ (h : ta σ H fun vs H1 => ∃ z, vs = [.str z] ∧ R (IetZ z) H1) : iEnumZ ta σ H R := h
end
/-- a loop over an enumerate of a tuple; Pv: what holds ahead of turn i -/
theorem for_enT {K : PySem.W.Frag} {a : Addr} {xs : List V} {g : TG} {tb : TS} {D : Ends} {σ : St} {H : Hp} (Pv : Nat → St → Hp → Prop) (h0 : Pv 0 σ H) (hl : ∀ i σ H, i ≤ xs.length → Pv i σ H → SqT K H a xs)
    (hs : ∀ i x T σ H, xs[i]? = some x → Pv i σ H → H T = none → g (.ref T) σ (upd H T (.tup [.int (i : Nat), x])) fun σ2 H2 => tb { D with nx := Pv (i + 1), ct := Pv (i + 1), bk := D.nx } σ2 H2) (hd : ∀ σ H, Pv xs.length σ H → D.nx σ H) :
    ∃ W : Nat → Nat → St → Hp → Prop, (∃ m, W 0 m σ H) ∧ ∀ i m σ H, W i m σ H →
      ((IetT K a).stop i H ∧ D.nx σ H) ∨ ((IetT K a).go i H ∧ ∃ N : St → Hp → Prop, (∀ σ' H', N σ' H' → ∃ m', m' < m ∧ W (i + 1) m' σ' H') ∧ ∀ x H', (IetT K a).yld i H x H' → g x σ H' fun σ2 H2 => tb { D with nx := N, ct := N, bk := D.nx } σ2 H2) := by
  refine ⟨fun i m σ H => m = xs.length - i ∧ i ≤ xs.length ∧ Pv i σ H, ⟨xs.length, by simp, Nat.zero_le _, h0⟩, ?_⟩
  rintro i m σ H ⟨rfl, hi, p⟩
  have q := hl i σ H hi p
  by_cases lt : i < xs.length
  · refine .inr ⟨⟨xs, xs[i], q, List.getElem?_eq_getElem lt⟩, Pv (i + 1), fun σ' H' p' => ⟨xs.length - (i + 1), by omega, rfl, lt, p'⟩, fun v H' y => ?_⟩
    obtain ⟨T, x, rfl, hT, rfl, hx⟩ := y
    exact hs i x T σ H (hx xs q) p hT
  · have e : i = xs.length := by omega
    subst e
    exact .inl ⟨⟨xs, q, rfl⟩, hd σ H p⟩
theorem for_enZ {z : Str} {g : TG} {tb : TS} {D : Ends} {σ : St} {H : Hp} (Pv : Nat → St → Hp → Prop) (h0 : Pv 0 σ H)
    (hs : ∀ i c T σ H, z.cps.toList[i]? = some c → Pv i σ H → H T = none → g (.ref T) σ (upd H T (.tup [.int (i : Nat), .str ⟨#[c]⟩])) fun σ2 H2 => tb { D with nx := Pv (i + 1), ct := Pv (i + 1), bk := D.nx } σ2 H2) (hd : ∀ σ H, Pv z.cps.toList.length σ H → D.nx σ H) :
    ∃ W : Nat → Nat → St → Hp → Prop, (∃ m, W 0 m σ H) ∧ ∀ i m σ H, W i m σ H →
      ((IetZ z).stop i H ∧ D.nx σ H) ∨ ((IetZ z).go i H ∧ ∃ N : St → Hp → Prop, (∀ σ' H', N σ' H' → ∃ m', m' < m ∧ W (i + 1) m' σ' H') ∧ ∀ x H', (IetZ z).yld i H x H' → g x σ H' fun σ2 H2 => tb { D with nx := N, ct := N, bk := D.nx } σ2 H2) := by
  rw [Array.length_toList] at hd
  refine ⟨fun i m σ H => m = z.cps.size - i ∧ i ≤ z.cps.size ∧ Pv i σ H, ⟨z.cps.size, by simp, Nat.zero_le _, h0⟩, ?_⟩
  rintro i m σ H ⟨rfl, hi, p⟩
  by_cases lt : i < z.cps.size
  · refine .inr ⟨lt, Pv (i + 1), fun σ' H' p' => ⟨z.cps.size - (i + 1), by omega, rfl, lt, p'⟩, fun v H' y => ?_⟩
    obtain ⟨T, c, rfl, hT, rfl, hc⟩ := y
    exact hs i c T σ H (by rw [Array.getElem?_toList]; exact hc) p hT
  · have e : i = z.cps.size := by omega
    subst e
    exact .inl ⟨rfl, hd σ H p⟩
end L2
namespace RvX
open PySem PySem.Spec PyProof.Rows L2
section
variable {prog : Program} {w : World} {A : Around} {E : Value → Shared → Prop} {s : Shared}
theorem applied_back {sl : Addr} {vs : Value} {n : Nat} {Q : Int × Int × Nat → Shared → Prop} (hs : s.heap.IsSliceOf sl .none .none vs) (ps : IsPart vs (some (-1))) (h : Q ((n : Int) - 1, -1, n) s) :
    wpAny (model prog w) A (Builtin.Slice.sliceApplied (.ref sl) (pure (n : Int))) Q E s := by
  obtain ⟨os, hos, hcs, hds⟩ := id hs
  unfold Builtin.Slice.sliceApplied Builtin.Slice.sliceFields
  refine wpAny_bind (wpAny_bind (wpAny_field hos hds (x := .none) rfl (wpAny_bind (wpAny_field hos hds (x := .none) rfl (wpAny_bind (wpAny_field hos hds (x := vs) rfl (wpAny_pure ?_)))))))
  refine wpAny_bind (HT.slicePart_ ps ?_)
  show wpAny _ _ (if ((-1 : Int) == 0) = true then _ else _) _ _ s
  rw [if_neg (by decide)]
  refine wpAny_bind (HT.slicePart_ .none (wpAny_bind (HT.slicePart_ .none (wpAny_bind (wpAny_pure ?_)))))
  show wpAny _ _ (match Builtin.Slice.sliceAdjust none none (-1) (n : Int) with | (a, b) => pure (a, (-1 : Int), Builtin.Slice.slicePlaces a b (-1))) _ _ s
  rw [show Builtin.Slice.sliceAdjust none none (-1) (n : Int) = ((n : Int) - 1, -1) by
    unfold Builtin.Slice.sliceAdjust
    simp]
  show wpAny _ _ (pure ((n : Int) - 1, (-1 : Int), Builtin.Slice.slicePlaces ((n : Int) - 1) (-1) (-1))) _ _ s
  rw [show Builtin.Slice.slicePlaces ((n : Int) - 1) (-1) (-1) = n by
    unfold Builtin.Slice.slicePlaces
    have h1 : ¬ ((-1 : Int) > 0) := by decide
    simp only [h1, if_false]
    by_cases hn : (n : Int) - 1 > -1
    · simp only [hn, if_true]
      rw [show (- -1 : Int) = 1 by decide, Int.ediv_one]
      omega
    · simp only [hn, if_false]
      omega]
  exact wpAny_pure h
theorem fm_congr {α β : Type} {f g : α → Option β} : ∀ {l : List α}, (∀ x ∈ l, f x = g x) → l.filterMap f = l.filterMap g
  | [], _ => rfl
  | x :: l, h => by
    rw [List.filterMap_cons, List.filterMap_cons, h x (List.mem_cons_self ..), fm_congr fun y hy => h y (List.mem_cons_of_mem _ hy)]
theorem pick_back (xs : Array Value) : ((List.range xs.size).filterMap fun (m : Nat) => xs[((xs.size : Int) - 1 + (m : Int) * (-1)).toNat]?).toArray = xs.toList.reverse.toArray := by
  have e : (List.range xs.size).filterMap (fun (m : Nat) => xs[((xs.size : Int) - 1 + (m : Int) * (-1)).toNat]?) = ((List.range xs.size).map fun k => xs.size - 1 - k).filterMap (xs[·]?) := by
    rw [List.filterMap_map]
    refine fm_congr fun k hk => ?_
    have := List.mem_range.mp hk
    show xs[((xs.size : Int) - 1 + (k : Int) * (-1)).toNat]? = xs[xs.size - 1 - k]?
    congr 1
    omega
  rw [e, PySem.W.krv_range, List.filterMap_reverse, PySem.W.krv_all]
theorem getItem_back {t sl : Addr} {items : Array Value} {vs : Value} {Q : Value → Shared → Prop} (ht : IsTup s.heap t items) (hs : s.heap.IsSliceOf sl .none .none vs) (ps : IsPart vs (some (-1)))
    (h : Q (.ref s.heap.objs.size) { s with heap := s.heap.push { cls := .type "tuple", data := .seq items.toList.reverse.toArray } }) (hsz : items.size ≤ sizeLine) : wpAny (model prog w) A (getItem (.ref t) (.ref sl)) Q E s := by
  have fit : sizeOk (.seq items.toList.reverse.toArray) := by
    show items.toList.reverse.toArray.size ≤ sizeLine
    rw [List.size_toArray, List.length_reverse, Array.length_toList]
    exact hsz
  obtain ⟨os, hos, hcs, hds⟩ := id hs
  have hTs : s.TypeIs (.ref sl) "slice" := ⟨os, hos, hcs⟩
  unfold getItem
  try with_reducible refine wpAny_holding ?_
  first | refine wpAny_bind (wpAny_pure ?_) | skip
  refine wpAny_bind (wpAny_sequenceKey ht.typeIs (by decide) ?_)
  refine wpAny_bind (wpAny_callSpecial?_slot (name := Str.ofString "__getitem__") ht.typeIs PyProof.Rows.slot_tuple_getitem
    (wpAny_call_entry PyProof.Rows.slot_tuple_getitem ht.typeIs PyProof.Rows.entry_tuple_getitem ?_ (PyProof.Rows.args_tuple_getitem _ _)))
  show wpAny _ _ (Builtin.Tuple.tupleItemsOf (.ref t) >>= _) _ _ s
  refine wpAny_bind (tupleItemsOf_ ht ?_)
  refine wpAny_bind (wpAny_typeOf hTs ?_)
  rw [if_pos (by decide)]
  refine wpAny_bind (applied_back hs ps ?_)
  show wpAny _ _ (if (((items.size : Int) - 1) == 0 && (-1 : Int) == 1 && items.size == items.size) = true then _ else _) _ _ s
  rw [if_neg (by simp), pick_back]
  first
    | exact wpAny_bind (wpAny_bind (m := Builtin.Tuple.tupleExact _) (wpAny_newObj_type (wpAny_pure (wpAny_pure ⟨_, rfl, wpAny_pure h⟩)) fit))
    | exact wpAny_bind (m := Builtin.Tuple.tupleExact _) (wpAny_newObj_type (wpAny_pure ⟨_, rfl, wpAny_pure h⟩) fit)
    | exact wpAny_bind (wpAny_bind (m := Builtin.Tuple.tupleExact _) (wpAny_newObj_type (wpAny_pure ⟨_, rfl, wpAny_pure h⟩) fit))
    | exact wpAny_bind (m := Builtin.Tuple.tupleExact _) (wpAny_newObj_type (wpAny_bind (wpAny_pure (wpAny_pure ⟨_, rfl, wpAny_pure h⟩))) fit)
end
end RvX
namespace L2
open PySem PySem.Spec PyProof.Rows
/-- t[::-1], t a tuple -/
def tRevT (K : PySem.W.Frag) (te : TE) : TE := fun σ H Q => te σ H fun x H1 => ∃ a xs, x = .ref a ∧ SqT K H1 a xs ∧ ∀ p, H1 p = none → Q (.ref p) (upd H1 p (.tup xs.reverse))
theorem pe_revT {X : Cx} {e : Expr} {te : TE} {k : Nat} {p1 p2 p3 pos : Pos} (he : PE X e te) : PE X (.Subscript e (.Slice none none (some (.UnaryOp .USub (.Constant (.int 1) k p1) p2)) p3) pos) (tRevT X.K te) := by
  refine ⟨fun pins s σ H Q I h => Subscript_ (thn (he.run pins s σ H _ I h) fun v s1 ⟨x, H1, I1, r1, a, xs, ex, hx, q⟩ => ?_)⟩
  subst ex
  cases r1
  have back : PO X (some (.UnaryOp .USub (.Constant (.int 1) k p1) p2)) (tPart (tUn (rU fun i => .int (-i)) (tC (.int 1)))) := po_some (pe_un un_neg pe_int)
  refine wpAny_Slice (thn (po_none.run pins s1 σ H1 (fun o H2 => o = none ∧ H2 = H1) I1 ⟨rfl, rfl⟩) fun vl s2 ⟨l, H2, I2, pl, el, e2⟩ => ?_)
  subst el e2
  refine thn (po_none.run pins s2 σ H2 (fun o H3 => o = none ∧ H3 = H2) I2 ⟨rfl, rfl⟩) fun vu s3 ⟨u, H3, I3, pu, eu, e3⟩ => ?_
  subst eu e3
  refine thn (back.run pins s3 σ H3 (fun o H4 => o = some (-1) ∧ H4 = H3) I3 ⟨1, rfl, -1, rfl, rfl, rfl⟩) fun vs s4 ⟨o, H4, I4, ps, eo, e4⟩ => ?_
  subst eo e4
  cases pl
  cases pu
  have I5 : Inv X pins σ H4 { s4 with heap := s4.heap.push { cls := .type "slice", data := .fields #[.none, .none, vs] } } := I4.kept (t' := s4.toks) fun b ob q => Heap.get?_push_of_some _ q
  obtain ⟨its, r, ht, hz⟩ := I5.tuple hx
  have len := r.length
  show wpAny (model X.prog X.w) X.A (subscriptTail e (.Slice none none (some (.UnaryOp .USub (.Constant (.int 1) k p1) p2)) p3) (.ref a) (.ref s4.heap.objs.size)) (EP X pins σ Q) X.xe { s4 with heap := s4.heap.push { cls := .type "slice", data := .fields #[.none, .none, vs] } }
  refine tail_any (ops := [.ref a, .ref s4.heap.objs.size]) ht.typeIs (PyProof.Rows.slot_tuple_getitem.lookup) ?_ (by with_unfolding_all rfl)
  refine RvX.getItem_back ht (Heap.IsSliceOf.new _ .none .none vs) ps ?_ (by rw [List.size_toArray]; omega)
  refine ⟨.ref _, _, I5.laid (t' := s4.toks) (o := .tup xs.reverse) (fun b ob q => Heap.get?_push_of_some _ q) (Nat.le_refl _) ?_, rfl, q _ (I5.hok.fresh (Nat.le_refl _))⟩
  exact ⟨by rw [List.length_reverse]; exact hz, _, r.reverse, IsTup.new _ _⟩
theorem g_revT {K : PySem.W.Frag} {σ : St} {H : Hp} {Q : VK} {te : TE} (h : te σ H fun x H1 => ∃ a xs, x = .ref a ∧ SqT K H1 a xs ∧ ∀ p, H1 p = none → Q (.ref p) (upd H1 p (.tup xs.reverse))) : tRevT K te σ H Q := h
/-- z.ljust(n, c) -/
def rLjust : V → List V → Hp → VK → Prop := fun x xs H Q => ∃ (a : Str) (i : Int) (c : Nat), x = .str a ∧ xs = [.int i, .str ⟨#[c]⟩] ∧ PadOk i = true ∧ Q (.str (Txt.ljustF a i c)) H
theorem mt_ljust2 {X : Cx} : MtR X "str.ljust" rLjust := by
  intro pins s σ H x xs v us Q I rx rs h
  obtain ⟨a, i, c, rfl, rfl, hp, q⟩ := h
  obtain ⟨t, rfl⟩ := rx
  obtain ⟨u1, u2, rfl, r1, r2⟩ := vals2 rs
  obtain ⟨t1, rfl⟩ := r1
  obtain ⟨t2, rfl⟩ := r2
  exact ljust_fill hp rfl fun t' k => ⟨.str _, H, I.tok _, ⟨_, rfl⟩, q⟩
theorem g_ljust {a : Str} {i : Int} {c : Nat} {H : Hp} {Q : VK} (h : PadOk i = true) (q : Q (.str (Txt.ljustF a i c)) H) : rLjust (.str a) [.int i, .str ⟨#[c]⟩] H Q := ⟨a, i, c, rfl, rfl, h, q⟩
/-- z.index(c), c one sign that is there -/
def rSIndex : V → List V → Hp → VK → Prop := fun x xs H Q => ∃ (a : Str) (c : Nat) (i : Nat) , x = .str a ∧ xs = [.str ⟨#[c]⟩] ∧ (∃ rest, Builtin.Str.occurrences a ⟨#[c]⟩ 0 a.length 1 = i :: rest) ∧ Q (.int (i : Nat)) H
theorem mt_sindex1 {X : Cx} : MtR X "str.index" rSIndex := by
  intro pins s σ H x xs v us Q I rx rs h
  obtain ⟨a, c, i, e1, e2, ⟨rest, ho⟩, q⟩ := h
  exact mt_sindex pins s σ H x xs v us Q I rx rs ⟨a, ⟨#[c]⟩, i, rest, e1, e2, ho, q⟩
theorem g_sindex {a : Str} {c i : Nat} {H : Hp} {Q : VK} (h : ∃ rest, Builtin.Str.occurrences a ⟨#[c]⟩ 0 a.length 1 = i :: rest) (q : Q (.int (i : Nat)) H) : rSIndex (.str a) [.str ⟨#[c]⟩] H Q := ⟨a, c, i, rfl, rfl, h, q⟩
end L2
namespace L2
open PySem
/-! readings of own objects, a step each -/
section
variable {σ : St} {H : Hp} {Q : VK} {D : Ends} {ta tv : TE} {K : PySem.W.Frag} {f : Str} {C : Addr} {sp : Sp} {dvs : List V} {E : XK} {t : TA}
theorem g_fld (h : ta σ H fun x H1 => ∃ a C dx fs v, x = .ref a ∧ H1 a = some (.ins C dx fs) ∧ Cls K C ∧ NoAttr K C f ∧ fs.lookup f = some v ∧ Q v H1) : tFld K ta f σ H Q := h
theorem g_fldS (h : tv σ H fun y H1 => ta σ H1 fun x H2 => ∃ a C dx fs, x = .ref a ∧ H2 a = some (.ins C dx fs) ∧ Cls K C ∧ NoAttr K C f ∧ fs.length < 1000 ∧ D.nx σ (upd H2 a (.ins C dx (putF f y fs)))) : sFld K ta tv f D σ H := h
theorem g_prop (h : ta σ H fun x H1 => ∃ a dx fs, x = .ref a ∧ H1 a = some (.ins C dx fs) ∧ sp (.ref a :: dvs) H1 Q E) : tProp C sp dvs E ta σ H Q := h
theorem g_make (h : t σ H fun vs H1 => ∀ x dx, H1 x = none → H1 dx = none → dx ≠ x → sp (.ref x :: (vs ++ dvs)) (upd (upd H1 dx (.own x)) x (.ins C dx [])) (fun v H2 => v = .non ∧ Q (.ref x) H2) E) : tMake C sp dvs E t σ H Q := h
theorem g_cmeth (h : ta σ H fun x H1 => x = .ref C ∧ t σ H1 fun vs H2 => sp (.ref C :: vs) H2 Q E) : ClX.tCMeth C sp E ta t σ H Q := h
theorem g_starA {te : TE} {Q : List V → Hp → Prop} (h : te σ H fun x H1 => ∃ p xs, x = V.ref p ∧ (SqT K H1 p xs ∨ SqL K H1 p xs) ∧ t σ H1 fun ys H2 => Q (xs ++ ys) H2) : StX.tStar K te t σ H Q := h
theorem g_while {c : TT} {tb : TS} (h : ∃ W : Nat → St → Hp → Prop, (∃ m, W m σ H) ∧ ∀ m σ H, W m σ H → c σ H fun b H1 => if b = true then ∃ N : St → Hp → Prop, (∀ σ' H', N σ' H' → ∃ m', m' < m ∧ W m' σ' H') ∧ tb { D with nx := N, ct := N, bk := D.nx } σ H1 else D.nx σ H1) : tWhile c tb D σ H := h
end
end L2
/-! ### texts -/
namespace Tx
open PySem L2
/-- numbers as values -/
def iv (c : Nat) : V := .int (c : Int)
/-- the object at a is the text of these codes -/
def At (K : PySem.W.Frag) (H : Hp) (C a : Addr) (cs : List Nat) : Prop := ∃ dx t, H a = some (.ins C dx [("_codes", .ref t)]) ∧ SqT K H t (cs.map iv)
section
variable {K : PySem.W.Frag} {H H' : Hp} {C a t dx : Addr} {cs : List Nat} {Q : VK} {E : XK}
theorem At.same (h : At K H C a cs) (s : Same H H') : At K H' C a cs := by
  obtain ⟨dx, t, h1, h2⟩ := h
  exact ⟨dx, t, s _ _ h1, s.sqt h2⟩
theorem fld {P : V → Prop} (h : H a = some (.ins C dx [("_codes", .ref t)])) (c : Cls K C) (n : NoAttr K C "_codes") (q : P (.ref t)) :
    ∃ a1 C1 dx1 fs v, V.ref a = .ref a1 ∧ H a1 = some (.ins C1 dx1 fs) ∧ Cls K C1 ∧ NoAttr K C1 "_codes" ∧ fs.lookup ("_codes" : Str) = some v ∧ P v := ⟨a, C, dx, _, .ref t, rfl, h, c, n, rfl, q⟩
theorem prop (h : H a = some (.ins C dx [("_codes", .ref t)])) (q : Q (.ref t) H) : ∃ a1 dx1 fs, V.ref a = .ref a1 ∧ H a1 = some (.ins C dx1 fs) ∧ getSp C "_codes" (.ref a1 :: []) H Q E := ⟨a, dx, _, rfl, h, a, dx, _, .ref t, rfl, h, rfl, q⟩
end
theorem kp_of_same {x : Addr} {H H' : Hp} (s : Same H H') : Dr.Kp x H H' := fun p o _ h => s p o h
/-- the promises: made of a body, of a tuple of codes -/
def spInit (C : Addr) : Sp := fun vs H Q _ => ∃ x dx m z, vs = [.ref x, m] ∧ H x = some (.ins C dx []) ∧ AnyO H m ∧ m = .str z ∧ Mk.isBody m = true ∧ ∀ H1 t, Dr.Kp x H H1 → H1 x = some (.ins C dx [("_codes", .ref t)]) → H1 t = some (.tup (z.cps.toList.map iv)) → Q .non H1
def spWith (K : PySem.W.Frag) (C : Addr) : Sp := fun vs H Q _ => ∃ t cs, vs = [.ref t] ∧ SqT K H t (cs.map iv) ∧ ∀ H1 a, Same H H1 → H a = none → At K H1 C a cs → Q (.ref a) H1
def spOf (K : PySem.W.Frag) (C : Addr) : Sp := fun vs H Q _ => ∃ y t cs, vs = [y, .ref t] ∧ H t = some (.tup (cs.map iv)) ∧ (∀ c ∈ cs, Mk.isCode (iv c) = true) ∧ ∀ H1 a, Same H H1 → H a = none → At K H1 C a cs → Q (.ref a) H1
def spAdd (K : PySem.W.Frag) (C : Addr) : Sp := fun vs H Q _ => ∃ a b cs ds, vs = [.ref a, .ref b] ∧ At K H C a cs ∧ At K H C b ds ∧ cs.length + ds.length ≤ 100000 ∧ ∀ H1 p, Same H H1 → At K H1 C p (cs ++ ds) → Q (.ref p) H1
def spEq (K : PySem.W.Frag) (C : Addr) : Sp := fun vs H Q _ => ∃ a b cs ds, vs = [.ref a, .ref b] ∧ At K H C a cs ∧ At K H C b ds ∧ Q (.bl (decide (cs = ds))) H
theorem iv_inj {cs ds : List Nat} (h : cs.map iv = ds.map iv) : cs = ds := by
  induction cs generalizing ds with
  | nil => cases ds with
    | nil => rfl
    | cons d ds => cases h
  | cons c cs ih => cases ds with
    | nil => cases h
    | cons d ds =>
      rw [List.map_cons, List.map_cons] at h
      injection h with h1 h2
      have : c = d := by
        have := V.int.inj h1
        omega
      rw [this, ih h2]
/-- numbers as data -/
theorem dps {K : PySem.W.Frag} {H : Hp} : ∀ cs : List Nat, DpAll K H (cs.map iv) (cs.map fun (c : Nat) => PyData.int (c : Int))
  | [] => .nil
  | c :: cs => .cons (.int _) (dps cs)
theorem eqvAll_ints : ∀ (cs ds : List Nat), PyData.eqvAll (cs.map fun (c : Nat) => PyData.int (c : Int)) (ds.map fun (c : Nat) => PyData.int (c : Int)) = decide (cs = ds)
  | [], [] => by simp [PyData.eqvAll]
  | [], d :: ds => by simp [PyData.eqvAll]
  | c :: cs, [] => by simp [PyData.eqvAll]
  | c :: cs, d :: ds => by
    rw [List.map_cons, List.map_cons, PyData.eqvAll, eqvAll_ints cs ds, PyData.eqv]
    by_cases h1 : c = d
    · subst h1
      simp
    · have h2 : ¬ ((c : Int) = (d : Int)) := by omega
      simp [h1, h2]
theorem eqv_tup (cs ds : List Nat) : PyData.eqv (.tuple (cs.map fun (c : Nat) => PyData.int (c : Int))) (.tuple (ds.map fun (c : Nat) => PyData.int (c : Int))) = decide (cs = ds) := by
  rw [PyData.eqv, eqvAll_ints]
theorem cla_ints : ∀ cs : List Nat, PyData.canLayAll0 (cs.map fun (c : Nat) => PyData.int (c : Int)) = true
  | [] => by simp [PyData.canLayAll0]
  | c :: cs => by
    have := cla_ints cs
    simp [PyData.canLayAll0, PyData.canLay0, this]
theorem dep_ints : ∀ cs : List Nat, PyData.depthAll (cs.map fun (c : Nat) => PyData.int (c : Int)) ≤ 1
  | [] => by simp [PyData.depthAll]
  | c :: cs => by
    have := dep_ints cs
    simp only [List.map_cons, PyData.depthAll, PyData.depth]
    omega
theorem shaped_ints (cs : List Nat) : SeqAt.shaped (.tuple (cs.map fun (c : Nat) => PyData.int (c : Int))) = true := by
  have h1 := dep_ints cs
  show (PyData.canLay0 _ && decide (PyData.depth _ ≤ 64)) = true
  rw [Bool.and_eq_true]
  refine ⟨?_, decide_eq_true ?_⟩
  · simp only [PyData.canLay0]
    exact cla_ints cs
  · simp only [PyData.depth]
    omega
end Tx
namespace L2
open PySem
/-- xs + ys, tuples: whatever object it is -/
theorem g_catA {K : PySem.W.Frag} {H : Hp} {Q : VK} {p u : Addr} {xs ys : List V} (h1 : SqT K H p xs) (h2 : SqT K H u ys) (hz : xs.length + ys.length ≤ sizeLine) (q : ∀ H1 r, Same H H1 → SqT K H1 r (xs ++ ys) → Q (.ref r) H1) : rCatA K (.ref p) (.ref u) H Q := by
  refine ⟨p, u, xs, ys, rfl, rfl, h1, h2, hz, fun e => q H u (Same.refl H) ?_, fun _ e => q H p (Same.refl H) ?_, fun _ _ r hr => q _ r (same_new hr) (SqT.of upd_same)⟩
  · rw [e, List.nil_append]
    exact h2
  · rw [e, List.append_nil]
    exact h1
/-- t[lo:hi], a tuple -/
theorem g_slA {K : PySem.W.Frag} {H : Hp} {Q : VK} {p : Addr} {xs : List V} {lo hi : Option Int} (h : SqT K H p xs) (q : ∀ H1 r, Same H H1 → SqT K H1 r (cutV xs lo hi) → Q (.ref r) H1) : rSlA K (.ref p) lo hi H Q := by
  refine ⟨p, xs, rfl, h, fun w => q H p (Same.refl H) ?_, fun _ r hr => q _ r (same_new hr) (SqT.of upd_same)⟩
  have e : cutV xs lo hi = xs := by
    unfold cutV
    rw [w.1, w.2, List.drop_zero, Nat.sub_zero, List.take_of_length_le (Nat.le_refl _)]
  rw [e]
  exact h
end L2
namespace L2
open PySem PySem.Spec PyProof.Rows
open AutoSeq1 (wpAny_loadPart') in
theorem extend_tup (l b : Addr) (us vs : Array Value) (m n : Nat) (dd : Option Addr) (sl : Array (Option Value)) (short : ¬(!us.isEmpty && Builtin.List.listTooLong (us.size + vs.size)) = true) (h1 : us.size ≤ sizeLine) (h2 : us.size + vs.size ≤ sizeLine + 1) :
    Meets (Builtin.«list.extend» ⟨[.ref l, .ref b], []⟩) (fun _ R s => s.heap.get? l = some { cls := .type "list", dict := none, data := .seq us m, slots := #[] } ∧ s.heap.get? b = some { cls := .type "tuple", dict := dd, data := .seq vs n, slots := sl } ∧
      R (.ok (.ret Value.none)) { s with heap := s.heap.update l (Obj.mapSeq fun x => x ++ vs), toks := s.toks }) :=
  .of_wp fun prog w A R s q => by
    obtain ⟨hp, g, d, tk, os⟩ := s
    obtain ⟨hl, hb, q⟩ := q
    have e1 := AutoSeq1.idx_int
    have e2 := AutoSeq1.sub_tuple_tuple
    have e3 := AutoSeq1.sub_list_list
    have e4 := AutoSeq1.sub_tuple_list
    have e5 := AutoSeq1.sub_list_tuple
    have fit : (us ++ vs).size ≤ sizeLine + 1 := by
      rw [Array.size_append]
      exact h2
    wp_walk using (wpAny_updateSeq hl rfl (hz := h1) (_hz' := fit)), wpAny_loadPart' hl, wpAny_loadPart' hb
    exact ⟨_, rfl, q⟩
/-- l.extend(t), t a tuple -/
def rExtT (K : PySem.W.Frag) : V → List V → Hp → VK → Prop := fun x vs H Q => ∃ l b xs zs, x = .ref l ∧ vs = [.ref b] ∧ H l = some (.lst xs) ∧ SqT K H b zs ∧ xs.length + zs.length ≤ sizeLine ∧ Q .non (upd H l (.lst (xs ++ zs)))
theorem mt_extendT {X : Cx} : MtM X "list.extend" (rExtT X.K) := by
  intro pins s σ H x vs v us Q I rx rv h
  obtain ⟨l, b, xs, zs, rfl, rfl, hH, hB, hz, q⟩ := h
  cases rx
  obtain ⟨u, rfl, ru⟩ := rv.one
  cases ru
  obtain ⟨z, its, n, r, hl, e⟩ := I.lstM hH
  obtain ⟨its2, r2, ⟨⟨c2, d2, a2, s2⟩, o2, k2, n2, q2⟩, z2⟩ := I.tuple hB
  simp only at k2 q2
  subst k2 q2
  have len1 := r.length
  have len2 := r2.length
  have fit : its.toArray.size + its2.toArray.size ≤ sizeLine := by rw [List.size_toArray, List.size_toArray]; omega
  have short : ¬ (!its.toArray.isEmpty && Builtin.List.listTooLong (its.toArray.size + its2.toArray.size)) = true := by
    rw [notLongL fit, Bool.and_false]
    exact Bool.false_ne_true
  refine call_meets F.slot_list_extend ⟨_, e, rfl⟩ F.entry_list_extend (F.args_list_extend_2 _ _) (extend_tup l b its.toArray its2.toArray n n2 d2 s2 short (by rw [List.size_toArray]; omega) (by omega)) ⟨e, o2, ?_⟩
  refine ⟨.non, _, I.lset (its' := its ++ its2) hH e (by simp) (r.append r2) ?_, rfl, q⟩
  rw [List.length_append]
  omega
theorem g_extT {K : PySem.W.Frag} {H : Hp} {Q : VK} {l b : Addr} {xs zs : List V} (h1 : H l = some (.lst xs)) (h2 : SqT K H b zs) (hz : xs.length + zs.length ≤ sizeLine) (q : Q .non (upd H l (.lst (xs ++ zs)))) : rExtT K (.ref l) [.ref b] H Q := ⟨l, b, xs, zs, rfl, rfl, h1, h2, hz, q⟩
end L2
/-! payloads and charsets: the mathematics -/
namespace Cd
open PySem L2
theorem marks_at : ∀ c, c < 127 → 32 ≤ c → c ≠ 37 → Mk.MARKS.cps.toList[if c < 37 then c - 32 else c - 33]? = some c := by decide +kernel
def HD : Str := "0123456789ABCDEF"
def AL : Str := "ABCDEFGHIJKLMNOPQRSTUVWXYZabcdefghijklmnopqrstuvwxyz0123456789+-"
def al (d : Nat) : Nat := AL.cps.toList.getD d 0
def isLD (o : Nat) : Bool := decide (o ∈ Mk.LADS.cps.toList)
/-- the coding h -/
def hForm (o : Nat) : List Nat := if o = 32 then [95] else if isLD o then [o] else [61, hexD (o / 16), hexD (o % 16)]
def payH (os : List Nat) : List Nat := (os.map hForm).flatten
theorem ld_facts : ∀ o, o < 256 → isLD o = true → 32 ≤ o ∧ o ≤ 126 ∧ o ≠ 37 ∧ o ≠ 61 ∧ o ≠ 95 ∧ o ≠ 32 := by decide +kernel
theorem hform_len {o : Nat} : 1 ≤ (hForm o).length ∧ (hForm o).length ≤ 3 := by
  unfold hForm
  split
  · exact ⟨by decide, by decide⟩
  · split <;> exact ⟨by simp, by simp⟩
theorem payH_len : ∀ os : List Nat, os.length ≤ (payH os).length ∧ (payH os).length ≤ 3 * os.length
  | [] => ⟨Nat.le_refl _, Nat.le_refl _⟩
  | o :: os => by
    have ih := payH_len os
    have h := @hform_len o
    show _ ≤ (hForm o ++ payH os).length ∧ (hForm o ++ payH os).length ≤ _
    rw [List.length_append, List.length_cons]
    omega
theorem payH_app (a b : List Nat) : payH (a ++ b) = payH a ++ payH b := by
  unfold payH
  rw [List.map_append, List.flatten_append]
theorem hex_ne : ∀ d, d < 16 → hexD d ≠ 61 := by decide +kernel
theorem payH_count : ∀ os : List Nat, (∀ o ∈ os, o < 256) → (payH os).count 61 * 2 + os.length = (payH os).length
  | [], _ => rfl
  | o :: os, h => by
    have ih := payH_count os fun x hx => h x (List.mem_cons_of_mem _ hx)
    have ho := h o (List.mem_cons_self ..)
    show (hForm o ++ payH os).count 61 * 2 + _ = (hForm o ++ payH os).length
    rw [List.count_append, List.length_append, List.length_cons]
    have e : (hForm o).count 61 * 2 + 1 = (hForm o).length := by
      unfold hForm
      split
      · decide
      · split
        · rename_i h1 h2
          have n := (ld_facts o ho h2).2.2.2.1
          rw [List.count_cons, List.count_nil, if_neg (by simpa using n)]
          rfl
        · have n1 := hex_ne (o / 16) (by omega)
          have n2 := hex_ne (o % 16) (by omega)
          simp [List.count_cons, n1, n2]
    omega
/-- the coding s -/
def num3 (os : List Nat) : Nat := os.getD 0 0 * 65536 + os.getD 1 0 * 256 + os.getD 2 0
def sDigits (n : Nat) : List Nat := [n / 262144, n / 4096 % 64, n / 64 % 64, n % 64]
def sForm (os : List Nat) : List Nat := ((sDigits (num3 os)).take (os.length + 1)).map al
def payS : List Nat → List Nat
  | [] => []
  | [a] => sForm [a]
  | [a, b] => sForm [a, b]
  | a :: b :: c :: r => sForm [a, b, c] ++ payS r
theorem payS3 {os : List Nat} (h : 3 ≤ os.length) : payS os = sForm (os.take 3) ++ payS (os.drop 3) := by
  match os, h with
  | a :: b :: c :: r, _ => rfl
theorem payS_few {os : List Nat} (h0 : os ≠ []) (h : os.length ≤ 3) : payS os = sForm os := by
  match os, h0, h with
  | [a], _, _ => rfl
  | [a, b], _, _ => rfl
  | [a, b, c], _, _ => exact List.append_nil _
/-- row by row -/
theorem payS_rows (os : List Nat) : ∀ (m i : Nat), os.length ≤ 3 * (i + m) → 3 * (i + m) < os.length + 3 → ((List.range' i m).map fun k => sForm ((os.drop (3 * k)).take 3)).flatten = payS (os.drop (3 * i))
  | 0, i, h1, h2 => by rw [List.drop_of_length_le (by omega)]; rfl
  | m + 1, i, h1, h2 => by
    rw [List.range'_succ, List.map_cons, List.flatten_cons, payS_rows os m (i + 1) (by omega) (by omega)]
    by_cases h : 3 ≤ (os.drop (3 * i)).length
    · rw [payS3 h, List.drop_drop]
      rfl
    · have h0 : os.drop (3 * i) ≠ [] := fun e => by
        have := congrArg List.length e
        rw [List.length_drop] at this
        simp at this
        omega
      rw [payS_few h0 (by omega), List.take_of_length_le (by omega), show payS (os.drop (3 * (i + 1))) = [] by rw [List.drop_of_length_le (by rw [List.length_drop] at h; omega)]; rfl, List.append_nil]
theorem sform_len {os : List Nat} (h : os.length ≤ 3) : (sForm os).length = os.length + 1 := by
  unfold sForm sDigits
  rw [List.length_map, List.length_take]
  show min (os.length + 1) 4 = _
  omega
theorem payS_len : ∀ os : List Nat, (payS os).length = (4 * os.length + 2) / 3
  | [] => rfl
  | [a] => by
    rw [show payS [a] = sForm [a] from rfl, sform_len (by simp)]
    simp
  | [a, b] => by
    rw [show payS [a, b] = sForm [a, b] from rfl, sform_len (by simp)]
    simp
  | a :: b :: c :: r => by
    show (sForm [a, b, c] ++ payS r).length = _
    rw [List.length_append, sform_len (Nat.le_refl _), payS_len r]
    simp only [List.length_cons, List.length_nil]
    omega
theorem payS_app : ∀ (a b : List Nat), a.length % 3 = 0 → payS (a ++ b) = payS a ++ payS b
  | [], b, _ => rfl
  | [x], b, h => by simp at h
  | [x, y], b, h => by simp at h
  | x :: y :: z :: r, b, h => by
    show sForm [x, y, z] ++ payS (r ++ b) = (sForm [x, y, z] ++ payS r) ++ payS b
    rw [payS_app r b (by simp only [List.length_cons] at h; omega), List.append_assoc]
def digS (ds : List Nat) : Nat := (ds ++ List.replicate (4 - ds.length) 0).foldl (fun n d => n * 64 + d) 0
def row3 (n : Nat) : List Nat := [n / 65536, n / 256 % 256, n % 256]
theorem back3 {a b c : Nat} (ha : a < 256) (hb : b < 256) (hc : c < 256) : row3 (digS (sDigits (num3 [a, b, c]))) = [a, b, c] := by
  have e : digS (sDigits (num3 [a, b, c])) = a * 65536 + b * 256 + c := by
    show (((0 * 64 + (a * 65536 + b * 256 + c) / 262144) * 64 + (a * 65536 + b * 256 + c) / 4096 % 64) * 64 + (a * 65536 + b * 256 + c) / 64 % 64) * 64 + (a * 65536 + b * 256 + c) % 64 = _
    omega
  rw [e]
  unfold row3
  congr 1
  · omega
  · congr 1
    · omega
    · congr 1
      omega
theorem back2 {a b : Nat} (ha : a < 256) (hb : b < 256) : row3 (digS ((sDigits (num3 [a, b])).take 3)) = [a, b, 0] := by
  have e : digS ((sDigits (num3 [a, b])).take 3) = a * 65536 + b * 256 := by
    show (((0 * 64 + (a * 65536 + b * 256 + 0) / 262144) * 64 + (a * 65536 + b * 256 + 0) / 4096 % 64) * 64 + (a * 65536 + b * 256 + 0) / 64 % 64) * 64 + 0 = _
    omega
  rw [e]
  unfold row3
  congr 1
  · omega
  · congr 1
    · omega
    · congr 1
      omega
theorem back1 {a : Nat} (ha : a < 256) : row3 (digS ((sDigits (num3 [a])).take 2)) = [a, 0, 0] := by
  have e : digS ((sDigits (num3 [a])).take 2) = a * 65536 := by
    show (((0 * 64 + (a * 65536 + 0 * 256 + 0) / 262144) * 64 + (a * 65536 + 0 * 256 + 0) / 4096 % 64) * 64 + 0) * 64 + 0 = _
    omega
  rw [e]
  unfold row3
  congr 1
  · omega
  · congr 1
    · omega
    · congr 1
      omega
theorem sdig_lt {n : Nat} (h : n < 16777216) : ∀ d ∈ sDigits n, d < 64 := by
  intro d hd
  simp only [sDigits, List.mem_cons, List.not_mem_nil, or_false] at hd
  omega
theorem num3_lt {os : List Nat} (h : ∀ o ∈ os, o < 256) : num3 os < 16777216 := by
  have g : ∀ i, os.getD i 0 < 256 := fun i => by
    rw [List.getD_eq_getElem?_getD]
    cases e : os[i]? with
    | none => exact (by decide : (0 : Nat) < 256)
    | some v => exact h v (List.mem_of_getElem? e)
  unfold num3
  have := g 0
  have := g 1
  have := g 2
  omega
/-- one row of digits, read -/
def sBack (ds : List Nat) : List Nat := (row3 (digS ds)).take (ds.length - 1)
theorem sback {os : List Nat} (h : ∀ o ∈ os, o < 256) (h0 : os ≠ []) (h3 : os.length ≤ 3) : row3 (digS ((sDigits (num3 os)).take (os.length + 1))) = os ++ List.replicate (3 - os.length) 0 := by
  match os, h0, h3, h with
  | [a], _, _, h => exact back1 (h a (by simp))
  | [a, b], _, _, h => exact back2 (h a (by simp)) (h b (by simp))
  | [a, b, c], _, _, h => exact back3 (h a (by simp)) (h b (by simp)) (h c (by simp))
end Cd
namespace Cd
open PySem L2
theorem al_sign : ∀ d, d < 64 → AL.cps.toList[d]? = some (al d) ∧ (AL.cps.toList.take d).all (fun c => decide (c ≠ al d)) = true := by decide +kernel
theorem hd_sign : ∀ d, d < 16 → HD.cps.toList[d]? = some (hexD d) ∧ (HD.cps.toList.take d).all (fun c => decide (c ≠ hexD d)) = true := by decide +kernel
/-! charsets -/
inductive Kd | latin | wide | steps deriving DecidableEq
def Kd.name : Kd → Str | .latin => "latin" | .wide => "wide" | .steps => "steps"
def stepsRow (c : Nat) : List Nat := if c < 128 then [c] else if c < 16384 then [c % 128 + 128, c / 128] else [c % 128 + 128, c / 128 % 128 + 128, c / 16384]
def rowOf : Kd → Nat → List Nat
  | .latin, c => [c]
  | .wide, c => [c / 256, c % 256]
  | .steps, c => stepsRow c
def whole : Kd → List Nat → Bool
  | .latin, _ => true
  | .wide, r => decide (r.length = 2)
  | .steps, r => decide (r.getLast? = some (r.getD (r.length - 1) 0) ∧ r.getD (r.length - 1) 0 < 128) || decide (r.length = 3)
def rstep (k : Kd) (p : List (List Nat) × List Nat) (o : Nat) : List (List Nat) × List Nat := if whole k (p.2 ++ [o]) then (p.1 ++ [p.2 ++ [o]], []) else (p.1, p.2 ++ [o])
def rowsOf (k : Kd) (os : List Nat) : List (List Nat) := let p := os.foldl (rstep k) ([], []); if p.2 = [] then p.1 else p.1 ++ [p.2]
def codeOf : Kd → List Nat → Option Nat
  | .latin, r => some (r.getD 0 0)
  | .wide, r => if r.length = 2 then some (r.getD 0 0 * 256 + r.getD 1 0) else none
  | .steps, r => if r.getD (r.length - 1) 0 > 127 ∨ r.getD (r.length - 1) 0 = 0 then none else some (r.foldr (fun o n => n * 128 + o % 128) 0)
/-- a code that the charset has -/
def inKd (k : Kd) (c : Nat) : Prop := 1 ≤ c ∧ c ≤ 65535 ∧ (k = .latin → c ≤ 255)
theorem row_lt {k : Kd} {c : Nat} (h : inKd k c) : ∀ o ∈ rowOf k c, o < 256 := by
  obtain ⟨h1, h2, h3⟩ := h
  intro o ho
  cases k with
  | latin =>
    have := h3 rfl
    simp only [rowOf, List.mem_singleton] at ho
    omega
  | wide =>
    simp only [rowOf, List.mem_cons, List.not_mem_nil, or_false] at ho
    omega
  | steps =>
    simp only [rowOf, stepsRow] at ho
    split at ho
    · simp only [List.mem_singleton] at ho
      omega
    · split at ho
      · simp only [List.mem_cons, List.not_mem_nil, or_false] at ho
        omega
      · simp only [List.mem_cons, List.not_mem_nil, or_false] at ho
        omega
theorem row_len {k : Kd} {c : Nat} : 1 ≤ (rowOf k c).length ∧ (rowOf k c).length ≤ 3 := by
  cases k with
  | latin => simp [rowOf]
  | wide => simp [rowOf]
  | steps =>
    simp only [rowOf, stepsRow]
    split
    · simp
    · split <;> simp
/-- the octets of a code make one row -/
theorem row_fold {k : Kd} {c : Nat} (h : inKd k c) (acc : List (List Nat)) : (rowOf k c).foldl (rstep k) (acc, []) = (acc ++ [rowOf k c], []) := by
  obtain ⟨h1, h2, h3⟩ := h
  cases k with
  | latin => rfl
  | wide => rfl
  | steps =>
    simp only [rowOf, stepsRow]
    split
    · rename_i a
      have w : whole .steps [c] = true := by simp [whole, a]
      simp [rstep, w]
    · split
      · rename_i a b
        have w1 : whole .steps [c % 128 + 128] = false := by simp [whole]
        have w2 : whole .steps [c % 128 + 128, c / 128] = true := by simp [whole]; omega
        simp [rstep, w1, w2]
      · rename_i a b
        have w1 : whole .steps [c % 128 + 128] = false := by simp [whole]
        have w2 : whole .steps [c % 128 + 128, c / 128 % 128 + 128] = false := by simp [whole]
        have w3 : whole .steps [c % 128 + 128, c / 128 % 128 + 128, c / 16384] = true := by simp [whole]
        simp [rstep, w1, w2, w3]
theorem rows_fold {k : Kd} : ∀ (cs : List Nat) (acc : List (List Nat)), (∀ c ∈ cs, inKd k c) → ((cs.map (rowOf k)).flatten).foldl (rstep k) (acc, []) = (acc ++ cs.map (rowOf k), [])
  | [], acc, _ => by simp
  | c :: cs, acc, h => by
    rw [List.map_cons, List.flatten_cons, List.foldl_append, row_fold (h c (List.mem_cons_self ..)), rows_fold cs _ fun x hx => h x (List.mem_cons_of_mem _ hx)]
    simp
theorem rows_back {k : Kd} {cs : List Nat} (h : ∀ c ∈ cs, inKd k c) : rowsOf k (cs.map (rowOf k)).flatten = cs.map (rowOf k) := by
  unfold rowsOf
  rw [rows_fold cs [] h]
  simp
theorem code_back {k : Kd} {c : Nat} (h : inKd k c) : codeOf k (rowOf k c) = some c := by
  obtain ⟨h1, h2, h3⟩ := h
  cases k with
  | latin => rfl
  | wide =>
    show some (c / 256 * 256 + c % 256) = some c
    congr 1
    omega
  | steps =>
    simp only [rowOf, stepsRow]
    split
    · rename_i a
      show (if c > 127 ∨ c = 0 then none else some (0 * 128 + c % 128)) = some c
      rw [if_neg (by omega)]
      congr 1
      omega
    · split
      · rename_i a b
        show (if c / 128 > 127 ∨ c / 128 = 0 then none else some ((0 * 128 + c / 128 % 128) * 128 + (c % 128 + 128) % 128)) = some c
        rw [if_neg (by omega)]
        congr 1
        omega
      · rename_i a b
        show (if c / 16384 > 127 ∨ c / 16384 = 0 then none else some (((0 * 128 + c / 16384 % 128) * 128 + (c / 128 % 128 + 128) % 128) * 128 + (c % 128 + 128) % 128)) = some c
        rw [if_neg (by omega)]
        congr 1
        omega
def isC (c : Nat) : Bool := Mk.isCode (.int (c : Int))
def known (o : Option Nat) : Nat := match o with | some c => if isC c then c else 63 | none => 63
theorem isC_iff {c : Nat} : isC c = true ↔ (32 ≤ c ∧ c ≤ 126 ∧ c ≠ 37) ∨ (160 ≤ c ∧ c ≤ 65535) := by
  show ((decide ((32 : Int) ≤ c) && decide ((c : Int) ≤ 126) && !decide (V.int (c : Int) = V.int 37)) || (decide ((160 : Int) ≤ c) && decide ((c : Int) ≤ 65535))) = true ↔ _
  simp only [Bool.or_eq_true, Bool.and_eq_true, decide_eq_true_eq, Bool.not_eq_true', decide_eq_false_iff_not, V.int.injEq]
  omega
theorem inKd_of {k : Kd} {c : Nat} (h : isC c = true) (hl : k = .latin → c ≤ 255) : inKd k c := by
  have := isC_iff.mp h
  exact ⟨by omega, by omega, hl⟩
end Cd
namespace L2
open PySem
/-! ### comprehensions whose steps make what they like and give f of the item -/
section
variable {K : PySem.W.Frag} {J : It} {n : Nat} {g : TG} {te : TE} {vs : List Nat} {σ : St} {H1 : Hp} {D : Addr} {Qd : Hp → Prop}
theorem lc_pure {G : Hp → Prop} {it : Nat → V} (f : Nat → V) (w : Walk J n G (fun i H x H' => H' = H ∧ x = it i)) (hG : ∀ H, Same H1 H → G H) (hD : H1 D = none) (hn : n ≤ 100000)
    (hs : ∀ i H (N : V → Hp → Prop), i < n → Same H1 H → (∀ H4, Same H H4 → N (f i) H4) → g (it i) (wipe σ vs) H fun σ2 H2 => wipe σ2 vs = wipe σ vs ∧ te σ2 H2 N) (hd : ∀ H, Same H1 H → H D = some (.lst ((List.range n).map f)) → Qd H) :
    ∃ W : Nat → Nat → Hp → Prop, (∃ m, W 0 m (upd H1 D (.lst []))) ∧ ∀ i m H, W i m H →
      (J.stop i H ∧ Qd H) ∨ (J.go i H ∧ ∃ Nx : Hp → Prop, (∀ H', Nx H' → ∃ m', m' < m ∧ W (i + 1) m' H') ∧ ∀ x H', J.yld i H x H' → g x (wipe σ vs) H' fun σ2 H2 => wipe σ2 vs = wipe σ vs ∧ tYes σ2 H2 fun b H3 =>
        if b = true then te σ2 H3 fun y H4 => ∃ acc, H4 D = some (.lst acc) ∧ acc.length < sizeLine ∧ Nx (upd H4 D (.lst (acc ++ [y]))) else Nx H3) := by
  refine lc_it w (fun i H => Same H1 H ∧ H D = some (.lst ((List.range i).map f))) ⟨same_new hD, upd_same⟩ (fun i H _ p => hG H p.1) (fun i x H H' hi p y => ?_) fun H p => hd H p.1 p.2
  obtain ⟨rfl, rfl⟩ := y
  refine hs i H' _ hi p.1 fun H4 s4 => ?_
  refine ⟨_, s4 _ _ p.2, ?_, (p.1.trans s4).mut hD, ?_⟩
  · rw [List.length_map, List.length_range]
    exact Nat.lt_of_lt_of_le hi (Nat.le_trans hn (by decide))
  · rw [upd_same, List.range_succ, List.map_append]
    rfl
end
section
variable {K : PySem.W.Frag} {g : TG} {te : TE} {vs : List Nat} {σ : St} {H1 : Hp} {D : Addr} {Qd : Hp → Prop} {a : Addr} {xs : List V}
theorem rng_get (xs : List V) (f : V → V) : (List.range xs.length).map (fun i => f (xs.getD i .non)) = xs.map f := by
  apply List.ext_getElem
  · simp
  · intro i h1 h2
    simp at h1
    simp [List.getD_eq_getElem?_getD, List.getElem?_eq_getElem h1]
/-- over a tuple -/
theorem lc_pureT (f : V → V) (ha : SqT K H1 a xs) (hD : H1 D = none) (hn : xs.length ≤ 100000)
    (hs : ∀ x H (N : V → Hp → Prop), x ∈ xs → Same H1 H → (∀ H4, Same H H4 → N (f x) H4) → g x (wipe σ vs) H fun σ2 H2 => wipe σ2 vs = wipe σ vs ∧ te σ2 H2 N) (hd : ∀ H, Same H1 H → H D = some (.lst (xs.map f)) → Qd H) :
    ∃ W : Nat → Nat → Hp → Prop, (∃ m, W 0 m (upd H1 D (.lst []))) ∧ ∀ i m H, W i m H →
      ((Itt K a).stop i H ∧ Qd H) ∨ ((Itt K a).go i H ∧ ∃ Nx : Hp → Prop, (∀ H', Nx H' → ∃ m', m' < m ∧ W (i + 1) m' H') ∧ ∀ x H', (Itt K a).yld i H x H' → g x (wipe σ vs) H' fun σ2 H2 => wipe σ2 vs = wipe σ vs ∧ tYes σ2 H2 fun b H3 =>
        if b = true then te σ2 H3 fun y H4 => ∃ acc, H4 D = some (.lst acc) ∧ acc.length < sizeLine ∧ Nx (upd H4 D (.lst (acc ++ [y]))) else Nx H3) := by
  refine lc_pure (n := xs.length) (it := fun i => xs.getD i .non) (G := fun H => SqT K H a xs) (fun i => f (xs.getD i .non)) (walk_tup.mono (fun _ h => h) fun i H x H' hi _ y => ⟨y.1, ?_⟩) (fun H s => s.sqt ha) hD hn (fun i H N hi s k => ?_) fun H s e => hd H s (by rw [e, rng_get])
  · rw [List.getD_eq_getElem?_getD, y.2]
    rfl
  · refine hs _ H N ?_ s k
    rw [List.getD_eq_getElem?_getD, List.getElem?_eq_getElem hi]
    exact List.getElem_mem hi
/-- over a list -/
theorem lc_pureL (f : V → V) (ha : SqL K H1 a xs) (hD : H1 D = none) (hn : xs.length ≤ 100000)
    (hs : ∀ x H (N : V → Hp → Prop), x ∈ xs → Same H1 H → (∀ H4, Same H H4 → N (f x) H4) → g x (wipe σ vs) H fun σ2 H2 => wipe σ2 vs = wipe σ vs ∧ te σ2 H2 N) (hd : ∀ H, Same H1 H → H D = some (.lst (xs.map f)) → Qd H) :
    ∃ W : Nat → Nat → Hp → Prop, (∃ m, W 0 m (upd H1 D (.lst []))) ∧ ∀ i m H, W i m H →
      ((Itl K a).stop i H ∧ Qd H) ∨ ((Itl K a).go i H ∧ ∃ Nx : Hp → Prop, (∀ H', Nx H' → ∃ m', m' < m ∧ W (i + 1) m' H') ∧ ∀ x H', (Itl K a).yld i H x H' → g x (wipe σ vs) H' fun σ2 H2 => wipe σ2 vs = wipe σ vs ∧ tYes σ2 H2 fun b H3 =>
        if b = true then te σ2 H3 fun y H4 => ∃ acc, H4 D = some (.lst acc) ∧ acc.length < sizeLine ∧ Nx (upd H4 D (.lst (acc ++ [y]))) else Nx H3) := by
  refine lc_pure (n := xs.length) (it := fun i => xs.getD i .non) (G := fun H => SqL K H a xs) (fun i => f (xs.getD i .non)) (walk_list.mono (fun _ h => h) fun i H x H' hi _ y => ⟨y.1, ?_⟩) (fun H s => Same.seq s ha) hD hn (fun i H N hi s k => ?_) fun H s e => hd H s (by rw [e, rng_get])
  · rw [List.getD_eq_getElem?_getD, y.2]
    rfl
  · refine hs _ H N ?_ s k
    rw [List.getD_eq_getElem?_getD, List.getElem?_eq_getElem hi]
    exact List.getElem_mem hi
/-- over a range with a step -/
theorem lc_pureC {lo c : Int} {n : Nat} (f : Nat → V) (hD : H1 D = none) (hn : n ≤ 100000)
    (hs : ∀ i H (N : V → Hp → Prop), i < n → Same H1 H → (∀ H4, Same H H4 → N (f i) H4) → g (.int (lo + (i : Nat) * c)) (wipe σ vs) H fun σ2 H2 => wipe σ2 vs = wipe σ vs ∧ te σ2 H2 N) (hd : ∀ H, Same H1 H → H D = some (.lst ((List.range n).map f)) → Qd H) :
    ∃ W : Nat → Nat → Hp → Prop, (∃ m, W 0 m (upd H1 D (.lst []))) ∧ ∀ i m H, W i m H →
      ((Itc lo c n).stop i H ∧ Qd H) ∨ ((Itc lo c n).go i H ∧ ∃ Nx : Hp → Prop, (∀ H', Nx H' → ∃ m', m' < m ∧ W (i + 1) m' H') ∧ ∀ x H', (Itc lo c n).yld i H x H' → g x (wipe σ vs) H' fun σ2 H2 => wipe σ2 vs = wipe σ vs ∧ tYes σ2 H2 fun b H3 =>
        if b = true then te σ2 H3 fun y H4 => ∃ acc, H4 D = some (.lst acc) ∧ acc.length < sizeLine ∧ Nx (upd H4 D (.lst (acc ++ [y]))) else Nx H3) :=
  lc_pure (it := fun i => .int (lo + (i : Nat) * c)) (G := fun _ => True) f walk_rangeC (fun _ _ => trivial) hD hn hs hd
end
/-- tuples that the heap tracks -/
theorem g_catT {K : PySem.W.Frag} {H : Hp} {Q : VK} {p u : Addr} {xs ys : List V} (h1 : H p = some (.tup xs)) (h2 : H u = some (.tup ys)) (hz : xs.length + ys.length ≤ sizeLine) (q : ∀ H1 r, Same H H1 → H1 r = some (.tup (xs ++ ys)) → Q (.ref r) H1) : rCatA K (.ref p) (.ref u) H Q := by
  refine ⟨p, u, xs, ys, rfl, rfl, SqT.of h1, SqT.of h2, hz, fun e => q H u (Same.refl H) ?_, fun _ e => q H p (Same.refl H) ?_, fun _ _ r hr => q _ r (same_new hr) upd_same⟩
  · rw [e, List.nil_append]
    exact h2
  · rw [e, List.append_nil]
    exact h1
theorem g_slT {K : PySem.W.Frag} {H : Hp} {Q : VK} {p : Addr} {xs : List V} {lo hi : Option Int} (h : H p = some (.tup xs)) (q : ∀ H1 r, Same H H1 → H1 r = some (.tup (cutV xs lo hi)) → Q (.ref r) H1) : rSlA K (.ref p) lo hi H Q := by
  refine ⟨p, xs, rfl, SqT.of h, fun w => q H p (Same.refl H) ?_, fun _ r hr => q _ r (same_new hr) upd_same⟩
  have e : cutV xs lo hi = xs := by
    unfold cutV
    rw [w.1, w.2, List.drop_zero, Nat.sub_zero, List.take_of_length_le (Nat.le_refl _)]
  rw [e]
  exact h
theorem cut_nat (xs : List V) (i j : Nat) : cutV xs (some (i : Int)) (some (j : Int)) = (xs.drop i).take (j - i) := by
  unfold cutV
  rw [HT.sIx_nat, HT.sIx_nat]
  by_cases hi : i ≤ xs.length
  · rw [Nat.min_eq_left hi]
    by_cases hj : j ≤ xs.length
    · rw [Nat.min_eq_left hj]
    · rw [Nat.min_eq_right (show xs.length ≤ j by omega)]
      rw [List.take_of_length_le (by rw [List.length_drop]; exact Nat.le_refl _), List.take_of_length_le (by rw [List.length_drop]; omega)]
  · rw [Nat.min_eq_right (show xs.length ≤ i by omega)]
    rw [List.drop_of_length_le (Nat.le_refl _), List.drop_of_length_le (show xs.length ≤ i by omega)]
    simp
theorem cut_to (xs : List V) (j : Nat) : cutV xs none (some (j : Int)) = xs.take j := by
  unfold cutV
  rw [HT.sIx_nat, HT.sIx_none, List.drop_zero, Nat.sub_zero]
  by_cases hj : j ≤ xs.length
  · rw [Nat.min_eq_left hj]
  · rw [Nat.min_eq_right (show xs.length ≤ j by omega), List.take_of_length_le (Nat.le_refl _), List.take_of_length_le (by omega)]
theorem cut_of (xs : List V) (i : Nat) : cutV xs (some (i : Int)) none = xs.drop i := by
  unfold cutV
  rw [HT.sIx_nat, HT.sIx_none]
  by_cases hi : i ≤ xs.length
  · rw [Nat.min_eq_left hi, List.take_of_length_le (by rw [List.length_drop]; exact Nat.le_refl _)]
  · rw [Nat.min_eq_right (show xs.length ≤ i by omega), List.drop_of_length_le (Nat.le_refl _), List.drop_of_length_le (show xs.length ≤ i by omega)]
    simp
end L2
namespace Cd
open PySem L2 Tx
/-- a text of these signs -/
def zs (l : List Nat) : Str := ⟨l.toArray⟩
theorem zs_list (l : List Nat) : (zs l).cps.toList = l := by simp [zs]
theorem zs_len (l : List Nat) : (zs l).length = l.length := by rw [len_list, zs_list]
theorem zs_ext {z : Str} {l : List Nat} (h : z.cps.toList = l) : z = zs l := by
  cases z
  rw [← h]
  simp [zs]
theorem zs_join (ls : List (List Nat)) : Txt.join ("" : Str) (ls.map zs) = zs ls.flatten := by
  refine zs_ext ?_
  rw [join_list, List.map_map]
  congr 1
  exact (List.map_congr_left (g := id) fun l _ => zs_list l).trans (List.map_id _)
theorem al_occ : ∀ d, d < 64 → Builtin.Str.occurrences AL ⟨#[al d]⟩ 0 AL.length 1 = [d] := by decide +kernel
theorem hd_occ : ∀ d, d < 16 → Builtin.Str.occurrences HD ⟨#[hexD d]⟩ 0 HD.length 1 = [d] := by decide +kernel
def pay (h : Bool) (os : List Nat) : List Nat := if h then payH os else payS os
def cname (h : Bool) : Str := if h then "h" else "s"
abbrev T0 (H : Hp) (p : Addr) (os : List Nat) : Prop := H p = some (.tup (os.map iv))
def Oct (os : List Nat) : Prop := ∀ o ∈ os, o < 256
/-! the promises -/
def spMark : Sp := fun vs H Q _ => ∃ c : Nat, vs = [iv c] ∧ 32 ≤ c ∧ c < 127 ∧ c ≠ 37 ∧ Q (.str ⟨#[c]⟩) H
def spIn (ns : List Str) : Sp := fun vs H Q _ => ∃ (z : Str), vs = [.str z] ∧ AnyO H (.str z) ∧ Q (.bl (decide (z ∈ ns))) H
def spHForm : Sp := fun vs H Q _ => ∃ o : Nat, vs = [iv o] ∧ o < 256 ∧ ∀ H1, Same H H1 → Q (.str (zs (hForm o))) H1
def spCheckO : Sp := fun vs H Q _ => ∃ p os, vs = [.ref p] ∧ T0 H p os ∧ Oct os ∧ ∀ H1, Same H H1 → Q .non H1
def spSForm : Sp := fun vs H Q _ => ∃ p os, vs = [.ref p] ∧ T0 H p os ∧ Oct os ∧ 1 ≤ os.length ∧ os.length ≤ 3 ∧ ∀ H1, Same H H1 → Q (.str (zs (sForm os))) H1
def spPay : Sp := fun vs H Q _ => ∃ h p os, vs = [.str (cname h), .ref p] ∧ T0 H p os ∧ Oct os ∧ os.length ≤ 3000 ∧ ∀ H1, Same H H1 → Q (.str (zs (pay h os))) H1
def spHOct : Sp := fun vs H Q _ => ∃ o : Nat, vs = [.str (zs (hForm o))] ∧ o < 256 ∧ Q (iv o) H
def spHOcts : Sp := fun vs H Q _ => ∃ os, vs = [.str (zs (payH os))] ∧ Oct os ∧ os.length ≤ 3000 ∧ ∀ H1 p, Same H H1 → H p = none → T0 H1 p os → Q (.ref p) H1
def spSRow : Sp := fun vs H Q _ => ∃ ds : List Nat, vs = [.str (zs (ds.map al))] ∧ ds.length ≤ 4 ∧ (∀ d ∈ ds, d < 64) ∧ ∀ p, H p = none → Q (.ref p) (upd H p (.tup ((row3 (digS ds)).map iv)))
def spSOcts : Sp := fun vs H Q _ => ∃ os, vs = [.str (zs (payS os))] ∧ Oct os ∧ os.length ≤ 3000 ∧ ∀ H1 p, Same H H1 → H p = none → T0 H1 p os → Q (.ref p) H1
def spOcts : Sp := fun vs H Q _ => ∃ h os, vs = [.str (cname h), .str (zs (pay h os))] ∧ Oct os ∧ os.length ≤ 3000 ∧ ∀ H1 p, Same H H1 → H p = none → T0 H1 p os → Q (.ref p) H1
def spCheckT (K : PySem.W.Frag) (C : Addr) : Sp := fun vs H Q _ => ∃ k a cs, vs = [.str (Kd.name k), .ref a] ∧ At K H C a cs ∧ (∀ c ∈ cs, inKd k c) ∧ ∀ H1, Same H H1 → Q .non H1
def spRow : Sp := fun vs H Q _ => ∃ k c, vs = [.str (Kd.name k), iv c] ∧ inKd k c ∧ ∀ H1 p, Same H H1 → H p = none → T0 H1 p (rowOf k c) → Q (.ref p) H1
def spFor (K : PySem.W.Frag) (C : Addr) : Sp := fun vs H Q _ => ∃ k a cs, vs = [.str (Kd.name k), .ref a] ∧ At K H C a cs ∧ (∀ c ∈ cs, inKd k c) ∧ cs.length ≤ 1000 ∧ ∀ H1 p, Same H H1 → H p = none → T0 H1 p (cs.map (rowOf k)).flatten → Q (.ref p) H1
def spWhole (K : PySem.W.Frag) : Sp := fun vs H Q _ => ∃ k p rs, vs = [.str (Kd.name k), .ref p] ∧ T0 H p rs ∧ rs ≠ [] ∧ Q (.bl (whole k rs)) H
def spRows : Sp := fun vs H Q _ => ∃ k p os, vs = [.str (Kd.name k), .ref p] ∧ T0 H p os ∧ Oct os ∧ os.length ≤ 5000 ∧ ∀ H1 q ps, Same H H1 → H q = none → H1 q = some (.lst (ps.map V.ref)) → Paired (fun r row => T0 H1 r row) ps (rowsOf k os) → Q (.ref q) H1
def oV : Option Nat → V | some c => iv c | none => .non
def spCode : Sp := fun vs H Q _ => ∃ k p rs, vs = [.str (Kd.name k), .ref p] ∧ T0 H p rs ∧ rs ≠ [] ∧ rs.length ≤ 3 ∧ Oct rs ∧ ∀ H1, Same H H1 → Q (oV (codeOf k rs)) H1
/-- what text_from gives: a pair of the text and whether all were codes -/
def spFrom (K : PySem.W.Frag) (C : Addr) : Sp := fun vs H Q _ => ∃ k p os, vs = [.str (Kd.name k), .ref p] ∧ T0 H p os ∧ Oct os ∧ os.length ≤ 5000 ∧ ∀ H1 q a, Same H H1 → H q = none → H1 q = some (.tup [.ref a, .bl ((rowsOf k os).all fun r => match codeOf k r with | some c => isC c | none => false)]) → At K H1 C a ((rowsOf k os).map fun r => known (codeOf k r)) → Q (.ref q) H1
end Cd
namespace Cd
open PySem L2 Tx
theorem inV_strs (z : Str) : ∀ ns : List Str, inV (.str z) (ns.map V.str) = decide (z ∈ ns)
  | [] => by simp [inV]
  | n :: ns => by
    have ih := inV_strs z ns
    unfold inV at ih ⊢
    rw [List.map_cons, List.any_cons, ih]
    show ((n == z) || decide (z ∈ ns)) = decide (z ∈ n :: ns)
    by_cases h : n = z
    · subst h
      simp
    · have h2 : ¬ z = n := fun e => h e.symm
      simp [h, h2]
theorem mark_ix {c : Nat} (h1 : 32 ≤ c) (h2 : c < 127) (h3 : c ≠ 37) : (c < 37 → atI Mk.MARKS.cps.toList ((c : Int) - 32) = some c) ∧ (¬ c < 37 → atI Mk.MARKS.cps.toList ((c : Int) - 33) = some c) := by
  have e := marks_at c h2 h1 h3
  constructor
  · intro h
    rw [if_pos h] at e
    have := atI_nat (j := c - 32) e
    rwa [show ((c - 32 : Nat) : Int) = (c : Int) - 32 by omega] at this
  · intro h
    rw [if_neg h] at e
    have := atI_nat (j := c - 33) e
    rwa [show ((c - 33 : Nat) : Int) = (c : Int) - 33 by omega] at this
theorem isPlain_iff {c : Nat} : Mk.isPlain (iv c) = true ↔ 32 ≤ c ∧ c ≤ 126 ∧ c ≠ 37 := by
  show ((decide ((32 : Int) ≤ c) && decide ((c : Int) ≤ 126)) && !decide (V.int (c : Int) = V.int 37)) = true ↔ _
  simp only [Bool.and_eq_true, decide_eq_true_eq, Bool.not_eq_true', decide_eq_false_iff_not, V.int.injEq]
  omega
end Cd
namespace Cd
open PySem L2 Tx
theorem of_iv {os : List Nat} {i : Nat} {x : V} (h : (os.map iv)[i]? = some x) : ∃ n ∈ os, x = iv n := by
  rw [List.getElem?_map] at h
  cases e : os[i]? with
  | none => rw [e] at h; cases h
  | some n => rw [e] at h; exact ⟨n, List.mem_of_getElem? e, (Option.some.inj h).symm⟩
end Cd
namespace Cd
open PySem L2 Tx
def alV : V → V
  | .int i => .str ⟨#[al i.toNat]⟩
  | v => v
theorem three {os : List Nat} (ho : Oct os) (h1 : 1 ≤ os.length) (h3 : os.length ≤ 3) : ∃ a b c : Nat, cutV (os.map iv ++ [.int 0, .int 0]) none (some 3) = [iv a, iv b, iv c] ∧ num3 os = a * 65536 + b * 256 + c ∧ a < 256 ∧ b < 256 ∧ c < 256 := by
  have ct := fun xs => cut_to xs 3
  match os, ho, h1, h3 with
  | [a], ho, _, _ => exact ⟨a, 0, 0, ct _, rfl, ho a (by simp), by decide, by decide⟩
  | [a, b], ho, _, _ => exact ⟨a, b, 0, ct _, rfl, ho a (by simp), ho b (by simp), by decide⟩
  | [a, b, c], ho, _, _ => exact ⟨a, b, c, ct _, rfl, ho a (by simp), ho b (by simp), ho c (by simp)⟩
theorem digs_iv (a b c : Nat) : [V.int (((a : Int) * 65536 + (b : Int) * 256 + (c : Int)) / 262144), .int (((a : Int) * 65536 + (b : Int) * 256 + (c : Int)) / 4096 % 64), .int (((a : Int) * 65536 + (b : Int) * 256 + (c : Int)) / 64 % 64), .int (((a : Int) * 65536 + (b : Int) * 256 + (c : Int)) % 64)] = (sDigits (a * 65536 + b * 256 + c)).map iv := by
  have h1 : ((a : Int) * 65536 + (b : Int) * 256 + (c : Int)) = ((a * 65536 + b * 256 + c : Nat) : Int) := by omega
  rw [h1]
  rfl
theorem take_iv (os : List Nat) (n : Nat) : (os.map iv).take n = (os.take n).map iv := (List.map_take).symm
theorem al_ix {d : Nat} (h : d < 64) : atI AL.cps.toList (d : Int) = some (al d) := atI_nat (al_sign d h).1
theorem map_alV (ds : List Nat) : (ds.map iv).map alV = (ds.map fun d => zs [al d]).map V.str := by
  rw [List.map_map, List.map_map]
  rfl
theorem flat_one (ds : List Nat) : (ds.map fun d => [al d]).flatten = ds.map al := by
  induction ds with
  | nil => rfl
  | cons d ds ih => rw [List.map_cons, List.flatten_cons, ih]; rfl
theorem sum_len1 (ls : List (List Nat)) {b : Nat} (h : ∀ l ∈ ls, l.length ≤ b) : ((ls.map zs).map (·.length)).sum ≤ ls.length * b := by
  rw [← List.length_map (f := zs)]
  refine sum_len fun y hy => ?_
  obtain ⟨l, hl, rfl⟩ := List.mem_map.mp hy
  rw [zs_len]
  exact h l hl
end Cd
namespace L2
open PySem
theorem g_itup {K : PySem.W.Frag} {σ : St} {H : Hp} {ta : TE} {R : It → Hp → Prop} (h : ta σ H fun x H1 => ∃ a, x = .ref a ∧ (∃ xs, SqT K H1 a xs) ∧ R (Itt K a) H1) : iTup K ta σ H R := h
end L2
namespace Cd
open PySem L2 Tx
theorem fits {x : Int} (h0 : 0 ≤ x) (h1 : x ≤ 1000000) : Builtin.Range.rangeFitsLong x = true := by
  unfold Builtin.Range.rangeFitsLong
  rw [decide_eq_true (show -(2 ^ 63) ≤ x by omega), decide_eq_true (show x < 2 ^ 63 by omega)]
  rfl
theorem rg3 {n : Nat} (h : n ≤ 100000) : RgC 0 (n : Int) 3 ((n + 2) / 3) := by
  have sz : Builtin.Range.rangeSize 0 (n : Int) 3 = (((n + 2) / 3 : Nat) : Int) := by
    unfold Builtin.Range.rangeSize
    rw [if_pos (by decide)]
    split <;> omega
  refine ⟨by decide, by decide, ?_, sz⟩
  unfold Builtin.Range.small
  rw [sz, if_pos (by decide), fits (by decide) (by decide), fits (by omega) (by omega), fits (by decide) (by decide), fits (by omega) (by omega), fits (by omega) (by omega)]
  exact Bool.or_true _
theorem rg4 {n : Nat} (h : n ≤ 100000) : RgC 0 (n : Int) 4 ((n + 3) / 4) := by
  have sz : Builtin.Range.rangeSize 0 (n : Int) 4 = (((n + 3) / 4 : Nat) : Int) := by
    unfold Builtin.Range.rangeSize
    rw [if_pos (by decide)]
    split <;> omega
  refine ⟨by decide, by decide, ?_, sz⟩
  unfold Builtin.Range.small
  rw [sz, if_pos (by decide), fits (by decide) (by decide), fits (by omega) (by omega), fits (by decide) (by decide), fits (by omega) (by omega), fits (by omega) (by omega)]
  exact Bool.or_true _
def hV : V → V
  | .int i => .str (zs (hForm i.toNat))
  | v => v
theorem map_hV (os : List Nat) : (os.map iv).map hV = ((os.map hForm).map zs).map V.str := by
  rw [List.map_map, List.map_map, List.map_map]
  rfl
theorem not_in {x : Str} {c : Nat} {l : List Nat} (h : c ∉ x.cps.toList) : (!(Builtin.Str.occurrences x (zs (c :: l)) 0 x.length 1).isEmpty) = false := by
  cases e : (!(Builtin.Str.occurrences x (zs (c :: l)) 0 x.length 1).isEmpty) with
  | false => rfl
  | true =>
    obtain ⟨i, h1, h2⟩ := (StrLaws.found_iff x (zs (c :: l))).mp e
    rw [StrLaws.subAt_eq, beq_iff_eq, zs_list, zs_len] at h2
    have m : c ∈ (x.cps.toList.drop i).take (c :: l).length := by rw [h2]; exact List.mem_cons_self ..
    exact absurd (List.mem_of_mem_drop (List.mem_of_mem_take m)) h
theorem hd_in {d : Nat} (h : d < 16) : hexD d ∈ HD.cps.toList := List.mem_of_getElem? (hd_sign d h).1
theorem hex_val {o : Nat} : ((o / 16 : Nat) : Int) * 16 + ((o % 16 : Nat) : Int) = (o : Int) := by omega
/-- the forms lie side by side -/
theorem payH_drop (os : List Nat) (i : Nat) : (payH os).drop (payH (os.take i)).length = payH (os.drop i) := by
  have e : payH os = payH (os.take i) ++ payH (os.drop i) := by rw [← payH_app, List.take_append_drop]
  rw [e, List.drop_left]
theorem payH_cons {o : Nat} {os : List Nat} : payH (o :: os) = hForm o ++ payH os := rfl
theorem payH_take {os : List Nat} {i o : Nat} (h : os[i]? = some o) : payH (os.take (i + 1)) = payH (os.take i) ++ hForm o := by
  rw [List.take_add_one, h, payH_app]
  show _ = _
  congr 1
  exact List.append_nil _
end Cd
namespace L2
open PySem
theorem sl_tupKK {X : Cx} {K : PySem.W.Frag} (h : X.K = K) : SlR X (rSlA K) := h ▸ sl_tupA
end L2
namespace Cd
open PySem L2 Tx
theorem cutS_nat (l : List Nat) (i j : Nat) : cutS (zs l) (some (i : Int)) (some (j : Int)) = zs ((l.drop i).take (j - i)) := by
  unfold cutS
  rw [zs_list, zs_len, HT.sIx_nat, HT.sIx_nat]
  show zs _ = zs _
  congr 1
  by_cases hi : i ≤ l.length
  · rw [Nat.min_eq_left hi]
    by_cases hj : j ≤ l.length
    · rw [Nat.min_eq_left hj]
    · rw [Nat.min_eq_right (show l.length ≤ j by omega)]
      rw [List.take_of_length_le (by rw [List.length_drop]; exact Nat.le_refl _), List.take_of_length_le (by rw [List.length_drop]; omega)]
  · rw [Nat.min_eq_right (show l.length ≤ i by omega)]
    rw [List.drop_of_length_le (Nat.le_refl _), List.drop_of_length_le (show l.length ≤ i by omega)]
    simp
theorem form_facts {o : Nat} (ho : o < 256) : ∃ x xs, hForm o = x :: xs ∧ ((x = 61 ∧ xs.length = 2) ∨ (x ≠ 61 ∧ xs = [])) := by
  unfold hForm
  by_cases h1 : o = 32
  · rw [if_pos h1]
    exact ⟨95, [], rfl, .inr ⟨by decide, rfl⟩⟩
  · rw [if_neg h1]
    by_cases h2 : isLD o = true
    · rw [if_pos h2]
      exact ⟨o, [], rfl, .inr ⟨(ld_facts o ho h2).2.2.2.1, rfl⟩⟩
    · rw [if_neg h2]
      exact ⟨61, _, rfl, .inl ⟨rfl, rfl⟩⟩
theorem al_mem : ∀ d, d < 64 → al d ∈ AL.cps.toList := fun d h => List.mem_of_getElem? (al_sign d h).1
theorem sform_mem {os : List Nat} (h : Oct os) : ∀ c ∈ sForm os, c ∈ AL.cps.toList := by
  intro c hc
  obtain ⟨d, hd, rfl⟩ := List.mem_map.mp hc
  exact al_mem d (sdig_lt (num3_lt h) d (List.mem_of_mem_take hd))
theorem payS_mem : ∀ os : List Nat, Oct os → ∀ c ∈ payS os, c ∈ AL.cps.toList
  | [], _, c, hc => by cases hc
  | [a], h, c, hc => sform_mem h c hc
  | [a, b], h, c, hc => sform_mem h c hc
  | x :: y :: z :: r, h, c, hc => by
    rcases List.mem_append.mp (show c ∈ sForm [x, y, z] ++ payS r from hc) with m | m
    · exact sform_mem (fun o ho => h o (by simp at ho ⊢; rcases ho with e | e | e <;> simp [e])) c m
    · exact payS_mem r (fun o ho => h o (by simp [ho])) c m
theorem payS_drop : ∀ (i : Nat) (os : List Nat), 3 * i ≤ os.length → (payS os).drop (4 * i) = payS (os.drop (3 * i))
  | 0, os, _ => rfl
  | i + 1, os, h => by
    have h3 : 3 ≤ os.length := by omega
    have e : (sForm (os.take 3)).length = 4 := by rw [sform_len (by rw [List.length_take]; omega), List.length_take]; omega
    rw [payS3 h3, show 4 * (i + 1) = (sForm (os.take 3)).length + 4 * i by omega, ← List.drop_drop, List.drop_left, payS_drop i (os.drop 3) (by rw [List.length_drop]; omega), List.drop_drop]
    congr 2
    omega
theorem payS_take4 {os : List Nat} (h : os ≠ []) : (payS os).take 4 = sForm (os.take 3) := by
  by_cases h3 : 3 ≤ os.length
  · have e : (sForm (os.take 3)).length = 4 := by rw [sform_len (by rw [List.length_take]; omega), List.length_take]; omega
    rw [payS3 h3, List.take_append_of_le_length (by omega), List.take_of_length_le (by omega)]
  · rw [payS_few h (by omega), List.take_of_length_le (show os.length ≤ 3 by omega), List.take_of_length_le (by rw [sform_len (by omega)]; omega)]
/-- digits, filled up -/
def fill (ds : List Nat) : List Nat := ds ++ List.replicate (4 - ds.length) 0
theorem ljust_al {ds : List Nat} : Txt.ljustF (zs (ds.map al)) 4 65 = zs ((fill ds).map al) := by
  refine zs_ext ?_
  rw [PyProof.Rows.ljustF_list, zs_list, zs_len]
  unfold fill
  rw [List.map_append, List.map_replicate, List.length_map]
  rfl
def fS (n d : Nat) : Nat := n * 64 + d
theorem digS_fill (ds : List Nat) : digS ds = (fill ds).foldl fS 0 := rfl
theorem fold_lt : ∀ (l : List Nat) (a : Nat), (∀ d ∈ l, d < 64) → l.foldl fS a < (a + 1) * 64 ^ l.length
  | [], a, _ => by simp
  | d :: l, a, h => by
    have ih := fold_lt l (fS a d) fun x hx => h x (List.mem_cons_of_mem _ hx)
    have hd := h d (List.mem_cons_self ..)
    rw [List.foldl_cons, List.length_cons, Nat.pow_succ]
    refine Nat.lt_of_lt_of_le ih ?_
    rw [Nat.mul_comm (64 ^ l.length) 64, ← Nat.mul_assoc]
    refine Nat.mul_le_mul_right _ ?_
    unfold fS
    omega
theorem row_iv (n : Nat) : [V.int ((n : Int) / 65536), .int ((n : Int) / 256 % 256), .int ((n : Int) % 256)] = (row3 n).map iv := rfl
def nzV : V → V
  | .int i => .bl (!decide (V.int i = V.int 0))
  | v => v
theorem zeros_none (n : Nat) : ((List.replicate n (iv 0)).map nzV) = (List.replicate n false).map V.bl := by
  rw [List.map_replicate, List.map_replicate]
  rfl
end Cd
namespace Cd
open PySem L2 Tx
theorem steps_big {d : Nat} (h1 : 127 < d) (h2 : d ≤ 65535) : stepsRow d = (d % 128 + 128) :: stepsRow (d / 128) := by
  unfold stepsRow
  rw [if_neg (by omega)]
  by_cases h : d < 16384
  · rw [if_pos h, if_pos (by omega)]
  · rw [if_neg h, if_neg (by omega), if_pos (by omega)]
    rw [Nat.div_div_eq_div_mul]
theorem steps_small {d : Nat} (h : d ≤ 127) : stepsRow d = [d] := by
  unfold stepsRow
  rw [if_pos (by omega)]
theorem steps_len (d : Nat) : (stepsRow d).length ≤ 3 := (row_len (k := .steps) (c := d)).2
theorem latin_ok {k : Kd} : V.str k.name = V.str "latin" ↔ k = .latin := by
  cases k with
  | latin => exact ⟨fun _ => rfl, fun _ => rfl⟩
  | wide => exact ⟨fun h => absurd (V.str.inj h) (by decide +kernel), fun h => by cases h⟩
  | steps => exact ⟨fun h => absurd (V.str.inj h) (by decide +kernel), fun h => by cases h⟩
theorem wide_ok {k : Kd} : V.str k.name = V.str "wide" ↔ k = .wide := by
  cases k with
  | latin => exact ⟨fun h => absurd (V.str.inj h) (by decide +kernel), fun h => by cases h⟩
  | wide => exact ⟨fun _ => rfl, fun _ => rfl⟩
  | steps => exact ⟨fun h => absurd (V.str.inj h) (by decide +kernel), fun h => by cases h⟩
theorem name_in (k : Kd) : decide (k.name ∈ ([("latin" : Str), "wide", "steps"] : List Str)) = true := by cases k <;> decide +kernel
theorem name_any (k : Kd) (H : Hp) : AnyO H (.str k.name) := .str _ (by cases k <;> decide +kernel) (by cases k <;> decide +kernel)
theorem snoc_of {rs : List Nat} (h : rs ≠ []) : ∃ ys, rs = ys ++ [rs.getD (rs.length - 1) 0] := by
  refine ⟨rs.dropLast, ?_⟩
  have e := List.dropLast_concat_getLast h
  rw [List.getLast_eq_getElem h] at e
  have hp : 0 < rs.length := List.length_pos_iff.mpr h
  rw [List.getD_eq_getElem?_getD, List.getElem?_eq_getElem (show rs.length - 1 < rs.length by omega)]
  exact e.symm
theorem last_iv {rs : List Nat} (h : rs ≠ []) : atI (rs.map iv) (-1) = some (iv (rs.getD (rs.length - 1) 0)) := by
  obtain ⟨ys, e⟩ := snoc_of h
  generalize rs.getD (rs.length - 1) 0 = y at e ⊢
  subst e
  rw [List.map_append]
  exact atI_last _ _
theorem first_iv {rs : List Nat} (h : rs ≠ []) : atI (rs.map iv) 0 = some (iv (rs.getD 0 0)) := by
  match rs, h with
  | r :: rs, _ => exact atI_nat (j := 0) rfl
theorem whole_steps {rs : List Nat} (h : rs ≠ []) : whole .steps rs = (decide (rs.getD (rs.length - 1) 0 < 128) || decide (rs.length = 3)) := by
  have hp : 0 < rs.length := List.length_pos_iff.mpr h
  have e : rs.getLast? = some (rs.getD (rs.length - 1) 0) := by
    rw [List.getLast?_eq_getElem?, List.getD_eq_getElem?_getD, List.getElem?_eq_getElem (show rs.length - 1 < rs.length by omega)]
    rfl
  show (decide (_ ∧ _) || _) = _
  rw [e]
  simp
def mx : Kd → Nat | .latin => 0 | .wide => 1 | .steps => 2
theorem not_whole {k : Kd} {r : List Nat} {o : Nat} (h : r.length ≤ mx k) (w : ¬ whole k (r ++ [o]) = true) : (r ++ [o]).length ≤ mx k := by
  refine Nat.le_of_not_lt fun z => w ?_
  rw [List.length_append] at z
  cases k with
  | latin => rfl
  | wide =>
    have e : (r ++ [o]).length = 2 := by
      rw [List.length_append]
      have : mx .wide = 1 := rfl
      simp at z
      simp
      omega
    exact decide_eq_true e
  | steps =>
    have e : (r ++ [o]).length = 3 := by
      rw [List.length_append]
      have : mx .steps = 2 := rfl
      simp at z
      simp
      omega
    rw [whole_steps (by simp), decide_eq_true e, Bool.or_true]
structure Kept (k : Kd) (os : List Nat) (n : Nat) (p : List (List Nat) × List Nat) : Prop where
  rows : ∀ r ∈ p.1, r ≠ [] ∧ r.length ≤ 3 ∧ ∀ o ∈ r, o ∈ os
  few : p.2.length ≤ mx k
  open_ : ∀ o ∈ p.2, o ∈ os
  many : p.1.length ≤ n
theorem mx_le (k : Kd) : mx k ≤ 2 := by cases k <;> decide
theorem Kept.step {k : Kd} {os : List Nat} {n : Nat} {p : List (List Nat) × List Nat} (h : Kept k os n p) {o : Nat} (ho : o ∈ os) : Kept k os (n + 1) (rstep k p o) := by
  have ml := mx_le k
  have hw : ∀ x ∈ p.2 ++ [o], x ∈ os := fun x hx => by
    rcases List.mem_append.mp hx with y | y
    · exact h.open_ x y
    · rw [List.mem_singleton.mp y]
      exact ho
  unfold rstep
  by_cases w : whole k (p.2 ++ [o]) = true
  · rw [if_pos w]
    refine ⟨fun r hr => ?_, Nat.zero_le _, fun x hx => (nomatch hx), ?_⟩
    · rcases List.mem_append.mp hr with m | m
      · exact h.rows r m
      · rw [List.mem_singleton.mp m]
        refine ⟨by simp, ?_, hw⟩
        have := h.few
        rw [List.length_append]
        simp
        omega
    · show (p.1 ++ [p.2 ++ [o]]).length ≤ n + 1
      rw [List.length_append]
      exact Nat.add_le_add_right h.many 1
  · rw [if_neg w]
    exact ⟨h.rows, not_whole h.few w, hw, Nat.le_succ_of_le h.many⟩
theorem Kept.at {k : Kd} (os : List Nat) : ∀ i, Kept k os i ((os.take i).foldl (rstep k) ([], []))
  | 0 => ⟨fun r hr => (nomatch hr), Nat.zero_le _, fun x hx => (nomatch hx), Nat.le_refl _⟩
  | i + 1 => by
    cases e : os[i]? with
    | none =>
      rw [List.take_add_one, e]
      have ih := Kept.at (k := k) os i
      simp only [Option.toList, List.append_nil]
      exact ⟨ih.rows, ih.few, ih.open_, Nat.le_succ_of_le ih.many⟩
    | some o =>
      rw [List.take_add_one, e, List.foldl_append]
      exact (Kept.at (k := k) os i).step (List.mem_of_getElem? e)
theorem rows_kept {k : Kd} (os : List Nat) : ∀ r ∈ rowsOf k os, r ≠ [] ∧ r.length ≤ 3 ∧ ∀ o ∈ r, o ∈ os := by
  have h := Kept.at (k := k) os os.length
  rw [List.take_of_length_le (Nat.le_refl _)] at h
  unfold rowsOf
  intro r hr
  by_cases e : (os.foldl (rstep k) ([], [])).2 = []
  · simp only [e, if_true] at hr
    exact h.rows r hr
  · simp only [e, if_false] at hr
    rcases List.mem_append.mp hr with m | m
    · exact h.rows r m
    · rw [List.mem_singleton.mp m]
      exact ⟨e, Nat.le_trans h.few (Nat.le_trans (mx_le k) (by decide)), h.open_⟩
theorem rows_len {k : Kd} (os : List Nat) : (rowsOf k os).length ≤ os.length + 1 := by
  have h := Kept.at (k := k) os os.length
  rw [List.take_of_length_le (Nat.le_refl _)] at h
  unfold rowsOf
  by_cases e : (os.foldl (rstep k) ([], [])).2 = []
  · simp only [e, if_true]
    exact Nat.le_succ_of_le h.many
  · simp only [e, if_false]
    rw [List.length_append]
    exact Nat.add_le_add_right h.many 1
def num (r : List Nat) (a : Nat) : Nat := r.foldl (fun n o => n * 128 + o % 128) a
theorem num_back (r : List Nat) : num r.reverse 0 = r.foldr (fun o n => n * 128 + o % 128) 0 := by
  unfold num
  rw [List.foldl_reverse]
end Cd
namespace Cd
open PySem L2 Tx
theorem flat_len {k : Kd} (cs : List Nat) (i : Nat) : (((cs.take i).map (rowOf k)).flatten).length ≤ 3 * cs.length := by
  have h : ∀ l : List Nat, ((l.map (rowOf k)).flatten).length ≤ 3 * l.length := fun l => by
    induction l with
    | nil => exact Nat.le_refl _
    | cons c l ih =>
      rw [List.map_cons, List.flatten_cons, List.length_append, List.length_cons]
      have := (row_len (k := k) (c := c)).2
      omega
  have := h (cs.take i)
  rw [List.length_take] at this
  omega
/-- a tuple is left by a change of a list -/
theorem sqt_upd {K : PySem.W.Frag} {H : Hp} {t l : Addr} {xs ys : List V} {o : HO} (h : SqT K H t xs) (e : H l = some (.lst ys)) : SqT K (upd H l o) t xs := by
  rcases h with (h | ⟨u, h⟩) | h
  · exact .inl (.inl (by rw [upd_ne (ne_of h e (by intro z; cases z))]; exact h))
  · exact .inl (.inr ⟨u, by rw [upd_ne (ne_of h e (by intro z; cases z))]; exact h⟩)
  · exact .inr h
end Cd
namespace L2
open PySem
theorem paired_at {α β : Type} {F : α → β → Prop} {l1 : List α} {l2 : List β} (p : Paired F l1 l2) : ∀ {i : Nat} {a : α}, l1[i]? = some a → ∃ b, l2[i]? = some b ∧ F a b := by
  induction p with
  | nil => intro i a h; simp at h
  | cons hd tl ih =>
    intro i a h
    cases i with
    | zero =>
      simp only [List.getElem?_cons_zero, Option.some.injEq] at h ⊢
      subst h
      exact ⟨_, rfl, hd⟩
    | succ i =>
      simp only [List.getElem?_cons_succ] at h ⊢
      exact ih h
section
variable {K : PySem.W.Frag} {g : TG} {te : TE} {vs : List Nat} {σ : St} {H1 : Hp} {D : Addr} {Qd : Hp → Prop} {a : Addr} {xs : List V}
/-- over a list, with the place -/
theorem lc_pureLi (f : Nat → V) (ha : SqL K H1 a xs) (hD : H1 D = none) (hn : xs.length ≤ 100000)
    (hs : ∀ i x H (N : V → Hp → Prop), xs[i]? = some x → Same H1 H → (∀ H4, Same H H4 → N (f i) H4) → g x (wipe σ vs) H fun σ2 H2 => wipe σ2 vs = wipe σ vs ∧ te σ2 H2 N) (hd : ∀ H, Same H1 H → H D = some (.lst ((List.range xs.length).map f)) → Qd H) :
    ∃ W : Nat → Nat → Hp → Prop, (∃ m, W 0 m (upd H1 D (.lst []))) ∧ ∀ i m H, W i m H →
      ((Itl K a).stop i H ∧ Qd H) ∨ ((Itl K a).go i H ∧ ∃ Nx : Hp → Prop, (∀ H', Nx H' → ∃ m', m' < m ∧ W (i + 1) m' H') ∧ ∀ x H', (Itl K a).yld i H x H' → g x (wipe σ vs) H' fun σ2 H2 => wipe σ2 vs = wipe σ vs ∧ tYes σ2 H2 fun b H3 =>
        if b = true then te σ2 H3 fun y H4 => ∃ acc, H4 D = some (.lst acc) ∧ acc.length < sizeLine ∧ Nx (upd H4 D (.lst (acc ++ [y]))) else Nx H3) := by
  refine lc_pure (n := xs.length) (it := fun i => xs.getD i .non) (G := fun H => SqL K H a xs) f (walk_list.mono (fun _ h => h) fun i H x H' hi _ y => ⟨y.1, ?_⟩) (fun H s => Same.seq s ha) hD hn (fun i H N hi s k => ?_) fun H s e => hd H s e
  · rw [List.getD_eq_getElem?_getD, y.2]
    rfl
  · refine hs i _ H N ?_ s k
    rw [List.getD_eq_getElem?_getD, List.getElem?_eq_getElem hi]
    rfl
end
end L2
namespace Cd
open PySem L2 Tx
def oD : Option Nat → PyData | some c => .int (c : Int) | none => .none
def okO (o : Option Nat) : Bool := match o with | some c => isC c | none => false
theorem isC63 : isC 63 = true := by decide +kernel
theorem known_eqv (o : Option Nat) : PyData.eqv (.int (known o : Int)) (oD o) = okO o := by
  cases o with
  | none => simp [known, oD, okO, PyData.eqv]
  | some c =>
    show PyData.eqv (.int ((if isC c = true then c else 63 : Nat) : Int)) (.int (c : Int)) = isC c
    rw [PyData.eqv]
    by_cases h : isC c = true
    · rw [if_pos h, h]
      simp
    · rw [if_neg h]
      have h2 : c ≠ 63 := fun e => h (e ▸ isC63)
      have h3 : ¬ ((63 : Nat) : Int) = (c : Int) := by omega
      cases e : isC c with
      | true => exact absurd e h
      | false => simpa using h3
theorem dpO {K : PySem.W.Frag} {H : Hp} : ∀ os : List (Option Nat), DpAll K H (os.map oV) (os.map oD)
  | [] => .nil
  | none :: os => .cons .non (dpO os)
  | some c :: os => .cons (.int _) (dpO os)
theorem knowns_eqv : ∀ os : List (Option Nat), PyData.eqvAll (os.map fun o => PyData.int (known o : Int)) (os.map oD) = os.all okO
  | [] => by simp [PyData.eqvAll]
  | o :: os => by
    rw [List.map_cons, List.map_cons, PyData.eqvAll, knowns_eqv os, known_eqv, List.all_cons]
theorem cla_O : ∀ os : List (Option Nat), PyData.canLayAll0 (os.map oD) = true
  | [] => by simp [PyData.canLayAll0]
  | none :: os => by
    have := cla_O os
    simp [PyData.canLayAll0, PyData.canLay0, oD, this]
  | some c :: os => by
    have := cla_O os
    simp [PyData.canLayAll0, PyData.canLay0, oD, this]
theorem dep_O : ∀ os : List (Option Nat), PyData.depthAll (os.map oD) ≤ 1
  | [] => by simp [PyData.depthAll]
  | none :: os => by
    have := dep_O os
    simp only [List.map_cons, PyData.depthAll, PyData.depth, oD]
    omega
  | some c :: os => by
    have := dep_O os
    simp only [List.map_cons, PyData.depthAll, PyData.depth, oD]
    omega
theorem shaped_O (os : List (Option Nat)) : SeqAt.shaped (.list (os.map oD)) = true := by
  have h1 := dep_O os
  show (PyData.canLay0 _ && decide (PyData.depth _ ≤ 64)) = true
  rw [Bool.and_eq_true]
  refine ⟨?_, decide_eq_true ?_⟩
  · simp only [PyData.canLay0]
    exact cla_O os
  · simp only [PyData.depth]
    omega
theorem shaped_L (cs : List Nat) : SeqAt.shaped (.list (cs.map fun (c : Nat) => PyData.int (c : Int))) = true := by
  have h1 := dep_ints cs
  show (PyData.canLay0 _ && decide (PyData.depth _ ≤ 64)) = true
  rw [Bool.and_eq_true]
  refine ⟨?_, decide_eq_true ?_⟩
  · simp only [PyData.canLay0]
    exact cla_ints cs
  · simp only [PyData.depth]
    omega
theorem eqv_lst (os : List (Option Nat)) : PyData.eqv (.list ((os.map known).map fun (c : Nat) => PyData.int (c : Int))) (.list (os.map oD)) = os.all okO := by
  rw [PyData.eqv, List.map_map]
  exact knowns_eqv os
theorem knV (o : Option Nat) : (if Mk.isCode (oV o) = true then oV o else V.int 63) = iv (known o) := by
  cases o with
  | none => rfl
  | some c =>
    show (if isC c = true then iv c else V.int 63) = iv (if isC c = true then c else 63)
    by_cases h : isC c = true
    · rw [if_pos h, if_pos h]
    · rw [if_neg h, if_neg h]
      rfl
theorem eqv_nil (rs : List Nat) : PyData.eqv (.tuple (rs.map fun (c : Nat) => PyData.int (c : Int))) (.tuple []) = decide (rs = []) := eqv_tup rs []
end Cd
namespace Cd
open PySem L2 Tx
theorem steps_of {k : Kd} (h1 : ¬ V.str k.name = V.str "latin") (h2 : ¬ V.str k.name = V.str "wide") : k = .steps := by
  cases k with
  | latin => exact absurd (latin_ok.mpr rfl) h1
  | wide => exact absurd (wide_ok.mpr rfl) h2
  | steps => rfl
theorem two {rs : List Nat} (h : rs.length = 2) : ∃ a b, rs = [a, b] := by
  match rs, h with
  | [a, b], _ => exact ⟨a, b, rfl⟩
end Cd
namespace Cd
open PySem L2 Tx
theorem wide_len (rs : List Nat) : decide (V.int ((rs.map iv).length : Int) = V.int 2) = whole .wide rs := by
  refine decide_eq_decide.mpr ?_
  rw [List.length_map]
  exact ⟨fun h => by have := V.int.inj h; omega, fun h => by rw [h]; rfl⟩
theorem len3 (rs : List Nat) : decide (V.int ((rs.map iv).length : Int) = V.int 3) = decide (rs.length = 3) := by
  refine decide_eq_decide.mpr ?_
  rw [List.length_map]
  exact ⟨fun h => by have := V.int.inj h; omega, fun h => by rw [h]; rfl⟩
theorem t0_upd {H : Hp} {a l : Addr} {row : List Nat} {xs : List V} {o : HO} (h : T0 H a row) (e : H l = some (.lst xs)) : T0 (upd H l o) a row := by
  show upd _ _ _ _ = _
  rw [upd_ne (ne_of h e (by intro z; cases z))]
  exact h
theorem t0_new {H : Hp} {a r : Addr} {row : List Nat} {o : HO} (h : T0 H a row) (e : H r = none) : T0 (upd H r o) a row := same_new e _ _ h
end Cd
namespace Cd
open PySem L2 Tx
theorem rows_nil {k : Kd} {os : List Nat} (h : (os.foldl (rstep k) ([], [])).2 = []) : rowsOf k os = (os.foldl (rstep k) ([], [])).1 := if_pos h
theorem rows_more {k : Kd} {os : List Nat} (h : ¬ (os.foldl (rstep k) ([], [])).2 = []) : rowsOf k os = (os.foldl (rstep k) ([], [])).1 ++ [(os.foldl (rstep k) ([], [])).2] := if_neg h
end Cd
namespace Cd
open PySem L2 Tx
theorem codes_list {k : Kd} (rs : List (List Nat)) : (List.range rs.length).map (fun i => oV (codeOf k (rs.getD i []))) = (rs.map (codeOf k)).map oV := by
  apply List.ext_getElem
  · simp
  · intro i h1 h2
    simp at h1
    simp [List.getD_eq_getElem?_getD, List.getElem?_eq_getElem h1]
end Cd
namespace Cd
open PySem L2 Tx
theorem any_oV (o : Option Nat) (H : Hp) : AnyO H (oV o) := by
  cases o with
  | none => exact .non
  | some c => exact .int _
theorem kn_list (cs : List (Option Nat)) : (cs.map oV).map (fun v => if Mk.isCode v = true then v else V.int 63) = (cs.map known).map iv := by
  rw [List.map_map, List.map_map]
  exact List.map_congr_left fun o _ => knV o
theorem known_ok (cs : List (Option Nat)) : ∀ c ∈ cs.map known, Mk.isCode (iv c) = true := by
  intro c hc
  obtain ⟨o, _, rfl⟩ := List.mem_map.mp hc
  cases o with
  | none => exact isC63
  | some d =>
    show isC (if isC d = true then d else 63) = true
    by_cases h : isC d = true
    · rw [if_pos h]
      exact h
    · rw [if_neg h]
      exact isC63
end Cd
namespace Cd
open PySem L2 Tx
theorem al_inj {d e : Nat} (hd : d < 64) (he : e < 64) (h : al d = al e) : d = e := by
  have a := al_occ d hd
  rw [h, al_occ e he] at a
  exact (List.cons.inj a).1.symm
theorem map_al_inj : ∀ {l m : List Nat}, (∀ d ∈ l, d < 64) → (∀ d ∈ m, d < 64) → l.map al = m.map al → l = m
  | [], [], _, _, _ => rfl
  | [], e :: m, _, _, h => by cases h
  | d :: l, [], _, _, h => by cases h
  | d :: l, e :: m, hl, hm, h => by
    rw [List.map_cons, List.map_cons] at h
    injection h with h1 h2
    rw [al_inj (hl d (by simp)) (hm e (by simp)) h1, map_al_inj (fun x hx => hl x (by simp [hx])) (fun x hx => hm x (by simp [hx])) h2]
theorem sForm_inj {a b : List Nat} (ha : Oct a) (hb : Oct b) (a0 : a ≠ []) (b0 : b ≠ []) (a3 : a.length ≤ 3) (hl : a.length = b.length) (h : sForm a = sForm b) : a = b := by
  have la : ∀ d ∈ (sDigits (num3 a)).take (a.length + 1), d < 64 := fun d hd => sdig_lt (num3_lt ha) d (List.mem_of_mem_take hd)
  have lb : ∀ d ∈ (sDigits (num3 b)).take (b.length + 1), d < 64 := fun d hd => sdig_lt (num3_lt hb) d (List.mem_of_mem_take hd)
  have e := map_al_inj la lb h
  have p := sback ha a0 a3
  rw [e, sback hb b0 (hl ▸ a3), hl] at p
  exact (List.append_cancel_right p).symm
theorem payS_inj0 : ∀ (n : Nat) (a b : List Nat), a.length ≤ n → Oct a → Oct b → a.length = b.length → payS a = payS b → a = b
  | 0, a, b, hn, _, _, hl, _ => by
    have e1 := List.length_eq_zero_iff.mp (Nat.le_zero.mp hn)
    subst e1
    exact (List.length_eq_zero_iff.mp hl.symm).symm
  | n + 1, a, b, hn, ha, hb, hl, h => by
    by_cases a0 : a = []
    · subst a0
      exact (List.length_eq_zero_iff.mp hl.symm).symm
    have b0 : b ≠ [] := fun e => by
      rw [e] at hl
      exact a0 (List.length_eq_zero_iff.mp hl)
    have pa : 0 < a.length := List.length_pos_iff.mpr a0
    have e1 : sForm (a.take 3) = sForm (b.take 3) := by rw [← payS_take4 a0, ← payS_take4 b0, h]
    have l3 : (a.take 3).length = (b.take 3).length := by rw [List.length_take, List.length_take, hl]
    have e2 : a.take 3 = b.take 3 := sForm_inj (fun o ho => ha o (List.mem_of_mem_take ho)) (fun o ho => hb o (List.mem_of_mem_take ho)) (fun e => (List.take_eq_nil_iff.mp e).elim (fun z => absurd z (by decide)) a0) (fun e => (List.take_eq_nil_iff.mp e).elim (fun z => absurd z (by decide)) b0) (by rw [List.length_take]; exact Nat.min_le_left _ _) l3 e1
    by_cases h3 : 3 ≤ a.length
    · have d1 := payS_drop 1 a (by omega)
      have d2 := payS_drop 1 b (by omega)
      rw [h] at d1
      have e3 : a.drop 3 = b.drop 3 := payS_inj0 n _ _ (by rw [List.length_drop]; omega) (fun o ho => ha o (List.mem_of_mem_drop ho)) (fun o ho => hb o (List.mem_of_mem_drop ho)) (by rw [List.length_drop, List.length_drop, hl]) (d1.symm.trans d2)
      rw [← List.take_append_drop 3 a, ← List.take_append_drop 3 b, e2, e3]
    · rw [List.take_of_length_le (by omega), List.take_of_length_le (by omega)] at e2
      exact e2
theorem payS_inj {a b : List Nat} (ha : Oct a) (hb : Oct b) (h : payS a = payS b) : a = b := by
  refine payS_inj0 a.length a b (Nat.le_refl _) ha hb ?_ h
  have := congrArg List.length h
  rw [payS_len, payS_len] at this
  omega
theorem flat_inj {k : Kd} {cs ds : List Nat} (hc : ∀ c ∈ cs, inKd k c) (hd : ∀ c ∈ ds, inKd k c) (h : (cs.map (rowOf k)).flatten = (ds.map (rowOf k)).flatten) : cs = ds := by
  have e := rows_back hc
  rw [h, rows_back hd] at e
  have f := congrArg (List.map (codeOf k)) e
  rw [List.map_map, List.map_map] at f
  have g : ∀ l : List Nat, (∀ c ∈ l, inKd k c) → l.map (codeOf k ∘ rowOf k) = l.map some := fun l hl => List.map_congr_left fun c hm => code_back (hl c hm)
  rw [g _ hc, g _ hd] at f
  exact ((List.map_inj_right (fun _ _ h => Option.some.inj h)).mp f).symm
theorem flat_oct {k : Kd} {cs : List Nat} (hc : ∀ c ∈ cs, inKd k c) : Oct (cs.map (rowOf k)).flatten := by
  intro o ho
  obtain ⟨r, hr, hm⟩ := List.mem_flatten.mp ho
  obtain ⟨c, hcm, rfl⟩ := List.mem_map.mp hr
  exact row_lt (hc c hcm) o hm
theorem flat_le {k : Kd} (cs : List Nat) : ((cs.map (rowOf k)).flatten).length ≤ 3 * cs.length := by
  have := flat_len (k := k) cs cs.length
  rwa [List.take_of_length_le (Nat.le_refl _)] at this
theorem flat_app {k : Kd} (cs ds : List Nat) : ((cs ++ ds).map (rowOf k)).flatten = (cs.map (rowOf k)).flatten ++ (ds.map (rowOf k)).flatten := by rw [List.map_append, List.flatten_append]
/-- what is read again -/
theorem read_known {k : Kd} {cs : List Nat} (hc : ∀ c ∈ cs, inKd k c) (hk : ∀ c ∈ cs, isC c = true) : ((rowsOf k (cs.map (rowOf k)).flatten).map fun r => known (codeOf k r)) = cs := by
  rw [rows_back hc, List.map_map]
  refine (List.map_congr_left (g := id) fun c hm => ?_).trans (List.map_id _)
  show known (codeOf k (rowOf k c)) = c
  rw [code_back (hc c hm)]
  exact if_pos (hk c hm)
theorem read_all {k : Kd} {cs : List Nat} (hc : ∀ c ∈ cs, inKd k c) (hk : ∀ c ∈ cs, isC c = true) : ((rowsOf k (cs.map (rowOf k)).flatten).all fun r => match codeOf k r with | some c => isC c | none => false) = true := by
  rw [rows_back hc, List.all_map, List.all_eq_true]
  intro c hm
  show (match codeOf k (rowOf k c) with | some c => isC c | none => false) = true
  rw [code_back (hc c hm)]
  exact hk c hm
theorem zs_inj {l m : List Nat} (h : zs l = zs m) : l = m := by
  have := congrArg (fun z : Str => z.cps.toList) h
  rwa [zs_list, zs_list] at this
theorem zs_app (l m : List Nat) : zs l ++ zs m = zs (l ++ m) := by
  refine zs_ext ?_
  rw [ap_list, zs_list, zs_list]
theorem sqt_kp {K : PySem.W.Frag} {d t : Addr} {H H' : Hp} {xs : List V} {kvs : List (Key × V)} (h : SqT K H t xs) (e : H d = some (.dK kvs)) (k : Dr.Kp d H H') : SqT K H' t xs := by
  rcases h with (h | ⟨u, h⟩) | h
  · exact .inl (.inl (k _ _ (ne_of h e (by intro z; cases z)) h))
  · exact .inl (.inr ⟨u, k _ _ (ne_of h e (by intro z; cases z)) h⟩)
  · exact .inr h
theorem At.kp {K : PySem.W.Frag} {d l C a : Addr} {m : Nat} {H H' : Hp} {cs : List Nat} (h : At K H C a cs) (D : Dr.Draw H d l m) (k : Dr.Kp d H H') : At K H' C a cs := by
  obtain ⟨ns, u1, u2, u3, e, _⟩ := D
  obtain ⟨dx, t, h1, h2⟩ := h
  exact ⟨dx, t, k _ _ (ne_of h1 e (by intro z; cases z)) h1, sqt_kp h2 e k⟩
theorem cnt_is (c : Nat) : ∀ l : List Nat, PyProof.Rows.cnt c l = (l.count c : Int)
  | [] => rfl
  | n :: l => by
    rw [PyProof.Rows.cnt_cons, cnt_is c l, List.count_cons]
    by_cases h : n = c
    · rw [if_pos h, if_pos (by rw [h]; exact beq_self_eq_true c)]
      omega
    · rw [if_neg h, if_neg (by rw [beq_iff_eq]; exact h)]
      omega
theorem count_eq61 (l : List Nat) : Txt.count (zs l) "=" = (l.count 61 : Int) := by
  have e : ("=" : Str) = ⟨#[61]⟩ := by decide +kernel
  rw [e, PyProof.Rows.count_is]
  exact (cnt_is 61 _).trans (by rw [zs_list])
/-- the equality of texts, for the comparison of tuples that hold them -/
def RT (K : PySem.W.Frag) (C : Addr) (a b : Addr) (H : Hp) : Prop := ∃ cs, At K H C a cs ∧ At K H C b cs
def DT (K : PySem.W.Frag) (C : Addr) : Eqv := fun x y H => DIns C (RT K C) x y H ∨ DFlat x y H
theorem At.ext {K : PySem.W.Frag} {C a : Addr} {H H' : Hp} {cs : List Nat} (h : At K H C a cs) (e : Ext H H') : At K H' C a cs := h.same fun _ _ => e _ _
theorem mon_DT {K : PySem.W.Frag} {C : Addr} : Mon (DT K C) := Mon.or (mon_ins fun a b H H' e ⟨cs, h1, h2⟩ => ⟨cs, At.ext h1 e, At.ext h2 e⟩) mon_flat
theorem eqG_DT {X : Cx} {n : Nat} {CX : CXT} {C f : Addr} {fd : FuncData} {ps : List Str} (F : FnOk X.prog X.w X.K X.mg X.base CX n f fd ps (Tx.spEq X.K C))
    (hs : PySem.W.findIn X.K (.ref C) "__eq__" = some (some (.ref f))) (hf : PySem.W.isFn X.K (.ref f) = true) (hb : Binds X.K fd ps []) {E : XK} (hx : Passes CX X E) : EqG X n (DT X.K C) :=
  EqG.or (eqG_ins (F.imp fun vs H Q E h => by
    obtain ⟨a, b, rfl, ⟨cs, h1, h2⟩, q⟩ := h
    refine ⟨a, b, cs, cs, rfl, h1, h2, ?_⟩
    rw [decide_eq_true rfl]
    exact q H Ext.rfl') hs hf hb hx) (eqG_flat.mono (Nat.zero_le _))
theorem DTup_of {K : PySem.W.Frag} {C p q a b : Addr} {H : Hp} {cs : List Nat} (h1 : H p = some (.tup [.ref a, .bl true])) (h2 : H q = some (.tup [.ref b, .bl true])) (ha : At K H C a cs) (hb : At K H C b cs) : DTup K (DT K C) (.ref p) (.ref q) H := by
  refine ⟨p, q, _, _, rfl, rfl, SqT.of h1, SqT.of h2, rfl, fun i x y e1 e2 => ?_⟩
  match i, e1, e2 with
  | 0, e1, e2 =>
    obtain rfl := Option.some.inj e1
    obtain rfl := Option.some.inj e2
    obtain ⟨dx, t, g1, g2⟩ := id ha
    obtain ⟨dy, u, g3, g4⟩ := id hb
    exact .inl ⟨a, b, dx, dy, _, _, rfl, rfl, g1, g3, cs, ha, hb⟩
  | 1, e1, e2 =>
    obtain rfl := Option.some.inj e1
    obtain rfl := Option.some.inj e2
    exact .inr ⟨rfl, rfl, rfl⟩
  | i + 2, e1, e2 => cases e1
/-! promises of the law's own -/
def spNumbers : Sp := fun vs H Q _ => ∃ (d l : Addr) (m n : Nat), vs = [.ref d, iv n] ∧ Dr.Draw H d l m ∧ m ≤ 500000 ∧ n ≤ 30 ∧ ∀ (cs : List Nat) (p : Addr) H1, cs.length ≤ n → (∀ c ∈ cs, isC c = true) → H1 p = some (.lst (cs.map iv)) → Dr.Draw H1 d l (m + 40) → Dr.Kp d H H1 → Q (.ref p) H1
def spText (K : PySem.W.Frag) (C : Addr) : Sp := fun vs H Q _ => ∃ (d l : Addr) (m n : Nat), vs = [.ref d, iv n] ∧ Dr.Draw H d l m ∧ m ≤ 500000 ∧ n ≤ 30 ∧ ∀ (cs : List Nat) (p : Addr) H1, cs.length ≤ n → (∀ c ∈ cs, isC c = true) → At K H1 C p cs → Dr.Draw H1 d l (m + 40) → Dr.Kp d H H1 → Q (.ref p) H1
def spRight (K : PySem.W.Frag) (C : Addr) : Sp := fun vs H Q _ => ∃ k a cs, vs = [.ref a, .str (Kd.name k)] ∧ At K H C a cs ∧ cs.length ≤ 30 ∧ (∀ c ∈ cs, isC c = true) ∧ (∀ c ∈ cs, inKd k c) ∧ ∀ H1, Same H H1 → Q (.bl true) H1
def spSums (K : PySem.W.Frag) (C : Addr) : Sp := fun vs H Q _ => ∃ k a b cs ds, vs = [.ref a, .ref b, .str (Kd.name k)] ∧ At K H C a cs ∧ At K H C b ds ∧ cs.length ≤ 30 ∧ ds.length ≤ 30 ∧ (∀ c ∈ cs, inKd k c) ∧ (∀ c ∈ ds, inKd k c) ∧ ∀ H1, Same H H1 → Q (.bl true) H1

theorem ways {i : Nat} {x : V} (h : [V.str "h", V.str "s"][i]? = some x) : ∃ b, x = V.str (cname b) := by
  match i, h with
  | 0, h => exact ⟨true, (Option.some.inj h).symm⟩
  | 1, h => exact ⟨false, (Option.some.inj h).symm⟩
  | i + 2, h => cases h

end Cd
namespace L2
open PySem
theorem ix_listKK {X : Cx} {K : PySem.W.Frag} (h : X.K = K) : IxR X (rIxL K) := h ▸ ix_list
end L2
namespace Cd
open PySem L2 Tx
def SOMES : List Nat := [97, 98, 32, 32, 122, 65, 48, 32, 97, 34, 92, 61, 63, 95, 44, 60, 62, 40, 41, 59, 64, 58, 126, 45, 160, 233, 255, 256, 8364, 65535]
theorem somes_ok : ∀ c ∈ SOMES, isC c = true := by decide +kernel
end Cd
namespace Cd
open PySem L2 Tx
theorem pick {v : Int} (h0 : 0 ≤ v) (h1 : v < 30) : ∃ c ∈ SOMES, atI (SOMES.map iv) v = some (iv c) := by
  have hl : SOMES.length = 30 := by decide +kernel
  have hi : v.toNat < SOMES.length := by omega
  refine ⟨SOMES[v.toNat], List.getElem_mem hi, ?_⟩
  have e := atI_nat (xs := SOMES.map iv) (j := v.toNat) (v := iv SOMES[v.toNat]) (by rw [List.getElem?_map, List.getElem?_eq_getElem hi]; rfl)
  rw [Int.toNat_of_nonneg h0] at e
  exact e
theorem in_app {k : Kd} {cs ds : List Nat} (h1 : ∀ c ∈ cs, inKd k c) (h2 : ∀ c ∈ ds, inKd k c) : ∀ c ∈ cs ++ ds, inKd k c := fun c h => (List.mem_append.mp h).elim (h1 c) (h2 c)
end Cd
namespace Cd
open PySem L2 Tx
theorem own2 {K : PySem.W.Frag} {H : Hp} {C a b : Addr} {cs ds : List Nat} {sp : Sp} {E : XK} {Q : VK} (h1 : At K H C a cs) (h2 : At K H C b ds) (q : sp [.ref a, .ref b] H Q E) : rOwn2 C sp E (.ref a) (.ref b) H Q := by
  obtain ⟨dx, t, e1, _⟩ := h1
  obtain ⟨dy, u, e2, _⟩ := h2
  exact ⟨a, b, dx, dy, _, _, rfl, rfl, e1, e2, q⟩
theorem oct_app {a b : List Nat} (ha : Oct a) (hb : Oct b) : Oct (a ++ b) := fun o h => (List.mem_append.mp h).elim (ha o) (hb o)
theorem payS_le {os : List Nat} (h : os.length ≤ 1000) : (zs (payS os)).length ≤ 2000 := by
  rw [zs_len, payS_len]
  omega
theorem payH_le {os : List Nat} (h : os.length ≤ 1000) : (zs (payH os)).length ≤ 3000 := by
  rw [zs_len]
  have := payH_len os
  omega
theorem payS_cut (os rs : List Nat) : payS (os.take (os.length - os.length % 3)) ++ payS (os.drop (os.length - os.length % 3) ++ rs) = payS (os ++ rs) := by
  rw [← payS_app _ _ (by rw [List.length_take]; omega), ← List.append_assoc, List.take_append_drop]
theorem same_pay {cs ds os rs : List Nat} (oc : Oct os) (od : Oct rs) (inj : os = rs → cs = ds) (fwd : cs = ds → os = rs) : decide (V.bl (decide (V.str (zs (payS os)) = V.str (zs (payS rs)))) = V.bl (decide (cs = ds))) = true := by
  refine decide_eq_true (congrArg V.bl (decide_eq_decide.mpr ⟨fun h => inj (payS_inj oc od (zs_inj (V.str.inj h))), fun h => ?_⟩))
  rw [fwd h]
end Cd
namespace L2
open PySem
section
variable {K : PySem.W.Frag} {g : TG} {te : TE} {tt : TT} {vs : List Nat} {σ : St} {H1 : Hp} {D : Addr} {Qd : Hp → Prop} {a : Addr} {xs : List V}
/-- over a tuple, what a test lets pass -/
theorem lc_filtT (pr : V → Bool) (ha : SqT K H1 a xs) (hD : H1 D = none) (hn : xs.length ≤ 100000)
    (hs : ∀ x H (N : V → Hp → Prop) (M : Hp → Prop), x ∈ xs → Same H1 H → (pr x = true → N x H) → (pr x = false → M H) → g x (wipe σ vs) H fun σ2 H2 => wipe σ2 vs = wipe σ vs ∧ tt σ2 H2 fun b H3 => if b = true then te σ2 H3 N else M H3)
    (hd : ∀ H, Same H1 H → H D = some (.lst (xs.filter pr)) → Qd H) :
    ∃ W : Nat → Nat → Hp → Prop, (∃ m, W 0 m (upd H1 D (.lst []))) ∧ ∀ i m H, W i m H →
      ((Itt K a).stop i H ∧ Qd H) ∨ ((Itt K a).go i H ∧ ∃ Nx : Hp → Prop, (∀ H', Nx H' → ∃ m', m' < m ∧ W (i + 1) m' H') ∧ ∀ x H', (Itt K a).yld i H x H' → g x (wipe σ vs) H' fun σ2 H2 => wipe σ2 vs = wipe σ vs ∧ tt σ2 H2 fun b H3 =>
        if b = true then te σ2 H3 fun y H4 => ∃ acc, H4 D = some (.lst acc) ∧ acc.length < sizeLine ∧ Nx (upd H4 D (.lst (acc ++ [y]))) else Nx H3) := by
  refine lc_it walk_tup (fun i H => Same H1 H ∧ H D = some (.lst ((xs.take i).filter pr))) ⟨same_new hD, upd_same⟩ (fun i H _ p => p.1.sqt ha) (fun i x H H' hi p y => ?_) fun H p => hd H p.1 (by have := p.2; rwa [List.take_of_length_le (Nat.le_refl _)] at this)
  obtain ⟨rfl, hx⟩ := y
  have ht : xs.take (i + 1) = xs.take i ++ [x] := by rw [List.take_add_one, hx]; rfl
  refine hs x H' _ _ (List.mem_of_getElem? hx) p.1 (fun hp => ⟨_, p.2, ?_, p.1.mut hD, ?_⟩) fun hp => ⟨p.1, ?_⟩
  · refine Nat.lt_of_le_of_lt (List.length_filter_le _ _) ?_
    rw [List.length_take]
    exact Nat.lt_of_le_of_lt (Nat.min_le_right _ _) (Nat.lt_of_le_of_lt hn (by decide))
  · rw [upd_same, ht, List.filter_append, List.filter_cons, if_pos hp]
    rfl
  · rw [p.2, ht, List.filter_append, List.filter_cons, if_neg (by rw [hp]; decide)]
    simp
end
end L2
namespace Cd
open PySem L2 Tx
def big : V → Bool
  | .int i => decide (i > 255)
  | _ => false
theorem big_iv (cs : List Nat) : (cs.map iv).filter big = (cs.filter fun c => decide (c > 255)).map iv := by
  rw [List.filter_map]
  congr 1
  refine List.filter_congr fun c _ => ?_
  show decide ((c : Int) > 255) = decide (c > 255)
  refine decide_eq_decide.mpr ?_
  omega
theorem eqv_lnil (l : List Nat) : PyData.eqv (.list (l.map fun (c : Nat) => PyData.int (c : Int))) (.list []) = decide (l = []) := by
  rw [PyData.eqv]
  exact eqvAll_ints l []
theorem small_of {cs ds : List Nat} (h : (cs ++ ds).filter (fun c => decide (c > 255)) = []) : (∀ c ∈ cs, c ≤ 255) ∧ (∀ c ∈ ds, c ≤ 255) := by
  have f := List.filter_eq_nil_iff.mp h
  have g : ∀ c ∈ cs ++ ds, c ≤ 255 := fun c hc => by
    have := f c hc
    rw [decide_eq_true_eq] at this
    omega
  exact ⟨fun c hc => g c (List.mem_append_left _ hc), fun c hc => g c (List.mem_append_right _ hc)⟩
theorem kinds_at {ks : List Kd} {i : Nat} {x : V} (h : (ks.map fun k => V.str k.name)[i]? = some x) : ∃ k ∈ ks, x = V.str k.name := by
  rw [List.getElem?_map] at h
  cases e : ks[i]? with
  | none => rw [e] at h; cases h
  | some k => rw [e] at h; exact ⟨k, List.mem_of_getElem? e, (Option.some.inj h).symm⟩
theorem in_wide {cs : List Nat} (h : ∀ c ∈ cs, isC c = true) : ∀ k ∈ [Kd.wide, Kd.steps], ∀ c ∈ cs, inKd k c := fun k hk c hc => inKd_of (h c hc) fun e => by
  subst e
  simp at hk
theorem in_all {cs : List Nat} (h : ∀ c ∈ cs, isC c = true) (hs : ∀ c ∈ cs, c ≤ 255) : ∀ k ∈ [Kd.latin, Kd.wide, Kd.steps], ∀ c ∈ cs, inKd k c := fun k _ c hc => inKd_of (h c hc) fun _ => hs c hc
end Cd
namespace L2
open PySem PySem.Spec PyProof.Rows
/-! ### static methods, called by their class -/
structure SMet (K : PySem.W.Frag) (C : Addr) (mc : Value) (m : Str) (p g : Addr) : Prop where
  at_ : PySem.W.findCls K (.ref C) mc m = some (.get (.builtin "staticmethod.__get__") (.ref p) .none (.ref C))
  rc : ∃ rest, PySem.W.recIn K p "staticmethod" = some (.ref g :: rest)
  kp : PySem.W.keepIn K (.ref g) = true
def tSMeth (C : Addr) (sp : Sp) (E : XK) (ta : TE) (t : TA) : TE := fun σ H Q => ta σ H fun x H1 => x = .ref C ∧ t σ H1 fun vs H2 => sp (vs ++ []) H2 Q E
section
variable {X : Cx} {CX : CXT} {k : Nat} {C p g : Addr} {fd : FuncData} {ps : List Str} {mc : Value} {sp : Sp} {E : XK} {o e : Expr} {es : List Expr} {m : Str} {pos apos : Pos} {ta : TE} {t : TA} {pl : Sem Bool}
theorem pe_smeth (he : PE X o ta) (r : ClX.CRead X.K C mc) (c : SMet X.K C mc m p g) (F : FnOk X.prog X.w X.K X.mg X.base CX k g fd ps sp) (hr : Room k X.A) (hb : Binds X.K fd ps []) (hx : Passes CX X E) (ha : PA X (e :: es) t)
    (hst : starEach (e :: es) X.env = (false, eval e X.env) :: starEach es X.env := by rfl) (hpl : (backTo pos (starEach es X.env)).any (·.1) = false := by rfl)
    (ht : eval (.Call (.Attribute o m apos) (e :: es) [] pos) X.env = (do
      let ov ← eval o X.env
      standAt apos.atName
      let (f, first) ← holding [ov] (getMethod ov m pl)
      callWith pos f first (backTo pos (starEach (e :: es) X.env)) (backToKw pos (keywordEach [] X.env))) := by rfl) :
    PE X (.Call (.Attribute o m apos) (e :: es) [] pos) (tSMeth C sp E ta t) := by
  refine ⟨fun pins s σ H Q I h => ?_⟩
  refine PySem.W.methodCall_KW (pl := pl) (thn (he.run pins s σ H _ I h) fun u s1 ⟨x, H1, I1, rx, ex, q⟩ => ?_) ht
  subst ex
  obtain rfl : u = Value.ref C := rx
  obtain ⟨rest, hp⟩ := c.rc
  refine PySem.W.method_cls I1.kIn r.ga ?_
  refine PySem.W.cls_bind I1.kIn r.rd c.at_ (wpAny_call (PySem.W.sm_get (s := { s1 with toks := s1.toks + 1 }) I1.kIn hp (PySem.W.handed_on rfl ?_)))
  have I2 := I1.tok (s1.toks + 1)
  refine PySem.W.callWith_K (h₀ := X.base) I2.ok.mod.kin c.kp (thn (ha.run pos pins _ σ H1 _ I2 q) fun us s3 ⟨vs, H2, I3, rv, q2⟩ => ⟨I3.kIn, ?_⟩) hst hpl
  exact run_fn F hr hb .nil hx I3 rv q2
end
end L2
namespace Tx
open PySem L2
/-- the parts between the codes 32 -/
def cstep (p : List (List Nat) × List Nat) (c : Nat) : List (List Nat) × List Nat := if c = 32 then (p.1 ++ [p.2], []) else (p.1, p.2 ++ [c])
def cfold (cs : List Nat) : List (List Nat) × List Nat := cs.foldl cstep ([], [])
def cutC (cs : List Nat) : List (List Nat) := (cfold cs).1 ++ [(cfold cs).2]
/-- the parts with 32 between them -/
def joinC : List (List Nat) → List Nat
  | [] => []
  | r :: rs => r ++ (rs.map fun x => 32 :: x).flatten
theorem joinC_snoc (rs : List (List Nat)) (x : List Nat) : joinC (rs ++ [x]) = joinC rs ++ ((if rs = [] then [] else [32]) ++ x) := by
  cases rs with
  | nil => simp [joinC]
  | cons r rs =>
    show r ++ ((rs ++ [x]).map fun x => 32 :: x).flatten = (r ++ (rs.map fun x => 32 :: x).flatten) ++ ((if r :: rs = [] then [] else [32]) ++ x)
    rw [List.map_append, List.flatten_append, if_neg (by simp)]
    simp
theorem cfold_snoc {cs : List Nat} {i c : Nat} (h : cs[i]? = some c) : cfold (cs.take (i + 1)) = cstep (cfold (cs.take i)) c := by
  unfold cfold
  rw [List.take_add_one, h, List.foldl_append]
  rfl
theorem cfold_len (cs : List Nat) : ∀ i, (cfold (cs.take i)).1.length ≤ i
  | 0 => Nat.le_refl _
  | i + 1 => by
    cases h : cs[i]? with
    | none =>
      rw [List.take_add_one, h]
      simp only [Option.toList, List.append_nil]
      exact Nat.le_succ_of_le (cfold_len cs i)
    | some c =>
      rw [cfold_snoc h]
      unfold cstep
      split
      · rw [List.length_append]
        exact Nat.add_le_add_right (cfold_len cs i) 1
      · exact Nat.le_succ_of_le (cfold_len cs i)
def plainC (c : Nat) : Bool := Mk.isPlain (iv c)
section
variable (K : PySem.W.Frag) (C : Addr)
def spLen : Sp := fun vs H Q _ => ∃ a cs, vs = [.ref a] ∧ At K H C a cs ∧ Q (.int (cs.length : Int)) H
def spTruth : Sp := fun vs H Q _ => ∃ a cs, vs = [.ref a] ∧ At K H C a cs ∧ Q (.bl (!decide (cs = []))) H
def spIsPlain : Sp := fun vs H Q _ => ∃ a cs, vs = [.ref a] ∧ At K H C a cs ∧ cs.length ≤ 10000 ∧ ∀ H1, Same H H1 → Q (.bl (cs.all plainC)) H1
def spStr : Sp := fun vs H Q _ => ∃ a cs, vs = [.ref a] ∧ At K H C a cs ∧ cs.length ≤ 10000 ∧ (∀ c ∈ cs, plainC c = true) ∧ ∀ H1, Same H H1 → Q (.str (Cd.zs cs)) H1
def spGet : Sp := fun vs H Q _ => ∃ a cs k c, vs = [.ref a, iv k] ∧ At K H C a cs ∧ cs[k]? = some c ∧ Q (iv c) H
def spPart : Sp := fun vs H Q _ => ∃ a cs i j, vs = [.ref a, iv i, iv j] ∧ At K H C a cs ∧ i ≤ j ∧ j ≤ cs.length ∧ ∀ H1 b, Same H H1 → At K H1 C b ((cs.drop i).take (j - i)) → Q (.ref b) H1
def spCut : Sp := fun vs H Q _ => ∃ a cs, vs = [.ref a] ∧ At K H C a cs ∧ cs.length ≤ 10000 ∧ ∀ H1 p ps, Same H H1 → H1 p = some (.tup (ps.map V.ref)) → Paired (fun x row => At K H1 C x row) ps (cutC cs) → Q (.ref p) H1
def spJoined : Sp := fun vs H Q _ => ∃ p ps rows, vs = [.ref p] ∧ H p = some (.tup (ps.map V.ref)) ∧ Paired (fun x row => At K H C x row) ps rows ∧ rows.length ≤ 10000 ∧ (joinC rows).length ≤ 50000 ∧ ∀ H1 b, Same H H1 → H b = none → At K H1 C b (joinC rows) → Q (.ref b) H1
end
def spShown : Sp := fun vs H Q _ => ∃ c : Nat, vs = [iv c] ∧ plainC c = true ∧ ∀ H1, Same H H1 → Q (.str (Cd.zs [c])) H1
theorem paired_same {K : PySem.W.Frag} {C : Addr} {H H1 : Hp} {ps : List Addr} {rows : List (List Nat)} (p : Paired (fun x row => At K H C x row) ps rows) (s : Same H H1) : Paired (fun x row => At K H1 C x row) ps rows := Paired.mapP p fun _ _ h => h.same s
theorem At.upd {K : PySem.W.Frag} {H : Hp} {C a l : Addr} {cs : List Nat} {xs : List V} {o : HO} (h : At K H C a cs) (e : H l = some (.lst xs)) : At K (upd H l o) C a cs := by
  obtain ⟨dx, t, h1, h2⟩ := h
  exact ⟨dx, t, by rw [upd_ne (ne_of h1 e (by intro z; cases z))]; exact h1, Cd.sqt_upd h2 e⟩
theorem strV_join (cs : List Nat) : ((cs.map fun c => V.str (Cd.zs [c]))) = (cs.map fun c => Cd.zs [c]).map V.str := by rw [List.map_map]; rfl
end Tx
namespace Tx
open PySem L2
def oneV : V → V
  | .int i => .str (Cd.zs [i.toNat])
  | v => v
theorem map_oneV (cs : List Nat) : (cs.map iv).map oneV = ((cs.map fun c => [c]).map Cd.zs).map V.str := by
  rw [List.map_map, List.map_map, List.map_map]
  rfl
theorem flat_self (cs : List Nat) : (cs.map fun c => [c]).flatten = cs := by
  induction cs with
  | nil => rfl
  | cons c cs ih => rw [List.map_cons, List.flatten_cons, ih]; rfl
end Tx
namespace Tx
theorem joinC_le (rows : List (List Nat)) (i : Nat) : (joinC (rows.take i)).length ≤ (joinC rows).length := by
  have h : ∀ (xs ys : List (List Nat)), (joinC xs).length ≤ (joinC (xs ++ ys)).length := fun xs ys => by
    cases xs with
    | nil => exact Nat.zero_le _
    | cons r rs =>
      show (r ++ (rs.map fun x => 32 :: x).flatten).length ≤ (r ++ ((rs ++ ys).map fun x => 32 :: x).flatten).length
      rw [List.map_append, List.flatten_append, List.length_append, List.length_append, List.length_append]
      omega
  have := h (rows.take i) (rows.drop i)
  rwa [List.take_append_drop] at this
end Tx
namespace L2
open PySem
theorem call_isiQ {X : Cx} {K : PySem.W.Frag} (h : X.K = K) : CallR X (.builtin "isinstance") (rIsi K) := h ▸ call_isi
theorem call_len1Q {X : Cx} {K : PySem.W.Frag} (h : X.K = K) : CallR X (.builtin "len") (rLen1 K) := h ▸ call_len1
end L2
namespace L2
open PySem PySem.Spec PyProof.Rows
/-! ### zip of a tuple and a list -/
def ItzM (K : PySem.W.Frag) (a b : Addr) : It :=
  ⟨fun i H => ∃ xs ys x y, (SqT K H a xs ∧ xs[i]? = some x) ∧ SqL K H b ys ∧ ys[i]? = some y,
    fun i H v H' => ∃ T x y, (v = .ref T ∧ H T = none ∧ H' = upd H T (.tup [x, y])) ∧ (∀ xs, SqT K H a xs → xs[i]? = some x) ∧ ∀ ys, SqL K H b ys → ys[i]? = some y,
    fun i H => ∃ xs ys, (SqT K H a xs ∧ SqL K H b ys) ∧ i ≤ xs.length ∧ i ≤ ys.length ∧ (i = xs.length ∨ i = ys.length)⟩
def StM (a b z TI TO i1 i2 : Addr) (i : Nat) (h : Heap) : Prop := (IsZip h z TI TO .none ∧ IsTupOf2 h TI (.ref i1) (.ref i2)) ∧ (∃ x y, IsTupOf2 h TO x y) ∧ h.IsTupleIter i1 a i ∧ h.IsListIter i2 b i
theorem turn_zipM {P : Program} {w : World} {K : PySem.W.Frag} {elts : List Expr} {kk : Nat} {tpos : Pos} {a b z TI TO i1 i2 : Addr} (S : ZipSep2 z TI TO i1 i2 [i1, a] [i2, b]) (na : a ≠ i1) (nb : b ≠ i2) :
    Turn P w K (.Tuple elts kk tpos) (ItzM K a b) [z, TI, TO, i1, i2] z (StM a b z TI TO i1 i2) where
  mem := List.mem_cons_self
  obj := fun i h st c hc => by
    obtain ⟨⟨hz, hI⟩, ⟨x, y, hO⟩, ⟨o1, e1, _, d1⟩, ⟨o2, e2, _, d2⟩⟩ := st
    simp only [List.mem_cons, List.not_mem_nil, or_false] at hc
    rcases hc with rfl | rfl | rfl | rfl | rfl
    · exact ⟨_, hz, fun v q => nomatch q⟩
    · exact ⟨_, hI, fun v q => nomatch q⟩
    · exact ⟨_, hO, fun v q => nomatch q⟩
    · exact ⟨o1, e1, fun v q => by rw [d1] at q; cases q⟩
    · exact ⟨o2, e2, fun v q => by rw [d2] at q; cases q⟩
  keep := fun i h h' st k => by
    obtain ⟨⟨hz, hI⟩, ⟨x, y, hO⟩, h1, h2⟩ := st
    exact ⟨⟨k _ (by simp) _ hz, k _ (by simp) _ hI⟩, ⟨x, y, k _ (by simp) _ hO⟩, h1.at fun o q => k _ (by simp) o q, h2.at fun o q => k _ (by simp) o q⟩
  item := by
    intro X hP hw hK hc i pins s σ H E I hf st hg
    subst hP hw hK
    obtain ⟨⟨hz, hI⟩, ⟨x0, y0, hO⟩, h1, h2⟩ := st
    obtain ⟨xs, ys, x, y, ⟨hqx, hx⟩, hqy, hy⟩ := hg
    obtain ⟨its, rv, p, _⟩ := I.tuple hqx
    obtain ⟨jts, rw', p', _⟩ := I.list hqy
    obtain ⟨u, hu, ru⟩ := rv.get hx
    obtain ⟨v, hv, rv'⟩ := rw'.get hy
    have hh : X.A.in1.handled = none := I.ok.hd hc
    have lz : z < s.heap.objs.size := Heap.lt_size hz
    have sz : ∀ c ∈ [z, TI, TO, i1, i2], c < s.heap.objs.size := fun c hcm => by
      simp only [List.mem_cons, List.not_mem_nil, or_false] at hcm
      obtain ⟨o1, e1, _⟩ := id h1
      obtain ⟨o2, e2, _⟩ := id h2
      rcases hcm with rfl | rfl | rfl | rfl | rfl
      · exact lz
      · exact Heap.lt_size hI
      · exact Heap.lt_size hO
      · exact Heap.lt_size e1
      · exact Heap.lt_size e2
    refine wpAny_pyNext_zipD2_item S (Draws.tuple hh i1 a na its.toArray) (Draws.list hh i2 b nb jts.toArray) hz hI hO ⟨h1, p⟩ ⟨h2, p'.isList⟩ (by simpa using (List.getElem?_eq_some_iff.mp hu).1) (by simpa using (List.getElem?_eq_some_iff.mp hv).1) fun u' v' g tk eu ev gz gO g1 g2 gT gs gk => ?_
    have eu' : u' = u := by rw [List.getElem?_toArray, hu] at eu; exact (Option.some.inj eu).symm
    have ev' : v' = v := by rw [List.getElem?_toArray, hv] at ev; exact (Option.some.inj ev).symm
    subst eu' ev'
    refine ⟨_, rfl, wpAny_letOwnedTupleGo_zip (s := { s with heap := g, toks := tk }) gz fun g' gz' sb => ?_⟩
    have tT : g'.get? s.heap.objs.size = some { cls := .type "tuple", data := .seq #[u', v'] } := (sb.2 _ (Nat.ne_of_gt lz)).trans gT
    have I1 : Inv X pins σ (upd H s.heap.objs.size (.tup [x, y])) { s with heap := g', toks := tk } :=
      I.turnedNew (ch := [z, TI, TO, i1, i2]) (fun c o hb q => (sb.2 c fun e => hb (by simp [e])).trans (gk c o (fun e => hb (by simp [e])) (fun e => hb (by simp [e])) (fun e => hb (by simp [e])) (fun e => hb (by simp [e])) q)) hf (Nat.le_refl _)
        ⟨by show 2 ≤ sizeLine; decide, [u', v'], .cons ru (.cons rv' .nil), ⟨_, tT, rfl, _, rfl⟩⟩
    refine ⟨.ref s.heap.objs.size, _, I1, rfl, ⟨_, x, y, ⟨rfl, I.hok.fresh (Nat.le_refl _), rfl⟩, fun l hl => by rw [I.tuple_inj hl hqx]; exact hx, fun l hl => by rw [I.list_inj hl hqy]; exact hy⟩, ⟨⟨gz', ?_⟩, ⟨u', v', (sb.2 _ S.TOz).trans gO⟩, ?_, ?_⟩, fun c hcm => ?_⟩
    · exact (sb.2 _ S.TIz).trans (gk _ _ S.TIz S.TITO S.TIi1 S.TIi2 hI)
    · exact g1.1.at fun o q => (sb.2 _ S.zi1.symm).trans q
    · exact g2.1.at fun o q => (sb.2 _ S.zi2.symm).trans q
    · rw [upd_ne (Nat.ne_of_lt (sz c hcm))]
      exact (hf c hcm).1
  done := by
    intro X hP hw hK hc i pins s σ H E I hf st hg
    subst hP hw hK
    obtain ⟨⟨hz, hI⟩, ⟨x0, y0, hO⟩, h1, h2⟩ := st
    obtain ⟨xs, ys, ⟨hqx, hqy⟩, lx, ly, en⟩ := hg
    obtain ⟨its, rv, p, _⟩ := I.tuple hqx
    obtain ⟨jts, rw', p', _⟩ := I.list hqy
    have hh : X.A.in1.handled = none := I.ok.hd hc
    have a1 : its.toArray.size = xs.length := by rw [List.size_toArray, rv.length]
    have a2 : jts.toArray.size = ys.length := by rw [List.size_toArray, rw'.length]
    exact wpAny_pyNext_zipD2_end S (Draws.tuple hh i1 a na its.toArray) (Draws.list hh i2 b nb jts.toArray) hz hI hO ⟨h1, p⟩ ⟨h2, p'.isList⟩ (by rw [a1]; exact lx) (by rw [a2]; exact ly) (by rw [a1, a2]; exact en) fun g tk gk => ⟨rfl, I.turnedL (ch := [z, TI, TO, i1, i2]) (fun c o hb q =>
      gk c o (fun e => hb (by simp [e])) (fun e => hb (by simp [e])) (fun e => hb (by simp [e])) (fun e => hb (by simp [e])) q) hf⟩
  self := fun A i s Q E st h => wpAny_pyIter_zip st.1.1 h
section
variable {X : Cx} {e e2 : Expr} {ta : TA} {p pos tpos : Pos} {elts : List Expr} {kk : Nat}
def iZipM (K : PySem.W.Frag) (ta : TA) : TI := fun σ H R => ta σ H fun vs H1 => ∃ a b xs ys, vs = [.ref a, .ref b] ∧ SqT K H1 a xs ∧ SqL K H1 b ys ∧ R (ItzM K a b) H1
theorem pi_zipM (hg : Gl X "zip") (hm : X.mg "zip" = none) (ha : PA X [e, e2] ta) (hs : starEach [e, e2] X.env = (false, eval e X.env) :: starEach [e2] X.env := by rfl) (hpl : (backTo pos (starEach [e2] X.env)).any (·.1) = false := by rfl) :
    PI X (.Tuple elts kk tpos) (.Call (.Name "zip" p) [e, e2] [] pos) (iZipM X.K ta) := by
  refine ⟨fun pins s σ H R I h => Call_ (ld_blt I hg hm boot_zip (PyProof.Rows.callWith_type1 (thn (ha.run pos pins s σ H _ I h) fun us s1 ⟨vs, H1, I1, r1, q1⟩ => ?_) hs hpl))⟩
  obtain ⟨a, b, xs, ys, ex, hqx, hqy, q⟩ := q1
  subst ex
  obtain ⟨u, v, rfl, ru, rv⟩ := vals2 r1
  cases ru
  cases rv
  obtain ⟨its, _, pa, _⟩ := I1.tuple hqx
  obtain ⟨jts, _, pb, _⟩ := I1.list hqy
  have la : a < s1.heap.objs.size := by obtain ⟨o, e, _⟩ := pa; exact Heap.lt_size e
  have lb : b < s1.heap.objs.size := pb.lt
  refine zip_begins2 (begins_tuple a its.toArray) (begins_list b jts.toArray) pa pb.isList fun g hz hI hO e1 e2 _ hk => wpAny_pyIter_zip hz ?_
  have I2 : Inv X pins σ H1 { s1 with heap := g } := I1.kept (t' := s1.toks) hk
  refine ⟨s1.heap.objs.size + 4, [s1.heap.objs.size + 4, s1.heap.objs.size + 2, s1.heap.objs.size + 3, s1.heap.objs.size, s1.heap.objs.size + 1], _, _, H1, rfl, I2,
    turn_zipM (zip_sep2 (fp1 := [a]) (fp2 := [b]) (fun c hc => by rw [List.mem_singleton.mp hc]; exact la) (fun c hc => by rw [List.mem_singleton.mp hc]; exact lb)) (Nat.ne_of_lt la) (Nat.ne_of_lt (Nat.lt_succ_of_lt lb)), ⟨⟨hz, hI⟩, ⟨_, _, hO⟩, ⟨_, e1, rfl, rfl⟩, ⟨_, e2, rfl, rfl⟩⟩, fun c hc => ?_, q⟩
  have hle : s1.heap.objs.size ≤ c := by
    simp only [List.mem_cons, List.not_mem_nil, or_false] at hc
    rcases hc with rfl | rfl | rfl | rfl | rfl
    · exact Nat.le_add_right _ _
    · exact Nat.le_add_right _ _
    · exact Nat.le_add_right _ _
    · exact Nat.le_refl _
    · exact Nat.le_add_right _ _
  exact I1.fpOk hle (I1.hok.fresh hle)
end
theorem g_zipM {σ : St} {H : Hp} {K : PySem.W.Frag} {ta : TA} {R : It → Hp → Prop} (h : ta σ H fun vs H1 => ∃ a b xs ys, vs = [.ref a, .ref b] ∧ SqT K H1 a xs ∧ SqL K H1 b ys ∧ R (ItzM K a b) H1) : iZipM K ta σ H R := h
/-- a loop over such a zip, both of one length -/
theorem for_zipM {K : PySem.W.Frag} {a b : Addr} {xs ys : List V} {g : TG} {tb : TS} {D : Ends} {σ : St} {H : Hp} (hl : xs.length = ys.length) (Pv : Nat → St → Hp → Prop) (h0 : Pv 0 σ H) (hq : ∀ i σ H, Pv i σ H → SqT K H a xs ∧ SqL K H b ys)
    (hs : ∀ i x y T σ H, xs[i]? = some x → ys[i]? = some y → Pv i σ H → H T = none → g (.ref T) σ (upd H T (.tup [x, y])) fun σ2 H2 => tb { D with nx := Pv (i + 1), ct := Pv (i + 1), bk := D.nx } σ2 H2) (hd : ∀ σ H, Pv xs.length σ H → D.nx σ H) :
    ∃ W : Nat → Nat → St → Hp → Prop, (∃ m, W 0 m σ H) ∧ ∀ i m σ H, W i m σ H →
      ((ItzM K a b).stop i H ∧ D.nx σ H) ∨ ((ItzM K a b).go i H ∧ ∃ N : St → Hp → Prop, (∀ σ' H', N σ' H' → ∃ m', m' < m ∧ W (i + 1) m' σ' H') ∧ ∀ v H', (ItzM K a b).yld i H v H' → g v σ H' fun σ2 H2 => tb { D with nx := N, ct := N, bk := D.nx } σ2 H2) := by
  refine ⟨fun i m σ H => (i ≤ xs.length ∧ m = xs.length - i) ∧ Pv i σ H, ⟨_, ⟨Nat.zero_le _, rfl⟩, h0⟩, ?_⟩
  rintro i m σ H ⟨⟨hi, rfl⟩, pv⟩
  obtain ⟨qx, qy⟩ := hq i σ H pv
  rcases Nat.lt_or_ge i xs.length with lt | ge
  · refine .inr ⟨⟨xs, ys, _, _, ⟨qx, List.getElem?_eq_getElem lt⟩, qy, List.getElem?_eq_getElem (hl ▸ lt)⟩, Pv (i + 1), fun σ' H' pv' => ⟨_, by omega, ⟨lt, rfl⟩, pv'⟩, fun v H' yl => ?_⟩
    obtain ⟨T, x, y, ⟨rfl, hT, rfl⟩, fx, fy⟩ := yl
    exact hs i x y T σ H (fx xs qx) (fy ys qy) pv hT
  · have e : i = xs.length := Nat.le_antisymm hi ge
    subst e
    exact .inl ⟨⟨xs, ys, ⟨qx, qy⟩, Nat.le_refl _, by omega, .inl rfl⟩, hd σ H pv⟩
end L2
namespace L2
open PySem
section
variable {σ : St} {H : Hp} {Q : VK} {C : Addr} {m : Str} {sp : Sp} {E : XK} {dvs : List V} {ta : TE} {t : TA}
theorem g_smeth (h : ta σ H fun x H1 => x = .ref C ∧ t σ H1 fun vs H2 => sp (vs ++ []) H2 Q E) : tSMeth C sp E ta t σ H Q := h
theorem g_meth (h : ta σ H fun x H1 => ∃ a dx fs, x = .ref a ∧ H1 a = some (.ins C dx fs) ∧ fs.lookup m = none ∧ t σ H1 fun vs H2 => sp (x :: (vs ++ dvs)) H2 Q E) : tMeth C m sp dvs E ta t σ H Q := h
end
end L2
namespace L2
open PySem PySem.Spec PyProof.Rows
/-! ### repr of any data, divmod, range(a, b), sums -/
/-- data whose text repr gives -/
def shows (d : PyData) : Prop := d.showable = true ∧ d.hasDict = false ∧ d.depth ≤ 20 ∧ d.shown.length ≤ sizeLine
def rReprA (K : PySem.W.Frag) : List V → Hp → VK → Prop := fun xs H Q => ∃ x d, xs = [x] ∧ Dp K H x d ∧ shows d ∧ Q (.str d.shown) H
theorem repr_deep {X : Cx} {pins : List (Addr × Obj)} {s : Shared} {σ : St} {H : Hp} {Q : VK} (hG : X.A.guards = some []) (hu : X.A.units + 64 < cLine) (I : Inv X pins σ H s) {a : Addr} {d : PyData} (hd : Dp X.K H (.ref a) d) (sh : shows d) (q : Q (.str d.shown) H) :
    wpAny (model X.prog X.w) X.A (call (.builtin "repr") [.ref a]) (fun v s' => ∃ x H', Inv X pins σ H' s' ∧ RelV x v ∧ Q x H') X.xe s := by
  obtain ⟨h1, h2, h3, h4⟩ := sh
  obtain ⟨as, rd⟩ := Dp.reads I d _ _ hd (rfl : RelV (V.ref a) (Value.ref a))
  refine repr_of_reads' (h₀ := s.heap) rd h1 (fun z => absurd (h2.symm.trans z) (by decide)) hG (by omega) (fun _ _ z => z) (fun h' u tk hk => ?_) h4
  exact ⟨.str d.shown, H, I.kept hk, ⟨u, rfl⟩, q⟩
theorem call_reprA {X : Cx} (hG : X.A.guards = some []) (hu : X.A.units + 64 < cLine) : CallR X (.builtin "repr") (rReprA X.K) := by
  intro pins s σ H xs us Q I r h
  obtain ⟨x, d, rfl, hd, sh, q⟩ := h
  obtain ⟨u, rfl, ru⟩ := vals1 r
  cases hd with
  | non =>
    cases ru
    refine PySem.P.repr_of_none ⟨.str "None", H, I.tok _, ⟨_, rfl⟩, ?_⟩
    simpa only [PyData.shown] using q
  | bl b =>
    cases ru
    refine PySem.P.repr_of_bool ⟨.str (if b then "True" else "False"), H, I.tok _, ⟨_, rfl⟩, ?_⟩
    cases b <;> simpa [PyData.shown] using q
  | int i =>
    obtain ⟨t, rfl⟩ := ru
    obtain ⟨h1, _⟩ := sh
    refine PySem.P.repr_of_int (by simpa [PyData.showable] using h1) ⟨.str (toString i), H, I.tok _, ⟨_, rfl⟩, ?_⟩
    simpa only [PyData.shown] using q
  | str z =>
    obtain ⟨t, rfl⟩ := ru
    obtain ⟨h1, h2, h3, h4⟩ := sh
    refine PySem.P.repr_of_str ⟨.str (reprText z), H, I.tok _, ⟨_, rfl⟩, ?_⟩ (by simpa only [PyData.shown] using h4)
    simpa only [PyData.shown] using q
  | lst h1 h2 => cases (show u = Value.ref _ from ru); exact repr_deep hG hu I (.lst h1 h2) sh q
  | tup h1 h2 => cases (show u = Value.ref _ from ru); exact repr_deep hG hu I (.tup h1 h2) sh q
theorem g_repra {K : PySem.W.Frag} {H : Hp} {Q : VK} {x : V} {d : PyData} (h : Dp K H x d) (s : shows d) (q : Q (.str d.shown) H) : rReprA K [x] H Q := ⟨x, d, rfl, h, s, q⟩
def rDivmod : List V → Hp → VK → Prop := fun xs H Q => ∃ i j, xs = [.int i, .int j] ∧ CDiv i j ∧ ∀ p, H p = none → Q (.ref p) (upd H p (.tup [.int (i / j), .int (i % j)]))
theorem call_divmodN {X : Cx} : CallR X (.builtin "divmod") rDivmod := call_divmod
theorem g_divmod {H : Hp} {Q : VK} {i j : Int} (h : CDiv i j) (q : ∀ p, H p = none → Q (.ref p) (upd H p (.tup [.int (i / j), .int (i % j)]))) : rDivmod [.int i, .int j] H Q := ⟨i, j, rfl, h, q⟩
theorem g_sum {K : PySem.W.Frag} {H : Hp} {Q : VK} {a : Addr} {ns : List Int} (h : SqL K H a (ns.map V.int)) (q : Q (.int ns.sum) H) : rSum K [.ref a] H Q := ⟨a, ns, rfl, h, q⟩
theorem g_irng2 {σ : St} {H : Hp} {ta : TA} {R : It → Hp → Prop} (h : ta σ H fun vs H1 => ∃ i j : Int, vs = [.int i, .int j] ∧ (-(2 ^ 62) ≤ i ∧ i < 2 ^ 62 ∧ -(2 ^ 62) ≤ j ∧ j < 2 ^ 62) ∧ R (Itr i (j - i).toNat) H1) : iRng2 ta σ H R := h
section
variable {K : PySem.W.Frag} {g : TG} {te : TE} {vs : List Nat} {σ : St} {H1 : Hp} {D : Addr} {Qd : Hp → Prop}
/-- over a range -/
theorem lc_pureR {lo : Int} {n : Nat} (f : Nat → V) (hD : H1 D = none) (hn : n ≤ 100000)
    (hs : ∀ i H (N : V → Hp → Prop), i < n → Same H1 H → (∀ H4, Same H H4 → N (f i) H4) → g (.int (lo + i)) (wipe σ vs) H fun σ2 H2 => wipe σ2 vs = wipe σ vs ∧ te σ2 H2 N) (hd : ∀ H, Same H1 H → H D = some (.lst ((List.range n).map f)) → Qd H) :
    ∃ W : Nat → Nat → Hp → Prop, (∃ m, W 0 m (upd H1 D (.lst []))) ∧ ∀ i m H, W i m H →
      ((Itr lo n).stop i H ∧ Qd H) ∨ ((Itr lo n).go i H ∧ ∃ Nx : Hp → Prop, (∀ H', Nx H' → ∃ m', m' < m ∧ W (i + 1) m' H') ∧ ∀ x H', (Itr lo n).yld i H x H' → g x (wipe σ vs) H' fun σ2 H2 => wipe σ2 vs = wipe σ vs ∧ tYes σ2 H2 fun b H3 =>
        if b = true then te σ2 H3 fun y H4 => ∃ acc, H4 D = some (.lst acc) ∧ acc.length < sizeLine ∧ Nx (upd H4 D (.lst (acc ++ [y]))) else Nx H3) :=
  lc_pure (it := fun i => .int (lo + i)) (G := fun _ => True) f walk_range (fun _ _ => trivial) hD hn hs hd
end
/-! data of ints -/
theorem shows_ints {d : PyData} (h0 : PyData.layable0 d = true) (h1 : d.showable = true) (h2 : d.hasDict = false) (h3 : d.depth ≤ 20) (h4 : d.intsShort 13 = true) : shows d :=
  ⟨h1, h2, h3, Nat.le_trans (shown_le13 h0 h4) (by decide)⟩
end L2
namespace L2
open PySem PySem.Spec PyProof.Rows
/-! data whose leaves are small -/
mutual
def Sml : PyData → Prop
  | .none | .bool _ => True
  | .int i => i.natAbs < 10 ^ 12
  | .str x => PyData.strOk x = true ∧ x.length ≤ 100000
  | .list xs | .tuple xs => SmlAll xs
  | .dict _ => False
def SmlAll : List PyData → Prop
  | [] => True
  | x :: xs => Sml x ∧ SmlAll xs
end
mutual
def wgt : PyData → Nat
  | .str x => x.length
  | .list xs | .tuple xs => wgtAll xs
  | .dict _ => 0
  | .int _ => 41
  | .none | .bool _ => 0
def wgtAll : List PyData → Nat
  | [] => 0
  | x :: xs => wgt x + 1 + wgtAll xs
end
def SmlR (d : PyData) : Prop := d.canLay0 = true ∧ d.showable = true ∧ d.hasDict = false ∧ d.intsShort 13 = true ∧ d.weight ≤ wgt d
def SmlRA (ds : List PyData) : Prop := PyData.canLayAll0 ds = true ∧ PyData.showableAll ds = true ∧ PyData.hasDictAll ds = false ∧ PyData.intsShortAll 13 ds = true ∧ PyData.weightAll ds ≤ wgtAll ds
theorem log_small {i : Int} (h : i.natAbs < 10 ^ 12) : i.natAbs.log2 < 40 := by
  by_cases z : i.natAbs = 0
  · rw [z]; decide
  · exact (Nat.log2_lt z).mpr (Nat.lt_of_lt_of_le h (by decide))
mutual
theorem sml_r : ∀ d : PyData, Sml d → SmlR d
  | .none, _ => ⟨by simp only [PyData.canLay0], by simp only [PyData.showable], by simp only [PyData.hasDict], by simp only [PyData.intsShort], by simp only [PyData.weight, wgt]; exact Nat.le_refl _⟩
  | .bool _, _ => ⟨by simp only [PyData.canLay0], by simp only [PyData.showable], by simp only [PyData.hasDict], by simp only [PyData.intsShort], by simp only [PyData.weight, wgt]; exact Nat.le_refl _⟩
  | .int i, h => by
    have h : i.natAbs < 10 ^ 12 := by simpa only [Sml] using h
    have hl := log_small h
    refine ⟨by simp only [PyData.canLay0], ?_, by simp only [PyData.hasDict], ?_, ?_⟩
    · simp only [PyData.showable]
      exact decide_eq_true (by omega)
    · simp only [PyData.intsShort]
      refine decide_eq_true ?_
      rw [show (PyData.int i).shown = PySem.Str.ofString (toString i) by simp only [PyData.shown], PySem.ofString_length]
      exact int_text_length_le10 (k := 12) (by decide) h
    · simp only [PyData.weight, wgt]
      split <;> omega
  | .str x, h => by
    have h : PyData.strOk x = true ∧ x.length ≤ 100000 := by simpa only [Sml] using h
    refine ⟨by simp only [PyData.canLay0]; exact h.1, by simp only [PyData.showable], by simp only [PyData.hasDict], by simp only [PyData.intsShort], ?_⟩
    simp only [PyData.weight, wgt]
    exact Nat.le_refl _
  | .list xs, h => by
    obtain ⟨h1, h2, h3, h4, h5⟩ := sml_ra xs (by simpa only [Sml] using h)
    exact ⟨by simp only [PyData.canLay0]; exact h1, by simp only [PyData.showable]; exact h2, by simp only [PyData.hasDict]; exact h3, by simp only [PyData.intsShort]; exact h4, by simp only [PyData.weight, wgt]; exact h5⟩
  | .tuple xs, h => by
    obtain ⟨h1, h2, h3, h4, h5⟩ := sml_ra xs (by simpa only [Sml] using h)
    exact ⟨by simp only [PyData.canLay0]; exact h1, by simp only [PyData.showable]; exact h2, by simp only [PyData.hasDict]; exact h3, by simp only [PyData.intsShort]; exact h4, by simp only [PyData.weight, wgt]; exact h5⟩
  | .dict _, h => by simp only [Sml] at h
theorem sml_ra : ∀ ds : List PyData, SmlAll ds → SmlRA ds
  | [], _ => ⟨by simp only [PyData.canLayAll0], by simp only [PyData.showableAll], by simp only [PyData.hasDictAll], by simp only [PyData.intsShortAll], by simp only [PyData.weightAll, wgtAll]; exact Nat.le_refl _⟩
  | x :: xs, h => by
    have h : Sml x ∧ SmlAll xs := by simpa only [SmlAll] using h
    obtain ⟨a1, a2, a3, a4, a5⟩ := sml_r x h.1
    obtain ⟨b1, b2, b3, b4, b5⟩ := sml_ra xs h.2
    refine ⟨?_, ?_, ?_, ?_, ?_⟩
    · simp only [PyData.canLayAll0]; rw [a1, b1]; rfl
    · simp only [PyData.showableAll]; rw [a2, b2]; rfl
    · simp only [PyData.hasDictAll]; rw [a3, b3]; rfl
    · simp only [PyData.intsShortAll]; rw [a4, b4]; rfl
    · simp only [PyData.weightAll, wgtAll]; omega
end
theorem shows_sml {d : PyData} (h : Sml d) (hw : wgt d ≤ 1048576) (hd : d.depth ≤ 20) : shows d := by
  obtain ⟨h1, h2, h3, h4, h5⟩ := sml_r d h
  refine shows_ints ?_ h2 h3 hd h4
  unfold PyData.layable0
  rw [h1, decide_eq_true (show d.depth ≤ 64 by omega), decide_eq_true (show d.weight ≤ 2 ^ 20 by rw [show (2 : Nat) ^ 20 = 1048576 by decide]; omega)]
  rfl
theorem shaped_sml {d : PyData} (h : Sml d) (hd : d.depth ≤ 20) : SeqAt.shaped d = true := by
  obtain ⟨h1, _⟩ := sml_r d h
  show (PyData.canLay0 _ && decide (PyData.depth _ ≤ 64)) = true
  rw [h1, decide_eq_true (show d.depth ≤ 64 by omega)]
  rfl
end L2
namespace L2
open PySem
/-! ### heaps without their texts -/
section
variable {H H' : Hp} {p : Addr} {o : HO} {K : PySem.W.Frag} {xs : List V}
theorem Same.ap (s : Same H H') (e : H p = some o) : H' p = some o := s _ _ e
theorem Same.apL (s : Same H H') (e : SqL K H p xs) : SqL K H' p xs := Same.seq s e
theorem Same.apT (s : Same H H') (e : SqT K H p xs) : SqT K H' p xs := s.sqt e
theorem SqL.of' (e : H p = some (.lst xs)) : SqL K H p xs := SqL.of e
theorem SqT.of' (e : H p = some (.tup xs)) : SqT K H p xs := SqT.of e
theorem new_o {N : Addr → Hp → Prop} (h : ∀ p H1, H p = none → Same H H1 → H1 p = some o → N p H1) : ∀ p, H p = none → N p (upd H p o) := fun p e => h p _ e (same_new e) upd_same
end
theorem _root_.Dr.Kp.ap {d : Addr} {H H' : Hp} {p : Addr} {o : HO} (k : Dr.Kp d H H') (n : p ≠ d) (e : H p = some o) : H' p = some o := k _ _ n e
theorem _root_.Dr.Kp.of {d : Addr} {H H' : Hp} (s : Same H H') : Dr.Kp d H H' := fun p o _ e => s p o e
theorem _root_.Dr.Draw.ne' {d l : Addr} {H : Hp} {k : Nat} {p : Addr} {o : HO} (D : Dr.Draw H d l k) (e : H p = some o) (n : ∀ kv, o ≠ .dK kv) : p ≠ d := by
  obtain ⟨ns, a, lf, u, h1, _⟩ := D
  exact fun z => by rw [z, h1] at e; exact n _ (Option.some.inj e).symm
/-- a list, a tuple is made -/
abbrev nLst (xs : List V) (H : Hp) (Q : VK) : Prop := xs.length ≤ sizeLine ∧ ∀ p, H p = none → Q (.ref p) (upd H p (.lst xs))
abbrev nTup (xs : List V) (H : Hp) (Q : VK) : Prop := xs.length ≤ sizeLine ∧ ∀ p, H p = none → Q (.ref p) (upd H p (.tup xs))
theorem g_lstN {σ : St} {H : Hp} {Q : VK} {tr : TA} (h : tr σ H fun xs H1 => nLst xs H1 Q) : tLst tr σ H Q := h
theorem g_tupN {σ : St} {H : Hp} {Q : VK} {tr : TA} (h : tr σ H fun xs H1 => nTup xs H1 Q) : tTup tr σ H Q := h
theorem n_lst {H : Hp} {xs : List V} {Q : VK} (hl : xs.length ≤ sizeLine) (h : ∀ p H1, H p = none → Same H H1 → H1 p = some (.lst xs) → Q (.ref p) H1) : nLst xs H Q := ⟨hl, new_o h⟩
theorem n_tup {H : Hp} {xs : List V} {Q : VK} (hl : xs.length ≤ sizeLine) (h : ∀ p H1, H p = none → Same H H1 → H1 p = some (.tup xs) → Q (.ref p) H1) : nTup xs H Q := ⟨hl, new_o h⟩
theorem g_par3 {σ : St} {H : Hp} {D : Ends} {i j l : Nat} {tr : TA} (h : tr σ H fun vs H1 => ∃ u v w, vs = [u, v, w] ∧ D.nx (((σ.set i (some u)).set j (some v)).set l (some w)) H1) : tPar3 i j l tr D σ H := h
theorem g_three {u v w : V} {N : V → V → V → Prop} (h : N u v w) : ∃ u1 v1 w1, [u, v, w] = [u1, v1, w1] ∧ N u1 v1 w1 := ⟨u, v, w, rfl, h⟩
theorem n_rep {H : Hp} {l : Addr} {k : Int} {xs : List V} {Q : VK} (e : H l = some (.lst xs)) (h0 : -(2 ^ 63) ≤ k) (h1 : k < 2 ^ 63) (hl : xs.length * k.toNat ≤ sizeLine) (h : ∀ p H1, H p = none → Same H H1 → H1 p = some (.lst (List.replicate k.toNat xs).flatten) → Q (.ref p) H1) : rRep (.ref l) (.int k) H Q :=
  ⟨l, k, xs, rfl, rfl, e, h0, h1, hl, new_o h⟩
/-- a draw -/
theorem n_next {H : Hp} {d l : Addr} {m : Nat} {b : Int} {Q : VK} {E : XK} (D : Dr.Draw H d l m) (hm : m < 1000000) (h0 : 0 < b) (h1 : b < 1000000) (h : ∀ (r : Int) (H' : Hp), 0 ≤ r → r < b → Dr.Draw H' d l (m + 1) → Dr.Kp d H H' → Q (.int r) H') : Dr.spNext [.ref d, .int b] H Q E :=
  ⟨d, l, m, b, rfl, D, hm, h0, h1, fun r H' a b c e _ => h r H' a b c e⟩
end L2
namespace Cal
/-! the calendar -/
def leap (y : Int) : Bool := decide (y % 4 = 0) && ((!decide (y % 100 = 0)) || decide (y % 400 = 0))
def lens : List Int := [31, 28, 31, 30, 31, 30, 31, 31, 30, 31, 30, 31]
def len (y m : Int) : Int := if m = 2 ∧ leap y = true then 29 else lens.getD (m - 1).toNat 0
def first (y : Int) : Int := 365 * (y - 1) + (y - 1) / 4 - (y - 1) / 100 + (y - 1) / 400 + 1
def bef (y : Int) : Nat → Int
  | 0 => 0
  | k + 1 => bef y k + len y (1 + (k : Int))
def dayNo (y m d : Int) : Int := first y + bef y (m - 1).toNat + d - 1
def dim (y : Int) : Int := if leap y = true then 366 else 365
theorem leap_iff {y : Int} : leap y = true ↔ y % 4 = 0 ∧ (¬ y % 100 = 0 ∨ y % 400 = 0) := by
  unfold leap
  rw [Bool.and_eq_true, Bool.or_eq_true, Bool.not_eq_true', decide_eq_true_iff, decide_eq_true_iff, decide_eq_false_iff_not]
theorem first_succ (y : Int) : first (y + 1) = first y + dim y := by
  unfold first dim
  by_cases h : leap y = true
  · rw [if_pos h]
    have := leap_iff.mp h
    omega
  · rw [if_neg h]
    have : ¬ (y % 4 = 0 ∧ (¬ y % 100 = 0 ∨ y % 400 = 0)) := fun z => h (leap_iff.mpr z)
    omega
theorem first_one : first 1 = 1 := by decide
theorem bef_leap {y : Int} (h : leap y = true) : ∀ k, k ≤ 12 → bef y k = [0, 31, 60, 91, 121, 152, 182, 213, 244, 274, 305, 335, 366].getD k 0 := by
  intro k hk
  have e : ∀ m : Int, len y m = if m = 2 then 29 else lens.getD (m - 1).toNat 0 := fun m => by
    unfold len
    by_cases q : m = 2
    · rw [if_pos ⟨q, h⟩, if_pos q]
    · rw [if_neg (fun z => q z.1), if_neg q]
  have : ∀ k, bef y k = (List.range k).foldl (fun (a : Int) (j : Nat) => a + (if (1 + (j : Int)) = 2 then 29 else lens.getD ((1 + (j : Int)) - 1).toNat 0)) 0 := by
    intro k
    induction k with
    | zero => rfl
    | succ k ih => rw [List.range_succ, List.foldl_append, ← ih, bef, e]; rfl
  rw [this]
  revert hk
  revert k
  decide
theorem bef_flat {y : Int} (h : ¬ leap y = true) : ∀ k, k ≤ 12 → bef y k = [0, 31, 59, 90, 120, 151, 181, 212, 243, 273, 304, 334, 365].getD k 0 := by
  intro k hk
  have e : ∀ m : Int, len y m = lens.getD (m - 1).toNat 0 := fun m => by
    unfold len
    rw [if_neg (fun z => h z.2)]
  have : ∀ k, bef y k = (List.range k).foldl (fun (a : Int) (j : Nat) => a + (lens.getD ((1 + (j : Int)) - 1).toNat 0)) 0 := by
    intro k
    induction k with
    | zero => rfl
    | succ k ih => rw [List.range_succ, List.foldl_append, ← ih, bef, e]; rfl
  rw [this]
  revert hk
  revert k
  decide
theorem bef12 (y : Int) : bef y 12 = dim y := by
  unfold dim
  by_cases h : leap y = true
  · rw [bef_leap h 12 (by decide), if_pos h]; rfl
  · rw [bef_flat h 12 (by decide), if_neg h]; rfl
theorem len_pos {y m : Int} (h1 : 1 ≤ m) (h2 : m ≤ 12) : 28 ≤ len y m ∧ len y m ≤ 31 := by
  unfold len
  by_cases h : m = 2 ∧ leap y = true
  · rw [if_pos h]; decide
  · rw [if_neg h]
    obtain ⟨k, rfl⟩ : ∃ k : Nat, m = 1 + (k : Int) := ⟨(m - 1).toNat, by omega⟩
    have hk : k < 12 := by omega
    have : (1 + (k : Int) - 1).toNat = k := by omega
    rw [this]
    clear this h h1 h2
    revert k
    decide
theorem bef_mono {y : Int} {j k : Nat} (h : j ≤ k) (hk : k ≤ 12) : bef y j ≤ bef y k := by
  obtain ⟨n, rfl⟩ := Nat.exists_eq_add_of_le h
  induction n with
  | zero => exact Int.le_refl _
  | succ n ih =>
    have := ih (by omega) (by omega)
    rw [show j + (n + 1) = (j + n) + 1 from rfl, bef]
    have := (len_pos (y := y) (m := 1 + ((j + n : Nat) : Int)) (by omega) (by omega)).1
    omega
theorem bef_nonneg {y : Int} {k : Nat} (hk : k ≤ 12) : 0 ≤ bef y k := bef_mono (Nat.zero_le k) hk
/-- the place of a day in its year -/
theorem doy {y m d : Int} (h1 : 1 ≤ m) (h2 : m ≤ 12) (h3 : 1 ≤ d) (h4 : d ≤ len y m) : 0 ≤ bef y (m - 1).toNat + d - 1 ∧ bef y (m - 1).toNat + d - 1 < dim y := by
  have e : bef y ((m - 1).toNat + 1) = bef y (m - 1).toNat + len y m := by rw [bef]; rw [show 1 + (((m - 1).toNat : Nat) : Int) = m by omega]
  have := bef_nonneg (y := y) (k := (m - 1).toNat) (by omega)
  have b := bef_mono (y := y) (j := (m - 1).toNat + 1) (k := 12) (by omega) (by decide)
  rw [bef12, e] at b
  omega
/-- the year of a number -/
def yearOf (n : Int) : Int :=
  let f := (n - 1) / 146097
  let r := (n - 1) % 146097
  let c := if 3 < r / 36524 then 3 else r / 36524
  let r2 := r - c * 36524
  let l := r2 / 1461
  let r3 := r2 % 1461
  f * 400 + c * 100 + l * 4 + (if 3 < r3 / 365 then 3 else r3 / 365) + 1
theorem year_of {y k : Int} (h0 : 1 ≤ y) (hk0 : 0 ≤ k) (hk : k < dim y) : yearOf (first y + k) = y := by
  -- y - 1 = 400 q + 100 c + 4 l + r
  obtain ⟨q, c, l, r, e, c0, c3, l0, l24, r0, r3⟩ : ∃ q c l r : Int, y - 1 = 400 * q + 100 * c + 4 * l + r ∧ 0 ≤ c ∧ c ≤ 3 ∧ 0 ≤ l ∧ l ≤ 24 ∧ 0 ≤ r ∧ r ≤ 3 :=
    ⟨(y - 1) / 400, (y - 1) % 400 / 100, (y - 1) % 100 / 4, (y - 1) % 4, by omega, by omega, by omega, by omega, by omega, by omega, by omega⟩
  have hq : 0 ≤ q := by omega
  have ey : y = 400 * q + 100 * c + 4 * l + r + 1 := by omega
  have d4 : (y - 1) / 4 = 100 * q + 25 * c + l := by omega
  have d100 : (y - 1) / 100 = 4 * q + c := by omega
  have d400 : (y - 1) / 400 = q := by omega
  have hf : first y = 146097 * q + 36524 * c + 1461 * l + 365 * r + 1 := by
    unfold first
    rw [d4, d100, d400]
    omega
  -- the last day of a leap year
  have lp : dim y = 366 → r = 3 ∧ (l < 24 ∨ c = 3) := fun h => by
    have h' : leap y = true := by
      unfold dim at h
      by_cases z : leap y = true
      · exact z
      · rw [if_neg z] at h; cases h
    have := leap_iff.mp h'
    omega
  have hk2 : k < 365 ∨ (k = 365 ∧ r = 3 ∧ (l < 24 ∨ c = 3)) := by
    have : dim y = 365 ∨ dim y = 366 := by unfold dim; by_cases z : leap y = true <;> simp [z]
    rcases this with z | z
    · left; omega
    · by_cases w : k < 365
      · exact .inl w
      · exact .inr ⟨by omega, (lp z).1, (lp z).2⟩
  unfold yearOf
  rw [hf]
  have e1 : (146097 * q + 36524 * c + 1461 * l + 365 * r + 1 + k - 1) / 146097 = q := by omega
  have e2 : (146097 * q + 36524 * c + 1461 * l + 365 * r + 1 + k - 1) % 146097 = 36524 * c + 1461 * l + 365 * r + k := by omega
  rw [e1, e2]
  have e3 : (if 3 < (36524 * c + 1461 * l + 365 * r + k) / 36524 then 3 else (36524 * c + 1461 * l + 365 * r + k) / 36524) = c := by
    split <;> omega
  dsimp only
  rw [e3]
  have e4 : (36524 * c + 1461 * l + 365 * r + k - c * 36524) / 1461 = l := by omega
  have e5 : (36524 * c + 1461 * l + 365 * r + k - c * 36524) % 1461 = 365 * r + k := by omega
  rw [e4, e5]
  have e6 : (if 3 < (365 * r + k) / 365 then 3 else (365 * r + k) / 365) = r := by
    split <;> omega
  rw [e6]
  omega
theorem dim_le (y : Int) : 365 ≤ dim y ∧ dim y ≤ 366 := by unfold dim; by_cases z : leap y = true <;> simp [z]
theorem first_mono {y z : Int} (h0 : 1 ≤ y) (h : y ≤ z) : first y ≤ first z := by unfold first; omega
theorem first_bound {y : Int} (h0 : 1 ≤ y) (h : y ≤ 9999) : 1 ≤ first y ∧ first y + dim y ≤ 3652060 := by
  have a := first_mono (y := 1) (z := y) (by decide) h0
  have b := first_mono (y := y + 1) (z := 10000) (by omega) (by omega)
  rw [first_one] at a
  rw [first_succ] at b
  have : first 10000 = 3652060 := by decide
  omega
theorem dayNo_bound {y m d : Int} (h0 : 1 ≤ y) (h : y ≤ 9999) (h1 : 1 ≤ m) (h2 : m ≤ 12) (h3 : 1 ≤ d) (h4 : d ≤ len y m) : 1 ≤ dayNo y m d ∧ dayNo y m d ≤ 3652059 := by
  have := doy h1 h2 h3 h4
  have := first_bound h0 h
  unfold dayNo
  omega
theorem year_dayNo {y m d : Int} (h0 : 1 ≤ y) (h1 : 1 ≤ m) (h2 : m ≤ 12) (h3 : 1 ≤ d) (h4 : d ≤ len y m) : yearOf (dayNo y m d) = y := by
  have := doy h1 h2 h3 h4
  rw [show dayNo y m d = first y + (bef y (m - 1).toNat + d - 1) by unfold dayNo; omega]
  exact year_of h0 this.1 this.2
/-- the next day -/
def next (y m d : Int) : Int × Int × Int := if d < len y m then (y, m, d + 1) else if m < 12 then (y, m + 1, 1) else (y + 1, 1, 1)
def ok (y m d : Int) : Prop := 1 ≤ y ∧ y ≤ 9999 ∧ 1 ≤ m ∧ m ≤ 12 ∧ 1 ≤ d ∧ d ≤ len y m
theorem next_ok {y m d : Int} (h : ok y m d) : (next y m d).1 = 10000 ∧ dayNo y m d = 3652059 ∨ (¬ (next y m d).1 = 10000) ∧ ok (next y m d).1 (next y m d).2.1 (next y m d).2.2 ∧ dayNo (next y m d).1 (next y m d).2.1 (next y m d).2.2 = dayNo y m d + 1 := by
  obtain ⟨a, b, c, e, f, g⟩ := h
  unfold next
  by_cases h1 : d < len y m
  · rw [if_pos h1]
    refine .inr ⟨by show ¬ y = 10000; omega, ⟨a, b, c, e, by show 1 ≤ d + 1; omega, by show d + 1 ≤ len y m; omega⟩, ?_⟩
    show dayNo y m (d + 1) = _
    unfold dayNo
    omega
  · rw [if_neg h1]
    have el : bef y ((m - 1).toNat + 1) = bef y (m - 1).toNat + len y m := by rw [bef]; rw [show 1 + (((m - 1).toNat : Nat) : Int) = m by omega]
    by_cases h2 : m < 12
    · rw [if_pos h2]
      refine .inr ⟨by show ¬ y = 10000; omega, ⟨a, b, by show 1 ≤ m + 1; omega, by show m + 1 ≤ 12; omega, Int.le_refl 1, ?_⟩, ?_⟩
      · show 1 ≤ len y (m + 1)
        have := (len_pos (y := y) (m := m + 1) (by omega) (by omega)).1
        omega
      · show dayNo y (m + 1) 1 = _
        unfold dayNo
        rw [show (m + 1 - 1).toNat = (m - 1).toNat + 1 by omega, el]
        omega
    · rw [if_neg h2]
      have em : m = 12 := by omega
      subst em
      have b12 : bef y 12 = bef y 11 + len y 12 := el
      rw [bef12] at b12
      have ed : d = len y 12 := by omega
      have e2 : dayNo (y + 1) 1 1 = dayNo y 12 d + 1 := by
        unfold dayNo
        rw [first_succ]
        show first y + dim y + 0 + 1 - 1 = first y + bef y 11 + d - 1 + 1
        omega
      by_cases h3 : y + 1 = 10000
      · refine .inl ⟨h3, ?_⟩
        have : dayNo (y + 1) 1 1 = 3652060 := by rw [h3]; decide
        omega
      · refine .inr ⟨h3, ⟨by show 1 ≤ y + 1; omega, by show y + 1 ≤ 9999; omega, Int.le_refl 1, (show (1:Int) ≤ 12 by decide), Int.le_refl 1, ?_⟩, e2⟩
        show 1 ≤ len (y + 1) 1
        have := (len_pos (y := y + 1) (m := 1) (by omega) (by omega)).1
        omega
end Cal
namespace Cal
theorem bef_sum' (y : Int) (n : Nat) : ((List.range n).map fun i : Nat => len y (1 + (i : Int))).sum = bef y n := by
  induction n with
  | zero => rfl
  | succ n ih => rw [List.range_succ, List.map_append, List.sum_append, ih, bef]; simp
theorem bef_sum (y m : Int) : ((List.range (m - 1).toNat).map fun i : Nat => len y (1 + (i : Int))).sum = bef y (m - 1).toNat := bef_sum' y _
end Cal
namespace Cal
theorem len2' (y : Int) : len y 2 = 29 ↔ leap y = true := by
  unfold len
  by_cases h : leap y = true
  · rw [if_pos ⟨rfl, h⟩]; exact ⟨fun _ => h, fun _ => rfl⟩
  · rw [if_neg (fun z => h z.2)]; exact ⟨fun z => absurd z (by decide), fun z => absurd z h⟩
end Cal
namespace Cal
open PySem L2
/-! promises of the calendar -/
def spHas29 : Sp := fun vs H Q _ => ∃ y : Int, vs = [.int y] ∧ Q (.bl (leap y)) H
def spLen : Sp := fun vs H Q _ => ∃ y m : Int, vs = [.int y, .int m] ∧ 1 ≤ m ∧ m ≤ 12 ∧ Q (.int (len y m)) H
def spFirst : Sp := fun vs H Q _ => ∃ y : Int, vs = [.int y] ∧ Q (.int (first y)) H
def spYearOf : Sp := fun vs H Q _ => ∃ n : Int, vs = [.int n] ∧ ∀ H', Same H H' → Q (.int (yearOf n)) H'
def inNo (n : Int) : Bool := decide (1 ≤ n) && decide (n ≤ 3652059)
def spIsNo : Sp := fun vs H Q _ => ∃ n : Int, vs = [.int n] ∧ Q (.bl (inNo n)) H
def spCheckYear : Sp := fun vs H Q _ => ∃ y : Int, vs = [.int y] ∧ 1 ≤ y ∧ y ≤ 9999 ∧ Q .non H
def spIsLeap : Sp := fun vs H Q _ => ∃ y : Int, vs = [.int y] ∧ 1 ≤ y ∧ y ≤ 9999 ∧ Q (.bl (leap y)) H
def spDaysIn : Sp := fun vs H Q _ => ∃ y m : Int, vs = [.int y, .int m] ∧ 1 ≤ y ∧ y ≤ 9999 ∧ 1 ≤ m ∧ m ≤ 12 ∧ Q (.int (len y m)) H
def spDayNo : Sp := fun vs H Q _ => ∃ y m d : Int, vs = [.int y, .int m, .int d] ∧ ok y m d ∧ ∀ H', Same H H' → Q (.int (dayNo y m d)) H'
def spDateOf : Sp := fun vs H Q _ => ∃ y m d : Int, vs = [.int (dayNo y m d)] ∧ ok y m d ∧ ∀ H' p, Same H H' → H' p = some (.tup [.int y, .int m, .int d]) → Q (.ref p) H'
def spWeekday : Sp := fun vs H Q _ => ∃ n : Int, vs = [.int n] ∧ 1 ≤ n ∧ n ≤ 3652059 ∧ Q (.int ((n - 1) % 7)) H
def spLLen : Sp := fun vs H Q _ => ∃ y m : Int, vs = [.int y, .int m] ∧ 1 ≤ m ∧ m ≤ 12 ∧ ∀ H', Same H H' → Q (.int (len y m)) H'
def spLNext : Sp := fun vs H Q _ => ∃ y m d : Int, vs = [.int y, .int m, .int d] ∧ ok y m d ∧ ∀ H' p, Same H H' → H' p = some (.tup [.int (next y m d).1, .int (next y m d).2.1, .int (next y m d).2.2]) → Q (.ref p) H'
def spLYear : Sp := fun vs H Q _ => ∃ (d l : Addr) (k : Nat), vs = [.ref d] ∧ Dr.Draw H d l k ∧ k < 900000 ∧ ∀ (y : Int) H', 1 ≤ y → y ≤ 9999 → Dr.Draw H' d l (k + 2) → Dr.Kp d H H' → Q (.int y) H'
def spLDate : Sp := fun vs H Q _ => ∃ (a l : Addr) (k : Nat), vs = [.ref a] ∧ Dr.Draw H a l k ∧ k < 900000 ∧ ∀ (y m d : Int) (p : Addr) H', ok y m d → Dr.Draw H' a l (k + 6) → Dr.Kp a H H' → p ≠ a → H' p = some (.tup [.int y, .int m, .int d]) → Q (.ref p) H'
def spDayRight : Sp := fun vs H Q _ => ∃ (p : Addr) (y m d : Int), vs = [.ref p] ∧ H p = some (.tup [.int y, .int m, .int d]) ∧ ok y m d ∧ ∀ H', Same H H' → Q (.bl true) H'
def spLaw (K : PySem.W.Frag) : Sp := fun vs H Q _ => ∃ (a : Addr) (ns : List Int), vs = [.ref a] ∧ SqL K H a (ns.map V.int) ∧ ns.length ≤ 63 ∧ ∀ H', Q (.bl true) H'
theorem lens_at {m : Int} (h1 : 1 ≤ m) (h2 : m ≤ 12) : atI [V.int 31, V.int 28, V.int 31, V.int 30, V.int 31, V.int 30, V.int 31, V.int 31, V.int 30, V.int 31, V.int 30, V.int 31] (m - 1) = some (.int (lens.getD (m - 1).toNat 0)) := by
  obtain ⟨k, rfl⟩ : ∃ k : Nat, m = (k : Int) + 1 := ⟨(m - 1).toNat, by omega⟩
  have hk : k < 12 := by omega
  rw [show (k : Int) + 1 - 1 = (k : Int) by omega]
  refine atI_nat ?_
  clear h1 h2
  rw [Int.toNat_natCast]
  revert k
  decide
end Cal
namespace Cal
open PySem L2
theorem len2 (y : Int) : decide (V.int (len y 2) = V.int 29) = leap y := by
  cases h : leap y with
  | true => exact decide_eq_true (by rw [(len2' y).mpr h])
  | false => exact decide_eq_false fun z => by have := (len2' y).mp (V.int.inj z); rw [h] at this; cases this
def spLNo : Sp := fun vs H Q _ => ∃ y m d : Int, vs = [.int y, .int m, .int d] ∧ ok y m d ∧ ∀ H', Same H H' → Q (.int (dayNo y m d)) H'
theorem len30 {m : Int} (h1 : 1 ≤ m) (h2 : m ≤ 12) (c : inV (.int m) [V.int 4, V.int 6, V.int 9, V.int 11] = true) : lens.getD (m - 1).toNat 0 = 30 := by
  obtain ⟨k, rfl⟩ : ∃ k : Nat, m = (k : Int) + 1 := ⟨(m - 1).toNat, by omega⟩
  have hk : k < 12 := by omega
  rw [show ((k : Int) + 1 - 1).toNat = k by omega]
  have : ∀ k : Nat, k < 12 → inV (.int ((k : Int) + 1)) [V.int 4, V.int 6, V.int 9, V.int 11] = true → lens.getD k 0 = 30 := by decide
  exact this k hk c
theorem len31 {m : Int} (h1 : 1 ≤ m) (h2 : m ≤ 12) (h3 : ¬ m = 2) (c : inV (.int m) [V.int 4, V.int 6, V.int 9, V.int 11] = false) : lens.getD (m - 1).toNat 0 = 31 := by
  obtain ⟨k, rfl⟩ : ∃ k : Nat, m = (k : Int) + 1 := ⟨(m - 1).toNat, by omega⟩
  have hk : k < 12 := by omega
  rw [show ((k : Int) + 1 - 1).toNat = k by omega]
  have : ∀ k : Nat, k < 12 → ¬ ((k : Int) + 1 = 2) → inV (.int ((k : Int) + 1)) [V.int 4, V.int 6, V.int 9, V.int 11] = false → lens.getD k 0 = 31 := by decide
  exact this k hk h3 c
end Cal
namespace Cal
open PySem L2
def isYr : V → Bool
  | .int i => decide (1 ≤ i ∧ i ≤ 9999)
  | _ => false
theorem isYr_of {v : V} (h : isYr v = true) : ∃ y, v = .int y ∧ 1 ≤ y ∧ y ≤ 9999 := by
  cases v with
  | int i => exact ⟨i, rfl, of_decide_eq_true h⟩
  | _ => cases h
def isMo : V → Bool
  | .int i => decide (1 ≤ i ∧ i ≤ 12)
  | _ => false
theorem isMo_of {v : V} (h : isMo v = true) : ∃ y, v = .int y ∧ 1 ≤ y ∧ y ≤ 12 := by
  cases v with
  | int i => exact ⟨i, rfl, of_decide_eq_true h⟩
  | _ => cases h
theorem allMo {r : Int} (h0 : 0 ≤ r) (h1 : r < 12) : [V.int 1, V.int 2, V.int 2, V.int 3, V.int 12, V.int (1 + r)].all isMo = true := by
  simp only [List.all_cons, List.all_nil, isMo, Bool.and_true, Bool.and_eq_true, decide_eq_true_eq]
  omega
section
variable {K : PySem.W.Frag} {H : Hp} {p : Addr} {n y m d : Int}
theorem dp2 (e : H p = some (.lst [.int n, .int n])) : Dp K H (.ref p) (.list [.int n, .int n]) := .lst (SqL.of e) (.cons (.int _) (.cons (.int _) .nil))
theorem dp3 (e : H p = some (.tup [.int y, .int m, .int d])) : Dp K H (.ref p) (.tuple [.int y, .int m, .int d]) := .tup (SqT.of e) (.cons (.int _) (.cons (.int _) (.cons (.int _) .nil)))
theorem sml2 (hb : 1 ≤ n ∧ n ≤ 3652059) : Sml (.list [.int n, .int n]) := by
  simp only [Sml, SmlAll]
  exact ⟨by omega, by omega, trivial⟩
theorem sh2 (hb : 1 ≤ n ∧ n ≤ 3652059) : shows (.list [.int n, .int n]) := shows_sml (sml2 hb) (by simp [wgt, wgtAll]) (by simp [PyData.depth, PyData.depthAll])
theorem sml3 (k : ok y m d) : Sml (.tuple [.int y, .int m, .int d]) := by
  obtain ⟨h1, h2, h3, h4, h5, h6⟩ := k
  have := len_pos (y := y) h3 h4
  simp only [Sml, SmlAll]
  exact ⟨by omega, by omega, by omega, trivial⟩
theorem sh3 (k : ok y m d) : shows (.tuple [.int y, .int m, .int d]) := shows_sml (sml3 k) (by simp [wgt, wgtAll]) (by simp [PyData.depth, PyData.depthAll])
theorem shp3 (k : ok y m d) : SeqAt.shaped (.tuple [.int y, .int m, .int d]) = true := shaped_sml (sml3 k) (by simp [PyData.depth, PyData.depthAll])
theorem eqv3 : PyData.eqv (.tuple [.int y, .int m, .int d]) (.tuple [.int y, .int m, .int d]) = true := by simp [PyData.eqv, PyData.eqvAll]
end
end Cal
namespace Cal
open PySem L2
section
variable {K : PySem.W.Frag} {H : Hp} {p : Addr} {n y m d : Int} {b : Bool}
theorem shb (b : Bool) : shows (.bool b) := shows_sml (by simp only [Sml]) (by simp [wgt]) (by simp [PyData.depth])
theorem dpw (e : H p = some (.lst [.int ((n - 1) % 7), .int ((n - 1) % 7)])) : Dp K H (.ref p) (.list [.int ((n - 1) % 7), .int ((n - 1) % 7)]) := dp2 e
theorem shpw (hb : 1 ≤ n ∧ n ≤ 3652059) : SeqAt.shaped (.list [.int ((n - 1) % 7), .int ((n - 1) % 7)]) = true := shaped_sml (by simp only [Sml, SmlAll]; exact ⟨by omega, by omega, trivial⟩) (by simp [PyData.depth, PyData.depthAll])
theorem eqvw : PyData.eqv (.list [.int ((n - 1) % 7), .int ((n - 1) % 7)]) (.list [.int ((n - 1) % 7), .int ((n - 1) % 7)]) = true := by simp [PyData.eqv, PyData.eqvAll]
theorem dpb (e : H p = some (.lst [.bl b, .bl b])) : Dp K H (.ref p) (.list [.bool b, .bool b]) := .lst (SqL.of e) (.cons (.bl _) (.cons (.bl _) .nil))
theorem shb2 (b : Bool) : shows (.list [.bool b, .bool b]) := shows_sml (by simp only [Sml, SmlAll]; exact ⟨trivial, trivial, trivial⟩) (by simp [wgt, wgtAll]) (by simp [PyData.depth, PyData.depthAll])
def lensOf (y : Int) : List Int := (List.range 12).map fun i : Nat => len y (1 + (i : Int))
theorem dpl (e : H p = some (.lst ((List.range 12).map fun i : Nat => V.int (len y (1 + (i : Int)))))) : Dp K H (.ref p) (.list ((lensOf y).map .int)) := .lst (SqL.of e) (by
  unfold lensOf
  rw [List.map_map]
  generalize List.range 12 = l
  induction l with
  | nil => exact .nil
  | cons a r ih => exact .cons (.int _) ih)
theorem lensOf_cases (y : Int) : lensOf y = [31, 28, 31, 30, 31, 30, 31, 31, 30, 31, 30, 31] ∨ lensOf y = [31, 29, 31, 30, 31, 30, 31, 31, 30, 31, 30, 31] := by
  cases h : leap y with
  | true =>
    refine .inr ?_
    have : ∀ m : Int, len y m = if m = 2 then 29 else lens.getD (m - 1).toNat 0 := fun m => by
      unfold len
      by_cases q : m = 2
      · rw [if_pos ⟨q, h⟩, if_pos q]
      · rw [if_neg (fun z => q z.1), if_neg q]
    unfold lensOf
    simp only [this]
    decide
  | false =>
    refine .inl ?_
    have : ∀ m : Int, len y m = lens.getD (m - 1).toNat 0 := fun m => by
      unfold len
      rw [if_neg (fun z => by rw [h] at z; cases z.2)]
    unfold lensOf
    simp only [this]
    decide
theorem shpl (y : Int) : SeqAt.shaped (.list ((lensOf y).map .int)) = true := by
  rcases lensOf_cases y with h | h <;> rw [h] <;> decide +kernel
theorem eqvl : PyData.eqv (.list ((lensOf y).map .int)) (.list ((lensOf y).map .int)) = true := by
  rcases lensOf_cases y with h | h <;> rw [h] <;> decide +kernel
end
instance (y m d : Int) : Decidable (ok y m d) := inferInstanceAs (Decidable (_ ∧ _))
end Cal
namespace Cal
open PySem L2
theorem dp5 {K : PySem.W.Frag} {H : Hp} {p t u : Addr} {a b c y m d y' m' d' : Int} (e : H p = some (.lst [.int a, .ref t, .int b, .ref u, .int c])) (e1 : H t = some (.tup [.int y, .int m, .int d])) (e2 : H u = some (.tup [.int y', .int m', .int d'])) :
    Dp K H (.ref p) (.list [.int a, .tuple [.int y, .int m, .int d], .int b, .tuple [.int y', .int m', .int d'], .int c]) := .lst (SqL.of e) (.cons (.int _) (.cons (dp3 e1) (.cons (.int _) (.cons (dp3 e2) (.cons (.int _) .nil)))))
end Cal
namespace K34
open PySem L2
abbrev P : Program := PySem.Challenge.pw_headerfold_k34_days_and_their_numbers
local macro_rules | `(tactic| walk_at "g1") => `(tactic| first
  | ((with_reducible show tSeq _ _ _ _ _); refine g_seq ?_)
  | ((with_reducible show tAsg _ _ _ _ _); refine g_asg ?_)
  | ((with_reducible show gName _ _ _ _ _); refine g_name ?_)
  | ((with_reducible show tVar _ _ _ _); refine g_var rfl ?_)
  | ((with_reducible show tC _ _ _ _); refine g_c ?_)
  | ((with_reducible show tOp _ _ _ _ _ _); refine g_op ?_)
  | ((with_reducible show tUn _ _ _ _ _); refine g_un ?_)
  | ((with_reducible show rI0 _ _ _ _ _); refine g_I0 ?_)
  | ((with_reducible show rI _ _ _ _ _ _); refine g_I (by walk_at "side") ?_)
  | ((with_reducible show rU _ _ _ _); refine g_U ?_)
  | ((with_reducible show rEq _ _ _ _); refine g_eq rfl ?_)
  | ((with_reducible show rNe _ _ _ _); refine g_ne rfl ?_)
  | ((with_reducible show tCons _ _ _ _ _); refine g_tcons ?_)
  | ((with_reducible show tNil _ _ _); refine g_tnil ?_)
  | ((with_reducible show tCall _ _ _ _ _ _ _); refine g_call ?_)
  | ((with_reducible show tCB _ _ _ _ _); refine g_cb ?_)
  | ((with_reducible show tTup _ _ _ _); refine g_tup ?_)
  | ((with_reducible show tLst _ _ _ _); refine g_lst ?_)
  | ((with_reducible show tRet _ _ _ _); refine g_ret ?_)
  | ((with_reducible show tDrop _ _ _ _); refine g_drop ?_)
  | ((with_reducible show tNext _ _ _); refine g_next ?_)
  | ((with_reducible show tCont _ _ _); refine g_cont ?_)
  | ((with_reducible show tBreak _ _ _); refine g_break ?_)
  | ((with_reducible show tIfS _ _ _ _ _ _); refine g_ifs ?_)
  | ((with_reducible show tIf _ _ _ _ _ _); refine g_ife ?_)
  | ((with_reducible show tTest _ _ _ _); refine g_test ?_)
  | ((with_reducible show tB _ _ _ _); refine g_tb ?_)
  | ((with_reducible show tAnd _ _ _ _ _); refine g_and ?_)
  | ((with_reducible show tOr _ _ _ _ _); refine g_or ?_)
  | ((with_reducible show tNot _ _ _ _); refine g_not ?_)
  | ((with_reducible show tAndV _ _ _ _ _); refine g_andV ?_)
  | ((with_reducible show tOrV _ _ _ _ _); refine g_orV ?_)
  | ((with_reducible show tNotV _ _ _ _); refine g_notV ?_)
  | ((with_reducible show tChain _ _ _ _ _ _ _ _); refine g_chain ?_)
  | ((with_reducible show tDGet _ _ _ _ _); refine g_dget ?_)
  | ((with_reducible show sDPut _ _ _ _ _ _); refine g_dput ?_)
  | ((with_reducible show tFor _ _ _ _ _ _); refine g_for ?_)
  | ((with_reducible show tSl _ _ _ _ _ _ _); refine g_sl ?_)
  | ((with_reducible show tNoPart _ _ _); refine g_nop ?_)
  | ((with_reducible show tPart _ _ _ _); refine g_part ?_)
  | ((with_reducible show tM1 _ _ _ _ _ _); refine g_m1 ?_)
  | ((with_reducible show tM0 _ _ _ _ _); refine g_m0 ?_)
  | ((with_reducible show tBM _ _ _ _ _ _ _ _); refine g_bm ?_)
  | ((with_reducible show rMin1 _ _ _); refine g_min ?_)
  | ((with_reducible show rMax1 _ _ _); refine g_max ?_)
  | ((with_reducible show rOrd1 _ _ _); refine g_ord ?_)
  | ((with_reducible show rLtZ _ _ _ _); refine g_ltz ?_)
  | ((with_reducible show rIsN _ _ _ _); refine g_isn ?_)
  | ((with_reducible show rNotN _ _ _ _); refine g_notn ?_)
  | ((with_reducible show rInS _ _ _ _); refine g_inS ?_)
  | ((with_reducible show rNotInS _ _ _ _); refine g_notInS ?_)
  | ((with_reducible show iList _ _ _ _ _); refine g_ilist ?_)
  | ((with_reducible show iStr _ _ _ _); refine g_istr ?_)
  | ((with_reducible show iRng1 _ _ _ _); refine g_irng1 ?_)
  | ((with_reducible show tDisp _ _ _ _); refine g_disp ?_)
  | ((with_reducible show tPairs (_ :: _) _ _ _); refine g_pcons ?_)
  | ((with_reducible show tPairs [] _ _ _); refine g_pnil ?_)
  | ((with_reducible show rIsi _ [_, V.ty _] _ _); first | refine g_isint (by assumption) ?_ | refine g_isbl (by assumption) ?_ | refine g_isstr (by assumption) ?_)
  | ((with_reducible show rLeZ _ _ _ _); refine g_lez ?_)
  | ((with_reducible show tYes _ _ _); refine g_yes ?_)
  | ((with_reducible show tPar _ _ _ _ _ _); refine g_par ?_)
  | ((with_reducible show tDNewK _ _ _); refine g_dnew ?_)
  | ((with_reducible show gCons _ _ (_ :: _) _ _ _); refine g_gcons ?_)
  | ((with_reducible show gNil [] _ _ _); refine g_gnil ?_)
  | ((with_reducible show tLc _ _ _ _ _ _ _ _); refine g_lc ?_)
  | ((with_reducible show tKw0 _ _ _ _ _ _ _ _); refine g_kw0 ?_)
  | (with_reducible refine g_two ?_)
  | (with_reducible refine g_bl ?_)
  | (with_reducible refine g_int ?_)
  | (with_reducible refine iteF ?_)
  | (with_reducible refine iteT ?_)
  | (with_reducible refine g_isz ?_)
  | ((with_reducible show ∃ a v, V.ref _ = V.ref a ∧ DGet _ a _ (some v) ∧ _); refine g_dgets (by first | exact Dr.get_at (by assumption) | exact Dr.get_left (by assumption) | exact Dr.get_cells (by assumption) | exact Dr.get_used (by assumption)) ?_)
  | ((with_reducible show ∃ a H4, V.ref _ = V.ref a ∧ DPut _ a _ _ H4 ∧ _); refine g_dputs (by first | exact Dr.put_at (by assumption) | exact Dr.put_left (by assumption) | exact Dr.put_used (by assumption)) ?_)
  )
local macro_rules | `(tactic| walk_at "go") => `(tactic| repeat walk_at "g1")
local macro_rules | `(tactic| walk_at "side") => `(tactic| first
  | decide
  | omega
  | exact ⟨by decide, by decide⟩
  | exact ⟨by omega, by omega⟩
  | exact Or.inl ⟨by omega, by omega⟩
  | exact Or.inr ⟨by omega, by omega⟩
  | (show (0 : Int) < _; omega))
local macro_rules | `(tactic| walk_at "g1") => `(tactic| first
  | ((with_reducible show tRaiseE _ _ _ _ _ _ _); refine g_raise ?_)
  | ((with_reducible show tTryH _ _ _ _ _ _ _ _); refine g_tryH ?_)
  | ((with_reducible show tKw0S _ _ _ _ _ _ _ _); refine g_kw0S ?_)
  | ((with_reducible show iRng3 _ _ _ _); refine g_irng3 ?_)
  | ((with_reducible show tHeld _ _ _ _ _ _); refine g_held ?_)
  | ((with_reducible show tRevL _ _ _ _ _); refine g_revl ?_)
  | ((with_reducible show rStartZ _ _ _ _); refine g_startz ?_)
  | ((with_reducible show rCountZ _ _ _ _); refine g_countz ?_)
  )
local macro_rules | `(tactic| walk_at "g1") => `(tactic| first
  | ((with_reducible show tFld _ _ _ _ _ _); refine g_fld ?_)
  | ((with_reducible show sFld _ _ _ _ _ _ _); refine g_fldS ?_)
  | ((with_reducible show tProp _ _ _ _ _ _ _ _); refine g_prop ?_)
  | ((with_reducible show tMake _ _ _ _ _ _ _ _); refine g_make ?_)
  | ((with_reducible show ClX.tCMeth _ _ _ _ _ _ _ _); refine g_cmeth ?_)
  | ((with_reducible show StX.tStar _ _ _ _ _ _); refine g_starA ?_)
  | ((with_reducible show iEnumT _ _ _ _ _); refine g_ienT ?_)
  | ((with_reducible show iEnumZ _ _ _ _); refine g_ienZ ?_)
  | ((with_reducible show tRevT _ _ _ _ _); refine g_revT ?_)
  | ((with_reducible show tHex _ _ _ _); refine g_hex ?_)
  )
local macro_rules | `(tactic| walk_at "g1") => `(tactic| first
  | ((with_reducible show iTup _ _ _ _ _); refine g_itup ?_)
  )
local macro_rules | `(tactic| walk_at "g1") => `(tactic| first
  | ((with_reducible show ∃ i, Tx.iv _ = V.int i ∧ _); refine g_int ?_)
  )
local macro_rules | `(tactic| walk_at "g1") => `(tactic| first
  | ((with_reducible show iZipM _ _ _ _ _); refine g_zipM ?_)
  | ((with_reducible show tSMeth _ _ _ _ _ _ _ _); refine g_smeth ?_)
  | ((with_reducible show tMeth _ _ _ _ _ _ _ _ _ _); refine g_meth ?_)
  | ((with_reducible show gSub _ _ _ _ _ _ _); refine g_gsub ?_)
  | ((with_reducible show tCallN _ _ _ _ _ _ _ _ _ _); refine g_callN ?_)
  )
local macro_rules | `(tactic| walk_at "g1") => `(tactic| first
  | ((with_reducible show iRng2 _ _ _ _); refine g_irng2 ?_)
  )
local macro_rules | `(tactic| walk_at "hp") => `(tactic| first
  | assumption
  | (refine L2.Same.ap (by assumption) ?_; walk_at "hp")
  | (refine Dr.Kp.ap (by assumption) (by assumption) ?_; walk_at "hp")
  | (refine L2.Same.apL (by assumption) ?_; walk_at "hp")
  | (refine L2.Same.apT (by assumption) ?_; walk_at "hp")
  | (refine L2.SqL.of' ?_; walk_at "hp")
  | (refine L2.SqT.of' ?_; walk_at "hp"))
local macro_rules | `(tactic| walk_at "sm") => `(tactic| first
  | assumption
  | exact L2.Same.refl _
  | (refine L2.Same.trans ?_ (by assumption); walk_at "sm"))
local macro_rules | `(tactic| walk_at "g1") => `(tactic| first
  | ((with_reducible show tLst _ _ _ _); refine L2.g_lstN ?_)
  | ((with_reducible show tTup _ _ _ _); refine L2.g_tupN ?_)
  | ((with_reducible show tPar3 _ _ _ _ _ _ _); refine L2.g_par3 ?_)
  | (with_reducible refine L2.g_three ?_)
  )
def topS (i : Nat) : Stmt := PySem.Challenge.pw_headerfold_k34_days_and_their_numbers.main.body.getD i (.Pass ⟨0, 0, 0, 0⟩)
abbrev s_is_number : Stmt := topS 5
abbrev sN_is_number : List Str := ["thing"]
theorem sc_is_number : FnScope sN_is_number ["thing"] (defScope s_is_number) := ⟨rfl, rfl, rfl, by decide +kernel, rfl, by decide +kernel, by decide +kernel⟩
abbrev s_is_between : Stmt := topS 6
abbrev sN_is_between : List Str := ["thing", "low", "high"]
theorem sc_is_between : FnScope sN_is_between ["thing", "low", "high"] (defScope s_is_between) := ⟨rfl, rfl, rfl, by decide +kernel, rfl, by decide +kernel, by decide +kernel⟩
abbrev s_is_leap : Stmt := topS 13
abbrev sN_is_leap : List Str := ["year"]
theorem sc_is_leap : FnScope sN_is_leap ["year"] (defScope s_is_leap) := ⟨rfl, rfl, rfl, by decide +kernel, rfl, by decide +kernel, by decide +kernel⟩
abbrev s_days_in : Stmt := topS 14
abbrev sN_days_in : List Str := ["year", "month"]
theorem sc_days_in : FnScope sN_days_in ["year", "month"] (defScope s_days_in) := ⟨rfl, rfl, rfl, by decide +kernel, rfl, by decide +kernel, by decide +kernel⟩
abbrev s_day_number : Stmt := topS 15
abbrev sN_day_number : List Str := ["year", "month", "day", "one"]
theorem sc_day_number : FnScope sN_day_number ["year", "month", "day"] (defScope s_day_number) := ⟨rfl, rfl, rfl, by decide +kernel, rfl, by decide +kernel, by decide +kernel⟩
abbrev s_date_of : Stmt := topS 16
abbrev sN_date_of : List Str := ["number", "year", "rest", "month"]
theorem sc_date_of : FnScope sN_date_of ["number"] (defScope s_date_of) := ⟨rfl, rfl, rfl, by decide +kernel, rfl, by decide +kernel, by decide +kernel⟩
abbrev s_weekday_of : Stmt := topS 17
abbrev sN_weekday_of : List Str := ["number"]
theorem sc_weekday_of : FnScope sN_weekday_of ["number"] (defScope s_weekday_of) := ⟨rfl, rfl, rfl, by decide +kernel, rfl, by decide +kernel, by decide +kernel⟩
abbrev s_is_number_of_day : Stmt := topS 18
abbrev sN_is_number_of_day : List Str := ["thing"]
theorem sc_is_number_of_day : FnScope sN_is_number_of_day ["thing"] (defScope s_is_number_of_day) := ⟨rfl, rfl, rfl, by decide +kernel, rfl, by decide +kernel, by decide +kernel⟩
abbrev s__check_year : Stmt := topS 19
abbrev sN__check_year : List Str := ["year"]
theorem sc__check_year : FnScope sN__check_year ["year"] (defScope s__check_year) := ⟨rfl, rfl, rfl, by decide +kernel, rfl, by decide +kernel, by decide +kernel⟩
abbrev s__has_29 : Stmt := topS 20
abbrev sN__has_29 : List Str := ["year"]
theorem sc__has_29 : FnScope sN__has_29 ["year"] (defScope s__has_29) := ⟨rfl, rfl, rfl, by decide +kernel, rfl, by decide +kernel, by decide +kernel⟩
abbrev s__length_of : Stmt := topS 21
abbrev sN__length_of : List Str := ["year", "month"]
theorem sc__length_of : FnScope sN__length_of ["year", "month"] (defScope s__length_of) := ⟨rfl, rfl, rfl, by decide +kernel, rfl, by decide +kernel, by decide +kernel⟩
abbrev s__first_number : Stmt := topS 22
abbrev sN__first_number : List Str := ["year", "before"]
theorem sc__first_number : FnScope sN__first_number ["year"] (defScope s__first_number) := ⟨rfl, rfl, rfl, by decide +kernel, rfl, by decide +kernel, by decide +kernel⟩
abbrev s__year_of : Stmt := topS 23
abbrev sN__year_of : List Str := ["number", "fours", "rest", "centuries", "leaps"]
theorem sc__year_of : FnScope sN__year_of ["number"] (defScope s__year_of) := ⟨rfl, rfl, rfl, by decide +kernel, rfl, by decide +kernel, by decide +kernel⟩
abbrev s__law_begin : Stmt := topS 25
abbrev sN__law_begin : List Str := ["script"]
theorem sc__law_begin : FnScope sN__law_begin ["script"] (defScope s__law_begin) := ⟨rfl, rfl, rfl, by decide +kernel, rfl, by decide +kernel, by decide +kernel⟩
abbrev s__law_mixed : Stmt := topS 26
abbrev sN__law_mixed : List Str := ["cell", "k", "mixed"]
theorem sc__law_mixed : FnScope sN__law_mixed ["cell", "k"] (defScope s__law_mixed) := ⟨rfl, rfl, rfl, by decide +kernel, rfl, by decide +kernel, by decide +kernel⟩
abbrev s__law_next : Stmt := topS 27
abbrev sN__law_next : List Str := ["draw", "bound", "found", "cells", "cell"]
theorem sc__law_next : FnScope sN__law_next ["draw", "bound"] (defScope s__law_next) := ⟨rfl, rfl, rfl, by decide +kernel, rfl, by decide +kernel, by decide +kernel⟩
abbrev s__law_length : Stmt := topS 28
abbrev sN__law_length : List Str := ["y", "mo"]
theorem sc__law_length : FnScope sN__law_length ["y", "mo"] (defScope s__law_length) := ⟨rfl, rfl, rfl, by decide +kernel, rfl, by decide +kernel, by decide +kernel⟩
abbrev s__law_number : Stmt := topS 29
abbrev sN__law_number : List Str := ["y", "mo", "d", "found", "earlier"]
theorem sc__law_number : FnScope sN__law_number ["y", "mo", "d"] (defScope s__law_number) := ⟨rfl, rfl, rfl, by decide +kernel, rfl, by decide +kernel, by decide +kernel⟩
abbrev s__law_next_day : Stmt := topS 30
abbrev sN__law_next_day : List Str := ["y", "mo", "d"]
theorem sc__law_next_day : FnScope sN__law_next_day ["y", "mo", "d"] (defScope s__law_next_day) := ⟨rfl, rfl, rfl, by decide +kernel, rfl, by decide +kernel, by decide +kernel⟩
abbrev s__law_year : Stmt := topS 31
abbrev sN__law_year : List Str := ["draw", "some"]
theorem sc__law_year : FnScope sN__law_year ["draw"] (defScope s__law_year) := ⟨rfl, rfl, rfl, by decide +kernel, rfl, by decide +kernel, by decide +kernel⟩
abbrev s__law_date : Stmt := topS 32
abbrev sN__law_date : List Str := ["draw", "y", "mo", "way", "most"]
theorem sc__law_date : FnScope sN__law_date ["draw"] (defScope s__law_date) := ⟨rfl, rfl, rfl, by decide +kernel, rfl, by decide +kernel, by decide +kernel⟩
abbrev s__law_day_right : Stmt := topS 33
abbrev sN__law_day_right : List Str := ["seen", "y", "mo", "d", "due", "told", "later"]
theorem sc__law_day_right : FnScope sN__law_day_right ["seen"] (defScope s__law_day_right) := ⟨rfl, rfl, rfl, by decide +kernel, rfl, by decide +kernel, by decide +kernel⟩
abbrev s_law : Stmt := topS 34
abbrev sN_law : List Str := ["script", "draw", "turn", "y", "told", "mo"]
theorem sc_law : FnScope sN_law ["script"] (defScope s_law) := ⟨rfl, rfl, rfl, by decide +kernel, rfl, by decide +kernel, by decide +kernel⟩
/-- what the top has written -/
structure Txt (K : PySem.W.Frag) (mg : Str → Option Value) where
  f_is_number : Addr
  fd_is_number : FuncData
  F_is_number : Fun K "is_number" "is_number" s_is_number f_is_number fd_is_number
  g_is_number : mg "is_number" = some (.ref f_is_number)
  b_is_number : Binds K fd_is_number ["thing"] []
  f_is_between : Addr
  fd_is_between : FuncData
  F_is_between : Fun K "is_between" "is_between" s_is_between f_is_between fd_is_between
  g_is_between : mg "is_between" = some (.ref f_is_between)
  b_is_between : Binds K fd_is_between ["thing", "low", "high"] []
  f_is_leap : Addr
  fd_is_leap : FuncData
  F_is_leap : Fun K "is_leap" "is_leap" s_is_leap f_is_leap fd_is_leap
  g_is_leap : mg "is_leap" = some (.ref f_is_leap)
  b_is_leap : Binds K fd_is_leap ["year"] []
  f_days_in : Addr
  fd_days_in : FuncData
  F_days_in : Fun K "days_in" "days_in" s_days_in f_days_in fd_days_in
  g_days_in : mg "days_in" = some (.ref f_days_in)
  b_days_in : Binds K fd_days_in ["year", "month"] []
  f_day_number : Addr
  fd_day_number : FuncData
  F_day_number : Fun K "day_number" "day_number" s_day_number f_day_number fd_day_number
  g_day_number : mg "day_number" = some (.ref f_day_number)
  b_day_number : Binds K fd_day_number ["year", "month", "day"] []
  f_date_of : Addr
  fd_date_of : FuncData
  F_date_of : Fun K "date_of" "date_of" s_date_of f_date_of fd_date_of
  g_date_of : mg "date_of" = some (.ref f_date_of)
  b_date_of : Binds K fd_date_of ["number"] []
  f_weekday_of : Addr
  fd_weekday_of : FuncData
  F_weekday_of : Fun K "weekday_of" "weekday_of" s_weekday_of f_weekday_of fd_weekday_of
  g_weekday_of : mg "weekday_of" = some (.ref f_weekday_of)
  b_weekday_of : Binds K fd_weekday_of ["number"] []
  f_is_number_of_day : Addr
  fd_is_number_of_day : FuncData
  F_is_number_of_day : Fun K "is_number_of_day" "is_number_of_day" s_is_number_of_day f_is_number_of_day fd_is_number_of_day
  g_is_number_of_day : mg "is_number_of_day" = some (.ref f_is_number_of_day)
  b_is_number_of_day : Binds K fd_is_number_of_day ["thing"] []
  f__check_year : Addr
  fd__check_year : FuncData
  F__check_year : Fun K "_check_year" "_check_year" s__check_year f__check_year fd__check_year
  g__check_year : mg "_check_year" = some (.ref f__check_year)
  b__check_year : Binds K fd__check_year ["year"] []
  f__has_29 : Addr
  fd__has_29 : FuncData
  F__has_29 : Fun K "_has_29" "_has_29" s__has_29 f__has_29 fd__has_29
  g__has_29 : mg "_has_29" = some (.ref f__has_29)
  b__has_29 : Binds K fd__has_29 ["year"] []
  f__length_of : Addr
  fd__length_of : FuncData
  F__length_of : Fun K "_length_of" "_length_of" s__length_of f__length_of fd__length_of
  g__length_of : mg "_length_of" = some (.ref f__length_of)
  b__length_of : Binds K fd__length_of ["year", "month"] []
  f__first_number : Addr
  fd__first_number : FuncData
  F__first_number : Fun K "_first_number" "_first_number" s__first_number f__first_number fd__first_number
  g__first_number : mg "_first_number" = some (.ref f__first_number)
  b__first_number : Binds K fd__first_number ["year"] []
  f__year_of : Addr
  fd__year_of : FuncData
  F__year_of : Fun K "_year_of" "_year_of" s__year_of f__year_of fd__year_of
  g__year_of : mg "_year_of" = some (.ref f__year_of)
  b__year_of : Binds K fd__year_of ["number"] []
  f__law_begin : Addr
  fd__law_begin : FuncData
  F__law_begin : Fun K "_law_begin" "_law_begin" s__law_begin f__law_begin fd__law_begin
  g__law_begin : mg "_law_begin" = some (.ref f__law_begin)
  b__law_begin : Binds K fd__law_begin ["script"] []
  f__law_mixed : Addr
  fd__law_mixed : FuncData
  F__law_mixed : Fun K "_law_mixed" "_law_mixed" s__law_mixed f__law_mixed fd__law_mixed
  g__law_mixed : mg "_law_mixed" = some (.ref f__law_mixed)
  b__law_mixed : Binds K fd__law_mixed ["cell", "k"] []
  f__law_next : Addr
  fd__law_next : FuncData
  F__law_next : Fun K "_law_next" "_law_next" s__law_next f__law_next fd__law_next
  g__law_next : mg "_law_next" = some (.ref f__law_next)
  b__law_next : Binds K fd__law_next ["draw", "bound"] []
  f__law_length : Addr
  fd__law_length : FuncData
  F__law_length : Fun K "_law_length" "_law_length" s__law_length f__law_length fd__law_length
  g__law_length : mg "_law_length" = some (.ref f__law_length)
  b__law_length : Binds K fd__law_length ["y", "mo"] []
  f__law_number : Addr
  fd__law_number : FuncData
  F__law_number : Fun K "_law_number" "_law_number" s__law_number f__law_number fd__law_number
  g__law_number : mg "_law_number" = some (.ref f__law_number)
  b__law_number : Binds K fd__law_number ["y", "mo", "d"] []
  f__law_next_day : Addr
  fd__law_next_day : FuncData
  F__law_next_day : Fun K "_law_next_day" "_law_next_day" s__law_next_day f__law_next_day fd__law_next_day
  g__law_next_day : mg "_law_next_day" = some (.ref f__law_next_day)
  b__law_next_day : Binds K fd__law_next_day ["y", "mo", "d"] []
  f__law_year : Addr
  fd__law_year : FuncData
  F__law_year : Fun K "_law_year" "_law_year" s__law_year f__law_year fd__law_year
  g__law_year : mg "_law_year" = some (.ref f__law_year)
  b__law_year : Binds K fd__law_year ["draw"] []
  f__law_date : Addr
  fd__law_date : FuncData
  F__law_date : Fun K "_law_date" "_law_date" s__law_date f__law_date fd__law_date
  g__law_date : mg "_law_date" = some (.ref f__law_date)
  b__law_date : Binds K fd__law_date ["draw"] []
  f__law_day_right : Addr
  fd__law_day_right : FuncData
  F__law_day_right : Fun K "_law_day_right" "_law_day_right" s__law_day_right f__law_day_right fd__law_day_right
  g__law_day_right : mg "_law_day_right" = some (.ref f__law_day_right)
  b__law_day_right : Binds K fd__law_day_right ["seen"] []
  f_law : Addr
  fd_law : FuncData
  F_law : Fun K "law" "law" s_law f_law fd_law
  g_law : mg "law" = some (.ref f_law)
  b_law : Binds K fd_law ["script"] []
  t_LAST_NUMBER : Tok
  g_LAST_NUMBER : mg "LAST_NUMBER" = some (.int 3652059 t_LAST_NUMBER)
  a__LENGTHS : Addr
  g__LENGTHS : mg "_LENGTHS" = some (.ref a__LENGTHS)
  q__LENGTHS : ∀ H, SqT K H a__LENGTHS [.int 31, .int 28, .int 31, .int 30, .int 31, .int 30, .int 31, .int 31, .int 30, .int 31, .int 30, .int 31]
  t__DAYS_OF_400_YEARS : Tok
  g__DAYS_OF_400_YEARS : mg "_DAYS_OF_400_YEARS" = some (.int 146097 t__DAYS_OF_400_YEARS)
  t__DAYS_OF_100_YEARS : Tok
  g__DAYS_OF_100_YEARS : mg "_DAYS_OF_100_YEARS" = some (.int 36524 t__DAYS_OF_100_YEARS)
  t__DAYS_OF_4_YEARS : Tok
  g__DAYS_OF_4_YEARS : mg "_DAYS_OF_4_YEARS" = some (.int 1461 t__DAYS_OF_4_YEARS)
  m_len : mg "len" = none
  m_range : mg "range" = none
  m_min : mg "min" = none
  m_isinstance : mg "isinstance" = none
  m_int : mg "int" = none
  m_bool : mg "bool" = none
  m_repr : mg "repr" = none
  m_sum : mg "sum" = none
  m_divmod : mg "divmod" = none
section
variable {w : World} {K : PySem.W.Frag} {mg : Str → Option Value} {base : Heap}
theorem ok__law_mixed (T : Txt K mg) : FnOk P w K mg base CX0 1 T.f__law_mixed T.fd__law_mixed ["cell", "k"] (Dr.spMixed) := by
  refine T.F__law_mixed.ok sc__law_mixed (fun vs H Q E h => ?_) (fun cdv A outer s H vs Q E hr h => ?_)
  · obtain ⟨c, k, rfl, _⟩ := h
    rfl
  · obtain ⟨c, k, rfl, h0, h1, q⟩ := h
    have hu := hu_of hr
    refine ⟨_, (pss_cons (ps_set (i := 2) sc__law_mixed.nd rfl (Or.inl rfl) (pe_op op_mod (pe_op op_add (pe_op op_add (pe_op op_add (pe_op op_mod (pv 0) pe_int) (pe_op op_mul (pe_op op_mul pe_int (pv 1)) (pv 1))) (pe_op op_mul pe_int (pv 1))) pe_int) pe_int)) (pss_cons (ps_set (i := 2) sc__law_mixed.nd rfl (Or.inl rfl) (pe_op op_mod (pe_op op_mul (pe_op op_mod (pe_op op_mul (pv 2) (pv 2)) pe_int) (pv 2)) pe_int)) (pss_one (ps_ret (pe_op op_fdiv (pe_op op_mod (pe_op op_mul (pv 2) (pe_op op_add pe_int (pe_op op_mul pe_int (pe_op op_mod (pv 1) pe_int)))) pe_int) pe_int))))), ?_⟩
    walk_at "go"
    refine q _ ?_ ?_
    · omega
    · omega
theorem ok__law_next (T : Txt K mg) : FnOk P w K mg base CX0 2 T.f__law_next T.fd__law_next ["draw", "bound"] (Dr.spNext) := by
  refine T.F__law_next.ok sc__law_next (fun vs H Q E h => ?_) (fun cdv A outer s H vs Q E hr h => ?_)
  · obtain ⟨d, l, m, b, rfl, _⟩ := h
    rfl
  · obtain ⟨d, l, m, b, rfl, D, hm, hb0, hb1, q⟩ := h
    have hu := hu_of hr
    refine ⟨_, (pss_cons (ps_if (pt_cmpR op_gt (pe_dget hu (pv 0) pe_str (fun _ _ => rfl)) pe_int (nomark _)) (pss_cons (ps_set (i := 2) sc__law_next.nd rfl (Or.inl rfl) (pe_op op_mod (pe_dget hu (pv 0) pe_str (fun _ _ => rfl)) (pv 1))) (pss_cons (ps_dput hu (pv 0) pe_str (pe_op op_fdiv (pe_dget hu (pv 0) pe_str (fun _ _ => rfl)) (pv 1)) rfl) (pss_one (ps_ret (pv 2))))) pss_nil) (pss_cons (ps_set (i := 3) sc__law_next.nd rfl (Or.inl rfl) (pe_dget hu (pv 0) pe_str (fun _ _ => rfl))) (pss_cons (ps_set (i := 4) sc__law_next.nd rfl (Or.inl rfl) (pe_ix ix_list (pv 3) (pe_op op_mod (pe_dget hu (pv 0) pe_str (fun _ _ => rfl)) (pe_callB call_len1 (by rfl) T.m_len PySem.boot_len (pa_cons (pv 3) pa_nil))) (fun _ _ => rfl))) (pss_cons (ps_dput hu (pv 0) pe_str (pe_op op_add (pe_dget hu (pv 0) pe_str (fun _ _ => rfl)) pe_int) rfl) (pss_cons (ps_if (PW.pt (pw_and (pt_cmpR op_ge (pv 4) (pe_op op_pow pe_int pe_int) (nomark _)) (pw_and1 (pt_cmpR op_le (pe_dget hu (pv 0) pe_str (fun _ _ => rfl)) (pe_callB call_len1 (by rfl) T.m_len PySem.boot_len (pa_cons (pv 3) pa_nil)) (nomark _))))) (pss_cons (ps_dput hu (pv 0) pe_str (pe_op op_fdiv (pv 4) (pv 1)) rfl) (pss_one (ps_ret (pe_op op_mod (pv 4) (pv 1))))) pss_nil) (pss_cons (ps_dput hu (pv 0) pe_str (pe_op op_add (pe_dget hu (pv 0) pe_str (fun _ _ => rfl)) pe_int) rfl) (pss_one (ps_ret (pe_op op_mod (pe_call (ok__law_mixed T) (hr.mono (by decide)) (by rfl) T.g__law_mixed T.F__law_mixed.kp T.b__law_mixed .nil pass0 (pa_cons (pe_call (ok__law_mixed T) (hr.mono (by decide)) (by rfl) T.g__law_mixed T.F__law_mixed.kp T.b__law_mixed .nil pass0 (pa_cons (pv 4) (pa_cons (pe_dget hu (pv 0) pe_str (fun _ _ => rfl)) pa_nil))) (pa_cons (pe_dget hu (pv 0) pe_str (fun _ _ => rfl)) pa_nil))) (pv 1)))))))))), ?_⟩
    obtain ⟨ns, a, lf, u, h1, h2, h3, h4, h5, h6, h7, h8, h9⟩ := id D
    have nld : l ≠ d := ne_of h2 h1 (by intro z; cases z)
    have hS : ∀ o, SqL K (upd H d o) l (ns.map V.int) := fun o => SqL.of (by rw [upd_ne nld]; exact h2)
    have hS2 : ∀ o o2, (upd (upd H d o) d o2) l = some (.lst (ns.map V.int)) := fun o o2 => by rw [upd_ne nld, upd_ne nld]; exact h2
    have hN : ∀ o p, H p = none → (upd H d o) p = none := fun o p e => by rw [upd_ne (fun z => by rw [z, h1] at e; cases e)]; exact e
    have hN2 : ∀ o o2 p, H p = none → (upd (upd H d o) d o2) p = none := fun o o2 p e => by rw [upd_ne (fun z => by rw [z, h1] at e; cases e)]; exact hN o p e
    have hl : 0 < (ns.length : Int) := by omega
    walk_at "go"
    refine g_ifd (fun hc => ?_) (fun hc => ?_)
    · walk_at "go"
      refine q _ _ (Int.emod_nonneg _ (by omega)) (Int.emod_lt_of_pos _ hb0) ?_ Dr.Kp.at (hN _)
      exact ⟨ns, a, _, u, upd_same, by rw [upd_ne nld]; exact h2, h3, h4, h5, by omega, Int.ediv_nonneg h7 (by omega), h8, by omega⟩
    · walk_at "go"
      refine g_len (SqL.of h2) ?_
      have hb := Dr.modB (x := a) (n := ((ns.map V.int).length : Int)) (by rw [List.length_map]; exact hl)
      refine g_I (show (0 : Int) < _ by rw [List.length_map]; exact hl) ?_
      obtain ⟨c, ec⟩ := atI_int (ns := ns) hb.1 (by rw [← List.length_map (f := V.int)]; exact hb.2)
      refine g_ixl (SqL.of h2) ec ?_
      have k1 : (upd H d (.dK (Dr.dkv l (a + 1) lf u))) d = some (.dK (Dr.dkv l (a + 1) lf u)) := upd_same
      walk_at "go"
      refine g_ifd (fun hd => ?_) (fun hd => ?_)
      · walk_at "go"
        refine g_len (hS _) ?_
        walk_at "go"
        refine g_ifd (fun he => ?_) (fun he => ?_)
        · walk_at "go"
          refine q _ _ (Int.emod_nonneg _ (by omega)) (Int.emod_lt_of_pos _ hb0) ?_ (Dr.Kp.at.trans Dr.Kp.at) (hN2 _ _)
          have hc0 : 0 ≤ c := Int.le_trans (by decide) hd
          exact ⟨ns, a + 1, _, u, upd_same, hS2 _ _, h3, h4, by omega, by omega, Int.ediv_nonneg hc0 (by omega), h8, by omega⟩
        · walk_at "go"
          have k2 : (upd (upd H d (.dK (Dr.dkv l (a + 1) lf u))) d (.dK (Dr.dkv l (a + 1) lf (u + 1)))) d = some (.dK (Dr.dkv l (a + 1) lf (u + 1))) := upd_same
          walk_at "go"
          refine ⟨c, a + 1, rfl, by omega, by omega, fun r1 r2 r3 => ?_⟩
          walk_at "go"
          refine ⟨r1, u + 1, rfl, by omega, by omega, fun r4 r5 r6 => ?_⟩
          walk_at "go"
          refine q _ _ (Int.emod_nonneg _ (by omega)) (Int.emod_lt_of_pos _ hb0) ?_ (Dr.Kp.at.trans Dr.Kp.at) (hN2 _ _)
          exact ⟨ns, a + 1, lf, u + 1, upd_same, hS2 _ _, h3, h4, by omega, by omega, h7, by omega, by omega⟩
      · walk_at "go"
        have k2 : (upd (upd H d (.dK (Dr.dkv l (a + 1) lf u))) d (.dK (Dr.dkv l (a + 1) lf (u + 1)))) d = some (.dK (Dr.dkv l (a + 1) lf (u + 1))) := upd_same
        walk_at "go"
        refine ⟨c, a + 1, rfl, by omega, by omega, fun r1 r2 r3 => ?_⟩
        walk_at "go"
        refine ⟨r1, u + 1, rfl, by omega, by omega, fun r4 r5 r6 => ?_⟩
        walk_at "go"
        refine q _ _ (Int.emod_nonneg _ (by omega)) (Int.emod_lt_of_pos _ hb0) ?_ (Dr.Kp.at.trans Dr.Kp.at) (hN2 _ _)
        exact ⟨ns, a + 1, lf, u + 1, upd_same, hS2 _ _, h3, h4, by omega, by omega, h7, by omega, by omega⟩
theorem ok__law_begin (T : Txt K mg) : FnOk P w K mg base CX0 1 T.f__law_begin T.fd__law_begin ["script"] (Dr.spBegin K) := by
  refine T.F__law_begin.ok sc__law_begin (fun vs H Q E h => ?_) (fun cdv A outer s H vs Q E hr h => ?_)
  · obtain ⟨a, ns, rfl, _⟩ := h
    rfl
  · obtain ⟨a, ns, rfl, hS, hl, q⟩ := h
    have hu := hu_of hr
    refine ⟨_, (pss_one (ps_ret (pe_disp (pps_cons pe_str (pe_op op_catS (pv 0) (pe_lst (pa_cons pe_int pa_nil))) (pps_cons pe_str pe_int (pps_cons pe_str pe_int (pps_cons pe_str pe_int pps_nil)))) (by rfl) (by rfl) (fun z => by cases z) (by decide)))), ?_⟩
    walk_at "go"
    intro d hd
    walk_at "go"
    refine ⟨by show 1 ≤ sizeLine; decide, fun z hz => ?_⟩
    have ndz : d ≠ z := fun e => by rw [← e, upd_same] at hz; cases hz
    have s1 : Same H (upd H d (.dK [])) := same_new hd
    have s2 := s1.trans (same_new (o := .lst [V.int 0]) hz)
    refine g_cats (s2.seq hS) (SqL.of upd_same) (by rw [List.length_map]; show _ + 1 ≤ sizeLine; exact Nat.le_trans (Nat.add_le_add_right hl 1) (by decide)) fun l hl2 => ?_
    have ndl : d ≠ l := fun e => by rw [← e, upd_ne ndz, upd_same] at hl2; cases hl2
    have s3 := s2.trans (same_new (o := .lst (ns.map V.int ++ [V.int 0])) hl2)
    walk_at "go"
    refine ⟨by rw [upd_ne ndl, upd_ne ndz, upd_same], [((Sum.inr ("cells" : Str) : Key), V.ref l), (Sum.inr ("at" : Str), .int 0), (Sum.inr ("left" : Str), .int 0), (Sum.inr ("used" : Str), .int 0)], rfl, by show 4 ≤ 15; decide, ?_⟩
    rw [Dr.mrg]
    refine q d l _ hd (s2.free hl2) ⟨ns ++ [0], 0, 0, 0, upd_same, ?_, ?_, ?_, by decide, by decide, by decide, by decide, by decide⟩ (s3.mut hd)
    · rw [upd_ne ndl.symm, upd_same, List.map_append]
      rfl
    · rw [List.length_append]
      exact Nat.lt_of_lt_of_le (by decide : 0 < 1) (Nat.le_add_left _ _)
    · rw [List.length_append]
      exact Nat.add_le_add_right hl 1
end
section
variable {w : World} {K : PySem.W.Frag} {mg : Str → Option Value} {base : Heap}
theorem ok_is_number (T : Txt K mg) : FnOk P w K mg base CX0 1 T.f_is_number T.fd_is_number ["thing"] (Mk.spNum) := by
  refine T.F_is_number.ok sc_is_number (fun vs H Q E h => ?_) (fun cdv A outer s H vs Q E hr h => ?_)
  · obtain ⟨x, rfl, _⟩ := h
    rfl
  · obtain ⟨x, rfl, a, q⟩ := h
    have hu := hu_of hr
    refine ⟨_, (pss_one (ps_ret (pe_and (pe_callB call_isi (by rfl) T.m_isinstance (by decide +kernel) (pa_cons (pv 0) (pa_cons (pe_ty (n := "int") (by rfl) T.m_int (by decide +kernel)) pa_nil))) (pe_one (pe_not (pe_callB call_isi (by rfl) T.m_isinstance (by decide +kernel) (pa_cons (pv 0) (pa_cons (pe_ty (n := "bool") (by rfl) T.m_bool (by decide +kernel)) pa_nil)))))))), ?_⟩
    walk_at "go"
    refine g_if (fun c1 => ?_) (fun c1 => ?_)
    · walk_at "go"
      have e : (isIntV x && !isBlV x) = !isBlV x := by rw [c1]; rfl
      rw [e] at q
      exact q
    · have e : (isIntV x && !isBlV x) = false := by rw [c1]; rfl
      rw [e] at q
      exact q
theorem ok_is_between (T : Txt K mg) : FnOk P w K mg base CX0 2 T.f_is_between T.fd_is_between ["thing", "low", "high"] (Mk.spBetween) := by
  refine T.F_is_between.ok sc_is_between (fun vs H Q E h => ?_) (fun cdv A outer s H vs Q E hr h => ?_)
  · obtain ⟨x, lo, hi, rfl, _⟩ := h
    rfl
  · obtain ⟨x, lo, hi, rfl, a, q⟩ := h
    have hu := hu_of hr
    refine ⟨_, (pss_one (ps_ret (pe_and (pe_call (ok_is_number T) (hr.mono (by decide)) (by rfl) T.g_is_number T.F_is_number.kp T.b_is_number .nil pass0 (pa_cons (pv 0) pa_nil)) (pe_one (pe_chain op_le op_le (pv 1) (pv 0) (pv 2)))))), ?_⟩
    walk_at "go"
    refine ⟨x, rfl, a, ?_⟩
    walk_at "go"
    refine g_if (fun c1 => ?_) (fun c1 => ?_)
    · rw [Bool.and_eq_true, Bool.not_eq_true'] at c1
      obtain ⟨i, rfl⟩ := Mk.int_of c1.1 c1.2
      walk_at "go"
      refine g_ifd (fun c3 => ?_) (fun c3 => ?_)
      · walk_at "go"
        have e : Mk.btw (.int i) lo hi = decide (i ≤ hi) := by show (decide (lo ≤ i) && decide (i ≤ hi)) = _; rw [decide_eq_true c3, Bool.true_and]
        rw [e] at q
        exact q
      · have e : Mk.btw (.int i) lo hi = false := by show (decide (lo ≤ i) && decide (i ≤ hi)) = _; rw [decide_eq_false c3, Bool.false_and]
        rw [e] at q
        exact q
    · have e : Mk.btw x lo hi = false := by
        cases hx : isIntV x with
        | false => exact Mk.btw_no hx
        | true =>
          rw [hx, Bool.true_and, Bool.not_eq_false'] at c1
          exact Mk.btw_bl c1
      rw [e] at q
      exact q
-- year
theorem ok__has_29 (T : Txt K mg) : FnOk P w K mg base CX0 1 T.f__has_29 T.fd__has_29 ["year"] (Cal.spHas29) := by
  refine T.F__has_29.ok sc__has_29 (fun vs H Q E h => ?_) (fun cdv A outer s H vs Q E hr h => ?_)
  · obtain ⟨y, rfl, _⟩ := h
    rfl
  · obtain ⟨y, rfl, q⟩ := h
    have hu := hu_of hr
    refine ⟨_, (pss_one (ps_ret (pe_and (pe_cmpR op_eq (pe_op op_mod (pv 0) pe_int) pe_int (nomark _)) (pe_one (pe_or (pe_cmpR op_ne (pe_op op_mod (pv 0) pe_int) pe_int (nomark _)) (pe_one (pe_cmpR op_eq (pe_op op_mod (pv 0) pe_int) pe_int (nomark _)))))))), ?_⟩
    unfold Cal.leap at q
    walk_at "go"
    refine g_ifd (fun c1 => ?_) (fun c1 => ?_)
    · rw [decide_eq_true (V.int.inj c1), Bool.true_and] at q
      walk_at "go"
      refine g_ifn (fun c2 => ?_) (fun c2 => ?_)
      · rw [decide_eq_false (fun e => c2 (by rw [e])), Bool.not_false, Bool.true_or] at q
        walk_at "go"
        exact q
      · rw [decide_eq_true (V.int.inj c2), Bool.not_true, Bool.false_or] at q
        walk_at "go"
        rw [show decide (V.int (y % 400) = V.int 0) = decide (y % 400 = 0) from decide_eq_decide.mpr ⟨V.int.inj, fun e => by rw [e]⟩]
        exact q
    · rw [decide_eq_false (fun e => c1 (by rw [e])), Bool.false_and] at q
      walk_at "go"
      exact q
-- year month
theorem ok__length_of (T : Txt K mg) : FnOk P w K mg base CX0 2 T.f__length_of T.fd__length_of ["year", "month"] (Cal.spLen) := by
  refine T.F__length_of.ok sc__length_of (fun vs H Q E h => ?_) (fun cdv A outer s H vs Q E hr h => ?_)
  · obtain ⟨y, m, rfl, _⟩ := h
    rfl
  · obtain ⟨y, m, rfl, h1, h2, q⟩ := h
    have hu := hu_of hr
    refine ⟨_, (pss_cons (ps_if (PW.pt (pw_and (pt_cmpR op_eq (pv 1) pe_int (nomark _)) (pw_and1 (pt_val (pe_call (ok__has_29 T) (hr.mono (by decide)) (by rfl) T.g__has_29 T.F__has_29.kp T.b__has_29 .nil pass0 (pa_cons (pv 0) pa_nil)))))) (pss_one (ps_ret pe_int)) pss_nil) (pss_one (ps_ret (pe_ix ix_tup (pe_glob (v := .ref T.a__LENGTHS) (by rfl) T.g__LENGTHS rfl) (pe_op op_sub (pv 1) pe_int) (fun _ _ => rfl))))), ?_⟩
    unfold Cal.len at q
    walk_at "go"
    refine g_ifd (fun c1 => ?_) (fun c1 => ?_)
    · have e := V.int.inj c1
      walk_at "go"
      refine ⟨y, rfl, ?_⟩
      walk_at "go"
      refine g_if (fun c2 => ?_) (fun c2 => ?_)
      · rw [if_pos ⟨e, c2⟩] at q
        walk_at "go"
        exact q
      · rw [if_neg (fun z => by rw [z.2] at c2; cases c2)] at q
        walk_at "go"
        exact g_ixt (T.q__LENGTHS H) (Cal.lens_at h1 h2) q
    · rw [if_neg (fun z => c1 (by rw [z.1]))] at q
      walk_at "go"
      exact g_ixt (T.q__LENGTHS H) (Cal.lens_at h1 h2) q
-- year before
theorem ok__first_number (T : Txt K mg) : FnOk P w K mg base CX0 1 T.f__first_number T.fd__first_number ["year"] (Cal.spFirst) := by
  refine T.F__first_number.ok sc__first_number (fun vs H Q E h => ?_) (fun cdv A outer s H vs Q E hr h => ?_)
  · obtain ⟨y, rfl, _⟩ := h
    rfl
  · obtain ⟨y, rfl, q⟩ := h
    have hu := hu_of hr
    refine ⟨_, (pss_cons (ps_set (i := 1) sc__first_number.nd rfl (Or.inl rfl) (pe_op op_sub (pv 0) pe_int)) (pss_one (ps_ret (pe_op op_add (pe_op op_add (pe_op op_sub (pe_op op_add (pe_op op_mul pe_int (pv 1)) (pe_op op_fdiv (pv 1) pe_int)) (pe_op op_fdiv (pv 1) pe_int)) (pe_op op_fdiv (pv 1) pe_int)) pe_int)))), ?_⟩
    walk_at "go"
    exact q
-- number fours rest centuries leaps
theorem ok__year_of (T : Txt K mg) : FnOk P w K mg base CX0 1 T.f__year_of T.fd__year_of ["number"] (Cal.spYearOf) := by
  refine T.F__year_of.ok sc__year_of (fun vs H Q E h => ?_) (fun cdv A outer s H vs Q E hr h => ?_)
  · obtain ⟨n, rfl, _⟩ := h
    rfl
  · obtain ⟨n, rfl, q⟩ := h
    have hu := hu_of hr
    refine ⟨_, (pss_cons (ps_asg (pe_callB call_divmodN (by rfl) T.m_divmod (by decide +kernel) (pa_cons (pe_op op_sub (pv 0) pe_int) (pa_cons (pe_gi (by rfl) T.g__DAYS_OF_400_YEARS) pa_nil))) (pg_tup (by rfl) (pgs_cons (pg_name (i := 1) sc__year_of.nd rfl (Or.inl rfl)) (pgs_cons (pg_name (i := 2) sc__year_of.nd rfl (Or.inl rfl)) pgs_nil)))) (pss_cons (ps_set (i := 3) sc__year_of.nd rfl (Or.inl rfl) (pe_callB (call_min1 (by rfl)) (by rfl) T.m_min (by decide +kernel) (pa_cons (pe_op op_fdiv (pv 2) (pe_gi (by rfl) T.g__DAYS_OF_100_YEARS)) (pa_cons pe_int pa_nil)))) (pss_cons (ps_set (i := 2) sc__year_of.nd rfl (Or.inl rfl) (pe_op op_sub (pv 2) (pe_op op_mul (pv 3) (pe_gi (by rfl) T.g__DAYS_OF_100_YEARS)))) (pss_cons (ps_asg (pe_callB call_divmodN (by rfl) T.m_divmod (by decide +kernel) (pa_cons (pv 2) (pa_cons (pe_gi (by rfl) T.g__DAYS_OF_4_YEARS) pa_nil))) (pg_tup (by rfl) (pgs_cons (pg_name (i := 4) sc__year_of.nd rfl (Or.inl rfl)) (pgs_cons (pg_name (i := 2) sc__year_of.nd rfl (Or.inl rfl)) pgs_nil)))) (pss_one (ps_ret (pe_op op_add (pe_op op_add (pe_op op_add (pe_op op_add (pe_op op_mul (pv 1) pe_int) (pe_op op_mul (pv 3) pe_int)) (pe_op op_mul (pv 4) pe_int)) (pe_callB (call_min1 (by rfl)) (by rfl) T.m_min (by decide +kernel) (pa_cons (pe_op op_fdiv (pv 2) pe_int) (pa_cons pe_int pa_nil)))) pe_int))))))), ?_⟩
    walk_at "go"
    refine g_divmod ⟨by decide, by decide⟩ fun p hp => ?_
    walk_at "go"
    refine g_gtup (SqT.of upd_same) rfl ?_
    have s1 := same_new (o := .tup [V.int ((n - 1) / 146097), V.int ((n - 1) % 146097)]) hp
    generalize upd H p _ = H1 at s1 ⊢
    walk_at "go"
    refine g_divmod ⟨by decide, by decide⟩ fun p hp => ?_
    walk_at "go"
    refine g_gtup (SqT.of upd_same) rfl ?_
    walk_at "go"
    exact q _ (s1.trans (same_new hp))
-- thing
theorem ok_is_number_of_day (T : Txt K mg) : FnOk P w K mg base CX0 3 T.f_is_number_of_day T.fd_is_number_of_day ["thing"] (Cal.spIsNo) := by
  refine T.F_is_number_of_day.ok sc_is_number_of_day (fun vs H Q E h => ?_) (fun cdv A outer s H vs Q E hr h => ?_)
  · obtain ⟨n, rfl, _⟩ := h
    rfl
  · obtain ⟨n, rfl, q⟩ := h
    have hu := hu_of hr
    refine ⟨_, (pss_one (ps_ret (pe_call (ok_is_between T) (hr.mono (by decide)) (by rfl) T.g_is_between T.F_is_between.kp T.b_is_between .nil pass0 (pa_cons (pv 0) (pa_cons pe_int (pa_cons (pe_gi (by rfl) T.g_LAST_NUMBER) pa_nil)))))), ?_⟩
    walk_at "go"
    exact ⟨.int n, 1, 3652059, rfl, .int _, q⟩
-- year
theorem ok__check_year (T : Txt K mg) : FnOk P w K mg base CX0 3 T.f__check_year T.fd__check_year ["year"] (Cal.spCheckYear) := by
  refine T.F__check_year.ok sc__check_year (fun vs H Q E h => ?_) (fun cdv A outer s H vs Q E hr h => ?_)
  · obtain ⟨y, rfl, _⟩ := h
    rfl
  · obtain ⟨y, rfl, h1, h2, q⟩ := h
    have hu := hu_of hr
    refine ⟨_, (pss_one (ps_if (pt_not (pt_val (pe_call (ok_is_between T) (hr.mono (by decide)) (by rfl) T.g_is_between T.F_is_between.kp T.b_is_between .nil pass0 (pa_cons (pv 0) (pa_cons pe_int (pa_cons pe_int pa_nil)))))) (pss_one ps_never) pss_nil)), ?_⟩
    walk_at "go"
    refine ⟨.int y, 1, 9999, rfl, .int _, ?_⟩
    rw [show Mk.btw (.int y) 1 9999 = true by show (decide (1 ≤ y) && decide (y ≤ 9999)) = true; rw [decide_eq_true h1, decide_eq_true h2]; rfl]
    walk_at "go"
    refine iteF ?_
    walk_at "go"
    exact q
-- year
theorem ok_is_leap (T : Txt K mg) : FnOk P w K mg base CX0 4 T.f_is_leap T.fd_is_leap ["year"] (Cal.spIsLeap) := by
  refine T.F_is_leap.ok sc_is_leap (fun vs H Q E h => ?_) (fun cdv A outer s H vs Q E hr h => ?_)
  · obtain ⟨y, rfl, _⟩ := h
    rfl
  · obtain ⟨y, rfl, h1, h2, q⟩ := h
    have hu := hu_of hr
    refine ⟨_, (pss_cons (ps_expr (pe_call (ok__check_year T) (hr.mono (by decide)) (by rfl) T.g__check_year T.F__check_year.kp T.b__check_year .nil pass0 (pa_cons (pv 0) pa_nil))) (pss_one (ps_ret (pe_call (ok__has_29 T) (hr.mono (by decide)) (by rfl) T.g__has_29 T.F__has_29.kp T.b__has_29 .nil pass0 (pa_cons (pv 0) pa_nil))))), ?_⟩
    walk_at "go"
    refine ⟨y, rfl, h1, h2, ?_⟩
    walk_at "go"
    exact ⟨y, rfl, q⟩
-- year month
theorem ok_days_in (T : Txt K mg) : FnOk P w K mg base CX0 4 T.f_days_in T.fd_days_in ["year", "month"] (Cal.spDaysIn) := by
  refine T.F_days_in.ok sc_days_in (fun vs H Q E h => ?_) (fun cdv A outer s H vs Q E hr h => ?_)
  · obtain ⟨y, m, rfl, _⟩ := h
    rfl
  · obtain ⟨y, m, rfl, h1, h2, h3, h4, q⟩ := h
    have hu := hu_of hr
    refine ⟨_, (pss_cons (ps_expr (pe_call (ok__check_year T) (hr.mono (by decide)) (by rfl) T.g__check_year T.F__check_year.kp T.b__check_year .nil pass0 (pa_cons (pv 0) pa_nil))) (pss_cons (ps_if (pt_not (pt_val (pe_call (ok_is_between T) (hr.mono (by decide)) (by rfl) T.g_is_between T.F_is_between.kp T.b_is_between .nil pass0 (pa_cons (pv 1) (pa_cons pe_int (pa_cons pe_int pa_nil)))))) (pss_one ps_never) pss_nil) (pss_one (ps_ret (pe_call (ok__length_of T) (hr.mono (by decide)) (by rfl) T.g__length_of T.F__length_of.kp T.b__length_of .nil pass0 (pa_cons (pv 0) (pa_cons (pv 1) pa_nil))))))), ?_⟩
    walk_at "go"
    refine ⟨y, rfl, h1, h2, ?_⟩
    walk_at "go"
    refine ⟨.int m, 1, 12, rfl, .int _, ?_⟩
    rw [show Mk.btw (.int m) 1 12 = true by show (decide (1 ≤ m) && decide (m ≤ 12)) = true; rw [decide_eq_true h3, decide_eq_true h4]; rfl]
    walk_at "go"
    refine iteF ?_
    walk_at "go"
    exact ⟨y, m, rfl, h3, h4, q⟩
-- year month day one
theorem ok_day_number (T : Txt K mg) : FnOk P w K mg base CX0 5 T.f_day_number T.fd_day_number ["year", "month", "day"] (Cal.spDayNo) := by
  refine T.F_day_number.ok sc_day_number (fun vs H Q E h => ?_) (fun cdv A outer s H vs Q E hr h => ?_)
  · obtain ⟨y, m, d, rfl, _⟩ := h
    rfl
  · obtain ⟨y, m, d, rfl, ⟨h1, h2, h3, h4, h5, h6⟩, q⟩ := h
    have hu := hu_of hr
    refine ⟨_, (pss_cons (ps_if (pt_not (pt_val (pe_call (ok_is_between T) (hr.mono (by decide)) (by rfl) T.g_is_between T.F_is_between.kp T.b_is_between .nil pass0 (pa_cons (pv 2) (pa_cons pe_int (pa_cons (pe_call (ok_days_in T) (hr.mono (by decide)) (by rfl) T.g_days_in T.F_days_in.kp T.b_days_in .nil pass0 (pa_cons (pv 0) (pa_cons (pv 1) pa_nil))) pa_nil)))))) (pss_one ps_never) pss_nil) (pss_one (ps_ret (pe_op op_sub (pe_op op_add (pe_op op_add (pe_call (ok__first_number T) (hr.mono (by decide)) (by rfl) T.g__first_number T.F__first_number.kp T.b__first_number .nil pass0 (pa_cons (pv 0) pa_nil)) (pe_callB (cr_sum (by rfl)) (by rfl) T.m_sum (by decide +kernel) (pa_cons (pe_lc (own := [("one", 3)]) (g := gName 3) (tt := tYes) (by rfl) sc_day_number.nd (pi_range2 (by rfl) T.m_range (pa_cons pe_int (pa_cons (pv 1) pa_nil))) (blkOk_by (own := [("one", 3)]) (N := sN_day_number) (sc := defScope s_day_number) (by decide +kernel)) (fun _ _ _ _ _ => (pg_name (i := 3) sc_day_number.nd rfl (Or.inl rfl))) (fun _ _ _ _ _ => pts_nil) (fun _ _ _ _ _ => (pe_call (ok__length_of T) (hr.mono (by decide)) (by rfl) T.g__length_of T.F__length_of.kp T.b__length_of .nil pass0 (pa_cons (pv 0) (pa_cons (pv 3) pa_nil))))) pa_nil))) (pv 2)) pe_int)))), ?_⟩
    walk_at "go"
    refine ⟨y, m, rfl, h1, h2, h3, h4, ?_⟩
    walk_at "go"
    refine ⟨.int d, 1, Cal.len y m, rfl, .int _, ?_⟩
    rw [show Mk.btw (.int d) 1 (Cal.len y m) = true by show (decide (1 ≤ d) && decide (d ≤ Cal.len y m)) = true; rw [decide_eq_true h5, decide_eq_true h6]; rfl]
    walk_at "go"
    refine iteF ?_
    walk_at "go"
    refine ⟨y, rfl, ?_⟩
    walk_at "go"
    refine ⟨1, m, rfl, ⟨by decide, by decide, by omega, by omega⟩, fun D hD => lc_pureR (fun i : Nat => V.int (Cal.len y (1 + (i : Int)))) hD (by omega) (fun i H1 N hi s1 kk => ?_) fun H1 s1 e1 => ?_⟩
    · walk_at "go"
      refine ⟨rfl, ?_⟩
      walk_at "go"
      exact ⟨y, _, rfl, by omega, by omega, kk H1 (Same.refl _)⟩
    · walk_at "go"
      refine g_sum (ns := (List.range (m - 1).toNat).map fun i : Nat => Cal.len y (1 + (i : Int))) (SqL.of (by rw [List.map_map]; exact e1)) ?_
      rw [Cal.bef_sum]
      walk_at "go"
      exact q H1 s1
-- number year rest month
theorem ok_date_of (T : Txt K mg) : FnOk P w K mg base CX0 4 T.f_date_of T.fd_date_of ["number"] (Cal.spDateOf) := by
  refine T.F_date_of.ok sc_date_of (fun vs H Q E h => ?_) (fun cdv A outer s H vs Q E hr h => ?_)
  · obtain ⟨y, m, d, rfl, _⟩ := h
    rfl
  · obtain ⟨y, m, d, rfl, K0, q⟩ := h
    have hu := hu_of hr
    refine ⟨_, (pss_cons (ps_if (pt_not (pt_val (pe_call (ok_is_number_of_day T) (hr.mono (by decide)) (by rfl) T.g_is_number_of_day T.F_is_number_of_day.kp T.b_is_number_of_day .nil pass0 (pa_cons (pv 0) pa_nil)))) (pss_one ps_never) pss_nil) (pss_cons (ps_set (i := 1) sc_date_of.nd rfl (Or.inl rfl) (pe_call (ok__year_of T) (hr.mono (by decide)) (by rfl) T.g__year_of T.F__year_of.kp T.b__year_of .nil pass0 (pa_cons (pv 0) pa_nil))) (pss_cons (ps_set (i := 2) sc_date_of.nd rfl (Or.inl rfl) (pe_op op_sub (pv 0) (pe_call (ok__first_number T) (hr.mono (by decide)) (by rfl) T.g__first_number T.F__first_number.kp T.b__first_number .nil pass0 (pa_cons (pv 1) pa_nil)))) (pss_cons (ps_set (i := 3) sc_date_of.nd rfl (Or.inl rfl) pe_int) (pss_cons (ps_while PassesOwn.never (pt_cmpR op_ge (pv 2) (pe_call (ok__length_of T) (hr.mono (by decide)) (by rfl) T.g__length_of T.F__length_of.kp T.b__length_of .nil pass0 (pa_cons (pv 1) (pa_cons (pv 3) pa_nil))) (nomark _)) (pss_cons (ps_set (i := 2) sc_date_of.nd rfl (Or.inl rfl) (pe_op op_sub (pv 2) (pe_call (ok__length_of T) (hr.mono (by decide)) (by rfl) T.g__length_of T.F__length_of.kp T.b__length_of .nil pass0 (pa_cons (pv 1) (pa_cons (pv 3) pa_nil))))) (pss_one (ps_set (i := 3) sc_date_of.nd rfl (Or.inl rfl) (pe_op op_add (pv 3) pe_int))))) (pss_one (ps_ret (pe_tup (pa_cons (pv 1) (pa_cons (pv 3) (pa_cons (pe_op op_add (pv 2) pe_int) pa_nil))))))))))), ?_⟩
    have hb := Cal.dayNo_bound K0.1 K0.2.1 K0.2.2.1 K0.2.2.2.1 K0.2.2.2.2.1 K0.2.2.2.2.2
    have hy := Cal.year_dayNo (m := m) (d := d) K0.1 K0.2.2.1 K0.2.2.2.1 K0.2.2.2.2.1 K0.2.2.2.2.2
    obtain ⟨h1, h2, h3, h4, h5, h6⟩ := K0
    walk_at "go"
    refine ⟨Cal.dayNo y m d, rfl, ?_⟩
    rw [show Cal.inNo (Cal.dayNo y m d) = true by unfold Cal.inNo; rw [decide_eq_true hb.1, decide_eq_true hb.2]; rfl]
    walk_at "go"
    refine iteF ?_
    walk_at "go"
    refine ⟨Cal.dayNo y m d, rfl, fun H1 s1 => ?_⟩
    rw [hy]
    walk_at "go"
    refine ⟨y, rfl, ?_⟩
    walk_at "go"
    refine g_while ⟨fun j σ H2 => ∃ k : Nat, (k : Int) < m ∧ j = 12 - k ∧ σ = [some (.int (Cal.dayNo y m d)), some (.int y), some (.int (Cal.dayNo y m d - Cal.first y - Cal.bef y k)), some (.int (1 + (k : Int)))] ∧ Same H H2, ⟨_, 0, by omega, rfl, by rw [show Cal.bef y 0 = 0 from rfl, Int.sub_zero]; rfl, s1⟩, ?_⟩
    rintro j σ H2 ⟨k, hk, rfl, rfl, s2⟩
    walk_at "go"
    refine ⟨y, _, rfl, by omega, by omega, ?_⟩
    have eb : Cal.bef y (k + 1) = Cal.bef y k + Cal.len y (1 + (k : Int)) := rfl
    walk_at "go"
    refine g_ifd (fun c => ?_) (fun c => ?_)
    · have hk1 : (k : Int) + 1 < m := by
        refine Int.not_le.mp fun z => ?_
        obtain rfl : m = (k : Int) + 1 := by omega
        have e : Cal.dayNo y ((k : Int) + 1) d = Cal.first y + Cal.bef y k + d - 1 := by unfold Cal.dayNo; rw [show ((k : Int) + 1 - 1).toNat = k by omega]
        rw [show (k : Int) + 1 = 1 + k by omega] at h6
        rw [show (k : Int) + 1 = 1 + k by omega] at e
        rw [show (k : Int) + 1 = 1 + k by omega] at c
        have c' : Cal.dayNo y (1 + (k : Int)) d - Cal.first y - Cal.bef y k ≥ Cal.len y (1 + (k : Int)) := c
        omega
      refine ⟨_, fun σ' H' z => z, ?_⟩
      walk_at "go"
      refine ⟨y, _, rfl, by omega, by omega, ?_⟩
      walk_at "go"
      refine ⟨12 - (k + 1), by omega, k + 1, by omega, rfl, ?_, s2⟩
      rw [eb, show Cal.dayNo y m d - Cal.first y - (Cal.bef y k + Cal.len y (1 + (k : Int))) = Cal.dayNo y m d - Cal.first y - Cal.bef y k - Cal.len y (1 + (k : Int)) by omega, show 1 + ((k + 1 : Nat) : Int) = 1 + (k : Int) + 1 by omega]
      rfl
    · have hk1 : ¬ (k : Int) + 1 < m := fun z => by
        have mono := Cal.bef_mono (y := y) (j := k + 1) (k := (m - 1).toNat) (by omega) (by omega)
        have c' : ¬ Cal.dayNo y m d - Cal.first y - Cal.bef y k ≥ Cal.len y (1 + (k : Int)) := c
        unfold Cal.dayNo at c'
        omega
      obtain rfl : m = (k : Int) + 1 := by omega
      walk_at "go"
      refine ⟨by show 3 ≤ sizeLine; decide, fun p hp => ?_⟩
      refine q _ p (s2.trans (same_new hp)) ?_
      rw [upd_same]
      have e : Cal.dayNo y ((k : Int) + 1) d = Cal.first y + Cal.bef y k + d - 1 := by unfold Cal.dayNo; rw [show ((k : Int) + 1 - 1).toNat = k by omega]
      rw [show Cal.dayNo y ((k : Int) + 1) d - Cal.first y - Cal.bef y k + 1 = d by omega, show 1 + (k : Int) = (k : Int) + 1 by omega]
-- number
theorem ok_weekday_of (T : Txt K mg) : FnOk P w K mg base CX0 4 T.f_weekday_of T.fd_weekday_of ["number"] (Cal.spWeekday) := by
  refine T.F_weekday_of.ok sc_weekday_of (fun vs H Q E h => ?_) (fun cdv A outer s H vs Q E hr h => ?_)
  · obtain ⟨n, rfl, _⟩ := h
    rfl
  · obtain ⟨n, rfl, h1, h2, q⟩ := h
    have hu := hu_of hr
    refine ⟨_, (pss_cons (ps_if (pt_not (pt_val (pe_call (ok_is_number_of_day T) (hr.mono (by decide)) (by rfl) T.g_is_number_of_day T.F_is_number_of_day.kp T.b_is_number_of_day .nil pass0 (pa_cons (pv 0) pa_nil)))) (pss_one ps_never) pss_nil) (pss_one (ps_ret (pe_op op_mod (pe_op op_sub (pv 0) pe_int) pe_int)))), ?_⟩
    walk_at "go"
    refine ⟨n, rfl, ?_⟩
    rw [show Cal.inNo n = true by unfold Cal.inNo; rw [decide_eq_true h1, decide_eq_true h2]; rfl]
    walk_at "go"
    refine iteF ?_
    walk_at "go"
    exact q
end
section
variable {w : World} {K : PySem.W.Frag} {mg : Str → Option Value} {base : Heap}
-- y mo
theorem ok__law_length (T : Txt K mg) : FnOk P w K mg base CX0 1 T.f__law_length T.fd__law_length ["y", "mo"] (Cal.spLLen) := by
  refine T.F__law_length.ok sc__law_length (fun vs H Q E h => ?_) (fun cdv A outer s H vs Q E hr h => ?_)
  · obtain ⟨y, m, rfl, _⟩ := h
    rfl
  · obtain ⟨y, m, rfl, h1, h2, q⟩ := h
    have hu := hu_of hr
    refine ⟨_, (pss_cons (ps_if (pt_cmpR op_eq (pv 1) pe_int (nomark _)) (pss_one (ps_ret (pe_ifExp (PW.pt (pw_or (pt_cmpR op_eq (pe_op op_mod (pv 0) pe_int) pe_int (nomark _)) (pw_or1 (PW.pt (pw_and (pt_cmpR op_eq (pe_op op_mod (pv 0) pe_int) pe_int (nomark _)) (pw_and1 (pt_cmpR op_gt (pe_op op_mod (pv 0) pe_int) pe_int (nomark _)))))))) pe_int pe_int))) pss_nil) (pss_one (ps_ret (pe_ifExp (pt_cmpR op_in_seq (pv 1) (pe_tup (pa_cons pe_int (pa_cons pe_int (pa_cons pe_int (pa_cons pe_int pa_nil))))) (by rfl)) pe_int pe_int)))), ?_⟩
    walk_at "go"
    refine g_ifd (fun c1 => ?_) (fun c1 => ?_)
    · obtain rfl := V.int.inj c1
      have q1 := q H (Same.refl _)
      unfold Cal.len at q1
      walk_at "go"
      refine g_ifd (fun c2 => ?_) (fun c2 => ?_)
      · walk_at "go"
        have e := V.int.inj c2
        rw [if_pos ⟨rfl, Cal.leap_iff.mpr (by omega)⟩] at q1
        exact q1
      · walk_at "go"
        refine g_ifd (fun c3 => ?_) (fun c3 => ?_)
        · walk_at "go"
          have e := V.int.inj c3
          have e2 : ¬ y % 400 = 0 := fun z => c2 (by rw [z])
          refine g_ifd (fun c4 => ?_) (fun c4 => ?_)
          · have c4' : y % 100 > 0 := c4
            walk_at "go"
            rw [if_pos ⟨rfl, Cal.leap_iff.mpr (by omega)⟩] at q1
            exact q1
          · have c4' : ¬ y % 100 > 0 := c4
            walk_at "go"
            rw [if_neg (fun z => by have := Cal.leap_iff.mp z.2; omega)] at q1
            exact q1
        · have e : ¬ y % 4 = 0 := fun z => c3 (by rw [z])
          walk_at "go"
          rw [if_neg (fun z => by have := Cal.leap_iff.mp z.2; omega)] at q1
          exact q1
    · have e : ¬ m = 2 := fun z => c1 (by rw [z])
      walk_at "go"
      refine ⟨by show 4 ≤ sizeLine; decide, fun p hp => ?_⟩
      refine ⟨p, _, rfl, .inr (SqT.of upd_same), rfl, by decide, ?_⟩
      have q1 := q _ (same_new (o := .tup [V.int 4, V.int 6, V.int 9, V.int 11]) hp)
      unfold Cal.len at q1
      rw [if_neg (fun z => e z.1)] at q1
      walk_at "go"
      refine g_if (fun c2 => ?_) (fun c2 => ?_)
      · walk_at "go"
        rw [Cal.len30 h1 h2 c2] at q1
        exact q1
      · walk_at "go"
        rw [Cal.len31 h1 h2 e c2] at q1
        exact q1
-- y mo d found earlier
theorem ok__law_number (T : Txt K mg) : FnOk P w K mg base CX0 2 T.f__law_number T.fd__law_number ["y", "mo", "d"] (Cal.spLNo) := by
  refine T.F__law_number.ok sc__law_number (fun vs H Q E h => ?_) (fun cdv A outer s H vs Q E hr h => ?_)
  · obtain ⟨y, m, d, rfl, _⟩ := h
    rfl
  · obtain ⟨y, m, d, rfl, ⟨h1, h2, h3, h4, h5, h6⟩, q⟩ := h
    have hu := hu_of hr
    refine ⟨_, (pss_cons (ps_set (i := 3) sc__law_number.nd rfl (Or.inl rfl) (pv 2)) (pss_cons (ps_for PassesOwn.never (by rfl) (pi_range2 (by rfl) T.m_range (pa_cons pe_int (pa_cons (pv 0) pa_nil))) (pg_name (i := 4) sc__law_number.nd rfl (Or.inl rfl)) (pss_one (ps_set (i := 3) sc__law_number.nd rfl (Or.inl rfl) (pe_op op_add (pv 3) (pe_ifExp (PW.pt (pw_and (pt_cmpR op_eq (pe_op op_mod (pv 4) pe_int) pe_int (nomark _)) (pw_and1 (pt_cmpR op_eq (pe_call (ok__law_length T) (hr.mono (by decide)) (by rfl) T.g__law_length T.F__law_length.kp T.b__law_length .nil pass0 (pa_cons (pv 4) (pa_cons pe_int pa_nil))) pe_int (nomark _))))) pe_int pe_int))))) (pss_one (ps_ret (pe_op op_add (pv 3) (pe_callB (cr_sum (by rfl)) (by rfl) T.m_sum (by decide +kernel) (pa_cons (pe_lc (own := [("earlier", 4)]) (g := gName 4) (tt := tYes) (by rfl) sc__law_number.nd (pi_range2 (by rfl) T.m_range (pa_cons pe_int (pa_cons (pv 1) pa_nil))) (blkOk_by (own := [("earlier", 4)]) (N := sN__law_number) (sc := defScope s__law_number) (by decide +kernel)) (fun _ _ _ _ _ => (pg_name (i := 4) sc__law_number.nd rfl (Or.inl rfl))) (fun _ _ _ _ _ => pts_nil) (fun _ _ _ _ _ => (pe_call (ok__law_length T) (hr.mono (by decide)) (by rfl) T.g__law_length T.F__law_length.kp T.b__law_length .nil pass0 (pa_cons (pv 0) (pa_cons (pv 4) pa_nil))))) pa_nil))))))), ?_⟩
    walk_at "go"
    refine ⟨1, y, rfl, ⟨by decide, by decide, by omega, by omega⟩, for_range (n := (y - 1).toNat) (fun i σ H1 => ∃ z, σ = [some (.int y), some (.int m), some (.int d), some (.int (d + Cal.first (1 + i) - 1)), z] ∧ Same H H1) ⟨none, by rw [show (1 : Int) + ((0 : Nat) : Int) = 1 from rfl, Cal.first_one, show d + 1 - 1 = d by omega]; rfl, Same.refl _⟩ ?_ ?_⟩
    · rintro i σ H1 hi ⟨z, rfl, s1⟩
      have es : Cal.first (1 + ((i + 1 : Nat) : Int)) = Cal.first (1 + (i : Int)) + Cal.dim (1 + i) := by rw [show 1 + ((i + 1 : Nat) : Int) = 1 + (i : Int) + 1 by omega, Cal.first_succ]
      have fin : ∀ (v : Int) (H2 : Hp), Same H1 H2 → v = Cal.dim (1 + i) → (∃ z, [some (V.int y), some (.int m), some (.int d), some (.int (d + Cal.first (1 + (i : Int)) - 1 + v)), some (.int (1 + i))] = [some (V.int y), some (.int m), some (.int d), some (.int (d + Cal.first (1 + ((i + 1 : Nat) : Int)) - 1)), z] ∧ Same H H2) := fun v H2 s2 e => by
        refine ⟨some (.int (1 + i)), ?_, s1.trans s2⟩
        rw [es, e, show d + (Cal.first (1 + (i : Int)) + Cal.dim (1 + i)) - 1 = d + Cal.first (1 + (i : Int)) - 1 + Cal.dim (1 + i) by omega]
      unfold Cal.dim at fin
      walk_at "go"
      refine g_ifd (fun c1 => ?_) (fun c1 => ?_)
      · have e1 := V.int.inj c1
        walk_at "go"
        refine ⟨1 + i, 2, rfl, by decide, by decide, fun H2 s2 => ?_⟩
        walk_at "go"
        rw [show decide (V.int (Cal.len (1 + i) 2) = V.int 29) = Cal.leap (1 + i) from Cal.len2 _]
        refine g_if (fun c2 => ?_) (fun c2 => ?_)
        · walk_at "go"
          exact fin 366 H2 s2 (by rw [if_pos c2])
        · walk_at "go"
          exact fin 365 H2 s2 (by rw [if_neg (by rw [c2]; decide)])
      · have e1 : ¬ (1 + (i : Int)) % 4 = 0 := fun z => c1 (by rw [z])
        walk_at "go"
        exact fin 365 H1 (Same.refl _) (by rw [if_neg (fun z => e1 (Cal.leap_iff.mp z).1)])
    · rintro σ H1 ⟨z, rfl, s1⟩
      rw [show (1 : Int) + (((y - 1).toNat : Nat) : Int) = y by omega]
      walk_at "go"
      refine ⟨1, m, rfl, ⟨by decide, by decide, by omega, by omega⟩, fun D hD => lc_pureR (fun i : Nat => V.int (Cal.len y (1 + (i : Int)))) hD (by omega) (fun i H2 N hi s2 kk => ?_) fun H2 s2 e2 => ?_⟩
      · walk_at "go"
        refine ⟨rfl, ?_⟩
        walk_at "go"
        exact ⟨y, _, rfl, by omega, by omega, fun H3 s3 => kk H3 s3⟩
      · walk_at "go"
        refine g_sum (ns := (List.range (m - 1).toNat).map fun i : Nat => Cal.len y (1 + (i : Int))) (SqL.of (by rw [List.map_map]; exact e2)) ?_
        rw [Cal.bef_sum]
        walk_at "go"
        rw [show d + Cal.first y - 1 + Cal.bef y (m - 1).toNat = Cal.dayNo y m d by unfold Cal.dayNo; omega]
        exact q H2 (s1.trans s2)
-- y mo d
theorem ok__law_next_day (T : Txt K mg) : FnOk P w K mg base CX0 2 T.f__law_next_day T.fd__law_next_day ["y", "mo", "d"] (Cal.spLNext) := by
  refine T.F__law_next_day.ok sc__law_next_day (fun vs H Q E h => ?_) (fun cdv A outer s H vs Q E hr h => ?_)
  · obtain ⟨y, m, d, rfl, _⟩ := h
    rfl
  · obtain ⟨y, m, d, rfl, ⟨h1, h2, h3, h4, h5, h6⟩, q⟩ := h
    have hu := hu_of hr
    refine ⟨_, (pss_cons (ps_if (pt_cmpR op_lt (pv 2) (pe_call (ok__law_length T) (hr.mono (by decide)) (by rfl) T.g__law_length T.F__law_length.kp T.b__law_length .nil pass0 (pa_cons (pv 0) (pa_cons (pv 1) pa_nil))) (nomark _)) (pss_one (ps_ret (pe_tup (pa_cons (pv 0) (pa_cons (pv 1) (pa_cons (pe_op op_add (pv 2) pe_int) pa_nil)))))) pss_nil) (pss_one (ps_ret (pe_ifExp (pt_cmpR op_lt (pv 1) pe_int (nomark _)) (pe_tup (pa_cons (pv 0) (pa_cons (pe_op op_add (pv 1) pe_int) (pa_cons pe_int pa_nil)))) (pe_tup (pa_cons (pe_op op_add (pv 0) pe_int) (pa_cons pe_int (pa_cons pe_int pa_nil)))))))), ?_⟩
    walk_at "go"
    refine ⟨y, m, rfl, h3, h4, fun H1 s1 => ?_⟩
    unfold Cal.next at q
    walk_at "go"
    refine g_ifd (fun c => ?_) (fun c => ?_)
    · have c' : d < Cal.len y m := c
      rw [if_pos c'] at q
      walk_at "go"
      exact ⟨by show 3 ≤ sizeLine; decide, fun p hp => q _ p (s1.trans (same_new hp)) upd_same⟩
    · have c' : ¬ d < Cal.len y m := c
      rw [if_neg c'] at q
      walk_at "go"
      refine g_ifd (fun c2 => ?_) (fun c2 => ?_)
      · have c2' : m < 12 := c2
        rw [if_pos c2'] at q
        walk_at "go"
        exact ⟨by show 3 ≤ sizeLine; decide, fun p hp => q _ p (s1.trans (same_new hp)) upd_same⟩
      · have c2' : ¬ m < 12 := c2
        rw [if_neg c2'] at q
        walk_at "go"
        exact ⟨by show 3 ≤ sizeLine; decide, fun p hp => q _ p (s1.trans (same_new hp)) upd_same⟩
end
section
variable {w : World} {K : PySem.W.Frag} {mg : Str → Option Value} {base : Heap}
-- draw some
theorem ok__law_year (T : Txt K mg) : FnOk P w K mg base CX0 3 T.f__law_year T.fd__law_year ["draw"] (Cal.spLYear) := by
  refine T.F__law_year.ok sc__law_year (fun vs H Q E h => ?_) (fun cdv A outer s H vs Q E hr h => ?_)
  · obtain ⟨d, l, k, rfl, _⟩ := h
    rfl
  · obtain ⟨d, l, k, rfl, D0, hk, q⟩ := h
    have hu := hu_of hr
    refine ⟨_, (pss_cons (ps_set (i := 1) sc__law_year.nd rfl (Or.inl rfl) (pe_lst (pa_cons pe_int (pa_cons pe_int (pa_cons pe_int (pa_cons pe_int (pa_cons pe_int (pa_cons pe_int (pa_cons pe_int (pa_cons pe_int (pa_cons pe_int (pa_cons pe_int (pa_cons pe_int (pa_cons pe_int (pa_cons pe_int (pa_cons pe_int (pa_cons pe_int (pa_cons pe_int (pa_cons pe_int (pa_cons pe_int (pa_cons pe_int pa_nil))))))))))))))))))))) (pss_one (ps_ret (pe_ifExp (pt_cmpR op_eq (pe_call (ok__law_next T) (hr.mono (by decide)) (by rfl) T.g__law_next T.F__law_next.kp T.b__law_next .nil pass0 (pa_cons (pv 0) (pa_cons pe_int pa_nil))) pe_int (nomark _)) (pe_ix ix_list (pv 1) (pe_call (ok__law_next T) (hr.mono (by decide)) (by rfl) T.g__law_next T.F__law_next.kp T.b__law_next .nil pass0 (pa_cons (pv 0) (pa_cons pe_int pa_nil))) (fun _ _ => rfl)) (pe_op op_add pe_int (pe_call (ok__law_next T) (hr.mono (by decide)) (by rfl) T.g__law_next T.F__law_next.kp T.b__law_next .nil pass0 (pa_cons (pv 0) (pa_cons pe_int pa_nil)))))))), ?_⟩
    walk_at "go"
    refine n_lst (by show 19 ≤ sizeLine; decide) fun p H1 np s1 e1 => ?_
    have nd := (D0.same s1).ne' e1 (by intro kv z; cases z)
    walk_at "go"
    refine n_next (D0.same s1) (by omega) (by decide) (by decide) fun r H2 r0 r1 D2 K2 => ?_
    walk_at "go"
    refine g_ifd (fun _ => ?_) (fun _ => ?_)
    · walk_at "go"
      refine n_next D2 (by omega) (by decide) (by decide) fun r H3 r0 r1 D3 K3 => ?_
      refine g_pick Cal.isYr (K3 _ _ nd (K2 _ _ nd e1)) r0 r1 (by decide) fun v hv => ?_
      obtain ⟨y, rfl, h1, h2⟩ := Cal.isYr_of hv
      exact q y H3 h1 h2 D3 ((Dr.Kp.of s1).trans (K2.trans K3))
    · walk_at "go"
      refine n_next D2 (by omega) (by decide) (by decide) fun r H3 r0 r1 D3 K3 => ?_
      walk_at "go"
      exact q _ H3 (by omega) (by omega) D3 ((Dr.Kp.of s1).trans (K2.trans K3))
-- draw y mo way most
theorem ok__law_date (T : Txt K mg) : FnOk P w K mg base CX0 4 T.f__law_date T.fd__law_date ["draw"] (Cal.spLDate) := by
  refine T.F__law_date.ok sc__law_date (fun vs H Q E h => ?_) (fun cdv A outer s H vs Q E hr h => ?_)
  · obtain ⟨a, l, k, rfl, _⟩ := h
    rfl
  · obtain ⟨a, l, k, rfl, D0, hk, q⟩ := h
    have hu := hu_of hr
    refine ⟨_, (pss_cons (ps_par3 (i := 1) (j := 2) (l := 3) (by rfl) sc__law_date.nd rfl rfl rfl (by decide) (by decide) (by decide) rfl rfl rfl (pa_cons (pe_call (ok__law_year T) (hr.mono (by decide)) (by rfl) T.g__law_year T.F__law_year.kp T.b__law_year .nil pass0 (pa_cons (pv 0) pa_nil)) (pa_cons (pe_ix ix_list (pe_lst (pa_cons pe_int (pa_cons pe_int (pa_cons pe_int (pa_cons pe_int (pa_cons pe_int (pa_cons (pe_op op_add pe_int (pe_call (ok__law_next T) (hr.mono (by decide)) (by rfl) T.g__law_next T.F__law_next.kp T.b__law_next .nil pass0 (pa_cons (pv 0) (pa_cons pe_int pa_nil)))) pa_nil))))))) (pe_call (ok__law_next T) (hr.mono (by decide)) (by rfl) T.g__law_next T.F__law_next.kp T.b__law_next .nil pass0 (pa_cons (pv 0) (pa_cons pe_int pa_nil))) (fun _ _ => rfl)) (pa_cons (pe_call (ok__law_next T) (hr.mono (by decide)) (by rfl) T.g__law_next T.F__law_next.kp T.b__law_next .nil pass0 (pa_cons (pv 0) (pa_cons pe_int pa_nil))) pa_nil))) (by rfl)) (pss_cons (ps_set (i := 4) sc__law_date.nd rfl (Or.inl rfl) (pe_call (ok__law_length T) (hr.mono (by decide)) (by rfl) T.g__law_length T.F__law_length.kp T.b__law_length .nil pass0 (pa_cons (pv 1) (pa_cons (pv 2) pa_nil)))) (pss_one (ps_ret (pe_tup (pa_cons (pv 1) (pa_cons (pv 2) (pa_cons (pe_ifExp (pt_cmpR op_eq (pv 3) pe_int (nomark _)) pe_int (pe_ifExp (pt_cmpR op_eq (pv 3) pe_int (nomark _)) (pv 4) (pe_op op_add pe_int (pe_call (ok__law_next T) (hr.mono (by decide)) (by rfl) T.g__law_next T.F__law_next.kp T.b__law_next .nil pass0 (pa_cons (pv 0) (pa_cons (pv 4) pa_nil)))))) pa_nil)))))))), ?_⟩
    walk_at "go"
    refine ⟨a, l, k, rfl, D0, hk, fun y H1 y0 y1 D1 K1 => ?_⟩
    walk_at "go"
    refine n_next D1 (by omega) (by decide) (by decide) fun r H2 r0 r1 D2 K2 => ?_
    walk_at "go"
    refine n_lst (by show 6 ≤ sizeLine; decide) fun p3 H3 np3 s3 e3 => ?_
    have nd3 := (D2.same s3).ne' e3 (by intro kv z; cases z)
    walk_at "go"
    refine n_next (D2.same s3) (by omega) (by decide) (by decide) fun r4 H4 r40 r41 D4 K4 => ?_
    refine g_pick Cal.isMo (xs := [V.int 1, V.int 2, V.int 2, V.int 3, V.int 12, V.int (1 + r)]) (by walk_at "hp") r40 r41 (Cal.allMo r0 r1) fun v hv => ?_
    obtain ⟨m, rfl, m1, m2⟩ := Cal.isMo_of hv
    walk_at "go"
    refine n_next D4 (by omega) (by decide) (by decide) fun w5 H5 w50 w51 D5 K5 => ?_
    walk_at "go"
    have D6 := D5
    have K6 : Dr.Kp a H H5 := K1.trans (K2.trans ((Dr.Kp.of s3).trans (K4.trans K5)))
    refine ⟨y, m, rfl, m1, m2, fun H7 s7 => ?_⟩
    have lp := Cal.len_pos (y := y) m1 m2
    have D7 := D6.same s7
    have K7 := K6.trans (Dr.Kp.of s7)
    walk_at "go"
    refine g_ifd (fun c => ?_) (fun c => ?_)
    · walk_at "go"
      refine n_tup (by show 3 ≤ sizeLine; decide) fun p8 H8 np8 s8 e8 => ?_
      exact q y m 1 p8 H8 ⟨y0, y1, m1, m2, by decide, by omega⟩ ((D7.same s8).mono (by omega)) (K7.trans (Dr.Kp.of s8)) ((D7.same s8).ne' e8 (by intro kv z; cases z)) e8
    · walk_at "go"
      refine g_ifd (fun c => ?_) (fun c => ?_)
      · walk_at "go"
        refine n_tup (by show 3 ≤ sizeLine; decide) fun p8 H8 np8 s8 e8 => ?_
        exact q y m _ p8 H8 ⟨y0, y1, m1, m2, by omega, by omega⟩ ((D7.same s8).mono (by omega)) (K7.trans (Dr.Kp.of s8)) ((D7.same s8).ne' e8 (by intro kv z; cases z)) e8
      · walk_at "go"
        refine n_next D7 (by omega) (by omega) (by omega) fun r9 H9 r90 r91 D9 K9 => ?_
        walk_at "go"
        refine n_tup (by show 3 ≤ sizeLine; decide) fun p8 H8 np8 s8 e8 => ?_
        exact q y m _ p8 H8 ⟨y0, y1, m1, m2, by omega, by omega⟩ ((D9.same s8).mono (by omega)) (K7.trans (K9.trans (Dr.Kp.of s8))) ((D9.same s8).ne' e8 (by intro kv z; cases z)) e8
-- seen y mo d due told later
theorem kw_day_number_day_month_year (T : Txt K mg) : KwB K T.fd_day_number ["year", "month", "day"] ["day", "month", "year"] [2, 1, 0] := T.F_day_number.kwb (ps := ["year", "month", "day"]) (ks := ["day", "month", "year"]) rfl fun _ _ _ _ _ _ us hl => match us, hl with | [_, _, _], _ => rfl
theorem kw_date_of_number (T : Txt K mg) : KwB K T.fd_date_of ["number"] ["number"] [0] := T.F_date_of.kwb (ps := ["number"]) (ks := ["number"]) rfl fun _ _ _ _ _ _ us hl => match us, hl with | [_], _ => rfl
theorem kw_weekday_of_number (T : Txt K mg) : KwB K T.fd_weekday_of ["number"] ["number"] [0] := T.F_weekday_of.kwb (ps := ["number"]) (ks := ["number"]) rfl fun _ _ _ _ _ _ us hl => match us, hl with | [_], _ => rfl
theorem ok__law_day_right (T : Txt K mg) : FnG P w K mg base CX0 6 T.f__law_day_right T.fd__law_day_right ["seen"] (Cal.spDayRight) := by
  refine T.F__law_day_right.okG sc__law_day_right (fun vs H Q E h => ?_) (fun cdv A hG outer s H vs Q E hr h => ?_)
  · obtain ⟨p, y, m, d, rfl, _⟩ := h
    rfl
  · obtain ⟨p, y, m, d, rfl, e0, K0, q⟩ := h
    have hu := hu_of hr
    refine ⟨_, (pss_cons (ps_asg (pv 0) (pg_tup (by rfl) (pgs_cons (pg_name (i := 1) sc__law_day_right.nd rfl (Or.inl rfl)) (pgs_cons (pg_name (i := 2) sc__law_day_right.nd rfl (Or.inl rfl)) (pgs_cons (pg_name (i := 3) sc__law_day_right.nd rfl (Or.inl rfl)) pgs_nil))))) (pss_cons (ps_set (i := 4) sc__law_day_right.nd rfl (Or.inl rfl) (pe_call (ok__law_number T) (hr.mono (by decide)) (by rfl) T.g__law_number T.F__law_number.kp T.b__law_number .nil pass0 (pa_cons (pv 1) (pa_cons (pv 2) (pa_cons (pv 3) pa_nil))))) (pss_cons (ps_set (i := 5) sc__law_day_right.nd rfl (Or.inl rfl) (pe_lst (pa_cons (pe_call (ok_day_number T) (hr.mono (by decide)) (by rfl) T.g_day_number T.F_day_number.kp T.b_day_number .nil pass0 (pa_cons (pv 1) (pa_cons (pv 2) (pa_cons (pv 3) pa_nil)))) (pa_cons (pe_kw0 (ok_day_number T) (hr.mono (by decide)) (by rfl) T.g_day_number T.F_day_number.kp (kw_day_number_day_month_year T) pass0 (pk_cons (pv 3) (pk_cons (pv 2) (pk_cons (pv 1) pk_nil)))) pa_nil)))) (pss_cons (ps_if (PW.pt (pw_or (pt_cmpR op_ne (pe_callB (call_reprA hG hr.units) (by rfl) T.m_repr (by decide +kernel) (pa_cons (pv 5) pa_nil)) (pe_callB (call_reprA hG hr.units) (by rfl) T.m_repr (by decide +kernel) (pa_cons (pe_lst (pa_cons (pv 4) (pa_cons (pv 4) pa_nil))) pa_nil)) (nomark _)) (pw_or (pt_cmpR op_ne (pe_callB (call_reprA hG hr.units) (by rfl) T.m_repr (by decide +kernel) (pa_cons (pe_call (ok_date_of T) (hr.mono (by decide)) (by rfl) T.g_date_of T.F_date_of.kp T.b_date_of .nil pass0 (pa_cons (pv 4) pa_nil)) pa_nil)) (pe_callB (call_reprA hG hr.units) (by rfl) T.m_repr (by decide +kernel) (pa_cons (pv 0) pa_nil)) (nomark _)) (pw_or1 (pt_cmpR (op_neD hr.units) (pe_kw0 (ok_date_of T) (hr.mono (by decide)) (by rfl) T.g_date_of T.F_date_of.kp (kw_date_of_number T) pass0 (pk_cons (pv 4) pk_nil)) (pv 0) (nomark _)))))) (pss_one (ps_ret pe_bl)) pss_nil) (pss_cons (ps_if (pt_cmpR (op_neD hr.units) (pe_lst (pa_cons (pe_call (ok_weekday_of T) (hr.mono (by decide)) (by rfl) T.g_weekday_of T.F_weekday_of.kp T.b_weekday_of .nil pass0 (pa_cons (pv 4) pa_nil)) (pa_cons (pe_kw0 (ok_weekday_of T) (hr.mono (by decide)) (by rfl) T.g_weekday_of T.F_weekday_of.kp (kw_weekday_of_number T) pass0 (pk_cons (pv 4) pk_nil)) pa_nil))) (pe_op op_rep (pe_lst (pa_cons (pe_op op_mod (pe_op op_sub (pv 4) pe_int) pe_int) pa_nil)) pe_int) (nomark _)) (pss_one (ps_ret pe_bl)) pss_nil) (pss_cons (ps_if (PW.pt (pw_or (pt_cmpR op_ne (pe_callB (call_reprA hG hr.units) (by rfl) T.m_repr (by decide +kernel) (pa_cons (pe_call (ok_is_leap T) (hr.mono (by decide)) (by rfl) T.g_is_leap T.F_is_leap.kp T.b_is_leap .nil pass0 (pa_cons (pv 1) pa_nil)) pa_nil)) (pe_callB (call_reprA hG hr.units) (by rfl) T.m_repr (by decide +kernel) (pa_cons (pe_cmpR op_eq (pe_call (ok__law_length T) (hr.mono (by decide)) (by rfl) T.g__law_length T.F__law_length.kp T.b__law_length .nil pass0 (pa_cons (pv 1) (pa_cons pe_int pa_nil))) pe_int (nomark _)) pa_nil)) (nomark _)) (pw_or1 (pt_cmpR op_ne (pe_call (ok_days_in T) (hr.mono (by decide)) (by rfl) T.g_days_in T.F_days_in.kp T.b_days_in .nil pass0 (pa_cons (pv 1) (pa_cons (pv 2) pa_nil))) (pe_call (ok__law_length T) (hr.mono (by decide)) (by rfl) T.g__law_length T.F__law_length.kp T.b__law_length .nil pass0 (pa_cons (pv 1) (pa_cons (pv 2) pa_nil))) (nomark _))))) (pss_one (ps_ret pe_bl)) pss_nil) (pss_cons (ps_set (i := 6) sc__law_day_right.nd rfl (Or.inl rfl) (pe_call (ok__law_next_day T) (hr.mono (by decide)) (by rfl) T.g__law_next_day T.F__law_next_day.kp T.b__law_next_day .nil pass0 (pa_cons (pv 1) (pa_cons (pv 2) (pa_cons (pv 3) pa_nil))))) (pss_cons (ps_if (pt_cmpR op_eq (pe_ix ix_tup (pv 6) pe_int (fun _ _ => rfl)) pe_int (nomark _)) (pss_one (ps_ret (pe_cmpR op_eq (pv 4) pe_int (nomark _)))) pss_nil) (pss_one (ps_ret (pe_and (pe_cmpR (op_eqD hr.units) (pe_call (ok_date_of T) (hr.mono (by decide)) (by rfl) T.g_date_of T.F_date_of.kp T.b_date_of .nil pass0 (pa_cons (pe_op op_add (pv 4) pe_int) pa_nil)) (pv 6) (nomark _)) (pe_one (pe_cmpR op_eq (pe_call (ok_day_number T) (hr.mono (by decide)) (by rfl) T.g_day_number T.F_day_number.kp T.b_day_number .nil pass0 (pa_cons (pe_ix ix_tup (pv 6) pe_int (fun _ _ => rfl)) (pa_cons (pe_ix ix_tup (pv 6) pe_int (fun _ _ => rfl)) (pa_cons (pe_ix ix_tup (pv 6) pe_int (fun _ _ => rfl)) pa_nil)))) (pe_op op_add (pv 4) pe_int) (nomark _)))))))))))))), ?_⟩
    have hb := Cal.dayNo_bound K0.1 K0.2.1 K0.2.2.1 K0.2.2.2.1 K0.2.2.2.2.1 K0.2.2.2.2.2
    have nx := Cal.next_ok K0
    have K0' := K0
    obtain ⟨h1, h2, h3, h4, h5, h6⟩ := K0'
    walk_at "go"
    refine g_gtup (SqT.of e0) rfl ?_
    walk_at "go"
    refine ⟨y, m, d, rfl, K0, fun H1 s1 => ?_⟩
    walk_at "go"
    refine ⟨y, m, d, rfl, K0, fun H2 s2 => ?_⟩
    walk_at "go"
    refine ⟨rfl, y, m, d, rfl, K0, fun H3 s3 => ?_⟩
    generalize hn : Cal.dayNo y m d = n at nx hb ⊢
    walk_at "go"
    refine n_lst (by show 2 ≤ sizeLine; decide) fun p4 H4 np4 s4 e4 => ?_
    walk_at "go"
    refine g_repra (Cal.dp2 e4) (Cal.sh2 hb) ?_
    walk_at "go"
    refine n_lst (by show 2 ≤ sizeLine; decide) fun p5 H5 np5 s5 e5 => ?_
    walk_at "go"
    refine g_repra (Cal.dp2 e5) (Cal.sh2 hb) ?_
    walk_at "go"
    refine g_ifn (fun h => absurd rfl h) (fun _ => ?_)
    walk_at "go"
    refine ⟨y, m, d, by rw [hn]; rfl, K0, fun H6 p6 s6 e6 => ?_⟩
    walk_at "go"
    have e0' : H6 p = some (.tup [.int y, .int m, .int d]) := by walk_at "hp"
    refine g_repra (Cal.dp3 e6) (Cal.sh3 K0) ?_
    walk_at "go"
    refine g_repra (Cal.dp3 e0') (Cal.sh3 K0) ?_
    walk_at "go"
    refine g_ifn (fun h => absurd rfl h) (fun _ => ?_)
    walk_at "go"
    refine ⟨rfl, y, m, d, by rw [hn]; rfl, K0, fun H7 p7 s7 e7 => ?_⟩
    walk_at "go"
    refine g_ned (Cal.dp3 e7) (Cal.dp3 (s7 _ _ e0')) (Cal.shp3 K0) (Cal.shp3 K0) ?_
    rw [Cal.eqv3]
    walk_at "go"
    refine iteF ?_
    walk_at "go"
    refine ⟨n, rfl, hb.1, hb.2, ?_⟩
    walk_at "go"
    refine ⟨rfl, n, rfl, hb.1, hb.2, ?_⟩
    walk_at "go"
    refine n_lst (by show 2 ≤ sizeLine; decide) fun p8 H8 np8 s8 e8 => ?_
    walk_at "go"
    refine n_lst (by show 1 ≤ sizeLine; decide) fun p9 H9 np9 s9 e9 => ?_
    walk_at "go"
    refine n_rep e9 (by decide) (by decide) (by show 1 * 2 ≤ sizeLine; decide) fun p10 H10 np10 s10 e10 => ?_
    have e8' : H10 p8 = some (.lst [.int ((n - 1) % 7), .int ((n - 1) % 7)]) := by walk_at "hp"
    refine g_ned (Cal.dpw e8') (Cal.dpw e10) (Cal.shpw hb) (Cal.shpw hb) ?_
    rw [Cal.eqvw]
    walk_at "go"
    refine iteF ?_
    walk_at "go"
    refine ⟨y, rfl, h1, h2, ?_⟩
    walk_at "go"
    refine g_repra (.bl _) (Cal.shb _) ?_
    walk_at "go"
    refine ⟨y, 2, rfl, by decide, by decide, fun H11 s11 => ?_⟩
    walk_at "go"
    rw [Cal.len2]
    refine g_repra (.bl _) (Cal.shb _) ?_
    walk_at "go"
    refine g_ifn (fun h => absurd rfl h) (fun _ => ?_)
    walk_at "go"
    refine ⟨y, m, rfl, h1, h2, h3, h4, ?_⟩
    walk_at "go"
    refine ⟨y, m, rfl, h3, h4, fun H12 s12 => ?_⟩
    walk_at "go"
    refine g_ifn (fun h => absurd rfl h) (fun _ => ?_)
    walk_at "go"
    refine ⟨y, m, d, rfl, K0, fun H13 p13 s13 e13 => ?_⟩
    walk_at "go"
    refine g_ixt (SqT.of e13) (atI_nat (j := 0) rfl) ?_
    walk_at "go"
    have S13 : Same H H13 := by walk_at "sm"
    refine g_ifd (fun c => ?_) (fun c => ?_)
    · walk_at "go"
      rcases nx with ⟨_, e⟩ | ⟨e, _⟩
      · rw [decide_eq_true (by rw [e])]
        exact q _ S13
      · exact absurd (V.int.inj c) e
    · rcases nx with ⟨e, _⟩ | ⟨_, K1, e⟩
      · exact absurd (by rw [e]) c
      generalize Cal.next y m d = t at e13 K1 e ⊢
      walk_at "go"
      refine ⟨t.1, t.2.1, t.2.2, by rw [e]; rfl, K1, fun H14 p14 s14 e14 => ?_⟩
      walk_at "go"
      refine g_eqd (Cal.dp3 e14) (Cal.dp3 (s14 _ _ e13)) (Cal.shp3 K1) (Cal.shp3 K1) ?_
      rw [Cal.eqv3]
      walk_at "go"
      refine g_ixt (SqT.of (s14 _ _ e13)) (atI_nat (j := 0) rfl) ?_
      walk_at "go"
      refine g_ixt (SqT.of (s14 _ _ e13)) (atI_nat (j := 1) rfl) ?_
      walk_at "go"
      refine g_ixt (SqT.of (s14 _ _ e13)) (atI_nat (j := 2) rfl) ?_
      walk_at "go"
      refine ⟨t.1, t.2.1, t.2.2, rfl, K1, fun H15 s15 => ?_⟩
      walk_at "go"
      rw [decide_eq_true (by rw [e])]
      exact q _ (S13.trans (s14.trans s15))
end
section
variable {w : World} {K : PySem.W.Frag} {mg : Str → Option Value} {base : Heap}
-- script draw turn y told mo
theorem kw_days_in_month_year (T : Txt K mg) : KwB K T.fd_days_in ["year", "month"] ["month", "year"] [1, 0] := T.F_days_in.kwb (ps := ["year", "month"]) (ks := ["month", "year"]) rfl fun _ _ _ _ _ _ us hl => match us, hl with | [_, _], _ => rfl
theorem kw_is_leap_year (T : Txt K mg) : KwB K T.fd_is_leap ["year"] ["year"] [0] := T.F_is_leap.kwb (ps := ["year"]) (ks := ["year"]) rfl fun _ _ _ _ _ _ us hl => match us, hl with | [_], _ => rfl
theorem ok_law (T : Txt K mg) : FnG P w K mg base CX0 7 T.f_law T.fd_law ["script"] (Cal.spLaw K) := by
  refine T.F_law.okG sc_law (fun vs H Q E h => ?_) (fun cdv A hG outer s H vs Q E hr h => ?_)
  · obtain ⟨a, ns, rfl, _⟩ := h
    rfl
  · obtain ⟨a, ns, rfl, hS, hl, q⟩ := h
    have hu := hu_of hr
    refine ⟨_, (pss_cons (ps_set (i := 1) sc_law.nd rfl (Or.inl rfl) (pe_call (ok__law_begin T) (hr.mono (by decide)) (by rfl) T.g__law_begin T.F__law_begin.kp T.b__law_begin .nil pass0 (pa_cons (pv 0) pa_nil))) (pss_cons (ps_for PassesOwn.never (by rfl) (pi_range1 (by rfl) T.m_range (pa_cons (pe_op op_add pe_int (pe_callB (call_min1 (by rfl)) (by rfl) T.m_min (by decide +kernel) (pa_cons pe_int (pa_cons (pe_callB call_len1 (by rfl) T.m_len PySem.boot_len (pa_cons (pv 0) pa_nil)) pa_nil)))) pa_nil)) (pg_name (i := 2) sc_law.nd rfl (Or.inl rfl)) (pss_one (ps_if (pt_not (pt_val (pe_callG (ok__law_day_right T) hG (hr.mono (by decide)) (by rfl) T.g__law_day_right T.F__law_day_right.kp T.b__law_day_right .nil pass0 (pa_cons (pe_call (ok__law_date T) (hr.mono (by decide)) (by rfl) T.g__law_date T.F__law_date.kp T.b__law_date .nil pass0 (pa_cons (pv 1) pa_nil)) pa_nil)))) (pss_one (ps_ret pe_bl)) pss_nil))) (pss_cons (ps_set (i := 3) sc_law.nd rfl (Or.inr rfl) (pe_call (ok__law_year T) (hr.mono (by decide)) (by rfl) T.g__law_year T.F__law_year.kp T.b__law_year .nil pass0 (pa_cons (pv 1) pa_nil))) (pss_cons (ps_setLc (i := 4) (own := [("mo", 5)]) (g := gName 5) (tt := tYes) (by rfl) sc_law.nd rfl rfl (sw_true rfl rfl rfl (by decide +kernel)) (pi_range2 (by rfl) T.m_range (pa_cons pe_int (pa_cons pe_int pa_nil))) (blkOk_by (own := [("mo", 5)]) (N := sN_law) (sc := defScope s_law) (by decide +kernel)) (fun _ _ _ _ _ => (pg_name (i := 5) sc_law.nd rfl (Or.inl rfl))) (fun _ _ _ _ _ => pts_nil) (fun _ _ _ _ _ => (pe_call (ok_days_in T) (hr.mono (by decide)) (by rfl) T.g_days_in T.F_days_in.kp T.b_days_in .nil pass0 (pa_cons (pv 3) (pa_cons (pv 5) pa_nil))))) (pss_cons (ps_if (PW.pt (pw_or (pt_cmpR (op_neD hr.units) (pv 4) (pe_lc (own := [("mo", 5)]) (g := gName 5) (tt := tYes) (by rfl) sc_law.nd (pi_range2 (by rfl) T.m_range (pa_cons pe_int (pa_cons pe_int pa_nil))) (blkOk_by (own := [("mo", 5)]) (N := sN_law) (sc := defScope s_law) (by decide +kernel)) (fun _ _ _ _ _ => (pg_name (i := 5) sc_law.nd rfl (Or.inl rfl))) (fun _ _ _ _ _ => pts_nil) (fun _ _ _ _ _ => (pe_call (ok__law_length T) (hr.mono (by decide)) (by rfl) T.g__law_length T.F__law_length.kp T.b__law_length .nil pass0 (pa_cons (pv 3) (pa_cons (pv 5) pa_nil))))) (nomark _)) (pw_or1 (pt_cmpR op_ne (pe_kw0 (ok_days_in T) (hr.mono (by decide)) (by rfl) T.g_days_in T.F_days_in.kp (kw_days_in_month_year T) pass0 (pk_cons pe_int (pk_cons (pv 3) pk_nil))) (pe_call (ok__law_length T) (hr.mono (by decide)) (by rfl) T.g__law_length T.F__law_length.kp T.b__law_length .nil pass0 (pa_cons (pv 3) (pa_cons pe_int pa_nil))) (nomark _))))) (pss_one (ps_ret pe_bl)) pss_nil) (pss_cons (ps_if (pt_cmpR op_ne (pe_callB (call_reprA hG hr.units) (by rfl) T.m_repr (by decide +kernel) (pa_cons (pe_lst (pa_cons (pe_call (ok_is_leap T) (hr.mono (by decide)) (by rfl) T.g_is_leap T.F_is_leap.kp T.b_is_leap .nil pass0 (pa_cons (pv 3) pa_nil)) (pa_cons (pe_kw0 (ok_is_leap T) (hr.mono (by decide)) (by rfl) T.g_is_leap T.F_is_leap.kp (kw_is_leap_year T) pass0 (pk_cons (pv 3) pk_nil)) pa_nil))) pa_nil)) (pe_callB (call_reprA hG hr.units) (by rfl) T.m_repr (by decide +kernel) (pa_cons (pe_op op_rep (pe_lst (pa_cons (pe_cmpR op_eq (pe_call (ok__law_length T) (hr.mono (by decide)) (by rfl) T.g__law_length T.F__law_length.kp T.b__law_length .nil pass0 (pa_cons (pv 3) (pa_cons pe_int pa_nil))) pe_int (nomark _)) pa_nil)) pe_int) pa_nil)) (nomark _)) (pss_one (ps_ret pe_bl)) pss_nil) (pss_cons (ps_set (i := 4) sc_law.nd rfl (Or.inl rfl) (pe_lst (pa_cons (pe_call (ok_day_number T) (hr.mono (by decide)) (by rfl) T.g_day_number T.F_day_number.kp T.b_day_number .nil pass0 (pa_cons pe_int (pa_cons pe_int (pa_cons pe_int pa_nil)))) (pa_cons (pe_call (ok_date_of T) (hr.mono (by decide)) (by rfl) T.g_date_of T.F_date_of.kp T.b_date_of .nil pass0 (pa_cons pe_int pa_nil)) (pa_cons (pe_call (ok_weekday_of T) (hr.mono (by decide)) (by rfl) T.g_weekday_of T.F_weekday_of.kp T.b_weekday_of .nil pass0 (pa_cons pe_int pa_nil)) (pa_cons (pe_call (ok_date_of T) (hr.mono (by decide)) (by rfl) T.g_date_of T.F_date_of.kp T.b_date_of .nil pass0 (pa_cons pe_int pa_nil)) (pa_cons (pe_op op_mod (pe_call (ok_day_number T) (hr.mono (by decide)) (by rfl) T.g_day_number T.F_day_number.kp T.b_day_number .nil pass0 (pa_cons pe_int (pa_cons pe_int (pa_cons pe_int pa_nil)))) pe_int) pa_nil))))))) (pss_one (ps_ret (pe_cmpR (op_eqD hr.units) (pv 4) (pe_lst (pa_cons pe_int (pa_cons (pe_tup (pa_cons pe_int (pa_cons pe_int (pa_cons pe_int pa_nil)))) (pa_cons pe_int (pa_cons (pe_tup (pa_cons pe_int (pa_cons pe_int (pa_cons pe_int pa_nil)))) (pa_cons pe_int pa_nil)))))) (nomark _))))))))))), ?_⟩
    walk_at "go"
    refine ⟨a, ns, rfl, hS, hl, fun dd l H1 nd nl D1 s1 => ?_⟩
    walk_at "go"
    refine g_len (Same.apL s1 hS) ?_
    rw [List.length_map]
    have hb : (if (ns.length : Int) < 8 then (ns.length : Int) else 8) ≤ 8 ∧ 0 ≤ (if (ns.length : Int) < 8 then (ns.length : Int) else 8) := by split <;> omega
    walk_at "go"
    generalize (if (ns.length : Int) < 8 then (ns.length : Int) else 8) = top at hb ⊢
    refine ⟨8 + top, rfl, by omega, by omega, for_range (fun i σ H2 => (∃ y2 y3 y4 y5, σ = [some (.ref a), some (.ref dd), y2, y3, y4, y5]) ∧ Dr.Draw H2 dd l (6 * i)) ⟨⟨_, _, _, _, rfl⟩, D1⟩ ?_ ?_⟩
    · rintro i σ H2 hi ⟨⟨y2, y3, y4, y5, rfl⟩, D2⟩
      walk_at "go"
      refine ⟨dd, l, _, rfl, D2, by omega, fun y m d p H3 K0 D3 K3 np e3 => ?_⟩
      walk_at "go"
      refine ⟨p, y, m, d, rfl, e3, K0, fun H4 s4 => ?_⟩
      walk_at "go"
      refine iteF ?_
      walk_at "go"
      exact ⟨⟨_, _, _, _, rfl⟩, (D3.same s4).mono (by omega)⟩
    · rintro σ H2 ⟨⟨y2, y3, y4, y5, rfl⟩, D2⟩
      walk_at "go"
      refine ⟨dd, l, _, rfl, D2, by omega, fun y H3 h1 h2 D3 K3 => ?_⟩
      walk_at "go"
      refine ⟨1, 13, rfl, by decide, fun D hD => lc_pureR (fun i : Nat => V.int (Cal.len y (1 + (i : Int)))) hD (by decide) (fun i H4 N hi s4 kk => ?_) fun H4 s4 e4 => ?_⟩
      · walk_at "go"
        refine ⟨rfl, ?_⟩
        walk_at "go"
        have hi : i < 12 := hi
        exact ⟨y, _, rfl, h1, h2, by omega, by omega, kk H4 (Same.refl _)⟩
      walk_at "go"
      refine ⟨1, 13, rfl, by decide, fun D2 hD2 => lc_pureR (fun i : Nat => V.int (Cal.len y (1 + (i : Int)))) hD2 (by decide) (fun i H5 N hi s5 kk => ?_) fun H5 s5 e5 => ?_⟩
      · walk_at "go"
        refine ⟨rfl, ?_⟩
        walk_at "go"
        have hi : i < 12 := hi
        exact ⟨y, _, rfl, by omega, by omega, fun H6 s6 => kk H6 s6⟩
      walk_at "go"
      refine g_ned (Cal.dpl (s5 _ _ e4)) (Cal.dpl e5) (Cal.shpl y) (Cal.shpl y) ?_
      rw [Cal.eqvl]
      walk_at "go"
      refine iteF ?_
      walk_at "go"
      refine ⟨rfl, y, 2, rfl, h1, h2, by decide, by decide, ?_⟩
      walk_at "go"
      refine ⟨y, 2, rfl, by decide, by decide, fun H6 s6 => ?_⟩
      walk_at "go"
      refine g_ifn (fun h => absurd rfl h) (fun _ => ?_)
      walk_at "go"
      refine ⟨y, rfl, h1, h2, ?_⟩
      walk_at "go"
      refine ⟨rfl, y, rfl, h1, h2, ?_⟩
      walk_at "go"
      refine n_lst (by show 2 ≤ sizeLine; decide) fun p7 H7 np7 s7 e7 => ?_
      walk_at "go"
      refine g_repra (Cal.dpb e7) (Cal.shb2 _) ?_
      walk_at "go"
      refine ⟨y, 2, rfl, by decide, by decide, fun H8 s8 => ?_⟩
      walk_at "go"
      rw [Cal.len2]
      refine n_lst (by show 1 ≤ sizeLine; decide) fun p9 H9 np9 s9 e9 => ?_
      walk_at "go"
      refine n_rep e9 (by decide) (by decide) (by show 1 * 2 ≤ sizeLine; decide) fun p10 H10 np10 s10 e10 => ?_
      walk_at "go"
      refine g_repra (Cal.dpb e10) (Cal.shb2 _) ?_
      walk_at "go"
      refine g_ifn (fun h => absurd rfl h) (fun _ => ?_)
      walk_at "go"
      refine ⟨1, 1, 1, rfl, by decide, fun H11 s11 => ?_⟩
      rw [show Cal.dayNo 1 1 1 = 1 by decide]
      walk_at "go"
      refine ⟨1, 1, 1, by rw [show Cal.dayNo 1 1 1 = 1 by decide]; rfl, by decide, fun H12 p12 s12 e12 => ?_⟩
      walk_at "go"
      refine ⟨1, rfl, by decide, by decide, ?_⟩
      walk_at "go"
      refine ⟨9999, 12, 31, by rw [show Cal.dayNo 9999 12 31 = 3652059 by decide]; rfl, by decide, fun H13 p13 s13 e13 => ?_⟩
      walk_at "go"
      refine ⟨2022, 3, 7, rfl, by decide, fun H14 s14 => ?_⟩
      rw [show Cal.dayNo 2022 3 7 = 738221 by decide]
      walk_at "go"
      refine n_lst (by show 5 ≤ sizeLine; decide) fun p15 H15 np15 s15 e15 => ?_
      walk_at "go"
      refine n_tup (by show 3 ≤ sizeLine; decide) fun p16 H16 np16 s16 e16 => ?_
      walk_at "go"
      refine n_tup (by show 3 ≤ sizeLine; decide) fun p17 H17 np17 s17 e17 => ?_
      walk_at "go"
      refine n_lst (by show 5 ≤ sizeLine; decide) fun p18 H18 np18 s18 e18 => ?_
      have f15 : H18 p15 = some (.lst [.int 1, .ref p12, .int ((1 - 1) % 7), .ref p13, .int (738221 % 7)]) := by walk_at "hp"
      have f12 : H18 p12 = some (.tup [.int 1, .int 1, .int 1]) := by walk_at "hp"
      have f13 : H18 p13 = some (.tup [.int 9999, .int 12, .int 31]) := by walk_at "hp"
      have f16 : H18 p16 = some (.tup [.int 1, .int 1, .int 1]) := by walk_at "hp"
      have f17 : H18 p17 = some (.tup [.int 9999, .int 12, .int 31]) := by walk_at "hp"
      refine g_eqd (Cal.dp5 f15 f12 f13) (Cal.dp5 e18 f16 f17) (by decide +kernel) (by decide +kernel) ?_
      rw [show PyData.eqv (.list [.int 1, .tuple [.int 1, .int 1, .int 1], .int ((1 - 1) % 7), .tuple [.int 9999, .int 12, .int 31], .int (738221 % 7)]) (.list [.int 1, .tuple [.int 1, .int 1, .int 1], .int 0, .tuple [.int 9999, .int 12, .int 31], .int 1]) = true by decide +kernel]
      exact q _
end
abbrev spLaw (K : PySem.W.Frag) : L2.Sp := Cal.spLaw K
theorem all_mk {w : World} {K : PySem.W.Frag} {h : Heap} {mg : Str → Option Value} {fa f0 f1 f2 f3 f4 f5 f6 f7 f8 f9 f10 f11 f12 f13 f14 f15 f16 f17 f18 f19 f20 f21 f22 ac1 : Addr} {t0 tc1x0 tc1x1 tc1x2 tc1x3 tc1x4 tc1x5 tc1x6 tc1x7 tc1x8 tc1x9 tc1x10 tc1x11 t2 t3 t4 : Tok} (X : K.In h) (G : h.Ns mainGlobals mg) (hfa : mg "law" = some (.ref fa))
    {od0 an0 od1 an1 od2 an2 od3 an3 od4 an4 od5 an5 od6 an6 od7 an7 od8 an8 od9 an9 od10 an10 od11 an11 od12 an12 od13 an13 od14 an14 od15 an15 od16 an16 od17 an17 od18 an18 od19 an19 od20 an20 od21 an21 od22 an22 : Option Addr} {sl0 sl1 sl2 sl3 sl4 sl5 sl6 sl7 sl8 sl9 sl10 sl11 sl12 sl13 sl14 sl15 sl16 sl17 sl18 sl19 sl20 sl21 sl22 : Array (Option Value)} {oc0 kV0 dc0 pm0 cd0 ct0 oc1 kV1 dc1 pm1 cd1 ct1 oc2 kV2 dc2 pm2 cd2 ct2 oc3 kV3 dc3 pm3 cd3 ct3 oc4 kV4 dc4 pm4 cd4 ct4 oc5 kV5 dc5 pm5 cd5 ct5 oc6 kV6 dc6 pm6 cd6 ct6 oc7 kV7 dc7 pm7 cd7 ct7 oc8 kV8 dc8 pm8 cd8 ct8 oc9 kV9 dc9 pm9 cd9 ct9 oc10 kV10 dc10 pm10 cd10 ct10 oc11 kV11 dc11 pm11 cd11 ct11 oc12 kV12 dc12 pm12 cd12 ct12 oc13 kV13 dc13 pm13 cd13 ct13 oc14 kV14 dc14 pm14 cd14 ct14 oc15 kV15 dc15 pm15 cd15 ct15 oc16 kV16 dc16 pm16 cd16 ct16 oc17 kV17 dc17 pm17 cd17 ct17 oc18 kV18 dc18 pm18 cd18 ct18 oc19 kV19 dc19 pm19 cd19 ct19 oc20 kV20 dc20 pm20 cd20 ct20 oc21 kV21 dc21 pm21 cd21 ct21 oc22 kV22 dc22 pm22 cd22 ct22 : Value}
    {dd1 : Option Addr} {nn1 : Nat} {ss1 : Array (Option Value)}
    (a0 : PySem.W.nsIn K mainGlobals "is_number" = some (some (.ref f0))) (l0 : K.lookup f0 = some ⟨oc0, od0, .func (PySem.W.fnOf "is_number" "is_number" (defArgs s_is_number) (defBody s_is_number) (defScope s_is_number) .none kV0 dc0 pm0 an0 cd0 ct0), sl0⟩) (c0 : PySem.W.codeIn K cd0 "is_number" = true) (k0 : PySem.W.keepIn K (.ref f0) = true)
    (a1 : PySem.W.nsIn K mainGlobals "is_between" = some (some (.ref f1))) (l1 : K.lookup f1 = some ⟨oc1, od1, .func (PySem.W.fnOf "is_between" "is_between" (defArgs s_is_between) (defBody s_is_between) (defScope s_is_between) .none kV1 dc1 pm1 an1 cd1 ct1), sl1⟩) (c1 : PySem.W.codeIn K cd1 "is_between" = true) (k1 : PySem.W.keepIn K (.ref f1) = true)
    (a2 : PySem.W.nsIn K mainGlobals "is_leap" = some (some (.ref f2))) (l2 : K.lookup f2 = some ⟨oc2, od2, .func (PySem.W.fnOf "is_leap" "is_leap" (defArgs s_is_leap) (defBody s_is_leap) (defScope s_is_leap) .none kV2 dc2 pm2 an2 cd2 ct2), sl2⟩) (c2 : PySem.W.codeIn K cd2 "is_leap" = true) (k2 : PySem.W.keepIn K (.ref f2) = true)
    (a3 : PySem.W.nsIn K mainGlobals "days_in" = some (some (.ref f3))) (l3 : K.lookup f3 = some ⟨oc3, od3, .func (PySem.W.fnOf "days_in" "days_in" (defArgs s_days_in) (defBody s_days_in) (defScope s_days_in) .none kV3 dc3 pm3 an3 cd3 ct3), sl3⟩) (c3 : PySem.W.codeIn K cd3 "days_in" = true) (k3 : PySem.W.keepIn K (.ref f3) = true)
    (a4 : PySem.W.nsIn K mainGlobals "day_number" = some (some (.ref f4))) (l4 : K.lookup f4 = some ⟨oc4, od4, .func (PySem.W.fnOf "day_number" "day_number" (defArgs s_day_number) (defBody s_day_number) (defScope s_day_number) .none kV4 dc4 pm4 an4 cd4 ct4), sl4⟩) (c4 : PySem.W.codeIn K cd4 "day_number" = true) (k4 : PySem.W.keepIn K (.ref f4) = true)
    (a5 : PySem.W.nsIn K mainGlobals "date_of" = some (some (.ref f5))) (l5 : K.lookup f5 = some ⟨oc5, od5, .func (PySem.W.fnOf "date_of" "date_of" (defArgs s_date_of) (defBody s_date_of) (defScope s_date_of) .none kV5 dc5 pm5 an5 cd5 ct5), sl5⟩) (c5 : PySem.W.codeIn K cd5 "date_of" = true) (k5 : PySem.W.keepIn K (.ref f5) = true)
    (a6 : PySem.W.nsIn K mainGlobals "weekday_of" = some (some (.ref f6))) (l6 : K.lookup f6 = some ⟨oc6, od6, .func (PySem.W.fnOf "weekday_of" "weekday_of" (defArgs s_weekday_of) (defBody s_weekday_of) (defScope s_weekday_of) .none kV6 dc6 pm6 an6 cd6 ct6), sl6⟩) (c6 : PySem.W.codeIn K cd6 "weekday_of" = true) (k6 : PySem.W.keepIn K (.ref f6) = true)
    (a7 : PySem.W.nsIn K mainGlobals "is_number_of_day" = some (some (.ref f7))) (l7 : K.lookup f7 = some ⟨oc7, od7, .func (PySem.W.fnOf "is_number_of_day" "is_number_of_day" (defArgs s_is_number_of_day) (defBody s_is_number_of_day) (defScope s_is_number_of_day) .none kV7 dc7 pm7 an7 cd7 ct7), sl7⟩) (c7 : PySem.W.codeIn K cd7 "is_number_of_day" = true) (k7 : PySem.W.keepIn K (.ref f7) = true)
    (a8 : PySem.W.nsIn K mainGlobals "_check_year" = some (some (.ref f8))) (l8 : K.lookup f8 = some ⟨oc8, od8, .func (PySem.W.fnOf "_check_year" "_check_year" (defArgs s__check_year) (defBody s__check_year) (defScope s__check_year) .none kV8 dc8 pm8 an8 cd8 ct8), sl8⟩) (c8 : PySem.W.codeIn K cd8 "_check_year" = true) (k8 : PySem.W.keepIn K (.ref f8) = true)
    (a9 : PySem.W.nsIn K mainGlobals "_has_29" = some (some (.ref f9))) (l9 : K.lookup f9 = some ⟨oc9, od9, .func (PySem.W.fnOf "_has_29" "_has_29" (defArgs s__has_29) (defBody s__has_29) (defScope s__has_29) .none kV9 dc9 pm9 an9 cd9 ct9), sl9⟩) (c9 : PySem.W.codeIn K cd9 "_has_29" = true) (k9 : PySem.W.keepIn K (.ref f9) = true)
    (a10 : PySem.W.nsIn K mainGlobals "_length_of" = some (some (.ref f10))) (l10 : K.lookup f10 = some ⟨oc10, od10, .func (PySem.W.fnOf "_length_of" "_length_of" (defArgs s__length_of) (defBody s__length_of) (defScope s__length_of) .none kV10 dc10 pm10 an10 cd10 ct10), sl10⟩) (c10 : PySem.W.codeIn K cd10 "_length_of" = true) (k10 : PySem.W.keepIn K (.ref f10) = true)
    (a11 : PySem.W.nsIn K mainGlobals "_first_number" = some (some (.ref f11))) (l11 : K.lookup f11 = some ⟨oc11, od11, .func (PySem.W.fnOf "_first_number" "_first_number" (defArgs s__first_number) (defBody s__first_number) (defScope s__first_number) .none kV11 dc11 pm11 an11 cd11 ct11), sl11⟩) (c11 : PySem.W.codeIn K cd11 "_first_number" = true) (k11 : PySem.W.keepIn K (.ref f11) = true)
    (a12 : PySem.W.nsIn K mainGlobals "_year_of" = some (some (.ref f12))) (l12 : K.lookup f12 = some ⟨oc12, od12, .func (PySem.W.fnOf "_year_of" "_year_of" (defArgs s__year_of) (defBody s__year_of) (defScope s__year_of) .none kV12 dc12 pm12 an12 cd12 ct12), sl12⟩) (c12 : PySem.W.codeIn K cd12 "_year_of" = true) (k12 : PySem.W.keepIn K (.ref f12) = true)
    (a13 : PySem.W.nsIn K mainGlobals "_law_begin" = some (some (.ref f13))) (l13 : K.lookup f13 = some ⟨oc13, od13, .func (PySem.W.fnOf "_law_begin" "_law_begin" (defArgs s__law_begin) (defBody s__law_begin) (defScope s__law_begin) .none kV13 dc13 pm13 an13 cd13 ct13), sl13⟩) (c13 : PySem.W.codeIn K cd13 "_law_begin" = true) (k13 : PySem.W.keepIn K (.ref f13) = true)
    (a14 : PySem.W.nsIn K mainGlobals "_law_mixed" = some (some (.ref f14))) (l14 : K.lookup f14 = some ⟨oc14, od14, .func (PySem.W.fnOf "_law_mixed" "_law_mixed" (defArgs s__law_mixed) (defBody s__law_mixed) (defScope s__law_mixed) .none kV14 dc14 pm14 an14 cd14 ct14), sl14⟩) (c14 : PySem.W.codeIn K cd14 "_law_mixed" = true) (k14 : PySem.W.keepIn K (.ref f14) = true)
    (a15 : PySem.W.nsIn K mainGlobals "_law_next" = some (some (.ref f15))) (l15 : K.lookup f15 = some ⟨oc15, od15, .func (PySem.W.fnOf "_law_next" "_law_next" (defArgs s__law_next) (defBody s__law_next) (defScope s__law_next) .none kV15 dc15 pm15 an15 cd15 ct15), sl15⟩) (c15 : PySem.W.codeIn K cd15 "_law_next" = true) (k15 : PySem.W.keepIn K (.ref f15) = true)
    (a16 : PySem.W.nsIn K mainGlobals "_law_length" = some (some (.ref f16))) (l16 : K.lookup f16 = some ⟨oc16, od16, .func (PySem.W.fnOf "_law_length" "_law_length" (defArgs s__law_length) (defBody s__law_length) (defScope s__law_length) .none kV16 dc16 pm16 an16 cd16 ct16), sl16⟩) (c16 : PySem.W.codeIn K cd16 "_law_length" = true) (k16 : PySem.W.keepIn K (.ref f16) = true)
    (a17 : PySem.W.nsIn K mainGlobals "_law_number" = some (some (.ref f17))) (l17 : K.lookup f17 = some ⟨oc17, od17, .func (PySem.W.fnOf "_law_number" "_law_number" (defArgs s__law_number) (defBody s__law_number) (defScope s__law_number) .none kV17 dc17 pm17 an17 cd17 ct17), sl17⟩) (c17 : PySem.W.codeIn K cd17 "_law_number" = true) (k17 : PySem.W.keepIn K (.ref f17) = true)
    (a18 : PySem.W.nsIn K mainGlobals "_law_next_day" = some (some (.ref f18))) (l18 : K.lookup f18 = some ⟨oc18, od18, .func (PySem.W.fnOf "_law_next_day" "_law_next_day" (defArgs s__law_next_day) (defBody s__law_next_day) (defScope s__law_next_day) .none kV18 dc18 pm18 an18 cd18 ct18), sl18⟩) (c18 : PySem.W.codeIn K cd18 "_law_next_day" = true) (k18 : PySem.W.keepIn K (.ref f18) = true)
    (a19 : PySem.W.nsIn K mainGlobals "_law_year" = some (some (.ref f19))) (l19 : K.lookup f19 = some ⟨oc19, od19, .func (PySem.W.fnOf "_law_year" "_law_year" (defArgs s__law_year) (defBody s__law_year) (defScope s__law_year) .none kV19 dc19 pm19 an19 cd19 ct19), sl19⟩) (c19 : PySem.W.codeIn K cd19 "_law_year" = true) (k19 : PySem.W.keepIn K (.ref f19) = true)
    (a20 : PySem.W.nsIn K mainGlobals "_law_date" = some (some (.ref f20))) (l20 : K.lookup f20 = some ⟨oc20, od20, .func (PySem.W.fnOf "_law_date" "_law_date" (defArgs s__law_date) (defBody s__law_date) (defScope s__law_date) .none kV20 dc20 pm20 an20 cd20 ct20), sl20⟩) (c20 : PySem.W.codeIn K cd20 "_law_date" = true) (k20 : PySem.W.keepIn K (.ref f20) = true)
    (a21 : PySem.W.nsIn K mainGlobals "_law_day_right" = some (some (.ref f21))) (l21 : K.lookup f21 = some ⟨oc21, od21, .func (PySem.W.fnOf "_law_day_right" "_law_day_right" (defArgs s__law_day_right) (defBody s__law_day_right) (defScope s__law_day_right) .none kV21 dc21 pm21 an21 cd21 ct21), sl21⟩) (c21 : PySem.W.codeIn K cd21 "_law_day_right" = true) (k21 : PySem.W.keepIn K (.ref f21) = true)
    (a22 : PySem.W.nsIn K mainGlobals "law" = some (some (.ref f22))) (l22 : K.lookup f22 = some ⟨oc22, od22, .func (PySem.W.fnOf "law" "law" (defArgs s_law) (defBody s_law) (defScope s_law) .none kV22 dc22 pm22 an22 cd22 ct22), sl22⟩) (c22 : PySem.W.codeIn K cd22 "law" = true) (k22 : PySem.W.keepIn K (.ref f22) = true)
    (v0 : PySem.W.nsIn K mainGlobals "LAST_NUMBER" = some (some (.int 3652059 t0)))
    (v1 : PySem.W.nsIn K mainGlobals "_LENGTHS" = some (some (.ref ac1))) (u1 : K.lookup ac1 = some ⟨.type "tuple", dd1, .seq #[Value.int 31 tc1x0, Value.int 28 tc1x1, Value.int 31 tc1x2, Value.int 30 tc1x3, Value.int 31 tc1x4, Value.int 30 tc1x5, Value.int 31 tc1x6, Value.int 31 tc1x7, Value.int 30 tc1x8, Value.int 31 tc1x9, Value.int 30 tc1x10, Value.int 31 tc1x11] nn1, ss1⟩)
    (v2 : PySem.W.nsIn K mainGlobals "_DAYS_OF_400_YEARS" = some (some (.int 146097 t2)))
    (v3 : PySem.W.nsIn K mainGlobals "_DAYS_OF_100_YEARS" = some (some (.int 36524 t3)))
    (v4 : PySem.W.nsIn K mainGlobals "_DAYS_OF_4_YEARS" = some (some (.int 1461 t4)))
    (z0 : PySem.W.nsIn K mainGlobals "len" = some none)
    (z1 : PySem.W.nsIn K mainGlobals "range" = some none)
    (z2 : PySem.W.nsIn K mainGlobals "min" = some none)
    (z3 : PySem.W.nsIn K mainGlobals "isinstance" = some none)
    (z4 : PySem.W.nsIn K mainGlobals "int" = some none)
    (z5 : PySem.W.nsIn K mainGlobals "bool" = some none)
    (z6 : PySem.W.nsIn K mainGlobals "repr" = some none)
    (z7 : PySem.W.nsIn K mainGlobals "sum" = some none)
    (z8 : PySem.W.nsIn K mainGlobals "divmod" = some none)
    : ∃ fd : FuncData, (∀ (s : Shared) (v : Value), BindsTo s fd ⟨[v], []⟩ [("script", v)]) ∧ ∀ base : Heap, K.In base → base.Ns mainGlobals mg → FnG P w K mg base CX0 7 fa fd ["script"] (spLaw K) := by
  have e := hfa.symm.trans (PySem.W.mg_of X G a22)
  cases e
  have F0 := fun_mk (st := s_is_number) l0 c0 k0
  have F1 := fun_mk (st := s_is_between) l1 c1 k1
  have F2 := fun_mk (st := s_is_leap) l2 c2 k2
  have F3 := fun_mk (st := s_days_in) l3 c3 k3
  have F4 := fun_mk (st := s_day_number) l4 c4 k4
  have F5 := fun_mk (st := s_date_of) l5 c5 k5
  have F6 := fun_mk (st := s_weekday_of) l6 c6 k6
  have F7 := fun_mk (st := s_is_number_of_day) l7 c7 k7
  have F8 := fun_mk (st := s__check_year) l8 c8 k8
  have F9 := fun_mk (st := s__has_29) l9 c9 k9
  have F10 := fun_mk (st := s__length_of) l10 c10 k10
  have F11 := fun_mk (st := s__first_number) l11 c11 k11
  have F12 := fun_mk (st := s__year_of) l12 c12 k12
  have F13 := fun_mk (st := s__law_begin) l13 c13 k13
  have F14 := fun_mk (st := s__law_mixed) l14 c14 k14
  have F15 := fun_mk (st := s__law_next) l15 c15 k15
  have F16 := fun_mk (st := s__law_length) l16 c16 k16
  have F17 := fun_mk (st := s__law_number) l17 c17 k17
  have F18 := fun_mk (st := s__law_next_day) l18 c18 k18
  have F19 := fun_mk (st := s__law_year) l19 c19 k19
  have F20 := fun_mk (st := s__law_date) l20 c20 k20
  have F21 := fun_mk (st := s__law_day_right) l21 c21 k21
  have F22 := fun_mk (st := s_law) l22 c22 k22
  let T : Txt K mg := {
    f_is_number := f0, fd_is_number := _, F_is_number := F0, g_is_number := PySem.W.mg_of X G a0, b_is_number := F0.binds (ps := ["thing"]) fun _ _ _ _ _ _ us hl => match us, hl with | [_], _ => rfl,
    f_is_between := f1, fd_is_between := _, F_is_between := F1, g_is_between := PySem.W.mg_of X G a1, b_is_between := F1.binds (ps := ["thing", "low", "high"]) fun _ _ _ _ _ _ us hl => match us, hl with | [_, _, _], _ => rfl,
    f_is_leap := f2, fd_is_leap := _, F_is_leap := F2, g_is_leap := PySem.W.mg_of X G a2, b_is_leap := F2.binds (ps := ["year"]) fun _ _ _ _ _ _ us hl => match us, hl with | [_], _ => rfl,
    f_days_in := f3, fd_days_in := _, F_days_in := F3, g_days_in := PySem.W.mg_of X G a3, b_days_in := F3.binds (ps := ["year", "month"]) fun _ _ _ _ _ _ us hl => match us, hl with | [_, _], _ => rfl,
    f_day_number := f4, fd_day_number := _, F_day_number := F4, g_day_number := PySem.W.mg_of X G a4, b_day_number := F4.binds (ps := ["year", "month", "day"]) fun _ _ _ _ _ _ us hl => match us, hl with | [_, _, _], _ => rfl,
    f_date_of := f5, fd_date_of := _, F_date_of := F5, g_date_of := PySem.W.mg_of X G a5, b_date_of := F5.binds (ps := ["number"]) fun _ _ _ _ _ _ us hl => match us, hl with | [_], _ => rfl,
    f_weekday_of := f6, fd_weekday_of := _, F_weekday_of := F6, g_weekday_of := PySem.W.mg_of X G a6, b_weekday_of := F6.binds (ps := ["number"]) fun _ _ _ _ _ _ us hl => match us, hl with | [_], _ => rfl,
    f_is_number_of_day := f7, fd_is_number_of_day := _, F_is_number_of_day := F7, g_is_number_of_day := PySem.W.mg_of X G a7, b_is_number_of_day := F7.binds (ps := ["thing"]) fun _ _ _ _ _ _ us hl => match us, hl with | [_], _ => rfl,
    f__check_year := f8, fd__check_year := _, F__check_year := F8, g__check_year := PySem.W.mg_of X G a8, b__check_year := F8.binds (ps := ["year"]) fun _ _ _ _ _ _ us hl => match us, hl with | [_], _ => rfl,
    f__has_29 := f9, fd__has_29 := _, F__has_29 := F9, g__has_29 := PySem.W.mg_of X G a9, b__has_29 := F9.binds (ps := ["year"]) fun _ _ _ _ _ _ us hl => match us, hl with | [_], _ => rfl,
    f__length_of := f10, fd__length_of := _, F__length_of := F10, g__length_of := PySem.W.mg_of X G a10, b__length_of := F10.binds (ps := ["year", "month"]) fun _ _ _ _ _ _ us hl => match us, hl with | [_, _], _ => rfl,
    f__first_number := f11, fd__first_number := _, F__first_number := F11, g__first_number := PySem.W.mg_of X G a11, b__first_number := F11.binds (ps := ["year"]) fun _ _ _ _ _ _ us hl => match us, hl with | [_], _ => rfl,
    f__year_of := f12, fd__year_of := _, F__year_of := F12, g__year_of := PySem.W.mg_of X G a12, b__year_of := F12.binds (ps := ["number"]) fun _ _ _ _ _ _ us hl => match us, hl with | [_], _ => rfl,
    f__law_begin := f13, fd__law_begin := _, F__law_begin := F13, g__law_begin := PySem.W.mg_of X G a13, b__law_begin := F13.binds (ps := ["script"]) fun _ _ _ _ _ _ us hl => match us, hl with | [_], _ => rfl,
    f__law_mixed := f14, fd__law_mixed := _, F__law_mixed := F14, g__law_mixed := PySem.W.mg_of X G a14, b__law_mixed := F14.binds (ps := ["cell", "k"]) fun _ _ _ _ _ _ us hl => match us, hl with | [_, _], _ => rfl,
    f__law_next := f15, fd__law_next := _, F__law_next := F15, g__law_next := PySem.W.mg_of X G a15, b__law_next := F15.binds (ps := ["draw", "bound"]) fun _ _ _ _ _ _ us hl => match us, hl with | [_, _], _ => rfl,
    f__law_length := f16, fd__law_length := _, F__law_length := F16, g__law_length := PySem.W.mg_of X G a16, b__law_length := F16.binds (ps := ["y", "mo"]) fun _ _ _ _ _ _ us hl => match us, hl with | [_, _], _ => rfl,
    f__law_number := f17, fd__law_number := _, F__law_number := F17, g__law_number := PySem.W.mg_of X G a17, b__law_number := F17.binds (ps := ["y", "mo", "d"]) fun _ _ _ _ _ _ us hl => match us, hl with | [_, _, _], _ => rfl,
    f__law_next_day := f18, fd__law_next_day := _, F__law_next_day := F18, g__law_next_day := PySem.W.mg_of X G a18, b__law_next_day := F18.binds (ps := ["y", "mo", "d"]) fun _ _ _ _ _ _ us hl => match us, hl with | [_, _, _], _ => rfl,
    f__law_year := f19, fd__law_year := _, F__law_year := F19, g__law_year := PySem.W.mg_of X G a19, b__law_year := F19.binds (ps := ["draw"]) fun _ _ _ _ _ _ us hl => match us, hl with | [_], _ => rfl,
    f__law_date := f20, fd__law_date := _, F__law_date := F20, g__law_date := PySem.W.mg_of X G a20, b__law_date := F20.binds (ps := ["draw"]) fun _ _ _ _ _ _ us hl => match us, hl with | [_], _ => rfl,
    f__law_day_right := f21, fd__law_day_right := _, F__law_day_right := F21, g__law_day_right := PySem.W.mg_of X G a21, b__law_day_right := F21.binds (ps := ["seen"]) fun _ _ _ _ _ _ us hl => match us, hl with | [_], _ => rfl,
    f_law := fa, fd_law := _, F_law := F22, g_law := PySem.W.mg_of X G a22, b_law := F22.binds (ps := ["script"]) fun _ _ _ _ _ _ us hl => match us, hl with | [_], _ => rfl,
    t_LAST_NUMBER := t0, g_LAST_NUMBER := PySem.W.mg_of X G v0,
    a__LENGTHS := ac1, g__LENGTHS := PySem.W.mg_of X G v1, q__LENGTHS := fun H => .inr ⟨_, _, _, u1, rfl, rfl, (by show 12 ≤ sizeLine; decide), .cons ⟨_, rfl⟩ (.cons ⟨_, rfl⟩ (.cons ⟨_, rfl⟩ (.cons ⟨_, rfl⟩ (.cons ⟨_, rfl⟩ (.cons ⟨_, rfl⟩ (.cons ⟨_, rfl⟩ (.cons ⟨_, rfl⟩ (.cons ⟨_, rfl⟩ (.cons ⟨_, rfl⟩ (.cons ⟨_, rfl⟩ (.cons ⟨_, rfl⟩ (.nil))))))))))))⟩,
    t__DAYS_OF_400_YEARS := t2, g__DAYS_OF_400_YEARS := PySem.W.mg_of X G v2,
    t__DAYS_OF_100_YEARS := t3, g__DAYS_OF_100_YEARS := PySem.W.mg_of X G v3,
    t__DAYS_OF_4_YEARS := t4, g__DAYS_OF_4_YEARS := PySem.W.mg_of X G v4,
    m_len := PySem.W.mg_none_of X G z0,
    m_range := PySem.W.mg_none_of X G z1,
    m_min := PySem.W.mg_none_of X G z2,
    m_isinstance := PySem.W.mg_none_of X G z3,
    m_int := PySem.W.mg_none_of X G z4,
    m_bool := PySem.W.mg_none_of X G z5,
    m_repr := PySem.W.mg_none_of X G z6,
    m_sum := PySem.W.mg_none_of X G z7,
    m_divmod := PySem.W.mg_none_of X G z8 }
  exact ⟨_, fun s v => .of_eq rfl, fun base _ _ => ok_law T⟩
end K34
open PySem PySem.W PyProof.Rows
set_option maxRecDepth 100000 in
set_option maxHeartbeats 0 in
theorem PySem.Challenge.cw_headerfold_k34_days_and_their_numbers_holds : PySem.Challenge.rw_headerfold_k34_days_and_their_numbers.Holds := by
  w_on; o_law; k_head; (case hw => w_witness2)
  k_fill
  refine L2.walk_ofG (l := PySem.Challenge.rw_headerfold_k34_days_and_their_numbers) (n := 63) (k := 7) (x := "script") (sp := K34.spLaw) rfl (by decide) rfl ⟨rfl, by decide, by decide⟩ (fun w h Y => PySem.W.kIn_of Y) ?F (fun _ _ a ns hl hS => ⟨a, ns, rfl, hS, hl, fun _ => rfl⟩)
  case F =>
    intro w mg fa h KX G hmg
    refine' K34.all_mk KX G hmg ?a0 ?l0 ?c0 ?k0 ?a1 ?l1 ?c1 ?k1 ?a2 ?l2 ?c2 ?k2 ?a3 ?l3 ?c3 ?k3 ?a4 ?l4 ?c4 ?k4 ?a5 ?l5 ?c5 ?k5 ?a6 ?l6 ?c6 ?k6 ?a7 ?l7 ?c7 ?k7 ?a8 ?l8 ?c8 ?k8 ?a9 ?l9 ?c9 ?k9 ?a10 ?l10 ?c10 ?k10 ?a11 ?l11 ?c11 ?k11 ?a12 ?l12 ?c12 ?k12 ?a13 ?l13 ?c13 ?k13 ?a14 ?l14 ?c14 ?k14 ?a15 ?l15 ?c15 ?k15 ?a16 ?l16 ?c16 ?k16 ?a17 ?l17 ?c17 ?k17 ?a18 ?l18 ?c18 ?k18 ?a19 ?l19 ?c19 ?k19 ?a20 ?l20 ?c20 ?k20 ?a21 ?l21 ?c21 ?k21 ?a22 ?l22 ?c22 ?k22 ?v0 ?v1 ?u1 ?v2 ?v3 ?v4 ?z0 ?z1 ?z2 ?z3 ?z4 ?z5 ?z6 ?z7 ?z8
    (case a0 => k_is)
    (case l0 => k_is)
    (case c0 => k_is)
    (case k0 => k_is)
    (case a1 => k_is)
    (case l1 => k_is)
    (case c1 => k_is)
    (case k1 => k_is)
    (case a2 => k_is)
    (case l2 => k_is)
    (case c2 => k_is)
    (case k2 => k_is)
    (case a3 => k_is)
    (case l3 => k_is)
    (case c3 => k_is)
    (case k3 => k_is)
    (case a4 => k_is)
    (case l4 => k_is)
    (case c4 => k_is)
    (case k4 => k_is)
    (case a5 => k_is)
    (case l5 => k_is)
    (case c5 => k_is)
    (case k5 => k_is)
    (case a6 => k_is)
    (case l6 => k_is)
    (case c6 => k_is)
    (case k6 => k_is)
    (case a7 => k_is)
    (case l7 => k_is)
    (case c7 => k_is)
    (case k7 => k_is)
    (case a8 => k_is)
    (case l8 => k_is)
    (case c8 => k_is)
    (case k8 => k_is)
    (case a9 => k_is)
    (case l9 => k_is)
    (case c9 => k_is)
    (case k9 => k_is)
    (case a10 => k_is)
    (case l10 => k_is)
    (case c10 => k_is)
    (case k10 => k_is)
    (case a11 => k_is)
    (case l11 => k_is)
    (case c11 => k_is)
    (case k11 => k_is)
    (case a12 => k_is)
    (case l12 => k_is)
    (case c12 => k_is)
    (case k12 => k_is)
    (case a13 => k_is)
    (case l13 => k_is)
    (case c13 => k_is)
    (case k13 => k_is)
    (case a14 => k_is)
    (case l14 => k_is)
    (case c14 => k_is)
    (case k14 => k_is)
    (case a15 => k_is)
    (case l15 => k_is)
    (case c15 => k_is)
    (case k15 => k_is)
    (case a16 => k_is)
    (case l16 => k_is)
    (case c16 => k_is)
    (case k16 => k_is)
    (case a17 => k_is)
    (case l17 => k_is)
    (case c17 => k_is)
    (case k17 => k_is)
    (case a18 => k_is)
    (case l18 => k_is)
    (case c18 => k_is)
    (case k18 => k_is)
    (case a19 => k_is)
    (case l19 => k_is)
    (case c19 => k_is)
    (case k19 => k_is)
    (case a20 => k_is)
    (case l20 => k_is)
    (case c20 => k_is)
    (case k20 => k_is)
    (case a21 => k_is)
    (case l21 => k_is)
    (case c21 => k_is)
    (case k21 => k_is)
    (case a22 => k_is)
    (case l22 => k_is)
    (case c22 => k_is)
    (case k22 => k_is)
    (case v0 => k_is)
    (case v1 => k_is)
    (case u1 => k_is)
    (case v2 => k_is)
    (case v3 => k_is)
    (case v4 => k_is)
    (case z0 => k_is)
    (case z1 => k_is)
    (case z2 => k_is)
    (case z3 => k_is)
    (case z4 => k_is)
    (case z5 => k_is)
    (case z6 => k_is)
    (case z7 => k_is)
    (case z8 => k_is)
