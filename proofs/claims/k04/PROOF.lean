import PyProof.Rows.All
import Wide.All
import OpenK.AllK
import Wide.FinOn
import HandS.ForMost
import HandS.Flow
import PyProof.ReprRoads
import PyProof.CallFns
import HandS.Walk
import HandS.Evl
import HandS.TupAny
import HandS.TupMul
import HandS.WideBits
import HandS.RevRange
import PyProof.ReprLen
import PyProof.StrLawsRepr
import HandS.Base
import HandS.Style
import HandS.Zip
import HandS.Deep
import HandS.Dict
import KE.GoesEnum
import KE.GoesMore
import HandS.Defaults
import HandS.IsInst
import HandS.More
import HandS.StrMore
import HandS.HeadHook3
import HandS.Strs
import HandS.Words
import HandS.DictComp
import HandS.Comp
import PyProof.DictFindH
import KE.SortCalls
import HandS.List
import HandS.DeepEq
import HandS.Rev
import HandS.HeadHook1
import HandS.Exc
import HandS.ExcInit
import KE.KExcInit
import KE.KExcIs
import HandS.ExcValue
import PySem.Challenge.RW_switchstages_k04_whole_parsing_by_own_go
set_option Elab.async false
set_option linter.all false
set_option maxRecDepth 100000
set_option maxHeartbeats 4000000
namespace GuL
open PySem PySem.Spec PyProof.Rows L2
/-! ### a def whose promise holds where no repr is under way -/
structure FnG (P : Program) (w : World) (K : PySem.W.Frag) (mg : Str → Option Value) (base : Heap) (CX : CXT) (k : Nat) (f : Addr) (fd : FuncData) (ps : List Str) (sp : Sp) : Prop where
  len : ∀ vs H Q E, sp vs H Q E → vs.length = ps.length
  go : ∀ (A : Around) (outer : List Env) (s : Shared) (H : Hp) (as : Args) (us : List Value) (vs : List V) (Q : VK) (E : XK), A.guards = some [] → Room k A → Env0 P w K mg base A outer s H → BindsTo s fd as (ps.zip us) →
    Vals vs us → sp vs H Q E → codeAny (model P w) A (.call (.ref f) as) (CR CX outer P w H s Q E) s
theorem FnG.of {P : Program} {w : World} {K : PySem.W.Frag} {mg : Str → Option Value} {base : Heap} {CX : CXT} {k : Nat} {f : Addr} {fd : FuncData} {ps : List Str} {sp : Sp} (F : FnOk P w K mg base CX k f fd ps sp) : FnG P w K mg base CX k f fd ps sp :=
  ⟨F.len, fun A outer s H as us vs Q E _ => F.run A outer s H as us vs Q E⟩
section
variable {X : Cx} {CX : CXT} {k : Nat} {f : Addr} {fd : FuncData} {ps : List Str} {sp : Sp} {dvs : List V} {ds : List Value} {E : XK} {x : Str} {p pos : Pos} {e : Expr} {es : List Expr} {t : TA}
theorem runG {pins : List (Addr × Obj)} {σ : L2.St} {H : Hp} {s : Shared} {Q : VK} {us : List Value} {vs : List V} (F : FnG X.prog X.w X.K X.mg X.base CX k f fd ps sp) (hA : X.A.guards = some []) (hr : Room k X.A) (hb : Binds X.K fd ps ds) (hd : Vals dvs ds) (hx : Passes CX X E)
    (I : L2.Inv X pins σ H s) (r : Vals vs us) (h : sp (vs ++ dvs) H Q E) : wpAny (model X.prog X.w) X.A (call (.ref f) us) (EP X pins σ Q) X.xe s := by
  have q2 : Vals (vs ++ dvs) (us ++ ds) := r.append hd
  have ql : (us ++ ds).length = ps.length := q2.length.symm.trans (F.len _ _ _ _ h)
  have go := F.go X.A X.stack s H ⟨us, []⟩ (us ++ ds) (vs ++ dvs) Q E hA hr I.env0 (hb s us I.kIn ql) q2 h
  refine wpAny_call (codeAny_mono go fun rr s' hq => ?_)
  match rr, hq with
  | .error e, hq => exact hx pins σ H s e s' I hq
  | .ok (.ret u), hq => exact I.after hq
theorem pe_callG (F : FnG X.prog X.w X.K X.mg X.base CX k f fd ps sp) (hA : X.A.guards = some []) (hr : Room k X.A) (hg : Gl X x) (hm : X.mg x = some (.ref f)) (hk : PySem.W.keepIn X.K (.ref f) = true) (hb : Binds X.K fd ps ds) (hd : Vals dvs ds) (hx : Passes CX X E) (ha : PA X (e :: es) t)
    (hdb : (x == ("__debug__" : Str)) = false := by decide) (he : starEach (e :: es) X.env = (false, eval e X.env) :: starEach es X.env := by rfl) (hpl : (backTo pos (starEach es X.env)).any (·.1) = false := by rfl) :
    PE X (.Call (.Name x p) (e :: es) [] pos) (tCall sp dvs E t) :=
  ⟨fun pins s σ H Q I h => wpAny_Call_Name_kw (ld_glob I hg hm (PySem.W.callWith_K (h₀ := X.base) I.ok.mod.kin hk (thn (ha.run pos pins s σ H _ I h) fun us s1 hh => by
    obtain ⟨vs, H1, I1, r, q⟩ := hh
    exact ⟨I1.kIn, runG F hA hr hb hd hx I1 r q⟩) he hpl) hdb)⟩
end
/-- the rule for such a def -/
theorem okG {P : Program} {w : World} {K : PySem.W.Frag} {mg : Str → Option Value} {base : Heap} {x qual : Str} {st : Stmt} {f : Addr} {fd : FuncData} {N ps : List Str} {k : Nat} {sp : Sp} (F : Fun K x qual st f fd) (S : FnScope N ps (defScope st)) (len : ∀ vs H Q E, sp vs H Q E → vs.length = ps.length)
    (body : ∀ (cdv : Value) (A : Around) (outer : List Env) (s : Shared) (H : Hp) (vs : List V) (Q : VK) (E : XK), A.guards = some [] → Room k (A.deeper (envOfC qual (defScope st) s.heap.objs.size f cdv)) → sp vs H Q E →
      ∃ t, PSs (cxOf CX0 P w K mg base N qual (defScope st) f cdv A outer s H E).nox (defBody st) t ∧ t { nx := fun _ H' => Q .non H', rt := Q } (start N vs) H) : FnG P w K mg base CX0 (k + 1) f fd ps sp := by
  obtain ⟨oc, od, kV, doc, pm, an, cdv, ct, osl, rfl, lk, hcd⟩ := F.ex
  constructor
  · exact len
  intro A outer s H as us vs Q E hA hr e0 hb r hsp
  have kin : K.In s.heap := e0.mod.kin.keeps fun b o e => (e0.bs b o e).1
  have noL : s.heap.NoLimit := e0.mod.nolimit.keeps fun b o e => (e0.bs b o e).1
  have kinds : ∀ y ∈ ps.zip us, (defScope st).names.lookup y.1 = some .local ∨ ((defScope st).names.lookup y.1 = some .cell ∧ ((cellsFrom (s.heap.objs.size + 1) (defScope st).names []).lookup y.1).isSome = true) := by
    rintro ⟨n, v⟩ hy
    cases S.par n (List.of_mem_zip hy).1 with
    | inl q => exact .inl q
    | inr q => exact .inr ⟨q, PySem.W.cellsFrom_some _ _ _ (.inl q)⟩
  refine codeAny_call_function hr.depth (kin _ _ lk) rfl S.co S.gen rfl (PySem.W.codeRec_of kin hcd) (hb _ _ _ _ (wpAny_newFunctionEnv_cells S.kind kinds fun env he s1 z => ?_))
  subst he
  refine ⟨noL.keeps z.toInCall.keep, codeAny_func ?_⟩
  obtain ⟨t, ht, hq⟩ := body cdv A outer s H vs Q E hA (hr.deeper _) hsp
  have J := inv_start (E := E) (CX := CX0) (P := P) (w := w) S hr.hd e0 (len _ _ _ _ hsp) r z
  refine wpAny_mono (ht.nox.run [] s1 (start N vs) H _ J hq) (fun fl s' hs => ?_) fun e s' hs => hs
  match fl, hs with
  | .ret u, hs =>
    obtain ⟨v, σ', H', J2, rv, q⟩ := hs
    exact ⟨v, H', J2.os, J2.bare, J2.base, J2.hok, rv, q⟩
  | .next, hs =>
    obtain ⟨σ', H', J2, q⟩ := hs
    exact ⟨.non, H', J2.os, J2.bare, J2.base, J2.hok, rfl, q⟩
  | .brk, hs =>
    obtain ⟨_, _, _, q⟩ := hs
    exact q.elim
  | .cont, hs =>
    obtain ⟨_, _, _, q⟩ := hs
    exact q.elim
/-! ### repr of data -/
/-- v is shown as z -/
inductive Shd (K : PySem.W.Frag) (H : Hp) : V → PyData → Prop where
  | dat {v : V} {d : PyData} (h : Dp K H v d) (n : d.hasDict = false) : Shd K H v d
  | emp {a : Addr} (h : H a = some (.dK [])) : Shd K H (.ref a) (.dict [])
def rRepr (K : PySem.W.Frag) : List V → Hp → VK → Prop := fun xs H Q => ∃ (v : V) (d : PyData), xs = [v] ∧ Shd K H v d ∧ d.showable = true ∧ d.depth ≤ 40 ∧ d.shown.length ≤ sizeLine ∧ Q (.str d.shown) H
theorem call_repr {X : Cx} (hA : X.A.guards = some []) (hu : X.A.units + 64 < cLine) : CallR X (.builtin "repr") (rRepr X.K) := by
  intro pins s σ H xs us Q I r h
  obtain ⟨v, d, rfl, hd, hs, hp, hz, q⟩ := h
  obtain ⟨u, rfl, ru⟩ := vals1 r
  have rd : ∃ as, Reads s.heap u d as ∧ (d.hasDict = true → sysModules ∉ as) := by
    cases hd with
    | dat h n =>
      obtain ⟨as, q⟩ := Dp.reads I d v u h ru
      exact ⟨as, q, fun e => by rw [n] at e; cases e⟩
    | @emp a h =>
      obtain rfl : u = Value.ref a := ru
      obtain ⟨_, hsys, vs, kv, o, es, ep, h1, h2, h3, h4⟩ := (show ObjOk X.prog X.w H s.heap a (.dK []) from I.hok a _ h)
      cases kv
      have he : es.toList = [] := by
        have h5 := h4.2.1
        revert h5
        generalize es.toList = l
        intro h5
        cases h5
        rfl
      refine ⟨a :: [] ++ [], Reads.dict h1 h2.1 h3 (by rw [he]; exact .nil) (by rw [he]; exact .nil), fun _ m => ?_⟩
      have e : sysModules = a := by simpa using m
      rw [e] at hsys
      simp at hsys
  obtain ⟨as, rd, hsm⟩ := rd
  cases v with
  | ref a =>
    obtain rfl : u = Value.ref a := ru
    exact repr_of_reads' rd hs hsm hA (by omega) (fun _ _ e => e) (fun h' u' tk k => ⟨.str d.shown, H, I.kept (t' := tk) k, ⟨u', rfl⟩, q⟩) hz
  | non =>
    obtain rfl : u = Value.none := ru
    cases rd
    exact PySem.P.repr_of_none ⟨.str _, H, I.tok _, ⟨_, rfl⟩, q⟩
  | bl b =>
    obtain rfl : u = Value.bool b := ru
    cases rd
    exact PySem.P.repr_of_bool ⟨.str _, H, I.tok _, ⟨_, rfl⟩, q⟩
  | int i =>
    obtain ⟨t, rfl⟩ := ru
    cases rd
    exact PySem.P.repr_of_int (of_decide_eq_true hs) ⟨.str _, H, I.tok _, ⟨_, rfl⟩, q⟩
  | str z =>
    obtain ⟨t, rfl⟩ := ru
    cases rd
    exact PySem.P.repr_of_str ⟨.str _, H, I.tok _, ⟨_, rfl⟩, q⟩ hz
  | byt b =>
    obtain ⟨t, rfl⟩ := ru
    cases rd
  | flt b =>
    obtain ⟨t, rfl⟩ := ru
    cases rd
  | ty n =>
    obtain rfl : u = Value.type n := ru
    cases rd
/-! ### the end of a law -/
section
variable {P : Program} {w : World} {K : PySem.W.Frag} {mg mb : Str → Option Value} {CX : CXT} {k : Nat} {fa a : Addr} {fd : FuncData} {x : Str} {sp : Sp} {s₁ : Shared} {vs : List Value} {ns : List Int}
/-- what a law's call leaves -/
abbrev Done (s₁ : Shared) (r : Result) (s' : Shared) : Prop := r = .ok (.ret (.bool true)) ∧ OldK s₁.heap s'.heap ∧ s'.os = s₁.os ∧ AllBare s'.gens
/-- the heap of what is tracked holds the script at a, or nothing -/
structure Scr (P : Program) (w : World) (K : PySem.W.Frag) (h : Heap) (a : Addr) (obj : Obj) (ns : List Int) (H : Hp) : Prop where
  only : Only H
  seq : SqL K H a (ns.map V.int)
  hok : HOk P w H h
  at_ : ∀ b, H b ≠ none → b = a
  nk : H a ≠ none → K.lookup a = none
theorem law_core {H : Hp} (KX : K.In s₁.heap) (hns : s₁.heap.Ns mainGlobals mg) (hb : s₁.heap.Ns builtinsNs mb) (hbb : ∀ x : Str, x ≠ "__name__" → mb x = bootBuiltins x) (hlim : s₁.heap.NoLimit) (hg : s₁.gens = #[])
    (ha : s₁.heap.get? a = some { cls := .type "list", data := .seq vs.toArray }) (hr : Room k callerA) (S : Scr P w K s₁.heap a { cls := .type "list", data := .seq vs.toArray } ns H)
    (F : ∀ base : Heap, K.In base → base.Ns mainGlobals mg → FnG P w K mg base CX k fa fd [x] sp) (hbind : ∀ (s : Shared) (u : Value), BindsTo s fd ⟨[u], []⟩ [(x, u)])
    (hsp : sp [.ref a] H (fun v _ => v = .bl true) fun _ _ _ => False) (hCX : ∀ e s', CX [] H s₁ (fun _ _ _ => False) e s' → False) :
    codeAny (model P w) callerA (.call (.ref fa) ⟨[.ref a], []⟩) (Done s₁) s₁ := by
  have free : ∀ {b : Addr} {o : Obj}, s₁.heap.get? b = some o → b ≠ a → H b = none := fun {b o} _ n => by
    by_cases z : H b = none
    · exact z
    · exact (n (S.at_ b z)).elim
  have hid : ∀ {b : Addr} {o : Obj}, s₁.heap.get? b = some o → H b = none → (hidT s₁.heap H).get? b = some o := hidT_get
  have dict : ∀ {b : Addr} {m : Str → Option Value}, s₁.heap.Ns b m → (hidT s₁.heap H).Ns b m := by
    rintro b m ⟨o, es, ep, e, dt, rr⟩
    refine ⟨o, es, ep, hid e (free e fun z => ?_), dt, rr⟩
    subst z
    rw [ha] at e
    cases e
    exact nomatch (show Data.seq vs.toArray _ = Data.dict es ep from dt)
  have kin : K.In (hidT s₁.heap H) := fun b o e => by
    refine hid (KX b o e) ?_
    by_cases z : H b = none
    · exact z
    · have eb := S.at_ b z
      subst eb
      have q := S.nk z
      rw [e] at q
      cases q
  have M : Mod K mg (hidT s₁.heap H) := by
    obtain ⟨mc, l1, l2⟩ := hlim
    exact ⟨kin, dict hns, ⟨mb, dict hb, hbb⟩, ⟨mc, dict l1, l2⟩⟩
  have none0 : ∀ b : Addr, b ∉ ([] : List Addr) := fun b z => nomatch z
  have e0 : Env0 P w K mg (hidT s₁.heap H) callerA [] s₁ H := ⟨rfl, M, fun b o e => of_hidT e, Nat.le_of_eq (hidT_size _ _), trivial, fun b z => (none0 b z).elim, S.hok, .of_eq hg⟩
  have go := (F _ kin (dict hns)).go callerA [] s₁ H ⟨[.ref a], []⟩ [.ref a] [.ref a] _ _ rfl hr e0 (hbind s₁ (.ref a)) (.cons rfl .nil) hsp
  refine codeAny_mono go fun r s' h => ?_
  match r, h with
  | .error e, h => exact (hCX e s' h).elim
  | .ok (.ret u), h =>
    obtain ⟨v, H', os, bare, un, hok', rv, q⟩ := h
    have ev : v = .bl true := q
    subst ev
    have eu : u = Value.bool true := rv
    subst eu
    refine ⟨rfl, OldK.of_keep fun b o e => ?_, os, bare⟩
    by_cases z : H b = none
    · exact un.keep b o e z (none0 b) (none0 b)
    · rcases S.only b with y | ⟨ob, xs, y⟩
      · exact (z y).elim
      · obtain ⟨e1, _⟩ := S.hok b _ y
        obtain ⟨e2, _⟩ := hok' b _ (un.frzs b ob _ y)
        rw [e] at e1
        cases e1
        exact e2
theorem law_callG (KX : K.In s₁.heap) (hns : s₁.heap.Ns mainGlobals mg) (hb : s₁.heap.Ns builtinsNs mb) (hbb : ∀ x : Str, x ≠ "__name__" → mb x = bootBuiltins x) (hlim : s₁.heap.NoLimit) (hg : s₁.gens = #[])
    (ha : s₁.heap.get? a = some { cls := .type "list", data := .seq vs.toArray }) (hi : IntsAre vs ns) (hl : ns.length ≤ sizeLine) (hr : Room k callerA)
    (F : ∀ base : Heap, K.In base → base.Ns mainGlobals mg → FnG P w K mg base CX k fa fd [x] sp) (hbind : ∀ (s : Shared) (u : Value), BindsTo s fd ⟨[u], []⟩ [(x, u)])
    (hsp : ∀ H : Hp, Only H → SqL K H a (ns.map V.int) → sp [.ref a] H (fun v _ => v = .bl true) fun _ _ _ => False)
    (hCX : ∀ H e s', CX [] H s₁ (fun _ _ _ => False) e s' → False) :
    codeAny (model P w) callerA (.call (.ref fa) ⟨[.ref a], []⟩) (Done s₁) s₁ := by
  have rv := vals_ints hi
  have lv := hi.length
  have key : ∃ H, Scr P w K s₁.heap a { cls := .type "list", data := .seq vs.toArray } ns H := by
    by_cases hk : K.lookup a = none
    · have at0 : ∀ {b : Addr} {u : HO}, (if b = a then some (HO.frz { cls := .type "list", data := .seq vs.toArray } (.lst (ns.map V.int))) else none) = some u → b = a ∧ u = HO.frz { cls := .type "list", data := .seq vs.toArray } (.lst (ns.map V.int)) := fun {b u} z => by
        by_cases e : b = a
        · rw [if_pos e] at z
          exact ⟨e, (Option.some.inj z).symm⟩
        · rw [if_neg e] at z
          cases z
      refine ⟨fun b => if b = a then some (.frz { cls := .type "list", data := .seq vs.toArray } (.lst (ns.map V.int))) else none, ⟨fun b => ?_, ?_, fun b u z => ?_, fun b z => ?_, fun _ => hk⟩⟩
      · by_cases e : b = a
        · right
          exact ⟨_, _, if_pos e⟩
        · left
          exact if_neg e
      · left
        right
        exact ⟨_, if_pos rfl⟩
      · obtain ⟨rfl, rfl⟩ := at0 z
        exact ⟨ha, by rw [List.length_map]; exact hl, vs, _, rv, ha⟩
      · by_cases e : b = a
        · exact e
        · exact (z (if_neg e)).elim
    · obtain ⟨o, ho⟩ := Option.ne_none_iff_exists'.mp hk
      have e := KX a o ho
      rw [ha] at e
      cases e
      refine ⟨fun _ => none, ⟨fun _ => .inl rfl, ?_, fun b u z => (nomatch z), fun b z => (z rfl).elim, fun z => (z rfl).elim⟩⟩
      right
      exact ⟨_, vs.toArray, _, ho, rfl, rfl, rfl, by rw [List.size_toArray, lv]; exact hl, by simpa using rv⟩
  obtain ⟨H, S⟩ := key
  exact law_core KX hns hb hbb hlim hg ha hr S F hbind (hsp H S.only S.seq) (hCX H)
end
theorem walkG {l : PySem.W.OpenLaw} {n k : Nat} {q : Program} {loose : List Str} {XP : (Str → Option Value) → Heap → Prop} {YP : World → Heap → Prop} {d : DefRec} {K : Params → PySem.W.Frag} {sp : PySem.W.Frag → Sp} {x : Str}
    (hn : l.most = some n) (hn2 : n ≤ sizeLine) (hdf : d.params.defaults = []) (hr : Room k callerA) (hY : ∀ (w : World) (h : Heap), YP w h → (K w.params).In h)
    (F : ∀ (w : World) (mg : Str → Option Value) (fa : Addr) (h : Heap), (K w.params).In h → h.Ns mainGlobals mg → mg d.name = some (.ref fa) →
      ∃ fd : FuncData, (∀ (s : Shared) (u : Value), BindsTo s fd ⟨[u], []⟩ [(x, u)]) ∧ ∀ base : Heap, (K w.params).In base → base.Ns mainGlobals mg → FnG l.prog w (K w.params) mg base CX0 k fa fd [x] (sp (K w.params)))
    (hsp : ∀ (K : PySem.W.Frag) (H : Hp) (a : Addr) (ns : List Int), ns.length ≤ n → Only H → SqL K H a (ns.map V.int) → sp K [.ref a] H (fun v _ => v = .bl true) fun _ _ _ => False) :
    PySem.W.WalkO q loose XP YP l.row.toRowW d [] (fun f vs => PySem.call f vs) := by
  refine Att.attach_call hn hdf fun w s₀ s₁ mg mb fa o pm cd doc a vs ns G Y ho hd hcd hmg hobj hints hlen hg => ?_
  obtain ⟨fd, hb, hF⟩ := F w mg fa _ (hY w _ Y) G.T.g hmg
  exact law_callG (hY w _ Y) G.T.g G.T.b G.T.builtins G.T.nolimit hg hobj hints (Nat.le_trans hlen hn2) hr hF hb (fun H h2 h3 => hsp _ H a ns hlen h2 h3) fun H e s' z => z
end GuL

namespace HG
open PySem PySem.Spec PyProof.Rows L2 GuL
/-! ### heaps -/
/-- all that was tracked is as it was, but b -/
def Exb (b : Addr) (H H' : Hp) : Prop := ∀ p u, p ≠ b → H p = some u → H' p = some u
theorem Exb.refl (b : Addr) (H : Hp) : Exb b H H := fun _ _ _ h => h
theorem Exb.trans {b : Addr} {H H1 H2 : Hp} (a : Exb b H H1) (c : Exb b H1 H2) : Exb b H H2 := fun p u n h => c p u n (a p u n h)
theorem Exb.of {b : Addr} {H H' : Hp} (a : Same H H') : Exb b H H' := fun p u _ h => a p u h
theorem Exb.put {b : Addr} {H : Hp} {o : HO} : Exb b H (upd H b o) := fun p u n h => by
  rw [upd_ne n]
  exact h
theorem Exb.fresh {b D : Addr} {H H' : Hp} (a : Exb b H H') (n : D ≠ b) (h : H' D = none) : H D = none := by
  cases q : H D with
  | none => rfl
  | some u =>
    rw [a D u n q] at h
    cases h
theorem Exb.mut {b D : Addr} {H H' : Hp} {o : HO} (a : Exb b H H') (h : H D = none) : Exb b H (upd H' D o) := fun p u n q => by
  rw [upd_ne (ne_of_none q h)]
  exact a p u n q
theorem same_new {H : Hp} {p : Addr} {o : HO} (h : H p = none) : Same H (upd H p o) := fun b x e => by
  rw [upd_ne (ne_of_none e h)]
  exact e
/-- the bowl -/
def bw (o m c : Int) : HO := .lst [.int o, .int m, .int c]
theorem cutV_mem {xs : List V} {lo hi : Option Int} {x : V} (h : x ∈ cutV xs lo hi) : x ∈ xs := by
  unfold cutV at h
  exact List.mem_of_mem_drop (List.mem_of_mem_take h)
theorem int_of_mem {ns : List Int} {y : V} (h : y ∈ ns.map V.int) : ∃ z, y = V.int z := by
  obtain ⟨z, _, e⟩ := List.mem_map.mp h
  exact ⟨z, e.symm⟩
theorem getI {ns : List Int} {t : Int} (h0 : 0 ≤ t) (h1 : t < ((ns.map V.int).length : Int)) : ∃ z, atI (ns.map V.int) t = some (V.int z) := by
  obtain ⟨j, rfl⟩ := Int.eq_ofNat_of_zero_le h0
  have hj : j < ns.length := by
    rw [List.length_map] at h1
    omega
  refine ⟨ns[j], atI_nat ?_⟩
  rw [List.getElem?_map, List.getElem?_eq_getElem hj]
  rfl
theorem sqT_exb {K : PySem.W.Frag} {b t : Addr} {H H' : Hp} {xs : List V} (e : Exb b H H') (n : t ≠ b) (h : SqT K H t xs) : SqT K H' t xs := by
  rcases h with (h | ⟨o, h⟩) | h
  · exact .inl (.inl (e _ _ n h))
  · exact .inl (.inr ⟨o, e _ _ n h⟩)
  · exact .inr h
structure Okd (d : PyData) : Prop where
  sh : d.showable = true
  dp : d.depth ≤ 40
  lv : d.leavesShort 13 = true
  wt : d.weight ≤ 2 ^ 20
theorem Okd.fits {d : PyData} (h : Okd d) : d.shown.length ≤ sizeLine := PyData.shown_fits (B := 13) (by decide) (by decide) h.lv h.wt
theorem log_small {n : Nat} (h : n < 2 ^ 40) : n.log2 < 40 := by
  by_cases z : n = 0
  · rw [z]; decide
  · exact (Nat.log2_lt z).mpr h
theorem okd_int {r : Int} (h0 : -100 ≤ r) (h1 : r < 5000000000) : Okd (.int r) := by
  have a : r.natAbs < 10 ^ 12 := by omega
  have l : r.natAbs.log2 < 40 := log_small (show r.natAbs < 2 ^ 40 by omega)
  refine ⟨?_, by simp [PyData.depth], ?_, ?_⟩
  · simp only [PyData.showable, decide_eq_true_eq]
    omega
  · simp only [PyData.leavesShort, decide_eq_true_eq]
    exact PyData.shown_int_le a
  · simp only [PyData.weight]
    split <;> omega
theorem okd_ints : ∀ {rs : List Int}, rs.length ≤ 100 → (∀ r ∈ rs, 0 ≤ r ∧ r < 5000000000) → Okd (.tuple (rs.map .int)) := fun {rs} hl h => by
  have key : ∀ l : List Int, (∀ r ∈ l, 0 ≤ r ∧ r < 5000000000) → PyData.showableAll (l.map .int) = true ∧ PyData.depthAll (l.map .int) = 0 ∧ PyData.leavesShortAll 13 (l.map .int) = true ∧ PyData.weightAll (l.map .int) ≤ 50 * l.length := by
    intro l
    induction l with
    | nil => intro _; exact ⟨rfl, rfl, rfl, Nat.le_refl _⟩
    | cons r l ih =>
      intro h
      obtain ⟨i1, i2, i3, i4⟩ := ih fun x hx => h x (List.mem_cons_of_mem _ hx)
      obtain ⟨r0, r1⟩ := h r List.mem_cons_self
      have o := okd_int (r := r) (by omega) r1
      have l40 : r.natAbs.log2 < 40 := log_small (show r.natAbs < 2 ^ 40 by omega)
      refine ⟨?_, ?_, ?_, ?_⟩
      · simp only [List.map_cons, PyData.showableAll, o.sh, i1, Bool.and_self]
      · simp only [List.map_cons, PyData.depthAll, i2, PyData.depth]
        rfl
      · simp only [List.map_cons, PyData.leavesShortAll, o.lv, i3, Bool.and_self]
      · have e : PyData.weight (.int r) ≤ 41 := by
          simp only [PyData.weight]
          split <;> omega
        simp only [List.map_cons, PyData.weightAll, List.length_cons]
        omega
  obtain ⟨i1, i2, i3, i4⟩ := key rs h
  exact ⟨by simp only [PyData.showable, i1], by simp only [PyData.depth, i2]; decide, by simp only [PyData.leavesShort, i3], by simp only [PyData.weight]; omega⟩
theorem okd_str {z : Str} (hl : z.length ≤ 1000) (h : ∀ c ∈ z.cps.toList, c < 16 ^ 8) : Okd (.str z) := by
  refine ⟨rfl, by simp [PyData.depth], ?_, ?_⟩
  · simp only [PyData.leavesShort, List.all_eq_true, decide_eq_true_eq]
    exact h
  · simp only [PyData.weight]
    have e : z.cps.size = z.length := rfl
    omega
theorem sameT {K : PySem.W.Frag} {H H' : Hp} {a : Addr} {xs : List V} (e : Same H H') (h : SqT K H a xs) : SqT K H' a xs := by
  rcases h with (h | ⟨o, h⟩) | h
  · exact .inl (.inl (e _ _ h))
  · exact .inl (.inr ⟨o, e _ _ h⟩)
  · exact .inr h
mutual
theorem dpSame {K : PySem.W.Frag} {H H' : Hp} (e : Same H H') : ∀ {v : V} {d : PyData}, Dp K H v d → Dp K H' v d
  | _, _, .non => .non
  | _, _, .bl b => .bl b
  | _, _, .int i => .int i
  | _, _, .str x => .str x
  | _, _, .lst h r => .lst (e.seq h) (dpSameAll e r)
  | _, _, .tup h r => .tup (sameT e h) (dpSameAll e r)
theorem dpSameAll {K : PySem.W.Frag} {H H' : Hp} (e : Same H H') : ∀ {vs : List V} {ds : List PyData}, DpAll K H vs ds → DpAll K H' vs ds
  | _, _, .nil => .nil
  | _, _, .cons h r => .cons (dpSame e h) (dpSameAll e r)
end
theorem shdSame {K : PySem.W.Frag} {H H' : Hp} (e : Same H H') {v : V} {d : PyData} : Shd K H v d → Shd K H' v d
  | .dat h n => .dat (dpSame e h) n
  | .emp h => .emp (e _ _ h)
theorem dp_ints {K : PySem.W.Frag} {H : Hp} : ∀ ys : List Int, DpAll K H (ys.map V.int) (ys.map PyData.int)
  | [] => .nil
  | y :: ys => .cons (.int y) (dp_ints ys)
theorem same_exb {H H1 H2 : Hp} {p : Addr} (s : Same H H1) (n : H p = none) (e : Exb p H1 H2) : Same H H2 := fun b o h => e b o (ne_of_none h n) (s b o h)
/-! ### data told by the value -/
theorem dp_str {K : PySem.W.Frag} {H : Hp} {v : V} {z : Str} (h : Dp K H v (.str z)) : v = .str z := by
  cases h
  rfl
theorem dp_int {K : PySem.W.Frag} {H : Hp} {v : V} {i : Int} (h : Dp K H v (.int i)) : v = .int i := by
  cases h
  rfl
theorem dp_tup {K : PySem.W.Frag} {H : Hp} {v : V} {ds : List PyData} (h : Dp K H v (.tuple ds)) : ∃ a xs, v = .ref a ∧ SqT K H a xs ∧ DpAll K H xs ds := by
  cases h with
  | tup h1 h2 => exact ⟨_, _, rfl, h1, h2⟩
theorem dpAll_len {K : PySem.W.Frag} {H : Hp} : ∀ {xs : List V} {ds : List PyData}, DpAll K H xs ds → xs.length = ds.length
  | _, _, .nil => rfl
  | _, _, .cons _ r => by rw [List.length_cons, List.length_cons, dpAll_len r]
theorem dpAll_get {K : PySem.W.Frag} {H : Hp} : ∀ {xs : List V} {ds : List PyData} {i : Nat} {d : PyData}, DpAll K H xs ds → ds[i]? = some d → ∃ x, xs[i]? = some x ∧ Dp K H x d
  | _, _, 0, d, .cons h _, e => by
    simp at e
    subst e
    exact ⟨_, rfl, h⟩
  | _, _, i + 1, d, .cons _ r, e => by
    obtain ⟨x, q1, q2⟩ := dpAll_get (i := i) r (by simpa using e)
    exact ⟨x, by simpa using q1, q2⟩
theorem dpAll_at {K : PySem.W.Frag} {H : Hp} : ∀ {xs : List V} {ds : List PyData} {i : Nat} {x : V}, DpAll K H xs ds → xs[i]? = some x → ∃ d, ds[i]? = some d ∧ Dp K H x d
  | _, _, 0, x, .cons h _, e => by
    simp at e
    subst e
    exact ⟨_, rfl, h⟩
  | _, _, i + 1, x, .cons _ r, e => by
    obtain ⟨d, q1, q2⟩ := dpAll_at (i := i) r (by simpa using e)
    exact ⟨d, by simpa using q1, q2⟩
theorem dpAll_snoc {K : PySem.W.Frag} {H : Hp} {x : V} {d : PyData} (h : Dp K H x d) : ∀ {xs : List V} {ds : List PyData}, DpAll K H xs ds → DpAll K H (xs ++ [x]) (ds ++ [d])
  | _, _, .nil => .cons h .nil
  | _, _, .cons a r => .cons a (dpAll_snoc h r)
theorem dpAll_strs {K : PySem.W.Frag} {H : Hp} : ∀ zs : List Str, DpAll K H (zs.map V.str) (zs.map PyData.str)
  | [] => .nil
  | z :: zs => .cons (.str z) (dpAll_strs zs)
theorem dpAll_strs_inv {K : PySem.W.Frag} {H : Hp} : ∀ {xs : List V} {zs : List Str}, DpAll K H xs (zs.map PyData.str) → xs = zs.map V.str
  | _, [], .nil => rfl
  | _, z :: zs, .cons h r => by rw [dp_str h, dpAll_strs_inv r]; rfl
theorem dpAll_ints_inv {K : PySem.W.Frag} {H : Hp} : ∀ {xs : List V} {zs : List Int}, DpAll K H xs (zs.map PyData.int) → xs = zs.map V.int
  | _, [], .nil => rfl
  | _, z :: zs, .cons h r => by rw [dp_int h, dpAll_ints_inv r]; rfl
/-! ### what stands at tuples and lists alone stays, whatever becomes of the jar: data of tuples -/
/-- no list within -/
inductive NoL : PyData → Prop
  | non : NoL .none
  | bl (b : Bool) : NoL (.bool b)
  | int (i : Int) : NoL (.int i)
  | str (z : Str) : NoL (.str z)
  | tup {ds : List PyData} : (∀ d ∈ ds, NoL d) → NoL (.tuple ds)
mutual
theorem dpExb {K : PySem.W.Frag} {b : Addr} {H H' : Hp} {xs0 : List V} (hb : H b = some (.lst xs0)) (e : Exb b H H') : ∀ {v : V} {d : PyData}, NoL d → Dp K H v d → Dp K H' v d
  | _, _, _, .non => .non
  | _, _, _, .bl b => .bl b
  | _, _, _, .int i => .int i
  | _, _, _, .str x => .str x
  | _, _, n, .lst _ _ => nomatch n
  | _, _, .tup n, .tup (a := a) h r => .tup (by
      rcases h with (h | ⟨o, h⟩) | h
      · exact .inl (.inl (e _ _ (fun z => by rw [z, hb] at h; cases h) h))
      · exact .inl (.inr ⟨o, e _ _ (fun z => by rw [z, hb] at h; cases h) h⟩)
      · exact .inr h) (dpExbAll hb e n r)
theorem dpExbAll {K : PySem.W.Frag} {b : Addr} {H H' : Hp} {xs0 : List V} (hb : H b = some (.lst xs0)) (e : Exb b H H') : ∀ {vs : List V} {ds : List PyData}, (∀ d ∈ ds, NoL d) → DpAll K H vs ds → DpAll K H' vs ds
  | _, _, _, .nil => .nil
  | _, _, n, .cons h r => .cons (dpExb hb e (n _ List.mem_cons_self) h) (dpExbAll hb e (fun d hd => n d (List.mem_cons_of_mem _ hd)) r)
end
end HG

namespace LJ
open PySem PySem.Spec PyProof.Rows L2 GuL HG
/-! ### the text -/
def topS (i : Nat) : Stmt := PySem.Challenge.pw_switchstages_k04_whole_parsing_by_own_go.main.body.getD i (.Pass ⟨0, 0, 0, 0⟩)
abbrev sJar : Stmt := topS 58
abbrev sDip : Stmt := topS 59
abbrev sOne : Stmt := topS 60
structure Blt (mg : Str → Option Value) : Prop where
  int : mg "int" = none
  abs : mg "abs" = none
  len : mg "len" = none
  divmod : mg "divmod" = none
  range : mg "range" = none
  tuple : mg "tuple" = none
  repr : mg "repr" = none
  all : mg "all" = none
  max : mg "max" = none
  min : mg "min" = none
  sum : mg "sum" = none
  zip : mg "zip" = none
  str : mg "str" = none
  list : mg "list" = none
  set : mg "set" = none
  isi : mg "isinstance" = none
  bool : mg "bool" = none
  reversed : mg "reversed" = none
/-- the jar -/
def bw (o m c : Int) : HO := .lst [.int o, .int m, .int c]
section
variable {P : Program} {w : World} {K : PySem.W.Frag} {mg : Str → Option Value} {base : Heap}
/-! ### the jar -/
def spJar (K : PySem.W.Frag) : Sp := fun vs H Q _ => ∃ (a : Addr) (ns : List Int) (t : Int), vs = [.ref a, .int t] ∧ SqL K H a (ns.map V.int) ∧ ns.length ≤ 63 ∧ 0 ≤ t ∧
  ∀ H' p o m, Same H H' → H p = none → H' p = some (bw o m 0) → 0 ≤ o → Q (.ref p) H'
theorem scJar : FnScope ["_law_script", "_law_turn", "_law_mixed", "_law_cell", "_law_own"] ["_law_script", "_law_turn"] (defScope sJar) := ⟨rfl, rfl, rfl, by decide +kernel, rfl, by decide +kernel, by decide +kernel⟩
theorem ok_jar {f : Addr} {fd : FuncData} (F : Fun K "_law_jar" "_law_jar" sJar f fd) (B : Blt mg) : FnOk P w K mg base CX0 1 f fd ["_law_script", "_law_turn"] (spJar K) := by
  refine F.ok scJar (fun vs H Q E h => ?_) (fun cdv A outer s H vs Q E hr h => ?_)
  · obtain ⟨a, ns, t, rfl, _⟩ := h
    rfl
  · obtain ⟨a, ns, t, rfl, hS, hlen, ht, k⟩ := h
    refine ⟨_, pss_cons (ps_set (i := 2) scJar.nd rfl (.inl rfl) (pe_op op_add pe_int (pe_op op_mul pe_int (pv 1))))
      (pss_cons (ps_for PassesOwn.never rfl (pi_list (pe_slice sl_list (pv 0) po_none (po_some pe_int))) (pg_name (i := 3) scJar.nd rfl (.inl rfl))
        (pss_one (ps_set (i := 2) scJar.nd rfl (.inl rfl) (pe_op op_mod (pe_callTy call_int1 (by rfl) B.int (by decide +kernel) (pa_cons (pe_op op_add (pe_op op_add (pe_op op_mul (pv 2) pe_int) (pe_op op_mul (pe_op op_mod (pe_callTy call_int1 (by rfl) B.int (by decide +kernel) (pa_cons (pv 3) pa_nil)) pe_int) pe_int)) pe_int) pa_nil)) pe_int))))
      (Evl.pss_cut (ps_set (i := 4) scJar.nd rfl (.inl rfl) (pe_ifExp (pt_cmpR op_lt (pv 1) (pe_callB call_len_seq (by rfl) B.len PySem.boot_len (pa_cons (pv 0) pa_nil)) (nomark _))
          (pe_callTy call_int1 (by rfl) B.int (by decide +kernel) (pa_cons (pe_ix ix_list (pv 0) (pv 1) (fun _ _ => rfl)) pa_nil)) pe_int))
      (pss_one (ps_ret (pe_lst (pa_cons (pe_ifExp (PW.pt (pw_or (pt_cmpR op_lt (pv 4) pe_int (nomark _)) (pw_or1 (pt_cmpR op_ge (pv 4) (pe_op op_pow pe_int pe_int) (nomark _)))))
          (pe_callB call_abs (by rfl) B.abs (by decide +kernel) (pa_cons (pv 4) pa_nil)) pe_int) (pa_cons (pv 2) (pa_cons pe_int pa_nil)))))))), ?_⟩
    refine ⟨_, rfl, _, _, rfl, rfl, .inl ⟨by decide, by decide⟩, _, _, rfl, rfl, ?_⟩
    refine ⟨_, rfl, 10, rfl, a, ns.map V.int, rfl, hS, fun c nc => ?_⟩
    have s1 : Same H (upd H c (.lst (cutV (ns.map V.int) none (some 10)))) := same_new nc
    refine ⟨c, rfl, ⟨_, SqL.of upd_same⟩, for_list (K := K) (a := c) (xs := cutV (ns.map V.int) none (some 10)) (fun i σ H' => ∃ (m : Int) (v : Option V), σ = [some (.ref a), some (.int t), some (.int m), v, none] ∧ Same H H' ∧ H' c = some (.lst (cutV (ns.map V.int) none (some 10))))
      ⟨_, none, rfl, s1, upd_same⟩ (fun i σ H' _ ⟨_, _, _, _, e⟩ => SqL.of e) ?_ ?_⟩
    · rintro i y σ H' hi ⟨m, v, rfl, s2, ec⟩
      obtain ⟨z, rfl⟩ := int_of_mem (cutV_mem (List.mem_of_getElem? hi))
      refine ⟨_, rfl, _, _, rfl, rfl, .inr ⟨by decide, by decide⟩, _, rfl, .inl ⟨_, rfl, _, _, rfl, rfl, (by show (0 : Int) < _; decide), _, _, rfl, rfl, .inr ⟨by decide, by decide⟩, _, _, rfl, rfl, _, _, rfl, rfl, .inl ⟨_, rfl, _, _, rfl, rfl, (by show (0 : Int) < _; decide), ?_⟩⟩⟩
      exact ⟨_, _, rfl, s2, ec⟩
    · rintro σ H' ⟨m, v, rfl, s2, ec⟩
      refine ⟨fun σ' H'' => ∃ z : Int, σ' = [some (.ref a), some (.int t), some (.int m), v, some (.int z)] ∧ H'' = H', ?_, ?_⟩
      · refine ⟨_, rfl, _, rfl, a, _, rfl, .inl (s2.seq hS), _, _, rfl, rfl, _, rfl, ite2 (fun c => ?_) (fun c => ?_)⟩
        · obtain ⟨z, hz⟩ := getI (ns := ns) ht (of_decide_eq_true c)
          exact ⟨_, rfl, _, rfl, a, _, t, _, rfl, rfl, s2.seq hS, hz, .inl ⟨_, rfl, ⟨_, rfl, rfl⟩⟩⟩
        · exact ⟨_, rfl, rfl⟩
      · rintro σ' H'' ⟨z, rfl, rfl⟩
        have fin : ∀ o : Int, 0 ≤ o → ∀ p, H'' p = none → Q (.ref p) (upd H'' p (bw o m 0)) := fun o ho p hp => k _ p o m (s2.trans (same_new hp)) (s2.free hp) upd_same ho
        refine ⟨_, rfl, _, _, rfl, rfl, _, rfl, ite2 (fun c => ?_) (fun c => ?_)⟩
        · refine ⟨_, rfl, z, rfl, _, rfl, by show 3 ≤ sizeLine; decide, fin _ ?_⟩
          split <;> omega
        · refine ⟨_, rfl, _, _, rfl, rfl, ⟨by decide, by decide, by decide⟩, _, _, rfl, rfl, _, rfl, ite2 (fun c => ?_) (fun c => ?_)⟩
          · refine ⟨_, rfl, z, rfl, _, rfl, by show 3 ≤ sizeLine; decide, fin _ ?_⟩
            split <;> omega
          · exact ⟨_, rfl, by show 3 ≤ sizeLine; decide, fin _ (by decide)⟩
/-! ### a draw -/
theorem scDip : FnScope ["_law_jar_here", "_law_top", "_law_figure", "_law_stirred"] ["_law_jar_here", "_law_top"] (defScope sDip) := ⟨rfl, rfl, rfl, by decide +kernel, rfl, by decide +kernel, by decide +kernel⟩
def spDip : Sp := fun vs H Q _ => ∃ (b : Addr) (t o m c : Int), vs = [.ref b, .int t] ∧ H b = some (bw o m c) ∧ 0 ≤ o ∧ 0 < t ∧ t < 100000 ∧
  ∀ H' r o' m' c', Exb b H H' → H' b = some (bw o' m' c') → 0 ≤ o' → 0 ≤ r → r < t → Q (.int r) H'
theorem ok_dip {f : Addr} {fd : FuncData} (F : Fun K "_law_dip" "_law_dip" sDip f fd) (B : Blt mg) : FnOk P w K mg base CX0 1 f fd ["_law_jar_here", "_law_top"] spDip := by
  refine F.ok scDip (fun vs H Q E h => ?_) (fun cdv A outer s H vs Q E hr h => ?_)
  · obtain ⟨b, t, o, m, c, rfl, _⟩ := h
    rfl
  · obtain ⟨b, t, o, m, c, rfl, hb, ho, ht, ht2, k⟩ := h
    refine ⟨_, pss_cons (ps_if (pt_cmpR op_gt (pe_ix ix_list (pv 0) pe_int (fun _ _ => rfl)) pe_int (nomark _))
        (pss_cons (ps_asg (pe_callB call_divmod (by rfl) B.divmod (by decide +kernel) (pa_cons (pe_ix ix_list (pv 0) pe_int (fun _ _ => rfl)) (pa_cons (pv 1) pa_nil)))
            (pg_tup (by rfl) (pgs_cons (pg_sub (pv 0) pe_int set_list) (pgs_cons (pg_name (i := 2) scDip.nd rfl (.inl rfl)) pgs_nil))))
          (pss_one (ps_ret (pv 2)))) pss_nil)
      (pss_cons (ps_asg (pe_op op_add (pe_ix ix_list (pv 0) pe_int (fun _ _ => rfl)) pe_int) (pg_sub (pv 0) pe_int set_list))
      (pss_cons (ps_set (i := 3) scDip.nd rfl (.inl rfl) (pe_op op_mod (pe_callTy call_int1 (by rfl) B.int (by decide +kernel) (pa_cons (pe_op op_add (pe_ix ix_list (pv 0) pe_int (fun _ _ => rfl)) (pe_op op_mul pe_int (pe_ix ix_list (pv 0) pe_int (fun _ _ => rfl)))) pa_nil)) pe_int))
      (pss_cons (ps_asg (pe_op op_mod (pe_callTy call_int1 (by rfl) B.int (by decide +kernel) (pa_cons (pe_op op_add (pe_op op_mul (pv 3) (pe_op op_add (pe_op op_mod (pe_callTy call_int1 (by rfl) B.int (by decide +kernel) (pa_cons (pv 3) pa_nil)) pe_int) pe_int))
            (pe_op op_mul pe_int (pe_ix ix_list (pv 0) pe_int (fun _ _ => rfl)))) pa_nil)) pe_int) (pg_sub (pv 0) pe_int set_list))
      (pss_one (ps_ret (pe_op op_mod (pe_callTy call_int1 (by rfl) B.int (by decide +kernel) (pa_cons (pe_op op_fdiv (pe_ix ix_list (pv 0) pe_int (fun _ _ => rfl)) pe_int) pa_nil)) (pv 1))))))), ?_⟩
    refine ⟨_, rfl, b, _, 0, _, rfl, rfl, SqL.of hb, atI_nat (j := 0) rfl, _, _, rfl, rfl, _, rfl, ite2 (fun c1 => ?_) (fun c1 => ?_)⟩
    · have o1 : 0 < o := of_decide_eq_true c1
      refine ⟨_, rfl, b, _, 0, _, rfl, rfl, SqL.of hb, atI_nat (j := 0) rfl, _, rfl, _, _, rfl, ⟨ht, by omega⟩, fun p hp => ?_⟩
      have npb : b ≠ p := ne_of_none hb hp
      refine ⟨p, _, rfl, SqT.of upd_same, rfl, _, _, rfl, _, rfl, b, _, 0, 0, rfl, rfl, (by rw [upd_ne npb]; exact hb), rfl, _, _, rfl, rfl, ?_⟩
      refine ⟨_, rfl, ?_⟩
      refine k _ _ _ _ _ ((Exb.of (same_new hp)).trans Exb.put) upd_same (Int.ediv_nonneg ho (Int.le_of_lt ht)) (Int.emod_nonneg _ (by omega)) (Int.emod_lt_of_pos _ ht)
    · refine ⟨_, rfl, b, _, 2, _, rfl, rfl, SqL.of hb, atI_nat (j := 2) rfl, _, _, rfl, rfl, _, rfl, b, _, 2, 2, rfl, rfl, hb, rfl, ?_⟩
      refine ⟨_, rfl, b, _, 1, _, rfl, rfl, SqL.of upd_same, atI_nat (j := 1) rfl, _, rfl, b, _, 2, _, rfl, rfl, SqL.of upd_same, atI_nat (j := 2) rfl, _, _, rfl, rfl, .inl ⟨by decide, by decide⟩, _, _, rfl, rfl, .inl ⟨_, rfl, _, _, rfl, rfl, (by show (0 : Int) < _; decide), ?_⟩⟩
      refine ⟨_, rfl, _, rfl, .inl ⟨_, rfl, _, _, rfl, rfl, (by show (0 : Int) < _; decide), _, _, rfl, rfl, _, _, rfl, rfl, .inl ?_, ?_⟩⟩
      · refine ⟨?_, ?_⟩
        · have := Int.emod_nonneg (m + 28657 * (c + 1)) (show (2147483399 : Int) ≠ 0 by decide)
          omega
        · have := Int.emod_lt_of_pos (m + 28657 * (c + 1)) (show (0 : Int) < 2147483399 by decide)
          omega
      · refine ⟨_, rfl, b, _, 2, _, rfl, rfl, SqL.of upd_same, atI_nat (j := 2) rfl, _, _, rfl, rfl, .inl ⟨by decide, by decide⟩, _, _, rfl, rfl, .inl ⟨_, rfl, _, _, rfl, rfl, (by show (0 : Int) < _; decide), ?_⟩⟩
        refine ⟨_, rfl, b, _, 1, 1, rfl, rfl, upd_same, rfl, ?_⟩
        refine ⟨_, rfl, b, _, 1, _, rfl, rfl, SqL.of upd_same, atI_nat (j := 1) rfl, _, _, rfl, rfl, ⟨by decide, by decide⟩, .inl ⟨_, rfl, _, rfl, _, _, rfl, rfl, ht, ?_⟩⟩
        exact k _ _ _ _ _ (Exb.put.trans Exb.put) upd_same ho (Int.emod_nonneg _ (by omega)) (Int.emod_lt_of_pos _ ht)
/-! ### one of a text's signs, of a tuple's items, of a list's -/
theorem scOne : FnScope ["_law_jar_here", "_law_some"] ["_law_jar_here", "_law_some"] (defScope sOne) := ⟨rfl, rfl, rfl, by decide +kernel, rfl, by decide +kernel, by decide +kernel⟩
def spOne (K : PySem.W.Frag) : Sp := fun vs H Q _ => ∃ (b : Addr) (row : V) (o m c : Int), vs = [.ref b, row] ∧ H b = some (bw o m c) ∧ 0 ≤ o ∧
  ((∃ z : Str, row = .str z ∧ 0 < z.length ∧ z.length < 100000 ∧ ∀ H' x o' m' c', Exb b H H' → H' b = some (bw o' m' c') → 0 ≤ o' → x ∈ z.cps.toList → Q (.str ⟨#[x]⟩) H') ∨
    (∃ t xs, row = .ref t ∧ t ≠ b ∧ SqT K H t xs ∧ 0 < xs.length ∧ xs.length < 100000 ∧ ∀ H' v o' m' c', Exb b H H' → H' b = some (bw o' m' c') → 0 ≤ o' → v ∈ xs → Q v H') ∨
    ∃ t xs, row = .ref t ∧ t ≠ b ∧ H t = some (.lst xs) ∧ 0 < xs.length ∧ xs.length < 100000 ∧ ∀ H' v o' m' c', Exb b H H' → H' b = some (bw o' m' c') → 0 ≤ o' → v ∈ xs → Q v H')
theorem ok_one {f fD : Addr} {fd fdD : FuncData} (F : Fun K "_law_one_of" "_law_one_of" sOne f fd) (B : Blt mg) (FD : Fun K "_law_dip" "_law_dip" sDip fD fdD) (bD : Binds K fdD ["_law_jar_here", "_law_top"] []) (gD : mg "_law_dip" = some (.ref fD)) :
    FnOk P w K mg base CX0 2 f fd ["_law_jar_here", "_law_some"] (spOne K) := by
  have GD : FnOk P w K mg base CX0 1 fD fdD ["_law_jar_here", "_law_top"] spDip := ok_dip FD B
  refine F.ok scOne (fun vs H Q E h => ?_) (fun cdv A outer s H vs Q E hr h => ?_)
  · obtain ⟨b, row, o, m, c, rfl, _⟩ := h
    rfl
  · obtain ⟨b, row, o, m, c, rfl, hb, ho, h⟩ := h
    refine ⟨_, pss_one (ps_ret (pe_ix ix_seq (pv 1) (pe_call GD hr (by rfl) gD FD.kp bD .nil pass0 (pa_cons (pv 0) (pa_cons (pe_callB call_len (by rfl) B.len PySem.boot_len (pa_cons (pv 1) pa_nil)) pa_nil))) (fun _ _ => rfl))), ?_⟩
    rcases h with ⟨z, rfl, z0, z1, k⟩ | ⟨t, xs, rfl, nt, ht, z0, z1, k⟩ | ⟨t, xs, rfl, nt, ht, z0, z1, k⟩
    · refine ⟨_, rfl, _, rfl, _, rfl, _, z.length, rfl, ⟨Nat.le_of_lt (Nat.lt_of_lt_of_le z1 (by decide)), rfl⟩, b, _, o, m, c, rfl, hb, ho, by omega, by omega, fun H' r o' m' c' e eb ho' r0 r1 => ?_⟩
      obtain ⟨j, rfl⟩ := Int.eq_ofNat_of_zero_le r0
      have hj : j < z.cps.toList.length := by
        have e1 : z.cps.toList.length = z.length := by simp [Str.length]
        omega
      refine .inr (.inr ⟨z, _, z.cps.toList[j], rfl, rfl, Nat.le_of_lt (Nat.lt_of_lt_of_le z1 (by decide)), ?_, k _ _ _ _ _ e eb ho' (List.getElem_mem hj)⟩)
      exact atI_nat (List.getElem?_eq_getElem hj)
    · refine ⟨_, rfl, _, rfl, _, rfl, _, xs.length, rfl, .inr ⟨xs, ht, rfl⟩, b, _, o, m, c, rfl, hb, ho, by omega, by omega, fun H' r o' m' c' e eb ho' r0 r1 => ?_⟩
      obtain ⟨j, rfl⟩ := Int.eq_ofNat_of_zero_le r0
      have hj : j < xs.length := by omega
      exact .inr (.inl ⟨t, xs, _, xs[j], rfl, rfl, sqT_exb e nt ht, atI_nat (List.getElem?_eq_getElem hj), k _ _ _ _ _ e eb ho' (List.getElem_mem hj)⟩)
    · refine ⟨_, rfl, _, rfl, _, rfl, _, xs.length, rfl, .inl ⟨xs, SqL.of ht, rfl⟩, b, _, o, m, c, rfl, hb, ho, by omega, by omega, fun H' r o' m' c' e eb ho' r0 r1 => ?_⟩
      obtain ⟨j, rfl⟩ := Int.eq_ofNat_of_zero_le r0
      have hj : j < xs.length := by omega
      exact .inl ⟨t, xs, _, xs[j], rfl, rfl, SqL.of (e _ _ nt ht), atI_nat (List.getElem?_eq_getElem hj), k _ _ _ _ _ e eb ho' (List.getElem_mem hj)⟩
end
end LJ

namespace LJ
open PySem PySem.Spec PyProof.Rows L2 GuL HG
/-! ### names -/
def signs : List Nat := (Str.ofString "abcdefghijklmnopqrstuvwxyz0123456789_").cps.toList
def letters : List Nat := (Str.ofString "abcdefghijklmnopqrstuvwxyz").cps.toList
def keptN : List Str := "header" :: "local" :: "state" :: "read" :: "accept" :: "refuse" :: "go" :: "by" :: "case" :: "else" :: "order" :: "register" :: "action" :: "param" :: "table" :: "key" :: "exact" :: "prefix" :: "mask" :: "range" :: "default" :: "room" :: "control" :: "end" :: "set" :: "put" :: "strike" :: "touch" :: "add" :: "greatest" :: "least" :: "or" :: "into" :: "apply" :: "if" :: "then" :: "not" :: "both" :: "and" :: "either" :: "held" :: "in" :: "out" :: "gone" :: "entry" :: "to" :: []
def nameShB (z : Str) : Bool := decide (1 ≤ z.cps.toList.length) && (decide (z.cps.toList.length ≤ 12) && (z.cps.toList.all (fun c => decide (c ∈ signs)) && (z.cps.toList.take 1).all (fun c => decide (c ∈ letters))))
def NameSh (z : Str) : Prop := nameShB z = true
structure NameOk (z : Str) : Prop where
  sh : NameSh z
  nk : z ∉ keptN
theorem sh_len {z : Str} (h : NameSh z) : 1 ≤ z.cps.toList.length ∧ z.cps.toList.length ≤ 12 := by
  obtain ⟨h1, h⟩ := Bool.and_eq_true_iff.mp h
  obtain ⟨h2, h⟩ := Bool.and_eq_true_iff.mp h
  exact ⟨of_decide_eq_true h1, of_decide_eq_true h2⟩
theorem sh_signs {z : Str} (h : NameSh z) : ∀ c ∈ z.cps.toList, c ∈ signs := by
  obtain ⟨h1, h⟩ := Bool.and_eq_true_iff.mp h
  obtain ⟨h2, h⟩ := Bool.and_eq_true_iff.mp h
  obtain ⟨h3, h⟩ := Bool.and_eq_true_iff.mp h
  exact fun c hc => of_decide_eq_true (List.all_eq_true.mp h3 c hc)
theorem sh_first {z : Str} (h : NameSh z) : ∀ c ∈ z.cps.toList.take 1, c ∈ letters := by
  obtain ⟨h1, h⟩ := Bool.and_eq_true_iff.mp h
  obtain ⟨h2, h⟩ := Bool.and_eq_true_iff.mp h
  obtain ⟨h3, h⟩ := Bool.and_eq_true_iff.mp h
  exact fun c hc => of_decide_eq_true (List.all_eq_true.mp h c hc)
theorem str_app (z y : Str) : (z ++ y).cps.toList = z.cps.toList ++ y.cps.toList := by
  show (z.cps ++ y.cps).toList = _
  exact Array.toList_append
theorem sh_snoc {z : Str} {x : Nat} (h : NameSh z) (hl : z.cps.toList.length ≤ 11) (hx : x ∈ signs) : NameSh (z ++ ⟨#[x]⟩) := by
  have e : (z ++ (⟨#[x]⟩ : Str)).cps.toList = z.cps.toList ++ [x] := str_app z ⟨#[x]⟩
  have h0 := sh_len h
  unfold NameSh nameShB
  rw [e]
  refine Bool.and_eq_true_iff.mpr ⟨decide_eq_true (by rw [List.length_append]; omega), Bool.and_eq_true_iff.mpr ⟨decide_eq_true (by rw [List.length_append]; show _ + 1 ≤ 12; omega), Bool.and_eq_true_iff.mpr ⟨?_, ?_⟩⟩⟩
  · refine List.all_eq_true.mpr fun c hc => decide_eq_true ?_
    rcases List.mem_append.mp hc with hc | hc
    · exact sh_signs h c hc
    · rw [List.mem_singleton.mp hc]
      exact hx
  · rw [List.take_append_of_le_length h0.1]
    exact List.all_eq_true.mpr fun c hc => decide_eq_true (sh_first h c hc)
theorem sign_ok : ∀ c ∈ (Str.ofString "abyz059_").cps.toList, c ∈ signs := by decide +kernel
def qL : List Str := (List.range 60).map fun (k : Nat) => Str.ofString "q" ++ Str.ofString (toString (k : Int))
theorem qL_sh : qL.all nameShB = true := by decide +kernel
theorem qL_nk : qL.all (fun z => decide (z ∉ keptN)) = true := by decide +kernel
theorem qL_nd : qL.Nodup := by decide +kernel
theorem pigeon {α : Type} [DecidableEq α] : ∀ (L ts : List α), L.Nodup → ts.length < L.length → ∃ z, z ∈ L ∧ z ∉ ts
  | [], ts, _, h => by simp at h
  | x :: L, ts, hn, h => by
    by_cases hx : x ∈ ts
    · obtain ⟨n1, n2⟩ := List.nodup_cons.mp hn
      have hl : (ts.erase x).length < L.length := by
        rw [List.length_erase_of_mem hx]
        have := List.length_pos_of_mem hx
        rw [List.length_cons] at h
        omega
      obtain ⟨z, z1, z2⟩ := pigeon L (ts.erase x) n2 hl
      refine ⟨z, List.mem_cons_of_mem _ z1, fun q => z2 ?_⟩
      have ne : z ≠ x := fun e => n1 (e ▸ z1)
      exact (List.mem_erase_of_ne ne).mpr q
    · exact ⟨x, List.mem_cons_self, hx⟩
theorem inV_strs (z : Str) : ∀ ts : List Str, inV (.str z) (ts.map V.str) = decide (z ∈ ts)
  | [] => rfl
  | t :: ts => by
    have ih := inV_strs z ts
    unfold inV at ih ⊢
    rw [List.map_cons, List.any_cons, ih]
    show ((t == z) || decide (z ∈ ts)) = _
    by_cases e : t = z
    · subst e
      simp
    · have e2 : ¬ z = t := fun q => e q.symm
      have e3 : (t == z) = false := by simpa using e
      rw [e3, Bool.false_or]
      simp [e2]
def w11 : List Str := ["a", "b", "c", "x", "tag", "tage", "a1", "a_", "aa", "ab", "ttl"]
def w5 : List Str := ["a", "b", "m", "t", "z"]
theorem w11_sh : w11.all nameShB = true := by decide +kernel
theorem w5_sh : w5.all (fun z => nameShB z && decide (z.cps.toList.length ≤ 1)) = true := by decide +kernel
theorem mem_strs {L : List Str} {v : V} (h : v ∈ L.map V.str) : ∃ z, z ∈ L ∧ v = .str z := by
  obtain ⟨z, h1, h2⟩ := List.mem_map.mp h
  exact ⟨z, h1, h2.symm⟩
theorem w11_ok {z : Str} (h : z ∈ w11) : NameSh z := List.all_eq_true.mp w11_sh z h
theorem w5_ok {z : Str} (h : z ∈ w5) : NameSh z ∧ z.cps.toList.length ≤ 1 := by
  obtain ⟨h1, h2⟩ := Bool.and_eq_true_iff.mp (List.all_eq_true.mp w5_sh z h)
  exact ⟨h1, of_decide_eq_true h2⟩
theorem flatS (ys : List Str) : (ys.map V.str).all flatV = true := by
  rw [List.all_map]
  exact List.all_eq_true.mpr fun _ _ => rfl
theorem str_len (z : Str) : z.length = z.cps.toList.length := by simp [Str.length]
theorem log_lt {n : Nat} (h : n < 2 ^ 40) : n.log2 < 1920 := Nat.lt_trans (log_small h) (by decide)
theorem qL_at {i : Nat} (h : i < 60) : qL[i]? = some (Str.ofString "q" ++ Str.ofString (toString (i : Int))) := by
  unfold qL
  rw [List.getElem?_map, List.getElem?_range h]
  rfl
theorem qL_len : qL.length = 60 := by
  unfold qL
  rw [List.length_map, List.length_range]
theorem q_size : ∀ i, i < 60 → (Str.ofString "q").length + (Str.ofString (toString ((0 : Int) + (i : Nat)))).length ≤ sizeLine := by decide +kernel
end LJ

namespace LJ
open PySem PySem.Spec PyProof.Rows L2 GuL HG
abbrev sKept : Stmt := topS 61
abbrev sName : Stmt := topS 62
section
variable {P : Program} {w : World} {K : PySem.W.Frag} {mg : Str → Option Value} {base : Heap}
/-! ### the kept words -/
theorem scKept : FnScope ["_law_words_here"] [] (defScope sKept) := ⟨rfl, rfl, rfl, by decide +kernel, rfl, by decide +kernel, by decide +kernel⟩
def spKept : Sp := fun vs H Q _ => vs = [] ∧ ∀ H' p, Same H H' → H' p = some (.lst (keptN.map V.str)) → Q (.ref p) H'
theorem ok_kept {f : Addr} {fd : FuncData} (F : Fun K "_law_kept" "_law_kept" sKept f fd) : FnOk P w K mg base CX0 1 f fd [] spKept := by
  refine F.ok scKept (fun vs H Q E h => ?_) (fun cdv A outer s H vs Q E hr h => ?_)
  · obtain ⟨rfl, _⟩ := h
    rfl
  · obtain ⟨rfl, k⟩ := h
    refine ⟨_, pss_cons (ps_set (i := 0) scKept.nd rfl (.inl rfl) pe_str) (pss_cons (ps_set (i := 0) scKept.nd rfl (.inl rfl) (pe_op op_add_str (pv 0) pe_str))
      (pss_one (ps_ret (pe_bm PySem.F.plainAttrs_str PySem.F.slot_str_split PySem.F.type_str_split mt_split (pe_op op_add_str (pv 0) pe_str) (pa_cons pe_str pa_nil))))), ?_⟩
    refine ⟨_, rfl, _, _, rfl, rfl, by decide +kernel, _, rfl, _, _, rfl, rfl, by decide +kernel, ?_⟩
    refine ⟨rfl, _, _, rfl, rfl, by decide +kernel, by decide +kernel, fun p hp => ?_⟩
    have e : ∀ L : List Str, L = keptN → (upd H p (.lst (L.map V.str))) p = some (.lst (keptN.map V.str)) := fun L q => by
      rw [q]
      exact upd_same
    exact k _ p (same_new hp) (e _ (by decide +kernel))
/-! ### a name -/
theorem scName : FnScope ["_law_jar_here", "_law_taken", "_law_turn", "_law_word_here", "_law_more", "_law_k", "_law_each"] ["_law_jar_here", "_law_taken"] (defScope sName) := ⟨rfl, rfl, rfl, by decide +kernel, rfl, by decide +kernel, by decide +kernel⟩
def spName : Sp := fun vs H Q _ => ∃ (b t : Addr) (ts : List Str) (o m c : Int), vs = [.ref b, .ref t] ∧ H b = some (bw o m c) ∧ 0 ≤ o ∧ t ≠ b ∧ H t = some (.lst (ts.map V.str)) ∧ ts.length ≤ 12 ∧
  ∀ H' z o' m' c', Exb b H H' → H' b = some (bw o' m' c') → 0 ≤ o' → NameOk z → z ∉ ts → Q (.str z) H'
/-- the jar, and what else stands as before -/
structure Jr (b : Addr) (H H' : Hp) : Prop where
  e : Exb b H H'
  at_ : ∃ o m c, H' b = some (bw o m c) ∧ 0 ≤ o
theorem ok_name {f fD fO fK : Addr} {fd fdD fdO fdK : FuncData} (F : Fun K "_law_name" "_law_name" sName f fd) (B : Blt mg) (FD : Fun K "_law_dip" "_law_dip" sDip fD fdD) (bD : Binds K fdD ["_law_jar_here", "_law_top"] []) (gD : mg "_law_dip" = some (.ref fD))
    (FO : Fun K "_law_one_of" "_law_one_of" sOne fO fdO) (bO : Binds K fdO ["_law_jar_here", "_law_some"] []) (gO : mg "_law_one_of" = some (.ref fO)) (FK : Fun K "_law_kept" "_law_kept" sKept fK fdK) (bK : Binds K fdK [] []) (gK : mg "_law_kept" = some (.ref fK)) :
    FnOk P w K mg base CX0 3 f fd ["_law_jar_here", "_law_taken"] spName := by
  have GD : FnOk P w K mg base CX0 1 fD fdD ["_law_jar_here", "_law_top"] spDip := ok_dip FD B
  have GO : FnOk P w K mg base CX0 2 fO fdO ["_law_jar_here", "_law_some"] (spOne K) := ok_one FO B FD bD gD
  have GK : FnOk P w K mg base CX0 1 fK fdK [] spKept := ok_kept FK
  refine F.ok scName (fun vs H Q E h => ?_) (fun cdv A outer s H vs Q E hr h => ?_)
  · obtain ⟨b, t, ts, o, m, c, rfl, _⟩ := h
    rfl
  · obtain ⟨b, t, ts, o, m, c, rfl, hb, ho, nt, ht, hlen, k⟩ := h
    have hr1 : Room 1 _ := hr.mono (by decide)
    have hr2 : Room 2 _ := hr.mono (by decide)
    refine ⟨_, pss_cons (ps_for PassesOwn.never rfl (pi_range1 (by rfl) B.range (pa_cons pe_int pa_nil)) (pg_name (i := 2) scName.nd rfl (.inl rfl))
        (pss_cons (ps_set (i := 3) scName.nd rfl (.inl rfl) (pe_call GO hr2 (by rfl) gO FO.kp bO .nil pass0 (pa_cons (pv 0) (pa_cons (pe_lst (pa_cons pe_str (pa_cons pe_str (pa_cons pe_str (pa_cons pe_str (pa_cons pe_str (pa_cons pe_str (pa_cons pe_str (pa_cons pe_str (pa_cons pe_str (pa_cons pe_str (pa_cons pe_str pa_nil)))))))))))) pa_nil))))
        (Evl.pss_cut (ps_if (pt_cmpR op_eq (pe_call GD hr1 (by rfl) gD FD.kp bD .nil pass0 (pa_cons (pv 0) (pa_cons pe_int pa_nil))) pe_int (nomark _))
            (pss_cons (ps_set (i := 3) scName.nd rfl (.inl rfl) (pe_call GO hr2 (by rfl) gO FO.kp bO .nil pass0 (pa_cons (pv 0) (pa_cons (pe_lst (pa_cons pe_str (pa_cons pe_str (pa_cons pe_str (pa_cons pe_str (pa_cons pe_str pa_nil)))))) pa_nil))))
            (pss_one (ps_for PassesOwn.never rfl (pi_range1 (by rfl) B.range (pa_cons (pe_call GD hr1 (by rfl) gD FD.kp bD .nil pass0 (pa_cons (pv 0) (pa_cons pe_int pa_nil))) pa_nil)) (pg_name (i := 4) scName.nd rfl (.inl rfl))
              (pss_one (ps_set (i := 3) scName.nd rfl (.inl rfl) (pe_op op_add_str (pv 3) (pe_call GO hr2 (by rfl) gO FO.kp bO .nil pass0 (pa_cons (pv 0) (pa_cons pe_str pa_nil))))))))) pss_nil)
        (pss_one (ps_if (PW.pt (pw_and (pt_cmpR op_notIn_seq (pv 3) (pv 1) (by rfl)) (pw_and1 (pt_cmpR op_notIn_seq (pv 3) (pe_call0 GK hr1 (by rfl) gK FK.kp bK .nil pass0) (by rfl))))) (pss_one (ps_ret (pv 3))) pss_nil)))))
      (pss_one (ps_ret (pe_ix ix_list (pe_lc (own := [("_law_each", 6)]) (g := gName 6) (tt := tTest (tOp (rIn K true) (tVar 6) (tVar 1))) rfl scName.nd
          (pi_list (pe_lc (own := [("_law_k", 5)]) (g := gName 5) (tt := tYes) rfl scName.nd (pi_range1 (by rfl) B.range (pa_cons pe_int pa_nil)) (blkOk_by (N := ["_law_jar_here", "_law_taken", "_law_turn", "_law_word_here", "_law_more", "_law_k", "_law_each"]) (sc := defScope sName) (by decide +kernel))
            (fun _ _ _ _ _ => pg_name (i := 5) scName.nd rfl (Or.inl rfl)) (fun _ _ _ _ _ => pts_nil) (fun _ _ _ _ _ => pe_op op_add_str pe_str (pe_callTy call_str_int (by rfl) B.str (by decide +kernel) (pa_cons (pv 5) pa_nil)))))
          (blkOk_by (N := ["_law_jar_here", "_law_taken", "_law_turn", "_law_word_here", "_law_more", "_law_k", "_law_each"]) (sc := defScope sName) (by decide +kernel)) (fun _ _ _ _ _ => pg_name (i := 6) scName.nd rfl (Or.inl rfl)) (fun _ _ _ _ _ => pts_one (pt_cmpR op_notIn_seq (pv 6) (pv 1) (by rfl))) (fun _ _ _ _ _ => pv 6)) pe_int (fun _ _ => rfl)))), ?_⟩
    refine ⟨12, rfl, by decide, by decide, for_range (lo := 0) (n := 12) (fun i σ H' => ∃ v2 v3 v4 : Option V, σ = [some (.ref b), some (.ref t), v2, v3, v4, none, none] ∧ Jr b H H') ⟨_, _, _, rfl, Exb.refl _ _, o, m, c, hb, ho⟩ ?_ ?_⟩
    · rintro i σ H1 hi ⟨v2, v3, v4, rfl, e1, o1, m1, c1, hb1, ho1⟩
      refine ⟨_, rfl, by show 11 ≤ sizeLine; decide, fun p hp => ?_⟩
      have np : p ≠ b := fun z => by
        rw [z, hb1] at hp
        cases hp
      refine ⟨b, .ref p, o1, m1, c1, rfl, by rw [upd_ne (Ne.symm np)]; exact hb1, ho1, .inr (.inr ⟨p, _, rfl, np, upd_same, by show 0 < 11; decide, by show 11 < 100000; decide, fun H2 v o2 m2 c2 e2 hb2 ho2 hv => ?_⟩)⟩
      obtain ⟨z0, hz0, rfl⟩ := mem_strs (L := w11) hv
      have j2 : Exb b H H2 := (e1.trans (Exb.of (same_new hp))).trans e2
      refine ⟨fun σ' H' => ∃ (z : Str) (v4 : Option V), σ' = [some (.ref b), some (.ref t), some (.int (0 + (i : Int))), some (.str z), v4, none, none] ∧ Jr b H H' ∧ NameSh z, ?_, ?_⟩
      · refine ⟨_, rfl, b, 3, o2, m2, c2, rfl, hb2, ho2, by decide, by decide, fun H3 r o3 m3 c3 e3 hb3 ho3 r0 r1 => ⟨rfl, _, rfl, ite2 (fun _ => ?_) (fun _ => ?_)⟩⟩
        · refine ⟨_, rfl, by show 5 ≤ sizeLine; decide, fun p5 hp5 => ?_⟩
          have np5 : p5 ≠ b := fun z => by
            rw [z, hb3] at hp5
            cases hp5
          refine ⟨b, .ref p5, o3, m3, c3, rfl, by rw [upd_ne (Ne.symm np5)]; exact hb3, ho3, .inr (.inr ⟨p5, _, rfl, np5, upd_same, by show 0 < 5; decide, by show 5 < 100000; decide, fun H4 v o4 m4 c4 e4 hb4 ho4 hv => ?_⟩)⟩
          obtain ⟨z5, hz5, rfl⟩ := mem_strs (L := w5) hv
          have j4 : Exb b H H4 := ((j2.trans e3).trans (Exb.of (same_new hp5))).trans e4
          refine ⟨_, rfl, b, 12, o4, m4, c4, rfl, hb4, ho4, by decide, by decide, fun H5 r5 o5 m5 c5 e5 hb5 ho5 r50 r51 => ⟨r5, rfl, by omega, by omega, for_range (lo := 0) (n := r5.toNat)
            (fun j σ H' => ∃ (z : Str) (v4 : Option V), σ = [some (.ref b), some (.ref t), some (.int (0 + (i : Int))), some (.str z), v4, none, none] ∧ Jr b H H' ∧ NameSh z ∧ z.cps.toList.length ≤ 1 + j)
            ⟨z5, _, rfl, ⟨j4.trans e5, o5, m5, c5, hb5, ho5⟩, (w5_ok hz5).1, (w5_ok hz5).2⟩ ?_ ?_⟩⟩
          · rintro j σ H6 hj ⟨z, v4, rfl, ⟨e6, o6, m6, c6, hb6, ho6⟩, hz, hzl⟩
            refine ⟨_, rfl, _, rfl, b, _, o6, m6, c6, rfl, hb6, ho6, .inl ⟨_, rfl, by decide +kernel, by decide +kernel, fun H7 x o7 m7 c7 e7 hb7 ho7 hx => ?_⟩⟩
            have l1 : z.length = z.cps.toList.length := str_len z
            refine ⟨_, _, rfl, rfl, ?_, z ++ ⟨#[x]⟩, _, rfl, ⟨e6.trans e7, o7, m7, c7, hb7, ho7⟩, sh_snoc hz (by omega) (sign_ok x hx), ?_⟩
            · show z.length + 1 ≤ sizeLine
              have := sh_len hz
              exact Nat.le_of_lt (small1000 (by omega))
            · rw [str_app, List.length_append]
              show _ + 1 ≤ _
              omega
          · rintro σ H6 ⟨z, v4, rfl, J, hz, _⟩
            exact ⟨z, v4, rfl, J, hz⟩
        · exact ⟨z0, _, rfl, ⟨j2.trans e3, o3, m3, c3, hb3, ho3⟩, w11_ok hz0⟩
      · rintro σ' H3 ⟨z, v4, rfl, ⟨e3, o3, m3, c3, hb3, ho3⟩, hz⟩
        have ht3 : H3 t = some (.lst (ts.map V.str)) := e3 _ _ nt ht
        refine ⟨_, rfl, _, rfl, t, _, rfl, .inl (SqL.of ht3), rfl, flatS _, !inV (.str z) (ts.map V.str), rfl, ?_⟩
        rw [inV_strs]
        by_cases hzt : z ∈ ts
        · rw [decide_eq_true hzt]
          exact iteF (iteF ⟨_, _, _, rfl, e3, o3, m3, c3, hb3, ho3⟩)
        · rw [decide_eq_false hzt]
          refine iteT ⟨_, rfl, rfl, fun H4 p4 s4 hp4 => ⟨p4, _, rfl, .inl (SqL.of hp4), rfl, flatS _, !inV (.str z) (keptN.map V.str), rfl, ?_⟩⟩
          rw [inV_strs]
          by_cases hzk : z ∈ keptN
          · rw [decide_eq_true hzk]
            exact iteF ⟨_, _, _, rfl, e3.trans (Exb.of s4), o3, m3, c3, s4 _ _ hb3, ho3⟩
          · rw [decide_eq_false hzk]
            exact iteT ⟨_, rfl, k _ _ _ _ _ (e3.trans (Exb.of s4)) (s4 _ _ hb3) ho3 ⟨hz, hzk⟩ hzt⟩
    · rintro σ H1 ⟨v2, v3, v4, rfl, e1, o1, m1, c1, hb1, ho1⟩
      have ht1 : H1 t = some (.lst (ts.map V.str)) := e1 _ _ nt ht
      refine ⟨60, rfl, by decide, by decide, fun D hD => ?_⟩
      refine lc_range (lo := 0) (n := 60) (fun i H' => Same H1 H' ∧ H' D = some (.lst ((qL.take i).map V.str))) ⟨same_new hD, upd_same⟩ ?_ ?_
      · rintro i H2 hi ⟨s2, f2⟩
        refine ⟨rfl, _, rfl, _, rfl, ?_, _, _, rfl, rfl, q_size i hi, (qL.take i).map V.str, f2, ?_, fun x u e => ?_, ?_⟩
        · exact log_lt (by omega)
        · rw [List.length_map]
          exact small1000 (Nat.le_trans (List.length_take_le _ _) (by omega))
        · rw [upd_ne (ne_of_none e hD)]
          exact s2 _ _ e
        · rw [upd_same, List.take_add_one, qL_at hi, List.map_append, Int.zero_add]
          rfl
      · rintro H2 ⟨s2, f2⟩
        have q60 : qL.take 60 = qL := List.take_of_length_le (by rw [qL_len]; exact Nat.le_refl _)
        rw [q60] at f2
        refine ⟨D, rfl, ⟨_, SqL.of f2⟩, fun D2 hD2 => ?_⟩
        refine lc_list (K := K) (a := D) (xs := qL.map V.str) (fun j H' => Same H2 H' ∧ H' D2 = some (.lst (((qL.take j).filter fun z => decide (z ∉ ts)).map V.str))) ⟨same_new hD2, upd_same⟩ (fun j H' _ q => SqL.of (q.1 _ _ f2)) ?_ ?_
        · rintro j x H3 hj ⟨s3, f3⟩
          have j60 : j < 60 := by
            have := (List.getElem?_eq_some_iff.mp hj).1
            rw [List.length_map] at this
            unfold qL at this
            rw [List.length_map, List.length_range] at this
            exact this
          obtain ⟨zj, hzj, rfl⟩ : ∃ zj, qL[j]? = some zj ∧ x = .str zj := by
            rw [List.getElem?_map] at hj
            obtain ⟨zj, h1, h2⟩ := Option.map_eq_some_iff.mp hj
            exact ⟨zj, h1, h2.symm⟩
          have ht3 : H3 t = some (.lst (ts.map V.str)) := s3 _ _ (s2 _ _ ht1)
          refine ⟨rfl, _, rfl, _, rfl, t, _, rfl, .inl (SqL.of ht3), rfl, flatS _, !inV (.str zj) (ts.map V.str), rfl, ?_⟩
          rw [inV_strs]
          by_cases hzt : zj ∈ ts
          · rw [decide_eq_true hzt]
            refine iteF ⟨s3, ?_⟩
            rw [List.take_add_one, hzj, List.filter_append, Option.toList_some, List.filter_cons, if_neg (by simp [hzt])]
            show _ = some (HO.lst ((_ ++ []).map V.str))
            rw [List.append_nil]
            exact f3
          · rw [decide_eq_false hzt]
            refine iteT ⟨_, rfl, _, f3, ?_, fun x u e => ?_, ?_⟩
            · rw [List.length_map]
              exact small1000 (Nat.le_trans (List.length_filter_le _ _) (Nat.le_trans (List.length_take_le _ _) (by omega)))
            · rw [upd_ne (ne_of_none e hD2)]
              exact s3 _ _ e
            · rw [upd_same, List.take_add_one, hzj, List.filter_append, Option.toList_some, List.filter_cons, if_pos (by simp [hzt]), List.map_append]
              rfl
        · rintro H3 ⟨s3, f3⟩
          have q60' : qL.take (qL.map V.str).length = qL := List.take_of_length_le (by rw [List.length_map]; exact Nat.le_refl _)
          rw [q60'] at f3
          obtain ⟨z, hz1, hz2⟩ := pigeon qL ts qL_nd (by unfold qL; rw [List.length_map, List.length_range]; omega)
          have hm : z ∈ qL.filter fun z => decide (z ∉ ts) := List.mem_filter.mpr ⟨hz1, decide_eq_true hz2⟩
          obtain ⟨y, ys, ey⟩ : ∃ y ys, (qL.filter fun z => decide (z ∉ ts)) = y :: ys := by
            cases e : qL.filter fun z => decide (z ∉ ts) with
            | nil =>
              rw [e] at hm
              cases hm
            | cons y ys => exact ⟨y, ys, rfl⟩
          have hy : y ∈ qL.filter fun z => decide (z ∉ ts) := by
            rw [ey]
            exact List.mem_cons_self
          obtain ⟨hy1, hy2⟩ := List.mem_filter.mp hy
          rw [ey] at f3
          refine ⟨D2, _, 0, .str y, rfl, rfl, SqL.of f3, atI_nat (j := 0) rfl, k _ _ o1 m1 c1 (e1.trans (Exb.of (s2.trans s3))) (s3 _ _ (s2 _ _ hb1)) ho1 ⟨List.all_eq_true.mp qL_sh y hy1, of_decide_eq_true (List.all_eq_true.mp qL_nk y hy1)⟩ (of_decide_eq_true hy2)⟩
end
end LJ

namespace LJ
open PySem PySem.Spec PyProof.Rows L2 GuL HG
/-! ### fields, headers -/
abbrev Fld := Str × Nat
abbrev Hdr := Str × List Fld
def encF (f : Fld) : PyData := .tuple [.str f.1, .int (f.2 : Int)]
def encFs (fs : List Fld) : PyData := .tuple (fs.map encF)
def encH (h : Hdr) : PyData := .tuple [.str h.1, encFs h.2]
def encHs (hs : List Hdr) : PyData := .tuple (hs.map encH)
def bitsOf (fs : List Fld) : Nat := (fs.map (·.2)).sum
structure FieldsOk (fs : List Fld) : Prop where
  l1 : 1 ≤ fs.length
  l2 : fs.length ≤ 12
  nm : ∀ f ∈ fs, NameOk f.1
  wd : ∀ f ∈ fs, 1 ≤ f.2 ∧ f.2 ≤ 32
  nd : (fs.map (·.1)).Nodup
  m8 : bitsOf fs % 8 = 0
  le : bitsOf fs ≤ 128
structure HeadersOk (hs : List Hdr) : Prop where
  len : hs.length ≤ 6
  nm : ∀ h ∈ hs, NameOk h.1
  fo : ∀ h ∈ hs, FieldsOk h.2
  nd : (hs.map (·.1)).Nodup
theorem noL_encF (f : Fld) : NoL (encF f) := .tup fun d hd => by
  simp only [List.mem_cons, List.not_mem_nil, or_false] at hd
  rcases hd with rfl | rfl
  · exact .str _
  · exact .int _
theorem noL_encFs (fs : List Fld) : NoL (encFs fs) := .tup fun d hd => by
  obtain ⟨f, _, rfl⟩ := List.mem_map.mp hd
  exact noL_encF f
theorem noL_encH (h : Hdr) : NoL (encH h) := .tup fun d hd => by
  simp only [List.mem_cons, List.not_mem_nil, or_false] at hd
  rcases hd with rfl | rfl
  · exact .str _
  · exact noL_encFs _
theorem noL_encHs (hs : List Hdr) : NoL (encHs hs) := .tup fun d hd => by
  obtain ⟨f, _, rfl⟩ := List.mem_map.mp hd
  exact noL_encH f
theorem noL_mapF (fs : List Fld) : ∀ d ∈ fs.map encF, NoL d := fun d hd => by
  obtain ⟨f, _, rfl⟩ := List.mem_map.mp hd
  exact noL_encF f
theorem noL_mapH (hs : List Hdr) : ∀ d ∈ hs.map encH, NoL d := fun d hd => by
  obtain ⟨f, _, rfl⟩ := List.mem_map.mp hd
  exact noL_encH f
/-- rows that begin with these texts -/
structure Rows (zs : List Str) (ds : List PyData) : Prop where
  len : ds.length = zs.length
  row : ∀ (i : Nat) (d : PyData), ds[i]? = some d → ∃ z e, zs[i]? = some z ∧ d = .tuple [.str z, e]
theorem rowsF (fs : List Fld) : Rows (fs.map (·.1)) (fs.map encF) := ⟨by simp, fun i d h => by
  rw [List.getElem?_map] at h
  obtain ⟨f, h1, h2⟩ := Option.map_eq_some_iff.mp h
  exact ⟨f.1, .int (f.2 : Int), by rw [List.getElem?_map, h1]; rfl, h2.symm⟩⟩
theorem rowsH (hs : List Hdr) : Rows (hs.map (·.1)) (hs.map encH) := ⟨by simp, fun i d h => by
  rw [List.getElem?_map] at h
  obtain ⟨f, h1, h2⟩ := Option.map_eq_some_iff.mp h
  exact ⟨f.1, encFs f.2, by rw [List.getElem?_map, h1]; rfl, h2.symm⟩⟩
theorem pair_dp {K : PySem.W.Frag} {H : Hp} {v : V} {z : Str} {e : PyData} (h : Dp K H v (.tuple [.str z, e])) : ∃ a y, v = .ref a ∧ SqT K H a [.str z, y] ∧ Dp K H y e := by
  obtain ⟨a, xs, rfl, h1, h2⟩ := dp_tup h
  cases h2 with
  | cons h3 h4 =>
    cases h4 with
    | cons h5 h6 =>
      cases h6
      rw [dp_str h3] at h1
      exact ⟨a, _, rfl, h1, h5⟩
/-- [a for a, b in found]: the texts that rows begin with -/
theorem lcFirst {K : PySem.W.Frag} {σ : L2.St} {H : Hp} {Q : VK} {i j k : Nat} {l : Addr} {xs : List V} {ds : List PyData} {zs : List Str} (h0 : σ[i]? = some (some (.ref l))) (hl : H l = some (.lst xs)) (hd : DpAll K H xs ds) (hr : Rows zs ds) (hz : zs.length ≤ 900)
    (hw : ∀ x y, wipe (((wipe σ [j, k]).set j (some x)).set k (some y)) [j, k] = wipe σ [j, k]) (hj : ∀ x y, (((wipe σ [j, k]).set j (some x)).set k (some y))[j]? = some (some x))
    (q : ∀ D H', Same H H' → H D = none → H' D = some (.lst (zs.map V.str)) → Q (.ref D) H') :
    tLc (iList K (tVar i)) (gTup K 2 (gCons (gName j) (gCons (gName k) gNil))) tYes (tVar j) [j, k] σ H Q := by
  refine ⟨_, h0, l, rfl, ⟨_, SqL.of hl⟩, fun D hD => ?_⟩
  refine lc_list (K := K) (a := l) (xs := xs) (fun n H' => Same H H' ∧ H' D = some (.lst ((zs.take n).map V.str))) ⟨same_new hD, upd_same⟩ (fun n H' _ p => SqL.of (p.1 _ _ hl)) ?_ ?_
  · rintro n x H' hn ⟨s, f⟩
    obtain ⟨d, hd1, hd2⟩ := dpAll_at hd hn
    obtain ⟨z, e, hz1, rfl⟩ := hr.row n d hd1
    obtain ⟨a, y, rfl, h1, h2⟩ := pair_dp (dpSame s hd2)
    have hn9 : n < 900 := by
      have := (List.getElem?_eq_some_iff.mp hz1).1
      omega
    refine ⟨a, _, rfl, h1, rfl, _, _, rfl, _, _, rfl, rfl, hw _ _, _, hj _ _, _, f, ?_, fun b u hb => ?_, ?_⟩
    · rw [List.length_map]
      exact small1000 (Nat.le_trans (List.length_take_le _ _) (by omega))
    · rw [upd_ne (ne_of_none hb hD)]
      exact s _ _ hb
    · rw [upd_same, List.take_add_one, hz1, List.map_append]
      rfl
  · rintro H' ⟨s, f⟩
    have e : zs.take xs.length = zs := List.take_of_length_le (by rw [dpAll_len hd, hr.len]; exact Nat.le_refl _)
    rw [e] at f
    exact q D H' s hD f
/-! ### numbers -/
theorem pow_pos2 (w : Nat) : (1 : Int) ≤ 2 ^ w := by
  have : (0 : Int) < 2 ^ w := Int.pow_pos (by decide)
  omega
theorem one_shl (w : Nat) : (1 : Int) * 2 ^ ((w : Int).toNat) = 2 ^ w := by rw [Int.one_mul, Int.toNat_natCast]
theorem and_top {x : Int} {w : Nat} (hx : 0 ≤ x) : 0 ≤ Builtin.bitAnd x (2 ^ w - 1) ∧ Builtin.bitAnd x (2 ^ w - 1) < 2 ^ w := by
  rw [Bits.bitAnd_mask w hx]
  have p : (0 : Int) < 2 ^ w := Int.pow_pos (by decide)
  exact ⟨Int.emod_nonneg _ (by omega), Int.emod_lt_of_pos _ p⟩
theorem pow_two_le {w : Nat} (h : 1 ≤ w) : (2 : Int) ≤ 2 ^ w := by
  obtain ⟨n, rfl⟩ : ∃ n, w = n + 1 := ⟨w - 1, by omega⟩
  rw [Int.pow_succ]
  have := pow_pos2 n
  omega
theorem pow_lt_of {k : Int} {w : Nat} (h0 : 0 ≤ k) (h1 : k < w) : (1 : Int) * 2 ^ k.toNat < 2 ^ w := by
  rw [Int.one_mul]
  have : (2 : Nat) ^ k.toNat < 2 ^ w := Nat.pow_lt_pow_right (by decide) (by omega)
  exact_mod_cast this
theorem pow_bound {w : Nat} (h : w ≤ 60) : (2 : Int) ^ w ≤ 2 ^ 60 := by
  have : (2 : Nat) ^ w ≤ 2 ^ 60 := Nat.pow_le_pow_right (by decide) h
  exact_mod_cast this
end LJ

namespace LJ
open PySem PySem.Spec PyProof.Rows L2 GuL HG
abbrev sWord : Stmt := topS 63
abbrev sFields : Stmt := topS 64
abbrev sHeaders : Stmt := topS 65
section
variable {P : Program} {w : World} {K : PySem.W.Frag} {mg : Str → Option Value} {base : Heap}
/-- the defs that draw -/
structure Drw (P : Program) (w : World) (K : PySem.W.Frag) (mg : Str → Option Value) (base : Heap) (fD fO fN : Addr) (fdD fdO fdN : FuncData) : Prop where
  FD : Fun K "_law_dip" "_law_dip" sDip fD fdD
  bD : Binds K fdD ["_law_jar_here", "_law_top"] []
  gD : mg "_law_dip" = some (.ref fD)
  GD : FnOk P w K mg base CX0 1 fD fdD ["_law_jar_here", "_law_top"] spDip
  FO : Fun K "_law_one_of" "_law_one_of" sOne fO fdO
  bO : Binds K fdO ["_law_jar_here", "_law_some"] []
  gO : mg "_law_one_of" = some (.ref fO)
  GO : FnOk P w K mg base CX0 2 fO fdO ["_law_jar_here", "_law_some"] (spOne K)
  FN : Fun K "_law_name" "_law_name" sName fN fdN
  bN : Binds K fdN ["_law_jar_here", "_law_taken"] []
  gN : mg "_law_name" = some (.ref fN)
  GN : FnOk P w K mg base CX0 3 fN fdN ["_law_jar_here", "_law_taken"] spName
/-! ### a word -/
theorem scWord : FnScope ["_law_jar_here", "_law_width_here", "_law_top", "_law_way", "_law_high"] ["_law_jar_here", "_law_width_here"] (defScope sWord) := ⟨rfl, rfl, rfl, by decide +kernel, rfl, by decide +kernel, by decide +kernel⟩
def spWord : Sp := fun vs H Q _ => ∃ (b : Addr) (n : Nat) (o m c : Int), vs = [.ref b, .int (n : Int)] ∧ H b = some (bw o m c) ∧ 0 ≤ o ∧ 1 ≤ n ∧ n ≤ 32 ∧
  ∀ H' r, Jr b H H' → 0 ≤ r → r < 2 ^ n → Q (.int r) H'
theorem ok_word {f fD fO fN : Addr} {fd fdD fdO fdN : FuncData} (F : Fun K "_law_word" "_law_word" sWord f fd) (B : Blt mg) (Z : Drw P w K mg base fD fO fN fdD fdO fdN) : FnOk P w K mg base CX0 2 f fd ["_law_jar_here", "_law_width_here"] spWord := by
  refine F.ok scWord (fun vs H Q E h => ?_) (fun cdv A outer s H vs Q E hr h => ?_)
  · obtain ⟨b, n, o, m, c, rfl, _⟩ := h
    rfl
  · obtain ⟨b, n, o, m, c, rfl, hb, ho, n1, n32, k⟩ := h
    refine ⟨_, pss_cons (ps_par (i := 2) (j := 3) (by rfl) scWord.nd rfl rfl (by decide) rfl rfl (pa_cons (pe_op op_sub (pe_op op_shl pe_int (pv 1)) pe_int) (pa_cons (pe_call Z.GD (hr.mono (by decide)) (by rfl) Z.gD Z.FD.kp Z.bD .nil pass0 (pa_cons (pv 0) (pa_cons pe_int pa_nil))) pa_nil)) (by rfl))
      (pss_cons (ps_if (pt_cmpR op_lt (pv 3) pe_int (nomark _)) (pss_one (ps_ret (pe_call Z.GD (hr.mono (by decide)) (by rfl) Z.gD Z.FD.kp Z.bD .nil pass0 (pa_cons (pv 0) (pa_cons (pe_op op_add (pe_callB (call_min2 rfl) (by rfl) B.min (by decide +kernel) (pa_cons (pv 2) (pa_cons pe_int pa_nil))) pe_int) pa_nil))))) pss_nil)
      (pss_cons (ps_if (pt_cmpR op_eq (pv 3) pe_int (nomark _)) (pss_one (ps_ret (pe_op op_sub (pv 2) (pe_call Z.GD (hr.mono (by decide)) (by rfl) Z.gD Z.FD.kp Z.bD .nil pass0 (pa_cons (pv 0) (pa_cons (pe_op op_add (pe_callB (call_min2 rfl) (by rfl) B.min (by decide +kernel) (pa_cons (pv 2) (pa_cons pe_int pa_nil))) pe_int) pa_nil)))))) pss_nil)
      (pss_cons (ps_if (pt_cmpR op_eq (pv 3) pe_int (nomark _)) (pss_one (ps_ret (pe_op op_shl pe_int (pe_call Z.GD (hr.mono (by decide)) (by rfl) Z.gD Z.FD.kp Z.bD .nil pass0 (pa_cons (pv 0) (pa_cons (pv 1) pa_nil)))))) pss_nil)
      (pss_cons (ps_set (i := 4) scWord.nd rfl (.inl rfl) (pe_call Z.GD (hr.mono (by decide)) (by rfl) Z.gD Z.FD.kp Z.bD .nil pass0 (pa_cons (pv 0) (pa_cons pe_int pa_nil))))
      (pss_one (ps_ret (pe_op op_and (pe_op op_or (pe_op op_shl (pv 4) pe_int) (pe_call Z.GD (hr.mono (by decide)) (by rfl) Z.gD Z.FD.kp Z.bD .nil pass0 (pa_cons (pv 0) (pa_cons pe_int pa_nil)))) (pv 2)))))))), ?_⟩
    have T1 := pow_two_le n1
    have T2 : (2 : Int) ^ n ≤ 2 ^ 60 := pow_bound (by omega)
    have T3 : (1 : Int) * 2 ^ ((n : Int).toNat) = 2 ^ n := one_shl n
    refine ⟨_, rfl, _, _, rfl, rfl, ⟨by omega, by omega, by decide⟩, _, _, rfl, rfl, ?_⟩
    rw [T3]
    refine ⟨_, rfl, b, 6, o, m, c, rfl, hb, ho, by decide, by decide, fun H1 r1 o1 m1 c1 e1 hb1 ho1 r10 r11 => ⟨_, _, rfl, ?_⟩⟩
    refine ⟨_, rfl, _, _, rfl, rfl, _, rfl, ite2 (fun _ => ?_) (fun _ => ?_)⟩
    · refine ⟨_, rfl, _, rfl, _, _, rfl, _, _, rfl, rfl, b, _, o1, m1, c1, rfl, hb1, ho1, ?_, ?_, fun H2 r2 o2 m2 c2 e2 hb2 ho2 r20 r21 => k H2 r2 ⟨e1.trans e2, o2, m2, c2, hb2, ho2⟩ r20 ?_⟩
      · split <;> omega
      · split <;> omega
      · revert r21
        split <;> omega
    refine ⟨_, rfl, rfl, _, rfl, ite2 (fun _ => ?_) (fun _ => ?_)⟩
    · refine ⟨_, rfl, _, rfl, _, rfl, _, _, rfl, _, _, rfl, rfl, b, _, o1, m1, c1, rfl, hb1, ho1, ?_, ?_, fun H2 r2 o2 m2 c2 e2 hb2 ho2 r20 r21 => ⟨_, _, rfl, rfl, k H2 _ ⟨e1.trans e2, o2, m2, c2, hb2, ho2⟩ ?_ ?_⟩⟩
      · split <;> omega
      · split <;> omega
      · revert r21
        split <;> omega
      · omega
    refine ⟨_, rfl, rfl, _, rfl, ite2 (fun _ => ?_) (fun _ => ?_)⟩
    · refine ⟨_, rfl, _, rfl, b, _, o1, m1, c1, rfl, hb1, ho1, by omega, by omega, fun H2 r2 o2 m2 c2 e2 hb2 ho2 r20 r21 => ⟨_, _, rfl, rfl, ⟨r20, by omega, by decide⟩, k H2 _ ⟨e1.trans e2, o2, m2, c2, hb2, ho2⟩ ?_ (pow_lt_of r20 r21)⟩⟩
      have := pow_pos2 r2.toNat
      omega
    · refine ⟨_, rfl, b, _, o1, m1, c1, rfl, hb1, ho1, by decide, by decide, fun H2 r2 o2 m2 c2 e2 hb2 ho2 r20 r21 => ?_⟩
      refine ⟨_, rfl, _, _, rfl, rfl, ⟨by decide, by decide, by omega⟩, _, rfl, b, _, o2, m2, c2, rfl, hb2, ho2, by decide, by decide, fun H3 r3 o3 m3 c3 e3 hb3 ho3 r30 r31 => ⟨_, _, rfl, rfl, ?_⟩⟩
      have x0 : (0 : Int) ≤ Builtin.bitOr (r2 * 2 ^ (16 : Int).toNat) r3 := Bits.bitOr_nonneg (Int.mul_nonneg r20 (by decide)) r30
      have y := and_top (w := n) x0
      exact ⟨_, rfl, _, _, rfl, rfl, k H3 _ ⟨(e1.trans e2).trans e3, o3, m3, c3, hb3, ho3⟩ y.1 y.2⟩
end
end LJ

namespace LJ
open PySem PySem.Spec PyProof.Rows L2 GuL HG
section
variable {P : Program} {w : World} {K : PySem.W.Frag} {mg : Str → Option Value} {base : Heap}
theorem Jr.trans {b : Addr} {H H1 H2 : Hp} (a : Exb b H H1) (c : Jr b H1 H2) : Jr b H H2 := ⟨a.trans c.e, c.at_⟩
/-- a list that the jar's owner does not know may change -/
theorem Jr.put {b l : Addr} {H H' : Hp} {o : HO} (j : Jr b H H') (hl : H l = none) (nl : l ≠ b) : Jr b H (upd H' l o) := ⟨j.e.mut hl, by
  obtain ⟨x, m, c, h, h0⟩ := j.at_
  exact ⟨x, m, c, by rw [upd_ne (Ne.symm nl)]; exact h, h0⟩⟩
theorem Jr.same {b : Addr} {H H1 H2 : Hp} (j : Jr b H H1) (s : Same H1 H2) : Jr b H H2 := ⟨j.e.trans (Exb.of s), by
  obtain ⟨x, m, c, h, h0⟩ := j.at_
  exact ⟨x, m, c, s _ _ h, h0⟩⟩
theorem mem_ints {L : List Int} {v : V} (h : v ∈ L.map V.int) : ∃ z, z ∈ L ∧ v = .int z := by
  obtain ⟨z, h1, h2⟩ := List.mem_map.mp h
  exact ⟨z, h1, h2.symm⟩
/-! ### fields -/
def w15 : List Int := [1, 2, 3, 4, 5, 7, 8, 8, 8, 9, 16, 24, 31, 32, 128]
theorem w15_ok : ∀ x ∈ w15, 1 ≤ x ∧ x ≤ 128 := by decide
theorem scFields : FnScope ["_law_jar_here", "_law_size_here", "_law_left", "_law_found", "_law_slot", "_law_low", "_law_high", "_law_width_here", "_law_name_here", "_law_wide"] ["_law_jar_here", "_law_size_here"] (defScope sFields) := ⟨rfl, rfl, rfl, by decide +kernel, rfl, by decide +kernel, by decide +kernel⟩
def spFields (K : PySem.W.Frag) : Sp := fun vs H Q _ => ∃ (b : Addr) (n : Nat) (o m c : Int), vs = [.ref b, .int (n : Int)] ∧ H b = some (bw o m c) ∧ 0 ≤ o ∧ 1 ≤ n ∧ n ≤ 16 ∧
  ∀ H' v fs, Jr b H H' → Dp K H' v (encFs fs) → FieldsOk fs → bitsOf fs = 8 * n → Q v H'
theorem bitsOf_snoc (fs : List Fld) (f : Fld) : bitsOf (fs ++ [f]) = bitsOf fs + f.2 := by
  unfold bitsOf
  rw [List.map_append, List.sum_append]
  simp
structure FInv (K : PySem.W.Frag) (H H' : Hp) (b l : Addr) (n i : Nat) (left : Int) (fs : List Fld) (xs : List V) : Prop where
  j : Jr b H H'
  hl : H' l = some (.lst xs)
  dp : DpAll K H' xs (fs.map encF)
  len : fs.length ≤ i
  nm : ∀ f ∈ fs, NameOk f.1
  wd : ∀ f ∈ fs, 1 ≤ f.2 ∧ f.2 ≤ 32
  nd : (fs.map (·.1)).Nodup
  sum : left + (bitsOf fs : Int) = 8 * n
  l0 : 0 ≤ left
  l1 : left ≤ 32 * (12 - (i : Int))
theorem ok_fields {f fD fO fN : Addr} {fd fdD fdO fdN : FuncData} (F : Fun K "_law_fields" "_law_fields" sFields f fd) (B : Blt mg) (Z : Drw P w K mg base fD fO fN fdD fdO fdN) : FnOk P w K mg base CX0 4 f fd ["_law_jar_here", "_law_size_here"] (spFields K) := by
  refine F.ok scFields (fun vs H Q E h => ?_) (fun cdv A outer s H vs Q E hr h => ?_)
  · obtain ⟨b, n, o, m, c, rfl, _⟩ := h
    rfl
  · obtain ⟨b, n, o, m, c, rfl, hb, ho, n1, n16, k⟩ := h
    refine ⟨_, pss_cons (ps_par (i := 2) (j := 3) (by rfl) scFields.nd rfl rfl (by decide) rfl rfl (pa_cons (pe_op op_mul pe_int (pv 1)) (pa_cons (pe_lst pa_nil) pa_nil)) (by rfl))
      (pss_cons (ps_for PassesOwn.never rfl (pi_range1 (by rfl) B.range (pa_cons pe_int pa_nil)) (pg_name (i := 4) scFields.nd rfl (.inl rfl))
        (pss_one (ps_if (pt_cmpR op_gt (pv 2) pe_int (nomark _))
          (pss_cons (ps_par (i := 5) (j := 6) (by rfl) scFields.nd rfl rfl (by decide) rfl rfl (pa_cons (pe_callB (call_max2 rfl) (by rfl) B.max (by decide +kernel) (pa_cons pe_int (pa_cons (pe_op op_sub (pv 2) (pe_op op_mul pe_int (pe_op op_sub pe_int (pv 4)))) pa_nil))) (pa_cons (pe_callB (call_min2 rfl) (by rfl) B.min (by decide +kernel) (pa_cons pe_int (pa_cons (pv 2) pa_nil))) pa_nil)) (by rfl))
          (pss_cons (ps_set (i := 7) scFields.nd rfl (.inl rfl) (pe_call Z.GO (hr.mono (by decide)) (by rfl) Z.gO Z.FO.kp Z.bO .nil pass0 (pa_cons (pv 0) (pa_cons (pe_lst (pa_cons pe_int (pa_cons pe_int (pa_cons pe_int (pa_cons pe_int (pa_cons pe_int (pa_cons pe_int (pa_cons pe_int (pa_cons pe_int (pa_cons pe_int (pa_cons pe_int (pa_cons pe_int (pa_cons pe_int (pa_cons pe_int (pa_cons pe_int (pa_cons pe_int pa_nil)))))))))))))))) pa_nil))))
          (pss_cons (ps_set (i := 7) scFields.nd rfl (.inl rfl) (pe_callB (call_min2 rfl) (by rfl) B.min (by decide +kernel) (pa_cons (pv 6) (pa_cons (pe_callB (call_max2 rfl) (by rfl) B.max (by decide +kernel) (pa_cons (pv 5) (pa_cons (pv 7) pa_nil))) pa_nil))))
          (pss_cons (ps_expr (pe_bm PySem.F.plainAttrs_list PySem.F.slot_list_append PySem.F.type_list_append mt_append (pv 3) (pa_cons (pe_tup (pa_cons
            (pe_call Z.GN hr (by rfl) Z.gN Z.FN.kp Z.bN .nil pass0 (pa_cons (pv 0) (pa_cons (pe_lc (own := [("_law_name_here", 8), ("_law_wide", 9)]) (g := gTup K 2 (gCons (gName 8) (gCons (gName 9) gNil))) (tt := tYes) rfl scFields.nd (pi_list (pv 3))
              (blkOk_by (N := ["_law_jar_here", "_law_size_here", "_law_left", "_law_found", "_law_slot", "_law_low", "_law_high", "_law_width_here", "_law_name_here", "_law_wide"]) (sc := defScope sFields) (by decide +kernel)) (fun _ _ _ _ _ => pg_tup rfl (pgs_cons (pg_name (i := 8) scFields.nd rfl (.inl rfl)) (pgs_cons (pg_name (i := 9) scFields.nd rfl (.inl rfl)) pgs_nil))) (fun _ _ _ _ _ => pts_nil) (fun _ _ _ _ _ => pv 8)) pa_nil)))
            (pa_cons (pv 7) pa_nil))) pa_nil)))
          (pss_one (ps_set (i := 2) scFields.nd rfl (.inl rfl) (pe_op op_sub (pv 2) (pv 7)))))))) pss_nil)))
      (pss_one (ps_ret (pe_callTy call_tuple_of (by rfl) B.tuple (by decide +kernel) (pa_cons (pv 3) pa_nil))))), ?_⟩
    refine ⟨_, rfl, _, _, rfl, rfl, .inl ⟨by decide, by decide⟩, Nat.zero_le _, fun l hl => ⟨_, _, rfl, ?_⟩⟩
    have nl : l ≠ b := fun z => by
      rw [z, hb] at hl
      cases hl
    refine ⟨12, rfl, by decide, by decide, for_range (lo := 0) (n := 12) (fun i σ H' => ∃ (left : Int) (fs : List Fld) (xs : List V) (v4 v5 v6 v7 : Option V), σ = [some (.ref b), some (.int (n : Int)), some (.int left), some (.ref l), v4, v5, v6, v7, none, none] ∧ FInv K H H' b l n i left fs xs)
      ⟨8 * n, [], [], _, _, _, _, rfl, ⟨⟨Exb.of (same_new hl), o, m, c, by rw [upd_ne (Ne.symm nl)]; exact hb, ho⟩, upd_same, .nil, Nat.zero_le _, (fun f hf => nomatch hf), (fun f hf => nomatch hf), List.nodup_nil, ?_, by omega, by omega⟩⟩ ?_ ?_⟩
    · show (8 : Int) * n + ((0 : Nat) : Int) = 8 * n
      omega
    · rintro i σ H1 hi ⟨left, fs, xs, v4, v5, v6, v7, rfl, I⟩
      obtain ⟨e1, o1, m1, c1, hb1, ho1⟩ := I.j
      refine ⟨_, rfl, _, _, rfl, rfl, _, rfl, ite2 (fun cl => ?_) (fun cl => ?_)⟩
      · have l0 : 0 < left := of_decide_eq_true cl
        have I1 := I.l1
        refine ⟨_, rfl, _, rfl, _, _, rfl, rfl, _, _, rfl, rfl, .inl ⟨by decide, by decide⟩, _, _, rfl, rfl, _, _, rfl, _, rfl, _, _, rfl, _, _, rfl, ?_⟩
        -- the width's bounds
        have lo1 : ∃ lo hi : Int, (if left - 32 * (11 - ((0 : Int) + (i : Int))) > 1 then left - 32 * (11 - ((0 : Int) + (i : Int))) else 1) = lo ∧ (if left < 32 then left else 32) = hi ∧ 1 ≤ lo ∧ lo ≤ hi ∧ hi ≤ 32 ∧ hi ≤ left ∧ left - lo ≤ 32 * (11 - (i : Int)) := by
          refine ⟨_, _, rfl, rfl, ?_⟩
          split <;> split <;> omega
        obtain ⟨lo, hi', elo, ehi, b1, b2, b3, b4, b5⟩ := lo1
        rw [elo, ehi]
        refine ⟨_, rfl, by show 15 ≤ sizeLine; decide, fun p hp => ?_⟩
        have np : p ≠ b := fun z => by
          rw [z, hb1] at hp
          cases hp
        refine ⟨b, .ref p, o1, m1, c1, rfl, by rw [upd_ne (Ne.symm np)]; exact hb1, ho1, .inr (.inr ⟨p, _, rfl, np, upd_same, by show 0 < 15; decide, by show 15 < 100000; decide, fun H2 v o2 m2 c2 e2 hb2 ho2 hv => ?_⟩)⟩
        obtain ⟨wi, hwi, rfl⟩ := mem_ints (L := w15) hv
        have wb := w15_ok wi hwi
        refine ⟨_, rfl, _, rfl, _, rfl, _, _, rfl, _, _, rfl, ?_⟩
        obtain ⟨wn, ew, w1, w2⟩ : ∃ wn : Nat, (if (if wi > lo then wi else lo) < hi' then (if wi > lo then wi else lo) else hi') = (wn : Int) ∧ lo ≤ (wn : Int) ∧ (wn : Int) ≤ hi' := by
          refine ⟨(if (if wi > lo then wi else lo) < hi' then (if wi > lo then wi else lo) else hi').toNat, ?_, ?_, ?_⟩
          · split <;> split <;> omega
          · split <;> split <;> omega
          · split <;> split <;> omega
        rw [ew]
        have s1 := same_new (o := .lst (w15.map V.int)) hp
        have x2 : Exb b H1 H2 := (Exb.of s1).trans e2
        have hl2 : H2 l = some (.lst xs) := x2 _ _ nl I.hl
        have dp2 : DpAll K H2 xs (fs.map encF) := dpExbAll hb1 x2 (noL_mapF fs) I.dp
        refine ⟨_, rfl, .inl ⟨rfl, _, SqL.of hl2⟩, _, rfl, ?_⟩
        refine lcFirst rfl hl2 dp2 (rowsF fs) (by rw [List.length_map]; have := I.len; omega) (fun _ _ => rfl) (fun _ _ => rfl) fun D H3 s3 hD f3 => ?_
        have hb3 := s3 _ _ hb2
        have nD : D ≠ b := fun z => by
          rw [z, hb2] at hD
          cases hD
        refine ⟨b, D, fs.map (·.1), o2, m2, c2, rfl, hb3, ho2, nD, f3, by rw [List.length_map]; have := I.len; omega, fun H4 z o4 m4 c4 e4 hb4 ho4 hz hzn => ?_⟩
        have x4 : Exb b H2 H4 := (Exb.of s3).trans e4
        have hl4 : H4 l = some (.lst xs) := x4 _ _ nl hl2
        have dp4 : DpAll K H4 xs (fs.map encF) := dpExbAll hb2 x4 (noL_mapF fs) dp2
        refine ⟨_, rfl, by show 2 ≤ sizeLine; decide, fun q hq => ?_⟩
        have s5 := same_new (o := .tup [.str z, .int (wn : Int)]) hq
        have hl5 := s5 _ _ hl4
        have nql : q ≠ l := fun y => by
          rw [y, hl4] at hq
          cases hq
        refine ⟨l, xs, .ref q, rfl, rfl, hl5, ?_, ?_⟩
        · rw [dpAll_len I.dp, List.length_map]
          exact small1000 (by have := I.len; omega)
        · have hnew : H l = none := by
            cases y : H l with
            | none => rfl
            | some u =>
              rw [hl] at y
              cases y
          refine ⟨_, rfl, _, rfl, _, _, rfl, rfl, left - (wn : Int), fs ++ [(z, wn)], xs ++ [.ref q], _, _, _, _, rfl, ?_⟩
          have j5 : Jr b H (upd H4 q (.tup [.str z, .int (wn : Int)])) := (⟨(e1.trans x2).trans x4, o4, m4, c4, hb4, ho4⟩ : Jr b H H4).same s5
          have dp5 : DpAll K (upd H4 q (.tup [.str z, .int (wn : Int)])) xs (fs.map encF) := dpSameAll s5 dp4
          have dq : Dp K (upd H4 q (.tup [.str z, .int (wn : Int)])) (.ref q) (encF (z, wn)) := .tup (SqT.of upd_same) (.cons (.str z) (.cons (.int _) .nil))
          refine ⟨j5.put hnew nl, upd_same, ?_, by rw [List.length_append]; have := I.len; show _ + 1 ≤ _; omega, fun g hg => ?_, fun g hg => ?_, ?_, ?_, by omega, ?_⟩
          · rw [List.map_append]
            refine dpAll_snoc (dpExb hl5 Exb.put (noL_encF _) dq) (dpExbAll hl5 Exb.put (noL_mapF fs) dp5)
          · rcases List.mem_append.mp hg with hg | hg
            · exact I.nm g hg
            · rw [List.mem_singleton.mp hg]
              exact hz
          · rcases List.mem_append.mp hg with hg | hg
            · exact I.wd g hg
            · rw [List.mem_singleton.mp hg]
              exact ⟨by show 1 ≤ wn; omega, by show wn ≤ 32; omega⟩
          · rw [List.map_append, List.nodup_append]
            refine ⟨I.nd, by simp, fun x hx y hy => ?_⟩
            simp at hy
            subst hy
            exact fun e => hzn (e ▸ hx)
          · rw [bitsOf_snoc]
            have := I.sum
            show left - (wn : Int) + ((bitsOf fs + wn : Nat) : Int) = 8 * n
            omega
          · show left - (wn : Int) ≤ 32 * (12 - ((i + 1 : Nat) : Int))
            omega
      · have l0 : ¬ 0 < left := of_decide_eq_false (by simpa using cl)
        exact ⟨left, fs, xs, _, _, _, _, rfl, ⟨I.j, I.hl, I.dp, by have := I.len; omega, I.nm, I.wd, I.nd, I.sum, I.l0, by have := I.l0; omega⟩⟩
    · rintro σ H1 ⟨left, fs, xs, v4, v5, v6, v7, rfl, I⟩
      refine ⟨_, rfl, l, _, rfl, .inl ⟨SqL.of I.hl, fun t ht => ?_⟩⟩
      have z0 : left = 0 := by
        have h0 := I.l0
        have h1 := I.l1
        omega
      have hs := I.sum
      have e8 : bitsOf fs = 8 * n := by omega
      refine k _ _ fs (I.j.same (same_new ht)) (.tup (SqT.of upd_same) (dpSameAll (same_new ht) I.dp)) ⟨?_, I.len, I.nm, I.wd, I.nd, by omega, by omega⟩ e8
      cases fs with
      | nil =>
        have : bitsOf [] = 0 := rfl
        omega
      | cons _ _ => simp
end
end LJ

namespace LJ
open PySem PySem.Spec PyProof.Rows L2 GuL HG
section
variable {P : Program} {w : World} {K : PySem.W.Frag} {mg : Str → Option Value} {base : Heap}
/-! ### headers -/
def w10 : List Int := [1, 1, 1, 1, 2, 2, 3, 4, 1, 16]
theorem w10_ok : ∀ x ∈ w10, 1 ≤ x ∧ x ≤ 16 := by decide
theorem scHeaders : FnScope ["_law_jar_here", "_law_least", "_law_most", "_law_found", "_law_turn", "_law_size_here", "_law_name_here", "_law_fields_here"] ["_law_jar_here", "_law_least", "_law_most"] (defScope sHeaders) := ⟨rfl, rfl, rfl, by decide +kernel, rfl, by decide +kernel, by decide +kernel⟩
def spHeaders (K : PySem.W.Frag) : Sp := fun vs H Q _ => ∃ (b : Addr) (lo hi : Nat) (o m c : Int), vs = [.ref b, .int (lo : Int), .int (hi : Int)] ∧ H b = some (bw o m c) ∧ 0 ≤ o ∧ lo ≤ hi ∧ hi ≤ 6 ∧
  ∀ H' v hs, Jr b H H' → Dp K H' v (encHs hs) → HeadersOk hs → lo ≤ hs.length → hs.length ≤ hi → Q v H'
structure HInv (K : PySem.W.Frag) (H H' : Hp) (b l : Addr) (i : Nat) (hs : List Hdr) (xs : List V) : Prop where
  j : Jr b H H'
  hl : H' l = some (.lst xs)
  dp : DpAll K H' xs (hs.map encH)
  len : hs.length = i
  nm : ∀ h ∈ hs, NameOk h.1
  fo : ∀ h ∈ hs, FieldsOk h.2
  nd : (hs.map (·.1)).Nodup
theorem ok_headers {f fD fO fN fF : Addr} {fd fdD fdO fdN fdF : FuncData} (F : Fun K "_law_headers" "_law_headers" sHeaders f fd) (B : Blt mg) (Z : Drw P w K mg base fD fO fN fdD fdO fdN)
    (FF : Fun K "_law_fields" "_law_fields" sFields fF fdF) (bF : Binds K fdF ["_law_jar_here", "_law_size_here"] []) (gF : mg "_law_fields" = some (.ref fF)) : FnOk P w K mg base CX0 5 f fd ["_law_jar_here", "_law_least", "_law_most"] (spHeaders K) := by
  have GF : FnOk P w K mg base CX0 4 fF fdF ["_law_jar_here", "_law_size_here"] (spFields K) := ok_fields FF B Z
  refine F.ok scHeaders (fun vs H Q E h => ?_) (fun cdv A outer s H vs Q E hr h => ?_)
  · obtain ⟨b, lo, hi, o, m, c, rfl, _⟩ := h
    rfl
  · obtain ⟨b, lo, hi, o, m, c, rfl, hb, ho, lh, h6, k⟩ := h
    refine ⟨_, pss_cons (ps_set (i := 3) scHeaders.nd rfl (.inl rfl) (pe_lst pa_nil))
      (pss_cons (ps_for PassesOwn.never rfl (pi_range1 (by rfl) B.range (pa_cons (pe_op op_add (pv 1) (pe_call Z.GD (hr.mono (by decide)) (by rfl) Z.gD Z.FD.kp Z.bD .nil pass0 (pa_cons (pv 0) (pa_cons (pe_op op_add (pe_op op_sub (pv 2) (pv 1)) pe_int) pa_nil)))) pa_nil)) (pg_name (i := 4) scHeaders.nd rfl (.inl rfl))
        (pss_cons (ps_set (i := 5) scHeaders.nd rfl (.inl rfl) (pe_call Z.GO (hr.mono (by decide)) (by rfl) Z.gO Z.FO.kp Z.bO .nil pass0 (pa_cons (pv 0) (pa_cons (pe_lst (pa_cons pe_int (pa_cons pe_int (pa_cons pe_int (pa_cons pe_int (pa_cons pe_int (pa_cons pe_int (pa_cons pe_int (pa_cons pe_int (pa_cons pe_int (pa_cons pe_int pa_nil))))))))))) pa_nil))))
        (pss_one (ps_expr (pe_bm PySem.F.plainAttrs_list PySem.F.slot_list_append PySem.F.type_list_append mt_append (pv 3) (pa_cons (pe_tup (pa_cons
            (pe_call Z.GN (hr.mono (by decide)) (by rfl) Z.gN Z.FN.kp Z.bN .nil pass0 (pa_cons (pv 0) (pa_cons (pe_lc (own := [("_law_name_here", 6), ("_law_fields_here", 7)]) (g := gTup K 2 (gCons (gName 6) (gCons (gName 7) gNil))) (tt := tYes) rfl scHeaders.nd (pi_list (pv 3))
              (blkOk_by (N := ["_law_jar_here", "_law_least", "_law_most", "_law_found", "_law_turn", "_law_size_here", "_law_name_here", "_law_fields_here"]) (sc := defScope sHeaders) (by decide +kernel)) (fun _ _ _ _ _ => pg_tup rfl (pgs_cons (pg_name (i := 6) scHeaders.nd rfl (.inl rfl)) (pgs_cons (pg_name (i := 7) scHeaders.nd rfl (.inl rfl)) pgs_nil))) (fun _ _ _ _ _ => pts_nil) (fun _ _ _ _ _ => pv 6)) pa_nil)))
            (pa_cons (pe_call GF hr (by rfl) gF FF.kp bF .nil pass0 (pa_cons (pv 0) (pa_cons (pv 5) pa_nil))) pa_nil))) pa_nil))))))
      (pss_one (ps_ret (pe_callTy call_tuple_of (by rfl) B.tuple (by decide +kernel) (pa_cons (pv 3) pa_nil))))), ?_⟩
    refine ⟨Nat.zero_le _, fun l hl => ?_⟩
    have nl : l ≠ b := fun z => by
      rw [z, hb] at hl
      cases hl
    have s0 := same_new (o := .lst []) hl
    refine ⟨_, rfl, _, rfl, _, rfl, _, rfl, _, _, rfl, rfl, _, _, rfl, rfl, b, _, o, m, c, rfl, s0 _ _ hb, ho, by omega, by omega, fun H1 r o1 m1 c1 e1 hb1 ho1 r0 r1 => ?_⟩
    refine ⟨_, _, rfl, rfl, _, rfl, by omega, by omega, ?_⟩
    obtain ⟨N, eN⟩ : ∃ N : Nat, (lo : Int) + r = (N : Int) := ⟨((lo : Int) + r).toNat, by omega⟩
    rw [eN, Int.toNat_natCast]
    have N1 : lo ≤ N := by omega
    have N2 : N ≤ hi := by omega
    refine for_range (lo := 0) (n := N) (fun i σ H' => ∃ (hs : List Hdr) (xs : List V) (v4 v5 : Option V), σ = [some (.ref b), some (.int (lo : Int)), some (.int (hi : Int)), some (.ref l), v4, v5, none, none] ∧ HInv K H H' b l i hs xs)
      ⟨[], [], _, _, rfl, ⟨⟨(Exb.of s0).trans e1, o1, m1, c1, hb1, ho1⟩, e1 _ _ nl upd_same, .nil, rfl, (fun f hf => nomatch hf), (fun f hf => nomatch hf), List.nodup_nil⟩⟩ ?_ ?_
    · rintro i σ H2 hi' ⟨hs, xs, v4, v5, rfl, I⟩
      obtain ⟨e2, o2, m2, c2, hb2, ho2⟩ := I.j
      refine ⟨_, rfl, by show 10 ≤ sizeLine; decide, fun p hp => ?_⟩
      have np : p ≠ b := fun z => by
        rw [z, hb2] at hp
        cases hp
      refine ⟨b, .ref p, o2, m2, c2, rfl, by rw [upd_ne (Ne.symm np)]; exact hb2, ho2, .inr (.inr ⟨p, _, rfl, np, upd_same, by show 0 < 10; decide, by show 10 < 100000; decide, fun H3 v o3 m3 c3 e3 hb3 ho3 hv => ?_⟩)⟩
      obtain ⟨si, hsi, rfl⟩ := mem_ints (L := w10) hv
      have sb := w10_ok si hsi
      obtain ⟨sn, rfl⟩ := Int.eq_ofNat_of_zero_le (show 0 ≤ si by omega)
      have x3 : Exb b H2 H3 := (Exb.of (same_new hp)).trans e3
      have hl3 : H3 l = some (.lst xs) := x3 _ _ nl I.hl
      have dp3 : DpAll K H3 xs (hs.map encH) := dpExbAll hb2 x3 (noL_mapH hs) I.dp
      refine ⟨_, rfl, .inl ⟨rfl, _, SqL.of hl3⟩, _, rfl, ?_⟩
      refine lcFirst rfl hl3 dp3 (rowsH hs) (by rw [List.length_map, I.len]; omega) (fun _ _ => rfl) (fun _ _ => rfl) fun D H4 s4 hD f4 => ?_
      have hb4 := s4 _ _ hb3
      have nD : D ≠ b := fun z => by
        rw [z, hb3] at hD
        cases hD
      refine ⟨b, D, hs.map (·.1), o3, m3, c3, rfl, hb4, ho3, nD, f4, by rw [List.length_map, I.len]; omega, fun H5 z o5 m5 c5 e5 hb5 ho5 hz hzn => ?_⟩
      have x5 : Exb b H3 H5 := (Exb.of s4).trans e5
      refine ⟨_, rfl, _, rfl, b, sn, o5, m5, c5, rfl, hb5, ho5, by omega, by omega, fun H6 v6 fs j6 dp6 hf6 hbits => ?_⟩
      have x6 : Exb b H3 H6 := x5.trans j6.e
      have hl6 : H6 l = some (.lst xs) := x6 _ _ nl hl3
      have dpx6 : DpAll K H6 xs (hs.map encH) := dpExbAll hb3 x6 (noL_mapH hs) dp3
      refine ⟨by show 2 ≤ sizeLine; decide, fun q hq => ?_⟩
      have s7 := same_new (o := .tup [.str z, v6]) hq
      have hl7 := s7 _ _ hl6
      refine ⟨l, xs, .ref q, rfl, rfl, hl7, ?_, ?_⟩
      · rw [dpAll_len I.dp, List.length_map, I.len]
        exact small1000 (by omega)
      · refine ⟨hs ++ [(z, fs)], xs ++ [.ref q], _, _, rfl, ?_⟩
        have j6' : Jr b H H6 := Jr.trans (e2.trans (x3.trans x5)) j6
        have j7 : Jr b H (upd H6 q (.tup [.str z, v6])) := j6'.same s7
        have dp7 : DpAll K (upd H6 q (.tup [.str z, v6])) xs (hs.map encH) := dpSameAll s7 dpx6
        have dq : Dp K (upd H6 q (.tup [.str z, v6])) (.ref q) (encH (z, fs)) := .tup (SqT.of upd_same) (.cons (.str z) (.cons (dpSame s7 dp6) .nil))
        refine ⟨j7.put hl nl, upd_same, ?_, by rw [List.length_append, I.len]; rfl, fun g hg => ?_, fun g hg => ?_, ?_⟩
        · rw [List.map_append]
          exact dpAll_snoc (dpExb hl7 Exb.put (noL_encH _) dq) (dpExbAll hl7 Exb.put (noL_mapH hs) dp7)
        · rcases List.mem_append.mp hg with hg | hg
          · exact I.nm g hg
          · rw [List.mem_singleton.mp hg]
            exact hz
        · rcases List.mem_append.mp hg with hg | hg
          · exact I.fo g hg
          · rw [List.mem_singleton.mp hg]
            exact hf6
        · rw [List.map_append, List.nodup_append]
          refine ⟨I.nd, by simp, fun x hx y hy => ?_⟩
          simp at hy
          subst hy
          exact fun e => hzn (e ▸ hx)
    · rintro σ H2 ⟨hs, xs, v4, v5, rfl, I⟩
      refine ⟨_, rfl, l, _, rfl, .inl ⟨SqL.of I.hl, fun t ht => ?_⟩⟩
      have hl2 := I.len
      exact k _ _ hs (I.j.same (same_new ht)) (.tup (SqT.of upd_same) (dpSameAll (same_new ht) I.dp)) ⟨by omega, I.nm, I.fo, I.nd⟩ (by omega) (by omega)
end
end LJ

namespace Bt
/-! ### bits, the highest first -/
def valB (l : List Nat) : Nat := l.foldl (fun a b => 2 * a + b) 0
theorem foldB (l : List Nat) : ∀ a, l.foldl (fun a b => 2 * a + b) a = a * 2 ^ l.length + valB l := by
  induction l with
  | nil => intro a; simp [valB]
  | cons b l ih =>
    intro a
    unfold valB
    rw [List.foldl_cons, List.foldl_cons, ih, ih (2 * 0 + b), List.length_cons, Nat.pow_succ]
    have : (2 * a + b) * 2 ^ l.length = a * (2 ^ l.length * 2) + b * 2 ^ l.length := by
      rw [Nat.add_mul, Nat.mul_comm 2 a, Nat.mul_assoc, Nat.mul_comm 2]
    rw [this]
    simp
    omega
theorem valB_cons (b : Nat) (l : List Nat) : valB (b :: l) = b * 2 ^ l.length + valB l := by
  have := foldB l b
  unfold valB at this ⊢
  rw [List.foldl_cons]
  simpa using this
theorem valB_append (l m : List Nat) : valB (l ++ m) = valB l * 2 ^ m.length + valB m := by
  unfold valB
  rw [List.foldl_append, foldB]
  rfl
theorem valB_snoc (l : List Nat) (b : Nat) : valB (l ++ [b]) = 2 * valB l + b := by
  rw [valB_append]
  simp [valB]
  omega
def Bits (l : List Nat) : Prop := ∀ b ∈ l, b < 2
theorem Bits.app {l m : List Nat} (h : Bits l) (k : Bits m) : Bits (l ++ m) := fun b hb => (List.mem_append.mp hb).elim (h b) (k b)
theorem valB_lt : ∀ {l : List Nat}, Bits l → valB l < 2 ^ l.length
  | [], _ => by simp [valB]
  | b :: l, h => by
    have ih := valB_lt (l := l) fun x hx => h x (List.mem_cons_of_mem _ hx)
    have hb := h b List.mem_cons_self
    rw [valB_cons, List.length_cons, Nat.pow_succ]
    have : b * 2 ^ l.length ≤ 1 * 2 ^ l.length := Nat.mul_le_mul_right _ (by omega)
    omega
def bitsN (w n : Nat) : List Nat := (List.range w).map fun i => n / 2 ^ (w - 1 - i) % 2
theorem bitsN_len (w n : Nat) : (bitsN w n).length = w := by simp [bitsN]
theorem bitsN_bits (w n : Nat) : Bits (bitsN w n) := fun b hb => by
  obtain ⟨i, _, rfl⟩ := List.mem_map.mp hb
  exact Nat.mod_lt _ (by decide)
theorem bitsN_succ (w n : Nat) : bitsN (w + 1) n = (n / 2 ^ w % 2) :: bitsN w n := by
  unfold bitsN
  rw [List.range_succ_eq_map, List.map_cons, List.map_map]
  congr 1
  refine List.map_congr_left fun i hi => ?_
  show n / 2 ^ (w + 1 - 1 - (i + 1)) % 2 = n / 2 ^ (w - 1 - i) % 2
  rw [show w + 1 - 1 - (i + 1) = w - 1 - i by omega]
theorem valB_bitsN : ∀ (w n : Nat), valB (bitsN w n) = n % 2 ^ w
  | 0, n => by simp [bitsN, valB, Nat.mod_one]
  | w + 1, n => by
    rw [bitsN_succ, valB_cons, bitsN_len, valB_bitsN w n, Nat.pow_succ]
    have h := Nat.mod_mul (x := n) (a := 2 ^ w) (b := 2)
    rw [h, Nat.mul_comm (2 ^ w)]
    omega
theorem bitsN_mod (w n k : Nat) : bitsN w (n + k * 2 ^ w) = bitsN w n := by
  unfold bitsN
  refine List.map_congr_left fun i hi => ?_
  have hi' := List.mem_range.mp hi
  have e : 2 ^ w = 2 ^ (w - 1 - i) * 2 ^ (i + 1) := by rw [← Nat.pow_add]; congr 1; omega
  rw [e, ← Nat.mul_assoc, Nat.mul_comm k, Nat.mul_assoc, Nat.add_mul_div_left _ _ (Nat.pow_pos (by decide)), Nat.pow_succ, ← Nat.mul_assoc, Nat.mul_comm (k * 2 ^ i) 2, Nat.add_mul_mod_self_left]
theorem bitsN_valB : ∀ {l : List Nat}, Bits l → bitsN l.length (valB l) = l
  | [], _ => rfl
  | b :: l, h => by
    have hl : Bits l := fun x hx => h x (List.mem_cons_of_mem _ hx)
    have ih := bitsN_valB hl
    have hb := h b List.mem_cons_self
    have lt := valB_lt hl
    rw [List.length_cons, bitsN_succ, valB_cons]
    have e1 : (b * 2 ^ l.length + valB l) / 2 ^ l.length % 2 = b := by
      rw [Nat.mul_comm, Nat.mul_add_div (Nat.pow_pos (by decide)), Nat.div_eq_of_lt lt]
      omega
    rw [e1, Nat.add_comm, bitsN_mod, ih]
/-- a slice's worth -/
theorem slice {l : List Nat} (hl : Bits l) {a w : Nat} (h : a + w ≤ l.length) : valB ((l.drop a).take w) = valB l / 2 ^ (l.length - a - w) % 2 ^ w := by
  have e : l = l.take a ++ ((l.drop a).take w ++ (l.drop a).drop w) := by rw [List.take_append_drop, List.take_append_drop]
  have h2 : Bits ((l.drop a).take w) := fun b hb => hl b (List.mem_of_mem_drop (List.mem_of_mem_take hb))
  have h3 : Bits ((l.drop a).drop w) := fun b hb => hl b (List.mem_of_mem_drop (List.mem_of_mem_drop hb))
  have l2 : ((l.drop a).take w).length = w := by rw [List.length_take, List.length_drop]; omega
  have l3 : ((l.drop a).drop w).length = l.length - a - w := by rw [List.length_drop, List.length_drop]
  have v2 := valB_lt h2
  have v3 := valB_lt h3
  rw [l2] at v2
  rw [l3] at v3
  have ev : valB l = (valB (l.take a) * 2 ^ w + valB ((l.drop a).take w)) * 2 ^ (l.length - a - w) + valB ((l.drop a).drop w) := by
    have q : valB l = valB (l.take a ++ ((l.drop a).take w ++ (l.drop a).drop w)) := congrArg valB e
    rw [q, valB_append, valB_append, List.length_append, l2, l3, Nat.pow_add, Nat.add_mul, Nat.mul_assoc]
    omega
  rw [ev, Nat.mul_comm _ (2 ^ (l.length - a - w)), Nat.mul_add_div (Nat.pow_pos (by decide)), Nat.div_eq_of_lt v3, Nat.add_zero, Nat.mul_comm (valB (l.take a)), Nat.mul_add_mod, Nat.mod_eq_of_lt v2]
/-! ### bytes and words -/
def allBits (bs : List Nat) : List Nat := bs.flatMap (bitsN 8)
def wbits : List Nat → List Nat → List Nat
  | w :: ws, n :: ns => bitsN w n ++ wbits ws ns
  | _, _ => []
def readW : List Nat → List Nat → List Nat
  | [], _ => []
  | w :: ws, l => valB (l.take w) :: readW ws (l.drop w)
def bytesOf : Nat → List Nat → List Nat
  | 0, _ => []
  | k + 1, l => valB (l.take 8) :: bytesOf k (l.drop 8)
theorem allBits_len (bs : List Nat) : (allBits bs).length = 8 * bs.length := by
  induction bs with
  | nil => rfl
  | cons b bs ih =>
    have e : allBits (b :: bs) = bitsN 8 b ++ allBits bs := rfl
    rw [e, List.length_append, ih, bitsN_len, List.length_cons]
    omega
theorem allBits_bits (bs : List Nat) : Bits (allBits bs) := fun b hb => by
  obtain ⟨x, _, hx⟩ := List.mem_flatMap.mp hb
  exact bitsN_bits 8 x b hx
theorem wbits_bits : ∀ ws ns, Bits (wbits ws ns)
  | [], _ => fun b hb => by simp [wbits] at hb
  | _ :: _, [] => fun b hb => by simp [wbits] at hb
  | w :: ws, n :: ns => (bitsN_bits w n).app (wbits_bits ws ns)
theorem wbits_len : ∀ {ws ns : List Nat}, ns.length = ws.length → (wbits ws ns).length = ws.sum
  | [], [], _ => rfl
  | [], _ :: _, h => by simp at h
  | _ :: _, [], h => by simp at h
  | w :: ws, n :: ns, h => by
    show (bitsN w n ++ wbits ws ns).length = (w :: ws).sum
    rw [List.length_append, bitsN_len, wbits_len (by simpa using h), List.sum_cons]
theorem readW_len : ∀ (ws l : List Nat), (readW ws l).length = ws.length
  | [], _ => rfl
  | w :: ws, l => by simp [readW, readW_len ws]
theorem bytesOf_len : ∀ (k : Nat) (l : List Nat), (bytesOf k l).length = k
  | 0, _ => rfl
  | k + 1, l => by simp [bytesOf, bytesOf_len k]
/-- words that fit -/
inductive Fit : List Nat → List Nat → Prop
  | nil : Fit [] []
  | cons {w n : Nat} {ws ns : List Nat} : n < 2 ^ w → Fit ws ns → Fit (w :: ws) (n :: ns)
theorem Fit.len : ∀ {ws ns : List Nat}, Fit ws ns → ns.length = ws.length
  | _, _, .nil => rfl
  | _, _, .cons _ r => by rw [List.length_cons, List.length_cons, r.len]
theorem readW_fit : ∀ {ws l : List Nat}, Bits l → Fit ws (readW ws l)
  | [], _, _ => .nil
  | w :: ws, l, h => .cons (Nat.lt_of_lt_of_le (valB_lt fun b hb => h b (List.mem_of_mem_take hb)) (Nat.pow_le_pow_right (by decide) (List.length_take_le _ _))) (readW_fit fun b hb => h b (List.mem_of_mem_drop hb))
theorem readW_wbits : ∀ {ws ns : List Nat}, Fit ws ns → readW ws (wbits ws ns) = ns
  | _, _, .nil => rfl
  | _, _, .cons (w := w) (n := n) (ws := ws) (ns := ns) h r => by
    show valB ((bitsN w n ++ wbits ws ns).take w) :: readW ws ((bitsN w n ++ wbits ws ns).drop w) = n :: ns
    have e1 : (bitsN w n ++ wbits ws ns).take w = bitsN w n := by
      rw [List.take_append_of_le_length (by rw [bitsN_len]; exact Nat.le_refl _), List.take_of_length_le (by rw [bitsN_len]; exact Nat.le_refl _)]
    have e2 : (bitsN w n ++ wbits ws ns).drop w = wbits ws ns := by
      have q := List.drop_left (l₁ := bitsN w n) (l₂ := wbits ws ns)
      rw [bitsN_len] at q
      exact q
    rw [e1, e2, valB_bitsN, Nat.mod_eq_of_lt h, readW_wbits r]
theorem wbits_readW : ∀ {ws l : List Nat}, Bits l → l.length = ws.sum → wbits ws (readW ws l) = l
  | [], l, _, h => by
    have : l = [] := List.length_eq_zero_iff.mp (by simpa using h)
    subst this
    rfl
  | w :: ws, l, hb, h => by
    rw [List.sum_cons] at h
    show bitsN w (valB (l.take w)) ++ wbits ws (readW ws (l.drop w)) = l
    have l1 : (l.take w).length = w := by rw [List.length_take]; omega
    have q := bitsN_valB (l := l.take w) fun b hx => hb b (List.mem_of_mem_take hx)
    rw [l1] at q
    rw [q, wbits_readW (fun b hx => hb b (List.mem_of_mem_drop hx)) (by rw [List.length_drop]; omega), List.take_append_drop]
theorem bytesOf_allBits : ∀ {bs : List Nat}, (∀ b ∈ bs, b < 256) → bytesOf bs.length (allBits bs) = bs
  | [], _ => rfl
  | b :: bs, h => by
    show valB ((bitsN 8 b ++ allBits bs).take 8) :: bytesOf bs.length ((bitsN 8 b ++ allBits bs).drop 8) = b :: bs
    have e1 : (bitsN 8 b ++ allBits bs).take 8 = bitsN 8 b := by
      rw [List.take_append_of_le_length (by rw [bitsN_len]; exact Nat.le_refl _), List.take_of_length_le (by rw [bitsN_len]; exact Nat.le_refl _)]
    have e2 : (bitsN 8 b ++ allBits bs).drop 8 = allBits bs := by
      have q := List.drop_left (l₁ := bitsN 8 b) (l₂ := allBits bs)
      rw [bitsN_len] at q
      exact q
    rw [e1, e2, valB_bitsN, Nat.mod_eq_of_lt (h b List.mem_cons_self), bytesOf_allBits fun x hx => h x (List.mem_cons_of_mem _ hx)]
theorem allBits_bytesOf : ∀ {k : Nat} {l : List Nat}, Bits l → l.length = 8 * k → allBits (bytesOf k l) = l
  | 0, l, _, h => by
    have : l = [] := List.length_eq_zero_iff.mp (by simpa using h)
    subst this
    rfl
  | k + 1, l, hb, h => by
    show bitsN 8 (valB (l.take 8)) ++ allBits (bytesOf k (l.drop 8)) = l
    have l1 : (l.take 8).length = 8 := by rw [List.length_take]; omega
    have q := bitsN_valB (l := l.take 8) fun b hx => hb b (List.mem_of_mem_take hx)
    rw [l1] at q
    rw [q, allBits_bytesOf (fun b hx => hb b (List.mem_of_mem_drop hx)) (by rw [List.length_drop]; omega), List.take_append_drop]
theorem bytesOf_lt : ∀ {k : Nat} {l : List Nat}, Bits l → ∀ b ∈ bytesOf k l, b < 256
  | 0, _, _, b, h => by simp [bytesOf] at h
  | k + 1, l, hb, b, h => by
    rcases List.mem_cons.mp h with rfl | h
    · exact Nat.lt_of_lt_of_le (valB_lt fun b hx => hb b (List.mem_of_mem_take hx)) (Nat.le_trans (Nat.pow_le_pow_right (by decide) (List.length_take_le _ _)) (by decide))
    · exact bytesOf_lt (fun b hx => hb b (List.mem_of_mem_drop hx)) b h
theorem readW_get : ∀ (ws l : List Nat) (i : Nat) (w : Nat), ws[i]? = some w → (readW ws l)[i]? = some (valB ((l.drop (ws.take i).sum).take w))
  | [], _, i, _, h => by simp at h
  | w0 :: ws, l, 0, w, h => by
    simp at h
    subst h
    simp [readW]
  | w0 :: ws, l, i + 1, w, h => by
    have q := readW_get ws (l.drop w0) i w (by simpa using h)
    simp only [readW, List.getElem?_cons_succ, List.take_succ_cons, List.sum_cons]
    rw [q, List.drop_drop]
theorem bytesOf_get : ∀ (k : Nat) (l : List Nat) (i : Nat), i < k → (bytesOf k l)[i]? = some (valB ((l.drop (8 * i)).take 8))
  | 0, _, _, h => by omega
  | k + 1, l, 0, _ => by simp [bytesOf]
  | k + 1, l, i + 1, h => by
    have q := bytesOf_get k (l.drop 8) i (by omega)
    simp only [bytesOf, List.getElem?_cons_succ]
    rw [q, List.drop_drop, show 8 + 8 * i = 8 * (i + 1) by omega]
/-- bytes and words of fields of these widths that are the same bits -/
structure Rel (ws bs ns : List Nat) : Prop where
  len : 8 * bs.length = ws.sum
  b : ∀ b ∈ bs, b < 256
  fit : Fit ws ns
  rd : ns = readW ws (allBits bs)
  wr : bs = bytesOf bs.length (wbits ws ns)
theorem rel_of_bytes {ws bs : List Nat} (h : 8 * bs.length = ws.sum) (b : ∀ b ∈ bs, b < 256) : Rel ws bs (readW ws (allBits bs)) :=
  ⟨h, b, readW_fit (allBits_bits bs), rfl, by rw [wbits_readW (allBits_bits bs) (by rw [allBits_len]; exact h), bytesOf_allBits b]⟩
theorem rel_of_words {ws ns : List Nat} {k : Nat} (h : 8 * k = ws.sum) (f : Fit ws ns) : Rel ws (bytesOf k (wbits ws ns)) ns := by
  have l := wbits_len f.len
  refine ⟨by rw [bytesOf_len]; exact h, bytesOf_lt (wbits_bits ws ns), f, ?_, by rw [bytesOf_len]⟩
  rw [allBits_bytesOf (wbits_bits ws ns) (by omega), readW_wbits f]
end Bt

namespace LJ
open PySem PySem.Spec PyProof.Rows L2 GuL HG Bt
def vN (ns : List Nat) : List V := ns.map fun (n : Nat) => V.int (n : Int)
def encNs (ns : List Nat) : PyData := .tuple (ns.map fun (n : Nat) => PyData.int (n : Int))
def wds (fs : List Fld) : List Nat := fs.map (·.2)
theorem bits_wds (fs : List Fld) : bitsOf fs = (wds fs).sum := rfl
theorem dp_vN {K : PySem.W.Frag} {H : Hp} : ∀ ns : List Nat, DpAll K H (vN ns) (ns.map fun (n : Nat) => PyData.int (n : Int))
  | [] => .nil
  | n :: ns => .cons (.int n) (dp_vN ns)
theorem dp_vN_inv {K : PySem.W.Frag} {H : Hp} : ∀ {xs : List V} {ns : List Nat}, DpAll K H xs (ns.map fun (n : Nat) => PyData.int (n : Int)) → xs = vN ns
  | _, [], .nil => rfl
  | _, n :: ns, .cons h r => by rw [dp_int h, dp_vN_inv r]; rfl
theorem noL_encNs (ns : List Nat) : NoL (encNs ns) := .tup fun d hd => by
  obtain ⟨n, _, rfl⟩ := List.mem_map.mp hd
  exact .int _
theorem dp_encNs {K : PySem.W.Frag} {H : Hp} {a : Addr} {ns : List Nat} (h : H a = some (.tup (vN ns))) : Dp K H (.ref a) (encNs ns) := .tup (SqT.of h) (dp_vN ns)
theorem vN_len (ns : List Nat) : (vN ns).length = ns.length := by simp [vN]
theorem vN_get {ns : List Nat} {i n : Nat} (h : ns[i]? = some n) : (vN ns)[i]? = some (.int (n : Int)) := by
  unfold vN
  rw [List.getElem?_map, h]
  rfl
theorem vN_at {ns : List Nat} {i : Nat} {x : V} (h : (vN ns)[i]? = some x) : ∃ n, ns[i]? = some n ∧ x = .int (n : Int) := by
  unfold vN at h
  rw [List.getElem?_map] at h
  obtain ⟨n, h1, h2⟩ := Option.map_eq_some_iff.mp h
  exact ⟨n, h1, h2.symm⟩
theorem vN_snoc (ns : List Nat) (n : Nat) : vN (ns ++ [n]) = vN ns ++ [.int (n : Int)] := by simp [vN]
theorem cut_nat (xs : List V) {a b : Nat} (h1 : a ≤ b) (h2 : b ≤ xs.length) : cutV xs (some (a : Int)) (some (b : Int)) = (xs.drop a).take (b - a) := by
  unfold cutV
  rw [HT.sIx_nat, HT.sIx_nat, Nat.min_eq_left h2, Nat.min_eq_left (Nat.le_trans h1 h2)]
theorem Same.mut {H H' : Hp} {l : Addr} {o : HO} (s : Same H H') (h : H l = none) : Same H (upd H' l o) := fun b u e => by
  rw [upd_ne (ne_of_none e h)]
  exact s b u e
theorem bit_one {b k : Nat} : Builtin.bitAnd ((b : Int) / 2 ^ k) 1 = ((b / 2 ^ k % 2 : Nat) : Int) := by
  have h := Bits.bitAnd_mask (x := ((b : Int) / 2 ^ k)) 1 (Int.ediv_nonneg (by omega) (Int.le_of_lt (Int.pow_pos (by decide))))
  have e : (2 : Int) ^ 1 - 1 = 1 := by decide
  rw [e] at h
  rw [h]
  norm_cast
theorem rg8 : ∀ n : Nat, n ≤ 16 → RgC 0 (8 * (n : Int)) 8 n := by
  unfold RgC
  decide +kernel
theorem take_bit {l : List Nat} {j x : Nat} (h : l[j]? = some x) : valB (l.take (j + 1)) = 2 * valB (l.take j) + x := by
  rw [List.take_add_one, h]
  exact valB_snoc _ _
theorem bitsN_at {w n j : Nat} (h : j < w) : (bitsN w n)[j]? = some (n / 2 ^ (w - 1 - j) % 2) := by
  unfold bitsN
  rw [List.getElem?_map, List.getElem?_range h]
  rfl
theorem allBits_snoc (bs : List Nat) (b : Nat) : allBits (bs ++ [b]) = allBits bs ++ bitsN 8 b := by
  unfold allBits
  rw [List.flatMap_append]
  simp
theorem wbits_snoc : ∀ {ws ns : List Nat} {w n : Nat}, ns.length = ws.length → wbits (ws ++ [w]) (ns ++ [n]) = wbits ws ns ++ bitsN w n
  | [], [], w, n, _ => by simp [wbits]
  | [], _ :: _, _, _, h => by simp at h
  | _ :: _, [], _, _, h => by simp at h
  | w0 :: ws, n0 :: ns, w, n, h => by
    simp only [List.cons_append, wbits]
    rw [wbits_snoc (by simpa using h), List.append_assoc]
theorem sum_take_succ {ws : List Nat} {i w : Nat} (h : ws[i]? = some w) : (ws.take (i + 1)).sum = (ws.take i).sum + w := by
  rw [List.take_add_one, h, List.sum_append]
  simp
theorem sum_take_le (ws : List Nat) (i : Nat) : (ws.take i).sum ≤ ws.sum := by
  have h := congrArg List.sum (List.take_append_drop i ws)
  rw [List.sum_append] at h
  omega
end LJ

namespace LJ
open PySem PySem.Spec PyProof.Rows L2 GuL HG Bt
abbrev sSize : Stmt := topS 74
abbrev sRead : Stmt := topS 75
abbrev sWritten : Stmt := topS 76
abbrev sBytes : Stmt := topS 77
abbrev sWords : Stmt := topS 78
section
variable {P : Program} {w : World} {K : PySem.W.Frag} {mg : Str → Option Value} {base : Heap}
/-! ### reading -/
theorem take_all (l : List Nat) : l.take (vN l).length = l := List.take_of_length_le (by rw [vN_len]; exact Nat.le_refl _)
theorem scRead : FnScope ["_law_fields_here", "_law_taken", "_law_bits", "_law_found", "_law_at", "_law_byte", "_law_k", "_law_field", "_law_width_here", "_law_word_here", "_law_bit"] ["_law_fields_here", "_law_taken"] (defScope sRead) := ⟨rfl, rfl, rfl, by decide +kernel, rfl, by decide +kernel, by decide +kernel⟩
def spRead (K : PySem.W.Frag) : Sp := fun vs H Q _ => ∃ (v u : V) (fs : List Fld) (bs : List Nat), vs = [v, u] ∧ Dp K H v (encFs fs) ∧ Dp K H u (encNs bs) ∧ fs.length ≤ 12 ∧ bs.length ≤ 16 ∧ 8 * bs.length = (wds fs).sum ∧
  ∀ H' p, Same H H' → H' p = some (.tup (vN (readW (wds fs) (allBits bs)))) → Q (.ref p) H'
theorem ok_read {f : Addr} {fd : FuncData} (F : Fun K "_law_read" "_law_read" sRead f fd) (B : Blt mg) : FnOk P w K mg base CX0 1 f fd ["_law_fields_here", "_law_taken"] (spRead K) := by
  refine F.ok scRead (fun vs H Q E h => ?_) (fun cdv A outer s H vs Q E hr h => ?_)
  · obtain ⟨v, u, fs, bs, rfl, _⟩ := h
    rfl
  · obtain ⟨v, u, fs, bs, rfl, dv, du, l12, l16, hsum, k⟩ := h
    refine ⟨_, pss_cons (ps_par3 (i := 2) (j := 3) (l := 4) (by rfl) scRead.nd rfl rfl rfl (by decide) (by decide) (by decide) rfl rfl rfl (pa_cons (pe_lst pa_nil) (pa_cons (pe_lst pa_nil) (pa_cons pe_int pa_nil))) (by rfl))
      (pss_cons (ps_for PassesOwn.never rfl (pi_tup (pv 1)) (pg_name (i := 5) scRead.nd rfl (.inl rfl)) (pss_one (ps_for PassesOwn.never rfl (pi_range3 rfl B.range (pa_cons pe_int (pa_cons (pe_un un_neg pe_int) (pa_cons (pe_un un_neg pe_int) pa_nil)))) (pg_name (i := 6) scRead.nd rfl (.inl rfl))
        (pss_one (ps_expr (pe_bm PySem.F.plainAttrs_list PySem.F.slot_list_append PySem.F.type_list_append mt_append (pv 2) (pa_cons (pe_op op_and (pe_op op_shr (pv 5) (pv 6)) pe_int) pa_nil)))))))
      (pss_cons (ps_for PassesOwn.never rfl (pi_tup (pv 0)) (pg_tup rfl (pgs_cons (pg_name (i := 7) scRead.nd rfl (.inl rfl)) (pgs_cons (pg_name (i := 8) scRead.nd rfl (.inl rfl)) pgs_nil)))
        (pss_cons (ps_set (i := 9) scRead.nd rfl (.inl rfl) pe_int)
        (pss_cons (ps_for PassesOwn.never rfl (pi_list (pe_slice sl_list (pv 2) (po_some (pv 4)) (po_some (pe_op op_add (pv 4) (pv 8))))) (pg_name (i := 10) scRead.nd rfl (.inl rfl)) (pss_one (ps_set (i := 9) scRead.nd rfl (.inl rfl) (pe_op op_add (pe_op op_mul pe_int (pv 9)) (pv 10)))))
        (pss_cons (ps_expr (pe_bm PySem.F.plainAttrs_list PySem.F.slot_list_append PySem.F.type_list_append mt_append (pv 3) (pa_cons (pv 9) pa_nil)))
        (pss_one (ps_set (i := 4) scRead.nd rfl (.inl rfl) (pe_op op_add (pv 4) (pv 8))))))))
      (pss_one (ps_ret (pe_callTy call_tuple_of (by rfl) B.tuple (by decide +kernel) (pa_cons (pv 3) pa_nil)))))), ?_⟩
    refine ⟨Nat.zero_le _, fun lb hlb => ⟨Nat.zero_le _, fun lf hlf => ⟨_, _, _, rfl, ?_⟩⟩⟩
    have nbf : lb ≠ lf := fun z => by
      rw [← z, upd_same] at hlf
      cases hlf
    have hlf0 : H lf = none := by
      rw [upd_ne (Ne.symm nbf)] at hlf
      exact hlf
    have s0 := (same_new (o := .lst []) hlb).trans (same_new (o := .lst []) hlf)
    obtain ⟨ta, txs, rfl, hta, hda⟩ := dp_tup du
    obtain rfl := dp_vN_inv hda
    obtain ⟨fa, fxs, rfl, hfa, hfd⟩ := dp_tup dv
    refine ⟨_, rfl, ta, rfl, ⟨_, sameT s0 hta⟩, for_tup (K := K) (a := ta) (xs := vN bs) (fun i σ H' => ∃ v5 v6 : Option V, σ = [some (.ref fa), some (.ref ta), some (.ref lb), some (.ref lf), some (.int 0), v5, v6, none, none, none, none] ∧ Same H H' ∧ H' lb = some (.lst (vN (allBits (bs.take i)))) ∧ H' lf = some (.lst []))
      ⟨_, _, rfl, s0, by rw [upd_ne nbf]; exact upd_same, upd_same⟩ (fun i σ H' _ ⟨_, _, _, q, _⟩ => sameT q hta) ?_ ?_⟩
    · rintro i x σ H1 hi ⟨v5, v6, rfl, s1, fb, ff⟩
      obtain ⟨bn, hbn, rfl⟩ := vN_at hi
      have i16 : i < 16 := by
        have := (List.getElem?_eq_some_iff.mp hbn).1
        omega
      refine ⟨1, rfl, 1, rfl, 7, -1, -1, 8, rfl, RgC.neg (by decide) (by decide) (by decide) (by decide), for_rangeC (lo := 7) (c := -1) (n := 8) (fun j σ H' => ∃ v6 : Option V, σ = [some (.ref fa), some (.ref ta), some (.ref lb), some (.ref lf), some (.int 0), some (.int (bn : Int)), v6, none, none, none, none] ∧ Same H H' ∧
        H' lb = some (.lst (vN (allBits (bs.take i) ++ (bitsN 8 bn).take j))) ∧ H' lf = some (.lst [])) ⟨_, rfl, s1, by rw [List.take_zero, List.append_nil]; exact fb, ff⟩ ?_ ?_⟩
      · rintro j σ H2 hj ⟨v6, rfl, s2, fb2, ff2⟩
        have ej : (7 : Int) + (j : Nat) * -1 = ((8 - 1 - j : Nat) : Int) := by omega
        refine ⟨_, rfl, .inl ⟨rfl, _, SqL.of fb2⟩, _, rfl, _, rfl, _, _, rfl, rfl, by omega, _, _, rfl, rfl, lb, _, _, rfl, rfl, fb2, ?_, _, rfl, Same.mut s2 hlb, ?_, by rw [upd_ne (Ne.symm nbf)]; exact ff2⟩
        · rw [vN_len, List.length_append, allBits_len]
          have h1 := List.length_take_le i bs
          have h2 := List.length_take_le j (bitsN 8 bn)
          exact small1000 (by omega)
        · rw [upd_same, List.take_add_one, bitsN_at hj, ← List.append_assoc]
          show _ = some (HO.lst (vN (_ ++ [_])))
          rw [vN_snoc, ej, Int.toNat_natCast]
          show some (HO.lst (_ ++ [V.int (Builtin.bitAnd ((bn : Int) / 2 ^ (8 - 1 - j)) 1)])) = _
          rw [bit_one]
      · rintro σ H2 ⟨v6, rfl, s2, fb2, ff2⟩
        refine ⟨_, _, rfl, s2, ?_, ff2⟩
        rw [List.take_add_one, hbn]
        show _ = some (HO.lst (vN (allBits (bs.take i ++ [bn]))))
        rw [allBits_snoc]
        have e8 : (bitsN 8 bn).take 8 = bitsN 8 bn := List.take_of_length_le (by rw [bitsN_len]; exact Nat.le_refl _)
        rw [e8] at fb2
        exact fb2
    · rintro σ H1 ⟨v5, v6, rfl, s1, fb, ff⟩
      rw [List.take_of_length_le (by rw [vN_len]; exact Nat.le_refl _)] at fb
      have dl := dpAll_len hfd
      rw [List.length_map] at dl
      refine ⟨_, rfl, fa, rfl, ⟨_, sameT s1 hfa⟩, for_tup (K := K) (a := fa) (xs := fxs) (fun i σ H' => ∃ v5 v6 v7 v8 v9 v10 : Option V, σ = [some (.ref fa), some (.ref ta), some (.ref lb), some (.ref lf), some (.int ((((wds fs).take i).sum : Nat) : Int)), v5, v6, v7, v8, v9, v10] ∧ Same H H' ∧ H' lb = some (.lst (vN (allBits bs))) ∧
        H' lf = some (.lst (vN ((readW (wds fs) (allBits bs)).take i)))) ⟨_, _, _, _, _, _, rfl, s1, fb, ff⟩ (fun i σ H' _ ⟨_, _, _, _, _, _, _, q, _⟩ => sameT q hfa) ?_ ?_⟩
      · rintro i x σ H2 hi ⟨v5, v6, v7, v8, v9, v10, rfl, s2, fb2, ff2⟩
        obtain ⟨d, hd1, hd2⟩ := dpAll_at hfd hi
        rw [List.getElem?_map] at hd1
        obtain ⟨fl, hfl, rfl⟩ := Option.map_eq_some_iff.mp hd1
        obtain ⟨a, y, rfl, h1, h2⟩ := pair_dp (dpSame s2 hd2)
        obtain rfl := dp_int h2
        have hw : (wds fs)[i]? = some fl.2 := by
          unfold wds
          rw [List.getElem?_map, hfl]
          rfl
        have hle : ((wds fs).take i).sum + fl.2 ≤ (allBits bs).length := by
          have q1 := sum_take_succ hw
          have q2 := sum_take_le (wds fs) (i + 1)
          rw [allBits_len]
          omega
        have i12 : i < 12 := by
          have := (List.getElem?_eq_some_iff.mp hfl).1
          omega
        refine ⟨a, _, rfl, h1, rfl, _, _, rfl, _, _, rfl, rfl, ?_⟩
        refine ⟨_, rfl, _, rfl, _, rfl, _, rfl, _, rfl, _, _, rfl, rfl, _, rfl, lb, _, rfl, SqL.of fb2, fun c hc => ?_⟩
        have ecut : cutV (vN (allBits bs)) (some ((((wds fs).take i).sum : Nat) : Int)) (some (((((wds fs).take i).sum : Nat) : Int) + (fl.2 : Int))) = vN (((allBits bs).drop ((wds fs).take i).sum).take fl.2) := by
          have e : ((((wds fs).take i).sum : Nat) : Int) + (fl.2 : Int) = ((((wds fs).take i).sum + fl.2 : Nat) : Int) := by omega
          rw [e, cut_nat _ (Nat.le_add_right _ _) (by rw [vN_len]; exact hle), Nat.add_sub_cancel_left]
          unfold vN
          rw [List.map_take, List.map_drop]
        rw [ecut]
        have sc := same_new (o := .lst (vN (((allBits bs).drop ((wds fs).take i).sum).take fl.2))) hc
        refine ⟨c, rfl, ⟨_, SqL.of upd_same⟩, for_list (K := K) (a := c) (xs := vN (((allBits bs).drop ((wds fs).take i).sum).take fl.2)) (fun j σ H' => ∃ v10 : Option V, σ = [some (.ref fa), some (.ref ta), some (.ref lb), some (.ref lf), some (.int ((((wds fs).take i).sum : Nat) : Int)), v5, v6, some (.str fl.1), some (.int (fl.2 : Int)), some (.int ((valB ((((allBits bs).drop ((wds fs).take i).sum).take fl.2).take j) : Nat) : Int)), v10] ∧
          H' = upd H2 c (.lst (vN (((allBits bs).drop ((wds fs).take i).sum).take fl.2)))) ⟨_, rfl, rfl⟩ (fun j σ H' _ ⟨_, _, q⟩ => SqL.of (by rw [q]; exact upd_same)) ?_ ?_⟩
        · rintro j x σ H3 hj ⟨v10, rfl, rfl⟩
          obtain ⟨bt, hbt, rfl⟩ := vN_at hj
          refine ⟨_, rfl, _, _, rfl, rfl, .inl ⟨by decide, by decide⟩, _, rfl, _, _, rfl, rfl, some (.int (bt : Int)), ?_, rfl⟩
          rw [take_bit hbt]
          show [_, _, _, _, _, _, _, _, _, some (V.int (2 * ((valB _ : Nat) : Int) + (bt : Int))), _] = [_, _, _, _, _, _, _, _, _, some (V.int ((2 * valB _ + bt : Nat) : Int)), _]
          rw [Int.natCast_add, Int.natCast_mul]
          rfl
        · rintro σ H3 ⟨v10, rfl, rfl⟩
          rw [take_all]
          have s3 := s2.trans sc
          refine ⟨_, rfl, .inl ⟨rfl, _, SqL.of (sc _ _ ff2)⟩, _, rfl, lf, _, _, rfl, rfl, sc _ _ ff2, ?_, ?_⟩
          · rw [vN_len]
            exact small1000 (Nat.le_trans (List.length_take_le _ _) (by omega))
          · refine ⟨_, rfl, _, rfl, _, _, rfl, rfl, v5, v6, some (.str fl.1), some (.int (fl.2 : Int)), some (.int ((valB (((allBits bs).drop ((wds fs).take i).sum).take fl.2) : Nat) : Int)), v10, ?_, Same.mut s3 hlf0, by rw [upd_ne nbf]; exact sc _ _ fb2, ?_⟩
            · rw [sum_take_succ hw]
              rfl
            · rw [upd_same, List.take_add_one, readW_get _ _ i fl.2 hw, Option.toList_some, vN_snoc]
      · rintro σ H2 ⟨v5, v6, v7, v8, v9, v10, rfl, s2, fb2, ff2⟩
        refine ⟨_, rfl, lf, _, rfl, .inl ⟨SqL.of ff2, fun p hp => ?_⟩⟩
        have e : (readW (wds fs) (allBits bs)).take fxs.length = readW (wds fs) (allBits bs) := List.take_of_length_le (by rw [readW_len, dl]; unfold wds; rw [List.length_map]; exact Nat.le_refl _)
        show Q (.ref p) (upd H2 p (.tup (vN ((readW (wds fs) (allBits bs)).take fxs.length))))
        rw [e]
        exact k _ p (s2.trans (same_new hp)) upd_same
end
end LJ

namespace LJ
open PySem PySem.Spec PyProof.Rows L2 GuL HG Bt
section
variable {P : Program} {w : World} {K : PySem.W.Frag} {mg : Str → Option Value} {base : Heap}
/-! ### writing -/
theorem scWritten : FnScope ["_law_fields_here", "_law_words_here", "_law_bits", "_law_found", "_law_field", "_law_width_here", "_law_word_here", "_law_k", "_law_at", "_law_byte", "_law_bit"] ["_law_fields_here", "_law_words_here"] (defScope sWritten) := ⟨rfl, rfl, rfl, by decide +kernel, rfl, by decide +kernel, by decide +kernel⟩
def spWritten (K : PySem.W.Frag) : Sp := fun vs H Q _ => ∃ (v u : V) (fs : List Fld) (ns : List Nat) (k : Nat), vs = [v, u] ∧ Dp K H v (encFs fs) ∧ Dp K H u (encNs ns) ∧ fs.length ≤ 12 ∧ ns.length = fs.length ∧ 8 * k = (wds fs).sum ∧ k ≤ 16 ∧
  ∀ H' p, Same H H' → H' p = some (.tup (vN (bytesOf k (wbits (wds fs) ns)))) → Q (.ref p) H'
theorem wds_len (fs : List Fld) : (wds fs).length = fs.length := by unfold wds; rw [List.length_map]
theorem wds_at {fs : List Fld} {i : Nat} {fl : Fld} (h : fs[i]? = some fl) : (wds fs)[i]? = some fl.2 := by
  unfold wds
  rw [List.getElem?_map, h]
  rfl
theorem rgDown {w : Nat} (h : w ≤ 1000) : RgC ((w : Int) - 1) (-1) (-1) w := by
  have q := RgC.neg (i := (w : Int) - 1) (j := -1) (by omega) (by omega) (by decide) (by decide)
  have e : ((w : Int) - 1 - -1).toNat = w := by omega
  rw [e] at q
  exact q
theorem cut8 {l : List Nat} {i : Nat} (h : 8 * i + 8 ≤ l.length) : cutV (vN l) (some ((0 : Int) + (i : Nat) * 8)) (some ((0 : Int) + (i : Nat) * 8 + 8)) = vN ((l.drop (8 * i)).take 8) := by
  have e1 : (0 : Int) + (i : Nat) * 8 = ((8 * i : Nat) : Int) := by omega
  have e2 : ((8 * i : Nat) : Int) + 8 = ((8 * i + 8 : Nat) : Int) := by omega
  rw [e1, e2, cut_nat _ (Nat.le_add_right _ _) (by rw [vN_len]; exact h), Nat.add_sub_cancel_left]
  unfold vN
  rw [List.map_take, List.map_drop]
theorem ok_written {f : Addr} {fd : FuncData} (F : Fun K "_law_written" "_law_written" sWritten f fd) (B : Blt mg) : FnOk P w K mg base CX0 1 f fd ["_law_fields_here", "_law_words_here"] (spWritten K) := by
  refine F.ok scWritten (fun vs H Q E h => ?_) (fun cdv A outer s H vs Q E hr h => ?_)
  · obtain ⟨v, u, fs, ns, k, rfl, _⟩ := h
    rfl
  · obtain ⟨v, u, fs, ns, k, rfl, dv, du, l12, lns, hsum, k16, kk⟩ := h
    refine ⟨_, pss_cons (ps_par (i := 2) (j := 3) (by rfl) scWritten.nd rfl rfl (by decide) rfl rfl (pa_cons (pe_lst pa_nil) (pa_cons (pe_lst pa_nil) pa_nil)) (by rfl))
      (pss_cons (ps_for PassesOwn.never rfl (RZ.pi_zipA rfl B.zip (pa_cons (pv 0) (pa_cons (pv 1) pa_nil))) (pg_tup rfl (pgs_cons (pg_tup rfl (pgs_cons (pg_name (i := 4) scWritten.nd rfl (.inl rfl)) (pgs_cons (pg_name (i := 5) scWritten.nd rfl (.inl rfl)) pgs_nil))) (pgs_cons (pg_name (i := 6) scWritten.nd rfl (.inl rfl)) pgs_nil)))
        (pss_one (ps_for PassesOwn.never rfl (pi_range3 rfl B.range (pa_cons (pe_op op_sub (pv 5) pe_int) (pa_cons (pe_un un_neg pe_int) (pa_cons (pe_un un_neg pe_int) pa_nil)))) (pg_name (i := 7) scWritten.nd rfl (.inl rfl))
          (pss_one (ps_expr (pe_bm PySem.F.plainAttrs_list PySem.F.slot_list_append PySem.F.type_list_append mt_append (pv 2) (pa_cons (pe_op op_and (pe_op op_shr (pv 6) (pv 7)) pe_int) pa_nil)))))))
      (pss_cons (ps_for PassesOwn.never rfl (pi_range3 rfl B.range (pa_cons pe_int (pa_cons (pe_callB call_len_seq (by rfl) B.len PySem.boot_len (pa_cons (pv 2) pa_nil)) (pa_cons pe_int pa_nil)))) (pg_name (i := 8) scWritten.nd rfl (.inl rfl))
        (pss_cons (ps_set (i := 9) scWritten.nd rfl (.inl rfl) pe_int)
        (pss_cons (ps_for PassesOwn.never rfl (pi_list (pe_slice sl_list (pv 2) (po_some (pv 8)) (po_some (pe_op op_add (pv 8) pe_int)))) (pg_name (i := 10) scWritten.nd rfl (.inl rfl)) (pss_one (ps_set (i := 9) scWritten.nd rfl (.inl rfl) (pe_op op_add (pe_op op_mul pe_int (pv 9)) (pv 10)))))
        (pss_one (ps_expr (pe_bm PySem.F.plainAttrs_list PySem.F.slot_list_append PySem.F.type_list_append mt_append (pv 3) (pa_cons (pv 9) pa_nil)))))))
      (pss_one (ps_ret (pe_callTy call_tuple_of (by rfl) B.tuple (by decide +kernel) (pa_cons (pv 3) pa_nil)))))), ?_⟩
    refine ⟨Nat.zero_le _, fun lb hlb => ⟨Nat.zero_le _, fun lf hlf => ⟨_, _, rfl, ?_⟩⟩⟩
    have nbf : lb ≠ lf := fun z => by
      rw [← z, upd_same] at hlf
      cases hlf
    have hlf0 : H lf = none := by
      rw [upd_ne (Ne.symm nbf)] at hlf
      exact hlf
    have s0 := (same_new (o := .lst []) hlb).trans (same_new (o := .lst []) hlf)
    obtain ⟨ta, txs, rfl, hta, hda⟩ := dp_tup du
    obtain rfl := dp_vN_inv hda
    obtain ⟨fa, fxs, rfl, hfa, hfd⟩ := dp_tup dv
    have dl := dpAll_len hfd
    rw [List.length_map] at dl
    have lw := wds_len fs
    refine ⟨_, rfl, _, rfl, fa, ta, fxs, vN ns, rfl, .inr ⟨sameT s0 hfa, sameT s0 hta, ?_⟩⟩
    refine RZ.for_zipT (K := K) (a := fa) (b := ta) (xs := fxs) (ys := vN ns) (by rw [vN_len, dl, lns]) (fun i σ H' => ∃ v4 v5 v6 v7 : Option V, σ = [some (.ref fa), some (.ref ta), some (.ref lb), some (.ref lf), v4, v5, v6, v7, none, none, none] ∧ Same H H' ∧ H' lb = some (.lst (vN (wbits ((wds fs).take i) (ns.take i)))) ∧ H' lf = some (.lst []))
      ⟨_, _, _, _, rfl, s0, by rw [upd_ne nbf]; exact upd_same, upd_same⟩ (fun i σ H' ⟨_, _, _, _, _, q, _⟩ => ⟨sameT q hfa, sameT q hta⟩) ?_ ?_
    · rintro i x y T σ H1 hi hj' ⟨v4, v5, v6, v7, rfl, s1, fb, ff⟩ hT
      obtain ⟨d, hd1, hd2⟩ := dpAll_at hfd hi
      rw [List.getElem?_map] at hd1
      obtain ⟨fl, hfl, rfl⟩ := Option.map_eq_some_iff.mp hd1
      obtain ⟨a, y', rfl, h1, h2⟩ := pair_dp (dpSame s1 hd2)
      obtain rfl := dp_int h2
      obtain ⟨n, hn, rfl⟩ := vN_at hj'
      have hw := wds_at hfl
      have i12 : i < 12 := by
        have := (List.getElem?_eq_some_iff.mp hfl).1
        omega
      have w128 : ((wds fs).take i).sum + fl.2 ≤ 128 := by
        have q1 := sum_take_succ hw
        have q2 := sum_take_le (wds fs) (i + 1)
        omega
      have lwb : (wbits ((wds fs).take i) (ns.take i)).length = ((wds fs).take i).sum := wbits_len (by rw [List.length_take, List.length_take, lns, lw])
      have sT := same_new (o := .tup [.ref a, .int (n : Int)]) hT
      have nTb : lb ≠ T := fun z => by
        rw [← z, fb] at hT
        cases hT
      refine ⟨T, _, rfl, SqT.of upd_same, rfl, _, _, rfl, a, _, rfl, sameT sT h1, rfl, _, _, rfl, _, _, rfl, rfl, _, _, rfl, rfl, ?_⟩
      refine ⟨_, rfl, _, _, rfl, rfl, 1, rfl, 1, rfl, (fl.2 : Int) - 1, -1, -1, fl.2, rfl, rgDown (by omega), for_rangeC (lo := (fl.2 : Int) - 1) (c := -1) (n := fl.2) (fun j σ H' => ∃ v7 : Option V, σ = [some (.ref fa), some (.ref ta), some (.ref lb), some (.ref lf), some (.str fl.1), some (.int (fl.2 : Int)), some (.int (n : Int)), v7, none, none, none] ∧ Same H H' ∧
        H' lb = some (.lst (vN (wbits ((wds fs).take i) (ns.take i) ++ (bitsN fl.2 n).take j))) ∧ H' lf = some (.lst [])) ⟨_, rfl, s1.trans sT, by rw [List.take_zero, List.append_nil]; exact sT _ _ fb, sT _ _ ff⟩ ?_ ?_⟩
      · rintro j σ H2 hj ⟨v7, rfl, s2, fb2, ff2⟩
        have ej : (fl.2 : Int) - 1 + (j : Nat) * -1 = ((fl.2 - 1 - j : Nat) : Int) := by omega
        refine ⟨_, rfl, .inl ⟨rfl, _, SqL.of fb2⟩, _, rfl, _, rfl, _, _, rfl, rfl, by omega, _, _, rfl, rfl, lb, _, _, rfl, rfl, fb2, ?_, _, rfl, Same.mut s2 hlb, ?_, by rw [upd_ne (Ne.symm nbf)]; exact ff2⟩
        · rw [vN_len, List.length_append, lwb]
          have h2 := List.length_take_le j (bitsN fl.2 n)
          exact small1000 (by omega)
        · rw [upd_same, List.take_add_one, bitsN_at hj, ← List.append_assoc]
          show _ = some (HO.lst (vN (_ ++ [_])))
          rw [vN_snoc, ej, Int.toNat_natCast]
          show some (HO.lst (_ ++ [V.int (Builtin.bitAnd ((n : Int) / 2 ^ (fl.2 - 1 - j)) 1)])) = _
          rw [bit_one]
      · rintro σ H2 ⟨v7, rfl, s2, fb2, ff2⟩
        refine ⟨_, _, _, _, rfl, s2, ?_, ff2⟩
        rw [List.take_add_one, List.take_add_one, hw, hn]
        show _ = some (HO.lst (vN (wbits (_ ++ [_]) (_ ++ [_]))))
        rw [wbits_snoc (by rw [List.length_take, List.length_take, lns, lw])]
        have e8 : (bitsN fl.2 n).take fl.2 = bitsN fl.2 n := List.take_of_length_le (by rw [bitsN_len]; exact Nat.le_refl _)
        rw [e8] at fb2
        exact fb2
    · rintro σ H1 ⟨v4, v5, v6, v7, rfl, s1, fb, ff⟩
      rw [dl, List.take_of_length_le (by rw [lw]; exact Nat.le_refl _), List.take_of_length_le (by rw [lns]; exact Nat.le_refl _)] at fb
      have lwb : (wbits (wds fs) ns).length = 8 * k := by rw [wbits_len (by rw [lns, lw]), hsum]
      obtain ⟨l, hl⟩ : ∃ l, wbits (wds fs) ns = l := ⟨_, rfl⟩
      rw [hl] at fb lwb kk
      have e8 : ((vN l).length : Int) = 8 * (k : Int) := by
        rw [vN_len, lwb]
        omega
      refine ⟨_, rfl, lb, _, rfl, .inl (SqL.of fb), 0, _, 8, k, rfl, by rw [e8]; exact rg8 k k16, for_rangeC (lo := 0) (c := 8) (n := k) (fun i σ H' => ∃ v4 v5 v6 v7 v8 v9 v10 : Option V, σ = [some (.ref fa), some (.ref ta), some (.ref lb), some (.ref lf), v4, v5, v6, v7, v8, v9, v10] ∧ Same H H' ∧ H' lb = some (.lst (vN l)) ∧
        H' lf = some (.lst (vN ((bytesOf k l).take i)))) ⟨_, _, _, _, _, _, _, rfl, s1, fb, ff⟩ ?_ ?_⟩
      · rintro i σ H2 hi ⟨v4, v5, v6, v7, v8, v9, v10, rfl, s2, fb2, ff2⟩
        refine ⟨_, rfl, _, rfl, _, rfl, _, rfl, _, _, rfl, rfl, _, rfl, lb, _, rfl, SqL.of fb2, fun c hc => ?_⟩
        rw [cut8 (by omega)]
        have sc := same_new (o := .lst (vN ((l.drop (8 * i)).take 8))) hc
        refine ⟨c, rfl, ⟨_, SqL.of upd_same⟩, for_list (K := K) (a := c) (xs := vN ((l.drop (8 * i)).take 8)) (fun j σ H' => ∃ v10 : Option V, σ = [some (.ref fa), some (.ref ta), some (.ref lb), some (.ref lf), v4, v5, v6, v7, some (.int ((0 : Int) + (i : Nat) * 8)), some (.int ((valB (((l.drop (8 * i)).take 8).take j) : Nat) : Int)), v10] ∧
          H' = upd H2 c (.lst (vN ((l.drop (8 * i)).take 8)))) ⟨_, rfl, rfl⟩ (fun j σ H' _ ⟨_, _, q⟩ => SqL.of (by rw [q]; exact upd_same)) ?_ ?_⟩
        · rintro j x σ H3 hj ⟨v10, rfl, rfl⟩
          obtain ⟨bt, hbt, rfl⟩ := vN_at hj
          refine ⟨_, rfl, _, _, rfl, rfl, .inl ⟨by decide, by decide⟩, _, rfl, _, _, rfl, rfl, some (.int (bt : Int)), ?_, rfl⟩
          rw [take_bit hbt]
          show [_, _, _, _, _, _, _, _, _, some (V.int (2 * ((valB _ : Nat) : Int) + (bt : Int))), _] = [_, _, _, _, _, _, _, _, _, some (V.int ((2 * valB _ + bt : Nat) : Int)), _]
          rw [Int.natCast_add, Int.natCast_mul]
          rfl
        · rintro σ H3 ⟨v10, rfl, rfl⟩
          rw [take_all]
          have s3 := s2.trans sc
          refine ⟨_, rfl, .inl ⟨rfl, _, SqL.of (sc _ _ ff2)⟩, _, rfl, lf, _, _, rfl, rfl, sc _ _ ff2, ?_, ?_⟩
          · rw [vN_len]
            exact small1000 (Nat.le_trans (List.length_take_le _ _) (by omega))
          · refine ⟨v4, v5, v6, v7, some (.int ((0 : Int) + (i : Nat) * 8)), some (.int ((valB ((l.drop (8 * i)).take 8) : Nat) : Int)), v10, rfl, Same.mut s3 hlf0, by rw [upd_ne nbf]; exact sc _ _ fb2, ?_⟩
            rw [upd_same, List.take_add_one (l := bytesOf k l) (i := i), bytesOf_get k l i hi, Option.toList_some, vN_snoc]
      · rintro σ H2 ⟨v4, v5, v6, v7, v8, v9, v10, rfl, s2, fb2, ff2⟩
        refine ⟨_, rfl, lf, _, rfl, .inl ⟨SqL.of ff2, fun p hp => ?_⟩⟩
        have e : (bytesOf k l).take k = bytesOf k l := List.take_of_length_le (by rw [bytesOf_len]; exact Nat.le_refl _)
        show Q (.ref p) (upd H2 p (.tup (vN ((bytesOf k l).take k))))
        rw [e]
        exact kk _ p (s2.trans (same_new hp)) upd_same
end
end LJ

namespace LJ
open PySem PySem.Spec PyProof.Rows L2 GuL HG Bt
section
variable {P : Program} {w : World} {K : PySem.W.Frag} {mg : Str → Option Value} {base : Heap}
theorem sqExb {b a : Addr} {H H' : Hp} {xs0 xs : List V} (hb : H b = some (.lst xs0)) (e : Exb b H H') (h : SqT K H a xs) : SqT K H' a xs := by
  rcases h with (h | ⟨o, h⟩) | h
  · exact .inl (.inl (e _ _ (fun z => by rw [z, hb] at h; cases h) h))
  · exact .inl (.inr ⟨o, e _ _ (fun z => by rw [z, hb] at h; cases h) h⟩)
  · exact .inr h
/-- a list comprehension over fields -/
theorem lcPairs {K : PySem.W.Frag} {σ : L2.St} {H : Hp} {Q : VK} {j k : Nat} {tl te : TE} {fa : Addr} {fxs : List V} {fs : List Fld} {val : Fld → Int} (ht : ∀ R : VK, R (.ref fa) H → tl σ H R) (hfa : SqT K H fa fxs) (hd : DpAll K H fxs (fs.map encF)) (l12 : fs.length ≤ 12)
    (hw : ∀ x y, wipe (((wipe σ [j, k]).set j (some x)).set k (some y)) [j, k] = wipe σ [j, k])
    (hv : ∀ (fl : Fld) (H' : Hp) (R : VK), fl ∈ fs → R (.int (val fl)) H' → te (((wipe σ [j, k]).set j (some (.str fl.1))).set k (some (.int (fl.2 : Int)))) H' R)
    (q : ∀ D H', Same H H' → H D = none → H' D = some (.lst ((fs.map val).map V.int)) → Q (.ref D) H') :
    tLc (iTup K tl) (gTup K 2 (gCons (gName j) (gCons (gName k) gNil))) tYes te [j, k] σ H Q := by
  refine ht _ ⟨fa, rfl, ⟨_, hfa⟩, fun D hD => ?_⟩
  refine lc_tup (K := K) (a := fa) (xs := fxs) (fun n H' => Same H H' ∧ H' D = some (.lst (((fs.take n).map val).map V.int))) ⟨same_new hD, upd_same⟩ (fun n H' _ p => sameT p.1 hfa) ?_ ?_
  · rintro n x H' hn ⟨s, f⟩
    obtain ⟨d, hd1, hd2⟩ := dpAll_at hd hn
    rw [List.getElem?_map] at hd1
    obtain ⟨fl, hfl, rfl⟩ := Option.map_eq_some_iff.mp hd1
    obtain ⟨a, y, rfl, h1, h2⟩ := pair_dp (dpSame s hd2)
    obtain rfl := dp_int h2
    have n12 : n < 12 := by
      have := (List.getElem?_eq_some_iff.mp hfl).1
      omega
    refine ⟨a, _, rfl, h1, rfl, _, _, rfl, _, _, rfl, rfl, hw _ _, hv fl H' _ (List.mem_of_getElem? hfl) ⟨_, f, ?_, fun b u hb => ?_, ?_⟩⟩
    · rw [List.length_map, List.length_map]
      exact small1000 (Nat.le_trans (List.length_take_le _ _) (by omega))
    · rw [upd_ne (ne_of_none hb hD)]
      exact s _ _ hb
    · rw [upd_same, List.take_add_one, hfl, List.map_append, List.map_append]
      rfl
  · rintro H' ⟨s, f⟩
    have dl := dpAll_len hd
    rw [List.length_map] at dl
    have e : fs.take fxs.length = fs := List.take_of_length_le (by rw [dl]; exact Nat.le_refl _)
    rw [e] at f
    exact q D H' s hD f
theorem sum_wds (fs : List Fld) : (fs.map fun fl => (fl.2 : Int)).sum = (((wds fs).sum : Nat) : Int) := by
  induction fs with
  | nil => rfl
  | cons f fs ih =>
    show (f.2 : Int) + (fs.map fun fl => (fl.2 : Int)).sum = ((f.2 + (wds fs).sum : Nat) : Int)
    rw [ih, Int.natCast_add]
/-! ### how many bytes -/
theorem scSize : FnScope ["_law_fields_here", "_law_field", "_law_width_here"] ["_law_fields_here"] (defScope sSize) := ⟨rfl, rfl, rfl, by decide +kernel, rfl, by decide +kernel, by decide +kernel⟩
def spSize (K : PySem.W.Frag) : Sp := fun vs H Q _ => ∃ (v : V) (fs : List Fld), vs = [v] ∧ Dp K H v (encFs fs) ∧ fs.length ≤ 12 ∧ ∀ H', Same H H' → Q (.int (((wds fs).sum / 8 : Nat) : Int)) H'
theorem ok_size {f : Addr} {fd : FuncData} (F : Fun K "_law_size" "_law_size" sSize f fd) (B : Blt mg) : FnOk P w K mg base CX0 1 f fd ["_law_fields_here"] (spSize K) := by
  refine F.ok scSize (fun vs H Q E h => ?_) (fun cdv A outer s H vs Q E hr h => ?_)
  · obtain ⟨v, fs, rfl, _⟩ := h
    rfl
  · obtain ⟨v, fs, rfl, dv, l12, k⟩ := h
    refine ⟨_, pss_one (ps_ret (pe_op op_fdiv (pe_callB (cr_sum rfl) (by rfl) B.sum (by decide +kernel) (pa_cons (pe_lc (own := [("_law_field", 1), ("_law_width_here", 2)]) (g := gTup K 2 (gCons (gName 1) (gCons (gName 2) gNil))) (tt := tYes) rfl scSize.nd (pi_tup (pv 0))
              (blkOk_by (N := ["_law_fields_here", "_law_field", "_law_width_here"]) (sc := defScope sSize) (by decide +kernel)) (fun _ _ _ _ _ => pg_tup rfl (pgs_cons (pg_name (i := 1) scSize.nd rfl (.inl rfl)) (pgs_cons (pg_name (i := 2) scSize.nd rfl (.inl rfl)) pgs_nil))) (fun _ _ _ _ _ => pts_nil) (fun _ _ _ _ _ => pv 2)) pa_nil)) pe_int)), ?_⟩
    obtain ⟨fa, fxs, rfl, hfa, hfd⟩ := dp_tup dv
    unfold tRet tOp tCB tCons
    refine lcPairs (fs := fs) (val := fun fl => (fl.2 : Int)) (fun R r => ⟨_, rfl, r⟩) hfa hfd l12 (fun _ _ => rfl) (fun fl H' R _ r => ⟨_, rfl, r⟩) fun D H' s' hD f' => ?_
    refine ⟨D, _, rfl, SqL.of f', _, _, rfl, rfl, ⟨by decide, by decide⟩, ?_⟩
    rw [sum_wds]
    exact k H' s'
/-! ### drawn bytes -/
def w8 : List Int := [0, 1, 2, 7, 35, 128, 254, 255]
theorem w8_ok : ∀ x ∈ w8, 0 ≤ x ∧ x ≤ 255 := by decide
theorem scBytes : FnScope ["_law_jar_here", "_law_many", "_law_found", "_law_at"] ["_law_jar_here", "_law_many"] (defScope sBytes) := ⟨rfl, rfl, rfl, by decide +kernel, rfl, by decide +kernel, by decide +kernel⟩
def spBytes (K : PySem.W.Frag) : Sp := fun vs H Q _ => ∃ (b : Addr) (n : Nat) (o m c : Int), vs = [.ref b, .int (n : Int)] ∧ H b = some (bw o m c) ∧ 0 ≤ o ∧ n ≤ 16 ∧
  ∀ H' v bs, Jr b H H' → Dp K H' v (encNs bs) → bs.length = n → (∀ x ∈ bs, x < 256) → Q v H'
theorem ok_bytes {f fD fO fN : Addr} {fd fdD fdO fdN : FuncData} (F : Fun K "_law_bytes" "_law_bytes" sBytes f fd) (B : Blt mg) (Z : Drw P w K mg base fD fO fN fdD fdO fdN) : FnOk P w K mg base CX0 3 f fd ["_law_jar_here", "_law_many"] (spBytes K) := by
  refine F.ok scBytes (fun vs H Q E h => ?_) (fun cdv A outer s H vs Q E hr h => ?_)
  · obtain ⟨b, n, o, m, c, rfl, _⟩ := h
    rfl
  · obtain ⟨b, n, o, m, c, rfl, hb, ho, n16, k⟩ := h
    refine ⟨_, pss_cons (ps_set (i := 2) scBytes.nd rfl (.inl rfl) (pe_lst pa_nil))
      (pss_cons (ps_for PassesOwn.never rfl (pi_range1 (by rfl) B.range (pa_cons (pv 1) pa_nil)) (pg_name (i := 3) scBytes.nd rfl (.inl rfl))
        (pss_one (ps_expr (pe_bm PySem.F.plainAttrs_list PySem.F.slot_list_append PySem.F.type_list_append mt_append (pv 2) (pa_cons (pe_ifExp (pt_cmpR op_gt (pe_call Z.GD (hr.mono (by decide)) (by rfl) Z.gD Z.FD.kp Z.bD .nil pass0 (pa_cons (pv 0) (pa_cons pe_int pa_nil))) pe_int (nomark _)) (pe_call Z.GO (hr.mono (by decide)) (by rfl) Z.gO Z.FO.kp Z.bO .nil pass0 (pa_cons (pv 0) (pa_cons (pe_lst (pa_cons pe_int (pa_cons pe_int (pa_cons pe_int (pa_cons pe_int (pa_cons pe_int (pa_cons pe_int (pa_cons pe_int (pa_cons pe_int pa_nil))))))))) pa_nil))) (pe_call Z.GD (hr.mono (by decide)) (by rfl) Z.gD Z.FD.kp Z.bD .nil pass0 (pa_cons (pv 0) (pa_cons pe_int pa_nil)))) pa_nil)))))
      (pss_one (ps_ret (pe_callTy call_tuple_of (by rfl) B.tuple (by decide +kernel) (pa_cons (pv 2) pa_nil))))), ?_⟩
    refine ⟨Nat.zero_le _, fun l hl => ?_⟩
    have nl : l ≠ b := fun z => by
      rw [z, hb] at hl
      cases hl
    have s0 := same_new (o := .lst []) hl
    refine ⟨_, rfl, _, rfl, by omega, by omega, ?_⟩
    rw [Int.toNat_natCast]
    refine for_range (lo := 0) (n := n) (fun i σ H' => ∃ (ns : List Nat) (v3 : Option V), σ = [some (.ref b), some (.int (n : Int)), some (.ref l), v3] ∧ Jr b H H' ∧ H' l = some (.lst (vN ns)) ∧ ns.length = i ∧ ∀ x ∈ ns, x < 256)
      ⟨[], _, rfl, ⟨Exb.of s0, o, m, c, s0 _ _ hb, ho⟩, upd_same, rfl, fun x hx => nomatch hx⟩ ?_ ?_
    · rintro i σ H2 hi ⟨ns, v3, rfl, j2, hl2, len2, lt2⟩
      obtain ⟨e2, o2, m2, c2, hb2, ho2⟩ := j2
      refine ⟨_, rfl, .inl ⟨rfl, _, SqL.of hl2⟩, _, rfl, b, 3, o2, m2, c2, rfl, hb2, ho2, by decide, by decide, fun H3 r o3 m3 c3 e3 hb3 ho3 r0 r1 => ⟨_, _, rfl, rfl, _, rfl, ite2 (fun _ => ?_) (fun _ => ?_)⟩⟩
      · have hl3 : H3 l = some (.lst (vN ns)) := e3 _ _ nl hl2
        refine ⟨_, rfl, by show 8 ≤ sizeLine; decide, fun p hp => ?_⟩
        have np : p ≠ b := fun z => by
          rw [z, hb3] at hp
          cases hp
        have npl : l ≠ p := ne_of_none hl3 hp
        refine ⟨b, .ref p, o3, m3, c3, rfl, by rw [upd_ne (Ne.symm np)]; exact hb3, ho3, .inr (.inr ⟨p, _, rfl, np, upd_same, by show 0 < 8; decide, by show 8 < 100000; decide, fun H4 v o4 m4 c4 e4 hb4 ho4 hv => ?_⟩)⟩
        obtain ⟨si, hsi, rfl⟩ := mem_ints (L := w8) hv
        have sb := w8_ok si hsi
        obtain ⟨sn, rfl⟩ := Int.eq_ofNat_of_zero_le (show 0 ≤ si by omega)
        have x4 : Exb b H3 H4 := (Exb.of (same_new hp)).trans e4
        refine ⟨l, _, _, rfl, rfl, x4 _ _ nl hl3, ?_, ns ++ [sn], _, rfl, Jr.put ⟨(e2.trans e3).trans x4, o4, m4, c4, hb4, ho4⟩ hl nl, by rw [upd_same, vN_snoc], by rw [List.length_append, len2]; rfl, fun x hx => ?_⟩
        · rw [vN_len, len2]
          exact small1000 (by omega)
        · rcases List.mem_append.mp hx with hx | hx
          · exact lt2 x hx
          · rw [List.mem_singleton.mp hx]
            omega
      · have hl3 : H3 l = some (.lst (vN ns)) := e3 _ _ nl hl2
        refine ⟨_, rfl, b, 256, o3, m3, c3, rfl, hb3, ho3, by decide, by decide, fun H4 r4 o4 m4 c4 e4 hb4 ho4 r40 r41 => ?_⟩
        obtain ⟨sn, rfl⟩ := Int.eq_ofNat_of_zero_le r40
        refine ⟨l, _, _, rfl, rfl, e4 _ _ nl hl3, ?_, ns ++ [sn], _, rfl, Jr.put ⟨(e2.trans e3).trans e4, o4, m4, c4, hb4, ho4⟩ hl nl, by rw [upd_same, vN_snoc], by rw [List.length_append, len2]; rfl, fun x hx => ?_⟩
        · rw [vN_len, len2]
          exact small1000 (by omega)
        · rcases List.mem_append.mp hx with hx | hx
          · exact lt2 x hx
          · rw [List.mem_singleton.mp hx]
            omega
    · rintro σ H2 ⟨ns, v3, rfl, j2, hl2, len2, lt2⟩
      refine ⟨_, rfl, l, _, rfl, .inl ⟨SqL.of hl2, fun p hp => ?_⟩⟩
      exact k _ _ ns (j2.same (same_new hp)) (dp_encNs upd_same) len2 lt2
/-! ### drawn words -/
theorem fitSnoc : ∀ {ws ns : List Nat} {v n : Nat}, Fit ws ns → n < 2 ^ v → Fit (ws ++ [v]) (ns ++ [n])
  | _, _, _, _, .nil, h => .cons h .nil
  | _, _, _, _, .cons a r, h => .cons a (fitSnoc r h)
theorem scWords : FnScope ["_law_jar_here", "_law_fields_here", "_law_found", "_law_field", "_law_width_here"] ["_law_jar_here", "_law_fields_here"] (defScope sWords) := ⟨rfl, rfl, rfl, by decide +kernel, rfl, by decide +kernel, by decide +kernel⟩
def spWords (K : PySem.W.Frag) : Sp := fun vs H Q _ => ∃ (b : Addr) (v : V) (fs : List Fld) (o m c : Int), vs = [.ref b, v] ∧ H b = some (bw o m c) ∧ 0 ≤ o ∧ Dp K H v (encFs fs) ∧ fs.length ≤ 12 ∧ (∀ f ∈ fs, 1 ≤ f.2 ∧ f.2 ≤ 32) ∧
  ∀ H' u ns, Jr b H H' → Dp K H' u (encNs ns) → Fit (wds fs) ns → Q u H'
theorem ok_words {f fD fO fN fW : Addr} {fd fdD fdO fdN fdW : FuncData} (F : Fun K "_law_words" "_law_words" sWords f fd) (B : Blt mg) (Z : Drw P w K mg base fD fO fN fdD fdO fdN)
    (FW : Fun K "_law_word" "_law_word" sWord fW fdW) (bW : Binds K fdW ["_law_jar_here", "_law_width_here"] []) (gW : mg "_law_word" = some (.ref fW)) : FnOk P w K mg base CX0 3 f fd ["_law_jar_here", "_law_fields_here"] (spWords K) := by
  have GW : FnOk P w K mg base CX0 2 fW fdW ["_law_jar_here", "_law_width_here"] spWord := ok_word FW B Z
  refine F.ok scWords (fun vs H Q E h => ?_) (fun cdv A outer s H vs Q E hr h => ?_)
  · obtain ⟨b, v, fs, o, m, c, rfl, _⟩ := h
    rfl
  · obtain ⟨b, v, fs, o, m, c, rfl, hb, ho, dv, l12, wd, k⟩ := h
    refine ⟨_, pss_cons (ps_set (i := 2) scWords.nd rfl (.inl rfl) (pe_lst pa_nil))
      (pss_cons (ps_for PassesOwn.never rfl (pi_tup (pv 1)) (pg_tup rfl (pgs_cons (pg_name (i := 3) scWords.nd rfl (.inl rfl)) (pgs_cons (pg_name (i := 4) scWords.nd rfl (.inl rfl)) pgs_nil)))
        (pss_one (ps_expr (pe_bm PySem.F.plainAttrs_list PySem.F.slot_list_append PySem.F.type_list_append mt_append (pv 2) (pa_cons (pe_call GW hr (by rfl) gW FW.kp bW .nil pass0 (pa_cons (pv 0) (pa_cons (pv 4) pa_nil))) pa_nil)))))
      (pss_one (ps_ret (pe_callTy call_tuple_of (by rfl) B.tuple (by decide +kernel) (pa_cons (pv 2) pa_nil))))), ?_⟩
    refine ⟨Nat.zero_le _, fun l hl => ?_⟩
    have nl : l ≠ b := fun z => by
      rw [z, hb] at hl
      cases hl
    have s0 := same_new (o := .lst []) hl
    obtain ⟨fa, fxs, rfl, hfa, hfd⟩ := dp_tup dv
    have lw := wds_len fs
    have dl := dpAll_len hfd
    rw [List.length_map] at dl
    refine ⟨_, rfl, fa, rfl, ⟨_, sameT s0 hfa⟩, for_tup (K := K) (a := fa) (xs := fxs) (fun i σ H' => ∃ (ns : List Nat) (v3 v4 : Option V), σ = [some (.ref b), some (.ref fa), some (.ref l), v3, v4] ∧ Jr b H H' ∧ H' l = some (.lst (vN ns)) ∧ ns.length = i ∧ Fit ((wds fs).take i) ns)
      ⟨[], _, _, rfl, ⟨Exb.of s0, o, m, c, s0 _ _ hb, ho⟩, upd_same, rfl, .nil⟩ (fun i σ H' _ ⟨_, _, _, _, q, _⟩ => sqExb hb q.e hfa) ?_ ?_⟩
    · rintro i x σ H2 hi ⟨ns, v3, v4, rfl, j2, hl2, len2, fit2⟩
      obtain ⟨e2, o2, m2, c2, hb2, ho2⟩ := j2
      obtain ⟨d, hd1, hd2⟩ := dpAll_at (dpExbAll hb e2 (noL_mapF fs) hfd) hi
      rw [List.getElem?_map] at hd1
      obtain ⟨fl, hfl, rfl⟩ := Option.map_eq_some_iff.mp hd1
      obtain ⟨a, y, rfl, h1, h2⟩ := pair_dp hd2
      obtain rfl := dp_int h2
      have i12 : i < 12 := by
        have := (List.getElem?_eq_some_iff.mp hfl).1
        omega
      have wf := wd fl (List.mem_of_getElem? hfl)
      refine ⟨a, _, rfl, h1, rfl, _, _, rfl, _, _, rfl, rfl, ?_⟩
      refine ⟨_, rfl, .inl ⟨rfl, _, SqL.of hl2⟩, _, rfl, _, rfl, b, fl.2, o2, m2, c2, rfl, hb2, ho2, wf.1, wf.2, fun H3 r j3 r0 r1 => ?_⟩
      obtain ⟨rn, rfl⟩ := Int.eq_ofNat_of_zero_le r0
      have rlt : rn < 2 ^ fl.2 := by exact_mod_cast r1
      have hl3 : H3 l = some (.lst (vN ns)) := j3.e _ _ nl hl2
      refine ⟨l, _, _, rfl, rfl, hl3, ?_, ns ++ [rn], _, _, rfl, Jr.put (Jr.trans e2 j3) hl nl, by rw [upd_same, vN_snoc], by rw [List.length_append, len2]; rfl, ?_⟩
      · rw [vN_len, len2]
        exact small1000 (by omega)
      · rw [List.take_add_one, wds_at hfl]
        exact fitSnoc fit2 rlt
    · rintro σ H2 ⟨ns, v3, v4, rfl, j2, hl2, len2, fit2⟩
      refine ⟨_, rfl, l, _, rfl, .inl ⟨SqL.of hl2, fun p hp => ?_⟩⟩
      rw [dl, List.take_of_length_le (by rw [lw]; exact Nat.le_refl _)] at fit2
      exact k _ _ ns (j2.same (same_new hp)) (dp_encNs upd_same) fit2
end
end LJ

namespace LJ
open PySem PySem.Spec PyProof.Rows L2 GuL HG Bt
abbrev sFieldsOf : Stmt := topS 66
abbrev sWidth : Stmt := topS 67
/-- a def that stands and keeps what it promises -/
structure Kn (P : Program) (w : World) (K : PySem.W.Frag) (mg : Str → Option Value) (base : Heap) (n : Nat) (nm : Str) (s : Stmt) (ps : List Str) (sp : Sp) (f : Addr) (fd : FuncData) : Prop where
  F : Fun K nm nm s f fd
  b : Binds K fd ps []
  g : mg nm = some (.ref f)
  G : FnOk P w K mg base CX0 n f fd ps sp
/-- pairs of a text and anything -/
def encP2 (p : Str × PyData) : PyData := .tuple [.str p.1, p.2]
/-- [y for x, y in pairs if x == z] -/
theorem lcSel {K : PySem.W.Frag} {σ : L2.St} {H : Hp} {Q : VK} {j k : Nat} {tl te : TE} {ps : List (Str × PyData)} {z : Str} (l99 : ps.length ≤ 900) (hn : ∀ p ∈ ps, NoL p.2)
    (ht : ∀ R : VK, (∀ fa fxs H1, Same H H1 → SqT K H1 fa fxs → DpAll K H1 fxs (ps.map encP2) → R (.ref fa) H1) → tl σ H R)
    (hw : ∀ x y, wipe (((wipe σ [j, k]).set j (some x)).set k (some y)) [j, k] = wipe σ [j, k]) (hj : ∀ x y, (((wipe σ [j, k]).set j (some x)).set k (some y))[j]? = some (some x)) (hk : ∀ x y, (((wipe σ [j, k]).set j (some x)).set k (some y))[k]? = some (some y))
    (he : ∀ (x y : V) (H' : Hp) (R : VK), Same H H' → R (.str z) H' → te (((wipe σ [j, k]).set j (some x)).set k (some y)) H' R)
    (q : ∀ D H' ys, Same H H' → H' D = some (.lst ys) → DpAll K H' ys ((ps.filter fun p => decide (p.1 = z)).map (·.2)) → Q (.ref D) H') :
    tLc (iTup K tl) (gTup K 2 (gCons (gName j) (gCons (gName k) gNil))) (tTest (tOp rEq (tVar j) te)) (tVar k) [j, k] σ H Q := by
  refine ht _ fun fa fxs H1 s1 hfa hd => ⟨fa, rfl, ⟨_, hfa⟩, fun D hD => ?_⟩
  refine lc_tup (K := K) (a := fa) (xs := fxs) (fun n H' => Same H1 H' ∧ ∃ ys, H' D = some (.lst ys) ∧ ys.length ≤ n ∧ DpAll K H' ys (((ps.take n).filter fun p => decide (p.1 = z)).map (·.2))) ⟨same_new hD, [], upd_same, Nat.zero_le _, .nil⟩ (fun n H' _ p => sameT p.1 hfa) ?_ ?_
  · rintro n x H' hi ⟨s, ys, f, ly, dy⟩
    obtain ⟨d, hd1, hd2⟩ := dpAll_at hd hi
    rw [List.getElem?_map] at hd1
    obtain ⟨p, hp, rfl⟩ := Option.map_eq_some_iff.mp hd1
    obtain ⟨a, y, rfl, h1, h2⟩ := pair_dp (dpSame s hd2)
    have n9 : n < 900 := by
      have := (List.getElem?_eq_some_iff.mp hp).1
      omega
    refine ⟨a, _, rfl, h1, rfl, _, _, rfl, _, _, rfl, rfl, hw _ _, _, hj _ _, he _ _ _ _ (s1.trans s) ⟨rfl, _, rfl, ?_⟩⟩
    by_cases e : p.1 = z
    · have e2 : V.str p.1 = V.str z := by rw [e]
      rw [decide_eq_true e2]
      refine iteT ⟨_, hk _ _, _, f, small1000 (by omega), fun b u hb => ?_, ys ++ [y], upd_same, by rw [List.length_append]; exact Nat.succ_le_succ ly, ?_⟩
      · rw [upd_ne (ne_of_none hb hD)]
        exact s _ _ hb
      · rw [List.take_add_one, hp, List.filter_append, Option.toList_some, List.filter_cons, if_pos (by simp [e]), List.map_append]
        refine dpAll_snoc (dpExb f Exb.put (hn p (List.mem_of_getElem? hp)) h2) (dpExbAll f Exb.put (fun d hd => ?_) dy)
        obtain ⟨p', hp', rfl⟩ := List.mem_map.mp hd
        exact hn p' (List.mem_of_mem_take (List.mem_filter.mp hp').1)
    · have e2 : ¬ V.str p.1 = V.str z := fun q => e (by injection q)
      rw [decide_eq_false e2]
      refine iteF ⟨s, ys, f, by omega, ?_⟩
      rw [List.take_add_one, hp, List.filter_append, Option.toList_some, List.filter_cons, if_neg (by simp [e])]
      simpa using dy
  · rintro H' ⟨s, ys, f, ly, dy⟩
    have dl := dpAll_len hd
    rw [List.length_map] at dl
    have e : ps.take fxs.length = ps := List.take_of_length_le (by rw [dl]; exact Nat.le_refl _)
    rw [e] at dy
    exact q D H' ys (s1.trans s) f dy
theorem retSel {K : PySem.W.Frag} {σ : L2.St} {H : Hp} {D : Ends} {r : R2} {ti : TE} {j k : Nat} {tl te : TE} {ps : List (Str × PyData)} {z : Str} (l99 : ps.length ≤ 900) (hn : ∀ p ∈ ps, NoL p.2)
    (ht : ∀ R : VK, (∀ fa fxs H1, Same H H1 → SqT K H1 fa fxs → DpAll K H1 fxs (ps.map encP2) → R (.ref fa) H1) → tl σ H R)
    (hw : ∀ x y, wipe (((wipe σ [j, k]).set j (some x)).set k (some y)) [j, k] = wipe σ [j, k]) (hj : ∀ x y, (((wipe σ [j, k]).set j (some x)).set k (some y))[j]? = some (some x)) (hk : ∀ x y, (((wipe σ [j, k]).set j (some x)).set k (some y))[k]? = some (some y))
    (he : ∀ (x y : V) (H' : Hp) (R : VK), Same H H' → R (.str z) H' → te (((wipe σ [j, k]).set j (some x)).set k (some y)) H' R)
    (q : ∀ Dd H' ys, Same H H' → H' Dd = some (.lst ys) → DpAll K H' ys ((ps.filter fun p => decide (p.1 = z)).map (·.2)) → ti σ H' fun y H2 => r (.ref Dd) y H2 D.rt) :
    tRet (tOp r (tLc (iTup K tl) (gTup K 2 (gCons (gName j) (gCons (gName k) gNil))) (tTest (tOp rEq (tVar j) te)) (tVar k) [j, k]) ti) D σ H := by
  show tLc (iTup K tl) (gTup K 2 (gCons (gName j) (gCons (gName k) gNil))) (tTest (tOp rEq (tVar j) te)) (tVar k) [j, k] σ H (fun x H1 => ti σ H1 fun y H2 => r x y H2 D.rt)
  exact lcSel l99 hn ht hw hj hk he q
/-! ### the fields of a header, the width of a place -/
def prH (h : Hdr) : Str × PyData := (h.1, encFs h.2)
def prF (f : Fld) : Str × PyData := (f.1, .int (f.2 : Int))
theorem mapH (hs : List Hdr) : hs.map encH = (hs.map prH).map encP2 := by
  rw [List.map_map]
  rfl
theorem mapF (fs : List Fld) : fs.map encF = (fs.map prF).map encP2 := by
  rw [List.map_map]
  rfl
theorem selOne {α : Type} {f : α → Str × PyData} {nm : α → Str} (hf : ∀ x, (f x).1 = nm x) : ∀ {l : List α} {x : α} {z : Str}, (l.map nm).Nodup → x ∈ l → nm x = z → ((l.map f).filter fun p => decide (p.1 = z)) = [f x]
  | [], _, _, _, h, _ => nomatch h
  | y :: l, x, z, nd, h, e => by
    rw [List.map_cons, List.nodup_cons] at nd
    obtain ⟨n1, n2⟩ := nd
    rw [List.map_cons, List.filter_cons]
    by_cases c : nm y = z
    · have hx : x = y := by
        rcases List.mem_cons.mp h with h | h
        · exact h
        · exact absurd (List.mem_map.mpr ⟨x, h, e.trans c.symm⟩) n1
      subst hx
      rw [if_pos (by rw [hf]; simpa using c)]
      have : ((l.map f).filter fun p => decide (p.1 = z)) = [] := by
        rw [List.filter_eq_nil_iff]
        intro p hp
        obtain ⟨v, hv, rfl⟩ := List.mem_map.mp hp
        rw [hf]
        simp only [decide_eq_true_eq]
        exact fun q => n1 (List.mem_map.mpr ⟨v, hv, q.trans c.symm⟩)
      rw [this]
    · rw [if_neg (by rw [hf]; simpa using c)]
      have hx : x ∈ l := by
        rcases List.mem_cons.mp h with h | h
        · exact absurd (h ▸ e) c
        · exact h
      exact selOne hf n2 hx e
section
variable {P : Program} {w : World} {K : PySem.W.Frag} {mg : Str → Option Value} {base : Heap}
theorem scFieldsOf : FnScope ["_law_headers_here", "_law_header", "_law_name_here", "_law_fields_here"] ["_law_headers_here", "_law_header"] (defScope sFieldsOf) := ⟨rfl, rfl, rfl, by decide +kernel, rfl, by decide +kernel, by decide +kernel⟩
def spFieldsOf (K : PySem.W.Frag) : Sp := fun vs H Q _ => ∃ (v : V) (hs : List Hdr) (h : Hdr), vs = [v, .str h.1] ∧ Dp K H v (encHs hs) ∧ HeadersOk hs ∧ h ∈ hs ∧ ∀ H' u, Same H H' → Dp K H' u (encFs h.2) → Q u H'
theorem ok_fieldsof {f : Addr} {fd : FuncData} (F : Fun K "_law_fields_of" "_law_fields_of" sFieldsOf f fd) : FnOk P w K mg base CX0 1 f fd ["_law_headers_here", "_law_header"] (spFieldsOf K) := by
  refine F.ok scFieldsOf (fun vs H Q E h => ?_) (fun cdv A outer s H vs Q E hr h => ?_)
  · obtain ⟨v, hs, h, rfl, _⟩ := h
    rfl
  · obtain ⟨v, hs, h, rfl, dv, hok, hm, k⟩ := h
    refine ⟨_, (pss_one (ps_ret (pe_ix ix_list (pe_lc (own := [("_law_name_here", 2), ("_law_fields_here", 3)]) (g := (gTup K 2 (gCons (gName 2) (gCons (gName 3) gNil)))) (tt := (tTest (tOp rEq (tVar 2) (tVar 1)))) rfl scFieldsOf.nd (pi_tup (pv 0)) (blkOk_by (N := ["_law_headers_here", "_law_header", "_law_name_here", "_law_fields_here"]) (sc := defScope sFieldsOf) (by decide +kernel)) (fun _ _ _ _ _ => (pg_tup rfl (pgs_cons (pg_name (i := 2) scFieldsOf.nd rfl (.inl rfl)) (pgs_cons (pg_name (i := 3) scFieldsOf.nd rfl (.inl rfl)) pgs_nil)))) (fun _ _ _ _ _ => (pts_one (pt_cmpR op_eq (pv 2) (pv 1) (nomark _)))) (fun _ _ _ _ _ => (pv 3))) pe_int (fun _ _ => rfl)))), ?_⟩
    obtain ⟨a, xs, rfl, ha, hd⟩ := dp_tup dv
    refine retSel (ps := hs.map prH) (z := h.1) (by rw [List.length_map]; have := hok.len; omega) (fun p hp => ?_) (fun R r => ⟨_, rfl, r a xs H (fun _ _ q => q) ha (by rw [← mapH]; exact hd)⟩) (fun _ _ => rfl) (fun _ _ => rfl) (fun _ _ => rfl) (fun x y H' R s r => ⟨_, rfl, r⟩) (fun D H' ys s f dy => ?_)
    · obtain ⟨g, _, rfl⟩ := List.mem_map.mp hp
      exact noL_encFs _
    · rw [selOne (nm := (·.1)) (fun _ => rfl) hok.nd hm rfl] at dy
      cases dy with
      | cons d1 d2 =>
        cases d2
        exact ⟨D, _, 0, _, rfl, rfl, SqL.of f, atI_nat (j := 0) rfl, k _ _ s d1⟩
end
end LJ

namespace LJ
open PySem PySem.Spec PyProof.Rows L2 GuL HG Bt
/-- a place that can be asked -/
inductive Plc where
  | inp : Plc
  | fld (h f : Str) : Plc
deriving DecidableEq
def encP : Plc → PyData
  | .inp => .tuple [.str "local", .str "in"]
  | .fld h f => .tuple [.str "field", .str h, .str f]
inductive PlcW (hs : List Hdr) : Plc → Nat → Prop
  | inp : PlcW hs .inp 8
  | fld {h : Hdr} {f : Fld} : h ∈ hs → f ∈ h.2 → PlcW hs (.fld h.1 f.1) f.2
theorem noL_encP : ∀ p, NoL (encP p)
  | .inp => .tup fun d hd => by
    simp only [List.mem_cons, List.not_mem_nil, or_false] at hd
    rcases hd with rfl | rfl <;> exact .str _
  | .fld h f => .tup fun d hd => by
    simp only [List.mem_cons, List.not_mem_nil, or_false] at hd
    rcases hd with rfl | rfl | rfl <;> exact .str _
theorem noL_enc2 (hs : List Hdr) : ∀ d ∈ hs.map encH, NoL d := noL_mapH hs
theorem plcW_le {hs : List Hdr} (ok : HeadersOk hs) {p : Plc} {n : Nat} : PlcW hs p n → 1 ≤ n ∧ n ≤ 32
  | .inp => by decide
  | .fld h1 h2 => (ok.fo _ h1).wd _ h2
theorem dp_inp {K : PySem.W.Frag} {H : Hp} {v : V} (h : Dp K H v (encP .inp)) : ∃ a, v = .ref a ∧ SqT K H a [.str "local", .str "in"] := by
  obtain ⟨a, xs, rfl, h1, h2⟩ := dp_tup h
  rw [show xs = [Str.ofString "local", Str.ofString "in"].map V.str from dpAll_strs_inv (zs := [Str.ofString "local", Str.ofString "in"]) h2] at h1
  exact ⟨a, rfl, h1⟩
theorem dp_fld {K : PySem.W.Frag} {H : Hp} {v : V} {x y : Str} (h : Dp K H v (encP (.fld x y))) : ∃ a, v = .ref a ∧ SqT K H a [.str "field", .str x, .str y] := by
  obtain ⟨a, xs, rfl, h1, h2⟩ := dp_tup h
  rw [show xs = [Str.ofString "field", x, y].map V.str from dpAll_strs_inv (zs := [Str.ofString "field", x, y]) h2] at h1
  exact ⟨a, rfl, h1⟩
abbrev dvL : Str := "local"
abbrev dvF : Str := "field"
theorem locTT : decide ((V.str "local") = V.str "local") = true := by decide +kernel
theorem locFT : decide ((V.str "field") = V.str "local") = false := by decide +kernel
section
variable {P : Program} {w : World} {K : PySem.W.Frag} {mg : Str → Option Value} {base : Heap}
theorem scWidth : FnScope ["_law_headers_here", "_law_place_here", "_law_field", "_law_width_here"] ["_law_headers_here", "_law_place_here"] (defScope sWidth) := ⟨rfl, rfl, rfl, by decide +kernel, rfl, by decide +kernel, by decide +kernel⟩
def spWidth (K : PySem.W.Frag) : Sp := fun vs H Q _ => ∃ (v u : V) (hs : List Hdr) (p : Plc) (n : Nat), vs = [v, u] ∧ Dp K H v (encHs hs) ∧ HeadersOk hs ∧ Dp K H u (encP p) ∧ PlcW hs p n ∧ ∀ H', Same H H' → Q (.int (n : Int)) H'
theorem ok_width {f fO : Addr} {fd dO : FuncData} (F : Fun K "_law_width" "_law_width" sWidth f fd) (FO : Kn P w K mg base 1 "_law_fields_of" sFieldsOf ["_law_headers_here", "_law_header"] (spFieldsOf K) fO dO) : FnOk P w K mg base CX0 2 f fd ["_law_headers_here", "_law_place_here"] (spWidth K) := by
  refine F.ok scWidth (fun vs H Q E h => ?_) (fun cdv A outer s H vs Q E hr h => ?_)
  · obtain ⟨v, u, hs, p, n, rfl, _⟩ := h
    rfl
  · obtain ⟨v, u, hs, p, n, rfl, dv, hok, du, pw, k⟩ := h
    refine ⟨_, (pss_cons (ps_if (pt_cmpR op_eq (pe_ix ix_tup (pv 1) pe_int (fun _ _ => rfl)) pe_str (nomark _)) (pss_one (ps_ret pe_int)) pss_nil) (pss_one (ps_ret (pe_ix ix_list (pe_lc (own := [("_law_field", 2), ("_law_width_here", 3)]) (g := (gTup K 2 (gCons (gName 2) (gCons (gName 3) gNil)))) (tt := (tTest (tOp rEq (tVar 2) (tOp (rIxT K) (tVar 1) (tC (.int 2)))))) rfl scWidth.nd (pi_tup (pe_call FO.G (hr.mono (by decide)) (by rfl) FO.g FO.F.kp FO.b .nil pass0 (pa_cons (pv 0) (pa_cons (pe_ix ix_tup (pv 1) pe_int (fun _ _ => rfl)) pa_nil)))) (blkOk_by (N := ["_law_headers_here", "_law_place_here", "_law_field", "_law_width_here"]) (sc := defScope sWidth) (by decide +kernel)) (fun _ _ _ _ _ => (pg_tup rfl (pgs_cons (pg_name (i := 2) scWidth.nd rfl (.inl rfl)) (pgs_cons (pg_name (i := 3) scWidth.nd rfl (.inl rfl)) pgs_nil)))) (fun _ _ _ _ _ => (pts_one (pt_cmpR op_eq (pv 2) (pe_ix ix_tup (pv 1) pe_int (fun _ _ => rfl)) (nomark _)))) (fun _ _ _ _ _ => (pv 3))) pe_int (fun _ _ => rfl))))), ?_⟩
    cases pw with
    | inp =>
      obtain ⟨a, rfl, ha⟩ := dp_inp du
      refine ⟨_, rfl, a, _, 0, _, rfl, rfl, ha, atI_nat (j := 0) rfl, rfl, _, rfl, ?_⟩
      rw [locTT]
      exact iteT (k H (fun _ _ q => q))
    | @fld h fl m1 m2 =>
      obtain ⟨a, rfl, ha⟩ := dp_fld du
      refine ⟨_, rfl, a, _, 0, _, rfl, rfl, ha, atI_nat (j := 0) rfl, rfl, _, rfl, ?_⟩
      rw [locFT]
      refine iteF ?_
      unfold tNext
      dsimp only
      refine retSel (ps := h.2.map prF) (z := fl.1) (by rw [List.length_map]; have := (hok.fo _ m1).l2; omega) (fun p hp => ?_) (fun R r => ?_) (fun _ _ => rfl) (fun _ _ => rfl) (fun _ _ => rfl) (fun x y H' R s r => ⟨_, rfl, a, _, 2, _, rfl, rfl, sameT s ha, atI_nat (j := 2) rfl, r⟩) (fun D H' ys s f dy => ?_)
      · obtain ⟨g, _, rfl⟩ := List.mem_map.mp hp
        exact .int _
      · refine ⟨_, rfl, _, rfl, a, _, 1, _, rfl, rfl, ha, atI_nat (j := 1) rfl, v, hs, h, rfl, dv, hok, m1, fun H1 u s1 d1 => ?_⟩
        obtain ⟨fa, fxs, rfl, h1, h2⟩ := dp_tup d1
        exact r fa fxs H1 s1 h1 (by rw [← mapF]; exact h2)
      · rw [selOne (nm := (·.1)) (fun _ => rfl) (hok.fo _ m1).nd m2 rfl] at dy
        cases dy with
        | cons d1 d2 =>
          cases d2
          obtain rfl := dp_int d1
          exact ⟨D, _, 0, _, rfl, rfl, SqL.of f, atI_nat (j := 0) rfl, k _ s⟩
end
end LJ

namespace LJ
open PySem PySem.Spec PyProof.Rows L2 GuL HG Bt
abbrev sPlace : Stmt := topS 68
theorem Room.u65 {k : Nat} {A : Around} (r : Room k A) : A.units + 65 < cLine := by
  have := r.un
  omega
/-! ### data that can be laid side by side -/
def Lay (d : PyData) : Prop := d.canLay0 = true
theorem sign_small : signs.all (fun c => decide (c < 128)) = true := by decide +kernel
theorem lay_name {z : Str} (h : NameOk z) : Lay (.str z) := by
  have hs := sh_signs h.sh
  show z.cps.all (fun c => decide (c < 0x110000)) = true
  rw [← Array.all_toList, List.all_eq_true]
  intro c hc
  have := of_decide_eq_true (List.all_eq_true.mp sign_small c (hs c hc))
  exact decide_eq_true (by omega)
theorem eqv_encP (p q : Plc) : PyData.eqv (encP p) (encP q) = decide (p = q) := by
  cases p with
  | inp => cases q with
    | inp => decide +kernel
    | fld h f => simp [encP, PyData.eqv, PyData.eqvAll]
  | fld h f => cases q with
    | inp => simp [encP, PyData.eqv, PyData.eqvAll]
    | fld h2 f2 => rw [Bool.eq_iff_iff]; simp [encP, PyData.eqv, PyData.eqvAll]
theorem any_encP (p : Plc) (qs : List Plc) : ((qs.map encP).any fun z => PyData.eqv z (encP p)) = decide (p ∈ qs) := by
  induction qs with
  | nil => rfl
  | cons q qs ih =>
    rw [List.map_cons, List.any_cons, ih, eqv_encP]
    by_cases e : q = p
    · subst e
      simp
    · have e2 : ¬ p = q := fun c => e c.symm
      simp [e, e2]
theorem eqv_nil (ds : List PyData) : PyData.eqv (.list ds) (.list []) = decide (ds = []) := by
  cases ds with
  | nil => simp [PyData.eqv, PyData.eqvAll]
  | cons _ _ => simp [PyData.eqv, PyData.eqvAll]
theorem lay_local : Lay (.str "local") := by show PyData.canLay0 _ = true; decide +kernel
theorem lay_in : Lay (.str "in") := by show PyData.canLay0 _ = true; decide +kernel
theorem lay_field : Lay (.str "field") := by show PyData.canLay0 _ = true; decide +kernel
theorem shaped_encP {hs : List Hdr} (ok : HeadersOk hs) {p : Plc} {n : Nat} (h : PlcW hs p n) : SeqAt.shaped (encP p) = true := by
  cases h with
  | inp => decide +kernel
  | @fld h f m1 m2 =>
    have a := lay_name (ok.nm _ m1)
    have b := lay_name ((ok.fo _ m1).nm _ m2)
    unfold Lay at a b
    have c := lay_field
    unfold Lay at c
    simp [SeqAt.shaped, encP, PyData.canLay0, PyData.canLayAll0, PyData.depth, PyData.depthAll] at a b c ⊢
    exact ⟨c, a, b⟩
theorem shaped_list {hs : List Hdr} (ok : HeadersOk hs) {qs : List Plc} (h : ∀ q ∈ qs, ∃ n, PlcW hs q n) : SeqAt.shaped (.list (qs.map encP)) = true := by
  have key : PyData.canLayAll0 (qs.map encP) = true ∧ PyData.depthAll (qs.map encP) ≤ 1 := by
    induction qs with
    | nil => exact ⟨rfl, Nat.zero_le _⟩
    | cons q qs ih =>
      obtain ⟨i1, i2⟩ := ih fun x hx => h x (List.mem_cons_of_mem _ hx)
      obtain ⟨n, hn⟩ := h q List.mem_cons_self
      have a := SeqAt.canLay_of_shaped (shaped_encP ok hn)
      have d : PyData.depth (encP q) ≤ 1 := by
        cases q <;> simp [encP, PyData.depth, PyData.depthAll]
      constructor
      · rw [List.map_cons, PyData.canLayAll0, a, i1]
        rfl
      · rw [List.map_cons, PyData.depthAll]
        omega
  unfold SeqAt.shaped
  rw [PyData.canLay0, key.1, PyData.depth]
  simp
  omega
theorem dpAll_rep {K : PySem.W.Frag} {H : Hp} {x : V} {d : PyData} (h : Dp K H x d) : ∀ k : Nat, DpAll K H (List.replicate k [x]).flatten (List.replicate k d)
  | 0 => .nil
  | k + 1 => by
    rw [List.replicate_succ, List.replicate_succ, List.flatten_cons]
    exact .cons h (dpAll_rep h k)
theorem dpAll_app {K : PySem.W.Frag} {H : Hp} : ∀ {xs ys : List V} {ds es : List PyData}, DpAll K H xs ds → DpAll K H ys es → DpAll K H (xs ++ ys) (ds ++ es)
  | _, _, _, _, .nil, h => h
  | _, _, _, _, .cons a r, h => .cons a (dpAll_app r h)
theorem noL_mapP (qs : List Plc) : ∀ d ∈ qs.map encP, NoL d := fun d hd => by
  obtain ⟨q, _, rfl⟩ := List.mem_map.mp hd
  exact noL_encP q
section
variable {P : Program} {w : World} {K : PySem.W.Frag} {mg : Str → Option Value} {base : Heap}
theorem scPlace : FnScope ["_law_jar_here", "_law_headers_here", "_law_own", "_law_barred", "_law_some", "_law_name_here", "_law_fields_here", "_law_field", "_law_width_here", "_law_each"] ["_law_jar_here", "_law_headers_here", "_law_own", "_law_barred"] (defScope sPlace) := ⟨rfl, rfl, rfl, by decide +kernel, rfl, by decide +kernel, by decide +kernel⟩
theorem dpAll_mem {K : PySem.W.Frag} {H : Hp} {v : V} : ∀ {xs : List V} {ds : List PyData}, DpAll K H xs ds → v ∈ xs → ∃ d, d ∈ ds ∧ Dp K H v d
  | _, _, .nil, h => nomatch h
  | _, _, .cons a r, h => by
    rcases List.mem_cons.mp h with rfl | h
    · exact ⟨_, List.mem_cons_self, a⟩
    · obtain ⟨d, h1, h2⟩ := dpAll_mem r h
      exact ⟨d, List.mem_cons_of_mem _ h1, h2⟩
structure PInv (K : PySem.W.Frag) (H H' : Hp) (hs : List Hdr) (l : Addr) (xs : List V) (ps : List Plc) (n : Nat) : Prop where
  s : Same H H'
  hl : H' l = some (.lst xs)
  hn : H l = none
  dp : DpAll K H' xs (ps.map encP)
  len : ps.length ≤ n
  ok : ∀ p ∈ ps, ∃ n, PlcW hs p n
def spPlace (K : PySem.W.Frag) : Sp := fun vs H Q _ => ∃ (b t : Addr) (v own : V) (hs : List Hdr) (ts : List V) (qs : List Plc) (o m c : Int), vs = [.ref b, v, own, .ref t] ∧ H b = some (bw o m c) ∧ 0 ≤ o ∧ Dp K H v (encHs hs) ∧ HeadersOk hs ∧
  (own = .non ∨ ∃ z, own = .str z) ∧ t ≠ b ∧ H t = some (.lst ts) ∧ DpAll K H ts (qs.map encP) ∧ (∀ q ∈ qs, ∃ n, PlcW hs q n) ∧
  ∀ H' D, Jr b H H' → H D = none → (H' D = some (.lst []) ∨ ∃ u p n, H' D = some (.lst [u]) ∧ Dp K H' u (encP p) ∧ PlcW hs p n ∧ p ∉ qs) → Q (.ref D) H'
theorem ok_place {f fD fO fN : Addr} {fd fdD fdO fdN : FuncData} (F : Fun K "_law_place" "_law_place" sPlace f fd) (B : Blt mg) (Z : Drw P w K mg base fD fO fN fdD fdO fdN) : FnOk P w K mg base CX0 3 f fd ["_law_jar_here", "_law_headers_here", "_law_own", "_law_barred"] (spPlace K) := by
  refine F.ok scPlace (fun vs H Q E h => ?_) (fun cdv A outer s H vs Q E hr h => ?_)
  · obtain ⟨b, t, v, own, hs, ts, qs, o, m, c, rfl, _⟩ := h
    rfl
  · obtain ⟨b, t, v, own, hs, ts, qs, o, m, c, rfl, hb, ho, dv, hok, hown, nt, ht, dt, hq, k⟩ := h
    refine ⟨_, (pss_cons (ps_set (i := 4) scPlace.nd rfl (.inl rfl) (pe_lst (pa_cons (pe_tup (pa_cons pe_str (pa_cons pe_str pa_nil))) pa_nil))) (pss_cons (ps_for PassesOwn.never rfl (pi_tup (pv 1)) (pg_tup rfl (pgs_cons (pg_name (i := 5) scPlace.nd rfl (.inl rfl)) (pgs_cons (pg_name (i := 6) scPlace.nd rfl (.inl rfl)) pgs_nil))) (pss_one (ps_for PassesOwn.never rfl (pi_tup (pv 6)) (pg_tup rfl (pgs_cons (pg_name (i := 7) scPlace.nd rfl (.inl rfl)) (pgs_cons (pg_name (i := 8) scPlace.nd rfl (.inl rfl)) pgs_nil))) (pss_one (ps_set (i := 4) scPlace.nd rfl (.inl rfl) (pe_op op_cat (pv 4) (pe_op op_rep (pe_lst (pa_cons (pe_tup (pa_cons pe_str (pa_cons (pv 5) (pa_cons (pv 7) pa_nil)))) pa_nil)) (pe_ifExp (pt_cmpR op_eq (pv 5) (pv 2) (nomark _)) pe_int pe_int)))))))) (pss_cons (ps_setLc (i := 4) (own := [("_law_each", 9)]) (g := gName 9) (tt := (tTest (tOp (rNotInD K) (tVar 9) (tVar 3)))) rfl scPlace.nd rfl rfl (sw_true rfl rfl rfl rfl) (pi_list (pv 4)) (blkOk_by (N := ["_law_jar_here", "_law_headers_here", "_law_own", "_law_barred", "_law_some", "_law_name_here", "_law_fields_here", "_law_field", "_law_width_here", "_law_each"]) (sc := defScope sPlace) (by decide +kernel)) (fun _ _ _ _ _ => (pg_name (i := 9) scPlace.nd rfl (.inl rfl))) (fun _ _ _ _ _ => (pts_one (pt_cmpR (op_notInD (Room.u65 hr)) (pv 9) (pv 3) (by rfl)))) (fun _ _ _ _ _ => (pv 9))) (pss_one (ps_ret (pe_ifExp (pt_cmpR (op_neD hr.units) (pv 4) (pe_lst pa_nil) (nomark _)) (pe_lst (pa_cons (pe_call Z.GO (hr.mono (by decide)) (by rfl) Z.gO Z.FO.kp Z.bO .nil pass0 (pa_cons (pv 0) (pa_cons (pv 4) pa_nil))) pa_nil)) (pe_lst pa_nil))))))), ?_⟩
    obtain ⟨fa, fxs, rfl, hfa, hfd⟩ := dp_tup dv
    have dl := dpAll_len hfd
    rw [List.length_map] at dl
    refine ⟨by show 2 ≤ sizeLine; decide, fun q0 hq0 => ⟨by show 1 ≤ sizeLine; decide, fun l0 hl0 => ?_⟩⟩
    have s0 : Same H (upd (upd H q0 (.tup [.str "local", .str "in"])) l0 (.lst [.ref q0])) := (same_new hq0).trans (same_new hl0)
    have d0 : DpAll K (upd (upd H q0 (.tup [.str "local", .str "in"])) l0 (.lst [.ref q0])) [.ref q0] ([Plc.inp].map encP) := .cons (.tup (SqT.of ((same_new hl0) _ _ upd_same)) (.cons (.str _) (.cons (.str _) .nil))) .nil
    refine ⟨_, rfl, fa, rfl, ⟨_, sameT s0 hfa⟩, for_tup (K := K) (a := fa) (xs := fxs) (fun i σ H' => ∃ (l : Addr) (xs : List V) (ps : List Plc) (v5 v6 v7 v8 : Option V), σ = [some (.ref b), some (.ref fa), some own, some (.ref t), some (.ref l), v5, v6, v7, v8, none] ∧ PInv K H H' hs l xs ps (1 + 48 * i))
      ⟨l0, _, [.inp], _, _, _, _, rfl, ⟨s0, upd_same, (same_new hq0).free hl0, d0, Nat.le_refl _, fun p hp => by rw [List.mem_singleton.mp hp]; exact ⟨8, .inp⟩⟩⟩ (fun i σ H' _ ⟨_, _, _, _, _, _, _, _, q⟩ => sameT q.s hfa) ?_ ?_⟩
    · rintro i x σ H1 hi ⟨l, xs, ps, v5, v6, v7, v8, rfl, I⟩
      obtain ⟨d, hd1, hd2⟩ := dpAll_at hfd hi
      rw [List.getElem?_map] at hd1
      obtain ⟨h, hh, rfl⟩ := Option.map_eq_some_iff.mp hd1
      have hm := List.mem_of_getElem? hh
      have l12 := (hok.fo _ hm).l2
      obtain ⟨a, y, rfl, h1, h2⟩ := pair_dp hd2
      obtain ⟨ga, gxs, rfl, hga, hgd⟩ := dp_tup h2
      have gl := dpAll_len hgd
      rw [List.length_map] at gl
      have i6 : i < 6 := by
        have := (List.getElem?_eq_some_iff.mp hh).1
        have := hok.len
        omega
      refine ⟨a, _, rfl, sameT I.s h1, rfl, _, _, rfl, _, _, rfl, rfl, ?_⟩
      refine ⟨_, rfl, ga, rfl, ⟨_, sameT I.s hga⟩, for_tup (K := K) (a := ga) (xs := gxs) (fun j σ H' => ∃ (l : Addr) (xs : List V) (ps : List Plc) (v7 v8 : Option V), σ = [some (.ref b), some (.ref fa), some own, some (.ref t), some (.ref l), some (.str h.1), some (.ref ga), v7, v8, none] ∧ PInv K H H' hs l xs ps (1 + 48 * i + 4 * j))
        ⟨l, xs, ps, _, _, rfl, I⟩ (fun i σ H' _ ⟨_, _, _, _, _, _, q⟩ => sameT q.s hga) ?_ ?_⟩
      · rintro j x2 σ H2 hj ⟨l2, xs2, ps2, v7, v8, rfl, J⟩
        obtain ⟨d, hd1, hd3⟩ := dpAll_at hgd hj
        rw [List.getElem?_map] at hd1
        obtain ⟨fl, hfl, rfl⟩ := Option.map_eq_some_iff.mp hd1
        have fm := List.mem_of_getElem? hfl
        obtain ⟨a2, y2, rfl, h3, h4⟩ := pair_dp hd3
        obtain rfl := dp_int h4
        have j12 : j < 12 := by
          have := (List.getElem?_eq_some_iff.mp hfl).1
          omega
        refine ⟨a2, _, rfl, sameT J.s h3, rfl, _, _, rfl, _, _, rfl, rfl, ?_⟩
        refine ⟨_, rfl, _, rfl, _, rfl, by show 3 ≤ sizeLine; decide, fun q1 hq1 => ⟨by show 1 ≤ sizeLine; decide, fun l1 hl1 => ?_⟩⟩
        have hsc : scal (.str h.1) own = true := by
          rcases hown with rfl | ⟨z, rfl⟩ <;> rfl
        have fin : ∀ (k : Nat) (p3 : Addr), k ≤ 4 → (upd (upd H2 q1 (.tup [.str "field", .str h.1, .str fl.1])) l1 (.lst [.ref q1])) p3 = none → ∀ p4, (upd (upd (upd H2 q1 (.tup [.str "field", .str h.1, .str fl.1])) l1 (.lst [.ref q1])) p3 (.lst (List.replicate k [.ref q1]).flatten)) p4 = none →
            PInv K H (upd (upd (upd (upd H2 q1 (.tup [.str "field", .str h.1, .str fl.1])) l1 (.lst [.ref q1])) p3 (.lst (List.replicate k [.ref q1]).flatten)) p4 (.lst (xs2 ++ (List.replicate k [.ref q1]).flatten))) hs p4 (xs2 ++ (List.replicate k [.ref q1]).flatten) (ps2 ++ List.replicate k (.fld h.1 fl.1)) (1 + 48 * i + 4 * (j + 1)) := by
          intro k p3 k4 hp3 p4 hp4
          have sa := same_new (o := .tup [.str "field", .str h.1, .str fl.1]) hq1
          have sb := same_new (o := .lst [.ref q1]) hl1
          have sc := same_new (o := .lst (List.replicate k [.ref q1]).flatten) hp3
          have sd := same_new (o := .lst (xs2 ++ (List.replicate k [.ref q1]).flatten)) hp4
          have dq : Dp K (upd H2 q1 (.tup [.str "field", .str h.1, .str fl.1])) (.ref q1) (encP (.fld h.1 fl.1)) := .tup (SqT.of upd_same) (.cons (.str _) (.cons (.str _) (.cons (.str _) .nil)))
          refine ⟨J.s.trans (sa.trans (sb.trans (sc.trans sd))), upd_same, (J.s.trans (sa.trans (sb.trans sc))).free hp4, ?_, ?_, fun p hp => ?_⟩
          · rw [List.map_append, List.map_replicate]
            exact dpAll_app (dpSameAll (sa.trans (sb.trans (sc.trans sd))) J.dp) (dpAll_rep (dpSame (sb.trans (sc.trans sd)) dq) k)
          · rw [List.length_append, List.length_replicate]
            have := J.len
            omega
          · rcases List.mem_append.mp hp with hp | hp
            · exact J.ok p hp
            · rw [List.eq_of_mem_replicate hp]
              exact ⟨_, .fld hm fm⟩
        have hl2 : ∀ p3 o3, (upd (upd H2 q1 (.tup [.str "field", .str h.1, .str fl.1])) l1 (.lst [.ref q1])) p3 = none → upd (upd (upd H2 q1 (.tup [.str "field", .str h.1, .str fl.1])) l1 (.lst [.ref q1])) p3 o3 l2 = some (.lst xs2) := fun p3 o3 hp3 => same_new hp3 _ _ (same_new hl1 _ _ (same_new hq1 _ _ J.hl))
        have xl : xs2.length ≤ 400 := by
          rw [dpAll_len J.dp, List.length_map]
          have := J.len
          omega
        refine ⟨_, rfl, _, rfl, hsc, _, rfl, ite2 (fun _ => ?_) (fun _ => ?_)⟩
        · refine ⟨l1, 4, _, rfl, rfl, upd_same, by decide, by decide, by show 4 ≤ sizeLine; decide, fun p3 hp3 => ⟨l2, p3, xs2, _, rfl, rfl, hl2 p3 _ hp3, upd_same, ?_, fun p4 hp4 => ⟨p4, _, _, _, _, rfl, fin 4 p3 (Nat.le_refl _) hp3 p4 hp4⟩⟩⟩
          exact Nat.le_of_lt (small1000 (by show xs2.length + 4 ≤ _; omega))
        · refine ⟨l1, 1, _, rfl, rfl, upd_same, by decide, by decide, by show 1 ≤ sizeLine; decide, fun p3 hp3 => ⟨l2, p3, xs2, _, rfl, rfl, hl2 p3 _ hp3, upd_same, ?_, fun p4 hp4 => ⟨p4, _, _, _, _, rfl, fin 1 p3 (by decide) hp3 p4 hp4⟩⟩⟩
          exact Nat.le_of_lt (small1000 (by show xs2.length + 1 ≤ _; omega))
      · rintro σ H2 ⟨l2, xs2, ps2, v7, v8, rfl, J⟩
        exact ⟨l2, xs2, ps2, _, _, _, _, rfl, ⟨J.s, J.hl, J.hn, J.dp, by have := J.len; omega, J.ok⟩⟩
    · rintro σ H1 ⟨l, xs, ps, v5, v6, v7, v8, rfl, I⟩
      have hlen : ps.length ≤ 300 := by
        have := I.len
        have := hok.len
        omega
      have xl := dpAll_len I.dp
      rw [List.length_map] at xl
      refine ⟨_, rfl, l, rfl, ⟨_, SqL.of I.hl⟩, fun D hD => ?_⟩
      refine lc_list (K := K) (a := l) (xs := xs) (fun n H' => Same H1 H' ∧ ∃ ys, H' D = some (.lst ys) ∧ ys.length ≤ n ∧ DpAll K H' ys (((ps.take n).filter fun p => decide (p ∉ qs)).map encP)) ⟨same_new hD, [], upd_same, Nat.zero_le _, .nil⟩ (fun n H' _ p => SqL.of (p.1 _ _ I.hl)) ?_ ?_
      · rintro n x H2 hn ⟨s2, ys, f, ly, dy⟩
        obtain ⟨d, hd1, hd2⟩ := dpAll_at I.dp hn
        rw [List.getElem?_map] at hd1
        obtain ⟨p, hp, rfl⟩ := Option.map_eq_some_iff.mp hd1
        obtain ⟨pn, hpn⟩ := I.ok p (List.mem_of_getElem? hp)
        have n9 : n < 300 := by
          have := (List.getElem?_eq_some_iff.mp hp).1
          omega
        have sH : Same H H2 := I.s.trans s2
        refine ⟨rfl, _, rfl, _, rfl, encP p, qs.map encP, dpSame s2 hd2, .lst (SqL.of (sH _ _ ht)) (dpSameAll sH dt), shaped_encP hok hpn, shaped_list hok hq, _, rfl, ?_⟩
        rw [any_encP]
        by_cases e : p ∈ qs
        · rw [decide_eq_true e]
          refine iteF ⟨s2, ys, f, by omega, ?_⟩
          rw [List.take_add_one, hp, List.filter_append, Option.toList_some, List.filter_cons, if_neg (by simp [e])]
          simpa using dy
        · rw [decide_eq_false e]
          refine iteT ⟨_, rfl, _, f, small1000 (by omega), fun b' u hb' => ?_, ys ++ [x], upd_same, by rw [List.length_append]; exact Nat.succ_le_succ ly, ?_⟩
          · rw [upd_ne (ne_of_none hb' hD)]
            exact s2 _ _ hb'
          · rw [List.take_add_one, hp, List.filter_append, Option.toList_some, List.filter_cons, if_pos (by simp [e]), List.map_append]
            exact dpAll_snoc (dpExb f Exb.put (noL_encP p) (dpSame s2 hd2)) (dpExbAll f Exb.put (noL_mapP _) dy)
      · rintro H2 ⟨s2, ys, f, ly, dy⟩
        have sH : Same H H2 := I.s.trans s2
        obtain ⟨ps', eps⟩ : ∃ ps', ps' = (ps.take xs.length).filter fun p => decide (p ∉ qs) := ⟨_, rfl⟩
        rw [← eps] at dy
        have ok' : ∀ p ∈ ps', (∃ n, PlcW hs p n) ∧ p ∉ qs := fun p hp => by
          rw [eps] at hp
          obtain ⟨p1, p2⟩ := List.mem_filter.mp hp
          exact ⟨I.ok p (List.mem_of_mem_take p1), of_decide_eq_true p2⟩
        have yl := dpAll_len dy
        rw [List.length_map] at yl
        have hb2 := sH _ _ hb
        have hDH : H D = none := I.s.free hD
        have nD : D ≠ b := fun z => by
          rw [z, hb] at hDH
          cases hDH
        refine ⟨_, rfl, Nat.zero_le _, fun l3 hl3 => ⟨.list (ps'.map encP), .list [], .lst (SqL.of (same_new hl3 _ _ f)) (dpSameAll (same_new hl3) dy), .lst (SqL.of upd_same) .nil, shaped_list hok (fun q hq => (ok' q hq).1), rfl, _, rfl, ?_⟩⟩
        rw [eqv_nil]
        have s3 := same_new (o := .lst []) hl3
        by_cases e : ps' = []
        · rw [e, decide_eq_true (by rfl)]
          refine iteF ⟨Nat.zero_le _, fun L hL => k _ L ⟨Exb.of (sH.trans (s3.trans (same_new hL))), o, m, c, (s3.trans (same_new hL)) _ _ hb2, ho⟩ ((sH.trans s3).free hL) (.inl upd_same)⟩
        · have e2 : ¬ ps'.map encP = [] := fun q => e (List.map_eq_nil_iff.mp q)
          rw [decide_eq_false e2]
          have pos : 0 < ys.length := by
            rw [yl]
            exact List.length_pos_iff.mpr e
          refine iteT ⟨_, rfl, _, rfl, b, .ref D, o, m, c, rfl, s3 _ _ hb2, ho, .inr (.inr ⟨D, ys, rfl, nD, s3 _ _ f, pos, by omega, fun H4 u o4 m4 c4 e4 hb4 ho4 hu => ?_⟩)⟩
          refine ⟨by show 1 ≤ sizeLine; decide, fun L hL => ?_⟩
          obtain ⟨d, hd1, hd2⟩ := dpAll_mem (dpSameAll s3 dy) hu
          obtain ⟨p, hp, rfl⟩ := List.mem_map.mp hd1
          obtain ⟨⟨pn, hpn⟩, hpq⟩ := ok' p hp
          have s5 := same_new (o := .lst [u]) hL
          have x4 : Exb b H H4 := (Exb.of (sH.trans s3)).trans e4
          refine k _ L ⟨x4.trans (Exb.of s5), o4, m4, c4, s5 _ _ hb4, ho4⟩ ?_ (.inr ⟨u, p, pn, upd_same, dpSame s5 (dpExb (s3 _ _ hb2) e4 (noL_encP p) hd2), hpn, hpq⟩)
          refine x4.fresh ?_ hL
          exact fun z => by
            rw [z, hb4] at hL
            cases hL
end
end LJ

namespace LJ
open PySem PySem.Spec PyProof.Rows L2 GuL HG Bt
abbrev sCases : Stmt := topS 69
/-! ### bits -/
theorem bor_nat (a b : Nat) : Builtin.bitOr (a : Int) (b : Int) = ((a ||| b : Nat) : Int) := by
  rw [Bits.bitOr_pp (Int.natCast_nonneg a) (Int.natCast_nonneg b), Int.toNat_natCast, Int.toNat_natCast]
theorem band_nat (a b : Nat) : Builtin.bitAnd (a : Int) (b : Int) = ((a &&& b : Nat) : Int) := by
  rw [bitAnd_pp (Int.natCast_nonneg a) (Int.natCast_nonneg b), Int.toNat_natCast, Int.toNat_natCast]
theorem one_nat (k : Nat) : (1 : Int) * 2 ^ ((k : Int).toNat) = ((2 ^ k : Nat) : Int) := by
  rw [Int.one_mul, Int.toNat_natCast, Int.natCast_pow]
  rfl
/-! ### cases -/
abbrev Cas := Nat × Nat × Str
def encC (c : Cas) : PyData := .tuple [.int (c.1 : Int), .int (c.2.1 : Int), .str c.2.2]
structure CasOk (n : Nat) (gs : List Str) (c : Cas) : Prop where
  w : c.1 < 2 ^ n
  m : c.2.1 < 2 ^ n
  i : c.1 &&& c.2.1 = c.1
  g : c.2.2 ∈ gs
theorem noL_encC (c : Cas) : NoL (encC c) := .tup fun d hd => by
  simp only [List.mem_cons, List.not_mem_nil, or_false] at hd
  rcases hd with rfl | rfl | rfl
  · exact .int _
  · exact .int _
  · exact .str _
theorem noL_mapC (cs : List Cas) : ∀ d ∈ cs.map encC, NoL d := fun d hd => by
  obtain ⟨q, _, rfl⟩ := List.mem_map.mp hd
  exact noL_encC q
def w8c : List Int := [0, 1, 1, 2, 2, 3, 4, 8]
theorem w8c_ok : ∀ x ∈ w8c, 0 ≤ x ∧ x ≤ 8 := by decide
section
variable {P : Program} {w : World} {K : PySem.W.Frag} {mg : Str → Option Value} {base : Heap}
theorem scCases : FnScope ["_law_jar_here", "_law_width_here", "_law_goals", "_law_few", "_law_top", "_law_shared", "_law_found", "_law_turn", "_law_mask"] ["_law_jar_here", "_law_width_here", "_law_goals", "_law_few"] (defScope sCases) := ⟨rfl, rfl, rfl, by decide +kernel, rfl, by decide +kernel, by decide +kernel⟩
def spCases (K : PySem.W.Frag) : Sp := fun vs H Q _ => ∃ (b g : Addr) (n : Nat) (gs : List Str) (few o m c : Int), vs = [.ref b, .int (n : Int), .ref g, .int few] ∧ H b = some (bw o m c) ∧ 0 ≤ o ∧ 1 ≤ n ∧ n ≤ 32 ∧ g ≠ b ∧ H g = some (.lst (gs.map V.str)) ∧ gs ≠ [] ∧ gs.length ≤ 100 ∧
  ∀ H' v (cs : List Cas), Jr b H H' → Dp K H' v (.tuple (cs.map encC)) → cs.length ≤ 8 → (∀ c ∈ cs, CasOk n gs c) → Q v H'
theorem ok_cases {f fD fO fN fW : Addr} {fd fdD fdO fdN dW : FuncData} (F : Fun K "_law_cases" "_law_cases" sCases f fd) (B : Blt mg) (Z : Drw P w K mg base fD fO fN fdD fdO fdN) (KW : Kn P w K mg base 2 "_law_word" sWord ["_law_jar_here", "_law_width_here"] spWord fW dW) : FnOk P w K mg base CX0 3 f fd ["_law_jar_here", "_law_width_here", "_law_goals", "_law_few"] (spCases K) := by
  refine F.ok scCases (fun vs H Q E h => ?_) (fun cdv A outer s H vs Q E hr h => ?_)
  · obtain ⟨b, g, n, gs, few, o, m, c, rfl, _⟩ := h
    rfl
  · obtain ⟨b, g, n, gs, few, o, m, c, rfl, hb, ho, n1, n32, ng, hg, gs0, gs1, k⟩ := h
    refine ⟨_, (pss_cons (ps_par3 (i := 4) (j := 5) (l := 6) rfl scCases.nd rfl rfl rfl (by decide) (by decide) (by decide) rfl rfl rfl (pa_cons (pe_op op_sub (pe_op op_shl pe_int (pv 1)) pe_int) (pa_cons pe_int (pa_cons (pe_lst pa_nil) pa_nil))) (by rfl)) (pss_cons (ps_for PassesOwn.never rfl (pi_range1 (by rfl) B.range (pa_cons pe_int pa_nil)) (pg_name (i := 7) scCases.nd rfl (.inl rfl)) (pss_one (ps_set (i := 5) scCases.nd rfl (.inl rfl) (pe_op op_or (pv 5) (pe_op op_shl pe_int (pe_call Z.GD (hr.mono (by decide)) (by rfl) Z.gD Z.FD.kp Z.bD .nil pass0 (pa_cons (pv 0) (pa_cons (pv 1) pa_nil)))))))) (Evl.pss_cut (ps_set (i := 5) scCases.nd rfl (.inl rfl) (pe_ifExp (pt_cmpR op_eq (pv 3) pe_int (nomark _)) (pv 5) (pv 4))) (pss_cons (ps_for PassesOwn.never rfl (pi_range1 (by rfl) B.range (pa_cons (pe_call Z.GO (hr.mono (by decide)) (by rfl) Z.gO Z.FO.kp Z.bO .nil pass0 (pa_cons (pv 0) (pa_cons (pe_lst (pa_cons pe_int (pa_cons pe_int (pa_cons pe_int (pa_cons pe_int (pa_cons pe_int (pa_cons pe_int (pa_cons pe_int (pa_cons pe_int pa_nil))))))))) pa_nil))) pa_nil)) (pg_name (i := 7) scCases.nd rfl (.inl rfl)) (pss_cons (ps_set (i := 8) scCases.nd rfl (.inl rfl) (pe_call Z.GO (hr.mono (by decide)) (by rfl) Z.gO Z.FO.kp Z.bO .nil pass0 (pa_cons (pv 0) (pa_cons (pe_lst (pa_cons (pv 5) (pa_cons (pv 5) (pa_cons (pe_op op_and (pv 5) (pe_call KW.G (hr.mono (by decide)) (by rfl) KW.g KW.F.kp KW.b .nil pass0 (pa_cons (pv 0) (pa_cons (pv 1) pa_nil)))) (pa_cons (pe_op op_and (pv 5) (pe_op op_shl pe_int (pe_call Z.GD (hr.mono (by decide)) (by rfl) Z.gD Z.FD.kp Z.bD .nil pass0 (pa_cons (pv 0) (pa_cons (pv 1) pa_nil))))) pa_nil))))) pa_nil)))) (pss_one (ps_expr (pe_bm PySem.F.plainAttrs_list PySem.F.slot_list_append PySem.F.type_list_append mt_append (pv 6) (pa_cons (pe_tup (pa_cons (pe_op op_and (pe_call KW.G (hr.mono (by decide)) (by rfl) KW.g KW.F.kp KW.b .nil pass0 (pa_cons (pv 0) (pa_cons (pv 1) pa_nil))) (pv 8)) (pa_cons (pv 8) (pa_cons (pe_call Z.GO (hr.mono (by decide)) (by rfl) Z.gO Z.FO.kp Z.bO .nil pass0 (pa_cons (pv 0) (pa_cons (pv 2) pa_nil))) pa_nil)))) pa_nil)))))) (pss_one (ps_ret (pe_callTy call_tuple_of (by rfl) B.tuple (by decide +kernel) (pa_cons (pv 6) pa_nil)))))))), ?_⟩
    have P1 : (1 : Nat) ≤ 2 ^ n := Nat.one_le_two_pow
    have eT : (1 : Int) * 2 ^ ((n : Int).toNat) - 1 = ((2 ^ n - 1 : Nat) : Int) := by
      rw [one_nat]
      omega
    have lt2 : ∀ {r : Nat}, r < n → 2 ^ r < 2 ^ n := fun h => Nat.pow_lt_pow_right (by decide) h
    refine ⟨_, rfl, _, _, rfl, rfl, ⟨by omega, by omega, by decide⟩, _, _, rfl, rfl, Nat.zero_le _, fun l hl => ⟨_, _, _, rfl, ?_⟩⟩
    simp only [eT]
    have nl : l ≠ b := fun z => by
      rw [z, hb] at hl
      cases hl
    have s0 := same_new (o := .lst []) hl
    refine ⟨6, rfl, by decide, by decide, for_range (lo := 0) (n := 6) (fun i σ H' => ∃ (sn : Nat) (v7 : Option V), σ = [some (.ref b), some (.int (n : Int)), some (.ref g), some (.int few), some (.int ((2 ^ n - 1 : Nat) : Int)), some (.int (sn : Int)), some (.ref l), v7, none] ∧ Jr b H H' ∧ H' l = some (.lst []) ∧ sn < 2 ^ n)
      ⟨0, _, rfl, ⟨Exb.of s0, o, m, c, s0 _ _ hb, ho⟩, upd_same, by omega⟩ ?_ ?_⟩
    · rintro i σ H1 hi ⟨sn, v7, rfl, ⟨e1, o1, m1, c1, hb1, ho1⟩, hl1, hsn⟩
      refine ⟨_, rfl, _, rfl, _, rfl, b, n, o1, m1, c1, rfl, hb1, ho1, by omega, by omega, fun H2 r o2 m2 c2 e2 hb2 ho2 r0 r1 => ?_⟩
      obtain ⟨rn, rfl⟩ := Int.eq_ofNat_of_zero_le r0
      have rl : rn < n := by omega
      refine ⟨_, _, rfl, rfl, ⟨r0, by omega, by decide⟩, _, _, rfl, rfl, ?_⟩
      simp only [one_nat, bor_nat]
      exact ⟨_, _, rfl, ⟨e1.trans e2, o2, m2, c2, hb2, ho2⟩, e2 _ _ nl hl1, Nat.or_lt_two_pow hsn (lt2 rl)⟩
    · rintro σ H1 ⟨sn0, v7, rfl, j1, hl1, hsn0⟩
      refine ⟨fun σ' H' => ∃ sn : Nat, σ' = [some (.ref b), some (.int (n : Int)), some (.ref g), some (.int few), some (.int ((2 ^ n - 1 : Nat) : Int)), some (.int (sn : Int)), some (.ref l), v7, none] ∧ H' = H1 ∧ sn < 2 ^ n, ?_, ?_⟩
      · refine ⟨_, rfl, rfl, _, rfl, ite2 (fun _ => ?_) (fun _ => ?_)⟩
        · exact ⟨_, rfl, sn0, rfl, rfl, hsn0⟩
        · exact ⟨_, rfl, _, rfl, rfl, by omega⟩
      · rintro σ' H' ⟨sn, rfl, rfl, hsn⟩
        obtain ⟨e1, o1, m1, c1, hb1, ho1⟩ := j1
        refine ⟨_, rfl, by show 8 ≤ sizeLine; decide, fun p hp => ?_⟩
        have np : p ≠ b := fun z => by
          rw [z, hb1] at hp
          cases hp
        refine ⟨b, .ref p, o1, m1, c1, rfl, by rw [upd_ne (Ne.symm np)]; exact hb1, ho1, .inr (.inr ⟨p, _, rfl, np, upd_same, by show 0 < 8; decide, by show 8 < 100000; decide, fun H2 v o2 m2 c2 e2 hb2 ho2 hv => ?_⟩)⟩
        obtain ⟨ci, hci, rfl⟩ := mem_ints (L := w8c) hv
        have cb := w8c_ok ci hci
        have x2 : Exb b H H2 := e1.trans ((Exb.of (same_new hp)).trans e2)
        have hl2 : H2 l = some (.lst []) := e2 _ _ nl (same_new hp _ _ hl1)
        refine ⟨ci, rfl, by omega, by omega, for_range (lo := 0) (n := ci.toNat) (fun i σ H' => ∃ (cs : List Cas) (xs : List V) (v7 v8 : Option V), σ = [some (.ref b), some (.int (n : Int)), some (.ref g), some (.int few), some (.int ((2 ^ n - 1 : Nat) : Int)), some (.int (sn : Int)), some (.ref l), v7, v8] ∧
            Jr b H H' ∧ H' l = some (.lst xs) ∧ DpAll K H' xs (cs.map encC) ∧ cs.length = i ∧ ∀ c ∈ cs, CasOk n gs c)
          ⟨[], [], _, _, rfl, ⟨x2, o2, m2, c2, hb2, ho2⟩, hl2, .nil, rfl, fun c hc => nomatch hc⟩ ?_ ?_⟩
        · rintro i σ H3 hi ⟨cs, xs, v7', v8, rfl, ⟨e3, o3, m3, c3, hb3, ho3⟩, hl3, dx, lc, okc⟩
          refine ⟨_, rfl, _, rfl, _, rfl, _, rfl, _, rfl, _, rfl, b, n, o3, m3, c3, rfl, hb3, ho3, n1, n32, fun H4 r4 j4 r40 r41 => ?_⟩
          obtain ⟨e4, o4, m4, c4, hb4, ho4⟩ := j4
          obtain ⟨rn, rfl⟩ := Int.eq_ofNat_of_zero_le r40
          refine ⟨_, _, rfl, rfl, ?_⟩
          simp only [band_nat]
          refine ⟨_, rfl, _, rfl, _, rfl, b, n, o4, m4, c4, rfl, hb4, ho4, by omega, by omega, fun H5 r5 o5 m5 c5 e5 hb5 ho5 r50 r51 => ?_⟩
          obtain ⟨rk, rfl⟩ := Int.eq_ofNat_of_zero_le r50
          refine ⟨_, _, rfl, rfl, ⟨r50, by omega, by decide⟩, _, _, rfl, rfl, ?_⟩
          simp only [one_nat, band_nat]
          refine ⟨by show 4 ≤ sizeLine; decide, fun p5 hp5 => ?_⟩
          have np5 : p5 ≠ b := fun z => by
            rw [z, hb5] at hp5
            cases hp5
          refine ⟨b, .ref p5, o5, m5, c5, rfl, by rw [upd_ne (Ne.symm np5)]; exact hb5, ho5, .inr (.inr ⟨p5, _, rfl, np5, upd_same, by show 0 < 4; decide, by show 4 < 100000; decide, fun H6 u o6 m6 c6 e6 hb6 ho6 hu => ?_⟩)⟩
          obtain ⟨mk, rfl, hmk⟩ : ∃ mk : Nat, u = .int (mk : Int) ∧ mk < 2 ^ n := by
            simp only [List.mem_cons, List.not_mem_nil, or_false] at hu
            rcases hu with rfl | rfl | rfl | rfl
            · exact ⟨_, rfl, hsn⟩
            · exact ⟨_, rfl, hsn⟩
            · exact ⟨_, rfl, Nat.lt_of_le_of_lt Nat.and_le_left hsn⟩
            · exact ⟨_, rfl, Nat.lt_of_le_of_lt Nat.and_le_left hsn⟩
          have x6 : Exb b H3 H6 := (e4.trans e5).trans ((Exb.of (same_new hp5)).trans e6)
          have hl6 : H6 l = some (.lst xs) := x6 _ _ nl hl3
          refine ⟨_, rfl, .inl ⟨rfl, _, SqL.of hl6⟩, _, rfl, _, rfl, b, n, o6, m6, c6, rfl, hb6, ho6, n1, n32, fun H7 r7 j7 r70 r71 => ?_⟩
          obtain ⟨e7, o7, m7, c7, hb7, ho7⟩ := j7
          obtain ⟨rw7, rfl⟩ := Int.eq_ofNat_of_zero_le r70
          refine ⟨_, rfl, _, _, rfl, rfl, ?_⟩
          simp only [band_nat]
          have x7 : Exb b H3 H7 := x6.trans e7
          refine ⟨_, rfl, _, rfl, _, rfl, b, .ref g, o7, m7, c7, rfl, hb7, ho7, .inr (.inr ⟨g, _, rfl, ng, x7 _ _ ng (e3 _ _ ng hg), by rw [List.length_map]; exact List.length_pos_iff.mpr gs0, by rw [List.length_map]; omega, fun H8 v8' o8 m8 c8 e8 hb8 ho8 hv8 => ?_⟩)⟩
          obtain ⟨z, hz, rfl⟩ := mem_strs hv8
          have x8 : Exb b H3 H8 := x7.trans e8
          have hl8 : H8 l = some (.lst xs) := x8 _ _ nl hl3
          refine ⟨by show 3 ≤ sizeLine; decide, fun q hq => ?_⟩
          have s9 := same_new (o := .tup [.int ((rw7 &&& mk : Nat) : Int), .int (mk : Int), .str z]) hq
          have hl9 := s9 _ _ hl8
          refine ⟨l, xs, .ref q, rfl, rfl, hl9, ?_, cs ++ [(rw7 &&& mk, mk, z)], xs ++ [.ref q], _, _, rfl, ?_, upd_same, ?_, ?_, fun c hc => ?_⟩
          · rw [dpAll_len dx, List.length_map, lc]
            exact small1000 (by omega)
          · exact Jr.put ((⟨e3.trans x8, o8, m8, c8, hb8, ho8⟩ : Jr b H H8).same s9) hl nl
          · rw [List.map_append]
            have dq : Dp K (upd H8 q (.tup [.int ((rw7 &&& mk : Nat) : Int), .int (mk : Int), .str z])) (.ref q) (encC (rw7 &&& mk, mk, z)) := .tup (SqT.of upd_same) (.cons (.int _) (.cons (.int _) (.cons (.str z) .nil)))
            exact dpAll_snoc (dpExb hl9 Exb.put (noL_encC _) dq) (dpExbAll hl9 Exb.put (noL_mapC cs) (dpSameAll s9 (dpExbAll hb3 x8 (noL_mapC cs) dx)))
          · rw [List.length_append, lc]
            rfl
          · rcases List.mem_append.mp hc with hc | hc
            · exact okc c hc
            · rw [List.mem_singleton.mp hc]
              refine ⟨Nat.lt_of_le_of_lt Nat.and_le_right hmk, hmk, ?_, hz⟩
              show rw7 &&& mk &&& mk = rw7 &&& mk
              rw [Nat.and_assoc, Nat.and_self]
        · rintro σ H3 ⟨cs, xs, v7', v8, rfl, j3, hl3, dx, lc, okc⟩
          refine ⟨_, rfl, l, _, rfl, .inl ⟨SqL.of hl3, fun t ht => ?_⟩⟩
          have s4 := same_new (o := .tup xs) ht
          exact k _ _ cs (j3.same s4) (.tup (SqT.of upd_same) (dpSameAll s4 dx)) (by omega) okc
end
end LJ

namespace LJ
open PySem PySem.Spec PyProof.Rows L2 GuL HG Bt
abbrev sNext : Stmt := topS 70
/-! ### what comes behind a state -/
inductive Nxt where
  | acc : Nxt
  | rej : Nxt
  | go (z : Str) : Nxt
  | by_ (p : Plc) (cs : List Cas) (z : Str) : Nxt
def encN : Nxt → PyData
  | .acc => .tuple [.str "accept"]
  | .rej => .tuple [.str "refuse"]
  | .go z => .tuple [.str "go", .str z]
  | .by_ p cs z => .tuple [.str "by", encP p, .tuple (cs.map encC), .str z]
def endsN : List Str := ["accept", "refuse"]
inductive NxtOk (hs : List Hdr) (gs : List Str) : Nxt → Prop
  | acc : NxtOk hs gs .acc
  | rej : NxtOk hs gs .rej
  | go {z : Str} : z ∈ gs → z ∉ endsN → NxtOk hs gs (.go z)
  | by_ {p : Plc} {n : Nat} {cs : List Cas} {z : Str} : PlcW hs p n → cs.length ≤ 8 → (∀ c ∈ cs, CasOk n gs c) → z ∈ gs → NxtOk hs gs (.by_ p cs z)
def asksN : Nxt → List Plc
  | .by_ p _ _ => [p]
  | _ => []
theorem noL_encN : ∀ x, NoL (encN x)
  | .acc => .tup fun d hd => by
    simp only [List.mem_cons, List.not_mem_nil, or_false] at hd
    rw [hd]
    exact .str _
  | .rej => .tup fun d hd => by
    simp only [List.mem_cons, List.not_mem_nil, or_false] at hd
    rw [hd]
    exact .str _
  | .go z => .tup fun d hd => by
    simp only [List.mem_cons, List.not_mem_nil, or_false] at hd
    rcases hd with rfl | rfl <;> exact .str _
  | .by_ p cs z => .tup fun d hd => by
    simp only [List.mem_cons, List.not_mem_nil, or_false] at hd
    rcases hd with rfl | rfl | rfl | rfl
    · exact .str _
    · exact noL_encP p
    · exact .tup (noL_mapC cs)
    · exact .str _
theorem shaped_strs {zs : List Str} (h : ∀ z ∈ zs, Lay (.str z)) : SeqAt.shaped (.list (zs.map PyData.str)) = true := by
  have key : PyData.canLayAll0 (zs.map PyData.str) = true ∧ PyData.depthAll (zs.map PyData.str) = 0 := by
    induction zs with
    | nil => exact ⟨rfl, rfl⟩
    | cons z zs ih =>
      obtain ⟨i1, i2⟩ := ih fun x hx => h x (List.mem_cons_of_mem _ hx)
      have a : PyData.canLay0 (.str z) = true := h z List.mem_cons_self
      constructor
      · rw [List.map_cons, PyData.canLayAll0, a, i1]
        rfl
      · rw [List.map_cons, PyData.depthAll, i2, PyData.depth]
        rfl
  unfold SeqAt.shaped
  rw [PyData.canLay0, key.1, PyData.depth, key.2]
  rfl
section
variable {P : Program} {w : World} {K : PySem.W.Frag} {mg : Str → Option Value} {base : Heap}
theorem scNext : FnScope ["_law_jar_here", "_law_headers_here", "_law_own", "_law_goals", "_law_barred", "_law_few", "_law_way", "_law_later", "_law_place_here", "_law_cases_here", "_law_each"] ["_law_jar_here", "_law_headers_here", "_law_own", "_law_goals", "_law_barred", "_law_few"] (defScope sNext) := ⟨rfl, rfl, rfl, by decide +kernel, rfl, by decide +kernel, by decide +kernel⟩
def spNext (K : PySem.W.Frag) : Sp := fun vs H Q _ => ∃ (b g t : Addr) (v own : V) (hs : List Hdr) (gs : List Str) (ts : List V) (qs : List Plc) (few o m c : Int), vs = [.ref b, v, own, .ref g, .ref t, .int few] ∧ H b = some (bw o m c) ∧ 0 ≤ o ∧ Dp K H v (encHs hs) ∧ HeadersOk hs ∧
  (own = .non ∨ ∃ z, own = .str z) ∧ g ≠ b ∧ H g = some (.lst (gs.map V.str)) ∧ gs ≠ [] ∧ gs.length ≤ 100 ∧ (∀ z ∈ gs, Lay (.str z)) ∧ t ≠ b ∧ H t = some (.lst ts) ∧ DpAll K H ts (qs.map encP) ∧ (∀ q ∈ qs, ∃ n, PlcW hs q n) ∧
  ∀ H' u nx, Jr b H H' → Dp K H' u (encN nx) → NxtOk hs gs nx → (∀ p ∈ asksN nx, p ∉ qs) → Q u H'
theorem ok_next {f fD fO fN fW fP fC : Addr} {fd fdD fdO fdN dW dP dC : FuncData} (F : Fun K "_law_next" "_law_next" sNext f fd) (B : Blt mg) (Z : Drw P w K mg base fD fO fN fdD fdO fdN) (KW : Kn P w K mg base 2 "_law_width" sWidth ["_law_headers_here", "_law_place_here"] (spWidth K) fW dW)
    (KP : Kn P w K mg base 3 "_law_place" sPlace ["_law_jar_here", "_law_headers_here", "_law_own", "_law_barred"] (spPlace K) fP dP) (KC : Kn P w K mg base 3 "_law_cases" sCases ["_law_jar_here", "_law_width_here", "_law_goals", "_law_few"] (spCases K) fC dC) : FnOk P w K mg base CX0 4 f fd ["_law_jar_here", "_law_headers_here", "_law_own", "_law_goals", "_law_barred", "_law_few"] (spNext K) := by
  refine F.ok scNext (fun vs H Q E h => ?_) (fun cdv A outer s H vs Q E hr h => ?_)
  · obtain ⟨b, g, t, v, own, hs, gs, ts, qs, few, o, m, c, rfl, _⟩ := h
    rfl
  · obtain ⟨b, g, t, v, own, hs, gs, ts, qs, few, o, m, c, rfl, hb, ho, dv, hok, hown, ng, hg, gs0, gs1, gL, nt, ht, dt, hq, k⟩ := h
    refine ⟨_, (pss_cons (ps_par (i := 6) (j := 7) (by rfl) scNext.nd rfl rfl (by decide) rfl rfl (pa_cons (pe_call Z.GD (hr.mono (by decide)) (by rfl) Z.gD Z.FD.kp Z.bD .nil pass0 (pa_cons (pv 0) (pa_cons pe_int pa_nil))) (pa_cons (pe_lc (own := [("_law_each", 10)]) (g := gName 10) (tt := (tTest (tOp (rIn K true) (tVar 10) (tTup (tCons (tC (.str "accept")) (tCons (tC (.str "refuse")) tNil)))))) rfl scNext.nd (pi_list (pv 3)) (blkOk_by (N := ["_law_jar_here", "_law_headers_here", "_law_own", "_law_goals", "_law_barred", "_law_few", "_law_way", "_law_later", "_law_place_here", "_law_cases_here", "_law_each"]) (sc := defScope sNext) (by decide +kernel)) (fun _ _ _ _ _ => (pg_name (i := 10) scNext.nd rfl (.inl rfl))) (fun _ _ _ _ _ => (pts_one (pt_cmpR op_notIn_seq (pv 10) (pe_tup (pa_cons pe_str (pa_cons pe_str pa_nil))) (by rfl)))) (fun _ _ _ _ _ => (pv 10))) pa_nil)) (by rfl)) (pss_cons (ps_set (i := 8) scNext.nd rfl (.inl rfl) (pe_call KP.G (hr.mono (by decide)) (by rfl) KP.g KP.F.kp KP.b .nil pass0 (pa_cons (pv 0) (pa_cons (pv 1) (pa_cons (pv 2) (pa_cons (pv 4) pa_nil)))))) (Evl.pss_cut (ps_if (PW.pt (pw_and (pt_cmpR op_gt (pv 6) pe_int (nomark _)) (pw_and1 (pt_cmpR (op_neD hr.units) (pv 8) (pe_lst pa_nil) (nomark _))))) (pss_cons (ps_set (i := 9) scNext.nd rfl (.inl rfl) (pe_call KC.G (hr.mono (by decide)) (by rfl) KC.g KC.F.kp KC.b .nil pass0 (pa_cons (pv 0) (pa_cons (pe_call KW.G (hr.mono (by decide)) (by rfl) KW.g KW.F.kp KW.b .nil pass0 (pa_cons (pv 1) (pa_cons (pe_ix ix_list (pv 8) pe_int (fun _ _ => rfl)) pa_nil))) (pa_cons (pv 3) (pa_cons (pv 5) pa_nil)))))) (pss_one (ps_ret (pe_tup (pa_cons pe_str (pa_cons (pe_ix ix_list (pv 8) pe_int (fun _ _ => rfl)) (pa_cons (pv 9) (pa_cons (pe_call Z.GO (hr.mono (by decide)) (by rfl) Z.gO Z.FO.kp Z.bO .nil pass0 (pa_cons (pv 0) (pa_cons (pv 3) pa_nil))) pa_nil)))))))) pss_nil) (Evl.pss_cut (ps_if (PW.pt (pw_and (pt_cmpR op_gt (pv 6) pe_int (nomark _)) (pw_and1 (pt_cmpR (op_neD hr.units) (pv 7) (pe_lst pa_nil) (nomark _))))) (pss_one (ps_ret (pe_tup (pa_cons pe_str (pa_cons (pe_ix ix_list (pv 7) pe_int (fun _ _ => rfl)) pa_nil))))) pss_nil) (pss_one (ps_ret (pe_ifExp (pt_cmpR op_gt (pe_call Z.GD (hr.mono (by decide)) (by rfl) Z.gD Z.FD.kp Z.bD .nil pass0 (pa_cons (pv 0) (pa_cons pe_int pa_nil))) pe_int (nomark _)) (pe_tup (pa_cons pe_str pa_nil)) (pe_tup (pa_cons pe_str pa_nil))))))))), ?_⟩
    refine ⟨_, rfl, b, 8, o, m, c, rfl, hb, ho, by decide, by decide, fun H1 r1 o1 m1 c1 e1 hb1 ho1 r10 r11 => ?_⟩
    have hg1 := e1 _ _ ng hg
    refine ⟨_, rfl, g, rfl, ⟨_, SqL.of hg1⟩, fun D hD => ?_⟩
    refine lc_list (K := K) (a := g) (xs := gs.map V.str) (fun n H' => Same H1 H' ∧ H' D = some (.lst (((gs.take n).filter fun z => decide (z ∉ endsN)).map V.str))) ⟨same_new hD, upd_same⟩ (fun n H' _ p => SqL.of (p.1 _ _ hg1)) ?_ ?_
    · rintro n x H2 hn ⟨s2, f⟩
      rw [List.getElem?_map] at hn
      obtain ⟨z, hz, rfl⟩ := Option.map_eq_some_iff.mp hn
      have n9 : n < 100 := by
        have := (List.getElem?_eq_some_iff.mp hz).1
        omega
      refine ⟨rfl, _, rfl, by show 2 ≤ sizeLine; decide, fun p hp => ?_⟩
      have s3 := same_new (o := .tup [.str "accept", .str "refuse"]) hp
      refine ⟨p, endsN.map V.str, rfl, .inr (SqT.of upd_same), rfl, rfl, !inV (.str z) (endsN.map V.str), rfl, ?_⟩
      rw [inV_strs]
      by_cases e : z ∈ endsN
      · rw [decide_eq_true e]
        refine iteF ⟨s2.trans s3, ?_⟩
        rw [List.take_add_one, hz, List.filter_append, Option.toList_some, List.filter_cons, if_neg (by simp [e]), List.filter_nil, List.append_nil]
        exact s3 _ _ f
      · rw [decide_eq_false e]
        refine iteT ⟨_, rfl, _, s3 _ _ f, ?_, fun b' u hb' => ?_, ?_⟩
        · rw [List.length_map]
          exact small1000 (Nat.le_trans (List.length_filter_le _ _) (Nat.le_trans (List.length_take_le _ _) (by omega)))
        · rw [upd_ne (ne_of_none hb' hD)]
          exact s3 _ _ (s2 _ _ hb')
        · rw [upd_same, List.take_add_one, hz, List.filter_append, Option.toList_some, List.filter_cons, if_pos (by simp [e]), List.map_append]
          rfl
    · rintro H2 ⟨s2, f⟩
      rw [List.length_map, List.take_length] at f
      obtain ⟨zs, ez⟩ : ∃ zs, zs = gs.filter fun z => decide (z ∉ endsN) := ⟨_, rfl⟩
      rw [← ez] at f
      have hb2 := s2 _ _ hb1
      have nD : D ≠ b := fun z => by
        rw [z, hb1] at hD
        cases hD
      have x2 : Exb b H H2 := e1.trans (Exb.of s2)
      refine ⟨_, _, rfl, _, rfl, _, rfl, _, rfl, _, rfl, b, t, v, own, hs, ts, qs, o1, m1, c1, rfl, hb2, ho1, dpExb hb x2 (noL_encHs hs) dv, hok, hown, nt, x2 _ _ nt ht, dpExbAll hb x2 (noL_mapP qs) dt, hq, fun H3 D3 j3 hD3 hres => ?_⟩
      obtain ⟨e3, o3, m3, c3, hb3, ho3⟩ := j3
      have x3 : Exb b H H3 := x2.trans e3
      have f3 := e3 _ _ nD f
      have dv3 := dpExb hb x3 (noL_encHs hs) dv
      have nD3 : D3 ≠ b := fun z => by
        rw [z, hb2] at hD3
        cases hD3
      refine ⟨fun σ' H' => σ' = [some (.ref b), some v, some own, some (.ref g), some (.ref t), some (.int few), some (.int r1), some (.ref D), some (.ref D3), none, none] ∧ Jr b H H' ∧ H' D = some (.lst (zs.map V.str)), ?_, ?_⟩
      · refine ⟨_, rfl, _, _, rfl, rfl, _, rfl, ite2 (fun _ => ?_) (fun _ => iteF ⟨rfl, ⟨x3, o3, m3, c3, hb3, ho3⟩, f3⟩)⟩
        refine ⟨_, rfl, Nat.zero_le _, fun l3 hl3 => ?_⟩
        have s4 := same_new (o := .lst []) hl3
        have j4 : Jr b H (upd H3 l3 (.lst [])) := ⟨x3.trans (Exb.of s4), o3, m3, c3, s4 _ _ hb3, ho3⟩
        rcases hres with hres | ⟨u, p, pn, hres, du, pw, hpq⟩
        · refine ⟨.list [], .list [], .lst (SqL.of (s4 _ _ hres)) .nil, .lst (SqL.of upd_same) .nil, rfl, rfl, _, rfl, ?_⟩
          rw [eqv_nil]
          exact iteF ⟨rfl, j4, s4 _ _ f3⟩
        · have du4 := dpSame s4 du
          have sh : SeqAt.shaped (.list ([p].map encP)) = true := shaped_list hok fun q hq => by
            rw [List.mem_singleton.mp hq]
            exact ⟨pn, pw⟩
          refine ⟨.list ([p].map encP), .list [], .lst (SqL.of (s4 _ _ hres)) (.cons du4 .nil), .lst (SqL.of upd_same) .nil, sh, rfl, _, rfl, ?_⟩
          rw [eqv_nil]
          have hres4 := s4 _ _ hres
          refine iteT ⟨_, rfl, _, rfl, _, rfl, D3, _, 0, _, rfl, rfl, SqL.of hres4, atI_nat (j := 0) rfl, v, u, hs, p, pn, rfl, dpSame s4 dv3, hok, du4, pw, fun H5 s5 => ?_⟩
          obtain ⟨e5, o5, m5, c5, hb5, ho5⟩ := j4.same s5
          have wn := plcW_le hok pw
          refine ⟨_, rfl, _, rfl, b, g, pn, gs, few, o5, m5, c5, rfl, hb5, ho5, wn.1, wn.2, ng, e5 _ _ ng hg, gs0, gs1, fun H6 u6 cs j6 d6 l6 ok6 => ?_⟩
          have j6' := Jr.trans e5 j6
          obtain ⟨e6, o6, m6, c6, hb6, ho6⟩ := j6
          have h6 : H6 D3 = some (.lst [u]) := e6 _ _ nD3 (s5 _ _ hres4)
          have du6 : Dp K H6 u (encP p) := dpExb hb5 e6 (noL_encP p) (dpSame s5 du4)
          refine ⟨_, rfl, D3, _, 0, _, rfl, rfl, SqL.of h6, atI_nat (j := 0) rfl, _, rfl, _, rfl, _, rfl, b, .ref g, o6, m6, c6, rfl, hb6, ho6, .inr (.inr ⟨g, _, rfl, ng, j6'.e _ _ ng hg, by rw [List.length_map]; exact List.length_pos_iff.mpr gs0, by rw [List.length_map]; omega, fun H7 v7 o7 m7 c7 e7 hb7 ho7 hv7 => ?_⟩)⟩
          obtain ⟨z, hz, rfl⟩ := mem_strs hv7
          refine ⟨by show 4 ≤ sizeLine; decide, fun q hq => ?_⟩
          have s8 := same_new (o := .tup [.str "by", u, u6, .str z]) hq
          have dcs : Dp K H7 u6 (.tuple (cs.map encC)) := dpExb hb6 e7 (.tup (noL_mapC cs)) d6
          refine k _ _ (.by_ p cs z) ((⟨j6'.e.trans e7, o7, m7, c7, hb7, ho7⟩ : Jr b H H7).same s8) (.tup (SqT.of upd_same) (.cons (.str _) (.cons (dpSame s8 (dpExb hb6 e7 (noL_encP p) du6)) (.cons (dpSame s8 dcs) (.cons (.str z) .nil))))) (.by_ pw l6 ok6 hz) fun q hq => ?_
          rw [List.mem_singleton.mp hq]
          exact hpq
      · rintro σ' H4 ⟨rfl, j4, f4⟩
        refine ⟨fun σ' H' => σ' = [some (.ref b), some v, some own, some (.ref g), some (.ref t), some (.int few), some (.int r1), some (.ref D), some (.ref D3), none, none] ∧ Jr b H H', ?_, ?_⟩
        · refine ⟨_, rfl, _, _, rfl, rfl, _, rfl, ite2 (fun _ => ?_) (fun _ => iteF ⟨rfl, j4⟩)⟩
          refine ⟨_, rfl, Nat.zero_le _, fun l3 hl3 => ?_⟩
          have s5 := same_new (o := .lst []) hl3
          have f5 := s5 _ _ f4
          have j5 := j4.same s5
          have zg : ∀ z ∈ zs, z ∈ gs ∧ z ∉ endsN := fun z hz => by
            rw [ez] at hz
            exact ⟨(List.mem_filter.mp hz).1, of_decide_eq_true (List.mem_filter.mp hz).2⟩
          refine ⟨.list (zs.map PyData.str), .list [], .lst (SqL.of f5) (dpAll_strs zs), .lst (SqL.of upd_same) .nil, shaped_strs (fun z hz => gL z (zg z hz).1), rfl, _, rfl, ?_⟩
          rw [eqv_nil]
          cases zs with
          | nil => exact iteF ⟨rfl, j5⟩
          | cons z zs =>
            obtain ⟨z1, z2⟩ := zg z List.mem_cons_self
            refine iteT ⟨_, rfl, D, _, 0, _, rfl, rfl, SqL.of f5, atI_nat (j := 0) rfl, by show 2 ≤ sizeLine; decide, fun q hq => ?_⟩
            exact k _ _ (.go z) (j5.same (same_new hq)) (.tup (SqT.of upd_same) (.cons (.str _) (.cons (.str z) .nil))) (.go z1 z2) fun p hp => nomatch hp
        · rintro σ' H5 ⟨rfl, j5⟩
          obtain ⟨e5, o5, m5, c5, hb5, ho5⟩ := j5
          refine ⟨_, rfl, b, 4, o5, m5, c5, rfl, hb5, ho5, by decide, by decide, fun H6 r6 o6 m6 c6 e6 hb6 ho6 r60 r61 => ?_⟩
          have j6 : Jr b H H6 := ⟨e5.trans e6, o6, m6, c6, hb6, ho6⟩
          refine ⟨_, _, rfl, rfl, _, rfl, ite2 (fun _ => ?_) (fun _ => ?_)⟩
          · exact ⟨by show 1 ≤ sizeLine; decide, fun q hq => k _ _ .acc (j6.same (same_new hq)) (.tup (SqT.of upd_same) (.cons (.str _) .nil)) .acc fun p hp => nomatch hp⟩
          · exact ⟨by show 1 ≤ sizeLine; decide, fun q hq => k _ _ .rej (j6.same (same_new hq)) (.tup (SqT.of upd_same) (.cons (.str _) .nil)) .rej fun p hp => nomatch hp⟩
end
end LJ

namespace LJ
open PySem PySem.Spec PyProof.Rows L2 GuL HG Bt
/-! ### states -/
structure Sta where
  nm : Str
  hd : Option Str
  nx : Nxt
def optP : Option Str → PyData
  | none => .none
  | some z => .str z
def optV : Option Str → V
  | none => .non
  | some z => .str z
def encS (s : Sta) : PyData := .tuple [.str s.nm, optP s.hd, encN s.nx]
def encSs (ss : List Sta) : PyData := .tuple (ss.map encS)
inductive Thg where
  | rd (z : Str) : Thg
  | ask (p : Plc) : Thg
def rdT : Option Str → List Thg
  | none => []
  | some z => [.rd z]
def ownT (s : Sta) : List Thg := rdT s.hd ++ (asksN s.nx).map Thg.ask
def aimsN : Nxt → List Str
  | .acc => ["accept"]
  | .rej => ["refuse"]
  | .go z => [z]
  | .by_ _ cs z => cs.map (·.2.2) ++ [z]
/-- what is read and asked from this aim on -/
def Met : List Sta → Str → Thg → Prop
  | [], _, _ => False
  | s :: r, z, t => (z = s.nm ∧ (t ∈ ownT s ∨ ∃ a ∈ aimsN s.nx, Met r a t)) ∨ (z ≠ s.nm ∧ Met r z t)
structure StaOk (hs : List Hdr) (s : Sta) (r : List Sta) : Prop where
  nm : NameOk s.nm
  new : s.nm ∉ r.map (·.nm)
  hd : ∀ z, s.hd = some z → z ∈ hs.map (·.1)
  nx : NxtOk hs (r.map (·.nm) ++ endsN) s.nx
  tw : ∀ t ∈ ownT s, ∀ a ∈ aimsN s.nx, ¬ Met r a t
def StsOk (hs : List Hdr) : List Sta → Prop
  | [] => True
  | s :: r => StsOk hs r ∧ StaOk hs s r
theorem met_name : ∀ {r : List Sta} {z : Str} {t : Thg}, Met r z t → z ∈ r.map (·.nm)
  | s :: r, z, t, h => by
    rcases h with ⟨h, _⟩ | ⟨_, h⟩
    · rw [h]
      exact List.mem_cons_self
    · exact List.mem_cons_of_mem _ (met_name h)
theorem ends_kept : ∀ z ∈ endsN, z ∈ keptN := by decide +kernel
theorem sts_names {hs : List Hdr} : ∀ {r : List Sta}, StsOk hs r → ∀ z ∈ r.map (·.nm), NameOk z
  | s :: r, h, z, hz => by
    rcases List.mem_cons.mp hz with hz | hz
    · rw [hz]
      exact h.2.nm
    · exact sts_names h.1 z hz
theorem met_ends {hs : List Hdr} {r : List Sta} (h : StsOk hs r) {z : Str} {t : Thg} (hz : z ∈ endsN) : ¬ Met r z t := fun m => (sts_names h z (met_name m)).nk (ends_kept z hz)
theorem nxt_mono {hs : List Hdr} {gs gs' : List Str} (h : ∀ z ∈ gs, z ∈ gs') {x : Nxt} : NxtOk hs gs x → NxtOk hs gs' x
  | .acc => .acc
  | .rej => .rej
  | .go a b => .go (h _ a) b
  | .by_ a b c e => .by_ a b (fun x hx => ⟨(c x hx).w, (c x hx).m, (c x hx).i, h _ (c x hx).g⟩) (h _ e)
theorem aims_in {hs : List Hdr} {gs : List Str} {x : Nxt} (h : NxtOk hs gs x) : ∀ a ∈ aimsN x, a ∈ gs ∨ a ∈ endsN := by
  intro a ha
  cases h with
  | acc => exact .inr (by rw [List.mem_singleton.mp ha]; decide +kernel)
  | rej => exact .inr (by rw [List.mem_singleton.mp ha]; decide +kernel)
  | go h1 h2 => exact .inl (by rw [List.mem_singleton.mp ha]; exact h1)
  | by_ h1 h2 h3 h4 =>
    rcases List.mem_append.mp ha with ha | ha
    · obtain ⟨c, hc, rfl⟩ := List.mem_map.mp ha
      exact .inl (h3 c hc).g
    · exact .inl (by rw [List.mem_singleton.mp ha]; exact h4)
/-- lists that know at least what is met -/
structure Cov (hs : List Hdr) (r : List Sta) (R : Str → List (Option Str)) (A : Str → List Plc) : Prop where
  rd : ∀ z y, Met r z (.rd y) → some y ∈ R z
  ask : ∀ z p, Met r z (.ask p) → p ∈ A z
theorem cov_nil {hs : List Hdr} (R : Str → List (Option Str)) (A : Str → List Plc) : Cov hs [] R A := ⟨fun _ _ h => h.elim, fun _ _ h => h.elim⟩
theorem cov_cons {hs : List Hdr} {r : List Sta} {R : Str → List (Option Str)} {A : Str → List Plc} (h : Cov hs r R A) (ok : StsOk hs r) {s : Sta} {gs : List Str} {rs : List (Option Str)} {ps : List Plc}
    (hx : NxtOk hs gs s.nx) (hR : ∀ z ∈ gs, ∀ y ∈ R z, y ∈ rs) (hA : ∀ z ∈ gs, ∀ y ∈ A z, y ∈ ps) :
    Cov hs (s :: r) (fun z => if z = s.nm then rs ++ [s.hd] else R z) (fun z => if z = s.nm then ps ++ asksN s.nx else A z) := by
  constructor
  · rintro z y (⟨rfl, m | ⟨a, ha, m⟩⟩ | ⟨ne, m⟩)
    · rw [if_pos rfl]
      rcases List.mem_append.mp m with m | m
      · cases e : s.hd with
        | none =>
          rw [e] at m
          exact nomatch m
        | some q =>
          rw [e] at m
          have e2 := List.mem_singleton.mp m
          injection e2 with e2
          rw [e2]
          exact List.mem_append_right _ List.mem_cons_self
      · obtain ⟨p, _, e⟩ := List.mem_map.mp m
        cases e
    · rw [if_pos rfl]
      rcases aims_in hx a ha with h1 | h1
      · exact List.mem_append_left _ (hR a h1 _ (h.rd a y m))
      · exact absurd m (met_ends ok h1)
    · rw [if_neg ne]
      exact h.rd z y m
  · rintro z p (⟨rfl, m | ⟨a, ha, m⟩⟩ | ⟨ne, m⟩)
    · rw [if_pos rfl]
      rcases List.mem_append.mp m with m | m
      · cases e : s.hd with
        | none =>
          rw [e] at m
          exact nomatch m
        | some q =>
          rw [e] at m
          have e2 := List.mem_singleton.mp m
          cases e2
      · obtain ⟨p', hp, e⟩ := List.mem_map.mp m
        injection e with e
        rw [← e]
        exact List.mem_append_right _ hp
    · rw [if_pos rfl]
      rcases aims_in hx a ha with h1 | h1
      · exact List.mem_append_left _ (hA a h1 _ (h.ask a p m))
      · exact absurd m (met_ends ok h1)
    · rw [if_neg ne]
      exact h.ask z p m
theorem sta_ok {hs : List Hdr} {r : List Sta} {R : Str → List (Option Str)} {A : Str → List Plc} (h : Cov hs r R A) (ok : StsOk hs r) {s : Sta} {gs : List Str} {rs : List (Option Str)} {ps : List Plc}
    (nm : NameOk s.nm) (new : s.nm ∉ r.map (·.nm)) (hx : NxtOk hs gs s.nx) (hg : ∀ z ∈ gs, z ∈ r.map (·.nm) ++ endsN) (hR : ∀ z ∈ gs, ∀ y ∈ R z, y ∈ rs) (hA : ∀ z ∈ gs, ∀ y ∈ A z, y ∈ ps)
    (hd : ∀ z, s.hd = some z → z ∈ hs.map (·.1) ∧ some z ∉ rs) (hq : ∀ p ∈ asksN s.nx, p ∉ ps) : StaOk hs s r := by
  refine ⟨nm, new, fun z e => (hd z e).1, nxt_mono hg hx, fun t ht a ha m => ?_⟩
  rcases aims_in hx a ha with h1 | h1
  · rcases List.mem_append.mp ht with ht | ht
    · cases e : s.hd with
      | none =>
        rw [e] at ht
        exact nomatch ht
      | some q =>
        rw [e] at ht
        rw [List.mem_singleton.mp ht] at m
        exact (hd q e).2 (hR a h1 _ (h.rd a q m))
    · obtain ⟨p, hp, rfl⟩ := List.mem_map.mp ht
      exact hq p hp (hA a h1 _ (h.ask a p m))
  · exact met_ends ok h1 m
/-! ### on the heap -/
theorem noL_optP : ∀ o, NoL (optP o)
  | none => .non
  | some z => .str z
theorem noL_encS (s : Sta) : NoL (encS s) := .tup fun d hd => by
  simp only [List.mem_cons, List.not_mem_nil, or_false] at hd
  rcases hd with rfl | rfl | rfl
  · exact .str _
  · exact noL_optP _
  · exact noL_encN _
theorem noL_mapS (ss : List Sta) : ∀ d ∈ ss.map encS, NoL d := fun d hd => by
  obtain ⟨q, _, rfl⟩ := List.mem_map.mp hd
  exact noL_encS q
theorem dp_opt {K : PySem.W.Frag} {H : Hp} : ∀ o, Dp K H (optV o) (optP o)
  | none => .non
  | some z => .str z
theorem inV_opt (z : Option Str) : ∀ ts : List (Option Str), inV (optV z) (ts.map optV) = decide (z ∈ ts)
  | [] => rfl
  | t :: ts => by
    have ih := inV_opt z ts
    unfold inV at ih ⊢
    rw [List.map_cons, List.any_cons, ih]
    cases z with
    | none => cases t with
      | none => simp [optV, eqV]
      | some t => simp [optV, eqV]
    | some z => cases t with
      | none => simp [optV, eqV]
      | some t =>
        show ((t == z) || decide (some z ∈ ts)) = _
        by_cases e : t = z
        · subst e
          simp
        · have e2 : ¬ z = t := fun q => e q.symm
          have e3 : (t == z) = false := by simpa using e
          rw [e3, Bool.false_or]
          simp [e2]
theorem flatO (ys : List (Option Str)) : (ys.map optV).all flatV = true := by
  rw [List.all_map]
  refine List.all_eq_true.mpr fun x _ => ?_
  cases x <;> rfl
theorem flat1 (y : Option Str) : flatV (optV y) = true := by
  cases y <;> rfl
end LJ

namespace LJ
open PySem PySem.Spec PyProof.Rows L2 GuL HG Bt
/-! ### data that stay where a dict is changed -/
theorem sqExd {K : PySem.W.Frag} {q a : Addr} {H H' : Hp} {kvs : List (Key × V)} {xs : List V} (hq : H q = some (.dK kvs)) (e : Exb q H H') (h : SqT K H a xs) : SqT K H' a xs := by
  rcases h with (h | ⟨o, h⟩) | h
  · exact .inl (.inl (e _ _ (fun z => by rw [z, hq] at h; cases h) h))
  · exact .inl (.inr ⟨o, e _ _ (fun z => by rw [z, hq] at h; cases h) h⟩)
  · exact .inr h
mutual
theorem dpExd {K : PySem.W.Frag} {b : Addr} {H H' : Hp} {kvs : List (Key × V)} (hb : H b = some (.dK kvs)) (e : Exb b H H') : ∀ {v : V} {d : PyData}, NoL d → Dp K H v d → Dp K H' v d
  | _, _, _, .non => .non
  | _, _, _, .bl b => .bl b
  | _, _, _, .int i => .int i
  | _, _, _, .str x => .str x
  | _, _, n, .lst _ _ => nomatch n
  | _, _, .tup n, .tup h r => .tup (sqExd hb e h) (dpExdAll hb e n r)
theorem dpExdAll {K : PySem.W.Frag} {b : Addr} {H H' : Hp} {kvs : List (Key × V)} (hb : H b = some (.dK kvs)) (e : Exb b H H') : ∀ {vs : List V} {ds : List PyData}, (∀ d ∈ ds, NoL d) → DpAll K H vs ds → DpAll K H' vs ds
  | _, _, _, .nil => .nil
  | _, _, n, .cons h r => .cons (dpExd hb e (n _ List.mem_cons_self) h) (dpExdAll hb e (fun d hd => n d (List.mem_cons_of_mem _ hd)) r)
end
/-- what is known behind an aim: (reads, asks) -/
def BEnt (K : PySem.W.Frag) (H : Hp) (b : Addr) (u : V) (rs : List (Option Str)) (ps : List Plc) : Prop := ∃ pa rl al xs, u = .ref pa ∧ SqT K H pa [.ref rl, .ref al] ∧ H rl = some (.lst (rs.map optV)) ∧ H al = some (.lst xs) ∧ DpAll K H xs (ps.map encP) ∧ rl ≠ b ∧ al ≠ b
theorem BEnt.exb {K : PySem.W.Frag} {H H' : Hp} {b : Addr} {u : V} {rs : List (Option Str)} {ps : List Plc} {xs0 : List V} (hb : H b = some (.lst xs0)) (e : Exb b H H') : BEnt K H b u rs ps → BEnt K H' b u rs ps := by
  rintro ⟨pa, rl, al, xs, h1, h2, h3, h4, h5, h6, h7⟩
  exact ⟨pa, rl, al, xs, h1, sqExb hb e h2, e _ _ h6 h3, e _ _ h7 h4, dpExbAll hb e (noL_mapP ps) h5, h6, h7⟩
theorem BEnt.exd {K : PySem.W.Frag} {H H' : Hp} {b q : Addr} {u : V} {rs : List (Option Str)} {ps : List Plc} {kvs : List (Key × V)} (hq : H q = some (.dK kvs)) (e : Exb q H H') : BEnt K H b u rs ps → BEnt K H' b u rs ps := by
  rintro ⟨pa, rl, al, xs, h1, h2, h3, h4, h5, h6, h7⟩
  refine ⟨pa, rl, al, xs, h1, sqExd hq e h2, e _ _ (fun z => ?_) h3, e _ _ (fun z => ?_) h4, dpExdAll hq e (noL_mapP ps) h5, h6, h7⟩
  · rw [z, hq] at h3
    cases h3
  · rw [z, hq] at h4
    cases h4
structure BhOk (K : PySem.W.Frag) (H : Hp) (b q : Addr) (n : Nat) (keys : List Str) (R : Str → List (Option Str)) (A : Str → List Plc) : Prop where
  nq : q ≠ b
  ex : ∃ kvs : List (Key × V), H q = some (.dK kvs) ∧ kvs.length ≤ n ∧ ∀ z ∈ keys, ∃ u, valV kvs (.inr z) = some u ∧ BEnt K H b u (R z) (A z)
theorem BhOk.exb {K : PySem.W.Frag} {H H' : Hp} {b q : Addr} {n : Nat} {keys : List Str} {R : Str → List (Option Str)} {A : Str → List Plc} {xs0 : List V} (hb : H b = some (.lst xs0)) (e : Exb b H H') (h : BhOk K H b q n keys R A) : BhOk K H' b q n keys R A := by
  obtain ⟨nq, kvs, h1, h2, h3⟩ := h
  exact ⟨nq, kvs, e _ _ nq h1, h2, fun z hz => by
    obtain ⟨u, u1, u2⟩ := h3 z hz
    exact ⟨u, u1, u2.exb hb e⟩⟩
/-- d[z] = (reads, asks) -/
theorem BhOk.put {K : PySem.W.Frag} {H : Hp} {b q : Addr} {n : Nat} {keys : List Str} {R : Str → List (Option Str)} {A : Str → List Plc} {z : Str} {u : V} {rs : List (Option Str)} {ps : List Plc} (h : BhOk K H b q n keys R A) (hu : BEnt K H b u rs ps) :
    ∃ kvs : List (Key × V), H q = some (.dK kvs) ∧ kvs.length ≤ n ∧ BhOk K (upd H q (.dK (putK kvs (.inr z) u))) b q (n + 1) (z :: keys) (fun y => if y = z then rs else R y) (fun y => if y = z then ps else A y) := by
  obtain ⟨nq, kvs, h1, h2, h3⟩ := h
  refine ⟨kvs, h1, h2, nq, _, upd_same, Nat.le_trans (length_putK _ _ _) (by omega), fun y hy => ?_⟩
  rw [valV_put]
  by_cases e : y = z
  · subst e
    rw [if_pos rfl, if_pos rfl, if_pos rfl]
    exact ⟨u, rfl, hu.exd h1 Exb.put⟩
  · have e2 : ¬ (Sum.inr y : Key) = Sum.inr z := fun c => e (by injection c)
    rw [if_neg e2, if_neg e, if_neg e]
    obtain ⟨u', u1, u2⟩ := h3 y (by
      rcases List.mem_cons.mp hy with hy | hy
      · exact absurd hy e
      · exact hy)
    exact ⟨u', u1, u2.exd h1 Exb.put⟩
/-! ### [x for x in some if x not in known] -/
theorem lcNewF {K : PySem.W.Frag} {σ : L2.St} {H : Hp} {Q : VK} {k r : Nat} {tl : TE} {sl rl : Addr} {es rs : List (Option Str)} (l99 : es.length ≤ 100000) (ht : ∀ R : VK, R (.ref sl) H → tl σ H R) (hs : H sl = some (.lst (es.map optV))) (hrl : H rl = some (.lst (rs.map optV)))
    (hw : ∀ x, wipe ((wipe σ [k]).set k (some x)) [k] = wipe σ [k]) (hk : ∀ x, ((wipe σ [k]).set k (some x))[k]? = some (some x)) (hr : ∀ x, ((wipe σ [k]).set k (some x))[r]? = some (some (.ref rl)))
    (q : ∀ D H', Same H H' → H D = none → H' D = some (.lst ((es.filter fun y => decide (y ∉ rs)).map optV)) → Q (.ref D) H') :
    tLc (iList K tl) (gName k) (tTest (tOp (rIn K true) (tVar k) (tVar r))) (tVar k) [k] σ H Q := by
  refine ht _ ⟨sl, rfl, ⟨_, SqL.of hs⟩, fun D hD => ?_⟩
  refine lc_list (K := K) (a := sl) (xs := es.map optV) (fun n H' => Same H H' ∧ H' D = some (.lst (((es.take n).filter fun y => decide (y ∉ rs)).map optV))) ⟨same_new hD, upd_same⟩ (fun n H' _ p => SqL.of (p.1 _ _ hs)) ?_ ?_
  · rintro n x H2 hn ⟨s2, f⟩
    rw [List.getElem?_map] at hn
    obtain ⟨z, hz, rfl⟩ := Option.map_eq_some_iff.mp hn
    have n9 : n < 100000 := by
      have := (List.getElem?_eq_some_iff.mp hz).1
      omega
    refine ⟨hw _, _, hk _, _, hr _, rl, rs.map optV, rfl, .inl (SqL.of (s2 _ _ hrl)), flat1 z, flatO rs, !inV (optV z) (rs.map optV), rfl, ?_⟩
    rw [inV_opt]
    by_cases e : z ∈ rs
    · rw [decide_eq_true e]
      refine iteF ⟨s2, ?_⟩
      rw [List.take_add_one, hz, List.filter_append, Option.toList_some, List.filter_cons, if_neg (by simp [e]), List.filter_nil, List.append_nil]
      exact f
    · rw [decide_eq_false e]
      refine iteT ⟨_, hk _, _, f, ?_, fun b' u hb' => ?_, ?_⟩
      · rw [List.length_map]
        exact Nat.lt_of_le_of_lt (Nat.le_trans (List.length_filter_le _ _) (Nat.le_trans (List.length_take_le _ _) (Nat.le_of_lt n9))) (by decide)
      · rw [upd_ne (ne_of_none hb' hD)]
        exact s2 _ _ hb'
      · rw [upd_same, List.take_add_one, hz, List.filter_append, Option.toList_some, List.filter_cons, if_pos (by simp [e]), List.map_append]
        rfl
  · rintro H2 ⟨s2, f⟩
    rw [List.length_map, List.take_length] at f
    exact q D H2 s2 hD f
theorem lcNewD {K : PySem.W.Frag} {σ : L2.St} {H : Hp} {Q : VK} {k r : Nat} {tl : TE} {sl rl : Addr} {hs : List Hdr} {es rs : List Plc} {xs ys : List V} (hok : HeadersOk hs) (l99 : es.length ≤ 100000) (ht : ∀ R : VK, R (.ref sl) H → tl σ H R) (hsl : H sl = some (.lst xs)) (dx : DpAll K H xs (es.map encP)) (hrl : H rl = some (.lst ys)) (dy : DpAll K H ys (rs.map encP))
    (oe : ∀ p ∈ es, ∃ n, PlcW hs p n) (or_ : ∀ p ∈ rs, ∃ n, PlcW hs p n)
    (hw : ∀ x, wipe ((wipe σ [k]).set k (some x)) [k] = wipe σ [k]) (hk : ∀ x, ((wipe σ [k]).set k (some x))[k]? = some (some x)) (hr : ∀ x, ((wipe σ [k]).set k (some x))[r]? = some (some (.ref rl)))
    (q : ∀ D H' zs, Same H H' → H D = none → H' D = some (.lst zs) → DpAll K H' zs ((es.filter fun y => decide (y ∉ rs)).map encP) → Q (.ref D) H') :
    tLc (iList K tl) (gName k) (tTest (tOp (rNotInD K) (tVar k) (tVar r))) (tVar k) [k] σ H Q := by
  have xl := dpAll_len dx
  rw [List.length_map] at xl
  refine ht _ ⟨sl, rfl, ⟨_, SqL.of hsl⟩, fun D hD => ?_⟩
  refine lc_list (K := K) (a := sl) (xs := xs) (fun n H' => Same H H' ∧ ∃ zs, H' D = some (.lst zs) ∧ zs.length ≤ n ∧ DpAll K H' zs (((es.take n).filter fun y => decide (y ∉ rs)).map encP)) ⟨same_new hD, [], upd_same, Nat.zero_le _, .nil⟩ (fun n H' _ p => SqL.of (p.1 _ _ hsl)) ?_ ?_
  · rintro n x H2 hn ⟨s2, zs, f, lz, dz⟩
    obtain ⟨d, hd1, hd2⟩ := dpAll_at dx hn
    rw [List.getElem?_map] at hd1
    obtain ⟨p, hp, rfl⟩ := Option.map_eq_some_iff.mp hd1
    obtain ⟨pn, hpn⟩ := oe p (List.mem_of_getElem? hp)
    have n9 : n < 100000 := by
      have := (List.getElem?_eq_some_iff.mp hp).1
      omega
    refine ⟨hw _, _, hk _, _, hr _, encP p, rs.map encP, dpSame s2 hd2, .lst (SqL.of (s2 _ _ hrl)) (dpSameAll s2 dy), shaped_encP hok hpn, shaped_list hok or_, _, rfl, ?_⟩
    rw [any_encP]
    by_cases e : p ∈ rs
    · rw [decide_eq_true e]
      refine iteF ⟨s2, zs, f, by omega, ?_⟩
      rw [List.take_add_one, hp, List.filter_append, Option.toList_some, List.filter_cons, if_neg (by simp [e]), List.filter_nil, List.append_nil]
      exact dz
    · rw [decide_eq_false e]
      refine iteT ⟨_, hk _, _, f, Nat.lt_of_le_of_lt (Nat.le_trans lz (Nat.le_of_lt n9)) (by decide), fun b' u hb' => ?_, zs ++ [x], upd_same, by rw [List.length_append]; exact Nat.succ_le_succ lz, ?_⟩
      · rw [upd_ne (ne_of_none hb' hD)]
        exact s2 _ _ hb'
      · rw [List.take_add_one, hp, List.filter_append, Option.toList_some, List.filter_cons, if_pos (by simp [e]), List.map_append]
        exact dpAll_snoc (dpExb f Exb.put (noL_encP p) (dpSame s2 hd2)) (dpExbAll f Exb.put (noL_mapP _) dz)
  · rintro H2 ⟨s2, zs, f, lz, dz⟩
    rw [List.take_of_length_le (by rw [xl]; exact Nat.le_refl _)] at dz
    exact q D H2 zs s2 hD f dz
/-- [name for name, fields in headers if name not in known] -/
theorem lcFree {K : PySem.W.Frag} {σ : L2.St} {H : Hp} {Q : VK} {i j k r : Nat} {ha rl : Addr} {hxs : List V} {hs : List Hdr} {rs : List (Option Str)} (l6 : hs.length ≤ 6) (hi : σ[i]? = some (some (.ref ha))) (hh : SqT K H ha hxs) (hd : DpAll K H hxs (hs.map encH)) (hrl : H rl = some (.lst (rs.map optV)))
    (hw : ∀ x y, wipe (((wipe σ [j, k]).set j (some x)).set k (some y)) [j, k] = wipe σ [j, k]) (hj : ∀ x y, (((wipe σ [j, k]).set j (some x)).set k (some y))[j]? = some (some x)) (hr : ∀ x y, (((wipe σ [j, k]).set j (some x)).set k (some y))[r]? = some (some (.ref rl)))
    (q : ∀ D H', Same H H' → H D = none → H' D = some (.lst (((hs.map fun h => some h.1).filter fun y => decide (y ∉ rs)).map optV)) → Q (.ref D) H') :
    tLc (iTup K (tVar i)) (gTup K 2 (gCons (gName j) (gCons (gName k) gNil))) (tTest (tOp (rIn K true) (tVar j) (tVar r))) (tVar j) [j, k] σ H Q := by
  have xl := dpAll_len hd
  rw [List.length_map] at xl
  refine ⟨_, hi, ha, rfl, ⟨_, hh⟩, fun D hD => ?_⟩
  refine lc_tup (K := K) (a := ha) (xs := hxs) (fun n H' => Same H H' ∧ H' D = some (.lst ((((hs.take n).map fun h => some h.1).filter fun y => decide (y ∉ rs)).map optV))) ⟨same_new hD, upd_same⟩ (fun n H' _ p => sameT p.1 hh) ?_ ?_
  · rintro n x H2 hn ⟨s2, f⟩
    obtain ⟨d, hd1, hd2⟩ := dpAll_at hd hn
    rw [List.getElem?_map] at hd1
    obtain ⟨h, hh2, rfl⟩ := Option.map_eq_some_iff.mp hd1
    obtain ⟨a, y, rfl, h1, h2⟩ := pair_dp (dpSame s2 hd2)
    have n9 : n < 6 := by
      have := (List.getElem?_eq_some_iff.mp hh2).1
      omega
    refine ⟨a, _, rfl, h1, rfl, _, _, rfl, _, _, rfl, rfl, hw _ _, _, hj _ _, _, hr _ _, rl, rs.map optV, rfl, .inl (SqL.of (s2 _ _ hrl)), flat1 (some h.1), flatO rs, !inV (optV (some h.1)) (rs.map optV), rfl, ?_⟩
    rw [inV_opt]
    by_cases e : some h.1 ∈ rs
    · rw [decide_eq_true e]
      refine iteF ⟨s2, ?_⟩
      rw [List.take_add_one, hh2, List.map_append, List.filter_append, Option.toList_some, List.map_cons, List.filter_cons, if_neg (by simp [e]), List.map_nil, List.filter_nil, List.append_nil]
      exact f
    · rw [decide_eq_false e]
      refine iteT ⟨_, hj _ _, _, f, ?_, fun b' u hb' => ?_, ?_⟩
      · rw [List.length_map]
        refine small1000 (Nat.le_trans (List.length_filter_le _ _) ?_)
        rw [List.length_map]
        exact Nat.le_trans (List.length_take_le _ _) (by omega)
      · rw [upd_ne (ne_of_none hb' hD)]
        exact s2 _ _ hb'
      · rw [upd_same, List.take_add_one, hh2, List.map_append, List.filter_append, Option.toList_some, List.map_cons, List.filter_cons, if_pos (by simp [e]), List.map_append]
        rfl
  · rintro H2 ⟨s2, f⟩
    rw [xl, List.take_length] at f
    exact q D H2 s2 hD f
end LJ

namespace LJ
open PySem PySem.Spec PyProof.Rows L2 GuL HG Bt
theorem hu1 {k : Nat} {A : Around} (r : Room k A) : A.units + 1 < cLine := by
  have := r.un
  omega
theorem cut_fromN (xs : List V) {a : Nat} (h : a ≤ xs.length) : cutV xs (some (a : Int)) none = xs.drop a := by
  unfold cutV
  rw [HT.sIx_nat, HT.sIx_none, Nat.min_eq_left h, List.take_of_length_le (by rw [List.length_drop]; exact Nat.le_refl _)]
theorem cut_sub (xs : List V) {a : Nat} (h : a ≤ xs.length) (hi : Option Int) {u : V} (hu : u ∈ cutV xs (some (a : Int)) hi) : u ∈ xs.drop a := by
  unfold cutV at hu
  rw [HT.sIx_nat, Nat.min_eq_left h] at hu
  exact List.mem_of_mem_take hu
/-- names[at + 1:] + names[at + 1:at + 2] * 3 + ["accept", "accept", "refuse"] -/
theorem teGoals {K : PySem.W.Frag} {σ : L2.St} {H : Hp} {Q : VK} {i j : Nat} {nl : Addr} {zs : List Str} {a : Nat} {n1 n2 : Int} (hi : σ[i]? = some (some (.ref nl))) (hj : σ[j]? = some (some (.int (a : Int)))) (hn : H nl = some (.lst (zs.map V.str))) (ha : a < zs.length) (l9 : zs.length ≤ 9) (e1 : n1 = 1)
    (q : ∀ D H' us, Same H H' → H D = none → H' D = some (.lst us) → 0 < us.length → us.length ≤ 99 → (∀ u ∈ us, ∃ z, u = .str z ∧ z ∈ zs.drop (a + 1) ++ endsN) → Q (.ref D) H') :
    tOp rCat (tOp rCat (tSl (rSlL K) (tVar i) (tPart (tOp (rI0 fun i j => V.int (i + j)) (tVar j) (tC (.int n1)))) tNoPart) (tOp rRep (tSl (rSlL K) (tVar i) (tPart (tOp (rI0 fun i j => V.int (i + j)) (tVar j) (tC (.int n1)))) (tPart (tOp (rI0 fun i j => V.int (i + j)) (tVar j) (tC (.int n2))))) (tC (.int 3))))
      (tLst (tCons (tC (.str "accept")) (tCons (tC (.str "accept")) (tCons (tC (.str "refuse")) tNil)))) σ H Q := by
  subst e1
  have ea : (a : Int) + 1 = ((a + 1 : Nat) : Int) := by omega
  have zl : (zs.map V.str).length = zs.length := List.length_map _
  refine ⟨_, hi, _, hj, _, _, rfl, rfl, _, rfl, nl, _, rfl, SqL.of hn, fun c1 h1 => ?_⟩
  simp only [ea]
  have s1 := same_new (o := .lst (cutV (zs.map V.str) (some ((a + 1 : Nat) : Int)) none)) h1
  refine ⟨_, hi, _, hj, _, _, rfl, rfl, _, rfl, _, hj, _, _, rfl, rfl, _, rfl, nl, _, rfl, SqL.of (s1 _ _ hn), fun c2 h2 => ?_⟩
  simp only [ea]
  obtain ⟨w2, ew2⟩ : ∃ w2, w2 = cutV (zs.map V.str) (some ((a + 1 : Nat) : Int)) (some ((a : Int) + n2)) := ⟨_, rfl⟩
  rw [← ew2]
  have l2 : w2.length ≤ 9 := by
    rw [ew2]
    exact Nat.le_trans (cutV_length _ _ _) (by omega)
  have l1 : (cutV (zs.map V.str) (some ((a + 1 : Nat) : Int)) none).length ≤ 9 := Nat.le_trans (cutV_length _ _ _) (by omega)
  have s2 := same_new (o := .lst w2) h2
  have l3 : (List.replicate 3 w2).flatten.length ≤ 27 := by
    simp [List.replicate]
    omega
  refine ⟨c2, 3, _, rfl, rfl, upd_same, by decide, by decide, Nat.le_of_lt (small1000 (by show w2.length * 3 ≤ _; omega)), fun c3 h3 => ?_⟩
  have s3 := same_new (o := .lst (List.replicate (3 : Int).toNat w2).flatten) h3
  refine ⟨c1, c3, _, _, rfl, rfl, s3 _ _ (s2 _ _ upd_same), upd_same, Nat.le_of_lt (small1000 (by show _ + (List.replicate 3 w2).flatten.length ≤ _; omega)), fun c4 h4 => ?_⟩
  have s4 := same_new (o := .lst (cutV (zs.map V.str) (some ((a + 1 : Nat) : Int)) none ++ (List.replicate (3 : Int).toNat w2).flatten)) h4
  refine ⟨by show 3 ≤ sizeLine; decide, fun c5 h5 => ?_⟩
  have s5 := same_new (o := .lst [.str "accept", .str "accept", .str "refuse"]) h5
  refine ⟨c4, c5, _, _, rfl, rfl, s5 _ _ upd_same, upd_same, Nat.le_of_lt (small1000 ?_), fun c6 h6 => ?_⟩
  · rw [List.length_append]
    show _ + (List.replicate 3 w2).flatten.length + 3 ≤ _
    omega
  have sA := s1.trans (s2.trans (s3.trans (s4.trans s5)))
  refine q c6 _ _ (sA.trans (same_new h6)) (sA.free h6) upd_same ?_ ?_ ?_
  · rw [List.length_append]
    show 0 < _ + 3
    omega
  · rw [List.length_append, List.length_append]
    show _ + (List.replicate 3 w2).flatten.length + 3 ≤ _
    omega
  · intro u hu
    have dz : ∀ v : V, v ∈ (zs.map V.str).drop (a + 1) → ∃ z, v = .str z ∧ z ∈ zs.drop (a + 1) ++ endsN := fun v hv => by
      rw [← List.map_drop] at hv
      obtain ⟨z, hz, rfl⟩ := List.mem_map.mp hv
      exact ⟨z, rfl, List.mem_append_left _ hz⟩
    rcases List.mem_append.mp hu with hu | hu
    · rcases List.mem_append.mp hu with hu | hu
      · exact dz u (cut_sub _ (by omega) _ hu)
      · obtain ⟨y, hy, hu⟩ := List.mem_flatten.mp hu
        rw [List.eq_of_mem_replicate hy, ew2] at hu
        exact dz u (cut_sub _ (by omega) _ hu)
    · simp only [List.mem_cons, List.not_mem_nil, or_false] at hu
      rcases hu with rfl | rfl | rfl
      · exact ⟨_, rfl, List.mem_append_right _ (by decide +kernel)⟩
      · exact ⟨_, rfl, List.mem_append_right _ (by decide +kernel)⟩
      · exact ⟨_, rfl, List.mem_append_right _ (by decide +kernel)⟩
theorem nxt_tag {x : Nxt} : ∃ (t : Str) (r : List PyData), encN x = .tuple (.str t :: r) := by
  cases x
  · exact ⟨_, _, rfl⟩
  · exact ⟨_, _, rfl⟩
  · exact ⟨_, _, rfl⟩
  · exact ⟨_, _, rfl⟩
theorem by_no1 : decide ((V.str "accept") = V.str "by") = false := by decide +kernel
theorem by_no2 : decide ((V.str "refuse") = V.str "by") = false := by decide +kernel
theorem by_no3 : decide ((V.str "go") = V.str "by") = false := by decide +kernel
theorem by_yes : decide ((V.str "by") = V.str "by") = true := by decide +kernel
/-- [step[1]] if step[0] == "by" else [] -/
theorem teAsk {K : PySem.W.Frag} {σ : L2.St} {H : Hp} {Q : VK} {i : Nat} {u : V} {x : Nxt} (hi : σ[i]? = some (some u)) (du : Dp K H u (encN x))
    (q : ∀ D H' ys, Same H H' → H D = none → H' D = some (.lst ys) → ys.length ≤ 1 → DpAll K H' ys ((asksN x).map encP) → Q (.ref D) H') :
    tIf (tTest (tOp rEq (tOp (rIxT K) (tVar i) (tC (.int 0))) (tC (.str "by")))) (tLst (tCons (tOp (rIxT K) (tVar i) (tC (.int 1))) tNil)) (tLst tNil) σ H Q := by
  have no : ∀ t : Str, decide (V.str t = V.str "by") = false → (∃ a xs, u = .ref a ∧ SqT K H a (.str t :: xs)) → asksN x = [] → tIf (tTest (tOp rEq (tOp (rIxT K) (tVar i) (tC (.int 0))) (tC (.str "by")))) (tLst (tCons (tOp (rIxT K) (tVar i) (tC (.int 1))) tNil)) (tLst tNil) σ H Q := by
    rintro t ht ⟨a, xs, rfl, ha⟩ e
    refine ⟨_, hi, a, _, 0, _, rfl, rfl, ha, atI_nat (j := 0) rfl, rfl, _, rfl, ?_⟩
    rw [ht]
    refine iteF ⟨Nat.zero_le _, fun D hD => q D _ [] (same_new hD) hD upd_same (Nat.zero_le _) ?_⟩
    rw [e]
    exact .nil
  cases x with
  | acc =>
    obtain ⟨a, xs, rfl, h1, h2⟩ := dp_tup du
    cases h2 with
    | cons h3 h4 =>
      rw [dp_str h3] at h1
      exact no _ by_no1 ⟨a, _, rfl, h1⟩ rfl
  | rej =>
    obtain ⟨a, xs, rfl, h1, h2⟩ := dp_tup du
    cases h2 with
    | cons h3 h4 =>
      rw [dp_str h3] at h1
      exact no _ by_no2 ⟨a, _, rfl, h1⟩ rfl
  | go z =>
    obtain ⟨a, xs, rfl, h1, h2⟩ := dp_tup du
    cases h2 with
    | cons h3 h4 =>
      rw [dp_str h3] at h1
      exact no _ by_no3 ⟨a, _, rfl, h1⟩ rfl
  | by_ p cs z =>
    obtain ⟨a, xs, rfl, h1, h2⟩ := dp_tup du
    cases h2 with
    | cons h3 h4 =>
      rw [dp_str h3] at h1
      cases h4 with
      | cons h5 h6 =>
        refine ⟨_, hi, a, _, 0, _, rfl, rfl, h1, atI_nat (j := 0) rfl, rfl, _, rfl, ?_⟩
        rw [by_yes]
        refine iteT ⟨_, hi, a, _, 1, _, rfl, rfl, h1, atI_nat (j := 1) rfl, by show 1 ≤ sizeLine; decide, fun D hD => q D _ _ (same_new hD) hD upd_same (Nat.le_refl _) (.cons (dpSame (same_new hD) h5) .nil)⟩
end LJ

namespace LJ
open PySem PySem.Spec PyProof.Rows L2 GuL HG Bt
abbrev sStates : Stmt := topS 71
theorem lay_ends : ∀ z ∈ endsN, Lay (.str z) := by
  intro z hz
  simp only [endsN, List.mem_cons, List.not_mem_nil, or_false] at hz
  rcases hz with rfl | rfl
  · show PyData.canLay0 _ = true
    decide +kernel
  · show PyData.canLay0 _ = true
    decide +kernel
/-- x = [..] + [None] -/
theorem asgFree {K : PySem.W.Frag} {σ : L2.St} {H : Hp} {D : Ends} {u : TS} {n i j k r : Nat} {ha rl : Addr} {hxs : List V} {hs : List Hdr} {rs : List (Option Str)} (l6 : hs.length ≤ 6) (hi : σ[i]? = some (some (.ref ha))) (hh : SqT K H ha hxs) (hd : DpAll K H hxs (hs.map encH)) (hrl : H rl = some (.lst (rs.map optV)))
    (hw : ∀ x y, wipe (((wipe σ [j, k]).set j (some x)).set k (some y)) [j, k] = wipe σ [j, k]) (hj : ∀ x y, (((wipe σ [j, k]).set j (some x)).set k (some y))[j]? = some (some x)) (hr : ∀ x y, (((wipe σ [j, k]).set j (some x)).set k (some y))[r]? = some (some (.ref rl)))
    (q : ∀ fr H', Same H H' → H fr = none → H' fr = some (.lst ((((hs.map fun (h : Hdr) => some h.1).filter fun y => decide (y ∉ rs)) ++ [none]).map optV)) → gName n (.ref fr) σ H' fun σ2 H2 => u D σ2 H2) :
    tSeq (tAsg (tOp rCat (tLc (iTup K (tVar i)) (gTup K 2 (gCons (gName j) (gCons (gName k) gNil))) (tTest (tOp (rIn K true) (tVar j) (tVar r))) (tVar j) [j, k]) (tLst (tCons (tC .non) tNil))) (gName n)) u D σ H := by
  show tLc (iTup K (tVar i)) (gTup K 2 (gCons (gName j) (gCons (gName k) gNil))) (tTest (tOp (rIn K true) (tVar j) (tVar r))) (tVar j) [j, k] σ H (fun x H1 => tLst (tCons (tC .non) tNil) σ H1 fun y H2 => rCat x y H2 fun z H3 => gName n z σ H3 fun σ2 H4 => u D σ2 H4)
  refine lcFree l6 hi hh hd hrl hw hj hr (fun D3 H3 s3 hD3 f3 => ⟨by show 1 ≤ sizeLine; decide, fun l3 hl3 => ⟨D3, l3, _, _, rfl, rfl, same_new hl3 _ _ f3, upd_same, ?_, fun fr hfr => ?_⟩⟩)
  · rw [List.length_map]
    refine Nat.le_of_lt (small1000 ?_)
    have h1 := List.length_filter_le (fun y => decide (y ∉ rs)) (hs.map fun (h : Hdr) => some h.1)
    rw [List.length_map] at h1
    show _ + 1 ≤ 1000
    omega
  · have s5 := s3.trans (same_new (o := .lst [.non]) hl3)
    refine q fr _ (s5.trans (same_new hfr)) (s5.free hfr) ?_
    rw [List.map_append]
    exact upd_same
structure SW (K : PySem.W.Frag) (hs : List Hdr) (H0 H : Hp) (b nl fl q : Addr) (zs : List Str) (many i : Nat) (ss : List Sta) (R : Str → List (Option Str)) (A : Str → List Plc) (M : Nat) : Prop where
  j : Jr b H0 H
  hn : H nl = some (.lst (zs.map V.str))
  nf : fl ≠ b
  hf : ∃ xs, H fl = some (.lst xs) ∧ DpAll K H xs (ss.map encS)
  nm : ss.map (·.nm) = zs.drop (many - i)
  ok : StsOk hs ss
  cov : Cov hs ss R A
  bh : BhOk K H b q (2 + i) (zs.drop (many - i) ++ endsN) R A
  lm : 2 * M + 1 ≤ 3 ^ i
  rm : ∀ z, (R z).length ≤ M
  am : ∀ z, (A z).length ≤ M
  po : ∀ z, ∀ p ∈ A z, ∃ n, PlcW hs p n
structure IW (K : PySem.W.Frag) (hs : List Hdr) (H1 H : Hp) (b gl rl al : Addr) (zs : List Str) (a : Nat) (gs : List Str) (rs : List (Option Str)) (ps : List Plc) (xs : List V) (jn : Nat) (R : Str → List (Option Str)) (A : Str → List Plc) (M : Nat) : Prop where
  j : Jr b H1 H
  hg : H gl = some (.lst (gs.map V.str))
  lg : gs.length = jn
  mg : ∀ z ∈ gs, z ∈ zs.drop (a + 1) ++ endsN
  hr : H rl = some (.lst (rs.map optV))
  nrb : rl ≠ b
  nrg : rl ≠ gl
  ha : H al = some (.lst xs)
  da : DpAll K H xs (ps.map encP)
  nab : al ≠ b
  nag : al ≠ gl
  cr : ∀ z ∈ gs, ∀ y ∈ R z, y ∈ rs
  ca : ∀ z ∈ gs, ∀ y ∈ A z, y ∈ ps
  po : ∀ p ∈ ps, ∃ n, PlcW hs p n
  lr : rs.length ≤ jn * M
  la : ps.length ≤ jn * M
theorem pow3 {i : Nat} (h : i ≤ 8) : 3 ^ i ≤ 6561 := by
  have : 3 ^ i ≤ 3 ^ 8 := Nat.pow_le_pow_right (by decide) h
  omega
theorem big10 {n : Nat} (h : n ≤ 100000) : n < sizeLine := Nat.lt_of_le_of_lt h (by decide)
section
variable {P : Program} {w : World} {K : PySem.W.Frag} {mg : Str → Option Value} {base : Heap}
theorem scStates : FnScope ["_law_jar_here", "_law_headers_here", "_law_many", "_law_few", "_law_names", "_law_found", "_law_behind", "_law_turn", "_law_at", "_law_goals", "_law_reads", "_law_asks", "_law_free", "_law_own", "_law_step", "_law_each", "_law_name_here", "_law_fields_here"] ["_law_jar_here", "_law_headers_here", "_law_many", "_law_few"] (defScope sStates) := ⟨rfl, rfl, rfl, by decide +kernel, rfl, by decide +kernel, by decide +kernel⟩
def spStates (K : PySem.W.Frag) : Sp := fun vs H Q _ => ∃ (b : Addr) (v : V) (hs : List Hdr) (many : Nat) (few o m c : Int), vs = [.ref b, v, .int (many : Int), .int few] ∧ H b = some (bw o m c) ∧ 0 ≤ o ∧ Dp K H v (encHs hs) ∧ HeadersOk hs ∧ 1 ≤ many ∧ many ≤ 8 ∧
  ∀ H' u (ss : List Sta), Jr b H H' → Dp K H' u (encSs ss) → ss.length = many → StsOk hs ss → Q u H'
theorem ok_states {f fD fO fN fX : Addr} {fd fdD fdO fdN dX : FuncData} (F : Fun K "_law_states" "_law_states" sStates f fd) (B : Blt mg) (Z : Drw P w K mg base fD fO fN fdD fdO fdN) (KX : Kn P w K mg base 4 "_law_next" sNext ["_law_jar_here", "_law_headers_here", "_law_own", "_law_goals", "_law_barred", "_law_few"] (spNext K) fX dX) : FnOk P w K mg base CX0 5 f fd ["_law_jar_here", "_law_headers_here", "_law_many", "_law_few"] (spStates K) := by
  refine F.ok scStates (fun vs H Q E h => ?_) (fun cdv A outer s H vs Q E hr h => ?_)
  · obtain ⟨b, v, hs, many, few, o, m, c, rfl, _⟩ := h
    rfl
  · obtain ⟨b, v, hs, many, few, o, m, c, rfl, hb, ho, dv, hok, m1, m8, k⟩ := h
    refine ⟨_, (pss_cons (ps_par3 (i := 4) (j := 5) (l := 6) rfl scStates.nd rfl rfl rfl (by decide) (by decide) (by decide) rfl rfl rfl (pa_cons (pe_lst pa_nil) (pa_cons (pe_lst pa_nil) (pa_cons (pe_disp (pps_cons pe_str (pe_tup (pa_cons (pe_lst pa_nil) (pa_cons (pe_lst pa_nil) pa_nil))) (pps_cons pe_str (pe_tup (pa_cons (pe_lst pa_nil) (pa_cons (pe_lst pa_nil) pa_nil))) pps_nil)) (by rfl) (by rfl) (by decide) (by decide)) pa_nil))) (by rfl)) (pss_cons (ps_for PassesOwn.never rfl (pi_range1 (by rfl) B.range (pa_cons (pv 2) pa_nil)) (pg_name (i := 7) scStates.nd rfl (.inl rfl)) (pss_one (ps_expr (pe_bm PySem.F.plainAttrs_list PySem.F.slot_list_append PySem.F.type_list_append mt_append (pv 4) (pa_cons (pe_call Z.GN (hr.mono (by decide)) (by rfl) Z.gN Z.FN.kp Z.bN .nil pass0 (pa_cons (pv 0) (pa_cons (pv 4) pa_nil))) pa_nil))))) (pss_cons (ps_for PassesOwn.never rfl (pi_range3 rfl B.range (pa_cons (pe_op op_sub (pv 2) pe_int) (pa_cons (pe_un un_neg pe_int) (pa_cons (pe_un un_neg pe_int) pa_nil)))) (pg_name (i := 8) scStates.nd rfl (.inl rfl)) (pss_cons (ps_asg (pe_tup (pa_cons (pe_lst pa_nil) (pa_cons (pe_lst pa_nil) (pa_cons (pe_lst pa_nil) pa_nil)))) (pg_tup (by rfl) (pgs_cons (pg_name (i := 9) scStates.nd rfl (.inl rfl)) (pgs_cons (pg_name (i := 10) scStates.nd rfl (.inr rfl)) (pgs_cons (pg_name (i := 11) scStates.nd rfl (.inr rfl)) pgs_nil))))) (pss_cons (ps_for PassesOwn.never rfl (pi_range1 (by rfl) B.range (pa_cons pe_int pa_nil)) (pg_name (i := 7) scStates.nd rfl (.inl rfl)) (pss_cons (ps_expr (pe_bm PySem.F.plainAttrs_list PySem.F.slot_list_append PySem.F.type_list_append mt_append (pv 9) (pa_cons (pe_call Z.GO (hr.mono (by decide)) (by rfl) Z.gO Z.FO.kp Z.bO .nil pass0 (pa_cons (pv 0) (pa_cons (pe_op op_cat (pe_op op_cat (pe_slice sl_list (pv 4) (po_some (pe_op op_add (pv 8) pe_int)) po_none) (pe_op op_rep (pe_slice sl_list (pv 4) (po_some (pe_op op_add (pv 8) pe_int)) (po_some (pe_op op_add (pv 8) pe_int))) pe_int)) (pe_lst (pa_cons pe_str (pa_cons pe_str (pa_cons pe_str pa_nil))))) pa_nil))) pa_nil))) (pss_cons (ps_set (i := 10) scStates.nd rfl (.inr rfl) (pe_op op_cat (pv 10) (pe_lc (own := [("_law_each", 15)]) (g := gName 15) (tt := (tTest (tOp (rIn K true) (tVar 15) (tVar 10)))) rfl scStates.nd (pi_list (pe_ix ix_tup (pe_dget (hu1 hr) (pv 6) (pe_ix ix_list (pv 9) (pv 7) (fun _ _ => rfl)) (fun _ _ => rfl)) pe_int (fun _ _ => rfl))) (blkOk_by (N := ["_law_jar_here", "_law_headers_here", "_law_many", "_law_few", "_law_names", "_law_found", "_law_behind", "_law_turn", "_law_at", "_law_goals", "_law_reads", "_law_asks", "_law_free", "_law_own", "_law_step", "_law_each", "_law_name_here", "_law_fields_here"]) (sc := defScope sStates) (by decide +kernel)) (fun _ _ _ _ _ => (pg_name (i := 15) scStates.nd rfl (.inl rfl))) (fun _ _ _ _ _ => (pts_one (pt_cmpR op_notIn_seq (pv 15) (pv 10) (by rfl)))) (fun _ _ _ _ _ => (pv 15))))) (pss_one (ps_set (i := 11) scStates.nd rfl (.inr rfl) (pe_op op_cat (pv 11) (pe_lc (own := [("_law_each", 15)]) (g := gName 15) (tt := (tTest (tOp (rNotInD K) (tVar 15) (tVar 11)))) rfl scStates.nd (pi_list (pe_ix ix_tup (pe_dget (hu1 hr) (pv 6) (pe_ix ix_list (pv 9) (pv 7) (fun _ _ => rfl)) (fun _ _ => rfl)) pe_int (fun _ _ => rfl))) (blkOk_by (N := ["_law_jar_here", "_law_headers_here", "_law_many", "_law_few", "_law_names", "_law_found", "_law_behind", "_law_turn", "_law_at", "_law_goals", "_law_reads", "_law_asks", "_law_free", "_law_own", "_law_step", "_law_each", "_law_name_here", "_law_fields_here"]) (sc := defScope sStates) (by decide +kernel)) (fun _ _ _ _ _ => (pg_name (i := 15) scStates.nd rfl (.inl rfl))) (fun _ _ _ _ _ => (pts_one (pt_cmpR (op_notInD (Room.u65 hr)) (pv 15) (pv 11) (by rfl)))) (fun _ _ _ _ _ => (pv 15))))))))) (pss_cons (ps_set (i := 12) scStates.nd rfl (.inl rfl) (pe_op op_cat (pe_lc (own := [("_law_name_here", 16), ("_law_fields_here", 17)]) (g := (gTup K 2 (gCons (gName 16) (gCons (gName 17) gNil)))) (tt := (tTest (tOp (rIn K true) (tVar 16) (tVar 10)))) rfl scStates.nd (pi_tup (pv 1)) (blkOk_by (N := ["_law_jar_here", "_law_headers_here", "_law_many", "_law_few", "_law_names", "_law_found", "_law_behind", "_law_turn", "_law_at", "_law_goals", "_law_reads", "_law_asks", "_law_free", "_law_own", "_law_step", "_law_each", "_law_name_here", "_law_fields_here"]) (sc := defScope sStates) (by decide +kernel)) (fun _ _ _ _ _ => (pg_tup rfl (pgs_cons (pg_name (i := 16) scStates.nd rfl (.inl rfl)) (pgs_cons (pg_name (i := 17) scStates.nd rfl (.inl rfl)) pgs_nil)))) (fun _ _ _ _ _ => (pts_one (pt_cmpR op_notIn_seq (pv 16) (pv 10) (by rfl)))) (fun _ _ _ _ _ => (pv 16))) (pe_lst (pa_cons pe_non pa_nil)))) (Evl.pss_cut (ps_set (i := 13) scStates.nd rfl (.inl rfl) (pe_ifExp (pt_cmpR op_eq (pe_call Z.GD (hr.mono (by decide)) (by rfl) Z.gD Z.FD.kp Z.bD .nil pass0 (pa_cons (pv 0) (pa_cons pe_int pa_nil))) pe_int (nomark _)) (pe_ix ix_list (pv 12) (pe_call Z.GD (hr.mono (by decide)) (by rfl) Z.gD Z.FD.kp Z.bD .nil pass0 (pa_cons (pv 0) (pa_cons (pe_callB call_len_seq (by rfl) B.len PySem.boot_len (pa_cons (pv 12) pa_nil)) pa_nil))) (fun _ _ => rfl)) (pe_ix ix_list (pv 12) (pe_call Z.GD (hr.mono (by decide)) (by rfl) Z.gD Z.FD.kp Z.bD .nil pass0 (pa_cons (pv 0) (pa_cons (pe_callB (call_max2 rfl) (by rfl) B.max (by decide +kernel) (pa_cons pe_int (pa_cons (pe_op op_sub (pe_callB call_len_seq (by rfl) B.len PySem.boot_len (pa_cons (pv 12) pa_nil)) pe_int) pa_nil))) pa_nil))) (fun _ _ => rfl)))) (pss_cons (ps_set (i := 14) scStates.nd rfl (.inl rfl) (pe_call KX.G (hr.mono (by decide)) (by rfl) KX.g KX.F.kp KX.b .nil pass0 (pa_cons (pv 0) (pa_cons (pv 1) (pa_cons (pv 13) (pa_cons (pv 9) (pa_cons (pv 11) (pa_cons (pv 3) pa_nil)))))))) (pss_cons (ps_set (i := 5) scStates.nd rfl (.inl rfl) (pe_op op_cat (pe_lst (pa_cons (pe_tup (pa_cons (pe_ix ix_list (pv 4) (pv 8) (fun _ _ => rfl)) (pa_cons (pv 13) (pa_cons (pv 14) pa_nil)))) pa_nil)) (pv 5))) (pss_one (ps_dput (hu1 hr) (pv 6) (pe_ix ix_list (pv 4) (pv 8) (fun _ _ => rfl)) (pe_tup (pa_cons (pe_op op_cat (pv 10) (pe_lst (pa_cons (pv 13) pa_nil))) (pa_cons (pe_op op_cat (pv 11) (pe_ifExp (pt_cmpR op_eq (pe_ix ix_tup (pv 14) pe_int (fun _ _ => rfl)) pe_str (nomark _)) (pe_lst (pa_cons (pe_ix ix_tup (pv 14) pe_int (fun _ _ => rfl)) pa_nil)) (pe_lst pa_nil))) pa_nil))) (by rfl)))))))))) (pss_one (ps_ret (pe_callTy call_tuple_of (by rfl) B.tuple (by decide +kernel) (pa_cons (pv 5) pa_nil))))))), ?_⟩
    have dv0 := dv
    obtain ⟨ha, hxs, rfl, hha, hhd⟩ := dp_tup dv
    refine ⟨Nat.zero_le _, fun nl hnl => ⟨Nat.zero_le _, fun fl hfl => fun q hq => ⟨Nat.zero_le _, fun a1 h1 => ⟨Nat.zero_le _, fun a2 h2 => ⟨by show 2 ≤ sizeLine; decide, fun a3 h3 => ⟨Nat.zero_le _, fun a4 h4 => ⟨Nat.zero_le _, fun a5 h5 => ⟨by show 2 ≤ sizeLine; decide, fun a6 h6 => ?_⟩⟩⟩⟩⟩⟩⟩⟩
    have sA := same_new (o := .lst []) hnl
    have sB := same_new (o := .lst []) hfl
    have sC := same_new (o := .dK []) hq
    have t1 := same_new (o := .lst []) h1
    have t2 := same_new (o := .lst []) h2
    have t3 := same_new (o := .tup [.ref a1, .ref a2]) h3
    have t4 := same_new (o := .lst []) h4
    have t5 := same_new (o := .lst []) h5
    have t6 := same_new (o := .tup [.ref a4, .ref a5]) h6
    have T26 := t2.trans (t3.trans (t4.trans (t5.trans t6)))
    have hqI := (t1.trans T26) _ _ (upd_same (H := upd (upd H nl (.lst [])) fl (.lst [])) (o := .dK []))
    refine ⟨hqI, [(.inr "accept", .ref a3), (.inr "refuse", .ref a6)], rfl, by show 2 ≤ 15; decide, ?_⟩
    obtain ⟨HI, eHI⟩ : ∃ HI, HI = upd (upd (upd (upd (upd (upd (upd (upd (upd H nl (.lst [])) fl (.lst [])) q (.dK [])) a1 (.lst [])) a2 (.lst [])) a3 (.tup [.ref a1, .ref a2])) a4 (.lst [])) a5 (.lst [])) a6 (.tup [.ref a4, .ref a5]) := ⟨_, rfl⟩
    rw [← eHI] at hqI t6 T26 ⊢
    have SI : Same H HI := sA.trans (sB.trans (sC.trans (t1.trans T26)))
    have hbI := SI _ _ hb
    have nlb : nl ≠ b := (ne_of_none hb hnl).symm
    have flb : fl ≠ b := (ne_of_none (sA _ _ hb) hfl).symm
    have qb : q ≠ b := (ne_of_none ((sA.trans sB) _ _ hb) hq).symm
    have hq0 : H q = none := (sA.trans sB).free hq
    have S12 := sA.trans (sB.trans sC)
    have fln : fl ≠ nl := (ne_of_none upd_same hfl).symm
    have p1 : HI a1 = some (.lst []) := T26 _ _ upd_same
    have p2 : HI a2 = some (.lst []) := (t3.trans (t4.trans (t5.trans t6))) _ _ upd_same
    have p3 : HI a3 = some (.tup [.ref a1, .ref a2]) := (t4.trans (t5.trans t6)) _ _ upd_same
    have p4 : HI a4 = some (.lst []) := (t5.trans t6) _ _ upd_same
    have p5 : HI a5 = some (.lst []) := t6 _ _ upd_same
    have p6 : HI a6 = some (.tup [.ref a4, .ref a5]) := by
      rw [eHI]
      exact upd_same
    have pn : HI nl = some (.lst []) := (sB.trans (sC.trans (t1.trans T26))) _ _ upd_same
    have pf : HI fl = some (.lst []) := (sC.trans (t1.trans T26)) _ _ upd_same
    have n1 : a1 ≠ b ∧ a1 ≠ nl := ⟨(ne_of_none (S12 _ _ hb) h1).symm, (ne_of_none ((sB.trans sC) _ _ upd_same) h1).symm⟩
    have n2 : a2 ≠ b ∧ a2 ≠ nl := ⟨(ne_of_none ((S12.trans t1) _ _ hb) h2).symm, (ne_of_none ((sB.trans (sC.trans t1)) _ _ upd_same) h2).symm⟩
    have n4 : a4 ≠ b ∧ a4 ≠ nl := ⟨(ne_of_none ((S12.trans (t1.trans (t2.trans t3))) _ _ hb) h4).symm, (ne_of_none ((sB.trans (sC.trans (t1.trans (t2.trans t3)))) _ _ upd_same) h4).symm⟩
    have n5 : a5 ≠ b ∧ a5 ≠ nl := ⟨(ne_of_none ((S12.trans (t1.trans (t2.trans (t3.trans t4)))) _ _ hb) h5).symm, (ne_of_none ((sB.trans (sC.trans (t1.trans (t2.trans (t3.trans t4))))) _ _ upd_same) h5).symm⟩
    have eKV : mergeK [] [((.inr "accept" : Key), V.ref a3), (.inr "refuse", .ref a6)] = putK (putK [] (.inr "accept") (.ref a3)) (.inr "refuse") (.ref a6) := rfl
    rw [eKV]
    obtain ⟨KV0, eK0⟩ : ∃ KV0 : List (Key × V), KV0 = putK (putK [] (.inr "accept") (.ref a3)) (.inr "refuse") (.ref a6) := ⟨_, rfl⟩
    rw [← eK0]
    have lK0 : KV0.length ≤ 2 := by
      rw [eK0]
      refine Nat.le_trans (length_putK _ _ _) ?_
      have := length_putK ([] : List (Key × V)) (.inr "accept") (.ref a3)
      simp at this
      omega
    have vK0 : ∀ z ∈ endsN, ∃ u, valV KV0 (.inr z) = some u ∧ (u = .ref a3 ∨ u = .ref a6) := by
      intro z hz
      rw [eK0]
      simp only [endsN, List.mem_cons, List.not_mem_nil, or_false] at hz
      rcases hz with rfl | rfl
      · rw [valV_put, if_neg (by decide +kernel), valV_put, if_pos rfl]
        exact ⟨_, rfl, .inl rfl⟩
      · rw [valV_put, if_pos rfl]
        exact ⟨_, rfl, .inr rfl⟩
    have xJ : Exb q HI (upd HI q (.dK KV0)) := Exb.put
    have nx : ∀ {p : Addr} {xs : List V}, HI p = some (.lst xs) → p ≠ q := fun h e => by
      rw [e, hqI] at h
      cases h
    have nt : ∀ {p : Addr} {xs : List V}, HI p = some (.tup xs) → p ≠ q := fun h e => by
      rw [e, hqI] at h
      cases h
    refine ⟨_, _, _, rfl, ?_⟩
    refine ⟨_, rfl, _, rfl, by omega, by omega, ?_⟩
    rw [Int.toNat_natCast]
    have j0 : Jr b H (upd HI q (.dK KV0)) := Jr.put ⟨Exb.of SI, o, m, c, hbI, ho⟩ hq0 qb
    refine for_range (lo := 0) (n := many) (fun i σ H' => ∃ (zs : List Str) (v7 : Option V), σ = [some (.ref b), some (.ref ha), some (.int (many : Int)), some (.int few), some (.ref nl), some (.ref fl), some (.ref q), v7, none, none, none, none, none, none, none, none, none, none] ∧ Jr b H H' ∧ H' nl = some (.lst (zs.map V.str)) ∧ zs.length = i ∧ zs.Nodup ∧ (∀ z ∈ zs, NameOk z) ∧
        ∀ p u, p ≠ b → p ≠ nl → (upd HI q (.dK KV0)) p = some u → H' p = some u)
      ⟨[], _, rfl, j0, xJ _ _ (nx pn) pn, rfl, List.nodup_nil, (fun z hz => nomatch hz), fun p u _ _ h => h⟩ ?_ ?_
    · rintro i σ H2 hi ⟨zs, v7, rfl, ⟨e2, o2, m2, c2, hb2, ho2⟩, hn2, lz, nd, nmz, X2⟩
      refine ⟨_, rfl, .inl ⟨rfl, _, SqL.of hn2⟩, _, rfl, _, rfl, b, nl, zs, o2, m2, c2, rfl, hb2, ho2, nlb, hn2, by omega, fun H3 z o3 m3 c3 e3 hb3 ho3 hz hzn => ?_⟩
      have hn3 := e3 _ _ nlb hn2
      refine ⟨nl, _, _, rfl, rfl, hn3, by rw [List.length_map]; exact small1000 (by omega), zs ++ [z], _, rfl, Jr.put ⟨e2.trans e3, o3, m3, c3, hb3, ho3⟩ hnl nlb, by rw [upd_same, List.map_append]; rfl, by rw [List.length_append, lz]; rfl, ?_, fun y hy => ?_, fun p u a1 a2 h => ?_⟩
      · rw [List.nodup_append]
        refine ⟨nd, by simp, fun x hx y hy => ?_⟩
        simp at hy
        subst hy
        exact fun e => hzn (e ▸ hx)
      · rcases List.mem_append.mp hy with hy | hy
        · exact nmz y hy
        · rw [List.mem_singleton.mp hy]
          exact hz
      · rw [upd_ne a2]
        exact e3 _ _ a1 (X2 p u a1 a2 h)
    · rintro σ H2 ⟨zs, v7, rfl, j2, hn2, lz, nd, nmz, X2⟩
      have qn : q ≠ nl := fun e => nx pn e.symm
      have g1 := X2 a1 _ n1.1 n1.2 (xJ _ _ (nx p1) p1)
      have g2 := X2 a2 _ n2.1 n2.2 (xJ _ _ (nx p2) p2)
      have g4 := X2 a4 _ n4.1 n4.2 (xJ _ _ (nx p4) p4)
      have g5 := X2 a5 _ n5.1 n5.2 (xJ _ _ (nx p5) p5)
      have nt3 : ∀ {p : Addr} {xs : List V}, HI p = some (.tup xs) → p ≠ b ∧ p ≠ nl := fun h => ⟨(fun e => by
        rw [e, hbI] at h
        cases h), (fun e => by
        rw [e, pn] at h
        cases h)⟩
      have g3 := X2 a3 _ (nt3 p3).1 (nt3 p3).2 (xJ _ _ (nt p3) p3)
      have g6 := X2 a6 _ (nt3 p6).1 (nt3 p6).2 (xJ _ _ (nt p6) p6)
      have gq := X2 q _ qb qn upd_same
      have gf := X2 fl _ flb fln (xJ _ _ (nx pf) pf)
      have b3 : BEnt K H2 b (.ref a3) [] [] := ⟨a3, a1, a2, [], rfl, SqT.of g3, g1, g2, .nil, n1.1, n2.1⟩
      have b6 : BEnt K H2 b (.ref a6) [] [] := ⟨a6, a4, a5, [], rfl, SqT.of g6, g4, g5, .nil, n4.1, n5.1⟩
      have W0 : SW K hs H H2 b nl fl q zs many 0 [] (fun _ => []) (fun _ => []) 0 := ⟨j2, hn2, flb, ⟨[], gf, .nil⟩, by
          rw [Nat.sub_zero, List.drop_of_length_le (by omega)]
          rfl, True.intro, cov_nil _ _, ⟨qb, KV0, gq, lK0, fun z hz => by
            rw [Nat.sub_zero, List.drop_of_length_le (by omega)] at hz
            obtain ⟨u, u1, u2⟩ := vK0 z hz
            refine ⟨u, u1, ?_⟩
            rcases u2 with rfl | rfl
            · exact b3
            · exact b6⟩, by decide, fun _ => Nat.le_refl _, fun _ => Nat.le_refl _, fun _ p hp => nomatch hp⟩
      refine ⟨_, rfl, _, _, rfl, rfl, 1, rfl, 1, rfl, (many : Int) - 1, -1, -1, many, rfl, rgDown (by omega), for_rangeC (lo := (many : Int) - 1) (c := -1) (n := many) (fun i σ H' => ∃ (fl : Addr) (ss : List Sta) (R : Str → List (Option Str)) (A : Str → List Plc) (M : Nat) (v7 v8 v9 v10 v11 v12 v13 v14 : Option V), σ = [some (.ref b), some (.ref ha), some (.int (many : Int)), some (.int few), some (.ref nl), some (.ref fl), some (.ref q), v7, v8, v9, v10, v11, v12, v13, v14, none, none, none] ∧ SW K hs H H' b nl fl q zs many i ss R A M)
        ⟨fl, [], _, _, 0, _, _, _, _, _, _, _, _, rfl, W0⟩ ?_ ?_⟩
      · rintro i σ H1 hi ⟨fl, ss, R, A, M, v7, v8, v9, v10, v11, v12, v13, v14, rfl, W⟩
        obtain ⟨a, ea, ha1⟩ : ∃ a : Nat, a = many - 1 - i ∧ a + 1 = many - i := ⟨_, rfl, by omega⟩
        have ea2 : (many : Int) - 1 + (i : Nat) * -1 = (a : Int) := by omega
        rw [ea2]
        have az : a < zs.length := by omega
        obtain ⟨z0, hz0⟩ : ∃ z0, zs[a]? = some z0 := ⟨zs[a], List.getElem?_eq_getElem az⟩
        have hat : atI (zs.map V.str) (a : Int) = some (V.str z0) := atI_nat (by rw [List.getElem?_map, hz0]; rfl)
        have hdrop : zs.drop a = z0 :: zs.drop (a + 1) := by
          rw [List.drop_eq_getElem_cons az]
          rw [List.getElem?_eq_getElem az] at hz0
          injection hz0 with hz0
          rw [hz0]
        have P3 := pow3 (i := i) (by omega)
        have M3 : M ≤ 3280 := by
          have := W.lm
          omega
        have Wbh := W.bh
        have Wnm := W.nm
        rw [← ha1] at Wbh Wnm
        obtain ⟨e1, o1, m1', c1, hb1, ho1⟩ := W.j
        refine ⟨Nat.zero_le _, fun gl hgl => ⟨Nat.zero_le _, fun rl hrl => ⟨Nat.zero_le _, fun al hal => ⟨by show 3 ≤ sizeLine; decide, fun tp htp => ⟨tp, _, rfl, SqT.of upd_same, rfl, _, _, rfl, _, _, rfl, _, _, rfl, rfl, ?_⟩⟩⟩⟩⟩
        have q1 := same_new (o := .lst []) hgl
        have q2 := same_new (o := .lst []) hrl
        have q3 := same_new (o := .lst []) hal
        have q4 := same_new (o := .tup [.ref gl, .ref rl, .ref al]) htp
        have Q14 := q1.trans (q2.trans (q3.trans q4))
        have ngl : gl ≠ b := (ne_of_none hb1 hgl).symm
        have I0 : IW K hs H1 (upd (upd (upd (upd H1 gl (.lst [])) rl (.lst [])) al (.lst [])) tp (.tup [.ref gl, .ref rl, .ref al])) b gl rl al zs a [] [] [] [] 0 R A M :=
          ⟨⟨Exb.of Q14, o1, m1', c1, Q14 _ _ hb1, ho1⟩, (q2.trans (q3.trans q4)) _ _ upd_same, rfl, (fun z hz => nomatch hz), (q3.trans q4) _ _ upd_same, (ne_of_none (q1 _ _ hb1) hrl).symm, (ne_of_none upd_same hrl).symm,
            q4 _ _ upd_same, .nil, (ne_of_none ((q1.trans q2) _ _ hb1) hal).symm, (ne_of_none (q2 _ _ upd_same) hal).symm, (fun z hz => nomatch hz), (fun z hz => nomatch hz), (fun z hz => nomatch hz), Nat.zero_le _, Nat.zero_le _⟩
        refine ⟨3, rfl, by decide, by decide, for_range (lo := 0) (n := 3) (fun j σ H' => ∃ (gs : List Str) (rs : List (Option Str)) (ps : List Plc) (xs : List V) (rl al : Addr) (v7 : Option V), σ = [some (.ref b), some (.ref ha), some (.int (many : Int)), some (.int few), some (.ref nl), some (.ref fl), some (.ref q), v7, some (.int (a : Int)), some (.ref gl), some (.ref rl), some (.ref al), v12, v13, v14, none, none, none] ∧ IW K hs H1 H' b gl rl al zs a gs rs ps xs j R A M)
          ⟨[], [], [], [], rl, al, _, rfl, I0⟩ ?_ ?_⟩
        · rintro j σ H2 hj ⟨gs, rs, ps, xs, rl, al, v7, rfl, I⟩
          have x12 := I.j.e
          obtain ⟨o2, m2, c2, hb2, ho2⟩ := I.j.at_
          refine ⟨_, rfl, .inl ⟨rfl, _, SqL.of I.hg⟩, _, rfl, ?_⟩
          refine teGoals (zs := zs) (a := a) rfl rfl (x12 _ _ nlb W.hn) az (by omega) rfl (fun D H3 us s3 hD f3 u0 u9 hu => ?_)
          have nD : D ≠ b := (ne_of_none hb2 hD).symm
          refine ⟨b, .ref D, o2, m2, c2, rfl, s3 _ _ hb2, ho2, .inr (.inr ⟨D, us, rfl, nD, f3, u0, by omega, fun H4 u o4 m4 c4 e4 hb4 ho4 hum => ?_⟩)⟩
          obtain ⟨z, rfl, hz⟩ := hu u hum
          have x24 : Exb b H2 H4 := (Exb.of s3).trans e4
          have hg4 := x24 _ _ ngl I.hg
          have lg := I.lg
          refine ⟨gl, _, _, rfl, rfl, hg4, by rw [List.length_map]; exact small1000 (by omega), ?_⟩
          have j4 : Jr b H1 H4 := ⟨x12.trans x24, o4, m4, c4, hb4, ho4⟩
          have j5 : Jr b H1 (upd H4 gl (.lst (gs.map V.str ++ [.str z]))) := j4.put hgl ngl
          obtain ⟨H5, eH5⟩ : ∃ H5, H5 = upd H4 gl (.lst (gs.map V.str ++ [.str z])) := ⟨_, rfl⟩
          rw [← eH5] at j5 ⊢
          have hg5 : H5 gl = some (.lst ((gs ++ [z]).map V.str)) := by
            rw [eH5, List.map_append]
            exact upd_same
          have x45 : Exb gl H4 H5 := by
            rw [eH5]
            exact Exb.put
          have hr5 := x45 _ _ I.nrg (x24 _ _ I.nrb I.hr)
          have ha5 := x45 _ _ I.nag (x24 _ _ I.nab I.ha)
          have da5 : DpAll K H5 xs (ps.map encP) := dpExbAll hg4 x45 (noL_mapP ps) (dpExbAll hb2 x24 (noL_mapP ps) I.da)
          obtain ⟨nq, kvs, hq5, lq, hent⟩ := Wbh.exb hb1 j5.e
          obtain ⟨u, hu1, pa, rlz, alz, xsz, rfl, hpa, hrz, haz, dz, nrz, naz⟩ := hent z hz
          have hat5 : atI ((gs ++ [z]).map V.str) ((0 : Int) + (j : Nat)) = some (V.str z) := by
            rw [Int.zero_add]
            refine atI_nat ?_
            rw [List.getElem?_map, List.getElem?_append_right (by omega), lg, Nat.sub_self]
            rfl
          have hget : ∀ {H' : Hp}, Same H5 H' → DGet H' q (.str z) (some (.ref pa)) := fun s => by
            rw [← hu1]
            exact DGet.k (k := .inr z) (s _ _ hq5)
          have rM := W.rm z
          have aM := W.am z
          have lr := I.lr
          have la := I.la
          have jM : j * M ≤ 2 * M := Nat.mul_le_mul_right M (by omega)
          have fr1 := List.length_filter_le (fun y => decide (y ∉ rs)) (R z)
          have fa1 := List.length_filter_le (fun y => decide (y ∉ ps)) (A z)
          refine ⟨_, rfl, ?_⟩
          refine lcNewF (sl := rlz) (rl := rl) (es := R z) (rs := rs) (by omega) (fun T t => ⟨_, rfl, _, rfl, _, rfl, gl, _, _, _, rfl, rfl, SqL.of hg5, hat5, q, _, rfl, hget (Same.refl _), pa, _, 0, _, rfl, rfl, hpa, atI_nat (j := 0) rfl, t⟩) hrz hr5 (fun _ => rfl) (fun _ => rfl) (fun _ => rfl) (fun D6 H6 s6 hD6 f6 => ?_)
          refine ⟨rl, D6, _, _, rfl, rfl, s6 _ _ hr5, f6, by rw [List.length_map, List.length_map]; exact Nat.le_of_lt (big10 (by omega)), fun rl2 hrl2 => ?_⟩
          have s7 := same_new (o := .lst (rs.map optV ++ ((R z).filter fun y => decide (y ∉ rs)).map optV)) hrl2
          have s67 := s6.trans s7
          refine ⟨_, rfl, ?_⟩
          refine lcNewD (sl := alz) (rl := al) (es := A z) (rs := ps) hok (by omega) (fun T t => ⟨_, rfl, _, rfl, _, rfl, gl, _, _, _, rfl, rfl, SqL.of (s67 _ _ hg5), hat5, q, _, rfl, hget s67, pa, _, 1, _, rfl, rfl, sameT s67 hpa, atI_nat (j := 1) rfl, t⟩) (s67 _ _ haz) (dpSameAll s67 dz) (s67 _ _ ha5) (dpSameAll s67 da5) (W.po z) I.po (fun _ => rfl) (fun _ => rfl) (fun _ => rfl) (fun D8 H8 zs8 s8 hD8 f8 d8 => ?_)
          have xl := dpAll_len I.da
          have zl := dpAll_len d8
          rw [List.length_map] at xl zl
          refine ⟨al, D8, _, _, rfl, rfl, s8 _ _ (s67 _ _ ha5), f8, Nat.le_of_lt (big10 (by omega)), fun al2 hal2 => ?_⟩
          have s9 := same_new (o := .lst (xs ++ zs8)) hal2
          have S68 := s67.trans s8
          have S59 := S68.trans s9
          obtain ⟨o5, m5, c5, hb5, ho5⟩ := j5.at_
          refine ⟨gs ++ [z], rs ++ (R z).filter (fun y => decide (y ∉ rs)), ps ++ (A z).filter (fun y => decide (y ∉ ps)), xs ++ zs8, rl2, al2, _, rfl, ?_⟩
          refine ⟨j5.same S59, S59 _ _ hg5, by rw [List.length_append, lg]; rfl, fun y hy => ?_, by rw [List.map_append]; exact (s8.trans s9) _ _ upd_same, (ne_of_none (s6 _ _ hb5) hrl2).symm, (ne_of_none (s6 _ _ hg5) hrl2).symm, upd_same, by rw [List.map_append]; exact dpAll_app (dpSameAll S59 da5) (dpSameAll s9 d8),
            (ne_of_none (S68 _ _ hb5) hal2).symm, (ne_of_none (S68 _ _ hg5) hal2).symm, fun y hy x hx => ?_, fun y hy x hx => ?_, fun p hp => ?_, ?_, ?_⟩
          · rcases List.mem_append.mp hy with hy | hy
            · exact I.mg y hy
            · rw [List.mem_singleton.mp hy]
              exact hz
          · by_cases e : x ∈ rs
            · exact List.mem_append_left _ e
            · rcases List.mem_append.mp hy with hy | hy
              · exact absurd (I.cr y hy x hx) e
              · rw [List.mem_singleton.mp hy] at hx
                exact List.mem_append_right _ (List.mem_filter.mpr ⟨hx, decide_eq_true e⟩)
          · by_cases e : x ∈ ps
            · exact List.mem_append_left _ e
            · rcases List.mem_append.mp hy with hy | hy
              · exact absurd (I.ca y hy x hx) e
              · rw [List.mem_singleton.mp hy] at hx
                exact List.mem_append_right _ (List.mem_filter.mpr ⟨hx, decide_eq_true e⟩)
          · rcases List.mem_append.mp hp with hp | hp
            · exact I.po p hp
            · exact W.po z p (List.mem_filter.mp hp).1
          · rw [List.length_append, Nat.succ_mul]
            omega
          · rw [List.length_append, Nat.succ_mul]
            omega
        · rintro σ H2 ⟨gs, rs, ps, xs, rl, al, v7, rfl, I⟩
          have x12 := I.j.e
          obtain ⟨o2, m2, c2, hb2, ho2⟩ := I.j.at_
          refine asgFree (hs := hs) (rs := rs) hok.len rfl (sqExb hb1 x12 (sqExb hb e1 hha)) (dpExbAll hb1 x12 (noL_mapH hs) (dpExbAll hb e1 (noL_mapH hs) hhd)) I.hr (fun _ _ => rfl) (fun _ _ => rfl) (fun _ _ => rfl) (fun fr H5 s5 hfr f5 => ?_)
          obtain ⟨fs, efs⟩ : ∃ fs : List (Option Str), fs = ((hs.map fun (h : Hdr) => some h.1).filter fun y => decide (y ∉ rs)) ++ [none] := ⟨_, rfl⟩
          rw [← efs] at f5
          have lfs : 0 < fs.length ∧ fs.length ≤ 7 := by
            rw [efs, List.length_append]
            have h1 := List.length_filter_le (fun y => decide (y ∉ rs)) (hs.map fun (h : Hdr) => some h.1)
            rw [List.length_map] at h1
            have h6 := hok.len
            refine ⟨by show 0 < _ + 1; omega, ?_⟩
            show _ + 1 ≤ 7
            omega
          have hb5 := s5 _ _ hb2
          have frb : fr ≠ b := (ne_of_none hb2 hfr).symm
          refine ⟨fun σ' H' => ∃ ow : Option Str, σ' = [some (.ref b), some (.ref ha), some (.int (many : Int)), some (.int few), some (.ref nl), some (.ref fl), some (.ref q), v7, some (.int (a : Int)), some (.ref gl), some (.ref rl), some (.ref al), some (.ref fr), some (optV ow), v14, none, none, none] ∧ Jr b H5 H' ∧ ow ∈ fs, ?_, ?_⟩
          · refine ⟨_, rfl, b, 4, o2, m2, c2, rfl, hb5, ho2, by decide, by decide, fun H6 r6 o6 m6 c6 e6 hb6 ho6 r60 r61 => ?_⟩
            have f6 := e6 _ _ frb f5
            have pick : ∀ {H7 : Hp} {r : Int}, 0 ≤ r → r < fs.length → Exb b H6 H7 → ∃ ow, atI (fs.map optV) r = some (optV ow) ∧ ow ∈ fs := by
              intro H7 r h0 h1 _
              obtain ⟨k, rfl⟩ := Int.eq_ofNat_of_zero_le h0
              have hk : k < fs.length := by omega
              exact ⟨fs[k], atI_nat (by rw [List.getElem?_map, List.getElem?_eq_getElem hk]; rfl), List.getElem_mem hk⟩
            have ml : (fs.map optV).length = fs.length := List.length_map _
            refine ⟨rfl, _, rfl, ite2 (fun _ => ?_) (fun _ => ?_)⟩
            · refine ⟨_, rfl, _, rfl, _, rfl, fr, _, rfl, .inl (SqL.of f6), b, _, o6, m6, c6, rfl, hb6, ho6, by omega, by omega, fun H7 r7 o7 m7 c7 e7 hb7 ho7 r70 r71 => ?_⟩
              obtain ⟨ow, h1, h2⟩ := pick r70 (by omega) e7
              exact ⟨fr, _, _, _, rfl, rfl, SqL.of (e7 _ _ frb f6), h1, ow, rfl, ⟨e6.trans e7, o7, m7, c7, hb7, ho7⟩, h2⟩
            · refine ⟨_, rfl, _, rfl, _, rfl, fr, _, rfl, .inl (SqL.of f6), _, _, rfl, rfl, _, _, rfl, b, _, o6, m6, c6, rfl, hb6, ho6, ?_, ?_, fun H7 r7 o7 m7 c7 e7 hb7 ho7 r70 r71 => ?_⟩
              · split <;> omega
              · split <;> omega
              · have r72 : r7 < fs.length := by
                  revert r71
                  split <;> omega
                obtain ⟨ow, h1, h2⟩ := pick r70 r72 e7
                exact ⟨fr, _, _, _, rfl, rfl, SqL.of (e7 _ _ frb f6), h1, ow, rfl, ⟨e6.trans e7, o7, m7, c7, hb7, ho7⟩, h2⟩
          · rintro σ' H6 ⟨ow, rfl, j6, how⟩
            obtain ⟨e6, o6, m6, c6, hb6, ho6⟩ := j6
            have x26 : Exb b H2 H6 := (Exb.of s5).trans e6
            have x16 : Exb b H1 H6 := x12.trans x26
            have lg := I.lg
            have gs0 : gs ≠ [] := fun e => by
              rw [e] at lg
              exact absurd lg (by decide)
            have gsL : ∀ z ∈ gs, Lay (.str z) := fun z hz => by
              rcases List.mem_append.mp (I.mg z hz) with h | h
              · exact lay_name (nmz z (List.mem_of_mem_drop h))
              · exact lay_ends z h
            refine ⟨_, rfl, _, rfl, _, rfl, _, rfl, _, rfl, _, rfl, b, gl, al, .ref ha, optV ow, hs, gs, xs, ps, few, o6, m6, c6, rfl, hb6, ho6, dpExb hb1 x16 (noL_encHs hs) (dpExb hb e1 (noL_encHs hs) dv0), hok, ?_, ngl, x26 _ _ ngl I.hg, gs0, by omega, gsL, I.nab, x26 _ _ I.nab I.ha, dpExbAll hb2 x26 (noL_mapP ps) I.da, I.po, fun H7 u nx j7 du7 ok7 hq7 => ?_⟩
            · cases ow with
              | none => exact .inl rfl
              | some z => exact .inr ⟨z, rfl⟩
            have x27 : Exb b H2 H7 := x26.trans j7.e
            have x17 : Exb b H1 H7 := x16.trans j7.e
            obtain ⟨o7, m7, c7, hb7, ho7⟩ := j7.at_
            have hn7 := x17 _ _ nlb W.hn
            obtain ⟨fxs, hf1, df1⟩ := W.hf
            have hf7 := x17 _ _ W.nf hf1
            have df7 : DpAll K H7 fxs (ss.map encS) := dpExbAll hb1 x17 (noL_mapS ss) df1
            have fl1 := dpAll_len df1
            rw [List.length_map] at fl1
            have sl : ss.length ≤ 8 := by
              rw [← List.length_map (f := Sta.nm), Wnm, List.length_drop]
              omega
            refine ⟨_, rfl, _, rfl, nl, _, _, _, rfl, rfl, SqL.of hn7, hat, _, rfl, _, rfl, by show 3 ≤ sizeLine; decide, fun t1 ht1 => ⟨by show 1 ≤ sizeLine; decide, fun l8 hl8 => ⟨_, rfl, l8, fl, [.ref t1], fxs, rfl, rfl, upd_same, ?_, ?_, fun fl2 hfl2 => ?_⟩⟩⟩
            · exact same_new hl8 _ _ (same_new ht1 _ _ hf7)
            · exact Nat.le_of_lt (small1000 (by show 1 + fxs.length ≤ _; omega))
            have w1 := same_new (o := .tup [.str z0, optV ow, u]) ht1
            have w2 := same_new (o := .lst [.ref t1]) hl8
            have w3 := same_new (o := .lst ([.ref t1] ++ fxs)) hfl2
            have W13 := w1.trans (w2.trans w3)
            obtain ⟨H8, eH8⟩ : ∃ H8, H8 = upd (upd (upd H7 t1 (.tup [.str z0, optV ow, u])) l8 (.lst [.ref t1])) fl2 (.lst ([.ref t1] ++ fxs)) := ⟨_, rfl⟩
            rw [← eH8] at W13 w3 ⊢
            have hfl8 : H8 fl2 = some (.lst ([.ref t1] ++ fxs)) := by
              rw [eH8]
              exact upd_same
            have dt8 : Dp K H8 (.ref t1) (encS ⟨z0, ow, nx⟩) := .tup (SqT.of ((w2.trans w3) _ _ upd_same)) (.cons (.str _) (.cons (dp_opt ow) (.cons (dpSame W13 du7) .nil)))
            have df8 : DpAll K H8 ([.ref t1] ++ fxs) ((⟨z0, ow, nx⟩ :: ss : List Sta).map encS) := .cons dt8 (dpSameAll W13 df7)
            have fl2b : fl2 ≠ b := (ne_of_none ((w1.trans w2) _ _ hb7) hfl2).symm
            have hr8 := W13 _ _ (x27 _ _ I.nrb I.hr)
            have ha8 := W13 _ _ (x27 _ _ I.nab I.ha)
            have da8 : DpAll K H8 xs (ps.map encP) := dpSameAll W13 (dpExbAll hb2 x27 (noL_mapP ps) I.da)
            have lr := I.lr
            have la := I.la
            have xl := dpAll_len I.da
            rw [List.length_map] at xl
            refine ⟨_, rfl, _, rfl, by show 1 ≤ sizeLine; decide, fun l9 hl9 => ⟨rl, l9, _, _, rfl, rfl, same_new hl9 _ _ hr8, upd_same, ?_, fun rl3 hrl3 => ⟨_, rfl, ?_⟩⟩⟩
            · rw [List.length_map]
              exact Nat.le_of_lt (big10 (by show rs.length + 1 ≤ _; omega))
            have w4 := same_new (o := .lst [optV ow]) hl9
            have w5 := same_new (o := .lst (rs.map optV ++ [optV ow])) hrl3
            have w45 := w4.trans w5
            refine teAsk (x := nx) rfl (dpSame w45 (dpSame W13 du7)) (fun D10 H10 ys s10 hD10 f10 ly dy => ?_)
            refine ⟨al, D10, _, _, rfl, rfl, s10 _ _ (w45 _ _ ha8), f10, Nat.le_of_lt (big10 (by omega)), fun al3 hal3 => ?_⟩
            have w6 := same_new (o := .lst (xs ++ ys)) hal3
            refine ⟨by show 2 ≤ sizeLine; decide, fun tp3 htp3 => ?_⟩
            have w7 := same_new (o := .tup [.ref rl3, .ref al3]) htp3
            have w58 := w45.trans (s10.trans (w6.trans w7))
            have w4z := W13.trans w58
            obtain ⟨H9, eH9⟩ : ∃ H9, H9 = upd (upd H10 al3 (.lst (xs ++ ys))) tp3 (.tup [.ref rl3, .ref al3]) := ⟨_, rfl⟩
            rw [← eH9] at w4z w58 w7 ⊢
            have hn9 := w4z _ _ hn7
            have hb9 := w4z _ _ hb7
            have j9 : Jr b H1 H9 := ⟨x17.trans (Exb.of w4z), o7, m7, c7, hb9, ho7⟩
            have bh9 := Wbh.exb hb1 j9.e
            have be9 : BEnt K H9 b (.ref tp3) (rs ++ [ow]) (ps ++ asksN nx) := by
              refine ⟨tp3, rl3, al3, xs ++ ys, rfl, ?_, ?_, ?_, ?_, ?_, ?_⟩
              · rw [eH9]
                exact SqT.of upd_same
              · rw [List.map_append]
                exact (s10.trans (w6.trans w7)) _ _ upd_same
              · exact w7 _ _ upd_same
              · rw [List.map_append]
                exact dpAll_app (dpSameAll w58 da8) (dpSameAll (w6.trans w7) dy)
              · exact (ne_of_none ((W13.trans w4) _ _ hb7) hrl3).symm
              · exact (ne_of_none ((W13.trans (w45.trans s10)) _ _ hb7) hal3).symm
            obtain ⟨kvs, hq9, lq, bhN⟩ := bh9.put (z := z0) be9
            refine ⟨_, rfl, _, rfl, _, rfl, nl, _, _, _, rfl, rfl, SqL.of hn9, hat, q, _, rfl, DPut.k (k := .inr z0) hq9 (Nat.lt_of_le_of_lt lq (small1000 (by omega))), ?_⟩
            have nmq : ∀ {p : Addr} {us : List V}, H9 p = some (.lst us) → p ≠ q := fun h e => by
              rw [e, hq9] at h
              cases h
            have xq : Exb q H9 (upd H9 q (.dK (putK kvs (.inr z0) (.ref tp3)))) := Exb.put
            have z0n : z0 ∈ zs := List.mem_of_getElem? hz0
            have ok' : StsOk hs (⟨z0, ow, nx⟩ :: ss) := by
              refine ⟨W.ok, sta_ok (s := ⟨z0, ow, nx⟩) (gs := gs) (rs := rs) (ps := ps) W.cov W.ok (nmz z0 z0n) ?_ ok7 (fun z hz => ?_) I.cr I.ca (fun z hz => ?_) hq7⟩
              · rw [Wnm]
                have nd' : (zs.drop a).Nodup := nd.sublist (List.drop_sublist _ _)
                rw [hdrop] at nd'
                exact (List.nodup_cons.mp nd').1
              · rw [Wnm]
                exact I.mg z hz
              · have e : ow = some z := hz
                rw [e, efs] at how
                rcases List.mem_append.mp how with how | how
                · obtain ⟨h1, h2⟩ := List.mem_filter.mp how
                  obtain ⟨h, hh, e2⟩ := List.mem_map.mp h1
                  injection e2 with e2
                  exact ⟨List.mem_map.mpr ⟨h, hh, e2⟩, of_decide_eq_true h2⟩
                · cases List.mem_singleton.mp how
            have keys : zs.drop (many - (i + 1)) ++ endsN = z0 :: (zs.drop (a + 1) ++ endsN) := by
              have : many - (i + 1) = a := by omega
              rw [this, hdrop]
              rfl
            have ls := W.lm
            refine ⟨fl2, ⟨z0, ow, nx⟩ :: ss, fun y => if y = z0 then rs ++ [ow] else R y, fun y => if y = z0 then ps ++ asksN nx else A y, 3 * M + 1, _, _, _, _, _, _, _, _, rfl, ?_⟩
            refine ⟨Jr.put (Jr.trans e1 j9) hq0 qb, xq _ _ (nmq hn9) hn9, fl2b, ⟨_, xq _ _ (nmq (w58 _ _ hfl8)) (w58 _ _ hfl8), dpExdAll hq9 xq (noL_mapS _) (dpSameAll w58 df8)⟩, ?_, ok', cov_cons W.cov W.ok ok7 I.cr I.ca, ?_, ?_, fun z => ?_, fun z => ?_, fun z p hp => ?_⟩
            · have : many - (i + 1) = a := by omega
              rw [this, hdrop, List.map_cons, Wnm]
            · rw [keys]
              exact bhN
            · rw [Nat.pow_succ]
              omega
            · show (if z = z0 then rs ++ [ow] else R z).length ≤ _
              split
              · rw [List.length_append]
                show rs.length + 1 ≤ _
                omega
              · have := W.rm z
                omega
            · show (if z = z0 then ps ++ asksN nx else A z).length ≤ _
              split
              · rw [List.length_append]
                have : (asksN nx).length ≤ 1 := by
                  cases nx <;> simp [asksN]
                omega
              · have := W.am z
                omega
            · revert hp
              show p ∈ (if z = z0 then ps ++ asksN nx else A z) → _
              split
              · intro hp
                rcases List.mem_append.mp hp with hp | hp
                · exact I.po p hp
                · cases ok7 with
                  | acc => exact nomatch hp
                  | rej => exact nomatch hp
                  | go _ _ => exact nomatch hp
                  | by_ h1 _ _ _ =>
                    rw [List.mem_singleton.mp hp]
                    exact ⟨_, h1⟩
              · exact W.po z p
      · rintro σ H3 ⟨fl, ss, R, A, M, v7, v8, v9, v10, v11, v12, v13, v14, rfl, W⟩
        obtain ⟨xs, hf, dx⟩ := W.hf
        refine ⟨_, rfl, fl, _, rfl, .inl ⟨SqL.of hf, fun t ht => ?_⟩⟩
        have nm := W.nm
        rw [Nat.sub_self] at nm
        refine k _ _ ss (W.j.same (same_new ht)) (.tup (SqT.of upd_same) (dpSameAll (same_new ht) dx)) ?_ W.ok
        rw [← List.length_map (f := Sta.nm), nm, List.drop_zero]
        exact lz
end
end LJ

namespace LJ
open PySem PySem.Spec PyProof.Rows L2 GuL HG Bt
abbrev sTurned : Stmt := topS 72
abbrev sFrame : Stmt := topS 73
/-- [x for x, y in pairs] -/
theorem lcFirstT {K : PySem.W.Frag} {σ : L2.St} {H : Hp} {Q : VK} {i j k : Nat} {l : Addr} {xs : List V} {ds : List PyData} {zs : List Str} (h0 : σ[i]? = some (some (.ref l))) (hl : SqT K H l xs) (hd : DpAll K H xs ds) (hr : Rows zs ds) (hz : zs.length ≤ 900)
    (hw : ∀ x y, wipe (((wipe σ [j, k]).set j (some x)).set k (some y)) [j, k] = wipe σ [j, k]) (hj : ∀ x y, (((wipe σ [j, k]).set j (some x)).set k (some y))[j]? = some (some x))
    (q : ∀ D H', Same H H' → H D = none → H' D = some (.lst (zs.map V.str)) → Q (.ref D) H') :
    tLc (iTup K (tVar i)) (gTup K 2 (gCons (gName j) (gCons (gName k) gNil))) tYes (tVar j) [j, k] σ H Q := by
  refine ⟨_, h0, l, rfl, ⟨_, hl⟩, fun D hD => ?_⟩
  refine lc_tup (K := K) (a := l) (xs := xs) (fun n H' => Same H H' ∧ H' D = some (.lst ((zs.take n).map V.str))) ⟨same_new hD, upd_same⟩ (fun n H' _ p => sameT p.1 hl) ?_ ?_
  · rintro n x H' hn ⟨s, f⟩
    obtain ⟨d, hd1, hd2⟩ := dpAll_at hd hn
    obtain ⟨z, e, hz1, rfl⟩ := hr.row n d hd1
    obtain ⟨a, y, rfl, h1, h2⟩ := pair_dp (dpSame s hd2)
    have hn9 : n < 900 := by
      have := (List.getElem?_eq_some_iff.mp hz1).1
      omega
    refine ⟨a, _, rfl, h1, rfl, _, _, rfl, _, _, rfl, rfl, hw _ _, _, hj _ _, _, f, ?_, fun b u hb => ?_, ?_⟩
    · rw [List.length_map]
      exact small1000 (Nat.le_trans (List.length_take_le _ _) (by omega))
    · rw [upd_ne (ne_of_none hb hD)]
      exact s _ _ hb
    · rw [upd_same, List.take_add_one, hz1, List.map_append]
      rfl
  · rintro H' ⟨s, f⟩
    have e : zs.take xs.length = zs := List.take_of_length_le (by rw [dpAll_len hd, hr.len]; exact Nat.le_refl _)
    rw [e] at f
    exact q D H' s hD f
theorem asgFirstT {K : PySem.W.Frag} {σ : L2.St} {H : Hp} {D : Ends} {u : TS} {n i j k : Nat} {l : Addr} {xs : List V} {ds : List PyData} {zs : List Str} (h0 : σ[i]? = some (some (.ref l))) (hl : SqT K H l xs) (hd : DpAll K H xs ds) (hr : Rows zs ds) (hz : zs.length ≤ 900)
    (hw : ∀ x y, wipe (((wipe σ [j, k]).set j (some x)).set k (some y)) [j, k] = wipe σ [j, k]) (hj : ∀ x y, (((wipe σ [j, k]).set j (some x)).set k (some y))[j]? = some (some x))
    (q : ∀ L H', Same H H' → H L = none → H' L = some (.lst (zs.map V.str)) → gName n (.ref L) σ H' fun σ2 H2 => u D σ2 H2) :
    tSeq (tAsg (tLc (iTup K (tVar i)) (gTup K 2 (gCons (gName j) (gCons (gName k) gNil))) tYes (tVar j) [j, k]) (gName n)) u D σ H := by
  show tLc (iTup K (tVar i)) (gTup K 2 (gCons (gName j) (gCons (gName k) gNil))) tYes (tVar j) [j, k] σ H (fun x H1 => gName n x σ H1 fun σ2 H2 => u D σ2 H2)
  exact lcFirstT h0 hl hd hr hz hw hj q
theorem perm_out (ws ls : List Str) {a : Nat} {x : Str} (h : ls[a]? = some x) : (ws ++ [x] ++ (ls.take a ++ ls.drop (a + 1))).Perm (ws ++ ls) := by
  have ha := (List.getElem?_eq_some_iff.mp h).1
  have e : ls = ls.take a ++ x :: ls.drop (a + 1) := by
    have hx : ls[a] = x := by
      rw [List.getElem?_eq_getElem ha] at h
      exact Option.some.inj h
    rw [← hx, ← List.drop_eq_getElem_cons ha, List.take_append_drop]
  rw [List.append_assoc]
  refine List.Perm.append_left ws ?_
  refine List.Perm.trans ?_ (List.Perm.of_eq e.symm)
  show (x :: (ls.take a ++ ls.drop (a + 1))).Perm _
  exact (List.perm_middle).symm
section
variable {P : Program} {w : World} {K : PySem.W.Frag} {mg : Str → Option Value} {base : Heap}
theorem scTurned : FnScope ["_law_jar_here", "_law_names", "_law_found", "_law_left", "_law_turn", "_law_at"] ["_law_jar_here", "_law_names"] (defScope sTurned) := ⟨rfl, rfl, rfl, by decide +kernel, rfl, by decide +kernel, by decide +kernel⟩
def spTurned (K : PySem.W.Frag) : Sp := fun vs H Q _ => ∃ (b nl : Addr) (zs : List Str) (o m c : Int), vs = [.ref b, .ref nl] ∧ H b = some (bw o m c) ∧ 0 ≤ o ∧ nl ≠ b ∧ H nl = some (.lst (zs.map V.str)) ∧ zs.length ≤ 9 ∧
  ∀ H' p (ws : List Str), Jr b H H' → H' p = some (.tup (ws.map V.str)) → ws.Perm zs → Q (.ref p) H'
theorem ok_turned {f fD fO fN : Addr} {fd fdD fdO fdN : FuncData} (F : Fun K "_law_turned" "_law_turned" sTurned f fd) (B : Blt mg) (Z : Drw P w K mg base fD fO fN fdD fdO fdN) : FnOk P w K mg base CX0 2 f fd ["_law_jar_here", "_law_names"] (spTurned K) := by
  refine F.ok scTurned (fun vs H Q E h => ?_) (fun cdv A outer s H vs Q E hr h => ?_)
  · obtain ⟨b, nl, zs, o, m, c, rfl, _⟩ := h
    rfl
  · obtain ⟨b, nl, zs, o, m, c, rfl, hb, ho, nn, hn, l9, k⟩ := h
    refine ⟨_, (pss_cons (ps_par (i := 2) (j := 3) (by rfl) scTurned.nd rfl rfl (by decide) rfl rfl (pa_cons (pe_lst pa_nil) (pa_cons (pe_callTy call_list_of (by rfl) B.list (by decide +kernel) (pa_cons (pv 1) pa_nil)) pa_nil)) (by rfl)) (pss_cons (ps_for PassesOwn.never rfl (pi_range1 (by rfl) B.range (pa_cons (pe_callB call_len_seq (by rfl) B.len PySem.boot_len (pa_cons (pv 1) pa_nil)) pa_nil)) (pg_name (i := 4) scTurned.nd rfl (.inl rfl)) (pss_cons (ps_set (i := 5) scTurned.nd rfl (.inl rfl) (pe_call Z.GD (hr.mono (by decide)) (by rfl) Z.gD Z.FD.kp Z.bD .nil pass0 (pa_cons (pv 0) (pa_cons (pe_callB call_len_seq (by rfl) B.len PySem.boot_len (pa_cons (pv 3) pa_nil)) pa_nil)))) (pss_cons (ps_expr (pe_bm PySem.F.plainAttrs_list PySem.F.slot_list_append PySem.F.type_list_append mt_append (pv 2) (pa_cons (pe_ix ix_list (pv 3) (pv 5) (fun _ _ => rfl)) pa_nil))) (pss_one (ps_set (i := 3) scTurned.nd rfl (.inl rfl) (pe_op op_cat (pe_slice sl_list (pv 3) po_none (po_some (pv 5))) (pe_slice sl_list (pv 3) (po_some (pe_op op_add (pv 5) pe_int)) po_none))))))) (pss_one (ps_ret (pe_callTy call_tuple_of (by rfl) B.tuple (by decide +kernel) (pa_cons (pv 2) pa_nil)))))), ?_⟩
    refine ⟨Nat.zero_le _, fun fl hfl => ⟨_, rfl, nl, _, rfl, .inl (SqL.of (same_new hfl _ _ hn)), fun ll hll => ⟨_, _, rfl, ?_⟩⟩⟩
    have s1 := same_new (o := .lst []) hfl
    have s2 := same_new (o := .lst (zs.map V.str)) hll
    have S := s1.trans s2
    have flb : fl ≠ b := (ne_of_none hb hfl).symm
    have llb : ll ≠ b := (ne_of_none (s1 _ _ hb) hll).symm
    have llf : ll ≠ fl := (ne_of_none upd_same hll).symm
    refine ⟨_, rfl, nl, _, rfl, .inl (SqL.of (S _ _ hn)), _, rfl, by omega, by rw [List.length_map]; omega, ?_⟩
    rw [Int.toNat_natCast, List.length_map]
    refine for_range (lo := 0) (n := zs.length) (fun i σ H' => ∃ (ll : Addr) (ws ls : List Str) (v4 v5 : Option V), σ = [some (.ref b), some (.ref nl), some (.ref fl), some (.ref ll), v4, v5] ∧ Jr b H H' ∧ H' fl = some (.lst (ws.map V.str)) ∧ H' ll = some (.lst (ls.map V.str)) ∧ ll ≠ b ∧ ll ≠ fl ∧ ws.length = i ∧ ls.length + i = zs.length ∧ (ws ++ ls).Perm zs)
      ⟨ll, [], zs, _, _, rfl, ⟨Exb.of S, o, m, c, S _ _ hb, ho⟩, s2 _ _ upd_same, upd_same, llb, llf, rfl, rfl, List.Perm.refl _⟩ ?_ ?_
    · rintro i σ H1 hi ⟨ll, ws, ls, v4, v5, rfl, ⟨e1, o1, m1, c1, hb1, ho1⟩, hf1, hl1, llb, llf, lw, ll9, hp⟩
      have ml : (ls.map V.str).length = ls.length := List.length_map _
      refine ⟨_, rfl, _, rfl, ll, _, rfl, .inl (SqL.of hl1), b, _, o1, m1, c1, rfl, hb1, ho1, by omega, by omega, fun H2 r o2 m2 c2 e2 hb2 ho2 r0 r1 => ?_⟩
      obtain ⟨a, rfl⟩ := Int.eq_ofNat_of_zero_le r0
      have al : a < ls.length := by omega
      obtain ⟨x, hx⟩ : ∃ x, ls[a]? = some x := ⟨_, List.getElem?_eq_getElem al⟩
      have hf2 := e2 _ _ flb hf1
      have hl2 := e2 _ _ llb hl1
      refine ⟨_, rfl, .inl ⟨rfl, _, SqL.of hf2⟩, _, rfl, _, rfl, ll, _, (a : Int), .str x, rfl, rfl, SqL.of hl2, atI_nat (by rw [List.getElem?_map, hx]; rfl), fl, _, _, rfl, rfl, hf2, by rw [List.length_map]; exact small1000 (by omega), ?_⟩
      have xf : Exb fl H2 (upd H2 fl (.lst (ws.map V.str ++ [.str x]))) := Exb.put
      have hl3 := xf _ _ llf hl2
      have j3 : Jr b H (upd H2 fl (.lst (ws.map V.str ++ [.str x]))) := Jr.put ⟨e1.trans e2, o2, m2, c2, hb2, ho2⟩ hfl flb
      refine ⟨_, rfl, _, rfl, _, rfl, ll, _, rfl, SqL.of hl3, fun c1 hc1 => ?_⟩
      have t1 := same_new (o := .lst (cutV (ls.map V.str) none (some (a : Int)))) hc1
      refine ⟨_, rfl, _, rfl, _, _, rfl, rfl, _, rfl, ll, _, rfl, SqL.of (t1 _ _ hl3), fun c2 hc2 => ?_⟩
      have t2 := same_new (o := .lst (cutV (ls.map V.str) (some ((a : Int) + 1)) none)) hc2
      have q1 := cutV_length (ls.map V.str) none (some (a : Int))
      have q2 := cutV_length (ls.map V.str) (some ((a : Int) + 1)) none
      refine ⟨c1, c2, _, _, rfl, rfl, t2 _ _ upd_same, upd_same, Nat.le_of_lt (small1000 (by omega)), fun l3 hl3' => ?_⟩
      have t3 := same_new (o := .lst (cutV (ls.map V.str) none (some (a : Int)) ++ cutV (ls.map V.str) (some ((a : Int) + 1)) none)) hl3'
      have ea : (a : Int) + 1 = ((a + 1 : Nat) : Int) := by omega
      have ecut : cutV (ls.map V.str) none (some (a : Int)) ++ cutV (ls.map V.str) (some ((a : Int) + 1)) none = (ls.take a ++ ls.drop (a + 1)).map V.str := by
        rw [ea, cut_fromN _ (by omega), List.map_append, List.map_take, List.map_drop]
        congr 1
        unfold cutV
        rw [HT.sIx_none, HT.sIx_nat, Nat.min_eq_left (by omega), List.drop_zero, Nat.sub_zero]
      have T := t1.trans (t2.trans t3)
      have lt1 := List.length_take_of_le (Nat.le_of_lt al)
      refine ⟨l3, ws ++ [x], ls.take a ++ ls.drop (a + 1), _, _, rfl, j3.same T, ?_, ?_, ?_, ?_, by rw [List.length_append, lw]; rfl, ?_, (perm_out ws ls hx).trans hp⟩
      · rw [List.map_append]
        exact T _ _ upd_same
      · rw [← ecut]
        exact upd_same
      · obtain ⟨_, _, _, hb3, _⟩ := j3.at_
        exact (ne_of_none ((t1.trans t2) _ _ hb3) hl3').symm
      · exact (ne_of_none ((t1.trans t2) _ _ upd_same) hl3').symm
      · rw [List.length_append, List.length_drop, lt1]
        omega
    · rintro σ H1 ⟨ll, ws, ls, v4, v5, rfl, j1, hf1, hl1, llb, llf, lw, ll9, hp⟩
      have ls0 : ls = [] := List.length_eq_zero_iff.mp (by omega)
      rw [ls0, List.append_nil] at hp
      refine ⟨_, rfl, fl, _, rfl, .inl ⟨SqL.of hf1, fun t ht => ?_⟩⟩
      exact k _ t ws (j1.same (same_new ht)) upd_same hp
/-! ### frames -/
structure Frm where
  hs : List Hdr
  ss : List Sta
  od : List Str
def encFr (f : Frm) : PyData := .tuple [encHs f.hs, encSs f.ss, .tuple (f.od.map PyData.str)]
structure FrmOk (f : Frm) : Prop where
  hs : HeadersOk f.hs
  s1 : 1 ≤ f.ss.length
  s8 : f.ss.length ≤ 8
  ss : StsOk f.hs f.ss
  od : f.od.Perm (f.hs.map (·.1))
def w5f : List Int := [2, 3, 3, 4, 6]
theorem w5f_ok : ∀ x ∈ w5f, 2 ≤ x ∧ x ≤ 6 := by decide
def w3f : List Int := [3, 5, 8]
theorem w3f_ok : ∀ x ∈ w3f, 3 ≤ x ∧ x ≤ 8 := by decide
theorem noL_strs (zs : List Str) : ∀ d ∈ zs.map PyData.str, NoL d := fun d hd => by
  obtain ⟨z, _, rfl⟩ := List.mem_map.mp hd
  exact .str z
theorem noL_encFr (f : Frm) : NoL (encFr f) := .tup fun d hd => by
  simp only [List.mem_cons, List.not_mem_nil, or_false] at hd
  rcases hd with rfl | rfl | rfl
  · exact noL_encHs _
  · exact .tup (noL_mapS _)
  · exact .tup (noL_strs _)
theorem scFrame : FnScope ["_law_jar_here", "_law_few", "_law_headers_here", "_law_states_here", "_law_names", "_law_name_here", "_law_fields_here"] ["_law_jar_here", "_law_few"] (defScope sFrame) := ⟨rfl, rfl, rfl, by decide +kernel, rfl, by decide +kernel, by decide +kernel⟩
def spFrame (K : PySem.W.Frag) : Sp := fun vs H Q _ => ∃ (b : Addr) (few o m c : Int), vs = [.ref b, .int few] ∧ H b = some (bw o m c) ∧ 0 ≤ o ∧ ∀ H' u f, Jr b H H' → Dp K H' u (encFr f) → FrmOk f → Q u H'
theorem ok_frame {f fD fO fN fH fS fT : Addr} {fd fdD fdO fdN dH dS dT : FuncData} (F : Fun K "_law_frame" "_law_frame" sFrame f fd) (B : Blt mg) (Z : Drw P w K mg base fD fO fN fdD fdO fdN) (KH : Kn P w K mg base 5 "_law_headers" sHeaders ["_law_jar_here", "_law_least", "_law_most"] (spHeaders K) fH dH)
    (KS : Kn P w K mg base 5 "_law_states" sStates ["_law_jar_here", "_law_headers_here", "_law_many", "_law_few"] (spStates K) fS dS) (KT : Kn P w K mg base 2 "_law_turned" sTurned ["_law_jar_here", "_law_names"] (spTurned K) fT dT) : FnOk P w K mg base CX0 6 f fd ["_law_jar_here", "_law_few"] (spFrame K) := by
  refine F.ok scFrame (fun vs H Q E h => ?_) (fun cdv A outer s H vs Q E hr h => ?_)
  · obtain ⟨b, few, o, m, c, rfl, _⟩ := h
    rfl
  · obtain ⟨b, few, o, m, c, rfl, hb, ho, k⟩ := h
    refine ⟨_, (pss_cons (ps_set (i := 2) scFrame.nd rfl (.inl rfl) (pe_call KH.G (hr.mono (by decide)) (by rfl) KH.g KH.F.kp KH.b .nil pass0 (pa_cons (pv 0) (pa_cons (pe_callTy call_int1 (by rfl) B.int (by decide +kernel) (pa_cons (pe_cmpR op_gt (pe_call Z.GD (hr.mono (by decide)) (by rfl) Z.gD Z.FD.kp Z.bD .nil pass0 (pa_cons (pv 0) (pa_cons pe_int pa_nil))) pe_int (nomark _)) pa_nil)) (pa_cons (pe_call Z.GO (hr.mono (by decide)) (by rfl) Z.gO Z.FO.kp Z.bO .nil pass0 (pa_cons (pv 0) (pa_cons (pe_lst (pa_cons pe_int (pa_cons pe_int (pa_cons pe_int (pa_cons pe_int (pa_cons pe_int pa_nil)))))) pa_nil))) pa_nil))))) (pss_cons (ps_set (i := 3) scFrame.nd rfl (.inl rfl) (pe_call KS.G (hr.mono (by decide)) (by rfl) KS.g KS.F.kp KS.b .nil pass0 (pa_cons (pv 0) (pa_cons (pv 2) (pa_cons (pe_op op_add pe_int (pe_call Z.GD (hr.mono (by decide)) (by rfl) Z.gD Z.FD.kp Z.bD .nil pass0 (pa_cons (pv 0) (pa_cons (pe_call Z.GO (hr.mono (by decide)) (by rfl) Z.gO Z.FO.kp Z.bO .nil pass0 (pa_cons (pv 0) (pa_cons (pe_lst (pa_cons pe_int (pa_cons pe_int (pa_cons pe_int pa_nil)))) pa_nil))) pa_nil)))) (pa_cons (pv 1) pa_nil)))))) (pss_cons (ps_setLc (i := 4) (own := [("_law_name_here", 5), ("_law_fields_here", 6)]) (g := (gTup K 2 (gCons (gName 5) (gCons (gName 6) gNil)))) (tt := tYes) rfl scFrame.nd rfl rfl (sw_true rfl rfl rfl rfl) (pi_tup (pv 2)) (blkOk_by (N := ["_law_jar_here", "_law_few", "_law_headers_here", "_law_states_here", "_law_names", "_law_name_here", "_law_fields_here"]) (sc := defScope sFrame) (by decide +kernel)) (fun _ _ _ _ _ => (pg_tup rfl (pgs_cons (pg_name (i := 5) scFrame.nd rfl (.inl rfl)) (pgs_cons (pg_name (i := 6) scFrame.nd rfl (.inl rfl)) pgs_nil)))) (fun _ _ _ _ _ => pts_nil) (fun _ _ _ _ _ => (pv 5))) (pss_one (ps_ret (pe_tup (pa_cons (pv 2) (pa_cons (pv 3) (pa_cons (pe_ifExp (pt_cmpR op_eq (pe_call Z.GD (hr.mono (by decide)) (by rfl) Z.gD Z.FD.kp Z.bD .nil pass0 (pa_cons (pv 0) (pa_cons pe_int pa_nil))) pe_int (nomark _)) (pe_callTy call_tuple_of (by rfl) B.tuple (by decide +kernel) (pa_cons (pv 4) pa_nil)) (pe_call KT.G (hr.mono (by decide)) (by rfl) KT.g KT.F.kp KT.b .nil pass0 (pa_cons (pv 0) (pa_cons (pv 4) pa_nil)))) pa_nil))))))))), ?_⟩
    refine ⟨_, rfl, _, rfl, b, 12, o, m, c, rfl, hb, ho, by decide, by decide, fun H1 r1 o1 m1 c1 e1 hb1 ho1 r10 r11 => ?_⟩
    refine ⟨_, _, rfl, rfl, .inr ⟨_, rfl, ?_⟩⟩
    obtain ⟨lo, elo, lo1⟩ : ∃ lo : Nat, (if decide ((0 : Int) < r1) = true then (1 : Int) else 0) = (lo : Int) ∧ lo ≤ 1 := by
      by_cases q : (0 : Int) < r1
      · exact ⟨1, by rw [if_pos (decide_eq_true q)]; rfl, Nat.le_refl _⟩
      · exact ⟨0, by rw [if_neg (by simp [q])]; rfl, by decide⟩
    simp only [elo]
    refine ⟨_, rfl, by show 5 ≤ sizeLine; decide, fun p hp => ?_⟩
    have np : p ≠ b := (ne_of_none hb1 hp).symm
    refine ⟨b, .ref p, o1, m1, c1, rfl, same_new hp _ _ hb1, ho1, .inr (.inr ⟨p, _, rfl, np, upd_same, by show 0 < 5; decide, by show 5 < 100000; decide, fun H2 v o2 m2 c2 e2 hb2 ho2 hv => ?_⟩)⟩
    obtain ⟨hi, hhi, rfl⟩ := mem_ints (L := w5f) hv
    have hib := w5f_ok hi hhi
    obtain ⟨hn, rfl⟩ := Int.eq_ofNat_of_zero_le (show 0 ≤ hi by omega)
    have x2 : Exb b H H2 := e1.trans ((Exb.of (same_new hp)).trans e2)
    refine ⟨b, lo, hn, o2, m2, c2, rfl, hb2, ho2, by omega, by omega, fun H3 u3 hs j3 d3 ok3 l1 l2 => ?_⟩
    obtain ⟨e3, o3, m3, c3, hb3, ho3⟩ := j3
    have x3 : Exb b H H3 := x2.trans e3
    refine ⟨_, rfl, _, rfl, _, rfl, _, rfl, by show 3 ≤ sizeLine; decide, fun p4 hp4 => ?_⟩
    have np4 : p4 ≠ b := (ne_of_none hb3 hp4).symm
    refine ⟨b, .ref p4, o3, m3, c3, rfl, same_new hp4 _ _ hb3, ho3, .inr (.inr ⟨p4, _, rfl, np4, upd_same, by show 0 < 3; decide, by show 3 < 100000; decide, fun H5 v5 o5 m5 c5 e5 hb5 ho5 hv5 => ?_⟩)⟩
    obtain ⟨mi, hmi, rfl⟩ := mem_ints (L := w3f) hv5
    have mib := w3f_ok mi hmi
    refine ⟨b, mi, o5, m5, c5, rfl, hb5, ho5, by omega, by omega, fun H6 r6 o6 m6 c6 e6 hb6 ho6 r60 r61 => ?_⟩
    obtain ⟨rn, rfl⟩ := Int.eq_ofNat_of_zero_le r60
    have e1n : (1 : Int) + (rn : Nat) = ((rn + 1 : Nat) : Int) := by omega
    have x36 : Exb b H3 H6 := ((Exb.of (same_new hp4)).trans e5).trans e6
    have d6 : Dp K H6 u3 (encHs hs) := dpExb hb3 x36 (noL_encHs hs) d3
    refine ⟨_, _, rfl, rfl, ?_⟩
    simp only [e1n]
    refine ⟨_, rfl, b, u3, hs, rn + 1, few, o6, m6, c6, rfl, hb6, ho6, d6, ok3, by omega, by omega, fun H7 u7 ss j7 d7 l7 ok7 => ?_⟩
    have x37 : Exb b H3 H7 := x36.trans j7.e
    have x7 : Exb b H H7 := x3.trans x37
    obtain ⟨o7, m7, c7, hb7, ho7⟩ := j7.at_
    have d37 : Dp K H7 u3 (encHs hs) := dpExb hb3 x37 (noL_encHs hs) d3
    obtain ⟨ha, hxs, rfl, hha, hhd⟩ := dp_tup d37
    refine asgFirstT rfl hha hhd (rowsH hs) (by rw [List.length_map]; have := ok3.len; omega) (fun _ _ => rfl) (fun _ _ => rfl) fun D H8 s8 hD f8 => ?_
    have hb8 := s8 _ _ hb7
    have nD : D ≠ b := (ne_of_none hb7 hD).symm
    refine ⟨_, rfl, _, rfl, _, rfl, b, 2, o7, m7, c7, rfl, hb8, ho7, by decide, by decide, fun H9 r9 o9 m9 c9 e9 hb9 ho9 r90 r91 => ?_⟩
    have f9 := e9 _ _ nD f8
    have x79 : Exb b H7 H9 := (Exb.of s8).trans e9
    have fin : ∀ (p : Addr) (ws : List Str) (Hx : Hp), Jr b H7 Hx → Hx p = some (.tup (ws.map V.str)) → ws.Perm (hs.map (·.1)) → [V.ref ha, u7, V.ref p].length ≤ sizeLine ∧ ∀ t, Hx t = none → Q (.ref t) (upd Hx t (.tup [.ref ha, u7, .ref p])) := by
      intro p ws Hx jx hx hw
      refine ⟨by show 3 ≤ sizeLine; decide, fun t ht => ?_⟩
      have st := same_new (o := .tup [.ref ha, u7, .ref p]) ht
      refine k _ _ ⟨hs, ss, ws⟩ ((Jr.trans x7 jx).same st) ?_ ⟨ok3, by show 1 ≤ ss.length; omega, by show ss.length ≤ 8; omega, ok7, hw⟩
      exact .tup (SqT.of upd_same) (.cons (dpSame st (dpExb hb7 jx.e (noL_encHs hs) d37)) (.cons (dpSame st (dpExb hb7 jx.e (.tup (noL_mapS ss)) d7)) (.cons (.tup (SqT.of (st _ _ hx)) (dpAll_strs ws)) .nil)))
    refine ⟨rfl, _, rfl, ite2 (fun _ => ?_) (fun _ => ?_)⟩
    · refine ⟨_, rfl, D, _, rfl, .inl ⟨SqL.of f9, fun t ht => ?_⟩⟩
      exact fin t _ _ ((⟨x79, o9, m9, c9, hb9, ho9⟩ : Jr b H7 H9).same (same_new ht)) upd_same (List.Perm.refl _)
    · refine ⟨_, rfl, _, rfl, b, D, hs.map (·.1), o9, m9, c9, rfl, hb9, ho9, nD, f9, by rw [List.length_map]; have := ok3.len; omega, fun H10 p ws j10 h10 hw => ?_⟩
      exact fin p ws _ (Jr.trans x79 j10) h10 hw
end
end LJ

namespace LJ
open PySem PySem.Spec PyProof.Rows L2 GuL HG Bt
abbrev sLeads : Stmt := topS 79
abbrev sIndex : Stmt := topS 81
/-! ### where a state leads, what it asks, where one goes -/
def leadsF : Nxt → Nat → Str
  | .acc, _ => "accept"
  | .rej, _ => "refuse"
  | .go z, _ => z
  | .by_ _ cs z, w => ((cs.find? fun c => decide (w &&& c.2.1 = c.1)).map (·.2.2)).getD z
abbrev Hld := Str → Option (List Nat)
def fldsOf (hs : List Hdr) (z : Str) : List Fld := ((hs.find? fun h => decide (h.1 = z)).map (·.2)).getD []
def askedF (hs : List Hdr) (x : Nxt) (hl : Hld) (first : Nat) : Nat :=
  match x with
  | .by_ .inp _ _ => first
  | .by_ (.fld h f) _ _ =>
    match hl h with
    | none => 0
    | some ws => ws.getD (((fldsOf hs h).map (·.1)).idxOf f) 0
  | _ => 0
def hput (hl : Hld) (z : Str) (ws : List Nat) : Hld := fun y => if y = z then some ws else hl y
def sizeF (fs : List Fld) : Nat := (wds fs).sum / 8
def stp (hs : List Hdr) (bs : List Nat) (first : Nat) (s : Sta) (hl : Hld) (tk : Nat) : Hld × Nat × Str :=
  match s.hd with
  | none => (hl, tk, leadsF s.nx (askedF hs s.nx hl first))
  | some z =>
    if bs.length < tk + sizeF (fldsOf hs z) then (hl, tk, "refuse")
    else (hput hl z (readW (wds (fldsOf hs z)) (allBits ((bs.drop tk).take (sizeF (fldsOf hs z))))), tk + sizeF (fldsOf hs z),
      leadsF s.nx (askedF hs s.nx (hput hl z (readW (wds (fldsOf hs z)) (allBits ((bs.drop tk).take (sizeF (fldsOf hs z)))))) first))
def runL (hs : List Hdr) (bs : List Nat) (first : Nat) : List Sta → Str → Hld → Nat → List Str × Hld × Nat
  | [], z, hl, tk => ([z], hl, tk)
  | s :: r, z, hl, tk =>
    if z = s.nm then
      (s.nm :: (runL hs bs first r (stp hs bs first s hl tk).2.2 (stp hs bs first s hl tk).1 (stp hs bs first s hl tk).2.1).1,
        (runL hs bs first r (stp hs bs first s hl tk).2.2 (stp hs bs first s hl tk).1 (stp hs bs first s hl tk).2.1).2)
    else runL hs bs first r z hl tk
theorem leads_in {hs : List Hdr} {gs : List Str} {x : Nxt} (h : NxtOk hs gs x) (w : Nat) : leadsF x w ∈ gs ∨ leadsF x w ∈ endsN := by
  refine aims_in h _ ?_
  cases x with
  | acc => exact List.mem_cons_self
  | rej => exact List.mem_cons_self
  | go z => exact List.mem_cons_self
  | by_ p cs z =>
    show ((cs.find? fun c => decide (w &&& c.2.1 = c.1)).map (·.2.2)).getD z ∈ cs.map (·.2.2) ++ [z]
    cases e : cs.find? fun c => decide (w &&& c.2.1 = c.1) with
    | none => exact List.mem_append_right _ List.mem_cons_self
    | some c => exact List.mem_append_left _ (List.mem_map.mpr ⟨c, List.mem_of_find?_eq_some e, rfl⟩)
theorem runL_end {hs : List Hdr} {bs : List Nat} {first : Nat} : ∀ {r : List Sta} {z : Str} {hl : Hld} {tk : Nat}, z ∉ r.map (·.nm) → runL hs bs first r z hl tk = ([z], hl, tk)
  | [], _, _, _, _ => rfl
  | s :: r, z, hl, tk, h => by
    have h1 : ¬ z = s.nm := fun e => h (e ▸ List.mem_cons_self)
    rw [runL, if_neg h1]
    exact runL_end fun q => h (List.mem_cons_of_mem _ q)
theorem runL_skip {hs : List Hdr} {bs : List Nat} {first : Nat} : ∀ {p r : List Sta} {z : Str} {hl : Hld} {tk : Nat}, z ∉ p.map (·.nm) → runL hs bs first (p ++ r) z hl tk = runL hs bs first r z hl tk
  | [], _, _, _, _, _ => rfl
  | s :: p, r, z, hl, tk, h => by
    have h1 : ¬ z = s.nm := fun e => h (e ▸ List.mem_cons_self)
    rw [List.cons_append, runL, if_neg h1]
    exact runL_skip fun q => h (List.mem_cons_of_mem _ q)
theorem flds_mem {hs : List Hdr} {h : Hdr} (ok : HeadersOk hs) (hm : h ∈ hs) : fldsOf hs h.1 = h.2 := by
  have nd := ok.nd
  clear ok
  induction hs with
  | nil => exact nomatch hm
  | cons g hs ih =>
    unfold fldsOf
    rw [List.find?_cons]
    rw [List.map_cons, List.nodup_cons] at nd
    rcases List.mem_cons.mp hm with e | hm
    · rw [← e]
      simp
    · have ne : ¬ g.1 = h.1 := fun e => nd.1 (e ▸ List.mem_map.mpr ⟨h, hm, rfl⟩)
      rw [decide_eq_false ne]
      exact ih hm nd.2
theorem noAcc : ("accept" : Str) ∈ endsN := by decide +kernel
theorem noRej : ("refuse" : Str) ∈ endsN := by decide +kernel
theorem goE1 : inV (.str "go") (endsN.map V.str) = false := by decide +kernel
theorem byE1 : inV (.str "by") (endsN.map V.str) = false := by decide +kernel
theorem acE1 : inV (.str "accept") (endsN.map V.str) = true := by decide +kernel
theorem rjE1 : inV (.str "refuse") (endsN.map V.str) = true := by decide +kernel
theorem goE2 : decide ((V.str "go") = V.str "go") = true := by decide +kernel
theorem byE2 : decide ((V.str "by") = V.str "go") = false := by decide +kernel
theorem dp_sta {K : PySem.W.Frag} {H : Hp} {v : V} {s : Sta} (h : Dp K H v (encS s)) : ∃ a u, v = .ref a ∧ SqT K H a [.str s.nm, optV s.hd, u] ∧ Dp K H u (encN s.nx) := by
  obtain ⟨a, xs, rfl, h1, h2⟩ := dp_tup h
  cases h2 with
  | cons h3 h4 =>
    cases h4 with
    | cons h5 h6 =>
      cases h6 with
      | cons h7 h8 =>
        cases h8
        rw [dp_str h3] at h1
        refine ⟨a, _, rfl, ?_, h7⟩
        cases e : s.hd with
        | none =>
          rw [e] at h5
          cases h5
          exact h1
        | some z =>
          rw [e] at h5
          rw [dp_str h5] at h1
          exact h1
theorem dp_by {K : PySem.W.Frag} {H : Hp} {v : V} {p : Plc} {cs : List Cas} {z : Str} (h : Dp K H v (encN (.by_ p cs z))) : ∃ a u c cx, v = .ref a ∧ SqT K H a [.str "by", u, .ref c, .str z] ∧ Dp K H u (encP p) ∧ SqT K H c cx ∧ DpAll K H cx (cs.map encC) := by
  obtain ⟨a, xs, rfl, h1, h2⟩ := dp_tup h
  cases h2 with
  | cons h3 h4 =>
    cases h4 with
    | cons h5 h6 =>
      cases h6 with
      | cons h7 h8 =>
        cases h8 with
        | cons h9 h10 =>
          cases h10
          rw [dp_str h3, dp_str h9] at h1
          obtain ⟨c, cx, rfl, c1, c2⟩ := dp_tup h7
          exact ⟨a, _, c, cx, rfl, h1, h5, c1, c2⟩
theorem dp_cas {K : PySem.W.Frag} {H : Hp} {v : V} {c : Cas} (h : Dp K H v (encC c)) : ∃ a, v = .ref a ∧ SqT K H a [.int (c.1 : Int), .int (c.2.1 : Int), .str c.2.2] := by
  obtain ⟨a, xs, rfl, h1, h2⟩ := dp_tup h
  cases h2 with
  | cons h3 h4 =>
    cases h4 with
    | cons h5 h6 =>
      cases h6 with
      | cons h7 h8 =>
        cases h8
        rw [dp_int h3, dp_int h5, dp_str h7] at h1
        exact ⟨a, rfl, h1⟩
theorem dp_n1 {K : PySem.W.Frag} {H : Hp} {v : V} {t : Str} (h : Dp K H v (.tuple [.str t])) : ∃ a, v = .ref a ∧ SqT K H a [.str t] := by
  obtain ⟨a, xs, rfl, h1, h2⟩ := dp_tup h
  cases h2 with
  | cons h3 h4 =>
    cases h4
    rw [dp_str h3] at h1
    exact ⟨a, rfl, h1⟩
theorem dp_n2 {K : PySem.W.Frag} {H : Hp} {v : V} {t z : Str} (h : Dp K H v (.tuple [.str t, .str z])) : ∃ a, v = .ref a ∧ SqT K H a [.str t, .str z] := by
  obtain ⟨a, xs, rfl, h1, h2⟩ := dp_tup h
  cases h2 with
  | cons h3 h4 =>
    cases h4 with
    | cons h5 h6 =>
      cases h6
      rw [dp_str h3, dp_str h5] at h1
      exact ⟨a, rfl, h1⟩
section
variable {P : Program} {w : World} {K : PySem.W.Frag} {mg : Str → Option Value} {base : Heap}
theorem scLeads : FnScope ["_law_state", "_law_word_here", "_law_step", "_law_want", "_law_mask", "_law_aim"] ["_law_state", "_law_word_here"] (defScope sLeads) := ⟨rfl, rfl, rfl, by decide +kernel, rfl, by decide +kernel, by decide +kernel⟩
def spLeads (K : PySem.W.Frag) : Sp := fun vs H Q _ => ∃ (v : V) (s : Sta) (n : Nat), vs = [v, .int (n : Int)] ∧ Dp K H v (encS s) ∧ ∀ H', Same H H' → Q (.str (leadsF s.nx n)) H'
theorem ok_leads {f : Addr} {fd : FuncData} (F : Fun K "_law_leads" "_law_leads" sLeads f fd) : FnOk P w K mg base CX0 1 f fd ["_law_state", "_law_word_here"] (spLeads K) := by
  refine F.ok scLeads (fun vs H Q E h => ?_) (fun cdv A outer s H vs Q E hr h => ?_)
  · obtain ⟨v, s, n, rfl, _⟩ := h
    rfl
  · obtain ⟨v, s', n, rfl, dv, k⟩ := h
    refine ⟨_, (pss_cons (ps_set (i := 2) scLeads.nd rfl (.inl rfl) (pe_ix ix_tup (pv 0) pe_int (fun _ _ => rfl))) (pss_cons (ps_if (pt_cmpR op_in_seq (pe_ix ix_tup (pv 2) pe_int (fun _ _ => rfl)) (pe_tup (pa_cons pe_str (pa_cons pe_str pa_nil))) (by rfl)) (pss_one (ps_ret (pe_ix ix_tup (pv 2) pe_int (fun _ _ => rfl)))) pss_nil) (pss_cons (ps_if (pt_cmpR op_eq (pe_ix ix_tup (pv 2) pe_int (fun _ _ => rfl)) pe_str (nomark _)) (pss_one (ps_ret (pe_ix ix_tup (pv 2) pe_int (fun _ _ => rfl)))) pss_nil) (pss_cons (ps_for PassesOwn.never rfl (pi_tup (pe_ix ix_tup (pv 2) pe_int (fun _ _ => rfl))) (pg_tup (by rfl) (pgs_cons (pg_name (i := 3) scLeads.nd rfl (.inl rfl)) (pgs_cons (pg_name (i := 4) scLeads.nd rfl (.inl rfl)) (pgs_cons (pg_name (i := 5) scLeads.nd rfl (.inl rfl)) pgs_nil)))) (pss_one (ps_if (pt_cmpR op_eq (pe_op op_and (pv 1) (pv 4)) (pv 3) (nomark _)) (pss_one (ps_ret (pv 5))) pss_nil))) (pss_one (ps_ret (pe_ix ix_tup (pv 2) pe_int (fun _ _ => rfl)))))))), ?_⟩
    obtain ⟨a, u, rfl, ha, du⟩ := dp_sta dv
    refine ⟨_, rfl, a, _, 2, _, rfl, rfl, ha, atI_nat (j := 2) rfl, ?_⟩
    cases e : s'.nx with
    | acc =>
      rw [e] at du k
      obtain ⟨ua, rfl, hu⟩ := dp_n1 du
      refine ⟨_, rfl, ua, _, 0, _, rfl, rfl, hu, atI_nat (j := 0) rfl, by show 2 ≤ sizeLine; decide, fun p hp => ⟨p, endsN.map V.str, rfl, .inr (SqT.of upd_same), rfl, rfl, inV (.str "accept") (endsN.map V.str), rfl, ?_⟩⟩
      rw [acE1]
      exact iteT ⟨_, rfl, ua, _, 0, _, rfl, rfl, sameT (same_new hp) hu, atI_nat (j := 0) rfl, k _ (same_new hp)⟩
    | rej =>
      rw [e] at du k
      obtain ⟨ua, rfl, hu⟩ := dp_n1 du
      refine ⟨_, rfl, ua, _, 0, _, rfl, rfl, hu, atI_nat (j := 0) rfl, by show 2 ≤ sizeLine; decide, fun p hp => ⟨p, endsN.map V.str, rfl, .inr (SqT.of upd_same), rfl, rfl, inV (.str "refuse") (endsN.map V.str), rfl, ?_⟩⟩
      rw [rjE1]
      exact iteT ⟨_, rfl, ua, _, 0, _, rfl, rfl, sameT (same_new hp) hu, atI_nat (j := 0) rfl, k _ (same_new hp)⟩
    | go z =>
      rw [e] at du k
      obtain ⟨ua, rfl, hu⟩ := dp_n2 du
      refine ⟨_, rfl, ua, _, 0, _, rfl, rfl, hu, atI_nat (j := 0) rfl, by show 2 ≤ sizeLine; decide, fun p hp => ⟨p, endsN.map V.str, rfl, .inr (SqT.of upd_same), rfl, rfl, inV (.str "go") (endsN.map V.str), rfl, ?_⟩⟩
      rw [goE1]
      have hu2 := sameT (same_new (o := .tup [.str "accept", .str "refuse"]) hp) hu
      refine iteF ⟨_, rfl, ua, _, 0, _, rfl, rfl, hu2, atI_nat (j := 0) rfl, rfl, _, rfl, ?_⟩
      rw [goE2]
      exact iteT ⟨_, rfl, ua, _, 1, _, rfl, rfl, hu2, atI_nat (j := 1) rfl, k _ (same_new hp)⟩
    | by_ pl cs z =>
      rw [e] at du k
      obtain ⟨ua, up, uc, cx, rfl, hu, _, hc, hd⟩ := dp_by du
      refine ⟨_, rfl, ua, _, 0, _, rfl, rfl, hu, atI_nat (j := 0) rfl, by show 2 ≤ sizeLine; decide, fun p hp => ⟨p, endsN.map V.str, rfl, .inr (SqT.of upd_same), rfl, rfl, inV (.str "by") (endsN.map V.str), rfl, ?_⟩⟩
      rw [byE1]
      have st := same_new (o := .tup [.str "accept", .str "refuse"]) hp
      have hu2 := sameT st hu
      have hc2 := sameT st hc
      have hd2 := dpSameAll st hd
      have cl := dpAll_len hd
      rw [List.length_map] at cl
      refine iteF ⟨_, rfl, ua, _, 0, _, rfl, rfl, hu2, atI_nat (j := 0) rfl, rfl, _, rfl, ?_⟩
      rw [byE2]
      refine iteF ⟨_, rfl, ua, _, 2, _, rfl, rfl, hu2, atI_nat (j := 2) rfl, uc, rfl, ⟨_, hc2⟩, for_tup (K := K) (a := uc) (xs := cx) (fun i σ H' => ∃ v3 v4 v5 : Option V, σ = [some (.ref a), some (.int (n : Int)), some (.ref ua), v3, v4, v5] ∧ H' = upd H p (.tup [.str "accept", .str "refuse"]) ∧ ∀ c ∈ cs.take i, ¬ n &&& c.2.1 = c.1)
        ⟨_, _, _, rfl, rfl, fun c hc => nomatch hc⟩ (fun i σ H' _ ⟨_, _, _, _, q, _⟩ => by rw [q]; exact hc2) ?_ ?_⟩
      · rintro i x σ H2 hi ⟨v3, v4, v5, rfl, rfl, no⟩
        obtain ⟨d, hd1, hd3⟩ := dpAll_at hd2 hi
        rw [List.getElem?_map] at hd1
        obtain ⟨c, hcc, rfl⟩ := Option.map_eq_some_iff.mp hd1
        obtain ⟨ca, rfl, hca⟩ := dp_cas hd3
        refine ⟨ca, _, rfl, hca, rfl, _, _, rfl, _, _, rfl, _, _, rfl, rfl, _, rfl, _, rfl, _, _, rfl, rfl, _, rfl, rfl, _, rfl, ?_⟩
        simp only [band_nat]
        by_cases q : n &&& c.2.1 = c.1
        · have q2 : (V.int ((n &&& c.2.1 : Nat) : Int)) = V.int (c.1 : Int) := by rw [q]
          rw [decide_eq_true q2]
          refine iteT ⟨_, rfl, ?_⟩
          have ef : leadsF (.by_ pl cs z) n = c.2.2 := by
            have hi2 := (List.getElem?_eq_some_iff.mp hcc).1
            have e1 : cs = cs.take i ++ c :: cs.drop (i + 1) := by
              have hx : cs[i] = c := by
                rw [List.getElem?_eq_getElem hi2] at hcc
                exact Option.some.inj hcc
              rw [← hx, ← List.drop_eq_getElem_cons hi2, List.take_append_drop]
            show ((cs.find? fun c => decide (n &&& c.2.1 = c.1)).map (·.2.2)).getD z = c.2.2
            rw [e1, List.find?_append, List.find?_eq_none.mpr (fun c' hc' => by simpa using no c' hc'), List.find?_cons, decide_eq_true q]
            rfl
          have := k _ st
          rw [ef] at this
          exact this
        · have q2 : ¬ (V.int ((n &&& c.2.1 : Nat) : Int)) = V.int (c.1 : Int) := fun r => q (by
            injection r with r
            exact_mod_cast r)
          rw [decide_eq_false q2]
          refine iteF ⟨_, _, _, rfl, rfl, fun c' hc' => ?_⟩
          rw [List.take_add_one, hcc] at hc'
          rcases List.mem_append.mp hc' with hc' | hc'
          · exact no c' hc'
          · rw [List.mem_singleton.mp hc']
            exact q
      · rintro σ H2 ⟨v3, v4, v5, rfl, rfl, no⟩
        rw [List.take_of_length_le (by rw [cl]; exact Nat.le_refl _)] at no
        refine ⟨_, rfl, ua, _, 3, _, rfl, rfl, hu2, atI_nat (j := 3) rfl, ?_⟩
        have ef : leadsF (.by_ pl cs z) n = z := by
          show ((cs.find? fun c => decide (n &&& c.2.1 = c.1)).map (·.2.2)).getD z = z
          rw [List.find?_eq_none.mpr (fun c' hc' => by simpa using no c' hc')]
          rfl
        have := k _ st
        rw [ef] at this
        exact this
end
end LJ

namespace LJ
open PySem PySem.Spec PyProof.Rows L2 GuL HG Bt
abbrev sAsked : Stmt := topS 80
/-- [x for x, y in pairs], the pairs by any expression -/
theorem lcFirstE {K : PySem.W.Frag} {σ : L2.St} {H : Hp} {Q : VK} {j k : Nat} {tl : TE} {ds : List PyData} {zs : List Str} (hr : Rows zs ds) (hz : zs.length ≤ 900)
    (ht : ∀ R : VK, (∀ l xs H1, Same H H1 → SqT K H1 l xs → DpAll K H1 xs ds → R (.ref l) H1) → tl σ H R)
    (hw : ∀ x y, wipe (((wipe σ [j, k]).set j (some x)).set k (some y)) [j, k] = wipe σ [j, k]) (hj : ∀ x y, (((wipe σ [j, k]).set j (some x)).set k (some y))[j]? = some (some x))
    (q : ∀ D H', Same H H' → H D = none → H' D = some (.lst (zs.map V.str)) → Q (.ref D) H') :
    tLc (iTup K tl) (gTup K 2 (gCons (gName j) (gCons (gName k) gNil))) tYes (tVar j) [j, k] σ H Q := by
  refine ht _ fun l xs H1 s1 hl hd => ⟨l, rfl, ⟨_, hl⟩, fun D hD => ?_⟩
  refine lc_tup (K := K) (a := l) (xs := xs) (fun n H' => Same H1 H' ∧ H' D = some (.lst ((zs.take n).map V.str))) ⟨same_new hD, upd_same⟩ (fun n H' _ p => sameT p.1 hl) ?_ ?_
  · rintro n x H' hn ⟨s, f⟩
    obtain ⟨d, hd1, hd2⟩ := dpAll_at hd hn
    obtain ⟨z, e, hz1, rfl⟩ := hr.row n d hd1
    obtain ⟨a, y, rfl, h1, h2⟩ := pair_dp (dpSame s hd2)
    have hn9 : n < 900 := by
      have := (List.getElem?_eq_some_iff.mp hz1).1
      omega
    refine ⟨a, _, rfl, h1, rfl, _, _, rfl, _, _, rfl, rfl, hw _ _, _, hj _ _, _, f, ?_, fun b u hb => ?_, ?_⟩
    · rw [List.length_map]
      exact small1000 (Nat.le_trans (List.length_take_le _ _) (by omega))
    · rw [upd_ne (ne_of_none hb hD)]
      exact s _ _ hb
    · rw [upd_same, List.take_add_one, hz1, List.map_append]
      rfl
  · rintro H' ⟨s, f⟩
    have e : zs.take xs.length = zs := List.take_of_length_le (by rw [dpAll_len hd, hr.len]; exact Nat.le_refl _)
    rw [e] at f
    exact q D H' (s1.trans s) (s1.free hD) f
theorem asgFirstE {K : PySem.W.Frag} {σ : L2.St} {H : Hp} {D : Ends} {u : TS} {n j k : Nat} {tl : TE} {ds : List PyData} {zs : List Str} (hr : Rows zs ds) (hz : zs.length ≤ 900)
    (ht : ∀ R : VK, (∀ l xs H1, Same H H1 → SqT K H1 l xs → DpAll K H1 xs ds → R (.ref l) H1) → tl σ H R)
    (hw : ∀ x y, wipe (((wipe σ [j, k]).set j (some x)).set k (some y)) [j, k] = wipe σ [j, k]) (hj : ∀ x y, (((wipe σ [j, k]).set j (some x)).set k (some y))[j]? = some (some x))
    (q : ∀ L H', Same H H' → H L = none → H' L = some (.lst (zs.map V.str)) → gName n (.ref L) σ H' fun σ2 H2 => u D σ2 H2) :
    tSeq (tAsg (tLc (iTup K tl) (gTup K 2 (gCons (gName j) (gCons (gName k) gNil))) tYes (tVar j) [j, k]) (gName n)) u D σ H := by
  show tLc (iTup K tl) (gTup K 2 (gCons (gName j) (gCons (gName k) gNil))) tYes (tVar j) [j, k] σ H (fun x H1 => gName n x σ H1 fun σ2 H2 => u D σ2 H2)
  exact lcFirstE hr hz ht hw hj q
/-- what is held: by name the words, a tuple or a list of them -/
def HeldV (K : PySem.W.Frag) (H : Hp) (u : V) (ws : List Nat) : Prop := ∃ a, u = .ref a ∧ (SqL K H a (vN ws) ∨ SqT K H a (vN ws))
def HeldOk (K : PySem.W.Frag) (H : Hp) (q : Addr) (hl : Hld) : Prop := ∃ kvs : List (Key × V), H q = some (.dK kvs) ∧ ∀ z, (hl z = none ∧ valV kvs (.inr z) = none) ∨ ∃ ws u, hl z = some ws ∧ valV kvs (.inr z) = some u ∧ HeldV K H u ws
theorem HeldV.same {K : PySem.W.Frag} {H H' : Hp} {u : V} {ws : List Nat} (s : Same H H') : HeldV K H u ws → HeldV K H' u ws := by
  rintro ⟨a, h, h1 | h1⟩
  · exact ⟨a, h, .inl (s.seq h1)⟩
  · exact ⟨a, h, .inr (sameT s h1)⟩
theorem HeldOk.same {K : PySem.W.Frag} {H H' : Hp} {q : Addr} {hl : Hld} (s : Same H H') : HeldOk K H q hl → HeldOk K H' q hl := by
  rintro ⟨kvs, h1, h2⟩
  refine ⟨kvs, s _ _ h1, fun z => ?_⟩
  rcases h2 z with h | ⟨ws, u, a1, a2, a3⟩
  · exact .inl h
  · exact .inr ⟨ws, u, a1, a2, a3.same s⟩
def Fits (hs : List Hdr) (hl : Hld) : Prop := ∀ h ∈ hs, ∀ ws, hl h.1 = some ws → ws.length = h.2.length
theorem neBy1 : (!decide ((V.str "accept") = V.str "by")) = true := by decide +kernel
theorem neBy2 : (!decide ((V.str "refuse") = V.str "by")) = true := by decide +kernel
theorem neBy3 : (!decide ((V.str "go") = V.str "by")) = true := by decide +kernel
theorem neBy4 : (!decide ((V.str "by") = V.str "by")) = false := by decide +kernel
section
variable {P : Program} {w : World} {K : PySem.W.Frag} {mg : Str → Option Value} {base : Heap}
theorem scIndex : FnScope ["_law_states_here", "_law_name_here", "_law_at"] ["_law_states_here", "_law_name_here"] (defScope sIndex) := ⟨rfl, rfl, rfl, by decide +kernel, rfl, by decide +kernel, by decide +kernel⟩
def spIndex (K : PySem.W.Frag) : Sp := fun vs H Q _ => ∃ (v : V) (pre post : List Sta) (s : Sta), vs = [v, .str s.nm] ∧ Dp K H v (encSs (pre ++ s :: post)) ∧ s.nm ∉ pre.map (·.nm) ∧ (pre ++ s :: post).length ≤ 8 ∧ ∀ H', Same H H' → Q (.int (pre.length : Int)) H'
theorem ok_index {f : Addr} {fd : FuncData} (F : Fun K "_law_index" "_law_index" sIndex f fd) (B : Blt mg) : FnOk P w K mg base CX0 1 f fd ["_law_states_here", "_law_name_here"] (spIndex K) := by
  refine F.ok scIndex (fun vs H Q E h => ?_) (fun cdv A outer s H vs Q E hr h => ?_)
  · obtain ⟨v, pre, post, s, rfl, _⟩ := h
    rfl
  · obtain ⟨v, pre, post, s', rfl, dv, new, l8, k⟩ := h
    refine ⟨_, (pss_one (ps_ret (pe_ix ix_list (pe_lc (own := [("_law_at", 2)]) (g := gName 2) (tt := (tTest (tOp rEq (tOp (rIxT K) (tOp (rIxT K) (tVar 0) (tVar 2)) (tC (.int 0))) (tVar 1)))) rfl scIndex.nd (pi_range1 (by rfl) B.range (pa_cons (pe_callB call_len_seq (by rfl) B.len PySem.boot_len (pa_cons (pv 0) pa_nil)) pa_nil)) (blkOk_by (N := ["_law_states_here", "_law_name_here", "_law_at"]) (sc := defScope sIndex) (by decide +kernel)) (fun _ _ _ _ _ => (pg_name (i := 2) scIndex.nd rfl (.inl rfl))) (fun _ _ _ _ _ => (pts_one (pt_cmpR op_eq (pe_ix ix_tup (pe_ix ix_tup (pv 0) (pv 2) (fun _ _ => rfl)) pe_int (fun _ _ => rfl)) (pv 1) (nomark _)))) (fun _ _ _ _ _ => (pv 2))) pe_int (fun _ _ => rfl)))), ?_⟩
    obtain ⟨a, xs, rfl, ha, hd⟩ := dp_tup dv
    have xl := dpAll_len hd
    rw [List.length_map] at xl
    refine ⟨_, rfl, a, _, rfl, .inr ha, _, rfl, by omega, by omega, fun D hD => ?_⟩
    rw [Int.toNat_natCast]
    refine lc_range (lo := 0) (n := xs.length) (fun i H' => Same H H' ∧ ∃ ys, H' D = some (.lst ys) ∧ ys.length ≤ i ∧ (i ≤ pre.length → ys = []) ∧ (pre.length < i → ∃ t, ys = .int (pre.length : Int) :: t)) ⟨same_new hD, [], upd_same, Nat.zero_le _, fun _ => rfl, fun h => absurd h (Nat.not_lt_zero _)⟩ ?_ ?_
    · rintro i H2 hi ⟨s2, ys, f, ly, y1, y2⟩
      obtain ⟨x, hx⟩ : ∃ x, xs[i]? = some x := ⟨_, List.getElem?_eq_getElem hi⟩
      obtain ⟨d, hd1, hd2⟩ := dpAll_at hd hx
      rw [List.getElem?_map] at hd1
      obtain ⟨t, ht, rfl⟩ := Option.map_eq_some_iff.mp hd1
      obtain ⟨ta, u, rfl, hta, _⟩ := dp_sta hd2
      refine ⟨rfl, _, rfl, _, rfl, a, _, ((0 : Int) + (i : Nat)), .ref ta, rfl, rfl, sameT s2 ha, by rw [Int.zero_add]; exact atI_nat hx, ta, _, 0, _, rfl, rfl, sameT s2 hta, atI_nat (j := 0) rfl, _, rfl, rfl, _, rfl, ?_⟩
      by_cases e : t.nm = s'.nm
      · have e2 : V.str t.nm = V.str s'.nm := by rw [e]
        rw [decide_eq_true e2]
        have hpi : ¬ i < pre.length := fun hlt => by
          rw [List.getElem?_append_left hlt] at ht
          exact new (e ▸ List.mem_map.mpr ⟨t, List.mem_of_getElem? ht, rfl⟩)
        refine iteT ⟨_, rfl, _, f, small1000 (by omega), fun b' u' hb' => ?_, ys ++ [.int ((0 : Int) + (i : Nat))], upd_same, by rw [List.length_append]; exact Nat.succ_le_succ ly, fun h => absurd h (by omega), fun h => ?_⟩
        · rw [upd_ne (ne_of_none hb' hD)]
          exact s2 _ _ hb'
        · by_cases q : pre.length < i
          · obtain ⟨t', rfl⟩ := y2 q
            exact ⟨t' ++ [_], rfl⟩
          · have : i = pre.length := by omega
            rw [y1 (by omega), this, Int.zero_add]
            exact ⟨[], rfl⟩
      · have e2 : ¬ V.str t.nm = V.str s'.nm := fun q => e (by injection q)
        rw [decide_eq_false e2]
        refine iteF ⟨s2, ys, f, by omega, fun h => y1 (by omega), fun h => y2 ?_⟩
        by_cases q : i = pre.length
        · exfalso
          rw [q, List.getElem?_append_right (Nat.le_refl _), Nat.sub_self] at ht
          injection ht with ht
          exact e (by rw [← ht])
        · omega
    · rintro H2 ⟨s2, ys, f, ly, y1, y2⟩
      have hlen : pre.length < xs.length := by
        rw [xl, List.length_append]
        show _ < _ + (_ + 1)
        omega
      obtain ⟨t, rfl⟩ := y2 hlen
      exact ⟨D, _, 0, _, rfl, rfl, SqL.of f, atI_nat (j := 0) rfl, k _ s2⟩
theorem scAsked : FnScope ["_law_headers_here", "_law_step", "_law_held", "_law_first", "_law_names", "_law_field", "_law_width_here"] ["_law_headers_here", "_law_step", "_law_held", "_law_first"] (defScope sAsked) := ⟨rfl, rfl, rfl, by decide +kernel, rfl, by decide +kernel, by decide +kernel⟩
def spAsked (K : PySem.W.Frag) : Sp := fun vs H Q _ => ∃ (v u : V) (q : Addr) (hs : List Hdr) (x : Nxt) (hl : Hld) (first : Nat), vs = [v, u, .ref q, .int (first : Int)] ∧ Dp K H v (encHs hs) ∧ HeadersOk hs ∧ Dp K H u (encN x) ∧ (∀ p ∈ asksN x, ∃ n, PlcW hs p n) ∧ HeldOk K H q hl ∧ Fits hs hl ∧
  ∀ H', Same H H' → Q (.int ((askedF hs x hl first : Nat) : Int)) H'
theorem ok_asked {f fF : Addr} {fd dF : FuncData} (F : Fun K "_law_asked" "_law_asked" sAsked f fd) (B : Blt mg) (KF : Kn P w K mg base 1 "_law_fields_of" sFieldsOf ["_law_headers_here", "_law_header"] (spFieldsOf K) fF dF) : FnOk P w K mg base CX0 2 f fd ["_law_headers_here", "_law_step", "_law_held", "_law_first"] (spAsked K) := by
  refine F.ok scAsked (fun vs H Q E h => ?_) (fun cdv A outer s H vs Q E hr h => ?_)
  · obtain ⟨v, u, q, hs, x, hl, first, rfl, _⟩ := h
    rfl
  · obtain ⟨v, u, q, hs, x, hl, first, rfl, dv, hok, du, pw, hh, fit, k⟩ := h
    refine ⟨_, (pss_cons (ps_if (pt_cmpR op_ne (pe_ix ix_tup (pv 1) pe_int (fun _ _ => rfl)) pe_str (nomark _)) (pss_one (ps_ret pe_int)) pss_nil) (pss_cons (ps_if (pt_cmpR op_eq (pe_ix ix_tup (pe_ix ix_tup (pv 1) pe_int (fun _ _ => rfl)) pe_int (fun _ _ => rfl)) pe_str (nomark _)) (pss_one (ps_ret (pv 3))) pss_nil) (pss_cons (ps_if (pt_cmp (pc_dnotin (hu1 hr) (pe_ix ix_tup (pe_ix ix_tup (pv 1) pe_int (fun _ _ => rfl)) pe_int (fun _ _ => rfl)) (pv 2)) (by rfl)) (pss_one (ps_ret pe_int)) pss_nil) (pss_cons (ps_setLc (i := 4) (own := [("_law_field", 5), ("_law_width_here", 6)]) (g := (gTup K 2 (gCons (gName 5) (gCons (gName 6) gNil)))) (tt := tYes) rfl scAsked.nd rfl rfl (sw_true rfl rfl rfl rfl) (pi_tup (pe_call KF.G (hr.mono (by decide)) (by rfl) KF.g KF.F.kp KF.b .nil pass0 (pa_cons (pv 0) (pa_cons (pe_ix ix_tup (pe_ix ix_tup (pv 1) pe_int (fun _ _ => rfl)) pe_int (fun _ _ => rfl)) pa_nil)))) (blkOk_by (N := ["_law_headers_here", "_law_step", "_law_held", "_law_first", "_law_names", "_law_field", "_law_width_here"]) (sc := defScope sAsked) (by decide +kernel)) (fun _ _ _ _ _ => (pg_tup rfl (pgs_cons (pg_name (i := 5) scAsked.nd rfl (.inl rfl)) (pgs_cons (pg_name (i := 6) scAsked.nd rfl (.inl rfl)) pgs_nil)))) (fun _ _ _ _ _ => pts_nil) (fun _ _ _ _ _ => (pv 5))) (pss_one (ps_ret (pe_ix ix_seq (pe_dget (hu1 hr) (pv 2) (pe_ix ix_tup (pe_ix ix_tup (pv 1) pe_int (fun _ _ => rfl)) pe_int (fun _ _ => rfl)) (fun _ _ => rfl)) (pe_bm PySem.F.plainAttrs_list PySem.F.slot_list_index PySem.F.type_list_index mt_index (pv 4) (pa_cons (pe_ix ix_tup (pe_ix ix_tup (pv 1) pe_int (fun _ _ => rfl)) pe_int (fun _ _ => rfl)) pa_nil)) (fun _ _ => rfl)))))))), ?_⟩
    cases x with
    | acc =>
      obtain ⟨ua, rfl, hu⟩ := dp_n1 du
      refine ⟨_, rfl, ua, _, 0, _, rfl, rfl, hu, atI_nat (j := 0) rfl, rfl, _, rfl, ?_⟩
      rw [neBy1]
      exact iteT (k H (Same.refl _))
    | rej =>
      obtain ⟨ua, rfl, hu⟩ := dp_n1 du
      refine ⟨_, rfl, ua, _, 0, _, rfl, rfl, hu, atI_nat (j := 0) rfl, rfl, _, rfl, ?_⟩
      rw [neBy2]
      exact iteT (k H (Same.refl _))
    | go z =>
      obtain ⟨ua, rfl, hu⟩ := dp_n2 du
      refine ⟨_, rfl, ua, _, 0, _, rfl, rfl, hu, atI_nat (j := 0) rfl, rfl, _, rfl, ?_⟩
      rw [neBy3]
      exact iteT (k H (Same.refl _))
    | by_ pl cs z =>
      obtain ⟨ua, up, uc, cx, rfl, hu, hp, _, _⟩ := dp_by du
      refine ⟨_, rfl, ua, _, 0, _, rfl, rfl, hu, atI_nat (j := 0) rfl, rfl, _, rfl, ?_⟩
      rw [neBy4]
      refine iteF ?_
      obtain ⟨pn, hpn⟩ := pw pl List.mem_cons_self
      cases hpn with
      | inp =>
        obtain ⟨pa, rfl, hpa⟩ := dp_inp hp
        refine ⟨_, rfl, ua, _, 1, _, rfl, rfl, hu, atI_nat (j := 1) rfl, pa, _, 0, _, rfl, rfl, hpa, atI_nat (j := 0) rfl, rfl, _, rfl, ?_⟩
        rw [locTT]
        exact iteT ⟨_, rfl, k H (Same.refl _)⟩
      | @fld h fl m1 m2 =>
        obtain ⟨pa, rfl, hpa⟩ := dp_fld hp
        refine ⟨_, rfl, ua, _, 1, _, rfl, rfl, hu, atI_nat (j := 1) rfl, pa, _, 0, _, rfl, rfl, hpa, atI_nat (j := 0) rfl, rfl, _, rfl, ?_⟩
        rw [locFT]
        obtain ⟨kvs, hq, hv⟩ := hh
        refine iteF ⟨_, rfl, ua, _, 1, _, rfl, rfl, hu, atI_nat (j := 1) rfl, pa, _, 1, _, rfl, rfl, hpa, atI_nat (j := 1) rfl, _, rfl, q, _, rfl, DGet.k (k := .inr h.1) hq, _, rfl, ?_⟩
        rcases hv h.1 with ⟨h1, h2⟩ | ⟨ws, uw, h1, h2, h3⟩
        · rw [h2]
          refine iteT ?_
          have e : askedF hs (.by_ (.fld h.1 fl.1) cs z) hl first = 0 := by
            simp only [askedF, h1]
          have := k H (Same.refl _)
          rw [e] at this
          exact this
        · rw [h2]
          refine iteF ?_
          unfold tNext
          dsimp only
          have wl := fit h m1 ws h1
          have l12 := (hok.fo _ m1).l2
          refine asgFirstE (zs := h.2.map (·.1)) (rowsF h.2) (by rw [List.length_map]; omega) (fun R r => ?_) (fun _ _ => rfl) (fun _ _ => rfl) (fun D H2 s2 hD f2 => ?_)
          · refine ⟨_, rfl, _, rfl, ua, _, 1, _, rfl, rfl, hu, atI_nat (j := 1) rfl, pa, _, 1, _, rfl, rfl, hpa, atI_nat (j := 1) rfl, v, hs, h, rfl, dv, hok, m1, fun H1 u s1 d1 => ?_⟩
            obtain ⟨fa, fxs, rfl, g1, g2⟩ := dp_tup d1
            exact r fa fxs H1 s1 g1 g2
          · have fm : fl.1 ∈ h.2.map (·.1) := List.mem_map.mpr ⟨fl, m2, rfl⟩
            have hidx : (h.2.map (·.1)).idxOf fl.1 < (h.2.map (·.1)).length := List.idxOf_lt_length_of_mem fm
            have ew : askedF hs (.by_ (.fld h.1 fl.1) cs z) hl first = ws.getD ((h.2.map (·.1)).idxOf fl.1) 0 := by
              simp only [askedF, h1, flds_mem hok m1]
            obtain ⟨j, ej⟩ : ∃ j, j = (h.2.map (·.1)).idxOf fl.1 := ⟨_, rfl⟩
            rw [← ej] at hidx ew
            have jw : j < ws.length := by
              rw [List.length_map] at hidx
              omega
            have k2 := k H2 s2
            rw [ew] at k2
            obtain ⟨wa, rfl, hwa⟩ := h3
            refine ⟨_, rfl, _, rfl, ua, _, 1, _, rfl, rfl, sameT s2 hu, atI_nat (j := 1) rfl, pa, _, 1, _, rfl, rfl, sameT s2 hpa, atI_nat (j := 1) rfl, q, .ref wa, rfl, (by rw [← h2]; exact DGet.k (k := .inr h.1) (s2 _ _ hq)), ?_⟩
            refine ⟨_, rfl, .inl ⟨rfl, _, SqL.of f2⟩, _, rfl, ua, _, 1, _, rfl, rfl, sameT s2 hu, atI_nat (j := 1) rfl, pa, _, 2, _, rfl, rfl, sameT s2 hpa, atI_nat (j := 2) rfl, D, (h.2.map (·.1)).map V.str, .str fl.1, j, .str fl.1, rfl, rfl, SqL.of f2, rfl, flatS _, ?_, ?_, ?_, ?_⟩
            · rw [List.getElem?_map, ej, List.getElem?_eq_getElem (List.idxOf_lt_length_of_mem fm), List.getElem_idxOf]
              rfl
            · show (fl.1 == fl.1) = true
              simp
            · intro m z' hm hz'
              rw [List.getElem?_map] at hz'
              obtain ⟨y, hy, rfl⟩ := Option.map_eq_some_iff.mp hz'
              show (y == fl.1) = false
              rw [ej] at hm
              have := List.not_of_lt_findIdx (p := fun x => x == fl.1) (xs := h.2.map (·.1)) hm
              have hml := (List.getElem?_eq_some_iff.mp hy).1
              rw [List.getElem?_eq_getElem hml] at hy
              injection hy with hy
              rw [← hy]
              simpa using this
            · have hat : atI (vN ws) (j : Int) = some (.int ((ws.getD j 0 : Nat) : Int)) := by
                refine atI_nat ?_
                unfold vN
                rw [List.getElem?_map, List.getElem?_eq_getElem jw, List.getD_eq_getElem?_getD, List.getElem?_eq_getElem jw]
                rfl
              rcases hwa with hwa | hwa
              · exact .inl ⟨wa, _, _, _, rfl, rfl, s2.seq hwa, hat, k2⟩
              · exact .inr (.inl ⟨wa, _, _, _, rfl, rfl, sameT s2 hwa, hat, k2⟩)
end
end LJ

namespace LJ
open PySem PySem.Spec PyProof.Rows L2 GuL HG Bt
abbrev sGoing : Stmt := topS 82
def encPk (first : Nat) (bs : List Nat) : PyData := .tuple [.int (first : Int), encNs bs]
def HeldT (K : PySem.W.Frag) (H : Hp) (q : Addr) (n : Nat) (hl : Hld) : Prop := ∃ kvs : List (Key × V), H q = some (.dK kvs) ∧ kvs.length ≤ n ∧ ∀ z, (hl z = none ∧ valV kvs (.inr z) = none) ∨ ∃ ws u, hl z = some ws ∧ valV kvs (.inr z) = some u ∧ Dp K H u (encNs ws)
theorem HeldT.ok {K : PySem.W.Frag} {H : Hp} {q : Addr} {n : Nat} {hl : Hld} : HeldT K H q n hl → HeldOk K H q hl := by
  rintro ⟨kvs, h1, _, h2⟩
  refine ⟨kvs, h1, fun z => ?_⟩
  rcases h2 z with h | ⟨ws, u, a1, a2, a3⟩
  · exact .inl h
  · obtain ⟨a, xs, rfl, b1, b2⟩ := dp_tup a3
    rw [dp_vN_inv b2] at b1
    exact .inr ⟨ws, _, a1, a2, a, rfl, .inr b1⟩
theorem HeldT.same {K : PySem.W.Frag} {H H' : Hp} {q : Addr} {n : Nat} {hl : Hld} (s : Same H H') : HeldT K H q n hl → HeldT K H' q n hl := by
  rintro ⟨kvs, h1, h0, h2⟩
  refine ⟨kvs, s _ _ h1, h0, fun z => ?_⟩
  rcases h2 z with h | ⟨ws, u, a1, a2, a3⟩
  · exact .inl h
  · exact .inr ⟨ws, u, a1, a2, dpSame s a3⟩
theorem HeldT.exl {K : PySem.W.Frag} {H H' : Hp} {b q : Addr} {n : Nat} {hl : Hld} {xs0 : List V} (hb : H b = some (.lst xs0)) (e : Exb b H H') : HeldT K H q n hl → HeldT K H' q n hl := by
  rintro ⟨kvs, h1, h0, h2⟩
  refine ⟨kvs, e _ _ (fun z => by rw [z, hb] at h1; cases h1) h1, h0, fun z => ?_⟩
  rcases h2 z with h | ⟨ws, u, a1, a2, a3⟩
  · exact .inl h
  · exact .inr ⟨ws, u, a1, a2, dpExb hb e (noL_encNs ws) a3⟩
theorem HeldT.put {K : PySem.W.Frag} {H : Hp} {q : Addr} {n : Nat} {hl : Hld} {z : Str} {u : V} {ws : List Nat} (du : Dp K H u (encNs ws)) : HeldT K H q n hl → ∃ kvs : List (Key × V), H q = some (.dK kvs) ∧ kvs.length ≤ n ∧ HeldT K (upd H q (.dK (putK kvs (.inr z) u))) q (n + 1) (hput hl z ws) := by
  rintro ⟨kvs, h1, h0, h2⟩
  refine ⟨kvs, h1, h0, _, upd_same, Nat.le_trans (length_putK _ _ _) (by omega), fun y => ?_⟩
  rw [valV_put]
  unfold hput
  by_cases e : y = z
  · subst e
    rw [if_pos rfl, if_pos rfl]
    exact .inr ⟨ws, u, rfl, rfl, dpExd h1 Exb.put (noL_encNs ws) du⟩
  · have e2 : ¬ (Sum.inr y : Key) = Sum.inr z := fun c => e (by injection c)
    rw [if_neg e, if_neg e2]
    rcases h2 y with h | ⟨ws', u', a1, a2, a3⟩
    · exact .inl h
    · exact .inr ⟨ws', u', a1, a2, dpExd h1 Exb.put (noL_encNs ws') a3⟩
theorem fits_put {hs : List Hdr} (ok : HeadersOk hs) {hl : Hld} (f : Fits hs hl) {h : Hdr} (hm : h ∈ hs) {ws : List Nat} (l : ws.length = h.2.length) : Fits hs (hput hl h.1 ws) := by
  intro g gm ws' e
  unfold hput at e
  by_cases q : g.1 = h.1
  · rw [if_pos q] at e
    injection e with e
    rw [← e, l, ← flds_mem ok hm, ← flds_mem ok gm, q]
  · rw [if_neg q] at e
    exact f g gm ws' e
theorem sts_suffix {hs : List Hdr} : ∀ {p r : List Sta}, StsOk hs (p ++ r) → StsOk hs r
  | [], _, h => h
  | _ :: p, _, h => sts_suffix (p := p) h.1
theorem sts_nodup {hs : List Hdr} : ∀ {r : List Sta}, StsOk hs r → (r.map (·.nm)).Nodup
  | [], _ => List.nodup_nil
  | s :: r, h => List.nodup_cons.mpr ⟨h.2.new, sts_nodup h.1⟩
/-- t[lo:hi], the whole or not -/
theorem slA {K : PySem.W.Frag} {H : Hp} {Q : VK} {a : Addr} {xs : List V} {lo hi : Option Int} (ha : SqT K H a xs) (q : ∀ p H', Same H H' → SqT K H' p (cutV xs lo hi) → Q (.ref p) H') : rSlA K (.ref a) lo hi H Q := by
  refine ⟨a, xs, rfl, ha, fun h => ?_, fun _ p hp => q p _ (same_new hp) (SqT.of upd_same)⟩
  refine q a H (Same.refl _) ?_
  have e : cutV xs lo hi = xs := by
    unfold cutV
    rw [h.1, h.2, List.drop_zero, Nat.sub_zero, List.take_length]
  rw [e]
  exact ha
theorem HeldT.mono {K : PySem.W.Frag} {H : Hp} {q : Addr} {n m : Nat} {hl : Hld} (h : n ≤ m) : HeldT K H q n hl → HeldT K H q m hl := by
  rintro ⟨kvs, h1, h0, h2⟩
  exact ⟨kvs, h1, Nat.le_trans h0 h, h2⟩
theorem dp_fr {K : PySem.W.Frag} {H : Hp} {v : V} {f : Frm} (h : Dp K H v (encFr f)) : ∃ a hv sa sxs ov, v = .ref a ∧ SqT K H a [hv, .ref sa, ov] ∧ Dp K H hv (encHs f.hs) ∧ SqT K H sa sxs ∧ DpAll K H sxs (f.ss.map encS) ∧ Dp K H ov (.tuple (f.od.map PyData.str)) := by
  obtain ⟨a, xs, rfl, h1, h2⟩ := dp_tup h
  cases h2 with
  | cons h3 h4 =>
    cases h4 with
    | cons h5 h6 =>
      cases h6 with
      | cons h7 h8 =>
        cases h8
        obtain ⟨sa, sxs, rfl, g1, g2⟩ := dp_tup h5
        exact ⟨a, _, sa, sxs, _, rfl, h1, h3, g1, g2, h7⟩
theorem dp_pk {K : PySem.W.Frag} {H : Hp} {u : V} {first : Nat} {bs : List Nat} (h : Dp K H u (encPk first bs)) : ∃ a ba, u = .ref a ∧ SqT K H a [.int (first : Int), .ref ba] ∧ SqT K H ba (vN bs) := by
  obtain ⟨a, xs, rfl, h1, h2⟩ := dp_tup h
  cases h2 with
  | cons h3 h4 =>
    cases h4 with
    | cons h5 h6 =>
      cases h6
      obtain ⟨ba, bxs, rfl, g1, g2⟩ := dp_tup h5
      rw [dp_vN_inv g2] at g1
      rw [dp_int h3] at h1
      exact ⟨a, ba, rfl, h1, g1⟩
theorem nonF : (!decide ((V.non) = V.non)) = false := by decide +kernel
theorem strT (z : Str) : (!decide (V.str z = V.non)) = true := by
  rw [decide_eq_false (fun h => nomatch h)]
  rfl
theorem asks_ok {hs : List Hdr} {gs : List Str} {x : Nxt} (h : NxtOk hs gs x) : ∀ p ∈ asksN x, ∃ n, PlcW hs p n := by
  intro p hp
  cases h with
  | acc => exact nomatch hp
  | rej => exact nomatch hp
  | go _ _ => exact nomatch hp
  | by_ h1 _ _ _ =>
    rw [List.mem_singleton.mp hp]
    exact ⟨_, h1⟩
structure GW (K : PySem.W.Frag) (f : Frm) (bs : List Nat) (first : Nat) (T : List Str × Hld × Nat) (H H' : Hp) (wl q : Addr) (i : Nat) (pre : List Sta) (s : Sta) (post : List Sta) (w : List Str) (hl : Hld) (tk : Nat) : Prop where
  e : f.ss = pre ++ s :: post
  li : i ≤ pre.length
  sm : Same H H'
  hw : H' wl = some (.lst (w.map V.str))
  hh : HeldT K H' q i hl
  ft : Fits f.hs hl
  tk1 : tk ≤ bs.length
  t1 : T.1 = w ++ (runL f.hs bs first (s :: post) s.nm hl tk).1
  t2 : T.2 = (runL f.hs bs first (s :: post) s.nm hl tk).2
  lw : w.length = i
theorem inE (z : Str) : inV (.str z) (endsN.map V.str) = decide (z ∈ endsN) := inV_strs z endsN
section
variable {P : Program} {w : World} {K : PySem.W.Frag} {mg : Str → Option Value} {base : Heap}
theorem scGoing : FnScope ["_law_frame_here", "_law_packet", "_law_headers_here", "_law_states_here", "_law_at", "_law_way", "_law_held", "_law_taken", "_law_turn", "_law_name_here", "_law_header", "_law_step", "_law_fields_here", "_law_size_here", "_law_aim"] ["_law_frame_here", "_law_packet"] (defScope sGoing) := ⟨rfl, rfl, rfl, by decide +kernel, rfl, by decide +kernel, by decide +kernel⟩
def spGoing (K : PySem.W.Frag) : Sp := fun vs H Q _ => ∃ (v u : V) (f : Frm) (s0 : Sta) (r0 : List Sta) (first : Nat) (bs : List Nat), vs = [v, u] ∧ Dp K H v (encFr f) ∧ FrmOk f ∧ f.ss = s0 :: r0 ∧ Dp K H u (encPk first bs) ∧ bs.length ≤ 1000 ∧
  ∀ H' p wp q, Same H H' → H' p = some (.tup [.ref wp, .ref q, .int (((runL f.hs bs first f.ss s0.nm (fun _ => none) 0).2.2 : Nat) : Int)]) → H' wp = some (.tup ((runL f.hs bs first f.ss s0.nm (fun _ => none) 0).1.map V.str)) → HeldT K H' q 8 (runL f.hs bs first f.ss s0.nm (fun _ => none) 0).2.1 →
    (runL f.hs bs first f.ss s0.nm (fun _ => none) 0).2.2 ≤ bs.length → Q (.ref p) H'
theorem ok_going {f fF fZ fR fL fA fI : Addr} {fd dF dZ dR dL dA dI : FuncData} (F : Fun K "_law_going" "_law_going" sGoing f fd) (B : Blt mg) (KF : Kn P w K mg base 1 "_law_fields_of" sFieldsOf ["_law_headers_here", "_law_header"] (spFieldsOf K) fF dF)
    (KZ : Kn P w K mg base 1 "_law_size" sSize ["_law_fields_here"] (spSize K) fZ dZ) (KR : Kn P w K mg base 1 "_law_read" sRead ["_law_fields_here", "_law_taken"] (spRead K) fR dR) (KL : Kn P w K mg base 1 "_law_leads" sLeads ["_law_state", "_law_word_here"] (spLeads K) fL dL)
    (KA : Kn P w K mg base 2 "_law_asked" sAsked ["_law_headers_here", "_law_step", "_law_held", "_law_first"] (spAsked K) fA dA) (KI : Kn P w K mg base 1 "_law_index" sIndex ["_law_states_here", "_law_name_here"] (spIndex K) fI dI) : FnOk P w K mg base CX0 3 f fd ["_law_frame_here", "_law_packet"] (spGoing K) := by
  refine F.ok scGoing (fun vs H Q E h => ?_) (fun cdv A outer s H vs Q E hr h => ?_)
  · obtain ⟨v, u, f, s0, r0, first, bs, rfl, _⟩ := h
    rfl
  · obtain ⟨v, u, f, s0, r0, first, bs, rfl, dv, fok, es0, du, lbs, k⟩ := h
    refine ⟨_, (pss_cons (ps_par (i := 2) (j := 3) (by rfl) scGoing.nd rfl rfl (by decide) rfl rfl (pa_cons (pe_ix ix_tup (pv 0) pe_int (fun _ _ => rfl)) (pa_cons (pe_ix ix_tup (pv 0) pe_int (fun _ _ => rfl)) pa_nil)) (by rfl)) (pss_cons (ps_asg (pe_tup (pa_cons pe_int (pa_cons (pe_lst pa_nil) (pa_cons pe_dnewK (pa_cons pe_int pa_nil))))) (pg_tup (by rfl) (pgs_cons (pg_name (i := 4) scGoing.nd rfl (.inl rfl)) (pgs_cons (pg_name (i := 5) scGoing.nd rfl (.inl rfl)) (pgs_cons (pg_name (i := 6) scGoing.nd rfl (.inl rfl)) (pgs_cons (pg_name (i := 7) scGoing.nd rfl (.inl rfl)) pgs_nil)))))) (pss_cons (ps_for PassesOwn.never rfl (pi_range1 (by rfl) B.range (pa_cons (pe_callB call_len_seq (by rfl) B.len PySem.boot_len (pa_cons (pv 3) pa_nil)) pa_nil)) (pg_name (i := 8) scGoing.nd rfl (.inl rfl)) (pss_cons (ps_asg (pe_ix ix_tup (pv 3) (pv 4) (fun _ _ => rfl)) (pg_tup (by rfl) (pgs_cons (pg_name (i := 9) scGoing.nd rfl (.inl rfl)) (pgs_cons (pg_name (i := 10) scGoing.nd rfl (.inl rfl)) (pgs_cons (pg_name (i := 11) scGoing.nd rfl (.inl rfl)) pgs_nil))))) (pss_cons (ps_expr (pe_bm PySem.F.plainAttrs_list PySem.F.slot_list_append PySem.F.type_list_append mt_append (pv 5) (pa_cons (pv 9) pa_nil))) (Evl.pss_cut (ps_if (pt_cmpR op_notN (pv 10) pe_non (nomark _)) (pss_cons (ps_set (i := 12) scGoing.nd rfl (.inl rfl) (pe_call KF.G (hr.mono (by decide)) (by rfl) KF.g KF.F.kp KF.b .nil pass0 (pa_cons (pv 2) (pa_cons (pv 10) pa_nil)))) (pss_cons (ps_set (i := 13) scGoing.nd rfl (.inl rfl) (pe_call KZ.G (hr.mono (by decide)) (by rfl) KZ.g KZ.F.kp KZ.b .nil pass0 (pa_cons (pv 12) pa_nil))) (pss_cons (ps_if (pt_cmpR op_gt (pe_op op_add (pv 7) (pv 13)) (pe_callB call_len_seq (by rfl) B.len PySem.boot_len (pa_cons (pe_ix ix_tup (pv 1) pe_int (fun _ _ => rfl)) pa_nil)) (nomark _)) (pss_one (ps_ret (pe_tup (pa_cons (pe_callTy call_tuple_of (by rfl) B.tuple (by decide +kernel) (pa_cons (pe_op op_cat (pv 5) (pe_lst (pa_cons pe_str pa_nil))) pa_nil)) (pa_cons (pv 6) (pa_cons (pv 7) pa_nil)))))) pss_nil) (pss_cons (ps_dput (hu1 hr) (pv 6) (pv 10) (pe_call KR.G (hr.mono (by decide)) (by rfl) KR.g KR.F.kp KR.b .nil pass0 (pa_cons (pv 12) (pa_cons (pe_slice sl_tupA (pe_ix ix_tup (pv 1) pe_int (fun _ _ => rfl)) (po_some (pv 7)) (po_some (pe_op op_add (pv 7) (pv 13)))) pa_nil))) (by rfl)) (pss_one (ps_set (i := 7) scGoing.nd rfl (.inl rfl) (pe_op op_add (pv 7) (pv 13)))))))) pss_nil) (pss_cons (ps_set (i := 14) scGoing.nd rfl (.inl rfl) (pe_call KL.G (hr.mono (by decide)) (by rfl) KL.g KL.F.kp KL.b .nil pass0 (pa_cons (pe_ix ix_tup (pv 3) (pv 4) (fun _ _ => rfl)) (pa_cons (pe_call KA.G (hr.mono (by decide)) (by rfl) KA.g KA.F.kp KA.b .nil pass0 (pa_cons (pv 2) (pa_cons (pv 11) (pa_cons (pv 6) (pa_cons (pe_ix ix_tup (pv 1) pe_int (fun _ _ => rfl)) pa_nil))))) pa_nil)))) (pss_cons (ps_if (pt_cmpR op_in_seq (pv 14) (pe_tup (pa_cons pe_str (pa_cons pe_str pa_nil))) (by rfl)) (pss_one (ps_ret (pe_tup (pa_cons (pe_callTy call_tuple_of (by rfl) B.tuple (by decide +kernel) (pa_cons (pe_op op_cat (pv 5) (pe_lst (pa_cons (pv 14) pa_nil))) pa_nil)) (pa_cons (pv 6) (pa_cons (pv 7) pa_nil)))))) pss_nil) (pss_one (ps_set (i := 4) scGoing.nd rfl (.inl rfl) (pe_call KI.G (hr.mono (by decide)) (by rfl) KI.g KI.F.kp KI.b .nil pass0 (pa_cons (pv 3) (pa_cons (pv 14) pa_nil))))))))))) (pss_one (ps_ret (pe_tup (pa_cons (pe_callTy call_tuple_of (by rfl) B.tuple (by decide +kernel) (pa_cons (pv 5) pa_nil)) (pa_cons (pv 6) (pa_cons (pv 7) pa_nil))))))))), ?_⟩
    obtain ⟨va, hv, sa, sxs, ov, rfl, hva, dhv, hsa, hsd, _⟩ := dp_fr dv
    obtain ⟨pa, ba, rfl, hpa, hba⟩ := dp_pk du
    have sl := dpAll_len hsd
    rw [List.length_map] at sl
    have s8 := fok.s8
    have hok := fok.hs
    obtain ⟨T, eT⟩ : ∃ T, T = runL f.hs bs first f.ss s0.nm (fun _ => none) 0 := ⟨_, rfl⟩
    rw [← eT] at k
    refine ⟨_, rfl, va, _, 0, _, rfl, rfl, hva, atI_nat (j := 0) rfl, _, rfl, va, _, 1, _, rfl, rfl, hva, atI_nat (j := 1) rfl, _, _, rfl, ?_⟩
    refine ⟨Nat.zero_le _, fun wl hwl => fun q hq => ⟨by show 4 ≤ sizeLine; decide, fun tp htp => ⟨tp, _, rfl, SqT.of upd_same, rfl, _, _, rfl, _, _, rfl, _, _, rfl, _, _, rfl, rfl, ?_⟩⟩⟩
    have t1 := same_new (o := .lst []) hwl
    have t2 := same_new (o := .dK []) hq
    have t3 := same_new (o := .tup [.int 0, .ref wl, .ref q, .int 0]) htp
    have hq0 := t1.free hq
    have S := t1.trans (t2.trans t3)
    refine ⟨_, rfl, sa, _, rfl, .inr (sameT S hsa), _, rfl, by omega, by omega, ?_⟩
    rw [Int.toNat_natCast]
    refine for_range (lo := 0) (n := sxs.length) (fun i σ H' => ∃ (pre : List Sta) (s : Sta) (post : List Sta) (w : List Str) (hl : Hld) (tk : Nat) (v8 v9 v10 v11 v12 v13 v14 : Option V), σ = [some (.ref va), some (.ref pa), some hv, some (.ref sa), some (.int (pre.length : Int)), some (.ref wl), some (.ref q), some (.int (tk : Int)), v8, v9, v10, v11, v12, v13, v14] ∧ GW K f bs first T H H' wl q i pre s post w hl tk)
      ⟨[], s0, r0, [], fun _ => none, 0, _, _, _, _, _, _, _, rfl, ⟨es0, Nat.le_refl _, S, (t2.trans t3) _ _ upd_same, ⟨[], t3 _ _ upd_same, Nat.le_refl _, fun _ => .inl ⟨rfl, rfl⟩⟩, (fun h _ ws e => nomatch e), Nat.zero_le _, by rw [eT, es0]; rfl, by rw [eT, es0], rfl⟩⟩ ?_ ?_
    · rintro i σ H1 hi ⟨pre, s, post, w, hl, tk, v8, v9, v10, v11, v12, v13, v14, rfl, G⟩
      have sts : StsOk f.hs (s :: post) := sts_suffix (p := pre) (by rw [← G.e]; exact fok.ss)
      have ok := sts.2
      have i8 : i < 8 := by omega
      obtain ⟨x, hx, dx⟩ : ∃ x, sxs[pre.length]? = some x ∧ Dp K H x (encS s) := dpAll_get hsd (by rw [List.getElem?_map, G.e, List.getElem?_append_right (Nat.le_refl _), Nat.sub_self]; rfl)
      obtain ⟨ta, nv, rfl, hta, dnv⟩ := dp_sta dx
      refine ⟨_, rfl, _, rfl, sa, _, _, _, rfl, rfl, sameT G.sm hsa, atI_nat hx, ta, _, rfl, sameT G.sm hta, rfl, _, _, rfl, _, _, rfl, _, _, rfl, rfl, ?_⟩
      have lw := G.lw
      refine ⟨_, rfl, .inl ⟨rfl, _, SqL.of G.hw⟩, _, rfl, wl, _, _, rfl, rfl, G.hw, by rw [List.length_map]; exact small1000 (by omega), ?_⟩
      obtain ⟨H2, eH2⟩ : ∃ H2, H2 = upd H1 wl (.lst (w.map V.str ++ [.str s.nm])) := ⟨_, rfl⟩
      have sm2 : Same H H2 := by
        rw [eH2]
        exact Same.mut G.sm hwl
      have hw2 : H2 wl = some (.lst ((w ++ [s.nm]).map V.str)) := by
        rw [eH2, List.map_append]
        exact upd_same
      have hh2 : HeldT K H2 q i hl := by
        rw [eH2]
        exact G.hh.exl G.hw Exb.put
      rw [← eH2]
      have wl9 : (w ++ [s.nm]).length ≤ 9 := by
        rw [List.length_append, lw]
        show i + 1 ≤ 9
        omega
      refine ⟨fun σ' H' => ∃ (hl' : Hld) (tk' : Nat) (v12 v13 : Option V), σ' = [some (.ref va), some (.ref pa), some hv, some (.ref sa), some (.int (pre.length : Int)), some (.ref wl), some (.ref q), some (.int (tk' : Int)), some (.int ((0 : Int) + (i : Nat))), some (.str s.nm), some (optV s.hd), some nv, v12, v13, v14] ∧ Same H H' ∧
          H' wl = some (.lst ((w ++ [s.nm]).map V.str)) ∧ HeldT K H' q (i + 1) hl' ∧ Fits f.hs hl' ∧ tk' ≤ bs.length ∧ stp f.hs bs first s hl tk = (hl', tk', leadsF s.nx (askedF f.hs s.nx hl' first)), ?_, ?_⟩
      · refine ⟨_, rfl, rfl, _, rfl, ?_⟩
        cases e : s.hd with
        | none =>
          show if (!decide ((V.non) = V.non)) = true then _ else _
          rw [nonF]
          refine iteF ⟨hl, tk, v12, v13, rfl, sm2, hw2, hh2.mono (by omega), G.ft, G.tk1, ?_⟩
          · unfold stp
            rw [e]
        | some z =>
          obtain ⟨h, hm, rfl⟩ := List.mem_map.mp (ok.hd z e)
          have fo := hok.fo h hm
          have l12 := fo.l2
          have m8 := fo.m8
          have le16 := fo.le
          rw [bits_wds] at m8 le16
          show if (!decide (V.str h.1 = V.non)) = true then _ else _
          rw [strT]
          refine iteT ⟨_, rfl, _, rfl, hv, f.hs, h, rfl, dpSame sm2 dhv, hok, hm, fun H3 u3 s3 d3 => ⟨_, rfl, u3, h.2, rfl, d3, l12, fun H4 s4 => ?_⟩⟩
          have sm4 := sm2.trans (s3.trans s4)
          have s24 := s3.trans s4
          have esz : ((wds h.2).sum / 8 : Nat) = sizeF h.2 := rfl
          refine ⟨_, rfl, _, rfl, _, _, rfl, rfl, _, rfl, pa, _, 1, _, rfl, rfl, sameT sm4 hpa, atI_nat (j := 1) rfl, ba, _, rfl, .inr (sameT sm4 hba), _, _, rfl, rfl, _, rfl, ite2 (fun c => ?_) (fun c => ?_)⟩
          · have lt := of_decide_eq_true c
            rw [vN_len] at lt
            have lt2 : bs.length < tk + sizeF h.2 := by
              unfold sizeF
              omega
            have est : stp f.hs bs first s hl tk = (hl, tk, ("refuse" : Str)) := by
              unfold stp
              rw [e]
              show (if bs.length < tk + sizeF (fldsOf f.hs h.1) then _ else _) = _
              rw [flds_mem hok hm, if_pos lt2]
            have rst : runL f.hs bs first (s :: post) s.nm hl tk = ([s.nm, "refuse"], hl, tk) := by
              rw [runL, if_pos rfl, est, runL_end (fun q => (sts_names sts.1 _ q).nk (ends_kept _ noRej))]
            have q1 := G.t1
            have q2 := G.t2
            rw [rst] at q1 q2
            refine ⟨_, rfl, by show 1 ≤ sizeLine; decide, fun l5 hl5 => ⟨wl, l5, _, _, rfl, rfl, same_new hl5 _ _ (s24 _ _ hw2), upd_same, by rw [List.length_map]; exact Nat.le_of_lt (small1000 (by show (w ++ [s.nm]).length + 1 ≤ _; omega)), fun l6 hl6 => ⟨l6, _, rfl, .inl ⟨SqL.of upd_same, fun t ht => ⟨_, rfl, _, rfl, by show 3 ≤ sizeLine; decide, fun p hp => ?_⟩⟩⟩⟩⟩
            have r5 := same_new (o := .lst [.str "refuse"]) hl5
            have r6 := same_new (o := .lst ((w ++ [s.nm]).map V.str ++ [.str "refuse"])) hl6
            have r7 := same_new (o := .tup ((w ++ [s.nm]).map V.str ++ [.str "refuse"])) ht
            have r8 := same_new (o := .tup [.ref t, .ref q, .int (tk : Int)]) hp
            have R := r5.trans (r6.trans (r7.trans r8))
            refine k _ p t q (sm4.trans R) ?_ ?_ ?_ ?_
            · rw [q2]
              exact upd_same
            · rw [q1]
              have : (w ++ [s.nm, "refuse"]).map V.str = (w ++ [s.nm]).map V.str ++ [.str "refuse"] := by simp
              rw [this]
              exact r8 _ _ upd_same
            · rw [q2]
              exact ((hh2.same (s24.trans R)).mono (by omega))
            · rw [q2]
              exact G.tk1
          · have ge : ¬ bs.length < tk + sizeF h.2 := by
              intro lt2
              refine c (decide_eq_true ?_)
              rw [vN_len]
              unfold sizeF at lt2
              omega
            have hi2 : tk + sizeF h.2 ≤ bs.length := by omega
            have et : (tk : Int) + ((sizeF h.2 : Nat) : Int) = ((tk + sizeF h.2 : Nat) : Int) := by omega
            refine ⟨_, rfl, _, rfl, pa, _, 1, _, rfl, rfl, sameT sm4 hpa, atI_nat (j := 1) rfl, _, rfl, _, rfl, _, rfl, _, rfl, _, _, rfl, rfl, _, rfl, ?_⟩
            refine slA (sameT sm4 hba) (fun p5 H5 s5 h5 => ?_)
            have ecut : cutV (vN bs) (some (tk : Int)) (some ((tk : Int) + (((wds h.2).sum / 8 : Nat) : Int))) = vN ((bs.drop tk).take (sizeF h.2)) := by
              rw [esz, et, cut_nat _ (Nat.le_add_right _ _) (by rw [vN_len]; exact hi2), Nat.add_sub_cancel_left]
              unfold vN
              rw [List.map_take, List.map_drop]
            rw [ecut] at h5
            have lb : ((bs.drop tk).take (sizeF h.2)).length = sizeF h.2 := by
              rw [List.length_take, List.length_drop]
              omega
            have sm5 := sm4.trans s5
            refine ⟨u3, .ref p5, h.2, (bs.drop tk).take (sizeF h.2), rfl, dpSame (s4.trans s5) d3, .tup h5 (dp_vN _), l12, by rw [lb]; unfold sizeF; omega, by rw [lb]; unfold sizeF; omega, fun H6 p6 s6 h6 => ?_⟩
            have s26 := s24.trans (s5.trans s6)
            have du6 : Dp K H6 (.ref p6) (encNs (readW (wds h.2) (allBits ((bs.drop tk).take (sizeF h.2))))) := .tup (SqT.of h6) (dp_vN _)
            obtain ⟨kvs, hq6, lq, hN⟩ := (hh2.same s26).put (z := h.1) du6
            refine ⟨_, rfl, _, rfl, q, _, rfl, DPut.k (k := .inr h.1) hq6 (Nat.lt_of_le_of_lt lq (small1000 (by omega))), ?_⟩
            refine ⟨_, rfl, _, rfl, _, _, rfl, rfl, ?_⟩
            have hw6 := s26 _ _ hw2
            refine ⟨hput hl h.1 (readW (wds h.2) (allBits ((bs.drop tk).take (sizeF h.2)))), tk + sizeF h.2, some u3, some (.int ((sizeF h.2 : Nat) : Int)), ?_, Same.mut (sm2.trans s26) hq0, ?_, hN, fits_put hok G.ft hm (by rw [readW_len]; unfold wds; rw [List.length_map]), hi2, ?_⟩
            · rw [← et]
              rfl
            · have xq : Exb q H6 (upd H6 q (.dK (putK kvs (.inr h.1) (.ref p6)))) := Exb.put
              exact xq _ _ (fun z => by rw [z, hq6] at hw6; cases hw6) hw6
            · unfold stp
              rw [e]
              show (if bs.length < tk + sizeF (fldsOf f.hs h.1) then _ else _) = _
              rw [flds_mem hok hm, if_neg ge]
      · rintro σ' H3 ⟨hl', tk', v12, v13, rfl, sm3, hw3, hh3, ft3, tk3, est⟩
        refine ⟨_, rfl, _, rfl, sa, _, _, _, rfl, rfl, sameT sm3 hsa, atI_nat hx, _, rfl, _, rfl, _, rfl, _, rfl, pa, _, 0, _, rfl, rfl, sameT sm3 hpa, atI_nat (j := 0) rfl, hv, nv, q, f.hs, s.nx, hl', first, rfl, dpSame sm3 dhv, hok, dpSame sm3 dnv, asks_ok ok.nx, hh3.ok, ft3, fun H4 s4 => ?_⟩
        refine ⟨_, s, _, rfl, dpSame (sm3.trans s4) dx, fun H5 s5 => ?_⟩
        obtain ⟨aim, eaim⟩ : ∃ aim, aim = leadsF s.nx (askedF f.hs s.nx hl' first) := ⟨_, rfl⟩
        rw [← eaim] at est ⊢
        have s35 := s4.trans s5
        have rst : runL f.hs bs first (s :: post) s.nm hl tk = (s.nm :: (runL f.hs bs first post aim hl' tk').1, (runL f.hs bs first post aim hl' tk').2) := by
          rw [runL, if_pos rfl, est]
        have q1 := G.t1
        have q2 := G.t2
        rw [rst] at q1 q2
        refine ⟨_, rfl, by show 2 ≤ sizeLine; decide, fun pe hpe => ⟨pe, endsN.map V.str, rfl, .inr (SqT.of upd_same), rfl, rfl, inV (.str aim) (endsN.map V.str), rfl, ?_⟩⟩
        rw [inE]
        have s6 := same_new (o := .tup [.str "accept", .str "refuse"]) hpe
        have s36 := s35.trans s6
        by_cases ae : aim ∈ endsN
        · rw [decide_eq_true ae]
          have ren : runL f.hs bs first post aim hl' tk' = ([aim], hl', tk') := runL_end (fun q => (sts_names sts.1 _ q).nk (ends_kept _ ae))
          rw [ren] at q1 q2
          refine iteT ⟨_, rfl, _, rfl, by show 1 ≤ sizeLine; decide, fun l5 hl5 => ⟨wl, l5, _, _, rfl, rfl, same_new hl5 _ _ (s36 _ _ hw3), upd_same, by rw [List.length_map]; exact Nat.le_of_lt (small1000 (by show (w ++ [s.nm]).length + 1 ≤ _; omega)), fun l6 hl6 => ⟨l6, _, rfl, .inl ⟨SqL.of upd_same, fun t ht => ⟨_, rfl, _, rfl, by show 3 ≤ sizeLine; decide, fun p hp => ?_⟩⟩⟩⟩⟩
          have r5 := same_new (o := .lst [.str aim]) hl5
          have r6 := same_new (o := .lst ((w ++ [s.nm]).map V.str ++ [.str aim])) hl6
          have r7 := same_new (o := .tup ((w ++ [s.nm]).map V.str ++ [.str aim])) ht
          have r8 := same_new (o := .tup [.ref t, .ref q, .int (tk' : Int)]) hp
          have R := r5.trans (r6.trans (r7.trans r8))
          refine k _ p t q (sm3.trans (s36.trans R)) ?_ ?_ ?_ ?_
          · rw [q2]
            exact upd_same
          · rw [q1]
            have : (w ++ [s.nm, aim]).map V.str = (w ++ [s.nm]).map V.str ++ [.str aim] := by simp
            rw [this]
            exact r8 _ _ upd_same
          · rw [q2]
            exact (hh3.same (s36.trans R)).mono (by omega)
          · rw [q2]
            exact tk3
        · rw [decide_eq_false ae]
          have ain : aim ∈ post.map (·.nm) := by
            rcases leads_in ok.nx (askedF f.hs s.nx hl' first) with h1 | h1
            · rw [← eaim] at h1
              rcases List.mem_append.mp h1 with h1 | h1
              · exact h1
              · exact absurd h1 ae
            · rw [← eaim] at h1
              exact absurd h1 ae
          obtain ⟨s2, hs2, en2⟩ := List.mem_map.mp ain
          obtain ⟨p2, r2, epost⟩ := List.append_of_mem hs2
          subst en2
          have nd : ((pre ++ s :: (p2 ++ s2 :: r2)).map (·.nm)).Nodup := by
            rw [← epost, ← G.e]
            exact sts_nodup fok.ss
          have eall : pre ++ s :: (p2 ++ s2 :: r2) = (pre ++ s :: p2) ++ s2 :: r2 := by simp
          have new2 : s2.nm ∉ (pre ++ s :: p2).map (·.nm) := by
            rw [eall, List.map_append, List.map_cons, List.nodup_append] at nd
            exact fun hin => nd.2.2 _ hin _ List.mem_cons_self rfl
          have ess : f.ss = (pre ++ s :: p2) ++ s2 :: r2 := by
            rw [← eall, ← epost]
            exact G.e
          refine iteF ⟨_, rfl, _, rfl, .ref sa, pre ++ s :: p2, r2, s2, rfl, ?_, new2, by rw [← ess]; exact s8, fun H7 s7 => ?_⟩
          · rw [← ess]
            exact .tup (sameT (sm3.trans s36) hsa) (dpSameAll (sm3.trans s36) hsd)
          · have ers : runL f.hs bs first post s2.nm hl' tk' = runL f.hs bs first (s2 :: r2) s2.nm hl' tk' := by
              rw [epost]
              exact runL_skip fun hin => new2 (by
                rw [List.map_append]
                exact List.mem_append_right _ (List.mem_cons_of_mem _ hin))
            rw [ers] at q1 q2
            refine ⟨pre ++ s :: p2, s2, r2, w ++ [s.nm], hl', tk', _, _, _, _, _, _, _, rfl, ⟨ess, ?_, sm3.trans (s36.trans s7), (s36.trans s7) _ _ hw3, hh3.same (s36.trans s7), ft3, tk3, ?_, q2, by rw [List.length_append, lw]; rfl⟩⟩
            · rw [List.length_append, List.length_cons]
              have := G.li
              omega
            · rw [q1]
              simp
    · rintro σ H1 ⟨pre, s, post, w, hl, tk, v8, v9, v10, v11, v12, v13, v14, rfl, G⟩
      exfalso
      have h1 := G.li
      have h2 := congrArg List.length G.e
      rw [List.length_append, List.length_cons] at h2
      omega
end
end LJ

namespace LJ
open PySem PySem.Spec PyProof.Rows L2 GuL HG Bt
abbrev sParsed : Stmt := topS 83
abbrev sHit : Stmt := topS 84
def lastF (ws : List Str) : Str := ws.getD (ws.length - 1) ""
def encO : Option (List Nat) → PyData
  | none => .none
  | some ws => encNs ws
theorem noL_encO : ∀ o, NoL (encO o)
  | none => .non
  | some ws => noL_encNs ws
abbrev Pr := List (Option (List Nat)) × List Nat
def encPr : Option Pr → PyData
  | none => .none
  | some p => .tuple [.tuple (p.1.map encO), encNs p.2]
def resF (f : Frm) (bs : List Nat) (T : List Str × Hld × Nat) : Option Pr := if lastF T.1 = "refuse" then none else some (f.hs.map fun h => T.2.1 h.1, bs.drop T.2.2)
theorem runL_ne {hs : List Hdr} {bs : List Nat} {first : Nat} : ∀ {r : List Sta} {z : Str} {hl : Hld} {tk : Nat}, 0 < (runL hs bs first r z hl tk).1.length
  | [], _, _, _ => by
    show 0 < 1
    decide
  | s :: r, z, hl, tk => by
    rw [runL]
    split
    · show 0 < _ + 1
      omega
    · exact runL_ne
theorem runL_len {hs : List Hdr} {bs : List Nat} {first : Nat} : ∀ {r : List Sta} {z : Str} {hl : Hld} {tk : Nat}, (runL hs bs first r z hl tk).1.length ≤ r.length + 1
  | [], _, _, _ => by
    show 1 ≤ 1
    decide
  | s :: r, z, hl, tk => by
    rw [runL]
    split
    · show _ + 1 ≤ _ + 1 + 1
      have := @runL_len hs bs first r (stp hs bs first s hl tk).2.2 (stp hs bs first s hl tk).1 (stp hs bs first s hl tk).2.1
      omega
    · have := @runL_len hs bs first r z hl tk
      show _ ≤ _ + 1 + 1
      omega
section
variable {P : Program} {w : World} {K : PySem.W.Frag} {mg : Str → Option Value} {base : Heap}
theorem scParsed : FnScope ["_law_frame_here", "_law_packet", "_law_way", "_law_held", "_law_taken", "_law_name_here", "_law_fields_here"] ["_law_frame_here", "_law_packet"] (defScope sParsed) := ⟨rfl, rfl, rfl, by decide +kernel, rfl, by decide +kernel, by decide +kernel⟩
def spParsed (K : PySem.W.Frag) : Sp := fun vs H Q _ => ∃ (v u : V) (f : Frm) (s0 : Sta) (r0 : List Sta) (first : Nat) (bs : List Nat), vs = [v, u] ∧ Dp K H v (encFr f) ∧ FrmOk f ∧ f.ss = s0 :: r0 ∧ Dp K H u (encPk first bs) ∧ bs.length ≤ 1000 ∧
  ∀ H' x, Same H H' → Dp K H' x (encPr (resF f bs (runL f.hs bs first f.ss s0.nm (fun _ => none) 0))) → Q x H'
theorem ok_parsed {f fG : Addr} {fd dG : FuncData} (F : Fun K "_law_parsed" "_law_parsed" sParsed f fd) (B : Blt mg) (KG : Kn P w K mg base 3 "_law_going" sGoing ["_law_frame_here", "_law_packet"] (spGoing K) fG dG) : FnOk P w K mg base CX0 4 f fd ["_law_frame_here", "_law_packet"] (spParsed K) := by
  refine F.ok scParsed (fun vs H Q E h => ?_) (fun cdv A outer s H vs Q E hr h => ?_)
  · obtain ⟨v, u, f, s0, r0, first, bs, rfl, _⟩ := h
    rfl
  · obtain ⟨v, u, f, s0, r0, first, bs, rfl, dv, fok, es0, du, lbs, k⟩ := h
    refine ⟨_, (pss_cons (ps_asg (pe_call KG.G (hr.mono (by decide)) (by rfl) KG.g KG.F.kp KG.b .nil pass0 (pa_cons (pv 0) (pa_cons (pv 1) pa_nil))) (pg_tup (by rfl) (pgs_cons (pg_name (i := 2) scParsed.nd rfl (.inl rfl)) (pgs_cons (pg_name (i := 3) scParsed.nd rfl (.inr rfl)) (pgs_cons (pg_name (i := 4) scParsed.nd rfl (.inl rfl)) pgs_nil))))) (pss_cons (ps_if (pt_cmpR op_eq (pe_ix ix_tup (pv 2) (pe_op op_sub (pe_callB call_len_seq (by rfl) B.len PySem.boot_len (pa_cons (pv 2) pa_nil)) pe_int) (fun _ _ => rfl)) pe_str (nomark _)) (pss_one (ps_ret pe_non)) pss_nil) (pss_one (ps_ret (pe_tup (pa_cons (pe_callTy call_tuple_of (by rfl) B.tuple (by decide +kernel) (pa_cons (pe_lc (own := [("_law_name_here", 5), ("_law_fields_here", 6)]) (g := (gTup K 2 (gCons (gName 5) (gCons (gName 6) gNil)))) (tt := tYes) rfl scParsed.nd (pi_tup (pe_ix ix_tup (pv 0) pe_int (fun _ _ => rfl))) (blkOk_by (N := ["_law_frame_here", "_law_packet", "_law_way", "_law_held", "_law_taken", "_law_name_here", "_law_fields_here"]) (sc := defScope sParsed) (by decide +kernel)) (fun _ _ _ _ _ => (pg_tup rfl (pgs_cons (pg_name (i := 5) scParsed.nd rfl (.inl rfl)) (pgs_cons (pg_name (i := 6) scParsed.nd rfl (.inl rfl)) pgs_nil)))) (fun _ _ _ _ _ => pts_nil) (fun _ _ _ _ _ => (pe_dget1 (hu1 hr) (pv 3) (pv 5) ⟨rfl, rfl, rfl, rfl⟩))) pa_nil)) (pa_cons (pe_slice sl_tupA (pe_ix ix_tup (pv 1) pe_int (fun _ _ => rfl)) (po_some (pv 4)) po_none) pa_nil))))))), ?_⟩
    refine ⟨_, rfl, _, rfl, v, u, f, s0, r0, first, bs, rfl, dv, fok, es0, du, lbs, fun H1 p wp q s1 hp hw hh htk => ?_⟩
    have ne := @runL_ne f.hs bs first f.ss s0.nm (fun _ => none) 0
    have nl := @runL_len f.hs bs first f.ss s0.nm (fun _ => none) 0
    obtain ⟨T, eT⟩ : ∃ T, T = runL f.hs bs first f.ss s0.nm (fun _ => none) 0 := ⟨_, rfl⟩
    rw [← eT] at k hp hw hh htk ne nl
    obtain ⟨va, hv, sa, sxs, ov, rfl, hva, dhv, _, _, _⟩ := dp_fr dv
    obtain ⟨pa, ba, rfl, hpa, hba⟩ := dp_pk du
    refine ⟨p, _, rfl, SqT.of hp, rfl, _, _, rfl, _, _, rfl, _, _, rfl, rfl, ?_⟩
    have elen : (((T.1.map V.str).length : Int) - 1) = ((T.1.length - 1 : Nat) : Int) := by
      rw [List.length_map]
      omega
    have hat : atI (T.1.map V.str) (((T.1.map V.str).length : Int) - 1) = some (V.str (lastF T.1)) := by
      rw [elen]
      refine atI_nat ?_
      have hl : T.1.length - 1 < T.1.length := by omega
      unfold lastF
      rw [List.getElem?_map, List.getElem?_eq_getElem hl, List.getD_eq_getElem?_getD, List.getElem?_eq_getElem hl]
      rfl
    refine ⟨_, rfl, _, rfl, wp, _, rfl, .inr (SqT.of hw), _, _, rfl, rfl, wp, _, _, _, rfl, rfl, SqT.of hw, hat, rfl, _, rfl, ?_⟩
    by_cases e : lastF T.1 = "refuse"
    · have e2 : V.str (lastF T.1) = V.str "refuse" := by rw [e]
      rw [decide_eq_true e2]
      have er : resF f bs T = none := by
        unfold resF
        rw [if_pos e]
      rw [er] at k
      exact iteT (k H1 .non s1 .non)
    · have e2 : ¬ V.str (lastF T.1) = V.str "refuse" := fun q => e (by injection q)
      rw [decide_eq_false e2]
      have er : resF f bs T = some (f.hs.map fun h => T.2.1 h.1, bs.drop T.2.2) := by
        unfold resF
        rw [if_neg e]
      rw [er] at k
      obtain ⟨ha, hxs, rfl, hha, hhd⟩ := dp_tup dhv
      obtain ⟨kvs, hq, _, hent⟩ := hh
      have hl := dpAll_len hhd
      rw [List.length_map] at hl
      have h6 := fok.hs.len
      refine iteF ⟨_, rfl, va, _, 0, _, rfl, rfl, sameT s1 hva, atI_nat (j := 0) rfl, ha, rfl, ⟨_, sameT s1 hha⟩, fun D hD => ?_⟩
      refine lc_tup (K := K) (a := ha) (xs := hxs) (fun n H' => Same H1 H' ∧ ∃ ys, H' D = some (.lst ys) ∧ ys.length ≤ n ∧ DpAll K H' ys ((((f.hs.take n).map fun h => T.2.1 h.1)).map encO)) ⟨same_new hD, [], upd_same, Nat.zero_le _, .nil⟩ (fun n H' _ p => sameT (s1.trans p.1) hha) ?_ ?_
      · rintro n x H2 hn ⟨s2, ys, f2, ly, dy⟩
        obtain ⟨d, hd1, hd2⟩ := dpAll_at hhd hn
        rw [List.getElem?_map] at hd1
        obtain ⟨h, hh2, rfl⟩ := Option.map_eq_some_iff.mp hd1
        obtain ⟨a, y, rfl, h1, h2⟩ := pair_dp hd2
        have n9 : n < 6 := by
          have := (List.getElem?_eq_some_iff.mp hh2).1
          omega
        have hq2 := s2 _ _ hq
        refine ⟨a, _, rfl, sameT (s1.trans s2) h1, rfl, _, _, rfl, _, _, rfl, rfl, rfl, _, rfl, q, rfl, .inl ⟨kvs, .inl hq2⟩, _, rfl, _, DGet.k (k := .inr h.1) hq2, ?_⟩
        have du2 : Dp K H2 ((valV kvs (.inr h.1)).getD .non) (encO (T.2.1 h.1)) := by
          rcases hent h.1 with ⟨a1, a2⟩ | ⟨ws, u, a1, a2, a3⟩
          · rw [a1, a2]
            exact .non
          · rw [a1, a2]
            exact dpSame s2 a3
        refine ⟨_, f2, small1000 (by omega), fun b' u hb' => ?_, ys ++ [_], upd_same, by rw [List.length_append]; exact Nat.succ_le_succ ly, ?_⟩
        · rw [upd_ne (ne_of_none hb' hD)]
          exact s2 _ _ hb'
        · rw [List.take_add_one, hh2, List.map_append, List.map_append]
          refine dpAll_snoc (dpExb f2 Exb.put (noL_encO _) du2) (dpExbAll f2 Exb.put (fun d hd => ?_) dy)
          obtain ⟨o, _, rfl⟩ := List.mem_map.mp hd
          exact noL_encO o
      · rintro H2 ⟨s2, ys, f2, ly, dy⟩
        rw [hl, List.take_length] at dy
        refine ⟨D, _, rfl, .inl ⟨SqL.of f2, fun t ht => ?_⟩⟩
        have s3 := same_new (o := .tup ys) ht
        have s13 := s1.trans (s2.trans s3)
        refine ⟨_, rfl, pa, _, 1, _, rfl, rfl, sameT s13 hpa, atI_nat (j := 1) rfl, _, rfl, _, rfl, ?_⟩
        dsimp only [tNoPart]
        refine slA (sameT s13 hba) (fun p5 H5 s5 h5 => ?_)
        rw [cut_fromN _ (by rw [vN_len]; exact htk)] at h5
        refine ⟨by show 2 ≤ sizeLine; decide, fun r hr => ?_⟩
        have s6 := same_new (o := .tup [.ref t, .ref p5]) hr
        refine k _ _ (s13.trans (s5.trans s6)) (.tup (SqT.of upd_same) (.cons (.tup (SqT.of ((s5.trans s6) _ _ upd_same)) (dpSameAll (s3.trans (s5.trans s6)) dy)) (.cons (.tup (sameT s6 ?_) (dp_vN (bs.drop T.2.2))) .nil)))
        have : vN (bs.drop T.2.2) = (vN bs).drop T.2.2 := by
          unfold vN
          rw [List.map_drop]
        rw [this]
        exact h5
/-! ### one of a tuple's items -/
def spOneT (K : PySem.W.Frag) : Sp := fun vs H Q _ => ∃ (b t : Addr) (xs : List V) (o m c : Int), vs = [.ref b, .ref t] ∧ H b = some (bw o m c) ∧ 0 ≤ o ∧ SqT K H t xs ∧ 0 < xs.length ∧ xs.length < 100000 ∧ ∀ H' v o' m' c', Exb b H H' → H' b = some (bw o' m' c') → 0 ≤ o' → v ∈ xs → Q v H'
theorem ok_oneT {f fD : Addr} {fd fdD : FuncData} (F : Fun K "_law_one_of" "_law_one_of" sOne f fd) (B : Blt mg) (FD : Fun K "_law_dip" "_law_dip" sDip fD fdD) (bD : Binds K fdD ["_law_jar_here", "_law_top"] []) (gD : mg "_law_dip" = some (.ref fD)) : FnOk P w K mg base CX0 2 f fd ["_law_jar_here", "_law_some"] (spOneT K) := by
  have GD : FnOk P w K mg base CX0 1 fD fdD ["_law_jar_here", "_law_top"] spDip := ok_dip FD B
  refine F.ok scOne (fun vs H Q E h => ?_) (fun cdv A outer s H vs Q E hr h => ?_)
  · obtain ⟨b, t, xs, o, m, c, rfl, _⟩ := h
    rfl
  · obtain ⟨b, t, xs, o, m, c, rfl, hb, ho, ht, z0, z1, k⟩ := h
    refine ⟨_, pss_one (ps_ret (pe_ix ix_seq (pv 1) (pe_call GD hr (by rfl) gD FD.kp bD .nil pass0 (pa_cons (pv 0) (pa_cons (pe_callB call_len (by rfl) B.len PySem.boot_len (pa_cons (pv 1) pa_nil)) pa_nil))) (fun _ _ => rfl))), ?_⟩
    refine ⟨_, rfl, _, rfl, _, rfl, _, xs.length, rfl, .inr ⟨xs, ht, rfl⟩, b, _, o, m, c, rfl, hb, ho, by omega, by omega, fun H' r o' m' c' e eb ho' r0 r1 => ?_⟩
    obtain ⟨j, rfl⟩ := Int.eq_ofNat_of_zero_le r0
    have hj : j < xs.length := by omega
    exact .inr (.inl ⟨t, xs, _, xs[j], rfl, rfl, sqExb hb e ht, atI_nat (List.getElem?_eq_getElem hj), k _ _ _ _ _ e eb ho' (List.getElem_mem hj)⟩)
/-! ### a word that is hit -/
theorem shaped_cas {cs : List Cas} (h : ∀ c ∈ cs, Lay (.str c.2.2)) : SeqAt.shaped (.tuple (cs.map encC)) = true := by
  have key : PyData.canLayAll0 (cs.map encC) = true ∧ PyData.depthAll (cs.map encC) ≤ 1 := by
    induction cs with
    | nil => exact ⟨rfl, Nat.zero_le _⟩
    | cons q qs ih =>
      obtain ⟨i1, i2⟩ := ih fun x hx => h x (List.mem_cons_of_mem _ hx)
      have a : PyData.canLay0 (.str q.2.2) = true := h q List.mem_cons_self
      have d : PyData.depth (encC q) ≤ 1 := by
        simp [encC, PyData.depth, PyData.depthAll]
      constructor
      · rw [List.map_cons, PyData.canLayAll0, i1]
        simp [encC, PyData.canLay0, PyData.canLayAll0] at a ⊢
        exact a
      · rw [List.map_cons, PyData.depthAll]
        omega
  unfold SeqAt.shaped
  rw [PyData.canLay0, key.1, PyData.depth]
  simp
  omega
theorem eqv_nilT (ds : List PyData) : PyData.eqv (.tuple ds) (.tuple []) = decide (ds = []) := by
  cases ds with
  | nil => simp [PyData.eqv, PyData.eqvAll]
  | cons _ _ => simp [PyData.eqv, PyData.eqvAll]
theorem scHit : FnScope ["_law_jar_here", "_law_headers_here", "_law_step", "_law_width_here", "_law_want", "_law_mask", "_law_aim"] ["_law_jar_here", "_law_headers_here", "_law_step"] (defScope sHit) := ⟨rfl, rfl, rfl, by decide +kernel, rfl, by decide +kernel, by decide +kernel⟩
def spHit (K : PySem.W.Frag) : Sp := fun vs H Q _ => ∃ (b : Addr) (v u : V) (hs : List Hdr) (p : Plc) (cs : List Cas) (z : Str) (n : Nat) (o m c : Int), vs = [.ref b, v, u] ∧ H b = some (bw o m c) ∧ 0 ≤ o ∧ Dp K H v (encHs hs) ∧ HeadersOk hs ∧ Dp K H u (encN (.by_ p cs z)) ∧ PlcW hs p n ∧ (∀ c ∈ cs, c.1 < 2 ^ n ∧ c.2.1 < 2 ^ n ∧ Lay (.str c.2.2)) ∧ cs.length ≤ 8 ∧
  ∀ H' (r : Nat), Jr b H H' → r < 2 ^ n → Q (.int (r : Int)) H'
theorem ok_hit {f fD fO fN fW fV : Addr} {fd fdD fdO fdN dW dV : FuncData} (F : Fun K "_law_hit" "_law_hit" sHit f fd) (B : Blt mg) (Z : Drw P w K mg base fD fO fN fdD fdO fdN) (KW : Kn P w K mg base 2 "_law_word" sWord ["_law_jar_here", "_law_width_here"] spWord fW dW)
    (KV : Kn P w K mg base 2 "_law_width" sWidth ["_law_headers_here", "_law_place_here"] (spWidth K) fV dV) (KO : Kn P w K mg base 2 "_law_one_of" sOne ["_law_jar_here", "_law_some"] (spOneT K) fO fdO) : FnOk P w K mg base CX0 3 f fd ["_law_jar_here", "_law_headers_here", "_law_step"] (spHit K) := by
  refine F.ok scHit (fun vs H Q E h => ?_) (fun cdv A outer s H vs Q E hr h => ?_)
  · obtain ⟨b, v, u, hs, p, cs, z, n, o, m, c, rfl, _⟩ := h
    rfl
  · obtain ⟨b, v, u, hs, p, cs, z, n, o, m, c, rfl, hb, ho, dv, hok, du, pw, hcs, l8, k⟩ := h
    refine ⟨_, (pss_cons (ps_set (i := 3) scHit.nd rfl (.inl rfl) (pe_call KV.G (hr.mono (by decide)) (by rfl) KV.g KV.F.kp KV.b .nil pass0 (pa_cons (pv 1) (pa_cons (pe_ix ix_tup (pv 2) pe_int (fun _ _ => rfl)) pa_nil)))) (pss_cons (ps_if (PW.pt (pw_or (pt_cmpR (op_eqD hr.units) (pe_ix ix_tup (pv 2) pe_int (fun _ _ => rfl)) (pe_tup pa_nil) (nomark _)) (pw_or1 (pt_cmpR op_eq (pe_call Z.GD (hr.mono (by decide)) (by rfl) Z.gD Z.FD.kp Z.bD .nil pass0 (pa_cons (pv 0) (pa_cons pe_int pa_nil))) pe_int (nomark _))))) (pss_one (ps_ret (pe_call KW.G (hr.mono (by decide)) (by rfl) KW.g KW.F.kp KW.b .nil pass0 (pa_cons (pv 0) (pa_cons (pv 3) pa_nil))))) pss_nil) (pss_cons (ps_asg (pe_call KO.G (hr.mono (by decide)) (by rfl) KO.g KO.F.kp KO.b .nil pass0 (pa_cons (pv 0) (pa_cons (pe_ix ix_tup (pv 2) pe_int (fun _ _ => rfl)) pa_nil))) (pg_tup (by rfl) (pgs_cons (pg_name (i := 4) scHit.nd rfl (.inl rfl)) (pgs_cons (pg_name (i := 5) scHit.nd rfl (.inl rfl)) (pgs_cons (pg_name (i := 6) scHit.nd rfl (.inl rfl)) pgs_nil))))) (pss_one (ps_ret (pe_op op_or (pv 4) (pe_op op_and (pe_call KW.G (hr.mono (by decide)) (by rfl) KW.g KW.F.kp KW.b .nil pass0 (pa_cons (pv 0) (pa_cons (pv 3) pa_nil))) (pe_op op_sub (pe_op op_sub (pe_op op_shl pe_int (pv 3)) pe_int) (pv 5))))))))), ?_⟩
    obtain ⟨ua, up, uc, cx, rfl, hu, hp, hc, hd⟩ := dp_by du
    have cl := dpAll_len hd
    rw [List.length_map] at cl
    have wn := plcW_le hok pw
    refine ⟨_, rfl, _, rfl, ua, _, 1, _, rfl, rfl, hu, atI_nat (j := 1) rfl, v, up, hs, p, n, rfl, dv, hok, hp, pw, fun H1 s1 => ?_⟩
    have hb1 := s1 _ _ hb
    have wdone : ∀ {H2 : Hp}, Jr b H H2 → ∃ o m c, H2 b = some (bw o m c) ∧ 0 ≤ o := fun j => j.at_
    have dcs : Dp K H1 (.ref uc) (.tuple (cs.map encC)) := .tup (sameT s1 hc) (dpSameAll s1 hd)
    have hu1' := sameT s1 hu
    refine ⟨_, rfl, ua, _, 2, _, rfl, rfl, hu1', atI_nat (j := 2) rfl, Nat.zero_le _, fun t ht => ?_⟩
    have st := same_new (o := .tup []) ht
    refine ⟨.tuple (cs.map encC), .tuple [], dpSame st dcs, .tup (SqT.of upd_same) .nil, shaped_cas (fun c hc => (hcs c hc).2.2), rfl, _, rfl, ?_⟩
    rw [eqv_nilT]
    have j2 : Jr b H (upd H1 t (.tup [])) := ⟨Exb.of (s1.trans st), o, m, c, st _ _ hb1, ho⟩
    by_cases e : cs = []
    · rw [e]
      refine iteT (iteT ⟨_, rfl, _, rfl, b, n, o, m, c, rfl, st _ _ hb1, ho, wn.1, wn.2, fun H3 r j3 r0 r1 => ?_⟩)
      obtain ⟨rn, rfl⟩ := Int.eq_ofNat_of_zero_le r0
      exact k H3 rn (Jr.trans j2.e j3) (by exact_mod_cast r1)
    · have e2 : ¬ cs.map encC = [] := fun q => e (List.map_eq_nil_iff.mp q)
      rw [decide_eq_false e2]
      refine iteF ⟨_, rfl, b, 4, o, m, c, rfl, st _ _ hb1, ho, by decide, by decide, fun H3 r3 o3 m3 c3 e3 hb3 ho3 r30 r31 => ⟨rfl, _, rfl, ite2 (fun _ => ?_) (fun _ => ?_)⟩⟩
      · refine ⟨_, rfl, _, rfl, b, n, o3, m3, c3, rfl, hb3, ho3, wn.1, wn.2, fun H4 r j4 r0 r1 => ?_⟩
        obtain ⟨rn, rfl⟩ := Int.eq_ofNat_of_zero_le r0
        exact k H4 rn (Jr.trans (j2.e.trans e3) j4) (by exact_mod_cast r1)
      · have hb2 := st _ _ hb1
        have hc3 := sqExb hb2 e3 (sameT (s1.trans st) hc)
        have hd3 : DpAll K H3 cx (cs.map encC) := dpExbAll hb2 e3 (noL_mapC cs) (dpSameAll (s1.trans st) hd)
        have pos : 0 < cx.length := by
          rw [cl]
          exact List.length_pos_iff.mpr e
        refine ⟨_, rfl, _, rfl, ua, _, 2, _, rfl, rfl, sqExb hb2 e3 (sameT (s1.trans st) hu), atI_nat (j := 2) rfl, b, uc, cx, o3, m3, c3, rfl, hb3, ho3, hc3, pos, by omega, fun H4 x o4 m4 c4 e4 hb4 ho4 hx => ?_⟩
        obtain ⟨d, hd1, hd2⟩ := dpAll_mem (dpExbAll hb3 e4 (noL_mapC cs) hd3) hx
        obtain ⟨c', hc', rfl⟩ := List.mem_map.mp hd1
        obtain ⟨ca, rfl, hca⟩ := dp_cas hd2
        obtain ⟨b1, b2, _⟩ := hcs c' hc'
        refine ⟨ca, _, rfl, hca, rfl, _, _, rfl, _, _, rfl, _, _, rfl, rfl, ?_⟩
        refine ⟨_, rfl, _, rfl, _, rfl, b, n, o4, m4, c4, rfl, hb4, ho4, wn.1, wn.2, fun H5 r j5 r0 r1 => ?_⟩
        obtain ⟨rn, rfl⟩ := Int.eq_ofNat_of_zero_le r0
        have P1 : (1 : Nat) ≤ 2 ^ n := Nat.one_le_two_pow
        have emask : (1 : Int) * 2 ^ ((n : Int).toNat) - 1 - (c'.2.1 : Int) = ((2 ^ n - 1 - c'.2.1 : Nat) : Int) := by
          rw [one_nat]
          omega
        refine ⟨_, rfl, _, _, rfl, rfl, ⟨by omega, by omega, by decide⟩, _, _, rfl, rfl, _, rfl, _, _, rfl, rfl, ?_⟩
        simp only [emask]
        refine ⟨_, _, rfl, rfl, ?_⟩
        simp only [band_nat]
        refine ⟨_, _, rfl, rfl, ?_⟩
        simp only [bor_nat]
        refine k H5 _ (Jr.trans ((j2.e.trans e3).trans e4) j5) (Nat.or_lt_two_pow b1 ?_)
        exact Nat.lt_of_le_of_lt Nat.and_le_right (by omega)
end
end LJ

namespace LZ
open PySem PySem.Spec PyProof.Rows L2
/-! ### zip of a tuple and a list of one length -/
def ItM (K : PySem.W.Frag) (a b : Addr) : It where
  go n H := ∃ l r, SqT K H a l ∧ SqL K H b r ∧ l.length = r.length ∧ n < l.length
  yld n H res H2 := ∃ T p q, res = .ref T ∧ H T = none ∧ H2 = upd H T (.tup [p, q]) ∧ (∀ l, SqT K H a l → l[n]? = some p) ∧ (∀ r, SqL K H b r → r[n]? = some q)
  stop n H := ∃ l r, SqT K H a l ∧ SqL K H b r ∧ l.length = r.length ∧ n = l.length
def StM (a b z TI TO j k : Addr) (n : Nat) (h : Heap) : Prop := IsZip h z TI TO .none ∧ IsTupOf2 h TI (.ref j) (.ref k) ∧ (∃ p q, IsTupOf2 h TO p q) ∧ h.IsTupleIter j a n ∧ h.IsListIter k b n
theorem five {c z TI TO j k : Addr} (h : c ∈ [z, TI, TO, j, k]) : c = z ∨ c = TI ∨ c = TO ∨ c = j ∨ c = k := by simpa using h
section
variable {P : Program} {w : World} {K : PySem.W.Frag} {elts : List Expr} {kk : Nat} {tpos : Pos} {a b z TI TO j k : Addr}
theorem turnM (S : ZipSep2 z TI TO j k [j, a] [k, b]) (na : a ≠ j) (nb : b ≠ k) : Turn P w K (.Tuple elts kk tpos) (ItM K a b) [z, TI, TO, j, k] z (StM a b z TI TO j k) := by
  have four : ∀ {c : Addr}, c ∉ [z, TI, TO, j, k] → c ∉ [z, TO, j, k] := fun h m => h (by
    simp only [List.mem_cons, List.not_mem_nil, or_false] at m ⊢
    rcases m with m | m | m | m
    · exact .inl m
    · exact .inr (.inr (.inl m))
    · exact .inr (.inr (.inr (.inl m)))
    · exact .inr (.inr (.inr (.inr m))))
  refine { mem := List.mem_cons_self, obj := ?_, keep := ?_, item := ?_, done := ?_, self := ?_ }
  · rintro n h ⟨g1, g2, ⟨p, q, g3⟩, ⟨o4, g4, _, d4⟩, ⟨o5, g5, _, d5⟩⟩ c hc
    rcases five hc with rfl | rfl | rfl | rfl | rfl
    · exact ⟨_, g1, fun v y => nomatch y⟩
    · exact ⟨_, g2, fun v y => nomatch y⟩
    · exact ⟨_, g3, fun v y => nomatch y⟩
    · exact ⟨_, g4, fun v y => by rw [d4] at y; nomatch y⟩
    · exact ⟨_, g5, fun v y => by rw [d5] at y; nomatch y⟩
  · rintro n h h2 ⟨g1, g2, ⟨p, q, g3⟩, g4, g5⟩ hk
    exact ⟨hk z (by simp) _ g1, hk TI (by simp) _ g2, ⟨p, q, hk TO (by simp) _ g3⟩, g4.at fun o e => hk j (by simp) o e, g5.at fun o e => hk k (by simp) o e⟩
  · rintro X rfl rfl rfl cal n pins s σ H E I fp ⟨g1, g2, ⟨p0, q0, g3⟩, g4, g5⟩ ⟨l, r, hl, hr, hlen, hn⟩
    obtain ⟨us, rus, tu, _⟩ := I.tuple hl
    obtain ⟨vs, rvs, li, _⟩ := I.list hr
    have e1 := rus.length
    have e2 := rvs.length
    have hd : X.A.in1.handled = none := I.ok.hd cal
    have W := WalksT.zipD2 S (Draws.tuple (prog := X.prog) (w := X.w) (A := X.A.in1) hd j a na us.toArray) (Draws.list (prog := X.prog) (w := X.w) (A := X.A.in1) hd k b nb vs.toArray)
    refine W.item n s _ E (by simp only [List.size_toArray]; omega) ⟨g1, g2, ⟨p0, q0, g3⟩, ⟨g4, tu⟩, g5, li.isList⟩ fun T vals h1 tk hP hle hT hM hk => ?_
    obtain ⟨x1, x2, hx1, hx2, rfl⟩ := hP
    refine ⟨_, rfl, W.go elts kk tpos n T _ _ E hM fun h2 hSt hk2 => ?_⟩
    obtain ⟨y1, y2, y3, ⟨y4, _⟩, y5, _⟩ := hSt
    obtain ⟨o, ho, hc, m, hdt⟩ := hT
    have ho2 : h2.get? T = some o := hk2 T o (W.apart n T h1 hM) ho
    obtain ⟨p, hp⟩ : ∃ p, l[n]? = some p := ⟨_, List.getElem?_eq_getElem hn⟩
    obtain ⟨q, hq⟩ : ∃ q, r[n]? = some q := ⟨_, List.getElem?_eq_getElem (by omega)⟩
    obtain ⟨u, hu, ru⟩ := rus.get hp
    obtain ⟨v, hv, rv⟩ := rvs.get hq
    have eu : u = x1 := by
      have : us[n]? = some x1 := by simpa using hx1
      rw [hu] at this
      exact Option.some.inj this
    have ev : v = x2 := by
      have : vs[n]? = some x2 := by simpa using hx2
      rw [hv] at this
      exact Option.some.inj this
    subst eu ev
    have nw : ObjOk X.prog X.w (upd H T (.tup [p, q])) h2 T (.tup [p, q]) := ⟨by show 2 ≤ sizeLine; decide, [u, v], .cons ru (.cons rv .nil), ⟨o, ho2, hc, m, hdt⟩⟩
    have I2 : Inv X pins σ (upd H T (.tup [p, q])) { s with heap := h2, toks := tk } := I.turnedNew (ch := [z, TI, TO, j, k]) (fun c o hc e => hk2 c o (four hc) (hk c o (four hc) e)) fp hle nw
    refine ⟨.ref T, _, I2, rfl, ⟨T, p, q, rfl, I.hok.fresh hle, rfl, fun l2 h => by rw [I.tuple_inj h hl]; exact hp, fun r2 h => by rw [I.list_inj h hr]; exact hq⟩, ⟨y1, y2, y3, y4, y5⟩, fun c hc => ?_⟩
    have lt : c < s.heap.objs.size := by
      obtain ⟨o4, f4, _⟩ := g4
      obtain ⟨o5, f5, _⟩ := g5
      rcases five hc with rfl | rfl | rfl | rfl | rfl
      · exact Heap.lt_size g1
      · exact Heap.lt_size g2
      · exact Heap.lt_size g3
      · exact Heap.lt_size f4
      · exact Heap.lt_size f5
    rw [upd_ne (Nat.ne_of_lt (Nat.lt_of_lt_of_le lt hle))]
    exact (fp c hc).1
  · rintro X rfl rfl rfl cal n pins s σ H E I fp ⟨g1, g2, ⟨p0, q0, g3⟩, g4, g5⟩ ⟨l, r, hl, hr, hlen, hn⟩
    obtain ⟨us, rus, tu, _⟩ := I.tuple hl
    obtain ⟨vs, rvs, li, _⟩ := I.list hr
    have e1 := rus.length
    have e2 := rvs.length
    have hd : X.A.in1.handled = none := I.ok.hd cal
    have W := WalksT.zipD2 S (Draws.tuple (prog := X.prog) (w := X.w) (A := X.A.in1) hd j a na us.toArray) (Draws.list (prog := X.prog) (w := X.w) (A := X.A.in1) hd k b nb vs.toArray)
    have em : min us.toArray.size vs.toArray.size = n := by
      simp only [List.size_toArray]
      omega
    refine W.done s _ E (by rw [em]; exact ⟨g1, g2, ⟨p0, q0, g3⟩, ⟨g4, tu⟩, g5, li.isList⟩) fun h1 tk hk => ⟨rfl, I.turnedL (ch := [z, TI, TO, j, k]) (fun c o hc e => hk c o (four hc) e) fp⟩
  · intro A n s Q E st q
    exact wpAny_pyIter_zip st.1 q
end
/-- zip(x, y): a tuple and a list -/
def iZipM (K : PySem.W.Frag) (ta : TA) : TI := fun σ H R => ta σ H fun us H1 => ∃ a b l r, us = [.ref a, .ref b] ∧ SqT K H1 a l ∧ SqL K H1 b r ∧ R (ItM K a b) H1
theorem pi_zipM {X : Cx} {x1 x2 : Expr} {ta : TA} {p p2 tp : Pos} {ts : List Expr} {kk : Nat} (hg : Gl X "zip") (hm : X.mg "zip" = none) (ha : PA X [x1, x2] ta) (h1 : starEach [x1, x2] X.env = (false, eval x1 X.env) :: starEach [x2] X.env := by rfl)
    (h2 : (backTo p2 (starEach [x2] X.env)).any (·.1) = false := by rfl) : PI X (.Tuple ts kk tp) (.Call (.Name "zip" p) [x1, x2] [] p2) (iZipM X.K ta) := by
  constructor
  intro pins s σ H R I h
  refine Call_ (ld_blt I hg hm PyProof.Rows.boot_zip (PyProof.Rows.callWith_type1 (thn (ha.run p2 pins s σ H _ I h) fun us s1 q1 => ?_) h1 h2))
  obtain ⟨vs, H1, I1, r1, a, b, l, r, rfl, hl, hr, q⟩ := q1
  obtain ⟨u1, u2, rfl, e1, e2⟩ : ∃ u1 u2, us = [u1, u2] ∧ RelV (.ref a) u1 ∧ RelV (.ref b) u2 := by
    cases r1 with
    | cons g1 g2 =>
      cases g2 with
      | cons g3 g4 =>
        cases g4
        exact ⟨_, _, rfl, g1, g3⟩
  obtain rfl : u1 = Value.ref a := e1
  obtain rfl : u2 = Value.ref b := e2
  obtain ⟨is1, rv1, tu, _⟩ := I1.tuple hl
  obtain ⟨is2, rv2, li, _⟩ := I1.list hr
  have la : a < s1.heap.objs.size := by
    obtain ⟨o, ho, _⟩ := id tu
    exact Heap.lt_size ho
  have lb : b < s1.heap.objs.size := li.lt
  refine zip_begins2 (begins_tuple a is1.toArray) (begins_list b is2.toArray) tu li.isList fun h' g1 g2 g3 g4 g5 _ hk => wpAny_pyIter_zip g1 ?_
  have I2 : Inv X pins σ H1 { s1 with heap := h' } := I1.kept (t' := s1.toks) hk
  have S : ZipSep2 (s1.heap.objs.size + 4) (s1.heap.objs.size + 2) (s1.heap.objs.size + 3) s1.heap.objs.size (s1.heap.objs.size + 1) [s1.heap.objs.size, a] [s1.heap.objs.size + 1, b] :=
    zip_sep2 (fun c hc => by rw [List.mem_singleton.mp hc]; exact la) (fun c hc => by rw [List.mem_singleton.mp hc]; exact lb)
  refine ⟨s1.heap.objs.size + 4, [s1.heap.objs.size + 4, s1.heap.objs.size + 2, s1.heap.objs.size + 3, s1.heap.objs.size, s1.heap.objs.size + 1], _, ItM X.K a b, H1, rfl, I2, turnM S (Nat.ne_of_lt la) (Nat.ne_of_lt (Nat.lt_succ_of_lt lb)), ⟨g1, g2, ⟨_, _, g3⟩, ⟨_, g4, rfl, rfl⟩, ⟨_, g5, rfl, rfl⟩⟩, fun c hc => ?_, q⟩
  have le : s1.heap.objs.size ≤ c := by
    rcases five hc with rfl | rfl | rfl | rfl | rfl
    · exact Nat.le_add_right _ _
    · exact Nat.le_add_right _ _
    · exact Nat.le_add_right _ _
    · exact Nat.le_refl _
    · exact Nat.le_add_right _ _
  exact I1.fpOk le (I1.hok.fresh le)
/-- a loop over it -/
theorem for_zipM {K : PySem.W.Frag} {a b : Addr} {l r : List V} {g : TG} {tb : TS} {D : Ends} {σ : L2.St} {H : Hp} (hlen : l.length = r.length) (Pv : Nat → L2.St → Hp → Prop) (h0 : Pv 0 σ H) (st : ∀ n σ H, Pv n σ H → SqT K H a l ∧ SqL K H b r)
    (hs : ∀ (n : Nat) (p q : V) (T : Addr) (σ : L2.St) (H : Hp), l[n]? = some p → r[n]? = some q → Pv n σ H → H T = none → g (.ref T) σ (upd H T (.tup [p, q])) fun σ2 H2 => tb { D with nx := Pv (n + 1), ct := Pv (n + 1), bk := D.nx } σ2 H2)
    (hd : ∀ σ H, Pv l.length σ H → D.nx σ H) :
    ∃ W : Nat → Nat → L2.St → Hp → Prop, (∃ m, W 0 m σ H) ∧ ∀ i m σ H, W i m σ H →
      ((ItM K a b).stop i H ∧ D.nx σ H) ∨ ((ItM K a b).go i H ∧ ∃ N : L2.St → Hp → Prop, (∀ σ' H', N σ' H' → ∃ m', m' < m ∧ W (i + 1) m' σ' H') ∧ ∀ v H', (ItM K a b).yld i H v H' → g v σ H' fun σ2 H2 => tb { D with nx := N, ct := N, bk := D.nx } σ2 H2) := by
  refine ⟨fun n m σ H => n + m = l.length ∧ Pv n σ H, ⟨l.length, Nat.zero_add _, h0⟩, fun n m σ H hW => ?_⟩
  obtain ⟨hm, hp⟩ := hW
  obtain ⟨sl, sr⟩ := st n σ H hp
  cases m with
  | zero =>
    have e : n = l.length := by omega
    exact .inl ⟨⟨l, r, sl, sr, hlen, e⟩, hd σ H (e ▸ hp)⟩
  | succ m =>
    refine .inr ⟨⟨l, r, sl, sr, hlen, by omega⟩, Pv (n + 1), fun σ' H' hp' => ⟨m, Nat.lt_succ_self _, by omega, hp'⟩, fun v H' y => ?_⟩
    obtain ⟨T, p, q, rfl, hT, rfl, y1, y2⟩ := y
    exact hs n p q T σ H (y1 l sl) (y2 r sr) hp hT
end LZ

namespace LJ
open PySem PySem.Spec PyProof.Rows L2 GuL HG Bt
section
variable {P : Program} {w : World} {K : PySem.W.Frag} {mg : Str → Option Value} {base : Heap}
def spWrittenL (K : PySem.W.Frag) : Sp := fun vs H Q _ => ∃ (v : V) (ta : Addr) (fs : List Fld) (ns : List Nat) (k : Nat), vs = [v, .ref ta] ∧ Dp K H v (encFs fs) ∧ H ta = some (.lst (vN ns)) ∧ fs.length ≤ 12 ∧ ns.length = fs.length ∧ 8 * k = (wds fs).sum ∧ k ≤ 16 ∧
  ∀ H' p, Same H H' → H' p = some (.tup (vN (bytesOf k (wbits (wds fs) ns)))) → Q (.ref p) H'
theorem ok_writtenL {f : Addr} {fd : FuncData} (F : Fun K "_law_written" "_law_written" sWritten f fd) (B : Blt mg) : FnOk P w K mg base CX0 1 f fd ["_law_fields_here", "_law_words_here"] (spWrittenL K) := by
  refine F.ok scWritten (fun vs H Q E h => ?_) (fun cdv A outer s H vs Q E hr h => ?_)
  · obtain ⟨v, ta, fs, ns, k, rfl, _⟩ := h
    rfl
  · obtain ⟨v, ta, fs, ns, k, rfl, dv, hta, l12, lns, hsum, k16, kk⟩ := h
    refine ⟨_, pss_cons (ps_par (i := 2) (j := 3) (by rfl) scWritten.nd rfl rfl (by decide) rfl rfl (pa_cons (pe_lst pa_nil) (pa_cons (pe_lst pa_nil) pa_nil)) (by rfl))
      (pss_cons (ps_for PassesOwn.never rfl (LZ.pi_zipM rfl B.zip (pa_cons (pv 0) (pa_cons (pv 1) pa_nil))) (pg_tup rfl (pgs_cons (pg_tup rfl (pgs_cons (pg_name (i := 4) scWritten.nd rfl (.inl rfl)) (pgs_cons (pg_name (i := 5) scWritten.nd rfl (.inl rfl)) pgs_nil))) (pgs_cons (pg_name (i := 6) scWritten.nd rfl (.inl rfl)) pgs_nil)))
        (pss_one (ps_for PassesOwn.never rfl (pi_range3 rfl B.range (pa_cons (pe_op op_sub (pv 5) pe_int) (pa_cons (pe_un un_neg pe_int) (pa_cons (pe_un un_neg pe_int) pa_nil)))) (pg_name (i := 7) scWritten.nd rfl (.inl rfl))
          (pss_one (ps_expr (pe_bm PySem.F.plainAttrs_list PySem.F.slot_list_append PySem.F.type_list_append mt_append (pv 2) (pa_cons (pe_op op_and (pe_op op_shr (pv 6) (pv 7)) pe_int) pa_nil)))))))
      (pss_cons (ps_for PassesOwn.never rfl (pi_range3 rfl B.range (pa_cons pe_int (pa_cons (pe_callB call_len_seq (by rfl) B.len PySem.boot_len (pa_cons (pv 2) pa_nil)) (pa_cons pe_int pa_nil)))) (pg_name (i := 8) scWritten.nd rfl (.inl rfl))
        (pss_cons (ps_set (i := 9) scWritten.nd rfl (.inl rfl) pe_int)
        (pss_cons (ps_for PassesOwn.never rfl (pi_list (pe_slice sl_list (pv 2) (po_some (pv 8)) (po_some (pe_op op_add (pv 8) pe_int)))) (pg_name (i := 10) scWritten.nd rfl (.inl rfl)) (pss_one (ps_set (i := 9) scWritten.nd rfl (.inl rfl) (pe_op op_add (pe_op op_mul pe_int (pv 9)) (pv 10)))))
        (pss_one (ps_expr (pe_bm PySem.F.plainAttrs_list PySem.F.slot_list_append PySem.F.type_list_append mt_append (pv 3) (pa_cons (pv 9) pa_nil)))))))
      (pss_one (ps_ret (pe_callTy call_tuple_of (by rfl) B.tuple (by decide +kernel) (pa_cons (pv 3) pa_nil)))))), ?_⟩
    refine ⟨Nat.zero_le _, fun lb hlb => ⟨Nat.zero_le _, fun lf hlf => ⟨_, _, rfl, ?_⟩⟩⟩
    have nbf : lb ≠ lf := fun z => by
      rw [← z, upd_same] at hlf
      cases hlf
    have hlf0 : H lf = none := by
      rw [upd_ne (Ne.symm nbf)] at hlf
      exact hlf
    have s0 := (same_new (o := .lst []) hlb).trans (same_new (o := .lst []) hlf)
    obtain ⟨fa, fxs, rfl, hfa, hfd⟩ := dp_tup dv
    have dl := dpAll_len hfd
    rw [List.length_map] at dl
    have lw := wds_len fs
    refine ⟨_, rfl, _, rfl, fa, ta, fxs, vN ns, rfl, sameT s0 hfa, SqL.of (s0 _ _ hta), ?_⟩
    refine LZ.for_zipM (K := K) (a := fa) (b := ta) (l := fxs) (r := vN ns) (by rw [vN_len, dl, lns]) (fun i σ H' => ∃ v4 v5 v6 v7 : Option V, σ = [some (.ref fa), some (.ref ta), some (.ref lb), some (.ref lf), v4, v5, v6, v7, none, none, none] ∧ Same H H' ∧ H' lb = some (.lst (vN (wbits ((wds fs).take i) (ns.take i)))) ∧ H' lf = some (.lst []))
      ⟨_, _, _, _, rfl, s0, by rw [upd_ne nbf]; exact upd_same, upd_same⟩ (fun i σ H' ⟨_, _, _, _, _, q, _⟩ => ⟨sameT q hfa, SqL.of (q _ _ hta)⟩) ?_ ?_
    · rintro i x y T σ H1 hi hj' ⟨v4, v5, v6, v7, rfl, s1, fb, ff⟩ hT
      obtain ⟨d, hd1, hd2⟩ := dpAll_at hfd hi
      rw [List.getElem?_map] at hd1
      obtain ⟨fl, hfl, rfl⟩ := Option.map_eq_some_iff.mp hd1
      obtain ⟨a, y', rfl, h1, h2⟩ := pair_dp (dpSame s1 hd2)
      obtain rfl := dp_int h2
      obtain ⟨n, hn, rfl⟩ := vN_at hj'
      have hw := wds_at hfl
      have i12 : i < 12 := by
        have := (List.getElem?_eq_some_iff.mp hfl).1
        omega
      have w128 : ((wds fs).take i).sum + fl.2 ≤ 128 := by
        have q1 := sum_take_succ hw
        have q2 := sum_take_le (wds fs) (i + 1)
        omega
      have lwb : (wbits ((wds fs).take i) (ns.take i)).length = ((wds fs).take i).sum := wbits_len (by rw [List.length_take, List.length_take, lns, lw])
      have sT := same_new (o := .tup [.ref a, .int (n : Int)]) hT
      have nTb : lb ≠ T := fun z => by
        rw [← z, fb] at hT
        cases hT
      refine ⟨T, _, rfl, SqT.of upd_same, rfl, _, _, rfl, a, _, rfl, sameT sT h1, rfl, _, _, rfl, _, _, rfl, rfl, _, _, rfl, rfl, ?_⟩
      refine ⟨_, rfl, _, _, rfl, rfl, 1, rfl, 1, rfl, (fl.2 : Int) - 1, -1, -1, fl.2, rfl, rgDown (by omega), for_rangeC (lo := (fl.2 : Int) - 1) (c := -1) (n := fl.2) (fun j σ H' => ∃ v7 : Option V, σ = [some (.ref fa), some (.ref ta), some (.ref lb), some (.ref lf), some (.str fl.1), some (.int (fl.2 : Int)), some (.int (n : Int)), v7, none, none, none] ∧ Same H H' ∧
        H' lb = some (.lst (vN (wbits ((wds fs).take i) (ns.take i) ++ (bitsN fl.2 n).take j))) ∧ H' lf = some (.lst [])) ⟨_, rfl, s1.trans sT, by rw [List.take_zero, List.append_nil]; exact sT _ _ fb, sT _ _ ff⟩ ?_ ?_⟩
      · rintro j σ H2 hj ⟨v7, rfl, s2, fb2, ff2⟩
        have ej : (fl.2 : Int) - 1 + (j : Nat) * -1 = ((fl.2 - 1 - j : Nat) : Int) := by omega
        refine ⟨_, rfl, .inl ⟨rfl, _, SqL.of fb2⟩, _, rfl, _, rfl, _, _, rfl, rfl, by omega, _, _, rfl, rfl, lb, _, _, rfl, rfl, fb2, ?_, _, rfl, Same.mut s2 hlb, ?_, by rw [upd_ne (Ne.symm nbf)]; exact ff2⟩
        · rw [vN_len, List.length_append, lwb]
          have h2 := List.length_take_le j (bitsN fl.2 n)
          exact small1000 (by omega)
        · rw [upd_same, List.take_add_one, bitsN_at hj, ← List.append_assoc]
          show _ = some (HO.lst (vN (_ ++ [_])))
          rw [vN_snoc, ej, Int.toNat_natCast]
          show some (HO.lst (_ ++ [V.int (Builtin.bitAnd ((n : Int) / 2 ^ (fl.2 - 1 - j)) 1)])) = _
          rw [bit_one]
      · rintro σ H2 ⟨v7, rfl, s2, fb2, ff2⟩
        refine ⟨_, _, _, _, rfl, s2, ?_, ff2⟩
        rw [List.take_add_one, List.take_add_one, hw, hn]
        show _ = some (HO.lst (vN (wbits (_ ++ [_]) (_ ++ [_]))))
        rw [wbits_snoc (by rw [List.length_take, List.length_take, lns, lw])]
        have e8 : (bitsN fl.2 n).take fl.2 = bitsN fl.2 n := List.take_of_length_le (by rw [bitsN_len]; exact Nat.le_refl _)
        rw [e8] at fb2
        exact fb2
    · rintro σ H1 ⟨v4, v5, v6, v7, rfl, s1, fb, ff⟩
      rw [dl, List.take_of_length_le (by rw [lw]; exact Nat.le_refl _), List.take_of_length_le (by rw [lns]; exact Nat.le_refl _)] at fb
      have lwb : (wbits (wds fs) ns).length = 8 * k := by rw [wbits_len (by rw [lns, lw]), hsum]
      obtain ⟨l, hl⟩ : ∃ l, wbits (wds fs) ns = l := ⟨_, rfl⟩
      rw [hl] at fb lwb kk
      have e8 : ((vN l).length : Int) = 8 * (k : Int) := by
        rw [vN_len, lwb]
        omega
      refine ⟨_, rfl, lb, _, rfl, .inl (SqL.of fb), 0, _, 8, k, rfl, by rw [e8]; exact rg8 k k16, for_rangeC (lo := 0) (c := 8) (n := k) (fun i σ H' => ∃ v4 v5 v6 v7 v8 v9 v10 : Option V, σ = [some (.ref fa), some (.ref ta), some (.ref lb), some (.ref lf), v4, v5, v6, v7, v8, v9, v10] ∧ Same H H' ∧ H' lb = some (.lst (vN l)) ∧
        H' lf = some (.lst (vN ((bytesOf k l).take i)))) ⟨_, _, _, _, _, _, _, rfl, s1, fb, ff⟩ ?_ ?_⟩
      · rintro i σ H2 hi ⟨v4, v5, v6, v7, v8, v9, v10, rfl, s2, fb2, ff2⟩
        refine ⟨_, rfl, _, rfl, _, rfl, _, rfl, _, _, rfl, rfl, _, rfl, lb, _, rfl, SqL.of fb2, fun c hc => ?_⟩
        rw [cut8 (by omega)]
        have sc := same_new (o := .lst (vN ((l.drop (8 * i)).take 8))) hc
        refine ⟨c, rfl, ⟨_, SqL.of upd_same⟩, for_list (K := K) (a := c) (xs := vN ((l.drop (8 * i)).take 8)) (fun j σ H' => ∃ v10 : Option V, σ = [some (.ref fa), some (.ref ta), some (.ref lb), some (.ref lf), v4, v5, v6, v7, some (.int ((0 : Int) + (i : Nat) * 8)), some (.int ((valB (((l.drop (8 * i)).take 8).take j) : Nat) : Int)), v10] ∧
          H' = upd H2 c (.lst (vN ((l.drop (8 * i)).take 8)))) ⟨_, rfl, rfl⟩ (fun j σ H' _ ⟨_, _, q⟩ => SqL.of (by rw [q]; exact upd_same)) ?_ ?_⟩
        · rintro j x σ H3 hj ⟨v10, rfl, rfl⟩
          obtain ⟨bt, hbt, rfl⟩ := vN_at hj
          refine ⟨_, rfl, _, _, rfl, rfl, .inl ⟨by decide, by decide⟩, _, rfl, _, _, rfl, rfl, some (.int (bt : Int)), ?_, rfl⟩
          rw [take_bit hbt]
          show [_, _, _, _, _, _, _, _, _, some (V.int (2 * ((valB _ : Nat) : Int) + (bt : Int))), _] = [_, _, _, _, _, _, _, _, _, some (V.int ((2 * valB _ + bt : Nat) : Int)), _]
          rw [Int.natCast_add, Int.natCast_mul]
          rfl
        · rintro σ H3 ⟨v10, rfl, rfl⟩
          rw [take_all]
          have s3 := s2.trans sc
          refine ⟨_, rfl, .inl ⟨rfl, _, SqL.of (sc _ _ ff2)⟩, _, rfl, lf, _, _, rfl, rfl, sc _ _ ff2, ?_, ?_⟩
          · rw [vN_len]
            exact small1000 (Nat.le_trans (List.length_take_le _ _) (by omega))
          · refine ⟨v4, v5, v6, v7, some (.int ((0 : Int) + (i : Nat) * 8)), some (.int ((valB ((l.drop (8 * i)).take 8) : Nat) : Int)), v10, rfl, Same.mut s3 hlf0, by rw [upd_ne nbf]; exact sc _ _ fb2, ?_⟩
            rw [upd_same, List.take_add_one (l := bytesOf k l) (i := i), bytesOf_get k l i hi, Option.toList_some, vN_snoc]
      · rintro σ H2 ⟨v4, v5, v6, v7, v8, v9, v10, rfl, s2, fb2, ff2⟩
        refine ⟨_, rfl, lf, _, rfl, .inl ⟨SqL.of ff2, fun p hp => ?_⟩⟩
        have e : (bytesOf k l).take k = bytesOf k l := List.take_of_length_le (by rw [bytesOf_len]; exact Nat.le_refl _)
        show Q (.ref p) (upd H2 p (.tup (vN ((bytesOf k l).take k))))
        rw [e]
        exact kk _ p (s2.trans (same_new hp)) upd_same
def spBytes8 (K : PySem.W.Frag) : Sp := fun vs H Q _ => ∃ (b : Addr) (n : Nat) (o m c : Int), vs = [.ref b, .int (n : Int)] ∧ H b = some (bw o m c) ∧ 0 ≤ o ∧ n ≤ 128 ∧
  ∀ H' v bs, Jr b H H' → Dp K H' v (encNs bs) → bs.length = n → (∀ x ∈ bs, x < 256) → Q v H'
theorem ok_bytes8 {f fD fO fN : Addr} {fd fdD fdO fdN : FuncData} (F : Fun K "_law_bytes" "_law_bytes" sBytes f fd) (B : Blt mg) (Z : Drw P w K mg base fD fO fN fdD fdO fdN) : FnOk P w K mg base CX0 3 f fd ["_law_jar_here", "_law_many"] (spBytes8 K) := by
  refine F.ok scBytes (fun vs H Q E h => ?_) (fun cdv A outer s H vs Q E hr h => ?_)
  · obtain ⟨b, n, o, m, c, rfl, _⟩ := h
    rfl
  · obtain ⟨b, n, o, m, c, rfl, hb, ho, n16, k⟩ := h
    refine ⟨_, pss_cons (ps_set (i := 2) scBytes.nd rfl (.inl rfl) (pe_lst pa_nil))
      (pss_cons (ps_for PassesOwn.never rfl (pi_range1 (by rfl) B.range (pa_cons (pv 1) pa_nil)) (pg_name (i := 3) scBytes.nd rfl (.inl rfl))
        (pss_one (ps_expr (pe_bm PySem.F.plainAttrs_list PySem.F.slot_list_append PySem.F.type_list_append mt_append (pv 2) (pa_cons (pe_ifExp (pt_cmpR op_gt (pe_call Z.GD (hr.mono (by decide)) (by rfl) Z.gD Z.FD.kp Z.bD .nil pass0 (pa_cons (pv 0) (pa_cons pe_int pa_nil))) pe_int (nomark _)) (pe_call Z.GO (hr.mono (by decide)) (by rfl) Z.gO Z.FO.kp Z.bO .nil pass0 (pa_cons (pv 0) (pa_cons (pe_lst (pa_cons pe_int (pa_cons pe_int (pa_cons pe_int (pa_cons pe_int (pa_cons pe_int (pa_cons pe_int (pa_cons pe_int (pa_cons pe_int pa_nil))))))))) pa_nil))) (pe_call Z.GD (hr.mono (by decide)) (by rfl) Z.gD Z.FD.kp Z.bD .nil pass0 (pa_cons (pv 0) (pa_cons pe_int pa_nil)))) pa_nil)))))
      (pss_one (ps_ret (pe_callTy call_tuple_of (by rfl) B.tuple (by decide +kernel) (pa_cons (pv 2) pa_nil))))), ?_⟩
    refine ⟨Nat.zero_le _, fun l hl => ?_⟩
    have nl : l ≠ b := fun z => by
      rw [z, hb] at hl
      cases hl
    have s0 := same_new (o := .lst []) hl
    refine ⟨_, rfl, _, rfl, by omega, by omega, ?_⟩
    rw [Int.toNat_natCast]
    refine for_range (lo := 0) (n := n) (fun i σ H' => ∃ (ns : List Nat) (v3 : Option V), σ = [some (.ref b), some (.int (n : Int)), some (.ref l), v3] ∧ Jr b H H' ∧ H' l = some (.lst (vN ns)) ∧ ns.length = i ∧ ∀ x ∈ ns, x < 256)
      ⟨[], _, rfl, ⟨Exb.of s0, o, m, c, s0 _ _ hb, ho⟩, upd_same, rfl, fun x hx => nomatch hx⟩ ?_ ?_
    · rintro i σ H2 hi ⟨ns, v3, rfl, j2, hl2, len2, lt2⟩
      obtain ⟨e2, o2, m2, c2, hb2, ho2⟩ := j2
      refine ⟨_, rfl, .inl ⟨rfl, _, SqL.of hl2⟩, _, rfl, b, 3, o2, m2, c2, rfl, hb2, ho2, by decide, by decide, fun H3 r o3 m3 c3 e3 hb3 ho3 r0 r1 => ⟨_, _, rfl, rfl, _, rfl, ite2 (fun _ => ?_) (fun _ => ?_)⟩⟩
      · have hl3 : H3 l = some (.lst (vN ns)) := e3 _ _ nl hl2
        refine ⟨_, rfl, by show 8 ≤ sizeLine; decide, fun p hp => ?_⟩
        have np : p ≠ b := fun z => by
          rw [z, hb3] at hp
          cases hp
        have npl : l ≠ p := ne_of_none hl3 hp
        refine ⟨b, .ref p, o3, m3, c3, rfl, by rw [upd_ne (Ne.symm np)]; exact hb3, ho3, .inr (.inr ⟨p, _, rfl, np, upd_same, by show 0 < 8; decide, by show 8 < 100000; decide, fun H4 v o4 m4 c4 e4 hb4 ho4 hv => ?_⟩)⟩
        obtain ⟨si, hsi, rfl⟩ := mem_ints (L := w8) hv
        have sb := w8_ok si hsi
        obtain ⟨sn, rfl⟩ := Int.eq_ofNat_of_zero_le (show 0 ≤ si by omega)
        have x4 : Exb b H3 H4 := (Exb.of (same_new hp)).trans e4
        refine ⟨l, _, _, rfl, rfl, x4 _ _ nl hl3, ?_, ns ++ [sn], _, rfl, Jr.put ⟨(e2.trans e3).trans x4, o4, m4, c4, hb4, ho4⟩ hl nl, by rw [upd_same, vN_snoc], by rw [List.length_append, len2]; rfl, fun x hx => ?_⟩
        · rw [vN_len, len2]
          exact small1000 (by omega)
        · rcases List.mem_append.mp hx with hx | hx
          · exact lt2 x hx
          · rw [List.mem_singleton.mp hx]
            omega
      · have hl3 : H3 l = some (.lst (vN ns)) := e3 _ _ nl hl2
        refine ⟨_, rfl, b, 256, o3, m3, c3, rfl, hb3, ho3, by decide, by decide, fun H4 r4 o4 m4 c4 e4 hb4 ho4 r40 r41 => ?_⟩
        obtain ⟨sn, rfl⟩ := Int.eq_ofNat_of_zero_le r40
        refine ⟨l, _, _, rfl, rfl, e4 _ _ nl hl3, ?_, ns ++ [sn], _, rfl, Jr.put ⟨(e2.trans e3).trans e4, o4, m4, c4, hb4, ho4⟩ hl nl, by rw [upd_same, vN_snoc], by rw [List.length_append, len2]; rfl, fun x hx => ?_⟩
        · rw [vN_len, len2]
          exact small1000 (by omega)
        · rcases List.mem_append.mp hx with hx | hx
          · exact lt2 x hx
          · rw [List.mem_singleton.mp hx]
            omega
    · rintro σ H2 ⟨ns, v3, rfl, j2, hl2, len2, lt2⟩
      refine ⟨_, rfl, l, _, rfl, .inl ⟨SqL.of hl2, fun p hp => ?_⟩⟩
      exact k _ _ ns (j2.same (same_new hp)) (dp_encNs upd_same) len2 lt2

end
end LJ

namespace LJ
open PySem PySem.Spec PyProof.Rows L2 GuL HG Bt
/-! ### what is held as lists -/
def HeldL (K : PySem.W.Frag) (H0 H : Hp) (b ll q : Addr) (n : Nat) (hl : Hld) : Prop := ∃ (kvs : List (Key × V)) (ad : Str → Option Addr), H q = some (.dK kvs) ∧ kvs.length ≤ n ∧ (∀ z, valV kvs (.inr z) = (ad z).map V.ref) ∧ (∀ z, ad z = none → hl z = none) ∧
  (∀ z a, ad z = some a → a ≠ b ∧ a ≠ ll ∧ H0 a = none ∧ ∃ ws, hl z = some ws ∧ H a = some (.lst (vN ws))) ∧ (∀ z y a, ad z = some a → ad y = some a → z = y)
section
variable {K : PySem.W.Frag} {H0 H H' : Hp} {b ll q : Addr} {n : Nat} {hl : Hld}
theorem HeldL.ok (h : HeldL K H0 H b ll q n hl) : HeldOk K H q hl := by
  obtain ⟨kvs, ad, h1, _, h2, h3, h4, _⟩ := h
  refine ⟨kvs, h1, fun z => ?_⟩
  cases e : ad z with
  | none =>
    refine .inl ⟨h3 z e, ?_⟩
    rw [h2, e]
    rfl
  | some a =>
    obtain ⟨_, _, _, ws, w1, w2⟩ := h4 z a e
    refine .inr ⟨ws, .ref a, w1, ?_, a, rfl, .inl (SqL.of w2)⟩
    rw [h2, e]
    rfl
theorem HeldL.ex {c : Addr} {xs0 : List V} (hc : c = b ∨ c = ll) (h0 : H c = some (.lst xs0)) (e : Exb c H H') (h : HeldL K H0 H b ll q n hl) : HeldL K H0 H' b ll q n hl := by
  obtain ⟨kvs, ad, h1, hn, h2, h3, h4, h5⟩ := h
  refine ⟨kvs, ad, e _ _ (fun z => by rw [z, h0] at h1; cases h1) h1, hn, h2, h3, fun z a ea => ?_, h5⟩
  obtain ⟨n1, n2, n3, ws, w1, w2⟩ := h4 z a ea
  refine ⟨n1, n2, n3, ws, w1, e _ _ ?_ w2⟩
  rcases hc with rfl | rfl
  · exact n1
  · exact n2
theorem HeldL.same (s : Same H H') (h : HeldL K H0 H b ll q n hl) : HeldL K H0 H' b ll q n hl := by
  obtain ⟨kvs, ad, h1, hn, h2, h3, h4, h5⟩ := h
  refine ⟨kvs, ad, s _ _ h1, hn, h2, h3, fun z a ea => ?_, h5⟩
  obtain ⟨n1, n2, n3, ws, w1, w2⟩ := h4 z a ea
  exact ⟨n1, n2, n3, ws, w1, s _ _ w2⟩
theorem HeldL.mono {m : Nat} (l : n ≤ m) (h : HeldL K H0 H b ll q n hl) : HeldL K H0 H b ll q m hl := by
  obtain ⟨kvs, ad, h1, hn, h2⟩ := h
  exact ⟨kvs, ad, h1, Nat.le_trans hn l, h2⟩
theorem HeldL.put {a : Addr} {ws : List Nat} {z : Str} (h : HeldL K H0 H b ll q n hl) (s : Same H H') (fa : H a = none) (ha : H' a = some (.lst (vN ws))) (nb : a ≠ b) (nl : a ≠ ll) (f0 : H0 a = none) :
    ∃ kvs : List (Key × V), H' q = some (.dK kvs) ∧ kvs.length ≤ n ∧ HeldL K H0 (upd H' q (.dK (putK kvs (.inr z) (.ref a)))) b ll q (n + 1) (hput hl z ws) := by
  obtain ⟨kvs, ad, h1, hn, h2, h3, h4, h5⟩ := h
  have hq := s _ _ h1
  have ne : ∀ {p : Addr} {xs : List V}, H' p = some (.lst xs) → p ≠ q := fun e z => by
    rw [z, hq] at e
    cases e
  refine ⟨kvs, hq, hn, _, fun y => if y = z then some a else ad y, upd_same, Nat.le_trans (length_putK _ _ _) (by omega), fun y => ?_, fun y e => ?_, fun y a' e => ?_, fun y y' a' e e' => ?_⟩
  · show valV _ _ = (if y = z then some a else ad y).map V.ref
    rw [valV_put]
    by_cases c : y = z
    · subst c
      rw [if_pos rfl, if_pos rfl]
      rfl
    · have c2 : ¬ (Sum.inr y : Key) = Sum.inr z := fun w => c (by injection w)
      rw [if_neg c2, if_neg c]
      exact h2 y
  · have e : (if y = z then some a else ad y) = none := e
    unfold hput
    by_cases c : y = z
    · rw [if_pos c] at e
      cases e
    · rw [if_neg c] at e ⊢
      exact h3 y e
  · have e : (if y = z then some a else ad y) = some a' := e
    unfold hput
    by_cases c : y = z
    · rw [if_pos c] at e ⊢
      injection e with e
      subst e
      exact ⟨nb, nl, f0, ws, rfl, by rw [upd_ne (ne ha)]; exact ha⟩
    · rw [if_neg c] at e ⊢
      obtain ⟨n1, n2, n3, vs, w1, w2⟩ := h4 y a' e
      exact ⟨n1, n2, n3, vs, w1, by rw [upd_ne (ne (s _ _ w2))]; exact s _ _ w2⟩
  · have e : (if y = z then some a else ad y) = some a' := e
    have e' : (if y' = z then some a else ad y') = some a' := e'
    have old : ∀ {x}, ad x = some a → False := fun g => by
      obtain ⟨_, _, _, _, _, w2⟩ := h4 _ _ g
      rw [fa] at w2
      cases w2
    by_cases c : y = z
    · by_cases c' : y' = z
      · rw [c, c']
      · rw [if_pos c] at e
        rw [if_neg c'] at e'
        injection e with e
        subst e
        exact (old e').elim
    · by_cases c' : y' = z
      · rw [if_neg c] at e
        rw [if_pos c'] at e'
        injection e' with e'
        subst e'
        exact (old e).elim
      · rw [if_neg c] at e
        rw [if_neg c'] at e'
        exact h5 y y' a' e e'
theorem HeldL.at {z : Str} {ws : List Nat} (h : HeldL K H0 H b ll q n hl) (e : hl z = some ws) : ∃ kvs a, H q = some (.dK kvs) ∧ valV kvs (.inr z) = some (.ref a) ∧ a ≠ b ∧ a ≠ ll ∧ H0 a = none ∧ H a = some (.lst (vN ws)) ∧
    ∀ ws', HeldL K H0 (upd H a (.lst (vN ws'))) b ll q n (hput hl z ws') := by
  obtain ⟨kvs, ad, h1, hn, h2, h3, h4, h5⟩ := h
  cases ea : ad z with
  | none =>
    rw [h3 z ea] at e
    cases e
  | some a =>
    obtain ⟨n1, n2, n3, vs, w1, w2⟩ := h4 z a ea
    rw [w1] at e
    injection e with e
    subst e
    refine ⟨kvs, a, h1, by rw [h2, ea]; rfl, n1, n2, n3, w2, fun ws' => ?_⟩
    have nq : q ≠ a := fun c => by
      rw [c, w2] at h1
      cases h1
    refine ⟨kvs, ad, by rw [upd_ne nq]; exact h1, hn, h2, fun y ey => ?_, fun y a' ey => ?_, h5⟩
    · unfold hput
      by_cases c : y = z
      · rw [c, ea] at ey
        cases ey
      · rw [if_neg c]
        exact h3 y ey
    · unfold hput
      obtain ⟨m1, m2, m3, us, u1, u2⟩ := h4 y a' ey
      by_cases c : y = z
      · rw [c, ea] at ey
        injection ey with ey
        subst ey
        rw [if_pos c]
        exact ⟨m1, m2, m3, ws', rfl, upd_same⟩
      · have na : a' ≠ a := fun g => c (h5 y z a' ey (by rw [ea, g]))
        rw [if_neg c]
        exact ⟨m1, m2, m3, us, u1, by rw [upd_ne na]; exact u2⟩
end
def FitsW (hs : List Hdr) (hl : Hld) : Prop := ∀ h ∈ hs, ∀ ws, hl h.1 = some ws → Fit (wds h.2) ws
theorem fit_length : ∀ {ws ns : List Nat}, Fit ws ns → ns.length = ws.length
  | _, _, .nil => rfl
  | _, _, .cons _ r => by rw [List.length_cons, List.length_cons, fit_length r]
theorem FitsW.fits {hs : List Hdr} {hl : Hld} (h : FitsW hs hl) : Fits hs hl := fun g hg ws e => by
  rw [fit_length (h g hg ws e)]
  unfold wds
  rw [List.length_map]
theorem fitsW_put {hs : List Hdr} (ok : HeadersOk hs) {hl : Hld} (f : FitsW hs hl) {h : Hdr} (hm : h ∈ hs) {ws : List Nat} (l : Fit (wds h.2) ws) : FitsW hs (hput hl h.1 ws) := by
  intro g gm ws' e
  unfold hput at e
  by_cases q : g.1 = h.1
  · rw [if_pos q] at e
    injection e with e
    have e2 : g.2 = h.2 := by rw [← flds_mem ok hm, ← flds_mem ok gm, q]
    rw [← e, e2]
    exact l
  · rw [if_neg q] at e
    exact f g gm ws' e
theorem fit_set : ∀ {ws ns : List Nat} {i v r : Nat}, Fit ws ns → ws[i]? = some v → r < 2 ^ v → Fit ws (ns.set i r)
  | _ :: _, _ :: _, 0, v, r, .cons _ t, a, h => by
    simp at a
    subst a
    exact .cons h t
  | _ :: _, _ :: _, i + 1, v, r, .cons g t, a, h => .cons g (fit_set (i := i) t (by simpa using a) h)
theorem idx_at {fs : List Fld} (nd : (fs.map (·.1)).Nodup) {fl : Fld} (m : fl ∈ fs) : fs[(fs.map (·.1)).idxOf fl.1]? = some fl := by
  induction fs with
  | nil => exact nomatch m
  | cons g fs ih =>
    rw [List.map_cons, List.nodup_cons] at nd
    rw [List.map_cons, List.idxOf_cons]
    rcases List.mem_cons.mp m with e | m
    · subst e
      simp
    · have ne : (g.1 == fl.1) = false := by
        have : ¬ g.1 = fl.1 := fun e => nd.1 (e ▸ List.mem_map.mpr ⟨fl, m, rfl⟩)
        simpa using this
      rw [ne]
      exact ih nd.2 m
theorem leads_aims (x : Nxt) (w : Nat) : leadsF x w ∈ aimsN x := by
  cases x with
  | acc => exact List.mem_cons_self
  | rej => exact List.mem_cons_self
  | go z => exact List.mem_cons_self
  | by_ p cs z =>
    show ((cs.find? fun c => decide (w &&& c.2.1 = c.1)).map (·.2.2)).getD z ∈ cs.map (·.2.2) ++ [z]
    cases e : cs.find? fun c => decide (w &&& c.2.1 = c.1) with
    | none => exact List.mem_append_right _ List.mem_cons_self
    | some c => exact List.mem_append_left _ (List.mem_map.mpr ⟨c, List.mem_of_find?_eq_some e, rfl⟩)
theorem met_skip : ∀ {p r : List Sta} {z : Str} {t : Thg}, z ∉ p.map (·.nm) → Met r z t → Met (p ++ r) z t
  | [], _, _, _, _, h => h
  | s :: p, r, z, t, n, h => .inr ⟨fun e => n (e ▸ List.mem_cons_self), met_skip (fun q => n (List.mem_cons_of_mem _ q)) h⟩
structure LineOk (hs : List Hdr) (s : Sta) (post : List Sta) (zs : List Str) (hl : Hld) : Prop where
  nd : zs.Nodup
  hd : ∀ z ∈ zs, ∃ h ∈ hs, h.1 = z
  he : ∀ z ∈ zs, ∃ ws, hl z = some ws
  mt : ∀ z ∈ zs, ∀ a ∈ aimsN s.nx, ¬ Met post a (.rd z)
structure PV (K : PySem.W.Frag) (f : Frm) (H H' : Hp) (b ll q : Addr) (i : Nat) (pre : List Sta) (s : Sta) (post : List Sta) (zs : List Str) (hl : Hld) (first : Nat) : Prop where
  e : f.ss = pre ++ s :: post
  li : i ≤ pre.length
  j : Jr b H H'
  hl_ : H' ll = some (.lst (zs.map V.str))
  hh : HeldL K H H' b ll q i hl
  ft : FitsW f.hs hl
  nd : zs.Nodup
  hd : ∀ z ∈ zs, ∃ h ∈ f.hs, h.1 = z
  he : ∀ z ∈ zs, ∃ ws, hl z = some ws
  mt : ∀ z ∈ zs, ¬ Met (s :: post) s.nm (.rd z)
  f1 : first < 256
theorem ixN_nat {n j : Nat} (h : j < n) : ixN n (j : Int) = some j := by
  unfold ixN
  rw [if_pos (Int.natCast_nonneg j), if_pos (by omega), Int.toNat_natCast]
end LJ

namespace LJ
open PySem PySem.Spec PyProof.Rows L2 GuL HG Bt
abbrev sPF : Stmt := topS 85
def rCatB (K : PySem.W.Frag) : R2 := fun x y H Q => ∃ a b xs ys, x = .ref a ∧ y = .ref b ∧ SqT K H a xs ∧ SqT K H b ys ∧ xs.length + ys.length ≤ sizeLine ∧ ∀ p H', Same H H' → SqT K H' p (xs ++ ys) → Q (.ref p) H'
theorem op_catB {X : Cx} : OpR X (binaryOp .Add) (rCatB X.K) := by
  intro pins s σ H x y v u Q I rx ry h
  obtain ⟨a, b, xs, ys, rfl, rfl, ha, hb, hz, q⟩ := h
  refine op_catA pins s σ H _ _ v u Q I rx ry ⟨a, b, xs, ys, rfl, rfl, ha, hb, hz, fun e => ?_, fun _ e => ?_, fun _ _ p hp => ?_⟩
  · subst e
    exact q _ _ (Same.refl _) hb
  · subst e
    exact q _ _ (Same.refl _) (by rw [List.append_nil]; exact ha)
  · exact q _ _ (same_new hp) (SqT.of upd_same)
theorem cut_upto {bs : List Nat} {r : Nat} (h : r ≤ bs.length) : cutV (vN bs) none (some (r : Int)) = vN (bs.take r) := by
  unfold cutV vN
  rw [HT.sIx_none, HT.sIx_nat, List.length_map, Nat.min_eq_left h, List.drop_zero, Nat.sub_zero, List.map_take]
section
variable {P : Program} {w : World} {K : PySem.W.Frag} {mg : Str → Option Value} {base : Heap}
theorem scPF : FnScope ["_law_jar_here", "_law_frame_here", "_law_headers_here", "_law_states_here", "_law_at", "_law_held", "_law_line", "_law_first", "_law_turn", "_law_name_here", "_law_header", "_law_step", "_law_names", "_law_own", "_law_aim", "_law_found", "_law_field", "_law_width_here"] ["_law_jar_here", "_law_frame_here"] (defScope sPF) := ⟨rfl, rfl, rfl, by decide +kernel, rfl, by decide +kernel, by decide +kernel⟩
def spPF (K : PySem.W.Frag) : Sp := fun vs H Q _ => ∃ (b : Addr) (v : V) (f : Frm) (s0 : Sta) (r0 : List Sta) (o m c : Int), vs = [.ref b, v] ∧ H b = some (bw o m c) ∧ 0 ≤ o ∧ Dp K H v (encFr f) ∧ FrmOk f ∧ f.ss = s0 :: r0 ∧
  ∀ H' u (first : Nat) (bs : List Nat), Jr b H H' → Dp K H' u (encPk first bs) → first < 256 → bs.length ≤ 128 → (∀ x ∈ bs, x < 256) → Q u H'
theorem ok_pf {f fD fO fN fF fWs fH fL fA fI fWr fB : Addr} {fd fdD fdO fdN dF dWs dH dL dA dI dWr dB : FuncData} (F : Fun K "_law_packet_for" "_law_packet_for" sPF f fd) (B : Blt mg) (Z : Drw P w K mg base fD fO fN fdD fdO fdN)
    (KF : Kn P w K mg base 1 "_law_fields_of" sFieldsOf ["_law_headers_here", "_law_header"] (spFieldsOf K) fF dF) (KWs : Kn P w K mg base 3 "_law_words" sWords ["_law_jar_here", "_law_fields_here"] (spWords K) fWs dWs) (KH : Kn P w K mg base 3 "_law_hit" sHit ["_law_jar_here", "_law_headers_here", "_law_step"] (spHit K) fH dH)
    (KL : Kn P w K mg base 1 "_law_leads" sLeads ["_law_state", "_law_word_here"] (spLeads K) fL dL) (KA : Kn P w K mg base 2 "_law_asked" sAsked ["_law_headers_here", "_law_step", "_law_held", "_law_first"] (spAsked K) fA dA) (KI : Kn P w K mg base 1 "_law_index" sIndex ["_law_states_here", "_law_name_here"] (spIndex K) fI dI)
    (KWr : Kn P w K mg base 1 "_law_written" sWritten ["_law_fields_here", "_law_words_here"] (spWrittenL K) fWr dWr) (KB : Kn P w K mg base 3 "_law_bytes" sBytes ["_law_jar_here", "_law_many"] (spBytes8 K) fB dB) : FnOk P w K mg base CX0 4 f fd ["_law_jar_here", "_law_frame_here"] (spPF K) := by
  refine F.ok scPF (fun vs H Q E h => ?_) (fun cdv A outer s H vs Q E hr h => ?_)
  · obtain ⟨b, v, f, s0, r0, o, m, c, rfl, _⟩ := h
    rfl
  · obtain ⟨b, v, f, s0, r0, o, m, c, rfl, hb, ho, dv, fok, es0, k⟩ := h
    refine ⟨_, (pss_cons (ps_par (i := 2) (j := 3) (by rfl) scPF.nd rfl rfl (by decide) rfl rfl (pa_cons (pe_ix ix_tup (pv 1) pe_int (fun _ _ => rfl)) (pa_cons (pe_ix ix_tup (pv 1) pe_int (fun _ _ => rfl)) pa_nil)) (by rfl)) (pss_cons (ps_asg (pe_tup (pa_cons pe_int (pa_cons pe_dnewK (pa_cons (pe_lst pa_nil) (pa_cons (pe_call Z.GD (hr.mono (by decide)) (by rfl) Z.gD Z.FD.kp Z.bD .nil pass0 (pa_cons (pv 0) (pa_cons pe_int pa_nil))) pa_nil))))) (pg_tup (by rfl) (pgs_cons (pg_name (i := 4) scPF.nd rfl (.inl rfl)) (pgs_cons (pg_name (i := 5) scPF.nd rfl (.inl rfl)) (pgs_cons (pg_name (i := 6) scPF.nd rfl (.inl rfl)) (pgs_cons (pg_name (i := 7) scPF.nd rfl (.inl rfl)) pgs_nil)))))) (Evl.pss_cut (ps_for PassesOwn.never rfl (pi_range1 (by rfl) B.range (pa_cons (pe_callB call_len_seq (by rfl) B.len PySem.boot_len (pa_cons (pv 3) pa_nil)) pa_nil)) (pg_name (i := 8) scPF.nd rfl (.inl rfl)) (pss_cons (ps_asg (pe_ix ix_tup (pv 3) (pv 4) (fun _ _ => rfl)) (pg_tup (by rfl) (pgs_cons (pg_name (i := 9) scPF.nd rfl (.inl rfl)) (pgs_cons (pg_name (i := 10) scPF.nd rfl (.inl rfl)) (pgs_cons (pg_name (i := 11) scPF.nd rfl (.inl rfl)) pgs_nil))))) (Evl.pss_cut (ps_if (pt_cmpR op_notN (pv 10) pe_non (nomark _)) (pss_cons (ps_dput (hu1 hr) (pv 5) (pv 10) (pe_callTy call_list_of (by rfl) B.list (by decide +kernel) (pa_cons (pe_call KWs.G (hr.mono (by decide)) (by rfl) KWs.g KWs.F.kp KWs.b .nil pass0 (pa_cons (pv 0) (pa_cons (pe_call KF.G (hr.mono (by decide)) (by rfl) KF.g KF.F.kp KF.b .nil pass0 (pa_cons (pv 2) (pa_cons (pv 10) pa_nil))) pa_nil))) pa_nil)) (by rfl)) (pss_one (ps_expr (pe_bm PySem.F.plainAttrs_list PySem.F.slot_list_append PySem.F.type_list_append mt_append (pv 6) (pa_cons (pv 10) pa_nil))))) pss_nil) (Evl.pss_cut (ps_if (PW.pt (pw_and (pt_cmpR op_eq (pe_ix ix_tup (pv 11) pe_int (fun _ _ => rfl)) pe_str (nomark _)) (pw_and1 (pt_cmpR op_eq (pe_ix ix_tup (pe_ix ix_tup (pv 11) pe_int (fun _ _ => rfl)) pe_int (fun _ _ => rfl)) pe_str (nomark _))))) (pss_one (ps_set (i := 7) scPF.nd rfl (.inl rfl) (pe_call KH.G (hr.mono (by decide)) (by rfl) KH.g KH.F.kp KH.b .nil pass0 (pa_cons (pv 0) (pa_cons (pv 2) (pa_cons (pv 11) pa_nil)))))) (pss_one (ps_if (PW.pt (pw_and (pt_cmpR op_eq (pe_ix ix_tup (pv 11) pe_int (fun _ _ => rfl)) pe_str (nomark _)) (pw_and1 (pt_cmp (pc_din (hu1 hr) (pe_ix ix_tup (pe_ix ix_tup (pv 11) pe_int (fun _ _ => rfl)) pe_int (fun _ _ => rfl)) (pv 5)) (by rfl))))) (pss_cons (ps_setLc (i := 12) (own := [("_law_field", 16), ("_law_width_here", 17)]) (g := (gTup K 2 (gCons (gName 16) (gCons (gName 17) gNil)))) (tt := tYes) rfl scPF.nd rfl rfl (sw_true rfl rfl rfl rfl) (pi_tup (pe_call KF.G (hr.mono (by decide)) (by rfl) KF.g KF.F.kp KF.b .nil pass0 (pa_cons (pv 2) (pa_cons (pe_ix ix_tup (pe_ix ix_tup (pv 11) pe_int (fun _ _ => rfl)) pe_int (fun _ _ => rfl)) pa_nil)))) (blkOk_by (N := ["_law_jar_here", "_law_frame_here", "_law_headers_here", "_law_states_here", "_law_at", "_law_held", "_law_line", "_law_first", "_law_turn", "_law_name_here", "_law_header", "_law_step", "_law_names", "_law_own", "_law_aim", "_law_found", "_law_field", "_law_width_here"]) (sc := defScope sPF) (by decide +kernel)) (fun _ _ _ _ _ => (pg_tup rfl (pgs_cons (pg_name (i := 16) scPF.nd rfl (.inl rfl)) (pgs_cons (pg_name (i := 17) scPF.nd rfl (.inl rfl)) pgs_nil)))) (fun _ _ _ _ _ => pts_nil) (fun _ _ _ _ _ => (pv 16))) (pss_cons (ps_set (i := 13) scPF.nd rfl (.inl rfl) (pe_dget (hu1 hr) (pv 5) (pe_ix ix_tup (pe_ix ix_tup (pv 11) pe_int (fun _ _ => rfl)) pe_int (fun _ _ => rfl)) (fun _ _ => rfl))) (pss_one (ps_asg (pe_call KH.G (hr.mono (by decide)) (by rfl) KH.g KH.F.kp KH.b .nil pass0 (pa_cons (pv 0) (pa_cons (pv 2) (pa_cons (pv 11) pa_nil)))) (pg_sub (pv 13) (pe_bm PySem.F.plainAttrs_list PySem.F.slot_list_index PySem.F.type_list_index mt_index (pv 12) (pa_cons (pe_ix ix_tup (pe_ix ix_tup (pv 11) pe_int (fun _ _ => rfl)) pe_int (fun _ _ => rfl)) pa_nil)) set_list))))) pss_nil))) (pss_cons (ps_set (i := 14) scPF.nd rfl (.inl rfl) (pe_call KL.G (hr.mono (by decide)) (by rfl) KL.g KL.F.kp KL.b .nil pass0 (pa_cons (pe_ix ix_tup (pv 3) (pv 4) (fun _ _ => rfl)) (pa_cons (pe_call KA.G (hr.mono (by decide)) (by rfl) KA.g KA.F.kp KA.b .nil pass0 (pa_cons (pv 2) (pa_cons (pv 11) (pa_cons (pv 5) (pa_cons (pv 7) pa_nil))))) pa_nil)))) (pss_cons (ps_if (pt_cmpR op_in_seq (pv 14) (pe_tup (pa_cons pe_str (pa_cons pe_str pa_nil))) (by rfl)) (pss_one ps_break) pss_nil) (pss_one (ps_set (i := 4) scPF.nd rfl (.inl rfl) (pe_call KI.G (hr.mono (by decide)) (by rfl) KI.g KI.F.kp KI.b .nil pass0 (pa_cons (pv 3) (pa_cons (pv 14) pa_nil))))))))))) (pss_cons (ps_set (i := 15) scPF.nd rfl (.inl rfl) (pe_tup pa_nil)) (pss_cons (ps_for PassesOwn.never rfl (pi_list (pv 6)) (pg_name (i := 10) scPF.nd rfl (.inl rfl)) (pss_one (ps_set (i := 15) scPF.nd rfl (.inl rfl) (pe_op op_catB (pv 15) (pe_call KWr.G (hr.mono (by decide)) (by rfl) KWr.g KWr.F.kp KWr.b .nil pass0 (pa_cons (pe_call KF.G (hr.mono (by decide)) (by rfl) KF.g KF.F.kp KF.b .nil pass0 (pa_cons (pv 2) (pa_cons (pv 10) pa_nil))) (pa_cons (pe_dget (hu1 hr) (pv 5) (pv 10) (fun _ _ => rfl)) pa_nil))))))) (pss_cons (ps_if (pt_cmpR op_eq (pe_call Z.GD (hr.mono (by decide)) (by rfl) Z.gD Z.FD.kp Z.bD .nil pass0 (pa_cons (pv 0) (pa_cons pe_int pa_nil))) pe_int (nomark _)) (pss_one (ps_ret (pe_tup (pa_cons (pv 7) (pa_cons (pe_slice sl_tupA (pv 15) po_none (po_some (pe_call Z.GD (hr.mono (by decide)) (by rfl) Z.gD Z.FD.kp Z.bD .nil pass0 (pa_cons (pv 0) (pa_cons (pe_op op_add (pe_callB call_len_seq (by rfl) B.len PySem.boot_len (pa_cons (pv 15) pa_nil)) pe_int) pa_nil))))) pa_nil))))) pss_nil) (pss_one (ps_ret (pe_tup (pa_cons (pv 7) (pa_cons (pe_op op_catB (pv 15) (pe_call KB.G (hr.mono (by decide)) (by rfl) KB.g KB.F.kp KB.b .nil pass0 (pa_cons (pv 0) (pa_cons (pe_call Z.GO (hr.mono (by decide)) (by rfl) Z.gO Z.FO.kp Z.bO .nil pass0 (pa_cons (pv 0) (pa_cons (pe_lst (pa_cons pe_int (pa_cons pe_int (pa_cons pe_int (pa_cons pe_int (pa_cons pe_int (pa_cons pe_int (pa_cons pe_int (pa_cons pe_int (pa_cons (pe_op op_sub pe_int (pe_callB call_len_seq (by rfl) B.len PySem.boot_len (pa_cons (pv 15) pa_nil))) pa_nil)))))))))) pa_nil))) pa_nil)))) pa_nil))))))))))), ?_⟩
    obtain ⟨va, hv, sa, sxs, ov, rfl, hva, dhv, hsa, hsd, _⟩ := dp_fr dv
    have sl := dpAll_len hsd
    rw [List.length_map] at sl
    have s8 := fok.s8
    have hok := fok.hs
    refine ⟨_, rfl, va, _, 0, _, rfl, rfl, hva, atI_nat (j := 0) rfl, _, rfl, va, _, 1, _, rfl, rfl, hva, atI_nat (j := 1) rfl, _, _, rfl, ?_⟩
    refine fun q hq => ⟨Nat.zero_le _, fun ll hll => ⟨_, rfl, b, 256, o, m, c, rfl, ?_, ho, by decide, by decide, fun H3 r3 o3 m3 c3 e3 hb3 ho3 r30 r31 => ⟨by show 4 ≤ sizeLine; decide, fun tp htp => ⟨tp, _, rfl, SqT.of upd_same, rfl, _, _, rfl, _, _, rfl, _, _, rfl, _, _, rfl, rfl, ?_⟩⟩⟩⟩
    · exact same_new hll _ _ (same_new hq _ _ hb)
    obtain ⟨fi, rfl⟩ := Int.eq_ofNat_of_zero_le r30
    have t1 := same_new (o := .dK []) hq
    have t2 := same_new (o := .lst []) hll
    have t3 := same_new (o := .tup [.int 0, .ref q, .ref ll, .int (fi : Int)]) htp
    have ll0 : H ll = none := t1.free hll
    have qb : q ≠ b := (ne_of_none hb hq).symm
    have llb : ll ≠ b := (ne_of_none (t1 _ _ hb) hll).symm
    have x0 : Exb b H (upd H3 tp (.tup [.int 0, .ref q, .ref ll, .int (fi : Int)])) := ((Exb.of (t1.trans t2)).trans e3).trans (Exb.of t3)
    have J0 : Jr b H (upd H3 tp (.tup [.int 0, .ref q, .ref ll, .int (fi : Int)])) := ⟨x0, o3, m3, c3, t3 _ _ hb3, ho3⟩
    have q3 := t3 _ _ (e3 _ _ qb (t2 _ _ (upd_same (H := H) (o := .dK []))))
    have l3 := t3 _ _ (e3 _ _ llb (upd_same (H := upd H q (.dK [])) (o := .lst [])))
    have G0 : PV K f H (upd H3 tp (.tup [.int 0, .ref q, .ref ll, .int (fi : Int)])) b ll q 0 [] s0 r0 [] (fun _ => none) fi :=
      ⟨es0, Nat.le_refl _, J0, l3, ⟨[], fun _ => none, q3, Nat.le_refl _, fun _ => rfl, fun _ _ => rfl, (fun z a e => nomatch e), fun z y a e => nomatch e⟩, (fun h _ ws e => nomatch e), List.nodup_nil, (fun z hz => nomatch hz), (fun z hz => nomatch hz), (fun z hz => nomatch hz), by omega⟩
    have hsaE : ∀ {H' : Hp}, Exb b H H' → SqT K H' sa sxs := fun e => sqExb hb e hsa
    have dhvE : ∀ {H' : Hp}, Exb b H H' → Dp K H' hv (encHs f.hs) := fun e => dpExb hb e (noL_encHs f.hs) dhv
    refine ⟨fun σ' H' => ∃ (zs : List Str) (hl : Hld) (first : Nat) (v4 v8 v9 v10 v11 v12 v13 v14 v15 : Option V), σ' = [some (.ref b), some (.ref va), some hv, some (.ref sa), v4, some (.ref q), some (.ref ll), some (.int (first : Int)), v8, v9, v10, v11, v12, v13, v14, v15, none, none] ∧ Jr b H H' ∧ H' ll = some (.lst (zs.map V.str)) ∧
        HeldL K H H' b ll q 8 hl ∧ FitsW f.hs hl ∧ zs.Nodup ∧ (∀ z ∈ zs, ∃ h ∈ f.hs, h.1 = z) ∧ (∀ z ∈ zs, ∃ ws, hl z = some ws) ∧ first < 256, ?_, ?_⟩
    · refine ⟨_, rfl, sa, _, rfl, .inr (hsaE x0), _, rfl, by omega, by omega, ?_⟩
      rw [Int.toNat_natCast]
      refine for_range (lo := 0) (n := sxs.length) (fun i σ H' => ∃ (pre : List Sta) (s : Sta) (post : List Sta) (zs : List Str) (hl : Hld) (first : Nat) (v8 v9 v10 v11 v12 v13 v14 v15 : Option V), σ = [some (.ref b), some (.ref va), some hv, some (.ref sa), some (.int (pre.length : Int)), some (.ref q), some (.ref ll), some (.int (first : Int)), v8, v9, v10, v11, v12, v13, v14, v15, none, none] ∧ PV K f H H' b ll q i pre s post zs hl first)
        ⟨[], s0, r0, [], fun _ => none, fi, _, _, _, _, _, _, _, _, rfl, G0⟩ ?_ ?_
      · rintro i σ H1 hi ⟨pre, s, post, zs, hl, first, v8, v9, v10, v11, v12, v13, v14, v15, rfl, G⟩
        have sts : StsOk f.hs (s :: post) := sts_suffix (p := pre) (by rw [← G.e]; exact fok.ss)
        have ok := sts.2
        have i8 : i < 8 := by omega
        obtain ⟨x, hx, dx⟩ : ∃ x, sxs[pre.length]? = some x ∧ Dp K H x (encS s) := dpAll_get hsd (by rw [List.getElem?_map, G.e, List.getElem?_append_right (Nat.le_refl _), Nat.sub_self]; rfl)
        obtain ⟨ta, nv, rfl, hta, dnv⟩ := dp_sta dx
        have dnvE : ∀ {H' : Hp}, Exb b H H' → Dp K H' nv (encN s.nx) := fun e => dpExb hb e (noL_encN s.nx) dnv
        have x1 := G.j.e
        obtain ⟨o1, m1, c1, hb1, ho1⟩ := G.j.at_
        refine ⟨_, rfl, _, rfl, sa, _, _, _, rfl, rfl, hsaE x1, atI_nat hx, ta, _, rfl, sqExb hb x1 hta, rfl, _, _, rfl, _, _, rfl, _, _, rfl, rfl, ?_⟩
        have zs6 : zs.length ≤ 6 := by
          refine Nat.le_of_not_lt fun lt => ?_
          obtain ⟨z, z1, z2⟩ := pigeon zs (f.hs.map (·.1)) G.nd (by rw [List.length_map]; have := hok.len; omega)
          obtain ⟨h, h1, h2⟩ := G.hd z z1
          exact z2 (List.mem_map.mpr ⟨h, h1, h2⟩)
        have mtA : ∀ z ∈ zs, ∀ a ∈ aimsN s.nx, ¬ Met post a (.rd z) := fun z hz a ha mm => G.mt z hz (.inl ⟨rfl, .inr ⟨a, ha, mm⟩⟩)
        refine ⟨fun σ' H' => ∃ (zs' : List Str) (hl' : Hld), σ' = [some (.ref b), some (.ref va), some hv, some (.ref sa), some (.int (pre.length : Int)), some (.ref q), some (.ref ll), some (.int (first : Int)), some (.int ((0 : Int) + (i : Nat))), some (.str s.nm), some (optV s.hd), some nv, v12, v13, v14, v15, none, none] ∧ Jr b H H' ∧
            H' ll = some (.lst (zs'.map V.str)) ∧ HeldL K H H' b ll q (i + 1) hl' ∧ FitsW f.hs hl' ∧ LineOk f.hs s post zs' hl', ?_, ?_⟩
        · refine ⟨_, rfl, rfl, _, rfl, ?_⟩
          cases e : s.hd with
          | none =>
            show if (!decide ((V.non) = V.non)) = true then _ else _
            rw [nonF]
            exact iteF ⟨zs, hl, rfl, G.j, G.hl_, G.hh.mono (by omega), G.ft, ⟨G.nd, G.hd, G.he, mtA⟩⟩
          | some z =>
            obtain ⟨h, hm, rfl⟩ := List.mem_map.mp (ok.hd z e)
            have fo := hok.fo h hm
            show if (!decide (V.str h.1 = V.non)) = true then _ else _
            rw [strT]
            refine iteT ⟨_, rfl, _, rfl, _, rfl, hv, f.hs, h, rfl, dhvE x1, hok, hm, fun H4 u4 s4 d4 => ⟨b, u4, h.2, o1, m1, c1, rfl, s4 _ _ hb1, ho1, d4, fo.l2, fo.wd, fun H5 u5 ns j5 d5 fit5 => ?_⟩⟩
            obtain ⟨ta5, xs5, rfl, g1, g2⟩ := dp_tup d5
            obtain rfl := dp_vN_inv g2
            refine ⟨ta5, _, rfl, .inr g1, fun la hla => ?_⟩
            have x15 : Exb b H1 H5 := (Exb.of s4).trans j5.e
            obtain ⟨o5, m5, c5, hb5, ho5⟩ := j5.at_
            have hh5 := G.hh.ex (.inl rfl) hb1 x15
            have ll5 := x15 _ _ llb G.hl_
            have s6 := same_new (o := .lst (vN ns)) hla
            have x5 : Exb b H H5 := x1.trans x15
            have lab : la ≠ b := (ne_of_none hb5 hla).symm
            have lall : la ≠ ll := (ne_of_none ll5 hla).symm
            have la0 : H la = none := x5.fresh lab hla
            obtain ⟨kvs, hq6, lq, hh6⟩ := hh5.put (z := h.1) s6 hla upd_same lab lall la0
            obtain ⟨H7, eH7⟩ : ∃ H7, H7 = upd (upd H5 la (.lst (vN ns))) q (.dK (putK kvs (.inr h.1) (.ref la))) := ⟨_, rfl⟩
            have ll6 := s6 _ _ ll5
            have ll7 : H7 ll = some (.lst (zs.map V.str)) := by
              rw [eH7, upd_ne (fun z => by rw [z, hq6] at ll6; cases ll6)]
              exact ll6
            have j7 : Jr b H H7 := by
              rw [eH7]
              exact Jr.put ((⟨x5, o5, m5, c5, hb5, ho5⟩ : Jr b H H5).same s6) hq qb
            rw [← eH7] at hh6
            refine ⟨_, rfl, _, rfl, q, _, rfl, DPut.k (k := .inr h.1) hq6 (Nat.lt_of_le_of_lt lq (small1000 (by omega))), ?_⟩
            rw [← eH7]
            refine ⟨_, rfl, .inl ⟨rfl, _, SqL.of ll7⟩, _, rfl, ll, _, _, rfl, rfl, ll7, by rw [List.length_map]; exact small1000 (by omega), ?_⟩
            have hnew : h.1 ∉ zs := fun hz => G.mt _ hz (.inl ⟨rfl, .inl (List.mem_append_left _ (by rw [e]; exact List.mem_cons_self))⟩)
            refine ⟨zs ++ [h.1], hput hl h.1 ns, rfl, j7.put ll0 llb, by rw [List.map_append]; exact upd_same, hh6.ex (.inr rfl) ll7 Exb.put, fitsW_put hok G.ft hm fit5, ⟨?_, fun z hz => ?_, fun z hz => ?_, fun z hz a ha => ?_⟩⟩
            · rw [List.nodup_append]
              refine ⟨G.nd, by simp, fun y hy w hw => ?_⟩
              simp at hw
              subst hw
              exact fun e => hnew (e ▸ hy)
            · rcases List.mem_append.mp hz with hz | hz
              · exact G.hd z hz
              · exact ⟨h, hm, (List.mem_singleton.mp hz).symm⟩
            · unfold hput
              rcases List.mem_append.mp hz with hz | hz
              · by_cases c : z = h.1
                · rw [if_pos c]
                  exact ⟨ns, rfl⟩
                · rw [if_neg c]
                  exact G.he z hz
              · rw [if_pos (List.mem_singleton.mp hz)]
                exact ⟨ns, rfl⟩
            · rcases List.mem_append.mp hz with hz | hz
              · exact mtA z hz a ha
              · rw [List.mem_singleton.mp hz]
                exact ok.tw _ (List.mem_append_left _ (by rw [e]; exact List.mem_cons_self)) a ha
        · rintro σ' H2 ⟨zs, hl, rfl, j2, ll2, hh2, ft2, ln2⟩
          have x2 := j2.e
          obtain ⟨o2, m2, c2, hb2, ho2⟩ := j2.at_
          refine ⟨fun σ' H' => ∃ (hl' : Hld) (first' : Nat) (v12 v13 : Option V), σ' = [some (.ref b), some (.ref va), some hv, some (.ref sa), some (.int (pre.length : Int)), some (.ref q), some (.ref ll), some (.int (first' : Int)), some (.int ((0 : Int) + (i : Nat))), some (.str s.nm), some (optV s.hd), some nv, v12, v13, v14, v15, none, none] ∧ Jr b H H' ∧
              H' ll = some (.lst (zs.map V.str)) ∧ HeldL K H H' b ll q (i + 1) hl' ∧ FitsW f.hs hl' ∧ LineOk f.hs s post zs hl' ∧ first' < 256, ?_, ?_⟩
          · have noBy : ∀ t : Str, decide (V.str t = V.str "by") = false → (∃ a xs, nv = .ref a ∧ SqT K H2 a (.str t :: xs)) → True := fun _ _ _ => True.intro
            have dn2 := dnvE x2
            have same2 : ∃ (hl' : Hld) (first' : Nat) (v12' v13' : Option V), [some (.ref b), some (.ref va), some hv, some (.ref sa), some (.int (pre.length : Int)), some (.ref q), some (.ref ll), some (.int (first : Int)), some (.int ((0 : Int) + (i : Nat))), some (.str s.nm), some (optV s.hd), some nv, v12, v13, v14, v15, none, none] = [some (.ref b), some (.ref va), some hv, some (.ref sa), some (.int (pre.length : Int)), some (.ref q), some (.ref ll), some (.int (first' : Int)), some (.int ((0 : Int) + (i : Nat))), some (.str s.nm), some (optV s.hd), some nv, v12', v13', v14, v15, none, none] ∧ Jr b H H2 ∧
              H2 ll = some (.lst (zs.map V.str)) ∧ HeldL K H H2 b ll q (i + 1) hl' ∧ FitsW f.hs hl' ∧ LineOk f.hs s post zs hl' ∧ first' < 256 := ⟨hl, first, v12, v13, rfl, j2, ll2, hh2, ft2, ln2, G.f1⟩
            cases e : s.nx with
            | acc =>
              rw [e] at dn2
              obtain ⟨na, rfl, hna⟩ := dp_n1 dn2
              refine ⟨_, rfl, na, _, 0, _, rfl, rfl, hna, atI_nat (j := 0) rfl, rfl, _, rfl, ?_⟩
              rw [by_no1]
              refine iteF (iteF ⟨_, rfl, na, _, 0, _, rfl, rfl, hna, atI_nat (j := 0) rfl, rfl, _, rfl, ?_⟩)
              rw [by_no1]
              exact iteF (iteF same2)
            | rej =>
              rw [e] at dn2
              obtain ⟨na, rfl, hna⟩ := dp_n1 dn2
              refine ⟨_, rfl, na, _, 0, _, rfl, rfl, hna, atI_nat (j := 0) rfl, rfl, _, rfl, ?_⟩
              rw [by_no2]
              refine iteF (iteF ⟨_, rfl, na, _, 0, _, rfl, rfl, hna, atI_nat (j := 0) rfl, rfl, _, rfl, ?_⟩)
              rw [by_no2]
              exact iteF (iteF same2)
            | go z =>
              rw [e] at dn2
              obtain ⟨na, rfl, hna⟩ := dp_n2 dn2
              refine ⟨_, rfl, na, _, 0, _, rfl, rfl, hna, atI_nat (j := 0) rfl, rfl, _, rfl, ?_⟩
              rw [by_no3]
              refine iteF (iteF ⟨_, rfl, na, _, 0, _, rfl, rfl, hna, atI_nat (j := 0) rfl, rfl, _, rfl, ?_⟩)
              rw [by_no3]
              exact iteF (iteF same2)
            | by_ pl cs z =>
              have okn := ok.nx
              rw [e] at dn2 okn
              obtain ⟨na, up, uc, cx, rfl, hna, hp, hc, hd⟩ := dp_by dn2
              cases okn with
              | @by_ _ n _ _ pw l8 okc zin =>
                have hcs : ∀ c ∈ cs, c.1 < 2 ^ n ∧ c.2.1 < 2 ^ n ∧ Lay (.str c.2.2) := fun c hc => ⟨(okc c hc).w, (okc c hc).m, by
                  rcases List.mem_append.mp (okc c hc).g with g | g
                  · exact lay_name (sts_names sts.1 _ g)
                  · exact lay_ends _ g⟩
                refine ⟨_, rfl, na, _, 0, _, rfl, rfl, hna, atI_nat (j := 0) rfl, rfl, _, rfl, ?_⟩
                rw [by_yes]
                refine iteT ?_
                cases pw with
                | inp =>
                  obtain ⟨pa, rfl, hpa⟩ := dp_inp hp
                  refine ⟨_, rfl, na, _, 1, _, rfl, rfl, hna, atI_nat (j := 1) rfl, pa, _, 0, _, rfl, rfl, hpa, atI_nat (j := 0) rfl, rfl, _, rfl, ?_⟩
                  rw [locTT]
                  refine iteT ⟨_, rfl, _, rfl, _, rfl, b, hv, .ref na, f.hs, .inp, cs, z, 8, o2, m2, c2, rfl, hb2, ho2, dhvE x2, hok, dn2, .inp, hcs, l8, fun H3 r j3 hr => ?_⟩
                  exact ⟨hl, r, v12, v13, rfl, Jr.trans x2 j3, j3.e _ _ llb ll2, hh2.ex (.inl rfl) hb2 j3.e, ft2, ln2, by omega⟩
                | @fld h fl g1 g2 =>
                  obtain ⟨pa, rfl, hpa⟩ := dp_fld hp
                  refine ⟨_, rfl, na, _, 1, _, rfl, rfl, hna, atI_nat (j := 1) rfl, pa, _, 0, _, rfl, rfl, hpa, atI_nat (j := 0) rfl, rfl, _, rfl, ?_⟩
                  rw [locFT]
                  refine iteF ⟨_, rfl, na, _, 0, _, rfl, rfl, hna, atI_nat (j := 0) rfl, rfl, _, rfl, ?_⟩
                  rw [by_yes]
                  obtain ⟨kvs0, hq2, hv2⟩ := hh2.ok
                  refine iteT ⟨_, rfl, na, _, 1, _, rfl, rfl, hna, atI_nat (j := 1) rfl, pa, _, 1, _, rfl, rfl, hpa, atI_nat (j := 1) rfl, _, rfl, q, _, rfl, DGet.k (k := .inr h.1) hq2, _, rfl, ?_⟩
                  rcases hv2 h.1 with ⟨w1, w2⟩ | ⟨ws, uw, w1, w2, w3⟩
                  · rw [w2]
                    exact iteF same2
                  · rw [w2]
                    obtain ⟨kvs, oa, hqo, vo, oab, oall, oa0, hoa, hmut⟩ := hh2.at w1
                    have fo := hok.fo h g1
                    have l12 := fo.l2
                    refine iteT ?_
                    refine asgFirstE (zs := h.2.map (·.1)) (rowsF h.2) (by rw [List.length_map]; omega) (fun R r => ?_) (fun _ _ => rfl) (fun _ _ => rfl) (fun D H3 s3 hD f3 => ?_)
                    · refine ⟨_, rfl, _, rfl, na, _, 1, _, rfl, rfl, hna, atI_nat (j := 1) rfl, pa, _, 1, _, rfl, rfl, hpa, atI_nat (j := 1) rfl, hv, f.hs, h, rfl, dhvE x2, hok, g1, fun H4 u s4 d4 => ?_⟩
                      obtain ⟨fa, fxs, rfl, y1, y2⟩ := dp_tup d4
                      exact r fa fxs H4 s4 y1 y2
                    · have hb3' := s3 _ _ hb2
                      have nD : D ≠ b := (ne_of_none hb2 hD).symm
                      refine ⟨_, rfl, _, rfl, na, _, 1, _, rfl, rfl, sameT s3 hna, atI_nat (j := 1) rfl, pa, _, 1, _, rfl, rfl, sameT s3 hpa, atI_nat (j := 1) rfl, q, .ref oa, rfl, (by rw [← vo]; exact DGet.k (k := .inr h.1) (s3 _ _ hqo)), ?_⟩
                      refine ⟨_, rfl, _, rfl, _, rfl, b, hv, .ref na, f.hs, .fld h.1 fl.1, cs, z, fl.2, o2, m2, c2, rfl, hb3', ho2, dhvE (x2.trans (Exb.of s3)), hok, dpSame s3 dn2, .fld g1 g2, hcs, l8, fun H4 r j4 hr => ?_⟩
                      have x34 := j4.e
                      have x24 : Exb b H2 H4 := (Exb.of s3).trans x34
                      have x4 : Exb b H H4 := x2.trans x24
                      have f4 := x34 _ _ nD f3
                      have hna4 := sqExb hb3' x34 (sameT s3 hna)
                      have hpa4 := sqExb hb3' x34 (sameT s3 hpa)
                      have fm : fl.1 ∈ h.2.map (·.1) := List.mem_map.mpr ⟨fl, g2, rfl⟩
                      obtain ⟨jx, ej⟩ : ∃ jx, jx = (h.2.map (·.1)).idxOf fl.1 := ⟨_, rfl⟩
                      have ia := idx_at fo.nd g2
                      rw [← ej] at ia
                      have fitw := ft2 h g1 ws w1
                      have wl := fit_length fitw
                      have jl : jx < ws.length := by
                        have := (List.getElem?_eq_some_iff.mp ia).1
                        rw [wl]
                        unfold wds
                        rw [List.length_map]
                        exact this
                      have hoa4 := x24 _ _ oab hoa
                      refine ⟨_, rfl, _, rfl, .inl ⟨rfl, _, SqL.of f4⟩, _, rfl, na, _, 1, _, rfl, rfl, hna4, atI_nat (j := 1) rfl, pa, _, 2, _, rfl, rfl, hpa4, atI_nat (j := 2) rfl, D, (h.2.map (·.1)).map V.str, .str fl.1, jx, .str fl.1, rfl, rfl, SqL.of f4, rfl, flatS _, ?_, ?_, ?_, ?_⟩
                      · rw [List.getElem?_map, List.getElem?_map, ia]
                        rfl
                      · show (fl.1 == fl.1) = true
                        simp
                      · intro mm z' hm hz'
                        rw [List.getElem?_map] at hz'
                        obtain ⟨y, hy, rfl⟩ := Option.map_eq_some_iff.mp hz'
                        show (y == fl.1) = false
                        rw [ej] at hm
                        have := List.not_of_lt_findIdx (p := fun x => x == fl.1) (xs := h.2.map (·.1)) hm
                        have hml := (List.getElem?_eq_some_iff.mp hy).1
                        rw [List.getElem?_eq_getElem hml] at hy
                        injection hy with hy
                        rw [← hy]
                        simpa using this
                      · refine ⟨oa, vN ws, _, jx, rfl, rfl, hoa4, ixN_nat (by rw [vN_len]; exact jl), ?_⟩
                        have evn : (vN ws).set jx (.int (r : Int)) = vN (ws.set jx r) := by
                          unfold vN
                          rw [List.map_set]
                        rw [evn]
                        have hh4 := hh2.ex (.inl rfl) hb2 x24
                        obtain ⟨kvs', oa', hqo', vo', _, _, _, hoa', hmut'⟩ := hh4.at w1
                        have eoa : oa' = oa := by
                          have hqo4 := x24 _ _ qb hqo
                          rw [hqo4] at hqo'
                          injection hqo' with hqo'
                          injection hqo' with hqo'
                          rw [← hqo', vo] at vo'
                          injection vo' with vo'
                          injection vo' with vo'
                          exact vo'.symm
                        rw [eoa] at hmut'
                        have ll4 := x24 _ _ llb ll2
                        refine ⟨hput hl h.1 (ws.set jx r), first, _, _, rfl, Jr.put (Jr.trans (x2.trans (Exb.of s3)) j4) oa0 oab, by rw [upd_ne (Ne.symm oall)]; exact ll4, hmut' _, fitsW_put hok ft2 g1 (fit_set fitw ?_ hr), ⟨ln2.nd, ln2.hd, fun y hy => ?_, ln2.mt⟩, G.f1⟩
                        · unfold wds
                          rw [List.getElem?_map, ia]
                          rfl
                        · unfold hput
                          by_cases c : y = h.1
                          · rw [if_pos c]
                            exact ⟨_, rfl⟩
                          · rw [if_neg c]
                            exact ln2.he y hy
          · rintro σ' H3 ⟨hl', first', v12, v13, rfl, j3, ll3, hh3, ft3, ln3, f13⟩
            have x3 := j3.e
            refine ⟨_, rfl, _, rfl, sa, _, _, _, rfl, rfl, hsaE x3, atI_nat hx, _, rfl, _, rfl, _, rfl, _, rfl, hv, nv, q, f.hs, s.nx, hl', first', rfl, dhvE x3, hok, dnvE x3, asks_ok ok.nx, hh3.ok, ft3.fits, fun H4 s4 => ?_⟩
            refine ⟨_, s, _, rfl, dpSame s4 (dpExb hb x3 (noL_encS s) dx), fun H5 s5 => ?_⟩
            obtain ⟨wd, ewd⟩ : ∃ wd, wd = askedF f.hs s.nx hl' first' := ⟨_, rfl⟩
            rw [← ewd]
            have aimA := leads_aims s.nx wd
            obtain ⟨aim, eaim⟩ : ∃ aim, aim = leadsF s.nx wd := ⟨_, rfl⟩
            rw [← eaim] at aimA ⊢
            have s35 := s4.trans s5
            refine ⟨_, rfl, by show 2 ≤ sizeLine; decide, fun pe hpe => ⟨pe, endsN.map V.str, rfl, .inr (SqT.of upd_same), rfl, rfl, inV (.str aim) (endsN.map V.str), rfl, ?_⟩⟩
            rw [inE]
            have s6 := same_new (o := .tup [.str "accept", .str "refuse"]) hpe
            have s36 := s35.trans s6
            by_cases ae : aim ∈ endsN
            · rw [decide_eq_true ae]
              exact iteT ⟨zs, hl', first', _, _, _, _, _, _, _, _, _, rfl, j3.same s36, s36 _ _ ll3, (hh3.same s36).mono (by omega), ft3, ln3.nd, ln3.hd, ln3.he, f13⟩
            · rw [decide_eq_false ae]
              have ain : aim ∈ post.map (·.nm) := by
                rcases leads_in ok.nx wd with h1 | h1
                · rw [← eaim] at h1
                  rcases List.mem_append.mp h1 with h1 | h1
                  · exact h1
                  · exact absurd h1 ae
                · rw [← eaim] at h1
                  exact absurd h1 ae
              obtain ⟨s2, hs2, en2⟩ := List.mem_map.mp ain
              obtain ⟨p2, r2, epost⟩ := List.append_of_mem hs2
              subst en2
              have nd : ((pre ++ s :: (p2 ++ s2 :: r2)).map (·.nm)).Nodup := by
                rw [← epost, ← G.e]
                exact sts_nodup fok.ss
              have eall : pre ++ s :: (p2 ++ s2 :: r2) = (pre ++ s :: p2) ++ s2 :: r2 := by simp
              have new2 : s2.nm ∉ (pre ++ s :: p2).map (·.nm) := by
                rw [eall, List.map_append, List.map_cons, List.nodup_append] at nd
                exact fun hin => nd.2.2 _ hin _ List.mem_cons_self rfl
              have ess : f.ss = (pre ++ s :: p2) ++ s2 :: r2 := by
                rw [← eall, ← epost]
                exact G.e
              have np2 : s2.nm ∉ p2.map (·.nm) := fun hin => new2 (by
                rw [List.map_append]
                exact List.mem_append_right _ (List.mem_cons_of_mem _ hin))
              refine iteF ⟨_, rfl, _, rfl, .ref sa, pre ++ s :: p2, r2, s2, rfl, ?_, new2, by rw [← ess]; exact s8, fun H7 s7 => ?_⟩
              · rw [← ess]
                exact .tup (sameT s36 (hsaE x3)) (dpSameAll s36 (dpExbAll hb x3 (noL_mapS f.ss) hsd))
              · have S := s36.trans s7
                refine ⟨pre ++ s :: p2, s2, r2, zs, hl', first', _, _, _, _, _, _, _, _, rfl, ⟨ess, ?_, j3.same S, S _ _ ll3, hh3.same S, ft3, ln3.nd, ln3.hd, ln3.he, fun z hz mm => ?_, f13⟩⟩
                · rw [List.length_append, List.length_cons]
                  have := G.li
                  omega
                · refine ln3.mt z hz _ aimA ?_
                  rw [epost]
                  exact met_skip np2 mm
      · rintro σ H1 ⟨pre, s, post, zs, hl, first, v8, v9, v10, v11, v12, v13, v14, v15, rfl, G⟩
        exfalso
        have h1 := G.li
        have h2 := congrArg List.length G.e
        rw [List.length_append, List.length_cons] at h2
        omega
    · rintro σ' H1 ⟨zs, hl, first, v4, v8, v9, v10, v11, v12, v13, v14, v15, rfl, j1, ll1, hh1, ft1, nd1, hd1, he1, f1⟩
      obtain ⟨e1, o1, m1, c1, hb1, ho1⟩ := j1
      have zs6 : zs.length ≤ 6 := by
        refine Nat.le_of_not_lt fun lt => ?_
        obtain ⟨z, z1, z2⟩ := pigeon zs (f.hs.map (·.1)) nd1 (by rw [List.length_map]; have := hok.len; omega)
        obtain ⟨h, h1, h2⟩ := hd1 z z1
        exact z2 (List.mem_map.mpr ⟨h, h1, h2⟩)
      refine ⟨Nat.zero_le _, fun p0 hp0 => ?_⟩
      have s0 := same_new (o := .tup []) hp0
      refine ⟨_, rfl, ll, rfl, ⟨_, SqL.of (s0 _ _ ll1)⟩, for_list (K := K) (a := ll) (xs := zs.map V.str) (fun j σ H' => ∃ (fb : Addr) (bs : List Nat) (v10 : Option V), σ = [some (.ref b), some (.ref va), some hv, some (.ref sa), v4, some (.ref q), some (.ref ll), some (.int (first : Int)), v8, v9, v10, v11, v12, v13, v14, some (.ref fb), none, none] ∧ Same H1 H' ∧ SqT K H' fb (vN bs) ∧ bs.length ≤ 16 * j ∧ ∀ x ∈ bs, x < 256)
        ⟨p0, [], _, rfl, s0, SqT.of upd_same, Nat.zero_le _, fun x hx => nomatch hx⟩ (fun j σ H' _ ⟨_, _, _, _, q, _⟩ => SqL.of (q _ _ ll1)) ?_ ?_⟩
      · rintro j x σ H2 hj ⟨fb, bs, v10, rfl, s2, hfb, lbs, lt⟩
        rw [List.getElem?_map] at hj
        obtain ⟨z, hz, rfl⟩ := Option.map_eq_some_iff.mp hj
        have j6 : j < 6 := by
          have := (List.getElem?_eq_some_iff.mp hz).1
          omega
        obtain ⟨h, hm, rfl⟩ := hd1 z (List.mem_of_getElem? hz)
        obtain ⟨ws, hw⟩ := he1 _ (List.mem_of_getElem? hz)
        have fo := hok.fo h hm
        have m8 := fo.m8
        have le16 := fo.le
        rw [bits_wds] at m8 le16
        have fitw := ft1 h hm ws hw
        have wl := fit_length fitw
        unfold wds at wl
        rw [List.length_map] at wl
        have x2 : Exb b H H2 := e1.trans (Exb.of s2)
        refine ⟨_, rfl, _, rfl, _, rfl, hv, f.hs, h, rfl, dhvE x2, hok, hm, fun H3 u3 s3 d3 => ?_⟩
        obtain ⟨kvs, a, hq3, vq, _, _, _, ha3, _⟩ := (hh1.same (s2.trans s3)).at hw
        refine ⟨_, rfl, _, rfl, q, .ref a, rfl, (by rw [← vq]; exact DGet.k (k := .inr h.1) hq3), ?_⟩
        refine ⟨u3, a, h.2, ws, (wds h.2).sum / 8, rfl, d3, ha3, fo.l2, wl, by omega, by omega, fun H4 p s4 hp => ?_⟩
        refine ⟨fb, p, _, _, rfl, rfl, sameT (s3.trans s4) hfb, SqT.of hp, ?_, fun p2 H5 s5 h5 => ?_⟩
        · rw [vN_len, vN_len, bytesOf_len]
          exact Nat.le_of_lt (small1000 (by omega))
        · refine ⟨p2, bs ++ bytesOf ((wds h.2).sum / 8) (wbits (wds h.2) ws), _, rfl, s2.trans (s3.trans (s4.trans s5)), ?_, ?_, fun y hy => ?_⟩
          · have : vN (bs ++ bytesOf ((wds h.2).sum / 8) (wbits (wds h.2) ws)) = vN bs ++ vN (bytesOf ((wds h.2).sum / 8) (wbits (wds h.2) ws)) := by
              unfold vN
              rw [List.map_append]
            rw [this]
            exact h5
          · rw [List.length_append, bytesOf_len]
            omega
          · rcases List.mem_append.mp hy with hy | hy
            · exact lt y hy
            · exact bytesOf_lt (wbits_bits _ _) y hy
      · rintro σ H2 ⟨fb, bs, v10, rfl, s2, hfb, lbs, lt⟩
        rw [List.length_map] at lbs
        have hb2 := s2 _ _ hb1
        have x2 : Exb b H H2 := e1.trans (Exb.of s2)
        refine ⟨_, rfl, b, 5, o1, m1, c1, rfl, hb2, ho1, by decide, by decide, fun H3 r3 o3 m3 c3 e3 hb3 ho3 r30 r31 => ⟨rfl, _, rfl, ite2 (fun _ => ?_) (fun _ => ?_)⟩⟩
        · have hfb3 := sqExb hb2 e3 hfb
          refine ⟨_, rfl, _, rfl, _, rfl, _, rfl, fb, _, rfl, .inr hfb3, _, _, rfl, rfl, b, _, o3, m3, c3, rfl, hb3, ho3, by omega, by rw [vN_len]; omega, fun H4 r4 o4 m4 c4 e4 hb4 ho4 r40 r41 => ⟨_, rfl, ?_⟩⟩
          obtain ⟨rn, rfl⟩ := Int.eq_ofNat_of_zero_le r40
          rw [vN_len] at r41
          refine slA (sqExb hb3 e4 hfb3) (fun p5 H5 s5 h5 => ?_)
          rw [cut_upto (by omega)] at h5
          refine ⟨by show 2 ≤ sizeLine; decide, fun t ht => ?_⟩
          have s6 := same_new (o := .tup [.int (first : Int), .ref p5]) ht
          have lt1 := List.length_take_le rn bs
          refine k _ _ first (bs.take rn) ((⟨(x2.trans e3).trans e4, o4, m4, c4, hb4, ho4⟩ : Jr b H H4).same (s5.trans s6)) (.tup (SqT.of upd_same) (.cons (.int _) (.cons (.tup (sameT s6 h5) (dp_vN _)) .nil))) f1 (by omega) fun y hy => lt y (List.mem_of_mem_take hy)
        · have hfb3 := sqExb hb2 e3 hfb
          refine ⟨_, rfl, _, rfl, _, rfl, _, rfl, _, rfl, fb, _, rfl, .inr hfb3, _, _, rfl, rfl, by show 9 ≤ sizeLine; decide, fun p hp => ?_⟩
          have np : p ≠ b := (ne_of_none hb3 hp).symm
          refine ⟨b, .ref p, o3, m3, c3, rfl, same_new hp _ _ hb3, ho3, .inr (.inr ⟨p, _, rfl, np, upd_same, by show 0 < 9; decide, by show 9 < 100000; decide, fun H4 w o4 m4 c4 e4 hb4 ho4 hw => ?_⟩)⟩
          obtain ⟨n, rfl, ln⟩ : ∃ n : Nat, w = .int (n : Int) ∧ n + bs.length ≤ 128 := by
            rw [vN_len] at hw
            simp only [List.mem_cons, List.not_mem_nil, or_false] at hw
            rcases hw with rfl | rfl | rfl | rfl | rfl | rfl | rfl | rfl | rfl
            · exact ⟨0, rfl, by omega⟩
            · exact ⟨0, rfl, by omega⟩
            · exact ⟨1, rfl, by omega⟩
            · exact ⟨2, rfl, by omega⟩
            · exact ⟨5, rfl, by omega⟩
            · exact ⟨0, rfl, by omega⟩
            · exact ⟨1, rfl, by omega⟩
            · exact ⟨3, rfl, by omega⟩
            · exact ⟨128 - bs.length, by congr 1; omega, by omega⟩
          have x34 : Exb b H3 H4 := (Exb.of (same_new hp)).trans e4
          have hfb4 := sqExb hb3 x34 hfb3
          refine ⟨b, n, o4, m4, c4, rfl, hb4, ho4, by omega, fun H5 u5 ns j5 d5 l5 lt5 => ?_⟩
          obtain ⟨ta5, xs5, rfl, g1, g2⟩ := dp_tup d5
          obtain rfl := dp_vN_inv g2
          refine ⟨fb, ta5, _, _, rfl, rfl, sqExb hb4 j5.e hfb4, g1, ?_, fun p6 H6 s6 h6 => ?_⟩
          · rw [vN_len, vN_len]
            exact Nat.le_of_lt (small1000 (by omega))
          · refine ⟨by show 2 ≤ sizeLine; decide, fun t ht => ?_⟩
            have s7 := same_new (o := .tup [.int (first : Int), .ref p6]) ht
            have ev : vN (bs ++ ns) = vN bs ++ vN ns := by
              unfold vN
              rw [List.map_append]
            rw [← ev] at h6
            refine k _ _ first (bs ++ ns) ((Jr.trans ((x2.trans e3).trans x34) j5).same (s6.trans s7)) (.tup (SqT.of upd_same) (.cons (.int _) (.cons (.tup (sameT s7 h6) (dp_vN _)) .nil))) f1 (by rw [List.length_append]; omega) fun y hy => ?_
            rcases List.mem_append.mp hy with hy | hy
            · exact lt y hy
            · exact lt5 y hy
end
end LJ

namespace LJ
open PySem PySem.Spec PyProof.Rows L2 GuL HG Bt
/-! ### calls by names alone -/
def tCallN0 (m : Nat) (sp : Sp) (gV : List V → List V → List V) (E : XK) (tk : TA) : TE := fun σ H Q => tk σ H fun zs H2 => zs.length = m ∧ sp (gV [] zs) H2 Q E
section
variable {X : Cx} {CX : CXT} {k : Nat} {f : Addr} {fd : FuncData} {ps ks : List Str} {sp : Sp} {E : XK} {x : Str} {p pos : Pos} {kws : List Keyword} {tk : TA} {g : List Value → List Value → List Value} {gV : List V → List V → List V}
theorem pe_callN0 (F : FnOk X.prog X.w X.K X.mg X.base CX k f fd ps sp) (hr : Room k X.A) (hg : Gl X x) (hm : X.mg x = some (.ref f)) (hk : PySem.W.keepIn X.K (.ref f) = true) (hb : KBn X.K fd ps 0 ks g gV) (hx : Passes CX X E)
    (hkw : PK X kws tk) (hall : (backToKw pos (keywordEach kws X.env)).all (·.1.isSome) = true := by rfl) (hks : (backToKw pos (keywordEach kws X.env)).filterMap (·.1) = ks := by rfl)
    (hdb : (x == ("__debug__" : Str)) = false := by decide)
    (hpl : ((backTo pos (starEach [] X.env)).any (·.1) || (backToKw pos (keywordEach kws X.env)).any (·.1.isNone)) = false := by rfl) :
    PE X (.Call (.Name x p) [] kws pos) (tCallN0 ks.length sp gV E tk) := by
  refine ⟨fun pins s σ H Q I h => ?_⟩
  refine wpAny_Call_Name_kw (ld_glob I hg hm ?_ hdb)
  refine PySem.W.callWith_KW0 (h₀ := X.base) I.ok.mod.kin hk hall (thn (hkw.run pos pins s σ H _ I h) fun ws s2 ⟨zs, H2, I2, rz, l2, q2⟩ => ⟨I2.kIn, ?_⟩) hpl
  rw [hks]
  exact run_fnN (us := []) (vs := []) F hr hb hx I2 .nil rz rfl l2 q2
end
theorem valsRev : ∀ {zs : List V} {ws : List Value}, Vals zs ws → Vals zs.reverse ws.reverse
  | _, _, .nil => .nil
  | _, _, .cons a r => by
    rw [List.reverse_cons, List.reverse_cons]
    exact (valsRev r).append (.cons a .nil)
theorem Fun_kbn {K : PySem.W.Frag} {x qual : Str} {st : Stmt} {f : Addr} {fd : FuncData} {ps ks : List Str} (F : Fun K x qual st f fd)
    (h : ∀ (kV doc pm : Value) (an : Option Addr) (cdv ct : Value) (ws : List Value), ws.length = ks.length → bindArgs (PySem.W.fnOf x qual (defArgs st) (defBody st) (defScope st) .none kV doc pm an cdv ct) ⟨[], ks.zip ws⟩ = pure (ps.zip ws.reverse)) : KBn K fd ps 0 ks (fun _ ws => ws.reverse) (fun _ zs => zs.reverse) := by
  obtain ⟨oc, od, kV, doc, pm, an, cdv, ct, osl, rfl, lk, hcd⟩ := F.ex
  refine ⟨fun s us ws _ h0 h1 => ?_, fun _ r => valsRev r⟩
  obtain rfl := List.length_eq_zero_iff.mp h0
  exact .of_eq (h kV doc pm an cdv ct ws h1)
/-! ### data that repr takes -/
structure OkW (d : PyData) (k w : Nat) : Prop where
  sh : d.showable = true
  dp : d.depth ≤ k
  lv : d.leavesShort 13 = true
  wt : d.weight ≤ w
theorem OkW.okd {d : PyData} {k w : Nat} (h : OkW d k w) (hk : k ≤ 40) (hw : w ≤ 2 ^ 20) : Okd d := ⟨h.sh, Nat.le_trans h.dp hk, h.lv, Nat.le_trans h.wt hw⟩
theorem OkW.mono {d : PyData} {k w k' w' : Nat} (h : OkW d k w) (hk : k ≤ k') (hw : w ≤ w') : OkW d k' w' := ⟨h.sh, Nat.le_trans h.dp hk, h.lv, Nat.le_trans h.wt hw⟩
theorem okW_tup {ds : List PyData} {k w : Nat} (h : ∀ d ∈ ds, OkW d k w) : OkW (.tuple ds) (k + 1) (ds.length * (w + 1)) := by
  have key : PyData.showableAll ds = true ∧ PyData.depthAll ds ≤ k ∧ PyData.leavesShortAll 13 ds = true ∧ PyData.weightAll ds ≤ ds.length * (w + 1) := by
    induction ds with
    | nil => exact ⟨rfl, Nat.zero_le _, rfl, Nat.zero_le _⟩
    | cons d ds ih =>
      obtain ⟨i1, i2, i3, i4⟩ := ih fun x hx => h x (List.mem_cons_of_mem _ hx)
      have o := h d List.mem_cons_self
      refine ⟨?_, ?_, ?_, ?_⟩
      · rw [PyData.showableAll, o.sh, i1]
        rfl
      · rw [PyData.depthAll]
        have := o.dp
        omega
      · rw [PyData.leavesShortAll, o.lv, i3]
        rfl
      · rw [PyData.weightAll, List.length_cons, Nat.succ_mul]
        have := o.wt
        omega
  obtain ⟨i1, i2, i3, i4⟩ := key
  exact ⟨by rw [PyData.showable]; exact i1, by rw [PyData.depth]; omega, by rw [PyData.leavesShort]; exact i3, by rw [PyData.weight]; exact i4⟩
theorem okW_non : OkW .none 0 0 := ⟨rfl, Nat.le_refl _, rfl, Nat.le_refl _⟩
theorem okW_nat {n : Nat} (h : n < 2 ^ 32) : OkW (.int (n : Int)) 0 41 := by
  have o := okd_int (r := (n : Int)) (by omega) (by omega)
  refine ⟨o.sh, by simp [PyData.depth], o.lv, ?_⟩
  have l40 : ((n : Int)).natAbs.log2 < 40 := log_small (show ((n : Int)).natAbs < 2 ^ 40 by omega)
  simp only [PyData.weight]
  split <;> omega
theorem okW_ns {ns : List Nat} (h : ∀ n ∈ ns, n < 2 ^ 32) : OkW (encNs ns) 1 (ns.length * 42) := by
  have q := okW_tup (ds := ns.map fun (n : Nat) => PyData.int (n : Int)) (k := 0) (w := 41) (fun d hd => by
    obtain ⟨n, hn, rfl⟩ := List.mem_map.mp hd
    exact okW_nat (h n hn))
  rw [List.length_map] at q
  exact q
theorem okW_str {z : Str} (hl : z.cps.size ≤ 12) (h : ∀ c ∈ z.cps.toList, c < 128) : OkW (.str z) 0 12 := by
  refine ⟨rfl, by simp [PyData.depth], ?_, ?_⟩
  · simp only [PyData.leavesShort, List.all_eq_true, decide_eq_true_eq]
    exact fun c hc => Nat.lt_trans (h c hc) (by decide)
  · simp only [PyData.weight]
    exact hl
theorem okW_name {z : Str} (h : NameOk z) : OkW (.str z) 0 12 := by
  have l := sh_len h.sh
  have hs := sh_signs h.sh
  refine okW_str ?_ (fun c hc => of_decide_eq_true (List.all_eq_true.mp sign_small c (hs c hc)))
  have : z.cps.toList.length = z.cps.size := by simp
  omega
theorem okW_end : ∀ z ∈ endsN, OkW (.str z) 0 12 := by
  intro z hz
  simp only [endsN, List.mem_cons, List.not_mem_nil, or_false] at hz
  rcases hz with rfl | rfl
  · exact okW_str (by decide +kernel) (by decide +kernel)
  · exact okW_str (by decide +kernel) (by decide +kernel)
theorem noDict_all : ∀ {ds : List PyData}, (∀ d ∈ ds, PyData.hasDict d = false) → PyData.hasDictAll ds = false
  | [], _ => rfl
  | d :: ds, h => by
    rw [PyData.hasDictAll, h d List.mem_cons_self, noDict_all fun x hx => h x (List.mem_cons_of_mem _ hx)]
    rfl
theorem noDict_of {d : PyData} (h : NoL d) : PyData.hasDict d = false := by
  induction h with
  | non => rfl
  | bl b => rfl
  | int i => rfl
  | str z => rfl
  | tup _ ih => rw [PyData.hasDict]; exact noDict_all ih
/-! ### what comes of a packet -/
def HW (hl : Hld) : Prop := ∀ z ws, hl z = some ws → ws.length ≤ 12 ∧ ∀ x ∈ ws, x < 2 ^ 32
theorem fit_lt : ∀ {ws ns : List Nat}, (∀ x ∈ ws, x ≤ 32) → Fit ws ns → ∀ n ∈ ns, n < 2 ^ 32
  | [], [], _, .nil, n, hn => nomatch hn
  | v :: _, _ :: _, hw, .cons h r, n, hn => by
    rcases List.mem_cons.mp hn with rfl | hn
    · exact Nat.lt_of_lt_of_le h (Nat.pow_le_pow_right (by decide) (hw v List.mem_cons_self))
    · exact fit_lt (fun x hx => hw x (List.mem_cons_of_mem _ hx)) r n hn
theorem stp_HW {hs : List Hdr} (hok : HeadersOk hs) {bs : List Nat} {first : Nat} {s : Sta} {r : List Sta} (ok : StaOk hs s r) {hl : Hld} {tk : Nat} (h : HW hl) : HW (stp hs bs first s hl tk).1 := by
  unfold stp
  cases e : s.hd with
  | none => exact h
  | some z =>
    obtain ⟨g, hm, rfl⟩ := List.mem_map.mp (ok.hd z e)
    have fo := hok.fo g hm
    dsimp only
    split
    · exact h
    · intro y ws ey
      have ey : hput hl g.1 (readW (wds (fldsOf hs g.1)) (allBits ((bs.drop tk).take (sizeF (fldsOf hs g.1))))) y = some ws := ey
      unfold hput at ey
      split at ey
      · injection ey with ey
        rw [← ey, flds_mem hok hm]
        refine ⟨by rw [readW_len, wds_len]; exact fo.l2, fit_lt (fun x hx => ?_) (readW_fit (allBits_bits _))⟩
        unfold wds at hx
        obtain ⟨fl, hfl, rfl⟩ := List.mem_map.mp hx
        exact (fo.wd fl hfl).2
      · exact h y ws ey
theorem stp_aim {hs : List Hdr} {bs : List Nat} {first : Nat} {s : Sta} {r : List Sta} (ok : StaOk hs s r) {hl : Hld} {tk : Nat} : (stp hs bs first s hl tk).2.2 ∈ r.map (·.nm) ∨ (stp hs bs first s hl tk).2.2 ∈ endsN := by
  have key : ∀ w, leadsF s.nx w ∈ r.map (·.nm) ∨ leadsF s.nx w ∈ endsN := fun w => by
    rcases leads_in ok.nx w with h | h
    · exact List.mem_append.mp h
    · exact .inr h
  unfold stp
  cases e : s.hd with
  | none => exact key _
  | some z =>
    dsimp only
    split
    · exact .inr noRej
    · exact key _
theorem run_HW {hs : List Hdr} (hok : HeadersOk hs) {bs : List Nat} {first : Nat} : ∀ {r : List Sta} {z : Str} {hl : Hld} {tk : Nat}, StsOk hs r → HW hl → HW (runL hs bs first r z hl tk).2.1
  | [], _, _, _, _, h => h
  | s :: r, z, hl, tk, ok, h => by
    rw [runL]
    split
    · exact run_HW hok ok.1 (stp_HW hok ok.2 h)
    · exact run_HW hok ok.1 h
theorem run_names {hs : List Hdr} {bs : List Nat} {first : Nat} : ∀ {r : List Sta} {z : Str} {hl : Hld} {tk : Nat}, StsOk hs r → (z ∈ r.map (·.nm) ∨ z ∈ endsN) → ∀ x ∈ (runL hs bs first r z hl tk).1, x ∈ r.map (·.nm) ∨ x ∈ endsN
  | [], z, _, _, _, h, x, hx => by
    rw [List.mem_singleton.mp hx]
    exact h
  | s :: r, z, hl, tk, ok, h, x, hx => by
    rw [runL] at hx
    split at hx
    · rcases List.mem_cons.mp hx with hx | hx
      · rw [hx]
        exact .inl List.mem_cons_self
      · rcases run_names ok.1 (stp_aim ok.2) x hx with g | g
        · exact .inl (List.mem_cons_of_mem _ g)
        · exact .inr g
    · rename_i ne
      have h' : z ∈ r.map (·.nm) ∨ z ∈ endsN := by
        rcases h with h | h
        · rcases List.mem_cons.mp h with h | h
          · exact absurd h ne
          · exact .inl h
        · exact .inr h
      rcases run_names ok.1 h' x hx with g | g
      · exact .inl (List.mem_cons_of_mem _ g)
      · exact .inr g
theorem okd_way {f : Frm} (fok : FrmOk f) {s0 : Sta} {r0 : List Sta} (e : f.ss = s0 :: r0) {bs : List Nat} {first : Nat} : Okd (.tuple ((runL f.hs bs first f.ss s0.nm (fun _ => none) 0).1.map PyData.str)) := by
  have l := @runL_len f.hs bs first f.ss s0.nm (fun _ => none) 0
  have s8 := fok.s8
  have q := okW_tup (ds := (runL f.hs bs first f.ss s0.nm (fun _ => none) 0).1.map PyData.str) (k := 0) (w := 12) (fun d hd => by
    obtain ⟨z, hz, rfl⟩ := List.mem_map.mp hd
    rcases run_names fok.ss (.inl (by rw [e]; exact List.mem_cons_self)) z hz with g | g
    · exact okW_name (sts_names fok.ss z g)
    · exact okW_end z g)
  rw [List.length_map] at q
  exact q.okd (by decide) (by omega)
theorem okd_res {f : Frm} (fok : FrmOk f) {s0 : Sta} {bs : List Nat} {first : Nat} (lb : bs.length ≤ 128) (bb : ∀ x ∈ bs, x < 256) : Okd (encPr (resF f bs (runL f.hs bs first f.ss s0.nm (fun _ => none) 0))) := by
  unfold resF
  split
  · exact okW_non.okd (by decide) (by decide)
  · have hw := run_HW fok.hs (bs := bs) (first := first) (z := s0.nm) (tk := 0) fok.ss (fun _ _ e => nomatch e : HW fun _ => none)
    have l6 := fok.hs.len
    have a := okW_tup (ds := (f.hs.map fun h => (runL f.hs bs first f.ss s0.nm (fun _ => none) 0).2.1 h.1).map encO) (k := 1) (w := 504) (fun d hd => by
      obtain ⟨o, ho, rfl⟩ := List.mem_map.mp hd
      obtain ⟨h, _, rfl⟩ := List.mem_map.mp ho
      cases eo : (runL f.hs bs first f.ss s0.nm (fun _ => none) 0).2.1 h.1 with
      | none => exact okW_non.mono (by decide) (by decide)
      | some ws =>
        obtain ⟨w1, w2⟩ := hw _ _ eo
        exact (okW_ns w2).mono (by decide) (by omega))
    rw [List.length_map, List.length_map] at a
    have ld := List.length_drop (l := bs) (i := (runL f.hs bs first f.ss s0.nm (fun _ => none) 0).2.2)
    have b := okW_ns (ns := bs.drop (runL f.hs bs first f.ss s0.nm (fun _ => none) 0).2.2) (fun n hn => Nat.lt_trans (bb n (List.mem_of_mem_drop hn)) (by decide))
    have q := okW_tup (ds := [.tuple ((f.hs.map fun h => (runL f.hs bs first f.ss s0.nm (fun _ => none) 0).2.1 h.1).map encO), encNs (bs.drop (runL f.hs bs first f.ss s0.nm (fun _ => none) 0).2.2)]) (k := 2) (w := 6000) (fun d hd => by
      simp only [List.mem_cons, List.not_mem_nil, or_false] at hd
      rcases hd with rfl | rfl
      · exact a.mono (by decide) (by omega)
      · exact b.mono (by decide) (by omega))
    exact q.okd (by decide) (by show 2 * 6001 ≤ 2 ^ 20; decide)
theorem noL_res {f : Frm} {bs : List Nat} {T : List Str × Hld × Nat} : NoL (encPr (resF f bs T)) := by
  unfold resF
  split
  · exact .non
  · refine .tup fun d hd => ?_
    simp only [List.mem_cons, List.not_mem_nil, or_false] at hd
    rcases hd with rfl | rfl
    · refine .tup fun d hd => ?_
      obtain ⟨o, _, rfl⟩ := List.mem_map.mp hd
      exact noL_encO o
    · exact noL_encNs _
/-! ### what the program's functions promise -/
abbrev sWayOf : Stmt := topS 51
abbrev sParse : Stmt := topS 52
abbrev sMeets : Stmt := topS 86
/-- a frame and a packet -/
structure FP (K : PySem.W.Frag) (H : Hp) (v u : V) (f : Frm) (s0 : Sta) (r0 : List Sta) (first : Nat) (bs : List Nat) : Prop where
  dv : Dp K H v (encFr f)
  ok : FrmOk f
  e : f.ss = s0 :: r0
  du : Dp K H u (encPk first bs)
  f1 : first < 256
  lb : bs.length ≤ 128
  bb : ∀ x ∈ bs, x < 256
theorem FP.same {K : PySem.W.Frag} {H H' : Hp} {v u : V} {f : Frm} {s0 : Sta} {r0 : List Sta} {first : Nat} {bs : List Nat} (h : FP K H v u f s0 r0 first bs) (s : Same H H') : FP K H' v u f s0 r0 first bs := ⟨dpSame s h.dv, h.ok, h.e, dpSame s h.du, h.f1, h.lb, h.bb⟩
def wayD (f : Frm) (s0 : Sta) (first : Nat) (bs : List Nat) : PyData := .tuple ((runL f.hs bs first f.ss s0.nm (fun _ => none) 0).1.map PyData.str)
def resD (f : Frm) (s0 : Sta) (first : Nat) (bs : List Nat) : PyData := encPr (resF f bs (runL f.hs bs first f.ss s0.nm (fun _ => none) 0))
def spWayOf (K : PySem.W.Frag) : Sp := fun vs H Q _ => ∃ (v u : V) (f : Frm) (s0 : Sta) (r0 : List Sta) (first : Nat) (bs : List Nat), vs = [v, u] ∧ FP K H v u f s0 r0 first bs ∧ ∀ H' x, Same H H' → Dp K H' x (wayD f s0 first bs) → Q x H'
def spParse (K : PySem.W.Frag) : Sp := fun vs H Q _ => ∃ (v u : V) (f : Frm) (s0 : Sta) (r0 : List Sta) (first : Nat) (bs : List Nat), vs = [v, u] ∧ FP K H v u f s0 r0 first bs ∧ ∀ H' x, Same H H' → Dp K H' x (resD f s0 first bs) → Q x H'
def spMeets (K : PySem.W.Frag) : Sp := fun vs H Q _ => ∃ (v u : V) (f : Frm) (s0 : Sta) (r0 : List Sta) (first : Nat) (bs : List Nat), vs = [v, u] ∧ FP K H v u f s0 r0 first bs ∧ ∀ H', Same H H' → Q (.bl true) H'
section
variable {P : Program} {w : World} {K : PySem.W.Frag} {mg : Str → Option Value} {base : Heap}
structure Prg (P : Program) (w : World) (K : PySem.W.Frag) (mg : Str → Option Value) (base : Heap) (kW kP : Nat) (fW fP : Addr) (fdW fdP : FuncData) : Prop where
  lW : kW ≤ 12
  lP : kP ≤ 12
  FW : Fun K "way_of" "way_of" sWayOf fW fdW
  bW : Binds K fdW ["frame", "packet"] []
  nW : KBn K fdW ["frame", "packet"] 0 ["packet", "frame"] (fun _ ws => ws.reverse) (fun _ zs => zs.reverse)
  gW : mg "way_of" = some (.ref fW)
  GW : FnOk P w K mg base CX0 kW fW fdW ["frame", "packet"] (spWayOf K)
  FP : Fun K "parse" "parse" sParse fP fdP
  bP : Binds K fdP ["frame", "packet"] []
  nP : KBn K fdP ["frame", "packet"] 0 ["packet", "frame"] (fun _ ws => ws.reverse) (fun _ zs => zs.reverse)
  gP : mg "parse" = some (.ref fP)
  GP : FnOk P w K mg base CX0 kP fP fdP ["frame", "packet"] (spParse K)
/-! ### both are as the law has them -/
theorem scMeets : FnScope ["_law_frame_here", "_law_packet", "_law_way", "_law_due"] ["_law_frame_here", "_law_packet"] (defScope sMeets) := ⟨rfl, rfl, rfl, by decide +kernel, rfl, by decide +kernel, by decide +kernel⟩
theorem ok_meets {kW kP : Nat} {f fW fP fG fR : Addr} {fd fdW fdP dG dR : FuncData} (F : Fun K "_law_meets" "_law_meets" sMeets f fd) (B : Blt mg) (G : Prg P w K mg base kW kP fW fP fdW fdP) (KG : Kn P w K mg base 3 "_law_going" sGoing ["_law_frame_here", "_law_packet"] (spGoing K) fG dG)
    (KP : Kn P w K mg base 4 "_law_parsed" sParsed ["_law_frame_here", "_law_packet"] (spParsed K) fR dR) : FnG P w K mg base CX0 13 f fd ["_law_frame_here", "_law_packet"] (spMeets K) := by
  refine okG F scMeets (fun vs H Q E h => ?_) (fun cdv A outer s H vs Q E hA hr h => ?_)
  · obtain ⟨v, u, f, s0, r0, first, bs, rfl, _⟩ := h
    rfl
  · obtain ⟨v, u, f, s0, r0, first, bs, rfl, fp, k⟩ := h
    refine ⟨_, (pss_cons (ps_par (i := 2) (j := 3) (by rfl) scMeets.nd rfl rfl (by decide) rfl rfl (pa_cons (pe_callB (call_repr hA hr.units) (by rfl) B.repr (by decide +kernel) (pa_cons (pe_ix ix_tup (pe_call KG.G (hr.mono (by decide)) (by rfl) KG.g KG.F.kp KG.b .nil pass0 (pa_cons (pv 0) (pa_cons (pv 1) pa_nil))) pe_int (fun _ _ => rfl)) pa_nil)) (pa_cons (pe_callB (call_repr hA hr.units) (by rfl) B.repr (by decide +kernel) (pa_cons (pe_call KP.G (hr.mono (by decide)) (by rfl) KP.g KP.F.kp KP.b .nil pass0 (pa_cons (pv 0) (pa_cons (pv 1) pa_nil))) pa_nil)) pa_nil)) (by rfl)) (pss_cons (ps_if (PW.pt (pw_or (pt_cmpR op_ne (pe_callB (call_repr hA hr.units) (by rfl) B.repr (by decide +kernel) (pa_cons (pe_call G.GW (hr.mono G.lW) (by rfl) G.gW G.FW.kp G.bW .nil pass0 (pa_cons (pv 0) (pa_cons (pv 1) pa_nil))) pa_nil)) (pv 2) (nomark _)) (pw_or1 (pt_cmpR op_ne (pe_callB (call_repr hA hr.units) (by rfl) B.repr (by decide +kernel) (pa_cons (pe_call G.GP (hr.mono G.lP) (by rfl) G.gP G.FP.kp G.bP .nil pass0 (pa_cons (pv 0) (pa_cons (pv 1) pa_nil))) pa_nil)) (pv 3) (nomark _))))) (pss_one (ps_ret pe_bl)) pss_nil) (pss_one (ps_ret (pe_and (pe_cmpR op_eq (pe_callB (call_repr hA hr.units) (by rfl) B.repr (by decide +kernel) (pa_cons (pe_callN0 G.GW (hr.mono G.lW) (by rfl) G.gW G.FW.kp G.nW pass0 (pk_cons (pv 1) (pk_cons (pv 0) pk_nil))) pa_nil)) (pv 2) (nomark _)) (pe_one (pe_cmpR op_eq (pe_callB (call_repr hA hr.units) (by rfl) B.repr (by decide +kernel) (pa_cons (pe_callN0 G.GP (hr.mono G.lP) (by rfl) G.gP G.FP.kp G.nP pass0 (pk_cons (pv 1) (pk_cons (pv 0) pk_nil))) pa_nil)) (pv 3) (nomark _)))))))), ?_⟩
    have oW : Okd (wayD f s0 first bs) := okd_way fp.ok fp.e
    have oR : Okd (resD f s0 first bs) := okd_res fp.ok fp.lb fp.bb
    have dW : PyData.hasDict (wayD f s0 first bs) = false := noDict_of (.tup (noL_strs _))
    have dR : PyData.hasDict (resD f s0 first bs) = false := noDict_of noL_res
    refine ⟨_, rfl, _, rfl, v, u, f, s0, r0, first, bs, rfl, fp.dv, fp.ok, fp.e, fp.du, by have := fp.lb; omega, fun H1 p wp q s1 hp hw _ _ => ?_⟩
    have d1 : Dp K H1 (.ref wp) (wayD f s0 first bs) := .tup (SqT.of hw) (dpAll_strs _)
    refine ⟨p, _, 0, _, rfl, rfl, SqT.of hp, atI_nat (j := 0) rfl, _, _, rfl, .dat d1 dW, oW.sh, oW.dp, oW.fits, ?_⟩
    refine ⟨_, rfl, _, rfl, v, u, f, s0, r0, first, bs, rfl, dpSame s1 fp.dv, fp.ok, fp.e, dpSame s1 fp.du, by have := fp.lb; omega, fun H2 x2 s2 d2 => ?_⟩
    refine ⟨_, _, rfl, .dat d2 dR, oR.sh, oR.dp, oR.fits, _, _, rfl, ?_⟩
    have s12 := s1.trans s2
    refine ⟨_, rfl, _, rfl, v, u, f, s0, r0, first, bs, rfl, fp.same s12, fun H3 x3 s3 d3 => ?_⟩
    refine ⟨_, _, rfl, .dat d3 dW, oW.sh, oW.dp, oW.fits, _, rfl, rfl, _, rfl, iteNS rfl ?_⟩
    have s13 := s12.trans s3
    refine ⟨_, rfl, _, rfl, v, u, f, s0, r0, first, bs, rfl, fp.same s13, fun H4 x4 s4 d4 => ?_⟩
    refine ⟨_, _, rfl, .dat d4 dR, oR.sh, oR.dp, oR.fits, _, rfl, rfl, _, rfl, iteNS rfl ?_⟩
    have s14 := s13.trans s4
    unfold tNext
    dsimp only
    unfold tRet tAndV
    refine ⟨_, rfl, _, rfl, rfl, v, u, f, s0, r0, first, bs, rfl, fp.same s14, fun H5 x5 s5 d5 => ?_⟩
    refine ⟨_, _, rfl, .dat d5 dW, oW.sh, oW.dp, oW.fits, _, rfl, rfl, _, rfl, ?_⟩
    rw [decide_eq_true rfl]
    have s15 := s14.trans s5
    refine iteT ⟨_, rfl, _, rfl, rfl, v, u, f, s0, r0, first, bs, rfl, fp.same s15, fun H6 x6 s6 d6 => ?_⟩
    refine ⟨_, _, rfl, .dat d6 dR, oR.sh, oR.dp, oR.fits, _, rfl, rfl, ?_⟩
    rw [decide_eq_true (show V.str (resD f s0 first bs).shown = V.str (encPr (resF f bs (runL f.hs bs first f.ss s0.nm (fun _ => none) 0))).shown from rfl)]
    exact k H6 (s15.trans s6)
end
end LJ

namespace TR
open PySem PySem.Spec PyProof.Rows L2
theorem mul1 (l : Addr) (items : Array Value) (n : Nat) (dd : Option Addr) (sl : Array (Option Value)) (x : Int) (u : Tok) (c0 : (decide (x < -(2 ^ 63)) || decide (x ≥ 2 ^ 63)) = false) (c1 : (items.isEmpty || x == 1) = true) :
    Meets (Builtin.«tuple.__mul__» ⟨[.ref l, .int x u], []⟩) (fun _ R s => s.heap.get? l = some { cls := .type "tuple", dict := dd, data := .seq items n, slots := sl } ∧ R (.ok (.ret (.ref l))) s) :=
  .of_wp fun prog w A R s h => by
    obtain ⟨hp, g, d, tk, os⟩ := s
    obtain ⟨hl, h⟩ := h
    have f1 := AutoSeq1.idx_int
    wp_walk using wpAny_loadPart' hl
    repeat (first
      | (refine wpAny_ite_false (decide_eq_false (by rw [c0]; exact Bool.false_ne_true)) ?_; wp_walk using wpAny_loadPart' hl)
      | (refine wpAny_ite_true (decide_eq_true (by rw [c1])) ?_; wp_walk using wpAny_loadPart' hl))
    exact ⟨_, rfl, h⟩
theorem mul0 (l : Addr) (items : Array Value) (n : Nat) (dd : Option Addr) (sl : Array (Option Value)) (x : Int) (u : Tok) (c0 : (decide (x < -(2 ^ 63)) || decide (x ≥ 2 ^ 63)) = false) (c1 : (items.isEmpty || x == 1) = false) (c2 : (decide (x ≤ 0) || items.isEmpty) = true) :
    Meets (Builtin.«tuple.__mul__» ⟨[.ref l, .int x u], []⟩) (fun _ R s => s.heap.get? l = some { cls := .type "tuple", dict := dd, data := .seq items n, slots := sl } ∧
      R (.ok (.ret (Value.ref s.heap.objs.size))) { s with heap := s.heap.push { cls := Value.type "tuple", data := Data.seq #[] }, toks := s.toks }) :=
  .of_wp fun prog w A R s h => by
    obtain ⟨hp, g, d, tk, os⟩ := s
    obtain ⟨hl, h⟩ := h
    have f1 := AutoSeq1.idx_int
    wp_walk using wpAny_loadPart' hl
    repeat (first
      | (refine wpAny_ite_false (decide_eq_false (by rw [c0]; exact Bool.false_ne_true)) ?_; wp_walk using wpAny_loadPart' hl)
      | (refine wpAny_ite_false (decide_eq_false (by rw [c1]; exact Bool.false_ne_true)) ?_; wp_walk using wpAny_loadPart' hl)
      | (refine wpAny_ite_true (decide_eq_true (by rw [c2])) ?_; wp_walk using wpAny_loadPart' hl))
    exact ⟨_, rfl, h⟩
/-- t * k, whatever k -/
def rRepA (K : PySem.W.Frag) : R2 := fun x y H Q => ∃ l k xs, x = .ref l ∧ y = .int k ∧ SqT K H l xs ∧ xs ≠ [] ∧ -1000 ≤ k ∧ k ≤ 1000 ∧ xs.length ≤ 1000 ∧ ∀ p H', (∀ b u, H b = some u → H' b = some u) → SqT K H' p (List.replicate k.toNat xs).flatten → Q (.ref p) H'
section
variable {X : Cx}
theorem op_repA : OpR X (binaryOp .Mult) (rRepA X.K) := by
  intro pins s σ H x y v u Q I rx ry h
  obtain ⟨l, k, xs, rfl, rfl, hT, hne, h1, h2, hz, q⟩ := h
  by_cases k2 : 2 ≤ k
  · exact op_repT pins s σ H _ _ v u Q I rx ry ⟨l, k, xs, rfl, rfl, hT, hne, k2, h2, hz, fun p hp => q p _ (fun b u hb => by rw [upd_ne (ne_of_none hb hp)]; exact hb) (SqT.of upd_same)⟩
  cases rx
  obtain ⟨t, rfl⟩ := ry
  obtain ⟨its, r, ⟨⟨cls, dd, data, sl⟩, ho, hc, n, hd⟩, hs⟩ := I.tuple hT
  simp only at hc hd
  subst hc hd
  have hle : its.length = xs.length := r.length.symm
  have hn : its ≠ [] := fun e => hne (by
    rw [e] at hle
    exact List.eq_nil_of_length_eq_zero hle.symm)
  have hi : its.toArray.isEmpty = false := by
    cases its with
    | nil => exact absurd rfl hn
    | cons a b => rfl
  have c0 : (decide (k < -(2 ^ 63)) || decide (k ≥ 2 ^ 63)) = false := by
    rw [decide_eq_false (by omega), decide_eq_false (by omega)] <;> rfl
  by_cases k1 : k = 1
  · have c1 : (its.toArray.isEmpty || k == 1) = true := by
      rw [hi, Bool.false_or, k1]
      rfl
    refine wpAny_binaryOp_repeat_ref (T := "tuple") (U := "int") (by decide) ⟨_, ho, rfl⟩ (fun s' => typeIs_int s' k t) noFill_tuple_mul F.fills_int_mul F.slot_int_rmul repeat_tuple F.slot_int_index.lookup
      (call_meets F.slot_int_rmul (typeIs_int s k t) F.entry_int_rmul (F.args_int_rmul_2 _ _) (int_rmul_tuple k t l its.toArray n dd sl)
        ⟨ho, rfl, ⟨_, ho, rfl⟩, call_meets F.slot_tuple_mul ⟨_, ho, rfl⟩ F.entry_tuple_mul (F.args_tuple_mul_2 _ _) (mul1 l its.toArray n dd sl k t c0 c1) ⟨ho, ?_⟩⟩)
    refine ⟨.ref l, H, I, rfl, q l H (fun _ _ h => h) ?_⟩
    rw [k1]
    show SqT X.K H l (xs ++ [])
    rw [List.append_nil]
    exact hT
  · have c1 : (its.toArray.isEmpty || k == 1) = false := by
      rw [hi, Bool.false_or]
      exact beq_eq_false_iff_ne.mpr k1
    have c2 : (decide (k ≤ 0) || its.toArray.isEmpty) = true := by
      rw [hi, Bool.or_false]
      exact decide_eq_true (by omega)
    refine wpAny_binaryOp_repeat_ref (T := "tuple") (U := "int") (by decide) ⟨_, ho, rfl⟩ (fun s' => typeIs_int s' k t) noFill_tuple_mul F.fills_int_mul F.slot_int_rmul repeat_tuple F.slot_int_index.lookup
      (call_meets F.slot_int_rmul (typeIs_int s k t) F.entry_int_rmul (F.args_int_rmul_2 _ _) (int_rmul_tuple k t l its.toArray n dd sl)
        ⟨ho, rfl, ⟨_, ho, rfl⟩, call_meets F.slot_tuple_mul ⟨_, ho, rfl⟩ F.entry_tuple_mul (F.args_tuple_mul_2 _ _) (mul0 l its.toArray n dd sl k t c0 c1 c2) ⟨ho, ?_⟩⟩)
    have ek : (List.replicate k.toNat xs).flatten = [] := by
      have e : k.toNat = 0 := by omega
      rw [e]
      rfl
    refine ⟨.ref s.heap.objs.size, _, I.laid (t' := s.toks) (o := .tup []) (fun b ob q => Heap.get?_push_of_some _ q) (Nat.le_refl _) ?_, rfl, q _ _ (fun b u hb => ?_) ?_⟩
    · exact ⟨by decide, [], .nil, IsTup.new _ _⟩
    · rw [upd_ne (ne_of_none hb (I.hok.fresh (Nat.le_refl _)))]
      exact hb
    · rw [ek]
      exact SqT.of upd_same
end
end TR

namespace LJ
open PySem PySem.Spec PyProof.Rows L2 GuL HG Bt
abbrev sUnread : Stmt := topS 87
abbrev sRight : Stmt := topS 88
/-! ### a frame that asks what no state reads -/
def unS (r : Nat) : Sta := ⟨"s", none, .by_ (.fld "h" "a") [(r, 1, "accept")] "refuse"⟩
def unH : Hdr := ("h", [("a", 1), ("b", 7)])
def unF (r : Nat) : Frm := ⟨[unH], [unS r], ["h"]⟩
theorem nmOk (z : Str) (h : (nameShB z && decide (z ∉ keptN)) = true) : NameOk z := ⟨(Bool.and_eq_true_iff.mp h).1, of_decide_eq_true (Bool.and_eq_true_iff.mp h).2⟩
theorem nm_h : NameOk "h" := nmOk _ (by decide +kernel)
theorem nm_a : NameOk "a" := nmOk _ (by decide +kernel)
theorem nm_b : NameOk "b" := nmOk _ (by decide +kernel)
theorem nm_s : NameOk "s" := nmOk _ (by decide +kernel)
theorem unF_ok {r : Nat} (h : r < 2) : FrmOk (unF r) := by
  have hok : HeadersOk [unH] := by
    refine ⟨by decide, fun g hg => ?_, fun g hg => ?_, by decide +kernel⟩
    · rw [List.mem_singleton.mp hg]
      exact nm_h
    · rw [List.mem_singleton.mp hg]
      refine ⟨by decide, by decide, fun f hf => ?_, fun f hf => ?_, by decide +kernel, by decide +kernel, by decide +kernel⟩
      · simp only [unH, List.mem_cons, List.not_mem_nil, or_false] at hf
        rcases hf with rfl | rfl
        · exact nm_a
        · exact nm_b
      · simp only [unH, List.mem_cons, List.not_mem_nil, or_false] at hf
        rcases hf with rfl | rfl
        · show 1 ≤ 1 ∧ 1 ≤ 32
          decide
        · show 1 ≤ 7 ∧ 7 ≤ 32
          decide
  refine ⟨hok, by show 1 ≤ 1; decide, by show 1 ≤ 8; decide, ⟨True.intro, nm_s, (fun m => nomatch m), (fun z e => nomatch e), ?_, fun t _ a _ m => m⟩, List.Perm.refl _⟩
  refine .by_ (n := 1) (PlcW.fld (h := unH) (f := ("a", 1)) List.mem_cons_self List.mem_cons_self) (by show 1 ≤ 8; decide) (fun c hc => ?_) noRej
  rw [List.mem_singleton.mp hc]
  refine ⟨by show r < 2 ^ 1; omega, by show 1 < 2 ^ 1; decide, ?_, noAcc⟩
  show r &&& 1 = r
  have : r = 0 ∨ r = 1 := by omega
  rcases this with rfl | rfl <;> rfl
section
variable {P : Program} {w : World} {K : PySem.W.Frag} {mg : Str → Option Value} {base : Heap}
theorem scUnread : FnScope ["_law_jar_here", "_law_step"] ["_law_jar_here"] (defScope sUnread) := ⟨rfl, rfl, rfl, by decide +kernel, rfl, by decide +kernel, by decide +kernel⟩
def spUnread (K : PySem.W.Frag) : Sp := fun vs H Q _ => ∃ (b : Addr) (o m c : Int), vs = [.ref b] ∧ H b = some (bw o m c) ∧ 0 ≤ o ∧ ∀ H' u r, Jr b H H' → Dp K H' u (encFr (unF r)) → r < 2 → Q u H'
theorem ok_unread {f fD fO fN : Addr} {fd fdD fdO fdN : FuncData} (F : Fun K "_law_unread" "_law_unread" sUnread f fd) (Z : Drw P w K mg base fD fO fN fdD fdO fdN) : FnOk P w K mg base CX0 2 f fd ["_law_jar_here"] (spUnread K) := by
  refine F.ok scUnread (fun vs H Q E h => ?_) (fun cdv A outer s H vs Q E hr h => ?_)
  · obtain ⟨b, o, m, c, rfl, _⟩ := h
    rfl
  · obtain ⟨b, o, m, c, rfl, hb, ho, k⟩ := h
    refine ⟨_, (pss_cons (ps_set (i := 1) scUnread.nd rfl (.inl rfl) (pe_tup (pa_cons pe_str (pa_cons (pe_tup (pa_cons pe_str (pa_cons pe_str (pa_cons pe_str pa_nil)))) (pa_cons (pe_tup (pa_cons (pe_tup (pa_cons (pe_call Z.GD (hr.mono (by decide)) (by rfl) Z.gD Z.FD.kp Z.bD .nil pass0 (pa_cons (pv 0) (pa_cons pe_int pa_nil))) (pa_cons pe_int (pa_cons pe_str pa_nil)))) pa_nil)) (pa_cons pe_str pa_nil)))))) (pss_one (ps_ret (pe_tup (pa_cons (pe_tup (pa_cons (pe_tup (pa_cons pe_str (pa_cons (pe_tup (pa_cons (pe_tup (pa_cons pe_str (pa_cons pe_int pa_nil))) (pa_cons (pe_tup (pa_cons pe_str (pa_cons pe_int pa_nil))) pa_nil))) pa_nil))) pa_nil)) (pa_cons (pe_tup (pa_cons (pe_tup (pa_cons pe_str (pa_cons pe_non (pa_cons (pv 1) pa_nil)))) pa_nil)) (pa_cons (pe_tup (pa_cons pe_str pa_nil)) pa_nil))))))), ?_⟩
    refine ⟨by show 3 ≤ sizeLine; decide, fun p1 h1 => ⟨_, rfl, b, 2, o, m, c, rfl, same_new h1 _ _ hb, ho, by decide, by decide, fun H1 r o1 m1 c1 e1 hb1 ho1 r0 r1 => ?_⟩⟩
    obtain ⟨rn, rfl⟩ := Int.eq_ofNat_of_zero_le r0
    have q1 := same_new (o := .tup [.str "field", .str "h", .str "a"]) h1
    have d1 : Dp K H1 (.ref p1) (encP (.fld "h" "a")) := dpExb (same_new h1 _ _ hb) e1 (noL_encP _) (.tup (SqT.of upd_same) (.cons (.str _) (.cons (.str _) (.cons (.str _) .nil))))
    have j1 : Jr b H H1 := ⟨(Exb.of q1).trans e1, o1, m1, c1, hb1, ho1⟩
    refine ⟨by show 3 ≤ sizeLine; decide, fun p2 h2 => ⟨by show 1 ≤ sizeLine; decide, fun p3 h3 => ⟨by show 4 ≤ sizeLine; decide, fun p4 h4 => ?_⟩⟩⟩
    have q2 := same_new (o := .tup [.int (rn : Int), .int 1, .str "accept"]) h2
    have q3 := same_new (o := .tup [.ref p2]) h3
    have q4 := same_new (o := .tup [.str "by", .ref p1, .ref p3, .str "refuse"]) h4
    obtain ⟨H4, eH4⟩ : ∃ H4, H4 = upd (upd (upd H1 p2 (.tup [.int (rn : Int), .int 1, .str "accept"])) p3 (.tup [.ref p2])) p4 (.tup [.str "by", .ref p1, .ref p3, .str "refuse"]) := ⟨_, rfl⟩
    have d4 : Dp K H4 (.ref p4) (encN (.by_ (.fld "h" "a") [(rn, 1, "accept")] "refuse")) := by
      rw [eH4]
      refine .tup (SqT.of upd_same) (.cons (.str _) (.cons (dpSame (q2.trans (q3.trans q4)) d1) (.cons (.tup (SqT.of (q4 _ _ upd_same)) (.cons (.tup (SqT.of ((q3.trans q4) _ _ upd_same)) (.cons (.int _) (.cons (.int _) (.cons (.str _) .nil)))) .nil)) (.cons (.str _) .nil))))
    have j4 : Jr b H H4 := by
      rw [eH4]
      exact j1.same (q2.trans (q3.trans q4))
    rw [← eH4]
    refine ⟨by show 2 ≤ sizeLine; decide, fun p5 h5 => ⟨by show 2 ≤ sizeLine; decide, fun p6 h6 => ⟨by show 2 ≤ sizeLine; decide, fun p7 h7 => ⟨by show 2 ≤ sizeLine; decide, fun p8 h8 => ⟨by show 1 ≤ sizeLine; decide, fun p9 h9 => ⟨_, rfl, by show 3 ≤ sizeLine; decide, fun p10 h10 => ⟨by show 1 ≤ sizeLine; decide, fun p11 h11 => ⟨by show 1 ≤ sizeLine; decide, fun p12 h12 => ⟨by show 3 ≤ sizeLine; decide, fun p13 h13 => ?_⟩⟩⟩⟩⟩⟩⟩⟩⟩
    have w5 := same_new (o := .tup [.str "a", .int 1]) h5
    have w6 := same_new (o := .tup [.str "b", .int 7]) h6
    have w7 := same_new (o := .tup [.ref p5, .ref p6]) h7
    have w8 := same_new (o := .tup [.str "h", .ref p7]) h8
    have w9 := same_new (o := .tup [.ref p8]) h9
    have w10 := same_new (o := .tup [.str "s", .non, .ref p4]) h10
    have w11 := same_new (o := .tup [.ref p10]) h11
    have w12 := same_new (o := .tup [.str "h"]) h12
    have w13 := same_new (o := .tup [.ref p9, .ref p11, .ref p12]) h13
    have W9 := w10.trans (w11.trans (w12.trans w13))
    have W5 := w6.trans (w7.trans (w8.trans (w9.trans W9)))
    refine k _ _ rn (j4.same (w5.trans W5)) ?_ (by omega)
    refine .tup (SqT.of upd_same) (.cons (.tup (SqT.of (W9 _ _ upd_same)) (.cons (.tup (SqT.of ((w9.trans W9) _ _ upd_same)) (.cons (.str _) (.cons (.tup (SqT.of ((w8.trans (w9.trans W9)) _ _ upd_same)) (.cons (.tup (SqT.of (W5 _ _ upd_same)) (.cons (.str _) (.cons (.int _) .nil)))
      (.cons (.tup (SqT.of ((w7.trans (w8.trans (w9.trans W9))) _ _ upd_same)) (.cons (.str _) (.cons (.int _) .nil))) .nil))) .nil))) .nil)) (.cons (.tup (SqT.of ((w12.trans w13) _ _ upd_same)) (.cons (.tup (SqT.of ((w11.trans (w12.trans w13)) _ _ upd_same)) (.cons (.str _) (.cons .non (.cons (dpSame (w5.trans W5) d4) .nil)))) .nil)) (.cons (.tup (SqT.of (w13 _ _ upd_same)) (.cons (.str _) .nil)) .nil)))
/-! ### right -/
theorem rep_vN (n x : Nat) : (List.replicate n [V.int (x : Int)]).flatten = vN (List.replicate n x) := by
  induction n with
  | zero => rfl
  | succ n ih =>
    rw [List.replicate_succ, List.replicate_succ, List.flatten_cons, ih]
    rfl
theorem rep_lt {n x : Nat} (h : x < 256) : ∀ y ∈ List.replicate n x, y < 256 := fun y hy => by
  rw [List.eq_of_mem_replicate hy]
  exact h
theorem scRight : FnScope ["_law_jar_here", "_law_frame_here", "_law_turn", "_law_packet", "_law_first", "_law_line", "_law_many", "_law_each"] ["_law_jar_here"] (defScope sRight) := ⟨rfl, rfl, rfl, by decide +kernel, rfl, by decide +kernel, by decide +kernel⟩
def spRight : Sp := fun vs H Q _ => ∃ (b : Addr) (o m c : Int), vs = [.ref b] ∧ H b = some (bw o m c) ∧ 0 ≤ o ∧ ∀ H', Exb b H H' → Q (.bl true) H'
theorem ok_right {f fD fO fN fF fP fM fU : Addr} {fd fdD fdO fdN dF dP dM dU : FuncData} (F : Fun K "_law_right" "_law_right" sRight f fd) (B : Blt mg) (Z : Drw P w K mg base fD fO fN fdD fdO fdN) (KFr : Kn P w K mg base 6 "_law_frame" sFrame ["_law_jar_here", "_law_few"] (spFrame K) fF dF)
    (KPF : Kn P w K mg base 4 "_law_packet_for" sPF ["_law_jar_here", "_law_frame_here"] (spPF K) fP dP) (KU : Kn P w K mg base 2 "_law_unread" sUnread ["_law_jar_here"] (spUnread K) fU dU)
    (FM : Fun K "_law_meets" "_law_meets" sMeets fM dM) (bM : Binds K dM ["_law_frame_here", "_law_packet"] []) (gM : mg "_law_meets" = some (.ref fM)) (KM : FnG P w K mg base CX0 13 fM dM ["_law_frame_here", "_law_packet"] (spMeets K)) : FnG P w K mg base CX0 14 f fd ["_law_jar_here"] spRight := by
  refine okG F scRight (fun vs H Q E h => ?_) (fun cdv A outer s H vs Q E hA hr h => ?_)
  · obtain ⟨b, o, m, c, rfl, _⟩ := h
    rfl
  · obtain ⟨b, o, m, c, rfl, hb, ho, k⟩ := h
    refine ⟨_, (pss_cons (ps_set (i := 1) scRight.nd rfl (.inl rfl) (pe_call KFr.G (hr.mono (by decide)) (by rfl) KFr.g KFr.F.kp KFr.b .nil pass0 (pa_cons (pv 0) (pa_cons (pe_call Z.GD (hr.mono (by decide)) (by rfl) Z.gD Z.FD.kp Z.bD .nil pass0 (pa_cons (pv 0) (pa_cons pe_int pa_nil))) pa_nil)))) (pss_cons (ps_for PassesOwn.never rfl (pi_range1 (by rfl) B.range (pa_cons pe_int pa_nil)) (pg_name (i := 2) scRight.nd rfl (.inl rfl)) (pss_cons (ps_set (i := 3) scRight.nd rfl (.inl rfl) (pe_call KPF.G (hr.mono (by decide)) (by rfl) KPF.g KPF.F.kp KPF.b .nil pass0 (pa_cons (pv 0) (pa_cons (pv 1) pa_nil)))) (pss_one (ps_if (PW.pt (pw_or (pt_not (pt_val (pe_callG KM hA (hr.mono (by decide)) (by rfl) gM FM.kp bM .nil pass0 (pa_cons (pv 1) (pa_cons (pv 3) pa_nil))))) (pw_or1 (pt_not (pt_val (pe_callG KM hA (hr.mono (by decide)) (by rfl) gM FM.kp bM .nil pass0 (pa_cons (pv 1) (pa_cons (pe_tup (pa_cons (pe_call Z.GD (hr.mono (by decide)) (by rfl) Z.gD Z.FD.kp Z.bD .nil pass0 (pa_cons (pv 0) (pa_cons pe_int pa_nil))) (pa_cons (pe_ix ix_tup (pv 3) pe_int (fun _ _ => rfl)) pa_nil))) pa_nil)))))))) (pss_one (ps_ret pe_bl)) pss_nil)))) (pss_cons (ps_asg (pe_call KPF.G (hr.mono (by decide)) (by rfl) KPF.g KPF.F.kp KPF.b .nil pass0 (pa_cons (pv 0) (pa_cons (pv 1) pa_nil))) (pg_tup (by rfl) (pgs_cons (pg_name (i := 4) scRight.nd rfl (.inl rfl)) (pgs_cons (pg_name (i := 5) scRight.nd rfl (.inl rfl)) pgs_nil)))) (pss_cons (ps_for PassesOwn.never rfl (pi_range1 (by rfl) B.range (pa_cons (pe_op op_add (pe_callB (call_min2 rfl) (by rfl) B.min (by decide +kernel) (pa_cons (pe_callB call_len_seq (by rfl) B.len PySem.boot_len (pa_cons (pv 5) pa_nil)) (pa_cons pe_int pa_nil))) pe_int) pa_nil)) (pg_name (i := 6) scRight.nd rfl (.inl rfl)) (pss_one (ps_if (pt_not (pt_val (pe_callG KM hA (hr.mono (by decide)) (by rfl) gM FM.kp bM .nil pass0 (pa_cons (pv 1) (pa_cons (pe_tup (pa_cons (pv 4) (pa_cons (pe_slice sl_tupA (pv 5) po_none (po_some (pv 6))) pa_nil))) pa_nil))))) (pss_one (ps_ret pe_bl)) pss_nil))) (pss_cons (ps_for PassesOwn.never rfl (pi_tup (pe_tup (pa_cons (pv 1) (pa_cons (pe_call KU.G (hr.mono (by decide)) (by rfl) KU.g KU.F.kp KU.b .nil pass0 (pa_cons (pv 0) pa_nil)) pa_nil)))) (pg_name (i := 7) scRight.nd rfl (.inl rfl)) (pss_one (ps_if (PW.pt (pw_or (pt_not (pt_val (pe_callG KM hA (hr.mono (by decide)) (by rfl) gM FM.kp bM .nil pass0 (pa_cons (pv 7) (pa_cons (pe_tup (pa_cons (pv 4) (pa_cons (pe_op TR.op_repA (pe_tup (pa_cons pe_int pa_nil)) pe_int) pa_nil))) pa_nil))))) (pw_or1 (pt_not (pt_val (pe_callG KM hA (hr.mono (by decide)) (by rfl) gM FM.kp bM .nil pass0 (pa_cons (pv 7) (pa_cons (pe_tup (pa_cons (pv 4) (pa_cons (pe_op TR.op_repA (pe_tup (pa_cons pe_int pa_nil)) pe_int) pa_nil))) pa_nil)))))))) (pss_one (ps_ret pe_bl)) pss_nil))) (pss_one (ps_ret (pe_callG KM hA (hr.mono (by decide)) (by rfl) gM FM.kp bM .nil pass0 (pa_cons (pe_call KU.G (hr.mono (by decide)) (by rfl) KU.g KU.F.kp KU.b .nil pass0 (pa_cons (pv 0) pa_nil)) (pa_cons (pe_tup (pa_cons (pv 4) (pa_cons (pv 5) pa_nil))) pa_nil)))))))))), ?_⟩
    refine ⟨_, rfl, _, rfl, b, 2, o, m, c, rfl, hb, ho, by decide, by decide, fun H1 r1 o1 m1 c1 e1 hb1 ho1 _ _ => ⟨b, r1, o1, m1, c1, rfl, hb1, ho1, fun H2 vf f j2 dv fok => ?_⟩⟩
    have x2 : Exb b H H2 := e1.trans j2.e
    obtain ⟨o2, m2, c2, hb2, ho2⟩ := j2.at_
    obtain ⟨s0, r0, es⟩ : ∃ s0 r0, f.ss = s0 :: r0 := by
      have := fok.s1
      cases e : f.ss with
      | nil =>
        rw [e] at this
        exact absurd this (by decide)
      | cons s0 r0 => exact ⟨s0, r0, rfl⟩
    have dvE : ∀ {H' : Hp}, Exb b H2 H' → Dp K H' vf (encFr f) := fun e => dpExb hb2 e (noL_encFr f) dv
    refine ⟨6, rfl, by decide, by decide, for_range (lo := 0) (n := 6) (fun i σ H' => ∃ v2 v3 : Option V, σ = [some (.ref b), some vf, v2, v3, none, none, none, none] ∧ Jr b H2 H') ⟨_, _, rfl, Exb.refl _ _, o2, m2, c2, hb2, ho2⟩ ?_ ?_⟩
    · rintro i σ H3 hi ⟨v2, v3, rfl, ⟨e3, o3, m3, c3, hb3, ho3⟩⟩
      refine ⟨_, rfl, _, rfl, b, vf, f, s0, r0, o3, m3, c3, rfl, hb3, ho3, dvE e3, fok, es, fun H4 u first bs j4 d4 f4 l4 b4 => ?_⟩
      have x4 : Exb b H2 H4 := e3.trans j4.e
      obtain ⟨o4, m4, c4, hb4, ho4⟩ := j4.at_
      obtain ⟨pa, ba, rfl, hpa, hba⟩ := dp_pk d4
      refine ⟨_, rfl, _, rfl, vf, .ref pa, f, s0, r0, first, bs, rfl, ⟨dvE x4, fok, es, d4, f4, l4, b4⟩, fun H5 s5 => ⟨true, rfl, iteF ?_⟩⟩
      have x5 : Exb b H2 H5 := x4.trans (Exb.of s5)
      refine ⟨_, rfl, _, rfl, b, 256, o4, m4, c4, rfl, s5 _ _ hb4, ho4, by decide, by decide, fun H6 r6 o6 m6 c6 e6 hb6 ho6 r60 r61 => ?_⟩
      obtain ⟨rn, rfl⟩ := Int.eq_ofNat_of_zero_le r60
      have hb5 := s5 _ _ hb4
      have hba6 := sqExb hb5 e6 (sameT s5 hba)
      refine ⟨_, rfl, pa, _, 1, _, rfl, rfl, sqExb hb5 e6 (sameT s5 hpa), atI_nat (j := 1) rfl, by show 2 ≤ sizeLine; decide, fun t ht => ?_⟩
      have s7 := same_new (o := .tup [.int (rn : Int), .ref ba]) ht
      have x6 : Exb b H2 H6 := x5.trans e6
      refine ⟨vf, .ref t, f, s0, r0, rn, bs, rfl, ⟨dpSame s7 (dvE x6), fok, es, .tup (SqT.of upd_same) (.cons (.int _) (.cons (.tup (sameT s7 hba6) (dp_vN bs)) .nil)), by omega, l4, b4⟩, fun H8 s8 => ⟨true, rfl, iteF ?_⟩⟩
      exact ⟨_, _, rfl, (⟨x6, o6, m6, c6, hb6, ho6⟩ : Jr b H2 H6).same (s7.trans s8)⟩
    · rintro σ H3 ⟨v2, v3, rfl, ⟨e3, o3, m3, c3, hb3, ho3⟩⟩
      refine ⟨_, rfl, _, rfl, b, vf, f, s0, r0, o3, m3, c3, rfl, hb3, ho3, dvE e3, fok, es, fun H4 u first bs j4 d4 f4 l4 b4 => ?_⟩
      have x4 : Exb b H2 H4 := e3.trans j4.e
      obtain ⟨o4, m4, c4, hb4, ho4⟩ := j4.at_
      obtain ⟨pa, ba, rfl, hpa, hba⟩ := dp_pk d4
      refine ⟨pa, _, rfl, hpa, rfl, _, _, rfl, _, _, rfl, rfl, ?_⟩
      have dv4 := dvE x4
      have dvF : ∀ {H' : Hp}, Exb b H4 H' → Dp K H' vf (encFr f) := fun e => dpExb hb4 e (noL_encFr f) dv4
      have hbaF : ∀ {H' : Hp}, Exb b H4 H' → SqT K H' ba (vN bs) := fun e => sqExb hb4 e hba
      refine ⟨_, rfl, ba, _, rfl, .inr hba, _, _, rfl, _, _, rfl, rfl, _, rfl, ?_, ?_, ?_⟩
      · rw [vN_len]
        split <;> omega
      · rw [vN_len]
        split <;> omega
      obtain ⟨N, eN, N1, N2⟩ : ∃ N : Nat, (if (16 : Int) < ((vN bs).length : Int) then (16 : Int) else ((vN bs).length : Int)) + 1 = (N : Int) ∧ N ≤ bs.length + 1 ∧ N ≤ 17 := by
        rw [vN_len]
        refine ⟨((if (16 : Int) < (bs.length : Int) then (16 : Int) else (bs.length : Int)) + 1).toNat, ?_, ?_, ?_⟩
        · split <;> omega
        · split <;> omega
        · split <;> omega
      rw [eN, Int.toNat_natCast]
      refine for_range (lo := 0) (n := N) (fun i σ H' => ∃ v6 : Option V, σ = [some (.ref b), some vf, v2, v3, some (.int (first : Int)), some (.ref ba), v6, none] ∧ Jr b H4 H') ⟨_, rfl, Exb.refl _ _, o4, m4, c4, hb4, ho4⟩ ?_ ?_
      · rintro i σ H5 hi ⟨v6, rfl, j5⟩
        have x5 := j5.e
        refine ⟨_, rfl, _, rfl, _, rfl, _, rfl, _, rfl, ?_⟩
        refine slA (hbaF x5) (fun p6 H6 s6 h6 => ?_)
        rw [Int.zero_add, cut_upto (by omega)] at h6
        refine ⟨by show 2 ≤ sizeLine; decide, fun t ht => ?_⟩
        have s7 := same_new (o := .tup [.int (first : Int), .ref p6]) ht
        have lt1 := List.length_take_le i bs
        refine ⟨vf, .ref t, f, s0, r0, first, bs.take i, rfl, ⟨dpSame (s6.trans s7) (dvF x5), fok, es, .tup (SqT.of upd_same) (.cons (.int _) (.cons (.tup (sameT s7 h6) (dp_vN _)) .nil)), f4, by omega, fun y hy => b4 y (List.mem_of_mem_take hy)⟩, fun H8 s8 => ⟨true, rfl, iteF ?_⟩⟩
        exact ⟨_, rfl, j5.same (s6.trans (s7.trans s8))⟩
      · rintro σ H5 ⟨v6, rfl, j5⟩
        have x5 := j5.e
        obtain ⟨o5, m5, c5, hb5, ho5⟩ := j5.at_
        refine ⟨_, rfl, _, rfl, b, o5, m5, c5, rfl, hb5, ho5, fun H6 uu ru j6 d6 r2 => ⟨by show 2 ≤ sizeLine; decide, fun t ht => ?_⟩⟩
        have x6 : Exb b H4 H6 := x5.trans j6.e
        obtain ⟨o6, m6, c6, hb6, ho6⟩ := j6.at_
        have s7 := same_new (o := .tup [vf, uu]) ht
        have j7 : Jr b H4 (upd H6 t (.tup [vf, uu])) := (⟨x6, o6, m6, c6, hb6, ho6⟩ : Jr b H4 H6).same s7
        obtain ⟨H7, eH7⟩ : ∃ H7, H7 = upd H6 t (.tup [vf, uu]) := ⟨_, rfl⟩
        rw [← eH7] at s7 j7 ⊢
        have ht7 : H7 t = some (.tup [vf, uu]) := by
          rw [eH7]
          exact upd_same
        refine ⟨t, rfl, ⟨_, SqT.of ht7⟩, for_tup (K := K) (a := t) (xs := [vf, uu]) (fun i σ H' => ∃ v7 : Option V, σ = [some (.ref b), some vf, v2, v3, some (.int (first : Int)), some (.ref ba), v6, v7] ∧ Same H7 H') ⟨_, rfl, Same.refl _⟩ (fun i σ H' _ ⟨_, _, q⟩ => SqT.of (q _ _ ht7)) ?_ ?_⟩
        · rintro i x σ H8 hi ⟨v7, rfl, s8⟩
          obtain ⟨f', s0', r0', dx, fok', es'⟩ : ∃ f' s0' r0', Dp K H8 x (encFr f') ∧ FrmOk f' ∧ f'.ss = s0' :: r0' := by
            match i, hi with
            | 0, hi =>
              injection hi with hi
              subst hi
              exact ⟨f, s0, r0, dpSame s8 (dvF j7.e), fok, es⟩
            | 1, hi =>
              injection hi with hi
              subst hi
              exact ⟨unF ru, unS ru, [], dpSame (s7.trans s8) d6, unF_ok r2, rfl⟩
          refine ⟨_, rfl, _, rfl, by show 1 ≤ sizeLine; decide, fun p1 h1 => ⟨p1, 128, _, rfl, rfl, SqT.of upd_same, by simp, by decide, by decide, by show 1 ≤ 1000; decide, fun p2 H9 k9 h9 => ⟨by show 2 ≤ sizeLine; decide, fun t2 ht2 => ?_⟩⟩⟩
          have s9 : Same H8 H9 := (same_new (o := .tup [.int 255]) h1).trans k9
          have s10 := same_new (o := .tup [.int (first : Int), .ref p2]) ht2
          have e1' : (List.replicate (128 : Int).toNat [V.int 255]).flatten = vN (List.replicate 128 255) := rep_vN 128 255
          rw [e1'] at h9
          refine ⟨x, .ref t2, f', s0', r0', first, List.replicate 128 255, rfl, ⟨dpSame (s9.trans s10) dx, fok', es', .tup (SqT.of upd_same) (.cons (.int _) (.cons (.tup (sameT s10 h9) (dp_vN _)) .nil)), f4, by rw [List.length_replicate]; exact Nat.le_refl _, rep_lt (by decide)⟩, fun H11 s11 => ⟨true, rfl, iteF ?_⟩⟩
          have S11 := s9.trans (s10.trans s11)
          refine ⟨_, rfl, _, rfl, by show 1 ≤ sizeLine; decide, fun p3 h3 => ⟨p3, 128, _, rfl, rfl, SqT.of upd_same, by simp, by decide, by decide, by show 1 ≤ 1000; decide, fun p4 H12 k12 h12 => ⟨by show 2 ≤ sizeLine; decide, fun t4 ht4 => ?_⟩⟩⟩
          have s12 : Same H11 H12 := (same_new (o := .tup [.int 0]) h3).trans k12
          have s13 := same_new (o := .tup [.int (first : Int), .ref p4]) ht4
          have e2' : (List.replicate (128 : Int).toNat [V.int 0]).flatten = vN (List.replicate 128 0) := rep_vN 128 0
          rw [e2'] at h12
          refine ⟨x, .ref t4, f', s0', r0', first, List.replicate 128 0, rfl, ⟨dpSame (S11.trans (s12.trans s13)) dx, fok', es', .tup (SqT.of upd_same) (.cons (.int _) (.cons (.tup (sameT s13 h12) (dp_vN _)) .nil)), f4, by rw [List.length_replicate]; exact Nat.le_refl _, rep_lt (by decide)⟩, fun H14 s14 => ⟨true, rfl, iteF ?_⟩⟩
          exact ⟨_, rfl, s8.trans (S11.trans (s12.trans (s13.trans s14)))⟩
        · rintro σ H8 ⟨v7, rfl, s8⟩
          have j8 := j7.same s8
          obtain ⟨e8, o8, m8, c8, hb8, ho8⟩ := j8
          refine ⟨_, rfl, b, o8, m8, c8, rfl, hb8, ho8, fun H9 uu9 r9 j9 d9 r92 => ⟨_, rfl, _, rfl, by show 2 ≤ sizeLine; decide, fun t9 ht9 => ?_⟩⟩
          have s10 := same_new (o := .tup [.int (first : Int), .ref ba]) ht9
          refine ⟨uu9, .ref t9, unF r9, unS r9, [], first, bs, rfl, ⟨dpSame s10 d9, unF_ok r92, rfl, .tup (SqT.of upd_same) (.cons (.int _) (.cons (.tup (sameT s10 (hbaF (e8.trans j9.e))) (dp_vN _)) .nil)), f4, l4, b4⟩, fun H11 s11 => ?_⟩
          exact k H11 (x2.trans (x4.trans ((e8.trans j9.e).trans (Exb.of (s10.trans s11)))))
end
end LJ

namespace LJ
open PySem PySem.Spec PyProof.Rows L2 GuL HG Bt
abbrev sLaw : Stmt := topS 89
section
variable {P : Program} {w : World} {K : PySem.W.Frag} {mg : Str → Option Value} {base : Heap}
def spLaw (K : PySem.W.Frag) : Sp := fun vs H Q _ => ∃ (a : Addr) (ns : List Int), vs = [.ref a] ∧ SqL K H a (ns.map V.int) ∧ ns.length ≤ 63 ∧ ∀ H', Q (.bl true) H'
theorem scLaw : FnScope ["_law_script", "_law_turn"] ["_law_script"] (defScope sLaw) := ⟨rfl, rfl, rfl, by decide +kernel, rfl, by decide +kernel, by decide +kernel⟩
theorem same_exb {H H1 H2 : Hp} {p : Addr} (s : Same H H1) (n : H p = none) (e : Exb p H1 H2) : Same H H2 := fun b o h => e b o (ne_of_none h n) (s b o h)
theorem ok_law {f fR fB : Addr} {fd fdR fdB : FuncData} (F : Fun K "law" "law" sLaw f fd) (B : Blt mg) (FR : Fun K "_law_right" "_law_right" sRight fR fdR) (bR : Binds K fdR ["_law_jar_here"] []) (gR : mg "_law_right" = some (.ref fR)) (GR : FnG P w K mg base CX0 14 fR fdR ["_law_jar_here"] spRight)
    (FB : Fun K "_law_jar" "_law_jar" sJar fB fdB) (bB : Binds K fdB ["_law_script", "_law_turn"] []) (gB : mg "_law_jar" = some (.ref fB)) : FnG P w K mg base CX0 15 f fd ["_law_script"] (spLaw K) := by
  have GB : FnOk P w K mg base CX0 1 fB fdB ["_law_script", "_law_turn"] (spJar K) := ok_jar FB B
  refine okG F scLaw (fun vs H Q E h => ?_) (fun cdv A outer s H vs Q E hA hr h => ?_)
  · obtain ⟨a, ns, rfl, _⟩ := h
    rfl
  · obtain ⟨a, ns, rfl, hS, hlen, k⟩ := h
    have hr1 : Room 1 _ := hr.mono (by decide)
    refine ⟨_, pss_one (ps_ret (pe_callB (cr_all rfl) (by rfl) B.all (by decide +kernel) (pa_cons
      (pe_lc (own := [("_law_turn", 1)]) (g := gName 1) (tt := tYes) rfl scLaw.nd (pi_range1 (by rfl) B.range (pa_cons (pe_callB (call_max2 rfl) (by rfl) B.max (by decide +kernel) (pa_cons pe_int (pa_cons (pe_callB (call_min2 rfl) (by rfl) B.min (by decide +kernel)
          (pa_cons (pe_callB call_len_seq (by rfl) B.len PySem.boot_len (pa_cons (pv 0) pa_nil)) (pa_cons pe_int pa_nil))) pa_nil))) pa_nil))
        (blkOk_by (N := ["_law_script", "_law_turn"]) (sc := defScope sLaw) (by decide +kernel)) (fun _ _ _ _ _ => pg_name (i := 1) scLaw.nd rfl (Or.inl rfl)) (fun _ _ _ _ _ => pts_nil)
        (fun _ _ _ _ _ => pe_callG GR hA hr (by rfl) gR FR.kp bR .nil pass0 (pa_cons (pe_call GB hr1 (by rfl) gB FB.kp bB .nil pass0 (pa_cons (pv 0) (pa_cons (pv 1) pa_nil))) pa_nil))) pa_nil))), ?_⟩
    refine ⟨_, rfl, a, _, rfl, .inl hS, _, _, rfl, _, _, rfl, _, rfl, ?_, ?_, fun D hD => ?_⟩
    · split <;> split <;> omega
    · split <;> split <;> omega
    refine lc_range (lo := 0) (fun i H' => Same H H' ∧ H' D = some (.lst ((List.replicate i true).map V.bl))) ⟨same_new hD, upd_same⟩ ?_ ?_
    · rintro i H1 hi ⟨s1, f1⟩
      have i3 : i ≤ 1000 := by
        have : i < 1000 := by
          revert hi
          split <;> split <;> omega
        omega
      refine ⟨rfl, _, rfl, _, rfl, a, ns, _, rfl, s1.seq hS, hlen, by omega, fun H2 p o m s2 np fp ho => ?_⟩
      refine ⟨p, o, m, 0, rfl, fp, ho, fun H3 e3 => ?_⟩
      have nDp : D ≠ p := ne_of_none f1 np
      have np0 : H p = none := s1.free np
      have f3 : H3 D = some (.lst ((List.replicate i true).map V.bl)) := e3 _ _ nDp (s2 _ _ f1)
      refine ⟨_, f3, ?_, fun b u e => ?_, ?_⟩
      · rw [List.length_map, List.length_replicate]
        exact small1000 i3
      · rw [upd_ne (ne_of_none e hD)]
        exact same_exb (s1.trans s2) np0 e3 _ _ e
      · rw [upd_same, List.replicate_succ', List.map_append]
        rfl
    · rintro H1 ⟨s1, f1⟩
      refine ⟨D, _, rfl, SqL.of f1, ?_⟩
      have e : ∀ n : Nat, (List.replicate n true).all id = true := fun n => by simp
      rw [e]
      exact k _
end
end LJ

namespace LJ
open PySem PySem.Spec PyProof.Rows L2 GuL HG
theorem iteD {c A B : Prop} [Decidable c] (hc : c) (h : A) : if (decide c) = true then A else B := by
  rw [decide_eq_true hc]
  exact iteT h
theorem tyx_sqT {K : PySem.W.Frag} {H : Hp} {a : Addr} {xs : List V} (h : SqT K H a xs) : TyX K H (.ref a) (.type "tuple") := by
  rcases h with (h | ⟨o, h⟩) | ⟨o, its, n, h1, h2, _⟩
  · exact .base (.tup h)
  · exact .fTuple h
  · exact .kTuple h1 h2
/-- all([.. for x in t]) -/
theorem allTup {K : PySem.W.Frag} {σ : L2.St} {H : Hp} {Q : VK} {j : Nat} {tl te : TE} {a : Addr} {xs : List V} (ht : ∀ R : VK, R (.ref a) H → tl σ H R) (ha : SqT K H a xs) (hl : xs.length ≤ 900)
    (hw : ∀ x, wipe ((wipe σ [j]).set j (some x)) [j] = wipe σ [j])
    (hv : ∀ (i : Nat) (x : V) (H' : Hp) (R : VK), xs[i]? = some x → Same H H' → (∀ H'', Same H' H'' → R (.bl true) H'') → te ((wipe σ [j]).set j (some x)) H' R)
    (q : ∀ H', Same H H' → Q (.bl true) H') : tCB (rAll K) (tCons (tLc (iTup K tl) (gName j) tYes te [j]) tNil) σ H Q := by
  unfold tCB tCons tNil
  refine ht _ ⟨a, rfl, ⟨_, ha⟩, fun D hD => ?_⟩
  refine lc_tup (K := K) (a := a) (xs := xs) (fun n H' => Same H H' ∧ H' D = some (.lst ((List.replicate n true).map V.bl))) ⟨same_new hD, upd_same⟩ (fun n H' _ p => sameT p.1 ha) ?_ ?_
  · rintro n x H' hn ⟨s, f⟩
    have n9 : n < xs.length := (List.getElem?_eq_some_iff.mp hn).1
    refine ⟨hw _, hv n x H' _ hn s fun H'' s2 => ⟨_, s2 _ _ f, ?_, fun b u hb => ?_, ?_⟩⟩
    · rw [List.length_map, List.length_replicate]
      exact small1000 (by omega)
    · rw [upd_ne (ne_of_none hb hD)]
      exact s2 _ _ (s _ _ hb)
    · rw [upd_same, List.replicate_succ', List.map_append]
      rfl
  · rintro H' ⟨s, f⟩
    refine ⟨D, _, rfl, SqL.of f, ?_⟩
    have e : (List.replicate xs.length true).all id = true := by simp
    rw [e]
    exact q H' s
abbrev sNumber : Stmt := topS 9
abbrev sIsWord : Stmt := topS 10
abbrev sIsRow : Stmt := topS 12
abbrev sAreBytes : Stmt := topS 13
section
variable {P : Program} {w : World} {K : PySem.W.Frag} {mg : Str → Option Value} {base : Heap}
/-! ### numbers, words, bytes -/
theorem scNumber : FnScope ["value", "least", "most"] ["value", "least", "most"] (defScope sNumber) := ⟨rfl, rfl, rfl, by decide +kernel, rfl, by decide +kernel, by decide +kernel⟩
def spNumber : Sp := fun vs H Q _ => ∃ z a b : Int, vs = [.int z, .int a, .int b] ∧ a ≤ z ∧ z ≤ b ∧ Q (.bl true) H
theorem ok_number {f : Addr} {fd : FuncData} (F : Fun K "is_number" "is_number" sNumber f fd) (B : Blt mg) : FnOk P w K mg base CX0 1 f fd ["value", "least", "most"] spNumber := by
  refine F.ok scNumber (fun vs H Q E h => ?_) (fun cdv A outer s H vs Q E hr h => ?_)
  · obtain ⟨z, a, b, rfl, _⟩ := h
    rfl
  · obtain ⟨z, a, b, rfl, h1, h2, k⟩ := h
    refine ⟨_, pss_one (ps_ret (pe_and (pe_callB call_isi (by rfl) B.isi (by decide +kernel) (pa_cons (pv 0) (pa_cons (pe_bltn (v := .ty "int") (by rfl) B.int (by decide +kernel) rfl) pa_nil))) (pe_and (pe_chain op_le op_le (pv 1) (pv 0) (pv 2)) (pe_one (pe_not (pe_callB call_isi (by rfl) B.isi (by decide +kernel) (pa_cons (pv 0) (pa_cons (pe_bltn (v := .ty "bool") (by rfl) B.bool (by decide +kernel) rfl) pa_nil)))))))), ?_⟩
    refine ⟨_, rfl, .int z, .ty "int", _, _, true, rfl, .ty _, .base (.int z), kit_ty (by decide +kernel), true, rfl, iteT ?_⟩
    refine ⟨_, rfl, _, rfl, _, _, rfl, rfl, _, rfl, iteD h1 ⟨_, rfl, _, _, rfl, rfl, _, rfl, iteD h2 ?_⟩⟩
    exact ⟨_, rfl, .int z, .ty "bool", _, _, false, rfl, .ty _, .base (.int z), kit_ty (by decide +kernel), false, rfl, k⟩
theorem scIsWord : FnScope ["value", "width"] ["value", "width"] (defScope sIsWord) := ⟨rfl, rfl, rfl, by decide +kernel, rfl, by decide +kernel, by decide +kernel⟩
def spIsWord : Sp := fun vs H Q _ => ∃ (z : Int) (n : Nat), vs = [.int z, .int (n : Int)] ∧ 0 ≤ z ∧ z < 2 ^ n ∧ n ≤ 64 ∧ Q (.bl true) H
theorem ok_isword {f fN : Addr} {fd fdN : FuncData} (F : Fun K "is_word" "is_word" sIsWord f fd) (B : Blt mg) (FN : Fun K "is_number" "is_number" sNumber fN fdN) (bN : Binds K fdN ["value", "least", "most"] []) (gN : mg "is_number" = some (.ref fN)) : FnOk P w K mg base CX0 2 f fd ["value", "width"] spIsWord := by
  have GN : FnOk P w K mg base CX0 1 fN fdN ["value", "least", "most"] spNumber := ok_number FN B
  refine F.ok scIsWord (fun vs H Q E h => ?_) (fun cdv A outer s H vs Q E hr h => ?_)
  · obtain ⟨z, n, rfl, _⟩ := h
    rfl
  · obtain ⟨z, n, rfl, h1, h2, h3, k⟩ := h
    refine ⟨_, pss_one (ps_ret (pe_and (pe_callB call_isi (by rfl) B.isi (by decide +kernel) (pa_cons (pv 0) (pa_cons (pe_bltn (v := .ty "int") (by rfl) B.int (by decide +kernel) rfl) pa_nil))) (pe_and (pe_chain op_le op_lt pe_int (pv 0) (pe_op op_shl pe_int (pv 1))) (pe_one (pe_not (pe_callB call_isi (by rfl) B.isi (by decide +kernel) (pa_cons (pv 0) (pa_cons (pe_bltn (v := .ty "bool") (by rfl) B.bool (by decide +kernel) rfl) pa_nil)))))))), ?_⟩
    have h4 : z < 1 * 2 ^ (n : Int).toNat := by
      rw [Int.one_mul, Int.toNat_natCast]
      exact h2
    refine ⟨_, rfl, .int z, .ty "int", _, _, true, rfl, .ty _, .base (.int z), kit_ty (by decide +kernel), true, rfl, iteT ?_⟩
    refine ⟨_, rfl, _, _, rfl, rfl, _, rfl, iteD h1 ⟨_, rfl, _, _, rfl, rfl, ⟨by omega, by omega, by decide⟩, _, _, rfl, rfl, _, rfl, iteD h4 ?_⟩⟩
    exact ⟨_, rfl, .int z, .ty "bool", _, _, false, rfl, .ty _, .base (.int z), kit_ty (by decide +kernel), false, rfl, k⟩
theorem scIsRow : FnScope ["value", "least", "most"] ["value", "least", "most"] (defScope sIsRow) := ⟨rfl, rfl, rfl, by decide +kernel, rfl, by decide +kernel, by decide +kernel⟩
def spIsRow (K : PySem.W.Frag) : Sp := fun vs H Q _ => ∃ (a : Addr) (xs : List V) (lo hi : Int), vs = [.ref a, .int lo, .int hi] ∧ SqT K H a xs ∧ lo ≤ (xs.length : Int) ∧ (xs.length : Int) ≤ hi ∧ Q (.bl true) H
theorem ok_isrow {f : Addr} {fd : FuncData} (F : Fun K "is_row" "is_row" sIsRow f fd) (B : Blt mg) : FnOk P w K mg base CX0 1 f fd ["value", "least", "most"] (spIsRow K) := by
  refine F.ok scIsRow (fun vs H Q E h => ?_) (fun cdv A outer s H vs Q E hr h => ?_)
  · obtain ⟨a, xs, lo, hi, rfl, _⟩ := h
    rfl
  · obtain ⟨a, xs, lo, hi, rfl, h1, h2, h3, k⟩ := h
    refine ⟨_, pss_one (ps_ret (pe_and (pe_callB call_isi (by rfl) B.isi (by decide +kernel) (pa_cons (pv 0) (pa_cons (pe_bltn (v := .ty "tuple") (by rfl) B.tuple (by decide +kernel) rfl) pa_nil))) (pe_one (pe_chain op_le op_le (pv 1) (pe_callB call_len_seq (by rfl) B.len PySem.boot_len (pa_cons (pv 0) pa_nil)) (pv 2))))), ?_⟩
    refine ⟨_, rfl, .ref a, .ty "tuple", _, _, true, rfl, .ty _, tyx_sqT h1, kit_ty (by decide +kernel), true, rfl, iteT ?_⟩
    refine ⟨_, rfl, _, rfl, a, _, rfl, .inr h1, _, _, rfl, rfl, _, rfl, iteD h2 ⟨_, rfl, _, _, rfl, rfl, ?_⟩⟩
    show Q (.bl (decide ((xs.length : Int) ≤ hi))) H
    rw [decide_eq_true h3]
    exact k
end
end LJ

namespace LJ
open PySem PySem.Spec PyProof.Rows L2 GuL HG Bt
/-! ### signs taken off both ends, none of a dict's keys -/
theorem takeAll {α : Type} {p : α → Bool} : ∀ {l : List α}, (∀ a ∈ l, p a = true) → l.takeWhile p = l
  | [], _ => rfl
  | a :: l, h => by
    rw [List.takeWhile_cons, if_pos (h a List.mem_cons_self), takeAll fun b hb => h b (List.mem_cons_of_mem _ hb)]
theorem strip_nil {z y : Str} (h : ∀ c ∈ z.cps.toList, c ∈ y.cps.toList) : (Txt.stripChars z y).length = 0 := by
  have e : z.cps.toList.takeWhile y.cps.contains = z.cps.toList := takeAll fun c hc => by
    rw [Array.contains_iff_mem]
    exact Array.mem_toList_iff.mp (h c hc)
  have lo : stripLo y.cps.contains true z = z.cps.size := by
    unfold stripLo
    rw [if_pos rfl, e]
    simp
  unfold Txt.stripChars Txt.stripBy
  split
  · rename_i q
    unfold stripSame at q
    obtain ⟨q1, _⟩ := Bool.and_eq_true_iff.mp q
    rw [lo] at q1
    exact eq_of_beq q1
  · unfold stripped
    rw [lo]
    have hi : stripHi y.cps.contains true z z.cps.size = z.cps.size := by
      unfold stripHi
      rw [if_pos rfl]
      have : z.cps.toList.drop z.cps.size = [] := List.drop_eq_nil_of_le (by simp)
      rw [this]
      rfl
    rw [hi]
    show (Str.mk (z.cps.extract z.cps.size z.cps.size)).length = 0
    simp [Str.length]
theorem find_none {P : Params} {z : Str} : ∀ {l : List DictEntry} {ks : List Str}, l.map He.keyOf = He.keysIn P ks → z ∉ ks → l.find? (·.key.isStr z) = none ∧ l.any (·.refKey) = false
  | [], _, _, _ => ⟨rfl, rfl⟩
  | e :: r, [], h, _ => by cases h
  | e :: r, k :: ks, h, n => by
    have h1 : He.keyOf e :: r.map He.keyOf = some (k, PyData.keyHash P k) :: He.keysIn P ks := h
    injection h1 with h2 h3
    obtain ⟨i1, i2⟩ := find_none h3 fun m => n (List.mem_cons_of_mem _ m)
    unfold He.keyOf at h2
    split at h2
    · rename_i x t q
      have h4 := Option.some.inj h2
      obtain ⟨h5, h6⟩ := Prod.mk.inj h4
      have ne : x ≠ z := fun e => n (by rw [← e, h5]; exact List.mem_cons_self)
      refine ⟨?_, ?_⟩
      · rw [List.find?_cons, q]
        have : Value.isStr (.str x t) z = false := by
          show (x == z) = false
          exact beq_eq_false_iff_ne.mpr ne
        rw [this]
        exact i1
      · rw [List.any_cons, i2]
        unfold DictEntry.refKey
        rw [q]
        rfl
    · cases h2
/-- a dict of just these texts stands at a -/
structure KeptAt (K : PySem.W.Frag) (w : World) (a : Addr) (zs : List Str) : Prop where
  kd : ∃ es n, KDict K w a es n
  no : ∀ z, z ∉ zs → PySem.W.nsIn K a z = some none
theorem keptAt {K : PySem.W.Frag} {w : World} {a : Addr} {zs : List Str} {es : Array DictEntry} {n : Nat} (l : K.lookup a = some ⟨.type "dict", none, .dict es n, #[]⟩) (q : es.toList.map He.keyOf = He.keysIn w.params zs) (low : (a == sysModules) = false) : KeptAt K w a zs := by
  refine ⟨⟨es, n, l, He.keysLit_of q, low⟩, fun z hz => ?_⟩
  obtain ⟨h1, h2⟩ := find_none q hz
  unfold PySem.W.nsIn
  rw [l]
  show (match es.toList.find? (·.key.isStr z) with
      | some e => some (some e.val)
      | none => if es.toList.any (·.refKey) then none else some none) = some none
  rw [h1, h2]
  rfl
end LJ

namespace LJ
open PySem PySem.Spec PyProof.Rows L2 GuL HG Bt
abbrev sIsName : Stmt := topS 14
theorem pe_gc {X : Cx} {x : Str} {v : V} {pos : Pos} (hg : Gl X x) (h : ∃ u, X.mg x = some u ∧ RelV v u) (hd : (x == ("__debug__" : Str)) = false := by decide) : PE X (.Name x pos) (tC v) := by
  obtain ⟨u, hm, r⟩ := h
  exact pe_glob hg hm r hd
/-- the program's constants -/
structure Cst (K : PySem.W.Frag) (w : World) (mg : Str → Option Value) : Prop where
  letters : ∃ u, mg "LETTERS" = some u ∧ RelV (.str (Str.ofString "abcdefghijklmnopqrstuvwxyz")) u
  signs : ∃ u, mg "NAME_SIGNS" = some u ∧ RelV (.str (Str.ofString "abcdefghijklmnopqrstuvwxyz0123456789_")) u
  kept : ∃ a, mg "KEPT_WORDS" = some (.ref a) ∧ KeptAt K w a keptN
  mh : ∃ u, mg "MOST_HEADERS" = some u ∧ RelV (.int 6) u
  mf : ∃ u, mg "MOST_FIELDS" = some u ∧ RelV (.int 12) u
  mw : ∃ u, mg "WORD_WIDTH" = some u ∧ RelV (.int 32) u
  mb : ∃ u, mg "MOST_HEADER_BITS" = some u ∧ RelV (.int 128) u
section
variable {P : Program} {w : World} {K : PySem.W.Frag} {mg : Str → Option Value} {base : Heap}
/-! ### rows of bytes -/
theorem scAreBytes : FnScope ["value", "least", "most", "byte"] ["value", "least", "most"] (defScope sAreBytes) := ⟨rfl, rfl, rfl, by decide +kernel, rfl, by decide +kernel, by decide +kernel⟩
def spAreBytes (K : PySem.W.Frag) : Sp := fun vs H Q _ => ∃ (v : V) (bs : List Nat) (lo hi : Int), vs = [v, .int lo, .int hi] ∧ Dp K H v (encNs bs) ∧ lo ≤ (bs.length : Int) ∧ (bs.length : Int) ≤ hi ∧ bs.length ≤ 800 ∧ (∀ b ∈ bs, b < 256) ∧ ∀ H', Same H H' → Q (.bl true) H'
theorem ok_arebytes {f fR fB : Addr} {fd fdR fdB : FuncData} (F : Fun K "are_bytes" "are_bytes" sAreBytes f fd) (B : Blt mg) (FR : Fun K "is_row" "is_row" sIsRow fR fdR) (bR : Binds K fdR ["value", "least", "most"] []) (gR : mg "is_row" = some (.ref fR))
    (FB : Fun K "is_number" "is_number" sNumber fB fdB) (bB : Binds K fdB ["value", "least", "most"] []) (gB : mg "is_number" = some (.ref fB)) (GB : FnOk P w K mg base CX0 1 fB fdB ["value", "least", "most"] spNumber) : FnOk P w K mg base CX0 4 f fd ["value", "least", "most"] (spAreBytes K) := by
  have GR : FnOk P w K mg base CX0 1 fR fdR ["value", "least", "most"] (spIsRow K) := ok_isrow FR B
  refine F.ok scAreBytes (fun vs H Q E h => ?_) (fun cdv A outer s H vs Q E hr h => ?_)
  · obtain ⟨v, bs, lo, hi, rfl, _⟩ := h
    rfl
  · obtain ⟨v, bs, lo, hi, rfl, dv, h1, h2, h3, h4, k⟩ := h
    refine ⟨_, pss_one (ps_ret (pe_and (pe_call GR (hr.mono (by decide)) (by rfl) gR FR.kp bR .nil pass0 (pa_cons (pv 0) (pa_cons (pv 1) (pa_cons (pv 2) pa_nil)))) (pe_one (pe_callB (cr_all rfl) (by rfl) B.all (by decide +kernel) (pa_cons
      (pe_lc (own := [("byte", 3)]) (g := gName 3) (tt := tYes) rfl scAreBytes.nd (pi_tup (pv 0)) (blkOk_by (N := ["value", "least", "most", "byte"]) (sc := defScope sAreBytes) (by decide +kernel)) (fun _ _ _ _ _ => pg_name (i := 3) scAreBytes.nd rfl (Or.inl rfl)) (fun _ _ _ _ _ => pts_nil)
        (fun _ _ _ _ _ => pe_call GB (hr.mono (by decide)) (by rfl) gB FB.kp bB .nil pass0 (pa_cons (pv 3) (pa_cons pe_int (pa_cons pe_int pa_nil))))) pa_nil))))), ?_⟩
    obtain ⟨a, xs, rfl, ha, hd⟩ := dp_tup dv
    obtain rfl := dp_vN_inv hd
    have lv := vN_len bs
    refine ⟨_, rfl, _, rfl, _, rfl, a, _, lo, hi, rfl, ha, by omega, by omega, true, rfl, iteT ?_⟩
    refine allTup (fun R r => ⟨_, rfl, r⟩) ha (by omega) (fun _ => rfl) (fun i x H' R hx s' r => ?_) k
    obtain ⟨n, hn, rfl⟩ := vN_at hx
    have h5 := h4 n (List.mem_of_getElem? hn)
    exact ⟨_, rfl, (n : Int), 0, 255, rfl, by omega, by omega, r H' (Same.refl _)⟩
/-! ### names -/
theorem scIsName : FnScope ["value"] ["value"] (defScope sIsName) := ⟨rfl, rfl, rfl, by decide +kernel, rfl, by decide +kernel, by decide +kernel⟩
def spIsName : Sp := fun vs H Q _ => ∃ z : Str, vs = [.str z] ∧ NameOk z ∧ ∀ H', Same H H' → Q (.bl true) H'
theorem ok_isname {f : Addr} {fd : FuncData} (F : Fun K "is_name" "is_name" sIsName f fd) (B : Blt mg) (C : Cst K w mg) : FnOk P w K mg base CX0 1 f fd ["value"] spIsName := by
  refine F.ok scIsName (fun vs H Q E h => ?_) (fun cdv A outer s H vs Q E hr h => ?_)
  · obtain ⟨z, rfl, _⟩ := h
    rfl
  · obtain ⟨z, rfl, hz, k⟩ := h
    obtain ⟨kw, gK, ⟨es, n, hK⟩, hn⟩ := C.kept
    have hl := sh_len hz.sh
    have hlen : z.length = z.cps.toList.length := str_len z
    have l0 : 0 < z.length := by omega
    have l1 : z.length ≤ 12 := by omega
    have nm_strip : (Txt.stripChars z (Str.ofString "abcdefghijklmnopqrstuvwxyz0123456789_")).length = 0 := strip_nil (sh_signs hz.sh)
    obtain ⟨c0, hc0⟩ : ∃ c0, z.cps.toList[0]? = some c0 := ⟨_, List.getElem?_eq_getElem (by omega)⟩
    have hcm : c0 ∈ letters := sh_first hz.sh c0 (by
      cases hz' : z.cps.toList with
      | nil => rw [hz'] at hc0; cases hc0
      | cons y ys =>
        rw [hz'] at hc0
        cases hc0
        exact List.mem_singleton.mpr rfl)
    refine ⟨_, pss_cons (ps_if (PW.pt (pw_or (pt_not (pt_val (pe_callB call_isi (by rfl) B.isi (by decide +kernel) (pa_cons (pv 0) (pa_cons (pe_bltn (v := .ty "str") (by rfl) B.str (by decide +kernel) rfl) pa_nil))))) (pw_or1 (pt_not (pt_chain op_lt op_le pe_int (pe_callB call_len_str (by rfl) B.len PySem.boot_len (pa_cons (pv 0) pa_nil)) pe_int))))) (pss_one (ps_ret pe_bl)) pss_nil)
      (pss_one (ps_ret (pe_and (pe_notT (pe_bm PySem.F.plainAttrs_str PySem.F.slot_str_strip PySem.F.type_str_strip mt_stripChars (pv 0) (pa_cons (pe_gc (by rfl) C.signs) pa_nil))) (pe_and (pe_cmpR op_in_sign (pe_ix ix_str (pv 0) pe_int (fun _ _ => rfl)) (pe_gc (by rfl) C.letters) (by rfl)) (pe_one (pe_cmpR (op_notIn_kd hK) (pv 0) (pe_gc (v := .ref kw) (by rfl) ⟨_, gK, rfl⟩) (by rfl))))))), ?_⟩
    refine ⟨_, rfl, .str z, .ty "str", _, _, true, rfl, .ty _, .base (.str z), kit_ty (by decide +kernel), true, rfl, iteF ?_⟩
    refine ⟨_, rfl, z, rfl, Nat.le_trans (show z.length ≤ 12 by omega) (by decide), _, _, rfl, rfl, _, rfl, ?_⟩
    rw [show decide ((0 : Int) < ((z.length : Nat) : Int)) = true from decide_eq_true (by omega)]
    refine ⟨_, _, rfl, rfl, ?_⟩
    have e12 : decide ((z.length : Int) ≤ 12) = true := decide_eq_true (by omega)
    refine ⟨true, congrArg V.bl e12, iteF ?_⟩
    refine ⟨_, rfl, rfl, _, _, rfl, rfl, Nat.le_trans (show z.length ≤ 12 by omega) (by decide), false, ⟨by rw [nm_strip]; decide, by rw [nm_strip]; rfl⟩, true, rfl, iteT ?_⟩
    refine ⟨_, rfl, z, 0, c0, rfl, rfl, Nat.le_trans (show z.length ≤ 12 by omega) (by decide), atI_nat (j := 0) hc0, c0, _, rfl, rfl, ?_⟩
    have e2 : decide (c0 ∈ (Str.ofString "abcdefghijklmnopqrstuvwxyz").cps.toList) = true := decide_eq_true hcm
    refine ⟨true, congrArg V.bl e2, iteT ?_⟩
    exact ⟨_, rfl, z, none, rfl, rfl, hn z hz.nk, k _ (Same.refl _)⟩
end
end LJ

/-! set(t) of a tuple of any texts: how many of them are unlike -/
namespace TxS
open PySem PySem.Spec PyProof.Rows
/-- how many unlike ones stand ahead of i -/
def cnt (xs : List Str) : Nat → Nat
  | 0 => 0
  | i + 1 => if decide (xs.getD i Str.empty ∈ xs.take i) = true then cnt xs i else cnt xs i + 1
theorem cnt_le (xs : List Str) : ∀ i, cnt xs i ≤ i
  | 0 => Nat.le_refl _
  | i + 1 => by
    have := cnt_le xs i
    unfold cnt
    split <;> omega
theorem nodup_not_mem {xs : List Str} (h : xs.Nodup) {i : Nat} (hi : i < xs.length) : xs.getD i Str.empty ∉ xs.take i := by
  intro m
  obtain ⟨j, hj⟩ := List.mem_iff_getElem?.mp m
  have hj2 : j < i := by
    have q := (List.getElem?_eq_some_iff.mp hj).1
    rw [List.length_take] at q
    omega
  rw [List.getElem?_take_of_lt hj2] at hj
  have e : xs[i]? = some (xs.getD i Str.empty) := by
    rw [List.getD_eq_getElem?_getD, List.getElem?_eq_getElem hi]
    rfl
  have z := (List.getElem?_inj hi h).mp (e.trans hj.symm)
  omega
theorem cnt_nodup {xs : List Str} (h : xs.Nodup) : ∀ i, i ≤ xs.length → cnt xs i = i
  | 0, _ => rfl
  | i + 1, hi => by
    have a := nodup_not_mem h (show i < xs.length by omega)
    unfold cnt
    rw [decide_eq_false a, if_neg Bool.false_ne_true, cnt_nodup h i (by omega)]
theorem take_any {xs : List Str} {i : Nat} (h : i < xs.length) (y : Str) : (decide (y ∈ xs.take i) || decide (y = xs.getD i Str.empty)) = decide (y ∈ xs.take (i + 1)) := by
  have e : xs.take (i + 1) = xs.take i ++ [xs.getD i Str.empty] := by
    rw [List.take_add_one, List.getD_eq_getElem?_getD, List.getElem?_eq_getElem h]
    rfl
  rw [e, Bool.eq_iff_iff]
  simp [List.mem_append]
section
variable {q : Program} {w : World} {A : Around} {R : Result → Shared → Prop} {J : Addr} {fp wr : List Addr} {G : Array GenState → Array GenState → Prop} {n : Nat} {P : Nat → Value → Prop} {St : Nat → Shared → Prop}
theorem turns (W : WalksS q w A.in1 J fp wr G n P St) (b : Addr) (hb : b ∉ fp) (xs : List Str) (hl : xs.length = n) (hs : n + 1 < scanBound) (hv : ∀ i v, P i v → ∃ t, v = .str (xs.getD i Str.empty) t) :
    ∀ (m i : Nat) (s : Shared), n - i = m → i ≤ n → St i s → s.heap.SetOf (strKind q w) b (fun y => decide (y ∈ xs.take i)) (cnt xs i) →
      (∀ s', Moved (b :: wr) G s s' → s'.heap.SetOf (strKind q w) b (fun y => decide (y ∈ xs.take n)) (cnt xs n) → R (.ok (.ret .none)) s') → codeAny (model q w) A (.builtin "set.update.loop" ⟨[.ref b, .ref J], []⟩) R s := by
  have nw : b ∉ wr := fun z => hb (W.sub _ z)
  have up : ∀ c ∈ wr, c ∈ b :: wr := fun c z => List.mem_cons_of_mem _ z
  intro m
  induction m with
  | zero =>
    intro i s hm hi st hS k
    obtain rfl : i = n := by omega
    refine codeAny_builtin PyProof.Rows.F.entry_set_update_loop ?_
    rw [Around.under_plainId PyProof.Rows.F.plain_set_update_loop _]
    refine wpAny_bind (W.done s _ _ st fun s1 mv => ?_)
    refine wpAny_pure (k s1 (mv.mono up) ?_)
    obtain ⟨o, es, ep, t, ho, more⟩ := hS
    exact ⟨o, es, ep, t, mv.heap b _ nw ho, more⟩
  | succ m ih =>
    intro i s hm hi st hS k
    have lt : i < n := by omega
    refine codeAny_builtin PyProof.Rows.F.entry_set_update_loop ?_
    rw [Around.under_plainId PyProof.Rows.F.plain_set_update_loop _]
    refine wpAny_bind (W.item i s _ _ lt st fun v s1 hP st1 mv => ?_)
    obtain ⟨t, rfl⟩ := hv i v hP
    have hS1 : s1.heap.SetOf (strKind q w) b (fun y => decide (y ∈ xs.take i)) (cnt xs i) := by
      obtain ⟨o, es, ep, t, ho, more⟩ := hS
      exact ⟨o, es, ep, t, mv.heap b _ nw ho, more⟩
    refine wpAny_bind (wpAny_holding ?_)
    unfold setAdd
    refine wpAny_holding (wpAny_bind ((strKind q w).pyHash (k := xs.getD i Str.empty) (strKind_is _ _ _ _) ?_))
    have room : cnt xs i + 1 < scanBound := by
      have := cnt_le xs i
      omega
    refine wpAny_setAddHashed_of (knd := strKind q w) (s := { s1 with toks := s1.toks + 1 }) (strKind_is _ _ _ _) rfl hS1 room fun h' sb hS2 => ?_
    have hS3 : h'.SetOf (strKind q w) b (fun y => decide (y ∈ xs.take (i + 1))) (cnt xs (i + 1)) := SetOf_congr hS2 (fun y => take_any (by omega) y) rfl
    refine wpAny_pure ⟨plainId_quiet PyProof.Rows.F.plain_set_update_loop _, ih (i + 1) _ (by omega) lt (W.frame _ s1 _ _ st1 (Nat.le_succ _) fun c z o e => ?_) hS3 fun s2 mv2 hS4 => k s2 ?_ hS4⟩
    · rw [sb.2 c (fun z2 : c = b => hb (z2 ▸ z))]
      exact e
    · refine Moved.trans W.gtrans ((mv.mono up).then_heap (Nat.le_succ _) fun c o z e => ?_) mv2
      rw [sb.2 c (fun z2 : c = b => z (z2 ▸ List.mem_cons_self))]
      exact e
end
section
variable {q : Program} {w : World} {A : Around} {E : Value → Shared → Prop} {s : Shared}
/-- a new set, nothing in it -/
abbrev bare (led : Bool) : Obj := { cls := .type "set", dict := none, data := .set #[] 0 (.fresh 0 0 led) }
set_option maxHeartbeats 3200000 in
/-- the tuple t of the texts xs is put into the new set -/
theorem fills {t : Addr} {its : Array Value} {xs : List Str} {led : Bool} {Q : Fin → Shared → Prop} (hh : A.handled = none) (ht : s.heap.IsTuple t its) (hx : StrsAre its.toList xs) (hs : its.size + 1 < scanBound)
    (hQ : ∀ h' tk, h'.SetOf (strKind q w) s.heap.objs.size (fun y => decide (y ∈ xs.take its.size)) (cnt xs its.size) → (∀ c o, c < s.heap.objs.size → s.heap.get? c = some o → h'.get? c = some o) → Q (.done (.ret .none)) { s with heap := h', toks := tk }) :
    wpAny (model q w) A (Builtin.«set.__init__» ⟨[.ref s.heap.objs.size, .ref t], []⟩) Q E { s with heap := s.heap.push (bare led) } := by
  obtain ⟨⟨kc, kd, kdat, ks⟩, hot, hct, nt, hdt⟩ := ht
  obtain rfl : kc = .type "tuple" := hct
  obtain rfl : kdat = .seq its nt := hdt
  have new : (s.heap.push (bare led)).get? s.heap.objs.size = some (bare led) := Heap.get?_push_size _ rfl
  have old := Heap.get?_push_of_some (bare led) hot
  have T1 : (s.heap.push (bare led)).IsTuple t its := ⟨_, old, rfl, nt, rfl⟩
  have a1 := PySem.F.sub_tuple_set
  have a2 := PySem.F.sub_tuple_frozenset
  have a3 : ((Value.type "tuple") == (Value.type "dict")) = false := by decide
  unfold Builtin.«set.__init__» noKeywords
  unfold Builtin.Frozenset.updateFrom
  generalize walkE : pyIter = PI
  wp_walk
  subst walkE
  refine wpAny_pyIter_tuple T1 (wpAny_bind (wpAny_runValue ?_))
  have lt := Heap.lt_size hot
  have z1 : t ≠ (s.heap.push (bare led)).objs.size := by
    rw [Heap.size_push]
    exact Nat.ne_of_lt (Nat.lt_succ_of_lt lt)
  have z2 : s.heap.objs.size ∉ [(s.heap.push (bare led)).objs.size, t] := by
    rw [Heap.size_push]
    simp only [List.mem_cons, List.not_mem_nil, or_false, not_or]
    exact ⟨Nat.ne_of_lt (Nat.lt_succ_self _), Nat.ne_of_gt lt⟩
  have len : xs.length = its.size := by rw [← StrsAre.len_eq hx, Array.length_toList]
  have vals : ∀ (i : Nat) (v : Value), its[i]? = some v → ∃ u, v = .str (xs.getD i Str.empty) u := fun i v e => SS.strs_at hx i v (by rw [Array.getElem?_toList]; exact e)
  refine turns ((Walks.tuple (by simp [hh]) _ t z1 its).toS) _ z2 xs len hs vals (its.size - 0) 0 _ rfl (Nat.zero_le _) ⟨⟨_, Heap.get?_push_size _ rfl, rfl, rfl⟩, T1.push _⟩ ?S ?k
  case S => exact SetOf_congr ((setObjOf_fresh (knd := strKind q w) led).setOf (Heap.get?_push_of_some _ new) (by unfold scanBound; omega)) (fun _ => by simp) rfl
  case k =>
    rintro ⟨h', g', d', tk', os'⟩ mv hS
    obtain rfl : g' = s.gens := mv.gens
    obtain rfl : d' = s.drawn := mv.drawn
    obtain rfl : os' = s.os := mv.os
    refine wpAny_pure (wpAny_pure (hQ h' tk' hS fun c o lc e => ?_))
    refine mv.heap c o ?_ (Heap.get?_push_of_some _ (Heap.get?_push_of_some _ e))
    rw [Heap.size_push]
    simp only [List.mem_cons, List.not_mem_nil, or_false, not_or]
    exact ⟨Nat.ne_of_lt lc, Nat.ne_of_lt (Nat.lt_succ_of_lt lc)⟩
set_option maxHeartbeats 3200000 in
/-- set(t) -/
theorem made {t : Addr} {its : Array Value} {xs : List Str} {Q : Value → Shared → Prop} (hh : A.handled = none) (ht : s.heap.IsTuple t its) (hx : StrsAre its.toList xs) (hs : its.size + 1 < scanBound)
    (hQ : ∀ h' tk, h'.SetOf (strKind q w) s.heap.objs.size (fun y => decide (y ∈ xs.take its.size)) (cnt xs its.size) → (∀ c o, c < s.heap.objs.size → s.heap.get? c = some o → h'.get? c = some o) → Q (.ref s.heap.objs.size) { s with heap := h', toks := tk }) :
    wpAny (model q w) A (call (.type "set") [.ref t]) Q E s := by
  obtain ⟨c, tl, mro⟩ := PySem.F.called_set.mro
  have f1 := PySem.F.called_set.made
  have f2 := PySem.F.called_set.sub
  have f3 := PySem.F.called_set.notType
  have f4 := PySem.F.called_set.canCreate
  have f5 := PySem.F.typeCall_set_1 (.ref t)
  have f6 := PySem.F.called_set.init.lookup
  have f7 := PySem.F.called_set.init.bind (.ref s.heap.objs.size)
  refine wpAny_call (codeAny_of_tree ?_)
  refine wpAny_pure ⟨Code.quiet_builtin _ (by decide +kernel), ?_⟩
  refine codeAny_builtin PySem.F.entry_type_call ?_
  rw [Around.under_plain (weight_type_call_type "set" [.ref t] []) rfl]
  repeat (any_goals first | assumption | wp_step)
  refine codeAny_mono (code_set_new_1 (.ref t) (E := E) (Q₁ := fun v s1 => ∃ led, v = .ref s.heap.objs.size ∧ s1 = { s with heap := s.heap.push (bare led) }) fun led => ⟨led, rfl, rfl⟩) fun r s1 hr => ?_
  match r, hr with
  | .error e, hr => exact hr
  | .ok (.ret v), hr =>
    obtain ⟨led, rfl, rfl⟩ := hr
    have new : (s.heap.push (bare led)).get? s.heap.objs.size = some (bare led) := Heap.get?_push_size _ rfl
    have ty : Shared.TypeIs { s with heap := s.heap.push (bare led) } (.ref s.heap.objs.size) "set" := ⟨_, new, rfl⟩
    repeat (any_goals first | assumption | wp_step)
    refine codeAny_mono (codeAny_call_builtin (R := fun r s2 => match r with
        | .ok (.ret v) => v = .none ∧ ∃ h' tk, s2 = { s with heap := h', toks := tk } ∧ h'.SetOf (strKind q w) s.heap.objs.size (fun y => decide (y ∈ xs.take its.size)) (cnt xs its.size) ∧ ∀ c o, c < s.heap.objs.size → s.heap.get? c = some o → h'.get? c = some o
        | .error e => E e s2
        | _ => False) PySem.F.called_set.init.plain PySem.F.entry_set_init (check_set_init_1 ty (fills (by simp [hh]) ht hx hs fun h' tk hS kp => ⟨rfl, h', tk, rfl, hS, kp⟩))) fun r2 s2 hr2 => ?_
    match r2, hr2 with
    | .error e, hr2 => exact hr2
    | .ok (.ret v), hr2 =>
      obtain ⟨rfl, h', tk, rfl, hS, kp⟩ := hr2
      repeat (any_goals first | assumption | wp_step)
      exact hQ _ _ hS kp
    | .ok .next, hr2 => exact hr2.elim
    | .ok .brk, hr2 => exact hr2.elim
    | .ok .cont, hr2 => exact hr2.elim
  | .ok .next, hr => exact hr.elim
  | .ok .brk, hr => exact hr.elim
  | .ok .cont, hr => exact hr.elim
end
end TxS

namespace TxS
open PySem PySem.Spec PyProof.Rows L2
def tLenTx (K : PySem.W.Frag) (ta : TE) : TE := fun σ H Q => ta σ H fun x H1 => ∃ (l : Addr) (xs : List Str), x = .ref l ∧ SqT K H1 l (xs.map V.str) ∧ xs.length ≤ 1000 ∧ Q (.int (cnt xs xs.length : Nat)) H1
variable {X : Cx}
/-- len(set(t)), t a tuple of texts -/
theorem pe_lenTx {a : Expr} {ta : TE} {p1 p2 p3 p4 : Pos} (hc : X.calm = true) (g1 : Gl X "len") (m1 : X.mg "len" = none) (g2 : Gl X "set") (m2 : X.mg "set" = none) (ha : PE X a ta) (st : starEach [a] X.env = (false, eval a X.env) :: starEach [] X.env := by rfl) :
    PE X (.Call (.Name "len" p1) [.Call (.Name "set" p2) [a] [] p3] [] p4) (tLenTx X.K ta) := by
  refine ⟨fun pins s σ H Q I h => Call_ (ld_blt I g1 m1 boot_len (callWith_builtin1 (args_cons (Call_ (ld_blt I g2 m2 boot_set ?_)) rfl) rfl rfl))⟩
  refine callWith_type1 (args_cons (thn (ha.run pins s σ H _ I h) fun v s1 z => args_nil ?_) st) st rfl
  obtain ⟨x, H1, I1, r1, l, xs, rfl, hq, hl, k⟩ := z
  cases r1
  obtain ⟨its, r, tp, _⟩ := I1.tuple hq
  have len : its.toArray.size = xs.length := by rw [List.size_toArray, ← r.length, List.length_map]
  refine made (I1.ok.hd hc) tp (by simpa using strsAre_of r) (by rw [len]; unfold scanBound; omega) fun h' tk hS kp => args_nil ?_
  rw [len] at hS
  obtain ⟨o, es, ep, t, ho, ex, hd, _, _, _, hf, hn⟩ := hS
  have I2 : Inv X pins σ H1 { s1 with heap := h', toks := tk } := I1.kept fun b o e => kp b o (Heap.lt_size e) e
  have c1 := cnt_le xs xs.length
  exact call_len_set ho ex hd hf (by rw [hn]; omega) ⟨.int (cnt xs xs.length : Nat), H1, I2.tok _, ⟨_, by rw [hn]⟩, k⟩
end TxS

namespace LJ
open PySem PySem.Spec PyProof.Rows L2 GuL HG Bt
abbrev sUnlike : Stmt := topS 16
abbrev sNamesIn : Stmt := topS 17
abbrev sSized : Stmt := topS 18
abbrev sIsHeader : Stmt := topS 25
abbrev sHeaderFields : Stmt := topS 26
abbrev sAreHeaders : Stmt := topS 24
/-- x = sum([.. for a, b in fields]), by r what comes of the new list -/
theorem lcAsg1 {K : PySem.W.Frag} {σ : L2.St} {H : Hp} {r : List V → Hp → VK → Prop} {g : TG} {u : TS} {D : Ends} {j k : Nat} {tl te : TE} {fa : Addr} {fxs : List V} {fs : List Fld} {val : Fld → Int} (ht : ∀ R : VK, R (.ref fa) H → tl σ H R) (hfa : SqT K H fa fxs) (hd : DpAll K H fxs (fs.map encF)) (l12 : fs.length ≤ 12)
    (hw : ∀ x y, wipe (((wipe σ [j, k]).set j (some x)).set k (some y)) [j, k] = wipe σ [j, k])
    (hv : ∀ (fl : Fld) (H' : Hp) (R : VK), fl ∈ fs → R (.int (val fl)) H' → te (((wipe σ [j, k]).set j (some (.str fl.1))).set k (some (.int (fl.2 : Int)))) H' R)
    (q : ∀ Dd H', Same H H' → H Dd = none → H' Dd = some (.lst ((fs.map val).map V.int)) → r [.ref Dd] H' fun x H1 => g x σ H1 fun σ2 H2 => u D σ2 H2) :
    tSeq (tAsg (tCB r (tCons (tLc (iTup K tl) (gTup K 2 (gCons (gName j) (gCons (gName k) gNil))) tYes te [j, k]) tNil)) g) u D σ H := by
  unfold tSeq tAsg tCB tCons tNil
  exact lcPairs ht hfa hd l12 hw hv q
section
variable {P : Program} {w : World} {K : PySem.W.Frag} {mg : Str → Option Value} {base : Heap}
/-! ### unlike texts, the names of parts -/
theorem scUnlike : FnScope ["parts"] ["parts"] (defScope sUnlike) := ⟨rfl, rfl, rfl, by decide +kernel, rfl, by decide +kernel, by decide +kernel⟩
def spUnlike (K : PySem.W.Frag) : Sp := fun vs H Q _ => ∃ (a : Addr) (zs : List Str), vs = [.ref a] ∧ SqT K H a (zs.map V.str) ∧ zs.Nodup ∧ zs.length ≤ 800 ∧ Q (.bl true) H
theorem ok_unlike {f : Addr} {fd : FuncData} (F : Fun K "are_unlike" "are_unlike" sUnlike f fd) (B : Blt mg) : FnOk P w K mg base CX0 1 f fd ["parts"] (spUnlike K) := by
  refine F.ok scUnlike (fun vs H Q E h => ?_) (fun cdv A outer s H vs Q E hr h => ?_)
  · obtain ⟨a, zs, rfl, _⟩ := h
    rfl
  · obtain ⟨a, zs, rfl, ha, nd, hl, k⟩ := h
    refine ⟨_, pss_one (ps_ret (pe_cmpR op_eq (TxS.pe_lenTx rfl (by rfl) B.len (by rfl) B.set (pv 0)) (pe_callB call_len_seq (by rfl) B.len PySem.boot_len (pa_cons (pv 0) pa_nil)) (nomark _))), ?_⟩
    refine ⟨_, rfl, a, zs, rfl, ha, by omega, _, rfl, a, _, rfl, .inr ha, rfl, ?_⟩
    have e : decide (V.int ((TxS.cnt zs zs.length : Nat) : Int) = V.int (((zs.map V.str).length : Nat) : Int)) = true := by
      refine decide_eq_true ?_
      rw [TxS.cnt_nodup nd _ (Nat.le_refl _), List.length_map]
    rw [e]
    exact k
theorem scNamesIn : FnScope ["parts", "part"] ["parts"] (defScope sNamesIn) := ⟨rfl, rfl, rfl, by decide +kernel, rfl, by decide +kernel, by decide +kernel⟩
def spNamesIn (K : PySem.W.Frag) : Sp := fun vs H Q _ => ∃ (a : Addr) (xs : List V) (ds : List PyData) (zs : List Str), vs = [.ref a] ∧ SqT K H a xs ∧ DpAll K H xs ds ∧ Rows zs ds ∧ zs.length ≤ 800 ∧ ∀ H' p, Same H H' → H' p = some (.tup (zs.map V.str)) → Q (.ref p) H'
theorem ok_namesin {f : Addr} {fd : FuncData} (F : Fun K "names_in" "names_in" sNamesIn f fd) (B : Blt mg) : FnOk P w K mg base CX0 1 f fd ["parts"] (spNamesIn K) := by
  refine F.ok scNamesIn (fun vs H Q E h => ?_) (fun cdv A outer s H vs Q E hr h => ?_)
  · obtain ⟨a, xs, ds, zs, rfl, _⟩ := h
    rfl
  · obtain ⟨a, xs, ds, zs, rfl, ha, hd, hz, hl, k⟩ := h
    refine ⟨_, pss_one (ps_ret (pe_callTy call_tuple_of (by rfl) B.tuple (by decide +kernel) (pa_cons (pe_lc (own := [("part", 1)]) (g := gName 1) (tt := tYes) rfl scNamesIn.nd (pi_tup (pv 0)) (blkOk_by (N := ["parts", "part"]) (sc := defScope sNamesIn) (by decide +kernel)) (fun _ _ _ _ _ => pg_name (i := 1) scNamesIn.nd rfl (Or.inl rfl)) (fun _ _ _ _ _ => pts_nil) (fun _ _ _ _ _ => pe_ix (r := rIxT K) ix_tup (pv 1) pe_int (fun _ _ => rfl))) pa_nil))), ?_⟩
    refine ⟨_, rfl, a, rfl, ⟨_, ha⟩, fun D hD => ?_⟩
    have lx : xs.length = zs.length := (dpAll_len hd).trans hz.len
    refine lc_tup (K := K) (a := a) (xs := xs) (fun n H' => Same H H' ∧ H' D = some (.lst ((zs.take n).map V.str))) ⟨same_new hD, upd_same⟩ (fun n H' _ p => sameT p.1 ha) ?_ ?_
    · rintro n x H' hn ⟨s', f'⟩
      obtain ⟨d, hd1, hd2⟩ := dpAll_at hd hn
      obtain ⟨z, e, hz1, rfl⟩ := hz.row n d hd1
      obtain ⟨b, y, rfl, h1, h2⟩ := pair_dp (dpSame s' hd2)
      have n8 := (List.getElem?_eq_some_iff.mp hn).1
      refine ⟨rfl, _, rfl, b, _, 0, _, rfl, rfl, h1, atI_nat (j := 0) rfl, _, f', ?_, fun c u hc => ?_, ?_⟩
      · rw [List.length_map]
        exact small1000 (Nat.le_trans (List.length_take_le _ _) (by omega))
      · rw [upd_ne (ne_of_none hc hD)]
        exact s' _ _ hc
      · rw [upd_same, List.take_add_one, hz1, List.map_append]
        rfl
    · rintro H' ⟨s', f'⟩
      rw [lx, List.take_of_length_le (Nat.le_refl _)] at f'
      exact ⟨D, _, rfl, .inl ⟨SqL.of f', fun p hp => k _ p (s'.trans (same_new hp)) upd_same⟩⟩
/-- the functions of words -/
structure Wfn (P : Program) (w : World) (K : PySem.W.Frag) (mg : Str → Option Value) (base : Heap) (fN fR fM fU fI : Addr) (dN dR dM dU dI : FuncData) : Prop where
  FN : Fun K "is_number" "is_number" sNumber fN dN
  bN : Binds K dN ["value", "least", "most"] []
  gN : mg "is_number" = some (.ref fN)
  GN : FnOk P w K mg base CX0 1 fN dN ["value", "least", "most"] spNumber
  FR : Fun K "is_row" "is_row" sIsRow fR dR
  bR : Binds K dR ["value", "least", "most"] []
  gR : mg "is_row" = some (.ref fR)
  GR : FnOk P w K mg base CX0 1 fR dR ["value", "least", "most"] (spIsRow K)
  FM : Fun K "is_name" "is_name" sIsName fM dM
  bM : Binds K dM ["value"] []
  gM : mg "is_name" = some (.ref fM)
  GM : FnOk P w K mg base CX0 1 fM dM ["value"] spIsName
  FU : Fun K "are_unlike" "are_unlike" sUnlike fU dU
  bU : Binds K dU ["parts"] []
  gU : mg "are_unlike" = some (.ref fU)
  GU : FnOk P w K mg base CX0 1 fU dU ["parts"] (spUnlike K)
  FI : Fun K "names_in" "names_in" sNamesIn fI dI
  bI : Binds K dI ["parts"] []
  gI : mg "names_in" = some (.ref fI)
  GI : FnOk P w K mg base CX0 1 fI dI ["parts"] (spNamesIn K)

/-! ### names with widths -/
theorem scSized : FnScope ["value", "least", "most", "part", "name", "width"] ["value", "least", "most"] (defScope sSized) := ⟨rfl, rfl, rfl, by decide +kernel, rfl, by decide +kernel, by decide +kernel⟩
def spSized (K : PySem.W.Frag) : Sp := fun vs H Q _ => ∃ (v : V) (fs : List Fld) (lo hi : Int), vs = [v, .int lo, .int hi] ∧ Dp K H v (encFs fs) ∧ lo ≤ (fs.length : Int) ∧ (fs.length : Int) ≤ hi ∧ fs.length ≤ 12 ∧ (∀ f ∈ fs, NameOk f.1 ∧ 1 ≤ f.2 ∧ f.2 ≤ 32) ∧ (fs.map (·.1)).Nodup ∧ ∀ H', Same H H' → Q (.bl true) H'
theorem ok_sized {f fN fR fM fU fI : Addr} {fd dN dR dM dU dI : FuncData} (F : Fun K "are_sized" "are_sized" sSized f fd) (B : Blt mg) (C : Cst K w mg) (Z : Wfn P w K mg base fN fR fM fU fI dN dR dM dU dI) : FnOk P w K mg base CX0 2 f fd ["value", "least", "most"] (spSized K) := by
  refine F.ok scSized (fun vs H Q E h => ?_) (fun cdv A outer s H vs Q E hr h => ?_)
  · obtain ⟨v, fs, lo, hi, rfl, _⟩ := h
    rfl
  · obtain ⟨v, fs, lo, hi, rfl, dv, l1, l2, l12, ok, nd, k⟩ := h
    refine ⟨_, pss_cons (ps_if (pt_not (pt_val (pe_call Z.GR (hr.mono (by decide)) (by rfl) Z.gR Z.FR.kp Z.bR .nil pass0 (pa_cons (pv 0) (pa_cons (pv 1) (pa_cons (pv 2) pa_nil)))))) (pss_one (ps_ret pe_bl)) pss_nil)
      (pss_cons (ps_for PassesOwn.never rfl (pi_tup (pv 0)) (pg_name (i := 3) scSized.nd rfl (.inl rfl))
        (pss_cons (ps_if (PW.pt (pw_or (pt_not (pt_val (pe_callB call_isi (by rfl) B.isi (by decide +kernel) (pa_cons (pv 3) (pa_cons (pe_bltn (v := .ty "tuple") (by rfl) B.tuple (by decide +kernel) rfl) pa_nil))))) (pw_or1 (pt_cmpR op_ne (pe_callB call_len_seq (by rfl) B.len PySem.boot_len (pa_cons (pv 3) pa_nil)) pe_int (nomark _))))) (pss_one (ps_ret pe_bl)) pss_nil)
        (pss_cons (ps_asg (pv 3) (pg_tup rfl (pgs_cons (pg_name (i := 4) scSized.nd rfl (.inl rfl)) (pgs_cons (pg_name (i := 5) scSized.nd rfl (.inl rfl)) pgs_nil))))
        (pss_one (ps_if (PW.pt (pw_or (pt_not (pt_val (pe_call Z.GM (hr.mono (by decide)) (by rfl) Z.gM Z.FM.kp Z.bM .nil pass0 (pa_cons (pv 4) pa_nil)))) (pw_or1 (pt_not (pt_val (pe_call Z.GN (hr.mono (by decide)) (by rfl) Z.gN Z.FN.kp Z.bN .nil pass0 (pa_cons (pv 5) (pa_cons pe_int (pa_cons (pe_gc (by rfl) C.mw) pa_nil)))))))))
          (pss_one (ps_ret pe_bl)) pss_nil)))))
      (pss_one (ps_ret (pe_call Z.GU (hr.mono (by decide)) (by rfl) Z.gU Z.FU.kp Z.bU .nil pass0 (pa_cons (pe_call Z.GI (hr.mono (by decide)) (by rfl) Z.gI Z.FI.kp Z.bI .nil pass0 (pa_cons (pv 0) pa_nil)) pa_nil))))), ?_⟩
    obtain ⟨a, xs, rfl, ha, hd⟩ := dp_tup dv
    have dl := dpAll_len hd
    rw [List.length_map] at dl
    refine ⟨_, rfl, _, rfl, _, rfl, a, xs, lo, hi, rfl, ha, by omega, by omega, true, rfl, iteF ?_⟩
    unfold tNext
    dsimp only
    refine ⟨_, rfl, a, rfl, ⟨_, ha⟩, for_tup (K := K) (a := a) (xs := xs) (fun i σ H' => ∃ v3 v4 v5 : Option V, σ = [some (.ref a), some (.int lo), some (.int hi), v3, v4, v5] ∧ Same H H') ⟨none, none, none, rfl, Same.refl _⟩ (fun i σ H' _ ⟨_, _, _, _, q⟩ => sameT q ha) ?_ ?_⟩
    · rintro i x σ H1 hi' ⟨v3, v4, v5, rfl, s1⟩
      obtain ⟨d, hd1, hd2⟩ := dpAll_at hd hi'
      rw [List.getElem?_map] at hd1
      obtain ⟨fl, hfl, rfl⟩ := Option.map_eq_some_iff.mp hd1
      obtain ⟨b, y', rfl, h1, h2⟩ := pair_dp (dpSame s1 hd2)
      obtain rfl := dp_int h2
      obtain ⟨nk, w1, w2⟩ := ok fl (List.mem_of_getElem? hfl)
      refine ⟨_, rfl, .ref b, .ty "tuple", _, _, true, rfl, .ty _, tyx_sqT h1, kit_ty (by decide +kernel), true, rfl, iteF ?_⟩
      refine ⟨_, rfl, b, _, rfl, .inr h1, rfl, false, rfl, iteF ?_⟩
      refine ⟨_, rfl, b, _, rfl, h1, rfl, _, _, rfl, _, _, rfl, rfl, ?_⟩
      refine ⟨_, rfl, fl.1, rfl, nk, fun H2 s2 => ⟨true, rfl, iteF ?_⟩⟩
      refine ⟨_, rfl, (fl.2 : Int), 1, 32, rfl, by omega, by omega, true, rfl, iteF ?_⟩
      exact ⟨_, _, _, rfl, s1.trans s2⟩
    · rintro σ H1 ⟨v3, v4, v5, rfl, s1⟩
      refine ⟨_, rfl, a, xs, _, _, rfl, sameT s1 ha, dpSameAll s1 hd, rowsF fs, by rw [List.length_map]; omega, fun H3 p s3 f3 => ?_⟩
      exact ⟨p, _, rfl, SqT.of f3, nd, by rw [List.length_map]; omega, k H3 (s1.trans s3)⟩
/-! ### the fields of a header -/
theorem scHeaderFields : FnScope ["value", "bits", "_", "width"] ["value"] (defScope sHeaderFields) := ⟨rfl, rfl, rfl, by decide +kernel, rfl, by decide +kernel, by decide +kernel⟩
def spHeaderFields (K : PySem.W.Frag) : Sp := fun vs H Q _ => ∃ (v : V) (fs : List Fld), vs = [v] ∧ Dp K H v (encFs fs) ∧ FieldsOk fs ∧ ∀ H', Same H H' → Q (.bl true) H'
theorem ok_headerfields {f fN fR fM fU fI fF : Addr} {fd dN dR dM dU dI dF : FuncData} (F : Fun K "are_header_fields" "are_header_fields" sHeaderFields f fd) (B : Blt mg) (C : Cst K w mg) (Z : Wfn P w K mg base fN fR fM fU fI dN dR dM dU dI)
    (FF : Fun K "are_sized" "are_sized" sSized fF dF) (bF : Binds K dF ["value", "least", "most"] []) (gF : mg "are_sized" = some (.ref fF)) : FnOk P w K mg base CX0 3 f fd ["value"] (spHeaderFields K) := by
  have GF : FnOk P w K mg base CX0 2 fF dF ["value", "least", "most"] (spSized K) := ok_sized FF B C Z
  refine F.ok scHeaderFields (fun vs H Q E h => ?_) (fun cdv A outer s H vs Q E hr h => ?_)
  · obtain ⟨v, fs, rfl, _⟩ := h
    rfl
  · obtain ⟨v, fs, rfl, dv, ok, k⟩ := h
    refine ⟨_, pss_cons (ps_if (pt_not (pt_val (pe_call GF hr (by rfl) gF FF.kp bF .nil pass0 (pa_cons (pv 0) (pa_cons pe_int (pa_cons (pe_gc (by rfl) C.mf) pa_nil)))))) (pss_one (ps_ret pe_bl)) pss_nil)
      (pss_cons (ps_set (i := 1) scHeaderFields.nd rfl (.inl rfl) (pe_callB (cr_sum rfl) (by rfl) B.sum (by decide +kernel) (pa_cons (pe_lc (own := [("_", 2), ("width", 3)]) (g := gTup K 2 (gCons (gName 2) (gCons (gName 3) gNil))) (tt := tYes) rfl scHeaderFields.nd (pi_tup (pv 0))
              (blkOk_by (N := ["value", "bits", "_", "width"]) (sc := defScope sHeaderFields) (by decide +kernel)) (fun _ _ _ _ _ => pg_tup rfl (pgs_cons (pg_name (i := 2) scHeaderFields.nd rfl (.inl rfl)) (pgs_cons (pg_name (i := 3) scHeaderFields.nd rfl (.inl rfl)) pgs_nil))) (fun _ _ _ _ _ => pts_nil) (fun _ _ _ _ _ => pv 3)) pa_nil)))
      (pss_one (ps_ret (pe_and (pe_cmpR op_eq (pe_op op_mod (pv 1) pe_int) pe_int (nomark _)) (pe_one (pe_cmpR op_le (pv 1) (pe_gc (by rfl) C.mb) (nomark _))))))), ?_⟩
    have l1 := ok.l1
    have l12 := ok.l2
    refine ⟨_, rfl, _, fs, 1, 12, rfl, dv, by omega, by omega, by omega, fun f hf => ⟨ok.nm f hf, ok.wd f hf⟩, ok.nd, fun H1 s1 => ⟨true, rfl, iteF ?_⟩⟩
    obtain ⟨a, xs, rfl, ha, hd⟩ := dp_tup dv
    have dl := dpAll_len hd
    rw [List.length_map] at dl
    have m8 : (wds fs).sum % 8 = 0 := ok.m8
    have le : (wds fs).sum ≤ 128 := ok.le
    unfold tNext
    dsimp only
    refine lcAsg1 (fs := fs) (val := fun fl => (fl.2 : Int)) (fun R r => ⟨_, rfl, r⟩) (sameT s1 ha) (dpSameAll s1 hd) l12 (fun _ _ => rfl) (fun fl H' R _ r => ⟨_, rfl, r⟩) fun D H2 s2 hD f2 => ?_
    refine ⟨D, _, rfl, SqL.of f2, ?_⟩
    rw [sum_wds]
    have s12 := s1.trans s2
    refine ⟨_, rfl, _, _, rfl, rfl, (by show (0 : Int) < _; decide), rfl, ?_⟩
    have e1 : decide (V.int ((((wds fs).sum : Nat) : Int) % 8) = V.int 0) = true := by
      refine decide_eq_true (congrArg V.int ?_)
      omega
    refine ⟨true, congrArg V.bl e1, iteT ?_⟩
    refine ⟨_, rfl, _, _, rfl, rfl, ?_⟩
    have e2 : decide ((((wds fs).sum : Nat) : Int) ≤ 128) = true := decide_eq_true (by omega)
    show Q (.bl (decide ((((wds fs).sum : Nat) : Int) ≤ 128))) H2
    rw [e2]
    exact k H2 s12
end
end LJ

namespace LJ
open PySem PySem.Spec PyProof.Rows L2 GuL HG Bt
abbrev sHeaderSize : Stmt := topS 30
section
variable {P : Program} {w : World} {K : PySem.W.Frag} {mg : Str → Option Value} {base : Heap}
/-! ### a header, headers -/
theorem scIsHeader : FnScope ["value"] ["value"] (defScope sIsHeader) := ⟨rfl, rfl, rfl, by decide +kernel, rfl, by decide +kernel, by decide +kernel⟩
def spIsHeader (K : PySem.W.Frag) : Sp := fun vs H Q _ => ∃ (v : V) (h : Hdr), vs = [v] ∧ Dp K H v (encH h) ∧ NameOk h.1 ∧ FieldsOk h.2 ∧ ∀ H', Same H H' → Q (.bl true) H'
theorem ok_isheader {f fN fR fM fU fI fF : Addr} {fd dN dR dM dU dI dF : FuncData} (F : Fun K "is_header" "is_header" sIsHeader f fd) (Z : Wfn P w K mg base fN fR fM fU fI dN dR dM dU dI)
    (FF : Fun K "are_header_fields" "are_header_fields" sHeaderFields fF dF) (bF : Binds K dF ["value"] []) (gF : mg "are_header_fields" = some (.ref fF)) (GF : FnOk P w K mg base CX0 3 fF dF ["value"] (spHeaderFields K)) : FnOk P w K mg base CX0 4 f fd ["value"] (spIsHeader K) := by
  refine F.ok scIsHeader (fun vs H Q E h => ?_) (fun cdv A outer s H vs Q E hr h => ?_)
  · obtain ⟨v, h, rfl, _⟩ := h
    rfl
  · obtain ⟨v, h, rfl, dv, nk, ok, k⟩ := h
    refine ⟨_, pss_one (ps_ret (pe_and (pe_call Z.GR (hr.mono (by decide)) (by rfl) Z.gR Z.FR.kp Z.bR .nil pass0 (pa_cons (pv 0) (pa_cons pe_int (pa_cons pe_int pa_nil)))) (pe_and (pe_call Z.GM (hr.mono (by decide)) (by rfl) Z.gM Z.FM.kp Z.bM .nil pass0 (pa_cons (pe_ix ix_tup (pv 0) pe_int (fun _ _ => rfl)) pa_nil)) (pe_one (pe_call GF hr (by rfl) gF FF.kp bF .nil pass0 (pa_cons (pe_ix ix_tup (pv 0) pe_int (fun _ _ => rfl)) pa_nil)))))), ?_⟩
    obtain ⟨a, y, rfl, g1, g2⟩ := pair_dp dv
    refine ⟨_, rfl, a, _, 2, 2, rfl, g1, Int.le_refl _, Int.le_refl _, true, rfl, iteT ?_⟩
    refine ⟨_, rfl, a, _, 0, _, rfl, rfl, g1, atI_nat (j := 0) rfl, _, rfl, nk, fun H1 s1 => ⟨true, rfl, iteT ?_⟩⟩
    exact ⟨_, rfl, a, _, 1, _, rfl, rfl, sameT s1 g1, atI_nat (j := 1) rfl, y, h.2, rfl, dpSame s1 g2, ok, fun H2 s2 => k _ (s1.trans s2)⟩
theorem scAreHeaders : FnScope ["value", "part"] ["value"] (defScope sAreHeaders) := ⟨rfl, rfl, rfl, by decide +kernel, rfl, by decide +kernel, by decide +kernel⟩
def spAreHeaders (K : PySem.W.Frag) : Sp := fun vs H Q _ => ∃ (v : V) (hs : List Hdr), vs = [v] ∧ Dp K H v (encHs hs) ∧ HeadersOk hs ∧ ∀ H', Same H H' → Q (.bl true) H'
theorem ok_areheaders {f fN fR fM fU fI fF : Addr} {fd dN dR dM dU dI dF : FuncData} (F : Fun K "are_headers" "are_headers" sAreHeaders f fd) (B : Blt mg) (C : Cst K w mg) (Z : Wfn P w K mg base fN fR fM fU fI dN dR dM dU dI)
    (FF : Fun K "is_header" "is_header" sIsHeader fF dF) (bF : Binds K dF ["value"] []) (gF : mg "is_header" = some (.ref fF)) (GF : FnOk P w K mg base CX0 4 fF dF ["value"] (spIsHeader K)) : FnOk P w K mg base CX0 5 f fd ["value"] (spAreHeaders K) := by
  refine F.ok scAreHeaders (fun vs H Q E h => ?_) (fun cdv A outer s H vs Q E hr h => ?_)
  · obtain ⟨v, hs, rfl, _⟩ := h
    rfl
  · obtain ⟨v, hs, rfl, dv, ok, k⟩ := h
    refine ⟨_, pss_cons (ps_if (pt_not (pt_val (pe_call Z.GR (hr.mono (by decide)) (by rfl) Z.gR Z.FR.kp Z.bR .nil pass0 (pa_cons (pv 0) (pa_cons pe_int (pa_cons (pe_gc (by rfl) C.mh) pa_nil)))))) (pss_one (ps_ret pe_bl)) pss_nil)
      (pss_one (ps_ret (pe_and (pe_callB (cr_all rfl) (by rfl) B.all (by decide +kernel) (pa_cons (pe_lc (own := [("part", 1)]) (g := gName 1) (tt := tYes) rfl scAreHeaders.nd (pi_tup (pv 0)) (blkOk_by (N := ["value", "part"]) (sc := defScope sAreHeaders) (by decide +kernel)) (fun _ _ _ _ _ => pg_name (i := 1) scAreHeaders.nd rfl (Or.inl rfl)) (fun _ _ _ _ _ => pts_nil) (fun _ _ _ _ _ => pe_call GF hr (by rfl) gF FF.kp bF .nil pass0 (pa_cons (pv 1) pa_nil))) pa_nil)) (pe_one (pe_call Z.GU (hr.mono (by decide)) (by rfl) Z.gU Z.FU.kp Z.bU .nil pass0 (pa_cons (pe_call Z.GI (hr.mono (by decide)) (by rfl) Z.gI Z.FI.kp Z.bI .nil pass0 (pa_cons (pv 0) pa_nil)) pa_nil)))))), ?_⟩
    obtain ⟨a, xs, rfl, ha, hd⟩ := dp_tup dv
    have dl := dpAll_len hd
    rw [List.length_map] at dl
    have l6 := ok.len
    refine ⟨_, rfl, a, xs, 0, 6, rfl, ha, by omega, by omega, true, rfl, iteF ?_⟩
    unfold tNext
    dsimp only
    unfold tRet tAndV
    refine allTup (fun R r => ⟨_, rfl, r⟩) ha (by omega) (fun _ => rfl) (fun i x H' R hx s' r => ?_) fun H1 s1 => ?_
    · obtain ⟨d, hd1, hd2⟩ := dpAll_at hd hx
      rw [List.getElem?_map] at hd1
      obtain ⟨h, hh, rfl⟩ := Option.map_eq_some_iff.mp hd1
      have m := List.mem_of_getElem? hh
      exact ⟨_, rfl, _, h, rfl, dpSame s' hd2, ok.nm h m, ok.fo h m, r⟩
    · refine ⟨true, rfl, iteT ?_⟩
      refine ⟨_, rfl, a, xs, _, _, rfl, sameT s1 ha, dpSameAll s1 hd, rowsH hs, by rw [List.length_map]; omega, fun H3 p s3 f3 => ?_⟩
      exact ⟨p, _, rfl, SqT.of f3, ok.nd, by rw [List.length_map]; omega, k H3 (s1.trans s3)⟩
/-! ### the checks, the sizes -/
theorem scHeaderSize : FnScope ["header", "_", "width"] ["header"] (defScope sHeaderSize) := ⟨rfl, rfl, rfl, by decide +kernel, rfl, by decide +kernel, by decide +kernel⟩
def spHeaderSize (K : PySem.W.Frag) : Sp := fun vs H Q _ => ∃ (v : V) (h : Hdr), vs = [v] ∧ Dp K H v (encH h) ∧ h.2.length ≤ 12 ∧ ∀ H', Same H H' → Q (.int (((wds h.2).sum / 8 : Nat) : Int)) H'
theorem ok_headersize {f : Addr} {fd : FuncData} (F : Fun K "header_size" "header_size" sHeaderSize f fd) (B : Blt mg) : FnOk P w K mg base CX0 1 f fd ["header"] (spHeaderSize K) := by
  refine F.ok scHeaderSize (fun vs H Q E h => ?_) (fun cdv A outer s H vs Q E hr h => ?_)
  · obtain ⟨v, h, rfl, _⟩ := h
    rfl
  · obtain ⟨v, h, rfl, dv, l12, k⟩ := h
    refine ⟨_, pss_one (ps_ret (pe_op op_fdiv (pe_callB (cr_sum rfl) (by rfl) B.sum (by decide +kernel) (pa_cons (pe_lc (own := [("_", 1), ("width", 2)]) (g := gTup K 2 (gCons (gName 1) (gCons (gName 2) gNil))) (tt := tYes) rfl scHeaderSize.nd (pi_tup (pe_ix (r := rIxT K) ix_tup (pv 0) pe_int (fun _ _ => rfl)))
              (blkOk_by (N := ["header", "_", "width"]) (sc := defScope sHeaderSize) (by decide +kernel)) (fun _ _ _ _ _ => pg_tup rfl (pgs_cons (pg_name (i := 1) scHeaderSize.nd rfl (.inl rfl)) (pgs_cons (pg_name (i := 2) scHeaderSize.nd rfl (.inl rfl)) pgs_nil))) (fun _ _ _ _ _ => pts_nil) (fun _ _ _ _ _ => pv 2)) pa_nil)) pe_int)), ?_⟩
    obtain ⟨a, y, rfl, g1, g2⟩ := pair_dp dv
    obtain ⟨fa, fxs, rfl, hfa, hfd⟩ := dp_tup g2
    unfold tRet tOp tCB tCons
    refine lcPairs (fs := h.2) (val := fun fl => (fl.2 : Int)) (fun R r => ⟨_, rfl, a, _, 1, _, rfl, rfl, g1, atI_nat (j := 1) rfl, r⟩) hfa hfd l12 (fun _ _ => rfl) (fun fl H' R _ r => ⟨_, rfl, r⟩) fun D H' s' hD f' => ?_
    refine ⟨D, _, rfl, SqL.of f', _, _, rfl, rfl, ⟨by decide, by decide⟩, ?_⟩
    rw [sum_wds]
    exact k H' s'
theorem dp_hdr {H : Hp} {v : V} {hs : List Hdr} {i : Nat} {h : Hdr} (d : Dp K H v (encHs hs)) (e : hs[i]? = some h) : ∃ a xs x, v = .ref a ∧ SqT K H a xs ∧ xs[i]? = some x ∧ Dp K H x (encH h) := by
  obtain ⟨a, xs, rfl, h1, h2⟩ := dp_tup d
  obtain ⟨x, hx1, hx2⟩ := dpAll_get (i := i) (d := encH h) h2 (by rw [List.getElem?_map, e]; rfl)
  exact ⟨a, xs, x, rfl, h1, hx1, hx2⟩
end
end LJ

namespace LJ
open PySem PySem.Spec PyProof.Rows L2 GuL HG Bt
abbrev sWordsFrom : Stmt := topS 31
section
variable {P : Program} {w : World} {K : PySem.W.Frag} {mg : Str → Option Value} {base : Heap}
/-! ### words from bytes -/
theorem valB_small {l : List Nat} {N : Nat} (h : Bits l) (n : l.length ≤ N) : ((valB l : Nat) : Int).natAbs < 2 ^ N := by
  rw [Int.natAbs_natCast]
  exact Nat.lt_of_lt_of_le (valB_lt h) (Nat.pow_le_pow_right (by decide) n)
theorem valB_byte {l : List Nat} {k b : Nat} (hb : b < 2 ^ k) : ((valB (l ++ bitsN k b) : Nat) : Int) = ((valB l : Nat) : Int) * 2 ^ k + (b : Int) := by
  rw [valB_append, bitsN_len, valB_bitsN, Nat.mod_eq_of_lt hb]
  norm_cast
theorem slice_int {l : List Nat} (hl : Bits l) {a v : Nat} (h : a + v ≤ l.length) : ((valB l : Nat) : Int) / 2 ^ (l.length - a - v) % 2 ^ v = ((valB ((l.drop a).take v) : Nat) : Int) := by
  rw [slice hl h]
  norm_cast
theorem scWordsFrom : FnScope ["header", "taken", "bits", "byte", "behind", "words", "_", "width"] ["header", "taken"] (defScope sWordsFrom) := ⟨rfl, rfl, rfl, by decide +kernel, rfl, by decide +kernel, by decide +kernel⟩
def spWordsFrom (K : PySem.W.Frag) : Sp := fun vs H Q _ => ∃ (v u : V) (h : Hdr) (bs : List Nat), vs = [v, u] ∧ Dp K H v (encH h) ∧ h.2.length ≤ 12 ∧ Dp K H u (encNs bs) ∧ 8 * bs.length = (wds h.2).sum ∧ bs.length ≤ 16 ∧ (∀ b ∈ bs, b < 256) ∧ (∀ f ∈ h.2, f.2 ≤ 32) ∧
  ∀ H' p, Same H H' → H' p = some (.tup (vN (readW (wds h.2) (allBits bs)))) → Q (.ref p) H'
theorem ok_wordsfrom {f : Addr} {fd : FuncData} (F : Fun K "words_from" "words_from" sWordsFrom f fd) (B : Blt mg) : FnOk P w K mg base CX0 1 f fd ["header", "taken"] (spWordsFrom K) := by
  refine F.ok scWordsFrom (fun vs H Q E h => ?_) (fun cdv A outer s H vs Q E hr h => ?_)
  · obtain ⟨v, u, h, bs, rfl, _⟩ := h
    rfl
  · obtain ⟨v, u, h, bs, rfl, dv, l12, du, hsum, l16, h256, w32, k⟩ := h
    refine ⟨_, pss_cons (ps_set (i := 2) scWordsFrom.nd rfl (.inl rfl) pe_int)
      (pss_cons (ps_for PassesOwn.never rfl (pi_tup (pv 1)) (pg_name (i := 3) scWordsFrom.nd rfl (.inl rfl)) (pss_one (ps_set (i := 2) scWordsFrom.nd rfl (.inl rfl) (pe_op op_orL (pe_op op_shlN (pv 2) pe_int) (pv 3)))))
      (pss_cons (ps_set (i := 4) scWordsFrom.nd rfl (.inl rfl) (pe_op op_mul pe_int (pe_callB call_len_seq (by rfl) B.len PySem.boot_len (pa_cons (pv 1) pa_nil))))
      (pss_cons (ps_set (i := 5) scWordsFrom.nd rfl (.inl rfl) (pe_lst pa_nil))
      (pss_cons (ps_for PassesOwn.never rfl (pi_tup (pe_ix ix_tup (pv 0) pe_int (fun _ _ => rfl))) (pg_tup rfl (pgs_cons (pg_name (i := 6) scWordsFrom.nd rfl (.inl rfl)) (pgs_cons (pg_name (i := 7) scWordsFrom.nd rfl (.inl rfl)) pgs_nil)))
        (pss_cons (ps_set (i := 4) scWordsFrom.nd rfl (.inl rfl) (pe_op op_sub (pv 4) (pv 7)))
        (pss_one (ps_expr (pe_bm PySem.F.plainAttrs_list PySem.F.slot_list_append PySem.F.type_list_append mt_append (pv 5) (pa_cons (pe_op op_andM (pe_op op_shrN (pv 2) (pv 4)) (pe_op op_sub (pe_op op_shl pe_int (pv 7)) pe_int)) pa_nil))))))
      (pss_one (ps_ret (pe_callTy call_tuple_of (by rfl) B.tuple (by decide +kernel) (pa_cons (pv 5) pa_nil)))))))), ?_⟩
    obtain ⟨ta, txs, rfl, hta, hda⟩ := dp_tup du
    obtain rfl := dp_vN_inv hda
    obtain ⟨a, y, rfl, g1, g2⟩ := pair_dp dv
    obtain ⟨fa, fxs, rfl, hfa, hfd⟩ := dp_tup g2
    have dl := dpAll_len hfd
    rw [List.length_map] at dl
    have lw := wds_len h.2
    refine ⟨_, rfl, ta, rfl, ⟨_, hta⟩, for_tup (K := K) (a := ta) (xs := vN bs) (fun i σ H' => ∃ v3 : Option V, σ = [some (.ref a), some (.ref ta), some (.int ((valB (allBits (bs.take i)) : Nat) : Int)), v3, none, none, none, none] ∧ H' = H) ⟨_, rfl, rfl⟩ (fun i σ H' _ ⟨_, _, q⟩ => by rw [q]; exact hta) ?_ ?_⟩
    · rintro i x σ H1 hi ⟨v3, rfl, rfl⟩
      obtain ⟨b, hb, rfl⟩ := vN_at hi
      have i16 : i < 16 := by
        have := (List.getElem?_eq_some_iff.mp hb).1
        omega
      have b8 := h256 b (List.mem_of_getElem? hb)
      have lt : (allBits (bs.take i)).length ≤ 128 := by
        rw [allBits_len, List.length_take]
        omega
      refine ⟨_, rfl, _, 8, rfl, rfl, shl_ok (n := 128) (valB_small (allBits_bits _) lt) (by omega), _, rfl, _, _, 8, rfl, rfl, ⟨by omega, by omega, by omega⟩, some (.int (b : Int)), ?_, rfl⟩
      rw [List.take_add_one, hb]
      show [_, _, some (V.int (((valB (allBits (bs.take i)) : Nat) : Int) * 2 ^ 8 + (b : Int))), _, _, _, _, _] = [_, _, some (V.int ((valB (allBits (bs.take i ++ [b])) : Nat) : Int)), _, _, _, _, _]
      rw [allBits_snoc, valB_byte b8]
    · rintro σ H1 ⟨v3, rfl, rfl⟩
      rw [take_all bs]
      have lb := allBits_len bs
      refine ⟨_, rfl, ta, _, rfl, .inr hta, _, _, rfl, rfl, .inl ⟨by decide, by decide⟩, Nat.zero_le _, fun lf hlf => ?_⟩
      have s0 := same_new (o := .lst []) hlf
      refine ⟨_, rfl, a, _, 1, _, rfl, rfl, sameT s0 g1, atI_nat (j := 1) rfl, fa, rfl, ⟨_, sameT s0 hfa⟩, for_tup (K := K) (a := fa) (xs := fxs) (fun i σ H' => ∃ v6 v7 : Option V, σ = [some (.ref a), some (.ref ta), some (.int ((valB (allBits bs) : Nat) : Int)), v3, some (.int ((((allBits bs).length - ((wds h.2).take i).sum : Nat)) : Int)), some (.ref lf), v6, v7] ∧ Same H1 H' ∧
        H' lf = some (.lst (vN ((readW (wds h.2) (allBits bs)).take i)))) ⟨none, none, ?_, s0, upd_same⟩ (fun i σ H' _ ⟨_, _, _, q, _⟩ => sameT q hfa) ?_ ?_⟩
      · rw [vN_len, lb, List.take_zero]
        show [_, _, _, _, some (V.int (8 * ((bs.length : Nat) : Int))), _, _, _] = [_, _, _, _, some (V.int ((8 * bs.length - 0 : Nat) : Int)), _, _, _]
        rw [Nat.sub_zero, Int.natCast_mul]
        rfl
      · rintro i x σ H2 hi ⟨v6, v7, rfl, s2, f2⟩
        obtain ⟨d, hd1, hd2⟩ := dpAll_at hfd hi
        rw [List.getElem?_map] at hd1
        obtain ⟨fl, hfl, rfl⟩ := Option.map_eq_some_iff.mp hd1
        obtain ⟨b, y', rfl, h1, h2⟩ := pair_dp (dpSame s2 hd2)
        obtain rfl := dp_int h2
        have hw := wds_at hfl
        have i12 : i < 12 := by
          have := (List.getElem?_eq_some_iff.mp hfl).1
          omega
        have w1 := w32 fl (List.mem_of_getElem? hfl)
        have hle : ((wds h.2).take i).sum + fl.2 ≤ (allBits bs).length := by
          have q1 := sum_take_succ hw
          have q2 := sum_take_le (wds h.2) (i + 1)
          omega
        have eb : ((((allBits bs).length - ((wds h.2).take i).sum : Nat)) : Int) - (fl.2 : Int) = (((allBits bs).length - ((wds h.2).take i).sum - fl.2 : Nat) : Int) := by omega
        refine ⟨b, _, rfl, h1, rfl, _, _, rfl, _, _, rfl, rfl, ?_⟩
        refine ⟨_, rfl, _, rfl, _, _, rfl, rfl, ?_⟩
        refine ⟨_, rfl, .inl ⟨rfl, _, SqL.of f2⟩, _, rfl, _, rfl, _, _, rfl, congrArg V.int eb, _, rfl, _, _, rfl, rfl, ⟨by omega, by omega, by decide⟩, _, _, rfl, rfl, _, fl.2, rfl, congrArg V.int (congrArg (· - 1) (one_shl fl.2)), ?_⟩
        rw [slice_int (allBits_bits bs) hle]
        refine ⟨lf, _, _, rfl, rfl, f2, ?_, some (.str fl.1), some (.int (fl.2 : Int)), ?_, Same.mut s2 hlf, ?_⟩
        · rw [vN_len]
          exact small1000 (Nat.le_trans (List.length_take_le _ _) (by omega))
        · have e : ((((allBits bs).length - ((wds h.2).take i).sum : Nat)) : Int) - (fl.2 : Int) = (((allBits bs).length - ((wds h.2).take (i + 1)).sum : Nat) : Int) := by
            rw [sum_take_succ hw]
            omega
          exact congrArg (fun z => [some (V.ref a), some (V.ref ta), some (V.int ((valB (allBits bs) : Nat) : Int)), v3, some (V.int z), some (V.ref lf), some (V.str fl.1), some (V.int (fl.2 : Int))]) e
        · rw [upd_same, List.take_add_one, readW_get _ _ i fl.2 hw, Option.toList_some, vN_snoc]
      · rintro σ H2 ⟨v6, v7, rfl, s2, f2⟩
        refine ⟨_, rfl, lf, _, rfl, .inl ⟨SqL.of f2, fun p hp => ?_⟩⟩
        have e : (readW (wds h.2) (allBits bs)).take fxs.length = readW (wds h.2) (allBits bs) := List.take_of_length_le (by rw [readW_len, dl, lw]; exact Nat.le_refl _)
        show Q (.ref p) (upd H2 p (.tup (vN ((readW (wds h.2) (allBits bs)).take fxs.length))))
        rw [e]
        exact k _ p (s2.trans (same_new hp)) upd_same
end
end LJ

namespace LJ
open PySem PySem.Spec PyProof.Rows L2 GuL HG Bt
abbrev sIsTextOf : Stmt := topS 15
abbrev sIsByte : Stmt := topS 11
abbrev sIsRest : Stmt := topS 28
abbrev sIsPacket : Stmt := topS 27
abbrev sCheckPacket : Stmt := topS 29
abbrev sPlaceOf : Stmt := topS 45
abbrev sAimsOf : Stmt := topS 46
abbrev sAimBy : Stmt := topS 47
abbrev sThingsOf : Stmt := topS 44
abbrev sStateBegun : Stmt := topS 38
structure Cst2 (K : PySem.W.Frag) (mg : Str → Option Value) : Prop where
  mby : ∃ u, mg "MOST_BYTES" = some u ∧ RelV (.int 128) u
  ms : ∃ u, mg "MOST_STATES" = some u ∧ RelV (.int 8) u
  mc : ∃ u, mg "MOST_CASES" = some u ∧ RelV (.int 8) u
  ends : ∃ a, mg "ENDS" = some (.ref a) ∧ ∀ H, SqT K H a (endsN.map V.str)
  lin : ∃ a, mg "LOCAL_IN" = some (.ref a) ∧ ∀ H, SqT K H a [.str "local", .str "in"]
section
variable {P : Program} {w : World} {K : PySem.W.Frag} {mg : Str → Option Value} {base : Heap}
theorem scIsByte : FnScope ["value"] ["value"] (defScope sIsByte) := ⟨rfl, rfl, rfl, by decide +kernel, rfl, by decide +kernel, by decide +kernel⟩
def spIsByte : Sp := fun vs H Q _ => ∃ z : Nat, vs = [.int (z : Int)] ∧ z < 256 ∧ Q (.bl true) H
theorem ok_isbyte {f fN : Addr} {fd fdN : FuncData} (F : Fun K "is_byte" "is_byte" sIsByte f fd) (KN : Kn P w K mg base 1 "is_number" sNumber ["value", "least", "most"] spNumber fN fdN) : FnOk P w K mg base CX0 3 f fd ["value"] spIsByte := by
  refine F.ok scIsByte (fun vs H Q E h => ?_) (fun cdv A outer s H vs Q E hr h => ?_)
  · obtain ⟨z, rfl, _⟩ := h
    rfl
  · obtain ⟨z, rfl, h1, k⟩ := h
    refine ⟨_, pss_one (ps_ret (pe_call KN.G (hr.mono (by decide)) (by rfl) KN.g KN.F.kp KN.b .nil pass0 (pa_cons (pv 0) (pa_cons pe_int (pa_cons pe_int pa_nil))))), ?_⟩
    exact ⟨_, rfl, (z : Int), 0, 255, rfl, by omega, by omega, k⟩
theorem scIsTextOf : FnScope ["value", "texts"] ["value", "texts"] (defScope sIsTextOf) := ⟨rfl, rfl, rfl, by decide +kernel, rfl, by decide +kernel, by decide +kernel⟩
def spIsTextOf (K : PySem.W.Frag) : Sp := fun vs H Q _ => ∃ (z : Str) (a : Addr) (zs : List Str), vs = [.str z, .ref a] ∧ SqT K H a (zs.map V.str) ∧ z ∈ zs ∧ Q (.bl true) H
theorem ok_istextof {f : Addr} {fd : FuncData} (F : Fun K "is_text_of" "is_text_of" sIsTextOf f fd) (B : Blt mg)  : FnOk P w K mg base CX0 1 f fd ["value", "texts"] (spIsTextOf K) := by
  refine F.ok scIsTextOf (fun vs H Q E h => ?_) (fun cdv A outer s H vs Q E hr h => ?_)
  · obtain ⟨z, a, zs, rfl, _⟩ := h
    rfl
  · obtain ⟨z, a, zs, rfl, ha, hz, k⟩ := h
    refine ⟨_, (pss_one (ps_ret (pe_and (pe_callB call_isi (by rfl) B.isi (by decide +kernel) (pa_cons (pv 0) (pa_cons (pe_bltn (v := .ty "str") (by rfl) B.str (by decide +kernel) rfl) pa_nil))) (pe_one (pe_cmpR op_in_seq (pv 0) (pv 1) (by rfl)))))), ?_⟩
    refine ⟨_, rfl, .str z, .ty "str", _, _, true, rfl, .ty _, .base (.str z), kit_ty (by decide +kernel), true, rfl, iteT ?_⟩
    refine ⟨_, rfl, _, rfl, a, _, rfl, .inr ha, rfl, flatS _, ?_⟩
    show Q (.bl (inV (.str z) (zs.map V.str))) H
    rw [inV_strs, decide_eq_true hz]
    exact k
theorem scIsRest : FnScope ["value"] ["value"] (defScope sIsRest) := ⟨rfl, rfl, rfl, by decide +kernel, rfl, by decide +kernel, by decide +kernel⟩
def spIsRest (K : PySem.W.Frag) : Sp := fun vs H Q _ => ∃ (v : V) (bs : List Nat), vs = [v] ∧ Dp K H v (encNs bs) ∧ bs.length ≤ 128 ∧ (∀ b ∈ bs, b < 256) ∧ ∀ H', Same H H' → Q (.bl true) H'
theorem ok_isrest {f fB : Addr} {fd dfB : FuncData} (F : Fun K "is_rest" "is_rest" sIsRest f fd) (B : Blt mg) (C2 : Cst2 K mg) (KB : Kn P w K mg base 4 "are_bytes" sAreBytes ["value", "least", "most"] (spAreBytes K) fB dfB) : FnOk P w K mg base CX0 5 f fd ["value"] (spIsRest K) := by
  refine F.ok scIsRest (fun vs H Q E h => ?_) (fun cdv A outer s H vs Q E hr h => ?_)
  · obtain ⟨v, bs, rfl, _⟩ := h
    rfl
  · obtain ⟨v, bs, rfl, dv, lb, bb, k⟩ := h
    refine ⟨_, (pss_one (ps_ret (pe_call KB.G (hr.mono (by decide)) (by rfl) KB.g KB.F.kp KB.b .nil pass0 (pa_cons (pv 0) (pa_cons pe_int (pa_cons (pe_gc (by rfl) C2.mby) pa_nil)))))), ?_⟩
    exact ⟨_, rfl, v, bs, 0, 128, rfl, dv, by omega, by omega, by omega, bb, k⟩
theorem scIsPacket : FnScope ["value"] ["value"] (defScope sIsPacket) := ⟨rfl, rfl, rfl, by decide +kernel, rfl, by decide +kernel, by decide +kernel⟩
def spIsPacket (K : PySem.W.Frag) : Sp := fun vs H Q _ => ∃ (v : V) (first : Nat) (bs : List Nat), vs = [v] ∧ Dp K H v (encPk first bs) ∧ first < 256 ∧ bs.length ≤ 128 ∧ (∀ b ∈ bs, b < 256) ∧ ∀ H', Same H H' → Q (.bl true) H'
theorem ok_ispacket {f fR fB fS : Addr} {fd dfR dfB dfS : FuncData} (F : Fun K "is_packet" "is_packet" sIsPacket f fd) (B : Blt mg) (KR : Kn P w K mg base 1 "is_row" sIsRow ["value", "least", "most"] (spIsRow K) fR dfR) (KB : Kn P w K mg base 3 "is_byte" sIsByte ["value"] spIsByte fB dfB) (KS : Kn P w K mg base 5 "is_rest" sIsRest ["value"] (spIsRest K) fS dfS) : FnOk P w K mg base CX0 6 f fd ["value"] (spIsPacket K) := by
  refine F.ok scIsPacket (fun vs H Q E h => ?_) (fun cdv A outer s H vs Q E hr h => ?_)
  · obtain ⟨v, first, bs, rfl, _⟩ := h
    rfl
  · obtain ⟨v, first, bs, rfl, dv, f1, lb, bb, k⟩ := h
    refine ⟨_, (pss_one (ps_ret (pe_and (pe_call KR.G (hr.mono (by decide)) (by rfl) KR.g KR.F.kp KR.b .nil pass0 (pa_cons (pv 0) (pa_cons pe_int (pa_cons pe_int pa_nil)))) (pe_and (pe_call KB.G (hr.mono (by decide)) (by rfl) KB.g KB.F.kp KB.b .nil pass0 (pa_cons (pe_ix ix_tup (pv 0) pe_int (fun _ _ => rfl)) pa_nil)) (pe_one (pe_call KS.G (hr.mono (by decide)) (by rfl) KS.g KS.F.kp KS.b .nil pass0 (pa_cons (pe_ix ix_tup (pv 0) pe_int (fun _ _ => rfl)) pa_nil))))))), ?_⟩
    obtain ⟨a, ba, rfl, ha, hba⟩ := dp_pk dv
    refine ⟨_, rfl, a, _, 2, 2, rfl, ha, Int.le_refl _, Int.le_refl _, true, rfl, iteT ?_⟩
    refine ⟨_, rfl, a, _, 0, _, rfl, rfl, ha, atI_nat (j := 0) rfl, first, rfl, f1, true, rfl, iteT ?_⟩
    exact ⟨_, rfl, a, _, 1, _, rfl, rfl, ha, atI_nat (j := 1) rfl, .ref ba, bs, rfl, .tup hba (dp_vN bs), lb, bb, k⟩
theorem scCheckPacket : FnScope ["packet"] ["packet"] (defScope sCheckPacket) := ⟨rfl, rfl, rfl, by decide +kernel, rfl, by decide +kernel, by decide +kernel⟩
def spCheckPacket (K : PySem.W.Frag) : Sp := fun vs H Q _ => ∃ (v : V) (first : Nat) (bs : List Nat), vs = [v] ∧ Dp K H v (encPk first bs) ∧ first < 256 ∧ bs.length ≤ 128 ∧ (∀ b ∈ bs, b < 256) ∧ ∀ H', Same H H' → Q .non H'
theorem ok_checkpacket {f fP : Addr} {fd dfP : FuncData} (F : Fun K "check_packet" "check_packet" sCheckPacket f fd) (B : Blt mg) (KP : Kn P w K mg base 6 "is_packet" sIsPacket ["value"] (spIsPacket K) fP dfP) : FnOk P w K mg base CX0 7 f fd ["packet"] (spCheckPacket K) := by
  refine F.ok scCheckPacket (fun vs H Q E h => ?_) (fun cdv A outer s H vs Q E hr h => ?_)
  · obtain ⟨v, first, bs, rfl, _⟩ := h
    rfl
  · obtain ⟨v, first, bs, rfl, dv, f1, lb, bb, k⟩ := h
    refine ⟨_, (pss_one (ps_if (pt_not (pt_val (pe_call KP.G (hr.mono (by decide)) (by rfl) KP.g KP.F.kp KP.b .nil pass0 (pa_cons (pv 0) pa_nil)))) (pss_one ps_never) pss_nil)), ?_⟩
    exact ⟨_, rfl, v, first, bs, rfl, dv, f1, lb, bb, fun H1 s1 => ⟨true, rfl, iteF (k H1 s1)⟩⟩
/-- what stands first of what comes behind a state -/
theorem nxt_first {H : Hp} {u : V} {x : Nxt} (h : Dp K H u (encN x)) : (∃ a xs t, u = .ref a ∧ SqT K H a (.str t :: xs) ∧ decide (V.str t = V.str "by") = false ∧ asksN x = []) ∨ ∃ p cs z, x = .by_ p cs z := by
  cases x with
  | acc =>
    obtain ⟨a, rfl, ha⟩ := dp_n1 h
    exact .inl ⟨a, _, _, rfl, ha, by_no1, rfl⟩
  | rej =>
    obtain ⟨a, rfl, ha⟩ := dp_n1 h
    exact .inl ⟨a, _, _, rfl, ha, by_no2, rfl⟩
  | go z =>
    obtain ⟨a, rfl, ha⟩ := dp_n2 h
    exact .inl ⟨a, _, _, rfl, ha, by_no3, rfl⟩
  | by_ p cs z => exact .inr ⟨p, cs, z, rfl⟩
theorem scPlaceOf : FnScope ["onward"] ["onward"] (defScope sPlaceOf) := ⟨rfl, rfl, rfl, by decide +kernel, rfl, by decide +kernel, by decide +kernel⟩
def plcP : List Plc → PyData
  | [] => .none
  | p :: _ => encP p
def spPlaceOf (K : PySem.W.Frag) : Sp := fun vs H Q _ => ∃ (u : V) (x : Nxt), vs = [u] ∧ Dp K H u (encN x) ∧ ∀ y, Dp K H y (plcP (asksN x)) → Q y H
theorem ok_placeof {f : Addr} {fd : FuncData} (F : Fun K "place_of" "place_of" sPlaceOf f fd) (B : Blt mg)  : FnOk P w K mg base CX0 1 f fd ["onward"] (spPlaceOf K) := by
  refine F.ok scPlaceOf (fun vs H Q E h => ?_) (fun cdv A outer s H vs Q E hr h => ?_)
  · obtain ⟨u, x, rfl, _⟩ := h
    rfl
  · obtain ⟨u, x, rfl, du, k⟩ := h
    refine ⟨_, (pss_one (ps_ret (pe_ifExp (pt_cmpR op_eq (pe_ix ix_tup (pv 0) pe_int (fun _ _ => rfl)) pe_str (nomark _)) (pe_ix ix_tup (pv 0) pe_int (fun _ _ => rfl)) pe_non))), ?_⟩
    rcases nxt_first du with ⟨a, xs, t, rfl, ha, ht, e⟩ | ⟨p, cs, z, rfl⟩
    · refine ⟨_, rfl, a, _, 0, _, rfl, rfl, ha, atI_nat (j := 0) rfl, rfl, _, rfl, ?_⟩
      rw [ht]
      refine iteF (k .non ?_)
      rw [e]
      exact .non
    · obtain ⟨a, up, uc, cx, rfl, ha, hp, _, _⟩ := dp_by du
      refine ⟨_, rfl, a, _, 0, _, rfl, rfl, ha, atI_nat (j := 0) rfl, rfl, _, rfl, ?_⟩
      rw [by_yes]
      exact iteT ⟨_, rfl, a, _, 1, _, rfl, rfl, ha, atI_nat (j := 1) rfl, k up hp⟩
theorem go_no1 : decide ((V.str "accept") = V.str "go") = false := by decide +kernel
theorem go_no2 : decide ((V.str "refuse") = V.str "go") = false := by decide +kernel
/-- [case[2] for case in cases] + [otherwise] -/
theorem lcAims {σ : L2.St} {H : Hp} {Q : VK} {j : Nat} {tl : TE} {ca : Addr} {cx : List V} {cs : List Cas} (ht : ∀ R : VK, R (.ref ca) H → tl σ H R) (hc : SqT K H ca cx) (hd : DpAll K H cx (cs.map encC)) (l8 : cs.length ≤ 800)
    (hw : ∀ x, wipe ((wipe σ [j]).set j (some x)) [j] = wipe σ [j]) (hj : ∀ x, ((wipe σ [j]).set j (some x))[j]? = some (some x))
    (q : ∀ D H', Same H H' → H D = none → H' D = some (.lst ((cs.map (·.2.2)).map V.str)) → Q (.ref D) H') :
    tLc (iTup K tl) (gName j) tYes (tOp (rIxT K) (tVar j) (tC (.int 2))) [j] σ H Q := by
  have cl := dpAll_len hd
  rw [List.length_map] at cl
  refine ht _ ⟨ca, rfl, ⟨_, hc⟩, fun D hD => ?_⟩
  refine lc_tup (K := K) (a := ca) (xs := cx) (fun n H' => Same H H' ∧ H' D = some (.lst (((cs.take n).map (·.2.2)).map V.str))) ⟨same_new hD, upd_same⟩ (fun n H' _ p => sameT p.1 hc) ?_ ?_
  · rintro n x H' hn ⟨s, f⟩
    obtain ⟨d, hd1, hd2⟩ := dpAll_at hd hn
    rw [List.getElem?_map] at hd1
    obtain ⟨c, hcc, rfl⟩ := Option.map_eq_some_iff.mp hd1
    obtain ⟨a, rfl, ha⟩ := dp_cas hd2
    have n9 : n < 800 := by
      have := (List.getElem?_eq_some_iff.mp hcc).1
      omega
    refine ⟨hw _, _, hj _, a, _, 2, _, rfl, rfl, sameT s ha, atI_nat (j := 2) rfl, _, f, ?_, fun b u hb => ?_, ?_⟩
    · rw [List.length_map, List.length_map]
      exact small1000 (Nat.le_trans (List.length_take_le _ _) (by omega))
    · rw [upd_ne (ne_of_none hb hD)]
      exact s _ _ hb
    · rw [upd_same, List.take_add_one, hcc, List.map_append, List.map_append]
      rfl
  · rintro H' ⟨s, f⟩
    rw [cl, List.take_length] at f
    exact q D H' s hD f
theorem retAims {σ : L2.St} {H : Hp} {D : Ends} {j : Nat} {tl te : TE} {ca : Addr} {cx : List V} {cs : List Cas} (ht : ∀ R : VK, R (.ref ca) H → tl σ H R) (hc : SqT K H ca cx) (hd : DpAll K H cx (cs.map encC)) (l8 : cs.length ≤ 800)
    (hw : ∀ x, wipe ((wipe σ [j]).set j (some x)) [j] = wipe σ [j]) (hj : ∀ x, ((wipe σ [j]).set j (some x))[j]? = some (some x))
    (q : ∀ L H', Same H H' → H L = none → H' L = some (.lst ((cs.map (·.2.2)).map V.str)) → te σ H' fun y H2 => rCat (.ref L) y H2 D.rt) :
    tRet (tOp rCat (tLc (iTup K tl) (gName j) tYes (tOp (rIxT K) (tVar j) (tC (.int 2))) [j]) te) D σ H := by
  show tLc (iTup K tl) (gName j) tYes (tOp (rIxT K) (tVar j) (tC (.int 2))) [j] σ H (fun x H1 => te σ H1 fun y H2 => rCat x y H2 D.rt)
  exact lcAims ht hc hd l8 hw hj q
theorem scAimsOf : FnScope ["onward", "case"] ["onward"] (defScope sAimsOf) := ⟨rfl, rfl, rfl, by decide +kernel, rfl, by decide +kernel, by decide +kernel⟩
def spAimsOf (K : PySem.W.Frag) : Sp := fun vs H Q _ => ∃ (u : V) (x : Nxt), vs = [u] ∧ Dp K H u (encN x) ∧ (aimsN x).length ≤ 9 ∧ ∀ H' p, Same H H' → H p = none → H' p = some (.lst ((aimsN x).map V.str)) → Q (.ref p) H'
theorem ok_aimsof {f : Addr} {fd : FuncData} (F : Fun K "aims_of" "aims_of" sAimsOf f fd) (B : Blt mg)  : FnOk P w K mg base CX0 1 f fd ["onward"] (spAimsOf K) := by
  refine F.ok scAimsOf (fun vs H Q E h => ?_) (fun cdv A outer s H vs Q E hr h => ?_)
  · obtain ⟨u, x, rfl, _⟩ := h
    rfl
  · obtain ⟨u, x, rfl, du, l9, k⟩ := h
    refine ⟨_, (pss_cons (ps_if (pt_cmpR op_eq (pe_ix ix_tup (pv 0) pe_int (fun _ _ => rfl)) pe_str (nomark _)) (pss_one (ps_ret (pe_lst (pa_cons (pe_ix ix_tup (pv 0) pe_int (fun _ _ => rfl)) pa_nil)))) pss_nil) (pss_cons (ps_if (pt_cmpR op_eq (pe_ix ix_tup (pv 0) pe_int (fun _ _ => rfl)) pe_str (nomark _)) (pss_one (ps_ret (pe_op op_cat (pe_lc (own := [("case", 1)]) (g := gName 1) (tt := tYes) rfl scAimsOf.nd (pi_tup (pe_ix ix_tup (pv 0) pe_int (fun _ _ => rfl))) (blkOk_by (N := ["onward", "case"]) (sc := defScope sAimsOf) (by decide +kernel)) (fun _ _ _ _ _ => (pg_name (i := 1) scAimsOf.nd rfl (.inl rfl))) (fun _ _ _ _ _ => pts_nil) (fun _ _ _ _ _ => (pe_ix (r := rIxT K) ix_tup (pv 1) pe_int (fun _ _ => rfl)))) (pe_lst (pa_cons (pe_ix ix_tup (pv 0) pe_int (fun _ _ => rfl)) pa_nil))))) pss_nil) (pss_one (ps_ret (pe_lst (pa_cons (pe_ix ix_tup (pv 0) pe_int (fun _ _ => rfl)) pa_nil)))))), ?_⟩
    cases x with
    | acc =>
      obtain ⟨a, rfl, ha⟩ := dp_n1 du
      refine ⟨_, rfl, a, _, 0, _, rfl, rfl, ha, atI_nat (j := 0) rfl, rfl, _, rfl, ?_⟩
      rw [go_no1]
      refine iteF ⟨_, rfl, a, _, 0, _, rfl, rfl, ha, atI_nat (j := 0) rfl, rfl, _, rfl, ?_⟩
      rw [by_no1]
      exact iteF ⟨_, rfl, a, _, 0, _, rfl, rfl, ha, atI_nat (j := 0) rfl, by show 1 ≤ sizeLine; decide, fun p hp => k _ p (same_new hp) hp upd_same⟩
    | rej =>
      obtain ⟨a, rfl, ha⟩ := dp_n1 du
      refine ⟨_, rfl, a, _, 0, _, rfl, rfl, ha, atI_nat (j := 0) rfl, rfl, _, rfl, ?_⟩
      rw [go_no2]
      refine iteF ⟨_, rfl, a, _, 0, _, rfl, rfl, ha, atI_nat (j := 0) rfl, rfl, _, rfl, ?_⟩
      rw [by_no2]
      exact iteF ⟨_, rfl, a, _, 0, _, rfl, rfl, ha, atI_nat (j := 0) rfl, by show 1 ≤ sizeLine; decide, fun p hp => k _ p (same_new hp) hp upd_same⟩
    | go z =>
      obtain ⟨a, rfl, ha⟩ := dp_n2 du
      refine ⟨_, rfl, a, _, 0, _, rfl, rfl, ha, atI_nat (j := 0) rfl, rfl, _, rfl, ?_⟩
      rw [goE2]
      exact iteT ⟨_, rfl, a, _, 1, _, rfl, rfl, ha, atI_nat (j := 1) rfl, by show 1 ≤ sizeLine; decide, fun p hp => k _ p (same_new hp) hp upd_same⟩
    | by_ pl cs z =>
      obtain ⟨a, up, uc, cx, rfl, ha, hp, hc, hd⟩ := dp_by du
      have l8 : cs.length ≤ 8 := by
        have : (cs.map (·.2.2) ++ [z]).length ≤ 9 := l9
        rw [List.length_append, List.length_map] at this
        have e1 : [z].length = 1 := rfl
        omega
      refine ⟨_, rfl, a, _, 0, _, rfl, rfl, ha, atI_nat (j := 0) rfl, rfl, _, rfl, ?_⟩
      rw [byE2]
      refine iteF ⟨_, rfl, a, _, 0, _, rfl, rfl, ha, atI_nat (j := 0) rfl, rfl, _, rfl, ?_⟩
      rw [by_yes]
      refine iteT ?_
      refine retAims (ca := uc) (cs := cs) (fun R r => ⟨_, rfl, a, _, 2, _, rfl, rfl, ha, atI_nat (j := 2) rfl, r⟩) hc hd (by omega) (fun _ => rfl) (fun _ => rfl) (fun D H1 s1 hD f1 => ?_)
      refine ⟨_, rfl, a, _, 3, _, rfl, rfl, sameT s1 ha, atI_nat (j := 3) rfl, by show 1 ≤ sizeLine; decide, fun l2 h2 => ⟨D, l2, _, _, rfl, rfl, same_new h2 _ _ f1, upd_same, ?_, fun p3 h3 => ?_⟩⟩
      · rw [List.length_map, List.length_map]
        exact Nat.le_of_lt (small1000 (by show cs.length + 1 ≤ _; omega))
      · have s2 := s1.trans (same_new (o := .lst [.str z]) h2)
        refine k _ p3 (s2.trans (same_new h3)) (s2.free h3) ?_
        show _ = some (HO.lst ((cs.map (·.2.2) ++ [z]).map V.str))
        rw [List.map_append]
        exact upd_same
end
end LJ

namespace LZ
open PySem PySem.Spec PyProof.Rows L2
/-! ### {k: v for a in s for b in t}, the keys tuples -/
/-- the comprehension -/
abbrev DC (ka va ta ia : Expr) (ca : List Expr) (tb ib : Expr) (cb : List Expr) (sc : Scope) (ps : Pos) : Expr := .DictComp ka va [⟨ta, ia, ca, 0⟩, ⟨tb, ib, cb, 0⟩] sc ps
/-- all of these hold -/
abbrev allT (cs : List Expr) (en : Env) : Sem Bool := forIn cs true fun q r => if r = true then do let y ← isTrue q en (eval q en); pure (ForInStep.yield y) else pure (ForInStep.yield r)
section
variable {pr : Program} {w : World} {A : Around} {R : Result → Shared → Prop} {s : Shared} {ka va ta ia tb ib : Expr} {ca cb : List Expr} {sc : Scope} {ps : Pos} {it : Value} {D : Addr} {en : Env}
theorem turnA : compTurn (DC ka va ta ia ca tb ib cb sc ps) 0 it (.ref D) en = (do
    standAt ia.pos
    match ← pyNext it with
    | none => pure (.done .next)
    | some x =>
      letOwnedTupleGo ta it x
      assign ta en x
      let mut fine := true
      for q in ca do
        if fine then fine ← isTrue q en (eval q en)
      if fine then
        let y ← eval ib en
        standAt ib.pos
        let y ← foldedSetIterable ib en y
        let _ ← runOwn (.compStart (DC ka va ta ia ca tb ib cb sc ps) 1 (← holding [y] (pyIter y)) (.ref D) en) en
      again (.compLoop (DC ka va ta ia ca tb ib cb sc ps) 0 it (.ref D) en)) := by rfl
theorem turnB : compTurn (DC ka va ta ia ca tb ib cb sc ps) 1 it (.ref D) en = (do
    standAt ib.pos
    match ← pyNext it with
    | none => pure (.done .next)
    | some x =>
      letOwnedTupleGo tb it x
      assign tb en x
      let mut fine := true
      for q in cb do
        if fine then fine ← isTrue q en (eval q en)
      if fine then
        (do
          let k ← eval ka en
          let u ← holding [k] (eval va en)
          standAt { ka.pos with endLine := va.pos.endLine, endCol := va.pos.endCol }
          holding [k, u] (dictSet D k u))
      again (.compLoop (DC ka va ta ia ca tb ib cb sc ps) 1 it (.ref D) en)) := by rfl
/-- what an error comes to -/
abbrev eR (pr : Program) (w : World) (A : Around) (en : Env) (R : Result → Shared → Prop) : Value → Shared → Prop := notedBy (model pr w) A en fun e s' => R (.error e) s'
/-- one turn: an item comes, goes to its target, the tests are asked; then F -/
def oneTurn (pr : Program) (w : World) (A : Around) (R : Result → Shared → Prop) (tg : Expr) (cs : List Expr) (it : Value) (en : Env) (F G : Shared → Prop) (s : Shared) : Prop :=
  wpAny (model pr w) A (pyNext it) (fun o s1 => match o with
    | none => R (.ok .next) s1
    | some x => wpAny (model pr w) A (letOwnedTupleGo tg it x) (fun _ s2 => wpAny (model pr w) A (assign tg en x) (fun _ s3 => wpAny (model pr w) A (allT cs en) (fun y s4 => if y = true then F s4 else G s4) (eR pr w A en R) s3) (eR pr w A en R) s2) (eR pr w A en R) s1) (eR pr w A en R) s
theorem loopA (hs : ∀ y, foldedSetIterable ib en y = pure y) (I : Nat → Shared → Prop)
    (turn : ∀ n s, I n s → oneTurn pr w A R ta ca it en (fun s4 => wpAny (model pr w) A (eval ib en) (fun y s5 => wpAny (model pr w) A (pyIter y) (fun j s6 => codeAny (model pr w) A (.compStart (DC ka va ta ia ca tb ib cb sc ps) 1 j (.ref D) en) (fun r s' => match r with
      | .ok _ => ∃ m, m < n ∧ I m s'
      | .error _ => False) s6) (eR pr w A en R) s5) (eR pr w A en R) s4) (fun s4 => ∃ m, m < n ∧ I m s4) s) (n : Nat) (h : I n s) : codeAny (model pr w) A (.compLoop (DC ka va ta ia ca tb ib cb sc ps) 0 it (.ref D) en) R s := by
  refine codeAny_loop rfl I (fun n s hI => ?_) n h
  show wpAny _ A ((compTurn (DC ka va ta ia ca tb ib cb sc ps) 0 it (.ref D) en).onRaise (fun x => do noteFrame x en; theTreesLotGoes x)) _ _ s
  refine wpAny_noted ?_
  rw [turnA]
  have t := turn n s hI
  unfold oneTurn at t
  refine wpAny_bind (wpAny_standAt (wpAny_bind (wpAny_mono t (fun o s1 h1 => ?_) fun _ _ q => q)))
  cases o with
  | none => exact wpAny_pure h1
  | some x =>
    refine wpAny_bind (wpAny_mono h1 (fun _ s2 h2 => wpAny_bind (wpAny_mono h2 (fun _ s3 h3 => wpAny_bind (wpAny_mono h3 (fun y s4 h4 => ?_) fun _ _ q => q)) fun _ _ q => q)) fun _ _ q => q)
    cases y with
    | false => exact wpAny_pure ⟨rfl, h4⟩
    | true =>
      refine wpAny_bind (wpAny_mono h4 (fun y s5 h5 => wpAny_bind (wpAny_standAt (wpAny_bind (wpAny_of_eq (hs y) (wpAny_bind (wpAny_holding (wpAny_mono h5 (fun j s6 h6 => ?_) fun _ _ q => q))))))) fun _ _ q => q)
      refine wpAny_bind (wpAny_runOwn ?_)
      rw [Around.mark_none]
      refine codeAny_mono h6 fun r s' hr => ?_
      cases r with
      | error e => exact hr.elim
      | ok f =>
        first
          | exact wpAny_pure ⟨rfl, hr⟩
          | exact wpAny_bind (wpAny_pure (wpAny_pure ⟨rfl, hr⟩))
theorem loopB (I : Nat → Shared → Prop)
    (turn : ∀ n s, I n s → oneTurn pr w A R tb cb it en (fun s4 => wpAny (model pr w) A (eval ka en) (fun k s5 => wpAny (model pr w) A (eval va en) (fun u s6 => wpAny (model pr w) A (dictSet D k u) (fun _ s7 => ∃ m, m < n ∧ I m s7) (eR pr w A en R) s6) (eR pr w A en R) s5) (eR pr w A en R) s4) (fun s4 => ∃ m, m < n ∧ I m s4) s)
    (n : Nat) (h : I n s) : codeAny (model pr w) A (.compLoop (DC ka va ta ia ca tb ib cb sc ps) 1 it (.ref D) en) R s := by
  refine codeAny_loop rfl I (fun n s hI => ?_) n h
  show wpAny _ A ((compTurn (DC ka va ta ia ca tb ib cb sc ps) 1 it (.ref D) en).onRaise (fun x => do noteFrame x en; theTreesLotGoes x)) _ _ s
  refine wpAny_noted ?_
  rw [turnB]
  have t := turn n s hI
  unfold oneTurn at t
  refine wpAny_bind (wpAny_standAt (wpAny_bind (wpAny_mono t (fun o s1 h1 => ?_) fun _ _ q => q)))
  cases o with
  | none => exact wpAny_pure h1
  | some x =>
    refine wpAny_bind (wpAny_mono h1 (fun _ s2 h2 => wpAny_bind (wpAny_mono h2 (fun _ s3 h3 => wpAny_bind (wpAny_mono h3 (fun y s4 h4 => ?_) fun _ _ q => q)) fun _ _ q => q)) fun _ _ q => q)
    cases y with
    | false => exact wpAny_pure ⟨rfl, h4⟩
    | true =>
      refine wpAny_bind (wpAny_bind (wpAny_mono h4 (fun k s5 h5 => wpAny_bind (wpAny_holding (wpAny_mono h5 (fun u s6 h6 => ?_) fun _ _ q => q))) fun _ _ q => q))
      exact wpAny_bind (wpAny_standAt (wpAny_holding (wpAny_mono h6 (fun _ s7 h7 => wpAny_pure ⟨rfl, h7⟩) fun _ _ q => q)))
theorem startB (h0 : codeAny (model pr w) A (.compLoop (DC ka va ta ia ca tb ib cb sc ps) 1 it (.ref D) en) R s)
    (h : wpAny (model pr w) A (pyIter it) (fun j s' => codeAny (model pr w) A (.compLoop (DC ka va ta ia ca tb ib cb sc ps) 1 j (.ref D) en) R s') (eR pr w A en R) s) : codeAny (model pr w) A (.compStart (DC ka va ta ia ca tb ib cb sc ps) 1 it (.ref D) en) R s := by
  refine codeAny_of_tree ?_
  show wpAny _ _ ((compStart (DC ka va ta ia ca tb ib cb sc ps) 1 it (.ref D) en).onRaise (fun x => do noteFrame x en; standAt theWindowsPlace)) _ _ s
  refine wpAny_notedAt ?_
  unfold compStart
  show wpAny _ _ (ask >>= _) _ _ s
  refine wpAny_bind (wpAny_askSetting (wpAny_ite ?_))
  split
  · first
      | exact wpAny_bind (wpAny_pure (wpAny_pure ⟨rfl, h0⟩))
      | exact wpAny_pure ⟨rfl, h0⟩
  · first
      | exact wpAny_bind (wpAny_rule (wpAny_bind (wpAny_standAt (wpAny_bind (wpAny_mono h (fun _ _ g => wpAny_pure ⟨rfl, g⟩) fun _ _ q => q)))))
      | (refine wpAny_bind (wpAny_rule ?_); show wpAny _ _ (standAt ib.pos >>= _) _ _ s; exact wpAny_bind (wpAny_standAt (wpAny_bind (wpAny_mono h (fun _ _ g => wpAny_pure ⟨rfl, g⟩) fun _ _ q => q))))
end
section
variable {X : Cx}
/-- d[k] = v by the comprehension, k a tuple -/
theorem setT {pins : List (Addr × Obj)} {σ : L2.St} {H : Hp} {s : Shared} {E : Value → Shared → Prop} {D c : Addr} {kvs : List (List Key × V)} {k : List Key} {v : V} {r : Value} {Q : Unit → Shared → Prop} (hu : X.A.units < cLine) (I : Inv X pins σ H s) (hD : H D = some (.dT kvs)) (hc : H c = some (.tup (k.map kV)))
    (hz : kvs.length < sizeLine) (rv : RelV v r) (h : ∀ s', Inv X pins σ (upd H D (.dT (putK kvs k v))) s' → Q () s') : wpAny (model X.prog X.w) X.A (dictSet D (.ref c) r) Q E s := by
  obtain ⟨zl, nsys, xs, rel, dd⟩ := dt_of I.hok hD
  have len := Paired.length rel
  refine wpAny_dictSet_heap (hsz := by omega) hu (key_of I.hok hc) dd fun h' dd' sb => h _ ?_
  obtain ⟨o, es, ep, a1, a2, a3, a4, _, a5⟩ := dd'
  have nl : (putK kvs k v).length ≤ sizeLine := Nat.le_trans (length_putK kvs k v) hz
  refine d_write I (by rw [hD]; exact True.intro) sb ⟨o, a1⟩ ⟨nl, nsys, _, (rel.put k hc rv).keeps fun b ys eb => ?_, o, es, ep, a1, a2, a3, a4, a5⟩
  rw [upd_ne (ne_of eb hD (fun y => nomatch y))]
  exact eb
/-- the inner loop's turns, behind which Nx -/
def innerT (g1 : TG) (tt1 : TT) (tk tv : TE) (vs1 : List Nat) (D : Addr) (J1 : It) (σ2 : L2.St) (Nx : Hp → Prop) (W1 : Nat → Nat → Hp → Prop) : Prop := ∀ j k H, W1 j k H → (J1.stop j H ∧ Nx H) ∨ (J1.go j H ∧ ∃ Nx1 : Hp → Prop, (∀ H', Nx1 H' → ∃ k', k' < k ∧ W1 (j + 1) k' H') ∧
  ∀ x H', J1.yld j H x H' → g1 x (wipe σ2 vs1) H' fun σ3 H5 => wipe σ3 vs1 = wipe σ2 vs1 ∧ tt1 σ3 H5 fun y H6 => if y = true then tk σ3 H6 fun y H7 => tv σ3 H7 fun z H8 => ∃ kvs k c, y = .ref c ∧ H8 c = some (.tup (k.map kV)) ∧ H8 D = some (.dT kvs) ∧ kvs.length < sizeLine ∧ Nx1 (upd H8 D (.dT (putK kvs k z))) else Nx1 H6)
def tDc2 (wi : TI) (g : TG) (tt : TT) (wi1 : TI) (g1 : TG) (tt1 : TT) (tk tv : TE) (vs vs1 : List Nat) : TE := fun σ H Q => wi σ H fun J H1 => ∀ D, H1 D = none → ∃ W : Nat → Nat → Hp → Prop, (∃ m, W 0 m (upd H1 D (.dT []))) ∧ ∀ i m H, W i m H → (J.stop i H ∧ Q (.ref D) H) ∨ (J.go i H ∧
  ∃ Nx : Hp → Prop, (∀ H', Nx H' → ∃ m', m' < m ∧ W (i + 1) m' H') ∧ ∀ x H', J.yld i H x H' → g x (wipe σ vs) H' fun σ2 H2 => wipe σ2 vs = wipe σ vs ∧ tt σ2 H2 fun y H3 => if y = true then wi1 σ2 H3 fun J1 H4 => ∃ W1 : Nat → Nat → Hp → Prop, (∃ m, W1 0 m H4) ∧ innerT g1 tt1 tk tv vs1 D J1 σ2 Nx W1 else Nx H3)
/-- the inner loop, in the block's own frame -/
theorem innerOk {B : Cx} {ka va ta ia tb ib : Expr} {ca cb : List Expr} {sc : Scope} {ps : Pos} {g1 : TG} {tt1 : TT} {tk tv : TE} {vs1 : List Nat} {D : Addr} {pins : List (Addr × Obj)} {σ : L2.St} {H : Hp} {s : Shared} {it : Addr} {fp : List Addr} {tn : Nat → Heap → Prop} {J : It} {Nx : Hp → Prop} {W : Nat → Nat → Hp → Prop} {m : Nat} {Fin : Shared → Prop}
    (cal : B.calm = true) (ex : B.xe = fun _ _ => False) (hu : B.A.units < cLine) (pg : PG B tb g1) (pt : PTs B cb tt1) (pk : PE B ka tk) (pv : PE B va tv) (I : Inv B pins σ H s) (T : Turn B.prog B.w B.K tb J fp it tn) (st : tn 0 s.heap) (f : ∀ b ∈ fp, FpOk B pins H b) (w0 : W 0 m H)
    (turn : innerT g1 tt1 tk tv vs1 D J σ Nx W) (fin : ∀ H' s', Inv B pins (wipe σ vs1) H' s' → Nx H' → Fin s') :
    codeAny (model B.prog B.w) B.A (.compLoop (DC ka va ta ia ca tb ib cb sc ps) 1 (.ref it) (.ref D) B.env) (fun r s' => match r with
      | .ok _ => Fin s'
      | .error _ => False) s := by
  have fx : ∀ {H' : Hp}, (∀ b ∈ fp, H' b = none) → ∀ b ∈ fp, FpOk B pins H' b := fun h b hb => ⟨h b hb, (f b hb).2⟩
  have go : ∀ {α : Type} {t : Sem α} {P P' : α → Shared → Prop} {E' : Value → Shared → Prop} {s' : Shared}, wpAny (model B.prog B.w) B.A t P (fun _ _ => False) s' → (∀ a s2, P a s2 → P' a s2) → wpAny (model B.prog B.w) B.A t P' E' s' := fun a b => wpAny_mono a b fun _ _ z => z.elim
  refine loopB (fun k s' => ∃ j H', Inv B pins (wipe σ vs1) H' s' ∧ tn j s'.heap ∧ (∀ b ∈ fp, H' b = none) ∧ W j k H') ?_ m ⟨0, H, I.weak (wipe_length _ _) (fun j v e => (wipe_some e).1), st, fun b hb => (f b hb).1, w0⟩
  rintro k s1 ⟨j, H1, I1, st1, n1, w1⟩
  unfold oneTurn
  rcases turn j k H1 w1 with ⟨stop, nx⟩ | ⟨gone, Nx1, hN, step⟩
  · refine go (T.done B rfl rfl rfl cal j _ s1 (wipe σ vs1) H1 (fun _ _ => False) I1 (fx n1) st1 stop) fun o s2 ⟨ho, I2⟩ => ?_
    subst ho
    exact fin H1 s2 I2 nx
  · refine go (T.item B rfl rfl rfl cal j _ s1 (wipe σ vs1) H1 (fun _ _ => False) I1 (fx n1) st1 gone) fun o s2 ⟨u, ho, h2⟩ => ?_
    subst ho
    refine go h2 fun _ s3 ⟨x, H3, I3, r3, y3, st3, n3⟩ => ?_
    have I3' := I3.pinned (fx n3) (T.obj _ _ st3)
    have a1 := pg.run _ s3 (wipe σ vs1) H3 x u _ I3' r3 (step x H3 y3)
    rw [ex] at a1
    refine go a1 fun _ s4 ⟨σ4, H4, I4, hw4, q4⟩ => ?_
    have a2 := pt.run _ s4 σ4 H4 _ I4 q4
    rw [ex] at a2
    refine go a2 fun y s5 ⟨H5, I5, q5⟩ => ?_
    have back : ∀ {s' : Shared} {H' : Hp}, Inv B (pins ++ pinsAt fp s3.heap) σ4 H' s' → Nx1 H' → ∃ m, m < k ∧ ∃ j H', Inv B pins (wipe σ vs1) H' s' ∧ tn j s'.heap ∧ (∀ b ∈ fp, H' b = none) ∧ W j m H' := by
      intro s' H' I' nx
      obtain ⟨m', lt, w'⟩ := hN H' nx
      have pin : ∀ b ∈ fp, ∀ o, s3.heap.get? b = some o → s'.heap.get? b = some o ∧ H' b = none := fun b hb o e => by
        obtain ⟨p1, p2, _⟩ := I'.pin (b, o) (List.mem_append_right _ (List.mem_append_right _ (mem_pinsAt hb e)))
        exact ⟨p1, p2⟩
      refine ⟨m', lt, j + 1, H', I'.unpinned.weak (by rw [← hw4, wipe_length]) (fun i v e => ?_), T.keep _ _ _ st3 fun b hb o e => (pin b hb o e).1, fun b hb => ?_, w'⟩
      · rw [← hw4] at e
        exact (wipe_some e).1
      · obtain ⟨o, e, _⟩ := T.obj _ _ st3 b hb
        exact (pin b hb o e).2
    cases y with
    | false => exact back I5 q5
    | true =>
      have a3 := pk.run _ s5 σ4 H5 _ I5 q5
      rw [ex] at a3
      refine go a3 fun kv s6 ⟨y6, H6, I6, r6, q6⟩ => ?_
      have a4 := pv.run _ s6 σ4 H6 _ I6 q6
      rw [ex] at a4
      refine go a4 fun vv s7 ⟨y7, H7, I7, r7, kvs, key, c, e6, hc, hD, hz, nx⟩ => ?_
      subst e6
      obtain rfl : kv = Value.ref c := r6
      exact setT hu I7 hD hc hz r7 fun s8 I8 => back I8 nx
/-- the readings within the block -/
structure InB (B : Cx) (ka va ta : Expr) (ca : List Expr) (tb ib : Expr) (cb : List Expr) (g : TG) (tt : TT) (wi1 : TI) (g1 : TG) (tt1 : TT) (tk tv : TE) : Prop where
  pg : PG B ta g
  pt : PTs B ca tt
  pi : PI B tb ib wi1
  pg1 : PG B tb g1
  pt1 : PTs B cb tt1
  pk : PE B ka tk
  pv : PE B va tv
theorem wipe_far {σ : L2.St} {i : Nat} : ∀ {vs : List Nat}, i ∉ vs → (wipe σ vs)[i]? = σ[i]?
  | [], _ => rfl
  | v :: vs, n => by
    have n1 : v ≠ i := fun e => n (e ▸ List.mem_cons_self)
    unfold wipe
    rw [List.getElem?_set_ne n1, wipe_far fun m => n (List.mem_cons_of_mem _ m)]
theorem dc2_run {use : Option (Value → Sem Unit)} {Qf : Value → Shared → Prop} {pins : List (Addr × Obj)} {s : Shared} {σ : L2.St} {H : Hp} {Q : VK} {pos' : Pos} {ka va ta ia tb ib : Expr} {ca cb : List Expr} {sc : Scope} {ps : Pos} {own : List (Str × Nat)} {vs1 : List Nat} {wi wi1 : TI} {g g1 : TG} {tt tt1 : TT} {tk tv : TE} (cal : X.calm = true) (hu : X.A.units < cLine) (nd : X.N.Nodup) (hi : PI X ta ia wi) (ok : BlkOk X.N X.env.scope sc own) (sub : ∀ i ∈ vs1, i ∈ own.map (·.2))
    (rd : ∀ (s : Shared) (H : Hp) (C : Addr) (cl : List (Str × Addr)) (fp : List Addr), InB (X.blk s H sc (compEnvC sc cl C X.env) fp) ka va ta ca tb ib cb g tt wi1 g1 tt1 tk tv) (hs : ∀ x, foldedSetIterable ia X.env x = pure x) (hs1 : ∀ en x, foldedSetIterable ib en x = pure x) (I : Inv X pins σ H s) (h : tDc2 wi g tt wi1 g1 tt1 tk tv (own.map (·.2)) vs1 σ H Q)
    (fin : ∀ D C s' m H', Inv X pins σ H' s' → Q (.ref D) H' → s'.heap.Ns C m → FpOk X pins H' C → compPost (model X.prog X.w) X.A X.xe use Qf (.ref D) C (.ok .next) s') :
    wpAny (model X.prog X.w) X.A (comprehension (DC ka va ta ia ca tb ib cb sc ps) sc X.env pos' newDict false (eval ia X.env) use) Qf X.xe s := by
  have cells : ∀ y ∈ sc.names, y.2 = .free → ∃ c, X.env.cells.lookup y.1 = some c := fun y hy e => (ok.free y hy e).elim (fun z => I.ok.has _ (.inl z)) (fun z => I.ok.has _ (.inr z))
  refine wpAny_comprehension_free (use := use) rfl hs (closure_ok cells) ok.kind (fun y hy e => by rw [ok.uniq y hy, e]) (thn (hi.run pins s σ H _ I h) fun _ s1 hx => thn hx fun _ s2 h2 => ?_)
  obtain ⟨it, fp, tn, J, H2, rfl, I2, T, st2, f2, q⟩ := h2
  refine wpAny_newObj_type (newEnv_comp ?_)
  generalize eD : s2.heap.objs.size = D
  have freeD : H2 D = none := I2.hok.fresh (Nat.le_of_eq eD)
  obtain ⟨W, ⟨m0, w0⟩, turn⟩ := q D freeD
  generalize e3 : ({ s2 with heap := s2.heap.push { cls := .type "dict", data := .dict #[] } } : Shared) = s3
  have p3 : s3.heap = s2.heap.push { cls := .type "dict", data := .dict #[] } := by rw [← e3]
  have I3 : Inv X pins σ (upd H2 D (.dT [])) s3 := by
    rw [← e3, ← eD]
    exact I2.laid (t' := s2.toks) (fun _ _ e => Heap.get?_push_of_some _ e) (Nat.le_refl _) (dt_empty s2.heap I2.big)
  have low : ∀ b ∈ fp, b < s2.heap.objs.size := fun b hb => by
    obtain ⟨o, e, _⟩ := T.obj _ _ st2 b hb
    exact Heap.lt_size e
  have f3 : ∀ b ∈ fp, FpOk X pins (upd H2 D (.dT [])) b ∧ b < s3.heap.objs.size := fun b hb => by
    have lt := low b hb
    refine ⟨⟨?_, (f2 b hb).2⟩, ?_⟩
    · rw [upd_ne (by rw [← eD]; exact Nat.ne_of_lt lt)]
      exact (f2 b hb).1
    · rw [p3, Heap.size_push]
      exact Nat.lt_succ_of_lt lt
  have st3 : tn 0 s3.heap := T.keep _ _ _ st2 fun b _ o e => by
    rw [p3]
    exact Heap.get?_push_of_some _ e
  have I4 := block_start I3 ok nd f3
  have B := rd s3 (upd H2 D (.dT [])) s3.heap.objs.size (cellsFrom (s3.heap.objs.size + 1) sc.names (cloFrom X.env.cells sc.names [])) fp
  show codeAny _ _ (.compStart (DC ka va ta ia ca tb ib cb sc ps) 0 (.ref it) (.ref D) (compEnvC sc (cellsFrom (s3.heap.objs.size + 1) sc.names (cloFrom X.env.cells sc.names [])) s3.heap.objs.size X.env)) (compPost (model X.prog X.w) X.A X.xe use Qf (.ref D) s3.heap.objs.size) { s3 with heap := pushCells (s3.heap.push { cls := .type "dict", data := .dict #[] }) sc.names }
  have none3 : ∀ b ∈ fp, (upd H2 D (.dT [])) b = none := fun b hb => (f3 b hb).1.1
  generalize een : compEnvC sc (cellsFrom (s3.heap.objs.size + 1) sc.names (cloFrom X.env.cells sc.names [])) s3.heap.objs.size X.env = en at I4 B ⊢
  have loc : en.locals = s3.heap.objs.size := by
    subst een
    rfl
  generalize eH3 : upd H2 D (.dT []) = H3 at I3 I4 B w0 none3 f3
  generalize e4 : ({ s3 with heap := pushCells (s3.heap.push { cls := .type "dict", data := .dict #[] }) sc.names } : Shared) = s4 at I4 ⊢
  have st4 : tn 0 s4.heap := T.keep _ _ _ st3 fun b _ o e => by
    rw [← e4]
    exact pushCells_keeps _ _ _ _ (Heap.get?_push_of_some _ e)
  have fpB : ∀ {σ' : L2.St} {H' : Hp} {s' : Shared}, Inv (X.blk s3 H3 sc en fp) [] σ' H' s' → (∀ b ∈ fp, H' b = none) → ∀ b ∈ fp, FpOk (X.blk s3 H3 sc en fp) [] H' b := fun I' n b hb =>
    ⟨n b hb, (I'.ok.exf b hb).1, I'.ok.exfs b hb, .inl hb, fun x c e => (I'.ok.exf b hb).2 x c e, fun p hp => by simp at hp⟩
  have loop : codeAny (model X.prog X.w) X.A (.compLoop (DC ka va ta ia ca tb ib cb sc ps) 0 (.ref it) (.ref D) en) (compPost (model X.prog X.w) X.A X.xe use Qf (.ref D) s3.heap.objs.size) s4 := by
    refine loopA (hs1 en) (fun n s' => ∃ i H', Inv (X.blk s3 H3 sc en fp) [] (wipe σ (own.map (·.2))) H' s' ∧ tn i s'.heap ∧ (∀ b ∈ fp, H' b = none) ∧ W i n H') ?_ m0 ⟨0, H3, I4, st4, none3, w0⟩
    rintro n s5 ⟨i, H5, I5, st5, n5, w5⟩
    unfold oneTurn
    rcases turn i n H5 w5 with ⟨stop, qq⟩ | ⟨gone, Nx, hNx, step⟩
    · refine thnF (T.done (X.blk s3 H3 sc en fp) rfl rfl rfl cal i [] s5 _ H5 (fun _ _ => False) I5 (fpB I5 n5) st5 stop) fun o s6 ⟨ho, I6⟩ => ?_
      subst ho
      have I7 : Inv X pins σ H5 s6 := I3.call' (ch := fp) I6.os I6.base I6.hok I6.bare fun b hb => by
        obtain ⟨_, c1, _, c3, c4, c5⟩ := (f3 b hb).1
        exact ⟨c3, c1, c4, c5⟩
      have nC : H5 s3.heap.objs.size = none := by
        rw [← loc]
        exact I6.free
      obtain ⟨m, hn, _⟩ := I6.loc
      have hn2 : s6.heap.Ns en.locals m := hn
      rw [loc] at hn2
      exact fin D s3.heap.objs.size s6 m H5 I7 qq hn2 (I3.fpOk (Nat.le_refl _) nC)
    · refine thnF (T.item (X.blk s3 H3 sc en fp) rfl rfl rfl cal i [] s5 _ H5 (fun _ _ => False) I5 (fpB I5 n5) st5 gone) fun o s6 ⟨u, ho, h6⟩ => ?_
      subst ho
      refine thnF h6 fun _ s7 ⟨x, H7, I7, r7, y7, st7, n7⟩ => ?_
      have I7' := I7.pinned (fpB I7 n7) (T.obj _ _ st7)
      refine thnF (B.pg.run _ s7 _ H7 x u _ I7' r7 (step x H7 y7)) fun _ s8 ⟨σ8, H8, I8, hw8, q8⟩ => ?_
      refine thnF (B.pt.run _ s8 σ8 H8 _ I8 q8) fun y s9 ⟨H9, I9, q9⟩ => ?_
      have back : ∀ {σ9 : L2.St} {s' : Shared} {H' : Hp}, Inv (X.blk s3 H3 sc en fp) ([] ++ pinsAt fp s7.heap) σ9 H' s' → σ9.length = σ8.length → (∀ (j : Nat) v, (wipe σ (own.map (·.2)))[j]? = some (some v) → σ9[j]? = some (some v)) → Nx H' →
          ∃ m, m < n ∧ ∃ i H', Inv (X.blk s3 H3 sc en fp) [] (wipe σ (own.map (·.2))) H' s' ∧ tn i s'.heap ∧ (∀ b ∈ fp, H' b = none) ∧ W i m H' := by
        intro σ9 s' H' I' hl hk nx
        obtain ⟨m', lt, w'⟩ := hNx H' nx
        have pin : ∀ b ∈ fp, ∀ o, s7.heap.get? b = some o → s'.heap.get? b = some o ∧ H' b = none := fun b hb o e => by
          obtain ⟨p1, p2, _⟩ := I'.pin (b, o) (List.mem_append_right _ (List.mem_append_right _ (mem_pinsAt hb e)))
          exact ⟨p1, p2⟩
        refine ⟨m', lt, i + 1, H', (I'.unpinned (pins := [])).weak (by rw [hl, ← hw8, wipe_length]) hk, T.keep _ _ _ st7 fun b hb o e => (pin b hb o e).1, fun b hb => ?_, w'⟩
        obtain ⟨o, e, _⟩ := T.obj _ _ st7 b hb
        exact (pin b hb o e).2
      have k8 : ∀ (j : Nat) v, (wipe σ (own.map (·.2)))[j]? = some (some v) → σ8[j]? = some (some v) ∧ j ∉ own.map (·.2) := fun j v e => by
        rw [← hw8] at e
        exact wipe_some e
      cases y with
      | false => exact back I9 rfl (fun j v e => (k8 j v e).1) q9
      | true =>
        refine thnF (B.pi.run _ s9 σ8 H9 _ I9 q9) fun _ s10 hx => thnF hx fun _ s11 h11 => ?_
        obtain ⟨it1, fp1, tn1, J1, H11, rfl, I11, T1, st11, f11, W1, ⟨m1, w1⟩, turn1⟩ := h11
        have in1 := innerOk (B := X.blk s3 H3 sc en fp) (ka := ka) (va := va) (ta := ta) (ia := ia) (tb := tb) (ib := ib) (ca := ca) (cb := cb) (sc := sc) (ps := ps) (vs1 := vs1) (Fin := fun s' => ∃ m, m < n ∧ ∃ i H', Inv (X.blk s3 H3 sc en fp) [] (wipe σ (own.map (·.2))) H' s' ∧ tn i s'.heap ∧ (∀ b ∈ fp, H' b = none) ∧ W i m H')
          cal rfl hu B.pg1 B.pt1 B.pk B.pv I11 T1 st11 f11 w1 turn1 fun H' s' I' nx => back I' (wipe_length _ _) (fun j v e => by
            obtain ⟨g1, g2⟩ := k8 j v e
            rw [wipe_far fun z => g2 (sub j z)]
            exact g1) nx
        exact startB in1 (T1.self X.A 0 _ _ _ st11 in1)
  exact codeAny_compStart_dict loop (T.self X.A 0 _ _ _ st4 loop)
theorem pe_dc2 {ka va ta ia tb ib : Expr} {ca cb : List Expr} {sc : Scope} {ps : Pos} {own : List (Str × Nat)} {vs1 : List Nat} {wi wi1 : TI} {g g1 : TG} {tt tt1 : TT} {tk tv : TE} (cal : X.calm = true) (hu : X.A.units < cLine) (nd : X.N.Nodup) (hi : PI X ta ia wi) (ok : BlkOk X.N X.env.scope sc own) (sub : ∀ i ∈ vs1, i ∈ own.map (·.2))
    (rd : ∀ (s : Shared) (H : Hp) (C : Addr) (cl : List (Str × Addr)) (fp : List Addr), InB (X.blk s H sc (compEnvC sc cl C X.env) fp) ka va ta ca tb ib cb g tt wi1 g1 tt1 tk tv) (hs : ∀ x, foldedSetIterable ia X.env x = pure x := by intro _; rfl) (hs1 : ∀ en x, foldedSetIterable ib en x = pure x := by intro _ _; rfl) :
    PE X (DC ka va ta ia ca tb ib cb sc ps) (tDc2 wi g tt wi1 g1 tt1 tk tv (own.map (·.2)) vs1) := by
  constructor
  intro pins s σ H Q I h
  rw [arm_eval_DictComp]
  refine dc2_run cal hu nd hi ok sub rd hs hs1 I h fun D C s6 m H5 I7 qq hn fc => ⟨m, hn, fun h'' sb => ?_⟩
  obtain ⟨d0, d1, d2, d3, d4, d5⟩ := fc
  exact ⟨.ref D, H5, I7.turned (t' := s6.toks) (fun b o hb e => (sb.2 b hb).trans e) d0 d1 d3 d4 d5, rfl, qq⟩
/-- a comprehension's value is stored while its block stands -/
theorem swD {ka va : Expr} {gs : List Comprehension} {sc : Scope} {ps py : Pos} {y : Str} {l : Nat} {en : Env} (h1 : en.scope.kind = .function) (h2 : en.scope.names.lookup y = some .local) (h3 : (py.line == ps.line) = true)
    (h4 : (sc.names.any fun (n, k) => n == y && (k == .local || k == .cell)) = false) : swapsWith (.DictComp ka va gs sc ps) (some (.Name y py)) l en = pure true := by
  have a : en.kindOf y = some .local := h2
  have b : en.blockKind = .function := by
    unfold Env.blockKind
    rw [h1]
    rfl
  unfold swapsWith
  simp only [b, a, h4, Expr.pos, h3]
  rfl
/-- behind the block: the name gets the new dict -/
theorem postSet {pins : List (Addr × Obj)} {σ : L2.St} {H' : Hp} {Dn : Ends} {i : Nat} {y : Str} {py : Pos} {L C : Addr} {s' : Shared} {m} (nd : X.N.Nodup) (hy : X.N[i]? = some y) (hl : X.env.scope.names.lookup y = some .local) (I' : Inv X pins σ H' s') (q : gName i (.ref L) σ H' Dn.nx) (hn : s'.heap.Ns C m) (fc : FpOk X pins H' C) :
    compPost (model X.prog X.w) X.A X.xe (some (assign (.Name y py) X.env)) (fun _ s' => SP X pins Dn .next s') (.ref L) C (.ok .next) s' := by
  obtain ⟨d0, d1, d2, d3, d4, d5⟩ := fc
  show wpAny _ _ (assign (.Name y py) X.env (.ref L)) _ _ _
  refine wpAny_assign_Name (store_ok2 (v := V.ref L) I' nd hy (.inl hl) rfl (fun s2 I2 ⟨a, sb, ha⟩ => ?_) (.inr hl))
  have ne : C ≠ a := by
    rcases ha with z | z
    · rw [z]
      exact d1
    · exact fun e => d4 y a z e.symm
  exact ⟨m, hn.sameBut sb ne, fun h3 sb3 => ⟨_, H', I2.turned (t' := s2.toks) (fun b o hb e => (sb3.2 b hb).trans e) d0 d1 d3 d4 d5, q⟩⟩
theorem ps_setDc2 {i : Nat} {y : Str} {py spos : Pos} {ka va ta ia tb ib : Expr} {ca cb : List Expr} {sc : Scope} {ps : Pos} {own : List (Str × Nat)} {vs1 : List Nat} {wi wi1 : TI} {g g1 : TG} {tt tt1 : TT} {tk tv : TE} (cal : X.calm = true) (hu : X.A.units < cLine) (nd : X.N.Nodup) (hy : X.N[i]? = some y) (hl : X.env.scope.names.lookup y = some .local)
    (hsw : swapsWith (DC ka va ta ia ca tb ib cb sc ps) (some (.Name y py)) spos.line X.env = pure true) (hi : PI X ta ia wi) (ok : BlkOk X.N X.env.scope sc own) (sub : ∀ i ∈ vs1, i ∈ own.map (·.2))
    (rd : ∀ (s : Shared) (H : Hp) (C : Addr) (cl : List (Str × Addr)) (fp : List Addr), InB (X.blk s H sc (compEnvC sc cl C X.env) fp) ka va ta ca tb ib cb g tt wi1 g1 tt1 tk tv) (hs : ∀ x, foldedSetIterable ia X.env x = pure x := by intro _; rfl) (hs1 : ∀ en x, foldedSetIterable ib en x = pure x := by intro _ _; rfl) :
    PS X (.Assign [.Name y py] (DC ka va ta ia ca tb ib cb sc ps) spos) (tAsg (tDc2 wi g tt wi1 g1 tt1 tk tv (own.map (·.2)) vs1) (gName i)) := by
  constructor
  intro pins s σ H Dn I h
  have h : tDc2 wi g tt wi1 g1 tt1 tk tv (own.map (·.2)) vs1 σ H (fun x H1 => gName i x σ H1 Dn.nx) := h
  rw [exec_Assign_Name_used _ _ _ _ hsw]
  refine wpAny_bind (wpAny_standAt (wpAny_bind ?_))
  show wpAny _ X.A (do let _ ← comprehension (DC ka va ta ia ca tb ib cb sc ps) sc X.env (firstIterPos [⟨ta, ia, ca, 0⟩, ⟨tb, ib, cb, 0⟩] ps) newDict false (eval ia X.env) (some (assign (.Name y py) X.env))) _ _ s
  exact wpAny_bind (thn (dc2_run cal hu nd hi ok sub rd hs hs1 I h fun L C s' m H' I' q hn fc => postSet nd hy hl I' q hn fc) fun _ s' q => wpAny_pure (wpAny_pure q))
/-- name = {k: v for a in s} -/
theorem ps_setDc {i : Nat} {y : Str} {py spos : Pos} {ka va ta ia : Expr} {ca : List Expr} {sc : Scope} {ps : Pos} {own : List (Str × Nat)} {wi : TI} {g : TG} {tt : TT} {tk tv : TE} (cal : X.calm = true) (nd : X.N.Nodup) (hy : X.N[i]? = some y) (hl : X.env.scope.names.lookup y = some .local)
    (hsw : swapsWith (.DictComp ka va [⟨ta, ia, ca, 0⟩] sc ps) (some (.Name y py)) spos.line X.env = pure true) (hi : PI X ta ia wi) (ok : BlkOk X.N X.env.scope sc own) (hg : ∀ (s : Shared) (H : Hp) (C : Addr) (cl : List (Str × Addr)) (fp : List Addr), PG (X.blk s H sc (compEnvC sc cl C X.env) fp) ta g)
    (ht : ∀ (s : Shared) (H : Hp) (C : Addr) (cl : List (Str × Addr)) (fp : List Addr), PTs (X.blk s H sc (compEnvC sc cl C X.env) fp) ca tt) (hk : ∀ (s : Shared) (H : Hp) (C : Addr) (cl : List (Str × Addr)) (fp : List Addr), PE (X.blk s H sc (compEnvC sc cl C X.env) fp) ka tk)
    (he : ∀ (s : Shared) (H : Hp) (C : Addr) (cl : List (Str × Addr)) (fp : List Addr), PE (X.blk s H sc (compEnvC sc cl C X.env) fp) va tv) (hs : ∀ x, foldedSetIterable ia X.env x = pure x := by intro _; rfl) :
    PS X (.Assign [.Name y py] (.DictComp ka va [⟨ta, ia, ca, 0⟩] sc ps) spos) (tAsg (tDc wi g tt tk tv (own.map (·.2))) (gName i)) := by
  constructor
  intro pins s σ H Dn I h
  have h : tDc wi g tt tk tv (own.map (·.2)) σ H (fun x H1 => gName i x σ H1 Dn.nx) := h
  rw [exec_Assign_Name_used _ _ _ _ hsw]
  refine wpAny_bind (wpAny_standAt (wpAny_bind ?_))
  show wpAny _ X.A (do let _ ← comprehension (.DictComp ka va [⟨ta, ia, ca, 0⟩] sc ps) sc X.env (firstIterPos [⟨ta, ia, ca, 0⟩] ps) newDict false (eval ia X.env) (some (assign (.Name y py) X.env))) _ _ s
  exact wpAny_bind (thn (dc_core cal nd I hi ok hg ht hk he hs h fun L C s' m H' I' q hn fc => postSet nd hy hl I' q hn fc) fun _ s' q => wpAny_pure (wpAny_pure q))
end
end LZ

namespace LJ
open PySem PySem.Spec PyProof.Rows L2 GuL HG Bt
abbrev sIsCase : Stmt := topS 41
abbrev sWidthOf : Stmt := topS 42
section
variable {P : Program} {w : World} {K : PySem.W.Frag} {mg : Str → Option Value} {base : Heap}
theorem scAimBy : FnScope ["onward", "word", "wanted", "mask", "aim"] ["onward", "word"] (defScope sAimBy) := ⟨rfl, rfl, rfl, by decide +kernel, rfl, by decide +kernel, by decide +kernel⟩
def spAimBy (K : PySem.W.Frag) : Sp := fun vs H Q _ => ∃ (u : V) (x : Nxt) (n : Nat), vs = [u, .int (n : Int)] ∧ Dp K H u (encN x) ∧ (aimsN x).length ≤ 9 ∧ ∀ H', Same H H' → Q (.str (leadsF x n)) H'
theorem ok_aimby {f fA : Addr} {fd dfA : FuncData} (F : Fun K "aim_by" "aim_by" sAimBy f fd) (B : Blt mg) (KA : Kn P w K mg base 1 "aims_of" sAimsOf ["onward"] (spAimsOf K) fA dfA) : FnOk P w K mg base CX0 2 f fd ["onward", "word"] (spAimBy K) := by
  refine F.ok scAimBy (fun vs H Q E h => ?_) (fun cdv A outer s H vs Q E hr h => ?_)
  · obtain ⟨u, x, n, rfl, _⟩ := h
    rfl
  · obtain ⟨u, x, n, rfl, du, l9, k⟩ := h
    refine ⟨_, (pss_cons (ps_if (pt_cmpR op_ne (pe_ix ix_tup (pv 0) pe_int (fun _ _ => rfl)) pe_str (nomark _)) (pss_one (ps_ret (pe_ix ix_list (pe_call KA.G (hr.mono (by decide)) (by rfl) KA.g KA.F.kp KA.b .nil pass0 (pa_cons (pv 0) pa_nil)) pe_int (fun _ _ => rfl)))) pss_nil) (pss_cons (ps_for PassesOwn.never rfl (pi_tup (pe_ix ix_tup (pv 0) pe_int (fun _ _ => rfl))) (pg_tup (by rfl) (pgs_cons (pg_name (i := 2) scAimBy.nd rfl (.inl rfl)) (pgs_cons (pg_name (i := 3) scAimBy.nd rfl (.inl rfl)) (pgs_cons (pg_name (i := 4) scAimBy.nd rfl (.inl rfl)) pgs_nil)))) (pss_one (ps_if (pt_cmpR op_eq (pe_op op_and (pv 1) (pv 3)) (pv 2) (nomark _)) (pss_one (ps_ret (pv 4))) pss_nil))) (pss_one (ps_ret (pe_ix ix_tup (pv 0) pe_int (fun _ _ => rfl)))))), ?_⟩
    rcases nxt_first du with ⟨a, xs, t, rfl, ha, ht, e⟩ | ⟨pl, cs, z, rfl⟩
    · refine ⟨_, rfl, a, _, 0, _, rfl, rfl, ha, atI_nat (j := 0) rfl, rfl, _, rfl, ?_⟩
      rw [ht]
      refine iteT ⟨_, rfl, _, x, rfl, du, l9, fun H1 p s1 _ f1 => ?_⟩
      obtain ⟨y, ys, ey⟩ : ∃ y ys, aimsN x = y :: ys ∧ leadsF x n = y := by
        cases x with
        | acc => exact ⟨_, _, rfl, rfl⟩
        | rej => exact ⟨_, _, rfl, rfl⟩
        | go z => exact ⟨_, _, rfl, rfl⟩
        | by_ p cs z => exact absurd e (by simp [asksN])
      rw [ey.1] at f1
      have := k H1 s1
      rw [ey.2] at this
      exact ⟨p, _, 0, _, rfl, rfl, SqL.of f1, atI_nat (j := 0) rfl, this⟩
    · obtain ⟨a, up, uc, cx, rfl, hu, _, hc, hd⟩ := dp_by du
      have cl := dpAll_len hd
      rw [List.length_map] at cl
      refine ⟨_, rfl, a, _, 0, _, rfl, rfl, hu, atI_nat (j := 0) rfl, rfl, _, rfl, ?_⟩
      rw [by_yes]
      refine iteF ⟨_, rfl, a, _, 2, _, rfl, rfl, hu, atI_nat (j := 2) rfl, uc, rfl, ⟨_, hc⟩, for_tup (K := K) (a := uc) (xs := cx) (fun i σ H' => ∃ v2 v3 v4 : Option V, σ = [some (.ref a), some (.int (n : Int)), v2, v3, v4] ∧ H' = H ∧ ∀ c ∈ cs.take i, ¬ n &&& c.2.1 = c.1)
        ⟨_, _, _, rfl, rfl, fun c hc => nomatch hc⟩ (fun i σ H' _ ⟨_, _, _, _, q, _⟩ => by rw [q]; exact hc) ?_ ?_⟩
      · rintro i x σ H2 hi ⟨v2, v3, v4, rfl, rfl, no⟩
        obtain ⟨d, hd1, hd3⟩ := dpAll_at hd hi
        rw [List.getElem?_map] at hd1
        obtain ⟨c, hcc, rfl⟩ := Option.map_eq_some_iff.mp hd1
        obtain ⟨ca, rfl, hca⟩ := dp_cas hd3
        refine ⟨ca, _, rfl, hca, rfl, _, _, rfl, _, _, rfl, _, _, rfl, rfl, _, rfl, _, rfl, _, _, rfl, rfl, _, rfl, rfl, _, rfl, ?_⟩
        simp only [band_nat]
        by_cases q : n &&& c.2.1 = c.1
        · have q2 : (V.int ((n &&& c.2.1 : Nat) : Int)) = V.int (c.1 : Int) := by rw [q]
          rw [decide_eq_true q2]
          refine iteT ⟨_, rfl, ?_⟩
          have ef : leadsF (.by_ pl cs z) n = c.2.2 := by
            have hi2 := (List.getElem?_eq_some_iff.mp hcc).1
            have e1 : cs = cs.take i ++ c :: cs.drop (i + 1) := by
              have hx : cs[i] = c := by
                rw [List.getElem?_eq_getElem hi2] at hcc
                exact Option.some.inj hcc
              rw [← hx, ← List.drop_eq_getElem_cons hi2, List.take_append_drop]
            show ((cs.find? fun c => decide (n &&& c.2.1 = c.1)).map (·.2.2)).getD z = c.2.2
            rw [e1, List.find?_append, List.find?_eq_none.mpr (fun c' hc' => by simpa using no c' hc'), List.find?_cons, decide_eq_true q]
            rfl
          have := k _ (Same.refl _)
          rw [ef] at this
          exact this
        · have q2 : ¬ (V.int ((n &&& c.2.1 : Nat) : Int)) = V.int (c.1 : Int) := fun r => q (by
            injection r with r
            exact_mod_cast r)
          rw [decide_eq_false q2]
          refine iteF ⟨_, _, _, rfl, rfl, fun c' hc' => ?_⟩
          rw [List.take_add_one, hcc] at hc'
          rcases List.mem_append.mp hc' with hc' | hc'
          · exact no c' hc'
          · rw [List.mem_singleton.mp hc']
            exact q
      · rintro σ H2 ⟨v2, v3, v4, rfl, rfl, no⟩
        rw [List.take_of_length_le (by rw [cl]; exact Nat.le_refl _)] at no
        refine ⟨_, rfl, a, _, 3, _, rfl, rfl, hu, atI_nat (j := 3) rfl, ?_⟩
        have ef : leadsF (.by_ pl cs z) n = z := by
          show ((cs.find? fun c => decide (n &&& c.2.1 = c.1)).map (·.2.2)).getD z = z
          rw [List.find?_eq_none.mpr (fun c' hc' => by simpa using no c' hc')]
          rfl
        have := k _ (Same.refl _)
        rw [ef] at this
        exact this
def encT : Thg → PyData
  | .rd z => .tuple [.str "read", .str z]
  | .ask p => .tuple [.str "ask", encP p]
theorem scThingsOf : FnScope ["state", "things"] ["state"] (defScope sThingsOf) := ⟨rfl, rfl, rfl, by decide +kernel, rfl, by decide +kernel, by decide +kernel⟩
def spThingsOf (K : PySem.W.Frag) : Sp := fun vs H Q _ => ∃ (v : V) (s : Sta), vs = [v] ∧ Dp K H v (encS s) ∧ ∀ H' p xs, Same H H' → H p = none → H' p = some (.lst xs) → DpAll K H' xs ((ownT s).map encT) → Q (.ref p) H'
theorem noL_encT : ∀ x, NoL (encT x)
  | .rd z => .tup fun d hd => by
    simp only [List.mem_cons, List.not_mem_nil, or_false] at hd
    rcases hd with rfl | rfl <;> exact .str _
  | .ask p => .tup fun d hd => by
    simp only [List.mem_cons, List.not_mem_nil, or_false] at hd
    rcases hd with rfl | rfl
    · exact .str _
    · exact noL_encP p
theorem asks_one (x : Nxt) : asksN x = [] ∨ ∃ p, asksN x = [p] := by
  cases x with
  | acc => exact .inl rfl
  | rej => exact .inl rfl
  | go z => exact .inl rfl
  | by_ p cs z => exact .inr ⟨p, rfl⟩
theorem ok_thingsof {f fP : Addr} {fd dfP : FuncData} (F : Fun K "things_of" "things_of" sThingsOf f fd) (B : Blt mg) (KP : Kn P w K mg base 1 "place_of" sPlaceOf ["onward"] (spPlaceOf K) fP dfP) : FnOk P w K mg base CX0 2 f fd ["state"] (spThingsOf K) := by
  refine F.ok scThingsOf (fun vs H Q E h => ?_) (fun cdv A outer s H vs Q E hr h => ?_)
  · obtain ⟨v, s, rfl, _⟩ := h
    rfl
  · obtain ⟨v, s', rfl, dv, k⟩ := h
    refine ⟨_, (pss_cons (ps_set (i := 1) scThingsOf.nd rfl (.inl rfl) (pe_lst pa_nil)) (Evl.pss_cut (ps_if (pt_cmpR op_notN (pe_ix ix_tup (pv 0) pe_int (fun _ _ => rfl)) pe_non (nomark _)) (pss_one (ps_expr (pe_bm PySem.F.plainAttrs_list PySem.F.slot_list_append PySem.F.type_list_append mt_append (pv 1) (pa_cons (pe_tup (pa_cons pe_str (pa_cons (pe_ix ix_tup (pv 0) pe_int (fun _ _ => rfl)) pa_nil))) pa_nil)))) pss_nil) (Evl.pss_cut (ps_if (pt_cmpR op_notN (pe_call KP.G (hr.mono (by decide)) (by rfl) KP.g KP.F.kp KP.b .nil pass0 (pa_cons (pe_ix ix_tup (pv 0) pe_int (fun _ _ => rfl)) pa_nil)) pe_non (nomark _)) (pss_one (ps_expr (pe_bm PySem.F.plainAttrs_list PySem.F.slot_list_append PySem.F.type_list_append mt_append (pv 1) (pa_cons (pe_tup (pa_cons pe_str (pa_cons (pe_call KP.G (hr.mono (by decide)) (by rfl) KP.g KP.F.kp KP.b .nil pass0 (pa_cons (pe_ix ix_tup (pv 0) pe_int (fun _ _ => rfl)) pa_nil)) pa_nil))) pa_nil)))) pss_nil) (pss_one (ps_ret (pv 1)))))), ?_⟩
    obtain ⟨a, nv, rfl, ha, dn⟩ := dp_sta dv
    refine ⟨Nat.zero_le _, fun l hl => ?_⟩
    have s0 := same_new (o := .lst []) hl
    refine ⟨fun σ' H' => ∃ xs, σ' = [some (.ref a), some (.ref l)] ∧ Same H H' ∧ H' l = some (.lst xs) ∧ DpAll K H' xs ((rdT s'.hd).map encT) ∧ xs.length ≤ 1, ?_, ?_⟩
    · refine ⟨_, rfl, a, _, 1, _, rfl, rfl, sameT s0 ha, atI_nat (j := 1) rfl, rfl, _, rfl, ?_⟩
      cases e : s'.hd with
      | none =>
        show if (!decide ((V.non) = V.non)) = true then _ else _
        rw [nonF]
        exact iteF ⟨[], rfl, s0, upd_same, .nil, Nat.zero_le _⟩
      | some z =>
        show if (!decide (V.str z = V.non)) = true then _ else _
        rw [strT]
        rw [e] at ha
        refine iteT ⟨_, rfl, .inl ⟨rfl, _, SqL.of upd_same⟩, _, rfl, a, _, 1, _, rfl, rfl, sameT s0 ha, atI_nat (j := 1) rfl, by show 2 ≤ sizeLine; decide, fun q hq => ?_⟩
        have s1 := same_new (o := .tup [.str "read", .str z]) hq
        have hl1 := s1 _ _ (upd_same (H := H) (a := l) (o := .lst []))
        refine ⟨l, [], _, rfl, rfl, hl1, by decide, [.ref q], rfl, Same.mut (s0.trans s1) hl, upd_same, .cons ?_ .nil, Nat.le_refl _⟩
        exact dpExb hl1 Exb.put (noL_encT (.rd z)) (.tup (SqT.of upd_same) (.cons (.str _) (.cons (.str _) .nil)))
    · rintro σ' H1 ⟨xs, rfl, s1, hl1, dx, lx⟩
      refine ⟨fun σ' H' => ∃ xs, σ' = [some (.ref a), some (.ref l)] ∧ Same H H' ∧ H' l = some (.lst xs) ∧ DpAll K H' xs ((ownT s').map encT), ?_, ?_⟩
      · refine ⟨_, rfl, a, _, 2, _, rfl, rfl, sameT s1 ha, atI_nat (j := 2) rfl, nv, s'.nx, rfl, dpSame s1 dn, fun y dy => ?_⟩
        rcases asks_one s'.nx with e | ⟨p, e⟩
        · rw [e] at dy
          cases dy
          refine ⟨rfl, _, rfl, ?_⟩
          rw [nonF]
          refine iteF ⟨xs, rfl, s1, hl1, ?_⟩
          unfold ownT
          rw [e, List.map_nil, List.append_nil]
          exact dx
        · rw [e] at dy
          obtain ⟨pa, pxs, rfl, _, _⟩ := dp_tup (show Dp K H1 y (.tuple (match p with | .inp => [.str "local", .str "in"] | .fld h f => [.str "field", .str h, .str f])) from by cases p <;> exact dy)
          refine ⟨rfl, _, rfl, ?_⟩
          rw [show (!decide ((V.ref pa) = V.non)) = true from by rw [decide_eq_false (fun h => nomatch h)]; rfl]
          refine iteT ⟨_, rfl, .inl ⟨rfl, _, SqL.of hl1⟩, _, rfl, a, _, 2, _, rfl, rfl, sameT s1 ha, atI_nat (j := 2) rfl, nv, s'.nx, rfl, dpSame s1 dn, fun y2 dy2 => ⟨by show 2 ≤ sizeLine; decide, fun q hq => ?_⟩⟩
          rw [e] at dy2
          have s2 := same_new (o := .tup [.str "ask", y2]) hq
          have hl2 := s2 _ _ hl1
          refine ⟨l, xs, _, rfl, rfl, hl2, small1000 (by omega), xs ++ [.ref q], rfl, Same.mut (s1.trans s2) hl, upd_same, ?_⟩
          unfold ownT
          rw [e, List.map_append]
          have d2 : Dp K (upd H1 q (.tup [.str "ask", y2])) (.ref q) (encT (.ask p)) := .tup (SqT.of upd_same) (.cons (.str _) (.cons (dpSame s2 dy2) .nil))
          refine dpAll_app (dpExbAll hl2 Exb.put (fun d hd => ?_) (dpSameAll s2 dx)) (.cons (dpExb hl2 Exb.put (noL_encT _) d2) .nil)
          obtain ⟨x, _, rfl⟩ := List.mem_map.mp hd
          exact noL_encT x
      · rintro σ' H2 ⟨xs, rfl, s2, hl2, dx⟩
        exact ⟨_, rfl, k H2 l xs s2 hl hl2 dx⟩
end
end LJ

namespace LJ
open PySem PySem.Spec PyProof.Rows L2 GuL HG Bt
abbrev sIsCase2 : Stmt := topS 41
section
variable {P : Program} {w : World} {K : PySem.W.Frag} {mg : Str → Option Value} {base : Heap}
theorem scStateBegun : FnScope ["headers", "value"] ["headers", "value"] (defScope sStateBegun) := ⟨rfl, rfl, rfl, by decide +kernel, rfl, by decide +kernel, by decide +kernel⟩
def spStateBegun (K : PySem.W.Frag) : Sp := fun vs H Q _ => ∃ (v u : V) (hs : List Hdr) (s : Sta), vs = [v, u] ∧ Dp K H v (encHs hs) ∧ hs.length ≤ 6 ∧ Dp K H u (encS s) ∧ NameOk s.nm ∧ (∀ z, s.hd = some z → z ∈ hs.map (·.1)) ∧ ∀ H', Same H H' → Q (.bl true) H'
theorem ok_statebegun {f fR fM fT fI : Addr} {fd dfR dfM dfT dfI : FuncData} (F : Fun K "is_state_begun" "is_state_begun" sStateBegun f fd) (B : Blt mg) (KR : Kn P w K mg base 1 "is_row" sIsRow ["value", "least", "most"] (spIsRow K) fR dfR) (KM : Kn P w K mg base 1 "is_name" sIsName ["value"] spIsName fM dfM) (KT : Kn P w K mg base 1 "is_text_of" sIsTextOf ["value", "texts"] (spIsTextOf K) fT dfT) (KI : Kn P w K mg base 1 "names_in" sNamesIn ["parts"] (spNamesIn K) fI dfI) : FnOk P w K mg base CX0 2 f fd ["headers", "value"] (spStateBegun K) := by
  refine F.ok scStateBegun (fun vs H Q E h => ?_) (fun cdv A outer s H vs Q E hr h => ?_)
  · obtain ⟨v, u, hs, s', rfl, _⟩ := h
    rfl
  · obtain ⟨v, u, hs, s', rfl, dv, l6, du, nm, hd, k⟩ := h
    refine ⟨_, (pss_cons (ps_if (PW.pt (pw_or (pt_not (pt_val (pe_call KR.G (hr.mono (by decide)) (by rfl) KR.g KR.F.kp KR.b .nil pass0 (pa_cons (pv 1) (pa_cons pe_int (pa_cons pe_int pa_nil)))))) (pw_or1 (pt_not (pt_val (pe_call KM.G (hr.mono (by decide)) (by rfl) KM.g KM.F.kp KM.b .nil pass0 (pa_cons (pe_ix ix_tup (pv 1) pe_int (fun _ _ => rfl)) pa_nil))))))) (pss_one (ps_ret pe_bl)) pss_nil) (pss_one (ps_ret (pe_or (pe_cmpR op_isN (pe_ix ix_tup (pv 1) pe_int (fun _ _ => rfl)) pe_non (nomark _)) (pe_one (pe_call KT.G (hr.mono (by decide)) (by rfl) KT.g KT.F.kp KT.b .nil pass0 (pa_cons (pe_ix ix_tup (pv 1) pe_int (fun _ _ => rfl)) (pa_cons (pe_call KI.G (hr.mono (by decide)) (by rfl) KI.g KI.F.kp KI.b .nil pass0 (pa_cons (pv 0) pa_nil)) pa_nil)))))))), ?_⟩
    obtain ⟨a, nv, rfl, ha, dn⟩ := dp_sta du
    obtain ⟨ha', hxs, rfl, hh, hhd⟩ := dp_tup dv
    refine ⟨_, rfl, a, _, 3, 3, rfl, ha, Int.le_refl _, Int.le_refl _, true, rfl, iteF ?_⟩
    refine ⟨_, rfl, a, _, 0, _, rfl, rfl, ha, atI_nat (j := 0) rfl, _, rfl, nm, fun H1 s1 => ⟨true, rfl, iteF ?_⟩⟩
    unfold tNext
    dsimp only
    unfold tRet tOrV
    refine ⟨_, rfl, a, _, 1, _, rfl, rfl, sameT s1 ha, atI_nat (j := 1) rfl, rfl, _, rfl, ?_⟩
    cases e : s'.hd with
    | none =>
      show if decide ((V.non) = V.non) = true then _ else _
      rw [decide_eq_true rfl]
      exact iteT (k H1 s1)
    | some z =>
      show if decide (V.str z = V.non) = true then _ else _
      rw [decide_eq_false (fun h => nomatch h)]
      rw [e] at ha
      refine iteF ⟨_, rfl, a, _, 1, _, rfl, rfl, sameT s1 ha, atI_nat (j := 1) rfl, _, rfl, ha', hxs, _, _, rfl, sameT s1 hh, dpSameAll s1 hhd, rowsH hs, by rw [List.length_map]; omega, fun H2 p s2 f2 => ?_⟩
      exact ⟨z, p, _, rfl, SqT.of f2, hd z e, k H2 (s1.trans s2)⟩
theorem scIsCase : FnScope ["width", "aims", "value", "word", "mask", "aim"] ["width", "aims", "value"] (defScope sIsCase) := ⟨rfl, rfl, rfl, by decide +kernel, rfl, by decide +kernel, by decide +kernel⟩
def spIsCase (K : PySem.W.Frag) : Sp := fun vs H Q _ => ∃ (n : Nat) (a : Addr) (u : V) (gs : List Str) (c : Cas), vs = [.int (n : Int), .ref a, u] ∧ SqT K H a (gs.map V.str) ∧ Dp K H u (encC c) ∧ CasOk n gs c ∧ n ≤ 64 ∧ Q (.bl true) H
theorem ok_iscase {f fR fW fT : Addr} {fd dfR dfW dfT : FuncData} (F : Fun K "is_case" "is_case" sIsCase f fd) (B : Blt mg) (KR : Kn P w K mg base 1 "is_row" sIsRow ["value", "least", "most"] (spIsRow K) fR dfR) (KW : Kn P w K mg base 2 "is_word" sIsWord ["value", "width"] spIsWord fW dfW) (KT : Kn P w K mg base 1 "is_text_of" sIsTextOf ["value", "texts"] (spIsTextOf K) fT dfT) : FnOk P w K mg base CX0 3 f fd ["width", "aims", "value"] (spIsCase K) := by
  refine F.ok scIsCase (fun vs H Q E h => ?_) (fun cdv A outer s H vs Q E hr h => ?_)
  · obtain ⟨n, a, u, gs, c, rfl, _⟩ := h
    rfl
  · obtain ⟨n, a, u, gs, c, rfl, ha, du, ok, n64, k⟩ := h
    refine ⟨_, (pss_cons (ps_if (PW.pt (pw_or (pt_not (pt_val (pe_call KR.G (hr.mono (by decide)) (by rfl) KR.g KR.F.kp KR.b .nil pass0 (pa_cons (pv 2) (pa_cons pe_int (pa_cons pe_int pa_nil)))))) (pw_or (pt_not (pt_val (pe_call KW.G (hr.mono (by decide)) (by rfl) KW.g KW.F.kp KW.b .nil pass0 (pa_cons (pe_ix ix_tup (pv 2) pe_int (fun _ _ => rfl)) (pa_cons (pv 0) pa_nil))))) (pw_or1 (pt_not (pt_val (pe_call KW.G (hr.mono (by decide)) (by rfl) KW.g KW.F.kp KW.b .nil pass0 (pa_cons (pe_ix ix_tup (pv 2) pe_int (fun _ _ => rfl)) (pa_cons (pv 0) pa_nil))))))))) (pss_one (ps_ret pe_bl)) pss_nil) (pss_cons (ps_asg (pv 2) (pg_tup (by rfl) (pgs_cons (pg_name (i := 3) scIsCase.nd rfl (.inl rfl)) (pgs_cons (pg_name (i := 4) scIsCase.nd rfl (.inl rfl)) (pgs_cons (pg_name (i := 5) scIsCase.nd rfl (.inl rfl)) pgs_nil))))) (pss_one (ps_ret (pe_and (pe_cmpR op_eq (pe_op op_and (pv 3) (pv 4)) (pv 3) (nomark _)) (pe_one (pe_call KT.G (hr.mono (by decide)) (by rfl) KT.g KT.F.kp KT.b .nil pass0 (pa_cons (pv 5) (pa_cons (pv 1) pa_nil))))))))), ?_⟩
    obtain ⟨ca, rfl, hca⟩ := dp_cas du
    have w1 : ((c.1 : Nat) : Int) < 2 ^ n := by exact_mod_cast ok.w
    have w2 : ((c.2.1 : Nat) : Int) < 2 ^ n := by exact_mod_cast ok.m
    refine ⟨_, rfl, ca, _, 3, 3, rfl, hca, Int.le_refl _, Int.le_refl _, true, rfl, iteF ?_⟩
    refine ⟨_, rfl, ca, _, 0, _, rfl, rfl, hca, atI_nat (j := 0) rfl, _, rfl, _, n, rfl, by omega, w1, n64, true, rfl, iteF ?_⟩
    refine ⟨_, rfl, ca, _, 1, _, rfl, rfl, hca, atI_nat (j := 1) rfl, _, rfl, _, n, rfl, by omega, w2, n64, true, rfl, iteF ?_⟩
    refine ⟨_, rfl, ca, _, rfl, hca, rfl, _, _, rfl, _, _, rfl, _, _, rfl, rfl, ?_⟩
    dsimp only
    unfold tRet tAndV
    refine ⟨_, rfl, _, rfl, _, _, rfl, rfl, _, rfl, rfl, _, rfl, ?_⟩
    simp only [band_nat, ok.i]
    exact iteT ⟨_, rfl, _, rfl, _, a, gs, rfl, ha, ok.g, k⟩
theorem scWidthOf : FnScope ["headers", "place", "widths", "part", "name", "fields", "field", "width"] ["headers", "place"] (defScope sWidthOf) := ⟨rfl, rfl, rfl, by decide +kernel, rfl, by decide +kernel, by decide +kernel⟩
theorem boot_isi : bootBuiltins (Str.ofString "isinstance") = some (.builtin "isinstance") := by decide +kernel
theorem boot_str : bootBuiltins (Str.ofString "str") = some (.type "str") := by decide +kernel
theorem dp_fl2 {K : PySem.W.Frag} {H : Hp} {v : V} {f : Fld} (d : Dp K H v (encF f)) : ∃ a, v = .ref a ∧ SqT K H a [.str f.1, .int (f.2 : Int)] := by
  obtain ⟨a, xs, rfl, h1, h2⟩ := dp_tup d
  cases h2 with
  | cons h3 h4 =>
    cases h4 with
    | cons h5 h6 =>
      cases h6
      cases h3
      cases h5
      exact ⟨a, rfl, h1⟩
theorem dp_h2 {K : PySem.W.Frag} {H : Hp} {v : V} {h : Hdr} (d : Dp K H v (encH h)) : ∃ a fa fxs, v = .ref a ∧ SqT K H a [.str h.1, .ref fa] ∧ SqT K H fa fxs ∧ DpAll K H fxs (h.2.map encF) := by
  obtain ⟨a, xs, rfl, h1, h2⟩ := dp_tup d
  cases h2 with
  | cons h3 h4 =>
    cases h4 with
    | cons h5 h6 =>
      cases h6
      cases h3
      obtain ⟨fa, fxs, rfl, g1, g2⟩ := dp_tup h5
      exact ⟨a, fa, fxs, rfl, h1, g1, g2⟩
theorem inner_tup {K : PySem.W.Frag} {a : Addr} {xs : List V} {g1 : TG} {tt1 : TT} {tk tv : TE} {vs1 : List Nat} {D : Addr} {σ2 : L2.St} {Nx : Hp → Prop} {H4 : Hp} (Pv : Nat → Hp → Prop) (h0 : Pv 0 H4) (hl : ∀ i H, i ≤ xs.length → Pv i H → SqT K H a xs)
    (hs : ∀ i x H, xs[i]? = some x → Pv i H → g1 x (wipe σ2 vs1) H fun σ3 H5 => wipe σ3 vs1 = wipe σ2 vs1 ∧ tt1 σ3 H5 fun y H6 => if y = true then tk σ3 H6 fun y H7 => tv σ3 H7 fun z H8 => ∃ kvs k c, y = .ref c ∧ H8 c = some (.tup (k.map kV)) ∧ H8 D = some (.dT kvs) ∧ kvs.length < sizeLine ∧ Pv (i + 1) (upd H8 D (.dT (putK kvs k z))) else Pv (i + 1) H6)
    (hd : ∀ H, Pv xs.length H → Nx H) : ∃ W1 : Nat → Nat → Hp → Prop, (∃ m, W1 0 m H4) ∧ LZ.innerT g1 tt1 tk tv vs1 D (Itt K a) σ2 Nx W1 := by
  refine ⟨fun i m H => m = xs.length - i ∧ i ≤ xs.length ∧ Pv i H, ⟨xs.length, by simp, Nat.zero_le _, h0⟩, ?_⟩
  rintro i m H ⟨rfl, hi, p⟩
  have q := hl i H hi p
  by_cases hlt : i < xs.length
  · refine .inr ⟨⟨xs, xs[i], q, by simp [hlt]⟩, Pv (i + 1), fun H' p' => ⟨xs.length - (i + 1), by omega, rfl, hlt, p'⟩, fun x H' y => ?_⟩
    obtain ⟨e, y⟩ := y
    subst e
    exact hs i x _ (y xs q) p
  · have e : i = xs.length := by omega
    subst e
    exact .inl ⟨⟨xs, q, Nat.le_refl _⟩, hd H p⟩
theorem outer_tup {K : PySem.W.Frag} {a : Addr} {xs : List V} {g : TG} {tt : TT} {wi1 : TI} {g1 : TG} {tt1 : TT} {tk tv : TE} {vs vs1 : List Nat} {D : Addr} {σ : L2.St} {Qd : Hp → Prop} {H1 : Hp} (Pv : Nat → Hp → Prop) (h0 : Pv 0 (upd H1 D (.dT []))) (hl : ∀ i H, i ≤ xs.length → Pv i H → SqT K H a xs)
    (hs : ∀ i x H, xs[i]? = some x → Pv i H → g x (wipe σ vs) H fun σ2 H2 => wipe σ2 vs = wipe σ vs ∧ tt σ2 H2 fun y H3 => if y = true then wi1 σ2 H3 fun J1 H4 => ∃ W1 : Nat → Nat → Hp → Prop, (∃ m, W1 0 m H4) ∧ LZ.innerT g1 tt1 tk tv vs1 D J1 σ2 (Pv (i + 1)) W1 else Pv (i + 1) H3)
    (hd : ∀ H, Pv xs.length H → Qd H) : ∃ W : Nat → Nat → Hp → Prop, (∃ m, W 0 m (upd H1 D (.dT []))) ∧ ∀ i m H, W i m H → ((Itt K a).stop i H ∧ Qd H) ∨ ((Itt K a).go i H ∧
      ∃ Nx : Hp → Prop, (∀ H', Nx H' → ∃ m', m' < m ∧ W (i + 1) m' H') ∧ ∀ x H', (Itt K a).yld i H x H' → g x (wipe σ vs) H' fun σ2 H2 => wipe σ2 vs = wipe σ vs ∧ tt σ2 H2 fun y H3 => if y = true then wi1 σ2 H3 fun J1 H4 => ∃ W1 : Nat → Nat → Hp → Prop, (∃ m, W1 0 m H4) ∧ LZ.innerT g1 tt1 tk tv vs1 D J1 σ2 Nx W1 else Nx H3) := by
  refine ⟨fun i m H => m = xs.length - i ∧ i ≤ xs.length ∧ Pv i H, ⟨xs.length, by simp, Nat.zero_le _, h0⟩, ?_⟩
  rintro i m H ⟨rfl, hi, p⟩
  have q := hl i H hi p
  by_cases hlt : i < xs.length
  · refine .inr ⟨⟨xs, xs[i], q, by simp [hlt]⟩, Pv (i + 1), fun H' p' => ⟨xs.length - (i + 1), by omega, rfl, hlt, p'⟩, fun x H' y => ?_⟩
    obtain ⟨e, y⟩ := y
    subst e
    exact hs i x _ (y xs q) p
  · have e : i = xs.length := by omega
    subst e
    exact .inl ⟨⟨xs, q, Nat.le_refl _⟩, hd H p⟩
/-- what the dictionary of widths holds so far -/
def WidS (hs : List Hdr) (i j : Nat) (kvs : List (List Key × V)) : Prop := kvs.length ≤ 12 * i + j ∧ ∀ h ∈ hs, ∀ f ∈ h.2, (h ∈ hs.take i ∨ hs[i]? = some h ∧ f ∈ h.2.take j) → valV kvs [.inr h.1, .inr f.1] = some (.int (f.2 : Int))
theorem nodup_eq {α β : Type} {g : α → β} : ∀ {l : List α}, (l.map g).Nodup → ∀ a ∈ l, ∀ b ∈ l, g a = g b → a = b
  | [], _, a, ha, _, _, _ => nomatch ha
  | x :: l, n, a, ha, b, hb, e => by
    rw [List.map_cons, List.nodup_cons] at n
    rcases List.mem_cons.mp ha with rfl | ha
    · rcases List.mem_cons.mp hb with rfl | hb
      · rfl
      · exact absurd (List.mem_map.mpr ⟨b, hb, e.symm⟩) n.1
    · rcases List.mem_cons.mp hb with q | hb
      · rw [← q, ← e] at n
        exact absurd (List.mem_map.mpr ⟨a, ha, rfl⟩) n.1
      · exact nodup_eq n.2 a ha b hb e
theorem widS_put {hs : List Hdr} (ok : HeadersOk hs) {i j : Nat} {h : Hdr} {f : Fld} {kvs : List (List Key × V)} (e : hs[i]? = some h) (e2 : h.2[j]? = some f) (w : WidS hs i j kvs) : WidS hs i (j + 1) (putK kvs [.inr h.1, .inr f.1] (.int (f.2 : Int))) := by
  obtain ⟨l, w⟩ := w
  refine ⟨Nat.le_trans (length_putK _ _ _) (by omega), fun h' hh f' hf c => ?_⟩
  rw [valV_put]
  by_cases q : ([Sum.inr h'.1, Sum.inr f'.1] : List Key) = [.inr h.1, .inr f.1]
  · rw [if_pos q]
    injection q with q1 q2
    injection q2 with q2 _
    injection q1 with q1
    injection q2 with q2
    have eh : h' = h := nodup_eq ok.nd _ hh _ (List.mem_of_getElem? e) q1
    subst eh
    have ef : f' = f := nodup_eq (ok.fo _ hh).nd _ hf _ (List.mem_of_getElem? e2) q2
    rw [ef]
  · rw [if_neg q]
    refine w h' hh f' hf ?_
    rcases c with c | ⟨c, d⟩
    · exact .inl c
    · refine .inr ⟨c, ?_⟩
      have eh : h = h' := Option.some.inj (e.symm.trans c)
      subst eh
      rw [List.take_add_one, e2] at d
      rcases List.mem_append.mp d with d | d
      · exact d
      · exact absurd (by rw [List.mem_singleton.mp d]) q
theorem widS_next {hs : List Hdr} (ok : HeadersOk hs) {i : Nat} {h : Hdr} {kvs : List (List Key × V)} (e : hs[i]? = some h) (w : WidS hs i h.2.length kvs) : WidS hs (i + 1) 0 kvs := by
  obtain ⟨l, w⟩ := w
  have := (ok.fo _ (List.mem_of_getElem? e)).l2
  refine ⟨by omega, fun h' hh f' hf c => w h' hh f' hf ?_⟩
  rcases c with c | ⟨_, d⟩
  · rw [List.take_add_one, e] at c
    rcases List.mem_append.mp c with c | c
    · exact .inl c
    · rw [List.mem_singleton.mp c] at hf ⊢
      exact .inr ⟨e, by rw [List.take_length]; exact hf⟩
  · rw [List.take_zero] at d
    exact nomatch d
def spWidthOf (K : PySem.W.Frag) : Sp := fun vs H Q _ => ∃ (v u : V) (hs : List Hdr) (p : Plc) (n : Nat), vs = [v, u] ∧ Dp K H v (encHs hs) ∧ HeadersOk hs ∧ Dp K H u (encP p) ∧ PlcW hs p n ∧ ∀ H', Same H H' → Q (.int (n : Int)) H'
theorem ok_widthof {f fR : Addr} {fd dfR : FuncData} (F : Fun K "width_of" "width_of" sWidthOf f fd) (B : Blt mg) (C2 : Cst2 K mg) (KR : Kn P w K mg base 1 "is_row" sIsRow ["value", "least", "most"] (spIsRow K) fR dfR) : FnOk P w K mg base CX0 2 f fd ["headers", "place"] (spWidthOf K) := by
  refine F.ok scWidthOf (fun vs H Q E h => ?_) (fun cdv A outer s H vs Q E hr h => ?_)
  · obtain ⟨v, u, hs, p, n, rfl, _⟩ := h
    rfl
  · obtain ⟨v, u, hs, p, n, rfl, dv, hok, du, pw, k⟩ := h
    obtain ⟨la, gL, hL⟩ := C2.lin
    refine ⟨_, (pss_cons (ps_if (PW.pt (pw_or (pt_not (pt_val (pe_call KR.G (hr.mono (by decide)) (by rfl) KR.g KR.F.kp KR.b .nil pass0 (pa_cons (pv 1) (pa_cons pe_int (pa_cons pe_int pa_nil)))))) (pw_or1 (pt_not (pt_val (pe_callB (cr_all rfl) (by rfl) B.all (by decide +kernel) (pa_cons (pe_lc (own := [("part", 3)]) (g := gName 3) (tt := tYes) rfl scWidthOf.nd (pi_tup (pv 1)) (blkOk_by (N := ["headers", "place", "widths", "part", "name", "fields", "field", "width"]) (sc := defScope sWidthOf) (by decide +kernel)) (fun _ _ _ _ _ => (pg_name (i := 3) scWidthOf.nd rfl (.inl rfl))) (fun _ _ _ _ _ => pts_nil) (fun _ _ _ _ _ => (pe_callB (r := rIsi K) call_isi (by rfl) B.isi boot_isi (pa_cons (pv 3) (pa_cons (pe_bltn (v := .ty "str") (by rfl) B.str boot_str rfl) pa_nil))))) pa_nil))))))) (pss_one (ps_ret pe_non)) pss_nil) (pss_cons (ps_if (pt_cmpR (op_eqD hr.units) (pv 1) (pe_gc (v := .ref la) (by rfl) ⟨_, gL, rfl⟩) (nomark _)) (pss_one (ps_ret pe_int)) pss_nil) (pss_cons (ps_if (pt_cmpR op_ne (pe_ix ix_tup (pv 1) pe_int (fun _ _ => rfl)) pe_str (nomark _)) (pss_one (ps_ret pe_non)) pss_nil) (pss_cons (LZ.ps_setDc2 (i := 2) (own := [("name", 4), ("fields", 5), ("field", 6), ("width", 7)]) (vs1 := [6, 7]) (g := (gTup K 2 (gCons (gName 4) (gCons (gName 5) gNil)))) (tt := tYes) (wi1 := iTup K (tVar 5)) (g1 := (gTup K 2 (gCons (gName 6) (gCons (gName 7) gNil)))) (tt1 := tYes) (tk := tTup (tCons (tVar 4) (tCons (tVar 6) tNil))) (tv := tVar 7) rfl hr.units0 scWidthOf.nd rfl rfl (LZ.swD rfl rfl rfl rfl) (pi_tup (pv 0)) (blkOk_by (N := ["headers", "place", "widths", "part", "name", "fields", "field", "width"]) (sc := defScope sWidthOf) (by decide +kernel)) (by decide)
        (fun _ _ _ _ _ => ⟨(pg_tup rfl (pgs_cons (pg_name (i := 4) scWidthOf.nd rfl (.inl rfl)) (pgs_cons (pg_name (i := 5) scWidthOf.nd rfl (.inl rfl)) pgs_nil))), pts_nil, pi_tup (pv 5), (pg_tup rfl (pgs_cons (pg_name (i := 6) scWidthOf.nd rfl (.inl rfl)) (pgs_cons (pg_name (i := 7) scWidthOf.nd rfl (.inl rfl)) pgs_nil))), pts_nil, (pe_tup (pa_cons (pv 4) (pa_cons (pv 6) pa_nil))), pv 7⟩)) (pss_one (ps_ret (pe_dget1 (hu1 hr) (pv 2) (pe_slice sl_tup (pv 1) (po_some pe_int) po_none) ⟨rfl, rfl, rfl, rfl⟩))))))), ?_⟩
    obtain ⟨a, n, rfl, hn, l2, l3, hall⟩ : ∃ a xs, u = .ref a ∧ SqT K H a xs ∧ 2 ≤ xs.length ∧ xs.length ≤ 3 ∧ ∀ x ∈ xs, ∃ z, x = V.str z := by
      cases pw with
      | inp =>
        obtain ⟨a, rfl, ha⟩ := dp_inp du
        exact ⟨a, _, rfl, ha, by simp, by simp, fun x hx => by
          simp only [List.mem_cons, List.not_mem_nil, or_false] at hx
          rcases hx with rfl | rfl <;> exact ⟨_, rfl⟩⟩
      | fld h1 h2 =>
        obtain ⟨a, rfl, ha⟩ := dp_fld du
        exact ⟨a, _, rfl, ha, by simp, by simp, fun x hx => by
          simp only [List.mem_cons, List.not_mem_nil, or_false] at hx
          rcases hx with rfl | rfl | rfl <;> exact ⟨_, rfl⟩⟩
    refine ⟨_, rfl, a, _, 2, 3, rfl, hn, by omega, by omega, true, rfl, iteF ?_⟩
    refine allTup (fun R r => ⟨_, rfl, r⟩) hn (by omega) (fun _ => rfl) (fun i x H' R hx s' r => ?_) fun H1 s1 => ?_
    · obtain ⟨z, rfl⟩ := hall x (List.mem_of_getElem? hx)
      exact ⟨_, rfl, .str z, .ty "str", _, _, true, rfl, .ty _, .base (.str z), kit_ty (by decide +kernel), r H' (Same.refl _)⟩
    refine ⟨true, rfl, iteF ?_⟩
    refine ⟨_, rfl, encP p, encP .inp, dpSame s1 du, .tup (hL H1) (.cons (.str _) (.cons (.str _) .nil)), shaped_encP hok pw, shaped_encP hok .inp, _, rfl, ?_⟩
    rw [eqv_encP]
    cases pw with
    | inp =>
      rw [decide_eq_true rfl]
      exact iteT (k H1 s1)
    | @fld h0 f0 m1 m2 =>
      rw [decide_eq_false (fun h => nomatch h)]
      obtain ⟨a', e', ha⟩ := dp_fld du
      injection e' with e'
      subst e'
      refine iteF ⟨_, rfl, a, _, 0, _, rfl, rfl, sameT s1 ha, atI_nat (j := 0) rfl, rfl, _, rfl, ?_⟩
      rw [show (!decide ((V.str (Str.ofString "field")) = V.str (Str.ofString "field"))) = false from by rw [decide_eq_true rfl]; rfl]
      refine iteF ?_
      obtain ⟨va, hxs, rfl, hv, dvs⟩ := dp_tup dv
      have lv := dpAll_len dvs
      rw [List.length_map] at lv
      refine ⟨_, rfl, va, rfl, ⟨_, sameT s1 hv⟩, fun D hD => ?_⟩
      refine outer_tup (K := K) (a := va) (xs := hxs) (fun i H' => Same H1 H' ∧ ∃ kvs, H' D = some (.dT kvs) ∧ WidS hs i 0 kvs) ⟨same_new hD, _, upd_same, Nat.zero_le _, fun h' _ f' _ c => ?_⟩ (fun i H' _ ⟨q, _⟩ => sameT (s1.trans q) hv) ?_ ?_
      · rcases c with c | ⟨_, c⟩ <;> rw [List.take_zero] at c <;> exact nomatch c
      · rintro i x H2 hi ⟨s2, kvs, hk, wk⟩
        obtain ⟨d, hd1, hd2⟩ := dpAll_at dvs hi
        rw [List.getElem?_map] at hd1
        obtain ⟨hdr, he, rfl⟩ := Option.map_eq_some_iff.mp hd1
        obtain ⟨ha2, fa, fxs, rfl, hh, hf, dfs⟩ := dp_h2 hd2
        have s12 := s1.trans s2
        refine ⟨ha2, _, rfl, sameT s12 hh, rfl, _, _, rfl, _, _, rfl, rfl, rfl, _, rfl, fa, rfl, ⟨_, sameT s12 hf⟩, ?_⟩
        have lf := dpAll_len dfs
        rw [List.length_map] at lf
        have l12 := (hok.fo _ (List.mem_of_getElem? he)).l2
        have i6 := (List.getElem?_eq_some_iff.mp he).1
        have h6 := hok.len
        refine inner_tup (K := K) (a := fa) (xs := fxs) (fun j H' => Same H1 H' ∧ ∃ kvs, H' D = some (.dT kvs) ∧ WidS hs i j kvs) ⟨s2, kvs, hk, wk⟩ (fun j H' _ ⟨q, _⟩ => sameT (s1.trans q) hf) ?_ ?_
        · rintro j y H3 hj ⟨s3, kvs3, hk3, wk3⟩
          obtain ⟨d3, hd3, hd4⟩ := dpAll_at dfs hj
          rw [List.getElem?_map] at hd3
          obtain ⟨fl, hfe, rfl⟩ := Option.map_eq_some_iff.mp hd3
          obtain ⟨fa2, rfl, hfa⟩ := dp_fl2 hd4
          have j12 := (List.getElem?_eq_some_iff.mp hfe).1
          refine ⟨fa2, _, rfl, sameT (s1.trans s3) hfa, rfl, _, _, rfl, _, _, rfl, rfl, rfl, _, rfl, _, rfl, by show 2 ≤ sizeLine; decide, fun c hc => ⟨_, rfl, kvs3, [.inr hdr.1, .inr fl.1], c, rfl, upd_same, ?_, ?_, ?_, _, upd_same, widS_put hok he hfe wk3⟩⟩
          · exact same_new hc _ _ hk3
          · exact small1000 (by have := wk3.1; omega)
          · exact Same.mut (s3.trans (same_new hc)) hD
        · rintro H3 ⟨s3, kvs3, hk3, wk3⟩
          rw [lf] at wk3
          exact ⟨s3, kvs3, hk3, widS_next hok he wk3⟩
      · rintro H2 ⟨s2, kvs, hk, wk⟩
        rw [lv] at wk
        refine ⟨_, rfl, D, rfl, .inr ⟨_, .inl hk⟩, _, rfl, ?_⟩
        have done : ∀ b, H2 b = none → ∃ o, DGet (upd H2 b (.tup [.str h0.1, .str f0.1])) D (.ref b) o ∧ Q (o.getD .non) (upd H2 b (.tup [.str h0.1, .str f0.1])) := fun b hb => by
          refine ⟨_, DGet.t (k := [.inr h0.1, .inr f0.1]) (same_new hb _ _ hk) upd_same, ?_⟩
          rw [wk.2 h0 m1 f0 m2 (.inl (by rw [List.take_length]; exact m1))]
          exact k _ ((s1.trans s2).trans (same_new hb))
        exact ⟨1, rfl, a, _, rfl, sameT (s1.trans s2) ha, (by simp only [List.length_cons, List.length_nil]; decide), done⟩
end
end LJ

namespace LJ
open PySem PySem.Spec PyProof.Rows L2 GuL HG Bt
abbrev sIsChoice : Stmt := topS 40
abbrev sIsOnward : Stmt := topS 39
section
variable {P : Program} {w : World} {K : PySem.W.Frag} {mg : Str → Option Value} {base : Heap}
theorem scIsChoice : FnScope ["headers", "aims", "onward", "_", "place", "cases", "otherwise", "width", "case"] ["headers", "aims", "onward"] (defScope sIsChoice) := ⟨rfl, rfl, rfl, by decide +kernel, rfl, by decide +kernel, by decide +kernel⟩
theorem retAndAll {K : PySem.W.Frag} {σ : L2.St} {H : Hp} {D : Ends} {j : Nat} {tl te te2 : TE} {a : Addr} {xs : List V} (ht : ∀ R : VK, R (.ref a) H → tl σ H R) (ha : SqT K H a xs) (hl : xs.length ≤ 900)
    (hw : ∀ x, wipe ((wipe σ [j]).set j (some x)) [j] = wipe σ [j])
    (hv : ∀ (i : Nat) (x : V) (H' : Hp) (R : VK), xs[i]? = some x → Same H H' → (∀ H'', Same H' H'' → R (.bl true) H'') → te ((wipe σ [j]).set j (some x)) H' R)
    (q : ∀ H', Same H H' → te2 σ H' D.rt) : tRet (tAndV (tCB (rAll K) (tCons (tLc (iTup K tl) (gName j) tYes te [j]) tNil)) te2) D σ H := by
  show tCB (rAll K) (tCons (tLc (iTup K tl) (gName j) tYes te [j]) tNil) σ H (fun x H1 => ∃ b, x = .bl b ∧ if b = true then te2 σ H1 D.rt else D.rt (.bl false) H1)
  exact allTup ht ha hl hw hv fun H' s => ⟨true, rfl, iteT (q H' s)⟩
def spIsChoice (K : PySem.W.Frag) : Sp := fun vs H Q _ => ∃ (v : V) (a : Addr) (u : V) (hs : List Hdr) (gs : List Str) (p : Plc) (n : Nat) (cs : List Cas) (z : Str), vs = [v, .ref a, u] ∧ Dp K H v (encHs hs) ∧ HeadersOk hs ∧ SqT K H a (gs.map V.str) ∧ Dp K H u (encN (.by_ p cs z)) ∧ PlcW hs p n ∧ cs.length ≤ 8 ∧ (∀ c ∈ cs, CasOk n gs c) ∧ z ∈ gs ∧ ∀ H', Same H H' → Q (.bl true) H'
theorem ok_ischoice {f fR fT fC fW : Addr} {fd dfR dfT dfC dfW : FuncData} (F : Fun K "is_choice" "is_choice" sIsChoice f fd) (B : Blt mg) (C2 : Cst2 K mg) (KR : Kn P w K mg base 1 "is_row" sIsRow ["value", "least", "most"] (spIsRow K) fR dfR) (KT : Kn P w K mg base 1 "is_text_of" sIsTextOf ["value", "texts"] (spIsTextOf K) fT dfT) (KC : Kn P w K mg base 3 "is_case" sIsCase ["width", "aims", "value"] (spIsCase K) fC dfC) (KW : Kn P w K mg base 2 "width_of" sWidthOf ["headers", "place"] (spWidthOf K) fW dfW) : FnOk P w K mg base CX0 4 f fd ["headers", "aims", "onward"] (spIsChoice K) := by
  refine F.ok scIsChoice (fun vs H Q E h => ?_) (fun cdv A outer s H vs Q E hr h => ?_)
  · obtain ⟨v, a, u, hs, gs, p, n, cs, z, rfl, _⟩ := h
    rfl
  · obtain ⟨v, a, u, hs, gs, p, n, cs, z, rfl, dv, hok, ha, du, pw, l8, ok, hz, k⟩ := h
    refine ⟨_, (pss_cons (ps_asg (pv 2) (pg_tup (by rfl) (pgs_cons (pg_name (i := 3) scIsChoice.nd rfl (.inl rfl)) (pgs_cons (pg_name (i := 4) scIsChoice.nd rfl (.inl rfl)) (pgs_cons (pg_name (i := 5) scIsChoice.nd rfl (.inl rfl)) (pgs_cons (pg_name (i := 6) scIsChoice.nd rfl (.inl rfl)) pgs_nil)))))) (pss_cons (ps_set (i := 7) scIsChoice.nd rfl (.inr rfl) (pe_call KW.G (hr.mono (by decide)) (by rfl) KW.g KW.F.kp KW.b .nil pass0 (pa_cons (pv 0) (pa_cons (pv 4) pa_nil)))) (pss_cons (ps_if (PW.pt (pw_or (pt_cmpR op_isN (pv 7) pe_non (nomark _)) (pw_or1 (pt_not (pt_val (pe_call KR.G (hr.mono (by decide)) (by rfl) KR.g KR.F.kp KR.b .nil pass0 (pa_cons (pv 5) (pa_cons pe_int (pa_cons (pe_gc (by rfl) C2.mc) pa_nil))))))))) (pss_one (ps_ret pe_bl)) pss_nil) (pss_one (ps_ret (pe_and (pe_callB (cr_all rfl) (by rfl) B.all (by decide +kernel) (pa_cons (pe_lc (own := [("case", 8)]) (g := gName 8) (tt := tYes) rfl scIsChoice.nd (pi_tup (pv 5)) (blkOk_by (N := ["headers", "aims", "onward", "_", "place", "cases", "otherwise", "width", "case"]) (sc := defScope sIsChoice) (by decide +kernel)) (fun _ _ _ _ _ => (pg_name (i := 8) scIsChoice.nd rfl (.inl rfl))) (fun _ _ _ _ _ => pts_nil) (fun _ _ _ _ _ => (pe_call KC.G hr (by rfl) KC.g KC.F.kp KC.b .nil pass0 (pa_cons (pv 7) (pa_cons (pv 1) (pa_cons (pv 8) pa_nil)))))) pa_nil)) (pe_one (pe_call KT.G (hr.mono (by decide)) (by rfl) KT.g KT.F.kp KT.b .nil pass0 (pa_cons (pv 6) (pa_cons (pv 1) pa_nil)))))))))), ?_⟩
    obtain ⟨ua, up, uc, cx, rfl, hu, hp, hc, hd⟩ := dp_by du
    have cl := dpAll_len hd
    rw [List.length_map] at cl
    have nw := plcW_le hok pw
    refine ⟨_, rfl, ua, _, rfl, hu, rfl, _, _, rfl, _, _, rfl, _, _, rfl, _, _, rfl, rfl, ?_⟩
    refine ⟨_, rfl, _, rfl, v, up, hs, p, n, rfl, dv, hok, hp, pw, fun H1 s1 => ?_⟩
    refine ⟨_, rfl, rfl, _, rfl, ?_⟩
    rw [decide_eq_false (fun h => nomatch h)]
    refine iteF ⟨_, rfl, uc, _, 0, 8, rfl, sameT s1 hc, by omega, by omega, true, rfl, iteF ?_⟩
    show tRet (tAndV (tCB (rAll K) (tCons (tLc (iTup K (tVar 5)) (gName 8) tYes (tCall (spIsCase K) [] E0 (tCons (tVar 7) (tCons (tVar 1) (tCons (tVar 8) tNil)))) [8]) tNil)) (tCall (spIsTextOf K) [] E0 (tCons (tVar 6) (tCons (tVar 1) tNil)))) { nx := fun x H' => Q V.non H', rt := Q } _ _
    refine retAndAll (fun R r => ⟨_, rfl, r⟩) (sameT s1 hc) (by omega) (fun _ => rfl) (fun i x H' R hx s' r => ?_) fun H2 s2 => ?_
    · obtain ⟨e, hd1, hd2⟩ := dpAll_at hd hx
      rw [List.getElem?_map] at hd1
      obtain ⟨c, hcc, rfl⟩ := Option.map_eq_some_iff.mp hd1
      exact ⟨_, rfl, _, rfl, _, rfl, n, a, _, gs, c, rfl, sameT (s1.trans s') ha, dpSame (s1.trans s') hd2, ok c (List.mem_of_getElem? hcc), by omega, r H' (Same.refl _)⟩
    · exact ⟨_, rfl, _, rfl, z, a, gs, rfl, sameT (s1.trans s2) ha, hz, k H2 (s1.trans s2)⟩
theorem scIsOnward : FnScope ["headers", "later", "value"] ["headers", "later", "value"] (defScope sIsOnward) := ⟨rfl, rfl, rfl, by decide +kernel, rfl, by decide +kernel, by decide +kernel⟩
theorem by_len3 : ∀ p : Plc, ∀ cs : List Cas, ∀ z : Str, encN (.by_ p cs z) = .tuple [.str "by", encP p, .tuple (cs.map encC), .str z] := fun _ _ _ => rfl
def spIsOnward (K : PySem.W.Frag) : Sp := fun vs H Q _ => ∃ (v : V) (a : Addr) (u : V) (hs : List Hdr) (gs : List Str) (x : Nxt), vs = [v, .ref a, u] ∧ Dp K H v (encHs hs) ∧ HeadersOk hs ∧ SqT K H a (gs.map V.str) ∧ gs.length ≤ 800 ∧ Dp K H u (encN x) ∧ NxtOk hs (gs ++ endsN) x ∧ ∀ H', Same H H' → Q (.bl true) H'
theorem ok_isonward {f fR fT fC : Addr} {fd dfR dfT dfC : FuncData} (F : Fun K "is_onward" "is_onward" sIsOnward f fd) (B : Blt mg) (C2 : Cst2 K mg) (KR : Kn P w K mg base 1 "is_row" sIsRow ["value", "least", "most"] (spIsRow K) fR dfR) (KT : Kn P w K mg base 1 "is_text_of" sIsTextOf ["value", "texts"] (spIsTextOf K) fT dfT) (KC : Kn P w K mg base 4 "is_choice" sIsChoice ["headers", "aims", "onward"] (spIsChoice K) fC dfC) : FnOk P w K mg base CX0 5 f fd ["headers", "later", "value"] (spIsOnward K) := by
  refine F.ok scIsOnward (fun vs H Q E h => ?_) (fun cdv A outer s H vs Q E hr h => ?_)
  · obtain ⟨v, a, u, hs, gs, x, rfl, _⟩ := h
    rfl
  · obtain ⟨v, a, u, hs, gs, x, rfl, dv, hok, ha, gl, du, ok, k⟩ := h
    obtain ⟨ea, gE, hE⟩ := C2.ends
    refine ⟨_, (pss_cons (ps_if (PW.pt (pw_or (pt_not (pt_val (pe_call KR.G (hr.mono (by decide)) (by rfl) KR.g KR.F.kp KR.b .nil pass0 (pa_cons (pv 2) (pa_cons pe_int (pa_cons pe_int pa_nil)))))) (pw_or1 (pt_not (pt_val (pe_callB call_isi (by rfl) B.isi (by decide +kernel) (pa_cons (pe_ix ix_tup (pv 2) pe_int (fun _ _ => rfl)) (pa_cons (pe_bltn (v := .ty "str") (by rfl) B.str (by decide +kernel) rfl) pa_nil)))))))) (pss_one (ps_ret pe_bl)) pss_nil) (pss_cons (ps_if (pt_cmpR op_eq (pe_ix ix_tup (pv 2) pe_int (fun _ _ => rfl)) pe_str (nomark _)) (pss_one (ps_ret (pe_and (pe_cmpR op_eq (pe_callB call_len_seq (by rfl) B.len PySem.boot_len (pa_cons (pv 2) pa_nil)) pe_int (nomark _)) (pe_one (pe_call KT.G (hr.mono (by decide)) (by rfl) KT.g KT.F.kp KT.b .nil pass0 (pa_cons (pe_ix ix_tup (pv 2) pe_int (fun _ _ => rfl)) (pa_cons (pv 1) pa_nil))))))) pss_nil) (pss_cons (ps_if (pt_cmpR op_eq (pe_ix ix_tup (pv 2) pe_int (fun _ _ => rfl)) pe_str (nomark _)) (pss_one (ps_ret (pe_and (pe_cmpR op_eq (pe_callB call_len_seq (by rfl) B.len PySem.boot_len (pa_cons (pv 2) pa_nil)) pe_int (nomark _)) (pe_one (pe_call KC.G (hr.mono (by decide)) (by rfl) KC.g KC.F.kp KC.b .nil pass0 (pa_cons (pv 0) (pa_cons (pe_op op_catA (pv 1) (pe_gc (v := .ref ea) (by rfl) ⟨_, gE, rfl⟩)) (pa_cons (pv 2) pa_nil)))))))) pss_nil) (pss_one (ps_ret (pe_and (pe_cmpR op_eq (pe_callB call_len_seq (by rfl) B.len PySem.boot_len (pa_cons (pv 2) pa_nil)) pe_int (nomark _)) (pe_one (pe_cmpR op_in_seq (pe_ix ix_tup (pv 2) pe_int (fun _ _ => rfl)) (pe_gc (v := .ref ea) (by rfl) ⟨_, gE, rfl⟩) (by rfl))))))))), ?_⟩
    have isi : ∀ (t : Str) (R : Bool → Prop), R true → ∃ (x c : V) (t' u' : Value) (b : Bool), [V.str t, V.ty "str"] = [x, c] ∧ ClsV c u' ∧ TyX K H x t' ∧ PySem.W.kitOne K t' u' = some b ∧ R b := fun t R h => ⟨.str t, .ty "str", _, _, true, rfl, .ty _, .base (.str t), kit_ty (by decide +kernel), h⟩
    cases x with
    | acc =>
      obtain ⟨ua, rfl, hu⟩ := dp_n1 du
      refine ⟨_, rfl, ua, _, 1, 4, rfl, hu, by simp, by simp, true, rfl, iteF ?_⟩
      refine ⟨_, rfl, ua, _, 0, _, rfl, rfl, hu, atI_nat (j := 0) rfl, .str _, .ty "str", _, _, true, rfl, .ty _, .base (.str _), kit_ty (by decide +kernel), true, rfl, iteF ?_⟩
      refine ⟨_, rfl, ua, _, 0, _, rfl, rfl, hu, atI_nat (j := 0) rfl, rfl, _, rfl, ?_⟩
      rw [go_no1]
      refine iteF ⟨_, rfl, ua, _, 0, _, rfl, rfl, hu, atI_nat (j := 0) rfl, rfl, _, rfl, ?_⟩
      rw [by_no1]
      refine iteF ⟨_, rfl, ua, _, rfl, .inr hu, rfl, _, rfl, iteT ?_⟩
      refine ⟨_, rfl, ua, _, 0, _, rfl, rfl, hu, atI_nat (j := 0) rfl, ea, _, rfl, .inr (hE H), rfl, flatS _, ?_⟩
      show Q (.bl (inV (.str (Str.ofString "accept")) (endsN.map V.str))) H
      rw [inV_strs, decide_eq_true (show Str.ofString "accept" ∈ endsN by decide +kernel)]
      exact k _ (Same.refl _)
    | rej =>
      obtain ⟨ua, rfl, hu⟩ := dp_n1 du
      refine ⟨_, rfl, ua, _, 1, 4, rfl, hu, by simp, by simp, true, rfl, iteF ?_⟩
      refine ⟨_, rfl, ua, _, 0, _, rfl, rfl, hu, atI_nat (j := 0) rfl, .str _, .ty "str", _, _, true, rfl, .ty _, .base (.str _), kit_ty (by decide +kernel), true, rfl, iteF ?_⟩
      refine ⟨_, rfl, ua, _, 0, _, rfl, rfl, hu, atI_nat (j := 0) rfl, rfl, _, rfl, ?_⟩
      rw [go_no2]
      refine iteF ⟨_, rfl, ua, _, 0, _, rfl, rfl, hu, atI_nat (j := 0) rfl, rfl, _, rfl, ?_⟩
      rw [by_no2]
      refine iteF ⟨_, rfl, ua, _, rfl, .inr hu, rfl, _, rfl, iteT ?_⟩
      refine ⟨_, rfl, ua, _, 0, _, rfl, rfl, hu, atI_nat (j := 0) rfl, ea, _, rfl, .inr (hE H), rfl, flatS _, ?_⟩
      show Q (.bl (inV (.str (Str.ofString "refuse")) (endsN.map V.str))) H
      rw [inV_strs, decide_eq_true (show Str.ofString "refuse" ∈ endsN by decide +kernel)]
      exact k _ (Same.refl _)
    | go z =>
      obtain ⟨ua, rfl, hu⟩ := dp_n2 du
      have hz : z ∈ gs := by
        cases ok with
        | go h1 h2 => exact (List.mem_append.mp h1).resolve_right h2
      refine ⟨_, rfl, ua, _, 1, 4, rfl, hu, by simp, by simp, true, rfl, iteF ?_⟩
      refine ⟨_, rfl, ua, _, 0, _, rfl, rfl, hu, atI_nat (j := 0) rfl, .str _, .ty "str", _, _, true, rfl, .ty _, .base (.str _), kit_ty (by decide +kernel), true, rfl, iteF ?_⟩
      refine ⟨_, rfl, ua, _, 0, _, rfl, rfl, hu, atI_nat (j := 0) rfl, rfl, _, rfl, ?_⟩
      rw [goE2]
      refine iteT ⟨_, rfl, ua, _, rfl, .inr hu, rfl, _, rfl, iteT ?_⟩
      exact ⟨_, rfl, ua, _, 1, _, rfl, rfl, hu, atI_nat (j := 1) rfl, _, rfl, z, a, gs, rfl, ha, hz, k _ (Same.refl _)⟩
    | by_ p cs z =>
      obtain ⟨ua, up, uc, cx, rfl, hu, hp, hc, hd⟩ := dp_by du
      cases ok with
      | @by_ _ n _ _ pw l8 cok hz =>
        refine ⟨_, rfl, ua, _, 1, 4, rfl, hu, by simp, by simp, true, rfl, iteF ?_⟩
        refine ⟨_, rfl, ua, _, 0, _, rfl, rfl, hu, atI_nat (j := 0) rfl, .str _, .ty "str", _, _, true, rfl, .ty _, .base (.str _), kit_ty (by decide +kernel), true, rfl, iteF ?_⟩
        refine ⟨_, rfl, ua, _, 0, _, rfl, rfl, hu, atI_nat (j := 0) rfl, rfl, _, rfl, ?_⟩
        rw [show decide ((V.str (Str.ofString "by")) = V.str (Str.ofString "go")) = false from by decide +kernel]
        refine iteF ⟨_, rfl, ua, _, 0, _, rfl, rfl, hu, atI_nat (j := 0) rfl, rfl, _, rfl, ?_⟩
        rw [by_yes]
        refine iteT ⟨_, rfl, ua, _, rfl, .inr hu, rfl, _, rfl, iteT ?_⟩
        have fin : ∀ q H1, Same H H1 → SqT K H1 q ((gs ++ endsN).map V.str) → spIsChoice K [v, .ref q, .ref ua] H1 Q E := fun q H1 s1 hq => ⟨v, q, .ref ua, hs, gs ++ endsN, p, n, cs, z, rfl, dpSame s1 dv, hok, hq, dpSame s1 du, pw, l8, cok, hz, fun H' s' => k H' (s1.trans s')⟩
        refine ⟨_, rfl, _, rfl, a, ea, _, _, rfl, rfl, ha, hE H, by rw [List.length_map, List.length_map]; exact Nat.le_of_lt (small1000 (by have : endsN.length = 2 := rfl; omega)), fun e => ?_, (fun _ e => nomatch e), fun _ _ q hq => ⟨_, rfl, fin q _ (same_new hq) ?_⟩⟩
        · have e2 : gs = [] := by
            cases gs with
            | nil => rfl
            | cons _ _ => exact nomatch e
          subst e2
          exact ⟨_, rfl, fin ea H (Same.refl _) (hE H)⟩
        · rw [List.map_append]
          exact SqT.of upd_same
end
end LJ

namespace LZ
open PySem PySem.Spec PyProof.Rows L2
/-! ### sorted(t), t a tuple of texts -/
section
variable {prog : Program} {w : World} {A : Around} {E : Value → Shared → Prop} {s : Shared}
theorem collect_tup {l : Addr} {vs : List Value} {Q : List Value → Shared → Prop} (hl : s.heap.IsTuple l vs.toArray)
    (h : Q vs { s with heap := (s.heap.push (seqObj "list" #[] 0)).update s.heap.objs.size (Obj.mapSeq (· ++ vs.toArray)) }) (hsz : vs.length ≤ sizeLine) :
    wpAny (model prog w) A (collect (.ref l)) Q E s := by
  obtain ⟨o, ho, hc, n, hd⟩ := id hl
  unfold collect
  refine wpAny_bind (wpAny_runValue (codeAny_builtin entry_proto_collect' ?_))
  show wpAny _ _ (do again (.builtin "list.__iadd__" ⟨[← newList [], .ref l], []⟩)) _ _ s
  refine wpAny_bind (wpAny_newList (wpAny_pure ⟨Code.quiet_builtin _ (by decide +kernel), codeAny_builtin entry_list_iadd' ?_⟩))
  show wpAny _ _ (Builtin.List.listExtendWith (.ref s.heap.objs.size) (.ref l) (.ref s.heap.objs.size)) _ _ { s with heap := s.heap.push (seqObj "list" #[] 0) }
  unfold Builtin.List.listExtendWith
  have ho' : (s.heap.push (seqObj "list" #[] 0)).get? l = some o := Heap.get?_push_of_some _ ho
  refine wpAny_bind (wpAny_typeOf (T := "tuple") ⟨o, ho', hc⟩ ?_)
  have ht : (Value.type "tuple" == Value.type "tuple") = true := by rfl
  rw [if_pos (by rw [ht]; simp)]
  refine wpAny_bind (listItems_at ho' hd ?_)
  refine wpAny_bind (listItems_at (xs := #[]) (n := 0) (Heap.get?_push_size _ rfl) rfl ?_)
  rw [if_neg (by simp)]
  refine wpAny_bind (listUpdate_at (xs := #[]) (n := 0) (Heap.get?_push_size _ rfl) rfl ?_ (Nat.zero_le _) (by show (#[] ++ vs.toArray).size ≤ sizeLine + 1; simp only [Array.size_append, List.size_toArray, List.length_nil]; omega))
  refine wpAny_pure ?_
  show wpAny (model prog w) A (do
      let o ← load s.heap.objs.size
      match o.data with
      | .seq xs _ => pure xs.toList
      | _ => unsupported "internal:collect") Q E { s with heap := (s.heap.push (seqObj "list" #[] 0)).update s.heap.objs.size (Obj.mapSeq (· ++ vs.toArray)) }
  refine wpAny_bind (wpAny_load (get?_update_seq (Heap.get?_push_size _ rfl) _) ?_)
  show wpAny _ _ (pure ((#[] : Array Value) ++ vs.toArray).toList) Q E _
  rw [show ((#[] : Array Value) ++ vs.toArray).toList = vs by simp]
  exact wpAny_pure h
theorem sortedT {κ : KeyKind} (hO : κ.OneLt) {l : Addr} {vs : List Value} {Q : Value → Shared → Prop} (hl : s.heap.IsTuple l vs.toArray) (h0 : KeysOf κ (pairsOf vs)) (hkk : ∀ v₁ v₂ rest, vs = v₁ :: v₂ :: rest → keyKind' (v₁ :: v₂ :: rest).toArray = pure oneType') (h64 : vs.length < 64)
    (h : ∀ st' : SortSt, (arrOf st').Perm (pairsOf vs) → SortedToK κ (arrOf st') (pairsOf vs).size → Q (.ref (s.heap.objs.size + 1)) { s with heap := sortedAll s.heap vs ((arrOf st').map (·.2)) }) :
    wpAny (model prog w) A (call (.builtin "sorted") [.ref l]) Q E s := by
  refine Calls.call_function_entry kind_sorted plain_sorted entry_sorted (args_sorted1 _) ?_
  unfold Builtin.«sorted»
  refine wpAny_bind (m := checkCount "sorted" 1 1 _) (wpAny_pure ?_)
  refine wpAny_bind (collect_tup hl ?_ (small64 h64))
  refine wpAny_bind (wpAny_newList ?_)
  have hsz : ((s.heap.push (seqObj "list" #[] 0)).update s.heap.objs.size (Obj.mapSeq (· ++ vs.toArray))).objs.size = s.heap.objs.size + 1 := by
    rw [Heap.size_update, size_push']
  have hoL : (((s.heap.push (seqObj "list" #[] 0)).update s.heap.objs.size (Obj.mapSeq (· ++ vs.toArray))).push (seqObj "list" vs.toArray 0)).get? (s.heap.objs.size + 1) = some (seqObj "list" vs.toArray 0) := by
    rw [← hsz]; exact Heap.get?_push_size _ rfl
  show wpAny _ _ _ _ _ { s with heap := ((s.heap.push (seqObj "list" #[] 0)).update s.heap.objs.size (Obj.mapSeq (· ++ vs.toArray))).push (seqObj "list" vs.toArray 0) }
  rw [hsz]
  refine wpAny_bind (wpAny_holding (wpAny_call_entry slot_list_sort ⟨_, hoL, rfl⟩ entry_list_sort (list_sort_treeK hO hoL h0 hkk h64 fun st' a1 a2 => ⟨_, rfl, ?_⟩) (args_list_sort _)))
  exact wpAny_pure ⟨_, rfl, h st' a1 a2⟩
theorem sorted_strsT {l : Addr} {vs : List Value} {ss : List Str} {Q : Value → Shared → Prop} (hl : s.heap.IsTuple l vs.toArray) (hS : StrsAre vs ss) (h64 : vs.length < 64)
    (h : ∀ (out : Array Value) (ss' : List Str), StrsAre out.toList ss' → ss'.Perm ss → sortedS ss' = true → Q (.ref (s.heap.objs.size + 1)) { s with heap := sortedAll s.heap vs out }) :
    wpAny (model prog w) A (call (.builtin "sorted") [.ref l]) Q E s := by
  refine sortedT strKind_oneLt hl hS.keysOf (fun v₁ v₂ rest e => keyKind_strs (by rw [← e]; exact hS)) h64 fun st' hp hs => ?_
  obtain ⟨ss', h1, h2, h3⟩ := sorted_out_str hS hp hs
  exact h _ ss' h1 h2 h3
end
section
variable {X : Cx}
def rSortedST (K : PySem.W.Frag) : List V → Hp → VK → Prop := fun vs H Q => ∃ (a : Addr) (xs : List Str), vs = [V.ref a] ∧ SqT K H a (xs.map V.str) ∧ xs.length < 64 ∧
  ∀ (ys : List Str) (p : Addr), ys.Perm xs → sortedS ys = true → H p = none → Q (.ref p) (upd H p (.lst (ys.map V.str)))
theorem cr_sortedST : CallR X (.builtin "sorted") (rSortedST X.K) := by
  intro pins s σ H vs us Q I r h
  obtain ⟨a, xs, rfl, hs, h64, q⟩ := h
  obtain ⟨its, rv, hl, _⟩ := I.tuple hs
  rw [Vals.ref1 r]
  have hlen0 := rv.length
  rw [List.length_map] at hlen0
  refine sorted_strsT hl rv.strs (by rw [← hlen0]; exact h64) fun out ys h1 h2 h3 => ?_
  obtain ⟨ep, he'⟩ := PyProof.Rows.sortedAll_at s.heap its out
  have hlen : (ys.map V.str).length ≤ sizeLine := by rw [List.length_map, h2.length_eq]; exact small64 h64
  exact ⟨.ref _, upd H (s.heap.objs.size + 1) (.lst (ys.map V.str)), I.laid (t' := s.toks) (fun _ _ => PyProof.Rows.sortedAll_old) (Nat.le_succ _) ⟨hlen, out.toList, ep, vals_of_strs h1, he'⟩, rfl, q ys _ h2 h3 (I.hok.fresh (Nat.le_succ _))⟩
theorem ltCps_lt {a b : List Nat} : ltCps a b = false ↔ ¬ a < b := by
  rw [ltCps_eq]
  exact decide_eq_false_iff_not
theorem le_trans3 {a b c : List Nat} (h1 : ¬ b < a) (h2 : ¬ c < b) : ¬ c < a := List.le_trans (α := Nat) h1 h2
theorem pw_of_rising : ∀ (l : List Str) (p : Str), risingS p l = true → (∀ x ∈ l, ¬ x.cps.toList < p.cps.toList) ∧ l.Pairwise fun a b => ¬ b.cps.toList < a.cps.toList
  | [], _, _ => ⟨(fun _ h => nomatch h), .nil⟩
  | y :: r, p, h => by
    have h' : ltCps y.cps.toList p.cps.toList = false ∧ risingS y r = true := by
      unfold risingS at h
      simpa using h
    obtain ⟨i1, i2⟩ := pw_of_rising r y h'.2
    have h1 := ltCps_lt.mp h'.1
    refine ⟨fun x hx => ?_, .cons i1 i2⟩
    rcases List.mem_cons.mp hx with rfl | hx
    · exact h1
    · exact le_trans3 h1 (i1 x hx)
theorem pw_of_sorted {l : List Str} (h : sortedS l = true) : l.Pairwise fun a b => ¬ b.cps.toList < a.cps.toList := by
  cases l with
  | nil => exact .nil
  | cons x r =>
    obtain ⟨a, b⟩ := pw_of_rising r x h
    exact .cons a b
/-- two sorted rows of the same texts are the same row -/
theorem sorted_unique {xs ys : List Str} (p : xs.Perm ys) (a : sortedS xs = true) (b : sortedS ys = true) : xs = ys := by
  refine List.Perm.eq_of_pairwise (le := fun a b : Str => ¬ b.cps.toList < a.cps.toList) (fun x y _ _ h1 h2 => ?_) (pw_of_sorted a) (pw_of_sorted b) p
  have e : x.cps.toList = y.cps.toList := List.le_antisymm (α := Nat) h1 h2
  exact Str.ext' (Array.toList_inj.mp e)
end
end LZ

namespace LJ
open PySem PySem.Spec PyProof.Rows L2 GuL HG Bt
abbrev sIsOrder : Stmt := topS 50
section
variable {P : Program} {w : World} {K : PySem.W.Frag} {mg : Str → Option Value} {base : Heap}
theorem scIsOrder : FnScope ["headers", "value", "name"] ["headers", "value"] (defScope sIsOrder) := ⟨rfl, rfl, rfl, by decide +kernel, rfl, by decide +kernel, by decide +kernel⟩
theorem boot_sorted : bootBuiltins (Str.ofString "sorted") = some (.builtin "sorted") := by decide +kernel
theorem paired_same {E : V → V → Prop} : ∀ {xs : List V}, (∀ x ∈ xs, E x x) → Paired E xs xs
  | [], _ => .nil
  | x :: xs, h => .cons (h x List.mem_cons_self) (paired_same fun y hy => h y (List.mem_cons_of_mem _ hy))
def spIsOrder (K : PySem.W.Frag) : Sp := fun vs H Q _ => ∃ (v u : V) (hs : List Hdr) (od : List Str), vs = [v, u] ∧ Dp K H v (encHs hs) ∧ hs.length ≤ 6 ∧ Dp K H u (.tuple (od.map PyData.str)) ∧ od.Perm (hs.map (·.1)) ∧ ∀ H', Same H H' → Q (.bl true) H'
theorem ok_isorder {f fR fI : Addr} {fd dfR dfI : FuncData} (F : Fun K "is_order" "is_order" sIsOrder f fd) (B : Blt mg) (hsorted : mg "sorted" = none) (KR : Kn P w K mg base 1 "is_row" sIsRow ["value", "least", "most"] (spIsRow K) fR dfR) (KI : Kn P w K mg base 1 "names_in" sNamesIn ["parts"] (spNamesIn K) fI dfI) : FnOk P w K mg base CX0 2 f fd ["headers", "value"] (spIsOrder K) := by
  refine F.ok scIsOrder (fun vs H Q E h => ?_) (fun cdv A outer s H vs Q E hr h => ?_)
  · obtain ⟨v, u, hs, od, rfl, _⟩ := h
    rfl
  · obtain ⟨v, u, hs, od, rfl, dv, l6, du, pm, k⟩ := h
    refine ⟨_, (pss_cons (ps_if (PW.pt (pw_or (pt_not (pt_val (pe_call KR.G (hr.mono (by decide)) (by rfl) KR.g KR.F.kp KR.b .nil pass0 (pa_cons (pv 1) (pa_cons (pe_callB call_len_seq (by rfl) B.len PySem.boot_len (pa_cons (pv 0) pa_nil)) (pa_cons (pe_callB call_len_seq (by rfl) B.len PySem.boot_len (pa_cons (pv 0) pa_nil)) pa_nil)))))) (pw_or1 (pt_not (pt_val (pe_callB (cr_all rfl) (by rfl) B.all (by decide +kernel) (pa_cons (pe_lc (own := [("name", 2)]) (g := gName 2) (tt := tYes) rfl scIsOrder.nd (pi_tup (pv 1)) (blkOk_by (N := ["headers", "value", "name"]) (sc := defScope sIsOrder) (by decide +kernel)) (fun _ _ _ _ _ => (pg_name (i := 2) scIsOrder.nd rfl (.inl rfl))) (fun _ _ _ _ _ => pts_nil) (fun _ _ _ _ _ => (pe_callB (r := rIsi K) call_isi (by rfl) B.isi boot_isi (pa_cons (pv 2) (pa_cons (pe_bltn (v := .ty "str") (by rfl) B.str boot_str rfl) pa_nil))))) pa_nil))))))) (pss_one (ps_ret pe_bl)) pss_nil) (pss_one (ps_ret (pe_cmpR (op_eqV hr.units) (pe_callB LZ.cr_sortedST (by rfl) hsorted boot_sorted (pa_cons (pv 1) pa_nil)) (pe_callB LZ.cr_sortedST (by rfl) hsorted boot_sorted (pa_cons (pe_call KI.G (hr.mono (by decide)) (by rfl) KI.g KI.F.kp KI.b .nil pass0 (pa_cons (pv 0) pa_nil)) pa_nil)) (nomark _))))), ?_⟩
    obtain ⟨va, hxs, rfl, hv, dvs⟩ := dp_tup dv
    obtain ⟨ua, oxs, rfl, hu, dus⟩ := dp_tup du
    obtain rfl : oxs = od.map V.str := dpAll_strs_inv dus
    have lv := dpAll_len dvs
    rw [List.length_map] at lv
    have lo : od.length = hs.length := by rw [pm.length_eq, List.length_map]
    have lo2 : (od.map V.str).length = hxs.length := by rw [List.length_map, lo, lv]
    refine ⟨_, rfl, _, rfl, va, _, rfl, .inr hv, _, rfl, va, _, rfl, .inr hv, ua, _, _, _, rfl, hu, by rw [lo2]; exact Int.le_refl _, by rw [lo2]; exact Int.le_refl _, true, rfl, iteF ?_⟩
    refine allTup (fun R r => ⟨_, rfl, r⟩) hu (by rw [lo2, lv]; omega) (fun _ => rfl) (fun i x H' R hx s' r => ?_) fun H1 s1 => ?_
    · obtain ⟨z, rfl⟩ : ∃ z, x = V.str z := by
        obtain ⟨z, _, e⟩ := List.mem_map.mp (List.mem_of_getElem? hx)
        exact ⟨z, e.symm⟩
      exact ⟨_, rfl, .str z, .ty "str", _, _, true, rfl, .ty _, .base (.str z), kit_ty (by decide +kernel), r H' (Same.refl _)⟩
    refine ⟨true, rfl, iteF ?_⟩
    refine ⟨_, rfl, ua, od, rfl, sameT s1 hu, by rw [lo]; omega, fun ys p py sy hp => ?_⟩
    have s2 := same_new (o := .lst (ys.map V.str)) hp
    have s12 := s1.trans s2
    refine ⟨_, rfl, va, hxs, _, hs.map (·.1), rfl, sameT s12 hv, dpSameAll s12 dvs, rowsH hs, by rw [List.length_map]; omega, fun H3 n s3 f3 => ?_⟩
    refine ⟨n, hs.map (·.1), rfl, SqT.of f3, by rw [List.length_map]; omega, fun zs q pz sz hq => ?_⟩
    have e : ys = zs := LZ.sorted_unique (py.trans (pm.trans pz.symm)) sy sz
    subst e
    have s4 := same_new (o := .lst (ys.map V.str)) hq
    refine ⟨1, by decide, .inl ⟨p, q, _, _, rfl, rfl, SqL.of (s4 _ _ (s3 _ _ upd_same)), SqL.of upd_same, paired_same fun x hx => ?_⟩, k _ (s12.trans (s3.trans s4))⟩
    obtain ⟨z, _, rfl⟩ := List.mem_map.mp hx
    exact .inl ⟨rfl, rfl⟩
end
end LJ

namespace LJ
open PySem PySem.Spec PyProof.Rows L2 GuL HG Bt
abbrev sIsParser : Stmt := topS 37
abbrev sIsFrame : Stmt := topS 49
abbrev sCheckFrame : Stmt := topS 53
abbrev sWalk : Stmt := topS 55
abbrev sParsedP : Stmt := topS 54
def spIsParser (K : PySem.W.Frag) : Sp := fun vs H Q _ => ∃ (v u : V) (hs : List Hdr) (ss : List Sta), vs = [v, u] ∧ Dp K H v (encHs hs) ∧ HeadersOk hs ∧ Dp K H u (encSs ss) ∧ 1 ≤ ss.length ∧ ss.length ≤ 8 ∧ StsOk hs ss ∧ ∀ H', Same H H' → Q (.bl true) H'
def spWalk (K : PySem.W.Frag) : Sp := fun vs H Q _ => ∃ (v u : V) (f : Frm) (s0 : Sta) (r0 : List Sta) (first : Nat) (bs : List Nat), vs = [v, u] ∧ FP K H v u f s0 r0 first bs ∧
  ∀ H' p wp q l, Same H H' → H' p = some (.tup [.ref wp, .ref q, l]) → H' wp = some (.tup ((runL f.hs bs first f.ss s0.nm (fun _ => none) 0).1.map V.str)) → HeldT K H' q 8 (runL f.hs bs first f.ss s0.nm (fun _ => none) 0).2.1 →
    Dp K H' l (encNs (bs.drop (runL f.hs bs first f.ss s0.nm (fun _ => none) 0).2.2)) → Q (.ref p) H'
section
variable {P : Program} {w : World} {K : PySem.W.Frag} {mg : Str → Option Value} {base : Heap}
theorem scIsFrame : FnScope ["value", "headers", "parser", "order"] ["value"] (defScope sIsFrame) := ⟨rfl, rfl, rfl, by decide +kernel, rfl, by decide +kernel, by decide +kernel⟩
def spIsFrame (K : PySem.W.Frag) : Sp := fun vs H Q _ => ∃ (v : V) (f : Frm), vs = [v] ∧ Dp K H v (encFr f) ∧ FrmOk f ∧ ∀ H', Same H H' → Q (.bl true) H'
theorem ok_isframe {f fR fH fP fO : Addr} {fd dfR dfH dfP dfO : FuncData} (F : Fun K "is_frame" "is_frame" sIsFrame f fd) (B : Blt mg) (KR : Kn P w K mg base 1 "is_row" sIsRow ["value", "least", "most"] (spIsRow K) fR dfR) (KH : Kn P w K mg base 5 "are_headers" sAreHeaders ["value"] (spAreHeaders K) fH dfH) (KP : Kn P w K mg base 6 "is_parser" sIsParser ["headers", "value"] (spIsParser K) fP dfP) (KO : Kn P w K mg base 2 "is_order" sIsOrder ["headers", "value"] (spIsOrder K) fO dfO) : FnOk P w K mg base CX0 7 f fd ["value"] (spIsFrame K) := by
  refine F.ok scIsFrame (fun vs H Q E h => ?_) (fun cdv A outer s H vs Q E hr h => ?_)
  · obtain ⟨v, f', rfl, _⟩ := h
    rfl
  · obtain ⟨v, f', rfl, dv, ok, k⟩ := h
    refine ⟨_, (pss_cons (ps_if (PW.pt (pw_or (pt_not (pt_val (pe_call KR.G (hr.mono (by decide)) (by rfl) KR.g KR.F.kp KR.b .nil pass0 (pa_cons (pv 0) (pa_cons pe_int (pa_cons pe_int pa_nil)))))) (pw_or1 (pt_not (pt_val (pe_call KH.G (hr.mono (by decide)) (by rfl) KH.g KH.F.kp KH.b .nil pass0 (pa_cons (pe_ix ix_tup (pv 0) pe_int (fun _ _ => rfl)) pa_nil))))))) (pss_one (ps_ret pe_bl)) pss_nil) (pss_cons (ps_asg (pv 0) (pg_tup (by rfl) (pgs_cons (pg_name (i := 1) scIsFrame.nd rfl (.inl rfl)) (pgs_cons (pg_name (i := 2) scIsFrame.nd rfl (.inl rfl)) (pgs_cons (pg_name (i := 3) scIsFrame.nd rfl (.inl rfl)) pgs_nil))))) (pss_one (ps_ret (pe_and (pe_call KP.G (hr.mono (by decide)) (by rfl) KP.g KP.F.kp KP.b .nil pass0 (pa_cons (pv 1) (pa_cons (pv 2) pa_nil))) (pe_one (pe_call KO.G (hr.mono (by decide)) (by rfl) KO.g KO.F.kp KO.b .nil pass0 (pa_cons (pv 1) (pa_cons (pv 3) pa_nil))))))))), ?_⟩
    obtain ⟨va, hv, sa, sxs, ov, rfl, hva, dhv, hsa, dss, dod⟩ := dp_fr dv
    have l6 := ok.hs.len
    refine ⟨_, rfl, va, _, 3, 3, rfl, hva, by simp, by simp, true, rfl, iteF ?_⟩
    refine ⟨_, rfl, va, _, 0, _, rfl, rfl, hva, atI_nat (j := 0) rfl, hv, f'.hs, rfl, dhv, ok.hs, fun H1 s1 => ⟨true, rfl, iteF ?_⟩⟩
    refine ⟨_, rfl, va, _, rfl, sameT s1 hva, rfl, _, _, rfl, _, _, rfl, _, _, rfl, rfl, ?_⟩
    refine ⟨_, rfl, _, rfl, hv, .ref sa, f'.hs, f'.ss, rfl, dpSame s1 dhv, ok.hs, dpSame s1 (.tup hsa dss), ok.s1, ok.s8, ok.ss, fun H2 s2 => ⟨true, rfl, iteT ?_⟩⟩
    exact ⟨_, rfl, _, rfl, hv, ov, f'.hs, f'.od, rfl, dpSame (s1.trans s2) dhv, l6, dpSame (s1.trans s2) dod, ok.od, fun H3 s3 => k H3 ((s1.trans s2).trans s3)⟩
theorem scCheckFrame : FnScope ["frame"] ["frame"] (defScope sCheckFrame) := ⟨rfl, rfl, rfl, by decide +kernel, rfl, by decide +kernel, by decide +kernel⟩
def spCheckFrame (K : PySem.W.Frag) : Sp := fun vs H Q _ => ∃ (v : V) (f : Frm), vs = [v] ∧ Dp K H v (encFr f) ∧ FrmOk f ∧ ∀ H', Same H H' → Q .non H'
theorem ok_checkframe {f fF : Addr} {fd dfF : FuncData} (F : Fun K "check_frame" "check_frame" sCheckFrame f fd) (B : Blt mg) (KF : Kn P w K mg base 7 "is_frame" sIsFrame ["value"] (spIsFrame K) fF dfF) : FnOk P w K mg base CX0 8 f fd ["frame"] (spCheckFrame K) := by
  refine F.ok scCheckFrame (fun vs H Q E h => ?_) (fun cdv A outer s H vs Q E hr h => ?_)
  · obtain ⟨v, f', rfl, _⟩ := h
    rfl
  · obtain ⟨v, f', rfl, dv, ok, k⟩ := h
    refine ⟨_, (pss_one (ps_if (pt_not (pt_val (pe_call KF.G (hr.mono (by decide)) (by rfl) KF.g KF.F.kp KF.b .nil pass0 (pa_cons (pv 0) pa_nil)))) (pss_one ps_never) pss_nil)), ?_⟩
    exact ⟨_, rfl, v, f', rfl, dv, ok, fun H1 s1 => ⟨true, rfl, iteF (k H1 s1)⟩⟩
theorem scParsedP : FnScope ["frame", "packet", "way", "held", "left", "name"] ["frame", "packet"] (defScope sParsedP) := ⟨rfl, rfl, rfl, by decide +kernel, rfl, by decide +kernel, by decide +kernel⟩
theorem at_last {xs : List V} {x : V} (h : xs[xs.length - 1]? = some x) : atI xs (-1) = some x := by
  have hl : xs.length - 1 < xs.length := (List.getElem?_eq_some_iff.mp h).1
  unfold atI ixN
  rw [if_neg (by decide), if_pos (by omega)]
  show xs[_]? = some x
  rw [show ((-1 : Int) + (xs.length : Int)).toNat = xs.length - 1 from by omega]
  exact h
theorem lastF_at {ws : List Str} (h : 0 < ws.length) : atI (ws.map V.str) (-1) = some (V.str (lastF ws)) := by
  refine at_last ?_
  have hl : ws.length - 1 < ws.length := by omega
  unfold lastF
  rw [List.length_map, List.getElem?_map, List.getElem?_eq_getElem hl, List.getD_eq_getElem?_getD, List.getElem?_eq_getElem hl]
  rfl
theorem ok_parsedP {f fW fI : Addr} {fd dfW dfI : FuncData} (F : Fun K "parsed" "parsed" sParsedP f fd) (B : Blt mg) (KW : Kn P w K mg base 3 "walk" sWalk ["frame", "packet"] (spWalk K) fW dfW) (KI : Kn P w K mg base 1 "names_in" sNamesIn ["parts"] (spNamesIn K) fI dfI) : FnOk P w K mg base CX0 4 f fd ["frame", "packet"] (spParse K) := by
  refine F.ok scParsedP (fun vs H Q E h => ?_) (fun cdv A outer s H vs Q E hr h => ?_)
  · obtain ⟨v, u, f', s0, r0, first, bs, rfl, _⟩ := h
    rfl
  · obtain ⟨v, u, f', s0, r0, first, bs, rfl, fp, k⟩ := h
    refine ⟨_, (pss_cons (ps_asg (pe_call KW.G (hr.mono (by decide)) (by rfl) KW.g KW.F.kp KW.b .nil pass0 (pa_cons (pv 0) (pa_cons (pv 1) pa_nil))) (pg_tup (by rfl) (pgs_cons (pg_name (i := 2) scParsedP.nd rfl (.inl rfl)) (pgs_cons (pg_name (i := 3) scParsedP.nd rfl (.inr rfl)) (pgs_cons (pg_name (i := 4) scParsedP.nd rfl (.inl rfl)) pgs_nil))))) (pss_cons (ps_if (pt_cmpR op_eq (pe_ix ix_tup (pv 2) (pe_un un_neg pe_int) (fun _ _ => rfl)) pe_str (nomark _)) (pss_one (ps_ret pe_non)) pss_nil) (pss_one (ps_ret (pe_tup (pa_cons (pe_callTy call_tuple_of (by rfl) B.tuple (by decide +kernel) (pa_cons (pe_lc (own := [("name", 5)]) (g := gName 5) (tt := tYes) rfl scParsedP.nd (pi_tup (pe_call KI.G (hr.mono (by decide)) (by rfl) KI.g KI.F.kp KI.b .nil pass0 (pa_cons (pe_ix ix_tup (pv 0) pe_int (fun _ _ => rfl)) pa_nil))) (blkOk_by (N := ["frame", "packet", "way", "held", "left", "name"]) (sc := defScope sParsedP) (by decide +kernel)) (fun _ _ _ _ _ => (pg_name (i := 5) scParsedP.nd rfl (.inl rfl))) (fun _ _ _ _ _ => pts_nil) (fun _ _ _ _ _ => (pe_dget1 (hu1 hr) (pv 3) (pv 5) ⟨rfl, rfl, rfl, rfl⟩))) pa_nil)) (pa_cons (pv 4) pa_nil))))))), ?_⟩
    refine ⟨_, rfl, _, rfl, v, u, f', s0, r0, first, bs, rfl, fp, fun H1 p wp q l s1 hp hw hh dl => ?_⟩
    have ne := @runL_ne f'.hs bs first f'.ss s0.nm (fun _ => none) 0
    obtain ⟨T, eT⟩ : ∃ T, T = runL f'.hs bs first f'.ss s0.nm (fun _ => none) 0 := ⟨_, rfl⟩
    unfold resD at k
    rw [← eT] at k hw hh dl ne
    obtain ⟨va, hv, sa, sxs, ov, rfl, hva, dhv, _, _, _⟩ := dp_fr fp.dv
    refine ⟨p, _, rfl, SqT.of hp, rfl, _, _, rfl, _, _, rfl, _, _, rfl, rfl, ?_⟩
    refine ⟨_, rfl, _, rfl, wp, _, _, _, rfl, rfl, SqT.of hw, lastF_at ne, rfl, _, rfl, ?_⟩
    by_cases e : lastF T.1 = "refuse"
    · have e2 : V.str (lastF T.1) = V.str "refuse" := by rw [e]
      rw [decide_eq_true e2]
      have er : resF f' bs T = none := by
        unfold resF
        rw [if_pos e]
      rw [er] at k
      exact iteT (k H1 .non s1 .non)
    · have e2 : ¬ V.str (lastF T.1) = V.str "refuse" := fun q => e (by injection q)
      rw [decide_eq_false e2]
      have er : resF f' bs T = some (f'.hs.map fun h => T.2.1 h.1, bs.drop T.2.2) := by
        unfold resF
        rw [if_neg e]
      rw [er] at k
      obtain ⟨ha, hxs, rfl, hha, hhd⟩ := dp_tup dhv
      obtain ⟨kvs, hq, _, hent⟩ := hh
      have h6 := fp.ok.hs.len
      refine iteF ⟨_, rfl, va, _, 0, _, rfl, rfl, sameT s1 hva, atI_nat (j := 0) rfl, ha, hxs, _, f'.hs.map (·.1), rfl, sameT s1 hha, dpSameAll s1 hhd, rowsH f'.hs, by rw [List.length_map]; omega, fun H2 n s2 f2 => ?_⟩
      refine ⟨n, rfl, ⟨_, SqT.of f2⟩, fun D hD => ?_⟩
      refine lc_tup (K := K) (a := n) (xs := (f'.hs.map (·.1)).map V.str) (fun i H' => Same H2 H' ∧ ∃ ys, H' D = some (.lst ys) ∧ ys.length ≤ i ∧ DpAll K H' ys ((((f'.hs.take i).map fun h => T.2.1 h.1)).map encO)) ⟨same_new hD, [], upd_same, Nat.zero_le _, .nil⟩ (fun i H' _ p => sameT p.1 (SqT.of f2)) ?_ ?_
      · rintro i x H3 hi ⟨s3, ys, f3, ly, dy⟩
        rw [List.getElem?_map, List.getElem?_map] at hi
        obtain ⟨z, hz, rfl⟩ := Option.map_eq_some_iff.mp hi
        obtain ⟨h, hh2, rfl⟩ := Option.map_eq_some_iff.mp hz
        have n9 : i < 6 := by
          have := (List.getElem?_eq_some_iff.mp hh2).1
          omega
        have hq2 := s3 _ _ (s2 _ _ hq)
        refine ⟨rfl, _, rfl, q, rfl, .inl ⟨kvs, .inl hq2⟩, _, rfl, _, DGet.k (k := .inr h.1) hq2, ?_⟩
        have du2 : Dp K H3 ((valV kvs (.inr h.1)).getD .non) (encO (T.2.1 h.1)) := by
          rcases hent h.1 with ⟨a1, a2⟩ | ⟨ws, u, a1, a2, a3⟩
          · rw [a1, a2]
            exact .non
          · rw [a1, a2]
            exact dpSame (s2.trans s3) a3
        refine ⟨_, f3, small1000 (by omega), fun b' u hb' => ?_, ys ++ [_], upd_same, by rw [List.length_append]; exact Nat.succ_le_succ ly, ?_⟩
        · rw [upd_ne (ne_of_none hb' hD)]
          exact s3 _ _ hb'
        · rw [List.take_add_one, hh2, List.map_append, List.map_append]
          refine dpAll_snoc (dpExb f3 Exb.put (noL_encO _) du2) (dpExbAll f3 Exb.put (fun d hd => ?_) dy)
          obtain ⟨o, _, rfl⟩ := List.mem_map.mp hd
          exact noL_encO o
      · rintro H3 ⟨s3, ys, f3, ly, dy⟩
        rw [List.length_map, List.length_map, List.take_length] at dy
        refine ⟨D, _, rfl, .inl ⟨SqL.of f3, fun t ht => ?_⟩⟩
        have s4 := same_new (o := .tup ys) ht
        have s14 := s1.trans (s2.trans (s3.trans s4))
        refine ⟨_, rfl, by show 2 ≤ sizeLine; decide, fun r hr => ?_⟩
        have s5 := same_new (o := .tup [.ref t, l]) hr
        exact k _ _ (s14.trans s5) (.tup (SqT.of upd_same) (.cons (.tup (SqT.of (s5 _ _ upd_same)) (dpSameAll (s4.trans s5) dy)) (.cons (dpSame (s2.trans (s3.trans (s4.trans s5))) dl) .nil)))
theorem sc_parse : FnScope ["frame", "packet"] ["frame", "packet"] (defScope sParse) := ⟨rfl, rfl, rfl, by decide +kernel, rfl, by decide +kernel, by decide +kernel⟩
theorem ok_parse {f fF fP fW : Addr} {fd dfF dfP dfW : FuncData} (F : Fun K "parse" "parse" sParse f fd) (B : Blt mg) (KF : Kn P w K mg base 8 "check_frame" sCheckFrame ["frame"] (spCheckFrame K) fF dfF) (KP : Kn P w K mg base 7 "check_packet" sCheckPacket ["packet"] (spCheckPacket K) fP dfP) (KW : Kn P w K mg base 4 "parsed" sParsedP ["frame", "packet"] (spParse K) fW dfW) : FnOk P w K mg base CX0 9 f fd ["frame", "packet"] (spParse K) := by
  refine F.ok sc_parse (fun vs H Q E h => ?_) (fun cdv A outer s H vs Q E hr h => ?_)
  · obtain ⟨v, u, f', s0, r0, first, bs, rfl, _⟩ := h
    rfl
  · obtain ⟨v, u, f', s0, r0, first, bs, rfl, fp, k⟩ := h
    refine ⟨_, (pss_cons (ps_expr (pe_call KF.G (hr.mono (by decide)) (by rfl) KF.g KF.F.kp KF.b .nil pass0 (pa_cons (pv 0) pa_nil))) (pss_cons (ps_expr (pe_call KP.G (hr.mono (by decide)) (by rfl) KP.g KP.F.kp KP.b .nil pass0 (pa_cons (pv 1) pa_nil))) (pss_one (ps_ret (pe_call KW.G (hr.mono (by decide)) (by rfl) KW.g KW.F.kp KW.b .nil pass0 (pa_cons (pv 0) (pa_cons (pv 1) pa_nil))))))), ?_⟩
    refine ⟨_, rfl, v, f', rfl, fp.dv, fp.ok, fun H1 s1 => ?_⟩
    refine ⟨_, rfl, u, first, bs, rfl, dpSame s1 fp.du, fp.f1, fp.lb, fp.bb, fun H2 s2 => ?_⟩
    have s12 := s1.trans s2
    exact ⟨_, rfl, _, rfl, v, u, f', s0, r0, first, bs, rfl, fp.same s12, fun H' x s' => k H' x (s12.trans s')⟩
theorem sc_way_of : FnScope ["frame", "packet"] ["frame", "packet"] (defScope sWayOf) := ⟨rfl, rfl, rfl, by decide +kernel, rfl, by decide +kernel, by decide +kernel⟩
theorem ok_wayof {f fF fP fW : Addr} {fd dfF dfP dfW : FuncData} (F : Fun K "way_of" "way_of" sWayOf f fd) (B : Blt mg) (KF : Kn P w K mg base 8 "check_frame" sCheckFrame ["frame"] (spCheckFrame K) fF dfF) (KP : Kn P w K mg base 7 "check_packet" sCheckPacket ["packet"] (spCheckPacket K) fP dfP) (KW : Kn P w K mg base 3 "walk" sWalk ["frame", "packet"] (spWalk K) fW dfW) : FnOk P w K mg base CX0 9 f fd ["frame", "packet"] (spWayOf K) := by
  refine F.ok sc_way_of (fun vs H Q E h => ?_) (fun cdv A outer s H vs Q E hr h => ?_)
  · obtain ⟨v, u, f', s0, r0, first, bs, rfl, _⟩ := h
    rfl
  · obtain ⟨v, u, f', s0, r0, first, bs, rfl, fp, k⟩ := h
    refine ⟨_, (pss_cons (ps_expr (pe_call KF.G (hr.mono (by decide)) (by rfl) KF.g KF.F.kp KF.b .nil pass0 (pa_cons (pv 0) pa_nil))) (pss_cons (ps_expr (pe_call KP.G (hr.mono (by decide)) (by rfl) KP.g KP.F.kp KP.b .nil pass0 (pa_cons (pv 1) pa_nil))) (pss_one (ps_ret (pe_ix ix_tup (pe_call KW.G (hr.mono (by decide)) (by rfl) KW.g KW.F.kp KW.b .nil pass0 (pa_cons (pv 0) (pa_cons (pv 1) pa_nil))) pe_int (fun _ _ => rfl)))))), ?_⟩
    refine ⟨_, rfl, v, f', rfl, fp.dv, fp.ok, fun H1 s1 => ?_⟩
    refine ⟨_, rfl, u, first, bs, rfl, dpSame s1 fp.du, fp.f1, fp.lb, fp.bb, fun H2 s2 => ?_⟩
    have s12 := s1.trans s2
    refine ⟨_, rfl, _, rfl, v, u, f', s0, r0, first, bs, rfl, fp.same s12, fun H' p wp q l s' hp hw _ _ => ?_⟩
    exact ⟨p, _, 0, _, rfl, rfl, SqT.of hp, atI_nat (j := 0) rfl, k H' _ (s12.trans s') (.tup (SqT.of hw) (dpAll_strs _))⟩
end
end LJ

namespace LZ
open PySem PySem.Spec PyProof.Rows L2
/-! ### a method of a tuple that was built here: the tuple is told with its own object -/
section
variable {X : Cx}
theorem call_tuple_frz : CallR X (.type "tuple") (fun xs H Q => ∃ p ys, xs = [.ref p] ∧ SqL X.K H p ys ∧ ∀ l o, H l = none → o.cls = .type "tuple" → o.dict = none → Q (.ref l) (upd H l (.frz o (.tup ys)))) := by
  intro pins s σ H xs us Q I r h
  obtain ⟨p, ys, rfl, hq, q⟩ := h
  obtain ⟨u, rfl, rx⟩ := vals1 r
  cases rx
  obtain ⟨its, r', pl, hz⟩ := I.list hq
  have hlen := r'.length
  refine call_tuple_list pl.isList (fun h' kp => ?_) (by simp only [List.size_toArray] <;> omega)
  have I1 : Inv X pins σ H { s with heap := h' } := I.kept (t' := s.toks) kp
  have I2 : Inv X pins σ (upd H h'.objs.size (.frz { cls := .type "tuple", data := .seq its.toArray } (.tup ys))) { s with heap := h'.push { cls := .type "tuple", data := .seq its.toArray } } :=
    I1.laid (t' := s.toks) (fun b o e => Heap.get?_push_of_some _ e) (Nat.le_refl _) (show ObjOk X.prog X.w _ _ _ (.frz { cls := .type "tuple", data := .seq its.toArray } (.tup ys)) from ⟨Heap.get?_push_size _ rfl, hz, its, r', IsTup.new _ _⟩)
  exact ⟨.ref h'.objs.size, _, I2, rfl, q _ _ (I1.hok.fresh (Nat.le_refl _)) rfl rfl⟩
def tBMf (T : String) (r : V → List V → Hp → VK → Prop) (to : TE) (t : TA) : TE := fun σ H Q => to σ H fun x H1 => (∃ p o u, x = .ref p ∧ H1 p = some (.frz o u) ∧ o.cls = .type T ∧ o.dict = none) ∧ t σ H1 fun xs H2 => r x xs H2 Q
variable {o e : Expr} {es : List Expr} {to : TE} {t : TA} {name : Str} {apos cpos : Pos} {T id : String} {r : V → List V → Hp → VK → Prop}
theorem pe_bmf (pa : PlainAttrs T) (slot : Slot T name id) (hty : typeOf (.builtin id) = pure (.type "method_descriptor")) (hm : MtR X id r) (ho : PE X o to) (ha : PA X (e :: es) t)
    (hbase : attributeBase o name X.env (eval o X.env) = eval o X.env := by rfl)
    (hfew : ((backTo cpos (starEach (e :: es) X.env)).all (fun x => !x.1) && (backToKw cpos (keywordEach [] X.env)).all (fun x => x.1.isSome)
      && decide ((e :: es).length + ([] : List Keyword).length + (if ([] : List Keyword).isEmpty then 0 else 1) < 30)) = true := by rfl)
    (hline : (apos.endLine == cpos.line) = true := by rfl) (hs : starEach (e :: es) X.env = (false, eval e X.env) :: starEach es X.env := by rfl) (hplain : (backTo cpos (starEach es X.env)).any (·.1) = false := by rfl) :
    PE X (.Call (.Attribute o name apos) (e :: es) [] cpos) (tBMf T r to t) := by
  refine ⟨fun pins s σ H Q I h => ?_⟩
  refine wpAny_Call_method_late hbase hfew hline rfl (thn (ho.run pins s σ H _ I h) fun v s1 ⟨x, H1, I1, r1, ⟨p, ob, u, ex, hf, hc, hd⟩, q1⟩ => ?_)
  subst ex
  obtain rfl : v = Value.ref p := r1
  have hg : s1.heap.get? p = some ob := (I1.hok p _ hf).1
  refine ⟨T, id, pa, slot, hty, ⟨ob, hg, hc⟩, (fun a e => by cases e; exact ⟨ob, hg, hd⟩), ?_⟩
  have hA := ha.run cpos pins s1 σ H1 _ I1 q1
  rw [hs] at hA ⊢
  refine Calls.callWith_builtin (by show (false || (backTo cpos (starEach es X.env)).any (·.1)) = false; rw [hplain] <;> rfl) (Calls.evalArgs_plain ?_)
  exact thn hA fun us s2 ⟨vs, H2, I2, r2, q2⟩ => hm pins s2 σ H2 (.ref p) vs (.ref p) us Q I2 rfl r2 q2
end
end LZ

namespace LJ
open PySem PySem.Spec PyProof.Rows L2 GuL HG Bt
abbrev sWordAsked : Stmt := topS 56
/-- the headers by their names -/
def NmdOk (K : PySem.W.Frag) (H : Hp) (n : Addr) (hs : List Hdr) : Prop := ∃ kvs : List (Key × V), H n = some (.dK kvs) ∧ ∀ h ∈ hs, ∃ u, valV kvs (.inr h.1) = some u ∧ Dp K H u (encH h)
theorem NmdOk.same {K : PySem.W.Frag} {H H' : Hp} {n : Addr} {hs : List Hdr} (s : Same H H') : NmdOk K H n hs → NmdOk K H' n hs := by
  rintro ⟨kvs, h1, h2⟩
  refine ⟨kvs, s _ _ h1, fun h hm => ?_⟩
  obtain ⟨u, a, b⟩ := h2 h hm
  exact ⟨u, a, dpSame s b⟩
section
variable {P : Program} {w : World} {K : PySem.W.Frag} {mg : Str → Option Value} {base : Heap}
def spNamesInF (K : PySem.W.Frag) : Sp := fun vs H Q _ => ∃ (a : Addr) (xs : List V) (ds : List PyData) (zs : List Str), vs = [.ref a] ∧ SqT K H a xs ∧ DpAll K H xs ds ∧ Rows zs ds ∧ zs.length ≤ 800 ∧ ∀ H' p o, Same H H' → o.cls = .type "tuple" → o.dict = none → H' p = some (.frz o (.tup (zs.map V.str))) → Q (.ref p) H'
theorem ok_namesinF {f : Addr} {fd : FuncData} (F : Fun K "names_in" "names_in" sNamesIn f fd) (B : Blt mg) : FnOk P w K mg base CX0 1 f fd ["parts"] (spNamesInF K) := by
  refine F.ok scNamesIn (fun vs H Q E h => ?_) (fun cdv A outer s H vs Q E hr h => ?_)
  · obtain ⟨a, xs, ds, zs, rfl, _⟩ := h
    rfl
  · obtain ⟨a, xs, ds, zs, rfl, ha, hd, hz, hl, k⟩ := h
    refine ⟨_, pss_one (ps_ret (pe_callTy LZ.call_tuple_frz (by rfl) B.tuple (by decide +kernel) (pa_cons (pe_lc (own := [("part", 1)]) (g := gName 1) (tt := tYes) rfl scNamesIn.nd (pi_tup (pv 0)) (blkOk_by (N := ["parts", "part"]) (sc := defScope sNamesIn) (by decide +kernel)) (fun _ _ _ _ _ => pg_name (i := 1) scNamesIn.nd rfl (Or.inl rfl)) (fun _ _ _ _ _ => pts_nil) (fun _ _ _ _ _ => pe_ix (r := rIxT K) ix_tup (pv 1) pe_int (fun _ _ => rfl))) pa_nil))), ?_⟩
    refine ⟨_, rfl, a, rfl, ⟨_, ha⟩, fun D hD => ?_⟩
    have lx : xs.length = zs.length := (dpAll_len hd).trans hz.len
    refine lc_tup (K := K) (a := a) (xs := xs) (fun n H' => Same H H' ∧ H' D = some (.lst ((zs.take n).map V.str))) ⟨same_new hD, upd_same⟩ (fun n H' _ p => sameT p.1 ha) ?_ ?_
    · rintro n x H' hn ⟨s', f'⟩
      obtain ⟨d, hd1, hd2⟩ := dpAll_at hd hn
      obtain ⟨z, e, hz1, rfl⟩ := hz.row n d hd1
      obtain ⟨b, y, rfl, h1, h2⟩ := pair_dp (dpSame s' hd2)
      have n8 := (List.getElem?_eq_some_iff.mp hn).1
      refine ⟨rfl, _, rfl, b, _, 0, _, rfl, rfl, h1, atI_nat (j := 0) rfl, _, f', ?_, fun c u hc => ?_, ?_⟩
      · rw [List.length_map]
        exact small1000 (Nat.le_trans (List.length_take_le _ _) (by omega))
      · rw [upd_ne (ne_of_none hc hD)]
        exact s' _ _ hc
      · rw [upd_same, List.take_add_one, hz1, List.map_append]
        rfl
    · rintro H' ⟨s', f'⟩
      rw [lx, List.take_of_length_le (Nat.le_refl _)] at f'
      exact ⟨D, _, rfl, SqL.of f', fun p o hp ec ed => k _ p o (s'.trans (same_new hp)) ec ed upd_same⟩
theorem scWordAsked : FnScope ["named", "held", "came_in", "place", "_", "header", "field"] ["named", "held", "came_in", "place"] (defScope sWordAsked) := ⟨rfl, rfl, rfl, by decide +kernel, rfl, by decide +kernel, by decide +kernel⟩
def spWordAsked (K : PySem.W.Frag) : Sp := fun vs H Q _ => ∃ (n q : Addr) (u : V) (hs : List Hdr) (x : Nxt) (hl : Hld) (first : Nat), vs = [.ref n, .ref q, .int (first : Int), u] ∧ NmdOk K H n hs ∧ HeadersOk hs ∧ Dp K H u (plcP (asksN x)) ∧ (∀ p ∈ asksN x, ∃ n, PlcW hs p n) ∧ HeldOk K H q hl ∧ Fits hs hl ∧
  ∀ H', Same H H' → Q (.int ((askedF hs x hl first : Nat) : Int)) H'
theorem ok_wordasked {f fI : Addr} {fd dfI : FuncData} (F : Fun K "word_asked" "word_asked" sWordAsked f fd) (B : Blt mg) (C2 : Cst2 K mg) (KI : Kn P w K mg base 1 "names_in" sNamesIn ["parts"] (spNamesInF K) fI dfI) : FnOk P w K mg base CX0 2 f fd ["named", "held", "came_in", "place"] (spWordAsked K) := by
  refine F.ok scWordAsked (fun vs H Q E h => ?_) (fun cdv A outer s H vs Q E hr h => ?_)
  · obtain ⟨n, q, u, hs, x, hl, first, rfl, _⟩ := h
    rfl
  · obtain ⟨n, q, u, hs, x, hl, first, rfl, nk, hok, du, pw, hh, fit, k⟩ := h
    obtain ⟨la, gL, hL⟩ := C2.lin
    refine ⟨_, (pss_cons (ps_if (pt_cmpR (op_eqD hr.units) (pv 3) (pe_gc (v := .ref la) (by rfl) ⟨_, gL, rfl⟩) (nomark _)) (pss_one (ps_ret (pv 2))) pss_nil) (pss_cons (ps_if (PW.pt (pw_or (pt_cmpR op_isN (pv 3) pe_non (nomark _)) (pw_or1 (pt_cmp (pc_dnotin (hu1 hr) (pe_ix ix_tup (pv 3) pe_int (fun _ _ => rfl)) (pv 1)) (by rfl))))) (pss_one (ps_ret pe_int)) pss_nil) (pss_cons (ps_asg (pv 3) (pg_tup (by rfl) (pgs_cons (pg_name (i := 4) scWordAsked.nd rfl (.inl rfl)) (pgs_cons (pg_name (i := 5) scWordAsked.nd rfl (.inl rfl)) (pgs_cons (pg_name (i := 6) scWordAsked.nd rfl (.inl rfl)) pgs_nil))))) (pss_one (ps_ret (pe_ix ix_seq (pe_dget (hu1 hr) (pv 1) (pv 5) (fun _ _ => rfl)) (LZ.pe_bmf PySem.F.plainAttrs_tuple PySem.F.slot_tuple_index PySem.F.type_tuple_index mt_tup_index (pe_call KI.G (hr.mono (by decide)) (by rfl) KI.g KI.F.kp KI.b .nil pass0 (pa_cons (pe_ix ix_tup (pe_dget (hu1 hr) (pv 0) (pv 5) (fun _ _ => rfl)) pe_int (fun _ _ => rfl)) pa_nil)) (pa_cons (pv 6) pa_nil)) (fun _ _ => rfl))))))), ?_⟩
    have inp : Dp K H (.ref la) (encP .inp) := .tup (hL H) (.cons (.str _) (.cons (.str _) .nil))
    have non : asksN x = [] → askedF hs x hl first = 0 := fun e => by
      cases x with
      | by_ p cs z => exact absurd e (by simp [asksN])
      | acc => rfl
      | rej => rfl
      | go z => rfl
    rcases asks_one x with e | ⟨pl, e⟩
    · rw [e] at du
      cases du
      refine ⟨_, rfl, .none, encP .inp, .non, inp, rfl, shaped_encP hok .inp, _, rfl, ?_⟩
      rw [show PyData.eqv .none (encP .inp) = false from by rfl]
      refine iteF ⟨_, rfl, rfl, _, rfl, ?_⟩
      rw [decide_eq_true rfl]
      have := k H (Same.refl _)
      rw [non e] at this
      exact iteT this
    · rw [e] at du
      have du : Dp K H u (encP pl) := du
      obtain ⟨pn, hpn⟩ := pw pl (by rw [e]; exact List.mem_cons_self)
      refine ⟨_, rfl, encP pl, encP .inp, du, inp, shaped_encP hok hpn, shaped_encP hok .inp, _, rfl, ?_⟩
      rw [eqv_encP]
      obtain ⟨cs, z, rfl⟩ : ∃ cs z, x = .by_ pl cs z := by
        cases x with
        | by_ p cs z =>
          have e : [p] = [pl] := e
          injection e with e _
          exact ⟨cs, z, by rw [e]⟩
        | acc => exact nomatch e
        | rej => exact nomatch e
        | go z => exact nomatch e
      cases hpn with
      | inp =>
        rw [decide_eq_true rfl]
        exact iteT ⟨_, rfl, k H (Same.refl _)⟩
      | @fld h fl m1 m2 =>
        rw [decide_eq_false (fun h => nomatch h)]
        obtain ⟨pa, rfl, hpa⟩ := dp_fld du
        obtain ⟨kvs, hq, hv⟩ := hh
        refine iteF ⟨_, rfl, rfl, _, rfl, ?_⟩
        rw [decide_eq_false (fun h => nomatch h)]
        refine iteF ⟨_, rfl, pa, _, 1, _, rfl, rfl, hpa, atI_nat (j := 1) rfl, _, rfl, q, _, rfl, DGet.k (k := .inr h.1) hq, _, rfl, ?_⟩
        rcases hv h.1 with ⟨h1, h2⟩ | ⟨ws, uw, h1, h2, h3⟩
        · rw [h2]
          refine iteT ?_
          have e : askedF hs (.by_ (.fld h.1 fl.1) cs z) hl first = 0 := by
            simp only [askedF, h1]
          have := k H (Same.refl _)
          rw [e] at this
          exact this
        · rw [h2]
          refine iteF ⟨_, rfl, pa, _, rfl, hpa, rfl, _, _, rfl, _, _, rfl, _, _, rfl, rfl, ?_⟩
          have wl := fit h m1 ws h1
          have l12 := (hok.fo _ m1).l2
          obtain ⟨nkv, hn, hnv⟩ := nk
          obtain ⟨hu, hv1, hv2⟩ := hnv h m1
          obtain ⟨ha, fa, fxs, rfl, hha, hfa, dfs⟩ := dp_h2 hv2
          refine ⟨_, rfl, _, rfl, q, uw, rfl, (by rw [← h2]; exact DGet.k (k := .inr h.1) hq), ?_⟩
          refine ⟨_, rfl, _, rfl, n, .ref ha, rfl, (by rw [← hv1]; exact DGet.k (k := .inr h.1) hn), ha, _, 1, _, rfl, rfl, hha, atI_nat (j := 1) rfl, fa, fxs, _, h.2.map (·.1), rfl, hfa, dfs, rowsF h.2, by rw [List.length_map]; omega, fun H2 p2 ob s2 oc od f2 => ?_⟩
          have fm : fl.1 ∈ h.2.map (·.1) := List.mem_map.mpr ⟨fl, m2, rfl⟩
          have hidx : (h.2.map (·.1)).idxOf fl.1 < (h.2.map (·.1)).length := List.idxOf_lt_length_of_mem fm
          have ew : askedF hs (.by_ (.fld h.1 fl.1) cs z) hl first = ws.getD ((h.2.map (·.1)).idxOf fl.1) 0 := by
            simp only [askedF, h1, flds_mem hok m1]
          obtain ⟨j, ej⟩ : ∃ j, j = (h.2.map (·.1)).idxOf fl.1 := ⟨_, rfl⟩
          rw [← ej] at hidx ew
          have jw : j < ws.length := by
            rw [List.length_map] at hidx
            omega
          have k2 := k H2 s2
          rw [ew] at k2
          obtain ⟨wa, rfl, hwa⟩ := h3
          refine ⟨⟨p2, ob, _, rfl, f2, oc, od⟩, _, rfl, p2, h.2.map (·.1), fl.1, j, rfl, rfl, .inl (.inr ⟨ob, f2⟩), ?_, ?_, ?_⟩
          · rw [ej, List.getElem?_eq_getElem (List.idxOf_lt_length_of_mem fm), List.getElem_idxOf]
          · intro m hm hz
            rw [ej] at hm
            have := List.not_of_lt_findIdx (p := fun x => x == fl.1) (xs := h.2.map (·.1)) hm
            have hml := (List.getElem?_eq_some_iff.mp hz).1
            rw [List.getElem?_eq_getElem hml] at hz
            injection hz with hz
            simp only [hz] at this
            simp at this
          · have hat : atI (vN ws) (j : Int) = some (.int ((ws.getD j 0 : Nat) : Int)) := by
              refine atI_nat ?_
              unfold vN
              rw [List.getElem?_map, List.getElem?_eq_getElem jw, List.getD_eq_getElem?_getD, List.getElem?_eq_getElem jw]
              rfl
            rcases hwa with hwa | hwa
            · exact .inl ⟨wa, _, _, _, rfl, rfl, s2.seq hwa, hat, k2⟩
            · exact .inr (.inl ⟨wa, _, _, _, rfl, rfl, sameT s2 hwa, hat, k2⟩)
end
end LJ

namespace LJ
open PySem PySem.Spec PyProof.Rows L2 GuL HG Bt
/-- rows that begin with these texts -/
def Fst (K : PySem.W.Frag) (H : Hp) (xs : List V) (zs : List Str) : Prop := xs.length = zs.length ∧ ∀ (i : Nat) (x : V), xs[i]? = some x → ∃ (a : Addr) (z : Str) (ys : List V), x = .ref a ∧ SqT K H a (.str z :: ys) ∧ zs[i]? = some z
theorem Fst.same {K : PySem.W.Frag} {H H' : Hp} {xs : List V} {zs : List Str} (s : Same H H') (h : Fst K H xs zs) : Fst K H' xs zs := ⟨h.1, fun i x hx => by
  obtain ⟨a, z, ys, e, b, c⟩ := h.2 i x hx
  exact ⟨a, z, ys, e, sameT s b, c⟩⟩
def DcK (xs : List V) (zs : List Str) (n : Nat) (kvs : List (Key × V)) : Prop := kvs.length ≤ n ∧ (∀ (i : Nat) (x : V) (z : Str), i < n → xs[i]? = some x → zs[i]? = some z → valV kvs (.inr z) = some x) ∧ ∀ z, z ∉ zs.take n → valV kvs (.inr z) = none
theorem nodup_at {zs : List Str} (nd : zs.Nodup) {i j : Nat} {z : Str} (h : zs[i]? = some z) (h' : zs[j]? = some z) : i = j := by
  obtain ⟨h1, e1⟩ := List.getElem?_eq_some_iff.mp h
  obtain ⟨h2, e2⟩ := List.getElem?_eq_some_iff.mp h'
  rcases Nat.lt_trichotomy i j with c | c | c
  · exact absurd (e1.trans e2.symm) (List.pairwise_iff_getElem.mp nd i j h1 h2 c)
  · exact c
  · exact absurd (e2.trans e1.symm) (List.pairwise_iff_getElem.mp nd j i h2 h1 c)
theorem dcK_put {xs : List V} {zs : List Str} (nd : zs.Nodup) {n : Nat} {x : V} {z : Str} {kvs : List (Key × V)} (hx : xs[n]? = some x) (hz : zs[n]? = some z) (d : DcK xs zs n kvs) : DcK xs zs (n + 1) (putK kvs (.inr z) x) := by
  obtain ⟨d1, d2, d3⟩ := d
  refine ⟨Nat.le_trans (length_putK _ _ _) (by omega), fun i y u hi hy hu => ?_, fun u hu => ?_⟩
  · rw [valV_put]
    by_cases e : u = z
    · subst e
      rw [if_pos rfl]
      have := nodup_at nd hz hu
      subst this
      rw [hx] at hy
      exact hy
    · rw [if_neg (fun c => e (by injection c))]
      refine d2 i y u ?_ hy hu
      by_cases e2 : i = n
      · subst e2
        rw [hz] at hu
        injection hu with hu
        exact absurd hu.symm e
      · omega
  · rw [List.take_add_one, hz] at hu
    rw [valV_put, if_neg (fun c => hu (by injection c with c; rw [c]; exact List.mem_append_right _ List.mem_cons_self))]
    exact d3 u fun c => hu (List.mem_append_left _ c)
/-- {x[0]: x for x in t} is stored -/
theorem asgDc {K : PySem.W.Frag} {σ : L2.St} {H : Hp} {D : Ends} {u : TS} {n j : Nat} {tl : TE} {a : Addr} {xs : List V} {zs : List Str} (ht : ∀ R : VK, R (.ref a) H → tl σ H R) (ha : SqT K H a xs) (hf : Fst K H xs zs) (nd : zs.Nodup) (hl : zs.length ≤ 800)
    (hw : ∀ x, wipe ((wipe σ [j]).set j (some x)) [j] = wipe σ [j]) (hj : ∀ x, ((wipe σ [j]).set j (some x))[j]? = some (some x))
    (q : ∀ p H' kvs, Same H H' → H' p = some (.dK kvs) → DcK xs zs zs.length kvs → gName n (.ref p) σ H' fun σ2 H2 => u D σ2 H2) :
    tSeq (tAsg (tDc (iTup K tl) (gName j) tYes (tOp (rIxT K) (tVar j) (tC (.int 0))) (tVar j) [j]) (gName n)) u D σ H := by
  show tDc (iTup K tl) (gName j) tYes (tOp (rIxT K) (tVar j) (tC (.int 0))) (tVar j) [j] σ H (fun x H1 => gName n x σ H1 fun σ2 H2 => u D σ2 H2)
  refine ht _ ⟨a, rfl, ⟨_, ha⟩, fun p hp => ?_⟩
  refine dc_tup (K := K) (a := a) (xs := xs) (fun i H' => Same H H' ∧ ∃ kvs, H' p = some (.dK kvs) ∧ DcK xs zs i kvs) ⟨same_new hp, [], upd_same, Nat.zero_le _, fun i _ _ h => absurd h (Nat.not_lt_zero _), fun _ _ => rfl⟩ (fun i H' _ q => sameT q.1 ha) ?_ ?_
  · rintro i x H' hi ⟨s, kvs, hk, d⟩
    obtain ⟨b, z, ys, rfl, hb, hz⟩ := hf.2 i x hi
    have i9 := (List.getElem?_eq_some_iff.mp hz).1
    exact ⟨hw _, _, hj _, b, _, 0, _, rfl, rfl, sameT s hb, atI_nat (j := 0) rfl, _, hj _, kvs, .inr z, rfl, hk, small1000 (by have := d.1; omega), Same.mut s hp, _, upd_same, dcK_put nd hi hz d⟩
  · rintro H' ⟨s, kvs, hk, d⟩
    rw [hf.1] at d
    exact q p H' kvs s hk d
theorem dcK_get {α : Type} {K : PySem.W.Frag} {H : Hp} {xs : List V} {l : List α} {nm : α → Str} {enc : α → PyData} {kvs : List (Key × V)} (d : DcK xs (l.map nm) (l.map nm).length kvs) (h : DpAll K H xs (l.map enc)) : ∀ e ∈ l, ∃ u, valV kvs (.inr (nm e)) = some u ∧ Dp K H u (enc e) := by
  intro e he
  obtain ⟨i, hi, ei⟩ := List.getElem_of_mem he
  obtain ⟨x, hx1, hx2⟩ := dpAll_get (i := i) (d := enc e) h (by rw [List.getElem?_map, List.getElem?_eq_getElem hi, ei]; rfl)
  exact ⟨x, d.2.1 i x (nm e) (by rw [List.length_map]; exact hi) hx1 (by rw [List.getElem?_map, List.getElem?_eq_getElem hi, ei]; rfl), hx2⟩
theorem at_snoc (w : List Str) (z : Str) : atI ((w ++ [z]).map V.str) (-1) = some (V.str z) := by
  refine at_last ?_
  rw [List.length_map, List.length_append, List.map_append, List.getElem?_append_right (by rw [List.length_map]; show w.length ≤ w.length + 1 - 1; omega), List.length_map]
  have : w.length + [z].length - 1 - w.length = 0 := by
    show w.length + 1 - 1 - w.length = 0
    omega
  rw [this]
  rfl
theorem aims_len {hs : List Hdr} {gs : List Str} {x : Nxt} (h : NxtOk hs gs x) : (aimsN x).length ≤ 9 := by
  cases h with
  | acc => show 1 ≤ 9; decide
  | rej => show 1 ≤ 9; decide
  | go _ _ => show 1 ≤ 9; decide
  | by_ _ l _ _ =>
    show (List.map _ _ ++ [_]).length ≤ 9
    rw [List.length_append, List.length_map]
    show _ + 1 ≤ 9
    omega
structure WW (K : PySem.W.Frag) (f : Frm) (bs : List Nat) (first : Nat) (T : List Str × Hld × Nat) (H0 H' : Hp) (wl q : Addr) (lv : V) (rem : List Sta) (z : Str) (w : List Str) (hl : Hld) (tk : Nat) : Prop where
  suf : ∃ p, f.ss = p ++ rem
  zin : z ∈ rem.map (·.nm) ∨ z ∈ endsN
  sm : Same H0 H'
  hw : H' wl = some (.lst ((w ++ [z]).map V.str))
  hh : HeldT K H' q w.length hl
  ft : Fits f.hs hl
  tk1 : tk ≤ bs.length
  dl : Dp K H' lv (encNs (bs.drop tk))
  t1 : T.1 = w ++ (runL f.hs bs first rem z hl tk).1
  t2 : T.2 = (runL f.hs bs first rem z hl tk).2
  lw : w.length + rem.length ≤ 8
theorem cut_toN (xs : List V) {n : Nat} (h : n ≤ xs.length) : cutV xs none (some (n : Int)) = xs.take n := by
  unfold cutV
  rw [HT.sIx_nat, Nat.min_eq_left h]
  show (xs.drop 0).take (n - 0) = _
  rw [List.drop_zero, Nat.sub_zero]
theorem fst_h {K : PySem.W.Frag} {H : Hp} {hxs : List V} {hs : List Hdr} (d : DpAll K H hxs (hs.map encH)) : Fst K H hxs (hs.map (·.1)) := by
  refine ⟨?_, fun i x hx => ?_⟩
  · rw [dpAll_len d, List.length_map, List.length_map]
  · obtain ⟨e, h1, h2⟩ := dpAll_at d hx
    rw [List.getElem?_map] at h1
    obtain ⟨h, hh, rfl⟩ := Option.map_eq_some_iff.mp h1
    obtain ⟨a, fa, fxs, rfl, b, _, _⟩ := dp_h2 h2
    exact ⟨a, h.1, _, rfl, b, by rw [List.getElem?_map, hh]; rfl⟩
theorem fst_s {K : PySem.W.Frag} {H : Hp} {sxs : List V} {ss : List Sta} (d : DpAll K H sxs (ss.map encS)) : Fst K H sxs (ss.map (·.nm)) := by
  refine ⟨?_, fun i x hx => ?_⟩
  · rw [dpAll_len d, List.length_map, List.length_map]
  · obtain ⟨e, h1, h2⟩ := dpAll_at d hx
    rw [List.getElem?_map] at h1
    obtain ⟨t, ht, rfl⟩ := Option.map_eq_some_iff.mp h1
    obtain ⟨a, u, rfl, b, _⟩ := dp_sta h2
    exact ⟨a, t.nm, _, rfl, b, by rw [List.getElem?_map, ht]; rfl⟩
section
variable {P : Program} {w : World} {K : PySem.W.Frag} {mg : Str → Option Value} {base : Heap}
theorem scWalk : FnScope ["frame", "packet", "headers", "parser", "_", "named", "states", "held", "left", "way", "name", "onward", "size", "header", "state"] ["frame", "packet"] (defScope sWalk) := ⟨rfl, rfl, rfl, by decide +kernel, rfl, by decide +kernel, by decide +kernel⟩
theorem ok_walk {f fZ fR fA fQ fP : Addr} {fd dfZ dfR dfA dfQ dfP : FuncData} (F : Fun K "walk" "walk" sWalk f fd) (B : Blt mg) (KZ : Kn P w K mg base 1 "header_size" sHeaderSize ["header"] (spHeaderSize K) fZ dfZ) (KR : Kn P w K mg base 1 "words_from" sWordsFrom ["header", "taken"] (spWordsFrom K) fR dfR) (KA : Kn P w K mg base 2 "aim_by" sAimBy ["onward", "word"] (spAimBy K) fA dfA) (KQ : Kn P w K mg base 2 "word_asked" sWordAsked ["named", "held", "came_in", "place"] (spWordAsked K) fQ dfQ) (KP : Kn P w K mg base 1 "place_of" sPlaceOf ["onward"] (spPlaceOf K) fP dfP) : FnOk P w K mg base CX0 3 f fd ["frame", "packet"] (spWalk K) := by
  refine F.ok scWalk (fun vs H Q E h => ?_) (fun cdv A outer s H vs Q E hr h => ?_)
  · obtain ⟨v, u, f', s0, r0, first, bs, rfl, _⟩ := h
    rfl
  · obtain ⟨v, u, f', s0, r0, first, bs, rfl, fp, k⟩ := h
    refine ⟨_, (pss_cons (ps_asg (pv 0) (pg_tup (by rfl) (pgs_cons (pg_name (i := 2) scWalk.nd rfl (.inl rfl)) (pgs_cons (pg_name (i := 3) scWalk.nd rfl (.inl rfl)) (pgs_cons (pg_name (i := 4) scWalk.nd rfl (.inl rfl)) pgs_nil))))) (pss_cons (LZ.ps_setDc (i := 5) (own := [("header", 13)]) (g := gName 13) (tt := tYes) (tk := tOp (rIxT K) (tVar 13) (tC (.int 0))) (tv := tVar 13) rfl scWalk.nd rfl rfl (LZ.swD rfl rfl rfl rfl) (pi_tup (pv 2)) (blkOk_by (N := ["frame", "packet", "headers", "parser", "_", "named", "states", "held", "left", "way", "name", "onward", "size", "header", "state"]) (sc := defScope sWalk) (by decide +kernel)) (fun _ _ _ _ _ => (pg_name (i := 13) scWalk.nd rfl (.inl rfl))) (fun _ _ _ _ _ => pts_nil) (fun _ _ _ _ _ => (pe_ix (r := rIxT K) ix_tup (pv 13) pe_int (fun _ _ => rfl))) (fun _ _ _ _ _ => pv 13)) (pss_cons (LZ.ps_setDc (i := 6) (own := [("state", 14)]) (g := gName 14) (tt := tYes) (tk := tOp (rIxT K) (tVar 14) (tC (.int 0))) (tv := tVar 14) rfl scWalk.nd rfl rfl (LZ.swD rfl rfl rfl rfl) (pi_tup (pv 3)) (blkOk_by (N := ["frame", "packet", "headers", "parser", "_", "named", "states", "held", "left", "way", "name", "onward", "size", "header", "state"]) (sc := defScope sWalk) (by decide +kernel)) (fun _ _ _ _ _ => (pg_name (i := 14) scWalk.nd rfl (.inl rfl))) (fun _ _ _ _ _ => pts_nil) (fun _ _ _ _ _ => (pe_ix (r := rIxT K) ix_tup (pv 14) pe_int (fun _ _ => rfl))) (fun _ _ _ _ _ => pv 14)) (pss_cons (ps_set (i := 7) scWalk.nd rfl (.inl rfl) pe_dnewK) (pss_cons (ps_set (i := 8) scWalk.nd rfl (.inl rfl) (pe_ix ix_tup (pv 1) pe_int (fun _ _ => rfl))) (pss_cons (ps_set (i := 9) scWalk.nd rfl (.inl rfl) (pe_lst (pa_cons (pe_ix ix_tup (pe_ix ix_tup (pv 3) pe_int (fun _ _ => rfl)) pe_int (fun _ _ => rfl)) pa_nil))) (Evl.pss_cut (ps_while PassesOwn.never (pt_cmp (pc_din (hu1 hr) (pe_ix ix_list (pv 9) (pe_un un_neg pe_int) (fun _ _ => rfl)) (pv 6)) (by rfl)) (pss_cons (ps_asg (pe_dget (hu1 hr) (pv 6) (pe_ix ix_list (pv 9) (pe_un un_neg pe_int) (fun _ _ => rfl)) (fun _ _ => rfl)) (pg_tup (by rfl) (pgs_cons (pg_name (i := 4) scWalk.nd rfl (.inl rfl)) (pgs_cons (pg_name (i := 10) scWalk.nd rfl (.inl rfl)) (pgs_cons (pg_name (i := 11) scWalk.nd rfl (.inl rfl)) pgs_nil))))) (Evl.pss_cut (ps_if (pt_cmpR op_notN (pv 10) pe_non (nomark _)) (pss_cons (ps_set (i := 12) scWalk.nd rfl (.inl rfl) (pe_call KZ.G (hr.mono (by decide)) (by rfl) KZ.g KZ.F.kp KZ.b .nil pass0 (pa_cons (pe_dget (hu1 hr) (pv 5) (pv 10) (fun _ _ => rfl)) pa_nil))) (pss_cons (ps_if (pt_cmpR op_gt (pv 12) (pe_callB call_len_seq (by rfl) B.len PySem.boot_len (pa_cons (pv 8) pa_nil)) (nomark _)) (pss_cons (ps_expr (pe_bm PySem.F.plainAttrs_list PySem.F.slot_list_append PySem.F.type_list_append mt_append (pv 9) (pa_cons pe_str pa_nil))) (pss_one ps_break)) pss_nil) (pss_cons (ps_dput (hu1 hr) (pv 7) (pv 10) (pe_call KR.G (hr.mono (by decide)) (by rfl) KR.g KR.F.kp KR.b .nil pass0 (pa_cons (pe_dget (hu1 hr) (pv 5) (pv 10) (fun _ _ => rfl)) (pa_cons (pe_slice sl_tupA (pv 8) po_none (po_some (pv 12))) pa_nil))) (by rfl)) (pss_one (ps_set (i := 8) scWalk.nd rfl (.inl rfl) (pe_slice sl_tupA (pv 8) (po_some (pv 12)) po_none)))))) pss_nil) (pss_one (ps_expr (pe_bm PySem.F.plainAttrs_list PySem.F.slot_list_append PySem.F.type_list_append mt_append (pv 9) (pa_cons (pe_call KA.G (hr.mono (by decide)) (by rfl) KA.g KA.F.kp KA.b .nil pass0 (pa_cons (pv 11) (pa_cons (pe_call KQ.G (hr.mono (by decide)) (by rfl) KQ.g KQ.F.kp KQ.b .nil pass0 (pa_cons (pv 5) (pa_cons (pv 7) (pa_cons (pe_ix ix_tup (pv 1) pe_int (fun _ _ => rfl)) (pa_cons (pe_call KP.G (hr.mono (by decide)) (by rfl) KP.g KP.F.kp KP.b .nil pass0 (pa_cons (pv 11) pa_nil)) pa_nil))))) pa_nil))) pa_nil))))))) (pss_one (ps_ret (pe_tup (pa_cons (pe_callTy call_tuple_of (by rfl) B.tuple (by decide +kernel) (pa_cons (pv 9) pa_nil)) (pa_cons (pv 7) (pa_cons (pv 8) pa_nil))))))))))))), ?_⟩
    obtain ⟨va, hv, sa, sxs, ov, rfl, hva, dhv, hsa, hsd, _⟩ := dp_fr fp.dv
    obtain ⟨pa, ba, rfl, hpa, hba⟩ := dp_pk fp.du
    obtain ⟨ha, hxs, rfl, hha, hhd⟩ := dp_tup dhv
    have fok := fp.ok
    have hok := fok.hs
    have h6 := hok.len
    have s8 := fok.s8
    have sl := dpAll_len hsd
    rw [List.length_map] at sl
    obtain ⟨T, eT⟩ : ∃ T, T = runL f'.hs bs first f'.ss s0.nm (fun _ => none) 0 := ⟨_, rfl⟩
    rw [← eT] at k
    refine ⟨_, rfl, va, _, rfl, hva, rfl, _, _, rfl, _, _, rfl, _, _, rfl, rfl, ?_⟩
    unfold tNext
    dsimp only
    refine asgDc (K := K) (zs := f'.hs.map (·.1)) (fun R r => ⟨_, rfl, r⟩) hha (fst_h hhd) hok.nd (by rw [List.length_map]; omega) (fun _ => rfl) (fun _ => rfl) fun np H1 nkv s1 hn dn => ?_
    refine asgDc (K := K) (zs := f'.ss.map (·.nm)) (fun R r => ⟨_, rfl, r⟩) (sameT s1 hsa) (fst_s (dpSameAll s1 hsd)) (sts_nodup fok.ss) (by rw [List.length_map]; omega) (fun _ => rfl) (fun _ => rfl) fun sp H2 skv s2 hsp ds => ?_
    have sn : ∀ h ∈ f'.hs, ∃ u, valV nkv (.inr h.1) = some u ∧ Dp K H1 u (encH h) := dcK_get dn (dpSameAll s1 hhd)
    have ss : ∀ t ∈ f'.ss, ∃ u, valV skv (.inr t.nm) = some u ∧ Dp K H2 u (encS t) := dcK_get ds (dpSameAll (s1.trans s2) hsd)
    have s02 := s1.trans s2
    obtain ⟨x0, hx0, dx0⟩ : ∃ x, sxs[0]? = some x ∧ Dp K H x (encS s0) := dpAll_get hsd (by rw [fp.e]; rfl)
    obtain ⟨ta0, nv0, rfl, hta0, _⟩ := dp_sta dx0
    refine fun q hq => ?_
    have s3 := same_new (o := .dK []) hq
    have s03 := s02.trans s3
    refine ⟨_, rfl, pa, _, 1, _, rfl, rfl, sameT s03 hpa, atI_nat (j := 1) rfl, ?_⟩
    refine ⟨_, rfl, sa, _, 0, _, rfl, rfl, sameT s03 hsa, atI_nat hx0, ta0, _, 0, _, rfl, rfl, sameT s03 hta0, atI_nat (j := 0) rfl, by show 1 ≤ sizeLine; decide, fun wl hwl => ?_⟩
    have s4 := same_new (o := .lst [.str s0.nm]) hwl
    have s24 := s3.trans s4
    have hwl2 : H2 wl = none := s3.free hwl
    refine ⟨fun σ' H' => ∃ (lv : V) (v4 v10 v11 v12 v13 v14 : Option V), σ' = [some (.ref va), some (.ref pa), some (.ref ha), some (.ref sa), v4, some (.ref np), some (.ref sp), some (.ref q), some lv, some (.ref wl), v10, v11, v12, v13, v14] ∧ Same H2 H' ∧ H' wl = some (.lst (T.1.map V.str)) ∧ HeldT K H' q 8 T.2.1 ∧ Dp K H' lv (encNs (bs.drop T.2.2)), ?_, ?_⟩
    · refine ⟨fun m σ' H' => ∃ (rem : List Sta) (z : Str) (w : List Str) (hl : Hld) (tk : Nat) (lv : V) (v4 v10 v11 v12 v13 v14 : Option V), σ' = [some (.ref va), some (.ref pa), some (.ref ha), some (.ref sa), v4, some (.ref np), some (.ref sp), some (.ref q), some lv, some (.ref wl), v10, v11, v12, v13, v14] ∧ WW K f' bs first T H2 H' wl q lv rem z w hl tk ∧ m + w.length = 20, ⟨20, f'.ss, s0.nm, [], fun _ => none, 0, .ref ba, _, _, _, _, _, _, rfl, ?_, rfl⟩, ?_⟩
      · exact ⟨⟨[], rfl⟩, .inl (by rw [fp.e]; exact List.mem_cons_self), s24, upd_same, ⟨[], s4 _ _ upd_same, Nat.le_refl _, fun _ => .inl ⟨rfl, rfl⟩⟩, (fun h _ ws e => nomatch e), Nat.zero_le _, .tup (sameT (s03.trans s4) hba) (dp_vN bs), by rw [eT]; rfl, by rw [eT], by show 0 + _ ≤ 8; omega⟩
      · rintro m σ' H3 ⟨rem, z, w, hl, tk, lv, v4, v10, v11, v12, v13, v14, rfl, G, hm⟩
        have hsp3 := G.sm _ _ hsp
        obtain ⟨p0, ep0⟩ := G.suf
        have sts0 : StsOk f'.hs rem := sts_suffix (p := p0) (by rw [← ep0]; exact fok.ss)
        refine ⟨_, rfl, _, rfl, wl, _, _, _, rfl, rfl, SqL.of G.hw, at_snoc w z, _, rfl, sp, _, rfl, DGet.k (k := .inr z) hsp3, _, rfl, ?_⟩
        rcases G.zin with zr | ze
        · obtain ⟨s', hs', en⟩ := List.mem_map.mp zr
          obtain ⟨p1, post, erem⟩ := List.append_of_mem hs'
          subst en
          have ndr : (rem.map (·.nm)).Nodup := sts_nodup sts0
          have new1 : s'.nm ∉ p1.map (·.nm) := by
            rw [erem, List.map_append, List.map_cons, List.nodup_append] at ndr
            exact fun hin => ndr.2.2 _ hin _ List.mem_cons_self rfl
          have ers : runL f'.hs bs first rem s'.nm hl tk = runL f'.hs bs first (s' :: post) s'.nm hl tk := by
            rw [erem]
            exact runL_skip new1
          have sts : StsOk f'.hs (s' :: post) := sts_suffix (p := p1) (by rw [← erem]; exact sts0)
          have ok := sts.2
          have sin : s' ∈ f'.ss := by
            rw [ep0]
            exact List.mem_append_right _ hs'
          obtain ⟨x, ex, dx⟩ := ss s' sin
          obtain ⟨ta, nv, rfl, hta, dnv⟩ := dp_sta dx
          have q1 := G.t1
          have q2 := G.t2
          rw [ers] at q1 q2
          have lrem : rem.length = p1.length + (post.length + 1) := by
            rw [erem, List.length_append]
            rfl
          have glw := G.lw
          have w7 : w.length ≤ 7 := by omega
          have lws : (w ++ [s'.nm]).length = w.length + 1 := by
            rw [List.length_append]
            rfl
          rw [ex]
          refine iteT ⟨fun σ'' H'' => ∃ (rem : List Sta) (z : Str) (w2 : List Str) (hl : Hld) (tk : Nat) (lv : V) (v4 v10 v11 v12 v13 v14 : Option V), σ'' = [some (.ref va), some (.ref pa), some (.ref ha), some (.ref sa), v4, some (.ref np), some (.ref sp), some (.ref q), some lv, some (.ref wl), v10, v11, v12, v13, v14] ∧ WW K f' bs first T H2 H'' wl q lv rem z w2 hl tk ∧ w2.length = w.length + 1, ?_, ?_⟩
          · rintro σ'' H'' ⟨rem, z, w2, hl, tk, lv, v4, v10, v11, v12, v13, v14, rfl, G2, e⟩
            exact ⟨m - 1, by omega, rem, z, w2, hl, tk, lv, v4, v10, v11, v12, v13, v14, rfl, G2, by omega⟩
          refine ⟨_, rfl, _, rfl, _, rfl, wl, _, _, _, rfl, rfl, SqL.of G.hw, at_snoc w s'.nm, sp, .ref ta, rfl, (by rw [← ex]; exact DGet.k (k := .inr s'.nm) hsp3), ta, _, rfl, sameT G.sm hta, rfl, _, _, rfl, _, _, rfl, _, _, rfl, rfl, ?_⟩
          refine ⟨fun σ'' H'' => ∃ (hl' : Hld) (tk' : Nat) (lv' : V) (v12 : Option V), σ'' = [some (.ref va), some (.ref pa), some (.ref ha), some (.ref sa), some (.str s'.nm), some (.ref np), some (.ref sp), some (.ref q), some lv', some (.ref wl), some (optV s'.hd), some nv, v12, v13, v14] ∧ Same H2 H'' ∧ H'' wl = some (.lst ((w ++ [s'.nm]).map V.str)) ∧ HeldT K H'' q (w.length + 1) hl' ∧ Fits f'.hs hl' ∧ tk' ≤ bs.length ∧ Dp K H'' lv' (encNs (bs.drop tk')) ∧ stp f'.hs bs first s' hl tk = (hl', tk', leadsF s'.nx (askedF f'.hs s'.nx hl' first)), ?_, ?_⟩
          · refine ⟨_, rfl, rfl, _, rfl, ?_⟩
            cases e : s'.hd with
            | none =>
              show if (!decide ((V.non) = V.non)) = true then _ else _
              rw [nonF]
              refine iteF ⟨hl, tk, lv, v12, rfl, G.sm, G.hw, G.hh.mono (by omega), G.ft, G.tk1, G.dl, ?_⟩
              unfold stp
              rw [e]
            | some z =>
              obtain ⟨h, hm2, rfl⟩ := List.mem_map.mp (ok.hd z e)
              have fo := hok.fo h hm2
              have l12 := fo.l2
              have m8 := fo.m8
              have le16 := fo.le
              rw [bits_wds] at m8 le16
              obtain ⟨u3, eu3, d3⟩ := sn h hm2
              have hn3 : H3 np = some (.dK nkv) := (s2.trans G.sm) _ _ hn
              have d33 : Dp K H3 u3 (encH h) := dpSame (s2.trans G.sm) d3
              obtain ⟨la, lxs, rfl, hla, dla⟩ := dp_tup G.dl
              obtain rfl := dp_vN_inv dla
              show if (!decide (V.str h.1 = V.non)) = true then _ else _
              rw [strT]
              refine iteT ⟨_, rfl, _, rfl, np, u3, rfl, (by rw [← eu3]; exact DGet.k (k := .inr h.1) hn3), u3, h, rfl, d33, l12, fun H4 s4' => ?_⟩
              have sm4 := G.sm.trans s4'
              have hw4 := s4' _ _ G.hw
              have ld : (bs.drop tk).length = bs.length - tk := List.length_drop
              refine ⟨_, rfl, _, rfl, la, _, rfl, .inr (sameT s4' hla), _, _, rfl, rfl, _, rfl, ite2 (fun c => ?_) (fun c => ?_)⟩
              · have lt := of_decide_eq_true c
                rw [vN_len, ld] at lt
                have lt2 : bs.length < tk + sizeF h.2 := by
                  unfold sizeF
                  omega
                have est : stp f'.hs bs first s' hl tk = (hl, tk, ("refuse" : Str)) := by
                  unfold stp
                  rw [e]
                  show (if bs.length < tk + sizeF (fldsOf f'.hs h.1) then _ else _) = _
                  rw [flds_mem hok hm2, if_pos lt2]
                have rst : runL f'.hs bs first (s' :: post) s'.nm hl tk = ([s'.nm, "refuse"], hl, tk) := by
                  rw [runL, if_pos rfl, est, runL_end (fun q => (sts_names sts.1 _ q).nk (ends_kept _ noRej))]
                rw [rst] at q1 q2
                refine ⟨_, rfl, .inl ⟨rfl, _, SqL.of hw4⟩, wl, _, _, rfl, rfl, hw4, by rw [List.length_map, lws]; exact small1000 (by omega), ?_⟩
                refine ⟨.ref la, _, _, _, _, _, _, rfl, Same.mut sm4 hwl2, ?_, ?_, ?_⟩
                · rw [q1]
                  have : (w ++ [s'.nm, "refuse"]).map V.str = (w ++ [s'.nm]).map V.str ++ [.str "refuse"] := by simp
                  rw [this]
                  exact upd_same
                · rw [q2]
                  exact ((G.hh.same s4').exl hw4 Exb.put).mono (by omega)
                · rw [q2]
                  exact dpExb hw4 Exb.put (noL_encNs _) (dpSame s4' G.dl)
              · have ge : ¬ bs.length < tk + sizeF h.2 := by
                  intro lt2
                  have tk1 := G.tk1
                  refine c (decide_eq_true ?_)
                  rw [vN_len, ld]
                  unfold sizeF at lt2
                  omega
                have hi2 : tk + sizeF h.2 ≤ bs.length := by omega
                have lz : sizeF h.2 ≤ (vN (bs.drop tk)).length := by
                  rw [vN_len, ld]
                  omega
                refine ⟨_, rfl, _, rfl, np, u3, rfl, (by rw [← eu3]; exact DGet.k (k := .inr h.1) (s4' _ _ hn3)), _, rfl, _, rfl, _, rfl, ?_⟩
                refine slA (sameT s4' hla) (fun p5 H5 s5 h5 => ?_)
                rw [show cutV (vN (bs.drop tk)) none (some (((wds h.2).sum / 8 : Nat) : Int)) = vN ((bs.drop tk).take (sizeF h.2)) from by
                  show cutV (vN (bs.drop tk)) none (some ((sizeF h.2 : Nat) : Int)) = _
                  rw [cut_toN _ lz]
                  unfold vN
                  rw [List.map_take]] at h5
                have lb : ((bs.drop tk).take (sizeF h.2)).length = sizeF h.2 := by
                  rw [List.length_take, List.length_drop]
                  omega
                have s35 := s4'.trans s5
                refine ⟨u3, .ref p5, h, (bs.drop tk).take (sizeF h.2), rfl, dpSame s35 d33, l12, .tup h5 (dp_vN _), by rw [lb]; unfold sizeF; omega, by rw [lb]; unfold sizeF; omega, fun b hb => fp.bb b (List.mem_of_mem_drop (List.mem_of_mem_take hb)), fun g hg => (fo.wd g hg).2, fun H6 p6 s6 h6 => ?_⟩
                have s36 := s35.trans s6
                have du6 : Dp K H6 (.ref p6) (encNs (readW (wds h.2) (allBits ((bs.drop tk).take (sizeF h.2))))) := .tup (SqT.of h6) (dp_vN _)
                obtain ⟨kvs, hq6, lq, hN⟩ := (G.hh.same s36).put (z := h.1) du6
                refine ⟨_, rfl, _, rfl, q, _, rfl, DPut.k (k := .inr h.1) hq6 (Nat.lt_of_le_of_lt lq (small1000 (by omega))), ?_⟩
                have xq : Exb q H6 (upd H6 q (.dK (putK kvs (.inr h.1) (.ref p6)))) := Exb.put
                have hw6 := s36 _ _ G.hw
                have hw7 := xq _ _ (fun z => by rw [z, hq6] at hw6; cases hw6) hw6
                have dl7 := dpExd hq6 xq (noL_encNs _) (dpSame s36 G.dl)
                refine ⟨_, rfl, _, rfl, _, rfl, ?_⟩
                dsimp only [tNoPart]
                obtain ⟨la7, lxs7, e7, hla7, dla7⟩ := dp_tup dl7
                injection e7 with e7
                subst e7
                obtain rfl := dp_vN_inv dla7
                refine slA hla7 (fun p8 H8 s8' h8 => ?_)
                rw [show cutV (vN (bs.drop tk)) (some (((wds h.2).sum / 8 : Nat) : Int)) none = (vN (bs.drop tk)).drop (sizeF h.2) from cut_fromN (a := sizeF h.2) _ lz] at h8
                refine ⟨hput hl h.1 (readW (wds h.2) (allBits ((bs.drop tk).take (sizeF h.2)))), tk + sizeF h.2, .ref p8, some (.int ((sizeF h.2 : Nat) : Int)), rfl, (Same.mut (G.sm.trans s36) hq).trans s8', s8' _ _ hw7, hN.same s8', fits_put hok G.ft hm2 (by rw [readW_len]; unfold wds; rw [List.length_map]), hi2, ?_, ?_⟩
                · refine .tup h8 ?_
                  rw [show (vN (bs.drop tk)).drop (sizeF h.2) = vN (bs.drop (tk + sizeF h.2)) from by
                    unfold vN
                    rw [← List.map_drop, List.drop_drop]]
                  exact dp_vN _
                · unfold stp
                  rw [e]
                  show (if bs.length < tk + sizeF (fldsOf f'.hs h.1) then _ else _) = _
                  rw [flds_mem hok hm2, if_neg ge]
          · rintro σ'' H4 ⟨hl', tk', lv', v12, rfl, sm4, hw4, hh4, ft4, tk4, dl4, est⟩
            have s04 := s02.trans sm4
            refine ⟨_, rfl, .inl ⟨rfl, _, SqL.of hw4⟩, _, rfl, _, rfl, _, rfl, _, rfl, pa, _, 0, _, rfl, rfl, sameT s04 hpa, atI_nat (j := 0) rfl, _, rfl, nv, s'.nx, rfl, dpSame sm4 dnv, fun y dy => ?_⟩
            have nmd : NmdOk K H4 np f'.hs := ⟨nkv, (s2.trans sm4) _ _ hn, fun h hm => by
              obtain ⟨u, a, b⟩ := sn h hm
              exact ⟨u, a, dpSame (s2.trans sm4) b⟩⟩
            refine ⟨np, q, y, f'.hs, s'.nx, hl', first, rfl, nmd, hok, dy, asks_ok ok.nx, hh4.ok, ft4, fun H5 s5 => ?_⟩
            refine ⟨nv, s'.nx, _, rfl, dpSame (sm4.trans s5) dnv, aims_len ok.nx, fun H6 s6 => ?_⟩
            obtain ⟨aim, eaim⟩ : ∃ aim, aim = leadsF s'.nx (askedF f'.hs s'.nx hl' first) := ⟨_, rfl⟩
            rw [← eaim] at est ⊢
            have s46 := s5.trans s6
            have hw6 := s46 _ _ hw4
            have rst : runL f'.hs bs first (s' :: post) s'.nm hl tk = (s'.nm :: (runL f'.hs bs first post aim hl' tk').1, (runL f'.hs bs first post aim hl' tk').2) := by
              rw [runL, if_pos rfl, est]
            rw [rst] at q1 q2
            refine ⟨wl, _, _, rfl, rfl, hw6, by rw [List.length_map, lws]; exact small1000 (by omega), ?_⟩
            refine ⟨post, aim, w ++ [s'.nm], hl', tk', lv', _, _, _, _, _, _, rfl, ⟨⟨p0 ++ p1 ++ [s'], by rw [ep0, erem]; simp⟩, ?_, Same.mut (sm4.trans s46) hwl2, by rw [List.map_append (l₁ := w ++ [s'.nm])]; exact upd_same, ?_, ft4, tk4, dpExb hw6 Exb.put (noL_encNs _) (dpSame s46 dl4), ?_, q2, ?_⟩, lws⟩
            · rcases leads_in ok.nx (askedF f'.hs s'.nx hl' first) with h1 | h1
              · rw [← eaim] at h1
                exact List.mem_append.mp h1
              · rw [← eaim] at h1
                exact .inr h1
            · rw [lws]
              exact (hh4.same s46).exl hw6 Exb.put
            · rw [q1, List.append_assoc]
              rfl
            · rw [lws]
              omega
        · have zn : z ∉ f'.ss.map (·.nm) := fun h => (sts_names fok.ss z h).nk (ends_kept z ze)
          have zr : z ∉ rem.map (·.nm) := fun h => (sts_names sts0 z h).nk (ends_kept z ze)
          have ev : valV skv (.inr z) = none := ds.2.2 z (by rw [List.take_length]; exact zn)
          rw [ev]
          have ren : runL f'.hs bs first rem z hl tk = ([z], hl, tk) := runL_end zr
          have q1 := G.t1
          have q2 := G.t2
          rw [ren] at q1 q2
          refine iteF ⟨lv, _, _, _, _, _, _, rfl, G.sm, ?_, ?_, ?_⟩
          · rw [q1]
            exact G.hw
          · rw [q2]
            exact G.hh.mono (by have := G.lw; omega)
          · rw [q2]
            exact G.dl
    · rintro σ' H3 ⟨lv, v4, v10, v11, v12, v13, v14, rfl, sm, hw, hh, dl⟩
      refine ⟨_, rfl, wl, _, rfl, .inl ⟨SqL.of hw, fun t ht => ⟨_, rfl, _, rfl, by show 3 ≤ sizeLine; decide, fun p hp => ?_⟩⟩⟩
      have r1 := same_new (o := .tup (T.1.map V.str)) ht
      have r2 := same_new (o := .tup [.ref t, .ref q, lv]) hp
      exact k _ p t q lv ((s02.trans sm).trans (r1.trans r2)) upd_same (r2 _ _ upd_same) (hh.same (r1.trans r2)) (dpSame (r1.trans r2) dl)
end
end LJ

namespace LJ
open PySem PySem.Spec PyProof.Rows L2 GuL HG Bt
instance decThg : DecidableEq Thg := fun x y => match x, y with
  | .rd a, .rd b => if h : a = b then .isTrue (by rw [h]) else .isFalse fun e => h (by injection e)
  | .ask a, .ask b => if h : a = b then .isTrue (by rw [h]) else .isFalse fun e => h (by injection e)
  | .rd _, .ask _ => .isFalse fun e => by cases e
  | .ask _, .rd _ => .isFalse fun e => by cases e
/-! ### things as data -/
theorem eqv_encT (t u : Thg) : PyData.eqv (encT t) (encT u) = decide (t = u) := by
  cases t with
  | rd z => cases u with
    | rd y =>
      have h : PyData.eqv (encT (.rd z)) (encT (.rd y)) = (z == y) := by simp [encT, PyData.eqv, PyData.eqvAll]
      rw [h]
      by_cases e : z = y <;> simp [e]
    | ask p =>
      have q : (Str.ofString "read" == Str.ofString "ask") = false := by decide +kernel
      show PyData.eqvAll [.str "read", .str z] [.str "ask", encP p] = decide (Thg.rd z = .ask p)
      rw [PyData.eqvAll, PyData.eqv, q, decide_eq_false (by intro e; cases e)]
      rfl
  | ask p => cases u with
    | rd y =>
      have q : (Str.ofString "ask" == Str.ofString "read") = false := by decide +kernel
      show PyData.eqvAll [.str "ask", encP p] [.str "read", .str y] = decide (Thg.ask p = .rd y)
      rw [PyData.eqvAll, PyData.eqv, q, decide_eq_false (by intro e; cases e)]
      rfl
    | ask q =>
      have h : PyData.eqv (encT (.ask p)) (encT (.ask q)) = PyData.eqv (encP p) (encP q) := by simp [encT, PyData.eqv, PyData.eqvAll]
      rw [h, eqv_encP]
      by_cases e : p = q <;> simp [e]
theorem any_encT (t : Thg) : ∀ ts : List Thg, ((ts.map encT).any fun z => PyData.eqv z (encT t)) = decide (t ∈ ts)
  | [] => by simp
  | u :: ts => by
    rw [List.map_cons, List.any_cons, eqv_encT, any_encT t ts]
    by_cases e : u = t
    · simp [e]
    · have : t ≠ u := fun z => e z.symm
      simp [e, this]
/-- may be looked for -/
def TOk (t : Thg) : Prop := (encT t).canLay0 = true
theorem t_depth (t : Thg) : PyData.depth (encT t) ≤ 2 := by
  cases t with
  | rd z => simp [encT, PyData.depth, PyData.depthAll]
  | ask p => cases p <;> simp [encT, encP, PyData.depth, PyData.depthAll]
theorem TOk.sh {t : Thg} (h : TOk t) : SeqAt.shaped (encT t) = true := by
  have d := t_depth t
  unfold TOk at h
  unfold SeqAt.shaped
  rw [h]
  simp
  omega
theorem shaped_ts {ts : List Thg} (h : ∀ t ∈ ts, TOk t) : SeqAt.shaped (.list (ts.map encT)) = true := by
  have key : PyData.canLayAll0 (ts.map encT) = true ∧ PyData.depthAll (ts.map encT) ≤ 2 := by
    induction ts with
    | nil => exact ⟨rfl, Nat.zero_le _⟩
    | cons q qs ih =>
      obtain ⟨i1, i2⟩ := ih fun x hx => h x (List.mem_cons_of_mem _ hx)
      have a := h q List.mem_cons_self
      unfold TOk at a
      have d := t_depth q
      constructor
      · rw [List.map_cons, PyData.canLayAll0, a, i1]
        rfl
      · rw [List.map_cons, PyData.depthAll]
        omega
  unfold SeqAt.shaped
  rw [PyData.canLay0, key.1, PyData.depth]
  simp
  omega
theorem own_ok {hs : List Hdr} (ok : HeadersOk hs) {s : Sta} {r : List Sta} (so : StaOk hs s r) : ∀ t ∈ ownT s, TOk t := by
  intro t ht
  rcases List.mem_append.mp ht with ht | ht
  · cases e : s.hd with
    | none => rw [e] at ht; cases ht
    | some z =>
      rw [e] at ht
      rw [List.mem_singleton.mp ht]
      obtain ⟨h, hh, rfl⟩ := List.mem_map.mp (so.hd z e)
      have a := lay_name (ok.nm h hh)
      have b : PyData.canLay0 (.str "read") = true := by decide +kernel
      unfold Lay at a
      show PyData.canLay0 (.tuple [.str "read", .str h.1]) = true
      rw [PyData.canLay0, PyData.canLayAll0, PyData.canLayAll0, PyData.canLayAll0, a, b]
      rfl
  · obtain ⟨p, hp, rfl⟩ := List.mem_map.mp ht
    have : ∃ n, PlcW hs p n := asks_ok so.nx p hp
    obtain ⟨n, hn⟩ := this
    have a := SeqAt.canLay_of_shaped (shaped_encP ok hn)
    have b : PyData.canLay0 (.str "ask") = true := by decide +kernel
    show PyData.canLay0 (.tuple [.str "ask", encP p]) = true
    rw [PyData.canLay0, PyData.canLayAll0, PyData.canLayAll0, PyData.canLayAll0, a, b]
    rfl
/-! ### what is met -/
theorem met_own : ∀ {r : List Sta} {z : Str} {t : Thg}, Met r z t → ∃ s ∈ r, t ∈ ownT s
  | s :: r, z, t, h => by
    rcases h with ⟨_, h | ⟨a, _, h⟩⟩ | ⟨_, h⟩
    · exact ⟨s, List.mem_cons_self, h⟩
    · obtain ⟨s', m, o⟩ := met_own h
      exact ⟨s', List.mem_cons_of_mem _ m, o⟩
    · obtain ⟨s', m, o⟩ := met_own h
      exact ⟨s', List.mem_cons_of_mem _ m, o⟩
theorem met_ok {hs : List Hdr} (ok : HeadersOk hs) : ∀ {r : List Sta} {z : Str} {t : Thg}, StsOk hs r → Met r z t → TOk t := by
  intro r z t h m
  obtain ⟨s, hm, ho⟩ := met_own m
  have : ∀ r : List Sta, StsOk hs r → s ∈ r → ∃ r', StaOk hs s r' := by
    intro r
    induction r with
    | nil => intro _ h; cases h
    | cons x r ih =>
      intro h hm
      rcases List.mem_cons.mp hm with rfl | hm
      · exact ⟨r, h.2⟩
      · exact ih h.1 hm
  obtain ⟨r', so⟩ := this r h hm
  exact own_ok ok so t ho
theorem nd_len {α : Type} : ∀ {l m : List α}, l.Nodup → (∀ t ∈ l, t ∈ m) → l.length ≤ m.length
  | [], _, _, _ => Nat.zero_le _
  | a :: l, m, nd, h => by
    obtain ⟨m1, m2, rfl⟩ := List.append_of_mem (h a List.mem_cons_self)
    obtain ⟨na, nd'⟩ := List.nodup_cons.mp nd
    have := nd_len (m := m1 ++ m2) nd' fun t ht => by
      have q := h t (List.mem_cons_of_mem _ ht)
      rcases List.mem_append.mp q with q | q
      · exact List.mem_append_left _ q
      · rcases List.mem_cons.mp q with rfl | q
        · exact absurd ht na
        · exact List.mem_append_right _ q
    rw [List.length_append] at this ⊢
    rw [List.length_cons, List.length_cons]
    omega
theorem own_len (s : Sta) : (ownT s).length ≤ 2 := by
  unfold ownT
  rw [List.length_append, List.length_map]
  have a : (rdT s.hd).length ≤ 1 := by cases s.hd <;> simp [rdT]
  have b : (asksN s.nx).length ≤ 1 := by
    rcases asks_one s.nx with h | ⟨p, h⟩ <;> simp [h]
  omega
theorem own_nodup (s : Sta) : (ownT s).Nodup := by
  unfold ownT
  rcases asks_one s.nx with h | ⟨p, h⟩ <;> cases s.hd <;> simp [rdT, h]
theorem met_len {r : List Sta} {l : List Thg} (nd : l.Nodup) (h : ∀ t ∈ l, ∃ z, Met r z t) : l.length ≤ 2 * r.length := by
  have q := nd_len (m := r.flatMap ownT) nd fun t ht => by
    obtain ⟨z, hz⟩ := h t ht
    obtain ⟨s, a, b⟩ := met_own hz
    exact List.mem_flatMap.mpr ⟨s, a, b⟩
  have : ∀ r : List Sta, (r.flatMap ownT).length ≤ 2 * r.length := by
    intro r
    induction r with
    | nil => exact Nat.le_refl _
    | cons s r ih =>
      have := own_len s
      rw [List.flatMap_cons, List.length_append, List.length_cons]
      omega
  have := this r
  omega
def mrg (b m : List Thg) : List Thg := b ++ m.filter fun t => decide (t ∉ b)
theorem mrg_nodup {b m : List Thg} (hb : b.Nodup) (hm : m.Nodup) : (mrg b m).Nodup := by
  unfold mrg
  rw [List.nodup_append]
  refine ⟨hb, hm.filter _, fun x hx y hy e => ?_⟩
  subst e
  exact (of_decide_eq_true (List.mem_filter.mp hy).2) hx
theorem mem_mrg {b m : List Thg} {t : Thg} (h : t ∈ mrg b m) : t ∈ b ∨ t ∈ m := by
  rcases List.mem_append.mp h with h | h
  · exact .inl h
  · exact .inr (List.mem_filter.mp h).1
end LJ

namespace LJ
open PySem PySem.Spec PyProof.Rows L2 GuL HG Bt
abbrev sTwice : Stmt := topS 43
/-- where what is met from each aim stands -/
def Frm1 (K : PySem.W.Frag) (H : Hp) (kvs : List (Key × V)) (r : List Sta) : Prop := ∀ z, z ∈ r.map (·.nm) ∨ z ∈ endsN → ∃ (l : Addr) (xs : List V) (ts : List Thg), valV kvs (.inr z) = some (.ref l) ∧ H l = some (.lst xs) ∧ DpAll K H xs (ts.map encT) ∧ ts.Nodup ∧ ∀ t ∈ ts, Met r z t
theorem noL_mapT (ts : List Thg) : ∀ d ∈ ts.map encT, NoL d := fun d hd => by
  obtain ⟨t, _, rfl⟩ := List.mem_map.mp hd
  exact noL_encT t
/-- [x for x in l if x not in b] -/
theorem lcNew {K : PySem.W.Frag} {σ : L2.St} {H : Hp} {Q : VK} {tl te : TE} {l lb : Addr} {xs bs : List V} {ts us : List Thg} (ht : ∀ R : VK, R (.ref l) H → tl σ H R) (hl : H l = some (.lst xs)) (dx : DpAll K H xs (ts.map encT)) (hb : H lb = some (.lst bs)) (db : DpAll K H bs (us.map encT))
    (l9 : ts.length ≤ 100) (o1 : ∀ t ∈ ts, TOk t) (o2 : ∀ t ∈ us, TOk t)
    (hw : ∀ x, wipe ((wipe σ [6]).set 6 (some x)) [6] = wipe σ [6]) (h6 : ∀ x, ((wipe σ [6]).set 6 (some x))[6]? = some (some x)) (h3 : ∀ x (H' : Hp) (R : VK), R (.ref lb) H' → te ((wipe σ [6]).set 6 (some x)) H' R)
    (q : ∀ D H' ys, Same H H' → H D = none → H' D = some (.lst ys) → DpAll K H' ys ((ts.filter fun t => decide (t ∉ us)).map encT) → Q (.ref D) H') :
    tLc (iList K tl) (gName 6) (tTest (tOp (rNotInD K) (tVar 6) te)) (tVar 6) [6] σ H Q := by
  refine ht _ ⟨l, rfl, ⟨_, SqL.of hl⟩, fun D hD => ?_⟩
  refine lc_list (K := K) (a := l) (xs := xs) (fun n H' => Same H H' ∧ ∃ ys, H' D = some (.lst ys) ∧ ys.length ≤ n ∧ DpAll K H' ys (((ts.take n).filter fun t => decide (t ∉ us)).map encT)) ⟨same_new hD, [], upd_same, Nat.zero_le _, .nil⟩ (fun n H' _ p => SqL.of (p.1 _ _ hl)) ?_ ?_
  · rintro n x H2 hn ⟨s2, ys, f, ly, dy⟩
    obtain ⟨d, hd1, hd2⟩ := dpAll_at dx hn
    rw [List.getElem?_map] at hd1
    obtain ⟨t, ht', rfl⟩ := Option.map_eq_some_iff.mp hd1
    have n9 : n < 300 := by
      have := (List.getElem?_eq_some_iff.mp ht').1
      omega
    refine ⟨hw _, _, h6 _, h3 _ _ _ ⟨encT t, us.map encT, dpSame s2 hd2, .lst (SqL.of (s2 _ _ hb)) (dpSameAll s2 db), (o1 t (List.mem_of_getElem? ht')).sh, shaped_ts o2, _, rfl, ?_⟩⟩
    rw [any_encT]
    by_cases e : t ∈ us
    · rw [decide_eq_true e]
      refine iteF ⟨s2, ys, f, by omega, ?_⟩
      rw [List.take_add_one, ht', List.filter_append, Option.toList_some, List.filter_cons, if_neg (by simp [e])]
      simpa using dy
    · rw [decide_eq_false e]
      refine iteT ⟨_, h6 _, _, f, small1000 (by omega), fun b' u hb' => ?_, ys ++ [x], upd_same, by rw [List.length_append]; exact Nat.succ_le_succ ly, ?_⟩
      · rw [upd_ne (ne_of_none hb' hD)]
        exact s2 _ _ hb'
      · rw [List.take_add_one, ht', List.filter_append, Option.toList_some, List.filter_cons, if_pos (by simp [e]), List.map_append]
        exact dpAll_snoc (dpExb f Exb.put (noL_encT t) (dpSame s2 hd2)) (dpExbAll f Exb.put (noL_mapT _) dy)
  · rintro H2 ⟨s2, ys, f, ly, dy⟩
    have dl := dpAll_len dx
    rw [List.length_map] at dl
    rw [List.take_of_length_le (by omega)] at dy
    exact q D H2 ys s2 hD f dy
/-- any([x in b for x in l]), none of which is -/
theorem lcNone {K : PySem.W.Frag} {σ : L2.St} {H : Hp} {Q : VK} {tl te : TE} {l lb : Addr} {xs bs : List V} {ts us : List Thg} (ht : ∀ R : VK, R (.ref l) H → tl σ H R) (hl : H l = some (.lst xs)) (dx : DpAll K H xs (ts.map encT)) (hb : H lb = some (.lst bs)) (db : DpAll K H bs (us.map encT))
    (l9 : ts.length ≤ 100) (o1 : ∀ t ∈ ts, TOk t) (o2 : ∀ t ∈ us, TOk t) (no : ∀ t ∈ ts, t ∉ us)
    (hw : ∀ x, wipe ((wipe σ [6]).set 6 (some x)) [6] = wipe σ [6]) (h6 : ∀ x, ((wipe σ [6]).set 6 (some x))[6]? = some (some x)) (h3 : ∀ x (H' : Hp) (R : VK), R (.ref lb) H' → te ((wipe σ [6]).set 6 (some x)) H' R)
    (q : ∀ D H' n, Same H H' → H' D = some (.lst ((List.replicate n false).map V.bl)) → Q (.ref D) H') :
    tLc (iList K tl) (gName 6) tYes (tOp (rInD K) (tVar 6) te) [6] σ H Q := by
  refine ht _ ⟨l, rfl, ⟨_, SqL.of hl⟩, fun D hD => ?_⟩
  refine lc_list (K := K) (a := l) (xs := xs) (fun n H' => Same H H' ∧ H' D = some (.lst ((List.replicate n false).map V.bl))) ⟨same_new hD, upd_same⟩ (fun n H' _ p => SqL.of (p.1 _ _ hl)) ?_ ?_
  · rintro n x H2 hn ⟨s2, f⟩
    obtain ⟨d, hd1, hd2⟩ := dpAll_at dx hn
    rw [List.getElem?_map] at hd1
    obtain ⟨t, ht', rfl⟩ := Option.map_eq_some_iff.mp hd1
    have n9 : n < 300 := by
      have := (List.getElem?_eq_some_iff.mp ht').1
      omega
    have tm := List.mem_of_getElem? ht'
    refine ⟨hw _, _, h6 _, h3 _ _ _ ⟨encT t, us.map encT, dpSame s2 hd2, .lst (SqL.of (s2 _ _ hb)) (dpSameAll s2 db), (o1 t tm).sh, shaped_ts o2, ?_⟩⟩
    rw [any_encT, decide_eq_false (no t tm)]
    refine ⟨_, f, by rw [List.length_map, List.length_replicate]; exact small1000 (by omega), fun b' u hb' => ?_, ?_⟩
    · rw [upd_ne (ne_of_none hb' hD)]
      exact s2 _ _ hb'
    · rw [upd_same, List.replicate_succ', List.map_append]
      rfl
  · rintro H2 ⟨s2, f⟩
    exact q D H2 _ s2 f
theorem ifNone {K : PySem.W.Frag} {σ : L2.St} {H : Hp} {D : Ends} {t1 w1 : TS} {tl te : TE} {l lb : Addr} {xs bs : List V} {ts us : List Thg} (ht : ∀ R : VK, R (.ref l) H → tl σ H R) (hl : H l = some (.lst xs)) (dx : DpAll K H xs (ts.map encT)) (hb : H lb = some (.lst bs)) (db : DpAll K H bs (us.map encT))
    (l9 : ts.length ≤ 100) (o1 : ∀ t ∈ ts, TOk t) (o2 : ∀ t ∈ us, TOk t) (no : ∀ t ∈ ts, t ∉ us)
    (hw : ∀ x, wipe ((wipe σ [6]).set 6 (some x)) [6] = wipe σ [6]) (h6 : ∀ x, ((wipe σ [6]).set 6 (some x))[6]? = some (some x)) (h3 : ∀ x (H' : Hp) (R : VK), R (.ref lb) H' → te ((wipe σ [6]).set 6 (some x)) H' R)
    (q : ∀ H', Same H H' → w1 D σ H') :
    tSeq (tIfS (tB (tCB (rAny K) (tCons (tLc (iList K tl) (gName 6) tYes (tOp (rInD K) (tVar 6) te) [6]) tNil))) t1 tNext) w1 D σ H := by
  unfold tSeq tIfS tB tCB tCons tNil
  refine lcNone ht hl dx hb db l9 o1 o2 no hw h6 h3 fun A H' n s f => ⟨A, List.replicate n false, rfl, SqL.of f, ?_⟩
  have e : (List.replicate n false).any id = false := by simp
  rw [e]
  exact ⟨false, rfl, iteF (q H' s)⟩
section
variable {P : Program} {w : World} {K : PySem.W.Frag} {mg : Str → Option Value} {base : Heap}
theorem scTwice : FnScope ["parser", "met_from", "state", "behind", "aim", "own", "thing"] ["parser"] (defScope sTwice) := ⟨rfl, rfl, rfl, by decide +kernel, rfl, by decide +kernel, by decide +kernel⟩
def spTwice (K : PySem.W.Frag) : Sp := fun vs H Q _ => ∃ (u : V) (hs : List Hdr) (ss : List Sta), vs = [u] ∧ HeadersOk hs ∧ Dp K H u (encSs ss) ∧ ss.length ≤ 8 ∧ StsOk hs ss ∧ ∀ H', Same H H' → Q (.bl false) H'
theorem ok_twice {f fA fT : Addr} {fd dfA dfT : FuncData} (F : Fun K "comes_twice" "comes_twice" sTwice f fd) (B : Blt mg) (KA : Kn P w K mg base 1 "aims_of" sAimsOf ["onward"] (spAimsOf K) fA dfA) (KT : Kn P w K mg base 2 "things_of" sThingsOf ["state"] (spThingsOf K) fT dfT) (hany : mg "any" = none) : FnOk P w K mg base CX0 3 f fd ["parser"] (spTwice K) := by
  refine F.ok scTwice (fun vs H Q E h => ?_) (fun cdv A outer s H vs Q E hr h => ?_)
  · obtain ⟨u, hs, ss, rfl, _⟩ := h
    rfl
  · obtain ⟨u, hs, ss, rfl, hok, du, l8, ok, k⟩ := h
    refine ⟨_, pss_cons (ps_set (i := 1) scTwice.nd rfl (by first | exact .inl rfl | exact .inr rfl) (pe_disp (pps_cons pe_str (pe_lst pa_nil) (pps_cons pe_str (pe_lst pa_nil) pps_nil)) (by rfl) (by rfl) (by decide) (by decide)))
      (pss_cons (ps_for PassesOwn.never rfl (RT.pi_revA (by rfl) B.reversed (pv 0)) (pg_name (i := 2) scTwice.nd rfl (by first | exact .inl rfl | exact .inr rfl))
        (pss_cons (ps_set (i := 3) scTwice.nd rfl (by first | exact .inl rfl | exact .inr rfl) (pe_lst pa_nil))
        (pss_cons (ps_for PassesOwn.never rfl (pi_list (pe_call KA.G (hr.mono (by decide)) (by rfl) KA.g KA.F.kp KA.b .nil pass0 (pa_cons (pe_ix ix_tup (pv 2) pe_int (fun _ _ => rfl)) pa_nil))) (pg_name (i := 4) scTwice.nd rfl (by first | exact .inl rfl | exact .inr rfl))
          (pss_one (ps_set (i := 3) scTwice.nd rfl (by first | exact .inl rfl | exact .inr rfl) (pe_op op_cat (pv 3) (pe_lc (own := [("thing", 6)]) (g := gName 6) (tt := tTest (tOp (rNotInD K) (tVar 6) (tVar 3))) rfl scTwice.nd (pi_list (pe_dget (hu1 hr) (pv 1) (pv 4) (fun _ _ => rfl))) (blkOk_by (N := ["parser", "met_from", "state", "behind", "aim", "own", "thing"]) (sc := defScope sTwice) (by decide +kernel)) (fun _ _ _ _ _ => pg_name (i := 6) scTwice.nd rfl (.inl rfl)) (fun _ _ _ _ _ => (pts_one (pt_cmpR (op_notInD (Room.u65 hr)) (pv 6) (pv 3) (by rfl)))) (fun _ _ _ _ _ => pv 6))))))
        (pss_cons (ps_set (i := 5) scTwice.nd rfl (by first | exact .inl rfl | exact .inr rfl) (pe_call KT.G (hr.mono (by decide)) (by rfl) KT.g KT.F.kp KT.b .nil pass0 (pa_cons (pv 2) pa_nil)))
        (pss_cons (ps_if (pt_val (pe_callB (cr_any rfl) (by rfl) hany (by decide +kernel) (pa_cons (pe_lc (own := [("thing", 6)]) (g := gName 6) (tt := tYes) rfl scTwice.nd (pi_list (pv 5)) (blkOk_by (N := ["parser", "met_from", "state", "behind", "aim", "own", "thing"]) (sc := defScope sTwice) (by decide +kernel)) (fun _ _ _ _ _ => pg_name (i := 6) scTwice.nd rfl (.inl rfl)) (fun _ _ _ _ _ => pts_nil) (fun _ _ _ _ _ => pe_cmpR (r := rInD K) (op_inD (Room.u65 hr)) (pv 6) (pv 3) (by rfl))) pa_nil))) (pss_one (ps_ret pe_bl)) pss_nil)
        (pss_one (ps_dput (hu1 hr) (pv 1) (pe_ix ix_tup (pv 2) pe_int (fun _ _ => rfl)) (pe_op op_cat (pv 5) (pv 3)) (by rfl))))))))
      (pss_one (ps_ret pe_bl))), ?_⟩
    obtain ⟨a, xs, rfl, ha, hd⟩ := dp_tup du
    have dl := dpAll_len hd
    rw [List.length_map] at dl
    refine fun p hp' => ⟨Nat.zero_le _, fun l1 h1 => ⟨Nat.zero_le _, fun l2 h2 => ?_⟩⟩
    have n1 : l1 ≠ p := fun e => by rw [e, upd_same] at h1; cases h1
    have n2 : l2 ≠ p := fun e => by rw [e, upd_ne n1.symm, upd_same] at h2; cases h2
    have n12 : l2 ≠ l1 := fun e => by rw [e, upd_same] at h2; cases h2
    refine ⟨by rw [upd_ne n2.symm, upd_ne n1.symm, upd_same], [(.inr "accept", .ref l1), (.inr "refuse", .ref l2)], rfl, (by show 2 ≤ 15; decide), ?_⟩
    generalize hH0 : (upd (upd (upd (upd H p (.dK [])) l1 (.lst [])) l2 (.lst [])) p (.dK (mergeK [] [(.inr "accept", .ref l1), (.inr "refuse", .ref l2)]))) = H0
    have s0 : Same H H0 := by
      rw [← hH0]
      exact Same.mut ((same_new hp').trans ((same_new h1).trans (same_new h2))) hp'
    have f1 : H0 l1 = some (.lst []) := by rw [← hH0, upd_ne n1, upd_ne n12.symm, upd_same]
    have f2 : H0 l2 = some (.lst []) := by rw [← hH0, upd_ne n2, upd_same]
    have f0 : H0 p = some (.dK (putK (putK [] (.inr "accept") (.ref l1)) (.inr "refuse") (.ref l2))) := by rw [← hH0, upd_same]; rfl
    refine ⟨_, rfl, a, xs, rfl, .inr ⟨sameT s0 ha, RT.for_ItvT (K := K) (a := a) (xs := xs) (fun i σ H' => ∃ (v2 v3 v4 v5 v6 : Option V) (kvs : List (Key × V)), σ = [some (.ref a), some (.ref p), v2, v3, v4, v5, v6] ∧ Same H H' ∧ H' p = some (.dK kvs) ∧ kvs.length ≤ 2 + i ∧ Frm1 K H' kvs (ss.drop (ss.length - i)))
      ⟨none, none, none, none, none, _, rfl, s0, f0, ?_, ?_⟩ (fun i σ H' ⟨_, _, _, _, _, _, _, q, _⟩ => sameT q ha) ?_ ?_⟩⟩
    · have a1 := length_putK ([] : List (Key × V)) (Sum.inr "accept" : Key) (.ref l1)
      have a2 := length_putK (putK ([] : List (Key × V)) (Sum.inr "accept" : Key) (.ref l1)) (Sum.inr "refuse" : Key) (.ref l2)
      have : ([] : List (Key × V)).length = 0 := rfl
      omega
    · intro z hz
      rw [Nat.sub_zero, List.drop_length] at hz
      rcases hz with hz | hz
      · cases hz
      · simp only [endsN, List.mem_cons, List.not_mem_nil, or_false] at hz
        rcases hz with rfl | rfl
        · refine ⟨l1, [], [], ?_, f1, .nil, List.nodup_nil, fun t ht => nomatch ht⟩
          rw [valV_put, if_neg (by intro e; injection e with e; revert e; decide), valV_put, if_pos rfl]
        · refine ⟨l2, [], [], ?_, f2, .nil, List.nodup_nil, fun t ht => nomatch ht⟩
          rw [valV_put, if_pos rfl]
    · rintro i x σ H1 hi hx ⟨v2, v3, v4, v5, v6, kvs, rfl, s1, fp, lk, fr⟩
      obtain ⟨d, hd1, hd2⟩ := dpAll_at hd hx
      rw [List.getElem?_map] at hd1
      obtain ⟨s', hs', rfl⟩ := Option.map_eq_some_iff.mp hd1
      obtain ⟨ta, nv, rfl, hta, dnv⟩ := dp_sta (dpSame s1 hd2)
      obtain ⟨rem, erem⟩ : ∃ rem, rem = ss.drop (ss.length - i) := ⟨_, rfl⟩
      have hlt := (List.getElem?_eq_some_iff.mp hs').1
      have ecut : ss.drop (ss.length - (i + 1)) = s' :: rem := by
        have e1 : ss.length - (i + 1) = xs.length - 1 - i := by omega
        rw [e1, List.drop_eq_getElem_cons hlt, (List.getElem?_eq_some_iff.mp hs').2, erem]
        congr 2
        omega
      rw [← erem] at fr
      have lrem : rem.length ≤ 8 := by
        rw [erem, List.length_drop]
        omega
      have sts : StsOk hs (s' :: rem) := sts_suffix (p := ss.take (ss.length - (i + 1))) (by rw [← ecut, List.take_append_drop]; exact ok)
      have so := sts.2
      refine ⟨Nat.zero_le _, fun lb hlb => ?_⟩
      have s2 := same_new (o := .lst []) hlb
      have sH := s1.trans s2
      refine ⟨_, rfl, ta, _, 2, _, rfl, rfl, sameT s2 hta, atI_nat (j := 2) rfl, nv, s'.nx, rfl, dpSame s2 dnv, aims_len so.nx, fun H2 la s3 hla fa => ⟨la, rfl, ⟨_, SqL.of fa⟩, for_list (K := K) (a := la) (xs := (aimsN s'.nx).map V.str)
        (fun j σ H' => ∃ (v4 v6 : Option V) (lb : Addr) (bs : List V) (us : List Thg), σ = [some (.ref a), some (.ref p), some (.ref ta), some (.ref lb), v4, v5, v6] ∧ Same H2 H' ∧ H' lb = some (.lst bs) ∧ DpAll K H' bs (us.map encT) ∧ us.Nodup ∧ ∀ t ∈ us, ∃ z ∈ aimsN s'.nx, Met rem z t)
        ⟨_, _, lb, [], [], rfl, Same.refl _, s3 _ _ upd_same, .nil, List.nodup_nil, fun t ht => nomatch ht⟩ (fun j σ H' _ ⟨_, _, _, _, _, _, q, _⟩ => SqL.of (q _ _ fa)) ?_ ?_⟩⟩
      · rintro j y σ H3 hj ⟨w4, w6, lb, bs, us, rfl, s4, fb, db, nd, mu⟩
        rw [List.getElem?_map] at hj
        obtain ⟨z, hz, rfl⟩ := Option.map_eq_some_iff.mp hj
        have zm := List.mem_of_getElem? hz
        have zin : z ∈ rem.map (·.nm) ∨ z ∈ endsN := by
          rcases aims_in so.nx z zm with h | h
          · exact List.mem_append.mp h
          · exact .inr h
        obtain ⟨l, zs, ts, ev, fl, dl', nt, mt⟩ := fr z zin
        have s13 := s2.trans (s3.trans s4)
        have hp3 : H3 p = some (.dK kvs) := s13 _ _ fp
        have lt := met_len nt fun t ht => ⟨z, mt t ht⟩
        have lu := met_len nd fun t ht => by obtain ⟨z, _, h⟩ := mu t ht; exact ⟨z, h⟩
        have xl := dpAll_len db
        rw [List.length_map] at xl
        refine ⟨_, rfl, ?_⟩
        refine lcNew (l := l) (lb := lb) (ts := ts) (us := us) (fun R r => ⟨_, rfl, _, rfl, p, .ref l, rfl, (by rw [← ev]; exact DGet.k (k := .inr z) hp3), r⟩) (s13 _ _ fl) (dpSameAll s13 dl') fb db (by omega) (fun t ht => met_ok hok sts.1 (mt t ht)) (fun t ht => by obtain ⟨z, _, h⟩ := mu t ht; exact met_ok hok sts.1 h) (fun _ => rfl) (fun _ => rfl) (fun _ _ _ r => ⟨_, rfl, r⟩) fun D H4 ys s5 hD f5 dy => ?_
        have yl := dpAll_len dy
        rw [List.length_map] at yl
        have fl2 : (ts.filter fun t => decide (t ∉ us)).length ≤ ts.length := List.length_filter_le _ _
        refine ⟨lb, D, bs, ys, rfl, rfl, s5 _ _ fb, f5, Nat.le_of_lt (small1000 (by omega)), fun q hq => ?_⟩
        have s6 := same_new (o := .lst (bs ++ ys)) hq
        refine ⟨_, _, q, bs ++ ys, mrg us ts, rfl, s4.trans (s5.trans s6), upd_same, ?_, mrg_nodup nd nt, fun t ht => ?_⟩
        · unfold mrg
          rw [List.map_append]
          exact dpAll_app (dpSameAll (s5.trans s6) db) (dpSameAll s6 dy)
        · rcases mem_mrg ht with h | h
          · exact mu t h
          · exact ⟨z, zm, mt t h⟩
      · rintro σ H3 ⟨w4, w6, lb, bs, us, rfl, s4, fb, db, nd, mu⟩
        have s13 := s2.trans (s3.trans s4)
        have lu := met_len nd fun t ht => by obtain ⟨z, _, h⟩ := mu t ht; exact ⟨z, h⟩
        have xl := dpAll_len db
        rw [List.length_map] at xl
        refine ⟨_, rfl, .ref ta, s', rfl, dpSame (s1.trans s13) hd2, fun H4 lo zo s5 hlo fo dzo => ?_⟩
        have ol := own_len s'
        have zl := dpAll_len dzo
        rw [List.length_map] at zl
        have oo := own_ok hok so
        have ou : ∀ t ∈ us, TOk t := fun t ht => by obtain ⟨z, _, h⟩ := mu t ht; exact met_ok hok sts.1 h
        have tw : ∀ t ∈ ownT s', t ∉ us := fun t ht hu => by obtain ⟨z, zm, h⟩ := mu t hu; exact so.tw t ht z zm h
        show tSeq (tIfS (tB (tCB (rAny K) (tCons (tLc (iList K (tVar 5)) (gName 6) tYes (tOp (rInD K) (tVar 6) (tVar 3)) [6]) tNil))) (tRet (tC (.bl true))) tNext) (sDPut (tVar 1) (tOp (rIxT K) (tVar 2) (tC (.int 0))) (tOp rCat (tVar 5) (tVar 3))) _ [some (.ref a), some (.ref p), some (.ref ta), some (.ref lb), w4, some (.ref lo), w6] H4
        refine ifNone (l := lo) (lb := lb) (ts := ownT s') (us := us) (fun R r => ⟨_, rfl, r⟩) fo dzo (s5 _ _ fb) (dpSameAll s5 db) (by omega) oo ou tw (fun _ => rfl) (fun _ => rfl) (fun _ _ _ r => ⟨_, rfl, r⟩) fun H5 s6 => ?_
        have s15 := s13.trans (s5.trans s6)
        have hp5 : H5 p = some (.dK kvs) := s15 _ _ fp
        refine ⟨_, rfl, _, rfl, lo, lb, zo, bs, rfl, rfl, s6 _ _ fo, (s5.trans s6) _ _ fb, Nat.le_of_lt (small1000 (by omega)), fun q hq => ?_⟩
        have s7 := same_new (o := .lst (zo ++ bs)) hq
        have s17 := s15.trans s7
        have hp6 := s7 _ _ hp5
        have i8 : i < 8 := by omega
        refine ⟨_, rfl, _, rfl, ta, _, 0, _, rfl, rfl, sameT s17 hta, atI_nat (j := 0) rfl, p, _, rfl, DPut.k (k := .inr s'.nm) hp6 (small1000 (by omega)), ?_⟩
        have xp : Exb p (upd H5 q (.lst (zo ++ bs))) (upd (upd H5 q (.lst (zo ++ bs))) p (.dK (putK kvs (.inr s'.nm) (.ref q)))) := Exb.put
        have lk2 := length_putK kvs (.inr s'.nm) (.ref q)
        refine ⟨_, _, _, _, _, putK kvs (.inr s'.nm) (.ref q), rfl, Same.mut (s1.trans s17) hp', upd_same, by omega, ?_⟩
        rw [ecut]
        intro z hz
        rw [valV_put]
        by_cases e : z = s'.nm
        · subst e
          rw [if_pos rfl]
          refine ⟨q, zo ++ bs, ownT s' ++ us, rfl, by rw [upd_ne (by intro e; rw [e, hp5] at hq; cases hq), upd_same], ?_, ?_, fun t ht => ?_⟩
          · rw [List.map_append]
            exact dpAll_app (dpExdAll hp6 xp (noL_mapT _) (dpSameAll (s6.trans s7) dzo)) (dpExdAll hp6 xp (noL_mapT _) (dpSameAll (s5.trans (s6.trans s7)) db))
          · rw [List.nodup_append]
            exact ⟨own_nodup s', nd, fun x hx y hy e => tw x hx (by rw [e]; exact hy)⟩
          · rcases List.mem_append.mp ht with h | h
            · exact .inl ⟨rfl, .inl h⟩
            · obtain ⟨y, ym, m⟩ := mu t h
              exact .inl ⟨rfl, .inr ⟨y, ym, m⟩⟩
        · rw [if_neg (fun c => e (by injection c))]
          have hz' : z ∈ rem.map (·.nm) ∨ z ∈ endsN := by
            rcases hz with h | h
            · rcases List.mem_cons.mp h with h | h
              · exact absurd h e
              · exact .inl h
            · exact .inr h
          obtain ⟨l, zs, ts, ev, fl, dl', nt, mt⟩ := fr z hz'
          have fl7 := s17 _ _ fl
          refine ⟨l, zs, ts, ev, xp _ _ (by intro e; rw [e, hp6] at fl7; cases fl7) fl7, dpExdAll hp6 xp (noL_mapT _) (dpSameAll s17 dl'), nt, fun t ht => .inr ⟨e, mt t ht⟩⟩
    · rintro σ H1 ⟨v2, v3, v4, v5, v6, kvs, rfl, s1, fp, lk, fr⟩
      exact k H1 s1
end
end LJ

namespace PySem
open Sem (wp)
open AutoSeq1 (wpAny_loadPart')
theorem meets_enumerate_newT {v : Value} {o : Obj} {H : Heap → Prop} (B : Begins v o H) :
    Meets (Builtin.«enumerate.__new__» ⟨[.type "enumerate", v], []⟩) (fun _ R s => H s.heap ∧
      R (.ok (.ret (.ref (s.heap.push o).objs.size))) { s with heap := (s.heap.push o).push { cls := .type "enumerate", data := .fields #[.none, .bool false, .ref s.heap.objs.size, rawInt 0, .none, .none] } }) :=
  .of_wp fun prog w A R s h => by
    obtain ⟨hp, g, d, tk, os⟩ := s; obtain ⟨h1, h⟩ := h
    have hsub := sub_enumerate
    have q1 : ∀ {A' : Around} {E : Value → Shared → Prop} {Q : Value → Shared → Prop}, Q (.ref hp.objs.size) ⟨hp.push o, g, d, tk, os⟩ → wpAny (model prog w) A' (pyIter v) Q E ⟨hp, g, d, tk, os⟩ :=
      fun q => B.iter prog w _ _ ⟨hp, g, d, tk, os⟩ _ h1 q
    wp_walk using q1
    refine wpAny_stack_any fun st => wpAny_pure ?_
    split
    · rename_i c _ _ _ _ _
      cases (c == Value.type "enumerate")
      · wp_walk using q1
        exact ⟨_, rfl, h⟩
      · wp_walk using q1
        exact ⟨_, rfl, h⟩
    · wp_walk using q1
      exact ⟨_, rfl, h⟩
theorem enum_beginsT {prog : Program} {w : World} {A : Around} {E : Value → Shared → Prop} {s : Shared} {v : Value} {o : Obj} {H : Heap → Prop} {Q : Value → Shared → Prop} (B : Begins v o H) (h1 : H s.heap)
    (h : ∀ h', IsEnum h' (s.heap.objs.size + 1) s.heap.objs.size 0 .none → h'.get? s.heap.objs.size = some o → h'.objs.size = s.heap.objs.size + 2 →
      (∀ b o, s.heap.get? b = some o → h'.get? b = some o) → Q (.ref (s.heap.objs.size + 1)) { s with heap := h' }) :
    wpAny (model prog w) A (call (.type "enumerate") [v]) Q E s := by
  refine callType_new F.called_enumerate (by decide) (F.typeCall_enumerate_1 _) (F.newCall_enumerate_1 _) (fun obj => F.args_object_init_2 obj _) F.entry_enumerate_new
    (meets_enumerate_newT B) ⟨h1, ?_⟩
  have hz : (s.heap.push o).objs.size = s.heap.objs.size + 1 := Heap.size_push ..
  show _ ∧ _
  rw [hz]
  have he : IsEnum ((s.heap.push o).push { cls := .type "enumerate", data := .fields #[.none, .bool false, .ref s.heap.objs.size, rawInt 0, .none, .none] }) (s.heap.objs.size + 1) s.heap.objs.size 0 .none := by
    have := Heap.get?_push_size (s.heap.push o) (o := { cls := .type "enumerate", data := .fields #[.none, .bool false, .ref s.heap.objs.size, rawInt 0, .none, .none] }) rfl
    rw [hz] at this; exact this
  refine ⟨⟨_, he, rfl⟩, h _ he (Heap.get?_push_of_some _ (Heap.get?_push_size _ B.free)) (by rw [Heap.size_push, hz]) fun b o x => Heap.get?_push_of_some _ (Heap.get?_push_of_some _ x)⟩
end PySem
namespace LZ
open PySem PySem.Spec PyProof.Rows L2
/-! ### enumerate of a tuple -/
def ItE (K : PySem.W.Frag) (a : Addr) : It where
  go n H := ∃ l, SqT K H a l ∧ n < l.length
  yld n H res H2 := ∃ T p, res = .ref T ∧ H T = none ∧ H2 = upd H T (.tup [.int (n : Nat), p]) ∧ (∀ l, SqT K H a l → l[n]? = some p)
  stop n H := ∃ l, SqT K H a l ∧ n = l.length
section
variable {P : Program} {w : World} {K : PySem.W.Frag} {elts : List Expr} {kk : Nat} {tpos : Pos} {a e j : Addr}
theorem turnE (nej : e ≠ j) (nea : e ≠ a) (na : a ≠ j) : Turn P w K (.Tuple elts kk tpos) (ItE K a) [e, j] e (fun n h => (∃ old, IsEnum h e j ((n : Nat) : Int) old) ∧ h.IsTupleIter j a n) := by
  have nef : e ∉ [j, a] := by simp [nej, nea]
  have nk : ∀ n : Nat, (0 : Int) + (n : Int) = (n : Int) := fun n => by omega
  refine { mem := List.mem_cons_self, obj := ?_, keep := ?_, item := ?_, done := ?_, self := ?_ }
  · rintro n h ⟨⟨old, g1⟩, o4, g4, _, d4⟩ c hc
    have hc' : c = e ∨ c = j := by simpa using hc
    rcases hc' with rfl | rfl
    · exact ⟨_, g1, fun v y => nomatch y⟩
    · exact ⟨_, g4, fun v y => by rw [d4] at y; nomatch y⟩
  · rintro n h h2 ⟨⟨old, g1⟩, g4⟩ hk
    exact ⟨⟨old, hk e (by simp) _ g1⟩, g4.at fun o q => hk j (by simp) o q⟩
  · rintro X rfl rfl rfl cal n pins s σ H E I fp ⟨⟨old, g1⟩, g4⟩ ⟨l, hl, hn⟩
    obtain ⟨us, rus, tu, _⟩ := I.tuple hl
    have e1 := rus.length
    have hd : X.A.in1.handled = none := I.ok.hd cal
    have W := WalksT.enumFrom 0 (Draws.tuple (prog := X.prog) (w := X.w) (A := X.A.in1) hd j a na us.toArray) e nej nef (by simp)
    refine W.item n s _ E (by simp only [List.size_toArray]; omega) ⟨⟨old, by rw [nk]; exact g1⟩, g4, tu⟩ fun T vals h1 tk hP hle hT hM hk => ?_
    obtain ⟨t0, x1, hx1, rfl⟩ := hP
    refine ⟨_, rfl, W.go elts kk tpos n T _ _ E hM fun h2 hSt hk2 => ?_⟩
    obtain ⟨⟨old2, y1⟩, y4, _⟩ := hSt
    rw [nk] at y1
    obtain ⟨o, ho, hc, m, hdt⟩ := hT
    have ho2 : h2.get? T = some o := hk2 T o (W.apart n T h1 hM) ho
    obtain ⟨p, hp⟩ : ∃ p, l[n]? = some p := ⟨_, List.getElem?_eq_getElem hn⟩
    obtain ⟨u, hu, ru⟩ := rus.get hp
    have eu : u = x1 := by
      have : us[n]? = some x1 := by simpa using hx1
      rw [hu] at this
      exact Option.some.inj this
    subst eu
    rw [nk] at hdt
    have nw : ObjOk X.prog X.w (upd H T (.tup [.int (n : Nat), p])) h2 T (.tup [.int (n : Nat), p]) := ⟨by show 2 ≤ sizeLine; decide, [.int (n : Nat) t0, u], .cons ⟨_, rfl⟩ (.cons ru .nil), ⟨o, ho2, hc, m, hdt⟩⟩
    have lt : ∀ c, c ∈ [e, j] → c < s.heap.objs.size := fun c hc => by
      obtain ⟨o4, f4, _⟩ := g4
      have hc' : c = e ∨ c = j := by simpa using hc
      rcases hc' with rfl | rfl
      · exact Heap.lt_size g1
      · exact Heap.lt_size f4
    have I2 : Inv X pins σ (upd H T (.tup [.int (n : Nat), p])) { s with heap := h2, toks := tk } := I.turnedNew (ch := [e, j]) (fun c o hc q => hk2 c o hc (hk c o hc q)) fp hle nw
    refine ⟨.ref T, _, I2, rfl, ⟨T, p, rfl, I.hok.fresh hle, rfl, fun l2 h => by rw [I.tuple_inj h hl]; exact hp⟩, ⟨⟨old2, y1⟩, y4⟩, fun c hc => ?_⟩
    rw [upd_ne (Nat.ne_of_lt (Nat.lt_of_lt_of_le (lt c hc) hle))]
    exact (fp c hc).1
  · rintro X rfl rfl rfl cal n pins s σ H E I fp ⟨⟨old, g1⟩, g4⟩ ⟨l, hl, hn⟩
    obtain ⟨us, rus, tu, _⟩ := I.tuple hl
    have e1 := rus.length
    have hd : X.A.in1.handled = none := I.ok.hd cal
    have W := WalksT.enumFrom 0 (Draws.tuple (prog := X.prog) (w := X.w) (A := X.A.in1) hd j a na us.toArray) e nej nef (by simp)
    have em : us.toArray.size = n := by
      simp only [List.size_toArray]
      omega
    refine W.done s _ E (by rw [em]; exact ⟨⟨old, by rw [nk]; exact g1⟩, g4, tu⟩) fun h1 tk hk => ⟨rfl, I.turnedL (ch := [e, j]) (fun c o hc q => hk c o hc q) fp⟩
  · rintro A n s Q E ⟨⟨old, st⟩, _⟩ q
    exact wpAny_pyIter_enum st q
end
def iEnumT (K : PySem.W.Frag) (ta : TA) : TI := fun σ H R => ta σ H fun us H1 => ∃ a l, us = [.ref a] ∧ SqT K H1 a l ∧ R (ItE K a) H1
theorem pi_enumT {X : Cx} {x1 : Expr} {ta : TA} {p p2 tp : Pos} {ts : List Expr} {kk : Nat} (hg : Gl X "enumerate") (hm : X.mg "enumerate" = none) (ha : PA X [x1] ta) (h1 : starEach [x1] X.env = [(false, eval x1 X.env)] := by rfl) :
    PI X (.Tuple ts kk tp) (.Call (.Name "enumerate" p) [x1] [] p2) (iEnumT X.K ta) := by
  constructor
  intro pins s σ H R I h
  refine Call_ (ld_blt I hg hm boot_enumerate (PyProof.Rows.callWith_type1 (thn (ha.run p2 pins s σ H _ I h) fun us s1 q1 => ?_) h1 rfl))
  obtain ⟨vs, H1, I1, r1, a, l, rfl, hl, q⟩ := q1
  obtain ⟨u1, rfl, e1⟩ := vals1 r1
  obtain rfl : u1 = Value.ref a := e1
  obtain ⟨is1, rv1, tu, _⟩ := I1.tuple hl
  have la : a < s1.heap.objs.size := by
    obtain ⟨o, ho, _⟩ := id tu
    exact Heap.lt_size ho
  refine enum_beginsT (begins_tuple a is1.toArray) tu fun h' g1 g2 _ hk => wpAny_pyIter_enum g1 ?_
  have I2 : Inv X pins σ H1 { s1 with heap := h' } := I1.kept (t' := s1.toks) hk
  refine ⟨s1.heap.objs.size + 1, [s1.heap.objs.size + 1, s1.heap.objs.size], _, ItE X.K a, H1, rfl, I2, turnE (Nat.succ_ne_self _) (Nat.ne_of_gt (Nat.lt_succ_of_lt la)) (Nat.ne_of_lt la), ⟨⟨_, g1⟩, ⟨_, g2, rfl, rfl⟩⟩, fun c hc => ?_, q⟩
  have le : s1.heap.objs.size ≤ c := by
    have hc' : c = s1.heap.objs.size + 1 ∨ c = s1.heap.objs.size := by simpa using hc
    rcases hc' with rfl | rfl
    · exact Nat.le_add_right _ _
    · exact Nat.le_refl _
  exact I1.fpOk le (I1.hok.fresh le)
end LZ

namespace LJ
open PySem PySem.Spec PyProof.Rows L2 GuL HG Bt
/-- [.. for n, x in enumerate(t)], each True -/
theorem lcEn {K : PySem.W.Frag} {σ : L2.St} {H : Hp} {Q : VK} {ta : TA} {te : TE} {a : Addr} {xs : List V} (ht : ∀ R : List V → Hp → Prop, R [.ref a] H → ta σ H R) (ha : SqT K H a xs) (hl : xs.length ≤ 300)
    (hw : ∀ x y, wipe (((wipe σ [4, 5]).set 5 (some x)).set 4 (some y)) [4, 5] = wipe σ [4, 5])
    (hv : ∀ (i : Nat) (x : V) (H' : Hp) (R : VK), xs[i]? = some x → Same H H' → (∀ H'', Same H' H'' → R (.bl true) H'') → te (((wipe σ [4, 5]).set 5 (some (.int (i : Nat)))).set 4 (some x)) H' R)
    (q : ∀ D H', Same H H' → H' D = some (.lst ((List.replicate xs.length true).map V.bl)) → Q (.ref D) H') :
    tLc (LZ.iEnumT K ta) (gTup K 2 (gCons (gName 5) (gCons (gName 4) gNil))) tYes te [4, 5] σ H Q := by
  refine ht _ ⟨a, xs, rfl, ha, fun D hD => ?_⟩
  have wk : Walk (LZ.ItE K a) xs.length (fun H => SqT K H a xs) (fun i H v H' => ∃ T p, v = .ref T ∧ H T = none ∧ H' = upd H T (.tup [.int (i : Nat), p]) ∧ xs[i]? = some p) :=
    ⟨fun i H hi s => ⟨xs, s, hi⟩, fun H s => ⟨xs, s, rfl⟩, fun i H x H' hi s ⟨T, p, e1, e2, e3, e4⟩ => ⟨T, p, e1, e2, e3, e4 xs s⟩⟩
  refine lc_it wk (fun n H' => Same H H' ∧ H' D = some (.lst ((List.replicate n true).map V.bl))) ⟨same_new hD, upd_same⟩ (fun _ _ _ p => sameT p.1 ha) ?_ ?_
  · rintro n x H' H'' hn ⟨s, f⟩ ⟨T, p, rfl, hT, rfl, hp⟩
    have sT := same_new (o := .tup [.int (n : Nat), p]) hT
    have nTD : D ≠ T := fun z => by
      rw [← z, f] at hT
      cases hT
    refine ⟨T, _, rfl, SqT.of upd_same, rfl, _, _, rfl, _, _, rfl, rfl, hw _ _, hv n p _ _ hp (s.trans sT) fun H3 s3 => ⟨_, s3 _ _ (by rw [upd_ne nTD]; exact f), ?_, fun c u hc => ?_, ?_⟩⟩
    · rw [List.length_map, List.length_replicate]
      exact small1000 (by omega)
    · rw [upd_ne (ne_of_none hc hD)]
      exact s3 _ _ (sT _ _ (s _ _ hc))
    · rw [upd_same, List.replicate_succ', List.map_append]
      rfl
  · rintro H' ⟨s, f⟩
    exact q D H' s f
theorem asgEn {K : PySem.W.Frag} {σ : L2.St} {H : Hp} {D : Ends} {u : TS} {g : TG} {ta : TA} {te : TE} {a : Addr} {xs : List V} (ht : ∀ R : List V → Hp → Prop, R [.ref a] H → ta σ H R) (ha : SqT K H a xs) (hl : xs.length ≤ 300)
    (hw : ∀ x y, wipe (((wipe σ [4, 5]).set 5 (some x)).set 4 (some y)) [4, 5] = wipe σ [4, 5])
    (hv : ∀ (i : Nat) (x : V) (H' : Hp) (R : VK), xs[i]? = some x → Same H H' → (∀ H'', Same H' H'' → R (.bl true) H'') → te (((wipe σ [4, 5]).set 5 (some (.int (i : Nat)))).set 4 (some x)) H' R)
    (q : ∀ Dd H', Same H H' → H' Dd = some (.lst ((List.replicate xs.length true).map V.bl)) → g (.ref Dd) σ H' fun σ2 H2 => u D σ2 H2) :
    tSeq (tAsg (tLc (LZ.iEnumT K ta) (gTup K 2 (gCons (gName 5) (gCons (gName 4) gNil))) tYes te [4, 5]) g) u D σ H := by
  unfold tSeq tAsg
  exact lcEn ht ha hl hw hv q
section
variable {P : Program} {w : World} {K : PySem.W.Frag} {mg : Str → Option Value} {base : Heap}
def spNamesInS (K : PySem.W.Frag) : Sp := fun vs H Q _ => ∃ (a : Addr) (xs : List V) (zs : List Str), vs = [.ref a] ∧ SqT K H a xs ∧ Fst K H xs zs ∧ zs.length ≤ 800 ∧ ∀ H' p, Same H H' → H' p = some (.tup (zs.map V.str)) → Q (.ref p) H'
theorem ok_namesinS {f : Addr} {fd : FuncData} (F : Fun K "names_in" "names_in" sNamesIn f fd) (B : Blt mg) : FnOk P w K mg base CX0 1 f fd ["parts"] (spNamesInS K) := by
  refine F.ok scNamesIn (fun vs H Q E h => ?_) (fun cdv A outer s H vs Q E hr h => ?_)
  · obtain ⟨a, xs, zs, rfl, _⟩ := h
    rfl
  · obtain ⟨a, xs, zs, rfl, ha, hz, hl, k⟩ := h
    refine ⟨_, pss_one (ps_ret (pe_callTy call_tuple_of (by rfl) B.tuple (by decide +kernel) (pa_cons (pe_lc (own := [("part", 1)]) (g := gName 1) (tt := tYes) rfl scNamesIn.nd (pi_tup (pv 0)) (blkOk_by (N := ["parts", "part"]) (sc := defScope sNamesIn) (by decide +kernel)) (fun _ _ _ _ _ => pg_name (i := 1) scNamesIn.nd rfl (Or.inl rfl)) (fun _ _ _ _ _ => pts_nil) (fun _ _ _ _ _ => pe_ix (r := rIxT K) ix_tup (pv 1) pe_int (fun _ _ => rfl))) pa_nil))), ?_⟩
    refine ⟨_, rfl, a, rfl, ⟨_, ha⟩, fun D hD => ?_⟩
    refine lc_tup (K := K) (a := a) (xs := xs) (fun n H' => Same H H' ∧ H' D = some (.lst ((zs.take n).map V.str))) ⟨same_new hD, upd_same⟩ (fun n H' _ p => sameT p.1 ha) ?_ ?_
    · rintro n x H' hn ⟨s', f'⟩
      obtain ⟨b, z, ys, rfl, h1, hz1⟩ := hz.2 n x hn
      have n8 := (List.getElem?_eq_some_iff.mp hz1).1
      refine ⟨rfl, _, rfl, b, _, 0, _, rfl, rfl, sameT s' h1, atI_nat (j := 0) rfl, _, f', ?_, fun c u hc => ?_, ?_⟩
      · rw [List.length_map]
        exact small1000 (Nat.le_trans (List.length_take_le _ _) (by omega))
      · rw [upd_ne (ne_of_none hc hD)]
        exact s' _ _ hc
      · rw [upd_same, List.take_add_one, hz1, List.map_append]
        rfl
    · rintro H' ⟨s', f'⟩
      rw [hz.1, List.take_of_length_le (Nat.le_refl _)] at f'
      exact ⟨D, _, rfl, .inl ⟨SqL.of f', fun p hp => k _ p (s'.trans (same_new hp)) upd_same⟩⟩
theorem scIsParser : FnScope ["headers", "value", "names", "leads", "state", "index"] ["headers", "value"] (defScope sIsParser) := ⟨rfl, rfl, rfl, by decide +kernel, rfl, by decide +kernel, by decide +kernel⟩
theorem ok_isparser {f f1 f2 f3 f4 f5 f6 : Addr} {fd d1 d2 d3 d4 d5 d6 : FuncData} (F : Fun K "is_parser" "is_parser" sIsParser f fd) (B : Blt mg) (C2 : Cst2 K mg) (henum : mg "enumerate" = none) (KR : Kn P w K mg base 1 "is_row" sIsRow ["value", "least", "most"] (spIsRow K) f1 d1) (KS : Kn P w K mg base 2 "is_state_begun" sStateBegun ["headers", "value"] (spStateBegun K) f2 d2) (KI : Kn P w K mg base 1 "names_in" sNamesIn ["parts"] (spNamesInS K) f3 d3) (KU : Kn P w K mg base 1 "are_unlike" sUnlike ["parts"] (spUnlike K) f4 d4)
    (KO : Kn P w K mg base 5 "is_onward" sIsOnward ["headers", "later", "value"] (spIsOnward K) f5 d5) (KT : Kn P w K mg base 3 "comes_twice" sTwice ["parser"] (spTwice K) f6 d6) : FnOk P w K mg base CX0 6 f fd ["headers", "value"] (spIsParser K) := by
  refine F.ok scIsParser (fun vs H Q E h => ?_) (fun cdv A outer s H vs Q E hr h => ?_)
  · obtain ⟨v, u, hs, ss, rfl, _⟩ := h
    rfl
  · obtain ⟨v, u, hs, ss, rfl, dv, hok, du, l1, l8, ok, k⟩ := h
    refine ⟨_, pss_cons (ps_if (PW.pt (pw_or (pt_not (pt_val (pe_call KR.G (hr.mono (by decide)) (by rfl) KR.g KR.F.kp KR.b .nil pass0 (pa_cons (pv 1) (pa_cons pe_int (pa_cons (pe_gc (by rfl) C2.ms) pa_nil)))))) (pw_or1 (pt_not (pt_val (pe_callB (cr_all rfl) (by rfl) B.all (by decide +kernel) (pa_cons (pe_lc (own := [("state", 4)]) (g := gName 4) (tt := tYes) rfl scIsParser.nd (pi_tup (pv 1)) (blkOk_by (N := ["headers", "value", "names", "leads", "state", "index"]) (sc := defScope sIsParser) (by decide +kernel)) (fun _ _ _ _ _ => pg_name (i := 4) scIsParser.nd rfl (Or.inl rfl)) (fun _ _ _ _ _ => pts_nil)
        (fun _ _ _ _ _ => pe_call KS.G (hr.mono (by decide)) (by rfl) KS.g KS.F.kp KS.b .nil pass0 (pa_cons (pv 0) (pa_cons (pv 4) pa_nil)))) pa_nil))))))) (pss_one (ps_ret pe_bl)) pss_nil)
      (pss_cons (ps_set (i := 2) scIsParser.nd rfl (by first | exact .inl rfl | exact .inr rfl) (pe_call KI.G (hr.mono (by decide)) (by rfl) KI.g KI.F.kp KI.b .nil pass0 (pa_cons (pv 1) pa_nil)))
      (pss_cons (ps_if (pt_not (pt_val (pe_call KU.G (hr.mono (by decide)) (by rfl) KU.g KU.F.kp KU.b .nil pass0 (pa_cons (pv 2) pa_nil)))) (pss_one (ps_ret pe_bl)) pss_nil)
      (pss_cons (ps_setLc (i := 3) (own := [("state", 4), ("index", 5)]) (g := gTup K 2 (gCons (gName 5) (gCons (gName 4) gNil))) (tt := tYes) rfl scIsParser.nd rfl rfl (sw_true rfl rfl rfl rfl) (LZ.pi_enumT (by rfl) henum (pa_cons (pv 1) pa_nil)) (blkOk_by (N := ["headers", "value", "names", "leads", "state", "index"]) (sc := defScope sIsParser) (by decide +kernel))
        (fun _ _ _ _ _ => pg_tup rfl (pgs_cons (pg_name (i := 5) scIsParser.nd rfl (.inl rfl)) (pgs_cons (pg_name (i := 4) scIsParser.nd rfl (.inl rfl)) pgs_nil))) (fun _ _ _ _ _ => pts_nil)
        (fun _ _ _ _ _ => pe_call KO.G hr (by rfl) KO.g KO.F.kp KO.b .nil pass0 (pa_cons (pv 0) (pa_cons (pe_slice (r := rSlA K) sl_tupA (pv 2) (po_some (pe_op op_add (pv 5) pe_int)) po_none) (pa_cons (pe_ix (r := rIxT K) ix_tup (pv 4) pe_int (fun _ _ => rfl)) pa_nil)))))
      (pss_one (ps_ret (pe_and (pe_callB (cr_all rfl) (by rfl) B.all (by decide +kernel) (pa_cons (pv 3) pa_nil)) (pe_one (pe_not (pe_call KT.G (hr.mono (by decide)) (by rfl) KT.g KT.F.kp KT.b .nil pass0 (pa_cons (pv 1) pa_nil)))))))))), ?_⟩
    obtain ⟨a, xs, rfl, ha, hd⟩ := dp_tup du
    have dl := dpAll_len hd
    rw [List.length_map] at dl
    refine ⟨_, rfl, a, xs, 1, 8, rfl, ha, by omega, by omega, true, rfl, iteF ?_⟩
    refine allTup (fun R r => ⟨_, rfl, r⟩) ha (by omega) (fun _ => rfl) (fun i x H' R hx s' r => ?_) fun H1 s1 => ?_
    · obtain ⟨d, hd1, hd2⟩ := dpAll_at hd hx
      rw [List.getElem?_map] at hd1
      obtain ⟨t, ht, rfl⟩ := Option.map_eq_some_iff.mp hd1
      have hlt := (List.getElem?_eq_some_iff.mp ht).1
      have so : StsOk hs (t :: ss.drop (i + 1)) := sts_suffix (p := ss.take i) (by
        rw [← (List.getElem?_eq_some_iff.mp ht).2, ← List.drop_eq_getElem_cons hlt, List.take_append_drop]
        exact ok)
      exact ⟨_, rfl, _, rfl, v, x, hs, t, rfl, dpSame s' dv, hok.len, dpSame s' hd2, so.2.nm, so.2.hd, r⟩
    refine ⟨true, rfl, iteF ?_⟩
    unfold tNext
    dsimp only
    refine ⟨_, rfl, a, xs, ss.map (·.nm), rfl, sameT s1 ha, fst_s (dpSameAll s1 hd), by rw [List.length_map]; omega, fun H2 p s2 f2 => ?_⟩
    refine ⟨_, rfl, p, _, rfl, SqT.of f2, sts_nodup ok, by rw [List.length_map]; omega, true, rfl, iteF ?_⟩
    dsimp only
    have s12 := s1.trans s2
    refine asgEn (K := K) (a := a) (xs := xs) (fun R r => ⟨_, rfl, r⟩) (sameT s12 ha) (by omega) (fun _ _ => rfl) (fun i x H3 R hx s3 r => ?_) fun D H3 s3 f3 => ?_
    · obtain ⟨d, hd1, hd2⟩ := dpAll_at hd hx
      rw [List.getElem?_map] at hd1
      obtain ⟨t, ht, rfl⟩ := Option.map_eq_some_iff.mp hd1
      have hlt := (List.getElem?_eq_some_iff.mp ht).1
      have so : StsOk hs (t :: ss.drop (i + 1)) := sts_suffix (p := ss.take i) (by
        rw [← (List.getElem?_eq_some_iff.mp ht).2, ← List.drop_eq_getElem_cons hlt, List.take_append_drop]
        exact ok)
      have s13 := s12.trans s3
      obtain ⟨ta, nv, rfl, hta, dnv⟩ := dp_sta (dpSame s13 hd2)
      refine ⟨_, rfl, _, rfl, ?_⟩
      refine ⟨_, rfl, _, _, rfl, rfl, (i : Int) + 1, rfl, ?_⟩
      dsimp only [tNoPart]
      have il : i + 1 ≤ ((ss.map (·.nm)).map V.str).length := by rw [List.length_map, List.length_map]; omega
      refine slA (sameT s3 (SqT.of f2)) (fun p8 H8 s8 h8 => ?_)
      rw [show ((i : Int) + 1) = ((i + 1 : Nat) : Int) from rfl, cut_fromN (a := i + 1) _ il, ← List.map_drop, ← List.map_drop] at h8
      refine ⟨_, rfl, ta, _, 2, _, rfl, rfl, sameT s8 hta, atI_nat (j := 2) rfl, ?_⟩
      exact ⟨v, p8, nv, hs, (ss.drop (i + 1)).map (·.nm), t.nx, rfl, dpSame (s13.trans s8) dv, hok, h8, by rw [List.length_map, List.length_drop]; omega, dpSame s8 dnv, so.2.nx, fun H9 s9 => r H9 (s8.trans s9)⟩
    · have e : (List.replicate xs.length true).all id = true := by simp
      refine ⟨_, rfl, D, _, rfl, SqL.of f3, ?_⟩
      rw [e]
      have s13 := s12.trans s3
      exact ⟨true, rfl, iteT ⟨_, rfl, .ref a, hs, ss, rfl, hok, dpSame s13 du, l8, ok, fun H4 s4 => ⟨false, rfl, k H4 (s13.trans s4)⟩⟩⟩
end
end LJ

namespace LJ
open PySem PySem.Spec PyProof.Rows L2 GuL HG Bt
section
variable {K : PySem.W.Frag} {mg : Str → Option Value}
theorem ga_eq {x : Str} {C : Addr} (a : PySem.W.nsIn K mainGlobals x = some (some (.ref C))) : He.ga K x = C := by
  unfold He.ga
  rw [a]
def txtOf : Value → Option Str
  | .str z _ => some z
  | _ => none
/-- a tuple of just these texts stands at a -/
def tupB (K : PySem.W.Frag) (a : Addr) (zs : List Str) : Bool := match K.lookup a with
  | some o => (o.cls == Value.type "tuple") && (match o.data with
    | .seq its _ => decide (its.size ≤ 1000) && (its.toList.map txtOf == zs.map some)
    | _ => false)
  | none => false
theorem txts_vals : ∀ {vs : List Value} {zs : List Str}, vs.map txtOf = zs.map some → Vals (zs.map V.str) vs
  | [], [], _ => .nil
  | [], _ :: _, h => by cases h
  | _ :: _, [], h => by cases h
  | v :: vs, z :: zs, h => by
    rw [List.map_cons, List.map_cons] at h
    obtain ⟨h1, h2⟩ := List.cons.inj h
    refine .cons ?_ (txts_vals h2)
    cases v with
    | str y t =>
      cases h1
      exact ⟨t, rfl⟩
    | _ => cases h1
theorem tup_of {a : Addr} {zs : List Str} (h : tupB K a zs = true) (H : Hp) : SqT K H a (zs.map V.str) := by
  unfold tupB at h
  cases e : K.lookup a with
  | none =>
    rw [e] at h
    cases h
  | some o =>
    rw [e] at h
    obtain ⟨h1, h2⟩ := Bool.and_eq_true_iff.mp h
    cases e2 : o.data with
    | seq its m =>
      rw [e2] at h2
      obtain ⟨h3, h4⟩ := Bool.and_eq_true_iff.mp h2
      exact .inr ⟨o, its, m, e, eq_of_beq h1, e2, Nat.le_trans (of_decide_eq_true h3) (by decide), txts_vals (eq_of_beq h4)⟩
    | _ =>
      rw [e2] at h2
      cases h2
theorem all_mk {l : PySem.W.OpenLaw} {w : World} {h : Heap} {fa kw kes kli f0 f1 f2 f3 f4 f5 f6 f7 f8 f9 f10 f11 f12 f13 f14 f15 f16 f17 f18 f19 f20 f21 f22 f23 f24 f25 f26 f27 f28 f29 f30 f31 f32 f33 f34 f35 f36 f37 f38 f39 f40 f41 f42 f43 f44 f45 f46 f47 f48 f49 f50 f51 f52 f53 f54 f55 f56 f57 f58 f59 f60 f61 f62 f63 f64 f65 f66 f67 f68 : Addr} (X : K.In h) (G : h.Ns mainGlobals mg) (hfa : mg "law" = some (.ref fa))
    {od0 an0 od1 an1 od2 an2 od3 an3 od4 an4 od5 an5 od6 an6 od7 an7 od8 an8 od9 an9 od10 an10 od11 an11 od12 an12 od13 an13 od14 an14 od15 an15 od16 an16 od17 an17 od18 an18 od19 an19 od20 an20 od21 an21 od22 an22 od23 an23 od24 an24 od25 an25 od26 an26 od27 an27 od28 an28 od29 an29 od30 an30 od31 an31 od32 an32 od33 an33 od34 an34 od35 an35 od36 an36 od37 an37 od38 an38 od39 an39 od40 an40 od41 an41 od42 an42 od43 an43 od44 an44 od45 an45 od46 an46 od47 an47 od48 an48 od49 an49 od50 an50 od51 an51 od52 an52 od53 an53 od54 an54 od55 an55 od56 an56 od57 an57 od58 an58 od59 an59 od60 an60 od61 an61 od62 an62 od63 an63 od64 an64 od65 an65 od66 an66 od67 an67 od68 an68 : Option Addr} {sl0 sl1 sl2 sl3 sl4 sl5 sl6 sl7 sl8 sl9 sl10 sl11 sl12 sl13 sl14 sl15 sl16 sl17 sl18 sl19 sl20 sl21 sl22 sl23 sl24 sl25 sl26 sl27 sl28 sl29 sl30 sl31 sl32 sl33 sl34 sl35 sl36 sl37 sl38 sl39 sl40 sl41 sl42 sl43 sl44 sl45 sl46 sl47 sl48 sl49 sl50 sl51 sl52 sl53 sl54 sl55 sl56 sl57 sl58 sl59 sl60 sl61 sl62 sl63 sl64 sl65 sl66 sl67 sl68 : Array (Option Value)} {oc0 kV0 dc0 pm0 cd0 ct0 oc1 kV1 dc1 pm1 cd1 ct1 oc2 kV2 dc2 pm2 cd2 ct2 oc3 kV3 dc3 pm3 cd3 ct3 oc4 kV4 dc4 pm4 cd4 ct4 oc5 kV5 dc5 pm5 cd5 ct5 oc6 kV6 dc6 pm6 cd6 ct6 oc7 kV7 dc7 pm7 cd7 ct7 oc8 kV8 dc8 pm8 cd8 ct8 oc9 kV9 dc9 pm9 cd9 ct9 oc10 kV10 dc10 pm10 cd10 ct10 oc11 kV11 dc11 pm11 cd11 ct11 oc12 kV12 dc12 pm12 cd12 ct12 oc13 kV13 dc13 pm13 cd13 ct13 oc14 kV14 dc14 pm14 cd14 ct14 oc15 kV15 dc15 pm15 cd15 ct15 oc16 kV16 dc16 pm16 cd16 ct16 oc17 kV17 dc17 pm17 cd17 ct17 oc18 kV18 dc18 pm18 cd18 ct18 oc19 kV19 dc19 pm19 cd19 ct19 oc20 kV20 dc20 pm20 cd20 ct20 oc21 kV21 dc21 pm21 cd21 ct21 oc22 kV22 dc22 pm22 cd22 ct22 oc23 kV23 dc23 pm23 cd23 ct23 oc24 kV24 dc24 pm24 cd24 ct24 oc25 kV25 dc25 pm25 cd25 ct25 oc26 kV26 dc26 pm26 cd26 ct26 oc27 kV27 dc27 pm27 cd27 ct27 oc28 kV28 dc28 pm28 cd28 ct28 oc29 kV29 dc29 pm29 cd29 ct29 oc30 kV30 dc30 pm30 cd30 ct30 oc31 kV31 dc31 pm31 cd31 ct31 oc32 kV32 dc32 pm32 cd32 ct32 oc33 kV33 dc33 pm33 cd33 ct33 oc34 kV34 dc34 pm34 cd34 ct34 oc35 kV35 dc35 pm35 cd35 ct35 oc36 kV36 dc36 pm36 cd36 ct36 oc37 kV37 dc37 pm37 cd37 ct37 oc38 kV38 dc38 pm38 cd38 ct38 oc39 kV39 dc39 pm39 cd39 ct39 oc40 kV40 dc40 pm40 cd40 ct40 oc41 kV41 dc41 pm41 cd41 ct41 oc42 kV42 dc42 pm42 cd42 ct42 oc43 kV43 dc43 pm43 cd43 ct43 oc44 kV44 dc44 pm44 cd44 ct44 oc45 kV45 dc45 pm45 cd45 ct45 oc46 kV46 dc46 pm46 cd46 ct46 oc47 kV47 dc47 pm47 cd47 ct47 oc48 kV48 dc48 pm48 cd48 ct48 oc49 kV49 dc49 pm49 cd49 ct49 oc50 kV50 dc50 pm50 cd50 ct50 oc51 kV51 dc51 pm51 cd51 ct51 oc52 kV52 dc52 pm52 cd52 ct52 oc53 kV53 dc53 pm53 cd53 ct53 oc54 kV54 dc54 pm54 cd54 ct54 oc55 kV55 dc55 pm55 cd55 ct55 oc56 kV56 dc56 pm56 cd56 ct56 oc57 kV57 dc57 pm57 cd57 ct57 oc58 kV58 dc58 pm58 cd58 ct58 oc59 kV59 dc59 pm59 cd59 ct59 oc60 kV60 dc60 pm60 cd60 ct60 oc61 kV61 dc61 pm61 cd61 ct61 oc62 kV62 dc62 pm62 cd62 ct62 oc63 kV63 dc63 pm63 cd63 ct63 oc64 kV64 dc64 pm64 cd64 ct64 oc65 kV65 dc65 pm65 cd65 ct65 oc66 kV66 dc66 pm66 cd66 ct66 oc67 kV67 dc67 pm67 cd67 ct67 oc68 kV68 dc68 pm68 cd68 ct68 : Value} {t_mh t_mf t_mw t_mb t_mby t_ms t_mc t_lt t_ns : Tok} {ekw : Array DictEntry} {nkw : Nat}
    (a0 : PySem.W.nsIn K mainGlobals "_law_jar" = some (some (.ref f0))) (l0 : K.lookup f0 = some ⟨oc0, od0, .func (PySem.W.fnOf "_law_jar" "_law_jar" (defArgs sJar) (defBody sJar) (defScope sJar) .none kV0 dc0 pm0 an0 cd0 ct0), sl0⟩) (c0 : PySem.W.codeIn K cd0 "_law_jar" = true) (k0 : PySem.W.keepIn K (.ref f0) = true)
    (a1 : PySem.W.nsIn K mainGlobals "_law_dip" = some (some (.ref f1))) (l1 : K.lookup f1 = some ⟨oc1, od1, .func (PySem.W.fnOf "_law_dip" "_law_dip" (defArgs sDip) (defBody sDip) (defScope sDip) .none kV1 dc1 pm1 an1 cd1 ct1), sl1⟩) (c1 : PySem.W.codeIn K cd1 "_law_dip" = true) (k1 : PySem.W.keepIn K (.ref f1) = true)
    (a2 : PySem.W.nsIn K mainGlobals "_law_one_of" = some (some (.ref f2))) (l2 : K.lookup f2 = some ⟨oc2, od2, .func (PySem.W.fnOf "_law_one_of" "_law_one_of" (defArgs sOne) (defBody sOne) (defScope sOne) .none kV2 dc2 pm2 an2 cd2 ct2), sl2⟩) (c2 : PySem.W.codeIn K cd2 "_law_one_of" = true) (k2 : PySem.W.keepIn K (.ref f2) = true)
    (a3 : PySem.W.nsIn K mainGlobals "_law_kept" = some (some (.ref f3))) (l3 : K.lookup f3 = some ⟨oc3, od3, .func (PySem.W.fnOf "_law_kept" "_law_kept" (defArgs sKept) (defBody sKept) (defScope sKept) .none kV3 dc3 pm3 an3 cd3 ct3), sl3⟩) (c3 : PySem.W.codeIn K cd3 "_law_kept" = true) (k3 : PySem.W.keepIn K (.ref f3) = true)
    (a4 : PySem.W.nsIn K mainGlobals "_law_name" = some (some (.ref f4))) (l4 : K.lookup f4 = some ⟨oc4, od4, .func (PySem.W.fnOf "_law_name" "_law_name" (defArgs sName) (defBody sName) (defScope sName) .none kV4 dc4 pm4 an4 cd4 ct4), sl4⟩) (c4 : PySem.W.codeIn K cd4 "_law_name" = true) (k4 : PySem.W.keepIn K (.ref f4) = true)
    (a5 : PySem.W.nsIn K mainGlobals "_law_word" = some (some (.ref f5))) (l5 : K.lookup f5 = some ⟨oc5, od5, .func (PySem.W.fnOf "_law_word" "_law_word" (defArgs sWord) (defBody sWord) (defScope sWord) .none kV5 dc5 pm5 an5 cd5 ct5), sl5⟩) (c5 : PySem.W.codeIn K cd5 "_law_word" = true) (k5 : PySem.W.keepIn K (.ref f5) = true)
    (a6 : PySem.W.nsIn K mainGlobals "_law_fields" = some (some (.ref f6))) (l6 : K.lookup f6 = some ⟨oc6, od6, .func (PySem.W.fnOf "_law_fields" "_law_fields" (defArgs sFields) (defBody sFields) (defScope sFields) .none kV6 dc6 pm6 an6 cd6 ct6), sl6⟩) (c6 : PySem.W.codeIn K cd6 "_law_fields" = true) (k6 : PySem.W.keepIn K (.ref f6) = true)
    (a7 : PySem.W.nsIn K mainGlobals "_law_headers" = some (some (.ref f7))) (l7 : K.lookup f7 = some ⟨oc7, od7, .func (PySem.W.fnOf "_law_headers" "_law_headers" (defArgs sHeaders) (defBody sHeaders) (defScope sHeaders) .none kV7 dc7 pm7 an7 cd7 ct7), sl7⟩) (c7 : PySem.W.codeIn K cd7 "_law_headers" = true) (k7 : PySem.W.keepIn K (.ref f7) = true)
    (a8 : PySem.W.nsIn K mainGlobals "_law_read" = some (some (.ref f8))) (l8 : K.lookup f8 = some ⟨oc8, od8, .func (PySem.W.fnOf "_law_read" "_law_read" (defArgs sRead) (defBody sRead) (defScope sRead) .none kV8 dc8 pm8 an8 cd8 ct8), sl8⟩) (c8 : PySem.W.codeIn K cd8 "_law_read" = true) (k8 : PySem.W.keepIn K (.ref f8) = true)
    (a9 : PySem.W.nsIn K mainGlobals "_law_written" = some (some (.ref f9))) (l9 : K.lookup f9 = some ⟨oc9, od9, .func (PySem.W.fnOf "_law_written" "_law_written" (defArgs sWritten) (defBody sWritten) (defScope sWritten) .none kV9 dc9 pm9 an9 cd9 ct9), sl9⟩) (c9 : PySem.W.codeIn K cd9 "_law_written" = true) (k9 : PySem.W.keepIn K (.ref f9) = true)
    (a10 : PySem.W.nsIn K mainGlobals "_law_size" = some (some (.ref f10))) (l10 : K.lookup f10 = some ⟨oc10, od10, .func (PySem.W.fnOf "_law_size" "_law_size" (defArgs sSize) (defBody sSize) (defScope sSize) .none kV10 dc10 pm10 an10 cd10 ct10), sl10⟩) (c10 : PySem.W.codeIn K cd10 "_law_size" = true) (k10 : PySem.W.keepIn K (.ref f10) = true)
    (a11 : PySem.W.nsIn K mainGlobals "_law_bytes" = some (some (.ref f11))) (l11 : K.lookup f11 = some ⟨oc11, od11, .func (PySem.W.fnOf "_law_bytes" "_law_bytes" (defArgs sBytes) (defBody sBytes) (defScope sBytes) .none kV11 dc11 pm11 an11 cd11 ct11), sl11⟩) (c11 : PySem.W.codeIn K cd11 "_law_bytes" = true) (k11 : PySem.W.keepIn K (.ref f11) = true)
    (a12 : PySem.W.nsIn K mainGlobals "_law_words" = some (some (.ref f12))) (l12 : K.lookup f12 = some ⟨oc12, od12, .func (PySem.W.fnOf "_law_words" "_law_words" (defArgs sWords) (defBody sWords) (defScope sWords) .none kV12 dc12 pm12 an12 cd12 ct12), sl12⟩) (c12 : PySem.W.codeIn K cd12 "_law_words" = true) (k12 : PySem.W.keepIn K (.ref f12) = true)
    (a13 : PySem.W.nsIn K mainGlobals "_law_fields_of" = some (some (.ref f13))) (l13 : K.lookup f13 = some ⟨oc13, od13, .func (PySem.W.fnOf "_law_fields_of" "_law_fields_of" (defArgs sFieldsOf) (defBody sFieldsOf) (defScope sFieldsOf) .none kV13 dc13 pm13 an13 cd13 ct13), sl13⟩) (c13 : PySem.W.codeIn K cd13 "_law_fields_of" = true) (k13 : PySem.W.keepIn K (.ref f13) = true)
    (a14 : PySem.W.nsIn K mainGlobals "_law_width" = some (some (.ref f14))) (l14 : K.lookup f14 = some ⟨oc14, od14, .func (PySem.W.fnOf "_law_width" "_law_width" (defArgs sWidth) (defBody sWidth) (defScope sWidth) .none kV14 dc14 pm14 an14 cd14 ct14), sl14⟩) (c14 : PySem.W.codeIn K cd14 "_law_width" = true) (k14 : PySem.W.keepIn K (.ref f14) = true)
    (a15 : PySem.W.nsIn K mainGlobals "_law_place" = some (some (.ref f15))) (l15 : K.lookup f15 = some ⟨oc15, od15, .func (PySem.W.fnOf "_law_place" "_law_place" (defArgs sPlace) (defBody sPlace) (defScope sPlace) .none kV15 dc15 pm15 an15 cd15 ct15), sl15⟩) (c15 : PySem.W.codeIn K cd15 "_law_place" = true) (k15 : PySem.W.keepIn K (.ref f15) = true)
    (a16 : PySem.W.nsIn K mainGlobals "_law_cases" = some (some (.ref f16))) (l16 : K.lookup f16 = some ⟨oc16, od16, .func (PySem.W.fnOf "_law_cases" "_law_cases" (defArgs sCases) (defBody sCases) (defScope sCases) .none kV16 dc16 pm16 an16 cd16 ct16), sl16⟩) (c16 : PySem.W.codeIn K cd16 "_law_cases" = true) (k16 : PySem.W.keepIn K (.ref f16) = true)
    (a17 : PySem.W.nsIn K mainGlobals "_law_next" = some (some (.ref f17))) (l17 : K.lookup f17 = some ⟨oc17, od17, .func (PySem.W.fnOf "_law_next" "_law_next" (defArgs sNext) (defBody sNext) (defScope sNext) .none kV17 dc17 pm17 an17 cd17 ct17), sl17⟩) (c17 : PySem.W.codeIn K cd17 "_law_next" = true) (k17 : PySem.W.keepIn K (.ref f17) = true)
    (a18 : PySem.W.nsIn K mainGlobals "_law_states" = some (some (.ref f18))) (l18 : K.lookup f18 = some ⟨oc18, od18, .func (PySem.W.fnOf "_law_states" "_law_states" (defArgs sStates) (defBody sStates) (defScope sStates) .none kV18 dc18 pm18 an18 cd18 ct18), sl18⟩) (c18 : PySem.W.codeIn K cd18 "_law_states" = true) (k18 : PySem.W.keepIn K (.ref f18) = true)
    (a19 : PySem.W.nsIn K mainGlobals "_law_turned" = some (some (.ref f19))) (l19 : K.lookup f19 = some ⟨oc19, od19, .func (PySem.W.fnOf "_law_turned" "_law_turned" (defArgs sTurned) (defBody sTurned) (defScope sTurned) .none kV19 dc19 pm19 an19 cd19 ct19), sl19⟩) (c19 : PySem.W.codeIn K cd19 "_law_turned" = true) (k19 : PySem.W.keepIn K (.ref f19) = true)
    (a20 : PySem.W.nsIn K mainGlobals "_law_frame" = some (some (.ref f20))) (l20 : K.lookup f20 = some ⟨oc20, od20, .func (PySem.W.fnOf "_law_frame" "_law_frame" (defArgs sFrame) (defBody sFrame) (defScope sFrame) .none kV20 dc20 pm20 an20 cd20 ct20), sl20⟩) (c20 : PySem.W.codeIn K cd20 "_law_frame" = true) (k20 : PySem.W.keepIn K (.ref f20) = true)
    (a21 : PySem.W.nsIn K mainGlobals "_law_leads" = some (some (.ref f21))) (l21 : K.lookup f21 = some ⟨oc21, od21, .func (PySem.W.fnOf "_law_leads" "_law_leads" (defArgs sLeads) (defBody sLeads) (defScope sLeads) .none kV21 dc21 pm21 an21 cd21 ct21), sl21⟩) (c21 : PySem.W.codeIn K cd21 "_law_leads" = true) (k21 : PySem.W.keepIn K (.ref f21) = true)
    (a22 : PySem.W.nsIn K mainGlobals "_law_index" = some (some (.ref f22))) (l22 : K.lookup f22 = some ⟨oc22, od22, .func (PySem.W.fnOf "_law_index" "_law_index" (defArgs sIndex) (defBody sIndex) (defScope sIndex) .none kV22 dc22 pm22 an22 cd22 ct22), sl22⟩) (c22 : PySem.W.codeIn K cd22 "_law_index" = true) (k22 : PySem.W.keepIn K (.ref f22) = true)
    (a23 : PySem.W.nsIn K mainGlobals "_law_asked" = some (some (.ref f23))) (l23 : K.lookup f23 = some ⟨oc23, od23, .func (PySem.W.fnOf "_law_asked" "_law_asked" (defArgs sAsked) (defBody sAsked) (defScope sAsked) .none kV23 dc23 pm23 an23 cd23 ct23), sl23⟩) (c23 : PySem.W.codeIn K cd23 "_law_asked" = true) (k23 : PySem.W.keepIn K (.ref f23) = true)
    (a24 : PySem.W.nsIn K mainGlobals "_law_going" = some (some (.ref f24))) (l24 : K.lookup f24 = some ⟨oc24, od24, .func (PySem.W.fnOf "_law_going" "_law_going" (defArgs sGoing) (defBody sGoing) (defScope sGoing) .none kV24 dc24 pm24 an24 cd24 ct24), sl24⟩) (c24 : PySem.W.codeIn K cd24 "_law_going" = true) (k24 : PySem.W.keepIn K (.ref f24) = true)
    (a25 : PySem.W.nsIn K mainGlobals "_law_parsed" = some (some (.ref f25))) (l25 : K.lookup f25 = some ⟨oc25, od25, .func (PySem.W.fnOf "_law_parsed" "_law_parsed" (defArgs sParsed) (defBody sParsed) (defScope sParsed) .none kV25 dc25 pm25 an25 cd25 ct25), sl25⟩) (c25 : PySem.W.codeIn K cd25 "_law_parsed" = true) (k25 : PySem.W.keepIn K (.ref f25) = true)
    (a26 : PySem.W.nsIn K mainGlobals "_law_hit" = some (some (.ref f26))) (l26 : K.lookup f26 = some ⟨oc26, od26, .func (PySem.W.fnOf "_law_hit" "_law_hit" (defArgs sHit) (defBody sHit) (defScope sHit) .none kV26 dc26 pm26 an26 cd26 ct26), sl26⟩) (c26 : PySem.W.codeIn K cd26 "_law_hit" = true) (k26 : PySem.W.keepIn K (.ref f26) = true)
    (a27 : PySem.W.nsIn K mainGlobals "_law_packet_for" = some (some (.ref f27))) (l27 : K.lookup f27 = some ⟨oc27, od27, .func (PySem.W.fnOf "_law_packet_for" "_law_packet_for" (defArgs sPF) (defBody sPF) (defScope sPF) .none kV27 dc27 pm27 an27 cd27 ct27), sl27⟩) (c27 : PySem.W.codeIn K cd27 "_law_packet_for" = true) (k27 : PySem.W.keepIn K (.ref f27) = true)
    (a28 : PySem.W.nsIn K mainGlobals "_law_meets" = some (some (.ref f28))) (l28 : K.lookup f28 = some ⟨oc28, od28, .func (PySem.W.fnOf "_law_meets" "_law_meets" (defArgs sMeets) (defBody sMeets) (defScope sMeets) .none kV28 dc28 pm28 an28 cd28 ct28), sl28⟩) (c28 : PySem.W.codeIn K cd28 "_law_meets" = true) (k28 : PySem.W.keepIn K (.ref f28) = true)
    (a29 : PySem.W.nsIn K mainGlobals "way_of" = some (some (.ref f29))) (l29 : K.lookup f29 = some ⟨oc29, od29, .func (PySem.W.fnOf "way_of" "way_of" (defArgs sWayOf) (defBody sWayOf) (defScope sWayOf) .none kV29 dc29 pm29 an29 cd29 ct29), sl29⟩) (c29 : PySem.W.codeIn K cd29 "way_of" = true) (k29 : PySem.W.keepIn K (.ref f29) = true)
    (a30 : PySem.W.nsIn K mainGlobals "parse" = some (some (.ref f30))) (l30 : K.lookup f30 = some ⟨oc30, od30, .func (PySem.W.fnOf "parse" "parse" (defArgs sParse) (defBody sParse) (defScope sParse) .none kV30 dc30 pm30 an30 cd30 ct30), sl30⟩) (c30 : PySem.W.codeIn K cd30 "parse" = true) (k30 : PySem.W.keepIn K (.ref f30) = true)
    (a31 : PySem.W.nsIn K mainGlobals "_law_unread" = some (some (.ref f31))) (l31 : K.lookup f31 = some ⟨oc31, od31, .func (PySem.W.fnOf "_law_unread" "_law_unread" (defArgs sUnread) (defBody sUnread) (defScope sUnread) .none kV31 dc31 pm31 an31 cd31 ct31), sl31⟩) (c31 : PySem.W.codeIn K cd31 "_law_unread" = true) (k31 : PySem.W.keepIn K (.ref f31) = true)
    (a32 : PySem.W.nsIn K mainGlobals "_law_right" = some (some (.ref f32))) (l32 : K.lookup f32 = some ⟨oc32, od32, .func (PySem.W.fnOf "_law_right" "_law_right" (defArgs sRight) (defBody sRight) (defScope sRight) .none kV32 dc32 pm32 an32 cd32 ct32), sl32⟩) (c32 : PySem.W.codeIn K cd32 "_law_right" = true) (k32 : PySem.W.keepIn K (.ref f32) = true)
    (a33 : PySem.W.nsIn K mainGlobals "law" = some (some (.ref f33))) (l33 : K.lookup f33 = some ⟨oc33, od33, .func (PySem.W.fnOf "law" "law" (defArgs sLaw) (defBody sLaw) (defScope sLaw) .none kV33 dc33 pm33 an33 cd33 ct33), sl33⟩) (c33 : PySem.W.codeIn K cd33 "law" = true) (k33 : PySem.W.keepIn K (.ref f33) = true)
    (a34 : PySem.W.nsIn K mainGlobals "is_number" = some (some (.ref f34))) (l34 : K.lookup f34 = some ⟨oc34, od34, .func (PySem.W.fnOf "is_number" "is_number" (defArgs sNumber) (defBody sNumber) (defScope sNumber) .none kV34 dc34 pm34 an34 cd34 ct34), sl34⟩) (c34 : PySem.W.codeIn K cd34 "is_number" = true) (k34 : PySem.W.keepIn K (.ref f34) = true)
    (a35 : PySem.W.nsIn K mainGlobals "is_word" = some (some (.ref f35))) (l35 : K.lookup f35 = some ⟨oc35, od35, .func (PySem.W.fnOf "is_word" "is_word" (defArgs sIsWord) (defBody sIsWord) (defScope sIsWord) .none kV35 dc35 pm35 an35 cd35 ct35), sl35⟩) (c35 : PySem.W.codeIn K cd35 "is_word" = true) (k35 : PySem.W.keepIn K (.ref f35) = true)
    (a36 : PySem.W.nsIn K mainGlobals "is_row" = some (some (.ref f36))) (l36 : K.lookup f36 = some ⟨oc36, od36, .func (PySem.W.fnOf "is_row" "is_row" (defArgs sIsRow) (defBody sIsRow) (defScope sIsRow) .none kV36 dc36 pm36 an36 cd36 ct36), sl36⟩) (c36 : PySem.W.codeIn K cd36 "is_row" = true) (k36 : PySem.W.keepIn K (.ref f36) = true)
    (a37 : PySem.W.nsIn K mainGlobals "are_bytes" = some (some (.ref f37))) (l37 : K.lookup f37 = some ⟨oc37, od37, .func (PySem.W.fnOf "are_bytes" "are_bytes" (defArgs sAreBytes) (defBody sAreBytes) (defScope sAreBytes) .none kV37 dc37 pm37 an37 cd37 ct37), sl37⟩) (c37 : PySem.W.codeIn K cd37 "are_bytes" = true) (k37 : PySem.W.keepIn K (.ref f37) = true)
    (a38 : PySem.W.nsIn K mainGlobals "is_name" = some (some (.ref f38))) (l38 : K.lookup f38 = some ⟨oc38, od38, .func (PySem.W.fnOf "is_name" "is_name" (defArgs sIsName) (defBody sIsName) (defScope sIsName) .none kV38 dc38 pm38 an38 cd38 ct38), sl38⟩) (c38 : PySem.W.codeIn K cd38 "is_name" = true) (k38 : PySem.W.keepIn K (.ref f38) = true)
    (a39 : PySem.W.nsIn K mainGlobals "are_unlike" = some (some (.ref f39))) (l39 : K.lookup f39 = some ⟨oc39, od39, .func (PySem.W.fnOf "are_unlike" "are_unlike" (defArgs sUnlike) (defBody sUnlike) (defScope sUnlike) .none kV39 dc39 pm39 an39 cd39 ct39), sl39⟩) (c39 : PySem.W.codeIn K cd39 "are_unlike" = true) (k39 : PySem.W.keepIn K (.ref f39) = true)
    (a40 : PySem.W.nsIn K mainGlobals "names_in" = some (some (.ref f40))) (l40 : K.lookup f40 = some ⟨oc40, od40, .func (PySem.W.fnOf "names_in" "names_in" (defArgs sNamesIn) (defBody sNamesIn) (defScope sNamesIn) .none kV40 dc40 pm40 an40 cd40 ct40), sl40⟩) (c40 : PySem.W.codeIn K cd40 "names_in" = true) (k40 : PySem.W.keepIn K (.ref f40) = true)
    (a41 : PySem.W.nsIn K mainGlobals "are_sized" = some (some (.ref f41))) (l41 : K.lookup f41 = some ⟨oc41, od41, .func (PySem.W.fnOf "are_sized" "are_sized" (defArgs sSized) (defBody sSized) (defScope sSized) .none kV41 dc41 pm41 an41 cd41 ct41), sl41⟩) (c41 : PySem.W.codeIn K cd41 "are_sized" = true) (k41 : PySem.W.keepIn K (.ref f41) = true)
    (a42 : PySem.W.nsIn K mainGlobals "are_header_fields" = some (some (.ref f42))) (l42 : K.lookup f42 = some ⟨oc42, od42, .func (PySem.W.fnOf "are_header_fields" "are_header_fields" (defArgs sHeaderFields) (defBody sHeaderFields) (defScope sHeaderFields) .none kV42 dc42 pm42 an42 cd42 ct42), sl42⟩) (c42 : PySem.W.codeIn K cd42 "are_header_fields" = true) (k42 : PySem.W.keepIn K (.ref f42) = true)
    (a43 : PySem.W.nsIn K mainGlobals "is_header" = some (some (.ref f43))) (l43 : K.lookup f43 = some ⟨oc43, od43, .func (PySem.W.fnOf "is_header" "is_header" (defArgs sIsHeader) (defBody sIsHeader) (defScope sIsHeader) .none kV43 dc43 pm43 an43 cd43 ct43), sl43⟩) (c43 : PySem.W.codeIn K cd43 "is_header" = true) (k43 : PySem.W.keepIn K (.ref f43) = true)
    (a44 : PySem.W.nsIn K mainGlobals "are_headers" = some (some (.ref f44))) (l44 : K.lookup f44 = some ⟨oc44, od44, .func (PySem.W.fnOf "are_headers" "are_headers" (defArgs sAreHeaders) (defBody sAreHeaders) (defScope sAreHeaders) .none kV44 dc44 pm44 an44 cd44 ct44), sl44⟩) (c44 : PySem.W.codeIn K cd44 "are_headers" = true) (k44 : PySem.W.keepIn K (.ref f44) = true)
    (a45 : PySem.W.nsIn K mainGlobals "header_size" = some (some (.ref f45))) (l45 : K.lookup f45 = some ⟨oc45, od45, .func (PySem.W.fnOf "header_size" "header_size" (defArgs sHeaderSize) (defBody sHeaderSize) (defScope sHeaderSize) .none kV45 dc45 pm45 an45 cd45 ct45), sl45⟩) (c45 : PySem.W.codeIn K cd45 "header_size" = true) (k45 : PySem.W.keepIn K (.ref f45) = true)
    (a46 : PySem.W.nsIn K mainGlobals "words_from" = some (some (.ref f46))) (l46 : K.lookup f46 = some ⟨oc46, od46, .func (PySem.W.fnOf "words_from" "words_from" (defArgs sWordsFrom) (defBody sWordsFrom) (defScope sWordsFrom) .none kV46 dc46 pm46 an46 cd46 ct46), sl46⟩) (c46 : PySem.W.codeIn K cd46 "words_from" = true) (k46 : PySem.W.keepIn K (.ref f46) = true)
    (a47 : PySem.W.nsIn K mainGlobals "is_byte" = some (some (.ref f47))) (l47 : K.lookup f47 = some ⟨oc47, od47, .func (PySem.W.fnOf "is_byte" "is_byte" (defArgs sIsByte) (defBody sIsByte) (defScope sIsByte) .none kV47 dc47 pm47 an47 cd47 ct47), sl47⟩) (c47 : PySem.W.codeIn K cd47 "is_byte" = true) (k47 : PySem.W.keepIn K (.ref f47) = true)
    (a48 : PySem.W.nsIn K mainGlobals "is_text_of" = some (some (.ref f48))) (l48 : K.lookup f48 = some ⟨oc48, od48, .func (PySem.W.fnOf "is_text_of" "is_text_of" (defArgs sIsTextOf) (defBody sIsTextOf) (defScope sIsTextOf) .none kV48 dc48 pm48 an48 cd48 ct48), sl48⟩) (c48 : PySem.W.codeIn K cd48 "is_text_of" = true) (k48 : PySem.W.keepIn K (.ref f48) = true)
    (a49 : PySem.W.nsIn K mainGlobals "is_rest" = some (some (.ref f49))) (l49 : K.lookup f49 = some ⟨oc49, od49, .func (PySem.W.fnOf "is_rest" "is_rest" (defArgs sIsRest) (defBody sIsRest) (defScope sIsRest) .none kV49 dc49 pm49 an49 cd49 ct49), sl49⟩) (c49 : PySem.W.codeIn K cd49 "is_rest" = true) (k49 : PySem.W.keepIn K (.ref f49) = true)
    (a50 : PySem.W.nsIn K mainGlobals "is_packet" = some (some (.ref f50))) (l50 : K.lookup f50 = some ⟨oc50, od50, .func (PySem.W.fnOf "is_packet" "is_packet" (defArgs sIsPacket) (defBody sIsPacket) (defScope sIsPacket) .none kV50 dc50 pm50 an50 cd50 ct50), sl50⟩) (c50 : PySem.W.codeIn K cd50 "is_packet" = true) (k50 : PySem.W.keepIn K (.ref f50) = true)
    (a51 : PySem.W.nsIn K mainGlobals "check_packet" = some (some (.ref f51))) (l51 : K.lookup f51 = some ⟨oc51, od51, .func (PySem.W.fnOf "check_packet" "check_packet" (defArgs sCheckPacket) (defBody sCheckPacket) (defScope sCheckPacket) .none kV51 dc51 pm51 an51 cd51 ct51), sl51⟩) (c51 : PySem.W.codeIn K cd51 "check_packet" = true) (k51 : PySem.W.keepIn K (.ref f51) = true)
    (a52 : PySem.W.nsIn K mainGlobals "place_of" = some (some (.ref f52))) (l52 : K.lookup f52 = some ⟨oc52, od52, .func (PySem.W.fnOf "place_of" "place_of" (defArgs sPlaceOf) (defBody sPlaceOf) (defScope sPlaceOf) .none kV52 dc52 pm52 an52 cd52 ct52), sl52⟩) (c52 : PySem.W.codeIn K cd52 "place_of" = true) (k52 : PySem.W.keepIn K (.ref f52) = true)
    (a53 : PySem.W.nsIn K mainGlobals "aims_of" = some (some (.ref f53))) (l53 : K.lookup f53 = some ⟨oc53, od53, .func (PySem.W.fnOf "aims_of" "aims_of" (defArgs sAimsOf) (defBody sAimsOf) (defScope sAimsOf) .none kV53 dc53 pm53 an53 cd53 ct53), sl53⟩) (c53 : PySem.W.codeIn K cd53 "aims_of" = true) (k53 : PySem.W.keepIn K (.ref f53) = true)
    (a54 : PySem.W.nsIn K mainGlobals "aim_by" = some (some (.ref f54))) (l54 : K.lookup f54 = some ⟨oc54, od54, .func (PySem.W.fnOf "aim_by" "aim_by" (defArgs sAimBy) (defBody sAimBy) (defScope sAimBy) .none kV54 dc54 pm54 an54 cd54 ct54), sl54⟩) (c54 : PySem.W.codeIn K cd54 "aim_by" = true) (k54 : PySem.W.keepIn K (.ref f54) = true)
    (a55 : PySem.W.nsIn K mainGlobals "things_of" = some (some (.ref f55))) (l55 : K.lookup f55 = some ⟨oc55, od55, .func (PySem.W.fnOf "things_of" "things_of" (defArgs sThingsOf) (defBody sThingsOf) (defScope sThingsOf) .none kV55 dc55 pm55 an55 cd55 ct55), sl55⟩) (c55 : PySem.W.codeIn K cd55 "things_of" = true) (k55 : PySem.W.keepIn K (.ref f55) = true)
    (a56 : PySem.W.nsIn K mainGlobals "is_state_begun" = some (some (.ref f56))) (l56 : K.lookup f56 = some ⟨oc56, od56, .func (PySem.W.fnOf "is_state_begun" "is_state_begun" (defArgs sStateBegun) (defBody sStateBegun) (defScope sStateBegun) .none kV56 dc56 pm56 an56 cd56 ct56), sl56⟩) (c56 : PySem.W.codeIn K cd56 "is_state_begun" = true) (k56 : PySem.W.keepIn K (.ref f56) = true)
    (a57 : PySem.W.nsIn K mainGlobals "is_case" = some (some (.ref f57))) (l57 : K.lookup f57 = some ⟨oc57, od57, .func (PySem.W.fnOf "is_case" "is_case" (defArgs sIsCase) (defBody sIsCase) (defScope sIsCase) .none kV57 dc57 pm57 an57 cd57 ct57), sl57⟩) (c57 : PySem.W.codeIn K cd57 "is_case" = true) (k57 : PySem.W.keepIn K (.ref f57) = true)
    (a58 : PySem.W.nsIn K mainGlobals "width_of" = some (some (.ref f58))) (l58 : K.lookup f58 = some ⟨oc58, od58, .func (PySem.W.fnOf "width_of" "width_of" (defArgs sWidthOf) (defBody sWidthOf) (defScope sWidthOf) .none kV58 dc58 pm58 an58 cd58 ct58), sl58⟩) (c58 : PySem.W.codeIn K cd58 "width_of" = true) (k58 : PySem.W.keepIn K (.ref f58) = true)
    (a59 : PySem.W.nsIn K mainGlobals "is_choice" = some (some (.ref f59))) (l59 : K.lookup f59 = some ⟨oc59, od59, .func (PySem.W.fnOf "is_choice" "is_choice" (defArgs sIsChoice) (defBody sIsChoice) (defScope sIsChoice) .none kV59 dc59 pm59 an59 cd59 ct59), sl59⟩) (c59 : PySem.W.codeIn K cd59 "is_choice" = true) (k59 : PySem.W.keepIn K (.ref f59) = true)
    (a60 : PySem.W.nsIn K mainGlobals "is_onward" = some (some (.ref f60))) (l60 : K.lookup f60 = some ⟨oc60, od60, .func (PySem.W.fnOf "is_onward" "is_onward" (defArgs sIsOnward) (defBody sIsOnward) (defScope sIsOnward) .none kV60 dc60 pm60 an60 cd60 ct60), sl60⟩) (c60 : PySem.W.codeIn K cd60 "is_onward" = true) (k60 : PySem.W.keepIn K (.ref f60) = true)
    (a61 : PySem.W.nsIn K mainGlobals "is_order" = some (some (.ref f61))) (l61 : K.lookup f61 = some ⟨oc61, od61, .func (PySem.W.fnOf "is_order" "is_order" (defArgs sIsOrder) (defBody sIsOrder) (defScope sIsOrder) .none kV61 dc61 pm61 an61 cd61 ct61), sl61⟩) (c61 : PySem.W.codeIn K cd61 "is_order" = true) (k61 : PySem.W.keepIn K (.ref f61) = true)
    (a62 : PySem.W.nsIn K mainGlobals "is_frame" = some (some (.ref f62))) (l62 : K.lookup f62 = some ⟨oc62, od62, .func (PySem.W.fnOf "is_frame" "is_frame" (defArgs sIsFrame) (defBody sIsFrame) (defScope sIsFrame) .none kV62 dc62 pm62 an62 cd62 ct62), sl62⟩) (c62 : PySem.W.codeIn K cd62 "is_frame" = true) (k62 : PySem.W.keepIn K (.ref f62) = true)
    (a63 : PySem.W.nsIn K mainGlobals "check_frame" = some (some (.ref f63))) (l63 : K.lookup f63 = some ⟨oc63, od63, .func (PySem.W.fnOf "check_frame" "check_frame" (defArgs sCheckFrame) (defBody sCheckFrame) (defScope sCheckFrame) .none kV63 dc63 pm63 an63 cd63 ct63), sl63⟩) (c63 : PySem.W.codeIn K cd63 "check_frame" = true) (k63 : PySem.W.keepIn K (.ref f63) = true)
    (a64 : PySem.W.nsIn K mainGlobals "parsed" = some (some (.ref f64))) (l64 : K.lookup f64 = some ⟨oc64, od64, .func (PySem.W.fnOf "parsed" "parsed" (defArgs sParsedP) (defBody sParsedP) (defScope sParsedP) .none kV64 dc64 pm64 an64 cd64 ct64), sl64⟩) (c64 : PySem.W.codeIn K cd64 "parsed" = true) (k64 : PySem.W.keepIn K (.ref f64) = true)
    (a65 : PySem.W.nsIn K mainGlobals "word_asked" = some (some (.ref f65))) (l65 : K.lookup f65 = some ⟨oc65, od65, .func (PySem.W.fnOf "word_asked" "word_asked" (defArgs sWordAsked) (defBody sWordAsked) (defScope sWordAsked) .none kV65 dc65 pm65 an65 cd65 ct65), sl65⟩) (c65 : PySem.W.codeIn K cd65 "word_asked" = true) (k65 : PySem.W.keepIn K (.ref f65) = true)
    (a66 : PySem.W.nsIn K mainGlobals "walk" = some (some (.ref f66))) (l66 : K.lookup f66 = some ⟨oc66, od66, .func (PySem.W.fnOf "walk" "walk" (defArgs sWalk) (defBody sWalk) (defScope sWalk) .none kV66 dc66 pm66 an66 cd66 ct66), sl66⟩) (c66 : PySem.W.codeIn K cd66 "walk" = true) (k66 : PySem.W.keepIn K (.ref f66) = true)
    (a67 : PySem.W.nsIn K mainGlobals "comes_twice" = some (some (.ref f67))) (l67 : K.lookup f67 = some ⟨oc67, od67, .func (PySem.W.fnOf "comes_twice" "comes_twice" (defArgs sTwice) (defBody sTwice) (defScope sTwice) .none kV67 dc67 pm67 an67 cd67 ct67), sl67⟩) (c67 : PySem.W.codeIn K cd67 "comes_twice" = true) (k67 : PySem.W.keepIn K (.ref f67) = true)
    (a68 : PySem.W.nsIn K mainGlobals "is_parser" = some (some (.ref f68))) (l68 : K.lookup f68 = some ⟨oc68, od68, .func (PySem.W.fnOf "is_parser" "is_parser" (defArgs sIsParser) (defBody sIsParser) (defScope sIsParser) .none kV68 dc68 pm68 an68 cd68 ct68), sl68⟩) (c68 : PySem.W.codeIn K cd68 "is_parser" = true) (k68 : PySem.W.keepIn K (.ref f68) = true)
    (z_int : PySem.W.nsIn K mainGlobals "int" = some none)
    (z_abs : PySem.W.nsIn K mainGlobals "abs" = some none)
    (z_len : PySem.W.nsIn K mainGlobals "len" = some none)
    (z_divmod : PySem.W.nsIn K mainGlobals "divmod" = some none)
    (z_range : PySem.W.nsIn K mainGlobals "range" = some none)
    (z_tuple : PySem.W.nsIn K mainGlobals "tuple" = some none)
    (z_repr : PySem.W.nsIn K mainGlobals "repr" = some none)
    (z_all : PySem.W.nsIn K mainGlobals "all" = some none)
    (z_max : PySem.W.nsIn K mainGlobals "max" = some none)
    (z_min : PySem.W.nsIn K mainGlobals "min" = some none)
    (z_sum : PySem.W.nsIn K mainGlobals "sum" = some none)
    (z_zip : PySem.W.nsIn K mainGlobals "zip" = some none)
    (z_str : PySem.W.nsIn K mainGlobals "str" = some none)
    (z_list : PySem.W.nsIn K mainGlobals "list" = some none)
    (z_set : PySem.W.nsIn K mainGlobals "set" = some none)
    (z_isinstance : PySem.W.nsIn K mainGlobals "isinstance" = some none)
    (z_bool : PySem.W.nsIn K mainGlobals "bool" = some none)
    (z_reversed : PySem.W.nsIn K mainGlobals "reversed" = some none)
    (z_sorted : PySem.W.nsIn K mainGlobals "sorted" = some none)
    (z_any : PySem.W.nsIn K mainGlobals "any" = some none)
    (z_enumerate : PySem.W.nsIn K mainGlobals "enumerate" = some none)
    (y_mh : PySem.W.nsIn K mainGlobals "MOST_HEADERS" = some (some (.int 6 t_mh)))
    (y_mf : PySem.W.nsIn K mainGlobals "MOST_FIELDS" = some (some (.int 12 t_mf)))
    (y_mw : PySem.W.nsIn K mainGlobals "WORD_WIDTH" = some (some (.int 32 t_mw)))
    (y_mb : PySem.W.nsIn K mainGlobals "MOST_HEADER_BITS" = some (some (.int 128 t_mb)))
    (y_mby : PySem.W.nsIn K mainGlobals "MOST_BYTES" = some (some (.int 128 t_mby)))
    (y_ms : PySem.W.nsIn K mainGlobals "MOST_STATES" = some (some (.int 8 t_ms)))
    (y_mc : PySem.W.nsIn K mainGlobals "MOST_CASES" = some (some (.int 8 t_mc)))
    (y_lt : PySem.W.nsIn K mainGlobals "LETTERS" = some (some (.str (Str.ofString "abcdefghijklmnopqrstuvwxyz") t_lt)))
    (y_ns : PySem.W.nsIn K mainGlobals "NAME_SIGNS" = some (some (.str (Str.ofString "abcdefghijklmnopqrstuvwxyz0123456789_") t_ns)))
    (y_kw : PySem.W.nsIn K mainGlobals "KEPT_WORDS" = some (some (.ref kw)))
    (y_es : PySem.W.nsIn K mainGlobals "ENDS" = some (some (.ref kes)))
    (y_li : PySem.W.nsIn K mainGlobals "LOCAL_IN" = some (some (.ref kli)))
    (l_kw : K.lookup kw = some ⟨.type "dict", none, .dict ekw nkw, #[]⟩)
    (q_kw : ekw.toList.map He.keyOf = He.keysIn w.params keptN)
    (w_kw : (kw == sysModules) = false)
    (te : tupB K (He.ga K "ENDS") endsN = true) (tl : tupB K (He.ga K "LOCAL_IN") ["local", "in"] = true) :
    ∃ fd : FuncData, (∀ (s : Shared) (v : Value), BindsTo s fd ⟨[v], []⟩ [("_law_script", v)]) ∧ ∀ base : Heap, K.In base → base.Ns mainGlobals mg → FnG l.prog w K mg base CX0 15 fa fd ["_law_script"] (spLaw K) := by
  have e := hfa.symm.trans (PySem.W.mg_of X G a33)
  cases e
  have F0 := fun_mk (st := sJar) l0 c0 k0
  have g0 := PySem.W.mg_of X G a0
  have b0 := F0.binds (ps := ["_law_script", "_law_turn"]) fun _ _ _ _ _ _ us hl => match us, hl with | [_, _], _ => rfl
  have F1 := fun_mk (st := sDip) l1 c1 k1
  have g1 := PySem.W.mg_of X G a1
  have b1 := F1.binds (ps := ["_law_jar_here", "_law_top"]) fun _ _ _ _ _ _ us hl => match us, hl with | [_, _], _ => rfl
  have F2 := fun_mk (st := sOne) l2 c2 k2
  have g2 := PySem.W.mg_of X G a2
  have b2 := F2.binds (ps := ["_law_jar_here", "_law_some"]) fun _ _ _ _ _ _ us hl => match us, hl with | [_, _], _ => rfl
  have F3 := fun_mk (st := sKept) l3 c3 k3
  have g3 := PySem.W.mg_of X G a3
  have b3 := F3.binds (ps := []) fun _ _ _ _ _ _ us hl => match us, hl with | [], _ => rfl
  have F4 := fun_mk (st := sName) l4 c4 k4
  have g4 := PySem.W.mg_of X G a4
  have b4 := F4.binds (ps := ["_law_jar_here", "_law_taken"]) fun _ _ _ _ _ _ us hl => match us, hl with | [_, _], _ => rfl
  have F5 := fun_mk (st := sWord) l5 c5 k5
  have g5 := PySem.W.mg_of X G a5
  have b5 := F5.binds (ps := ["_law_jar_here", "_law_width_here"]) fun _ _ _ _ _ _ us hl => match us, hl with | [_, _], _ => rfl
  have F6 := fun_mk (st := sFields) l6 c6 k6
  have g6 := PySem.W.mg_of X G a6
  have b6 := F6.binds (ps := ["_law_jar_here", "_law_size_here"]) fun _ _ _ _ _ _ us hl => match us, hl with | [_, _], _ => rfl
  have F7 := fun_mk (st := sHeaders) l7 c7 k7
  have g7 := PySem.W.mg_of X G a7
  have b7 := F7.binds (ps := ["_law_jar_here", "_law_least", "_law_most"]) fun _ _ _ _ _ _ us hl => match us, hl with | [_, _, _], _ => rfl
  have F8 := fun_mk (st := sRead) l8 c8 k8
  have g8 := PySem.W.mg_of X G a8
  have b8 := F8.binds (ps := ["_law_fields_here", "_law_taken"]) fun _ _ _ _ _ _ us hl => match us, hl with | [_, _], _ => rfl
  have F9 := fun_mk (st := sWritten) l9 c9 k9
  have g9 := PySem.W.mg_of X G a9
  have b9 := F9.binds (ps := ["_law_fields_here", "_law_words_here"]) fun _ _ _ _ _ _ us hl => match us, hl with | [_, _], _ => rfl
  have F10 := fun_mk (st := sSize) l10 c10 k10
  have g10 := PySem.W.mg_of X G a10
  have b10 := F10.binds (ps := ["_law_fields_here"]) fun _ _ _ _ _ _ us hl => match us, hl with | [_], _ => rfl
  have F11 := fun_mk (st := sBytes) l11 c11 k11
  have g11 := PySem.W.mg_of X G a11
  have b11 := F11.binds (ps := ["_law_jar_here", "_law_many"]) fun _ _ _ _ _ _ us hl => match us, hl with | [_, _], _ => rfl
  have F12 := fun_mk (st := sWords) l12 c12 k12
  have g12 := PySem.W.mg_of X G a12
  have b12 := F12.binds (ps := ["_law_jar_here", "_law_fields_here"]) fun _ _ _ _ _ _ us hl => match us, hl with | [_, _], _ => rfl
  have F13 := fun_mk (st := sFieldsOf) l13 c13 k13
  have g13 := PySem.W.mg_of X G a13
  have b13 := F13.binds (ps := ["_law_headers_here", "_law_header"]) fun _ _ _ _ _ _ us hl => match us, hl with | [_, _], _ => rfl
  have F14 := fun_mk (st := sWidth) l14 c14 k14
  have g14 := PySem.W.mg_of X G a14
  have b14 := F14.binds (ps := ["_law_headers_here", "_law_place_here"]) fun _ _ _ _ _ _ us hl => match us, hl with | [_, _], _ => rfl
  have F15 := fun_mk (st := sPlace) l15 c15 k15
  have g15 := PySem.W.mg_of X G a15
  have b15 := F15.binds (ps := ["_law_jar_here", "_law_headers_here", "_law_own", "_law_barred"]) fun _ _ _ _ _ _ us hl => match us, hl with | [_, _, _, _], _ => rfl
  have F16 := fun_mk (st := sCases) l16 c16 k16
  have g16 := PySem.W.mg_of X G a16
  have b16 := F16.binds (ps := ["_law_jar_here", "_law_width_here", "_law_goals", "_law_few"]) fun _ _ _ _ _ _ us hl => match us, hl with | [_, _, _, _], _ => rfl
  have F17 := fun_mk (st := sNext) l17 c17 k17
  have g17 := PySem.W.mg_of X G a17
  have b17 := F17.binds (ps := ["_law_jar_here", "_law_headers_here", "_law_own", "_law_goals", "_law_barred", "_law_few"]) fun _ _ _ _ _ _ us hl => match us, hl with | [_, _, _, _, _, _], _ => rfl
  have F18 := fun_mk (st := sStates) l18 c18 k18
  have g18 := PySem.W.mg_of X G a18
  have b18 := F18.binds (ps := ["_law_jar_here", "_law_headers_here", "_law_many", "_law_few"]) fun _ _ _ _ _ _ us hl => match us, hl with | [_, _, _, _], _ => rfl
  have F19 := fun_mk (st := sTurned) l19 c19 k19
  have g19 := PySem.W.mg_of X G a19
  have b19 := F19.binds (ps := ["_law_jar_here", "_law_names"]) fun _ _ _ _ _ _ us hl => match us, hl with | [_, _], _ => rfl
  have F20 := fun_mk (st := sFrame) l20 c20 k20
  have g20 := PySem.W.mg_of X G a20
  have b20 := F20.binds (ps := ["_law_jar_here", "_law_few"]) fun _ _ _ _ _ _ us hl => match us, hl with | [_, _], _ => rfl
  have F21 := fun_mk (st := sLeads) l21 c21 k21
  have g21 := PySem.W.mg_of X G a21
  have b21 := F21.binds (ps := ["_law_state", "_law_word_here"]) fun _ _ _ _ _ _ us hl => match us, hl with | [_, _], _ => rfl
  have F22 := fun_mk (st := sIndex) l22 c22 k22
  have g22 := PySem.W.mg_of X G a22
  have b22 := F22.binds (ps := ["_law_states_here", "_law_name_here"]) fun _ _ _ _ _ _ us hl => match us, hl with | [_, _], _ => rfl
  have F23 := fun_mk (st := sAsked) l23 c23 k23
  have g23 := PySem.W.mg_of X G a23
  have b23 := F23.binds (ps := ["_law_headers_here", "_law_step", "_law_held", "_law_first"]) fun _ _ _ _ _ _ us hl => match us, hl with | [_, _, _, _], _ => rfl
  have F24 := fun_mk (st := sGoing) l24 c24 k24
  have g24 := PySem.W.mg_of X G a24
  have b24 := F24.binds (ps := ["_law_frame_here", "_law_packet"]) fun _ _ _ _ _ _ us hl => match us, hl with | [_, _], _ => rfl
  have F25 := fun_mk (st := sParsed) l25 c25 k25
  have g25 := PySem.W.mg_of X G a25
  have b25 := F25.binds (ps := ["_law_frame_here", "_law_packet"]) fun _ _ _ _ _ _ us hl => match us, hl with | [_, _], _ => rfl
  have F26 := fun_mk (st := sHit) l26 c26 k26
  have g26 := PySem.W.mg_of X G a26
  have b26 := F26.binds (ps := ["_law_jar_here", "_law_headers_here", "_law_step"]) fun _ _ _ _ _ _ us hl => match us, hl with | [_, _, _], _ => rfl
  have F27 := fun_mk (st := sPF) l27 c27 k27
  have g27 := PySem.W.mg_of X G a27
  have b27 := F27.binds (ps := ["_law_jar_here", "_law_frame_here"]) fun _ _ _ _ _ _ us hl => match us, hl with | [_, _], _ => rfl
  have F28 := fun_mk (st := sMeets) l28 c28 k28
  have g28 := PySem.W.mg_of X G a28
  have b28 := F28.binds (ps := ["_law_frame_here", "_law_packet"]) fun _ _ _ _ _ _ us hl => match us, hl with | [_, _], _ => rfl
  have F29 := fun_mk (st := sWayOf) l29 c29 k29
  have g29 := PySem.W.mg_of X G a29
  have b29 := F29.binds (ps := ["frame", "packet"]) fun _ _ _ _ _ _ us hl => match us, hl with | [_, _], _ => rfl
  have F30 := fun_mk (st := sParse) l30 c30 k30
  have g30 := PySem.W.mg_of X G a30
  have b30 := F30.binds (ps := ["frame", "packet"]) fun _ _ _ _ _ _ us hl => match us, hl with | [_, _], _ => rfl
  have F31 := fun_mk (st := sUnread) l31 c31 k31
  have g31 := PySem.W.mg_of X G a31
  have b31 := F31.binds (ps := ["_law_jar_here"]) fun _ _ _ _ _ _ us hl => match us, hl with | [_], _ => rfl
  have F32 := fun_mk (st := sRight) l32 c32 k32
  have g32 := PySem.W.mg_of X G a32
  have b32 := F32.binds (ps := ["_law_jar_here"]) fun _ _ _ _ _ _ us hl => match us, hl with | [_], _ => rfl
  have F33 := fun_mk (st := sLaw) l33 c33 k33
  have g33 := PySem.W.mg_of X G a33
  have F34 := fun_mk (st := sNumber) l34 c34 k34
  have g34 := PySem.W.mg_of X G a34
  have b34 := F34.binds (ps := ["value", "least", "most"]) fun _ _ _ _ _ _ us hl => match us, hl with | [_, _, _], _ => rfl
  have F35 := fun_mk (st := sIsWord) l35 c35 k35
  have g35 := PySem.W.mg_of X G a35
  have b35 := F35.binds (ps := ["value", "width"]) fun _ _ _ _ _ _ us hl => match us, hl with | [_, _], _ => rfl
  have F36 := fun_mk (st := sIsRow) l36 c36 k36
  have g36 := PySem.W.mg_of X G a36
  have b36 := F36.binds (ps := ["value", "least", "most"]) fun _ _ _ _ _ _ us hl => match us, hl with | [_, _, _], _ => rfl
  have F37 := fun_mk (st := sAreBytes) l37 c37 k37
  have g37 := PySem.W.mg_of X G a37
  have b37 := F37.binds (ps := ["value", "least", "most"]) fun _ _ _ _ _ _ us hl => match us, hl with | [_, _, _], _ => rfl
  have F38 := fun_mk (st := sIsName) l38 c38 k38
  have g38 := PySem.W.mg_of X G a38
  have b38 := F38.binds (ps := ["value"]) fun _ _ _ _ _ _ us hl => match us, hl with | [_], _ => rfl
  have F39 := fun_mk (st := sUnlike) l39 c39 k39
  have g39 := PySem.W.mg_of X G a39
  have b39 := F39.binds (ps := ["parts"]) fun _ _ _ _ _ _ us hl => match us, hl with | [_], _ => rfl
  have F40 := fun_mk (st := sNamesIn) l40 c40 k40
  have g40 := PySem.W.mg_of X G a40
  have b40 := F40.binds (ps := ["parts"]) fun _ _ _ _ _ _ us hl => match us, hl with | [_], _ => rfl
  have F41 := fun_mk (st := sSized) l41 c41 k41
  have g41 := PySem.W.mg_of X G a41
  have b41 := F41.binds (ps := ["value", "least", "most"]) fun _ _ _ _ _ _ us hl => match us, hl with | [_, _, _], _ => rfl
  have F42 := fun_mk (st := sHeaderFields) l42 c42 k42
  have g42 := PySem.W.mg_of X G a42
  have b42 := F42.binds (ps := ["value"]) fun _ _ _ _ _ _ us hl => match us, hl with | [_], _ => rfl
  have F43 := fun_mk (st := sIsHeader) l43 c43 k43
  have g43 := PySem.W.mg_of X G a43
  have b43 := F43.binds (ps := ["value"]) fun _ _ _ _ _ _ us hl => match us, hl with | [_], _ => rfl
  have F44 := fun_mk (st := sAreHeaders) l44 c44 k44
  have g44 := PySem.W.mg_of X G a44
  have b44 := F44.binds (ps := ["value"]) fun _ _ _ _ _ _ us hl => match us, hl with | [_], _ => rfl
  have F45 := fun_mk (st := sHeaderSize) l45 c45 k45
  have g45 := PySem.W.mg_of X G a45
  have b45 := F45.binds (ps := ["header"]) fun _ _ _ _ _ _ us hl => match us, hl with | [_], _ => rfl
  have F46 := fun_mk (st := sWordsFrom) l46 c46 k46
  have g46 := PySem.W.mg_of X G a46
  have b46 := F46.binds (ps := ["header", "taken"]) fun _ _ _ _ _ _ us hl => match us, hl with | [_, _], _ => rfl
  have F47 := fun_mk (st := sIsByte) l47 c47 k47
  have g47 := PySem.W.mg_of X G a47
  have b47 := F47.binds (ps := ["value"]) fun _ _ _ _ _ _ us hl => match us, hl with | [_], _ => rfl
  have F48 := fun_mk (st := sIsTextOf) l48 c48 k48
  have g48 := PySem.W.mg_of X G a48
  have b48 := F48.binds (ps := ["value", "texts"]) fun _ _ _ _ _ _ us hl => match us, hl with | [_, _], _ => rfl
  have F49 := fun_mk (st := sIsRest) l49 c49 k49
  have g49 := PySem.W.mg_of X G a49
  have b49 := F49.binds (ps := ["value"]) fun _ _ _ _ _ _ us hl => match us, hl with | [_], _ => rfl
  have F50 := fun_mk (st := sIsPacket) l50 c50 k50
  have g50 := PySem.W.mg_of X G a50
  have b50 := F50.binds (ps := ["value"]) fun _ _ _ _ _ _ us hl => match us, hl with | [_], _ => rfl
  have F51 := fun_mk (st := sCheckPacket) l51 c51 k51
  have g51 := PySem.W.mg_of X G a51
  have b51 := F51.binds (ps := ["packet"]) fun _ _ _ _ _ _ us hl => match us, hl with | [_], _ => rfl
  have F52 := fun_mk (st := sPlaceOf) l52 c52 k52
  have g52 := PySem.W.mg_of X G a52
  have b52 := F52.binds (ps := ["onward"]) fun _ _ _ _ _ _ us hl => match us, hl with | [_], _ => rfl
  have F53 := fun_mk (st := sAimsOf) l53 c53 k53
  have g53 := PySem.W.mg_of X G a53
  have b53 := F53.binds (ps := ["onward"]) fun _ _ _ _ _ _ us hl => match us, hl with | [_], _ => rfl
  have F54 := fun_mk (st := sAimBy) l54 c54 k54
  have g54 := PySem.W.mg_of X G a54
  have b54 := F54.binds (ps := ["onward", "word"]) fun _ _ _ _ _ _ us hl => match us, hl with | [_, _], _ => rfl
  have F55 := fun_mk (st := sThingsOf) l55 c55 k55
  have g55 := PySem.W.mg_of X G a55
  have b55 := F55.binds (ps := ["state"]) fun _ _ _ _ _ _ us hl => match us, hl with | [_], _ => rfl
  have F56 := fun_mk (st := sStateBegun) l56 c56 k56
  have g56 := PySem.W.mg_of X G a56
  have b56 := F56.binds (ps := ["headers", "value"]) fun _ _ _ _ _ _ us hl => match us, hl with | [_, _], _ => rfl
  have F57 := fun_mk (st := sIsCase) l57 c57 k57
  have g57 := PySem.W.mg_of X G a57
  have b57 := F57.binds (ps := ["width", "aims", "value"]) fun _ _ _ _ _ _ us hl => match us, hl with | [_, _, _], _ => rfl
  have F58 := fun_mk (st := sWidthOf) l58 c58 k58
  have g58 := PySem.W.mg_of X G a58
  have b58 := F58.binds (ps := ["headers", "place"]) fun _ _ _ _ _ _ us hl => match us, hl with | [_, _], _ => rfl
  have F59 := fun_mk (st := sIsChoice) l59 c59 k59
  have g59 := PySem.W.mg_of X G a59
  have b59 := F59.binds (ps := ["headers", "aims", "onward"]) fun _ _ _ _ _ _ us hl => match us, hl with | [_, _, _], _ => rfl
  have F60 := fun_mk (st := sIsOnward) l60 c60 k60
  have g60 := PySem.W.mg_of X G a60
  have b60 := F60.binds (ps := ["headers", "later", "value"]) fun _ _ _ _ _ _ us hl => match us, hl with | [_, _, _], _ => rfl
  have F61 := fun_mk (st := sIsOrder) l61 c61 k61
  have g61 := PySem.W.mg_of X G a61
  have b61 := F61.binds (ps := ["headers", "value"]) fun _ _ _ _ _ _ us hl => match us, hl with | [_, _], _ => rfl
  have F62 := fun_mk (st := sIsFrame) l62 c62 k62
  have g62 := PySem.W.mg_of X G a62
  have b62 := F62.binds (ps := ["value"]) fun _ _ _ _ _ _ us hl => match us, hl with | [_], _ => rfl
  have F63 := fun_mk (st := sCheckFrame) l63 c63 k63
  have g63 := PySem.W.mg_of X G a63
  have b63 := F63.binds (ps := ["frame"]) fun _ _ _ _ _ _ us hl => match us, hl with | [_], _ => rfl
  have F64 := fun_mk (st := sParsedP) l64 c64 k64
  have g64 := PySem.W.mg_of X G a64
  have b64 := F64.binds (ps := ["frame", "packet"]) fun _ _ _ _ _ _ us hl => match us, hl with | [_, _], _ => rfl
  have F65 := fun_mk (st := sWordAsked) l65 c65 k65
  have g65 := PySem.W.mg_of X G a65
  have b65 := F65.binds (ps := ["named", "held", "came_in", "place"]) fun _ _ _ _ _ _ us hl => match us, hl with | [_, _, _, _], _ => rfl
  have F66 := fun_mk (st := sWalk) l66 c66 k66
  have g66 := PySem.W.mg_of X G a66
  have b66 := F66.binds (ps := ["frame", "packet"]) fun _ _ _ _ _ _ us hl => match us, hl with | [_, _], _ => rfl
  have F67 := fun_mk (st := sTwice) l67 c67 k67
  have g67 := PySem.W.mg_of X G a67
  have b67 := F67.binds (ps := ["parser"]) fun _ _ _ _ _ _ us hl => match us, hl with | [_], _ => rfl
  have F68 := fun_mk (st := sIsParser) l68 c68 k68
  have g68 := PySem.W.mg_of X G a68
  have b68 := F68.binds (ps := ["headers", "value"]) fun _ _ _ _ _ _ us hl => match us, hl with | [_, _], _ => rfl
  have nW := Fun_kbn (ps := ["frame", "packet"]) (ks := ["packet", "frame"]) F29 fun _ _ _ _ _ _ ws hl => match ws, hl with | [_, _], _ => rfl
  have nP := Fun_kbn (ps := ["frame", "packet"]) (ks := ["packet", "frame"]) F30 fun _ _ _ _ _ _ ws hl => match ws, hl with | [_, _], _ => rfl
  have B : Blt mg := ⟨PySem.W.mg_none_of X G z_int, PySem.W.mg_none_of X G z_abs, PySem.W.mg_none_of X G z_len, PySem.W.mg_none_of X G z_divmod, PySem.W.mg_none_of X G z_range, PySem.W.mg_none_of X G z_tuple, PySem.W.mg_none_of X G z_repr, PySem.W.mg_none_of X G z_all, PySem.W.mg_none_of X G z_max, PySem.W.mg_none_of X G z_min, PySem.W.mg_none_of X G z_sum, PySem.W.mg_none_of X G z_zip, PySem.W.mg_none_of X G z_str, PySem.W.mg_none_of X G z_list, PySem.W.mg_none_of X G z_set, PySem.W.mg_none_of X G z_isinstance, PySem.W.mg_none_of X G z_bool, PySem.W.mg_none_of X G z_reversed⟩
  have C : Cst K w mg := ⟨⟨_, PySem.W.mg_of X G y_lt, ⟨_, rfl⟩⟩, ⟨_, PySem.W.mg_of X G y_ns, ⟨_, rfl⟩⟩, ⟨kw, PySem.W.mg_of X G y_kw, keptAt l_kw q_kw w_kw⟩, ⟨_, PySem.W.mg_of X G y_mh, ⟨_, rfl⟩⟩, ⟨_, PySem.W.mg_of X G y_mf, ⟨_, rfl⟩⟩, ⟨_, PySem.W.mg_of X G y_mw, ⟨_, rfl⟩⟩, ⟨_, PySem.W.mg_of X G y_mb, ⟨_, rfl⟩⟩⟩
  have C2 : Cst2 K mg := ⟨⟨_, PySem.W.mg_of X G y_mby, ⟨_, rfl⟩⟩, ⟨_, PySem.W.mg_of X G y_ms, ⟨_, rfl⟩⟩, ⟨_, PySem.W.mg_of X G y_mc, ⟨_, rfl⟩⟩, ⟨kes, PySem.W.mg_of X G y_es, by rw [ga_eq y_es] at te; exact tup_of te⟩, ⟨kli, PySem.W.mg_of X G y_li, by rw [ga_eq y_li] at tl; exact tup_of tl⟩⟩
  refine ⟨PySem.W.fnOf "law" "law" (defArgs sLaw) (defBody sLaw) (defScope sLaw) .none kV33 dc33 pm33 an33 cd33 ct33, fun s v => .of_eq rfl, fun base _ _ => ?_⟩
  have Z : Drw l.prog w K mg base _ _ _ _ _ _ := ⟨F1, b1, g1, ok_dip F1 B, F2, b2, g2, ok_one F2 B F1 b1 g1, F4, b4, g4, ok_name F4 B F1 b1 g1 F2 b2 g2 F3 b3 g3⟩
  have D5 : Kn l.prog w K mg base 5 "_law_headers" sHeaders ["_law_jar_here", "_law_least", "_law_most"] (spHeaders K) f7 _ := ⟨F7, b7, g7, ok_headers F7 B Z F6 b6 g6⟩
  have D11 : Kn l.prog w K mg base 1 "_law_fields_of" sFieldsOf ["_law_headers_here", "_law_header"] (spFieldsOf K) f13 _ := ⟨F13, b13, g13, ok_fieldsof F13⟩
  have D12 : Kn l.prog w K mg base 2 "_law_width" sWidth ["_law_headers_here", "_law_place_here"] (spWidth K) f14 _ := ⟨F14, b14, g14, ok_width F14 D11⟩
  have D13 : Kn l.prog w K mg base 3 "_law_place" sPlace ["_law_jar_here", "_law_headers_here", "_law_own", "_law_barred"] (spPlace K) f15 _ := ⟨F15, b15, g15, ok_place F15 B Z⟩
  have D3 : Kn l.prog w K mg base 2 "_law_word" sWord ["_law_jar_here", "_law_width_here"] spWord f5 _ := ⟨F5, b5, g5, ok_word F5 B Z⟩
  have D14 : Kn l.prog w K mg base 3 "_law_cases" sCases ["_law_jar_here", "_law_width_here", "_law_goals", "_law_few"] (spCases K) f16 _ := ⟨F16, b16, g16, ok_cases F16 B Z D3⟩
  have D15 : Kn l.prog w K mg base 4 "_law_next" sNext ["_law_jar_here", "_law_headers_here", "_law_own", "_law_goals", "_law_barred", "_law_few"] (spNext K) f17 _ := ⟨F17, b17, g17, ok_next F17 B Z D12 D13 D14⟩
  have D16 : Kn l.prog w K mg base 5 "_law_states" sStates ["_law_jar_here", "_law_headers_here", "_law_many", "_law_few"] (spStates K) f18 _ := ⟨F18, b18, g18, ok_states F18 B Z D15⟩
  have D17 : Kn l.prog w K mg base 2 "_law_turned" sTurned ["_law_jar_here", "_law_names"] (spTurned K) f19 _ := ⟨F19, b19, g19, ok_turned F19 B Z⟩
  have D18 : Kn l.prog w K mg base 6 "_law_frame" sFrame ["_law_jar_here", "_law_few"] (spFrame K) f20 _ := ⟨F20, b20, g20, ok_frame F20 B Z D5 D16 D17⟩
  have D10 : Kn l.prog w K mg base 3 "_law_words" sWords ["_law_jar_here", "_law_fields_here"] (spWords K) f12 _ := ⟨F12, b12, g12, ok_words F12 B Z F5 b5 g5⟩
  have D24 : Kn l.prog w K mg base 2 "_law_one_of" sOne ["_law_jar_here", "_law_some"] (spOneT K) f2 _ := ⟨F2, b2, g2, ok_oneT F2 B F1 b1 g1⟩
  have D25 : Kn l.prog w K mg base 3 "_law_hit" sHit ["_law_jar_here", "_law_headers_here", "_law_step"] (spHit K) f26 _ := ⟨F26, b26, g26, ok_hit F26 B Z D3 D12 D24⟩
  have D19 : Kn l.prog w K mg base 1 "_law_leads" sLeads ["_law_state", "_law_word_here"] (spLeads K) f21 _ := ⟨F21, b21, g21, ok_leads F21⟩
  have D21 : Kn l.prog w K mg base 2 "_law_asked" sAsked ["_law_headers_here", "_law_step", "_law_held", "_law_first"] (spAsked K) f23 _ := ⟨F23, b23, g23, ok_asked F23 B D11⟩
  have D20 : Kn l.prog w K mg base 1 "_law_index" sIndex ["_law_states_here", "_law_name_here"] (spIndex K) f22 _ := ⟨F22, b22, g22, ok_index F22 B⟩
  have D26 : Kn l.prog w K mg base 1 "_law_written" sWritten ["_law_fields_here", "_law_words_here"] (spWrittenL K) f9 _ := ⟨F9, b9, g9, ok_writtenL F9 B⟩
  have D27 : Kn l.prog w K mg base 3 "_law_bytes" sBytes ["_law_jar_here", "_law_many"] (spBytes8 K) f11 _ := ⟨F11, b11, g11, ok_bytes8 F11 B Z⟩
  have D28 : Kn l.prog w K mg base 4 "_law_packet_for" sPF ["_law_jar_here", "_law_frame_here"] (spPF K) f27 _ := ⟨F27, b27, g27, ok_pf F27 B Z D11 D10 D25 D19 D21 D20 D26 D27⟩
  have D30 : Kn l.prog w K mg base 2 "_law_unread" sUnread ["_law_jar_here"] (spUnread K) f31 _ := ⟨F31, b31, g31, ok_unread F31 Z⟩
  have D35 : Kn l.prog w K mg base 1 "is_row" sIsRow ["value", "least", "most"] (spIsRow K) f36 _ := ⟨F36, b36, g36, ok_isrow F36 B⟩
  have D33 : Kn l.prog w K mg base 1 "is_number" sNumber ["value", "least", "most"] spNumber f34 _ := ⟨F34, b34, g34, ok_number F34 B⟩
  have D37 : Kn l.prog w K mg base 1 "is_name" sIsName ["value"] spIsName f38 _ := ⟨F38, b38, g38, ok_isname F38 B C⟩
  have D38 : Kn l.prog w K mg base 1 "are_unlike" sUnlike ["parts"] (spUnlike K) f39 _ := ⟨F39, b39, g39, ok_unlike F39 B⟩
  have D39 : Kn l.prog w K mg base 1 "names_in" sNamesIn ["parts"] (spNamesIn K) f40 _ := ⟨F40, b40, g40, ok_namesin F40 B⟩
  have Zw : Wfn l.prog w K mg base _ _ _ _ _ _ _ _ _ _ := ⟨D33.F, D33.b, D33.g, D33.G, D35.F, D35.b, D35.g, D35.G, D37.F, D37.b, D37.g, D37.G, D38.F, D38.b, D38.g, D38.G, D39.F, D39.b, D39.g, D39.G⟩
  have D41 : Kn l.prog w K mg base 3 "are_header_fields" sHeaderFields ["value"] (spHeaderFields K) f42 _ := ⟨F42, b42, g42, ok_headerfields F42 B C Zw F41 b41 g41⟩
  have D42 : Kn l.prog w K mg base 4 "is_header" sIsHeader ["value"] (spIsHeader K) f43 _ := ⟨F43, b43, g43, ok_isheader F43 Zw F42 b42 g42 D41.G⟩
  have D43 : Kn l.prog w K mg base 5 "are_headers" sAreHeaders ["value"] (spAreHeaders K) f44 _ := ⟨F44, b44, g44, ok_areheaders F44 B C Zw F43 b43 g43 D42.G⟩
  have D47 : Kn l.prog w K mg base 1 "is_text_of" sIsTextOf ["value", "texts"] (spIsTextOf K) f48 _ := ⟨F48, b48, g48, ok_istextof F48 B⟩
  have D55 : Kn l.prog w K mg base 2 "is_state_begun" sStateBegun ["headers", "value"] (spStateBegun K) f56 _ := ⟨F56, b56, g56, ok_statebegun F56 B D35 D37 D47 D39⟩
  have D70 : Kn l.prog w K mg base 1 "names_in" sNamesIn ["parts"] (spNamesInS K) f40 _ := ⟨F40, b40, g40, ok_namesinS F40 B⟩
  have D34 : Kn l.prog w K mg base 2 "is_word" sIsWord ["value", "width"] spIsWord f35 _ := ⟨F35, b35, g35, ok_isword F35 B F34 b34 g34⟩
  have D56 : Kn l.prog w K mg base 3 "is_case" sIsCase ["width", "aims", "value"] (spIsCase K) f57 _ := ⟨F57, b57, g57, ok_iscase F57 B D35 D34 D47⟩
  have D57 : Kn l.prog w K mg base 2 "width_of" sWidthOf ["headers", "place"] (spWidthOf K) f58 _ := ⟨F58, b58, g58, ok_widthof F58 B C2 D35⟩
  have D58 : Kn l.prog w K mg base 4 "is_choice" sIsChoice ["headers", "aims", "onward"] (spIsChoice K) f59 _ := ⟨F59, b59, g59, ok_ischoice F59 B C2 D35 D47 D56 D57⟩
  have D59 : Kn l.prog w K mg base 5 "is_onward" sIsOnward ["headers", "later", "value"] (spIsOnward K) f60 _ := ⟨F60, b60, g60, ok_isonward F60 B C2 D35 D47 D58⟩
  have D52 : Kn l.prog w K mg base 1 "aims_of" sAimsOf ["onward"] (spAimsOf K) f53 _ := ⟨F53, b53, g53, ok_aimsof F53 B⟩
  have D51 : Kn l.prog w K mg base 1 "place_of" sPlaceOf ["onward"] (spPlaceOf K) f52 _ := ⟨F52, b52, g52, ok_placeof F52 B⟩
  have D54 : Kn l.prog w K mg base 2 "things_of" sThingsOf ["state"] (spThingsOf K) f55 _ := ⟨F55, b55, g55, ok_thingsof F55 B D51⟩
  have D69 : Kn l.prog w K mg base 3 "comes_twice" sTwice ["parser"] (spTwice K) f67 _ := ⟨F67, b67, g67, ok_twice F67 B D52 D54 (PySem.W.mg_none_of X G z_any)⟩
  have D71 : Kn l.prog w K mg base 6 "is_parser" sIsParser ["headers", "value"] (spIsParser K) f68 _ := ⟨F68, b68, g68, ok_isparser F68 B C2 (PySem.W.mg_none_of X G z_enumerate) D35 D55 D70 D38 D59 D69⟩
  have D60 : Kn l.prog w K mg base 2 "is_order" sIsOrder ["headers", "value"] (spIsOrder K) f61 _ := ⟨F61, b61, g61, ok_isorder F61 B (PySem.W.mg_none_of X G z_sorted) D35 D39⟩
  have D61 : Kn l.prog w K mg base 7 "is_frame" sIsFrame ["value"] (spIsFrame K) f62 _ := ⟨F62, b62, g62, ok_isframe F62 B D35 D43 D71 D60⟩
  have D62 : Kn l.prog w K mg base 8 "check_frame" sCheckFrame ["frame"] (spCheckFrame K) f63 _ := ⟨F63, b63, g63, ok_checkframe F63 B D61⟩
  have D46 : Kn l.prog w K mg base 3 "is_byte" sIsByte ["value"] spIsByte f47 _ := ⟨F47, b47, g47, ok_isbyte F47 D33⟩
  have D36 : Kn l.prog w K mg base 4 "are_bytes" sAreBytes ["value", "least", "most"] (spAreBytes K) f37 _ := ⟨F37, b37, g37, ok_arebytes F37 B F36 b36 g36 F34 b34 g34 D33.G⟩
  have D48 : Kn l.prog w K mg base 5 "is_rest" sIsRest ["value"] (spIsRest K) f49 _ := ⟨F49, b49, g49, ok_isrest F49 B C2 D36⟩
  have D49 : Kn l.prog w K mg base 6 "is_packet" sIsPacket ["value"] (spIsPacket K) f50 _ := ⟨F50, b50, g50, ok_ispacket F50 B D35 D46 D48⟩
  have D50 : Kn l.prog w K mg base 7 "check_packet" sCheckPacket ["packet"] (spCheckPacket K) f51 _ := ⟨F51, b51, g51, ok_checkpacket F51 B D49⟩
  have D44 : Kn l.prog w K mg base 1 "header_size" sHeaderSize ["header"] (spHeaderSize K) f45 _ := ⟨F45, b45, g45, ok_headersize F45 B⟩
  have D45 : Kn l.prog w K mg base 1 "words_from" sWordsFrom ["header", "taken"] (spWordsFrom K) f46 _ := ⟨F46, b46, g46, ok_wordsfrom F46 B⟩
  have D53 : Kn l.prog w K mg base 2 "aim_by" sAimBy ["onward", "word"] (spAimBy K) f54 _ := ⟨F54, b54, g54, ok_aimby F54 B D52⟩
  have D66 : Kn l.prog w K mg base 1 "names_in" sNamesIn ["parts"] (spNamesInF K) f40 _ := ⟨F40, b40, g40, ok_namesinF F40 B⟩
  have D67 : Kn l.prog w K mg base 2 "word_asked" sWordAsked ["named", "held", "came_in", "place"] (spWordAsked K) f65 _ := ⟨F65, b65, g65, ok_wordasked F65 B C2 D66⟩
  have D68 : Kn l.prog w K mg base 3 "walk" sWalk ["frame", "packet"] (spWalk K) f66 _ := ⟨F66, b66, g66, ok_walk F66 B D44 D45 D53 D67 D51⟩
  have D65 : Kn l.prog w K mg base 9 "way_of" sWayOf ["frame", "packet"] (spWayOf K) f29 _ := ⟨F29, b29, g29, ok_wayof F29 B D62 D50 D68⟩
  have D63 : Kn l.prog w K mg base 4 "parsed" sParsedP ["frame", "packet"] (spParse K) f64 _ := ⟨F64, b64, g64, ok_parsedP F64 B D68 D39⟩
  have D64 : Kn l.prog w K mg base 9 "parse" sParse ["frame", "packet"] (spParse K) f30 _ := ⟨F30, b30, g30, ok_parse F30 B D62 D50 D63⟩
  have Gp : Prg l.prog w K mg base 9 9 _ _ _ _ := ⟨by decide, by decide, D65.F, D65.b, nW, D65.g, D65.G, D64.F, D64.b, nP, D64.g, D64.G⟩
  have D8 : Kn l.prog w K mg base 1 "_law_size" sSize ["_law_fields_here"] (spSize K) f10 _ := ⟨F10, b10, g10, ok_size F10 B⟩
  have D6 : Kn l.prog w K mg base 1 "_law_read" sRead ["_law_fields_here", "_law_taken"] (spRead K) f8 _ := ⟨F8, b8, g8, ok_read F8 B⟩
  have D22 : Kn l.prog w K mg base 3 "_law_going" sGoing ["_law_frame_here", "_law_packet"] (spGoing K) f24 _ := ⟨F24, b24, g24, ok_going F24 B D11 D8 D6 D19 D21 D20⟩
  have D23 : Kn l.prog w K mg base 4 "_law_parsed" sParsed ["_law_frame_here", "_law_packet"] (spParsed K) f25 _ := ⟨F25, b25, g25, ok_parsed F25 B D22⟩
  have G29 := ok_meets (P := l.prog) (w := w) (base := base) F28 B Gp D22 D23
  have G31 := ok_right (P := l.prog) (w := w) (base := base) F32 B Z D18 D28 D30 F28 b28 g28 G29
  exact ok_law F33 B F32 b32 g32 G31 F0 b0 g0
end
end LJ
open PySem PySem.W PyProof.Rows in
set_option maxRecDepth 100000 in
set_option maxHeartbeats 0 in
theorem PySem.Challenge.cw_switchstages_k04_whole_parsing_by_own_go_holds : PySem.Challenge.rw_switchstages_k04_whole_parsing_by_own_go.Holds := by
  w_on; o_law; k_head; (case hw => w_witness2)
  k_fill
  refine GuL.walkG (l := PySem.Challenge.rw_switchstages_k04_whole_parsing_by_own_go) (n := 63) (k := 15) (x := "_law_script") (sp := LJ.spLaw) rfl (by decide) rfl ⟨rfl, by decide, by decide⟩ (fun w h Y => PySem.W.kIn_of Y) ?F (fun K H a ns hl _ hS => ⟨a, ns, rfl, hS, hl, fun _ => rfl⟩)
  case F =>
    intro w mg fa h KX G hmg
    refine' LJ.all_mk KX G hmg ?a0 ?l0 ?c0 ?k0 ?a1 ?l1 ?c1 ?k1 ?a2 ?l2 ?c2 ?k2 ?a3 ?l3 ?c3 ?k3 ?a4 ?l4 ?c4 ?k4 ?a5 ?l5 ?c5 ?k5 ?a6 ?l6 ?c6 ?k6 ?a7 ?l7 ?c7 ?k7 ?a8 ?l8 ?c8 ?k8 ?a9 ?l9 ?c9 ?k9 ?a10 ?l10 ?c10 ?k10 ?a11 ?l11 ?c11 ?k11 ?a12 ?l12 ?c12 ?k12 ?a13 ?l13 ?c13 ?k13 ?a14 ?l14 ?c14 ?k14 ?a15 ?l15 ?c15 ?k15 ?a16 ?l16 ?c16 ?k16 ?a17 ?l17 ?c17 ?k17 ?a18 ?l18 ?c18 ?k18 ?a19 ?l19 ?c19 ?k19 ?a20 ?l20 ?c20 ?k20 ?a21 ?l21 ?c21 ?k21 ?a22 ?l22 ?c22 ?k22 ?a23 ?l23 ?c23 ?k23 ?a24 ?l24 ?c24 ?k24 ?a25 ?l25 ?c25 ?k25 ?a26 ?l26 ?c26 ?k26 ?a27 ?l27 ?c27 ?k27 ?a28 ?l28 ?c28 ?k28 ?a29 ?l29 ?c29 ?k29 ?a30 ?l30 ?c30 ?k30 ?a31 ?l31 ?c31 ?k31 ?a32 ?l32 ?c32 ?k32 ?a33 ?l33 ?c33 ?k33 ?a34 ?l34 ?c34 ?k34 ?a35 ?l35 ?c35 ?k35 ?a36 ?l36 ?c36 ?k36 ?a37 ?l37 ?c37 ?k37 ?a38 ?l38 ?c38 ?k38 ?a39 ?l39 ?c39 ?k39 ?a40 ?l40 ?c40 ?k40 ?a41 ?l41 ?c41 ?k41 ?a42 ?l42 ?c42 ?k42 ?a43 ?l43 ?c43 ?k43 ?a44 ?l44 ?c44 ?k44 ?a45 ?l45 ?c45 ?k45 ?a46 ?l46 ?c46 ?k46 ?a47 ?l47 ?c47 ?k47 ?a48 ?l48 ?c48 ?k48 ?a49 ?l49 ?c49 ?k49 ?a50 ?l50 ?c50 ?k50 ?a51 ?l51 ?c51 ?k51 ?a52 ?l52 ?c52 ?k52 ?a53 ?l53 ?c53 ?k53 ?a54 ?l54 ?c54 ?k54 ?a55 ?l55 ?c55 ?k55 ?a56 ?l56 ?c56 ?k56 ?a57 ?l57 ?c57 ?k57 ?a58 ?l58 ?c58 ?k58 ?a59 ?l59 ?c59 ?k59 ?a60 ?l60 ?c60 ?k60 ?a61 ?l61 ?c61 ?k61 ?a62 ?l62 ?c62 ?k62 ?a63 ?l63 ?c63 ?k63 ?a64 ?l64 ?c64 ?k64 ?a65 ?l65 ?c65 ?k65 ?a66 ?l66 ?c66 ?k66 ?a67 ?l67 ?c67 ?k67 ?a68 ?l68 ?c68 ?k68 ?z_int ?z_abs ?z_len ?z_divmod ?z_range ?z_tuple ?z_repr ?z_all ?z_max ?z_min ?z_sum ?z_zip ?z_str ?z_list ?z_set ?z_isinstance ?z_bool ?z_reversed ?z_sorted ?z_any ?z_enumerate ?y_mh ?y_mf ?y_mw ?y_mb ?y_mby ?y_ms ?y_mc ?y_lt ?y_ns ?y_kw ?y_es ?y_li ?l_kw ?q_kw ?w_kw (by kernel_rfl) (by kernel_rfl)
    (case a0 => k_is)
    (case l0 => k_is)
    (case c0 => k_is)
    (case k0 => k_is)
    (case a1 => k_is)
    (case l1 => k_is)
    (case c1 => k_is)
    (case k1 => k_is)
    (case a2 => k_is)
    (case l2 => k_is)
    (case c2 => k_is)
    (case k2 => k_is)
    (case a3 => k_is)
    (case l3 => k_is)
    (case c3 => k_is)
    (case k3 => k_is)
    (case a4 => k_is)
    (case l4 => k_is)
    (case c4 => k_is)
    (case k4 => k_is)
    (case a5 => k_is)
    (case l5 => k_is)
    (case c5 => k_is)
    (case k5 => k_is)
    (case a6 => k_is)
    (case l6 => k_is)
    (case c6 => k_is)
    (case k6 => k_is)
    (case a7 => k_is)
    (case l7 => k_is)
    (case c7 => k_is)
    (case k7 => k_is)
    (case a8 => k_is)
    (case l8 => k_is)
    (case c8 => k_is)
    (case k8 => k_is)
    (case a9 => k_is)
    (case l9 => k_is)
    (case c9 => k_is)
    (case k9 => k_is)
    (case a10 => k_is)
    (case l10 => k_is)
    (case c10 => k_is)
    (case k10 => k_is)
    (case a11 => k_is)
    (case l11 => k_is)
    (case c11 => k_is)
    (case k11 => k_is)
    (case a12 => k_is)
    (case l12 => k_is)
    (case c12 => k_is)
    (case k12 => k_is)
    (case a13 => k_is)
    (case l13 => k_is)
    (case c13 => k_is)
    (case k13 => k_is)
    (case a14 => k_is)
    (case l14 => k_is)
    (case c14 => k_is)
    (case k14 => k_is)
    (case a15 => k_is)
    (case l15 => k_is)
    (case c15 => k_is)
    (case k15 => k_is)
    (case a16 => k_is)
    (case l16 => k_is)
    (case c16 => k_is)
    (case k16 => k_is)
    (case a17 => k_is)
    (case l17 => k_is)
    (case c17 => k_is)
    (case k17 => k_is)
    (case a18 => k_is)
    (case l18 => k_is)
    (case c18 => k_is)
    (case k18 => k_is)
    (case a19 => k_is)
    (case l19 => k_is)
    (case c19 => k_is)
    (case k19 => k_is)
    (case a20 => k_is)
    (case l20 => k_is)
    (case c20 => k_is)
    (case k20 => k_is)
    (case a21 => k_is)
    (case l21 => k_is)
    (case c21 => k_is)
    (case k21 => k_is)
    (case a22 => k_is)
    (case l22 => k_is)
    (case c22 => k_is)
    (case k22 => k_is)
    (case a23 => k_is)
    (case l23 => k_is)
    (case c23 => k_is)
    (case k23 => k_is)
    (case a24 => k_is)
    (case l24 => k_is)
    (case c24 => k_is)
    (case k24 => k_is)
    (case a25 => k_is)
    (case l25 => k_is)
    (case c25 => k_is)
    (case k25 => k_is)
    (case a26 => k_is)
    (case l26 => k_is)
    (case c26 => k_is)
    (case k26 => k_is)
    (case a27 => k_is)
    (case l27 => k_is)
    (case c27 => k_is)
    (case k27 => k_is)
    (case a28 => k_is)
    (case l28 => k_is)
    (case c28 => k_is)
    (case k28 => k_is)
    (case a29 => k_is)
    (case l29 => k_is)
    (case c29 => k_is)
    (case k29 => k_is)
    (case a30 => k_is)
    (case l30 => k_is)
    (case c30 => k_is)
    (case k30 => k_is)
    (case a31 => k_is)
    (case l31 => k_is)
    (case c31 => k_is)
    (case k31 => k_is)
    (case a32 => k_is)
    (case l32 => k_is)
    (case c32 => k_is)
    (case k32 => k_is)
    (case a33 => k_is)
    (case l33 => k_is)
    (case c33 => k_is)
    (case k33 => k_is)
    (case a34 => k_is)
    (case l34 => k_is)
    (case c34 => k_is)
    (case k34 => k_is)
    (case a35 => k_is)
    (case l35 => k_is)
    (case c35 => k_is)
    (case k35 => k_is)
    (case a36 => k_is)
    (case l36 => k_is)
    (case c36 => k_is)
    (case k36 => k_is)
    (case a37 => k_is)
    (case l37 => k_is)
    (case c37 => k_is)
    (case k37 => k_is)
    (case a38 => k_is)
    (case l38 => k_is)
    (case c38 => k_is)
    (case k38 => k_is)
    (case a39 => k_is)
    (case l39 => k_is)
    (case c39 => k_is)
    (case k39 => k_is)
    (case a40 => k_is)
    (case l40 => k_is)
    (case c40 => k_is)
    (case k40 => k_is)
    (case a41 => k_is)
    (case l41 => k_is)
    (case c41 => k_is)
    (case k41 => k_is)
    (case a42 => k_is)
    (case l42 => k_is)
    (case c42 => k_is)
    (case k42 => k_is)
    (case a43 => k_is)
    (case l43 => k_is)
    (case c43 => k_is)
    (case k43 => k_is)
    (case a44 => k_is)
    (case l44 => k_is)
    (case c44 => k_is)
    (case k44 => k_is)
    (case a45 => k_is)
    (case l45 => k_is)
    (case c45 => k_is)
    (case k45 => k_is)
    (case a46 => k_is)
    (case l46 => k_is)
    (case c46 => k_is)
    (case k46 => k_is)
    (case a47 => k_is)
    (case l47 => k_is)
    (case c47 => k_is)
    (case k47 => k_is)
    (case a48 => k_is)
    (case l48 => k_is)
    (case c48 => k_is)
    (case k48 => k_is)
    (case a49 => k_is)
    (case l49 => k_is)
    (case c49 => k_is)
    (case k49 => k_is)
    (case a50 => k_is)
    (case l50 => k_is)
    (case c50 => k_is)
    (case k50 => k_is)
    (case a51 => k_is)
    (case l51 => k_is)
    (case c51 => k_is)
    (case k51 => k_is)
    (case a52 => k_is)
    (case l52 => k_is)
    (case c52 => k_is)
    (case k52 => k_is)
    (case a53 => k_is)
    (case l53 => k_is)
    (case c53 => k_is)
    (case k53 => k_is)
    (case a54 => k_is)
    (case l54 => k_is)
    (case c54 => k_is)
    (case k54 => k_is)
    (case a55 => k_is)
    (case l55 => k_is)
    (case c55 => k_is)
    (case k55 => k_is)
    (case a56 => k_is)
    (case l56 => k_is)
    (case c56 => k_is)
    (case k56 => k_is)
    (case a57 => k_is)
    (case l57 => k_is)
    (case c57 => k_is)
    (case k57 => k_is)
    (case a58 => k_is)
    (case l58 => k_is)
    (case c58 => k_is)
    (case k58 => k_is)
    (case a59 => k_is)
    (case l59 => k_is)
    (case c59 => k_is)
    (case k59 => k_is)
    (case a60 => k_is)
    (case l60 => k_is)
    (case c60 => k_is)
    (case k60 => k_is)
    (case a61 => k_is)
    (case l61 => k_is)
    (case c61 => k_is)
    (case k61 => k_is)
    (case a62 => k_is)
    (case l62 => k_is)
    (case c62 => k_is)
    (case k62 => k_is)
    (case a63 => k_is)
    (case l63 => k_is)
    (case c63 => k_is)
    (case k63 => k_is)
    (case a64 => k_is)
    (case l64 => k_is)
    (case c64 => k_is)
    (case k64 => k_is)
    (case a65 => k_is)
    (case l65 => k_is)
    (case c65 => k_is)
    (case k65 => k_is)
    (case a66 => k_is)
    (case l66 => k_is)
    (case c66 => k_is)
    (case k66 => k_is)
    (case a67 => k_is)
    (case l67 => k_is)
    (case c67 => k_is)
    (case k67 => k_is)
    (case a68 => k_is)
    (case l68 => k_is)
    (case c68 => k_is)
    (case k68 => k_is)
    (case z_int => k_is)
    (case z_abs => k_is)
    (case z_len => k_is)
    (case z_divmod => k_is)
    (case z_range => k_is)
    (case z_tuple => k_is)
    (case z_repr => k_is)
    (case z_all => k_is)
    (case z_max => k_is)
    (case z_min => k_is)
    (case z_sum => k_is)
    (case z_zip => k_is)
    (case z_str => k_is)
    (case z_list => k_is)
    (case z_set => k_is)
    (case z_isinstance => k_is)
    (case z_bool => k_is)
    (case z_reversed => k_is)
    (case z_sorted => k_is)
    (case z_any => k_is)
    (case z_enumerate => k_is)
    (case y_mh => k_is)
    (case y_mf => k_is)
    (case y_mw => k_is)
    (case y_mb => k_is)
    (case y_mby => k_is)
    (case y_ms => k_is)
    (case y_mc => k_is)
    (case y_lt => k_is)
    (case y_ns => k_is)
    (case y_kw => k_is)
    (case y_es => k_is)
    (case y_li => k_is)
    (case l_kw => k_is)
    (case q_kw => rfl)
    (case w_kw => decide)

