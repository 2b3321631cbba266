import PyProof.Rows.All
import Wide.All
import OpenK.AllK
import Wide.FinOn
import HandS.ForMost
import HandS.Flow
import PyProof.ReprRoads
import PyProof.CallFns
import HandS.Walk
import HandS.Evl
import HandS.TupAny
import HandS.TupMul
import HandS.WideBits
import HandS.RevRange
import PyProof.ReprLen
import PyProof.StrLawsRepr
import HandS.IsInst
import HandS.More
import KE.GoesEnum
import KE.GoesMore
import HandS.Zip
import HandS.Defaults
import PyProof.EqLayable
import PyProof.EqKinds
import PyProof.Walk
import PyProof.WalkLemmas
import HandS.List
import HandS.Dict
import HandS.Wide
import HandS.StrMore
import PyProof.Rows.BitMore
import HandS.Iter
import HandS.SetFor
import HandS.Strs
import HandS.HeadHook1
import HandS.Exc
import HandS.ExcInit
import KE.KExcInit
import KE.KExcIs
import HandS.ExcValue
import PySem.Challenge.RW_switchstages_k30_whole_fewest_prefixes_a
set_option Elab.async false
set_option linter.all false
set_option maxRecDepth 100000
set_option maxHeartbeats 4000000
namespace GuL
open PySem PySem.Spec PyProof.Rows L2
/-! ### a def whose promise holds where no repr is under way -/
structure FnG (P : Program) (w : World) (K : PySem.W.Frag) (mg : Str → Option Value) (base : Heap) (CX : CXT) (k : Nat) (f : Addr) (fd : FuncData) (ps : List Str) (sp : Sp) : Prop where
  len : ∀ vs H Q E, sp vs H Q E → vs.length = ps.length
  go : ∀ (A : Around) (outer : List Env) (s : Shared) (H : Hp) (as : Args) (us : List Value) (vs : List V) (Q : VK) (E : XK), A.guards = some [] → Room k A → Env0 P w K mg base A outer s H → BindsTo s fd as (ps.zip us) →
    Vals vs us → sp vs H Q E → codeAny (model P w) A (.call (.ref f) as) (CR CX outer P w H s Q E) s
theorem FnG.of {P : Program} {w : World} {K : PySem.W.Frag} {mg : Str → Option Value} {base : Heap} {CX : CXT} {k : Nat} {f : Addr} {fd : FuncData} {ps : List Str} {sp : Sp} (F : FnOk P w K mg base CX k f fd ps sp) : FnG P w K mg base CX k f fd ps sp :=
  ⟨F.len, fun A outer s H as us vs Q E _ => F.run A outer s H as us vs Q E⟩
section
variable {X : Cx} {CX : CXT} {k : Nat} {f : Addr} {fd : FuncData} {ps : List Str} {sp : Sp} {dvs : List V} {ds : List Value} {E : XK} {x : Str} {p pos : Pos} {e : Expr} {es : List Expr} {t : TA}
theorem runG {pins : List (Addr × Obj)} {σ : L2.St} {H : Hp} {s : Shared} {Q : VK} {us : List Value} {vs : List V} (F : FnG X.prog X.w X.K X.mg X.base CX k f fd ps sp) (hA : X.A.guards = some []) (hr : Room k X.A) (hb : Binds X.K fd ps ds) (hd : Vals dvs ds) (hx : Passes CX X E)
    (I : L2.Inv X pins σ H s) (r : Vals vs us) (h : sp (vs ++ dvs) H Q E) : wpAny (model X.prog X.w) X.A (call (.ref f) us) (EP X pins σ Q) X.xe s := by
  have q2 : Vals (vs ++ dvs) (us ++ ds) := r.append hd
  have ql : (us ++ ds).length = ps.length := q2.length.symm.trans (F.len _ _ _ _ h)
  have go := F.go X.A X.stack s H ⟨us, []⟩ (us ++ ds) (vs ++ dvs) Q E hA hr I.env0 (hb s us I.kIn ql) q2 h
  refine wpAny_call (codeAny_mono go fun rr s' hq => ?_)
  match rr, hq with
  | .error e, hq => exact hx pins σ H s e s' I hq
  | .ok (.ret u), hq => exact I.after hq
theorem pe_callG (F : FnG X.prog X.w X.K X.mg X.base CX k f fd ps sp) (hA : X.A.guards = some []) (hr : Room k X.A) (hg : Gl X x) (hm : X.mg x = some (.ref f)) (hk : PySem.W.keepIn X.K (.ref f) = true) (hb : Binds X.K fd ps ds) (hd : Vals dvs ds) (hx : Passes CX X E) (ha : PA X (e :: es) t)
    (hdb : (x == ("__debug__" : Str)) = false := by decide) (he : starEach (e :: es) X.env = (false, eval e X.env) :: starEach es X.env := by rfl) (hpl : (backTo pos (starEach es X.env)).any (·.1) = false := by rfl) :
    PE X (.Call (.Name x p) (e :: es) [] pos) (tCall sp dvs E t) :=
  ⟨fun pins s σ H Q I h => wpAny_Call_Name_kw (ld_glob I hg hm (PySem.W.callWith_K (h₀ := X.base) I.ok.mod.kin hk (thn (ha.run pos pins s σ H _ I h) fun us s1 hh => by
    obtain ⟨vs, H1, I1, r, q⟩ := hh
    exact ⟨I1.kIn, runG F hA hr hb hd hx I1 r q⟩) he hpl) hdb)⟩
end
/-- the rule for such a def -/
theorem okG {P : Program} {w : World} {K : PySem.W.Frag} {mg : Str → Option Value} {base : Heap} {x qual : Str} {st : Stmt} {f : Addr} {fd : FuncData} {N ps : List Str} {k : Nat} {sp : Sp} (F : Fun K x qual st f fd) (S : FnScope N ps (defScope st)) (len : ∀ vs H Q E, sp vs H Q E → vs.length = ps.length)
    (body : ∀ (cdv : Value) (A : Around) (outer : List Env) (s : Shared) (H : Hp) (vs : List V) (Q : VK) (E : XK), A.guards = some [] → Room k (A.deeper (envOfC qual (defScope st) s.heap.objs.size f cdv)) → sp vs H Q E →
      ∃ t, PSs (cxOf CX0 P w K mg base N qual (defScope st) f cdv A outer s H E).nox (defBody st) t ∧ t { nx := fun _ H' => Q .non H', rt := Q } (start N vs) H) : FnG P w K mg base CX0 (k + 1) f fd ps sp := by
  obtain ⟨oc, od, kV, doc, pm, an, cdv, ct, osl, rfl, lk, hcd⟩ := F.ex
  constructor
  · exact len
  intro A outer s H as us vs Q E hA hr e0 hb r hsp
  have kin : K.In s.heap := e0.mod.kin.keeps fun b o e => (e0.bs b o e).1
  have noL : s.heap.NoLimit := e0.mod.nolimit.keeps fun b o e => (e0.bs b o e).1
  have kinds : ∀ y ∈ ps.zip us, (defScope st).names.lookup y.1 = some .local ∨ ((defScope st).names.lookup y.1 = some .cell ∧ ((cellsFrom (s.heap.objs.size + 1) (defScope st).names []).lookup y.1).isSome = true) := by
    rintro ⟨n, v⟩ hy
    cases S.par n (List.of_mem_zip hy).1 with
    | inl q => exact .inl q
    | inr q => exact .inr ⟨q, PySem.W.cellsFrom_some _ _ _ (.inl q)⟩
  refine codeAny_call_function hr.depth (kin _ _ lk) rfl S.co S.gen rfl (PySem.W.codeRec_of kin hcd) (hb _ _ _ _ (wpAny_newFunctionEnv_cells S.kind kinds fun env he s1 z => ?_))
  subst he
  refine ⟨noL.keeps z.toInCall.keep, codeAny_func ?_⟩
  obtain ⟨t, ht, hq⟩ := body cdv A outer s H vs Q E hA (hr.deeper _) hsp
  have J := inv_start (E := E) (CX := CX0) (P := P) (w := w) S hr.hd e0 (len _ _ _ _ hsp) r z
  refine wpAny_mono (ht.nox.run [] s1 (start N vs) H _ J hq) (fun fl s' hs => ?_) fun e s' hs => hs
  match fl, hs with
  | .ret u, hs =>
    obtain ⟨v, σ', H', J2, rv, q⟩ := hs
    exact ⟨v, H', J2.os, J2.bare, J2.base, J2.hok, rv, q⟩
  | .next, hs =>
    obtain ⟨σ', H', J2, q⟩ := hs
    exact ⟨.non, H', J2.os, J2.bare, J2.base, J2.hok, rfl, q⟩
  | .brk, hs =>
    obtain ⟨_, _, _, q⟩ := hs
    exact q.elim
  | .cont, hs =>
    obtain ⟨_, _, _, q⟩ := hs
    exact q.elim
/-! ### repr of data -/
/-- v is shown as z -/
inductive Shd (K : PySem.W.Frag) (H : Hp) : V → PyData → Prop where
  | dat {v : V} {d : PyData} (h : Dp K H v d) (n : d.hasDict = false) : Shd K H v d
  | emp {a : Addr} (h : H a = some (.dK [])) : Shd K H (.ref a) (.dict [])
def rRepr (K : PySem.W.Frag) : List V → Hp → VK → Prop := fun xs H Q => ∃ (v : V) (d : PyData), xs = [v] ∧ Shd K H v d ∧ d.showable = true ∧ d.depth ≤ 40 ∧ d.shown.length ≤ sizeLine ∧ Q (.str d.shown) H
theorem call_repr {X : Cx} (hA : X.A.guards = some []) (hu : X.A.units + 64 < cLine) : CallR X (.builtin "repr") (rRepr X.K) := by
  intro pins s σ H xs us Q I r h
  obtain ⟨v, d, rfl, hd, hs, hp, hz, q⟩ := h
  obtain ⟨u, rfl, ru⟩ := vals1 r
  have rd : ∃ as, Reads s.heap u d as ∧ (d.hasDict = true → sysModules ∉ as) := by
    cases hd with
    | dat h n =>
      obtain ⟨as, q⟩ := Dp.reads I d v u h ru
      exact ⟨as, q, fun e => by rw [n] at e; cases e⟩
    | @emp a h =>
      obtain rfl : u = Value.ref a := ru
      obtain ⟨_, hsys, vs, kv, o, es, ep, h1, h2, h3, h4⟩ := (show ObjOk X.prog X.w H s.heap a (.dK []) from I.hok a _ h)
      cases kv
      have he : es.toList = [] := by
        have h5 := h4.2.1
        revert h5
        generalize es.toList = l
        intro h5
        cases h5
        rfl
      refine ⟨a :: [] ++ [], Reads.dict h1 h2.1 h3 (by rw [he]; exact .nil) (by rw [he]; exact .nil), fun _ m => ?_⟩
      have e : sysModules = a := by simpa using m
      rw [e] at hsys
      simp at hsys
  obtain ⟨as, rd, hsm⟩ := rd
  cases v with
  | ref a =>
    obtain rfl : u = Value.ref a := ru
    exact repr_of_reads' rd hs hsm hA (by omega) (fun _ _ e => e) (fun h' u' tk k => ⟨.str d.shown, H, I.kept (t' := tk) k, ⟨u', rfl⟩, q⟩) hz
  | non =>
    obtain rfl : u = Value.none := ru
    cases rd
    exact PySem.P.repr_of_none ⟨.str _, H, I.tok _, ⟨_, rfl⟩, q⟩
  | bl b =>
    obtain rfl : u = Value.bool b := ru
    cases rd
    exact PySem.P.repr_of_bool ⟨.str _, H, I.tok _, ⟨_, rfl⟩, q⟩
  | int i =>
    obtain ⟨t, rfl⟩ := ru
    cases rd
    exact PySem.P.repr_of_int (of_decide_eq_true hs) ⟨.str _, H, I.tok _, ⟨_, rfl⟩, q⟩
  | str z =>
    obtain ⟨t, rfl⟩ := ru
    cases rd
    exact PySem.P.repr_of_str ⟨.str _, H, I.tok _, ⟨_, rfl⟩, q⟩ hz
  | byt b =>
    obtain ⟨t, rfl⟩ := ru
    cases rd
  | flt b =>
    obtain ⟨t, rfl⟩ := ru
    cases rd
  | ty n =>
    obtain rfl : u = Value.type n := ru
    cases rd
/-! ### the end of a law -/
section
variable {P : Program} {w : World} {K : PySem.W.Frag} {mg mb : Str → Option Value} {CX : CXT} {k : Nat} {fa a : Addr} {fd : FuncData} {x : Str} {sp : Sp} {s₁ : Shared} {vs : List Value} {ns : List Int}
/-- what a law's call leaves -/
abbrev Done (s₁ : Shared) (r : Result) (s' : Shared) : Prop := r = .ok (.ret (.bool true)) ∧ OldK s₁.heap s'.heap ∧ s'.os = s₁.os ∧ AllBare s'.gens
/-- the heap of what is tracked holds the script at a, or nothing -/
structure Scr (P : Program) (w : World) (K : PySem.W.Frag) (h : Heap) (a : Addr) (obj : Obj) (ns : List Int) (H : Hp) : Prop where
  only : Only H
  seq : SqL K H a (ns.map V.int)
  hok : HOk P w H h
  at_ : ∀ b, H b ≠ none → b = a
  nk : H a ≠ none → K.lookup a = none
theorem law_core {H : Hp} (KX : K.In s₁.heap) (hns : s₁.heap.Ns mainGlobals mg) (hb : s₁.heap.Ns builtinsNs mb) (hbb : ∀ x : Str, x ≠ "__name__" → mb x = bootBuiltins x) (hlim : s₁.heap.NoLimit) (hg : s₁.gens = #[])
    (ha : s₁.heap.get? a = some { cls := .type "list", data := .seq vs.toArray }) (hr : Room k callerA) (S : Scr P w K s₁.heap a { cls := .type "list", data := .seq vs.toArray } ns H)
    (F : ∀ base : Heap, K.In base → base.Ns mainGlobals mg → FnG P w K mg base CX k fa fd [x] sp) (hbind : ∀ (s : Shared) (u : Value), BindsTo s fd ⟨[u], []⟩ [(x, u)])
    (hsp : sp [.ref a] H (fun v _ => v = .bl true) fun _ _ _ => False) (hCX : ∀ e s', CX [] H s₁ (fun _ _ _ => False) e s' → False) :
    codeAny (model P w) callerA (.call (.ref fa) ⟨[.ref a], []⟩) (Done s₁) s₁ := by
  have free : ∀ {b : Addr} {o : Obj}, s₁.heap.get? b = some o → b ≠ a → H b = none := fun {b o} _ n => by
    by_cases z : H b = none
    · exact z
    · exact (n (S.at_ b z)).elim
  have hid : ∀ {b : Addr} {o : Obj}, s₁.heap.get? b = some o → H b = none → (hidT s₁.heap H).get? b = some o := hidT_get
  have dict : ∀ {b : Addr} {m : Str → Option Value}, s₁.heap.Ns b m → (hidT s₁.heap H).Ns b m := by
    rintro b m ⟨o, es, ep, e, dt, rr⟩
    refine ⟨o, es, ep, hid e (free e fun z => ?_), dt, rr⟩
    subst z
    rw [ha] at e
    cases e
    exact nomatch (show Data.seq vs.toArray _ = Data.dict es ep from dt)
  have kin : K.In (hidT s₁.heap H) := fun b o e => by
    refine hid (KX b o e) ?_
    by_cases z : H b = none
    · exact z
    · have eb := S.at_ b z
      subst eb
      have q := S.nk z
      rw [e] at q
      cases q
  have M : Mod K mg (hidT s₁.heap H) := by
    obtain ⟨mc, l1, l2⟩ := hlim
    exact ⟨kin, dict hns, ⟨mb, dict hb, hbb⟩, ⟨mc, dict l1, l2⟩⟩
  have none0 : ∀ b : Addr, b ∉ ([] : List Addr) := fun b z => nomatch z
  have e0 : Env0 P w K mg (hidT s₁.heap H) callerA [] s₁ H := ⟨rfl, M, fun b o e => of_hidT e, Nat.le_of_eq (hidT_size _ _), trivial, fun b z => (none0 b z).elim, S.hok, .of_eq hg⟩
  have go := (F _ kin (dict hns)).go callerA [] s₁ H ⟨[.ref a], []⟩ [.ref a] [.ref a] _ _ rfl hr e0 (hbind s₁ (.ref a)) (.cons rfl .nil) hsp
  refine codeAny_mono go fun r s' h => ?_
  match r, h with
  | .error e, h => exact (hCX e s' h).elim
  | .ok (.ret u), h =>
    obtain ⟨v, H', os, bare, un, hok', rv, q⟩ := h
    have ev : v = .bl true := q
    subst ev
    have eu : u = Value.bool true := rv
    subst eu
    refine ⟨rfl, OldK.of_keep fun b o e => ?_, os, bare⟩
    by_cases z : H b = none
    · exact un.keep b o e z (none0 b) (none0 b)
    · rcases S.only b with y | ⟨ob, xs, y⟩
      · exact (z y).elim
      · obtain ⟨e1, _⟩ := S.hok b _ y
        obtain ⟨e2, _⟩ := hok' b _ (un.frzs b ob _ y)
        rw [e] at e1
        cases e1
        exact e2
theorem law_callG (KX : K.In s₁.heap) (hns : s₁.heap.Ns mainGlobals mg) (hb : s₁.heap.Ns builtinsNs mb) (hbb : ∀ x : Str, x ≠ "__name__" → mb x = bootBuiltins x) (hlim : s₁.heap.NoLimit) (hg : s₁.gens = #[])
    (ha : s₁.heap.get? a = some { cls := .type "list", data := .seq vs.toArray }) (hi : IntsAre vs ns) (hl : ns.length ≤ sizeLine) (hr : Room k callerA)
    (F : ∀ base : Heap, K.In base → base.Ns mainGlobals mg → FnG P w K mg base CX k fa fd [x] sp) (hbind : ∀ (s : Shared) (u : Value), BindsTo s fd ⟨[u], []⟩ [(x, u)])
    (hsp : ∀ H : Hp, Only H → SqL K H a (ns.map V.int) → sp [.ref a] H (fun v _ => v = .bl true) fun _ _ _ => False)
    (hCX : ∀ H e s', CX [] H s₁ (fun _ _ _ => False) e s' → False) :
    codeAny (model P w) callerA (.call (.ref fa) ⟨[.ref a], []⟩) (Done s₁) s₁ := by
  have rv := vals_ints hi
  have lv := hi.length
  have key : ∃ H, Scr P w K s₁.heap a { cls := .type "list", data := .seq vs.toArray } ns H := by
    by_cases hk : K.lookup a = none
    · have at0 : ∀ {b : Addr} {u : HO}, (if b = a then some (HO.frz { cls := .type "list", data := .seq vs.toArray } (.lst (ns.map V.int))) else none) = some u → b = a ∧ u = HO.frz { cls := .type "list", data := .seq vs.toArray } (.lst (ns.map V.int)) := fun {b u} z => by
        by_cases e : b = a
        · rw [if_pos e] at z
          exact ⟨e, (Option.some.inj z).symm⟩
        · rw [if_neg e] at z
          cases z
      refine ⟨fun b => if b = a then some (.frz { cls := .type "list", data := .seq vs.toArray } (.lst (ns.map V.int))) else none, ⟨fun b => ?_, ?_, fun b u z => ?_, fun b z => ?_, fun _ => hk⟩⟩
      · by_cases e : b = a
        · right
          exact ⟨_, _, if_pos e⟩
        · left
          exact if_neg e
      · left
        right
        exact ⟨_, if_pos rfl⟩
      · obtain ⟨rfl, rfl⟩ := at0 z
        exact ⟨ha, by rw [List.length_map]; exact hl, vs, _, rv, ha⟩
      · by_cases e : b = a
        · exact e
        · exact (z (if_neg e)).elim
    · obtain ⟨o, ho⟩ := Option.ne_none_iff_exists'.mp hk
      have e := KX a o ho
      rw [ha] at e
      cases e
      refine ⟨fun _ => none, ⟨fun _ => .inl rfl, ?_, fun b u z => (nomatch z), fun b z => (z rfl).elim, fun z => (z rfl).elim⟩⟩
      right
      exact ⟨_, vs.toArray, _, ho, rfl, rfl, rfl, by rw [List.size_toArray, lv]; exact hl, by simpa using rv⟩
  obtain ⟨H, S⟩ := key
  exact law_core KX hns hb hbb hlim hg ha hr S F hbind (hsp H S.only S.seq) (hCX H)
end
theorem walkG {l : PySem.W.OpenLaw} {n k : Nat} {q : Program} {loose : List Str} {XP : (Str → Option Value) → Heap → Prop} {YP : World → Heap → Prop} {d : DefRec} {K : Params → PySem.W.Frag} {sp : PySem.W.Frag → Sp} {x : Str}
    (hn : l.most = some n) (hn2 : n ≤ sizeLine) (hdf : d.params.defaults = []) (hr : Room k callerA) (hY : ∀ (w : World) (h : Heap), YP w h → (K w.params).In h)
    (F : ∀ (w : World) (mg : Str → Option Value) (fa : Addr) (h : Heap), (K w.params).In h → h.Ns mainGlobals mg → mg d.name = some (.ref fa) →
      ∃ fd : FuncData, (∀ (s : Shared) (u : Value), BindsTo s fd ⟨[u], []⟩ [(x, u)]) ∧ ∀ base : Heap, (K w.params).In base → base.Ns mainGlobals mg → FnG l.prog w (K w.params) mg base CX0 k fa fd [x] (sp (K w.params)))
    (hsp : ∀ (K : PySem.W.Frag) (H : Hp) (a : Addr) (ns : List Int), ns.length ≤ n → Only H → SqL K H a (ns.map V.int) → sp K [.ref a] H (fun v _ => v = .bl true) fun _ _ _ => False) :
    PySem.W.WalkO q loose XP YP l.row.toRowW d [] (fun f vs => PySem.call f vs) := by
  refine Att.attach_call hn hdf fun w s₀ s₁ mg mb fa o pm cd doc a vs ns G Y ho hd hcd hmg hobj hints hlen hg => ?_
  obtain ⟨fd, hb, hF⟩ := F w mg fa _ (hY w _ Y) G.T.g hmg
  exact law_callG (hY w _ Y) G.T.g G.T.b G.T.builtins G.T.nolimit hg hobj hints (Nat.le_trans hlen hn2) hr hF hb (fun H h2 h3 => hsp _ H a ns hlen h2 h3) fun H e s' z => z
end GuL

namespace HG
open PySem PySem.Spec PyProof.Rows L2 GuL
/-! ### heaps -/
/-- all that was tracked is as it was, but b -/
def Exb (b : Addr) (H H' : Hp) : Prop := ∀ p u, p ≠ b → H p = some u → H' p = some u
theorem Exb.refl (b : Addr) (H : Hp) : Exb b H H := fun _ _ _ h => h
theorem Exb.trans {b : Addr} {H H1 H2 : Hp} (a : Exb b H H1) (c : Exb b H1 H2) : Exb b H H2 := fun p u n h => c p u n (a p u n h)
theorem Exb.of {b : Addr} {H H' : Hp} (a : Same H H') : Exb b H H' := fun p u _ h => a p u h
theorem Exb.put {b : Addr} {H : Hp} {o : HO} : Exb b H (upd H b o) := fun p u n h => by
  rw [upd_ne n]
  exact h
theorem Exb.fresh {b D : Addr} {H H' : Hp} (a : Exb b H H') (n : D ≠ b) (h : H' D = none) : H D = none := by
  cases q : H D with
  | none => rfl
  | some u =>
    rw [a D u n q] at h
    cases h
theorem Exb.mut {b D : Addr} {H H' : Hp} {o : HO} (a : Exb b H H') (h : H D = none) : Exb b H (upd H' D o) := fun p u n q => by
  rw [upd_ne (ne_of_none q h)]
  exact a p u n q
theorem same_new {H : Hp} {p : Addr} {o : HO} (h : H p = none) : Same H (upd H p o) := fun b x e => by
  rw [upd_ne (ne_of_none e h)]
  exact e
/-- the bowl -/
def bw (o m c : Int) : HO := .lst [.int o, .int m, .int c]
theorem cutV_mem {xs : List V} {lo hi : Option Int} {x : V} (h : x ∈ cutV xs lo hi) : x ∈ xs := by
  unfold cutV at h
  exact List.mem_of_mem_drop (List.mem_of_mem_take h)
theorem int_of_mem {ns : List Int} {y : V} (h : y ∈ ns.map V.int) : ∃ z, y = V.int z := by
  obtain ⟨z, _, e⟩ := List.mem_map.mp h
  exact ⟨z, e.symm⟩
theorem getI {ns : List Int} {t : Int} (h0 : 0 ≤ t) (h1 : t < ((ns.map V.int).length : Int)) : ∃ z, atI (ns.map V.int) t = some (V.int z) := by
  obtain ⟨j, rfl⟩ := Int.eq_ofNat_of_zero_le h0
  have hj : j < ns.length := by
    rw [List.length_map] at h1
    omega
  refine ⟨ns[j], atI_nat ?_⟩
  rw [List.getElem?_map, List.getElem?_eq_getElem hj]
  rfl
theorem sqT_exb {K : PySem.W.Frag} {b t : Addr} {H H' : Hp} {xs : List V} (e : Exb b H H') (n : t ≠ b) (h : SqT K H t xs) : SqT K H' t xs := by
  rcases h with (h | ⟨o, h⟩) | h
  · exact .inl (.inl (e _ _ n h))
  · exact .inl (.inr ⟨o, e _ _ n h⟩)
  · exact .inr h
structure Okd (d : PyData) : Prop where
  sh : d.showable = true
  dp : d.depth ≤ 40
  lv : d.leavesShort 13 = true
  wt : d.weight ≤ 2 ^ 20
theorem Okd.fits {d : PyData} (h : Okd d) : d.shown.length ≤ sizeLine := PyData.shown_fits (B := 13) (by decide) (by decide) h.lv h.wt
theorem log_small {n : Nat} (h : n < 2 ^ 40) : n.log2 < 40 := by
  by_cases z : n = 0
  · rw [z]; decide
  · exact (Nat.log2_lt z).mpr h
theorem okd_int {r : Int} (h0 : -100 ≤ r) (h1 : r < 5000000000) : Okd (.int r) := by
  have a : r.natAbs < 10 ^ 12 := by omega
  have l : r.natAbs.log2 < 40 := log_small (show r.natAbs < 2 ^ 40 by omega)
  refine ⟨?_, by simp [PyData.depth], ?_, ?_⟩
  · simp only [PyData.showable, decide_eq_true_eq]
    omega
  · simp only [PyData.leavesShort, decide_eq_true_eq]
    exact PyData.shown_int_le a
  · simp only [PyData.weight]
    split <;> omega
theorem okd_ints : ∀ {rs : List Int}, rs.length ≤ 100 → (∀ r ∈ rs, 0 ≤ r ∧ r < 5000000000) → Okd (.tuple (rs.map .int)) := fun {rs} hl h => by
  have key : ∀ l : List Int, (∀ r ∈ l, 0 ≤ r ∧ r < 5000000000) → PyData.showableAll (l.map .int) = true ∧ PyData.depthAll (l.map .int) = 0 ∧ PyData.leavesShortAll 13 (l.map .int) = true ∧ PyData.weightAll (l.map .int) ≤ 50 * l.length := by
    intro l
    induction l with
    | nil => intro _; exact ⟨rfl, rfl, rfl, Nat.le_refl _⟩
    | cons r l ih =>
      intro h
      obtain ⟨i1, i2, i3, i4⟩ := ih fun x hx => h x (List.mem_cons_of_mem _ hx)
      obtain ⟨r0, r1⟩ := h r List.mem_cons_self
      have o := okd_int (r := r) (by omega) r1
      have l40 : r.natAbs.log2 < 40 := log_small (show r.natAbs < 2 ^ 40 by omega)
      refine ⟨?_, ?_, ?_, ?_⟩
      · simp only [List.map_cons, PyData.showableAll, o.sh, i1, Bool.and_self]
      · simp only [List.map_cons, PyData.depthAll, i2, PyData.depth]
        rfl
      · simp only [List.map_cons, PyData.leavesShortAll, o.lv, i3, Bool.and_self]
      · have e : PyData.weight (.int r) ≤ 41 := by
          simp only [PyData.weight]
          split <;> omega
        simp only [List.map_cons, PyData.weightAll, List.length_cons]
        omega
  obtain ⟨i1, i2, i3, i4⟩ := key rs h
  exact ⟨by simp only [PyData.showable, i1], by simp only [PyData.depth, i2]; decide, by simp only [PyData.leavesShort, i3], by simp only [PyData.weight]; omega⟩
theorem okd_str {z : Str} (hl : z.length ≤ 1000) (h : ∀ c ∈ z.cps.toList, c < 16 ^ 8) : Okd (.str z) := by
  refine ⟨rfl, by simp [PyData.depth], ?_, ?_⟩
  · simp only [PyData.leavesShort, List.all_eq_true, decide_eq_true_eq]
    exact h
  · simp only [PyData.weight]
    have e : z.cps.size = z.length := rfl
    omega
theorem sameT {K : PySem.W.Frag} {H H' : Hp} {a : Addr} {xs : List V} (e : Same H H') (h : SqT K H a xs) : SqT K H' a xs := by
  rcases h with (h | ⟨o, h⟩) | h
  · exact .inl (.inl (e _ _ h))
  · exact .inl (.inr ⟨o, e _ _ h⟩)
  · exact .inr h
mutual
theorem dpSame {K : PySem.W.Frag} {H H' : Hp} (e : Same H H') : ∀ {v : V} {d : PyData}, Dp K H v d → Dp K H' v d
  | _, _, .non => .non
  | _, _, .bl b => .bl b
  | _, _, .int i => .int i
  | _, _, .str x => .str x
  | _, _, .lst h r => .lst (e.seq h) (dpSameAll e r)
  | _, _, .tup h r => .tup (sameT e h) (dpSameAll e r)
theorem dpSameAll {K : PySem.W.Frag} {H H' : Hp} (e : Same H H') : ∀ {vs : List V} {ds : List PyData}, DpAll K H vs ds → DpAll K H' vs ds
  | _, _, .nil => .nil
  | _, _, .cons h r => .cons (dpSame e h) (dpSameAll e r)
end
theorem shdSame {K : PySem.W.Frag} {H H' : Hp} (e : Same H H') {v : V} {d : PyData} : Shd K H v d → Shd K H' v d
  | .dat h n => .dat (dpSame e h) n
  | .emp h => .emp (e _ _ h)
theorem dp_ints {K : PySem.W.Frag} {H : Hp} : ∀ ys : List Int, DpAll K H (ys.map V.int) (ys.map PyData.int)
  | [] => .nil
  | y :: ys => .cons (.int y) (dp_ints ys)
theorem same_exb {H H1 H2 : Hp} {p : Addr} (s : Same H H1) (n : H p = none) (e : Exb p H1 H2) : Same H H2 := fun b o h => e b o (ne_of_none h n) (s b o h)
/-! ### data told by the value -/
theorem dp_str {K : PySem.W.Frag} {H : Hp} {v : V} {z : Str} (h : Dp K H v (.str z)) : v = .str z := by
  cases h
  rfl
theorem dp_int {K : PySem.W.Frag} {H : Hp} {v : V} {i : Int} (h : Dp K H v (.int i)) : v = .int i := by
  cases h
  rfl
theorem dp_tup {K : PySem.W.Frag} {H : Hp} {v : V} {ds : List PyData} (h : Dp K H v (.tuple ds)) : ∃ a xs, v = .ref a ∧ SqT K H a xs ∧ DpAll K H xs ds := by
  cases h with
  | tup h1 h2 => exact ⟨_, _, rfl, h1, h2⟩
theorem dpAll_len {K : PySem.W.Frag} {H : Hp} : ∀ {xs : List V} {ds : List PyData}, DpAll K H xs ds → xs.length = ds.length
  | _, _, .nil => rfl
  | _, _, .cons _ r => by rw [List.length_cons, List.length_cons, dpAll_len r]
theorem dpAll_get {K : PySem.W.Frag} {H : Hp} : ∀ {xs : List V} {ds : List PyData} {i : Nat} {d : PyData}, DpAll K H xs ds → ds[i]? = some d → ∃ x, xs[i]? = some x ∧ Dp K H x d
  | _, _, 0, d, .cons h _, e => by
    simp at e
    subst e
    exact ⟨_, rfl, h⟩
  | _, _, i + 1, d, .cons _ r, e => by
    obtain ⟨x, q1, q2⟩ := dpAll_get (i := i) r (by simpa using e)
    exact ⟨x, by simpa using q1, q2⟩
theorem dpAll_at {K : PySem.W.Frag} {H : Hp} : ∀ {xs : List V} {ds : List PyData} {i : Nat} {x : V}, DpAll K H xs ds → xs[i]? = some x → ∃ d, ds[i]? = some d ∧ Dp K H x d
  | _, _, 0, x, .cons h _, e => by
    simp at e
    subst e
    exact ⟨_, rfl, h⟩
  | _, _, i + 1, x, .cons _ r, e => by
    obtain ⟨d, q1, q2⟩ := dpAll_at (i := i) r (by simpa using e)
    exact ⟨d, by simpa using q1, q2⟩
theorem dpAll_snoc {K : PySem.W.Frag} {H : Hp} {x : V} {d : PyData} (h : Dp K H x d) : ∀ {xs : List V} {ds : List PyData}, DpAll K H xs ds → DpAll K H (xs ++ [x]) (ds ++ [d])
  | _, _, .nil => .cons h .nil
  | _, _, .cons a r => .cons a (dpAll_snoc h r)
theorem dpAll_strs {K : PySem.W.Frag} {H : Hp} : ∀ zs : List Str, DpAll K H (zs.map V.str) (zs.map PyData.str)
  | [] => .nil
  | z :: zs => .cons (.str z) (dpAll_strs zs)
theorem dpAll_strs_inv {K : PySem.W.Frag} {H : Hp} : ∀ {xs : List V} {zs : List Str}, DpAll K H xs (zs.map PyData.str) → xs = zs.map V.str
  | _, [], .nil => rfl
  | _, z :: zs, .cons h r => by rw [dp_str h, dpAll_strs_inv r]; rfl
theorem dpAll_ints_inv {K : PySem.W.Frag} {H : Hp} : ∀ {xs : List V} {zs : List Int}, DpAll K H xs (zs.map PyData.int) → xs = zs.map V.int
  | _, [], .nil => rfl
  | _, z :: zs, .cons h r => by rw [dp_int h, dpAll_ints_inv r]; rfl
/-! ### what stands at tuples and lists alone stays, whatever becomes of the jar: data of tuples -/
/-- no list within -/
inductive NoL : PyData → Prop
  | non : NoL .none
  | bl (b : Bool) : NoL (.bool b)
  | int (i : Int) : NoL (.int i)
  | str (z : Str) : NoL (.str z)
  | tup {ds : List PyData} : (∀ d ∈ ds, NoL d) → NoL (.tuple ds)
mutual
theorem dpExb {K : PySem.W.Frag} {b : Addr} {H H' : Hp} {xs0 : List V} (hb : H b = some (.lst xs0)) (e : Exb b H H') : ∀ {v : V} {d : PyData}, NoL d → Dp K H v d → Dp K H' v d
  | _, _, _, .non => .non
  | _, _, _, .bl b => .bl b
  | _, _, _, .int i => .int i
  | _, _, _, .str x => .str x
  | _, _, n, .lst _ _ => nomatch n
  | _, _, .tup n, .tup (a := a) h r => .tup (by
      rcases h with (h | ⟨o, h⟩) | h
      · exact .inl (.inl (e _ _ (fun z => by rw [z, hb] at h; cases h) h))
      · exact .inl (.inr ⟨o, e _ _ (fun z => by rw [z, hb] at h; cases h) h⟩)
      · exact .inr h) (dpExbAll hb e n r)
theorem dpExbAll {K : PySem.W.Frag} {b : Addr} {H H' : Hp} {xs0 : List V} (hb : H b = some (.lst xs0)) (e : Exb b H H') : ∀ {vs : List V} {ds : List PyData}, (∀ d ∈ ds, NoL d) → DpAll K H vs ds → DpAll K H' vs ds
  | _, _, _, .nil => .nil
  | _, _, n, .cons h r => .cons (dpExb hb e (n _ List.mem_cons_self) h) (dpExbAll hb e (fun d hd => n d (List.mem_cons_of_mem _ hd)) r)
end
end HG

namespace DL
open PySem PySem.Spec PyProof.Rows L2 GuL HG
/-! ### a jar, and places at which no list of the data stands -/
structure Bx where
  jar : Addr
  ex : Addr → Prop
  je : ex jar
abbrev Bx.pl (b : Bx) (O : Addr → Prop) : Bx := ⟨b.jar, fun a => b.ex a ∨ O a, .inl b.je⟩
theorem Bx.pj {b : Bx} {O : Addr → Prop} : (b.pl O).ex b.jar := Or.inl b.je
def Bx.of (a : Addr) : Bx := ⟨a, fun p => p = a, rfl⟩
/-! ### data told by a value, none of whose lists stands at such a place -/
mutual
inductive Dt (K : PySem.W.Frag) (b : Bx) (H : Hp) : V → PyData → Prop
  | non : Dt K b H .non .none
  | bl (c : Bool) : Dt K b H (.bl c) (.bool c)
  | int (i : Int) : Dt K b H (.int i) (.int i)
  | str (x : Str) : Dt K b H (.str x) (.str x)
  | lst {a : Addr} {xs : List V} {ds : List PyData} : H a = some (.lst xs) → ¬ b.ex a → Dts K b H xs ds → Dt K b H (.ref a) (.list ds)
  | tup {a : Addr} {xs : List V} {ds : List PyData} : SqT K H a xs → Dts K b H xs ds → Dt K b H (.ref a) (.tuple ds)
  | emp {a : Addr} : H a = some (.dK []) → Dt K b H (.ref a) (.dict [])
inductive Dts (K : PySem.W.Frag) (b : Bx) (H : Hp) : List V → List PyData → Prop
  | nil : Dts K b H [] []
  | cons {v : V} {vs : List V} {d : PyData} {ds : List PyData} : Dt K b H v d → Dts K b H vs ds → Dts K b H (v :: vs) (d :: ds)
end
/-- the jar -/
def Jar (a : Addr) (H : Hp) : Prop := ∃ o m c, H a = some (bw o m c) ∧ 0 ≤ o
/-- what may have become of the heap: without j nothing tracked is changed; with j the jar alone -/
def Stp (b : Bx) (j : Bool) (H H' : Hp) : Prop := (∀ p u, (j = true → p ≠ b.jar) → H p = some u → H' p = some u) ∧ (j = true → Jar b.jar H → Jar b.jar H')
/-- the jar is a jar -/
def Kj (b : Bx) (j : Bool) (H : Hp) : Prop := (∃ u, H b.jar = some u) ∧ (j = true → Jar b.jar H)
/-- such places are known -/
def Kx (b : Bx) (H : Hp) : Prop := ∀ a, b.ex a → ∃ u, H a = some u
def Kn (b : Bx) (j : Bool) (H : Hp) : Prop := Kx b H ∧ (j = true → Jar b.jar H)
section
variable {K : PySem.W.Frag} {b b' : Bx} {j : Bool} {O O' : Addr → Prop} {H H1 H2 H' : Hp} {p : Addr} {v : V} {d : PyData} {vs xs : List V} {ds : List PyData}
theorem Kn.kj (k : Kn b j H) : Kj b j H := ⟨k.1 _ b.je, k.2⟩
theorem Stp.refl : Stp b j H H := ⟨fun _ _ _ h => h, fun _ h => h⟩
theorem Stp.trans (a : Stp b j H H1) (c : Stp b j H1 H2) : Stp b j H H2 := ⟨fun p u n h => c.1 p u n (a.1 p u n h), fun e h => c.2 e (a.2 e h)⟩
theorem Stp.to (s : Stp b j H H') (e : b'.jar = b.jar) : Stp b' j H H' := by
  obtain ⟨h1, h2⟩ := s
  exact ⟨fun p u n h => h1 p u (fun z => e ▸ n z) h, fun z h => e ▸ h2 z (e ▸ h)⟩
theorem Kj.step (k : Kj b j H) (s : Stp b j H H') : Kj b j H' := by
  cases j with
  | false =>
    obtain ⟨⟨u, h⟩, _⟩ := k
    exact ⟨⟨u, s.1 _ u (fun e => nomatch e) h⟩, fun e => nomatch e⟩
  | true =>
    obtain ⟨o, m, c, h1, h2⟩ := s.2 rfl (k.2 rfl)
    exact ⟨⟨_, h1⟩, fun _ => ⟨o, m, c, h1, h2⟩⟩
theorem Kj.known (k : Kj b j H) (s : Stp b j H H') {u : HO} (h : H p = some u) : ∃ u, H' p = some u := by
  by_cases c : p = b.jar
  · rw [c]
    exact (k.step s).1
  · exact ⟨u, s.1 p u (fun _ => c) h⟩
theorem Kx.step (x : Kx b H) (k : Kj b j H) (s : Stp b j H H') : Kx b H' := fun a e => by
  obtain ⟨u, h⟩ := x a e
  exact k.known s h
theorem Kn.step (k : Kn b j H) (s : Stp b j H H') : Kn b j H' := ⟨k.1.step k.kj s, (k.kj.step s).2⟩
theorem Jar.same {a : Addr} (s : Same H H') (h : Jar a H) : Jar a H' := by
  obtain ⟨o, m, c, h1, h2⟩ := h
  exact ⟨o, m, c, s _ _ h1, h2⟩
theorem Stp.same (s : Same H H') : Stp b j H H' := ⟨fun p u _ h => s p u h, fun _ h => h.same s⟩
theorem Stp.pure (s : Stp b false H H') : Same H H' := fun p u h => s.1 p u (fun e => nomatch e) h
theorem Kn.pure (k : Kn b j H) : Kn b false H := ⟨k.1, fun e => nomatch e⟩
theorem Stp.of (s : Stp b false H H') : Stp b j H H' := Stp.same s.pure
theorem Stp.new {o : HO} (h : H p = none) : Stp b j H (upd H p o) := Stp.same (same_new h)
theorem Kj.ne (k : Kj b j H) (h : H p = none) : p ≠ b.jar := fun e => by
  obtain ⟨⟨u, q⟩, _⟩ := k
  rw [e, q] at h
  cases h
theorem Kx.ne (k : Kx b H) (h : H p = none) : ¬ b.ex p := fun e => by
  obtain ⟨u, q⟩ := k p e
  rw [q] at h
  cases h
theorem Kn.ne (k : Kn b j H) (h : H p = none) : ¬ b.ex p := k.1.ne h
theorem nj (n : ¬ b.ex p) : p ≠ b.jar := fun e => n (e ▸ b.je)
theorem Stp.free (k : Kj b j H) (s : Stp b j H H') (h : H' p = none) : H p = none := by
  cases q : H p with
  | none => rfl
  | some u =>
    rw [s.1 p u (fun _ => (k.step s).ne h) q] at h
    cases h
theorem Stp.mut {o : HO} (k : Kj b j H) (s : Stp b j H H') (h : H p = none) : Stp b j H (upd H' p o) := by
  refine ⟨fun q u n e => ?_, fun e h' => ?_⟩
  · rw [upd_ne (ne_of_none e h)]
    exact s.1 q u n e
  · obtain ⟨o1, m, c, h1, h2⟩ := s.2 e h'
    refine ⟨o1, m, c, ?_, h2⟩
    rw [upd_ne (fun z => k.ne h z.symm)]
    exact h1
theorem sqT_stp (k : Kj b j H) (s : Stp b j H H') (h : SqT K H p xs) : SqT K H' p xs := by
  have nb : j = true → ∀ u, H p = some u → (∀ ys, u ≠ .lst ys) → p ≠ b.jar := fun e u h1 h2 z => by
    obtain ⟨o, m, c, h3, _⟩ := k.2 e
    rw [z, h3] at h1
    cases h1
    exact h2 _ rfl
  rcases h with (h | ⟨o, h⟩) | h
  · exact .inl (.inl (s.1 _ _ (fun e => nb e _ h fun _ q => nomatch q) h))
  · exact .inl (.inr ⟨o, s.1 _ _ (fun e => nb e _ h fun _ q => nomatch q) h⟩)
  · exact .inr h
theorem emp_stp (k : Kj b j H) (s : Stp b j H H') (h : H p = some (.dK [])) : H' p = some (.dK []) :=
  s.1 _ _ (fun e z => by
    obtain ⟨o, m, c, h3, _⟩ := k.2 e
    rw [z, h3] at h
    cases h) h
mutual
theorem Dt.stpX (k : Kj b j H) (s : Stp b j H H') (hx : b'.ex b.jar) : ∀ {v : V} {d : PyData}, Dt K b' H v d → Dt K b' H' v d
  | _, _, .non => .non
  | _, _, .bl c => .bl c
  | _, _, .int i => .int i
  | _, _, .str x => .str x
  | _, _, .lst h n r => .lst (s.1 _ _ (fun _ z => n (z ▸ hx)) h) n (Dts.stpX k s hx r)
  | _, _, .tup h r => .tup (sqT_stp k s h) (Dts.stpX k s hx r)
  | _, _, .emp h => .emp (emp_stp k s h)
theorem Dts.stpX (k : Kj b j H) (s : Stp b j H H') (hx : b'.ex b.jar) : ∀ {vs : List V} {ds : List PyData}, Dts K b' H vs ds → Dts K b' H' vs ds
  | _, _, .nil => .nil
  | _, _, .cons h r => .cons (Dt.stpX k s hx h) (Dts.stpX k s hx r)
end
theorem Dt.stp (k : Kj b j H) (s : Stp b j H H') {v : V} {d : PyData} (h : Dt K b H v d) : Dt K b H' v d := h.stpX k s b.je
theorem Dts.stp (k : Kj b j H) (s : Stp b j H H') {v : List V} {d : List PyData} (h : Dts K b H v d) : Dts K b H' v d := h.stpX k s b.je
theorem Dt.stpO (k : Kj b j H) (s : Stp b j H H') {v : V} {d : PyData} (h : Dt K (b.pl O) H v d) : Dt K (b.pl O) H' v d := h.stpX k s Bx.pj
theorem Dts.stpO (k : Kj b j H) (s : Stp b j H H') {v : List V} {d : List PyData} (h : Dts K (b.pl O) H v d) : Dts K (b.pl O) H' v d := h.stpX k s Bx.pj
mutual
theorem Dt.weak (w : ∀ a, b'.ex a → b.ex a) : ∀ {v : V} {d : PyData}, Dt K b H v d → Dt K b' H v d
  | _, _, .non => .non
  | _, _, .bl c => .bl c
  | _, _, .int i => .int i
  | _, _, .str x => .str x
  | _, _, .lst h n r => .lst h (fun z => n (w _ z)) (Dts.weak w r)
  | _, _, .tup h r => .tup h (Dts.weak w r)
  | _, _, .emp h => .emp h
theorem Dts.weak (w : ∀ a, b'.ex a → b.ex a) : ∀ {vs : List V} {ds : List PyData}, Dts K b H vs ds → Dts K b' H vs ds
  | _, _, .nil => .nil
  | _, _, .cons h r => .cons (Dt.weak w h) (Dts.weak w r)
end
/-! what is new is not among the data -/
mutual
theorem Dt.fr (w : ∀ a, b'.ex a → b.ex a ∨ H a = none) : ∀ {v : V} {d : PyData}, Dt K b H v d → Dt K b' H v d
  | _, _, .non => .non
  | _, _, .bl c => .bl c
  | _, _, .int i => .int i
  | _, _, .str x => .str x
  | _, _, .lst h n r => .lst h (fun z => by
      rcases w _ z with z | z
      · exact n z
      · rw [h] at z; cases z) (Dts.fr w r)
  | _, _, .tup h r => .tup h (Dts.fr w r)
  | _, _, .emp h => .emp h
theorem Dts.fr (w : ∀ a, b'.ex a → b.ex a ∨ H a = none) : ∀ {vs : List V} {ds : List PyData}, Dts K b H vs ds → Dts K b' H vs ds
  | _, _, .nil => .nil
  | _, _, .cons h r => .cons (Dt.fr w h) (Dts.fr w r)
end
theorem sqT_put {p a : Addr} {zs ys : List V} (hp : H p = some (.lst zs)) (h : SqT K H a xs) : SqT K (upd H p (.lst ys)) a xs := by
  rcases h with (h | ⟨o, h⟩) | h
  · exact .inl (.inl (by rw [upd_ne (fun z => by rw [z, hp] at h; cases h)]; exact h))
  · exact .inl (.inr ⟨o, by rw [upd_ne (fun z => by rw [z, hp] at h; cases h)]; exact h⟩)
  · exact .inr h
/-! a list at such a place becomes another one -/
mutual
theorem Dt.put {p : Addr} {zs ys : List V} (hp : H p = some (.lst zs)) (hx : b.ex p) : ∀ {v : V} {d : PyData}, Dt K b H v d → Dt K b (upd H p (.lst ys)) v d
  | _, _, .non => .non
  | _, _, .bl c => .bl c
  | _, _, .int i => .int i
  | _, _, .str x => .str x
  | _, _, .lst h n r => .lst (by rw [upd_ne (fun z => n (by rw [z]; exact hx))]; exact h) n (Dts.put hp hx r)
  | _, _, .tup h r => .tup (sqT_put hp h) (Dts.put hp hx r)
  | _, _, .emp h => .emp (by rw [upd_ne (fun z => by rw [z, hp] at h; cases h)]; exact h)
theorem Dts.put {p : Addr} {zs ys : List V} (hp : H p = some (.lst zs)) (hx : b.ex p) : ∀ {vs : List V} {ds : List PyData}, Dts K b H vs ds → Dts K b (upd H p (.lst ys)) vs ds
  | _, _, .nil => .nil
  | _, _, .cons h r => .cons (Dt.put hp hx h) (Dts.put hp hx r)
end
mutual
theorem Dt.dp : ∀ {v : V} {d : PyData}, d.hasDict = false → Dt K b H v d → Dp K H v d
  | _, _, _, .non => .non
  | _, _, _, .bl c => .bl c
  | _, _, _, .int i => .int i
  | _, _, _, .str x => .str x
  | _, _, n, .lst h _ r => .lst (SqL.of h) (Dts.dp (by simpa only [PyData.hasDict] using n) r)
  | _, _, n, .tup h r => .tup h (Dts.dp (by simpa only [PyData.hasDict] using n) r)
  | _, _, n, .emp _ => by simp [PyData.hasDict] at n
theorem Dts.dp : ∀ {vs : List V} {ds : List PyData}, PyData.hasDictAll ds = false → Dts K b H vs ds → DpAll K H vs ds
  | _, _, _, .nil => .nil
  | _, _, n, .cons h r => by
    simp only [PyData.hasDictAll, Bool.or_eq_false_iff] at n
    exact .cons (Dt.dp n.1 h) (Dts.dp n.2 r)
end
theorem noD_of {d : PyData} (h : SeqAt.shaped d = true) : d.hasDict = false := by
  unfold SeqAt.shaped at h
  rw [Bool.and_eq_true] at h
  exact PyData.hasDict_of_canLay d h.1
mutual
theorem Dt.of : ∀ {v : V} {d : PyData}, NoL d → Dp K H v d → Dt K b H v d
  | _, _, _, .non => .non
  | _, _, _, .bl c => .bl c
  | _, _, _, .int i => .int i
  | _, _, _, .str x => .str x
  | _, _, n, .lst _ _ => nomatch n
  | _, _, .tup n, .tup h r => .tup h (Dts.of n r)
theorem Dts.of : ∀ {vs : List V} {ds : List PyData}, (∀ d ∈ ds, NoL d) → DpAll K H vs ds → Dts K b H vs ds
  | _, _, _, .nil => .nil
  | _, _, n, .cons h r => .cons (Dt.of (n _ List.mem_cons_self) h) (Dts.of (fun d hd => n d (List.mem_cons_of_mem _ hd)) r)
end
/-! data without lists stand apart from all such places -/
mutual
theorem Dt.any : ∀ {v : V} {d : PyData}, NoL d → Dt K b H v d → Dt K b' H v d
  | _, _, _, .non => .non
  | _, _, _, .bl c => .bl c
  | _, _, _, .int i => .int i
  | _, _, _, .str x => .str x
  | _, _, n, .lst _ _ _ => nomatch n
  | _, _, .tup n, .tup h r => .tup h (Dts.any n r)
theorem Dts.any : ∀ {vs : List V} {ds : List PyData}, (∀ d ∈ ds, NoL d) → Dts K b H vs ds → Dts K b' H vs ds
  | _, _, _, .nil => .nil
  | _, _, n, .cons h r => .cons (Dt.any (n _ List.mem_cons_self) h) (Dts.any (fun d hd => n d (List.mem_cons_of_mem _ hd)) r)
end
theorem noDAll : ∀ {ds : List PyData}, (∀ d ∈ ds, d.hasDict = false) → PyData.hasDictAll ds = false
  | [], _ => rfl
  | d :: ds, h => by
    simp only [PyData.hasDictAll, h d List.mem_cons_self, noDAll fun d hd => h d (List.mem_cons_of_mem _ hd), Bool.or_self]
theorem NoL.noD {d : PyData} (h : NoL d) : d.hasDict = false := by
  induction h with
  | non => rfl
  | bl c => rfl
  | int i => rfl
  | str z => rfl
  | tup _ ih => simpa only [PyData.hasDict] using noDAll ih
theorem Dts.len : ∀ {vs : List V} {ds : List PyData}, Dts K b H vs ds → vs.length = ds.length
  | _, _, .nil => rfl
  | _, _, .cons _ r => by rw [List.length_cons, List.length_cons, Dts.len r]
theorem Dts.get : ∀ {xs : List V} {ds : List PyData} {i : Nat} {d : PyData}, Dts K b H xs ds → ds[i]? = some d → ∃ x, xs[i]? = some x ∧ Dt K b H x d
  | _, _, 0, d, .cons h _, e => by
    simp at e
    subst e
    exact ⟨_, rfl, h⟩
  | _, _, i + 1, d, .cons _ r, e => by
    obtain ⟨x, q1, q2⟩ := Dts.get (i := i) r (by simpa using e)
    exact ⟨x, by simpa using q1, q2⟩
theorem Dts.at : ∀ {xs : List V} {ds : List PyData} {i : Nat} {x : V}, Dts K b H xs ds → xs[i]? = some x → ∃ d, ds[i]? = some d ∧ Dt K b H x d
  | _, _, 0, x, .cons h _, e => by
    simp at e
    subst e
    exact ⟨_, rfl, h⟩
  | _, _, i + 1, x, .cons _ r, e => by
    obtain ⟨d, q1, q2⟩ := Dts.at (i := i) r (by simpa using e)
    exact ⟨d, by simpa using q1, q2⟩
theorem Dts.app : ∀ {xs ys : List V} {ds es : List PyData}, Dts K b H xs ds → Dts K b H ys es → Dts K b H (xs ++ ys) (ds ++ es)
  | _, _, _, _, .nil, h => h
  | _, _, _, _, .cons a r, h => .cons a (Dts.app r h)
theorem Dts.drop : ∀ {xs : List V} {ds : List PyData} (n : Nat), Dts K b H xs ds → Dts K b H (xs.drop n) (ds.drop n)
  | _, _, 0, h => h
  | _, _, _ + 1, .nil => .nil
  | _, _, n + 1, .cons _ r => Dts.drop n r
theorem Dts.take : ∀ {xs : List V} {ds : List PyData} (n : Nat), Dts K b H xs ds → Dts K b H (xs.take n) (ds.take n)
  | _, _, 0, _ => .nil
  | _, _, _ + 1, .nil => .nil
  | _, _, n + 1, .cons h r => .cons h (Dts.take n r)
theorem Dts.snoc (h : Dts K b H xs ds) (a : Dt K b H v d) : Dts K b H (xs ++ [v]) (ds ++ [d]) := h.app (.cons a .nil)
theorem pl_w {a : Addr} (w : ∀ a, O' a → O a) (h : (b.pl O').ex a) : (b.pl O).ex a := Or.imp id (w a) h
theorem Dt.plw (w : ∀ a, O' a → O a) (h : Dt K (b.pl O) H v d) : Dt K (b.pl O') H v d := h.weak fun _ z => pl_w w z
theorem Dts.plw (w : ∀ a, O' a → O a) (h : Dts K (b.pl O) H xs ds) : Dts K (b.pl O') H xs ds := h.weak fun _ z => pl_w w z
theorem Dt.un (h : Dt K (b.pl O) H v d) : Dt K b H v d := h.weak fun _ z => Or.inl z
theorem Dts.un (h : Dts K (b.pl O) H xs ds) : Dts K b H xs ds := h.weak fun _ z => Or.inl z
end
/-! ### the slots -/
inductive SV where
  | nil
  | dat (d : PyData)
  | par (d : PyData)
  | own (ds : List PyData)
  | frz (p : Addr) (ds : List PyData)
  | jar
/-- where own lists stand -/
def Ow (σ : L2.St) (ρ : List SV) : Addr → Prop := fun a => ∃ (k : Nat) (ds : List PyData), ρ[k]? = some (.own ds) ∧ σ[k]? = some (some (.ref a))
/-- what a slot holds: data; data of the entry; a list of its own; a list that stands still for a while; the jar -/
def SOk (K : PySem.W.Frag) (b : Bx) (O : Addr → Prop) (H0 G H : Hp) (v : Option V) : SV → Prop
  | .nil => True
  | .dat d => ∃ x, v = some x ∧ Dt K (b.pl O) H x d
  | .par d => ∃ x, v = some x ∧ Dt K b H0 x d
  | .own ds => ∃ p xs, v = some (.ref p) ∧ H p = some (.lst xs) ∧ Dts K (b.pl O) H xs ds ∧ G p = none ∧ ¬ b.ex p
  | .frz p ds => ∃ xs, v = some (.ref p) ∧ G p = some (.lst xs) ∧ Dts K (b.pl O) H xs ds ∧ ¬ b.ex p
  | .jar => v = some (.ref b.jar)
structure Rel (K : PySem.W.Frag) (b : Bx) (j : Bool) (H0 G : Hp) (σ : L2.St) (H : Hp) (ρ : List SV) : Prop where
  len : σ.length = ρ.length
  kj : Kj b j H0
  kx : Kx b H
  sg : Stp b j H0 G
  st : Stp b j G H
  sl : ∀ (i : Nat) (s : SV), ρ[i]? = some s → SOk K b (Ow σ ρ) H0 G H (σ[i]?.join) s
  dis : ∀ (i k : Nat) (ds ds' : List PyData) (p : Addr), i ≠ k → ρ[i]? = some (.own ds) → ρ[k]? = some (.own ds') → σ[i]? = some (some (.ref p)) → σ[k]? ≠ some (some (.ref p))
section
variable {K : PySem.W.Frag} {b b' : Bx} {j : Bool} {O O' : Addr → Prop} {H0 G H H1 H' : Hp} {σ : L2.St} {ρ : List SV}
theorem Rel.kG (r : Rel K b j H0 G σ H ρ) : Kj b j G := r.kj.step r.sg
theorem Rel.kH (r : Rel K b j H0 G σ H ρ) : Kj b j H := r.kG.step r.st
theorem Rel.knH (r : Rel K b j H0 G σ H ρ) : Kn b j H := ⟨r.kx, r.kH.2⟩
theorem Rel.s0 (r : Rel K b j H0 G σ H ρ) : Stp b j H0 H := r.sg.trans r.st
theorem SOk.stp {v : Option V} {s : SV} (k : Kj b j H) (st : Stp b j H H') (h : SOk K b O H0 G H v s) : SOk K b O H0 G H' v s := by
  cases s with
  | nil => exact True.intro
  | dat d =>
    obtain ⟨x, e, h1⟩ := h
    exact ⟨x, e, h1.stpO k st⟩
  | par d => exact h
  | own ds =>
    obtain ⟨p, xs, e, h1, h2, h4, h5⟩ := h
    exact ⟨p, xs, e, st.1 _ _ (fun _ => nj h5) h1, h2.stpO k st, h4, h5⟩
  | frz p ds =>
    obtain ⟨xs, e, h1, h2, h4⟩ := h
    exact ⟨xs, e, h1, h2.stpO k st, h4⟩
  | jar => exact h
theorem SOk.wk {v : Option V} {s : SV} (w : ∀ a, O' a → O a) (h : SOk K b O H0 G H v s) : SOk K b O' H0 G H v s := by
  cases s with
  | nil => exact True.intro
  | dat d =>
    obtain ⟨x, e, h1⟩ := h
    exact ⟨x, e, h1.plw w⟩
  | par d => exact h
  | own ds =>
    obtain ⟨p, xs, e, h1, h2, h4, h5⟩ := h
    exact ⟨p, xs, e, h1, h2.plw w, h4, h5⟩
  | frz p ds =>
    obtain ⟨xs, e, h1, h2, h4⟩ := h
    exact ⟨xs, e, h1, h2.plw w, h4⟩
  | jar => exact h
theorem Rel.step (r : Rel K b j H0 G σ H ρ) (s : Stp b j H H') : Rel K b j H0 G σ H' ρ :=
  ⟨r.len, r.kj, r.kx.step r.kH s, r.sg, r.st.trans s, fun i v h => (r.sl i v h).stp r.kH s, r.dis⟩
theorem Rel.own_at (r : Rel K b j H0 G σ H ρ) {i : Nat} {ds : List PyData} (h : ρ[i]? = some (.own ds)) : ∃ p xs, σ[i]? = some (some (.ref p)) ∧ H p = some (.lst xs) ∧ Dts K (b.pl (Ow σ ρ)) H xs ds ∧ G p = none ∧ ¬ b.ex p := by
  obtain ⟨p, xs, e, h1⟩ := r.sl i _ h
  refine ⟨p, xs, ?_, h1⟩
  cases q : σ[i]? with
  | none => rw [q] at e; cases e
  | some y =>
    rw [q] at e
    have e' : y = some (.ref p) := e
    rw [e']
/-- own lists are known, and new since the entry -/
theorem Rel.ow (r : Rel K b j H0 G σ H ρ) {a : Addr} (h : Ow σ ρ a) : (∃ xs, H a = some (.lst xs)) ∧ G a = none ∧ ¬ b.ex a := by
  obtain ⟨k, ds, h1, h2⟩ := h
  obtain ⟨p, xs, e, g1, _, g2, g3⟩ := r.own_at h1
  rw [h2] at e
  cases e
  exact ⟨⟨xs, g1⟩, g2, g3⟩
theorem Rel.ow0 (r : Rel K b j H0 G σ H ρ) {a : Addr} (h : Ow σ ρ a) : H0 a = none := r.sg.free r.kj (r.ow h).2.1
theorem Rel.kxO (r : Rel K b j H0 G σ H ρ) : Kx (b.pl (Ow σ ρ)) H := fun a h => by
  rcases h with h | h
  · exact r.kx a h
  · obtain ⟨⟨xs, e⟩, _⟩ := r.ow h
    exact ⟨_, e⟩
theorem Rel.knO (r : Rel K b j H0 G σ H ρ) : Kn (b.pl (Ow σ ρ)) j H := ⟨r.kxO, r.kH.2⟩
/-- data of the entry are apart from own lists -/
theorem Rel.parO (r : Rel K b j H0 G σ H ρ) {x : V} {d : PyData} (h : Dt K b H0 x d) : Dt K (b.pl (Ow σ ρ)) H x d :=
  (h.fr (b' := b.pl (Ow σ ρ)) fun a z => Or.imp id (fun z => r.ow0 z) z).stpX r.kj r.s0 Bx.pj
theorem ow_set {i : Nat} {x : Option V} {s : SV} (n : ∀ ds, s ≠ .own ds) {a : Addr} (h : Ow (σ.set i x) (ρ.set i s) a) : Ow σ ρ a := by
  obtain ⟨k, ds, h1, h2⟩ := h
  rw [List.getElem?_set] at h1 h2
  split at h1
  · split at h1
    · cases h1
      exact (n _ rfl).elim
    · cases h1
  · rename_i c
    rw [if_neg c] at h2
    exact ⟨k, ds, h1, h2⟩
theorem ow_set' {i : Nat} {s : SV} (n : ∀ ds, s ≠ .own ds) {a : Addr} (h : Ow σ (ρ.set i s) a) : Ow σ ρ a := by
  obtain ⟨k, ds, h1, h2⟩ := h
  rw [List.getElem?_set] at h1
  split at h1
  · split at h1
    · cases h1
      exact (n _ rfl).elim
    · cases h1
  · exact ⟨k, ds, h1, h2⟩
/-- a slot gets what is no list of its own -/
theorem Rel.setS {i : Nat} {x : Option V} {s : SV} (r : Rel K b j H0 G σ H ρ) (n : ∀ ds, s ≠ .own ds) (h : SOk K b (Ow σ ρ) H0 G H x s) : Rel K b j H0 G (σ.set i x) H (ρ.set i s) := by
  refine ⟨by rw [List.length_set, List.length_set, r.len], r.kj, r.kx, r.sg, r.st, fun k s' e => ?_, fun k l ds ds' p nk e1 e2 e3 => ?_⟩
  · refine SOk.wk (O := Ow σ ρ) (fun a z => ow_set n z) ?_
    rw [List.getElem?_set] at e ⊢
    split at e
    · rename_i c
      rw [if_pos c]
      split at e
      · rename_i c2
        cases e
        rw [if_pos (by rw [r.len]; exact c2)]
        exact h
      · cases e
    · rename_i c
      rw [if_neg c]
      exact r.sl k s' e
  · rw [List.getElem?_set] at e1 e2 e3 ⊢
    split at e1
    · split at e1
      · cases e1
        exact (n _ rfl).elim
      · cases e1
    · rename_i c1
      rw [if_neg c1] at e3
      split at e2
      · split at e2
        · cases e2
          exact (n _ rfl).elim
        · cases e2
      · rename_i c2
        rw [if_neg c2]
        exact r.dis k l ds ds' p nk e1 e2 e3
theorem Rel.setD {i : Nat} {x : V} {d : PyData} (r : Rel K b j H0 G σ H ρ) (h : Dt K (b.pl (Ow σ ρ)) H x d) : Rel K b j H0 G (σ.set i (some x)) H (ρ.set i (.dat d)) :=
  r.setS (fun _ e => nomatch e) ⟨x, rfl, h⟩
theorem Rel.setDn {i : Nat} {x : V} {d : PyData} (r : Rel K b j H0 G σ H ρ) (h : Dt K b H x d) (n : NoL d) : Rel K b j H0 G (σ.set i (some x)) H (ρ.set i (.dat d)) :=
  r.setD (h.any n)
theorem Rel.setNil {i : Nat} {x : Option V} (r : Rel K b j H0 G σ H ρ) : Rel K b j H0 G (σ.set i x) H (ρ.set i .nil) := r.setS (fun _ e => nomatch e) True.intro
/-- another thing is known of a slot -/
theorem Rel.know {i : Nat} {s : SV} (r : Rel K b j H0 G σ H ρ) (n : ∀ ds, s ≠ .own ds) (h : SOk K b (Ow σ (ρ.set i s)) H0 G H (σ[i]?.join) s) : Rel K b j H0 G σ H (ρ.set i s) := by
  refine ⟨by rw [List.length_set, r.len], r.kj, r.kx, r.sg, r.st, fun k s' e => ?_, fun k l ds ds' p nk e1 e2 e3 => ?_⟩
  · rw [List.getElem?_set] at e
    split at e
    · rename_i c
      subst c
      split at e
      · cases e
        exact h
      · cases e
    · exact SOk.wk (O := Ow σ ρ) (fun a z => ow_set' n z) (r.sl k s' e)
  · rw [List.getElem?_set] at e1 e2
    split at e1
    · split at e1
      · cases e1
        exact (n _ rfl).elim
      · cases e1
    · split at e2
      · split at e2
        · cases e2
          exact (n _ rfl).elim
        · cases e2
      · exact r.dis k l ds ds' p nk e1 e2 e3
theorem Rel.forget {i : Nat} (r : Rel K b j H0 G σ H ρ) : Rel K b j H0 G σ H (ρ.set i .nil) := r.know (fun _ e => nomatch e) True.intro
/-- an own list changes no more -/
theorem Rel.still {i : Nat} {ds : List PyData} (r : Rel K b j H0 G σ H ρ) (e : ρ[i]? = some (.own ds)) : Rel K b j H0 G σ H (ρ.set i (.dat (.list ds))) := by
  obtain ⟨p, xs, e1, h1, h2, h4, h5⟩ := r.own_at e
  refine r.know (fun ds' e' => by cases e') ⟨.ref p, by rw [e1]; rfl, .lst h1 (fun z => ?_) (h2.plw fun a z => ow_set' (fun ds' e' => by cases e') z)⟩
  rcases z with z | ⟨k, ds', z1, z2⟩
  · exact h5 z
  · rw [List.getElem?_set] at z1
    split at z1
    · split at z1 <;> cases z1
    · rename_i c
      exact r.dis i k ds ds' p c e z1 e1 z2
/-- own lists forgotten -/
def mask (ρ : List SV) : List SV := ρ.map fun s => match s with | .own _ => .nil | s => s
theorem mask_get {k : Nat} {s : SV} (h : (mask ρ)[k]? = some s) : s = .nil ∨ (ρ[k]? = some s ∧ ∀ ds, s ≠ .own ds) := by
  unfold mask at h
  rw [List.getElem?_map] at h
  cases q : ρ[k]? with
  | none => rw [q] at h; cases h
  | some t =>
    rw [q] at h
    cases t <;> (cases h) <;> first | exact .inl rfl | exact .inr ⟨rfl, fun _ e => nomatch e⟩
theorem mask_ow {a : Addr} : ¬ Ow σ (mask ρ) a := by
  rintro ⟨k, ds, h, _⟩
  rcases mask_get h with h | ⟨_, h⟩
  · cases h
  · exact h ds rfl
theorem Rel.mask (r : Rel K b j H0 G σ H ρ) : Rel K (b.pl (Ow σ ρ)) j H H σ H (mask ρ) := by
  refine ⟨by unfold DL.mask; rw [List.length_map]; exact r.len, r.kH, r.kxO, .refl, .refl, fun i s e => ?_, fun i k ds ds' p _ e1 => ?_⟩
  · rcases mask_get e with rfl | ⟨e, n⟩
    · exact True.intro
    · have old := r.sl i s e
      have w : ∀ a, ((b.pl (Ow σ ρ)).pl (Ow σ (DL.mask ρ))).ex a → (b.pl (Ow σ ρ)).ex a := fun a z => Or.elim z id fun z => (mask_ow z).elim
      cases s with
      | nil => exact True.intro
      | dat d =>
        obtain ⟨x, e, h⟩ := old
        exact ⟨x, e, h.weak w⟩
      | par d =>
        obtain ⟨x, e, h⟩ := old
        exact ⟨x, e, r.parO h⟩
      | own ds => exact (n ds rfl).elim
      | frz p ds =>
        obtain ⟨xs, e, h1, h2, h3⟩ := old
        refine ⟨xs, e, r.st.1 _ _ (fun _ => nj h3) h1, h2.weak w, fun z => ?_⟩
        rcases z with z | z
        · exact h3 z
        · rw [(r.ow z).2.1] at h1
          cases h1
      | jar => exact old
  · rcases mask_get e1 with h | ⟨_, h⟩
    · cases h
    · exact (h ds rfl).elim
theorem Rel.mask' (r : Rel K b j H0 G σ H ρ) (s : Stp b j H H') : Rel K (b.pl (Ow σ ρ)) j H H σ H' (DL.mask ρ) := r.mask.step (s.to rfl)
/-- one more place is to be kept free -/
theorem Rel.plus {p : Addr} (r : Rel K b j H0 G σ H ρ) (hp : H p = none) (st : Stp b j H H') (hq : ∃ u, H' p = some u) : Rel K (b.pl (· = p)) j H0 G σ H' ρ := by
  have r' := r.step st
  have np : ∀ {a : Addr} {u : HO}, H a = some u → a ≠ p := fun {a u} h z => by rw [z, hp] at h; cases h
  have h0p : H0 p = none := r.s0.free r.kj hp
  have sl2 : ∀ (i : Nat) (s : SV), ρ[i]? = some s → SOk K (b.pl (· = p)) (Ow σ ρ) H0 G H (σ[i]?.join) s := fun i s e => by
    have old := r.sl i s e
    have w : ∀ a, ((b.pl (· = p)).pl (Ow σ ρ)).ex a → (b.pl (Ow σ ρ)).ex a ∨ H a = none := fun a z => by
      rcases z with (z | z) | z
      · exact .inl (.inl z)
      · exact .inr (z ▸ hp)
      · exact .inl (.inr z)
    cases s with
    | nil => exact True.intro
    | dat d =>
      obtain ⟨x, e, h⟩ := old
      exact ⟨x, e, h.fr w⟩
    | par d =>
      obtain ⟨x, e, h⟩ := old
      exact ⟨x, e, h.fr (b' := b.pl (· = p)) fun a z => Or.imp id (fun z => by rw [z]; exact h0p) z⟩
    | own ds =>
      obtain ⟨q, xs, e, h1, h2, h3, h4⟩ := old
      exact ⟨q, xs, e, h1, h2.fr w, h3, fun z => Or.elim z h4 (np h1)⟩
    | frz q ds =>
      obtain ⟨xs, e, h1, h2, h3⟩ := old
      exact ⟨xs, e, h1, h2.fr w, fun z => Or.elim z h3 (np (r.st.1 _ _ (fun _ => nj h3) h1))⟩
    | jar => exact old
  refine ⟨r.len, r.kj, fun a z => Or.elim z (r'.kx a) fun z => z ▸ hq, r.sg.to rfl, r'.st.to rfl, fun i s e => (sl2 i s e).stp r.kH (st.to rfl), r.dis⟩
end
end DL

namespace DL
open PySem PySem.Spec PyProof.Rows L2 GuL HG
/-! ### readings by data alone -/
abbrev DTE := List SV → (PyData → Prop) → Prop
abbrev DTA := List SV → (List PyData → Prop) → Prop
abbrev DTT := List SV → (Bool → Prop) → Prop
def LE (K : PySem.W.Frag) (b : Bx) (j : Bool) (t : DTE) : TE := fun σ H Q => ∃ ρ H0 G, Rel K b j H0 G σ H ρ ∧ t ρ fun d => ∀ v H', Stp b j H H' → Dt K b H' v d → Q v H'
def LA (K : PySem.W.Frag) (b : Bx) (j : Bool) (t : DTA) : TA := fun σ H Q => ∃ ρ H0 G, Rel K b j H0 G σ H ρ ∧ t ρ fun ds => ∀ vs H', Stp b j H H' → Dts K b H' vs ds → Q vs H'
def LT (K : PySem.W.Frag) (b : Bx) (j : Bool) (t : DTT) : TT := fun σ H Q => ∃ ρ H0 G, Rel K b j H0 G σ H ρ ∧ t ρ fun c => ∀ H', Stp b j H H' → Q c H'
/-- a new list -/
def LL (K : PySem.W.Frag) (b : Bx) (j : Bool) (t : DTA) : TE := fun σ H Q => ∃ ρ H0 G, Rel K b j H0 G σ H ρ ∧ t ρ fun ds => ∀ p xs H', Stp b j H H' → H p = none → H' p = some (.lst xs) → Dts K (b.pl (· = p)) H' xs ds → Q (.ref p) H'
structure DE (X : Cx) (j : Bool) (e : Expr) (t : DTE) : Prop where
  pe : ∀ b : Bx, PE X e (LE X.K b j t)
  mo : ∀ ρ (Q Q' : PyData → Prop), (∀ d, Q d → Q' d) → t ρ Q → t ρ Q'
structure DA (X : Cx) (j : Bool) (es : List Expr) (t : DTA) : Prop where
  pa : ∀ b : Bx, PA X es (LA X.K b j t)
  mo : ∀ ρ (Q Q' : List PyData → Prop), (∀ d, Q d → Q' d) → t ρ Q → t ρ Q'
structure DT (X : Cx) (j : Bool) (e : Expr) (t : DTT) : Prop where
  pt : ∀ b : Bx, PT X e (LT X.K b j t)
  mo : ∀ ρ (Q Q' : Bool → Prop), (∀ d, Q d → Q' d) → t ρ Q → t ρ Q'
structure DW (X : Cx) (j : Bool) (e : Expr) (t : DTT) : Prop where
  pw : ∀ b : Bx, PW X e (LT X.K b j t)
  mo : ∀ ρ (Q Q' : Bool → Prop), (∀ d, Q d → Q' d) → t ρ Q → t ρ Q'
structure DN (X : Cx) (j : Bool) (e : Expr) (t : DTA) : Prop where
  pe : ∀ b : Bx, PE X e (LL X.K b j t)
  mo : ∀ ρ (Q Q' : List PyData → Prop), (∀ d, Q d → Q' d) → t ρ Q → t ρ Q'
theorem Dts.newL {K : PySem.W.Frag} {b : Bx} {j : Bool} {H : Hp} {p : Addr} {o : HO} {vs : List V} {ds : List PyData} (k : Kj b j H) (hp : H p = none) (h : Dts K b H vs ds) : Dts K (b.pl (· = p)) (upd H p o) vs ds :=
  (h.fr (b' := b.pl (· = p)) fun a z => Or.imp id (fun z => by rw [z]; exact hp) z).stpX k (.new hp) Bx.pj
theorem peI {X : Cx} {e : Expr} {t t' : TE} (h : PE X e t') (i : ∀ σ H Q, t σ H Q → t' σ H Q) : PE X e t := ⟨fun pins s σ H Q I q => h.run pins s σ H Q I (i σ H Q q)⟩
theorem ptI {X : Cx} {e : Expr} {t t' : TT} (h : PT X e t') (i : ∀ σ H Q, t σ H Q → t' σ H Q) : PT X e t := ⟨fun pins s σ H Q I q => h.run pins s σ H Q I (i σ H Q q)⟩
theorem pwI {X : Cx} {e : Expr} {t t' : TT} (h : PW X e t') (i : ∀ σ H Q, t σ H Q → t' σ H Q) : PW X e t := ⟨fun wh pins s σ H Q I q => h.run wh pins s σ H Q I (i σ H Q q)⟩
theorem paI {X : Cx} {es : List Expr} {t t' : TA} (h : PA X es t') (i : ∀ σ H Q, t σ H Q → t' σ H Q) : PA X es t := ⟨fun pos pins s σ H Q I q => h.run pos pins s σ H Q I (i σ H Q q)⟩
/-! ### names, constants -/
def dv (i : Nat) : DTE := fun ρ Q => match ρ[i]? with | some (.dat d) => Q d | some (.par d) => Q d | some (.own ds) => Q (.list ds) | some (.frz _ ds) => Q (.list ds) | _ => False
def dC (d : PyData) : DTE := fun _ Q => Q d
theorem get_join {σ : L2.St} {i : Nat} {x : V} (h : σ[i]?.join = some x) : σ[i]? = some (some x) := by
  cases q : σ[i]? with
  | none => rw [q] at h; cases h
  | some y =>
    rw [q] at h
    have h' : y = some x := h
    rw [h']
section
variable {X : Cx} {b : Bx} {j : Bool} {e e1 e2 e3 : Expr} {pos : Pos}
theorem de_v {i : Nat} (h : PE X e (tVar i)) : DE X j e (dv i) := by
  refine ⟨fun b => peI h ?_, ?_⟩
  · rintro σ H Q ⟨ρ, H0, G, r, q⟩
    unfold dv at q
    split at q
    · rename_i d e
      obtain ⟨x, e1, h1⟩ := r.sl i _ e
      exact ⟨x, get_join e1, q x H .refl h1.un⟩
    · rename_i d e
      obtain ⟨x, e1, h1⟩ := r.sl i _ e
      exact ⟨x, get_join e1, q x H .refl (h1.stp r.kj r.s0)⟩
    · rename_i ds e
      obtain ⟨p, xs, e1, h1, h2, h4, h5⟩ := r.sl i _ e
      exact ⟨_, get_join e1, q _ H .refl (.lst h1 h5 h2.un)⟩
    · rename_i p ds e
      obtain ⟨xs, e1, h1, h2, h4⟩ := r.sl i _ e
      exact ⟨_, get_join e1, q _ H .refl (.lst (r.st.1 _ _ (fun _ => nj h4) h1) h4 h2.un)⟩
    · exact q.elim
  · intro ρ Q Q' m q
    unfold dv at q ⊢
    split at q <;> first | exact m _ q | exact q.elim
theorem de_c {v : V} {d : PyData} (h : PE X e (tC v)) (hd : ∀ {b : Bx} H, Dt X.K b H v d) : DE X j e (dC d) :=
  ⟨fun b => peI h fun _ H _ ⟨_, _, _, _, q⟩ => q v H .refl (hd H), fun _ _ _ m q => m _ q⟩
theorem de_int {i : Int} {jj : Nat} {pos : Pos} : DE X j (.Constant (.int i) jj pos) (dC (.int i)) := de_c pe_int fun _ => .int i
theorem de_bl {i : Bool} {jj : Nat} {pos : Pos} : DE X j (.Constant (.bool i) jj pos) (dC (.bool i)) := de_c pe_bl fun _ => .bl i
theorem de_non {jj : Nat} {pos : Pos} : DE X j (.Constant .none jj pos) (dC .none) := de_c pe_non fun _ => .non
theorem de_str {x : Str} {jj : Nat} {pos : Pos} : DE X j (.Constant (.str x) jj pos) (dC (.str x)) := de_c pe_str fun _ => .str x
/-! ### two operands -/
def dOp (C : PyData → PyData → Prop) (g : PyData → PyData → PyData) (ta tb : DTE) : DTE := fun ρ Q => ta ρ fun x => tb ρ fun y => C x y ∧ Q (g x y)
def Snd (K : PySem.W.Frag) (b : Bx) (j : Bool) (r : R2) (C : PyData → PyData → Prop) (g : PyData → PyData → PyData) : Prop :=
  ∀ x y dx dy H Q, Kn b j H → Dt K b H x dx → Dt K b H y dy → C dx dy → (∀ v H', Stp b j H H' → Dt K b H' v (g dx dy) → Q v H') → r x y H Q
theorem mo_op {C : PyData → PyData → Prop} {g : PyData → PyData → PyData} {ta tb : DTE} (ma : ∀ ρ (Q Q' : PyData → Prop), (∀ d, Q d → Q' d) → ta ρ Q → ta ρ Q') (mb : ∀ ρ (Q Q' : PyData → Prop), (∀ d, Q d → Q' d) → tb ρ Q → tb ρ Q') : ∀ ρ (Q Q' : PyData → Prop), (∀ d, Q d → Q' d) → dOp C g ta tb ρ Q → dOp C g ta tb ρ Q' :=
  fun ρ Q Q' m q => ma ρ _ _ (fun x h => mb ρ _ _ (fun y h => ⟨h.1, m _ h.2⟩) h) q
theorem op2 {r : R2} {C : PyData → PyData → Prop} {g : PyData → PyData → PyData} {ta tb : DTE} (h : ∀ b : Bx, PE X e (tOp r (LE X.K b j ta) (LE X.K b j tb))) (ma : ∀ ρ (Q Q' : PyData → Prop), (∀ d, Q d → Q' d) → ta ρ Q → ta ρ Q') (mb : ∀ ρ (Q Q' : PyData → Prop), (∀ d, Q d → Q' d) → tb ρ Q → tb ρ Q') (s : ∀ {b : Bx}, Snd X.K b j r C g) :
    DE X j e (dOp C g ta tb) := by
  refine ⟨fun b => peI (h b) ?_, mo_op ma mb⟩
  rintro σ H Q ⟨ρ, H0, G, rl, q⟩
  refine ⟨ρ, H0, G, rl, ma ρ _ _ (fun dx q => ?_) q⟩
  intro x H1 s1 hx
  refine ⟨ρ, H0, G, rl.step s1, mb ρ _ _ (fun dy q => ?_) q⟩
  intro y H2 s2 hy
  have r2 := (rl.step s1).step s2
  exact s x y dx dy H2 Q r2.knH (hx.stp (rl.step s1).kH s2) hy q.1 fun v H' s3 hv => q.2 v H' ((s1.trans s2).trans s3) hv
/-- two ints -/
def cII (C : Int → Int → Prop) : PyData → PyData → Prop | .int i, .int j => C i j | _, _ => False
def gII (f : Int → Int → PyData) : PyData → PyData → PyData | .int i, .int j => f i j | _, _ => .none
def cI0 : PyData → PyData → Prop | .int _, .int _ => True | _, _ => False
theorem snd_I {C : Int → Int → Prop} {f : Int → Int → V} {f' : Int → Int → PyData} (hf : ∀ i k H, Dt X.K b H (f i k) (f' i k)) : Snd X.K b j (rI C f) (cII C) (gII f') := by
  intro x y dx dy H Q k hx hy c q
  cases hx <;> cases hy <;> first | exact c.elim | skip
  exact ⟨_, _, rfl, rfl, c, q _ H .refl (hf _ _ _)⟩
theorem snd_I0 {f : Int → Int → V} {f' : Int → Int → PyData} (hf : ∀ i k H, Dt X.K b H (f i k) (f' i k)) : Snd X.K b j (rI0 f) cI0 (gII f') := by
  intro x y dx dy H Q k hx hy c q
  cases hx <;> cases hy <;> first | exact c.elim | skip
  exact ⟨_, _, rfl, rfl, q _ H .refl (hf _ _ _)⟩
variable {ta tb tc : DTE}
theorem de_add (ha : DE X j e1 ta) (hb : DE X j e2 tb) : DE X j (.BinOp e1 .Add e2 pos) (dOp cI0 (gII fun i k => .int (i + k)) ta tb) := op2 (fun b => pe_op op_add (ha.pe b) (hb.pe b)) ha.mo hb.mo (snd_I0 fun _ _ _ => .int _)
theorem de_sub (ha : DE X j e1 ta) (hb : DE X j e2 tb) : DE X j (.BinOp e1 .Sub e2 pos) (dOp cI0 (gII fun i k => .int (i - k)) ta tb) := op2 (fun b => pe_op op_sub (ha.pe b) (hb.pe b)) ha.mo hb.mo (snd_I0 fun _ _ _ => .int _)
theorem de_mul (ha : DE X j e1 ta) (hb : DE X j e2 tb) : DE X j (.BinOp e1 .Mult e2 pos) (dOp (cII CMul) (gII fun i k => .int (i * k)) ta tb) := op2 (fun b => pe_op op_mul (ha.pe b) (hb.pe b)) ha.mo hb.mo (snd_I fun _ _ _ => .int _)
theorem de_fdiv (ha : DE X j e1 ta) (hb : DE X j e2 tb) : DE X j (.BinOp e1 .FloorDiv e2 pos) (dOp (cII CDiv) (gII fun i k => .int (i / k)) ta tb) := op2 (fun b => pe_op op_fdiv (ha.pe b) (hb.pe b)) ha.mo hb.mo (snd_I fun _ _ _ => .int _)
theorem de_mod (ha : DE X j e1 ta) (hb : DE X j e2 tb) : DE X j (.BinOp e1 .Mod e2 pos) (dOp (cII fun _ k => 0 < k) (gII fun i k => .int (i % k)) ta tb) := op2 (fun b => pe_op op_mod (ha.pe b) (hb.pe b)) ha.mo hb.mo (snd_I fun _ _ _ => .int _)
theorem de_and (ha : DE X j e1 ta) (hb : DE X j e2 tb) : DE X j (.BinOp e1 .BitAnd e2 pos) (dOp cI0 (gII fun i k => .int (Builtin.bitAnd i k)) ta tb) := op2 (fun b => pe_op op_and (ha.pe b) (hb.pe b)) ha.mo hb.mo (snd_I0 fun _ _ _ => .int _)
theorem de_bor (ha : DE X j e1 ta) (hb : DE X j e2 tb) : DE X j (.BinOp e1 .BitOr e2 pos) (dOp cI0 (gII fun i k => .int (Builtin.bitOr i k)) ta tb) := op2 (fun b => pe_op op_or (ha.pe b) (hb.pe b)) ha.mo hb.mo (snd_I0 fun _ _ _ => .int _)
theorem de_xor (ha : DE X j e1 ta) (hb : DE X j e2 tb) : DE X j (.BinOp e1 .BitXor e2 pos) (dOp cI0 (gII fun i k => .int (Builtin.bitXor i k)) ta tb) := op2 (fun b => pe_op op_xor (ha.pe b) (hb.pe b)) ha.mo hb.mo (snd_I0 fun _ _ _ => .int _)
theorem de_shl (ha : DE X j e1 ta) (hb : DE X j e2 tb) : DE X j (.BinOp e1 .LShift e2 pos) (dOp (cII CPow) (gII fun i k => .int (i * 2 ^ k.toNat)) ta tb) := op2 (fun b => pe_op op_shl (ha.pe b) (hb.pe b)) ha.mo hb.mo (snd_I fun _ _ _ => .int _)
theorem de_shr (ha : DE X j e1 ta) (hb : DE X j e2 tb) : DE X j (.BinOp e1 .RShift e2 pos) (dOp (cII fun _ k => 0 ≤ k) (gII fun i k => .int (i / 2 ^ k.toNat)) ta tb) := op2 (fun b => pe_op op_shr (ha.pe b) (hb.pe b)) ha.mo hb.mo (snd_I fun _ _ _ => .int _)
theorem de_pow (ha : DE X j e1 ta) (hb : DE X j e2 tb) : DE X j (.BinOp e1 .Pow e2 pos) (dOp (cII CPow) (gII fun i k => .int (i ^ k.toNat)) ta tb) := op2 (fun b => pe_op op_pow (ha.pe b) (hb.pe b)) ha.mo hb.mo (snd_I fun _ _ _ => .int _)
theorem de_lt (ha : DE X j e1 ta) (hb : DE X j e2 tb) : DE X j (.Compare e1 [.Lt] [e2] pos) (dOp cI0 (gII fun i k => .bool (decide (i < k))) ta tb) := op2 (fun b => pe_cmpR op_lt (ha.pe b) (hb.pe b) (nomark _)) ha.mo hb.mo (snd_I0 fun _ _ _ => .bl _)
theorem de_le (ha : DE X j e1 ta) (hb : DE X j e2 tb) : DE X j (.Compare e1 [.LtE] [e2] pos) (dOp cI0 (gII fun i k => .bool (decide (i ≤ k))) ta tb) := op2 (fun b => pe_cmpR op_le (ha.pe b) (hb.pe b) (nomark _)) ha.mo hb.mo (snd_I0 fun _ _ _ => .bl _)
theorem de_gt (ha : DE X j e1 ta) (hb : DE X j e2 tb) : DE X j (.Compare e1 [.Gt] [e2] pos) (dOp cI0 (gII fun i k => .bool (decide (k < i))) ta tb) := op2 (fun b => pe_cmpR op_gt (ha.pe b) (hb.pe b) (nomark _)) ha.mo hb.mo (snd_I0 fun _ _ _ => .bl _)
theorem de_ge (ha : DE X j e1 ta) (hb : DE X j e2 tb) : DE X j (.Compare e1 [.GtE] [e2] pos) (dOp cI0 (gII fun i k => .bool (decide (k ≤ i))) ta tb) := op2 (fun b => pe_cmpR op_ge (ha.pe b) (hb.pe b) (nomark _)) ha.mo hb.mo (snd_I0 fun _ _ _ => .bl _)
/-- == of plain things -/
def cSc : PyData → PyData → Prop | .int _, .int _ => True | .str _, .str _ => True | .bool _, .bool _ => True | .none, .none => True | .none, .int _ => True | .int _, .none => True | .none, .str _ => True | .str _, .none => True | _, _ => False
def eSc : PyData → PyData → Bool | .int i, .int k => decide (i = k) | .str x, .str y => decide (x = y) | .bool x, .bool y => decide (x = y) | .none, .none => true | _, _ => false
theorem scal_ok {K : PySem.W.Frag} {H : Hp} {x y : V} {dx dy : PyData} (hx : Dt K b H x dx) (hy : Dt K b H y dy) (c : cSc dx dy) : scal x y = true ∧ decide (x = y) = eSc dx dy := by
  cases hx <;> cases hy <;> first | exact c.elim | skip
  all_goals first | exact ⟨rfl, rfl⟩ | skip
  · rename_i a e
    refine ⟨rfl, ?_⟩
    show decide (V.bl a = V.bl e) = decide (a = e)
    by_cases h : a = e
    · rw [h]; simp
    · rw [decide_eq_false h, decide_eq_false fun z => h (V.bl.inj z)]
  · rename_i a e
    refine ⟨rfl, ?_⟩
    show decide (V.int a = V.int e) = decide (a = e)
    by_cases h : a = e
    · rw [h]; simp
    · rw [decide_eq_false h, decide_eq_false fun z => h (V.int.inj z)]
  · rename_i a e
    refine ⟨rfl, ?_⟩
    show decide (V.str a = V.str e) = decide (a = e)
    by_cases h : a = e
    · rw [h]; simp
    · rw [decide_eq_false h, decide_eq_false fun z => h (V.str.inj z)]
theorem snd_eq : Snd X.K b j rEq cSc (fun x y => .bool (eSc x y)) := fun x y dx dy H Q k hx hy c q => by
  obtain ⟨h1, h2⟩ := scal_ok hx hy c
  refine ⟨h1, ?_⟩
  rw [h2]
  exact q _ H .refl (.bl _)
theorem snd_ne : Snd X.K b j rNe cSc (fun x y => .bool (!eSc x y)) := fun x y dx dy H Q k hx hy c q => by
  obtain ⟨h1, h2⟩ := scal_ok hx hy c
  refine ⟨h1, ?_⟩
  rw [h2]
  exact q _ H .refl (.bl _)
theorem de_eq (ha : DE X j e1 ta) (hb : DE X j e2 tb) : DE X j (.Compare e1 [.Eq] [e2] pos) (dOp cSc (fun x y => .bool (eSc x y)) ta tb) := op2 (fun b => pe_cmpR op_eq (ha.pe b) (hb.pe b) (nomark _)) ha.mo hb.mo snd_eq
theorem de_ne (ha : DE X j e1 ta) (hb : DE X j e2 tb) : DE X j (.Compare e1 [.NotEq] [e2] pos) (dOp cSc (fun x y => .bool (!eSc x y)) ta tb) := op2 (fun b => pe_cmpR op_ne (ha.pe b) (hb.pe b) (nomark _)) ha.mo hb.mo snd_ne
/-- == of data of any depth -/
theorem de_eqD (hu : X.A.units + 64 < cLine) (ha : DE X j e1 ta) (hb : DE X j e2 tb) : DE X j (.Compare e1 [.Eq] [e2] pos) (dOp (fun x y => SeqAt.shaped x = true ∧ SeqAt.shaped y = true) (fun x y => .bool (PyData.eqv x y)) ta tb) :=
  op2 (fun b => pe_cmpR (op_eqD hu) (ha.pe b) (hb.pe b) (nomark _)) ha.mo hb.mo fun x y dx dy H Q k hx hy c q => ⟨dx, dy, hx.dp (noD_of c.1), hy.dp (noD_of c.2), c.1, c.2, q _ H .refl (.bl _)⟩
theorem de_neD (hu : X.A.units + 64 < cLine) (ha : DE X j e1 ta) (hb : DE X j e2 tb) : DE X j (.Compare e1 [.NotEq] [e2] pos) (dOp (fun x y => SeqAt.shaped x = true ∧ SeqAt.shaped y = true) (fun x y => .bool (!PyData.eqv x y)) ta tb) :=
  op2 (fun b => pe_cmpR (op_neD hu) (ha.pe b) (hb.pe b) (nomark _)) ha.mo hb.mo fun x y dx dy H Q k hx hy c q => ⟨dx, dy, hx.dp (noD_of c.1), hy.dp (noD_of c.2), c.1, c.2, q _ H .refl (.bl _)⟩
/-- is None -/
def isN : PyData → Bool | .none => true | _ => false
theorem isN_ok {K : PySem.W.Frag} {H : Hp} {x : V} {d : PyData} (h : Dt K b H x d) : decide (x = .non) = isN d := by
  cases h <;> first | rfl | exact decide_eq_false (fun e => nomatch e)
theorem de_isN {jj : Nat} {p2 : Pos} (ha : DE X j e1 ta) : DE X j (.Compare e1 [.Is] [.Constant .none jj p2] pos) (dOp (fun _ y => y = .none) (fun x _ => .bool (isN x)) ta (dC .none)) :=
  op2 (fun b => pe_cmpR op_isN (ha.pe b) (de_non.pe b) (nomark _)) ha.mo (fun _ _ _ m q => m _ q) fun x y dx dy H Q k hx hy c q => by
    subst c
    cases hy
    refine ⟨rfl, ?_⟩
    rw [isN_ok hx]
    exact q _ H .refl (.bl _)
theorem de_notN {jj : Nat} {p2 : Pos} (ha : DE X j e1 ta) : DE X j (.Compare e1 [.IsNot] [.Constant .none jj p2] pos) (dOp (fun _ y => y = .none) (fun x _ => .bool (!isN x)) ta (dC .none)) :=
  op2 (fun b => pe_cmpR op_notN (ha.pe b) (de_non.pe b) (nomark _)) ha.mo (fun _ _ _ m q => m _ q) fun x y dx dy H Q k hx hy c q => by
    subst c
    cases hy
    refine ⟨rfl, ?_⟩
    rw [isN_ok hx]
    exact q _ H .refl (.bl _)
/-! ### rows: items, slices, put together -/
def itm : PyData → PyData → PyData | .tuple ds, .int i => (ds[i.toNat]?).getD .none | .list ds, .int i => (ds[i.toNat]?).getD .none | _, _ => .none
def cIx : PyData → PyData → Prop | .tuple ds, .int i => 0 ≤ i ∧ i < ds.length | .list ds, .int i => 0 ≤ i ∧ i < ds.length | _, _ => False
theorem snd_ix : Snd X.K b j (rIx X.K) cIx itm := by
  intro x y dx dy H Q k hx hy c q
  cases hx <;> cases hy <;> first | exact c.elim | skip
  · rename_i a xs ds h n r i
    obtain ⟨c1, c2⟩ := c
    obtain ⟨m, rfl⟩ := Int.eq_ofNat_of_zero_le c1
    have hm : m < ds.length := by omega
    obtain ⟨v, e1, e2⟩ := r.get (List.getElem?_eq_getElem hm)
    refine .inl ⟨a, xs, _, v, rfl, rfl, SqL.of h, atI_nat e1, q v H .refl ?_⟩
    show Dt X.K b H v ((ds[m]?).getD .none)
    rw [List.getElem?_eq_getElem hm]
    exact e2
  · rename_i a xs ds h r i
    obtain ⟨c1, c2⟩ := c
    obtain ⟨m, rfl⟩ := Int.eq_ofNat_of_zero_le c1
    have hm : m < ds.length := by omega
    obtain ⟨v, e1, e2⟩ := r.get (List.getElem?_eq_getElem hm)
    refine .inr (.inl ⟨a, xs, _, v, rfl, rfl, h, atI_nat e1, q v H .refl ?_⟩)
    show Dt X.K b H v ((ds[m]?).getD .none)
    rw [List.getElem?_eq_getElem hm]
    exact e2
theorem de_ix (ha : DE X j e1 ta) (hb : DE X j e2 tb) (hs : PlainIx e2 := by intro _ _; rfl) : DE X j (.Subscript e1 e2 pos) (dOp cIx itm ta tb) := op2 (fun b => pe_ix ix_seq (ha.pe b) (hb.pe b) hs) ha.mo hb.mo snd_ix
/-- t[lo:hi] of a tuple -/
def dSlo : Option DTE → List SV → (Option Int → Prop) → Prop
  | none, _, Q => Q none
  | some t, ρ, Q => t ρ fun d => ∃ i, d = .int i ∧ Q (some i)
def cutD (ds : List PyData) (lo hi : Option Int) : List PyData := (ds.drop (HT.sIx ds.length 0 lo)).take (HT.sIx ds.length ds.length hi - HT.sIx ds.length 0 lo)
def dSl (te : DTE) (lo hi : Option DTE) : DTE := fun ρ Q => te ρ fun d => dSlo lo ρ fun l => dSlo hi ρ fun h => ∃ ds, d = .tuple ds ∧ Q (.tuple (cutD ds l h))
end
end DL

namespace DL
open PySem PySem.Spec PyProof.Rows L2 GuL HG
def LO (K : PySem.W.Frag) (b : Bx) (j : Bool) (t : List SV → (Option Int → Prop) → Prop) : TO := fun σ H Q => ∃ ρ H0 G, Rel K b j H0 G σ H ρ ∧ t ρ fun o => ∀ H', Stp b j H H' → Q o H'
structure DO (X : Cx) (j : Bool) (e : Option Expr) (t : List SV → (Option Int → Prop) → Prop) : Prop where
  po : ∀ b : Bx, PO X e (LO X.K b j t)
  mo : ∀ ρ (Q Q' : Option Int → Prop), (∀ d, Q d → Q' d) → t ρ Q → t ρ Q'
def oNo : List SV → (Option Int → Prop) → Prop := fun _ Q => Q none
def oPt (te : DTE) : List SV → (Option Int → Prop) → Prop := fun ρ Q => te ρ fun d => match d with | .int i => Q (some i) | _ => False
def gSl (te : DTE) (tl th : List SV → (Option Int → Prop) → Prop) : DTE := fun ρ Q => te ρ fun d => tl ρ fun l => th ρ fun h => match d with | .tuple ds => Q (.tuple (cutD ds l h)) | _ => False
section
variable {X : Cx} {b : Bx} {j : Bool} {e e1 e2 e3 : Expr} {es : List Expr} {pos : Pos} {ta tb tc : DTE} {tt : DTA}
theorem do_no : DO X j none oNo := ⟨fun b => ⟨fun pins s σ H Q I ⟨_, _, _, _, q⟩ => po_none.run pins s σ H Q I (q H .refl)⟩, fun _ _ _ m q => m _ q⟩
theorem do_pt (ha : DE X j e ta) : DO X j (some e) (oPt ta) := by
  refine ⟨fun b => ⟨fun pins s σ H Q I ⟨ρ, H0, G, r, q⟩ => (po_some (ha.pe b)).run pins s σ H Q I ?_⟩, fun ρ Q Q' m q => ha.mo ρ _ _ (fun d h => ?_) q⟩
  · refine ⟨ρ, H0, G, r, ha.mo ρ _ _ (fun d h v H' st hv => ?_) q⟩
    cases hv <;> first | exact h.elim | skip
    exact ⟨_, rfl, h H' st⟩
  · cases d <;> first | exact h.elim | exact m _ h
theorem cutV_dts {K : PySem.W.Frag} {H : Hp} {xs : List V} {ds : List PyData} {lo hi : Option Int} (h : Dts K b H xs ds) : Dts K b H (cutV xs lo hi) (cutD ds lo hi) := by
  unfold cutV cutD
  rw [h.len]
  exact (h.drop _).take _
theorem de_sl {lo hi : Option Expr} {p2 : Pos} {tl th : List SV → (Option Int → Prop) → Prop} (ha : DE X j e ta) (hl : DO X j lo tl) (hh : DO X j hi th) : DE X j (.Subscript e (.Slice lo hi none p2) pos) (gSl ta tl th) := by
  refine ⟨fun b => peI (pe_slice sl_tupA (ha.pe b) (hl.po b) (hh.po b)) ?_, fun ρ Q Q' m q => ha.mo ρ _ _ (fun d h => hl.mo ρ _ _ (fun l h => hh.mo ρ _ _ (fun u h => ?_) h) h) q⟩
  · rintro σ H Q ⟨ρ, H0, G, r, q⟩
    refine ⟨ρ, H0, G, r, ha.mo ρ _ _ (fun d q v H1 s1 hv => ?_) q⟩
    have r1 := r.step s1
    refine ⟨ρ, H0, G, r1, hl.mo ρ _ _ (fun l q H2 s2 => ?_) q⟩
    have r2 := r1.step s2
    refine ⟨ρ, H0, G, r2, hh.mo ρ _ _ (fun u q H3 s3 => ?_) q⟩
    have r3 := r2.step s3
    cases hv with
    | @tup a xs ds h1 h2 =>
      have g1 := sqT_stp r2.kH s3 (sqT_stp r1.kH s2 h1)
      have g2 := (h2.stp r1.kH s2).stp r2.kH s3
      have st := (s1.trans s2).trans s3
      refine ⟨a, xs, rfl, g1, fun w => ?_, fun _ p hp => ?_⟩
      · refine q _ _ st (.tup g1 ?_)
        have e : cutD ds l u = ds := by
          unfold cutD
          rw [← g2.len, w.1, w.2, List.drop_zero, Nat.sub_zero, g2.len, List.take_length]
        rw [e]
        exact g2
      · exact q _ _ (st.trans (.new hp)) (.tup (SqT.of upd_same) ((cutV_dts g2).stp r3.kH (.new hp)))
    | _ => exact q.elim
  · cases d <;> first | exact h.elim | exact m _ h
/-- two tuples put together -/
def cCat : PyData → PyData → Prop | .tuple ds, .tuple es => ds.length + es.length ≤ 100000 | _, _ => False
def gCat : PyData → PyData → PyData | .tuple ds, .tuple es => .tuple (ds ++ es) | _, _ => .none
theorem de_cat (ha : DE X j e1 ta) (hb : DE X j e2 tb) : DE X j (.BinOp e1 .Add e2 pos) (dOp cCat gCat ta tb) := op2 (fun b => pe_op op_catA (ha.pe b) (hb.pe b)) ha.mo hb.mo fun {_} x y dx dy H Q k hx hy c q => by
  cases hx <;> cases hy <;> first | exact c.elim | skip
  rename_i a xs ds h1 h2 a' ys es g1 g2
  have c' : ds.length + es.length ≤ 100000 := c
  refine ⟨a, a', xs, ys, rfl, rfl, h1, g1, by rw [h2.len, g2.len]; exact Nat.le_trans c' (by decide), fun e => ?_, fun _ e => ?_, fun _ _ p hp => ?_⟩
  · subst e
    cases h2
    exact q _ _ .refl (.tup g1 g2)
  · subst e
    cases g2
    exact q _ _ .refl (.tup h1 (by rw [List.append_nil]; exact h2))
  · exact q _ _ (.new hp) (.tup (SqT.of upd_same) ((h2.app g2).stp k.kj (.new hp)))
/-! ### arguments, displays -/
def aNil : DTA := fun _ Q => Q []
def aCons (t : DTE) (u : DTA) : DTA := fun ρ Q => t ρ fun d => u ρ fun ds => Q (d :: ds)
theorem da_nil : DA X j [] aNil := ⟨fun b => paI pa_nil fun σ H Q ⟨_, _, _, _, q⟩ => q [] H .refl .nil, fun _ _ _ m q => m _ q⟩
theorem da_cons (ha : DE X j e ta) (hr : DA X j es tt) (hs : starEach (e :: es) X.env = (false, eval e X.env) :: starEach es X.env := by rfl) : DA X j (e :: es) (aCons ta tt) := by
  refine ⟨fun b => paI (pa_cons (ha.pe b) (hr.pa b) hs) ?_, fun ρ Q Q' m q => ha.mo ρ _ _ (fun d h => hr.mo ρ _ _ (fun ds h => m _ h) h) q⟩
  rintro σ H Q ⟨ρ, H0, G, r, q⟩
  refine ⟨ρ, H0, G, r, ha.mo ρ _ _ (fun d q v H1 s1 hv => ?_) q⟩
  refine ⟨ρ, H0, G, r.step s1, hr.mo ρ _ _ (fun ds q vs H2 s2 hvs => ?_) q⟩
  exact q _ _ (s1.trans s2) (.cons (hv.stp (r.step s1).kH s2) hvs)
def dTup (t : DTA) : DTE := fun ρ Q => t ρ fun ds => ds.length ≤ 1000 ∧ Q (.tuple ds)
theorem sz1000 {n : Nat} (h : n ≤ 1000) : n ≤ sizeLine := Nat.le_trans h (by decide)
theorem sz5 {n : Nat} (h : n ≤ 100000) : n ≤ sizeLine := Nat.le_trans h (by decide)
theorem de_tup {x1 : Nat} (h : DA X j es tt) : DE X j (.Tuple es x1 pos) (dTup tt) := by
  refine ⟨fun b => peI (pe_tup (h.pa b)) ?_, fun ρ Q Q' m q => h.mo ρ _ _ (fun ds h => ⟨h.1, m _ h.2⟩) q⟩
  rintro σ H Q ⟨ρ, H0, G, r, q⟩
  refine ⟨ρ, H0, G, r, h.mo ρ _ _ (fun ds q vs H1 s1 hv => ⟨by rw [hv.len]; exact sz1000 q.1, fun p hp => ?_⟩) q⟩
  exact q.2 _ _ (s1.trans (.new hp)) (.tup (SqT.of upd_same) (hv.stp (r.step s1).kH (.new hp)))
def nLst (t : DTA) : DTA := fun ρ Q => t ρ fun ds => ds.length ≤ 1000 ∧ Q ds
theorem dn_lst (h : DA X j es tt) : DN X j (.List es pos) (nLst tt) := by
  refine ⟨fun b => peI (pe_lst (h.pa b)) ?_, fun ρ Q Q' m q => h.mo ρ _ _ (fun ds h => ⟨h.1, m _ h.2⟩) q⟩
  rintro σ H Q ⟨ρ, H0, G, r, q⟩
  refine ⟨ρ, H0, G, r, h.mo ρ _ _ (fun ds q vs H1 s1 hv => ⟨by rw [hv.len]; exact sz1000 q.1, fun p hp => ?_⟩) q⟩
  exact q.2 _ _ _ (s1.trans (.new hp)) (s1.free r.kH hp) upd_same (hv.newL (r.step s1).kH hp)
/-- a new list, as data -/
def dNew (t : DTA) : DTE := fun ρ Q => t ρ fun ds => Q (.list ds)
theorem de_new (h : DN X j e tt) : DE X j e (dNew tt) := by
  refine ⟨fun b => peI (h.pe b) ?_, fun ρ Q Q' m q => h.mo ρ _ _ (fun ds h => m _ h) q⟩
  rintro σ H Q ⟨ρ, H0, G, r, q⟩
  exact ⟨ρ, H0, G, r, h.mo ρ _ _ (fun ds q p xs H1 s1 hp hx hd => q _ _ s1 (.lst hx (r.knH.ne hp) hd.un)) q⟩
/-! ### calls of built-ins -/
def dCB (C : List PyData → Prop) (g : List PyData → PyData) (t : DTA) : DTE := fun ρ Q => t ρ fun ds => C ds ∧ Q (g ds)
def SndC (K : PySem.W.Frag) (b : Bx) (j : Bool) (r : List V → Hp → VK → Prop) (C : List PyData → Prop) (g : List PyData → PyData) : Prop :=
  ∀ xs ds H Q, Kn b j H → Dts K b H xs ds → C ds → (∀ v H', Stp b j H H' → Dt K b H' v (g ds) → Q v H') → r xs H Q
theorem de_cb {r : List V → Hp → VK → Prop} {C : List PyData → Prop} {g : List PyData → PyData} (h : ∀ b : Bx, PE X e (tCB r (LA X.K b j tt))) (mo : ∀ ρ (Q Q' : List PyData → Prop), (∀ d, Q d → Q' d) → tt ρ Q → tt ρ Q') (s : ∀ {b : Bx}, SndC X.K b j r C g) : DE X j e (dCB C g tt) := by
  refine ⟨fun b => peI (h b) ?_, fun ρ Q Q' m q => mo ρ _ _ (fun ds h => ⟨h.1, m _ h.2⟩) q⟩
  rintro σ H Q ⟨ρ, H0, G, rl, q⟩
  exact ⟨ρ, H0, G, rl, mo ρ _ _ (fun ds q vs H1 s1 hv => s vs ds H1 Q (rl.step s1).knH hv q.1 fun v H' s3 hd => q.2 v H' (s1.trans s3) hd) q⟩
/-- len -/
def cLen : List PyData → Prop | [.tuple _] => True | [.list _] => True | [.str x] => x.length ≤ 100000 | _ => False
def gLen : List PyData → PyData | [.tuple ds] => .int ds.length | [.list ds] => .int ds.length | [.str x] => .int x.length | _ => .none
theorem snd_len : SndC X.K b j (rLen X.K) cLen gLen := by
  intro xs ds H Q k h c q
  cases h with
  | nil => exact c.elim
  | cons h1 h2 =>
    cases h2 with
    | cons _ _ => cases h1 <;> exact c.elim
    | nil =>
      cases h1 with
      | str x => exact ⟨_, _, rfl, ⟨sz5 c, rfl⟩, q _ H .refl (.int _)⟩
      | lst g1 g2 g3 => exact ⟨_, _, rfl, .inl ⟨_, SqL.of g1, rfl⟩, q _ H .refl (by rw [g3.len]; exact .int _)⟩
      | tup g1 g3 => exact ⟨_, _, rfl, .inr ⟨_, g1, rfl⟩, q _ H .refl (by rw [g3.len]; exact .int _)⟩
      | _ => exact c.elim
theorem de_len {p : Pos} (hg : Gl X "len") (hm : X.mg "len" = none) (ha : DA X j (e :: es) tt)
    (he : starEach (e :: es) X.env = (false, eval e X.env) :: starEach es X.env := by rfl) (hpl : (backTo pos (starEach es X.env)).any (·.1) = false := by rfl) : DE X j (.Call (.Name "len" p) (e :: es) [] pos) (dCB cLen gLen tt) :=
  de_cb (fun b => pe_callB call_len hg hm PySem.boot_len (ha.pa b) (by decide) (by decide) he hpl) ha.mo snd_len
end
end DL

namespace DL
open PySem PySem.Spec PyProof.Rows L2 GuL HG
abbrev MoE (t : DTE) : Prop := ∀ ρ (Q Q' : PyData → Prop), (∀ d, Q d → Q' d) → t ρ Q → t ρ Q'
abbrev MoA (t : DTA) : Prop := ∀ ρ (Q Q' : List PyData → Prop), (∀ d, Q d → Q' d) → t ρ Q → t ρ Q'
abbrev MoT (t : DTT) : Prop := ∀ ρ (Q Q' : Bool → Prop), (∀ d, Q d → Q' d) → t ρ Q → t ρ Q'
/-- a bool's worth -/
def bw1 (d : PyData) (Q : Bool → Prop) : Prop := match d with | .bool c => Q c | _ => False
theorem bw1_mo {d : PyData} {Q Q' : Bool → Prop} (m : ∀ c, Q c → Q' c) (h : bw1 d Q) : bw1 d Q' := by
  cases d <;> first | exact h.elim | exact m _ h
def dB (t : DTE) : DTT := fun ρ Q => t ρ fun d => bw1 d Q
def dtAnd (t u : DTT) : DTT := fun ρ Q => t ρ fun c => if c = true then u ρ Q else Q false
def dtOr (t u : DTT) : DTT := fun ρ Q => t ρ fun c => if c = true then Q true else u ρ Q
def dtNot (t : DTT) : DTT := fun ρ Q => t ρ fun c => Q (!c)
def dAnd (t u : DTE) : DTE := fun ρ Q => t ρ fun d => bw1 d fun c => if c = true then u ρ Q else Q (.bool false)
def dOr (t u : DTE) : DTE := fun ρ Q => t ρ fun d => bw1 d fun c => if c = true then Q (.bool true) else u ρ Q
def dNot (t : DTE) : DTE := fun ρ Q => t ρ fun d => bw1 d fun c => Q (.bool (!c))
def dIf (t : DTT) (u v : DTE) : DTE := fun ρ Q => t ρ fun c => if c = true then u ρ Q else v ρ Q
section
variable {X : Cx} {b : Bx} {j : Bool} {e e1 e2 e3 : Expr} {es : List Expr} {pos : Pos} {ta tb tc : DTE} {tt : DTA} {t u : DTT}
theorem dt_val (h : DE X j e ta) (he : ∀ whole, isTrue e X.env whole = (do let v ← whole; standAt e.pos; holding [v] (truthy v)) := by intro _; rfl) : DT X j e (dB ta) := by
  refine ⟨fun b => ptI (pt_val (h.pe b) he) ?_, fun ρ Q Q' m q => h.mo ρ _ _ (fun d h => bw1_mo m h) q⟩
  rintro σ H Q ⟨ρ, H0, G, r, q⟩
  refine ⟨ρ, H0, G, r, h.mo ρ _ _ (fun d q v H' st hv => ?_) q⟩
  cases hv <;> first | exact q.elim | exact ⟨_, rfl, q H' st⟩
theorem op2T {r : R2} {C : PyData → PyData → Prop} {g : PyData → PyData → PyData} (h : ∀ b : Bx, PT X e (tTest (tOp r (LE X.K b j ta) (LE X.K b j tb)))) (ma : MoE ta) (mb : MoE tb) (s : ∀ {b : Bx}, Snd X.K b j r C g) : DT X j e (dB (dOp C g ta tb)) := by
  refine ⟨fun b => ptI (h b) ?_, fun ρ Q Q' m q => mo_op ma mb ρ _ _ (fun d h => bw1_mo m h) q⟩
  rintro σ H Q ⟨ρ, H0, G, rl, q⟩
  refine ⟨ρ, H0, G, rl, ma ρ _ _ (fun dx q => ?_) q⟩
  intro x H1 s1 hx
  refine ⟨ρ, H0, G, rl.step s1, mb ρ _ _ (fun dy q => ?_) q⟩
  intro y H2 s2 hy
  have r2 := (rl.step s1).step s2
  refine s x y dx dy H2 _ r2.knH (hx.stp (rl.step s1).kH s2) hy q.1 fun v H' s3 hv => ?_
  have q2 := q.2
  generalize g dx dy = dd at q2 hv
  cases hv <;> first | exact q2.elim | exact ⟨_, rfl, q2 H' ((s1.trans s2).trans s3)⟩
theorem dt_lt (ha : DE X j e1 ta) (hb : DE X j e2 tb) : DT X j (.Compare e1 [.Lt] [e2] pos) (dB (dOp cI0 (gII fun i k => .bool (decide (i < k))) ta tb)) := op2T (fun b => pt_cmpR op_lt (ha.pe b) (hb.pe b) (nomark _)) ha.mo hb.mo (snd_I0 fun _ _ _ => .bl _)
theorem dt_le (ha : DE X j e1 ta) (hb : DE X j e2 tb) : DT X j (.Compare e1 [.LtE] [e2] pos) (dB (dOp cI0 (gII fun i k => .bool (decide (i ≤ k))) ta tb)) := op2T (fun b => pt_cmpR op_le (ha.pe b) (hb.pe b) (nomark _)) ha.mo hb.mo (snd_I0 fun _ _ _ => .bl _)
theorem dt_gt (ha : DE X j e1 ta) (hb : DE X j e2 tb) : DT X j (.Compare e1 [.Gt] [e2] pos) (dB (dOp cI0 (gII fun i k => .bool (decide (k < i))) ta tb)) := op2T (fun b => pt_cmpR op_gt (ha.pe b) (hb.pe b) (nomark _)) ha.mo hb.mo (snd_I0 fun _ _ _ => .bl _)
theorem dt_ge (ha : DE X j e1 ta) (hb : DE X j e2 tb) : DT X j (.Compare e1 [.GtE] [e2] pos) (dB (dOp cI0 (gII fun i k => .bool (decide (k ≤ i))) ta tb)) := op2T (fun b => pt_cmpR op_ge (ha.pe b) (hb.pe b) (nomark _)) ha.mo hb.mo (snd_I0 fun _ _ _ => .bl _)
theorem dt_eq (ha : DE X j e1 ta) (hb : DE X j e2 tb) : DT X j (.Compare e1 [.Eq] [e2] pos) (dB (dOp cSc (fun x y => .bool (eSc x y)) ta tb)) := op2T (fun b => pt_cmpR op_eq (ha.pe b) (hb.pe b) (nomark _)) ha.mo hb.mo snd_eq
theorem dt_ne (ha : DE X j e1 ta) (hb : DE X j e2 tb) : DT X j (.Compare e1 [.NotEq] [e2] pos) (dB (dOp cSc (fun x y => .bool (!eSc x y)) ta tb)) := op2T (fun b => pt_cmpR op_ne (ha.pe b) (hb.pe b) (nomark _)) ha.mo hb.mo snd_ne
def cSh : PyData → PyData → Prop := fun x y => SeqAt.shaped x = true ∧ SeqAt.shaped y = true
theorem snd_eqD : Snd X.K b j (rEqD X.K) cSh (fun x y => .bool (PyData.eqv x y)) := fun x y dx dy H Q k hx hy c q => ⟨dx, dy, hx.dp (noD_of c.1), hy.dp (noD_of c.2), c.1, c.2, q _ H .refl (.bl _)⟩
theorem snd_neD : Snd X.K b j (rNeD X.K) cSh (fun x y => .bool (!PyData.eqv x y)) := fun x y dx dy H Q k hx hy c q => ⟨dx, dy, hx.dp (noD_of c.1), hy.dp (noD_of c.2), c.1, c.2, q _ H .refl (.bl _)⟩
theorem dt_eqD (hu : X.A.units + 64 < cLine) (ha : DE X j e1 ta) (hb : DE X j e2 tb) : DT X j (.Compare e1 [.Eq] [e2] pos) (dB (dOp cSh (fun x y => .bool (PyData.eqv x y)) ta tb)) := op2T (fun b => pt_cmpR (op_eqD hu) (ha.pe b) (hb.pe b) (nomark _)) ha.mo hb.mo snd_eqD
theorem dt_neD (hu : X.A.units + 64 < cLine) (ha : DE X j e1 ta) (hb : DE X j e2 tb) : DT X j (.Compare e1 [.NotEq] [e2] pos) (dB (dOp cSh (fun x y => .bool (!PyData.eqv x y)) ta tb)) := op2T (fun b => pt_cmpR (op_neD hu) (ha.pe b) (hb.pe b) (nomark _)) ha.mo hb.mo snd_neD
theorem snd_isN : Snd X.K b j (fun x y H Q => y = .non ∧ Q (.bl (decide (x = .non))) H) (fun _ y => y = .none) (fun x _ => .bool (isN x)) := fun x y dx dy H Q k hx hy c q => by
  subst c
  cases hy
  refine ⟨rfl, ?_⟩
  rw [isN_ok hx]
  exact q _ H .refl (.bl _)
theorem snd_notN : Snd X.K b j (fun x y H Q => y = .non ∧ Q (.bl (!decide (x = .non))) H) (fun _ y => y = .none) (fun x _ => .bool (!isN x)) := fun x y dx dy H Q k hx hy c q => by
  subst c
  cases hy
  refine ⟨rfl, ?_⟩
  rw [isN_ok hx]
  exact q _ H .refl (.bl _)
theorem dt_isN {jj : Nat} {p2 : Pos} (ha : DE X j e1 ta) : DT X j (.Compare e1 [.Is] [.Constant .none jj p2] pos) (dB (dOp (fun _ y => y = .none) (fun x _ => .bool (isN x)) ta (dC .none))) := op2T (fun b => pt_cmpR op_isN (ha.pe b) (de_non.pe b) (nomark _)) ha.mo (fun _ _ _ m q => m _ q) snd_isN
theorem dt_notN {jj : Nat} {p2 : Pos} (ha : DE X j e1 ta) : DT X j (.Compare e1 [.IsNot] [.Constant .none jj p2] pos) (dB (dOp (fun _ y => y = .none) (fun x _ => .bool (!isN x)) ta (dC .none))) := op2T (fun b => pt_cmpR op_notN (ha.pe b) (de_non.pe b) (nomark _)) ha.mo (fun _ _ _ m q => m _ q) snd_notN
/-- x in a row of texts -/
def cInS : PyData → PyData → Prop | .str _, .tuple ds => ∃ zs : List Str, ds = zs.map .str | _, _ => False
def isS (z : Str) : PyData → Bool | .str y => y == z | _ => false
def gInS : PyData → PyData → PyData | .str z, .tuple ds => .bool (ds.any (isS z)) | _, _ => .none
theorem dts_strs {K : PySem.W.Frag} {H : Hp} : ∀ {xs : List V} {zs : List Str}, Dts K b H xs (zs.map .str) → xs = zs.map V.str
  | _, [], .nil => rfl
  | _, z :: zs, .cons h r => by
    cases h
    rw [dts_strs r]
    rfl
theorem snd_inS : Snd X.K b j (rIn X.K false) cInS gInS := fun x y dx dy H Q k hx hy c q => by
  cases hx <;> first | exact c.elim | skip
  cases hy <;> first | exact c.elim | skip
  rename_i z a xs ds h r
  obtain ⟨zs, rfl⟩ := c
  have e := dts_strs r
  subst e
  refine ⟨a, _, rfl, .inr h, rfl, ?_, ?_⟩
  · rw [List.all_map]
    exact List.all_eq_true.mpr fun _ _ => rfl
  · refine q _ H .refl ?_
    have e : (if false = true then !inV (V.str z) (zs.map V.str) else inV (V.str z) (zs.map V.str)) = (zs.map PyData.str).any (isS z) := by
      rw [if_neg Bool.false_ne_true]
      unfold inV
      rw [List.any_map, List.any_map]
      rfl
    rw [e]
    exact .bl _
theorem de_inS (ha : DE X j e1 ta) (hb : DE X j e2 tb) (hm : behindInMarks .In e2 = false := by rfl) : DE X j (.Compare e1 [.In] [e2] pos) (dOp cInS gInS ta tb) := op2 (fun b => pe_cmpR op_in_seq (ha.pe b) (hb.pe b) hm) ha.mo hb.mo snd_inS
theorem dt_inS (ha : DE X j e1 ta) (hb : DE X j e2 tb) (hm : behindInMarks .In e2 = false := by rfl) : DT X j (.Compare e1 [.In] [e2] pos) (dB (dOp cInS gInS ta tb)) := op2T (fun b => pt_cmpR op_in_seq (ha.pe b) (hb.pe b) hm) ha.mo hb.mo snd_inS
/-! ### and, or, not, if else, chains -/
theorem dw_and1 (h : DT X j e t) : DW X j (.BoolOp .And [e] pos) t := ⟨fun b => pw_and1 (h.pt b), h.mo⟩
theorem dw_or1 (h : DT X j e t) : DW X j (.BoolOp .Or [e] pos) t := ⟨fun b => pw_or1 (h.pt b), h.mo⟩
theorem dw_and (ha : DT X j e t) (hb : DW X j (.BoolOp .And (e1 :: es) pos) u) : DW X j (.BoolOp .And (e :: e1 :: es) pos) (dtAnd t u) := by
  refine ⟨fun b => pwI (pw_and (ha.pt b) (hb.pw b)) ?_, fun ρ Q Q' m q => ha.mo ρ _ _ (fun c h => ?_) q⟩
  · rintro σ H Q ⟨ρ, H0, G, r, q⟩
    refine ⟨ρ, H0, G, r, ha.mo ρ _ _ (fun c q H1 s1 => ?_) q⟩
    cases c with
    | true => exact ⟨ρ, H0, G, r.step s1, hb.mo ρ _ _ (fun c q H2 s2 => q H2 (s1.trans s2)) q⟩
    | false => exact q H1 s1
  · cases c with
    | true => exact hb.mo ρ _ _ m h
    | false => exact m _ h
theorem dw_or (ha : DT X j e t) (hb : DW X j (.BoolOp .Or (e1 :: es) pos) u) : DW X j (.BoolOp .Or (e :: e1 :: es) pos) (dtOr t u) := by
  refine ⟨fun b => pwI (pw_or (ha.pt b) (hb.pw b)) ?_, fun ρ Q Q' m q => ha.mo ρ _ _ (fun c h => ?_) q⟩
  · rintro σ H Q ⟨ρ, H0, G, r, q⟩
    refine ⟨ρ, H0, G, r, ha.mo ρ _ _ (fun c q H1 s1 => ?_) q⟩
    cases c with
    | false => exact ⟨ρ, H0, G, r.step s1, hb.mo ρ _ _ (fun c q H2 s2 => q H2 (s1.trans s2)) q⟩
    | true => exact q H1 s1
  · cases c with
    | false => exact hb.mo ρ _ _ m h
    | true => exact m _ h
theorem DW.dt (h : DW X j e t) : DT X j e t := ⟨fun b => (h.pw b).pt, h.mo⟩
theorem dt_not (h : DT X j e t) : DT X j (.UnaryOp .Not e pos) (dtNot t) := by
  refine ⟨fun b => ptI (pt_not (h.pt b)) ?_, fun ρ Q Q' m q => h.mo ρ _ _ (fun c h => m _ h) q⟩
  rintro σ H Q ⟨ρ, H0, G, r, q⟩
  exact ⟨ρ, H0, G, r, q⟩
theorem de_one {op : BoolOp} (h : DE X j e ta) : DE X j (.BoolOp op [e] pos) ta := ⟨fun b => pe_one (h.pe b), h.mo⟩
theorem de_andV (ha : DE X j e ta) (hb : DE X j (.BoolOp .And (e1 :: es) pos) tb) : DE X j (.BoolOp .And (e :: e1 :: es) pos) (dAnd ta tb) := by
  refine ⟨fun b => peI (pe_and (ha.pe b) (hb.pe b)) ?_, fun ρ Q Q' m q => ha.mo ρ _ _ (fun d h => bw1_mo (fun c h => ?_) h) q⟩
  · rintro σ H Q ⟨ρ, H0, G, r, q⟩
    refine ⟨ρ, H0, G, r, ha.mo ρ _ _ (fun d q v H1 s1 hv => ?_) q⟩
    cases hv <;> first | exact q.elim | skip
    rename_i c
    refine ⟨c, rfl, ?_⟩
    cases c with
    | true => exact ⟨ρ, H0, G, r.step s1, hb.mo ρ _ _ (fun d q v H2 s2 hv => q v H2 (s1.trans s2) hv) q⟩
    | false => exact q _ H1 s1 (.bl _)
  · cases c with
    | true => exact hb.mo ρ _ _ m h
    | false => exact m _ h
theorem de_orV (ha : DE X j e ta) (hb : DE X j (.BoolOp .Or (e1 :: es) pos) tb) : DE X j (.BoolOp .Or (e :: e1 :: es) pos) (dOr ta tb) := by
  refine ⟨fun b => peI (pe_or (ha.pe b) (hb.pe b)) ?_, fun ρ Q Q' m q => ha.mo ρ _ _ (fun d h => bw1_mo (fun c h => ?_) h) q⟩
  · rintro σ H Q ⟨ρ, H0, G, r, q⟩
    refine ⟨ρ, H0, G, r, ha.mo ρ _ _ (fun d q v H1 s1 hv => ?_) q⟩
    cases hv <;> first | exact q.elim | skip
    rename_i c
    refine ⟨c, rfl, ?_⟩
    cases c with
    | false => exact ⟨ρ, H0, G, r.step s1, hb.mo ρ _ _ (fun d q v H2 s2 hv => q v H2 (s1.trans s2) hv) q⟩
    | true => exact q _ H1 s1 (.bl _)
  · cases c with
    | false => exact hb.mo ρ _ _ m h
    | true => exact m _ h
theorem de_not (ha : DE X j e ta) : DE X j (.UnaryOp .Not e pos) (dNot ta) := by
  refine ⟨fun b => peI (pe_not (ha.pe b)) ?_, fun ρ Q Q' m q => ha.mo ρ _ _ (fun d h => bw1_mo (fun c h => m _ h) h) q⟩
  rintro σ H Q ⟨ρ, H0, G, r, q⟩
  refine ⟨ρ, H0, G, r, ha.mo ρ _ _ (fun d q v H1 s1 hv => ?_) q⟩
  cases hv <;> first | exact q.elim | exact ⟨_, rfl, q _ H1 s1 (.bl _)⟩
theorem de_if (hc : DT X j e t) (ha : DE X j e1 ta) (hb : DE X j e2 tb) : DE X j (.IfExp e e1 e2 pos) (dIf t ta tb) := by
  refine ⟨fun b => peI (pe_ifExp (hc.pt b) (ha.pe b) (hb.pe b)) ?_, fun ρ Q Q' m q => hc.mo ρ _ _ (fun c h => ?_) q⟩
  · rintro σ H Q ⟨ρ, H0, G, r, q⟩
    refine ⟨ρ, H0, G, r, hc.mo ρ _ _ (fun c q H1 s1 => ?_) q⟩
    cases c with
    | true => exact ⟨ρ, H0, G, r.step s1, ha.mo ρ _ _ (fun d q v H2 s2 hv => q v H2 (s1.trans s2) hv) q⟩
    | false => exact ⟨ρ, H0, G, r.step s1, hb.mo ρ _ _ (fun d q v H2 s2 hv => q v H2 (s1.trans s2) hv) q⟩
  · cases c with
    | true => exact ha.mo ρ _ _ m h
    | false => exact hb.mo ρ _ _ m h
/-- a <= b <= c of whole numbers, and the like -/
def chI (f f' : Int → Int → Bool) (ta tb tc : DTE) : DTE := fun ρ Q => ta ρ fun x => tb ρ fun y => match x, y with
  | .int i, .int k => if f i k = true then tc ρ fun z => match z with | .int l => Q (.bool (f' k l)) | _ => False else Q (.bool false)
  | _, _ => False
theorem chI_mo {f f' : Int → Int → Bool} (ma : MoE ta) (mb : MoE tb) (mc : MoE tc) : MoE (chI f f' ta tb tc) := fun ρ Q Q' m q => ma ρ _ _ (fun x h => mb ρ _ _ (fun y h => by
  cases x <;> first | exact h.elim | skip
  cases y <;> first | exact h.elim | skip
  rename_i i _ k
  show if f i k = true then _ else _
  have h' : if f i k = true then (tc ρ fun z => match z with | .int l => Q (.bool (f' k l)) | _ => False) else Q (.bool false) := h
  split at h'
  · rename_i c
    rw [if_pos c]
    exact mc ρ _ _ (fun z h => by cases z <;> first | exact h.elim | exact m _ h) h'
  · rename_i c
    rw [if_neg c]
    exact m _ h') h) q
theorem chI_ok {f f' : Int → Int → Bool} (ma : MoE ta) (mb : MoE tb) (mc : MoE tc) : ∀ σ H Q, LE X.K b j (chI f f' ta tb tc) σ H Q → tChain (rI0 fun i k => .bl (f i k)) (rI0 fun i k => .bl (f' i k)) (LE X.K b j ta) (LE X.K b j tb) (LE X.K b j tc) σ H Q := by
  rintro σ H Q ⟨ρ, H0, G, r, q⟩
  refine ⟨ρ, H0, G, r, ma ρ _ _ (fun x q v H1 s1 hv => ?_) q⟩
  refine ⟨ρ, H0, G, r.step s1, mb ρ _ _ (fun y q w H2 s2 hw => ?_) q⟩
  cases hv <;> first | exact q.elim | skip
  cases hw <;> first | exact q.elim | skip
  rename_i i _ k
  have q' : if f i k = true then (tc ρ fun z => match z with | .int l => ∀ v H', Stp b j H H' → Dt X.K b H' v (.bool (f' k l)) → Q v H' | _ => False) else ∀ v H', Stp b j H H' → Dt X.K b H' v (.bool false) → Q v H' := q
  refine ⟨i, k, rfl, rfl, _, rfl, ?_⟩
  split at q'
  · rename_i c
    rw [if_pos c]
    refine ⟨ρ, H0, G, (r.step s1).step s2, mc ρ _ _ (fun z q w H3 s3 hw => ?_) q'⟩
    cases hw <;> first | exact q.elim | skip
    exact ⟨_, _, rfl, rfl, q _ H3 ((s1.trans s2).trans s3) (.bl _)⟩
  · rename_i c
    rw [if_neg c]
    exact q' _ H2 (s1.trans s2) (.bl _)
theorem de_lele (ha : DE X j e1 ta) (hb : DE X j e2 tb) (hc : DE X j e3 tc) (hm : lastMarks [.LtE, .LtE] [e2, e3] = false := by with_unfolding_all rfl) : DE X j (.Compare e1 [.LtE, .LtE] [e2, e3] pos) (chI (fun i k => decide (i ≤ k)) (fun i k => decide (i ≤ k)) ta tb tc) :=
  ⟨fun b => peI (pe_chain op_le op_le (ha.pe b) (hb.pe b) (hc.pe b) hm) (chI_ok ha.mo hb.mo hc.mo), chI_mo ha.mo hb.mo hc.mo⟩
theorem dt_lele (ha : DE X j e1 ta) (hb : DE X j e2 tb) (hc : DE X j e3 tc) (hm : lastMarks [.LtE, .LtE] [e2, e3] = false := by with_unfolding_all rfl) : DT X j (.Compare e1 [.LtE, .LtE] [e2, e3] pos) (dB (chI (fun i k => decide (i ≤ k)) (fun i k => decide (i ≤ k)) ta tb tc)) := by
  refine ⟨fun b => ptI (pt_chain op_le op_le (ha.pe b) (hb.pe b) (hc.pe b) hm) ?_, fun ρ Q Q' m q => chI_mo ha.mo hb.mo hc.mo ρ _ _ (fun d h => bw1_mo m h) q⟩
  rintro σ H Q ⟨ρ, H0, G, r, q⟩
  refine chI_ok ha.mo hb.mo hc.mo σ H _ ⟨ρ, H0, G, r, chI_mo ha.mo hb.mo hc.mo ρ _ _ (fun d q v H' st hv => ?_) q⟩
  cases hv <;> first | exact q.elim | exact ⟨_, rfl, q H' st⟩
end
end DL

namespace DL
open PySem PySem.Spec PyProof.Rows L2 GuL HG
section
variable {X : Cx} {b : Bx} {j : Bool} {e e1 e2 e3 : Expr} {es : List Expr} {pos p : Pos} {ta tb tc : DTE} {tt : DTA} {t u : DTT}
/-! ### isinstance -/
def tyN : PyData → String | .none => "NoneType" | .bool _ => "bool" | .int _ => "int" | .str _ => "str" | .list _ => "list" | .tuple _ => "tuple" | .dict _ => "dict"
def isT (T : String) (d : PyData) : Bool := (kitB (tyN d) T).getD false
def dIsi (T : String) (t : DTE) : DTE := fun ρ Q => t ρ fun d => Q (.bool (isT T d))
theorem dt_ty {K : PySem.W.Frag} {H : Hp} {x : V} {d : PyData} (h : Dt K b H x d) : TyX K H x (.type (tyN d)) := by
  cases h with
  | non => exact .base .non
  | bl c => exact .base (.bl c)
  | int i => exact .base (.int i)
  | str z => exact .base (.str z)
  | lst h _ _ => exact .base (.lst h)
  | emp h => exact .base (.dK h)
  | tup h _ =>
    rcases h with (h | ⟨o, h⟩) | ⟨o, its, n, h1, h2, _⟩
    · exact .base (.tup h)
    · exact .fTuple h
    · exact .kTuple h1 h2
theorem de_isi {T : String} (hg : Gl X "isinstance") (hm : X.mg "isinstance" = none) (hT : PE X e1 (tC (.ty T))) (hk : ∀ d : PyData, (kitB (tyN d) T).isSome = true) (ha : DE X j e ta)
    (he : starEach (e :: [e1]) X.env = (false, eval e X.env) :: starEach [e1] X.env := by rfl) (he2 : starEach [e1] X.env = (false, eval e1 X.env) :: starEach [] X.env := by rfl) (hpl : (backTo pos (starEach [e1] X.env)).any (·.1) = false := by rfl) : DE X j (.Call (.Name "isinstance" p) (e :: [e1]) [] pos) (dIsi T ta) := by
  refine ⟨fun b => peI (pe_callB call_isi hg hm (by decide +kernel) (pa_cons (ha.pe b) (pa_cons hT pa_nil he2) he) (by decide) (by decide) he hpl) ?_, fun ρ Q Q' m q => ha.mo ρ _ _ (fun d h => m _ h) q⟩
  rintro σ H Q ⟨ρ, H0, G, r, q⟩
  refine ⟨ρ, H0, G, r, ha.mo ρ _ _ (fun d q v H1 s1 hv => ?_) q⟩
  obtain ⟨c, hc⟩ := Option.isSome_iff_exists.mp (hk d)
  have e9 : isT T d = c := by unfold isT; rw [hc]; rfl
  refine ⟨v, .ty T, _, _, c, rfl, .ty _, dt_ty hv, kit_ty hc, ?_⟩
  rw [← e9]
  exact q _ H1 s1 (.bl _)
theorem kit_int (d : PyData) : (kitB (tyN d) "int").isSome = true := by cases d <;> (dsimp only [tyN]; decide +kernel)
theorem isT_int_none : isT "int" PyData.none = false := by show (kitB "NoneType" "int").getD false = false; decide +kernel
theorem isT_int_bool (c : Bool) : isT "int" (PyData.bool c) = true := by show (kitB "bool" "int").getD false = true; decide +kernel
theorem isT_int_int (i : Int) : isT "int" (PyData.int i) = true := by show (kitB "int" "int").getD false = true; decide +kernel
theorem isT_int_str (z : Str) : isT "int" (PyData.str z) = false := by show (kitB "str" "int").getD false = false; decide +kernel
theorem isT_int_list (ds : List PyData) : isT "int" (PyData.list ds) = false := by show (kitB "list" "int").getD false = false; decide +kernel
theorem isT_int_dict (ds : List (PyData × PyData)) : isT "int" (PyData.dict ds) = false := by show (kitB "dict" "int").getD false = false; decide +kernel
theorem isT_int_tuple (ds : List PyData) : isT "int" (PyData.tuple ds) = false := by show (kitB "tuple" "int").getD false = false; decide +kernel
theorem kit_bool (d : PyData) : (kitB (tyN d) "bool").isSome = true := by cases d <;> (dsimp only [tyN]; decide +kernel)
theorem isT_bool_none : isT "bool" PyData.none = false := by show (kitB "NoneType" "bool").getD false = false; decide +kernel
theorem isT_bool_bool (c : Bool) : isT "bool" (PyData.bool c) = true := by show (kitB "bool" "bool").getD false = true; decide +kernel
theorem isT_bool_int (i : Int) : isT "bool" (PyData.int i) = false := by show (kitB "int" "bool").getD false = false; decide +kernel
theorem isT_bool_str (z : Str) : isT "bool" (PyData.str z) = false := by show (kitB "str" "bool").getD false = false; decide +kernel
theorem isT_bool_list (ds : List PyData) : isT "bool" (PyData.list ds) = false := by show (kitB "list" "bool").getD false = false; decide +kernel
theorem isT_bool_dict (ds : List (PyData × PyData)) : isT "bool" (PyData.dict ds) = false := by show (kitB "dict" "bool").getD false = false; decide +kernel
theorem isT_bool_tuple (ds : List PyData) : isT "bool" (PyData.tuple ds) = false := by show (kitB "tuple" "bool").getD false = false; decide +kernel
theorem kit_str (d : PyData) : (kitB (tyN d) "str").isSome = true := by cases d <;> (dsimp only [tyN]; decide +kernel)
theorem isT_str_none : isT "str" PyData.none = false := by show (kitB "NoneType" "str").getD false = false; decide +kernel
theorem isT_str_bool (c : Bool) : isT "str" (PyData.bool c) = false := by show (kitB "bool" "str").getD false = false; decide +kernel
theorem isT_str_int (i : Int) : isT "str" (PyData.int i) = false := by show (kitB "int" "str").getD false = false; decide +kernel
theorem isT_str_str (z : Str) : isT "str" (PyData.str z) = true := by show (kitB "str" "str").getD false = true; decide +kernel
theorem isT_str_list (ds : List PyData) : isT "str" (PyData.list ds) = false := by show (kitB "list" "str").getD false = false; decide +kernel
theorem isT_str_dict (ds : List (PyData × PyData)) : isT "str" (PyData.dict ds) = false := by show (kitB "dict" "str").getD false = false; decide +kernel
theorem isT_str_tuple (ds : List PyData) : isT "str" (PyData.tuple ds) = false := by show (kitB "tuple" "str").getD false = false; decide +kernel
theorem kit_tuple (d : PyData) : (kitB (tyN d) "tuple").isSome = true := by cases d <;> (dsimp only [tyN]; decide +kernel)
theorem isT_tuple_none : isT "tuple" PyData.none = false := by show (kitB "NoneType" "tuple").getD false = false; decide +kernel
theorem isT_tuple_bool (c : Bool) : isT "tuple" (PyData.bool c) = false := by show (kitB "bool" "tuple").getD false = false; decide +kernel
theorem isT_tuple_int (i : Int) : isT "tuple" (PyData.int i) = false := by show (kitB "int" "tuple").getD false = false; decide +kernel
theorem isT_tuple_str (z : Str) : isT "tuple" (PyData.str z) = false := by show (kitB "str" "tuple").getD false = false; decide +kernel
theorem isT_tuple_list (ds : List PyData) : isT "tuple" (PyData.list ds) = false := by show (kitB "list" "tuple").getD false = false; decide +kernel
theorem isT_tuple_dict (ds : List (PyData × PyData)) : isT "tuple" (PyData.dict ds) = false := by show (kitB "dict" "tuple").getD false = false; decide +kernel
theorem isT_tuple_tuple (ds : List PyData) : isT "tuple" (PyData.tuple ds) = true := by show (kitB "tuple" "tuple").getD false = true; decide +kernel
theorem kit_list (d : PyData) : (kitB (tyN d) "list").isSome = true := by cases d <;> (dsimp only [tyN]; decide +kernel)
theorem isT_list_none : isT "list" PyData.none = false := by show (kitB "NoneType" "list").getD false = false; decide +kernel
theorem isT_list_bool (c : Bool) : isT "list" (PyData.bool c) = false := by show (kitB "bool" "list").getD false = false; decide +kernel
theorem isT_list_int (i : Int) : isT "list" (PyData.int i) = false := by show (kitB "int" "list").getD false = false; decide +kernel
theorem isT_list_str (z : Str) : isT "list" (PyData.str z) = false := by show (kitB "str" "list").getD false = false; decide +kernel
theorem isT_list_list (ds : List PyData) : isT "list" (PyData.list ds) = true := by show (kitB "list" "list").getD false = true; decide +kernel
theorem isT_list_dict (ds : List (PyData × PyData)) : isT "list" (PyData.dict ds) = false := by show (kitB "dict" "list").getD false = false; decide +kernel
theorem isT_list_tuple (ds : List PyData) : isT "list" (PyData.tuple ds) = false := by show (kitB "tuple" "list").getD false = false; decide +kernel
/-! ### all, any, sum, tuple of a list -/
def dAll (t : DTE) : DTE := fun ρ Q => t ρ fun d => ∃ bs : List Bool, d = .list (bs.map .bool) ∧ Q (.bool (bs.all id))
def dSum (t : DTE) : DTE := fun ρ Q => t ρ fun d => ∃ ns : List Int, d = .list (ns.map .int) ∧ Q (.int ns.sum)
theorem dts_bools {K : PySem.W.Frag} {H : Hp} : ∀ {xs : List V} {zs : List Bool}, Dts K b H xs (zs.map .bool) → xs = zs.map V.bl
  | _, [], .nil => rfl
  | _, z :: zs, .cons h r => by
    cases h
    rw [dts_bools r]
    rfl
theorem dts_ints {K : PySem.W.Frag} {H : Hp} : ∀ {xs : List V} {zs : List Int}, Dts K b H xs (zs.map .int) → xs = zs.map V.int
  | _, [], .nil => rfl
  | _, z :: zs, .cons h r => by
    cases h
    rw [dts_ints r]
    rfl
theorem de_all (hc : X.calm = true) (hg : Gl X "all") (hm : X.mg "all" = none) (ha : DE X j e ta)
    (he : starEach [e] X.env = (false, eval e X.env) :: starEach [] X.env := by rfl) (hpl : (backTo pos (starEach [] X.env)).any (·.1) = false := by rfl) : DE X j (.Call (.Name "all" p) [e] [] pos) (dAll ta) := by
  refine ⟨fun b => peI (pe_callB (cr_all hc) hg hm (by decide +kernel) (pa_cons (ha.pe b) pa_nil he) (by decide) (by decide) he hpl) ?_, fun ρ Q Q' m q => ha.mo ρ _ _ (fun d ⟨bs, e, h⟩ => ⟨bs, e, m _ h⟩) q⟩
  rintro σ H Q ⟨ρ, H0, G, r, q⟩
  refine ⟨ρ, H0, G, r, ha.mo ρ _ _ (fun d q v H1 s1 hv => ?_) q⟩
  obtain ⟨bs, rfl, q⟩ := q
  cases hv with
  | lst h1 h2 h3 =>
    have e := dts_bools h3
    subst e
    exact ⟨_, bs, rfl, SqL.of h1, q _ H1 s1 (.bl _)⟩
theorem de_sum (hc : X.calm = true) (hg : Gl X "sum") (hm : X.mg "sum" = none) (ha : DE X j e ta)
    (he : starEach [e] X.env = (false, eval e X.env) :: starEach [] X.env := by rfl) (hpl : (backTo pos (starEach [] X.env)).any (·.1) = false := by rfl) : DE X j (.Call (.Name "sum" p) [e] [] pos) (dSum ta) := by
  refine ⟨fun b => peI (pe_callB (cr_sum hc) hg hm (by decide +kernel) (pa_cons (ha.pe b) pa_nil he) (by decide) (by decide) he hpl) ?_, fun ρ Q Q' m q => ha.mo ρ _ _ (fun d ⟨bs, e, h⟩ => ⟨bs, e, m _ h⟩) q⟩
  rintro σ H Q ⟨ρ, H0, G, r, q⟩
  refine ⟨ρ, H0, G, r, ha.mo ρ _ _ (fun d q v H1 s1 hv => ?_) q⟩
  obtain ⟨bs, rfl, q⟩ := q
  cases hv with
  | lst h1 h2 h3 =>
    have e := dts_ints h3
    subst e
    exact ⟨_, bs, rfl, SqL.of h1, q _ H1 s1 (.int _)⟩
def cTu : List PyData → Prop | [.list _] => True | [.tuple _] => True | _ => False
def gTu : List PyData → PyData | [.list ds] => .tuple ds | [.tuple ds] => .tuple ds | _ => .none
theorem de_tuple (hg : Gl X "tuple") (hm : X.mg "tuple" = none) (ha : DA X j (e :: es) tt)
    (he : starEach (e :: es) X.env = (false, eval e X.env) :: starEach es X.env := by rfl) (hpl : (backTo pos (starEach es X.env)).any (·.1) = false := by rfl) : DE X j (.Call (.Name "tuple" p) (e :: es) [] pos) (dCB cTu gTu tt) :=
  de_cb (fun b => pe_callTy call_tuple_of hg hm (by decide +kernel) (ha.pa b) (by decide) (by decide) he hpl) ha.mo fun xs ds H Q k h c q => by
    cases h with
    | nil => exact c.elim
    | cons h1 h2 =>
      cases h2 with
      | cons _ _ => cases h1 <;> exact c.elim
      | nil =>
        cases h1 with
        | lst g1 g2 g3 => exact ⟨_, _, rfl, .inl ⟨SqL.of g1, fun l hl => q _ _ (.new hl) (.tup (SqT.of upd_same) (g3.stp k.kj (.new hl)))⟩⟩
        | tup g1 g3 => exact ⟨_, _, rfl, .inr ⟨g1, q _ _ .refl (.tup g1 g3)⟩⟩
        | _ => exact c.elim
/-! ### numbers -/
def c2I : List PyData → Prop | [.int _, .int _] => True | _ => False
def g2I (f : Int → Int → Int) : List PyData → PyData | [.int i, .int k] => .int (f i k) | _ => .none
def c1I : List PyData → Prop | [.int _] => True | _ => False
def g1I (f : Int → Int) : List PyData → PyData | [.int i] => .int (f i) | _ => .none
theorem snd_2I {f : Int → Int → Int} : SndC X.K b j (fun xs H Q => ∃ i k, xs = [.int i, .int k] ∧ Q (.int (f i k)) H) c2I (g2I f) := fun xs ds H Q k h c q => by
  cases h with
  | nil => exact c.elim
  | cons h1 h2 =>
    cases h2 with
    | nil => cases h1 <;> exact c.elim
    | cons h2 h3 =>
      cases h3 with
      | cons _ _ => cases h1 <;> cases h2 <;> exact c.elim
      | nil =>
        cases h1 <;> cases h2 <;> first | exact c.elim | exact ⟨_, _, rfl, q _ _ .refl (.int _)⟩
theorem de_max (hc : X.calm = true) (hg : Gl X "max") (hm : X.mg "max" = none) (ha : DA X j (e :: es) tt)
    (he : starEach (e :: es) X.env = (false, eval e X.env) :: starEach es X.env := by rfl) (hpl : (backTo pos (starEach es X.env)).any (·.1) = false := by rfl) : DE X j (.Call (.Name "max" p) (e :: es) [] pos) (dCB c2I (g2I fun i k => if k > i then k else i) tt) :=
  de_cb (fun b => pe_callB (call_max2 hc) hg hm (by decide +kernel) (ha.pa b) (by decide) (by decide) he hpl) ha.mo snd_2I
theorem de_min (hc : X.calm = true) (hg : Gl X "min") (hm : X.mg "min" = none) (ha : DA X j (e :: es) tt)
    (he : starEach (e :: es) X.env = (false, eval e X.env) :: starEach es X.env := by rfl) (hpl : (backTo pos (starEach es X.env)).any (·.1) = false := by rfl) : DE X j (.Call (.Name "min" p) (e :: es) [] pos) (dCB c2I (g2I fun i k => if k < i then k else i) tt) :=
  de_cb (fun b => pe_callB (call_min2 hc) hg hm (by decide +kernel) (ha.pa b) (by decide) (by decide) he hpl) ha.mo snd_2I
theorem snd_1I {f : Int → Int} : SndC X.K b j (fun xs H Q => ∃ i, xs = [.int i] ∧ Q (.int (f i)) H) c1I (g1I f) := fun xs ds H Q k h c q => by
  cases h with
  | nil => exact c.elim
  | cons h1 h2 =>
    cases h2 with
    | cons _ _ => cases h1 <;> exact c.elim
    | nil => cases h1 <;> first | exact c.elim | exact ⟨_, rfl, q _ _ .refl (.int _)⟩
theorem de_abs (hg : Gl X "abs") (hm : X.mg "abs" = none) (ha : DA X j (e :: es) tt)
    (he : starEach (e :: es) X.env = (false, eval e X.env) :: starEach es X.env := by rfl) (hpl : (backTo pos (starEach es X.env)).any (·.1) = false := by rfl) : DE X j (.Call (.Name "abs" p) (e :: es) [] pos) (dCB c1I (g1I fun i => if i < 0 then -i else i) tt) :=
  de_cb (fun b => pe_callB call_abs hg hm (by decide +kernel) (ha.pa b) (by decide) (by decide) he hpl) ha.mo snd_1I
theorem de_intc (hg : Gl X "int") (hm : X.mg "int" = none) (ha : DA X j (e :: es) tt)
    (he : starEach (e :: es) X.env = (false, eval e X.env) :: starEach es X.env := by rfl) (hpl : (backTo pos (starEach es X.env)).any (·.1) = false := by rfl) : DE X j (.Call (.Name "int" p) (e :: es) [] pos) (dCB c1I (g1I fun i => i) tt) :=
  de_cb (fun b => pe_callTy call_int1 hg hm (by decide +kernel) (ha.pa b) (by decide) (by decide) he hpl) ha.mo fun xs ds H Q k h c q => .inl (snd_1I (f := fun i => i) xs ds H Q k h c q)
/-! ### repr -/
def dRepr (t : DTE) : DTE := fun ρ Q => t ρ fun d => Okd d ∧ d.hasDict = false ∧ Q (.str d.shown)
theorem de_repr (hA : X.A.guards = some []) (hu : X.A.units + 64 < cLine) (hg : Gl X "repr") (hm : X.mg "repr" = none) (ha : DE X j e ta)
    (he : starEach [e] X.env = (false, eval e X.env) :: starEach [] X.env := by rfl) (hpl : (backTo pos (starEach [] X.env)).any (·.1) = false := by rfl) : DE X j (.Call (.Name "repr" p) [e] [] pos) (dRepr ta) := by
  refine ⟨fun b => peI (pe_callB (call_repr hA hu) hg hm (by decide +kernel) (pa_cons (ha.pe b) pa_nil he) (by decide) (by decide) he hpl) ?_, fun ρ Q Q' m q => ha.mo ρ _ _ (fun d ⟨h1, h2, h⟩ => ⟨h1, h2, m _ h⟩) q⟩
  rintro σ H Q ⟨ρ, H0, G, r, q⟩
  refine ⟨ρ, H0, G, r, ha.mo ρ _ _ (fun d q v H1 s1 hv => ?_) q⟩
  obtain ⟨h1, h2, q⟩ := q
  exact ⟨v, d, rfl, .dat (hv.dp h2) h2, h1.sh, h1.dp, h1.fits, q _ H1 s1 (.str _)⟩
/-! ### calls of own functions -/
abbrev DF := List PyData → (PyData → Prop) → Prop
abbrev DFN := List PyData → (List PyData → Prop) → Prop
abbrev MoF (F : DF) : Prop := ∀ ds (Q Q' : PyData → Prop), (∀ d, Q d → Q' d) → F ds Q → F ds Q'
abbrev MoFN (F : DFN) : Prop := ∀ ds (Q Q' : List PyData → Prop), (∀ d, Q d → Q' d) → F ds Q → F ds Q'
/-- nothing changes, data in and out -/
def spP (K : PySem.W.Frag) (F : DF) : Sp := fun vs H Q _ => ∃ b ds, Kn b false H ∧ Dts K b H vs ds ∧ F ds fun d => ∀ v H', Same H H' → Dt K b H' v d → Q v H'
/-- the same, a new list out -/
def spN (K : PySem.W.Frag) (F : DFN) : Sp := fun vs H Q _ => ∃ b ds, Kn b false H ∧ Dts K b H vs ds ∧ F ds fun es => ∀ p xs H', Same H H' → H p = none → H' p = some (.lst xs) → Dts K (b.pl (· = p)) H' xs es → Q (.ref p) H'
/-- the jar ahead, which changes -/
def spJ (K : PySem.W.Frag) (F : DF) : Sp := fun vs H Q _ => ∃ b vs' ds, vs = .ref b.jar :: vs' ∧ Kn b true H ∧ Dts K b H vs' ds ∧ F ds fun d => ∀ v H', Stp b true H H' → Dt K b H' v d → Q v H'
/-- a def that is known -/
structure DK (P : Program) (w : World) (K : PySem.W.Frag) (mg : Str → Option Value) (base : Heap) (k : Nat) (x : Str) (st : Stmt) (ps : List Str) (sp : Sp) (f : Addr) (fd : FuncData) : Prop where
  F : Fun K x x st f fd
  b : Binds K fd ps []
  g : mg x = some (.ref f)
  G : FnG P w K mg base CX0 k f fd ps sp
def dCall (F : DF) (t : DTA) : DTE := fun ρ Q => t ρ fun ds => F ds Q
def nCall (F : DFN) (t : DTA) : DTA := fun ρ Q => t ρ fun ds => F ds Q
def dCallJ (i : Nat) (F : DF) (t : DTA) : DTE := fun ρ Q => ρ[i]? = some .jar ∧ t ρ fun ds => F ds Q
variable {k : Nat} {f : Addr} {fd : FuncData} {ps : List Str} {x : Str} {F : DF} {FN : DFN}
theorem de_call (G : FnG X.prog X.w X.K X.mg X.base CX0 k f fd ps (spP X.K F)) (mF : MoF F) (hA : X.A.guards = some []) (hr : Room k X.A) (hg : Gl X x) (hm : X.mg x = some (.ref f)) (hk : PySem.W.keepIn X.K (.ref f) = true) (hb : Binds X.K fd ps []) (hx : Passes CX0 X (fun _ _ _ => False)) (ha : DA X j (e :: es) tt)
    (hdb : (x == ("__debug__" : Str)) = false := by decide) (he : starEach (e :: es) X.env = (false, eval e X.env) :: starEach es X.env := by rfl) (hpl : (backTo pos (starEach es X.env)).any (·.1) = false := by rfl) : DE X j (.Call (.Name x p) (e :: es) [] pos) (dCall F tt) := by
  refine ⟨fun b => peI (pe_callG G hA hr hg hm hk hb .nil hx (ha.pa b) hdb he hpl) ?_, fun ρ Q Q' m q => ha.mo ρ _ _ (fun ds h => mF _ _ _ m h) q⟩
  rintro σ H Q ⟨ρ, H0, G0, r, q⟩
  refine ⟨ρ, H0, G0, r, ha.mo ρ _ _ (fun ds q vs H1 s1 hv => ?_) q⟩
  show spP X.K F (vs ++ []) H1 Q _
  rw [List.append_nil]
  exact ⟨b, ds, (r.step s1).knH.pure, hv, mF _ _ _ (fun d q v H' s2 hd => q v H' (s1.trans (.same s2)) hd) q⟩
theorem dn_call (G : FnG X.prog X.w X.K X.mg X.base CX0 k f fd ps (spN X.K FN)) (mF : MoFN FN) (hA : X.A.guards = some []) (hr : Room k X.A) (hg : Gl X x) (hm : X.mg x = some (.ref f)) (hk : PySem.W.keepIn X.K (.ref f) = true) (hb : Binds X.K fd ps []) (hx : Passes CX0 X (fun _ _ _ => False)) (ha : DA X j (e :: es) tt)
    (hdb : (x == ("__debug__" : Str)) = false := by decide) (he : starEach (e :: es) X.env = (false, eval e X.env) :: starEach es X.env := by rfl) (hpl : (backTo pos (starEach es X.env)).any (·.1) = false := by rfl) : DN X j (.Call (.Name x p) (e :: es) [] pos) (nCall FN tt) := by
  refine ⟨fun b => peI (pe_callG G hA hr hg hm hk hb .nil hx (ha.pa b) hdb he hpl) ?_, fun ρ Q Q' m q => ha.mo ρ _ _ (fun ds h => mF _ _ _ m h) q⟩
  rintro σ H Q ⟨ρ, H0, G0, r, q⟩
  refine ⟨ρ, H0, G0, r, ha.mo ρ _ _ (fun ds q vs H1 s1 hv => ?_) q⟩
  show spN X.K FN (vs ++ []) H1 Q _
  rw [List.append_nil]
  exact ⟨b, ds, (r.step s1).knH.pure, hv, mF _ _ _ (fun d q p xs H' s2 hp hx hd => q p xs H' (s1.trans (.same s2)) (s1.free r.kH hp) hx hd) q⟩
theorem de_callJ {i : Nat} (G : FnG X.prog X.w X.K X.mg X.base CX0 k f fd ps (spJ X.K F)) (mF : MoF F) (hA : X.A.guards = some []) (hr : Room k X.A) (hg : Gl X x) (hm : X.mg x = some (.ref f)) (hk : PySem.W.keepIn X.K (.ref f) = true) (hb : Binds X.K fd ps []) (hx : Passes CX0 X (fun _ _ _ => False)) (hi : PE X e (tVar i)) (ha : DA X true es tt)
    (hdb : (x == ("__debug__" : Str)) = false := by decide) (he : starEach (e :: es) X.env = (false, eval e X.env) :: starEach es X.env := by rfl) (hpl : (backTo pos (starEach es X.env)).any (·.1) = false := by rfl) : DE X true (.Call (.Name x p) (e :: es) [] pos) (dCallJ i F tt) := by
  refine ⟨fun b => peI (pe_callG G hA hr hg hm hk hb .nil hx (pa_cons hi (ha.pa b) he) hdb he hpl) ?_, fun ρ Q Q' m q => ⟨q.1, ha.mo ρ _ _ (fun ds h => mF _ _ _ m h) q.2⟩⟩
  rintro σ H Q ⟨ρ, H0, G0, r, hj, q⟩
  refine ⟨.ref b.jar, get_join (r.sl i _ hj), ρ, H0, G0, r, ha.mo ρ _ _ (fun ds q vs H1 s1 hv => ?_) q⟩
  show spJ X.K F ((.ref b.jar :: vs) ++ []) H1 Q _
  rw [List.append_nil]
  exact ⟨b, vs, ds, rfl, (r.step s1).knH, hv, mF _ _ _ (fun d q v H' s2 hd => q v H' (s1.trans s2) hd) q⟩
end
end DL

namespace DL
open PySem PySem.Spec PyProof.Rows L2 GuL HG
structure DEnds where
  nx : List SV → Prop
  rt : PyData → Prop := fun _ => False
  rn : List PyData → Prop := fun _ => False
  bk : List SV → Prop := fun _ => False
  ct : List SV → Prop := fun _ => False
abbrev DTS := DEnds → List SV → Prop
/-- what is wanted behind, of values and the heap -/
def lft (K : PySem.W.Frag) (b : Bx) (j : Bool) (H0 G : Hp) (D : Ends) : DEnds where
  nx := fun ρ' => ∀ σ' H', Rel K b j H0 G σ' H' ρ' → D.nx σ' H'
  rt := fun d => ∀ v H', Stp b j H0 H' → Dt K b H' v d → D.rt v H'
  rn := fun ds => ∀ p xs H', Stp b j H0 H' → H0 p = none → H' p = some (.lst xs) → Dts K (b.pl (· = p)) H' xs ds → D.rt (.ref p) H'
  bk := fun ρ' => ∀ σ' H', Rel K b j H0 G σ' H' ρ' → D.bk σ' H'
  ct := fun ρ' => ∀ σ' H', Rel K b j H0 G σ' H' ρ' → D.ct σ' H'
def LS (K : PySem.W.Frag) (b : Bx) (j : Bool) (t : DTS) : TS := fun D σ H => ∃ ρ H0 G, Rel K b j H0 G σ H ρ ∧ t (lft K b j H0 G D) ρ
structure DEnds.Le (D D' : DEnds) : Prop where
  nx : ∀ ρ, D.nx ρ → D'.nx ρ
  rt : ∀ d, D.rt d → D'.rt d
  rn : ∀ d, D.rn d → D'.rn d
  bk : ∀ ρ, D.bk ρ → D'.bk ρ
  ct : ∀ ρ, D.ct ρ → D'.ct ρ
theorem DEnds.Le.refl (D : DEnds) : D.Le D := ⟨fun _ h => h, fun _ h => h, fun _ h => h, fun _ h => h, fun _ h => h⟩
abbrev MoS (t : DTS) : Prop := ∀ D D' ρ, D.Le D' → t D ρ → t D' ρ
structure DS (X : Cx) (j : Bool) (s : Stmt) (t : DTS) : Prop where
  ps : ∀ b : Bx, PS X s (LS X.K b j t)
  mo : MoS t
structure DSs (X : Cx) (j : Bool) (s : List Stmt) (t : DTS) : Prop where
  ps : ∀ b : Bx, PSs X s (LS X.K b j t)
  mo : MoS t
theorem psI {X : Cx} {s : Stmt} {t t' : TS} (h : PS X s t') (i : ∀ D σ H, t D σ H → t' D σ H) : PS X s t := ⟨fun pins sh σ H D I q => h.run pins sh σ H D I (i D σ H q)⟩
theorem pssI {X : Cx} {s : List Stmt} {t t' : TS} (h : PSs X s t') (i : ∀ D σ H, t D σ H → t' D σ H) : PSs X s t := ⟨fun pins sh σ H D I q => h.run pins sh σ H D I (i D σ H q)⟩
def sNext : DTS := fun D ρ => D.nx ρ
def sSeq (t u : DTS) : DTS := fun D ρ => t { D with nx := u D } ρ
def sNever : DTS := fun _ _ => False
def sRet (t : DTE) : DTS := fun D ρ => t ρ D.rt
def sRetN (t : DTA) : DTS := fun D ρ => t ρ D.rn
def sRetO (i : Nat) : DTS := fun D ρ => match ρ[i]? with | some (.own ds) => D.rn ds | _ => False
def sIf (c : DTT) (t u : DTS) : DTS := fun D ρ => c ρ fun k => if k = true then t D ρ else u D ρ
def sSet (i : Nat) (t : DTE) : DTS := fun D ρ => t ρ fun d => NoL d ∧ D.nx (ρ.set i (.dat d))
def sNew (i : Nat) (t : DTA) : DTS := fun D ρ => t ρ fun ds => (∀ d ∈ ds, NoL d) ∧ D.nx (ρ.set i (.own ds))
def sMov (i k : Nat) : DTS := fun D ρ => match ρ[k]? with | some (.own ds) => D.nx ((ρ.set k .nil).set i (.own ds)) | _ => False
def sDo (t : DTE) : DTS := fun D ρ => t ρ fun _ => D.nx ρ
def sApp (i : Nat) (t : DTE) : DTS := fun D ρ => match ρ[i]? with | some (.own ds) => t ρ fun d => NoL d ∧ ds.length < 100000 ∧ D.nx (ρ.set i (.own (ds ++ [d]))) | _ => False
def sExt (i : Nat) (t : DTA) : DTS := fun D ρ => match ρ[i]? with | some (.own ds) => t ρ fun es => (∀ d ∈ es, NoL d) ∧ ds.length + es.length ≤ 100000 ∧ D.nx (ρ.set i (.own (ds ++ es))) | _ => False
def setAll : List SV → List Nat → List PyData → List SV
  | ρ, i :: is, d :: ds => setAll (ρ.set i (.dat d)) is ds
  | ρ, _, _ => ρ
def sUnp (is : List Nat) (t : DTE) : DTS := fun D ρ => t ρ fun d => match d with | .tuple ds => ds.length = is.length ∧ (∀ d ∈ ds, NoL d) ∧ D.nx (setAll ρ is ds) | _ => False
def sPar (i k : Nat) (t u : DTE) : DTS := fun D ρ => t ρ fun d => u ρ fun e => NoL d ∧ NoL e ∧ D.nx ((ρ.set i (.dat d)).set k (.dat e))
def sParN (i k : Nat) (t : DTA) (u : DTE) : DTS := fun D ρ => t ρ fun ds => u ρ fun e => (∀ d ∈ ds, NoL d) ∧ NoL e ∧ D.nx ((ρ.set i (.own ds)).set k (.dat e))
section
variable {X : Cx} {b : Bx} {j : Bool} {e e1 e2 : Expr} {es : List Expr} {pos : Pos} {ta tb tc : DTE} {tt : DTA} {c : DTT} {st : Stmt} {ss ss' : List Stmt} {t u : DTS}
theorem le_seq {D D' : DEnds} (h : D.Le D') (m : MoS u) : DEnds.Le { D with nx := u D } { D' with nx := u D' } := ⟨fun ρ q => m _ _ _ h q, h.rt, h.rn, h.bk, h.ct⟩
theorem dss_nil : DSs X j [] sNext := ⟨fun b => pssI pss_nil fun D σ H ⟨ρ, H0, G, r, q⟩ => q σ H r, fun D D' ρ h q => h.nx ρ q⟩
theorem dss_cons (h1 : DS X j st t) (h2 : DSs X j ss u) : DSs X j (st :: ss) (sSeq t u) := by
  refine ⟨fun b => pssI (pss_cons (h1.ps b) (h2.ps b)) ?_, fun D D' ρ h q => h1.mo _ _ _ (le_seq h h2.mo) q⟩
  rintro D σ H ⟨ρ, H0, G, r, q⟩
  exact ⟨ρ, H0, G, r, h1.mo { lft X.K b j H0 G D with nx := u (lft X.K b j H0 G D) } (lft X.K b j H0 G { D with nx := LS X.K b j u D }) ρ ⟨fun ρ' q σ' H' r' => ⟨ρ', H0, G, r', q⟩, fun _ h => h, fun _ h => h, fun _ h => h, fun _ h => h⟩ q⟩
theorem dss_one (h1 : DS X j st t) : DSs X j [st] t := ⟨fun b => pssI (pss_one (h1.ps b)) fun D σ H h => h, h1.mo⟩
theorem ds_never : DS X j st sNever := ⟨fun b => psI ps_never fun _ _ _ ⟨_, _, _, _, q⟩ => q.elim, fun _ _ _ _ q => q.elim⟩
theorem dss_never : DSs X j ss sNever := ⟨fun b => pssI pss_never fun _ _ _ ⟨_, _, _, _, q⟩ => q.elim, fun _ _ _ _ q => q.elim⟩
theorem ds_ret (h : DE X j e ta) : DS X j (.Return (some e) pos) (sRet ta) := by
  refine ⟨fun b => psI (ps_ret (h.pe b)) ?_, fun D D' ρ l q => h.mo _ _ _ l.rt q⟩
  rintro D σ H ⟨ρ, H0, G, r, q⟩
  exact ⟨ρ, H0, G, r, h.mo _ _ _ (fun d q v H' st hv => q v H' (r.s0.trans st) hv) q⟩
theorem ds_retN (h : DN X j e tt) : DS X j (.Return (some e) pos) (sRetN tt) := by
  refine ⟨fun b => psI (ps_ret (h.pe b)) ?_, fun D D' ρ l q => h.mo _ _ _ l.rn q⟩
  rintro D σ H ⟨ρ, H0, G, r, q⟩
  exact ⟨ρ, H0, G, r, h.mo _ _ _ (fun ds q p xs H' st hp hx hd => q p xs H' (r.s0.trans st) (r.s0.free r.kj hp) hx hd) q⟩
theorem ds_retO {i : Nat} (h : PE X e (tVar i)) : DS X j (.Return (some e) pos) (sRetO i) := by
  refine ⟨fun b => psI (ps_ret h) ?_, fun D D' ρ l q => ?_⟩
  · rintro D σ H ⟨ρ, H0, G, r, q⟩
    unfold sRetO at q
    split at q
    · rename_i ds e
      obtain ⟨p, xs, e1, h1, h2, h4, h5⟩ := r.own_at e
      exact ⟨_, e1, q p xs H r.s0 (r.sg.free r.kj h4) h1 (h2.plw fun a z => z ▸ ⟨i, ds, e, e1⟩)⟩
    · exact q.elim
  · unfold sRetO at q ⊢
    split at q
    · exact l.rn _ q
    · exact q.elim
theorem ds_if (hc : DT X j e c) (ha : DSs X j ss t) (hb : DSs X j ss' u) : DS X j (.If e ss ss' pos) (sIf c t u) := by
  refine ⟨fun b => psI (ps_if (hc.pt b) (ha.ps b) (hb.ps b)) ?_, fun D D' ρ l q => hc.mo _ _ _ (fun k h => ?_) q⟩
  · rintro D σ H ⟨ρ, H0, G, r, q⟩
    refine ⟨ρ, H0, G, r, hc.mo _ _ _ (fun k q H1 s1 => ?_) q⟩
    cases k with
    | true => exact ⟨ρ, H0, G, r.step s1, q⟩
    | false => exact ⟨ρ, H0, G, r.step s1, q⟩
  · cases k with
    | true => exact ha.mo _ _ _ l h
    | false => exact hb.mo _ _ _ l h
theorem ds_set {i : Nat} {x : Str} {pos' : Pos} (hN : X.N.Nodup) (hi : X.N[i]? = some x) (hx : Loc X.env.scope x) (he : DE X j e ta) (hs : swapsWith e (some (.Name x pos')) pos.line X.env = pure false := by rfl)
    (hf : X.fn x = true ∨ X.env.scope.names.lookup x = some .local := by first | exact .inl rfl | exact .inr rfl) : DS X j (.Assign [.Name x pos'] e pos) (sSet i ta) := by
  refine ⟨fun b => psI (ps_set hN hi hx (he.pe b) hs hf) ?_, fun D D' ρ l q => he.mo _ _ _ (fun d h => ⟨h.1, l.nx _ h.2⟩) q⟩
  rintro D σ H ⟨ρ, H0, G, r, q⟩
  exact ⟨ρ, H0, G, r, he.mo _ _ _ (fun d q v H' st hv => q.2 _ _ ((r.step st).setDn hv q.1)) q⟩
theorem SOk.mv {K : PySem.W.Frag} {b b' : Bx} {O O' : Addr → Prop} {H0 G H : Hp} {v : Option V} {s : SV} (ej : b'.jar = b.jar) (w : ∀ a, (b'.pl O').ex a → (b.pl O).ex a) (w2 : ∀ a, b'.ex a → b.ex a) (h : SOk K b O H0 G H v s) : SOk K b' O' H0 G H v s := by
  cases s with
  | nil => exact True.intro
  | dat d =>
    obtain ⟨x, e, h1⟩ := h
    exact ⟨x, e, h1.weak w⟩
  | par d =>
    obtain ⟨x, e, h1⟩ := h
    exact ⟨x, e, h1.weak w2⟩
  | own ds =>
    obtain ⟨p, xs, e, h1, h2, h4, h5⟩ := h
    exact ⟨p, xs, e, h1, h2.weak w, h4, fun z => h5 (w2 _ z)⟩
  | frz p ds =>
    obtain ⟨xs, e, h1, h2, h4⟩ := h
    exact ⟨xs, e, h1, h2.weak w, fun z => h4 (w2 _ z)⟩
  | jar =>
    have h' : v = some (.ref b.jar) := h
    show v = some (.ref b'.jar)
    rw [ej]
    exact h'
theorem ow_own {σ : L2.St} {ρ : List SV} {i : Nat} {p a : Addr} {ds : List PyData} (h : Ow (σ.set i (some (.ref p))) (ρ.set i (.own ds)) a) : Ow σ ρ a ∨ a = p := by
  obtain ⟨k, ds', h1, h2⟩ := h
  rw [List.getElem?_set] at h1 h2
  split at h1
  · rename_i c
    rw [if_pos c] at h2
    split at h2
    · cases h2
      exact .inr rfl
    · cases h2
  · rename_i c
    rw [if_neg c] at h2
    exact .inl ⟨k, ds', h1, h2⟩
theorem Rel.setN {K : PySem.W.Frag} {H0 G H : Hp} {σ : L2.St} {ρ : List SV} {i : Nat} {p : Addr} {xs : List V} {ds : List PyData} {H1 : Hp} (r : Rel K b j H0 G σ H ρ) (st : Stp b j H H1) (hp : H p = none) (hx : H1 p = some (.lst xs)) (hd : Dts K ((b.pl (Ow σ ρ)).pl (· = p)) H1 xs ds) :
    Rel K b j H0 G (σ.set i (some (.ref p))) H1 (ρ.set i (.own ds)) := by
  have r1 := r.plus hp st ⟨_, hx⟩
  have w : ∀ a, (b.pl (Ow (σ.set i (some (.ref p))) (ρ.set i (.own ds)))).ex a → ((b.pl (· = p)).pl (Ow σ ρ)).ex a := fun a z => by
    rcases z with z | z
    · exact .inl (.inl z)
    · rcases ow_own z with z | z
      · exact .inr z
      · exact .inl (.inr z)
  have rs := r.step st
  refine ⟨by rw [List.length_set, List.length_set, r.len], r.kj, rs.kx, r.sg, rs.st, fun k s e => ?_, fun k l d1 d2 q nk q1 q2 q3 => ?_⟩
  · by_cases c : i = k
    · subst c
      rw [List.getElem?_set] at e ⊢
      rw [if_pos rfl] at e ⊢
      split at e
      · rename_i c2
        cases e
        rw [if_pos (by rw [r.len]; exact c2)]
        exact ⟨p, xs, rfl, hx, hd.weak (fun a z => by
          rcases z with z | z
          · exact .inl (.inl z)
          · rcases ow_own z with z | z
            · exact .inl (.inr z)
            · exact .inr z), r.st.free r.kG hp, r.kx.ne hp⟩
      · cases e
    · rw [List.getElem?_set_ne c] at e
      rw [List.getElem?_set_ne c]
      exact SOk.mv (b := b.pl (· = p)) (b' := b) (O := Ow σ ρ) rfl w (fun a z => Or.inl z) (r1.sl k s e)
  · have ne : ∀ {m : Nat} {d3 : List PyData} {z : Addr}, ρ[m]? = some (.own d3) → σ[m]? = some (some (.ref z)) → z ≠ p := fun {m d3 z} g1 g2 y => by
      obtain ⟨⟨ys, g⟩, _⟩ := r.ow ⟨m, d3, g1, g2⟩
      rw [y, hp] at g
      cases g
    by_cases c1 : i = k
    · subst c1
      rw [List.getElem?_set_ne nk] at q2
      rw [List.getElem?_set_ne nk]
      intro z
      rw [List.getElem?_set] at q3
      rw [if_pos rfl] at q3
      split at q3
      · cases q3
        exact ne q2 z rfl
      · cases q3
    · rw [List.getElem?_set_ne c1] at q1 q3
      by_cases c2 : i = l
      · subst c2
        intro z
        rw [List.getElem?_set] at z
        rw [if_pos rfl] at z
        split at z
        · cases z
          exact ne q1 q3 rfl
        · cases z
      · rw [List.getElem?_set_ne c2] at q2
        rw [List.getElem?_set_ne c2]
        exact r.dis k l d1 d2 q nk q1 q2 q3
theorem Rel.setNn {K : PySem.W.Frag} {H0 G H : Hp} {σ : L2.St} {ρ : List SV} {i : Nat} {p : Addr} {xs : List V} {ds : List PyData} {H1 : Hp} (r : Rel K b j H0 G σ H ρ) (st : Stp b j H H1) (hp : H p = none) (hx : H1 p = some (.lst xs)) (hd : Dts K (b.pl (· = p)) H1 xs ds) (n : ∀ d ∈ ds, NoL d) :
    Rel K b j H0 G (σ.set i (some (.ref p))) H1 (ρ.set i (.own ds)) := r.setN st hp hx (hd.any n)
theorem Rel.mov {K : PySem.W.Frag} {H0 G H : Hp} {σ : L2.St} {ρ : List SV} {i k : Nat} {p : Addr} {ds : List PyData} (r : Rel K b j H0 G σ H ρ) (e : ρ[k]? = some (.own ds)) (e1 : σ[k]? = some (some (.ref p))) : Rel K b j H0 G (σ.set i (some (.ref p))) H ((ρ.set k .nil).set i (.own ds)) := by
  obtain ⟨p', xs, e1', h1, h2, h4, h5⟩ := r.own_at e
  rw [e1] at e1'
  cases e1'
  have rf := r.forget (i := k)
  have w : ∀ a, Ow (σ.set i (some (.ref p))) ((ρ.set k .nil).set i (.own ds)) a → Ow σ ρ a := fun a z => by
    rcases ow_own z with z | z
    · exact ow_set' (fun ds' e' => by cases e') z
    · exact z ▸ ⟨k, ds, e, e1⟩
  have ne : ∀ {m : Nat} {d3 : List PyData}, (ρ.set k .nil)[m]? = some (.own d3) → σ[m]? ≠ some (some (.ref p)) := fun {m d3} g => by
    rw [List.getElem?_set] at g
    split at g
    · split at g <;> cases g
    · rename_i c
      exact r.dis k m ds d3 p c e g e1
  refine ⟨by rw [List.length_set, List.length_set, List.length_set, r.len], r.kj, r.kx, r.sg, r.st, fun m s g => ?_, fun m l d1 d2 q nk q1 q2 q3 => ?_⟩
  · by_cases c : i = m
    · subst c
      rw [List.getElem?_set] at g ⊢
      rw [if_pos rfl] at g ⊢
      split at g
      · rename_i c2
        cases g
        rw [if_pos (by rw [r.len]; rw [List.length_set] at c2; exact c2)]
        exact ⟨p, xs, rfl, h1, h2.plw w, h4, h5⟩
      · cases g
    · rw [List.getElem?_set_ne c] at g
      rw [List.getElem?_set_ne c]
      rw [List.getElem?_set] at g
      split at g
      · split at g
        · cases g
          exact True.intro
        · cases g
      · exact (r.sl m s g).wk w
  · by_cases c1 : i = m
    · subst c1
      rw [List.getElem?_set_ne nk] at q2
      rw [List.getElem?_set_ne nk]
      rw [List.getElem?_set, if_pos rfl] at q3
      split at q3
      · cases q3
        exact ne q2
      · cases q3
    · rw [List.getElem?_set_ne c1] at q1 q3
      by_cases c2 : i = l
      · subst c2
        intro z
        rw [List.getElem?_set, if_pos rfl] at z
        split at z
        · cases z
          exact ne q1 q3
        · cases z
      · rw [List.getElem?_set_ne c2] at q2
        rw [List.getElem?_set_ne c2]
        exact rf.dis m l d1 d2 q nk q1 q2 q3
theorem ds_new {i : Nat} {x : Str} {pos' : Pos} (hN : X.N.Nodup) (hi : X.N[i]? = some x) (hx : Loc X.env.scope x) (he : DN X j e tt) (hs : swapsWith e (some (.Name x pos')) pos.line X.env = pure false := by rfl)
    (hf : X.fn x = true ∨ X.env.scope.names.lookup x = some .local := by first | exact .inl rfl | exact .inr rfl) : DS X j (.Assign [.Name x pos'] e pos) (sNew i tt) := by
  refine ⟨fun b => psI (ps_set hN hi hx (he.pe b) hs hf) ?_, fun D D' ρ l q => he.mo _ _ _ (fun d h => ⟨h.1, l.nx _ h.2⟩) q⟩
  rintro D σ H ⟨ρ, H0, G, r, q⟩
  exact ⟨ρ, H0, G, r, he.mo _ _ _ (fun ds q p xs H' st hp hx hd => q.2 _ _ (r.setNn st hp hx hd q.1)) q⟩
theorem ds_mov {i k : Nat} {x : Str} {pos' : Pos} (hN : X.N.Nodup) (hi : X.N[i]? = some x) (hx : Loc X.env.scope x) (he : PE X e (tVar k)) (hs : swapsWith e (some (.Name x pos')) pos.line X.env = pure false := by rfl)
    (hf : X.fn x = true ∨ X.env.scope.names.lookup x = some .local := by first | exact .inl rfl | exact .inr rfl) : DS X j (.Assign [.Name x pos'] e pos) (sMov i k) := by
  refine ⟨fun b => psI (ps_set hN hi hx he hs hf) ?_, fun D D' ρ l q => ?_⟩
  · rintro D σ H ⟨ρ, H0, G, r, q⟩
    unfold sMov at q
    split at q
    · rename_i ds e
      obtain ⟨p, xs, e1, _⟩ := r.own_at e
      exact ⟨_, e1, q _ _ (r.mov e e1)⟩
    · exact q.elim
  · unfold sMov at q ⊢
    split at q
    · exact l.nx _ q
    · exact q.elim
theorem ds_do (he : DE X j e ta) (hs : swapsWith e none pos.line X.env = pure false := by rfl) : DS X j (.Expr e pos) (sDo ta) := by
  refine ⟨fun b => psI (ps_expr (he.pe b) hs) ?_, fun D D' ρ l q => he.mo _ _ _ (fun d h => l.nx _ h) q⟩
  rintro D σ H ⟨ρ, H0, G, r, q⟩
  exact ⟨ρ, H0, G, r, he.mo _ _ _ (fun d q v H' st hv => q _ _ (r.step st)) q⟩
theorem Rel.own_put {K : PySem.W.Frag} {H0 G H1 : Hp} {σ : L2.St} {ρ : List SV} {i : Nat} {p : Addr} {ds es : List PyData} {ys : List V} (r : Rel K b j H0 G σ H1 ρ) (e : ρ[i]? = some (.own ds)) (e1 : σ[i]? = some (some (.ref p)))
    (hy : Dts K (b.pl (Ow σ ρ)) H1 ys es) : Rel K b j H0 G σ (upd H1 p (.lst ys)) (ρ.set i (.own es)) := by
  obtain ⟨p', xs, e1', h1, h2, h4, h5⟩ := r.own_at e
  rw [e1] at e1'
  cases e1'
  have hi := (List.getElem?_eq_some_iff.mp e).1
  have pO : (b.pl (Ow σ ρ)).ex p := .inr ⟨i, ds, e, e1⟩
  have s1 : ∀ {q : Addr} {u : HO}, H1 q = some u → q ≠ p → upd H1 p (.lst ys) q = some u := fun {q u} h nq => by rw [upd_ne nq]; exact h
  have nb : b.jar ≠ p := fun z => nj h5 z.symm
  have sJ : Jar b.jar H1 → Jar b.jar (upd H1 p (.lst ys)) := fun ⟨o, m, c, g1, g2⟩ => ⟨o, m, c, s1 g1 nb, g2⟩
  have st' : Stp b j G (upd H1 p (.lst ys)) := ⟨fun q u nq g => s1 (r.st.1 q u nq g) (ne_of_none g h4), fun jt g => sJ (r.st.2 jt g)⟩
  have w : ∀ a, Ow σ (ρ.set i (.own es)) a → Ow σ ρ a := fun a ⟨k, d3, g1, g2⟩ => by
    rw [List.getElem?_set] at g1
    split at g1
    · rename_i c
      exact ⟨i, ds, e, by rw [c]; exact g2⟩
    · exact ⟨k, d3, g1, g2⟩
  refine ⟨by rw [List.length_set]; exact r.len, r.kj, fun a z => ?_, r.sg, st', fun k s' q => ?_, fun k l d1 d2 q nk q1 q2 q3 => ?_⟩
  · obtain ⟨u, hu⟩ := r.kx a z
    exact ⟨u, s1 hu fun y => h5 (y ▸ z)⟩
  · rw [List.getElem?_set] at q
    split at q
    · rename_i c
      subst c
      first
        | (cases q; exact ⟨p, ys, by rw [e1]; rfl, upd_same, (hy.put h1 pO).plw w, h4, h5⟩)
        | (split at q
           · cases q
             exact ⟨p, ys, by rw [e1]; rfl, upd_same, (hy.put h1 pO).plw w, h4, h5⟩
           · cases q)
    · rename_i c
      have old := r.sl k s' q
      refine SOk.wk (O := Ow σ ρ) w ?_
      cases s' with
      | nil => exact True.intro
      | dat d =>
        obtain ⟨x, g1, g2⟩ := old
        exact ⟨x, g1, g2.put h1 pO⟩
      | par d => exact old
      | own d1 =>
        obtain ⟨q1, zs, g1, g2, g3, g5, g6⟩ := old
        have nq : q1 ≠ p := fun z => by
          subst z
          exact r.dis i k ds d1 q1 c e q e1 (get_join g1)
        exact ⟨q1, zs, g1, s1 g2 nq, g3.put h1 pO, g5, g6⟩
      | frz q1 d1 =>
        obtain ⟨zs, g1, g2, g3, g5⟩ := old
        exact ⟨zs, g1, g2, g3.put h1 pO, g5⟩
      | jar => exact old
  · have o1 : ∃ d1', ρ[k]? = some (.own d1') := by
      rw [List.getElem?_set] at q1
      split at q1
      · rename_i c
        exact ⟨ds, by rw [← c]; exact e⟩
      · exact ⟨_, q1⟩
    have o2 : ∃ d2', ρ[l]? = some (.own d2') := by
      rw [List.getElem?_set] at q2
      split at q2
      · rename_i c
        exact ⟨ds, by rw [← c]; exact e⟩
      · exact ⟨_, q2⟩
    obtain ⟨d1', o1⟩ := o1
    obtain ⟨d2', o2⟩ := o2
    exact r.dis k l d1' d2' q nk o1 o2 q3
theorem ds_app {i : Nat} {apos cpos : Pos} (hv : PE X e (tVar i)) (ha : DE X j e1 ta) (hbase : attributeBase e "append" X.env (eval e X.env) = eval e X.env := by rfl)
    (hfew : ((backTo cpos (starEach [e1] X.env)).all (fun x => !x.1) && (backToKw cpos (keywordEach [] X.env)).all (fun x => x.1.isSome) && decide ([e1].length + ([] : List Keyword).length + (if ([] : List Keyword).isEmpty then 0 else 1) < 30)) = true := by rfl)
    (hline : (apos.endLine == cpos.line) = true := by rfl) (hs : starEach [e1] X.env = (false, eval e1 X.env) :: starEach [] X.env := by rfl) (hplain : (backTo cpos (starEach [] X.env)).any (·.1) = false := by rfl)
    (hsw : swapsWith (.Call (.Attribute e "append" apos) [e1] [] cpos) none pos.line X.env = pure false := by rfl) : DS X j (.Expr (.Call (.Attribute e "append" apos) [e1] [] cpos) pos) (sApp i ta) := by
  refine ⟨fun b => psI (ps_expr (pe_bm PySem.F.plainAttrs_list PySem.F.slot_list_append PySem.F.type_list_append mt_append hv (pa_cons (ha.pe b) pa_nil hs) hbase hfew hline hs hplain) hsw) ?_, fun D D' ρ l q => ?_⟩
  · rintro D σ H ⟨ρ, H0, G, r, q⟩
    unfold sApp at q
    split at q
    · rename_i ds e
      obtain ⟨p, xs, e1, h1, h2, h4, h5⟩ := r.own_at e
      refine ⟨.ref p, e1, .inl ⟨rfl, _, SqL.of h1⟩, ρ, H0, G, r, ha.mo _ _ _ (fun d q v H1 s1 hd => ?_) q⟩
      have r1 := r.step s1
      obtain ⟨p', xs', e1', h1', h2', h4', h5'⟩ := r1.own_at e
      rw [e1] at e1'
      cases e1'
      exact ⟨p, xs', v, rfl, rfl, h1', by rw [h2'.len]; exact Nat.lt_of_lt_of_le q.2.1 (by decide), q.2.2 σ _ (r1.own_put e e1 (h2'.snoc (hd.any q.1)))⟩
    · exact q.elim
  · unfold sApp at q ⊢
    split at q
    · exact ha.mo _ _ _ (fun d h => ⟨h.1, h.2.1, l.nx _ h.2.2⟩) q
    · exact q.elim
theorem ds_ext {i : Nat} {apos cpos : Pos} (hv : PE X e (tVar i)) (ha : DN X j e1 tt) (hbase : attributeBase e "extend" X.env (eval e X.env) = eval e X.env := by rfl)
    (hfew : ((backTo cpos (starEach [e1] X.env)).all (fun x => !x.1) && (backToKw cpos (keywordEach [] X.env)).all (fun x => x.1.isSome) && decide ([e1].length + ([] : List Keyword).length + (if ([] : List Keyword).isEmpty then 0 else 1) < 30)) = true := by rfl)
    (hline : (apos.endLine == cpos.line) = true := by rfl) (hs : starEach [e1] X.env = (false, eval e1 X.env) :: starEach [] X.env := by rfl) (hplain : (backTo cpos (starEach [] X.env)).any (·.1) = false := by rfl)
    (hsw : swapsWith (.Call (.Attribute e "extend" apos) [e1] [] cpos) none pos.line X.env = pure false := by rfl) : DS X j (.Expr (.Call (.Attribute e "extend" apos) [e1] [] cpos) pos) (sExt i tt) := by
  refine ⟨fun b => psI (ps_expr (pe_bm PySem.F.plainAttrs_list PySem.F.slot_list_extend PySem.F.type_list_extend mt_extend hv (pa_cons (ha.pe b) pa_nil hs) hbase hfew hline hs hplain) hsw) ?_, fun D D' ρ l q => ?_⟩
  · rintro D σ H ⟨ρ, H0, G, r, q⟩
    unfold sExt at q
    split at q
    · rename_i ds e
      obtain ⟨p, xs, e1, h1, h2, h4, h5⟩ := r.own_at e
      refine ⟨.ref p, e1, .inl ⟨rfl, _, SqL.of h1⟩, ρ, H0, G, r, ha.mo _ _ _ (fun es q l ys H1 s1 hl hy hd => ?_) q⟩
      have r1 := r.step s1
      obtain ⟨p', xs', e1', h1', h2', h4', h5'⟩ := r1.own_at e
      rw [e1] at e1'
      cases e1'
      exact ⟨p, l, xs', ys, rfl, rfl, h1', hy, by rw [h2'.len, hd.len]; exact sz5 q.2.1, q.2.2 σ _ (r1.own_put e e1 (h2'.app (hd.any q.1)))⟩
    · exact q.elim
  · unfold sExt at q ⊢
    split at q
    · exact ha.mo _ _ _ (fun d h => ⟨h.1, h.2.1, l.nx _ h.2.2⟩) q
    · exact q.elim
end
end DL

namespace PySem
open Sem (wp)
open AutoSeq1 (wpAny_loadPart')
theorem meets_enumerate_newT {v : Value} {o : Obj} {H : Heap → Prop} (B : Begins v o H) :
    Meets (Builtin.«enumerate.__new__» ⟨[.type "enumerate", v], []⟩) (fun _ R s => H s.heap ∧
      R (.ok (.ret (.ref (s.heap.push o).objs.size))) { s with heap := (s.heap.push o).push { cls := .type "enumerate", data := .fields #[.none, .bool false, .ref s.heap.objs.size, rawInt 0, .none, .none] } }) :=
  .of_wp fun prog w A R s h => by
    obtain ⟨hp, g, d, tk, os⟩ := s; obtain ⟨h1, h⟩ := h
    have hsub := sub_enumerate
    have q1 : ∀ {A' : Around} {E : Value → Shared → Prop} {Q : Value → Shared → Prop}, Q (.ref hp.objs.size) ⟨hp.push o, g, d, tk, os⟩ → wpAny (model prog w) A' (pyIter v) Q E ⟨hp, g, d, tk, os⟩ :=
      fun q => B.iter prog w _ _ ⟨hp, g, d, tk, os⟩ _ h1 q
    wp_walk using q1
    refine wpAny_stack_any fun st => wpAny_pure ?_
    split
    · rename_i c _ _ _ _ _
      cases (c == Value.type "enumerate")
      · wp_walk using q1
        exact ⟨_, rfl, h⟩
      · wp_walk using q1
        exact ⟨_, rfl, h⟩
    · wp_walk using q1
      exact ⟨_, rfl, h⟩
theorem enum_beginsT {prog : Program} {w : World} {A : Around} {E : Value → Shared → Prop} {s : Shared} {v : Value} {o : Obj} {H : Heap → Prop} {Q : Value → Shared → Prop} (B : Begins v o H) (h1 : H s.heap)
    (h : ∀ h', IsEnum h' (s.heap.objs.size + 1) s.heap.objs.size 0 .none → h'.get? s.heap.objs.size = some o → h'.objs.size = s.heap.objs.size + 2 →
      (∀ b o, s.heap.get? b = some o → h'.get? b = some o) → Q (.ref (s.heap.objs.size + 1)) { s with heap := h' }) :
    wpAny (model prog w) A (call (.type "enumerate") [v]) Q E s := by
  refine callType_new F.called_enumerate (by decide) (F.typeCall_enumerate_1 _) (F.newCall_enumerate_1 _) (fun obj => F.args_object_init_2 obj _) F.entry_enumerate_new
    (meets_enumerate_newT B) ⟨h1, ?_⟩
  have hz : (s.heap.push o).objs.size = s.heap.objs.size + 1 := Heap.size_push ..
  show _ ∧ _
  rw [hz]
  have he : IsEnum ((s.heap.push o).push { cls := .type "enumerate", data := .fields #[.none, .bool false, .ref s.heap.objs.size, rawInt 0, .none, .none] }) (s.heap.objs.size + 1) s.heap.objs.size 0 .none := by
    have := Heap.get?_push_size (s.heap.push o) (o := { cls := .type "enumerate", data := .fields #[.none, .bool false, .ref s.heap.objs.size, rawInt 0, .none, .none] }) rfl
    rw [hz] at this; exact this
  refine ⟨⟨_, he, rfl⟩, h _ he (Heap.get?_push_of_some _ (Heap.get?_push_size _ B.free)) (by rw [Heap.size_push, hz]) fun b o x => Heap.get?_push_of_some _ (Heap.get?_push_of_some _ x)⟩
end PySem
namespace LZ
open PySem PySem.Spec PyProof.Rows L2
/-! ### enumerate of a tuple -/
def ItE (K : PySem.W.Frag) (a : Addr) : It where
  go n H := ∃ l, SqT K H a l ∧ n < l.length
  yld n H res H2 := ∃ T p, res = .ref T ∧ H T = none ∧ H2 = upd H T (.tup [.int (n : Nat), p]) ∧ (∀ l, SqT K H a l → l[n]? = some p)
  stop n H := ∃ l, SqT K H a l ∧ n = l.length
section
variable {P : Program} {w : World} {K : PySem.W.Frag} {elts : List Expr} {kk : Nat} {tpos : Pos} {a e j : Addr}
theorem turnE (nej : e ≠ j) (nea : e ≠ a) (na : a ≠ j) : Turn P w K (.Tuple elts kk tpos) (ItE K a) [e, j] e (fun n h => (∃ old, IsEnum h e j ((n : Nat) : Int) old) ∧ h.IsTupleIter j a n) := by
  have nef : e ∉ [j, a] := by simp [nej, nea]
  have nk : ∀ n : Nat, (0 : Int) + (n : Int) = (n : Int) := fun n => by omega
  refine { mem := List.mem_cons_self, obj := ?_, keep := ?_, item := ?_, done := ?_, self := ?_ }
  · rintro n h ⟨⟨old, g1⟩, o4, g4, _, d4⟩ c hc
    have hc' : c = e ∨ c = j := by simpa using hc
    rcases hc' with rfl | rfl
    · exact ⟨_, g1, fun v y => nomatch y⟩
    · exact ⟨_, g4, fun v y => by rw [d4] at y; nomatch y⟩
  · rintro n h h2 ⟨⟨old, g1⟩, g4⟩ hk
    exact ⟨⟨old, hk e (by simp) _ g1⟩, g4.at fun o q => hk j (by simp) o q⟩
  · rintro X rfl rfl rfl cal n pins s σ H E I fp ⟨⟨old, g1⟩, g4⟩ ⟨l, hl, hn⟩
    obtain ⟨us, rus, tu, _⟩ := I.tuple hl
    have e1 := rus.length
    have hd : X.A.in1.handled = none := I.ok.hd cal
    have W := WalksT.enumFrom 0 (Draws.tuple (prog := X.prog) (w := X.w) (A := X.A.in1) hd j a na us.toArray) e nej nef (by simp)
    refine W.item n s _ E (by simp only [List.size_toArray]; omega) ⟨⟨old, by rw [nk]; exact g1⟩, g4, tu⟩ fun T vals h1 tk hP hle hT hM hk => ?_
    obtain ⟨t0, x1, hx1, rfl⟩ := hP
    refine ⟨_, rfl, W.go elts kk tpos n T _ _ E hM fun h2 hSt hk2 => ?_⟩
    obtain ⟨⟨old2, y1⟩, y4, _⟩ := hSt
    rw [nk] at y1
    obtain ⟨o, ho, hc, m, hdt⟩ := hT
    have ho2 : h2.get? T = some o := hk2 T o (W.apart n T h1 hM) ho
    obtain ⟨p, hp⟩ : ∃ p, l[n]? = some p := ⟨_, List.getElem?_eq_getElem hn⟩
    obtain ⟨u, hu, ru⟩ := rus.get hp
    have eu : u = x1 := by
      have : us[n]? = some x1 := by simpa using hx1
      rw [hu] at this
      exact Option.some.inj this
    subst eu
    rw [nk] at hdt
    have nw : ObjOk X.prog X.w (upd H T (.tup [.int (n : Nat), p])) h2 T (.tup [.int (n : Nat), p]) := ⟨by show 2 ≤ sizeLine; decide, [.int (n : Nat) t0, u], .cons ⟨_, rfl⟩ (.cons ru .nil), ⟨o, ho2, hc, m, hdt⟩⟩
    have lt : ∀ c, c ∈ [e, j] → c < s.heap.objs.size := fun c hc => by
      obtain ⟨o4, f4, _⟩ := g4
      have hc' : c = e ∨ c = j := by simpa using hc
      rcases hc' with rfl | rfl
      · exact Heap.lt_size g1
      · exact Heap.lt_size f4
    have I2 : Inv X pins σ (upd H T (.tup [.int (n : Nat), p])) { s with heap := h2, toks := tk } := I.turnedNew (ch := [e, j]) (fun c o hc q => hk2 c o hc (hk c o hc q)) fp hle nw
    refine ⟨.ref T, _, I2, rfl, ⟨T, p, rfl, I.hok.fresh hle, rfl, fun l2 h => by rw [I.tuple_inj h hl]; exact hp⟩, ⟨⟨old2, y1⟩, y4⟩, fun c hc => ?_⟩
    rw [upd_ne (Nat.ne_of_lt (Nat.lt_of_lt_of_le (lt c hc) hle))]
    exact (fp c hc).1
  · rintro X rfl rfl rfl cal n pins s σ H E I fp ⟨⟨old, g1⟩, g4⟩ ⟨l, hl, hn⟩
    obtain ⟨us, rus, tu, _⟩ := I.tuple hl
    have e1 := rus.length
    have hd : X.A.in1.handled = none := I.ok.hd cal
    have W := WalksT.enumFrom 0 (Draws.tuple (prog := X.prog) (w := X.w) (A := X.A.in1) hd j a na us.toArray) e nej nef (by simp)
    have em : us.toArray.size = n := by
      simp only [List.size_toArray]
      omega
    refine W.done s _ E (by rw [em]; exact ⟨⟨old, by rw [nk]; exact g1⟩, g4, tu⟩) fun h1 tk hk => ⟨rfl, I.turnedL (ch := [e, j]) (fun c o hc q => hk c o hc q) fp⟩
  · rintro A n s Q E ⟨⟨old, st⟩, _⟩ q
    exact wpAny_pyIter_enum st q
end
def iEnumT (K : PySem.W.Frag) (ta : TA) : TI := fun σ H R => ta σ H fun us H1 => ∃ a l, us = [.ref a] ∧ SqT K H1 a l ∧ R (ItE K a) H1
theorem pi_enumT {X : Cx} {x1 : Expr} {ta : TA} {p p2 tp : Pos} {ts : List Expr} {kk : Nat} (hg : Gl X "enumerate") (hm : X.mg "enumerate" = none) (ha : PA X [x1] ta) (h1 : starEach [x1] X.env = [(false, eval x1 X.env)] := by rfl) :
    PI X (.Tuple ts kk tp) (.Call (.Name "enumerate" p) [x1] [] p2) (iEnumT X.K ta) := by
  constructor
  intro pins s σ H R I h
  refine Call_ (ld_blt I hg hm boot_enumerate (PyProof.Rows.callWith_type1 (thn (ha.run p2 pins s σ H _ I h) fun us s1 q1 => ?_) h1 rfl))
  obtain ⟨vs, H1, I1, r1, a, l, rfl, hl, q⟩ := q1
  obtain ⟨u1, rfl, e1⟩ := vals1 r1
  obtain rfl : u1 = Value.ref a := e1
  obtain ⟨is1, rv1, tu, _⟩ := I1.tuple hl
  have la : a < s1.heap.objs.size := by
    obtain ⟨o, ho, _⟩ := id tu
    exact Heap.lt_size ho
  refine enum_beginsT (begins_tuple a is1.toArray) tu fun h' g1 g2 _ hk => wpAny_pyIter_enum g1 ?_
  have I2 : Inv X pins σ H1 { s1 with heap := h' } := I1.kept (t' := s1.toks) hk
  refine ⟨s1.heap.objs.size + 1, [s1.heap.objs.size + 1, s1.heap.objs.size], _, ItE X.K a, H1, rfl, I2, turnE (Nat.succ_ne_self _) (Nat.ne_of_gt (Nat.lt_succ_of_lt la)) (Nat.ne_of_lt la), ⟨⟨_, g1⟩, ⟨_, g2, rfl, rfl⟩⟩, fun c hc => ?_, q⟩
  have le : s1.heap.objs.size ≤ c := by
    have hc' : c = s1.heap.objs.size + 1 ∨ c = s1.heap.objs.size := by simpa using hc
    rcases hc' with rfl | rfl
    · exact Nat.le_add_right _ _
    · exact Nat.le_refl _
  exact I1.fpOk le (I1.hok.fresh le)
end LZ

namespace LZ
open PySem PySem.Spec PyProof.Rows L2
/-! ### zip of three tuples of one length -/
def It3 (K : PySem.W.Frag) (a b c : Addr) : It where
  go n H := ∃ l r m, SqT K H a l ∧ SqT K H b r ∧ SqT K H c m ∧ l.length = r.length ∧ l.length = m.length ∧ n < l.length
  yld n H res H2 := ∃ T p q u, res = .ref T ∧ H T = none ∧ H2 = upd H T (.tup [p, q, u]) ∧ (∀ l, SqT K H a l → l[n]? = some p) ∧ (∀ r, SqT K H b r → r[n]? = some q) ∧ (∀ m, SqT K H c m → m[n]? = some u)
  stop n H := ∃ l r m, SqT K H a l ∧ SqT K H b r ∧ SqT K H c m ∧ l.length = r.length ∧ l.length = m.length ∧ n = l.length
def St3 (a b c z TI TO j k i : Addr) (n : Nat) (h : Heap) : Prop := IsZip h z TI TO .none ∧ IsTupOf3 h TI (.ref j) (.ref k) (.ref i) ∧ (∃ p q u, IsTupOf3 h TO p q u) ∧ h.IsTupleIter j a n ∧ h.IsTupleIter k b n ∧ h.IsTupleIter i c n
theorem six {c z TI TO j k i : Addr} (h : c ∈ [z, TI, TO, j, k, i]) : c = z ∨ c = TI ∨ c = TO ∨ c = j ∨ c = k ∨ c = i := by simpa using h
section
variable {P : Program} {w : World} {K : PySem.W.Frag} {elts : List Expr} {kk : Nat} {tpos : Pos} {a b c z TI TO j k i : Addr}
theorem turn3 (S : ZipSep3 z TI TO j k i [j, a] [k, b] [i, c]) (na : a ≠ j) (nb : b ≠ k) (nc : c ≠ i) : Turn P w K (.Tuple elts kk tpos) (It3 K a b c) [z, TI, TO, j, k, i] z (St3 a b c z TI TO j k i) := by
  have four : ∀ {c : Addr}, c ∉ [z, TI, TO, j, k, i] → c ∉ [z, TO, j, k, i] := fun h m => h (by
    simp only [List.mem_cons, List.not_mem_nil, or_false] at m ⊢
    rcases m with m | m | m | m | m
    · exact .inl m
    · exact .inr (.inr (.inl m))
    · exact .inr (.inr (.inr (.inl m)))
    · exact .inr (.inr (.inr (.inr (.inl m))))
    · exact .inr (.inr (.inr (.inr (.inr m)))))
  refine { mem := List.mem_cons_self, obj := ?_, keep := ?_, item := ?_, done := ?_, self := ?_ }
  · rintro n h ⟨g1, g2, ⟨p, q, u, g3⟩, ⟨o4, g4, _, d4⟩, ⟨o5, g5, _, d5⟩, ⟨o6, g6, _, d6⟩⟩ c hc
    rcases six hc with rfl | rfl | rfl | rfl | rfl | rfl
    · exact ⟨_, g1, fun v y => nomatch y⟩
    · exact ⟨_, g2, fun v y => nomatch y⟩
    · exact ⟨_, g3, fun v y => nomatch y⟩
    · exact ⟨_, g4, fun v y => by rw [d4] at y; nomatch y⟩
    · exact ⟨_, g5, fun v y => by rw [d5] at y; nomatch y⟩
    · exact ⟨_, g6, fun v y => by rw [d6] at y; nomatch y⟩
  · rintro n h h2 ⟨g1, g2, ⟨p, q, u, g3⟩, g4, g5, g6⟩ hk
    exact ⟨hk z (by simp) _ g1, hk TI (by simp) _ g2, ⟨p, q, u, hk TO (by simp) _ g3⟩, g4.at fun o e => hk j (by simp) o e, g5.at fun o e => hk k (by simp) o e, g6.at fun o e => hk i (by simp) o e⟩
  · rintro X rfl rfl rfl cal n pins s σ H E I fp ⟨g1, g2, ⟨p0, q0, u0, g3⟩, g4, g5, g6⟩ ⟨l, r, m, hl, hr, hm, hlen, hlen2, hn⟩
    obtain ⟨us, rus, tu, _⟩ := I.tuple hl
    obtain ⟨vs, rvs, tv, _⟩ := I.tuple hr
    obtain ⟨ws, rws, tw, _⟩ := I.tuple hm
    have e1 := rus.length
    have e2 := rvs.length
    have e3 := rws.length
    have hd : X.A.in1.handled = none := I.ok.hd cal
    have W := WalksT.zipD3 S (Draws.tuple (prog := X.prog) (w := X.w) (A := X.A.in1) hd j a na us.toArray) (Draws.tuple (prog := X.prog) (w := X.w) (A := X.A.in1) hd k b nb vs.toArray) (Draws.tuple (prog := X.prog) (w := X.w) (A := X.A.in1) hd i c nc ws.toArray)
    refine W.item n s _ E (by simp only [List.size_toArray]; omega) ⟨g1, g2, ⟨p0, q0, u0, g3⟩, ⟨g4, tu⟩, ⟨g5, tv⟩, g6, tw⟩ fun T vals h1 tk hP hle hT hM hk => ?_
    obtain ⟨x1, x2, x3, hx1, hx2, hx3, rfl⟩ := hP
    refine ⟨_, rfl, W.go elts kk tpos n T _ _ E hM fun h2 hSt hk2 => ?_⟩
    obtain ⟨y1, y2, y3, ⟨y4, _⟩, ⟨y5, _⟩, y6, _⟩ := hSt
    obtain ⟨o, ho, hc, mm, hdt⟩ := hT
    have ho2 : h2.get? T = some o := hk2 T o (W.apart n T h1 hM) ho
    obtain ⟨p, hp⟩ : ∃ p, l[n]? = some p := ⟨_, List.getElem?_eq_getElem hn⟩
    obtain ⟨q, hq⟩ : ∃ q, r[n]? = some q := ⟨_, List.getElem?_eq_getElem (by omega)⟩
    obtain ⟨t, ht⟩ : ∃ t, m[n]? = some t := ⟨_, List.getElem?_eq_getElem (by omega)⟩
    obtain ⟨u, hu, ru⟩ := rus.get hp
    obtain ⟨v, hv, rv⟩ := rvs.get hq
    obtain ⟨w', hw, rw'⟩ := rws.get ht
    have eu : u = x1 := by
      have : us[n]? = some x1 := by simpa using hx1
      rw [hu] at this
      exact Option.some.inj this
    have ev : v = x2 := by
      have : vs[n]? = some x2 := by simpa using hx2
      rw [hv] at this
      exact Option.some.inj this
    have ew : w' = x3 := by
      have : ws[n]? = some x3 := by simpa using hx3
      rw [hw] at this
      exact Option.some.inj this
    subst eu ev ew
    have nw : ObjOk X.prog X.w (upd H T (.tup [p, q, t])) h2 T (.tup [p, q, t]) := ⟨by show 3 ≤ sizeLine; decide, [u, v, w'], .cons ru (.cons rv (.cons rw' .nil)), ⟨o, ho2, hc, mm, hdt⟩⟩
    have I2 : Inv X pins σ (upd H T (.tup [p, q, t])) { s with heap := h2, toks := tk } := I.turnedNew (ch := [z, TI, TO, j, k, i]) (fun c o hc e => hk2 c o (four hc) (hk c o (four hc) e)) fp hle nw
    refine ⟨.ref T, _, I2, rfl, ⟨T, p, q, t, rfl, I.hok.fresh hle, rfl, fun l2 h => by rw [I.tuple_inj h hl]; exact hp, fun r2 h => by rw [I.tuple_inj h hr]; exact hq, fun m2 h => by rw [I.tuple_inj h hm]; exact ht⟩, ⟨y1, y2, y3, y4, y5, y6⟩, fun c hc => ?_⟩
    have lt : c < s.heap.objs.size := by
      obtain ⟨o4, f4, _⟩ := g4
      obtain ⟨o5, f5, _⟩ := g5
      obtain ⟨o6, f6, _⟩ := g6
      rcases six hc with rfl | rfl | rfl | rfl | rfl | rfl
      · exact Heap.lt_size g1
      · exact Heap.lt_size g2
      · exact Heap.lt_size g3
      · exact Heap.lt_size f4
      · exact Heap.lt_size f5
      · exact Heap.lt_size f6
    rw [upd_ne (Nat.ne_of_lt (Nat.lt_of_lt_of_le lt hle))]
    exact (fp c hc).1
  · rintro X rfl rfl rfl cal n pins s σ H E I fp ⟨g1, g2, ⟨p0, q0, u0, g3⟩, g4, g5, g6⟩ ⟨l, r, m, hl, hr, hm, hlen, hlen2, hn⟩
    obtain ⟨us, rus, tu, _⟩ := I.tuple hl
    obtain ⟨vs, rvs, tv, _⟩ := I.tuple hr
    obtain ⟨ws, rws, tw, _⟩ := I.tuple hm
    have e1 := rus.length
    have e2 := rvs.length
    have e3 := rws.length
    have hd : X.A.in1.handled = none := I.ok.hd cal
    have W := WalksT.zipD3 S (Draws.tuple (prog := X.prog) (w := X.w) (A := X.A.in1) hd j a na us.toArray) (Draws.tuple (prog := X.prog) (w := X.w) (A := X.A.in1) hd k b nb vs.toArray) (Draws.tuple (prog := X.prog) (w := X.w) (A := X.A.in1) hd i c nc ws.toArray)
    have em : min (min us.toArray.size vs.toArray.size) ws.toArray.size = n := by
      simp only [List.size_toArray]
      omega
    refine W.done s _ E (by rw [em]; exact ⟨g1, g2, ⟨p0, q0, u0, g3⟩, ⟨g4, tu⟩, ⟨g5, tv⟩, g6, tw⟩) fun h1 tk hk => ⟨rfl, I.turnedL (ch := [z, TI, TO, j, k, i]) (fun c o hc e => hk c o (four hc) e) fp⟩
  · intro A n s Q E st q
    exact wpAny_pyIter_zip st.1 q
end
def iZip3 (K : PySem.W.Frag) (ta : TA) : TI := fun σ H R => ta σ H fun us H1 => ∃ a b c l r m, us = [.ref a, .ref b, .ref c] ∧ SqT K H1 a l ∧ SqT K H1 b r ∧ SqT K H1 c m ∧ R (It3 K a b c) H1
theorem pi_zip3 {X : Cx} {x1 x2 x3 : Expr} {ta : TA} {p p2 tp : Pos} {ts : List Expr} {kk : Nat} (hg : Gl X "zip") (hm : X.mg "zip" = none) (ha : PA X [x1, x2, x3] ta) (h1 : starEach [x1, x2, x3] X.env = (false, eval x1 X.env) :: starEach [x2, x3] X.env := by rfl)
    (h2 : (backTo p2 (starEach [x2, x3] X.env)).any (·.1) = false := by rfl) : PI X (.Tuple ts kk tp) (.Call (.Name "zip" p) [x1, x2, x3] [] p2) (iZip3 X.K ta) := by
  constructor
  intro pins s σ H R I h
  refine Call_ (ld_blt I hg hm PyProof.Rows.boot_zip (PyProof.Rows.callWith_type1 (thn (ha.run p2 pins s σ H _ I h) fun us s1 q1 => ?_) h1 h2))
  obtain ⟨vs, H1, I1, r1, a, b, c, l, r, m, rfl, hl, hr, hm, q⟩ := q1
  obtain ⟨u1, u2, u3, rfl, e1, e2, e3⟩ : ∃ u1 u2 u3, us = [u1, u2, u3] ∧ RelV (.ref a) u1 ∧ RelV (.ref b) u2 ∧ RelV (.ref c) u3 := by
    cases r1 with
    | cons g1 g2 =>
      cases g2 with
      | cons g3 g4 =>
        cases g4 with
        | cons g5 g6 =>
          cases g6
          exact ⟨_, _, _, rfl, g1, g3, g5⟩
  obtain rfl : u1 = Value.ref a := e1
  obtain rfl : u2 = Value.ref b := e2
  obtain rfl : u3 = Value.ref c := e3
  obtain ⟨is1, rv1, tu, _⟩ := I1.tuple hl
  obtain ⟨is2, rv2, tv, _⟩ := I1.tuple hr
  obtain ⟨is3, rv3, tw, _⟩ := I1.tuple hm
  have la : a < s1.heap.objs.size := by obtain ⟨o, ho, _⟩ := id tu; exact Heap.lt_size ho
  have lb : b < s1.heap.objs.size := by obtain ⟨o, ho, _⟩ := id tv; exact Heap.lt_size ho
  have lc : c < s1.heap.objs.size := by obtain ⟨o, ho, _⟩ := id tw; exact Heap.lt_size ho
  refine zip_begins3 (begins_tuple a is1.toArray) (begins_tuple b is2.toArray) (begins_tuple c is3.toArray) tu tv tw fun h' g1 g2 g3 g4 g5 g6 _ hk => wpAny_pyIter_zip g1 ?_
  have I2 : Inv X pins σ H1 { s1 with heap := h' } := I1.kept (t' := s1.toks) hk
  have S : ZipSep3 (s1.heap.objs.size + 5) (s1.heap.objs.size + 3) (s1.heap.objs.size + 4) s1.heap.objs.size (s1.heap.objs.size + 1) (s1.heap.objs.size + 2) [s1.heap.objs.size, a] [s1.heap.objs.size + 1, b] [s1.heap.objs.size + 2, c] :=
    zip_sep3 (fun c hc => by rw [List.mem_singleton.mp hc]; exact la) (fun c hc => by rw [List.mem_singleton.mp hc]; exact lb) (fun d hc => by rw [List.mem_singleton.mp hc]; exact lc)
  refine ⟨s1.heap.objs.size + 5, [s1.heap.objs.size + 5, s1.heap.objs.size + 3, s1.heap.objs.size + 4, s1.heap.objs.size, s1.heap.objs.size + 1, s1.heap.objs.size + 2], _, It3 X.K a b c, H1, rfl, I2, turn3 S (Nat.ne_of_lt la) (Nat.ne_of_lt (Nat.lt_succ_of_lt lb)) (Nat.ne_of_lt (Nat.lt_of_lt_of_le lc (Nat.le_add_right _ 2))), ⟨g1, g2, ⟨_, _, _, g3⟩, ⟨_, g4, rfl, rfl⟩, ⟨_, g5, rfl, rfl⟩, ⟨_, g6, rfl, rfl⟩⟩, fun c hc => ?_, q⟩
  have le : s1.heap.objs.size ≤ c := by
    rcases six hc with rfl | rfl | rfl | rfl | rfl | rfl
    · exact Nat.le_add_right _ _
    · exact Nat.le_add_right _ _
    · exact Nat.le_add_right _ _
    · exact Nat.le_refl _
    · exact Nat.le_add_right _ _
    · exact Nat.le_add_right _ _
  exact I1.fpOk le (I1.hok.fresh le)
end LZ

namespace DL
open PySem PySem.Spec PyProof.Rows L2 GuL HG LZ
/-! ### slots forgotten -/
theorem wipe_get {σ : L2.St} {k : Nat} : ∀ {vs : List Nat}, (wipe σ vs)[k]? = if k ∈ vs ∧ k < σ.length then some none else σ[k]?
  | [] => by simp [wipe]
  | v :: vs => by
    unfold wipe
    rw [List.getElem?_set, wipe_length, wipe_get (vs := vs)]
    by_cases h : v = k
    · subst h
      by_cases l : v < σ.length
      · simp [l]
      · have e : σ[v]? = none := List.getElem?_eq_none (by omega)
        simp [l, e]
    · have h' : ¬ k = v := fun e => h e.symm
      simp [h, h']
theorem wipe_set {σ : L2.St} {i : Nat} {x : Option V} {vs : List Nat} (h : i ∈ vs) : wipe (σ.set i x) vs = wipe σ vs := by
  apply List.ext_getElem?
  intro k
  rw [wipe_get, wipe_get, List.length_set, List.getElem?_set]
  by_cases c : k ∈ vs ∧ k < σ.length
  · rw [if_pos c, if_pos c]
  · rw [if_neg c, if_neg c]
    by_cases e : i = k
    · subst e
      have l : ¬ i < σ.length := fun z => c ⟨h, z⟩
      rw [if_pos rfl, if_neg l]
      exact (List.getElem?_eq_none (by omega)).symm
    · rw [if_neg e]
def wp (ρ : List SV) : List Nat → List SV
  | [] => ρ
  | v :: vs => (wp ρ vs).set v .nil
section
variable {K : PySem.W.Frag} {b : Bx} {j : Bool} {H0 G H H1 H' : Hp} {σ : L2.St} {ρ : List SV}
theorem Rel.wipe (r : Rel K b j H0 G σ H ρ) : ∀ vs : List Nat, Rel K b j H0 G (wipe σ vs) H (wp ρ vs)
  | [] => r
  | v :: vs => (r.wipe vs).setNil
/-! ### targets -/
inductive P1 where
  | n (i : Nat)
  | t (is : List Nat)
inductive Pt where
  | one (p : P1)
  | row (ps : List P1)
def gNs : List Nat → TGs
  | [] => gNil
  | i :: is => gCons (gName i) (gNs is)
def g1 (K : PySem.W.Frag) : P1 → TG
  | .n i => gName i
  | .t is => gTup K is.length (gNs is)
def gPs (K : PySem.W.Frag) : List P1 → TGs
  | [] => gNil
  | p :: ps => gCons (g1 K p) (gPs K ps)
def gT (K : PySem.W.Frag) : Pt → TG
  | .one p => g1 K p
  | .row ps => gTup K ps.length (gPs K ps)
def b1 : P1 → PyData → List SV → (List SV → Prop) → Prop
  | .n i, d, ρ, Q => NoL d ∧ Q (ρ.set i (.dat d))
  | .t is, d, ρ, Q => match d with | .tuple ds => ds.length = is.length ∧ (∀ d ∈ ds, NoL d) ∧ Q (setAll ρ is ds) | _ => False
def bs : List P1 → List PyData → List SV → (List SV → Prop) → Prop
  | [], [], ρ, Q => Q ρ
  | p :: ps, d :: ds, ρ, Q => b1 p d ρ fun ρ' => bs ps ds ρ' Q
  | _, _, _, _ => False
def bT : Pt → PyData → List SV → (List SV → Prop) → Prop
  | .one p, d, ρ, Q => b1 p d ρ Q
  | .row ps, d, ρ, Q => match d with | .tuple ds => bs ps ds ρ Q | _ => False
def ix1 : P1 → List Nat
  | .n i => [i]
  | .t is => is
def ixT : Pt → List Nat
  | .one p => ix1 p
  | .row ps => ps.flatMap ix1
theorem b1_mo {p : P1} {d : PyData} {ρ : List SV} {Q Q' : List SV → Prop} (m : ∀ ρ, Q ρ → Q' ρ) (h : b1 p d ρ Q) : b1 p d ρ Q' := by
  cases p with
  | n i => exact ⟨h.1, m _ h.2⟩
  | t is => cases d <;> first | exact h.elim | exact ⟨h.1, h.2.1, m _ h.2.2⟩
theorem bs_mo {Q Q' : List SV → Prop} (m : ∀ ρ, Q ρ → Q' ρ) : ∀ {ps : List P1} {ds : List PyData} {ρ : List SV}, bs ps ds ρ Q → bs ps ds ρ Q'
  | [], [], _, h => m _ h
  | _ :: _, _ :: _, _, h => b1_mo (fun _ h => bs_mo m h) h
  | [], _ :: _, _, h => h.elim
  | _ :: _, [], _, h => h.elim
theorem bT_mo {p : Pt} {d : PyData} {ρ : List SV} {Q Q' : List SV → Prop} (m : ∀ ρ, Q ρ → Q' ρ) (h : bT p d ρ Q) : bT p d ρ Q' := by
  cases p with
  | one p => exact b1_mo m h
  | row ps => cases d <;> first | exact h.elim | exact bs_mo m h
/-- σ' is σ but for the places is -/
def But (is : List Nat) (σ σ' : L2.St) : Prop := ∀ vs : List Nat, (∀ i ∈ is, i ∈ vs) → wipe σ' vs = wipe σ vs
theorem gNs_ok {Q : L2.St → Hp → Prop} : ∀ {is : List Nat} {ds : List PyData} {xs : List V} {σ : L2.St} {ρ : List SV}, Rel K b j H0 G σ H ρ → Dts K b H xs ds → ds.length = is.length → (∀ d ∈ ds, NoL d) →
    (∀ σ', Rel K b j H0 G σ' H (setAll ρ is ds) → But is σ σ' → Q σ' H) → gNs is xs σ H Q
  | [], [], [], σ, ρ, r, _, _, _, q => ⟨rfl, q σ r fun _ _ => rfl⟩
  | i :: is, d :: ds, x :: xs, σ, ρ, r, .cons h1 h2, l, n, q => by
    refine ⟨x, xs, rfl, ?_⟩
    refine gNs_ok (is := is) (ds := ds) (r.setDn h1 (n d List.mem_cons_self)) h2 (by simpa using l) (fun d hd => n d (List.mem_cons_of_mem _ hd)) fun σ' r' bt => q σ' r' fun vs hv => ?_
    rw [bt vs fun i hi => hv i (List.mem_cons_of_mem _ hi), wipe_set (hv i List.mem_cons_self)]
theorem g1_ok {p : P1} {d : PyData} {x : V} {Q : L2.St → Hp → Prop} {Qd : List SV → Prop} (r : Rel K b j H0 G σ H ρ) (h : Dt K b H x d) (hb : b1 p d ρ Qd) (q : ∀ σ' ρ', Rel K b j H0 G σ' H ρ' → Qd ρ' → But (ix1 p) σ σ' → Q σ' H) : g1 K p x σ H Q := by
  cases p with
  | n i =>
    obtain ⟨h1, h2⟩ := hb
    exact q _ _ (r.setDn h h1) h2 fun vs hv => wipe_set (hv i List.mem_cons_self)
  | t is =>
    cases h with
    | @tup a xs ds g1 g2 =>
      obtain ⟨h1, h2, h3⟩ := hb
      exact ⟨a, xs, rfl, g1, by rw [g2.len, h1], gNs_ok r g2 h1 h2 fun σ' r' bt => q σ' _ r' h3 bt⟩
    | _ => exact hb.elim
theorem gPs_ok {Q : L2.St → Hp → Prop} {Qd : List SV → Prop} : ∀ {ps : List P1} {ds : List PyData} {xs : List V} {σ : L2.St} {ρ : List SV}, Rel K b j H0 G σ H ρ → Dts K b H xs ds → bs ps ds ρ Qd →
    (∀ σ' ρ', Rel K b j H0 G σ' H ρ' → Qd ρ' → But (ps.flatMap ix1) σ σ' → Q σ' H) → gPs K ps xs σ H Q
  | [], [], [], σ, ρ, r, _, h, q => ⟨rfl, q σ ρ r h fun _ _ => rfl⟩
  | p :: ps, d :: ds, x :: xs, σ, ρ, r, .cons h1 h2, h, q => by
    refine ⟨x, xs, rfl, ?_⟩
    refine g1_ok r h1 h fun σ1 ρ1 r1 h3 bt1 => ?_
    refine gPs_ok (ps := ps) (ds := ds) r1 h2 h3 fun σ2 ρ2 r2 h4 bt2 => q σ2 ρ2 r2 h4 fun vs hv => ?_
    rw [bt2 vs fun i hi => hv i (by rw [List.flatMap_cons]; exact List.mem_append_right _ hi), bt1 vs fun i hi => hv i (by rw [List.flatMap_cons]; exact List.mem_append_left _ hi)]
  | [], _ :: _, _, _, _, _, _, h, _ => h.elim
  | _ :: _, [], _, _, _, _, _, h, _ => h.elim
theorem gT_ok {p : Pt} {d : PyData} {x : V} {Q : L2.St → Hp → Prop} {Qd : List SV → Prop} (r : Rel K b j H0 G σ H ρ) (h : Dt K b H x d) (hb : bT p d ρ Qd) (q : ∀ σ' ρ', Rel K b j H0 G σ' H ρ' → Qd ρ' → But (ixT p) σ σ' → Q σ' H) : gT K p x σ H Q := by
  cases p with
  | one p => exact g1_ok r h hb q
  | row ps =>
    cases h with
    | @tup a xs ds g1 g2 =>
      have len : ∀ {ps : List P1} {ds : List PyData} {ρ : List SV} {Q : List SV → Prop}, bs ps ds ρ Q → ds.length = ps.length := by
        intro ps
        induction ps with
        | nil =>
          intro ds ρ Q h
          cases ds with
          | nil => rfl
          | cons _ _ => exact h.elim
        | cons p ps ih =>
          intro ds ρ Q h
          cases ds with
          | nil => exact h.elim
          | cons d ds =>
            have h' : b1 p d ρ fun ρ' => bs ps ds ρ' Q := h
            have k : ∃ ρ', bs ps ds ρ' Q := by
              cases p with
              | n i => exact ⟨_, h'.2⟩
              | t is => cases d <;> first | exact h'.elim | exact ⟨_, h'.2.2⟩
            obtain ⟨ρ', k⟩ := k
            rw [List.length_cons, List.length_cons, ih k]
      exact ⟨a, xs, rfl, g1, by rw [g2.len, len hb], gPs_ok r g2 hb q⟩
    | _ => exact hb.elim
/-! ### the heap without the own lists -/
def isOwn : SV → Bool | .own _ => true | _ => false
def mn (σ : L2.St) (ρ : List SV) (H : Hp) : Hp := fun a => if ((List.range ρ.length).any fun i => (match ρ[i]? with | some s => isOwn s | none => false) && decide (σ[i]? = some (some (.ref a)))) = true then none else H a
theorem mn_own {i : Nat} {ds : List PyData} {a : Addr} (h : ρ[i]? = some (.own ds)) (e : σ[i]? = some (some (.ref a))) : mn σ ρ H a = none := by
  unfold mn
  rw [if_pos]
  rw [List.any_eq_true]
  refine ⟨i, List.mem_range.mpr ?_, ?_⟩
  · exact (List.getElem?_eq_some_iff.mp h).1
  · rw [h, e]; simp [isOwn]
theorem mn_else {a : Addr} (h : ∀ (i : Nat) (ds : List PyData), ρ[i]? = some (.own ds) → σ[i]? ≠ some (some (.ref a))) : mn σ ρ H a = H a := by
  unfold mn
  rw [if_neg]
  rw [List.any_eq_true]
  rintro ⟨i, _, q⟩
  rw [Bool.and_eq_true] at q
  obtain ⟨q1, q2⟩ := q
  cases e : ρ[i]? with
  | none => rw [e] at q1; cases q1
  | some s =>
    rw [e] at q1
    cases s <;> first | exact nomatch (show false = true from q1) | skip
    exact h i _ e (of_decide_eq_true q2)
theorem mn_sub {a : Addr} {u : HO} (h : mn σ ρ H a = some u) : H a = some u := by
  unfold mn at h
  split at h
  · cases h
  · exact h
/-- what an own list's place is not -/
theorem Rel.mn_keep (r : Rel K b j H0 G σ H ρ) {a : Addr} {u : HO} (h : H a = some u) (n : (∀ xs, u ≠ .lst xs) ∨ G a ≠ none ∨ b.ex a) : mn σ ρ H a = some u := by
  rw [mn_else, h]
  intro i ds e z
  obtain ⟨p, xs, e1, h1, _, h4, h5⟩ := r.own_at e
  rw [e1] at z
  cases z
  rcases n with n | n | n
  · rw [h1] at h
    cases h
    exact n _ rfl
  · exact n h4
  · exact h5 n
theorem Rel.mn_G (r : Rel K b j H0 G σ H ρ) {p : Addr} {u : HO} (n : j = true → p ≠ b.jar) (h : G p = some u) : mn σ ρ H p = some u :=
  r.mn_keep (r.st.1 p u n h) (.inr (.inl (by rw [h]; exact fun e => nomatch e)))
theorem Rel.mn_jar (r : Rel K b j H0 G σ H ρ) (h : Jar b.jar H) : Jar b.jar (mn σ ρ H) := by
  obtain ⟨o, m, c, h1, h2⟩ := h
  exact ⟨o, m, c, r.mn_keep h1 (.inr (.inr b.je)), h2⟩
theorem Jar.mn {a : Addr} (h : Jar a (mn σ ρ H)) : Jar a H := by
  obtain ⟨o, m, c, h1, h2⟩ := h
  exact ⟨o, m, c, mn_sub h1, h2⟩
/-- into a loop -/
theorem Rel.into (r : Rel K b j H0 G σ H ρ) : Rel K b j H0 (mn σ ρ H) σ H ρ := by
  refine ⟨r.len, r.kj, r.kx, ⟨fun p u n h => ?_, fun e h => r.mn_jar (r.s0.2 e h)⟩, ⟨fun p u _ h => mn_sub h, fun _ h => h.mn⟩, fun i s e => ?_, r.dis⟩
  · exact r.mn_G n (r.sg.1 p u n h)
  · have old := r.sl i s e
    cases s with
    | nil => exact old
    | dat d => exact old
    | par d => exact old
    | own ds =>
      obtain ⟨p, xs, e1, h1, h2, h4, h5⟩ := r.own_at e
      exact ⟨p, xs, by rw [e1]; rfl, h1, h2, mn_own e e1, h5⟩
    | frz p ds =>
      obtain ⟨xs, e1, h1, h2, h4⟩ := old
      exact ⟨xs, e1, r.mn_G (fun _ => nj h4) h1, h2, h4⟩
    | jar => exact old
def frzs : List SV → List (Option Addr)
  | [] => []
  | .frz p _ :: r => some p :: frzs r
  | _ :: r => none :: frzs r
theorem frzs_get : ∀ {ρ : List SV} {i : Nat} {p : Addr}, (frzs ρ)[i]? = some (some p) ↔ ∃ ds, ρ[i]? = some (.frz p ds)
  | [], i, p => by simp [frzs]
  | s :: r, 0, p => by cases s <;> simp [frzs]
  | s :: r, i + 1, p => by
    have ih := frzs_get (ρ := r) (i := i) (p := p)
    cases s <;> simpa [frzs] using ih
/-- out of it -/
theorem Rel.out {ρ' : List SV} {σ' : L2.St} (r : Rel K b j H0 G σ H ρ) (r' : Rel K b j H0 (mn σ ρ H) σ' H' ρ') (hf : frzs ρ' = frzs ρ) : Rel K b j H0 G σ' H' ρ' := by
  refine ⟨r'.len, r.kj, r'.kx, r.sg, ⟨fun p u n h => r'.st.1 p u n (r.mn_G n h), fun e h => r'.st.2 e (r.mn_jar (r.st.2 e h))⟩, fun i s e => ?_, r'.dis⟩
  have old := r'.sl i s e
  cases s with
  | nil => exact old
  | dat d => exact old
  | par d => exact old
  | own ds =>
    obtain ⟨p, xs, e1, h1, h2, h4, h5⟩ := old
    refine ⟨p, xs, e1, h1, h2, ?_, h5⟩
    cases q : G p with
    | none => rfl
    | some u =>
      rw [r.mn_G (fun _ => nj h5) q] at h4
      cases h4
  | frz p ds =>
    obtain ⟨xs, e1, h1, h2, h4⟩ := old
    have e2 : (frzs ρ)[i]? = some (some p) := by rw [← hf]; exact frzs_get.mpr ⟨ds, e⟩
    obtain ⟨ds', e3⟩ := frzs_get.mp e2
    obtain ⟨xs', e4, g1, g2, g4⟩ := r.sl i _ e3
    have e5 := r.mn_G (fun _ => nj g4) g1
    rw [h1] at e5
    cases e5
    exact ⟨xs, e1, g1, h2, h4⟩
  | jar => exact old
end
end DL

namespace DL
open PySem PySem.Spec PyProof.Rows L2 GuL HG LZ RZ
/-! ### what is walked -/
/-- J gives the items, however the heap goes on from B -/
def Ito (K : PySem.W.Frag) (b : Bx) (j : Bool) (J : It) (B : Hp) (items : List PyData) : Prop :=
  ∃ Y, Walk J items.length (fun H => Stp b j B H) Y ∧ ∀ O : Addr → Prop, (∀ a, O a → B a = none) → ∀ i H x H' d, i < items.length → Stp b j B H → Y i H x H' → items[i]? = some d → Same H H' ∧ Dt K (b.pl O) H' x d
abbrev DTI := List SV → (List PyData → Prop) → Prop
def LI (K : PySem.W.Frag) (b : Bx) (j : Bool) (f : Bool) (t : DTI) : TI := fun σ H R => ∃ ρ H0 G, Rel K b j H0 G σ H ρ ∧ t ρ fun items => ∀ J H', Stp b j H H' → Ito K b j J (if f = true then mn σ ρ H' else H') items → R J H'
structure DI (X : Cx) (j : Bool) (f : Bool) (tg e : Expr) (t : DTI) : Prop where
  pi : ∀ b : Bx, PI X tg e (LI X.K b j f t)
  mo : ∀ ρ (Q Q' : List PyData → Prop), (∀ d, Q d → Q' d) → t ρ Q → t ρ Q'
theorem piI {X : Cx} {tg e : Expr} {t t' : TI} (h : PI X tg e t') (i : ∀ σ H Q, t σ H Q → t' σ H Q) : PI X tg e t := ⟨fun pins s σ H Q I q => h.run pins s σ H Q I (i σ H Q q)⟩
section
variable {K : PySem.W.Frag} {b : Bx} {j : Bool} {H0 G H H1 H' : Hp} {σ : L2.St} {ρ : List SV}
/-- the base of an iterator is known, and is part of the heap -/
theorem base_kn (r : Rel K b j H0 G σ H ρ) (f : Bool) : Kj b j (if f = true then mn σ ρ H else H) := by
  cases f with
  | false => exact r.kH
  | true =>
    obtain ⟨⟨u, h1⟩, h2⟩ := r.kH
    exact ⟨⟨u, r.mn_keep h1 (.inr (.inr b.je))⟩, fun e => r.mn_jar (h2 e)⟩
theorem base_T (r : Rel K b j H0 G σ H ρ) (f : Bool) {a : Addr} {xs : List V} (h : SqT K H a xs) : SqT K (if f = true then mn σ ρ H else H) a xs := by
  cases f with
  | false => exact h
  | true =>
    rcases h with (h | ⟨o, h⟩) | h
    · exact .inl (.inl (r.mn_keep h (.inl fun xs z => nomatch z)))
    · exact .inl (.inr ⟨o, r.mn_keep h (.inl fun xs z => nomatch z)⟩)
    · exact .inr h
mutual
theorem base_dt (r : Rel K b j H0 G σ H ρ) (f : Bool) : ∀ {v : V} {d : PyData}, NoL d → Dt K b H v d → Dt K b (if f = true then mn σ ρ H else H) v d
  | _, _, _, .non => .non
  | _, _, _, .bl c => .bl c
  | _, _, _, .int i => .int i
  | _, _, _, .str x => .str x
  | _, _, n, .lst _ _ _ => nomatch n
  | _, _, n, .emp _ => nomatch n
  | _, _, .tup n, .tup h d => .tup (base_T r f h) (base_dts r f n d)
theorem base_dts (r : Rel K b j H0 G σ H ρ) (f : Bool) : ∀ {vs : List V} {ds : List PyData}, (∀ d ∈ ds, NoL d) → Dts K b H vs ds → Dts K b (if f = true then mn σ ρ H else H) vs ds
  | _, _, _, .nil => .nil
  | _, _, n, .cons h d => .cons (base_dt r f (n _ List.mem_cons_self) h) (base_dts r f (fun d hd => n d (List.mem_cons_of_mem _ hd)) d)
end
theorem frO {O : Addr → Prop} {B : Hp} {v : V} {d : PyData} (w : ∀ a, O a → B a = none) (h : Dt K b B v d) : Dt K (b.pl O) B v d := h.fr (b' := b.pl O) fun a z => Or.imp id (w a) z
theorem ito_tup {B : Hp} {a : Addr} {xs : List V} {ds : List PyData} (k : Kj b j B) (h : SqT K B a xs) (hd : Dts K b B xs ds) : Ito K b j (Itt K a) B ds := by
  refine ⟨YAt xs, ?_, fun O w i H x H' d hi s ⟨e, hx⟩ hd' => ?_⟩
  · rw [← hd.len]
    exact (walk_tup (xs := xs)).mono (fun H s => sqT_stp k s h) fun _ _ _ _ _ _ y => y
  · subst e
    obtain ⟨d2, e2, h2⟩ := hd.at hx
    rw [hd'] at e2
    cases e2
    exact ⟨Same.refl _, (frO w h2).stpO k s⟩
theorem ito_lst {B : Hp} {a : Addr} {xs : List V} {ds : List PyData} (k : Kj b j B) (h : B a = some (.lst xs)) (n : ¬ b.ex a) (hd : Dts K b B xs ds) : Ito K b j (Itl K a) B ds := by
  refine ⟨YAt xs, ?_, fun O w i H x H' d hi s ⟨e, hx⟩ hd' => ?_⟩
  · rw [← hd.len]
    exact (walk_list (xs := xs)).mono (fun H s => SqL.of (s.1 _ _ (fun _ => nj n) h)) fun _ _ _ _ _ _ y => y
  · subst e
    obtain ⟨d2, e2, h2⟩ := hd.at hx
    rw [hd'] at e2
    cases e2
    exact ⟨Same.refl _, (frO w h2).stpO k s⟩
def rngD (lo : Int) (n : Nat) : List PyData := (List.range n).map fun i => .int (lo + (i : Nat))
theorem ito_rng {B : Hp} {lo : Int} {n : Nat} : Ito K b j (Itr lo n) B (rngD lo n) := by
  refine ⟨YFn fun i => .int (lo + i), ?_, fun O w i H x H' d hi s ⟨e, hx⟩ hd => ?_⟩
  · have e : (rngD lo n).length = n := by unfold rngD; rw [List.length_map, List.length_range]
    rw [e]
    exact walk_range.mono (fun _ _ => True.intro) fun _ _ _ _ _ _ y => y
  · subst e hx
    unfold rngD at hd hi
    rw [List.length_map, List.length_range] at hi
    rw [List.getElem?_map, List.getElem?_range hi] at hd
    cases hd
    exact ⟨Same.refl _, .int _⟩
/-- pairs of the index -/
def enD (ds : List PyData) : List PyData := ds.mapIdx fun i d => .tuple [.int (i : Nat), d]
theorem ito_en {B : Hp} {a : Addr} {xs : List V} {ds : List PyData} (k : Kj b j B) (h : SqT K B a xs) (hd : Dts K b B xs ds) : Ito K b j (ItE K a) B (enD ds) := by
  have ln : (enD ds).length = xs.length := by unfold enD; rw [List.length_mapIdx, hd.len]
  refine ⟨fun i H v H' => ∃ T p, v = .ref T ∧ H T = none ∧ H' = upd H T (.tup [.int (i : Nat), p]) ∧ xs[i]? = some p, ?_, ?_⟩
  · rw [ln]
    exact ⟨fun i H hi s => ⟨xs, sqT_stp k s h, hi⟩, fun H s => ⟨xs, sqT_stp k s h, rfl⟩, fun i H x H' hi s ⟨T, p, e1, e2, e3, e4⟩ => ⟨T, p, e1, e2, e3, e4 xs (sqT_stp k s h)⟩⟩
  · rintro O w i H x H' d hi s ⟨T, p, rfl, hT, rfl, hp⟩ e
    obtain ⟨d2, e2, h2⟩ := hd.at hp
    unfold enD at e
    rw [List.getElem?_mapIdx, e2] at e
    cases e
    exact ⟨same_new hT, .tup (SqT.of upd_same) (.cons (.int _) (.cons (((frO w h2).stpO k s).stpX (k.step s) (.new hT) Bx.pj) .nil))⟩
def zp2 : List PyData → List PyData → List PyData
  | d :: ds, e :: es => .tuple [d, e] :: zp2 ds es
  | _, _ => []
theorem zp2_len : ∀ {ds es : List PyData}, ds.length = es.length → (zp2 ds es).length = ds.length
  | [], [], _ => rfl
  | _ :: ds, _ :: es, h => by
    have h' : ds.length = es.length := by simpa using h
    show (zp2 ds es).length + 1 = ds.length + 1
    rw [zp2_len h']
theorem zp2_get : ∀ {ds es : List PyData} {i : Nat} {d e : PyData}, ds[i]? = some d → es[i]? = some e → (zp2 ds es)[i]? = some (.tuple [d, e])
  | _ :: ds, _ :: es, 0, d, e, h1, h2 => by
    simp at h1 h2
    subst h1 h2
    rfl
  | _ :: ds, _ :: es, i + 1, d, e, h1, h2 => by
    have := zp2_get (ds := ds) (es := es) (i := i) (by simpa using h1) (by simpa using h2)
    simpa [zp2] using this
theorem ito_z2 {B : Hp} {a c : Addr} {xs ys : List V} {ds es : List PyData} (k : Kj b j B) (ha : SqT K B a xs) (hc : SqT K B c ys) (hd : Dts K b B xs ds) (he : Dts K b B ys es) (hl : ds.length = es.length) : Ito K b j (ItzT K a c) B (zp2 ds es) := by
  have l1 : (zp2 ds es).length = xs.length := by rw [zp2_len hl, hd.len]
  have l2 : xs.length = ys.length := by rw [hd.len, he.len, hl]
  refine ⟨fun i H v H' => ∃ T p q, v = .ref T ∧ H T = none ∧ H' = upd H T (.tup [p, q]) ∧ xs[i]? = some p ∧ ys[i]? = some q, ?_, ?_⟩
  · rw [l1]
    refine ⟨fun i H hi s => ⟨xs, ys, xs[i], ys[i]'(by omega), sqT_stp k s ha, sqT_stp k s hc, by simp [hi], List.getElem?_eq_getElem _⟩, fun H s => ⟨xs, ys, sqT_stp k s ha, sqT_stp k s hc, .inl (Nat.le_refl _)⟩, fun i H x H' hi s y => ?_⟩
    obtain ⟨T, p, q, e1, e2, e3, e4, e5⟩ := y
    exact ⟨T, p, q, e1, e2, e3, e4 xs (sqT_stp k s ha), e5 ys (sqT_stp k s hc)⟩
  · rintro O w i H x H' d hi s ⟨T, p, q, rfl, hT, rfl, hp, hq⟩ e
    obtain ⟨d2, e2, h2⟩ := hd.at hp
    obtain ⟨d3, e3, h3⟩ := he.at hq
    rw [zp2_get e2 e3] at e
    cases e
    exact ⟨same_new hT, .tup (SqT.of upd_same) (.cons (((frO w h2).stpO k s).stpX (k.step s) (.new hT) Bx.pj) (.cons (((frO w h3).stpO k s).stpX (k.step s) (.new hT) Bx.pj) .nil))⟩
def zp3 : List PyData → List PyData → List PyData → List PyData
  | d :: ds, e :: es, f :: fs => .tuple [d, e, f] :: zp3 ds es fs
  | _, _, _ => []
theorem zp3_len : ∀ {ds es fs : List PyData}, ds.length = es.length → ds.length = fs.length → (zp3 ds es fs).length = ds.length
  | [], [], [], _, _ => rfl
  | _ :: ds, _ :: es, _ :: fs, h, g => by
    have h' : ds.length = es.length := by simpa using h
    have g' : ds.length = fs.length := by simpa using g
    show (zp3 ds es fs).length + 1 = ds.length + 1
    rw [zp3_len h' g']
theorem zp3_get : ∀ {ds es fs : List PyData} {i : Nat} {d e f : PyData}, ds[i]? = some d → es[i]? = some e → fs[i]? = some f → (zp3 ds es fs)[i]? = some (.tuple [d, e, f])
  | _ :: ds, _ :: es, _ :: fs, 0, d, e, f, h1, h2, h3 => by
    simp at h1 h2 h3
    subst h1 h2 h3
    rfl
  | _ :: ds, _ :: es, _ :: fs, i + 1, d, e, f, h1, h2, h3 => by
    have := zp3_get (ds := ds) (es := es) (fs := fs) (i := i) (by simpa using h1) (by simpa using h2) (by simpa using h3)
    simpa [zp3] using this
theorem ito_z3 {B : Hp} {a c g : Addr} {xs ys zs : List V} {ds es fs : List PyData} (k : Kj b j B) (ha : SqT K B a xs) (hc : SqT K B c ys) (hg : SqT K B g zs) (hd : Dts K b B xs ds) (he : Dts K b B ys es) (hf : Dts K b B zs fs) (hl : ds.length = es.length) (hl2 : ds.length = fs.length) : Ito K b j (It3 K a c g) B (zp3 ds es fs) := by
  have l1 : (zp3 ds es fs).length = xs.length := by rw [zp3_len hl hl2, hd.len]
  have l2 : xs.length = ys.length := by rw [hd.len, he.len, hl]
  have l3 : xs.length = zs.length := by rw [hd.len, hf.len, hl2]
  refine ⟨fun i H v H' => ∃ T p q u, v = .ref T ∧ H T = none ∧ H' = upd H T (.tup [p, q, u]) ∧ xs[i]? = some p ∧ ys[i]? = some q ∧ zs[i]? = some u, ?_, ?_⟩
  · rw [l1]
    refine ⟨fun i H hi s => ⟨xs, ys, zs, sqT_stp k s ha, sqT_stp k s hc, sqT_stp k s hg, l2, l3, hi⟩, fun H s => ⟨xs, ys, zs, sqT_stp k s ha, sqT_stp k s hc, sqT_stp k s hg, l2, l3, rfl⟩, fun i H x H' hi s y => ?_⟩
    obtain ⟨T, p, q, u, e1, e2, e3, e4, e5, e6⟩ := y
    exact ⟨T, p, q, u, e1, e2, e3, e4 xs (sqT_stp k s ha), e5 ys (sqT_stp k s hc), e6 zs (sqT_stp k s hg)⟩
  · rintro O w i H x H' d hi s ⟨T, p, q, u, rfl, hT, rfl, hp, hq, hu⟩ e
    obtain ⟨d2, e2, h2⟩ := hd.at hp
    obtain ⟨d3, e3, h3⟩ := he.at hq
    obtain ⟨d4, e4, h4⟩ := hf.at hu
    rw [zp3_get e2 e3 e4] at e
    cases e
    exact ⟨same_new hT, .tup (SqT.of upd_same) (.cons (((frO w h2).stpO k s).stpX (k.step s) (.new hT) Bx.pj) (.cons (((frO w h3).stpO k s).stpX (k.step s) (.new hT) Bx.pj) (.cons (((frO w h4).stpO k s).stpX (k.step s) (.new hT) Bx.pj) .nil)))⟩
end
/-! ### the iterators as they are written -/
def tupI (f : Bool) (t : DTE) : DTI := fun ρ Q => t ρ fun d => match d with | .tuple ds => (f = true → ∀ d ∈ ds, NoL d) ∧ Q ds | _ => False
def lstI (t : DTE) : DTI := fun ρ Q => t ρ fun d => match d with | .list ds => Q ds | _ => False
def newI (t : DTA) : DTI := fun ρ Q => t ρ fun ds => (∀ d ∈ ds, NoL d) ∧ Q ds
def rng1I (t : DTA) : DTI := fun ρ Q => t ρ fun ds => match ds with | [.int n] => (-(2 ^ 62) ≤ n ∧ n < 2 ^ 62) ∧ Q (rngD 0 n.toNat) | _ => False
def rng2I (t : DTA) : DTI := fun ρ Q => t ρ fun ds => match ds with | [.int m, .int n] => (-(2 ^ 62) ≤ m ∧ m < 2 ^ 62 ∧ -(2 ^ 62) ≤ n ∧ n < 2 ^ 62) ∧ Q (rngD m (n - m).toNat) | _ => False
def enI (f : Bool) (t : DTA) : DTI := fun ρ Q => t ρ fun ds => match ds with | [.tuple ds] => (f = true → ∀ d ∈ ds, NoL d) ∧ Q (enD ds) | _ => False
def z2I (f : Bool) (t : DTA) : DTI := fun ρ Q => t ρ fun ds => match ds with | [.tuple ds, .tuple es] => (f = true → (∀ d ∈ ds, NoL d) ∧ ∀ d ∈ es, NoL d) ∧ ds.length = es.length ∧ Q (zp2 ds es) | _ => False
def z3I (f : Bool) (t : DTA) : DTI := fun ρ Q => t ρ fun ds => match ds with | [.tuple ds, .tuple es, .tuple fs] => (f = true → (∀ d ∈ ds, NoL d) ∧ (∀ d ∈ es, NoL d) ∧ ∀ d ∈ fs, NoL d) ∧ ds.length = es.length ∧ ds.length = fs.length ∧ Q (zp3 ds es fs) | _ => False
section
variable {X : Cx} {b : Bx} {j f : Bool} {tg e e1 e2 e3 : Expr} {es : List Expr} {pos p : Pos} {ta : DTE} {tt : DTA}
theorem base_dts' {K : PySem.W.Frag} {H0 G H : Hp} {σ : L2.St} {ρ : List SV} {vs : List V} {ds : List PyData} (r : Rel K b j H0 G σ H ρ) (h : f = true → ∀ d ∈ ds, NoL d) (hd : Dts K b H vs ds) : Dts K b (if f = true then mn σ ρ H else H) vs ds := by
  cases f with
  | false => exact hd
  | true => exact base_dts r true (h rfl) hd
theorem di_tup (h : DE X j e ta) : DI X j f tg e (tupI f ta) := by
  refine ⟨fun b => piI (pi_tup (h.pe b)) ?_, fun ρ Q Q' m q => h.mo _ _ _ (fun d h => ?_) q⟩
  · rintro σ H Q ⟨ρ, H0, G, r, q⟩
    refine ⟨ρ, H0, G, r, h.mo _ _ _ (fun d q v H1 s1 hv => ?_) q⟩
    cases hv with
    | @tup a xs ds g1 g2 =>
      have r1 := r.step s1
      exact ⟨a, rfl, ⟨xs, g1⟩, q.2 _ H1 s1 (ito_tup (base_kn r1 f) (base_T r1 f g1) (base_dts' r1 q.1 g2))⟩
    | _ => exact q.elim
  · cases d <;> first | exact h.elim | exact ⟨h.1, m _ h.2⟩
theorem di_lst (h : DE X j e ta) : DI X j false tg e (lstI ta) := by
  refine ⟨fun b => piI (pi_list (h.pe b)) ?_, fun ρ Q Q' m q => h.mo _ _ _ (fun d h => ?_) q⟩
  · rintro σ H Q ⟨ρ, H0, G, r, q⟩
    refine ⟨ρ, H0, G, r, h.mo _ _ _ (fun d q v H1 s1 hv => ?_) q⟩
    cases hv with
    | @lst a xs ds g1 g3 g2 =>
      have r1 := r.step s1
      exact ⟨a, rfl, ⟨xs, SqL.of g1⟩, q _ H1 s1 (ito_lst r1.kH g1 g3 g2)⟩
    | _ => exact q.elim
  · cases d <;> first | exact h.elim | exact m _ h
theorem di_new (h : DN X j e tt) : DI X j f tg e (newI tt) := by
  refine ⟨fun b => piI (pi_list (h.pe b)) ?_, fun ρ Q Q' m q => h.mo _ _ _ (fun d h => ⟨h.1, m _ h.2⟩) q⟩
  rintro σ H Q ⟨ρ, H0, G, r, q⟩
  refine ⟨ρ, H0, G, r, h.mo _ _ _ (fun ds q p xs H1 s1 hp hx hd => ?_) q⟩
  have r1 := r.step s1
  have hx' : (if f = true then mn σ ρ H1 else H1) p = some (.lst xs) := by
    cases f with
    | false => exact hx
    | true =>
      show mn σ ρ H1 p = _
      rw [mn_else, hx]
      intro i ds e z
      obtain ⟨p', xs', e1, h1, _⟩ := r.own_at e
      rw [e1] at z
      cases z
      rw [h1] at hp
      cases hp
  exact ⟨p, rfl, ⟨xs, SqL.of hx⟩, q.2 _ H1 s1 (ito_lst (base_kn r1 f) hx' (r.knH.ne hp) (base_dts r1 f q.1 hd.un))⟩
theorem di_rng1 (hg : Gl X "range") (hm : X.mg "range" = none) (h : DA X j [e] tt) (hs : starEach [e] X.env = [(false, eval e X.env)] := by rfl) : DI X j f tg (.Call (.Name "range" p) [e] [] pos) (rng1I tt) := by
  refine ⟨fun b => piI (pi_range1 hg hm (h.pa b) hs) ?_, fun ρ Q Q' m q => h.mo _ _ _ (fun d h => ?_) q⟩
  · rintro σ H Q ⟨ρ, H0, G, r, q⟩
    refine ⟨ρ, H0, G, r, h.mo _ _ _ (fun ds q vs H1 s1 hv => ?_) q⟩
    split at q
    · rename_i n
      cases hv with
      | cons h1 h2 =>
        cases h1
        cases h2
        exact ⟨n, rfl, q.1.1, q.1.2, q.2 _ H1 s1 ito_rng⟩
    · exact q.elim
  · split at h
    · exact ⟨h.1, m _ h.2⟩
    · exact h.elim
theorem di_en (hg : Gl X "enumerate") (hm : X.mg "enumerate" = none) (h : DA X j [e] tt) {ts : List Expr} {kk : Nat} {tp : Pos} (hs : starEach [e] X.env = [(false, eval e X.env)] := by rfl) : DI X j f (.Tuple ts kk tp) (.Call (.Name "enumerate" p) [e] [] pos) (enI f tt) := by
  refine ⟨fun b => piI (pi_enumT hg hm (h.pa b) hs) ?_, fun ρ Q Q' m q => h.mo _ _ _ (fun d h => ?_) q⟩
  · rintro σ H Q ⟨ρ, H0, G, r, q⟩
    refine ⟨ρ, H0, G, r, h.mo _ _ _ (fun ds q vs H1 s1 hv => ?_) q⟩
    split at q
    · rename_i n
      cases hv with
      | cons h1 h2 =>
        cases h1 with
        | tup g1 g2 =>
          cases h2
          have r1 := r.step s1
          exact ⟨_, _, rfl, g1, q.2 _ H1 s1 (ito_en (base_kn r1 f) (base_T r1 f g1) (base_dts' r1 q.1 g2))⟩
    · exact q.elim
  · split at h
    · exact ⟨h.1, m _ h.2⟩
    · exact h.elim
theorem di_z2 (hg : Gl X "zip") (hm : X.mg "zip" = none) (h : DA X j [e1, e2] tt) {ts : List Expr} {kk : Nat} {tp : Pos} (hs : starEach [e1, e2] X.env = (false, eval e1 X.env) :: starEach [e2] X.env := by rfl) (hpl : (backTo pos (starEach [e2] X.env)).any (·.1) = false := by rfl) : DI X j f (.Tuple ts kk tp) (.Call (.Name "zip" p) [e1, e2] [] pos) (z2I f tt) := by
  refine ⟨fun b => piI (pi_zipA hg hm (h.pa b) hs hpl) ?_, fun ρ Q Q' m q => h.mo _ _ _ (fun d h => ?_) q⟩
  · rintro σ H Q ⟨ρ, H0, G, r, q⟩
    refine ⟨ρ, H0, G, r, h.mo _ _ _ (fun ds q vs H1 s1 hv => ?_) q⟩
    split at q
    · cases hv with
      | cons h1 h2 =>
        cases h1 with
        | tup g1 g2 =>
          cases h2 with
          | cons h3 h4 =>
            cases h3 with
            | tup g3 g4 =>
              cases h4
              have r1 := r.step s1
              exact ⟨_, _, _, _, rfl, .inr ⟨g1, g3, q.2.2 _ H1 s1 (ito_z2 (base_kn r1 f) (base_T r1 f g1) (base_T r1 f g3) (base_dts' r1 (fun e => (q.1 e).1) g2) (base_dts' r1 (fun e => (q.1 e).2) g4) q.2.1)⟩⟩
    · exact q.elim
  · split at h
    · exact ⟨h.1, h.2.1, m _ h.2.2⟩
    · exact h.elim
theorem di_z3 (hg : Gl X "zip") (hm : X.mg "zip" = none) (h : DA X j [e1, e2, e3] tt) {ts : List Expr} {kk : Nat} {tp : Pos} (hs : starEach [e1, e2, e3] X.env = (false, eval e1 X.env) :: starEach [e2, e3] X.env := by rfl) (hpl : (backTo pos (starEach [e2, e3] X.env)).any (·.1) = false := by rfl) : DI X j f (.Tuple ts kk tp) (.Call (.Name "zip" p) [e1, e2, e3] [] pos) (z3I f tt) := by
  refine ⟨fun b => piI (pi_zip3 hg hm (h.pa b) hs hpl) ?_, fun ρ Q Q' m q => h.mo _ _ _ (fun d h => ?_) q⟩
  · rintro σ H Q ⟨ρ, H0, G, r, q⟩
    refine ⟨ρ, H0, G, r, h.mo _ _ _ (fun ds q vs H1 s1 hv => ?_) q⟩
    split at q
    · cases hv with
      | cons h1 h2 =>
        cases h1 with
        | tup g1 g2 =>
          cases h2 with
          | cons h3 h4 =>
            cases h3 with
            | tup g3 g4 =>
              cases h4 with
              | cons h5 h6 =>
                cases h5 with
                | tup g5 g6 =>
                  cases h6
                  have r1 := r.step s1
                  exact ⟨_, _, _, _, _, _, rfl, g1, g3, g5, q.2.2.2 _ H1 s1 (ito_z3 (base_kn r1 f) (base_T r1 f g1) (base_T r1 f g3) (base_T r1 f g5) (base_dts' r1 (fun e => (q.1 e).1) g2) (base_dts' r1 (fun e => (q.1 e).2.1) g4) (base_dts' r1 (fun e => (q.1 e).2.2) g6) q.2.1 q.2.2.1)⟩
    · exact q.elim
  · split at h
    · exact ⟨h.1, h.2.1, h.2.2.1, m _ h.2.2.2⟩
    · exact h.elim
end
end DL

namespace DL
open PySem PySem.Spec PyProof.Rows L2 GuL HG LZ RZ
/-! ### comprehensions -/
/-- readings, whatever places are kept free -/
def UE (K : PySem.W.Frag) (j : Bool) (t : DTE) : TE := fun σ H Q => ∃ b, LE K b j t σ H Q
def UT (K : PySem.W.Frag) (j : Bool) (t : DTT) : TT := fun σ H Q => ∃ b, LT K b j t σ H Q
section
variable {X : Cx} {b : Bx} {j : Bool} {e tg iter elt : Expr} {ifs : List Expr} {ti : DTI} {te : DTE} {tt : DTT} {p : Pt} {vs : List Nat}
theorem DE.u (h : DE X j e te) : PE X e (UE X.K j te) := ⟨fun pins s σ H Q I ⟨b, q⟩ => (h.pe b).run pins s σ H Q I q⟩
theorem DT.u (h : DT X j e tt) : PT X e (UT X.K j tt) := ⟨fun pins s σ H Q I ⟨b, q⟩ => (h.pt b).run pins s σ H Q I q⟩
/-- targets take their items -/
def Takes (K : PySem.W.Frag) (j : Bool) (p : Pt) (ρs : List SV) (B : PyData → (List SV → Prop) → Prop) : Prop :=
  ∀ (b : Bx) (H0 G H : Hp) (σ : L2.St) (x : V) (d : PyData) (Q : L2.St → Hp → Prop) (Qd : List SV → Prop), Rel K b j H0 G σ H ρs → Dt K b H x d → B d Qd → (∀ σ' ρ', Rel K b j H0 G σ' H ρ' → Qd ρ' → But (ixT p) σ σ' → Q σ' H) → gT K p x σ H Q
theorem takes_T {K : PySem.W.Frag} {ρs : List SV} : Takes K j p ρs (fun d Q => bT p d ρs Q) := fun _ _ _ _ _ _ _ _ _ r h hb q => gT_ok r h hb q
/-- the turn of a comprehension: D is its new list, kept free in what is read -/
theorem lc_turn {K : PySem.W.Frag} {vs : List Nat} {σ : L2.St} {H1 : Hp} {H0 G : Hp} {ρ : List SV} {D : Addr} {wt : TT} {we : TE} {J : It} {items : List PyData} {Qd : Hp → Prop} {R : Nat → Option PyData → Prop} {ρs : List SV} {BB : PyData → (List SV → Prop) → Prop}
    (r1 : Rel K b j H0 G σ H1 ρ) (hD : H1 D = none) (mt : MoT tt) (me : MoE te) (hv : ∀ i ∈ ixT p, i ∈ vs) (hwt : ∀ σ H Q, LT K (b.pl (· = D)) j tt σ H Q → wt σ H Q) (hwe : ∀ σ H Q, LE K (b.pl (· = D)) j te σ H Q → we σ H Q)
    (it : Ito K b j J H1 items) (hl : items.length ≤ 100000) (tk : Takes K j p ρs BB) (hρ : ∀ {b : Bx} {H0 G : Hp} {H : Hp}, Rel K b j H0 G σ H ρ → Rel K b j H0 G (wipe σ vs) H ρs) (hR : ∀ k d, items[k]? = some d → BB d fun ρ' => tt ρ' fun c => if c = true then te ρ' fun e => R k (some e) else R k none)
    (hQ : ∀ (acc : List V) (os : List (Option PyData)) H2, Stp b j H1 H2 → H2 D = some (.lst acc) → Dts K (b.pl (· = D)) H2 acc (os.filterMap id) → os.length = items.length → (∀ (k : Nat) o, os[k]? = some o → R k o) → Qd H2) :
    ∃ W : Nat → Nat → Hp → Prop, (∃ m, W 0 m (upd H1 D (.lst []))) ∧ ∀ i m H, W i m H →
      (J.stop i H ∧ Qd H) ∨ (J.go i H ∧ ∃ Nx : Hp → Prop, (∀ H', Nx H' → ∃ m', m' < m ∧ W (i + 1) m' H') ∧ ∀ x H', J.yld i H x H' → gT K p x (wipe σ vs) H' fun σ2 H2 => wipe σ2 vs = wipe σ vs ∧ wt σ2 H2 fun b H3 =>
        if b = true then we σ2 H3 fun y H4 => ∃ acc, H4 D = some (.lst acc) ∧ acc.length < sizeLine ∧ Nx (upd H4 D (.lst (acc ++ [y]))) else Nx H3) := by
  obtain ⟨Y, wk, hy⟩ := it
  have k1 := r1.kH
  have nDb := r1.kx.ne hD
  have nDj := nj nDb
  have fD : ∀ a, a = D → H1 a = none := fun a e => e ▸ hD
  have rD : ∀ {H' : Hp} {u : HO}, Stp b j H1 H' → H' D = some u → Rel K (b.pl (· = D)) j H0 G σ H' ρ := fun {H' u} s e => r1.plus hD s ⟨u, e⟩
  refine lc_it wk (fun i H2 => Stp b j H1 H2 ∧ ∃ (acc : List V) (os : List (Option PyData)), H2 D = some (.lst acc) ∧ Dts K (b.pl (· = D)) H2 acc (os.filterMap id) ∧ os.length = i ∧ ∀ (k : Nat) o, os[k]? = some o → R k o) ?_ (fun i H2 _ h => h.1) ?_ ?_
  · refine ⟨.new hD, [], [], upd_same, .nil, rfl, fun k o h => ?_⟩
    rw [List.getElem?_nil] at h
    cases h
  · rintro i x H2 H3 hi2 ⟨s2, acc, os, hD2, ha, hlen, ho⟩ y
    obtain ⟨d, hd⟩ : ∃ d, items[i]? = some d := ⟨_, List.getElem?_eq_getElem hi2⟩
    obtain ⟨sm, hx⟩ := hy _ fD i H2 x H3 d hi2 s2 y hd
    have s3 : Stp b j H1 H3 := s2.trans (.same sm)
    have hD3 : H3 D = some (.lst acc) := sm _ _ hD2
    have r3 := hρ (rD s3 hD3)
    have k2 := k1.step s2
    refine tk _ _ _ _ _ _ _ _ _ r3 hx (hR i d hd) fun σ' ρ' r' hb bt => ⟨bt vs hv |>.trans ?_, ?_⟩
    · apply List.ext_getElem?
      intro k
      rw [wipe_get, wipe_get, wipe_length]
      split <;> rfl
    refine hwt _ _ _ ⟨ρ', H0, G, r', mt _ _ _ (fun c hc H4 s4 => ?_) hb⟩
    have s4' : Stp b j H3 H4 := s4.to rfl
    have k3 := k1.step s3
    have acc4 : H4 D = some (.lst acc) := s4'.1 D _ (fun _ => nDj) hD3
    have ha3 : Dts K (b.pl (· = D)) H3 acc (os.filterMap id) := ha.stpO k2 (.same sm)
    have ha4 : Dts K (b.pl (· = D)) H4 acc (os.filterMap id) := ha3.stpO k3 s4'
    cases c with
    | true =>
      have hc : te ρ' fun e => R i (some e) := hc
      change we σ' H4 _
      refine hwe _ _ _ ⟨ρ', H0, G, r'.step s4, me _ _ _ (fun e hRe v H5 s5 hv5 => ?_) hc⟩
      have s5' : Stp b j H4 H5 := s5.to rfl
      have k4 := k3.step s4'
      have acc5 : H5 D = some (.lst acc) := s5'.1 D _ (fun _ => nDj) acc4
      have ha5 : Dts K (b.pl (· = D)) H5 acc (os.filterMap id) := ha4.stpO k4 s5'
      refine ⟨acc, acc5, ?_, ?_, acc ++ [v], os ++ [some e], upd_same, ?_, ?_, ?_⟩
      · rw [ha.len]
        refine Nat.lt_of_le_of_lt (List.length_filterMap_le _ _) ?_
        rw [hlen]
        exact Nat.lt_of_lt_of_le (Nat.lt_of_lt_of_le hi2 hl) (by decide)
      · exact Stp.mut k1 ((s3.trans s4').trans s5') hD
      · rw [List.filterMap_append]
        exact (ha5.snoc hv5).put acc5 (show (b.pl (· = D)).ex D from Or.inr rfl)
      · rw [List.length_append, hlen]; rfl
      · intro k o hk
        rw [List.getElem?_append] at hk
        split at hk
        · exact ho k o hk
        · rename_i c
          have e1 : k = i := by
            have := (List.getElem?_eq_some_iff.mp hk).1
            simp at this
            omega
          subst e1
          rw [hlen, Nat.sub_self] at hk
          cases hk
          exact hRe
    | false =>
      have hc : R i none := hc
      change Stp b j H1 H4 ∧ _
      refine ⟨s3.trans s4', acc, os ++ [none], acc4, ?_, ?_, ?_⟩
      · rw [List.filterMap_append]
        show Dts K (b.pl (· = D)) H4 acc (os.filterMap id ++ [])
        rw [List.append_nil]
        exact ha4
      · rw [List.length_append, hlen]; rfl
      · intro k o hk
        rw [List.getElem?_append] at hk
        split at hk
        · exact ho k o hk
        · rename_i c
          have e1 : k = i := by
            have := (List.getElem?_eq_some_iff.mp hk).1
            simp at this
            omega
          subst e1
          rw [hlen, Nat.sub_self] at hk
          cases hk
          exact hc
  · rintro H2 ⟨s2, acc, os, hD2, ha, hlen, ho⟩
    exact hQ acc os H2 s2 hD2 ha hlen ho
def nLc (ti : DTI) (p : Pt) (vs : List Nat) (te : DTE) : DTA := fun ρ Q => ti ρ fun items => items.length ≤ 100000 ∧ ∃ R : Nat → PyData → Prop, (∀ k d, items[k]? = some d → bT p d (wp ρ vs) fun ρ' => te ρ' fun e => NoL e ∧ R k e) ∧
  ∀ ds, ds.length = items.length → (∀ (k : Nat) e, ds[k]? = some e → R k e) → Q ds
def nLcT (ti : DTI) (p : Pt) (vs : List Nat) (tt : DTT) (te : DTE) : DTA := fun ρ Q => ti ρ fun items => items.length ≤ 100000 ∧ ∃ R : Nat → Option PyData → Prop,
  (∀ k d, items[k]? = some d → bT p d (wp ρ vs) fun ρ' => tt ρ' fun c => if c = true then te ρ' fun e => NoL e ∧ R k (some e) else R k none) ∧
  ∀ os : List (Option PyData), os.length = items.length → (∀ (k : Nat) o, os[k]? = some o → (∀ e, o = some e → NoL e) ∧ R k o) → Q (os.filterMap id)
/-- the same without a word of lists: own lists stand still meanwhile -/
def stl (ρ : List SV) : List SV := ρ.map fun s => match s with | .own ds => .dat (.list ds) | s => s
def b1M : P1 → PyData → List SV → (List SV → Prop) → Prop
  | .n i, d, ρ, Q => Q (ρ.set i (.dat d))
  | .t is, d, ρ, Q => match d with | .tuple ds => ds.length = is.length ∧ Q (setAll ρ is ds) | _ => False
def bsM : List P1 → List PyData → List SV → (List SV → Prop) → Prop
  | [], [], ρ, Q => Q ρ
  | p :: ps, d :: ds, ρ, Q => b1M p d ρ fun ρ' => bsM ps ds ρ' Q
  | _, _, _, _ => False
def bTM : Pt → PyData → List SV → (List SV → Prop) → Prop
  | .one p, d, ρ, Q => b1M p d ρ Q
  | .row ps, d, ρ, Q => match d with | .tuple ds => bsM ps ds ρ Q | _ => False
def nLcM (ti : DTI) (p : Pt) (vs : List Nat) (te : DTE) : DTA := fun ρ Q => ti ρ fun items => items.length ≤ 100000 ∧ ∃ R : Nat → PyData → Prop, (∀ k d, items[k]? = some d → bTM p d (wp (stl ρ) vs) fun ρ' => te ρ' fun e => R k e) ∧
  ∀ ds, ds.length = items.length → (∀ (k : Nat) e, ds[k]? = some e → R k e) → Q ds
def nLcTM (ti : DTI) (p : Pt) (vs : List Nat) (tt : DTT) (te : DTE) : DTA := fun ρ Q => ti ρ fun items => items.length ≤ 100000 ∧ ∃ R : Nat → Option PyData → Prop,
  (∀ k d, items[k]? = some d → bTM p d (wp (stl ρ) vs) fun ρ' => tt ρ' fun c => if c = true then te ρ' fun e => R k (some e) else R k none) ∧
  ∀ os : List (Option PyData), os.length = items.length → (∀ (k : Nat) o, os[k]? = some o → R k o) → Q (os.filterMap id)
theorem b1M_mo {p : P1} {d : PyData} {ρ : List SV} {Q Q' : List SV → Prop} (m : ∀ ρ, Q ρ → Q' ρ) (h : b1M p d ρ Q) : b1M p d ρ Q' := by
  cases p with
  | n i => exact m _ h
  | t is => cases d <;> first | exact h.elim | exact ⟨h.1, m _ h.2⟩
theorem bsM_mo {Q Q' : List SV → Prop} (m : ∀ ρ, Q ρ → Q' ρ) : ∀ {ps : List P1} {ds : List PyData} {ρ : List SV}, bsM ps ds ρ Q → bsM ps ds ρ Q'
  | [], [], _, h => m _ h
  | _ :: _, _ :: _, _, h => b1M_mo (fun _ h => bsM_mo m h) h
  | [], _ :: _, _, h => h.elim
  | _ :: _, [], _, h => h.elim
theorem bTM_mo {p : Pt} {d : PyData} {ρ : List SV} {Q Q' : List SV → Prop} (m : ∀ ρ, Q ρ → Q' ρ) (h : bTM p d ρ Q) : bTM p d ρ Q' := by
  cases p with
  | one p => exact b1M_mo m h
  | row ps => cases d <;> first | exact h.elim | exact bsM_mo m h
/-! ### targets of any data, apart from own lists -/
section
variable {K : PySem.W.Frag} {H0 G H : Hp} {σ : L2.St} {ρ : List SV} {O : Addr → Prop}
theorem gNsM_ok {Q : L2.St → Hp → Prop} : ∀ {is : List Nat} {ds : List PyData} {xs : List V} {σ : L2.St} {ρ : List SV}, (∀ a, Ow σ ρ a → O a) → Rel K b j H0 G σ H ρ → Dts K (b.pl O) H xs ds → ds.length = is.length →
    (∀ σ', (∀ a, Ow σ' (setAll ρ is ds) a → O a) → Rel K b j H0 G σ' H (setAll ρ is ds) → But is σ σ' → Q σ' H) → gNs is xs σ H Q
  | [], [], [], σ, ρ, w, r, _, _, q => ⟨rfl, q σ w r fun _ _ => rfl⟩
  | i :: is, d :: ds, x :: xs, σ, ρ, w, r, .cons h1 h2, l, q => by
    refine ⟨x, xs, rfl, ?_⟩
    refine gNsM_ok (is := is) (ds := ds) (fun a z => w a (ow_set (fun ds' e' => by cases e') z)) (r.setD (h1.plw w)) h2 (by simpa using l) fun σ' w' r' bt => q σ' w' r' fun vs hv => ?_
    rw [bt vs fun i hi => hv i (List.mem_cons_of_mem _ hi), wipe_set (hv i List.mem_cons_self)]
theorem g1M_ok {p : P1} {d : PyData} {x : V} {Q : L2.St → Hp → Prop} {Qd : List SV → Prop} (w : ∀ a, Ow σ ρ a → O a) (r : Rel K b j H0 G σ H ρ) (h : Dt K (b.pl O) H x d) (hb : b1M p d ρ Qd) (q : ∀ σ' ρ', (∀ a, Ow σ' ρ' a → O a) → Rel K b j H0 G σ' H ρ' → Qd ρ' → But (ix1 p) σ σ' → Q σ' H) : g1 K p x σ H Q := by
  cases p with
  | n i => exact q _ _ (fun a z => w a (ow_set (fun ds' e' => by cases e') z)) (r.setD (h.plw w)) hb fun vs hv => wipe_set (hv i List.mem_cons_self)
  | t is =>
    cases h with
    | @tup a xs ds g1 g2 =>
      obtain ⟨h1, h3⟩ := hb
      exact ⟨a, xs, rfl, g1, by rw [g2.len, h1], gNsM_ok w r g2 h1 fun σ' w' r' bt => q σ' _ w' r' h3 bt⟩
    | _ => exact hb.elim
theorem gPsM_ok {Q : L2.St → Hp → Prop} {Qd : List SV → Prop} : ∀ {ps : List P1} {ds : List PyData} {xs : List V} {σ : L2.St} {ρ : List SV}, (∀ a, Ow σ ρ a → O a) → Rel K b j H0 G σ H ρ → Dts K (b.pl O) H xs ds → bsM ps ds ρ Qd →
    (∀ σ' ρ', (∀ a, Ow σ' ρ' a → O a) → Rel K b j H0 G σ' H ρ' → Qd ρ' → But (ps.flatMap ix1) σ σ' → Q σ' H) → gPs K ps xs σ H Q
  | [], [], [], σ, ρ, w, r, _, h, q => ⟨rfl, q σ ρ w r h fun _ _ => rfl⟩
  | p :: ps, d :: ds, x :: xs, σ, ρ, w, r, .cons h1 h2, h, q => by
    refine ⟨x, xs, rfl, ?_⟩
    refine g1M_ok w r h1 h fun σ1 ρ1 w1 r1 h3 bt1 => ?_
    refine gPsM_ok (ps := ps) (ds := ds) w1 r1 h2 h3 fun σ2 ρ2 w2 r2 h4 bt2 => q σ2 ρ2 w2 r2 h4 fun vs hv => ?_
    rw [bt2 vs fun i hi => hv i (by rw [List.flatMap_cons]; exact List.mem_append_right _ hi), bt1 vs fun i hi => hv i (by rw [List.flatMap_cons]; exact List.mem_append_left _ hi)]
  | [], _ :: _, _, _, _, _, _, _, h, _ => h.elim
  | _ :: _, [], _, _, _, _, _, _, h, _ => h.elim
theorem bsM_len {Q : List SV → Prop} : ∀ {ps : List P1} {ds : List PyData} {ρ : List SV} {Q : List SV → Prop}, bsM ps ds ρ Q → ds.length = ps.length
  | [], [], _, _, _ => rfl
  | p :: ps, d :: ds, ρ, Q, h => by
    have h' : b1M p d ρ fun ρ' => bsM ps ds ρ' Q := h
    have k : ∃ ρ', bsM ps ds ρ' Q := by
      cases p with
      | n i => exact ⟨_, h'⟩
      | t is => cases d <;> first | exact h'.elim | exact ⟨_, h'.2⟩
    obtain ⟨ρ', k⟩ := k
    rw [List.length_cons, List.length_cons, bsM_len (Q := Q) k]
  | [], _ :: _, _, _, h => h.elim
  | _ :: _, [], _, _, h => h.elim
theorem gTM_ok {p : Pt} {d : PyData} {x : V} {Q : L2.St → Hp → Prop} {Qd : List SV → Prop} (w : ∀ a, Ow σ ρ a → O a) (r : Rel K b j H0 G σ H ρ) (h : Dt K (b.pl O) H x d) (hb : bTM p d ρ Qd) (q : ∀ σ' ρ', (∀ a, Ow σ' ρ' a → O a) → Rel K b j H0 G σ' H ρ' → Qd ρ' → But (ixT p) σ σ' → Q σ' H) : gT K p x σ H Q := by
  cases p with
  | one p => exact g1M_ok w r h hb q
  | row ps =>
    cases h with
    | @tup a xs ds g1 g2 => exact ⟨a, xs, rfl, g1, by rw [g2.len, bsM_len (Q := Qd) hb], gPsM_ok w r g2 hb q⟩
    | _ => exact hb.elim
theorem stl_get {k : Nat} {s : SV} (h : (stl ρ)[k]? = some s) : (∃ ds, ρ[k]? = some (.own ds) ∧ s = .dat (.list ds)) ∨ (ρ[k]? = some s ∧ ∀ ds, s ≠ .own ds) := by
  unfold stl at h
  rw [List.getElem?_map] at h
  cases q : ρ[k]? with
  | none => rw [q] at h; cases h
  | some t =>
    rw [q] at h
    cases t <;> (cases h) <;> first | exact .inl ⟨_, rfl, rfl⟩ | exact .inr ⟨rfl, fun _ e => by cases e⟩
theorem stl_ow {a : Addr} : ¬ Ow σ (stl ρ) a := by
  rintro ⟨k, ds, h, _⟩
  rcases stl_get h with ⟨_, _, h⟩ | ⟨_, h⟩
  · cases h
  · exact h ds rfl
theorem Rel.stl (r : Rel K b j H0 G σ H ρ) : Rel K b j H0 G σ H (DL.stl ρ) := by
  have w : ∀ a, Ow σ (DL.stl ρ) a → Ow σ ρ a := fun a z => (stl_ow z).elim
  refine ⟨by unfold DL.stl; rw [List.length_map]; exact r.len, r.kj, r.kx, r.sg, r.st, fun i s e => ?_, fun i k ds ds' p _ e1 => ?_⟩
  · rcases stl_get e with ⟨ds, e1, rfl⟩ | ⟨e1, n⟩
    · obtain ⟨p, xs, e2, h1, h2, h4, h5⟩ := r.own_at e1
      exact ⟨.ref p, by rw [e2]; rfl, .lst h1 (fun z => Or.elim z h5 fun z => stl_ow z) (h2.plw w)⟩
    · exact (r.sl i s e1).wk w
  · rcases stl_get e1 with ⟨_, _, h⟩ | ⟨_, h⟩
    · cases h
    · exact (h ds rfl).elim
theorem wp_ow : ∀ {vs : List Nat} {a : Addr}, Ow (wipe σ vs) (wp ρ vs) a → Ow σ ρ a
  | [], _, h => h
  | v :: vs, _, h => wp_ow (ow_set (fun ds' e' => by cases e') h)
end
theorem takes_M {K : PySem.W.Frag} {ρ : List SV} : Takes K j p (wp (stl ρ) vs) (fun d Q => bTM p d (wp (stl ρ) vs) Q) := fun b H0 G H σ x d Q Qd r h hb q => by
  have no : ∀ a, ¬ Ow σ (wp (stl ρ) vs) a := fun a ⟨k, ds, h1, _⟩ => by
    have key : ∀ (vs : List Nat) {k : Nat} {ds : List PyData}, (wp (stl ρ) vs)[k]? ≠ some (.own ds) := by
      intro vs
      induction vs with
      | nil =>
        intro k ds h
        rcases stl_get h with ⟨_, _, h⟩ | ⟨_, h⟩
        · cases h
        · exact h ds rfl
      | cons v vs ih =>
        intro k ds h
        have h' : ((wp (stl ρ) vs).set v .nil)[k]? = some (.own ds) := h
        rw [List.getElem?_set] at h'
        split at h'
        · split at h' <;> cases h'
        · exact ih h'
    exact key vs h1
  exact gTM_ok (O := fun _ => False) (fun a z => no a z) r (h.weak fun a z => Or.elim z id False.elim) hb fun σ' ρ' _ r' h' bt => q σ' ρ' r' h' bt
theorem lcT_mo (mti : ∀ ρ (Q Q' : List PyData → Prop), (∀ d, Q d → Q' d) → ti ρ Q → ti ρ Q') : MoA (nLcT ti p vs tt te) := fun ρ Q Q' m q => mti _ _ _ (fun items ⟨hl, R, hR, hQ⟩ => ⟨hl, R, hR, fun os h1 h2 => m _ (hQ os h1 h2)⟩) q
theorem lc_mo (mti : ∀ ρ (Q Q' : List PyData → Prop), (∀ d, Q d → Q' d) → ti ρ Q → ti ρ Q') : MoA (nLc ti p vs te) := fun ρ Q Q' m q => mti _ _ _ (fun items ⟨hl, R, hR, hQ⟩ => ⟨hl, R, hR, fun os h1 h2 => m _ (hQ os h1 h2)⟩) q
theorem lcTM_mo (mti : ∀ ρ (Q Q' : List PyData → Prop), (∀ d, Q d → Q' d) → ti ρ Q → ti ρ Q') : MoA (nLcTM ti p vs tt te) := fun ρ Q Q' m q => mti _ _ _ (fun items ⟨hl, R, hR, hQ⟩ => ⟨hl, R, hR, fun os h1 h2 => m _ (hQ os h1 h2)⟩) q
theorem lcM_mo (mti : ∀ ρ (Q Q' : List PyData → Prop), (∀ d, Q d → Q' d) → ti ρ Q → ti ρ Q') : MoA (nLcM ti p vs te) := fun ρ Q Q' m q => mti _ _ _ (fun items ⟨hl, R, hR, hQ⟩ => ⟨hl, R, hR, fun os h1 h2 => m _ (hQ os h1 h2)⟩) q
def tY : DTT := fun _ Q => Q true
theorem all_some : ∀ (os : List (Option PyData)) (R : Nat → PyData → Prop), (∀ (k : Nat) o, os[k]? = some o → ∃ e, o = some e ∧ R k e) → (os.filterMap id).length = os.length ∧ ∀ (k : Nat) e, (os.filterMap id)[k]? = some e → R k e := by
  intro os
  induction os with
  | nil => exact fun R _ => ⟨rfl, fun k e h => by simp at h⟩
  | cons o os ih =>
    intro R h
    obtain ⟨e, rfl, he⟩ := h 0 o rfl
    obtain ⟨i1, i2⟩ := ih (fun k e => R (k + 1) e) fun k o hk => h (k + 1) o (by simpa using hk)
    refine ⟨by show (os.filterMap id).length + 1 = _; rw [i1]; rfl, fun k e' hk => ?_⟩
    cases k with
    | zero =>
      have : some e = some e' := hk
      cases this
      exact he
    | succ k => exact i2 k e' hk
/-- without a test -/
theorem lc_noM {ρ : List SV} {Q : List PyData → Prop} (mti : ∀ ρ (Q Q' : List PyData → Prop), (∀ d, Q d → Q' d) → ti ρ Q → ti ρ Q') (me : MoE te) (h : nLcM ti p vs te ρ Q) : nLcTM ti p vs tY te ρ Q := by
  refine mti _ _ _ (fun items ⟨hl, R, hR, hQ⟩ => ⟨hl, fun k o => ∃ e : PyData, o = some e ∧ R k e, fun k d hd => bTM_mo (Q := fun ρ' => te ρ' fun e => R k e) (fun ρ' h => ?_) (hR k d hd), fun os h1 h2 => ?_⟩) h
  · change te ρ' fun e => ∃ e' : PyData, some e = some e' ∧ R k e'
    exact me ρ' (fun e => R k e) _ (fun e h => ⟨e, rfl, h⟩) h
  · obtain ⟨i1, i2⟩ := all_some os R h2
    exact hQ _ (by rw [i1, h1]) i2
theorem lc_no {ρ : List SV} {Q : List PyData → Prop} (mti : ∀ ρ (Q Q' : List PyData → Prop), (∀ d, Q d → Q' d) → ti ρ Q → ti ρ Q') (me : MoE te) (h : nLc ti p vs te ρ Q) : nLcT ti p vs tY te ρ Q := by
  refine mti _ _ _ (fun items ⟨hl, R, hR, hQ⟩ => ⟨hl, fun k o => ∃ e : PyData, o = some e ∧ R k e, fun k d hd => bT_mo (Q := fun ρ' => te ρ' fun e => NoL e ∧ R k e) (fun ρ' h => ?_) (hR k d hd), fun os h1 h2 => ?_⟩) h
  · change te ρ' fun e => NoL e ∧ ∃ e' : PyData, some e = some e' ∧ R k e'
    exact me ρ' (fun e => NoL e ∧ R k e) _ (fun e h => ⟨h.1, e, rfl, h.2⟩) h
  · obtain ⟨i1, i2⟩ := all_some os R fun k o hk => (h2 k o hk).2
    exact hQ _ (by rw [i1, h1]) i2
/-- both readings, told as comprehensions -/
theorem lc_okT (mt : MoT tt) (me : MoE te) (hv : ∀ i ∈ ixT p, i ∈ vs) {wi : TI} (mti : ∀ ρ (Q Q' : List PyData → Prop), (∀ d, Q d → Q' d) → ti ρ Q → ti ρ Q') (hi : ∀ σ H R, LI X.K b j false ti σ H R → wi σ H R) :
    ∀ σ H Q, LL X.K b j (nLcT ti p vs tt te) σ H Q → tLc wi (gT X.K p) (UT X.K j tt) (UE X.K j te) vs σ H Q := by
  rintro σ H Q ⟨ρ, H0, G, r, q⟩
  refine hi σ H _ ⟨ρ, H0, G, r, mti _ _ _ (fun items q J H1 s1 it D hD => ?_) q⟩
  obtain ⟨hl, R, hR, hQ⟩ := q
  refine lc_turn (r.step s1) hD mt me hv (fun _ _ _ h => ⟨_, h⟩) (fun _ _ _ h => ⟨_, h⟩) it hl (takes_T (ρs := wp ρ vs)) (fun r => r.wipe vs) (R := fun k o => (∀ e, o = some e → NoL e) ∧ R k o) (fun k d hd => bT_mo (Q := fun ρ' => tt ρ' fun c => if c = true then te ρ' fun e => NoL e ∧ R k (some e) else R k none) (fun ρ' h => mt _ _ _ (fun c h => ?_) h) (hR k d hd)) fun acc os H2 s2 g1 g2 g3 g4 => hQ os g3 g4 D acc H2 (s1.trans s2) (s1.free r.kH hD) g1 g2
  cases c with
  | true => exact me ρ' (fun e => NoL e ∧ R k (some e)) _ (fun e h => ⟨fun e' z => by cases z; exact h.1, h.2⟩) h
  | false => exact ⟨fun e z => (by cases z), h⟩
theorem lc_okTM (mt : MoT tt) (me : MoE te) (hv : ∀ i ∈ ixT p, i ∈ vs) {wi : TI} (mti : ∀ ρ (Q Q' : List PyData → Prop), (∀ d, Q d → Q' d) → ti ρ Q → ti ρ Q') (hi : ∀ σ H R, LI X.K b j false ti σ H R → wi σ H R) :
    ∀ σ H Q, LL X.K b j (nLcTM ti p vs tt te) σ H Q → tLc wi (gT X.K p) (UT X.K j tt) (UE X.K j te) vs σ H Q := by
  rintro σ H Q ⟨ρ, H0, G, r, q⟩
  refine hi σ H _ ⟨ρ, H0, G, r, mti _ _ _ (fun items q J H1 s1 it D hD => ?_) q⟩
  obtain ⟨hl, R, hR, hQ⟩ := q
  exact lc_turn (r.step s1) hD mt me hv (fun _ _ _ h => ⟨_, h⟩) (fun _ _ _ h => ⟨_, h⟩) it hl (takes_M (ρ := ρ) (vs := vs)) (fun r => r.stl.wipe vs) (R := R) hR fun acc os H2 s2 g1 g2 g3 g4 => hQ os g3 g4 D acc H2 (s1.trans s2) (s1.free r.kH hD) g1 g2
end
end DL

namespace DL
open PySem PySem.Spec PyProof.Rows L2 GuL HG LZ RZ
def sNewM (i : Nat) (t : DTA) : DTS := fun D ρ => t (mask ρ) fun ds => D.nx (ρ.set i (.own ds))
section
variable {X : Cx} {b : Bx} {j : Bool} {tg iter elt : Expr} {ifs : List Expr} {scope : Scope} {own : List (Str × Nat)} {pos spos : Pos} {ti : DTI} {te : DTE} {tt : DTT} {p : Pt}
theorem UT_yes {K : PySem.W.Frag} : ∀ σ H Q, UT K j tY σ H Q → tYes σ H Q := fun σ H Q ⟨_, _, _, _, _, q⟩ => q H .refl
theorem pts_Y {Y : Cx} : PTs Y [] (UT Y.K j tY) := ⟨fun pins sh σ H' Q I q => pts_nil.run pins sh σ H' Q I (UT_yes σ H' Q q)⟩
theorem moY : MoT tY := fun _ _ _ m q => m _ q
theorem dn_lcT {c : Expr} (hc : X.calm = true) (hN : X.N.Nodup) (hi : DI X j false tg iter ti) (ok : BlkOk X.N X.env.scope scope own) (hv : ∀ i ∈ ixT p, i ∈ own.map (·.2))
    (hg : ∀ (s : Shared) (H : Hp) (C : Addr) (cl : List (Str × Addr)) (fp : List Addr), PG (X.blk s H scope (compEnvC scope cl C X.env) fp) tg (gT X.K p))
    (ht : ∀ (s : Shared) (H : Hp) (C : Addr) (cl : List (Str × Addr)) (fp : List Addr), DT (X.blk s H scope (compEnvC scope cl C X.env) fp) j c tt)
    (he : ∀ (s : Shared) (H : Hp) (C : Addr) (cl : List (Str × Addr)) (fp : List Addr), DE (X.blk s H scope (compEnvC scope cl C X.env) fp) j elt te) (hs : ∀ x, foldedSetIterable iter X.env x = pure x := by intro _; rfl) :
    DN X j (.ListComp elt [⟨tg, iter, [c], 0⟩] scope pos) (nLcT ti p (own.map (·.2)) tt te) := by
  have mt : MoT tt := (ht X.s_0 X.H_0 X.env.locals [] []).mo
  have me : MoE te := (he X.s_0 X.H_0 X.env.locals [] []).mo
  refine ⟨fun b => peI (pe_lc (te := UE X.K j te) (tt := UT X.K j tt) hc hN (hi.pi b) ok hg (fun s H C cl fp => pts_one (ht s H C cl fp).u) (fun s H C cl fp => (he s H C cl fp).u) hs) ?_, lcT_mo hi.mo⟩
  rintro σ H Q ⟨ρ, H0, G, r, q⟩
  exact lc_okT (X := X) mt me hv hi.mo (fun _ _ _ h => h) σ H Q ⟨ρ, H0, G, r, q⟩
theorem ds_setLcT {c : Expr} {i : Nat} {y : Str} {py : Pos} (hc : X.calm = true) (hN : X.N.Nodup) (hy : X.N[i]? = some y) (hyl : X.env.scope.names.lookup y = some .local)
    (hsw : swapsWith (.ListComp elt [⟨tg, iter, [c], 0⟩] scope pos) (some (.Name y py)) spos.line X.env = pure true) (hi : DI X j false tg iter ti) (ok : BlkOk X.N X.env.scope scope own) (hv : ∀ i ∈ ixT p, i ∈ own.map (·.2))
    (hg : ∀ (s : Shared) (H : Hp) (C : Addr) (cl : List (Str × Addr)) (fp : List Addr), PG (X.blk s H scope (compEnvC scope cl C X.env) fp) tg (gT X.K p))
    (ht : ∀ (s : Shared) (H : Hp) (C : Addr) (cl : List (Str × Addr)) (fp : List Addr), DT (X.blk s H scope (compEnvC scope cl C X.env) fp) j c tt)
    (he : ∀ (s : Shared) (H : Hp) (C : Addr) (cl : List (Str × Addr)) (fp : List Addr), DE (X.blk s H scope (compEnvC scope cl C X.env) fp) j elt te) (hs : ∀ x, foldedSetIterable iter X.env x = pure x := by intro _; rfl) :
    DS X j (.Assign [.Name y py] (.ListComp elt [⟨tg, iter, [c], 0⟩] scope pos) spos) (sNew i (nLcT ti p (own.map (·.2)) tt te)) := by
  have mt : MoT tt := (ht X.s_0 X.H_0 X.env.locals [] []).mo
  have me : MoE te := (he X.s_0 X.H_0 X.env.locals [] []).mo
  have mo : MoA (nLcT ti p (own.map (·.2)) tt te) := lcT_mo hi.mo
  refine ⟨fun b => psI (ps_setLc (te := UE X.K j te) (tt := UT X.K j tt) hc hN hy hyl hsw (hi.pi b) ok hg (fun s H C cl fp => pts_one (ht s H C cl fp).u) (fun s H C cl fp => (he s H C cl fp).u) hs) ?_, fun D D' ρ l q => mo _ _ _ (fun d h => ⟨h.1, l.nx _ h.2⟩) q⟩
  rintro D σ H ⟨ρ, H0, G, r, q⟩
  have q' := mo _ _ (fun ds => ∀ p xs H', Stp b j H H' → H p = none → H' p = some (.lst xs) → Dts X.K (b.pl (· = p)) H' xs ds → gName i (.ref p) σ H' D.nx) (fun ds q p xs H' st hp hx hd => q.2 _ _ (r.setNn st hp hx hd q.1)) q
  exact lc_okT (X := X) mt me hv hi.mo (fun _ _ _ h => h) σ H _ ⟨ρ, H0, G, r, q'⟩
theorem dn_lc (hc : X.calm = true) (hN : X.N.Nodup) (hi : DI X j false tg iter ti) (ok : BlkOk X.N X.env.scope scope own) (hv : ∀ i ∈ ixT p, i ∈ own.map (·.2))
    (hg : ∀ (s : Shared) (H : Hp) (C : Addr) (cl : List (Str × Addr)) (fp : List Addr), PG (X.blk s H scope (compEnvC scope cl C X.env) fp) tg (gT X.K p))
    (he : ∀ (s : Shared) (H : Hp) (C : Addr) (cl : List (Str × Addr)) (fp : List Addr), DE (X.blk s H scope (compEnvC scope cl C X.env) fp) j elt te) (hs : ∀ x, foldedSetIterable iter X.env x = pure x := by intro _; rfl) :
    DN X j (.ListComp elt [⟨tg, iter, [], 0⟩] scope pos) (nLc ti p (own.map (·.2)) te) := by
  have mt : MoT tY := moY
  have me : MoE te := (he X.s_0 X.H_0 X.env.locals [] []).mo
  refine ⟨fun b => peI (pe_lc (te := UE X.K j te) (tt := UT X.K j tY) hc hN (hi.pi b) ok hg (fun s H C cl fp => pts_Y) (fun s H C cl fp => (he s H C cl fp).u) hs) ?_, lc_mo hi.mo⟩
  rintro σ H Q ⟨ρ, H0, G, r, q⟩
  exact lc_okT (X := X) mt me hv hi.mo (fun _ _ _ h => h) σ H Q ⟨ρ, H0, G, r, (lc_no hi.mo me q)⟩
theorem ds_setLc {i : Nat} {y : Str} {py : Pos} (hc : X.calm = true) (hN : X.N.Nodup) (hy : X.N[i]? = some y) (hyl : X.env.scope.names.lookup y = some .local)
    (hsw : swapsWith (.ListComp elt [⟨tg, iter, [], 0⟩] scope pos) (some (.Name y py)) spos.line X.env = pure true) (hi : DI X j false tg iter ti) (ok : BlkOk X.N X.env.scope scope own) (hv : ∀ i ∈ ixT p, i ∈ own.map (·.2))
    (hg : ∀ (s : Shared) (H : Hp) (C : Addr) (cl : List (Str × Addr)) (fp : List Addr), PG (X.blk s H scope (compEnvC scope cl C X.env) fp) tg (gT X.K p))
    (he : ∀ (s : Shared) (H : Hp) (C : Addr) (cl : List (Str × Addr)) (fp : List Addr), DE (X.blk s H scope (compEnvC scope cl C X.env) fp) j elt te) (hs : ∀ x, foldedSetIterable iter X.env x = pure x := by intro _; rfl) :
    DS X j (.Assign [.Name y py] (.ListComp elt [⟨tg, iter, [], 0⟩] scope pos) spos) (sNew i (nLc ti p (own.map (·.2)) te)) := by
  have mt : MoT tY := moY
  have me : MoE te := (he X.s_0 X.H_0 X.env.locals [] []).mo
  have mo : MoA (nLc ti p (own.map (·.2)) te) := lc_mo hi.mo
  refine ⟨fun b => psI (ps_setLc (te := UE X.K j te) (tt := UT X.K j tY) hc hN hy hyl hsw (hi.pi b) ok hg (fun s H C cl fp => pts_Y) (fun s H C cl fp => (he s H C cl fp).u) hs) ?_, fun D D' ρ l q => mo _ _ _ (fun d h => ⟨h.1, l.nx _ h.2⟩) q⟩
  rintro D σ H ⟨ρ, H0, G, r, q⟩
  have q' := mo _ _ (fun ds => ∀ p xs H', Stp b j H H' → H p = none → H' p = some (.lst xs) → Dts X.K (b.pl (· = p)) H' xs ds → gName i (.ref p) σ H' D.nx) (fun ds q p xs H' st hp hx hd => q.2 _ _ (r.setNn st hp hx hd q.1)) q
  exact lc_okT (X := X) mt me hv hi.mo (fun _ _ _ h => h) σ H _ ⟨ρ, H0, G, r, (lc_no hi.mo me q')⟩
theorem dn_lcTM {c : Expr} (hc : X.calm = true) (hN : X.N.Nodup) (hi : DI X j false tg iter ti) (ok : BlkOk X.N X.env.scope scope own) (hv : ∀ i ∈ ixT p, i ∈ own.map (·.2))
    (hg : ∀ (s : Shared) (H : Hp) (C : Addr) (cl : List (Str × Addr)) (fp : List Addr), PG (X.blk s H scope (compEnvC scope cl C X.env) fp) tg (gT X.K p))
    (ht : ∀ (s : Shared) (H : Hp) (C : Addr) (cl : List (Str × Addr)) (fp : List Addr), DT (X.blk s H scope (compEnvC scope cl C X.env) fp) j c tt)
    (he : ∀ (s : Shared) (H : Hp) (C : Addr) (cl : List (Str × Addr)) (fp : List Addr), DE (X.blk s H scope (compEnvC scope cl C X.env) fp) j elt te) (hs : ∀ x, foldedSetIterable iter X.env x = pure x := by intro _; rfl) :
    DN X j (.ListComp elt [⟨tg, iter, [c], 0⟩] scope pos) (nLcTM ti p (own.map (·.2)) tt te) := by
  have mt : MoT tt := (ht X.s_0 X.H_0 X.env.locals [] []).mo
  have me : MoE te := (he X.s_0 X.H_0 X.env.locals [] []).mo
  refine ⟨fun b => peI (pe_lc (te := UE X.K j te) (tt := UT X.K j tt) hc hN (hi.pi b) ok hg (fun s H C cl fp => pts_one (ht s H C cl fp).u) (fun s H C cl fp => (he s H C cl fp).u) hs) ?_, lcTM_mo hi.mo⟩
  rintro σ H Q ⟨ρ, H0, G, r, q⟩
  exact lc_okTM (X := X) mt me hv hi.mo (fun _ _ _ h => h) σ H Q ⟨ρ, H0, G, r, q⟩
theorem ds_setLcTM {c : Expr} {i : Nat} {y : Str} {py : Pos} (hc : X.calm = true) (hN : X.N.Nodup) (hy : X.N[i]? = some y) (hyl : X.env.scope.names.lookup y = some .local)
    (hsw : swapsWith (.ListComp elt [⟨tg, iter, [c], 0⟩] scope pos) (some (.Name y py)) spos.line X.env = pure true) (hi : DI X j false tg iter ti) (ok : BlkOk X.N X.env.scope scope own) (hv : ∀ i ∈ ixT p, i ∈ own.map (·.2))
    (hg : ∀ (s : Shared) (H : Hp) (C : Addr) (cl : List (Str × Addr)) (fp : List Addr), PG (X.blk s H scope (compEnvC scope cl C X.env) fp) tg (gT X.K p))
    (ht : ∀ (s : Shared) (H : Hp) (C : Addr) (cl : List (Str × Addr)) (fp : List Addr), DT (X.blk s H scope (compEnvC scope cl C X.env) fp) j c tt)
    (he : ∀ (s : Shared) (H : Hp) (C : Addr) (cl : List (Str × Addr)) (fp : List Addr), DE (X.blk s H scope (compEnvC scope cl C X.env) fp) j elt te) (hs : ∀ x, foldedSetIterable iter X.env x = pure x := by intro _; rfl) :
    DS X j (.Assign [.Name y py] (.ListComp elt [⟨tg, iter, [c], 0⟩] scope pos) spos) (sNewM i (nLcTM ti p (own.map (·.2)) tt te)) := by
  have mt : MoT tt := (ht X.s_0 X.H_0 X.env.locals [] []).mo
  have me : MoE te := (he X.s_0 X.H_0 X.env.locals [] []).mo
  have mo : MoA (nLcTM ti p (own.map (·.2)) tt te) := lcTM_mo hi.mo
  refine ⟨fun b => ⟨fun pins sh σ H D I h => ?_⟩, fun D D' ρ l q => mo _ _ _ (fun d h => l.nx _ h) q⟩
  obtain ⟨ρ, H0, G, r, q⟩ := h
  refine (ps_setLc (te := UE X.K j te) (tt := UT X.K j tt) hc hN hy hyl hsw (hi.pi (b.pl (Ow σ ρ))) ok hg (fun s H C cl fp => pts_one (ht s H C cl fp).u) (fun s H C cl fp => (he s H C cl fp).u) hs).run pins sh σ H D I ?_
  have q' := mo _ _ (fun ds => ∀ p xs H', Stp (b.pl (Ow σ ρ)) j H H' → H p = none → H' p = some (.lst xs) → Dts X.K ((b.pl (Ow σ ρ)).pl (· = p)) H' xs ds → gName i (.ref p) σ H' D.nx) (fun ds q p xs H' st hp hx hd => q _ _ (r.setN (st.to rfl) hp hx hd)) q
  exact lc_okTM (X := X) mt me hv hi.mo (fun _ _ _ h => h) σ H _ ⟨mask ρ, H, H, r.mask, q'⟩
theorem dn_lcM (hc : X.calm = true) (hN : X.N.Nodup) (hi : DI X j false tg iter ti) (ok : BlkOk X.N X.env.scope scope own) (hv : ∀ i ∈ ixT p, i ∈ own.map (·.2))
    (hg : ∀ (s : Shared) (H : Hp) (C : Addr) (cl : List (Str × Addr)) (fp : List Addr), PG (X.blk s H scope (compEnvC scope cl C X.env) fp) tg (gT X.K p))
    (he : ∀ (s : Shared) (H : Hp) (C : Addr) (cl : List (Str × Addr)) (fp : List Addr), DE (X.blk s H scope (compEnvC scope cl C X.env) fp) j elt te) (hs : ∀ x, foldedSetIterable iter X.env x = pure x := by intro _; rfl) :
    DN X j (.ListComp elt [⟨tg, iter, [], 0⟩] scope pos) (nLcM ti p (own.map (·.2)) te) := by
  have mt : MoT tY := moY
  have me : MoE te := (he X.s_0 X.H_0 X.env.locals [] []).mo
  refine ⟨fun b => peI (pe_lc (te := UE X.K j te) (tt := UT X.K j tY) hc hN (hi.pi b) ok hg (fun s H C cl fp => pts_Y) (fun s H C cl fp => (he s H C cl fp).u) hs) ?_, lcM_mo hi.mo⟩
  rintro σ H Q ⟨ρ, H0, G, r, q⟩
  exact lc_okTM (X := X) mt me hv hi.mo (fun _ _ _ h => h) σ H Q ⟨ρ, H0, G, r, (lc_noM hi.mo me q)⟩
theorem ds_setLcM {i : Nat} {y : Str} {py : Pos} (hc : X.calm = true) (hN : X.N.Nodup) (hy : X.N[i]? = some y) (hyl : X.env.scope.names.lookup y = some .local)
    (hsw : swapsWith (.ListComp elt [⟨tg, iter, [], 0⟩] scope pos) (some (.Name y py)) spos.line X.env = pure true) (hi : DI X j false tg iter ti) (ok : BlkOk X.N X.env.scope scope own) (hv : ∀ i ∈ ixT p, i ∈ own.map (·.2))
    (hg : ∀ (s : Shared) (H : Hp) (C : Addr) (cl : List (Str × Addr)) (fp : List Addr), PG (X.blk s H scope (compEnvC scope cl C X.env) fp) tg (gT X.K p))
    (he : ∀ (s : Shared) (H : Hp) (C : Addr) (cl : List (Str × Addr)) (fp : List Addr), DE (X.blk s H scope (compEnvC scope cl C X.env) fp) j elt te) (hs : ∀ x, foldedSetIterable iter X.env x = pure x := by intro _; rfl) :
    DS X j (.Assign [.Name y py] (.ListComp elt [⟨tg, iter, [], 0⟩] scope pos) spos) (sNewM i (nLcM ti p (own.map (·.2)) te)) := by
  have mt : MoT tY := moY
  have me : MoE te := (he X.s_0 X.H_0 X.env.locals [] []).mo
  have mo : MoA (nLcM ti p (own.map (·.2)) te) := lcM_mo hi.mo
  refine ⟨fun b => ⟨fun pins sh σ H D I h => ?_⟩, fun D D' ρ l q => mo _ _ _ (fun d h => l.nx _ h) q⟩
  obtain ⟨ρ, H0, G, r, q⟩ := h
  refine (ps_setLc (te := UE X.K j te) (tt := UT X.K j tY) hc hN hy hyl hsw (hi.pi (b.pl (Ow σ ρ))) ok hg (fun s H C cl fp => pts_Y) (fun s H C cl fp => (he s H C cl fp).u) hs).run pins sh σ H D I ?_
  have q' := mo _ _ (fun ds => ∀ p xs H', Stp (b.pl (Ow σ ρ)) j H H' → H p = none → H' p = some (.lst xs) → Dts X.K ((b.pl (Ow σ ρ)).pl (· = p)) H' xs ds → gName i (.ref p) σ H' D.nx) (fun ds q p xs H' st hp hx hd => q _ _ (r.setN (st.to rfl) hp hx hd)) q
  exact lc_okTM (X := X) mt me hv hi.mo (fun _ _ _ h => h) σ H _ ⟨mask ρ, H, H, r.mask, (lc_noM hi.mo me q')⟩
end
end DL

namespace DL
open PySem PySem.Spec PyProof.Rows L2 GuL HG LZ RZ
/-! ### for -/
def fin (D : DEnds) (N B : List SV → Prop) : DEnds := { nx := N, rt := D.rt, rn := D.rn, ct := N, bk := B }
theorem fin_le {D D' : DEnds} {N B B' : List SV → Prop} (l : D.Le D') (h : ∀ ρ, B ρ → B' ρ) : (fin D N B).Le (fin D' N B') := ⟨fun _ h => h, l.rt, l.rn, h, fun _ h => h⟩
def sFor (ti : DTI) (p : Pt) (body : DTS) : DTS := fun D ρ => ti ρ fun items => ∃ I : Nat → List SV → Prop, I 0 ρ ∧
  (∀ k d ρ', items[k]? = some d → I k ρ' → bT p d ρ' fun ρ'' => body (fin D (I (k + 1)) fun ρ2 => frzs ρ2 = frzs ρ ∧ D.nx ρ2) ρ'') ∧ ∀ ρ', I items.length ρ' → frzs ρ' = frzs ρ ∧ D.nx ρ'
section
variable {X : Cx} {b : Bx} {j : Bool} {tg iter e : Expr} {ss : List Stmt} {pos : Pos} {ti : DTI} {t : DTS} {p : Pt}
theorem ds_for (hp : PassesOwn (model X.prog X.w) X.A X.env X.xe) (hc : X.calm = true) (hi : DI X j true tg iter ti) (hg : PG X tg (gT X.K p)) (hb : DSs X j ss t)
    (hs : ∀ x, foldedSetIterable iter X.env x = pure x := by intro _; rfl) : DS X j (.For tg iter ss [] pos) (sFor ti p t) := by
  refine ⟨fun b => psI (ps_for hp hc (hi.pi b) hg (hb.ps b) hs) ?_, fun D D' ρ l q => hi.mo _ _ _ (fun items ⟨I, h0, h1, h2⟩ => ⟨I, h0, fun k d ρ' hd hI => bT_mo (fun ρ'' h => hb.mo _ _ _ (fin_le l fun ρ2 h => ⟨h.1, l.nx _ h.2⟩) h) (h1 k d ρ' hd hI), fun ρ' h => ⟨(h2 ρ' h).1, l.nx _ (h2 ρ' h).2⟩⟩) q⟩
  rintro D σ H ⟨ρ, H0, G, r, q⟩
  refine ⟨ρ, H0, G, r, hi.mo _ _ _ (fun items q J H1 s1 it => ?_) q⟩
  obtain ⟨I, h0, h1, h2⟩ := q
  obtain ⟨Y, wk, hy⟩ := it
  have r1 := r.step s1
  refine for_it wk (fun i σ' H' => ∃ ρ', I i ρ' ∧ Rel X.K b j H0 (mn σ ρ H1) σ' H' ρ') ⟨ρ, h0, r1.into⟩ (fun i σ' H' _ ⟨ρ', _, r'⟩ => r'.st) ?_ ?_
  · rintro i x σ' H' H2 hi2 ⟨ρ', hI, r'⟩ y
    obtain ⟨d, hd⟩ : ∃ d, items[i]? = some d := ⟨_, List.getElem?_eq_getElem hi2⟩
    obtain ⟨sm, hx⟩ := hy (fun _ => False) (fun _ z => z.elim) i H' x H2 d hi2 r'.st y hd
    refine gT_ok (r'.step (.same sm)) hx.un (h1 i d ρ' hd hI) fun σ3 ρ3 r3 h3 _ => ?_
    exact ⟨ρ3, H0, mn σ ρ H1, r3, hb.mo (fin (lft X.K b j H0 G D) (I (i + 1)) fun ρ2 => frzs ρ2 = frzs ρ ∧ (lft X.K b j H0 G D).nx ρ2) _ _ ⟨fun ρ4 h σ4 H4 r4 => ⟨ρ4, h, r4⟩, fun _ h => h, fun _ h => h, fun ρ4 h σ4 H4 r4 => h.2 σ4 H4 (r1.out r4 h.1), fun ρ4 h σ4 H4 r4 => ⟨ρ4, h, r4⟩⟩ h3⟩
  · rintro σ' H' ⟨ρ', hI, r'⟩
    obtain ⟨e1, e2⟩ := h2 ρ' hI
    exact e2 σ' H' (r1.out r' e1)
/-! ### for, over any data apart from own lists -/
end
section
variable {K : PySem.W.Frag} {b : Bx} {j : Bool} {H0 G H : Hp} {σ : L2.St} {ρ : List SV}
theorem mn_no {a : Addr} {u : HO} (h : H a = some u) (n : ¬ Ow σ ρ a) : mn σ ρ H a = some u := by
  rw [mn_else, h]
  exact fun i ds e z => n ⟨i, ds, e, z⟩
mutual
theorem base_dtM (r : Rel K b j H0 G σ H ρ) : ∀ {v : V} {d : PyData}, Dt K (b.pl (Ow σ ρ)) H v d → Dt K b (mn σ ρ H) v d
  | _, _, .non => .non
  | _, _, .bl c => .bl c
  | _, _, .int i => .int i
  | _, _, .str x => .str x
  | _, _, .lst h n q => .lst (mn_no h fun z => n (Or.inr z)) (fun z => n (Or.inl z)) (base_dtsM r q)
  | _, _, .tup h q => .tup (base_T r true h) (base_dtsM r q)
  | _, _, .emp h => .emp (r.mn_keep h (.inl fun xs z => by cases z))
theorem base_dtsM (r : Rel K b j H0 G σ H ρ) : ∀ {vs : List V} {ds : List PyData}, Dts K (b.pl (Ow σ ρ)) H vs ds → Dts K b (mn σ ρ H) vs ds
  | _, _, .nil => .nil
  | _, _, .cons h q => .cons (base_dtM r h) (base_dtsM r q)
end
/-- what is walked is apart from own lists -/
def LIM (K : PySem.W.Frag) (j : Bool) (t : DTI) : TI := fun σ H R => ∃ b ρ H0 G, Rel K b j H0 G σ H ρ ∧ t (mask ρ) fun items => ∀ J H', Stp b j H H' → Ito K b j J (mn σ ρ H') items → R J H'
structure DIM (X : Cx) (j : Bool) (tg e : Expr) (t : DTI) : Prop where
  pi : PI X tg e (LIM X.K j t)
  mo : ∀ ρ (Q Q' : List PyData → Prop), (∀ d, Q d → Q' d) → t ρ Q → t ρ Q'
end
def seqI (t : DTE) : DTI := fun ρ Q => t ρ fun d => match d with | .tuple ds => Q ds | _ => False
def lstIM (t : DTE) : DTI := fun ρ Q => t ρ fun d => match d with | .list ds => Q ds | _ => False
def newIM (t : DTA) : DTI := fun ρ Q => t ρ fun ds => Q ds
def enIM (t : DTA) : DTI := fun ρ Q => t ρ fun ds => match ds with | [.tuple ds] => Q (enD ds) | _ => False
def z2IM (t : DTA) : DTI := fun ρ Q => t ρ fun ds => match ds with | [.tuple ds, .tuple es] => ds.length = es.length ∧ Q (zp2 ds es) | _ => False
def sForM (ti : DTI) (p : Pt) (body : DTS) : DTS := fun D ρ => ti (mask ρ) fun items => ∃ I : Nat → List SV → Prop, I 0 ρ ∧
  (∀ k d ρ', items[k]? = some d → I k ρ' → bTM p d ρ' fun ρ'' => body (fin D (I (k + 1)) fun ρ2 => frzs ρ2 = frzs ρ ∧ D.nx ρ2) ρ'') ∧ ∀ ρ', I items.length ρ' → frzs ρ' = frzs ρ ∧ D.nx ρ'
section
variable {X : Cx} {b : Bx} {j : Bool} {tg iter e e1 e2 : Expr} {ss : List Stmt} {pos p0 : Pos} {ti : DTI} {t : DTS} {p : Pt} {ta : DTE} {tt : DTA} {c : DTT}
theorem dim_seq (h : DE X j e ta) : DIM X j tg e (seqI ta) := by
  refine ⟨⟨fun pins s σ H R I hh => ?_⟩, fun ρ Q Q' m q => h.mo _ _ _ (fun d h => ?_) q⟩
  · obtain ⟨b, ρ, H0, G, r, q⟩ := hh
    refine (pi_tup (h.pe (b.pl (Ow σ ρ)))).run pins s σ H R I ⟨mask ρ, H, H, r.mask, h.mo _ _ _ (fun d q v H1 s1 hv => ?_) q⟩
    cases hv with
    | @tup a xs ds g1 g2 =>
      have s1' : Stp b j H H1 := s1.to rfl
      have r1 := r.step s1'
      exact ⟨a, rfl, ⟨xs, g1⟩, q _ H1 s1' (ito_tup (base_kn r1 true) (base_T r1 true g1) (base_dtsM r1 g2))⟩
    | _ => exact q.elim
  · cases d <;> first | exact h.elim | exact m _ h
theorem dim_lst (h : DE X j e ta) : DIM X j tg e (lstIM ta) := by
  refine ⟨⟨fun pins s σ H R I hh => ?_⟩, fun ρ Q Q' m q => h.mo _ _ _ (fun d h => ?_) q⟩
  · obtain ⟨b, ρ, H0, G, r, q⟩ := hh
    refine (pi_list (h.pe (b.pl (Ow σ ρ)))).run pins s σ H R I ⟨mask ρ, H, H, r.mask, h.mo _ _ _ (fun d q v H1 s1 hv => ?_) q⟩
    cases hv with
    | @lst a xs ds g1 g3 g2 =>
      have s1' : Stp b j H H1 := s1.to rfl
      have r1 := r.step s1'
      exact ⟨a, rfl, ⟨xs, SqL.of g1⟩, q _ H1 s1' (ito_lst (base_kn r1 true) (mn_no g1 fun z => g3 (Or.inr z)) (fun z => g3 (Or.inl z)) (base_dtsM r1 g2))⟩
    | _ => exact q.elim
  · cases d <;> first | exact h.elim | exact m _ h
theorem dim_new (h : DN X j e tt) : DIM X j tg e (newIM tt) := by
  refine ⟨⟨fun pins s σ H R I hh => ?_⟩, fun ρ Q Q' m q => h.mo _ _ _ (fun d h => m _ h) q⟩
  obtain ⟨b, ρ, H0, G, r, q⟩ := hh
  refine (pi_list (h.pe (b.pl (Ow σ ρ)))).run pins s σ H R I ⟨mask ρ, H, H, r.mask, h.mo _ _ _ (fun ds q a xs H1 s1 hp hx hd => ?_) q⟩
  have s1' : Stp b j H H1 := s1.to rfl
  have r1 := r.step s1'
  have na : ¬ Ow σ ρ a := fun z => by
    obtain ⟨⟨xs', e⟩, _⟩ := r.ow z
    rw [e] at hp
    cases hp
  exact ⟨a, rfl, ⟨xs, SqL.of hx⟩, q _ H1 s1' (ito_lst (base_kn r1 true) (mn_no hx na) (r.kx.ne hp) (base_dtsM r1 hd.un))⟩
theorem dim_rng1 (hg : Gl X "range") (hm : X.mg "range" = none) (h : DA X j [e] tt) (hs : starEach [e] X.env = [(false, eval e X.env)] := by rfl) : DIM X j tg (.Call (.Name "range" p0) [e] [] pos) (rng1I tt) := by
  refine ⟨⟨fun pins s σ H R I hh => ?_⟩, fun ρ Q Q' m q => h.mo _ _ _ (fun d h => ?_) q⟩
  · obtain ⟨b, ρ, H0, G, r, q⟩ := hh
    refine (pi_range1 hg hm (h.pa (b.pl (Ow σ ρ))) hs).run pins s σ H R I ⟨mask ρ, H, H, r.mask, h.mo _ _ _ (fun ds q vs H1 s1 hv => ?_) q⟩
    split at q
    · rename_i n
      cases hv with
      | cons h1 h2 =>
        cases h1
        cases h2
        exact ⟨n, rfl, q.1.1, q.1.2, q.2 _ H1 (s1.to rfl) ito_rng⟩
    · exact q.elim
  · split at h
    · exact ⟨h.1, m _ h.2⟩
    · exact h.elim
theorem dim_en (hg : Gl X "enumerate") (hm : X.mg "enumerate" = none) (h : DA X j [e] tt) {ts : List Expr} {kk : Nat} {tp : Pos} (hs : starEach [e] X.env = [(false, eval e X.env)] := by rfl) : DIM X j (.Tuple ts kk tp) (.Call (.Name "enumerate" p0) [e] [] pos) (enIM tt) := by
  refine ⟨⟨fun pins s σ H R I hh => ?_⟩, fun ρ Q Q' m q => h.mo _ _ _ (fun d h => ?_) q⟩
  · obtain ⟨b, ρ, H0, G, r, q⟩ := hh
    refine (pi_enumT hg hm (h.pa (b.pl (Ow σ ρ))) hs).run pins s σ H R I ⟨mask ρ, H, H, r.mask, h.mo _ _ _ (fun ds q vs H1 s1 hv => ?_) q⟩
    split at q
    · cases hv with
      | cons h1 h2 =>
        cases h1 with
        | tup g1 g2 =>
          cases h2
          have s1' : Stp b j H H1 := s1.to rfl
          have r1 := r.step s1'
          exact ⟨_, _, rfl, g1, q _ H1 s1' (ito_en (base_kn r1 true) (base_T r1 true g1) (base_dtsM r1 g2))⟩
    · exact q.elim
  · split at h
    · exact m _ h
    · exact h.elim
theorem dim_z2 (hg : Gl X "zip") (hm : X.mg "zip" = none) (h : DA X j [e1, e2] tt) {ts : List Expr} {kk : Nat} {tp : Pos} (hs : starEach [e1, e2] X.env = (false, eval e1 X.env) :: starEach [e2] X.env := by rfl) (hpl : (backTo pos (starEach [e2] X.env)).any (·.1) = false := by rfl) : DIM X j (.Tuple ts kk tp) (.Call (.Name "zip" p0) [e1, e2] [] pos) (z2IM tt) := by
  refine ⟨⟨fun pins s σ H R I hh => ?_⟩, fun ρ Q Q' m q => h.mo _ _ _ (fun d h => ?_) q⟩
  · obtain ⟨b, ρ, H0, G, r, q⟩ := hh
    refine (pi_zipA hg hm (h.pa (b.pl (Ow σ ρ))) hs hpl).run pins s σ H R I ⟨mask ρ, H, H, r.mask, h.mo _ _ _ (fun ds q vs H1 s1 hv => ?_) q⟩
    split at q
    · cases hv with
      | cons h1 h2 =>
        cases h1 with
        | tup g1 g2 =>
          cases h2 with
          | cons h3 h4 =>
            cases h3 with
            | tup g3 g4 =>
              cases h4
              have s1' : Stp b j H H1 := s1.to rfl
              have r1 := r.step s1'
              exact ⟨_, _, _, _, rfl, .inr ⟨g1, g3, q.2 _ H1 s1' (ito_z2 (base_kn r1 true) (base_T r1 true g1) (base_T r1 true g3) (base_dtsM r1 g2) (base_dtsM r1 g4) q.1)⟩⟩
    · exact q.elim
  · split at h
    · exact ⟨h.1, m _ h.2⟩
    · exact h.elim
theorem ds_forM (hp : PassesOwn (model X.prog X.w) X.A X.env X.xe) (hc : X.calm = true) (hi : DIM X j tg iter ti) (hg : PG X tg (gT X.K p)) (hb : DSs X j ss t)
    (hs : ∀ x, foldedSetIterable iter X.env x = pure x := by intro _; rfl) : DS X j (.For tg iter ss [] pos) (sForM ti p t) := by
  refine ⟨fun b => psI (ps_for hp hc hi.pi hg (hb.ps b) hs) ?_, fun D D' ρ l q => hi.mo _ _ _ (fun items ⟨I, h0, h1, h2⟩ => ⟨I, h0, fun k d ρ' hd hI => bTM_mo (fun ρ'' h => hb.mo _ _ _ (fin_le l fun ρ2 h => ⟨h.1, l.nx _ h.2⟩) h) (h1 k d ρ' hd hI), fun ρ' h => ⟨(h2 ρ' h).1, l.nx _ (h2 ρ' h).2⟩⟩) q⟩
  rintro D σ H ⟨ρ, H0, G, r, q⟩
  refine ⟨b, ρ, H0, G, r, hi.mo _ _ _ (fun items q J H1 s1 it => ?_) q⟩
  obtain ⟨I, h0, h1, h2⟩ := q
  obtain ⟨Y, wk, hy⟩ := it
  have r1 := r.step s1
  refine for_it wk (fun i σ' H' => ∃ ρ', I i ρ' ∧ Rel X.K b j H0 (mn σ ρ H1) σ' H' ρ') ⟨ρ, h0, r1.into⟩ (fun i σ' H' _ ⟨ρ', _, r'⟩ => r'.st) ?_ ?_
  · rintro i x σ' H' H2 hi2 ⟨ρ', hI, r'⟩ y
    obtain ⟨d, hd⟩ : ∃ d, items[i]? = some d := ⟨_, List.getElem?_eq_getElem hi2⟩
    obtain ⟨sm, hx⟩ := hy (fun a => mn σ ρ H1 a = none) (fun _ z => z) i H' x H2 d hi2 r'.st y hd
    refine gTM_ok (O := fun a => mn σ ρ H1 a = none) (fun a z => (r'.ow z).2.1) (r'.step (.same sm)) hx (h1 i d ρ' hd hI) fun σ3 ρ3 _ r3 h3 _ => ?_
    exact ⟨ρ3, H0, mn σ ρ H1, r3, hb.mo (fin (lft X.K b j H0 G D) (I (i + 1)) fun ρ2 => frzs ρ2 = frzs ρ ∧ (lft X.K b j H0 G D).nx ρ2) _ _ ⟨fun ρ4 h σ4 H4 r4 => ⟨ρ4, h, r4⟩, fun _ h => h, fun _ h => h, fun ρ4 h σ4 H4 r4 => h.2 σ4 H4 (r1.out r4 h.1), fun ρ4 h σ4 H4 r4 => ⟨ρ4, h, r4⟩⟩ h3⟩
  · rintro σ' H' ⟨ρ', hI, r'⟩
    obtain ⟨e1, e2⟩ := h2 ρ' hI
    exact e2 σ' H' (r1.out r' e1)
/-! ### while -/
def sWhile (c : DTT) (t : DTS) : DTS := fun D ρ => ∃ I : Nat → List SV → Prop, (∃ m, I m ρ) ∧ ∀ m ρ', I m ρ' → c ρ' fun k => if k = true then t (fin D (fun ρ2 => ∃ m', m' < m ∧ I m' ρ2) D.nx) ρ' else D.nx ρ'
theorem ds_while (hp : PassesOwn (model X.prog X.w) X.A X.env X.xe) (hc : DT X j e c) (hb : DSs X j ss t) : DS X j (.While e ss [] pos) (sWhile c t) := by
  refine ⟨fun b => psI (ps_while hp (hc.pt b) (hb.ps b)) ?_, fun D D' ρ l ⟨I, h0, h1⟩ => ⟨I, h0, fun m ρ' hI => hc.mo _ _ _ (fun k h => ?_) (h1 m ρ' hI)⟩⟩
  · rintro D σ H ⟨ρ, H0, G, r, I, ⟨m0, h0⟩, h1⟩
    refine ⟨fun m σ' H' => ∃ ρ', I m ρ' ∧ Rel X.K b j H0 G σ' H' ρ', ⟨m0, ρ, h0, r⟩, ?_⟩
    rintro m σ' H' ⟨ρ', hI, r'⟩
    refine ⟨ρ', H0, G, r', hc.mo _ _ _ (fun k h H2 s2 => ?_) (h1 m ρ' hI)⟩
    cases k with
    | true =>
      refine ⟨fun σ3 H3 => ∃ ρ3, (∃ m', m' < m ∧ I m' ρ3) ∧ Rel X.K b j H0 G σ3 H3 ρ3, fun σ3 H3 ⟨ρ3, ⟨m', hm, hI3⟩, r3⟩ => ⟨m', hm, ρ3, hI3, r3⟩, ?_⟩
      exact ⟨ρ', H0, G, r'.step s2, hb.mo (fin (lft X.K b j H0 G D) (fun ρ2 => ∃ m', m' < m ∧ I m' ρ2) (lft X.K b j H0 G D).nx) _ _ ⟨fun ρ4 h σ4 H4 r4 => ⟨ρ4, h, r4⟩, fun _ h => h, fun _ h => h, fun ρ4 h σ4 H4 r4 => h σ4 H4 r4, fun ρ4 h σ4 H4 r4 => ⟨ρ4, h, r4⟩⟩ h⟩
    | false => exact h σ' H2 (r'.step s2)
  · cases k with
    | true => exact hb.mo _ _ _ (fin_le l l.nx) h
    | false => exact l.nx _ h
/-! ### statements over any data -/
def sSetM (i : Nat) (t : DTE) : DTS := fun D ρ => t (mask ρ) fun d => D.nx (ρ.set i (.dat d))
def sAppM (i : Nat) (t : DTE) : DTS := fun D ρ => match ρ[i]? with | some (.own ds) => t (mask ρ) fun d => ds.length < 100000 ∧ D.nx (ρ.set i (.own (ds ++ [d]))) | _ => False
def sExtM (i : Nat) (t : DTA) : DTS := fun D ρ => match ρ[i]? with | some (.own ds) => t (mask ρ) fun es => ds.length + es.length ≤ 100000 ∧ D.nx (ρ.set i (.own (ds ++ es))) | _ => False
def sUnpM (p : Pt) (t : DTE) : DTS := fun D ρ => t (mask ρ) fun d => bTM p d ρ D.nx
def stil (ρ : List SV) (i : Nat) : List SV := match ρ[i]? with | some (SV.own ds) => ρ.set i (SV.dat (.list ds)) | _ => ρ
def sStill (is : List Nat) (t : DTS) : DTS := fun D ρ => t D (is.foldl stil ρ)
theorem ds_setM {i : Nat} {x : Str} {pos' : Pos} (hN : X.N.Nodup) (hi : X.N[i]? = some x) (hx : Loc X.env.scope x) (he : DE X j e ta) (hs : swapsWith e (some (.Name x pos')) pos.line X.env = pure false := by rfl)
    (hf : X.fn x = true ∨ X.env.scope.names.lookup x = some .local := by first | exact .inl rfl | exact .inr rfl) : DS X j (.Assign [.Name x pos'] e pos) (sSetM i ta) := by
  refine ⟨fun b => ⟨fun pins sh σ H D I h => ?_⟩, fun D D' ρ l q => he.mo _ _ _ (fun d h => l.nx _ h) q⟩
  obtain ⟨ρ, H0, G, r, q⟩ := h
  exact (ps_set hN hi hx (he.pe (b.pl (Ow σ ρ))) hs hf).run pins sh σ H D I ⟨mask ρ, H, H, r.mask, he.mo _ _ _ (fun d q v H' st hv => q _ _ ((r.step (st.to rfl)).setD hv)) q⟩
theorem ds_newM {i : Nat} {x : Str} {pos' : Pos} (hN : X.N.Nodup) (hi : X.N[i]? = some x) (hx : Loc X.env.scope x) (he : DN X j e tt) (hs : swapsWith e (some (.Name x pos')) pos.line X.env = pure false := by rfl)
    (hf : X.fn x = true ∨ X.env.scope.names.lookup x = some .local := by first | exact .inl rfl | exact .inr rfl) : DS X j (.Assign [.Name x pos'] e pos) (sNewM i tt) := by
  refine ⟨fun b => ⟨fun pins sh σ H D I h => ?_⟩, fun D D' ρ l q => he.mo _ _ _ (fun d h => l.nx _ h) q⟩
  obtain ⟨ρ, H0, G, r, q⟩ := h
  exact (ps_set hN hi hx (he.pe (b.pl (Ow σ ρ))) hs hf).run pins sh σ H D I ⟨mask ρ, H, H, r.mask, he.mo _ _ _ (fun ds q p xs H' st hp hx hd => q _ _ (r.setN (st.to rfl) hp hx hd)) q⟩
theorem ds_appM {i : Nat} {apos cpos : Pos} (hv : PE X e (tVar i)) (ha : DE X j e1 ta) (hbase : attributeBase e "append" X.env (eval e X.env) = eval e X.env := by rfl)
    (hfew : ((backTo cpos (starEach [e1] X.env)).all (fun x => !x.1) && (backToKw cpos (keywordEach [] X.env)).all (fun x => x.1.isSome) && decide ([e1].length + ([] : List Keyword).length + (if ([] : List Keyword).isEmpty then 0 else 1) < 30)) = true := by rfl)
    (hline : (apos.endLine == cpos.line) = true := by rfl) (hs : starEach [e1] X.env = (false, eval e1 X.env) :: starEach [] X.env := by rfl) (hplain : (backTo cpos (starEach [] X.env)).any (·.1) = false := by rfl)
    (hsw : swapsWith (.Call (.Attribute e "append" apos) [e1] [] cpos) none pos.line X.env = pure false := by rfl) : DS X j (.Expr (.Call (.Attribute e "append" apos) [e1] [] cpos) pos) (sAppM i ta) := by
  refine ⟨fun b => ⟨fun pins sh σ H D I h => ?_⟩, fun D D' ρ l q => ?_⟩
  · obtain ⟨ρ, H0, G, r, q⟩ := h
    unfold sAppM at q
    split at q
    · rename_i ds e
      obtain ⟨p, xs, e1, h1, h2, h4, h5⟩ := r.own_at e
      refine (ps_expr (pe_bm PySem.F.plainAttrs_list PySem.F.slot_list_append PySem.F.type_list_append mt_append hv (pa_cons (ha.pe (b.pl (Ow σ ρ))) pa_nil hs) hbase hfew hline hs hplain) hsw).run pins sh σ H D I ?_
      refine ⟨.ref p, e1, .inl ⟨rfl, _, SqL.of h1⟩, mask ρ, H, H, r.mask, ha.mo _ _ _ (fun d q v H1 s1 hd => ?_) q⟩
      have r1 := r.step (s1.to rfl)
      obtain ⟨p', xs', e1', h1', h2', h4', h5'⟩ := r1.own_at e
      rw [e1] at e1'
      cases e1'
      exact ⟨p, xs', v, rfl, rfl, h1', by rw [h2'.len]; exact Nat.lt_of_lt_of_le q.1 (by decide), q.2 σ _ (r1.own_put e e1 (h2'.snoc hd))⟩
    · exact q.elim
  · unfold sAppM at q ⊢
    split at q
    · exact ha.mo _ _ _ (fun d h => ⟨h.1, l.nx _ h.2⟩) q
    · exact q.elim
theorem ds_extM {i : Nat} {apos cpos : Pos} (hv : PE X e (tVar i)) (ha : DN X j e1 tt) (hbase : attributeBase e "extend" X.env (eval e X.env) = eval e X.env := by rfl)
    (hfew : ((backTo cpos (starEach [e1] X.env)).all (fun x => !x.1) && (backToKw cpos (keywordEach [] X.env)).all (fun x => x.1.isSome) && decide ([e1].length + ([] : List Keyword).length + (if ([] : List Keyword).isEmpty then 0 else 1) < 30)) = true := by rfl)
    (hline : (apos.endLine == cpos.line) = true := by rfl) (hs : starEach [e1] X.env = (false, eval e1 X.env) :: starEach [] X.env := by rfl) (hplain : (backTo cpos (starEach [] X.env)).any (·.1) = false := by rfl)
    (hsw : swapsWith (.Call (.Attribute e "extend" apos) [e1] [] cpos) none pos.line X.env = pure false := by rfl) : DS X j (.Expr (.Call (.Attribute e "extend" apos) [e1] [] cpos) pos) (sExtM i tt) := by
  refine ⟨fun b => ⟨fun pins sh σ H D I h => ?_⟩, fun D D' ρ l q => ?_⟩
  · obtain ⟨ρ, H0, G, r, q⟩ := h
    unfold sExtM at q
    split at q
    · rename_i ds e
      obtain ⟨p, xs, e1, h1, h2, h4, h5⟩ := r.own_at e
      refine (ps_expr (pe_bm PySem.F.plainAttrs_list PySem.F.slot_list_extend PySem.F.type_list_extend mt_extend hv (pa_cons (ha.pe (b.pl (Ow σ ρ))) pa_nil hs) hbase hfew hline hs hplain) hsw).run pins sh σ H D I ?_
      refine ⟨.ref p, e1, .inl ⟨rfl, _, SqL.of h1⟩, mask ρ, H, H, r.mask, ha.mo _ _ _ (fun es q l ys H1 s1 hl hy hd => ?_) q⟩
      have r1 := r.step (s1.to rfl)
      obtain ⟨p', xs', e1', h1', h2', h4', h5'⟩ := r1.own_at e
      rw [e1] at e1'
      cases e1'
      exact ⟨p, l, xs', ys, rfl, rfl, h1', hy, by rw [h2'.len, hd.len]; exact sz5 q.1, q.2 σ _ (r1.own_put e e1 (h2'.app hd.un))⟩
    · exact q.elim
  · unfold sExtM at q ⊢
    split at q
    · exact ha.mo _ _ _ (fun d h => ⟨h.1, l.nx _ h.2⟩) q
    · exact q.elim
theorem ds_unpM {e : Expr} (he : DE X j e ta) (hg : PG X tg (gT X.K p)) (hs : swapsWithSole [tg] e pos.line X.env = pure false := by rfl) (hw : swappedStores [tg] e X.env = pure none := by rfl)
    (h1 : (assignEach [tg] X.env).map (·.2) = [assign tg X.env] := by rfl) : DS X j (.Assign [tg] e pos) (sUnpM p ta) := by
  refine ⟨fun b => ⟨fun pins sh σ H D I h => ?_⟩, fun D D' ρ l q => he.mo _ _ _ (fun d h => bTM_mo l.nx h) q⟩
  obtain ⟨ρ, H0, G, r, q⟩ := h
  exact (ps_asg (he.pe (b.pl (Ow σ ρ))) hg hs hw h1).run pins sh σ H D I ⟨mask ρ, H, H, r.mask, he.mo _ _ _ (fun d q v H1 s1 hv => gTM_ok (O := Ow σ ρ) (fun _ z => z) (r.step (s1.to rfl)) hv q fun σ' ρ' _ r' h3 _ => h3 σ' H1 r') q⟩
/-- own lists that change no more -/
theorem dss_still {is : List Nat} (h : DSs X j ss t) : DSs X j ss (sStill is t) := by
  refine ⟨fun b => pssI (h.ps b) ?_, fun D D' ρ l q => h.mo _ _ _ l q⟩
  rintro D σ H ⟨ρ, H0, G, r, q⟩
  have key : ∀ (is : List Nat) (ρ : List SV), Rel X.K b j H0 G σ H ρ → Rel X.K b j H0 G σ H (is.foldl stil ρ) := by
    intro is
    induction is with
    | nil => exact fun ρ r => r
    | cons i is ih =>
      intro ρ r
      refine ih _ ?_
      unfold stil
      split
      · rename_i ds e
        exact r.still e
      · exact r
  exact ⟨_, H0, G, key is ρ r, q⟩
end
end DL

namespace DL
open PySem PySem.Spec PyProof.Rows L2 GuL HG LZ RZ
section
variable {X : Cx} {b : Bx} {j : Bool} {e e1 e2 tg : Expr} {es : List Expr} {pos : Pos} {ta tb : DTE} {tt : DTA}
/-! ### several targets -/
theorem ds_unp {is : List Nat} (he : DE X j e ta) (hg : PG X tg (gTup X.K is.length (gNs is))) (hs : swapsWithSole [tg] e pos.line X.env = pure false := by rfl) (hw : swappedStores [tg] e X.env = pure none := by rfl)
    (h1 : (assignEach [tg] X.env).map (·.2) = [assign tg X.env] := by rfl) : DS X j (.Assign [tg] e pos) (sUnp is ta) := by
  refine ⟨fun b => psI (ps_asg (he.pe b) hg hs hw h1) ?_, fun D D' ρ l q => he.mo _ _ _ (fun d h => ?_) q⟩
  · rintro D σ H ⟨ρ, H0, G, r, q⟩
    refine ⟨ρ, H0, G, r, he.mo _ _ _ (fun d q v H1 s1 hv => ?_) q⟩
    cases hv with
    | @tup a xs ds g1 g2 =>
      obtain ⟨h1, h2, h3⟩ := q
      exact ⟨a, xs, rfl, g1, by rw [g2.len, h1], gNs_ok (r.step s1) g2 h1 h2 fun σ' r' _ => h3 σ' H1 r'⟩
    | _ => exact q.elim
  · cases d <;> first | exact h.elim | exact ⟨h.1, h.2.1, l.nx _ h.2.2⟩
theorem ds_par {i k : Nat} {x y : Str} {px py pt : Pos} {kt k2 : Nat} {pt2 : Pos} (hc : X.calm = true) (hN : X.N.Nodup) (hi : X.N[i]? = some x) (hj : X.N[k]? = some y) (hij : i ≠ k)
    (hx : X.env.scope.names.lookup x = some .local) (hy : X.env.scope.names.lookup y = some .local) (ha : DE X j e1 ta) (hb : DE X j e2 tb)
    (hw : swappedStores [.Tuple [.Name x px, .Name y py] kt pt] (.Tuple [e1, e2] k2 pt2) X.env = pure (some [x, y])) (h1 : starEach [e1, e2] X.env = (false, eval e1 X.env) :: starEach [e2] X.env := by rfl) (h2 : starEach [e2] X.env = (false, eval e2 X.env) :: starEach [] X.env := by rfl)
    (hs : swapsWithSole [.Tuple [.Name x px, .Name y py] kt pt] (.Tuple [e1, e2] k2 pt2) pos.line X.env = pure false := by rfl) : DS X j (.Assign [.Tuple [.Name x px, .Name y py] kt pt] (.Tuple [e1, e2] k2 pt2) pos) (sPar i k ta tb) := by
  refine ⟨fun b => psI (L2.ps_par hc hN hi hj hij hx hy (pa_cons (ha.pe b) (pa_cons (hb.pe b) pa_nil h2) h1) hw hs) ?_, fun D D' ρ l q => ha.mo _ _ _ (fun d h => hb.mo _ _ _ (fun e h => ⟨h.1, h.2.1, l.nx _ h.2.2⟩) h) q⟩
  rintro D σ H ⟨ρ, H0, G, r, q⟩
  refine ⟨ρ, H0, G, r, ha.mo _ _ _ (fun d q v H1 s1 hv => ?_) q⟩
  have r1 := r.step s1
  refine ⟨ρ, H0, G, r1, hb.mo _ _ _ (fun e q w H2 s2 hw => ?_) q⟩
  exact ⟨v, w, rfl, q.2.2 _ H2 (((r1.step s2).setDn (hv.stp r1.kH s2) q.1).setDn hw q.2.1)⟩
theorem ds_parN {i k : Nat} {x y : Str} {px py pt : Pos} {kt k2 : Nat} {pt2 : Pos} (hc : X.calm = true) (hN : X.N.Nodup) (hi : X.N[i]? = some x) (hj : X.N[k]? = some y) (hij : i ≠ k)
    (hx : X.env.scope.names.lookup x = some .local) (hy : X.env.scope.names.lookup y = some .local) (ha : DN X j e1 tt) (hb : DE X j e2 tb)
    (hw : swappedStores [.Tuple [.Name x px, .Name y py] kt pt] (.Tuple [e1, e2] k2 pt2) X.env = pure (some [x, y])) (h1 : starEach [e1, e2] X.env = (false, eval e1 X.env) :: starEach [e2] X.env := by rfl) (h2 : starEach [e2] X.env = (false, eval e2 X.env) :: starEach [] X.env := by rfl)
    (hs : swapsWithSole [.Tuple [.Name x px, .Name y py] kt pt] (.Tuple [e1, e2] k2 pt2) pos.line X.env = pure false := by rfl) : DS X j (.Assign [.Tuple [.Name x px, .Name y py] kt pt] (.Tuple [e1, e2] k2 pt2) pos) (sParN i k tt tb) := by
  refine ⟨fun b => psI (L2.ps_par hc hN hi hj hij hx hy (pa_cons (ha.pe b) (pa_cons (hb.pe b) pa_nil h2) h1) hw hs) ?_, fun D D' ρ l q => ha.mo _ _ _ (fun d h => hb.mo _ _ _ (fun e h => ⟨h.1, h.2.1, l.nx _ h.2.2⟩) h) q⟩
  rintro D σ H ⟨ρ, H0, G, r, q⟩
  refine ⟨ρ, H0, G, r, ha.mo _ _ _ (fun ds q p xs H1 s1 hp hx hd => ?_) q⟩
  have r1 := r.step s1
  refine ⟨ρ, H0, G, r1, hb.mo _ _ _ (fun e q w H2 s2 hw => ?_) q⟩
  have nb := r.knH.ne hp
  exact ⟨.ref p, w, rfl, q.2.2 _ H2 ((r.setNn (s1.trans s2) hp (s2.1 p _ (fun _ => nj nb) hx) (hd.stpO r1.kH s2) q.1).setDn hw q.2.1)⟩
end
/-! ### a def's own rule -/
def ini (N : List Str) (ss : List SV) : List SV := ss ++ List.replicate (N.length - ss.length) .nil
theorem dts_par {K : PySem.W.Frag} {b : Bx} {H : Hp} : ∀ {vs : List V} {ds : List PyData} {i : Nat} {s : SV}, Dts K b H vs ds → (ds.map SV.par)[i]? = some s → ∃ x d, vs[i]? = some x ∧ s = .par d ∧ Dt K b H x d
  | _, _, 0, s, .cons h _, e => by
    simp at e
    exact ⟨_, _, rfl, e.symm, h⟩
  | _, _, i + 1, s, .cons _ r, e => by
    obtain ⟨x, d, h1, h2, h3⟩ := dts_par (i := i) r (by simpa using e)
    exact ⟨x, d, by simpa using h1, h2, h3⟩
theorem ini_get {N : List Str} {ss : List SV} {i : Nat} {s : SV} (h : (ini N ss)[i]? = some s) : ss[i]? = some s ∨ s = .nil := by
  unfold ini at h
  rw [List.getElem?_append] at h
  split at h
  · exact .inl h
  · right
    rw [List.getElem?_replicate] at h
    split at h
    · exact (Option.some.inj h).symm
    · cases h
theorem start_get {N : List Str} {vs : List V} {i : Nat} {x : V} (h : vs[i]? = some x) : (start N vs)[i]?.join = some x := by
  unfold L2.start
  rw [List.getElem?_append_left (by rw [List.length_map]; exact (List.getElem?_eq_some_iff.mp h).1), List.getElem?_map, h]
  rfl
theorem no_own {N : List Str} {ss : List SV} {σ : L2.St} (n : ∀ (i : Nat) ds, ss[i]? ≠ some (SV.own ds)) {a : Addr} : ¬ Ow σ (ini N ss) a := by
  rintro ⟨k, ds, h, _⟩
  rcases ini_get h with h | h
  · exact n k ds h
  · cases h
theorem rel_start {K : PySem.W.Frag} {b : Bx} {j : Bool} {H : Hp} {N : List Str} {vs : List V} {ds : List PyData} (k : Kn b j H) (h : Dts K b H vs ds) : Rel K b j H H (start N vs) H (ini N (ds.map .par)) := by
  have len : (start N vs).length = (ini N (ds.map SV.par)).length := by
    unfold L2.start ini
    rw [List.length_append, List.length_append, List.length_map, List.length_map, List.length_replicate, List.length_replicate, h.len]
  refine ⟨len, k.kj, k.1, .refl, .refl, fun i s e => ?_, fun i k ds1 ds2 p _ e1 => ?_⟩
  · rcases ini_get e with e | rfl
    · obtain ⟨x, d, h1, rfl, h3⟩ := dts_par h e
      exact ⟨x, start_get h1, h3⟩
    · exact True.intro
  · rcases ini_get e1 with e | e
    · obtain ⟨x, d, _, h2, _⟩ := dts_par h e
      cases h2
    · cases e
theorem rel_startJ {K : PySem.W.Frag} {b : Bx} {H : Hp} {N : List Str} {vs : List V} {ds : List PyData} (k : Kn b true H) (h : Dts K b H vs ds) : Rel K b true H H (start N (.ref b.jar :: vs)) H (ini N (.jar :: ds.map .par)) := by
  have len : (start N (.ref b.jar :: vs)).length = (ini N (.jar :: ds.map SV.par)).length := by
    unfold L2.start ini
    rw [List.length_append, List.length_append, List.length_map, List.length_cons, List.length_cons, List.length_map, List.length_replicate, List.length_replicate, h.len]
  refine ⟨len, k.kj, k.1, .refl, .refl, fun i s e => ?_, fun i k ds1 ds2 p _ e1 => ?_⟩
  · rcases ini_get e with e | rfl
    · cases i with
      | zero =>
        cases e
        exact start_get (N := N) (vs := .ref b.jar :: vs) (i := 0) rfl
      | succ i =>
        obtain ⟨x, d, h1, rfl, h3⟩ := dts_par h (show (ds.map SV.par)[i]? = some s by simpa using e)
        exact ⟨x, start_get (N := N) (vs := .ref b.jar :: vs) (i := i + 1) (by simpa using h1), h3⟩
    · exact True.intro
  · rcases ini_get e1 with e | e
    · cases i with
      | zero => cases e
      | succ i =>
        obtain ⟨x, d, _, h2, _⟩ := dts_par h (show (ds.map SV.par)[i]? = some (SV.own ds1) by simpa using e)
        cases h2
    · cases e
section
variable {P : Program} {w : World} {K : PySem.W.Frag} {mg : Str → Option Value} {base : Heap} {x : Str} {st : Stmt} {f : Addr} {fd : FuncData} {N ps : List Str} {k : Nat}
abbrev cxD (P : Program) (w : World) (K : PySem.W.Frag) (mg : Str → Option Value) (base : Heap) (N : List Str) (x : Str) (st : Stmt) (f : Addr) (cdv : Value) (A : Around) (outer : List Env) (s : Shared) (H : Hp) (E : XK) : Cx := (cxOf CX0 P w K mg base N x (defScope st) f cdv A outer s H E).nox
theorem fnP {F : DF} (Fu : Fun K x x st f fd) (S : FnScope N ps (defScope st)) (mF : MoF F) (len : ∀ ds Q, F ds Q → ds.length = ps.length)
    (body : ∀ (cdv : Value) (A : Around) (outer : List Env) (s : Shared) (H : Hp) (E : XK) (_ : Unit), A.guards = some [] → Room k (A.deeper (envOfC x (defScope st) s.heap.objs.size f cdv)) →
      ∃ t, DSs (cxD P w K mg base N x st f cdv A outer s H E) false (defBody st) t ∧ ∀ ds (Q : PyData → Prop), F ds Q → t { nx := fun _ => Q .none, rt := Q, rn := fun es => Q (.list es) } (ini N (ds.map .par))) : FnG P w K mg base CX0 (k + 1) f fd ps (spP K F) := by
  refine okG Fu S (fun vs H Q E h => ?_) (fun cdv A outer s H vs Q E hA hr h => ?_)
  · obtain ⟨b, ds, _, h2, h3⟩ := h
    rw [h2.len, len _ _ h3]
  · obtain ⟨b, ds, h1, h2, h3⟩ := h
    obtain ⟨t, ht, hq⟩ := body cdv A outer s H E () hA hr
    let QQ : PyData → Prop := fun d => ∀ v H', Same H H' → Dt K b H' v d → Q v H'
    refine ⟨_, ht.ps b, ini N (ds.map .par), H, H, rel_start h1 h2, ht.mo { nx := fun _ => QQ .none, rt := QQ, rn := fun es => QQ (.list es) } _ _ ⟨fun ρ q σ' H' r => q _ _ r.s0.pure .non, fun d q v H' st hv => q v H' st.pure hv, fun es q p xs H' st hp hx hd => q _ _ st.pure (.lst hx (h1.ne hp) hd.un), fun _ z => z.elim, fun _ z => z.elim⟩ (hq ds QQ h3)⟩
theorem fnN {F : DFN} (Fu : Fun K x x st f fd) (S : FnScope N ps (defScope st)) (mF : MoFN F) (len : ∀ ds Q, F ds Q → ds.length = ps.length)
    (body : ∀ (cdv : Value) (A : Around) (outer : List Env) (s : Shared) (H : Hp) (E : XK) (_ : Unit), A.guards = some [] → Room k (A.deeper (envOfC x (defScope st) s.heap.objs.size f cdv)) →
      ∃ t, DSs (cxD P w K mg base N x st f cdv A outer s H E) false (defBody st) t ∧ ∀ ds (Q : List PyData → Prop), F ds Q → t { nx := fun _ => False, rn := Q } (ini N (ds.map .par))) : FnG P w K mg base CX0 (k + 1) f fd ps (spN K F) := by
  refine okG Fu S (fun vs H Q E h => ?_) (fun cdv A outer s H vs Q E hA hr h => ?_)
  · obtain ⟨b, ds, _, h2, h3⟩ := h
    rw [h2.len, len _ _ h3]
  · obtain ⟨b, ds, h1, h2, h3⟩ := h
    obtain ⟨t, ht, hq⟩ := body cdv A outer s H E () hA hr
    let QQ : List PyData → Prop := fun es => ∀ p xs H', Same H H' → H p = none → H' p = some (.lst xs) → Dts K (b.pl (· = p)) H' xs es → Q (.ref p) H'
    refine ⟨_, ht.ps b, ini N (ds.map .par), H, H, rel_start h1 h2, ht.mo { nx := fun _ => False, rn := QQ } _ _ ⟨fun ρ q => q.elim, fun d q => q.elim, fun es q p xs H' st hp hx hd => q p xs H' st.pure hp hx hd, fun _ z => z.elim, fun _ z => z.elim⟩ (hq ds QQ h3)⟩
theorem fnJ {F : DF} (Fu : Fun K x x st f fd) (S : FnScope N ps (defScope st)) (mF : MoF F) (len : ∀ ds Q, F ds Q → ds.length + 1 = ps.length)
    (body : ∀ (cdv : Value) (A : Around) (outer : List Env) (s : Shared) (H : Hp) (E : XK) (_ : Unit), A.guards = some [] → Room k (A.deeper (envOfC x (defScope st) s.heap.objs.size f cdv)) →
      ∃ t, DSs (cxD P w K mg base N x st f cdv A outer s H E) true (defBody st) t ∧ ∀ ds (Q : PyData → Prop), F ds Q → t { nx := fun _ => Q .none, rt := Q } (ini N (.jar :: ds.map .par))) : FnG P w K mg base CX0 (k + 1) f fd ps (spJ K F) := by
  refine okG Fu S (fun vs H Q E h => ?_) (fun cdv A outer s H vs Q E hA hr h => ?_)
  · obtain ⟨b, vs', ds, rfl, _, h2, h3⟩ := h
    rw [List.length_cons, h2.len, len _ _ h3]
  · obtain ⟨b, vs', ds, rfl, h1, h2, h3⟩ := h
    obtain ⟨t, ht, hq⟩ := body cdv A outer s H E () hA hr
    let QQ : PyData → Prop := fun d => ∀ v H', Stp b true H H' → Dt K b H' v d → Q v H'
    refine ⟨_, ht.ps b, ini N (.jar :: ds.map .par), H, H, rel_startJ h1 h2, ht.mo { nx := fun _ => QQ .none, rt := QQ } _ _ ⟨fun ρ q σ' H' r => q _ _ r.s0 .non, fun d q v H' st hv => q v H' st hv, fun es q => q.elim, fun _ z => z.elim, fun _ z => z.elim⟩ (hq ds QQ h3)⟩
end
/-! ### calls by names alone -/
section
variable {X : Cx} {b : Bx} {j : Bool} {e : Expr} {pos p kpos : Pos} {ta : DTE} {tt : DTA} {kws : List Keyword} {nm : Option Str}
structure DKw (X : Cx) (j : Bool) (kws : List Keyword) (t : DTA) : Prop where
  pk : ∀ b : Bx, PK X kws (LA X.K b j t)
  mo : MoA t
theorem pkI {X : Cx} {ks : List Keyword} {t t' : TA} (h : PK X ks t') (i : ∀ σ H Q, t σ H Q → t' σ H Q) : PK X ks t := ⟨fun pos pins s σ H Q I q => h.run pos pins s σ H Q I (i σ H Q q)⟩
theorem dk_nil : DKw X j [] aNil := ⟨fun b => pkI pk_nil fun σ H Q ⟨_, _, _, _, q⟩ => q [] H .refl .nil, fun _ _ _ m q => m _ q⟩
theorem dk_cons (ha : DE X j e ta) (hr : DKw X j kws tt) : DKw X j (⟨nm, e, kpos⟩ :: kws) (aCons ta tt) := by
  refine ⟨fun b => pkI (pk_cons (ha.pe b) (hr.pk b)) ?_, fun ρ Q Q' m q => ha.mo ρ _ _ (fun d h => hr.mo ρ _ _ (fun ds h => m _ h) h) q⟩
  rintro σ H Q ⟨ρ, H0, G, r, q⟩
  refine ⟨ρ, H0, G, r, ha.mo ρ _ _ (fun d q v H1 s1 hv => ?_) q⟩
  refine ⟨ρ, H0, G, r.step s1, hr.mo ρ _ _ (fun ds q vs H2 s2 hvs => ?_) q⟩
  exact q _ _ (s1.trans s2) (.cons (hv.stp (r.step s1).kH s2) hvs)
variable {k : Nat} {f : Addr} {fd : FuncData} {ps ks : List Str} {x : Str} {F : DF} {g : List Value → List Value → List Value} {gV : List V → List V → List V} {gD : List PyData → List PyData}
theorem de_callK (G : FnG X.prog X.w X.K X.mg X.base CX0 k f fd ps (spP X.K F)) (mF : MoF F) (hA : X.A.guards = some []) (hr : Room k X.A) (hg : Gl X x) (hm : X.mg x = some (.ref f)) (hk : PySem.W.keepIn X.K (.ref f) = true) (hb : KBn X.K fd ps 0 ks g gV) (hx : Passes CX0 X (fun _ _ _ => False)) (hkw : DKw X j kws tt)
    (hD : ∀ {K : PySem.W.Frag} {b : Bx} {H : Hp} {vs : List V} {ds : List PyData}, ds.length = ks.length → Dts K b H vs ds → Dts K b H (gV [] vs) (gD ds))
    (hall : (backToKw pos (keywordEach kws X.env)).all (·.1.isSome) = true := by rfl) (hks : (backToKw pos (keywordEach kws X.env)).filterMap (·.1) = ks := by rfl) (hdb : (x == ("__debug__" : Str)) = false := by decide)
    (hpl : ((backTo pos (starEach [] X.env)).any (·.1) || (backToKw pos (keywordEach kws X.env)).any (·.1.isNone)) = false := by rfl) :
    DE X j (.Call (.Name x p) [] kws pos) (fun ρ Q => tt ρ fun ds => ds.length = ks.length ∧ F (gD ds) Q) := by
  refine ⟨fun b => ⟨fun pins s σ H Q I h => ?_⟩, fun ρ Q Q' m q => hkw.mo ρ _ _ (fun ds h => ⟨h.1, mF _ _ _ m h.2⟩) q⟩
  obtain ⟨ρ, H0, G0, r, q⟩ := h
  refine wpAny_Call_Name_kw (ld_glob I hg hm ?_ hdb)
  have q2 : LA X.K b j tt σ H fun zs H2 => zs.length = ks.length ∧ spP X.K F (gV [] zs) H2 Q (fun _ _ _ => False) :=
    ⟨ρ, H0, G0, r, hkw.mo ρ _ _ (fun ds h vs H1 s1 hv => ⟨by rw [hv.len]; exact h.1, b, gD ds, (r.step s1).knH.pure, hD h.1 hv, mF _ _ _ (fun d q v H' s2 hd => q v H' (s1.trans (.same s2)) hd) h.2⟩) q⟩
  refine PySem.W.callWith_KW0 (h₀ := X.base) I.ok.mod.kin hk hall (thn ((hkw.pk b).run pos pins s σ H _ I q2) fun ws s2 ⟨zs, H2, I2, rz, l2, q2⟩ => ⟨I2.kIn, ?_⟩) hpl
  rw [hks]
  have r2 := hb.rel (vs := []) (us := []) .nil rz
  have go := G.go X.A X.stack s2 H2 ⟨[], ks.zip ws⟩ (g [] ws) (gV [] zs) Q _ hA hr I2.env0 (hb.to s2 [] ws I2.kIn rfl (rz.length.symm.trans l2)) r2 q2
  refine wpAny_call (codeAny_mono go fun rr s' hq => ?_)
  match rr, hq with
  | .error e, hq => exact hx pins σ H2 s2 e s' I2 hq
  | .ok (.ret u), hq => exact I2.after hq
end
end DL

namespace DL
open PySem PySem.Spec PyProof.Rows L2 GuL HG
/-! ### more chains -/
def tChain3 (r r' r'' : R2) (ta tb tc td : TE) : TE := fun σ H Q => ta σ H fun x H1 => tb σ H1 fun y H2 => r x y H2 fun z H3 => ∃ k, z = .bl k ∧
  (if k = true then tc σ H3 fun w H4 => r' y w H4 fun z' H5 => ∃ k', z' = .bl k' ∧ (if k' = true then td σ H5 fun u H6 => r'' w u H6 Q else Q (.bl false) H5) else Q (.bl false) H3)
section
variable {X : Cx} {b : Bx} {j : Bool} {e e1 e2 e3 e4 : Expr} {pos : Pos} {ta tb tc td : DTE}
theorem pe_chain3 {op op' op'' : CmpOp} {r r' r'' : R2} {ua ub uc ud : TE} (ho : OpR X (compareOp op) r) (ho' : OpR X (compareOp op') r') (ho'' : OpR X (compareOp op'') r'') (ha : PE X e1 ua) (hb : PE X e2 ub) (hc : PE X e3 uc) (hd : PE X e4 ud)
    (hm : lastMarks [op, op', op''] [e2, e3, e4] = false := by with_unfolding_all rfl) : PE X (.Compare e1 [op, op', op''] [e2, e3, e4] pos) (tChain3 r r' r'' ua ub uc ud) := by
  refine ⟨fun pins s σ H Q I h => ?_⟩
  refine Compare_chain (thn (ha.run pins s σ H _ I h) fun v s1 ⟨x, H1, I1, r1, q1⟩ => chain_link (thn (hb.run pins s1 σ H1 _ I1 q1) fun u s2 ⟨y, H2, I2, r2, q2⟩ =>
    thn (ho pins s2 σ H2 x y v u _ I2 r1 r2 q2) fun d s3 ⟨z, H3, I3, r3, k, e, q3⟩ => ?_)) hm
  subst e
  cases r3
  refine wpAny_truthy_bool ?_
  cases k with
  | false => exact ite_ff ⟨.bl false, H3, I3, rfl, q3⟩
  | true =>
    refine ite_tt (chain_link (thn (hc.run pins s3 σ H3 _ I3 q3) fun w' s4 ⟨z', H4, I4, r4, q4⟩ => thn (ho' pins s4 σ H4 y z' u w' _ I4 r2 r4 q4) fun d' s5 ⟨zz, H5, I5, r5, k2, e2, q5⟩ => ?_))
    subst e2
    cases r5
    refine wpAny_truthy_bool ?_
    cases k2 with
    | false => exact ite_ff ⟨.bl false, H5, I5, rfl, q5⟩
    | true => exact ite_tt (chain_last (thn (hd.run pins s5 σ H5 _ I5 q5) fun w2 s6 ⟨z2, H6, I6, r6, q6⟩ => ho'' pins s6 σ H6 z' z2 w' w2 Q I6 r4 r6 q6))
theorem de_ch {op op' : CmpOp} {f f' : Int → Int → Bool} (ho : OpR X (compareOp op) (rI0 fun i k => .bl (f i k))) (ho' : OpR X (compareOp op') (rI0 fun i k => .bl (f' i k))) (ha : DE X j e1 ta) (hb : DE X j e2 tb) (hc : DE X j e3 tc) (hm : lastMarks [op, op'] [e2, e3] = false := by with_unfolding_all rfl) : DE X j (.Compare e1 [op, op'] [e2, e3] pos) (chI f f' ta tb tc) :=
  ⟨fun b => peI (pe_chain ho ho' (ha.pe b) (hb.pe b) (hc.pe b) hm) (chI_ok ha.mo hb.mo hc.mo), chI_mo ha.mo hb.mo hc.mo⟩
theorem dt_ch {op op' : CmpOp} {f f' : Int → Int → Bool} (ho : OpR X (compareOp op) (rI0 fun i k => .bl (f i k))) (ho' : OpR X (compareOp op') (rI0 fun i k => .bl (f' i k))) (ha : DE X j e1 ta) (hb : DE X j e2 tb) (hc : DE X j e3 tc) (hm : lastMarks [op, op'] [e2, e3] = false := by with_unfolding_all rfl) : DT X j (.Compare e1 [op, op'] [e2, e3] pos) (dB (chI f f' ta tb tc)) := by
  refine ⟨fun b => ptI (pt_chain ho ho' (ha.pe b) (hb.pe b) (hc.pe b) hm) ?_, fun ρ Q Q' m q => chI_mo ha.mo hb.mo hc.mo ρ _ _ (fun d h => bw1_mo m h) q⟩
  rintro σ H Q ⟨ρ, H0, G, r, q⟩
  refine chI_ok ha.mo hb.mo hc.mo σ H _ ⟨ρ, H0, G, r, chI_mo ha.mo hb.mo hc.mo ρ _ _ (fun d q v H' st hv => ?_) q⟩
  cases hv <;> first | exact q.elim | exact ⟨_, rfl, q H' st⟩
def chI3 (f f' f'' : Int → Int → Bool) (ta tb tc td : DTE) : DTE := fun ρ Q => ta ρ fun x => tb ρ fun y => match x, y with
  | .int i, .int k => if f i k = true then tc ρ fun z => match z with | .int l => (if f' k l = true then td ρ fun u => match u with | .int m => Q (.bool (f'' l m)) | _ => False else Q (.bool false)) | _ => False else Q (.bool false)
  | _, _ => False
theorem chI3_mo {f f' f'' : Int → Int → Bool} (ma : MoE ta) (mb : MoE tb) (mc : MoE tc) (md : MoE td) : MoE (chI3 f f' f'' ta tb tc td) := fun ρ Q Q' m q => ma ρ _ _ (fun x h => mb ρ _ _ (fun y h => by
  cases x <;> first | exact h.elim | skip
  cases y <;> first | exact h.elim | skip
  rename_i i _ k
  show if f i k = true then _ else _
  have h' : if f i k = true then (tc ρ fun z => match z with | .int l => (if f' k l = true then td ρ fun u => match u with | .int m => Q (.bool (f'' l m)) | _ => False else Q (.bool false)) | _ => False) else Q (.bool false) := h
  split at h'
  · rename_i c
    rw [if_pos c]
    refine mc ρ _ _ (fun z h => ?_) h'
    cases z <;> first | exact h.elim | skip
    rename_i l
    have h2 : if f' k l = true then (td ρ fun u => match u with | .int m => Q (.bool (f'' l m)) | _ => False) else Q (.bool false) := h
    show if f' k l = true then _ else _
    split at h2
    · rename_i c2
      rw [if_pos c2]
      exact md ρ _ _ (fun z h => by cases z <;> first | exact h.elim | exact m _ h) h2
    · rename_i c2
      rw [if_neg c2]
      exact m _ h2
  · rename_i c
    rw [if_neg c]
    exact m _ h') h) q
theorem de_ch3 {op op' op'' : CmpOp} {f f' f'' : Int → Int → Bool} (ho : OpR X (compareOp op) (rI0 fun i k => .bl (f i k))) (ho' : OpR X (compareOp op') (rI0 fun i k => .bl (f' i k))) (ho'' : OpR X (compareOp op'') (rI0 fun i k => .bl (f'' i k)))
    (ha : DE X j e1 ta) (hb : DE X j e2 tb) (hc : DE X j e3 tc) (hd : DE X j e4 td) (hm : lastMarks [op, op', op''] [e2, e3, e4] = false := by with_unfolding_all rfl) : DE X j (.Compare e1 [op, op', op''] [e2, e3, e4] pos) (chI3 f f' f'' ta tb tc td) := by
  refine ⟨fun b => peI (pe_chain3 ho ho' ho'' (ha.pe b) (hb.pe b) (hc.pe b) (hd.pe b) hm) ?_, chI3_mo ha.mo hb.mo hc.mo hd.mo⟩
  rintro σ H Q ⟨ρ, H0, G, r, q⟩
  refine ⟨ρ, H0, G, r, ha.mo ρ _ _ (fun x q v H1 s1 hv => ?_) q⟩
  refine ⟨ρ, H0, G, r.step s1, hb.mo ρ _ _ (fun y q w H2 s2 hw => ?_) q⟩
  cases hv <;> first | exact q.elim | skip
  cases hw <;> first | exact q.elim | skip
  rename_i i _ k
  have q' : if f i k = true then (tc ρ fun z => match z with | .int l => (if f' k l = true then td ρ fun u => match u with | .int m => ∀ v H', Stp b j H H' → Dt X.K b H' v (.bool (f'' l m)) → Q v H' | _ => False else ∀ v H', Stp b j H H' → Dt X.K b H' v (.bool false) → Q v H') | _ => False) else ∀ v H', Stp b j H H' → Dt X.K b H' v (.bool false) → Q v H' := q
  refine ⟨i, k, rfl, rfl, _, rfl, ?_⟩
  split at q'
  · rename_i c
    rw [if_pos c]
    refine ⟨ρ, H0, G, (r.step s1).step s2, hc.mo ρ _ _ (fun z q w H3 s3 hw => ?_) q'⟩
    cases hw <;> first | exact q.elim | skip
    rename_i l
    have q2 : if f' k l = true then (td ρ fun u => match u with | .int m => ∀ v H', Stp b j H H' → Dt X.K b H' v (.bool (f'' l m)) → Q v H' | _ => False) else ∀ v H', Stp b j H H' → Dt X.K b H' v (.bool false) → Q v H' := q
    refine ⟨k, l, rfl, rfl, _, rfl, ?_⟩
    split at q2
    · rename_i c2
      rw [if_pos c2]
      refine ⟨ρ, H0, G, ((r.step s1).step s2).step s3, hd.mo ρ _ _ (fun z q w H4 s4 hw => ?_) q2⟩
      cases hw <;> first | exact q.elim | skip
      exact ⟨_, _, rfl, rfl, q _ H4 (((s1.trans s2).trans s3).trans s4) (.bl _)⟩
    · rename_i c2
      rw [if_neg c2]
      exact q2 _ H3 ((s1.trans s2).trans s3) (.bl _)
  · rename_i c
    rw [if_neg c]
    exact q' _ H2 (s1.trans s2) (.bl _)
end
end DL

namespace DL
open PySem PySem.Spec PyProof.Rows L2 GuL HG
/-! ### small plain data: k deep, of weight n -/
structure Sm (k n : Nat) (d : PyData) : Prop where
  nl : NoL d
  sh : d.showable = true
  dp : d.depth ≤ k
  lv : d.leavesShort 13 = true
  wt : d.weight ≤ n
  cl : d.canLay0 = true
  hd : d.hasDict = false
structure Sms (k n : Nat) (ds : List PyData) : Prop where
  nl : ∀ d ∈ ds, NoL d
  sh : PyData.showableAll ds = true
  dp : PyData.depthAll ds ≤ k
  lv : PyData.leavesShortAll 13 ds = true
  wt : PyData.weightAll ds ≤ n
  cl : PyData.canLayAll0 ds = true
  hd : PyData.hasDictAll ds = false
theorem Sm.mono {k n k' n' : Nat} {d : PyData} (h : Sm k n d) (hk : k ≤ k') (hn : n ≤ n') : Sm k' n' d := ⟨h.nl, h.sh, Nat.le_trans h.dp hk, h.lv, Nat.le_trans h.wt hn, h.cl, h.hd⟩
theorem Sm.int {i : Int} (h0 : -100 ≤ i) (h1 : i < 5000000000) : Sm 0 41 (.int i) := by
  have o := okd_int h0 h1
  refine ⟨.int i, o.sh, by simp [PyData.depth], o.lv, ?_, rfl, rfl⟩
  have l40 : i.natAbs.log2 < 40 := log_small (show i.natAbs < 2 ^ 40 by omega)
  simp only [PyData.weight]
  split <;> omega
theorem Sm.non : Sm 0 0 .none := ⟨.non, rfl, by simp [PyData.depth], rfl, by simp [PyData.weight], rfl, rfl⟩
theorem Sm.bl (b : Bool) : Sm 0 0 (.bool b) := ⟨.bl b, rfl, by simp [PyData.depth], rfl, by simp [PyData.weight], rfl, rfl⟩
theorem Sm.str {z : Str} (hl : z.length ≤ 20) (h : ∀ c ∈ z.cps.toList, c < 128) : Sm 0 20 (.str z) := by
  refine ⟨.str z, rfl, by simp [PyData.depth], ?_, ?_, ?_, rfl⟩
  · simp only [PyData.leavesShort, List.all_eq_true, decide_eq_true_eq]
    exact fun c hc => Nat.lt_of_lt_of_le (h c hc) (by decide)
  · simp only [PyData.weight]
    exact hl
  · simp only [PyData.canLay0]
    unfold PyData.strOk
    rw [← Array.all_toList, List.all_eq_true]
    intro c hc
    have := h c hc
    simp
    omega
theorem Sms.nil {k : Nat} : Sms k 0 [] := ⟨(fun _ h => nomatch h), rfl, (by simp [PyData.depthAll]), rfl, (by simp [PyData.weightAll]), rfl, rfl⟩
theorem Sms.cons {k n m : Nat} {d : PyData} {ds : List PyData} (h : Sm k n d) (r : Sms k m ds) : Sms k (n + 1 + m) (d :: ds) := by
  have h1 := h.dp
  have h2 := r.dp
  have h3 := h.wt
  have h4 := r.wt
  refine ⟨fun x hx => ?_, ?_, ?_, ?_, ?_, ?_, ?_⟩
  · rcases List.mem_cons.mp hx with rfl | hx
    · exact h.nl
    · exact r.nl x hx
  · simp only [PyData.showableAll, h.sh, r.sh, Bool.and_self]
  · simp only [PyData.depthAll]
    omega
  · simp only [PyData.leavesShortAll, h.lv, r.lv, Bool.and_self]
  · simp only [PyData.weightAll]
    omega
  · simp only [PyData.canLayAll0, h.cl, r.cl, Bool.and_self]
  · simp only [PyData.hasDictAll, h.hd, r.hd, Bool.or_self]
theorem Sms.mono {k n k' n' : Nat} {d : List PyData} (h : Sms k n d) (hk : k ≤ k') (hn : n ≤ n') : Sms k' n' d := ⟨h.nl, h.sh, Nat.le_trans h.dp hk, h.lv, Nat.le_trans h.wt hn, h.cl, h.hd⟩
theorem Sms.all {k n : Nat} : ∀ {ds : List PyData}, (∀ d ∈ ds, Sm k n d) → Sms k (ds.length * (n + 1)) ds
  | [], _ => .mono .nil (Nat.le_refl _) (by simp)
  | d :: ds, h => by
    have r := Sms.all (ds := ds) fun x hx => h x (List.mem_cons_of_mem _ hx)
    refine (Sms.cons (h d List.mem_cons_self) r).mono (Nat.le_refl _) ?_
    rw [List.length_cons, Nat.succ_mul]
    omega
theorem Sm.tup {k n : Nat} {ds : List PyData} (h : Sms k n ds) : Sm (k + 1) n (.tuple ds) := by
  have h1 := h.dp
  have h2 := h.wt
  exact ⟨.tup h.nl, by simp only [PyData.showable, h.sh], by simp only [PyData.depth]; omega, by simp only [PyData.leavesShort, h.lv], by simp only [PyData.weight]; omega, by simp only [PyData.canLay0, h.cl], by simp only [PyData.hasDict, h.hd]⟩
theorem Sm.okd {k n : Nat} {d : PyData} (h : Sm k n d) (hk : k ≤ 40) (hn : n ≤ 2 ^ 20) : Okd d := ⟨h.sh, Nat.le_trans h.dp hk, h.lv, Nat.le_trans h.wt hn⟩
theorem Sm.shaped {k n : Nat} {d : PyData} (h : Sm k n d) (hk : k ≤ 60) : SeqAt.shaped d = true := by
  unfold SeqAt.shaped
  rw [h.cl, decide_eq_true (Nat.le_trans h.dp (by omega))]
  rfl
theorem Sms.shaped {k n : Nat} {ds : List PyData} (h : Sms k n ds) (hk : k ≤ 60) : SeqAt.shaped (.list ds) = true := by
  have h1 := h.dp
  unfold SeqAt.shaped
  rw [show PyData.canLay0 (.list ds) = true from by simp only [PyData.canLay0, h.cl], decide_eq_true (by simp only [PyData.depth]; omega)]
  rfl
theorem Sms.okd {k n : Nat} {ds : List PyData} (h : Sms k n ds) (hk : k ≤ 38) (hn : n ≤ 2 ^ 20) : Okd (.list ds) := by
  have h1 := h.dp
  have h2 := h.wt
  exact ⟨by simp only [PyData.showable, h.sh], by simp only [PyData.depth]; omega, by simp only [PyData.leavesShort, h.lv], by simp only [PyData.weight]; omega⟩
theorem Sms.hdL {k n : Nat} {ds : List PyData} (h : Sms k n ds) : PyData.hasDict (.list ds) = false := by simp only [PyData.hasDict, h.hd]
end DL

namespace LB
open PySem PySem.Spec PyProof.Rows
/-! ### whole numbers beside True and False -/
theorem g_ge (a : Bool) (b : Int) (u : Tok) : Gives (Builtin.«int.__ge__» ⟨[.bool a, .int b u], []⟩) (.val (Value.bool (decide (b ≤ (if a = true then (1 : Int) else 0))))) :=
  .of_wp fun M A E s Q h => by obtain ⟨hp, g, d, tk, os⟩ := s; wp_walk; exact ⟨_, rfl, h⟩
theorem g_le (a : Bool) (b : Int) (u : Tok) : Gives (Builtin.«int.__le__» ⟨[.bool a, .int b u], []⟩) (.val (Value.bool (decide ((if a = true then (1 : Int) else 0) ≤ b)))) :=
  .of_wp fun M A E s Q h => by obtain ⟨hp, g, d, tk, os⟩ := s; wp_walk; exact ⟨_, rfl, h⟩
theorem g_lt (a : Bool) (b : Int) (u : Tok) : Gives (Builtin.«int.__lt__» ⟨[.bool a, .int b u], []⟩) (.val (Value.bool (decide ((if a = true then (1 : Int) else 0) < b)))) :=
  .of_wp fun M A E s Q h => by obtain ⟨hp, g, d, tk, os⟩ := s; wp_walk; exact ⟨_, rfl, h⟩
section
variable {prog : Program} {w : World} {A : Around} {E : Value → Shared → Prop} {s : Shared} {Q : Value → Shared → Prop}
theorem le_ib {a : Int} {t : Tok} {b : Bool} (h : Q (.bool (decide (a ≤ (if b = true then (1 : Int) else 0)))) s) : wpAny (model prog w) A (compareOp .LtE (.int a t) (.bool b)) Q E s := by
  show wpAny (model prog w) A (richCompare .LtE (.int a t) (.bool b)) Q E s
  exact
  SeqAt.rc_sub_first_or (typeIs_int s a t) rfl (by decide) F.sub_bool_int F.slot_bool_ge_refl
    (call_gives F.slot_bool_ge_refl rfl F.entry_int_ge (F.args_int_ge_2 _ _) (g_ge b a t) ⟨nofun, h⟩) (.inl rfl)
theorem le_bi {a : Bool} {b : Int} {u : Tok} (h : Q (.bool (decide ((if a = true then (1 : Int) else 0) ≤ b))) s) : wpAny (model prog w) A (compareOp .LtE (.bool a) (.int b u)) Q E s := by
  show wpAny (model prog w) A (richCompare .LtE (.bool a) (.int b u)) Q E s
  exact
  SeqAt.rc_left_or rfl (typeIs_int s b u) (by decide) F.sub_int_bool F.slot_bool_le
    (call_gives F.slot_bool_le rfl F.entry_int_le (F.args_int_le_2 _ _) (g_le a b u) ⟨nofun, h⟩) (.inl rfl)
theorem lt_bi {a : Bool} {b : Int} {u : Tok} (h : Q (.bool (decide ((if a = true then (1 : Int) else 0) < b))) s) : wpAny (model prog w) A (compareOp .Lt (.bool a) (.int b u)) Q E s := by
  show wpAny (model prog w) A (richCompare .Lt (.bool a) (.int b u)) Q E s
  exact
  SeqAt.rc_left_or rfl (typeIs_int s b u) (by decide) F.sub_int_bool F.slot_bool_lt
    (call_gives F.slot_bool_lt rfl F.entry_int_lt (F.args_int_lt_2 _ _) (g_lt a b u) ⟨nofun, h⟩) (.inl rfl)
end
end LB

namespace TR
open PySem PySem.Spec PyProof.Rows L2
theorem mul1 (l : Addr) (items : Array Value) (n : Nat) (dd : Option Addr) (sl : Array (Option Value)) (x : Int) (u : Tok) (c0 : (decide (x < -(2 ^ 63)) || decide (x ≥ 2 ^ 63)) = false) (c1 : (items.isEmpty || x == 1) = true) :
    Meets (Builtin.«tuple.__mul__» ⟨[.ref l, .int x u], []⟩) (fun _ R s => s.heap.get? l = some { cls := .type "tuple", dict := dd, data := .seq items n, slots := sl } ∧ R (.ok (.ret (.ref l))) s) :=
  .of_wp fun prog w A R s h => by
    obtain ⟨hp, g, d, tk, os⟩ := s
    obtain ⟨hl, h⟩ := h
    have f1 := AutoSeq1.idx_int
    wp_walk using wpAny_loadPart' hl
    repeat (first
      | (refine wpAny_ite_false (decide_eq_false (by rw [c0]; exact Bool.false_ne_true)) ?_; wp_walk using wpAny_loadPart' hl)
      | (refine wpAny_ite_true (decide_eq_true (by rw [c1])) ?_; wp_walk using wpAny_loadPart' hl))
    exact ⟨_, rfl, h⟩
theorem mul0 (l : Addr) (items : Array Value) (n : Nat) (dd : Option Addr) (sl : Array (Option Value)) (x : Int) (u : Tok) (c0 : (decide (x < -(2 ^ 63)) || decide (x ≥ 2 ^ 63)) = false) (c1 : (items.isEmpty || x == 1) = false) (c2 : (decide (x ≤ 0) || items.isEmpty) = true) :
    Meets (Builtin.«tuple.__mul__» ⟨[.ref l, .int x u], []⟩) (fun _ R s => s.heap.get? l = some { cls := .type "tuple", dict := dd, data := .seq items n, slots := sl } ∧
      R (.ok (.ret (Value.ref s.heap.objs.size))) { s with heap := s.heap.push { cls := Value.type "tuple", data := Data.seq #[] }, toks := s.toks }) :=
  .of_wp fun prog w A R s h => by
    obtain ⟨hp, g, d, tk, os⟩ := s
    obtain ⟨hl, h⟩ := h
    have f1 := AutoSeq1.idx_int
    wp_walk using wpAny_loadPart' hl
    repeat (first
      | (refine wpAny_ite_false (decide_eq_false (by rw [c0]; exact Bool.false_ne_true)) ?_; wp_walk using wpAny_loadPart' hl)
      | (refine wpAny_ite_false (decide_eq_false (by rw [c1]; exact Bool.false_ne_true)) ?_; wp_walk using wpAny_loadPart' hl)
      | (refine wpAny_ite_true (decide_eq_true (by rw [c2])) ?_; wp_walk using wpAny_loadPart' hl))
    exact ⟨_, rfl, h⟩
/-- t * k, whatever k -/
def rRepA (K : PySem.W.Frag) : R2 := fun x y H Q => ∃ l k xs, x = .ref l ∧ y = .int k ∧ SqT K H l xs ∧ xs ≠ [] ∧ -1000 ≤ k ∧ k ≤ 1000 ∧ xs.length ≤ 1000 ∧ ∀ p H', (∀ b u, H b = some u → H' b = some u) → SqT K H' p (List.replicate k.toNat xs).flatten → Q (.ref p) H'
section
variable {X : Cx}
theorem op_repA : OpR X (binaryOp .Mult) (rRepA X.K) := by
  intro pins s σ H x y v u Q I rx ry h
  obtain ⟨l, k, xs, rfl, rfl, hT, hne, h1, h2, hz, q⟩ := h
  by_cases k2 : 2 ≤ k
  · exact op_repT pins s σ H _ _ v u Q I rx ry ⟨l, k, xs, rfl, rfl, hT, hne, k2, h2, hz, fun p hp => q p _ (fun b u hb => by rw [upd_ne (ne_of_none hb hp)]; exact hb) (SqT.of upd_same)⟩
  cases rx
  obtain ⟨t, rfl⟩ := ry
  obtain ⟨its, r, ⟨⟨cls, dd, data, sl⟩, ho, hc, n, hd⟩, hs⟩ := I.tuple hT
  simp only at hc hd
  subst hc hd
  have hle : its.length = xs.length := r.length.symm
  have hn : its ≠ [] := fun e => hne (by
    rw [e] at hle
    exact List.eq_nil_of_length_eq_zero hle.symm)
  have hi : its.toArray.isEmpty = false := by
    cases its with
    | nil => exact absurd rfl hn
    | cons a b => rfl
  have c0 : (decide (k < -(2 ^ 63)) || decide (k ≥ 2 ^ 63)) = false := by
    rw [decide_eq_false (by omega), decide_eq_false (by omega)] <;> rfl
  by_cases k1 : k = 1
  · have c1 : (its.toArray.isEmpty || k == 1) = true := by
      rw [hi, Bool.false_or, k1]
      rfl
    refine wpAny_binaryOp_repeat_ref (T := "tuple") (U := "int") (by decide) ⟨_, ho, rfl⟩ (fun s' => typeIs_int s' k t) noFill_tuple_mul F.fills_int_mul F.slot_int_rmul repeat_tuple F.slot_int_index.lookup
      (call_meets F.slot_int_rmul (typeIs_int s k t) F.entry_int_rmul (F.args_int_rmul_2 _ _) (int_rmul_tuple k t l its.toArray n dd sl)
        ⟨ho, rfl, ⟨_, ho, rfl⟩, call_meets F.slot_tuple_mul ⟨_, ho, rfl⟩ F.entry_tuple_mul (F.args_tuple_mul_2 _ _) (mul1 l its.toArray n dd sl k t c0 c1) ⟨ho, ?_⟩⟩)
    refine ⟨.ref l, H, I, rfl, q l H (fun _ _ h => h) ?_⟩
    rw [k1]
    show SqT X.K H l (xs ++ [])
    rw [List.append_nil]
    exact hT
  · have c1 : (its.toArray.isEmpty || k == 1) = false := by
      rw [hi, Bool.false_or]
      exact beq_eq_false_iff_ne.mpr k1
    have c2 : (decide (k ≤ 0) || its.toArray.isEmpty) = true := by
      rw [hi, Bool.or_false]
      exact decide_eq_true (by omega)
    refine wpAny_binaryOp_repeat_ref (T := "tuple") (U := "int") (by decide) ⟨_, ho, rfl⟩ (fun s' => typeIs_int s' k t) noFill_tuple_mul F.fills_int_mul F.slot_int_rmul repeat_tuple F.slot_int_index.lookup
      (call_meets F.slot_int_rmul (typeIs_int s k t) F.entry_int_rmul (F.args_int_rmul_2 _ _) (int_rmul_tuple k t l its.toArray n dd sl)
        ⟨ho, rfl, ⟨_, ho, rfl⟩, call_meets F.slot_tuple_mul ⟨_, ho, rfl⟩ F.entry_tuple_mul (F.args_tuple_mul_2 _ _) (mul0 l its.toArray n dd sl k t c0 c1 c2) ⟨ho, ?_⟩⟩)
    have ek : (List.replicate k.toNat xs).flatten = [] := by
      have e : k.toNat = 0 := by omega
      rw [e]
      rfl
    refine ⟨.ref s.heap.objs.size, _, I.laid (t' := s.toks) (o := .tup []) (fun b ob q => Heap.get?_push_of_some _ q) (Nat.le_refl _) ?_, rfl, q _ _ (fun b u hb => ?_) ?_⟩
    · exact ⟨by decide, [], .nil, IsTup.new _ _⟩
    · rw [upd_ne (ne_of_none hb (I.hok.fresh (Nat.le_refl _)))]
      exact hb
    · rw [ek]
      exact SqT.of upd_same
end
end TR

namespace DL
open PySem PySem.Spec PyProof.Rows L2 GuL HG TR
/-! ### numbers, True and False among them -/
def nmV : V → Option Int | .int i => some i | .bl c => some (if c = true then 1 else 0) | _ => none
def nmD : PyData → Option Int | .int i => some i | .bool c => some (if c = true then 1 else 0) | _ => none
def rN1 (f : Int → Int → V) : R2 := fun x y H Q => ∃ i k, x = .int i ∧ nmV y = some k ∧ Q (f i k) H
def rN2 (f : Int → Int → V) : R2 := fun x y H Q => ∃ i k, nmV x = some i ∧ y = .int k ∧ Q (f i k) H
section
variable {X : Cx}
theorem op_leN1 : OpR X (compareOp .LtE) (rN1 fun i k => .bl (decide (i ≤ k))) := by
  intro pins s σ H x y v u Q I rx ry h
  obtain ⟨i, k, rfl, hy, q⟩ := h
  obtain ⟨t, rfl⟩ := rx
  cases y with
  | int j =>
    cases hy
    obtain ⟨t', rfl⟩ := ry
    exact le_int (fin_bl I q rfl)
  | bl c =>
    cases hy
    obtain rfl : u = Value.bool c := ry
    exact LB.le_ib (fin_bl I q rfl)
  | _ => cases hy
theorem op_leN2 : OpR X (compareOp .LtE) (rN2 fun i k => .bl (decide (i ≤ k))) := by
  intro pins s σ H x y v u Q I rx ry h
  obtain ⟨i, k, hx, rfl, q⟩ := h
  obtain ⟨t, rfl⟩ := ry
  cases x with
  | int j =>
    cases hx
    obtain ⟨t', rfl⟩ := rx
    exact le_int (fin_bl I q rfl)
  | bl c =>
    cases hx
    obtain rfl : v = Value.bool c := rx
    exact LB.le_bi (fin_bl I q rfl)
  | _ => cases hx
theorem op_ltN2 : OpR X (compareOp .Lt) (rN2 fun i k => .bl (decide (i < k))) := by
  intro pins s σ H x y v u Q I rx ry h
  obtain ⟨i, k, hx, rfl, q⟩ := h
  obtain ⟨t, rfl⟩ := ry
  cases x with
  | int j =>
    cases hx
    obtain ⟨t', rfl⟩ := rx
    exact lt_int (fin_bl I q rfl)
  | bl c =>
    cases hx
    obtain rfl : v = Value.bool c := rx
    exact LB.lt_bi (fin_bl I q rfl)
  | _ => cases hx
end
theorem nm_ok {K : PySem.W.Frag} {b : Bx} {H : Hp} {v : V} {d : PyData} (h : Dt K b H v d) {k : Int} (e : nmD d = some k) : nmV v = some k := by
  cases h <;> first | exact e | cases e
def chN (f f' : Int → Int → Bool) (ta tb tc : DTE) : DTE := fun ρ Q => ta ρ fun x => tb ρ fun y => match x, nmD y with
  | .int i, some k => if f i k = true then tc ρ fun z => match z with | .int l => Q (.bool (f' k l)) | _ => False else Q (.bool false)
  | _, _ => False
section
variable {X : Cx} {b : Bx} {j : Bool} {e e1 e2 e3 : Expr} {es : List Expr} {pos p : Pos} {ta tb tc : DTE} {tt : DTA}
theorem de_chN {op op' : CmpOp} {f f' : Int → Int → Bool} (ho : OpR X (compareOp op) (rN1 fun i k => .bl (f i k))) (ho' : OpR X (compareOp op') (rN2 fun i k => .bl (f' i k))) (ha : DE X j e1 ta) (hb : DE X j e2 tb) (hc : DE X j e3 tc) (hm : lastMarks [op, op'] [e2, e3] = false := by with_unfolding_all rfl) : DE X j (.Compare e1 [op, op'] [e2, e3] pos) (chN f f' ta tb tc) := by
  refine ⟨fun b => peI (pe_chain ho ho' (ha.pe b) (hb.pe b) (hc.pe b) hm) ?_, fun ρ Q Q' m q => ha.mo ρ _ _ (fun x h => hb.mo ρ _ _ (fun y h => ?_) h) q⟩
  · rintro σ H Q ⟨ρ, H0, G, r, q⟩
    refine ⟨ρ, H0, G, r, ha.mo ρ _ _ (fun x q v H1 s1 hv => ?_) q⟩
    refine ⟨ρ, H0, G, r.step s1, hb.mo ρ _ _ (fun y q w H2 s2 hw => ?_) q⟩
    cases hv <;> first | exact q.elim | skip
    rename_i i _
    cases ey : nmD y with
    | none => rw [ey] at q; exact q.elim
    | some k =>
      rw [ey] at q
      have q' : if f i k = true then (tc ρ fun z => match z with | .int l => ∀ v H', Stp b j H H' → Dt X.K b H' v (.bool (f' k l)) → Q v H' | _ => False) else ∀ v H', Stp b j H H' → Dt X.K b H' v (.bool false) → Q v H' := q
      refine ⟨i, k, rfl, nm_ok hw ey, _, rfl, ?_⟩
      split at q'
      · rename_i c
        rw [if_pos c]
        refine ⟨ρ, H0, G, (r.step s1).step s2, hc.mo ρ _ _ (fun z q w3 H3 s3 hw3 => ?_) q'⟩
        cases hw3 <;> first | exact q.elim | skip
        exact ⟨_, _, nm_ok hw ey, rfl, q _ H3 ((s1.trans s2).trans s3) (.bl _)⟩
      · rename_i c
        rw [if_neg c]
        exact q' _ H2 (s1.trans s2) (.bl _)
  · cases x <;> first | exact h.elim | skip
    rename_i i _
    cases ey : nmD y with
    | none => rw [ey] at h; exact h.elim
    | some k =>
      rw [ey] at h
      show if f i k = true then _ else _
      have h' : if f i k = true then (tc ρ fun z => match z with | .int l => Q (.bool (f' k l)) | _ => False) else Q (.bool false) := h
      split at h'
      · rename_i c
        rw [if_pos c]
        exact hc.mo ρ _ _ (fun z h => by cases z <;> first | exact h.elim | exact m _ h) h'
      · rename_i c
        rw [if_neg c]
        exact m _ h'
/-! ### displays, calls, rows -/
def dEmp : DTE := fun _ Q => Q (.dict [])
theorem de_emp : DE X j (.Dict [] [] pos) dEmp := by
  refine ⟨fun b => peI pe_dnewK ?_, fun ρ Q Q' m q => m _ q⟩
  rintro σ H Q ⟨ρ, H0, G, r, q⟩ p hp
  exact q _ _ (.new hp) (.emp upd_same)
def nList (t : DTE) : DTA := fun ρ Q => t ρ fun d => match d with | .tuple ds => Q ds | .list ds => Q ds | _ => False
theorem dn_list (hg : Gl X "list") (hm : X.mg "list" = none) (ha : DE X j e ta)
    (he : starEach [e] X.env = (false, eval e X.env) :: starEach [] X.env := by rfl) (hpl : (backTo pos (starEach [] X.env)).any (·.1) = false := by rfl) : DN X j (.Call (.Name "list" p) [e] [] pos) (nList ta) := by
  refine ⟨fun b => peI (pe_callTy call_list_of hg hm (by decide +kernel) (pa_cons (ha.pe b) pa_nil he) (by decide) (by decide) he hpl) ?_, fun ρ Q Q' m q => ha.mo ρ _ _ (fun d h => ?_) q⟩
  · rintro σ H Q ⟨ρ, H0, G, r, q⟩
    refine ⟨ρ, H0, G, r, ha.mo ρ _ _ (fun d q v H1 s1 hv => ?_) q⟩
    have r1 := r.step s1
    cases hv <;> first | exact q.elim | skip
    · rename_i a xs ds g1 g2 g3
      exact ⟨a, xs, rfl, .inl (SqL.of g1), fun l hl => q l xs _ (s1.trans (.new hl)) (s1.free r.kH hl) upd_same (g3.newL r1.kH hl)⟩
    · rename_i a xs ds g1 g3
      exact ⟨a, xs, rfl, .inr g1, fun l hl => q l xs _ (s1.trans (.new hl)) (s1.free r.kH hl) upd_same (g3.newL r1.kH hl)⟩
  · cases d <;> first | exact h.elim | exact m _ h
def cRep : PyData → PyData → Prop | .tuple ds, .int k => ds ≠ [] ∧ -1000 ≤ k ∧ k ≤ 1000 ∧ ds.length ≤ 1000 | _, _ => False
def gRep : PyData → PyData → PyData | .tuple ds, .int k => .tuple (List.replicate k.toNat ds).flatten | _, _ => .none
theorem dts_rep {K : PySem.W.Frag} {b : Bx} {H : Hp} {xs : List V} {ds : List PyData} (h : Dts K b H xs ds) : ∀ n : Nat, Dts K b H (List.replicate n xs).flatten (List.replicate n ds).flatten
  | 0 => .nil
  | n + 1 => by
    rw [List.replicate_succ, List.replicate_succ, List.flatten_cons, List.flatten_cons]
    exact h.app (dts_rep h n)
theorem de_rep (ha : DE X j e1 ta) (hb : DE X j e2 tb) : DE X j (.BinOp e1 .Mult e2 pos) (dOp cRep gRep ta tb) := op2 (fun b => pe_op op_repA (ha.pe b) (hb.pe b)) ha.mo hb.mo fun {_} x y dx dy H Q k hx hy c q => by
  cases hx <;> first | exact c.elim | skip
  cases hy <;> first | exact c.elim | skip
  rename_i a xs ds g1 g2 n
  obtain ⟨c1, c2, c3, c4⟩ := c
  refine ⟨a, n, xs, rfl, rfl, g1, fun e => c1 ?_, c2, c3, by rw [g2.len]; exact c4, fun p H' s g => q _ H' (.same s) (.tup g ((dts_rep g2 _).stp k.kj (.same s)))⟩
  subst e
  cases g2
  rfl
def nCat (ta tb : DTE) : DTA := fun ρ Q => ta ρ fun x => tb ρ fun y => match x, y with | .list ds, .list es => ds.length + es.length ≤ 100000 ∧ Q (ds ++ es) | _, _ => False
theorem dn_catL (ha : DE X j e1 ta) (hb : DE X j e2 tb) : DN X j (.BinOp e1 .Add e2 pos) (nCat ta tb) := by
  refine ⟨fun b => peI (pe_op op_cat (ha.pe b) (hb.pe b)) ?_, fun ρ Q Q' m q => ha.mo ρ _ _ (fun x h => hb.mo ρ _ _ (fun y h => ?_) h) q⟩
  · rintro σ H Q ⟨ρ, H0, G, r, q⟩
    refine ⟨ρ, H0, G, r, ha.mo ρ _ _ (fun x q v H1 s1 hv => ?_) q⟩
    refine ⟨ρ, H0, G, r.step s1, hb.mo ρ _ _ (fun y q w H2 s2 hw => ?_) q⟩
    cases hv <;> first | exact q.elim | skip
    cases hw <;> first | exact q.elim | skip
    rename_i a xs ds g1 g2 g3 _ c ys es y1 y2 y3
    have r2 := (r.step s1).step s2
    have k1 := (r.step s1).kH
    refine ⟨a, c, xs, ys, rfl, rfl, s2.1 _ _ (fun _ => nj g2) g1, y1, by rw [g3.len, y3.len]; exact sz5 q.1, fun p hp => ?_⟩
    exact q.2 p _ _ ((s1.trans s2).trans (.new hp)) ((s1.trans s2).free r.kH hp) upd_same (((g3.stp k1 s2).app y3).newL r2.kH hp)
  · cases x <;> first | exact h.elim | skip
    cases y <;> first | exact h.elim | exact ⟨h.1, m _ h.2⟩
def nSl (te : DTE) (tl th : List SV → (Option Int → Prop) → Prop) : DTA := fun ρ Q => te ρ fun d => tl ρ fun l => th ρ fun h => match d with | .list ds => Q (cutD ds l h) | _ => False
theorem dn_slL {lo hi : Option Expr} {p2 : Pos} {tl th : List SV → (Option Int → Prop) → Prop} (ha : DE X j e ta) (hl : DO X j lo tl) (hh : DO X j hi th) : DN X j (.Subscript e (.Slice lo hi none p2) pos) (nSl ta tl th) := by
  refine ⟨fun b => peI (pe_slice sl_list (ha.pe b) (hl.po b) (hh.po b)) ?_, fun ρ Q Q' m q => ha.mo ρ _ _ (fun d h => hl.mo ρ _ _ (fun l h => hh.mo ρ _ _ (fun u h => ?_) h) h) q⟩
  · rintro σ H Q ⟨ρ, H0, G, r, q⟩
    refine ⟨ρ, H0, G, r, ha.mo ρ _ _ (fun d q v H1 s1 hv => ?_) q⟩
    have r1 := r.step s1
    refine ⟨ρ, H0, G, r1, hl.mo ρ _ _ (fun l q H2 s2 => ?_) q⟩
    have r2 := r1.step s2
    refine ⟨ρ, H0, G, r2, hh.mo ρ _ _ (fun u q H3 s3 => ?_) q⟩
    have r3 := r2.step s3
    cases hv with
    | @lst a xs ds g1 g2 g3 =>
      have st := (s1.trans s2).trans s3
      have h3 : H3 a = some (.lst xs) := s3.1 _ _ (fun _ => nj g2) (s2.1 _ _ (fun _ => nj g2) g1)
      refine ⟨a, xs, rfl, SqL.of h3, fun p hp => ?_⟩
      exact q p _ _ (st.trans (.new hp)) (st.free r.kH hp) upd_same ((cutV_dts ((g3.stp r1.kH s2).stp r2.kH s3)).newL r3.kH hp)
    | _ => exact q.elim
  · cases d <;> first | exact h.elim | exact m _ h
def dNeg (t : DTE) : DTE := fun ρ Q => t ρ fun d => match d with | .int i => Q (.int (-i)) | _ => False
theorem de_neg (ha : DE X j e ta) : DE X j (.UnaryOp .USub e pos) (dNeg ta) := by
  refine ⟨fun b => peI (pe_un un_neg (ha.pe b)) ?_, fun ρ Q Q' m q => ha.mo _ _ _ (fun d h => by cases d <;> first | exact h.elim | exact m _ h) q⟩
  rintro σ H Q ⟨ρ, H0, G, r, q⟩
  refine ⟨ρ, H0, G, r, ha.mo _ _ _ (fun d q v H1 s1 hv => ?_) q⟩
  cases hv <;> first | exact q.elim | exact ⟨_, rfl, q _ H1 s1 (.int _)⟩
theorem de_fdivW (ha : DE X j e1 ta) (hb : DE X j e2 tb) : DE X j (.BinOp e1 .FloorDiv e2 pos) (dOp (cII CDivW) (gII fun i k => .int (i / k)) ta tb) := op2 (fun b => pe_op op_fdivW (ha.pe b) (hb.pe b)) ha.mo hb.mo (snd_I fun _ _ _ => .int _)
end
end DL

namespace DL
open PySem PySem.Spec PyProof.Rows L2 GuL HG
/-! ### texts -/
def sgn (c : Nat) : PyData := .str ⟨#[c]⟩
def strI (t : DTE) : DTI := fun ρ Q => t ρ fun d => match d with | .str z => Q (z.cps.toList.map sgn) | _ => False
def cIxS : PyData → PyData → Prop | .str z, .int i => z.length ≤ 100000 ∧ 0 ≤ i ∧ i < z.length | _, _ => False
def gIxS : PyData → PyData → PyData | .str z, .int i => sgn ((z.cps.toList[i.toNat]?).getD 0) | _, _ => .none
def cInC : PyData → PyData → Prop | .str x, .str _ => x.cps.size = 1 | _, _ => False
def gInC : PyData → PyData → PyData | .str x, .str z => .bool (decide ((x.cps.toList[0]?).getD 0 ∈ z.cps.toList)) | _, _ => .none
def cAddS : PyData → PyData → Prop | .str x, .str y => x.length + y.length ≤ 100000 | _, _ => False
def gAddS : PyData → PyData → PyData | .str x, .str y => .str (x ++ y) | _, _ => .none
section
variable {X : Cx} {b : Bx} {j : Bool} {tg e e1 e2 : Expr} {pos : Pos} {ta tb : DTE}
theorem ito_str {K : PySem.W.Frag} {B : Hp} {z : Str} : Ito K b j (Its z) B (z.cps.toList.map sgn) := by
  refine ⟨fun i H v H' => H' = H ∧ ∃ c, z.cps[i]? = some c ∧ v = .str ⟨#[c]⟩, ?_, fun O w i H x H' d hi s y hd => ?_⟩
  · have e : (z.cps.toList.map sgn).length = z.cps.size := by rw [List.length_map, Array.length_toList]
    rw [e]
    exact (walk_str (z := z)).mono (fun _ _ => True.intro) fun _ _ _ _ _ _ y => y
  · obtain ⟨rfl, c, hc, rfl⟩ := y
    rw [List.getElem?_map, Array.getElem?_toList, hc] at hd
    cases hd
    exact ⟨Same.refl _, .str _⟩
theorem di_str {f : Bool} (h : DE X j e ta) : DI X j f tg e (strI ta) := by
  refine ⟨fun b => piI (pi_str (h.pe b)) ?_, fun ρ Q Q' m q => h.mo _ _ _ (fun d h => ?_) q⟩
  · rintro σ H Q ⟨ρ, H0, G, r, q⟩
    refine ⟨ρ, H0, G, r, h.mo _ _ _ (fun d q v H1 s1 hv => ?_) q⟩
    cases hv <;> first | exact q.elim | skip
    exact ⟨_, rfl, q _ H1 s1 ito_str⟩
  · cases d <;> first | exact h.elim | exact m _ h
theorem de_ixS (ha : DE X j e1 ta) (hb : DE X j e2 tb) (hs : PlainIx e2 := by intro _ _; rfl) : DE X j (.Subscript e1 e2 pos) (dOp cIxS gIxS ta tb) := op2 (fun b => pe_ix ix_str (ha.pe b) (hb.pe b) hs) ha.mo hb.mo fun {_} x y dx dy H Q k hx hy c q => by
  cases hx <;> first | exact c.elim | skip
  cases hy <;> first | exact c.elim | skip
  rename_i z i
  obtain ⟨c0, c1, c2⟩ := c
  obtain ⟨m, rfl⟩ := Int.eq_ofNat_of_zero_le c1
  have hm : m < z.cps.toList.length := by
    have : z.length = z.cps.toList.length := by rw [Array.length_toList]; rfl
    omega
  refine ⟨z, m, z.cps.toList[m], rfl, rfl, sz5 c0, atI_nat (List.getElem?_eq_getElem hm), q _ H .refl ?_⟩
  show Dt _ _ H _ (sgn ((z.cps.toList[m]?).getD 0))
  rw [List.getElem?_eq_getElem hm]
  exact .str _
theorem snd_inC : ∀ {b : Bx}, Snd X.K b j (fun x y H Q => ∃ (c : Nat) (z : Str), x = .str ⟨#[c]⟩ ∧ y = .str z ∧ Q (.bl (decide (c ∈ z.cps.toList))) H) cInC gInC := fun {_} x y dx dy H Q k hx hy c q => by
  cases hx <;> first | exact c.elim | skip
  cases hy <;> first | exact c.elim | skip
  rename_i x z
  obtain ⟨cps⟩ := x
  have h1 : cps.size = 1 := c
  obtain ⟨l⟩ := cps
  match l, h1 with
  | [c], _ => exact ⟨c, z, rfl, rfl, q _ H .refl (.bl _)⟩
theorem de_inC (ha : DE X j e1 ta) (hb : DE X j e2 tb) (hm : behindInMarks .In e2 = false := by rfl) : DE X j (.Compare e1 [.In] [e2] pos) (dOp cInC gInC ta tb) := op2 (fun b => pe_cmpR op_in_sign (ha.pe b) (hb.pe b) hm) ha.mo hb.mo snd_inC
theorem dt_inC (ha : DE X j e1 ta) (hb : DE X j e2 tb) (hm : behindInMarks .In e2 = false := by rfl) : DT X j (.Compare e1 [.In] [e2] pos) (dB (dOp cInC gInC ta tb)) := op2T (fun b => pt_cmpR op_in_sign (ha.pe b) (hb.pe b) hm) ha.mo hb.mo snd_inC
theorem de_addS (ha : DE X j e1 ta) (hb : DE X j e2 tb) : DE X j (.BinOp e1 .Add e2 pos) (dOp cAddS gAddS ta tb) := op2 (fun b => pe_op op_add_str (ha.pe b) (hb.pe b)) ha.mo hb.mo fun {_} x y dx dy H Q k hx hy c q => by
  cases hx <;> first | exact c.elim | skip
  cases hy <;> first | exact c.elim | skip
  exact ⟨_, _, rfl, rfl, sz5 c, q _ H .refl (.str _)⟩
/-- a text that is none of a row of texts -/
def gNotInS : PyData → PyData → PyData | .str z, .tuple ds => .bool (!ds.any (isS z)) | _, _ => .none
theorem snd_notInS : ∀ {b : Bx}, Snd X.K b j (rIn X.K true) cInS gNotInS := fun {_} x y dx dy H Q k hx hy c q => by
  cases hx <;> first | exact c.elim | skip
  cases hy <;> first | exact c.elim | skip
  rename_i z a xs ds h r
  obtain ⟨zs, rfl⟩ := c
  have e := dts_strs r
  subst e
  refine ⟨a, _, rfl, .inr h, rfl, ?_, ?_⟩
  · rw [List.all_map]
    exact List.all_eq_true.mpr fun _ _ => rfl
  · refine q _ H .refl ?_
    have e : (if true = true then !inV (V.str z) (zs.map V.str) else inV (V.str z) (zs.map V.str)) = !(zs.map PyData.str).any (isS z) := by
      rw [if_pos rfl]
      unfold inV
      rw [List.any_map, List.any_map]
      rfl
    rw [e]
    exact .bl _
theorem dt_notInS (ha : DE X j e1 ta) (hb : DE X j e2 tb) (hm : behindInMarks .NotIn e2 = false := by rfl) : DT X j (.Compare e1 [.NotIn] [e2] pos) (dB (dOp cInS gNotInS ta tb)) := op2T (fun b => pt_cmpR op_notIn_seq (ha.pe b) (hb.pe b) hm) ha.mo hb.mo snd_notInS
/-! ### calls without arguments -/
def dCall0 (F : DF) : DTE := fun _ Q => F [] Q
variable {k : Nat} {f : Addr} {fd : FuncData} {ps : List Str} {x : Str} {F : DF} {p : Pos}
theorem de_call0 (G : FnG X.prog X.w X.K X.mg X.base CX0 k f fd ps (spP X.K F)) (mF : MoF F) (hA : X.A.guards = some []) (hr : Room k X.A) (hg : Gl X x) (hm : X.mg x = some (.ref f)) (hk : PySem.W.keepIn X.K (.ref f) = true) (hb : Binds X.K fd ps []) (hx : Passes CX0 X (fun _ _ _ => False))
    (hdb : (x == ("__debug__" : Str)) = false := by decide) : DE X j (.Call (.Name x p) [] [] pos) (dCall0 F) := by
  refine ⟨fun b => ⟨fun pins s σ H Q I h => ?_⟩, fun ρ Q Q' m q => mF _ _ _ m q⟩
  obtain ⟨ρ, H0, G0, r, q⟩ := h
  refine wpAny_Call_Name_kw (ld_glob I hg hm ?_ hdb)
  refine PySem.W.callWith_K0 I.kIn hk (runG (us := []) G hA hr hb .nil hx I .nil ?_)
  show spP X.K F ([] ++ []) H Q _
  exact ⟨b, [], r.knH.pure, .nil, mF _ _ _ (fun d q v H' s2 hd => q v H' (.same s2) hd) q⟩
end
end DL

namespace DL
open PySem PySem.Spec PyProof.Rows L2 GuL HG LZ RZ
section
variable {X : Cx} {b : Bx} {j : Bool} {tg iter e e1 e2 : Expr} {pos p0 p : Pos} {ta tb : DTE} {tt : DTA}
/-! ### zip of tuples of any lengths -/
theorem zp2_min : ∀ {ds es : List PyData}, (zp2 ds es).length = min ds.length es.length
  | [], es => by simp [zp2]
  | _ :: _, [] => by simp [zp2]
  | d :: ds, e :: es => by
    show (zp2 ds es).length + 1 = _
    rw [zp2_min, List.length_cons, List.length_cons]
    omega
theorem ito_z2u {K : PySem.W.Frag} {B : Hp} {a c : Addr} {xs ys : List V} {ds es : List PyData} (k : Kj b j B) (ha : SqT K B a xs) (hc : SqT K B c ys) (hd : Dts K b B xs ds) (he : Dts K b B ys es) : Ito K b j (ItzT K a c) B (zp2 ds es) := by
  have l1 : (zp2 ds es).length = min xs.length ys.length := by rw [zp2_min, hd.len, he.len]
  refine ⟨fun i H v H' => ∃ T p q, v = .ref T ∧ H T = none ∧ H' = upd H T (.tup [p, q]) ∧ xs[i]? = some p ∧ ys[i]? = some q, ?_, ?_⟩
  · rw [l1]
    refine ⟨fun i H hi s => ⟨xs, ys, xs[i]'(by omega), ys[i]'(by omega), sqT_stp k s ha, sqT_stp k s hc, List.getElem?_eq_getElem _, List.getElem?_eq_getElem _⟩, fun H s => ⟨xs, ys, sqT_stp k s ha, sqT_stp k s hc, ?_⟩, fun i H x H' hi s y => ?_⟩
    · by_cases z : xs.length ≤ ys.length
      · exact .inl (by omega)
      · exact .inr (by omega)
    · obtain ⟨T, p, q, e1, e2, e3, e4, e5⟩ := y
      exact ⟨T, p, q, e1, e2, e3, e4 xs (sqT_stp k s ha), e5 ys (sqT_stp k s hc)⟩
  · rintro O w i H x H' d hi s ⟨T, p, q, rfl, hT, rfl, hp, hq⟩ e
    obtain ⟨d2, e2, h2⟩ := hd.at hp
    obtain ⟨d3, e3, h3⟩ := he.at hq
    rw [zp2_get e2 e3] at e
    cases e
    exact ⟨same_new hT, .tup (SqT.of upd_same) (.cons (((frO w h2).stpO k s).stpX (k.step s) (.new hT) Bx.pj) (.cons (((frO w h3).stpO k s).stpX (k.step s) (.new hT) Bx.pj) .nil))⟩
def z2IU (t : DTA) : DTI := fun ρ Q => t ρ fun ds => match ds with | [.tuple ds, .tuple es] => Q (zp2 ds es) | _ => False
theorem dim_z2u (hg : Gl X "zip") (hm : X.mg "zip" = none) (h : DA X j [e1, e2] tt) {ts : List Expr} {kk : Nat} {tp : Pos} (hs : starEach [e1, e2] X.env = (false, eval e1 X.env) :: starEach [e2] X.env := by rfl) (hpl : (backTo pos (starEach [e2] X.env)).any (·.1) = false := by rfl) : DIM X j (.Tuple ts kk tp) (.Call (.Name "zip" p0) [e1, e2] [] pos) (z2IU tt) := by
  refine ⟨⟨fun pins s σ H R I hh => ?_⟩, fun ρ Q Q' m q => h.mo _ _ _ (fun d h => ?_) q⟩
  · obtain ⟨b, ρ, H0, G, r, q⟩ := hh
    refine (pi_zipA hg hm (h.pa (b.pl (Ow σ ρ))) hs hpl).run pins s σ H R I ⟨mask ρ, H, H, r.mask, h.mo _ _ _ (fun ds q vs H1 s1 hv => ?_) q⟩
    split at q
    · cases hv with
      | cons h1 h2 =>
        cases h1 with
        | tup g1 g2 =>
          cases h2 with
          | cons h3 h4 =>
            cases h3 with
            | tup g3 g4 =>
              cases h4
              have s1' : Stp b j H H1 := s1.to rfl
              have r1 := r.step s1'
              exact ⟨_, _, _, _, rfl, .inr ⟨g1, g3, q _ H1 s1' (ito_z2u (base_kn r1 true) (base_T r1 true g1) (base_T r1 true g3) (base_dtsM r1 g2) (base_dtsM r1 g4))⟩⟩
    · exact q.elim
  · split at h
    · exact m _ h
    · exact h.elim
/-! ### x is True -/
theorem op_isT : OpR X (compareOp .Is) (fun x y H Q => ∃ c, x = .bl c ∧ y = .bl true ∧ Q (.bl c) H) := by
  intro pins s σ H x y v u Q I rx ry h
  obtain ⟨c, rfl, rfl, q⟩ := h
  cases rx
  cases ry
  exact wpAny_is_plain rfl (fin_bl I q (by cases c <;> rfl))
def cIsT : PyData → PyData → Prop | .bool _, .bool true => True | _, _ => False
def gIsT : PyData → PyData → PyData | .bool c, _ => .bool c | _, _ => .none
theorem de_isT {jj : Nat} {p2 : Pos} (ha : DE X j e1 ta) : DE X j (.Compare e1 [.Is] [.Constant (.bool true) jj p2] pos) (dOp cIsT gIsT ta (dC (.bool true))) :=
  op2 (fun b => pe_cmpR op_isT (ha.pe b) ((de_bl (i := true)).pe b) (nomark _)) ha.mo (fun _ _ _ m q => m _ q) fun x y dx dy H Q k hx hy c q => by
    cases hx <;> first | exact c.elim | skip
    cases hy <;> first | exact c.elim | skip
    rename_i c1 c2
    cases c2 with
    | true => exact ⟨c1, rfl, rfl, q _ _ .refl (.bl _)⟩
    | false => exact c.elim
/-! ### the last of a list -/
theorem atI_last {α : Type} {xs : List α} {v : α} (h : xs[xs.length - 1]? = some v) : atI xs (-1) = some v := by
  have hj := (List.getElem?_eq_some_iff.mp h).1
  have e : ixN xs.length (-1) = some (xs.length - 1) := by
    unfold ixN
    rw [if_neg (by omega), if_pos (by omega)]
    congr 1
    omega
  unfold atI
  rw [e]
  exact h
def cLast : PyData → PyData → Prop | .list ds, .int i => ds ≠ [] ∧ i = -1 | _, _ => False
def gLast : PyData → PyData → PyData | .list ds, _ => (ds[ds.length - 1]?).getD .none | _, _ => .none
theorem de_last (ha : DE X j e1 ta) (hb : DE X j e2 tb) (hs : PlainIx e2 := by intro _ _; rfl) : DE X j (.Subscript e1 e2 pos) (dOp cLast gLast ta tb) := op2 (fun b => pe_ix ix_list (ha.pe b) (hb.pe b) hs) ha.mo hb.mo fun {_} x y dx dy H Q k hx hy c q => by
  cases hx <;> first | exact c.elim | skip
  cases hy <;> first | exact c.elim | skip
  rename_i a xs ds h n r i
  obtain ⟨c1, rfl⟩ := c
  have hl : ds.length ≠ 0 := fun z => c1 (List.length_eq_zero_iff.mp z)
  obtain ⟨v, e1, e2⟩ := r.get (List.getElem?_eq_getElem (show ds.length - 1 < ds.length by omega))
  refine ⟨a, xs, -1, v, rfl, rfl, SqL.of h, atI_last (by rw [r.len]; exact e1), q v H .refl ?_⟩
  show Dt X.K _ H v ((ds[ds.length - 1]?).getD .none)
  rw [List.getElem?_eq_getElem (show ds.length - 1 < ds.length by omega)]
  exact e2
/-! ### the greatest of a list of numbers -/
def dMaxL (t : DTE) : DTE := fun ρ Q => t ρ fun d => ∃ ns : List Int, d = .list (ns.map .int) ∧ 0 < ns.length ∧ ∀ m ∈ ns, (∀ y ∈ ns, y ≤ m) → Q (.int m)
theorem de_maxL (hc : X.calm = true) (hg : Gl X "max") (hm : X.mg "max" = none) (ha : DE X j e ta)
    (he : starEach [e] X.env = (false, eval e X.env) :: starEach [] X.env := by rfl) (hpl : (backTo pos (starEach [] X.env)).any (·.1) = false := by rfl) : DE X j (.Call (.Name "max" p) [e] [] pos) (dMaxL ta) := by
  refine ⟨fun b => peI (pe_callB (cr_max hc) hg hm (by decide +kernel) (pa_cons (ha.pe b) pa_nil he) (by decide) (by decide) he hpl) ?_, fun ρ Q Q' m q => ha.mo ρ _ _ (fun d ⟨bs, e, l, h⟩ => ⟨bs, e, l, fun x h1 h2 => m _ (h x h1 h2)⟩) q⟩
  rintro σ H Q ⟨ρ, H0, G, r, q⟩
  refine ⟨ρ, H0, G, r, ha.mo ρ _ _ (fun d q v H1 s1 hv => ?_) q⟩
  obtain ⟨ns, rfl, l, q⟩ := q
  cases hv with
  | lst h1 h2 h3 =>
    have e := dts_ints h3
    subst e
    exact ⟨_, ns, rfl, SqL.of h1, l, fun m m1 m2 => q m m1 m2 _ H1 s1 (.int _)⟩
end
end DL

namespace LQ
/-! ### greatest blocks, one behind the other -/
def okF (w low high f : Nat) : Bool := decide (f < w) && (decide (low % 2 ^ (f + 1) = 0) && decide (low + 2 ^ (f + 1) ≤ high + 1))
def frG (w low high : Nat) : Nat → Nat → Nat
  | 0, f => f
  | n + 1, f => if okF w low high f = true then frG w low high n (f + 1) else f
def fr (w low high : Nat) : Nat := frG w low high w 0
def blk (w high : Nat) : Nat → Nat → List (Nat × Nat)
  | 0, _ => []
  | n + 1, low => if low ≤ high then (low, fr w low high) :: blk w high n (low + 2 ^ fr w low high) else []
def blks (w low high : Nat) : List (Nat × Nat) := blk w high (high + 1 - low) low
/-- a block of this size may begin here -/
structure Fit (w low high f : Nat) : Prop where
  w : f ≤ w
  d : 2 ^ f ∣ low
  h : low + 2 ^ f ≤ high + 1
theorem Fit.zero {w low high : Nat} (h : low ≤ high) : Fit w low high 0 := ⟨Nat.zero_le _, by simp, by simpa using h⟩
theorem okF_iff {w low high f : Nat} : okF w low high f = true ↔ Fit w low high (f + 1) := by
  unfold okF
  simp only [Bool.and_eq_true, decide_eq_true_eq]
  exact ⟨fun ⟨a, b, c⟩ => ⟨a, Nat.dvd_of_mod_eq_zero b, c⟩, fun ⟨a, b, c⟩ => ⟨a, Nat.mod_eq_zero_of_dvd b, c⟩⟩
theorem Fit.le {w low high f g : Nat} (h : Fit w low high f) (l : g ≤ f) : Fit w low high g :=
  ⟨Nat.le_trans l h.w, Nat.dvd_trans (Nat.pow_dvd_pow 2 l) h.d, Nat.le_trans (Nat.add_le_add_left (Nat.pow_le_pow_right (by decide) l) _) h.h⟩
theorem frG_spec {w low high : Nat} : ∀ {n f : Nat}, f + n = w → Fit w low high f → Fit w low high (frG w low high n f) ∧ ∀ g, Fit w low high g → g ≤ frG w low high n f
  | 0, f, e, h => ⟨h, fun g hg => by show g ≤ f; have := hg.w; omega⟩
  | n + 1, f, e, h => by
    unfold frG
    by_cases c : okF w low high f = true
    · rw [if_pos c]
      exact frG_spec (by omega) (okF_iff.mp c)
    · rw [if_neg c]
      refine ⟨h, fun g hg => ?_⟩
      by_cases l : g ≤ f
      · exact l
      · exact absurd (okF_iff.mpr (hg.le (by omega))) c
theorem fr_fit {w low high : Nat} (h : low ≤ high) : Fit w low high (fr w low high) := (frG_spec (by omega) (.zero h)).1
theorem fr_max {w low high g : Nat} (h : low ≤ high) (hg : Fit w low high g) : g ≤ fr w low high := (frG_spec (by omega) (.zero h)).2 g hg
theorem fr_eq {w low high g : Nat} (h : low ≤ high) (hg : Fit w low high g) (hm : ¬ Fit w low high (g + 1)) : fr w low high = g := by
  have h1 := fr_max h hg
  by_cases l : fr w low high ≤ g
  · omega
  · exact absurd ((fr_fit h).le (show g + 1 ≤ _ by omega)) hm
theorem pos2 (f : Nat) : 0 < 2 ^ f := Nat.two_pow_pos f
theorem blk_fuel {w high : Nat} : ∀ {n m low : Nat}, high + 1 - low ≤ n → high + 1 - low ≤ m → blk w high n low = blk w high m low
  | 0, 0, low, _, _ => rfl
  | 0, m + 1, low, a, b => by
    unfold blk
    rw [if_neg (by omega)]
  | n + 1, 0, low, a, b => by
    unfold blk
    rw [if_neg (by omega)]
  | n + 1, m + 1, low, a, b => by
    unfold blk
    by_cases c : low ≤ high
    · rw [if_pos c, if_pos c]
      have p := pos2 (fr w low high)
      rw [blk_fuel (n := n) (m := m) (by omega) (by omega)]
    · rw [if_neg c, if_neg c]
theorem blks_nil {w low high : Nat} (h : high < low) : blks w low high = [] := by
  unfold blks
  rw [show high + 1 - low = 0 by omega]
  rfl
theorem blks_cons {w low high : Nat} (h : low ≤ high) : blks w low high = (low, fr w low high) :: blks w (low + 2 ^ fr w low high) high := by
  have p := pos2 (fr w low high)
  unfold blks
  rw [show high + 1 - low = (high - low) + 1 by omega]
  show (if low ≤ high then (low, fr w low high) :: blk w high (high - low) (low + 2 ^ fr w low high) else []) = _
  rw [if_pos h]
  rw [blk_fuel (n := high - low) (m := high + 1 - (low + 2 ^ fr w low high)) (by omega) (by omega)]
/-! ### how many there are -/
theorem blks_one {w low high : Nat} (h : low ≤ high) (e : low + 2 ^ fr w low high = high + 1) : (blks w low high).length = 1 := by
  rw [blks_cons h, e, blks_nil (by omega)]
  rfl
theorem fit_pow {w low high f : Nat} (hh : high < 2 ^ w) (d : 2 ^ f ∣ low) (h : low + 2 ^ f ≤ high + 1) : Fit w low high f := by
  refine ⟨?_, d, h⟩
  have : 2 ^ f ≤ 2 ^ w := by omega
  exact (Nat.pow_le_pow_iff_right (by decide)).mp this
/-- a range parted where no block goes across -/
theorem blks_part {w high mid : Nat} (hm : mid ≤ high) : ∀ {n low : Nat}, mid - low ≤ n → low < mid → (∀ here, low ≤ here → here < mid → here + 2 ^ fr w here high ≤ mid) → blks w low high = blks w low (mid - 1) ++ blks w mid high
  | 0, low, hn, hl, _ => by omega
  | n + 1, low, hn, hl, h => by
    have p := pos2 (fr w low high)
    have c := h low (Nat.le_refl _) hl
    have f1 := fr_fit (w := w) (show low ≤ high by omega)
    have e : fr w low (mid - 1) = fr w low high := by
      refine fr_eq (by omega) ⟨f1.w, f1.d, by omega⟩ fun z => ?_
      have := fr_max (w := w) (show low ≤ high by omega) ⟨z.w, z.d, by have := z.h; omega⟩
      omega
    rw [blks_cons (show low ≤ high by omega), blks_cons (show low ≤ mid - 1 by omega), e]
    by_cases q : low + 2 ^ fr w low high = mid
    · rw [q, blks_nil (show mid - 1 < mid by omega)]
      rfl
    · rw [blks_part hm (n := n) (low := low + 2 ^ fr w low high) (by omega) (by omega) fun here a b => h here (by omega) b]
      rfl
/-- from a begin of a block of 2 ** k on -/
theorem len_from {w : Nat} : ∀ {k low high : Nat}, high < 2 ^ w → 2 ^ k ∣ low → low ≤ high → high + 1 - low ≤ 2 ^ k → (blks w low high).length ≤ max 1 k
  | 0, low, high, hh, d, hl, hn => by
    have e : fr w low high = 0 := by
      refine fr_eq hl (.zero hl) fun z => ?_
      have := z.h
      simp at this hn
      omega
    rw [blks_one hl (by rw [e]; simp at hn ⊢; omega)]
    omega
  | k + 1, low, high, hh, d, hl, hn => by
    have dk : 2 ^ k ∣ low := Nat.dvd_trans (Nat.pow_dvd_pow 2 (by omega)) d
    have e2 : 2 ^ (k + 1) = 2 * 2 ^ k := by rw [Nat.pow_succ]; omega
    by_cases c : high + 1 - low < 2 ^ k
    · have := len_from hh dk hl (Nat.le_of_lt c)
      omega
    · by_cases c2 : high + 1 - low = 2 ^ (k + 1)
      · have e : fr w low high = k + 1 := by
          refine fr_eq hl (fit_pow hh d (by omega)) fun z => ?_
          have := z.h
          have := pos2 (k + 1)
          rw [Nat.pow_succ] at this
          have : 2 ^ (k + 1 + 1) = 2 * 2 ^ (k + 1) := by rw [Nat.pow_succ]; omega
          omega
        rw [blks_one hl (by rw [e]; omega)]
        omega
      · have e : fr w low high = k := by
          refine fr_eq hl (fit_pow hh dk (by omega)) fun z => ?_
          have := z.h
          omega
        rw [blks_cons hl, e, List.length_cons]
        by_cases c3 : low + 2 ^ k ≤ high
        · have := len_from (k := k) hh (Nat.dvd_add dk (Nat.dvd_refl _)) c3 (by omega)
          have : k ≠ 0 := fun z => by
            subst z
            simp at e2 c3 hn c2
            omega
          omega
        · rw [blks_nil (by omega)]
          show 0 + 1 ≤ _
          omega
/-- blocks of 2 ** k and their like: none goes across a begin of such a block, but from the begin of one twice as great -/
theorem no_cross {w k here high mid q : Nat} (e : mid = q * 2 ^ (k + 1) + 2 ^ k) (h1 : q * 2 ^ (k + 1) ≤ here) (h2 : here < mid) (hl : here ≤ high) (h3 : here = q * 2 ^ (k + 1) → high + 1 < here + 2 ^ (k + 1)) : here + 2 ^ fr w here high ≤ mid := by
  have f := fr_fit (w := w) hl
  generalize fr w here high = g at f ⊢
  have e2 : 2 ^ (k + 1) = 2 * 2 ^ k := by rw [Nat.pow_succ]; omega
  by_cases c : g ≤ k
  · have d1 : 2 ^ g ∣ mid := by
      rw [e]
      exact Nat.dvd_add (Nat.dvd_trans (Nat.pow_dvd_pow 2 (by omega)) (Nat.dvd_mul_left _ _)) (Nat.pow_dvd_pow 2 c)
    obtain ⟨a, ha⟩ := d1
    obtain ⟨b, hb⟩ := f.d
    have : b < a := by
      rw [ha, hb] at h2
      exact Nat.lt_of_mul_lt_mul_left h2
    rw [ha, hb, ← Nat.mul_succ]
    exact Nat.mul_le_mul_left _ this
  · have d1 : 2 ^ (k + 1) ∣ here := Nat.dvd_trans (Nat.pow_dvd_pow 2 (by omega)) f.d
    obtain ⟨b, hb⟩ := d1
    have hq : b = q := by
      have l1 : q ≤ b := by
        rw [hb, Nat.mul_comm] at h1
        exact Nat.le_of_mul_le_mul_left h1 (pos2 _)
      have l2 : b < q + 1 := by
        have : 2 ^ (k + 1) * b < 2 ^ (k + 1) * (q + 1) := by
          rw [← hb, Nat.mul_succ, Nat.mul_comm]
          omega
        exact Nat.lt_of_mul_lt_mul_left this
      omega
    have := h3 (by rw [hb, hq, Nat.mul_comm])
    have := f.h
    have : 2 ^ (k + 1) ≤ 2 ^ g := Nat.pow_le_pow_right (by decide) (by omega)
    omega
/-- up to the end of a block of 2 ** k -/
theorem len_to {w : Nat} : ∀ {k low high : Nat}, high < 2 ^ w → 2 ^ k ∣ high + 1 → low ≤ high → high + 1 - low ≤ 2 ^ k → (blks w low high).length ≤ max 1 k
  | 0, low, high, hh, d, hl, hn => by
    have e : fr w low high = 0 := by
      refine fr_eq hl (.zero hl) fun z => ?_
      have := z.h
      simp at this hn
      omega
    rw [blks_one hl (by rw [e]; simp at hn ⊢; omega)]
    omega
  | k + 1, low, high, hh, d, hl, hn => by
    have dk : 2 ^ k ∣ high + 1 := Nat.dvd_trans (Nat.pow_dvd_pow 2 (by omega)) d
    have e2 : 2 ^ (k + 1) = 2 * 2 ^ k := by rw [Nat.pow_succ]; omega
    by_cases c : high + 1 - low ≤ 2 ^ k
    · have := len_to hh dk hl c
      omega
    obtain ⟨a, ha⟩ := d
    have a0 : a ≠ 0 := fun z => by subst z; simp at ha
    have dl : 2 ^ (k + 1) ∣ high + 1 - 2 ^ (k + 1) := ⟨a - 1, by rw [ha, Nat.mul_sub, Nat.mul_one]⟩
    by_cases c2 : high + 1 - low = 2 ^ (k + 1)
    · have el : low = high + 1 - 2 ^ (k + 1) := by omega
      have e : fr w low high = k + 1 := by
        refine fr_eq hl (fit_pow hh (by rw [el]; exact dl) (by omega)) fun z => ?_
        have := z.h
        have : 2 ^ (k + 1 + 1) = 2 * 2 ^ (k + 1) := by rw [Nat.pow_succ]; omega
        have := pos2 (k + 1)
        omega
      rw [blks_one hl (by rw [e]; omega)]
      omega
    · have hp := pos2 k
      have big : 2 ^ (k + 1) ≤ high + 1 := by
        rw [ha]
        exact Nat.le_mul_of_pos_right _ (by omega)
      have em : high + 1 - 2 ^ k = (a - 1) * 2 ^ (k + 1) + 2 ^ k := by
        have : (a - 1) * 2 ^ (k + 1) = high + 1 - 2 ^ (k + 1) := by rw [ha, Nat.mul_comm, Nat.mul_sub, Nat.mul_one]
        omega
      have eq1 : (a - 1) * 2 ^ (k + 1) = high + 1 - 2 ^ (k + 1) := by omega
      rw [blks_part (mid := high + 1 - 2 ^ k) (by omega) (Nat.le_refl _) (by omega) fun here h1 h2 => no_cross em (by omega) h2 (by omega) fun z => by omega]
      have dm : 2 ^ k ∣ high + 1 - 2 ^ k := Nat.dvd_sub dk (Nat.dvd_refl _)
      have l1 := len_to (w := w) (k := k) (low := low) (high := high + 1 - 2 ^ k - 1) (by omega) (by rw [show high + 1 - 2 ^ k - 1 + 1 = high + 1 - 2 ^ k by omega]; exact dm) (by omega) (by omega)
      have l2 : (blks w (high + 1 - 2 ^ k) high).length = 1 := by
        refine blks_one (by omega) ?_
        have : fr w (high + 1 - 2 ^ k) high = k := by
          refine fr_eq (by omega) (fit_pow hh dm (by omega)) fun z => ?_
          have := z.h
          omega
        rw [this]
        omega
      rw [List.length_append, l2]
      have : k ≠ 0 := fun z => by
        subst z
        simp at e2 c c2 hn
        omega
      omega
theorem len_in {w : Nat} : ∀ {k q low high : Nat}, high < 2 ^ w → q * 2 ^ k ≤ low → low ≤ high → high < (q + 1) * 2 ^ k → (blks w low high).length ≤ max 1 (2 * k - 2)
  | 0, q, low, high, hh, h1, hl, h2 => by
    have := len_from (k := 0) hh (by simp) hl (by simp at h1 h2 ⊢; omega)
    omega
  | k + 1, q, low, high, hh, h1, hl, h2 => by
    have e2 : 2 ^ (k + 1) = 2 * 2 ^ k := by rw [Nat.pow_succ]; omega
    have eq1 : q * 2 ^ (k + 1) = (2 * q) * 2 ^ k := by rw [e2, ← Nat.mul_assoc, Nat.mul_comm q 2]
    have eq2 : (q + 1) * 2 ^ (k + 1) = (2 * q) * 2 ^ k + 2 ^ k + 2 ^ k := by
      rw [Nat.add_mul, eq1, e2]
      omega
    have hp := pos2 k
    by_cases c1 : high < (2 * q) * 2 ^ k + 2 ^ k
    · have := len_in (k := k) (q := 2 * q) hh (by omega) hl (by rw [Nat.add_mul, Nat.one_mul]; exact c1)
      omega
    by_cases c2 : (2 * q) * 2 ^ k + 2 ^ k ≤ low
    · have := len_in (k := k) (q := 2 * q + 1) hh (by rw [Nat.add_mul, Nat.one_mul]; exact c2) hl (by rw [Nat.add_mul, Nat.add_mul, Nat.one_mul]; omega)
      omega
    by_cases c3 : low = q * 2 ^ (k + 1) ∧ high + 1 = (q + 1) * 2 ^ (k + 1)
    · have e : (q + 1) * 2 ^ (k + 1) = q * 2 ^ (k + 1) + 2 ^ (k + 1) := by rw [Nat.add_mul, Nat.one_mul]
      have ef : fr w low high = k + 1 := by
        refine fr_eq hl (fit_pow hh (by rw [c3.1]; exact Nat.dvd_mul_left _ _) (by omega)) fun z => ?_
        have := z.h
        have : 2 ^ (k + 1 + 1) = 2 * 2 ^ (k + 1) := by rw [Nat.pow_succ]; omega
        have := pos2 (k + 1)
        omega
      rw [blks_one hl (by rw [ef]; omega)]
      omega
    · have e : (q + 1) * 2 ^ (k + 1) = q * 2 ^ (k + 1) + 2 ^ (k + 1) := by rw [Nat.add_mul, Nat.one_mul]
      have k0 : k ≠ 0 := fun z => by
        subst z
        simp at c1 c2 c3 h1 h2 eq1 eq2
        omega
      rw [blks_part (mid := q * 2 ^ (k + 1) + 2 ^ k) (by omega) (Nat.le_refl _) (by omega) fun here g1 g2 => no_cross rfl (by omega) g2 (by omega) fun z => by omega]
      have d1 : 2 ^ k ∣ q * 2 ^ (k + 1) + 2 ^ k := by rw [eq1]; exact Nat.dvd_add (Nat.dvd_mul_left _ _) (Nat.dvd_refl _)
      have l1 := len_to (w := w) (k := k) (low := low) (high := q * 2 ^ (k + 1) + 2 ^ k - 1) (by omega) (by rw [show q * 2 ^ (k + 1) + 2 ^ k - 1 + 1 = q * 2 ^ (k + 1) + 2 ^ k by omega]; exact d1) (by omega) (by omega)
      have l2 := len_from (w := w) (k := k) (low := q * 2 ^ (k + 1) + 2 ^ k) (high := high) hh d1 (by omega) (by omega)
      rw [List.length_append]
      omega
theorem blks_len {w low high : Nat} (hh : high < 2 ^ w) (hl : low ≤ high) : (blks w low high).length ≤ max 1 (2 * w - 2) := len_in (q := 0) (k := w) hh (by simp) hl (by simpa using hh)
end LQ

namespace LQ
/-! ### begins of blocks -/
theorem no_straddle {w high s k : Nat} (hh : high < 2 ^ w) (ds : 2 ^ k ∣ s) (he : s + 2 ^ k ≤ high + 1) : ∀ {n here : Nat}, high + 1 - here ≤ n → (here ≤ s ∨ s + 2 ^ k ≤ here) → ∀ b ∈ blks w here high, ¬ (s < b.1 ∧ b.1 < s + 2 ^ k)
  | 0, here, hn, h, b, hb => by
    rw [blks_nil (by omega)] at hb
    cases hb
  | n + 1, here, hn, h, b, hb => by
    by_cases c : here ≤ high
    · rw [blks_cons c] at hb
      have p := pos2 (fr w here high)
      rcases List.mem_cons.mp hb with e | e
      · rw [e]
        show ¬ (s < here ∧ here < s + 2 ^ k)
        omega
      · refine no_straddle hh ds he (n := n) (here := here + 2 ^ fr w here high) (by omega) ?_ b e
        rcases h with h | h
        · have f := fr_fit (w := w) c
          have mx : ∀ g, Fit w here high g → g ≤ fr w here high := fun g hg => fr_max c hg
          generalize fr w here high = f0 at f mx ⊢
          by_cases c2 : here + 2 ^ f0 ≤ s
          · exact .inl c2
          · refine .inr ?_
            by_cases c3 : k ≤ f0
            · have d1 : 2 ^ k ∣ here + 2 ^ f0 := Nat.dvd_add (Nat.dvd_trans (Nat.pow_dvd_pow 2 c3) f.d) (Nat.pow_dvd_pow 2 c3)
              obtain ⟨x, hx⟩ := d1
              obtain ⟨y, hy⟩ := ds
              have : y < x := by
                have : 2 ^ k * y < 2 ^ k * x := by rw [← hx, ← hy]; omega
                exact Nat.lt_of_mul_lt_mul_left this
              rw [hx, hy, ← Nat.mul_succ]
              exact Nat.mul_le_mul_left _ this
            · have d1 : 2 ^ f0 ∣ s := Nat.dvd_trans (Nat.pow_dvd_pow 2 (by omega)) ds
              obtain ⟨x, hx⟩ := d1
              obtain ⟨y, hy⟩ := f.d
              have l1 : y ≤ x := by
                have : 2 ^ f0 * y ≤ 2 ^ f0 * x := by rw [← hx, ← hy]; exact h
                exact Nat.le_of_mul_le_mul_left this (pos2 _)
              have l2 : x < y + 1 := by
                have : 2 ^ f0 * x < 2 ^ f0 * (y + 1) := by rw [Nat.mul_succ, ← hx, ← hy]; omega
                exact Nat.lt_of_mul_lt_mul_left this
              have e1 : x = y := by omega
              have e2 : s = here := by rw [hx, hy, e1]
              subst e2
              have := mx k (fit_pow hh ds he)
              omega
        · exact .inr (by omega)
    · rw [blks_nil (by omega)] at hb
      cases hb
theorem same_block {w high one two : Nat} (h12 : one ≤ two) (ht : two ≤ high) : ∀ {n here : Nat}, high + 1 - here ≤ n → here ≤ one → (∀ b ∈ blks w here high, ¬ (one < b.1 ∧ b.1 ≤ two)) → ∃ b f, 2 ^ f ∣ b ∧ b ≤ one ∧ two < b + 2 ^ f ∧ here ≤ b ∧ b + 2 ^ f ≤ high + 1
  | 0, here, hn, h, _ => by omega
  | n + 1, here, hn, h, hb => by
    have c : here ≤ high := by omega
    rw [blks_cons c] at hb
    have p := pos2 (fr w here high)
    have f := fr_fit (w := w) c
    generalize fr w here high = f0 at f p hb ⊢
    by_cases c2 : one < here + 2 ^ f0
    · refine ⟨here, f0, f.d, h, ?_, Nat.le_refl _, f.h⟩
      by_cases c3 : two < here + 2 ^ f0
      · exact c3
      · have : here + 2 ^ f0 ≤ high := by omega
        have := hb _ (List.mem_cons_of_mem _ (by rw [blks_cons this]; exact List.mem_cons_self))
        exact absurd ⟨c2, by show here + 2 ^ f0 ≤ two; omega⟩ this
    · obtain ⟨b, f1, g1, g2, g3, g4, g5⟩ := same_block h12 ht (n := n) (here := here + 2 ^ f0) (by omega) (by omega) fun b h => hb b (List.mem_cons_of_mem _ h)
      exact ⟨b, f1, g1, g2, g3, by omega, g5⟩
/-- a begin behind the one, up to the other -/
def Cut (w low high one two : Nat) : Prop := ∃ b ∈ blks w low high, one < b.1 ∧ b.1 ≤ two
theorem cut_iff {w low high one two k : Nat} (hh : high < 2 ^ w) (hl : low ≤ one) (h12 : one < two) (ht : two ≤ high) (hk : one / 2 ^ k = two / 2 ^ k) (hm : ∀ j, j < k → one / 2 ^ j ≠ two / 2 ^ j) : Cut w low high one two ↔ ¬ (low ≤ one / 2 ^ k * 2 ^ k ∧ (one / 2 ^ k + 1) * 2 ^ k ≤ high + 1) := by
  have p := pos2 k
  have l1 : one / 2 ^ k * 2 ^ k ≤ one := Nat.div_mul_le_self _ _
  have l2 : two < (two / 2 ^ k + 1) * 2 ^ k := by
    rw [Nat.add_mul, Nat.one_mul]
    have h1 := Nat.div_add_mod two (2 ^ k)
    have h2 := Nat.mod_lt two p
    rw [Nat.mul_comm] at h1
    omega
  rw [← hk] at l2
  have e9 : (one / 2 ^ k + 1) * 2 ^ k = one / 2 ^ k * 2 ^ k + 2 ^ k := by rw [Nat.add_mul, Nat.one_mul]
  constructor
  · rintro ⟨b, hb, b1, b2⟩ ⟨a1, a2⟩
    exact no_straddle (w := w) (here := low) hh (Nat.dvd_mul_left (2 ^ k) (one / 2 ^ k)) (by omega) (Nat.le_refl _) (.inl a1) b hb ⟨by omega, by omega⟩
  · intro hn
    refine Classical.byContradiction fun hc => hn ?_
    obtain ⟨b, f, g1, g2, g3, g4, g5⟩ := same_block (w := w) (here := low) (Nat.le_of_lt h12) ht (Nat.le_refl _) hl fun b hb z => hc ⟨b, hb, z⟩
    obtain ⟨c, rfl⟩ := g1
    have pf := pos2 f
    have q1 : one / 2 ^ f = c := by
      refine Nat.div_eq_of_lt_le ?_ ?_
      · rw [Nat.mul_comm]; exact g2
      · rw [Nat.add_mul, Nat.one_mul, Nat.mul_comm]; omega
    have q2 : two / 2 ^ f = c := by
      refine Nat.div_eq_of_lt_le ?_ ?_
      · rw [Nat.mul_comm]; omega
      · rw [Nat.add_mul, Nat.one_mul, Nat.mul_comm]; omega
    have kf : k ≤ f := by
      refine Classical.byContradiction fun z => hm f (by omega) (q1.trans q2.symm)
    obtain ⟨e, he⟩ : ∃ e, 2 ^ f = 2 ^ k * e := Nat.pow_dvd_pow 2 kf
    have a1 : 2 ^ f * c ≤ one / 2 ^ k * 2 ^ k := by
      have : e * c ≤ one / 2 ^ k := by
        rw [Nat.le_div_iff_mul_le p]
        calc e * c * 2 ^ k = 2 ^ f * c := by rw [he, Nat.mul_comm (2 ^ k) e, Nat.mul_right_comm]
          _ ≤ one := g2
      calc 2 ^ f * c = e * c * 2 ^ k := by rw [he, Nat.mul_comm (2 ^ k) e, Nat.mul_right_comm]
        _ ≤ _ := Nat.mul_le_mul_right _ this
    have a2 : (one / 2 ^ k + 1) * 2 ^ k ≤ 2 ^ f * c + 2 ^ f := by
      have e3 : 2 ^ f * c + 2 ^ f = e * (c + 1) * 2 ^ k := by
        rw [he, Nat.mul_comm (2 ^ k) e, Nat.mul_add, Nat.mul_one, Nat.add_mul, Nat.mul_right_comm]
      rw [e3]
      refine Nat.mul_le_mul_right _ ?_
      show one / 2 ^ k < e * (c + 1)
      rw [Nat.div_lt_iff_lt_mul p, ← e3]
      omega
    exact ⟨by omega, by omega⟩
/-! ### begins rise -/
def begins (w low high : Nat) : List Nat := (blks w low high).map (·.1)
theorem begins_ge {w high : Nat} : ∀ {n low : Nat}, high + 1 - low ≤ n → ∀ b ∈ begins w low high, low ≤ b ∧ b ≤ high
  | 0, low, hn, b, hb => by
    unfold begins at hb
    rw [blks_nil (by omega)] at hb
    cases hb
  | n + 1, low, hn, b, hb => by
    unfold begins at hb
    by_cases c : low ≤ high
    · have p := pos2 (fr w low high)
      rw [blks_cons c, List.map_cons] at hb
      rcases List.mem_cons.mp hb with e | e
      · rw [e]
        exact ⟨Nat.le_refl _, c⟩
      · have := begins_ge (n := n) (low := low + 2 ^ fr w low high) (by omega) b e
        omega
    · rw [blks_nil (by omega)] at hb
      cases hb
theorem begins_up {w high : Nat} : ∀ {n low : Nat}, high + 1 - low ≤ n → (begins w low high).Pairwise (· < ·)
  | 0, low, hn => by
    unfold begins
    rw [blks_nil (by omega)]
    exact .nil
  | n + 1, low, hn => by
    unfold begins
    by_cases c : low ≤ high
    · have p := pos2 (fr w low high)
      rw [blks_cons c, List.map_cons]
      refine List.pairwise_cons.mpr ⟨fun b hb => ?_, begins_up (n := n) (by omega)⟩
      have := (begins_ge (n := n) (low := low + 2 ^ fr w low high) (by omega) b hb).1
      show low < b
      omega
    · rw [blks_nil (by omega)]
      exact .nil
theorem begins_len {w high : Nat} : ∀ {n low : Nat}, high + 1 - low ≤ n → (begins w low high).length ≤ high + 1 - low
  | 0, low, hn => by
    unfold begins
    rw [blks_nil (by omega)]
    exact Nat.zero_le _
  | n + 1, low, hn => by
    unfold begins
    by_cases c : low ≤ high
    · have p := pos2 (fr w low high)
      rw [blks_cons c, List.map_cons, List.length_cons]
      have := begins_len (w := w) (high := high) (n := n) (low := low + 2 ^ fr w low high) (by omega)
      unfold begins at this
      omega
    · rw [blks_nil (by omega)]
      exact Nat.zero_le _
theorem begins_head {w low high : Nat} (h : low ≤ high) : (begins w low high)[0]? = some low := by
  unfold begins
  rw [blks_cons h]
  rfl
/-- how many of them are not behind a word -/
def cntB (L : List Nat) (m : Nat) : Nat := (L.filter fun b => decide (b ≤ m)).length
theorem cnt_iff : ∀ {L : List Nat} {m i : Nat}, L.Pairwise (· < ·) → (i < cntB L m ↔ ∃ b, L[i]? = some b ∧ b ≤ m)
  | [], m, i, _ => by
    show i < 0 ↔ _
    constructor
    · intro h; omega
    · rintro ⟨b, h, _⟩; cases h
  | x :: L, m, i, h => by
    obtain ⟨h1, h2⟩ := List.pairwise_cons.mp h
    by_cases c : x ≤ m
    · have e : cntB (x :: L) m = cntB L m + 1 := by
        unfold cntB
        rw [List.filter_cons, if_pos (decide_eq_true c), List.length_cons]
      rw [e]
      cases i with
      | zero =>
        constructor
        · intro _; exact ⟨x, rfl, c⟩
        · intro _; omega
      | succ i =>
        rw [List.getElem?_cons_succ, ← cnt_iff (m := m) (i := i) h2]
        omega
    · have e : cntB (x :: L) m = 0 := by
        unfold cntB
        rw [List.length_eq_zero_iff, List.filter_eq_nil_iff]
        intro b hb
        rw [decide_eq_true_eq]
        rcases List.mem_cons.mp hb with e | e
        · rw [e]; exact c
        · have := h1 b e; omega
      rw [e]
      constructor
      · intro z; omega
      · rintro ⟨b, hb, l⟩
        cases i with
        | zero => cases hb; omega
        | succ i =>
          have := h1 b (List.mem_of_getElem? hb)
          omega
theorem cnt_le {L : List Nat} {m : Nat} : cntB L m ≤ L.length := List.length_filter_le _ _
/-- the next begin is not behind the next mark: there is one between -/
theorem cut_next {w low high one two : Nat} : (cntB (begins w low high) one < (begins w low high).length ∧ ∃ b, (begins w low high)[cntB (begins w low high) one]? = some b ∧ b ≤ two) ↔ Cut w low high one two := by
  have up := begins_up (w := w) (low := low) (high := high) (Nat.le_refl _)
  constructor
  · rintro ⟨h1, b, h2, h3⟩
    have n1 : ¬ b ≤ one := fun z => by
      have := (cnt_iff (m := one) up).mpr ⟨b, h2, z⟩
      omega
    obtain ⟨x, hx, e⟩ := List.mem_map.mp (List.mem_of_getElem? h2)
    subst e
    exact ⟨x, hx, by omega, h3⟩
  · rintro ⟨x, hx, h1, h2⟩
    have hm : x.1 ∈ begins w low high := List.mem_map.mpr ⟨x, hx, rfl⟩
    obtain ⟨i, hi⟩ := List.mem_iff_getElem?.mp hm
    have il := (List.getElem?_eq_some_iff.mp hi).1
    have n1 : ¬ i < cntB (begins w low high) one := fun z => by
      obtain ⟨b, hb, l⟩ := (cnt_iff up).mp z
      rw [hi] at hb
      cases hb
      omega
    have l2 : i < cntB (begins w low high) two := (cnt_iff up).mpr ⟨_, hi, h2⟩
    refine ⟨by omega, (cnt_iff up).mp (by omega)⟩
end LQ

namespace LQ
theorem block_of {w high x : Nat} (hx : x ≤ high) : ∀ {n here : Nat}, high + 1 - here ≤ n → here ≤ x → ∃ b ∈ begins w here high, ∃ f, 2 ^ f ∣ b ∧ b ≤ x ∧ x < b + 2 ^ f ∧ here ≤ b ∧ b + 2 ^ f ≤ high + 1 ∧ f ≤ w
  | 0, here, hn, h => by omega
  | n + 1, here, hn, h => by
    have c : here ≤ high := by omega
    have p := pos2 (fr w here high)
    have f := fr_fit (w := w) c
    have e : begins w here high = here :: begins w (here + 2 ^ fr w here high) high := by
      unfold begins
      rw [blks_cons c]
      rfl
    by_cases c2 : x < here + 2 ^ fr w here high
    · exact ⟨here, by rw [e]; exact List.mem_cons_self, _, f.d, h, c2, Nat.le_refl _, f.h, f.w⟩
    · obtain ⟨b, hb, f1, g1, g2, g3, g4, g5⟩ := block_of hx (n := n) (here := here + 2 ^ fr w here high) (by omega) (by omega)
      exact ⟨b, by rw [e]; exact List.mem_cons_of_mem _ hb, f1, g1, g2, g3, by omega, g5⟩
/-- how many there are ahead of an end -/
def cntE (w low e : Nat) : Nat := if low < e then (begins w low (e - 1)).length else 0
theorem sub_len : ∀ {A B : List Nat}, A.Nodup → (∀ a ∈ A, a ∈ B) → A.length ≤ B.length
  | [], _, _, _ => Nat.zero_le _
  | a :: A, B, h, s => by
    obtain ⟨h1, h2⟩ := List.nodup_cons.mp h
    have hb := s a List.mem_cons_self
    have l := List.length_erase_of_mem hb
    have p := List.length_pos_of_mem hb
    have := sub_len (A := A) (B := B.erase a) h2 fun x hx => (List.mem_erase_of_ne fun (z : x = a) => h1 (by rw [← z]; exact hx)).mpr (s x (List.mem_cons_of_mem _ hx))
    rw [List.length_cons]
    omega
theorem begins_nodup {w low high : Nat} : (begins w low high).Nodup := (begins_up (w := w) (low := low) (high := high) (Nat.le_refl _)).imp fun h => Nat.ne_of_lt h
theorem straddle {w low high s k b : Nat} (hh : high < 2 ^ w) (ds : 2 ^ k ∣ s) (hl : low ≤ s) (he : s + 2 ^ k ≤ high + 1) (hb : b ∈ begins w low high) : ¬ (s < b ∧ b < s + 2 ^ k) := by
  obtain ⟨x, hx, e⟩ := List.mem_map.mp hb
  subst e
  exact no_straddle hh ds he (Nat.le_refl _) (.inl hl) x hx
theorem few_le {w low e k : Nat} (hh : e ≤ 2 ^ w) (d : 2 ^ k ∣ e) (h : low + 2 ^ k ≤ e) : cntE w low e ≤ cntE w low (e - 2 ^ k) + 1 := by
  have p := pos2 k
  have ds : 2 ^ k ∣ e - 2 ^ k := Nat.dvd_sub d (Nat.dvd_refl _)
  have hS : ∀ b ∈ begins w low (e - 1), e - 2 ^ k ≤ b → b = e - 2 ^ k := fun b hb l => by
    have g := begins_ge (w := w) (low := low) (high := e - 1) (Nat.le_refl _) b hb
    have := straddle (by omega) ds (by omega) (by omega) hb
    omega
  unfold cntE
  rw [if_pos (by omega)]
  by_cases c : low < e - 2 ^ k
  · rw [if_pos c]
    have := sub_len (A := begins w low (e - 1)) (B := (e - 2 ^ k) :: begins w low (e - 2 ^ k - 1)) begins_nodup fun b hb => by
      by_cases l : e - 2 ^ k ≤ b
      · rw [hS b hb l]
        exact List.mem_cons_self
      · have g := begins_ge (w := w) (low := low) (high := e - 1) (Nat.le_refl _) b hb
        obtain ⟨c1, hc, f, g1, g2, g3, g4, g5, _⟩ := block_of (w := w) (high := e - 2 ^ k - 1) (x := b) (by omega) (Nat.le_refl _) g.1
        have := straddle (w := w) (low := low) (high := e - 1) (by omega) g1 g4 (by omega) hb
        rw [show b = c1 by omega]
        exact List.mem_cons_of_mem _ hc
    rw [List.length_cons] at this
    exact this
  · rw [if_neg c]
    have := sub_len (A := begins w low (e - 1)) (B := [e - 2 ^ k]) begins_nodup fun b hb => by
      have g := begins_ge (w := w) (low := low) (high := e - 1) (Nat.le_refl _) b hb
      rw [hS b hb (by omega)]
      exact List.mem_cons_self
    exact this
theorem few_eq {w low e : Nat} (hh : e ≤ 2 ^ w) (h : low < e) : ∃ f, 2 ^ f ∣ e ∧ low + 2 ^ f ≤ e ∧ f ≤ w ∧ cntE w low e = cntE w low (e - 2 ^ f) + 1 := by
  obtain ⟨b, hb, f, g1, g2, g3, g4, g5, g6⟩ := block_of (w := w) (here := low) (high := e - 1) (x := e - 1) (Nat.le_refl _) (Nat.le_refl _) (by omega)
  have p := pos2 f
  have eb : b = e - 2 ^ f := by omega
  have d : 2 ^ f ∣ e := by
    have := Nat.dvd_add g1 (Nat.dvd_refl (2 ^ f))
    rwa [show b + 2 ^ f = e by omega] at this
  refine ⟨f, d, by omega, g6, Nat.le_antisymm (few_le hh d (by omega)) ?_⟩
  rw [← eb]
  unfold cntE
  rw [if_pos h]
  by_cases c : low < b
  · rw [if_pos c]
    have nd : (b :: begins w low (b - 1)).Nodup := List.nodup_cons.mpr ⟨fun z => by
      have := begins_ge (w := w) (low := low) (high := b - 1) (Nat.le_refl _) b z
      omega, begins_nodup⟩
    have := sub_len (B := begins w low (e - 1)) nd fun x hx => by
      rcases List.mem_cons.mp hx with z | z
      · rw [z]
        exact hb
      · have g := begins_ge (w := w) (low := low) (high := b - 1) (Nat.le_refl _) x z
        obtain ⟨c1, hc, f1, q1, q2, q3, q4, q5, _⟩ := block_of (w := w) (here := low) (high := e - 1) (x := x) (by omega) (Nat.le_refl _) g.1
        have s1 := straddle (w := w) (low := low) (high := e - 1) (by omega) q1 q4 (by omega) hb
        have s2 := straddle (w := w) (low := low) (high := b - 1) (by omega) q1 q4 (by omega) z
        rw [show x = c1 by omega]
        exact hc
    rw [List.length_cons] at this
    exact this
  · rw [if_neg c]
    have := List.length_pos_of_mem hb
    omega
/-! ### bits -/
theorem and_bit {x f : Nat} : x &&& 2 ^ f = 0 ↔ x.testBit f = false := by
  constructor
  · intro h
    have := congrArg (fun n => n.testBit f) h
    simpa [Nat.testBit_and, Nat.testBit_two_pow_self] using this
  · intro h
    apply Nat.eq_of_testBit_eq
    intro i
    rw [Nat.testBit_and, Nat.testBit_two_pow, Nat.zero_testBit]
    by_cases e : f = i
    · subst e
      rw [h, Bool.false_and]
    · rw [decide_eq_false e, Bool.and_false]
theorem bit_iff {low f : Nat} (h : 2 ^ f ∣ low) : low &&& 2 ^ f = 0 ↔ low % 2 ^ (f + 1) = 0 := by
  have p := pos2 f
  obtain ⟨q, rfl⟩ := h
  rw [and_bit, Nat.testBit_eq_decide_div_mod_eq, Nat.mul_div_cancel_left _ p]
  have e : 2 ^ (f + 1) = 2 ^ f * 2 := Nat.pow_succ 2 f
  rw [e, Nat.mul_mod_mul_left]
  rcases Nat.mod_two_eq_zero_or_one q with z | z
  · rw [z]
    simp
  · rw [z]
    simp
end LQ

namespace LQ
open PySem PySem.Spec PyProof.Rows L2 GuL HG DL
/-! ### the text -/
def topS (i : Nat) : Stmt := PySem.Challenge.pw_switchstages_k30_whole_fewest_prefixes_a.main.body.getD i (.Pass ⟨0, 0, 0, 0⟩)
structure Blt (mg : Str → Option Value) : Prop where
  int : mg "int" = none
  abs : mg "abs" = none
  len : mg "len" = none
  divmod : mg "divmod" = none
  range : mg "range" = none
  tuple : mg "tuple" = none
  repr : mg "repr" = none
  all : mg "all" = none
  max : mg "max" = none
  min : mg "min" = none
  sum : mg "sum" = none
  zip : mg "zip" = none
  str : mg "str" = none
  list : mg "list" = none
  isi : mg "isinstance" = none
  bool : mg "bool" = none
  enumerate : mg "enumerate" = none
  sorted : mg "sorted" = none
  set : mg "set" = none
abbrev s_is_number : Stmt := topS 2
theorem sc_is_number : FnScope ["value", "least", "most"] ["value", "least", "most"] (defScope s_is_number) := ⟨rfl, rfl, rfl, by decide +kernel, rfl, by decide +kernel, by decide +kernel⟩
abbrev n_is_number : List Str := ["value", "least", "most"]
abbrev p_is_number : List Str := ["value", "least", "most"]
abbrev s_is_word : Stmt := topS 3
theorem sc_is_word : FnScope ["value", "width"] ["value", "width"] (defScope s_is_word) := ⟨rfl, rfl, rfl, by decide +kernel, rfl, by decide +kernel, by decide +kernel⟩
abbrev n_is_word : List Str := ["value", "width"]
abbrev p_is_word : List Str := ["value", "width"]
abbrev s_is_row : Stmt := topS 4
theorem sc_is_row : FnScope ["value", "least", "most"] ["value", "least", "most"] (defScope s_is_row) := ⟨rfl, rfl, rfl, by decide +kernel, rfl, by decide +kernel, by decide +kernel⟩
abbrev n_is_row : List Str := ["value", "least", "most"]
abbrev p_is_row : List Str := ["value", "least", "most"]
abbrev s_prefixes_of : Stmt := topS 10
theorem sc_prefixes_of : FnScope ["width", "low", "high"] ["width", "low", "high"] (defScope s_prefixes_of) := ⟨rfl, rfl, rfl, by decide +kernel, rfl, by decide +kernel, by decide +kernel⟩
abbrev n_prefixes_of : List Str := ["width", "low", "high"]
abbrev p_prefixes_of : List Str := ["width", "low", "high"]
abbrev s_are_marks : Stmt := topS 11
theorem sc_are_marks : FnScope ["width", "low", "high", "value"] ["width", "low", "high", "value"] (defScope s_are_marks) := ⟨rfl, rfl, rfl, by decide +kernel, rfl, by decide +kernel, by decide +kernel⟩
abbrev n_are_marks : List Str := ["width", "low", "high", "value"]
abbrev p_are_marks : List Str := ["width", "low", "high", "value"]
abbrev s_check_range : Stmt := topS 12
theorem sc_check_range : FnScope ["width", "low", "high"] ["width", "low", "high"] (defScope s_check_range) := ⟨rfl, rfl, rfl, by decide +kernel, rfl, by decide +kernel, by decide +kernel⟩
abbrev n_check_range : List Str := ["width", "low", "high"]
abbrev p_check_range : List Str := ["width", "low", "high"]
abbrev s_prefixes_in : Stmt := topS 13
theorem sc_prefixes_in : FnScope ["width", "low", "high", "found", "free"] ["width", "low", "high"] (defScope s_prefixes_in) := ⟨rfl, rfl, rfl, by decide +kernel, rfl, by decide +kernel, by decide +kernel⟩
abbrev n_prefixes_in : List Str := ["width", "low", "high", "found", "free"]
abbrev p_prefixes_in : List Str := ["width", "low", "high"]
abbrev s_are_marks_of : Stmt := topS 14
theorem sc_are_marks_of : FnScope ["width", "low", "high", "value", "begins", "at", "mark", "word", "_", "index"] ["width", "low", "high", "value"] (defScope s_are_marks_of) := ⟨rfl, rfl, rfl, by decide +kernel, rfl, by decide +kernel, by decide +kernel⟩
abbrev n_are_marks_of : List Str := ["width", "low", "high", "value", "begins", "at", "mark", "word", "_", "index"]
abbrev p_are_marks_of : List Str := ["width", "low", "high", "value"]
abbrev s__law_jar : Stmt := topS 16
theorem sc__law_jar : FnScope ["_law_script", "_law_turn", "_law_mixed", "_law_cell", "_law_own"] ["_law_script", "_law_turn"] (defScope s__law_jar) := ⟨rfl, rfl, rfl, by decide +kernel, rfl, by decide +kernel, by decide +kernel⟩
abbrev n__law_jar : List Str := ["_law_script", "_law_turn", "_law_mixed", "_law_cell", "_law_own"]
abbrev p__law_jar : List Str := ["_law_script", "_law_turn"]
abbrev s__law_draw : Stmt := topS 17
theorem sc__law_draw : FnScope ["_law_jar_here", "_law_many", "_law_figure", "_law_stirred"] ["_law_jar_here", "_law_many"] (defScope s__law_draw) := ⟨rfl, rfl, rfl, by decide +kernel, rfl, by decide +kernel, by decide +kernel⟩
abbrev n__law_draw : List Str := ["_law_jar_here", "_law_many", "_law_figure", "_law_stirred"]
abbrev p__law_draw : List Str := ["_law_jar_here", "_law_many"]
abbrev s__law_of : Stmt := topS 18
theorem sc__law_of : FnScope ["_law_jar_here", "_law_some"] ["_law_jar_here", "_law_some"] (defScope s__law_of) := ⟨rfl, rfl, rfl, by decide +kernel, rfl, by decide +kernel, by decide +kernel⟩
abbrev n__law_of : List Str := ["_law_jar_here", "_law_some"]
abbrev p__law_of : List Str := ["_law_jar_here", "_law_some"]
abbrev s__law_same : Stmt := topS 19
theorem sc__law_same : FnScope ["_law_told", "_law_due"] ["_law_told", "_law_due"] (defScope s__law_same) := ⟨rfl, rfl, rfl, by decide +kernel, rfl, by decide +kernel, by decide +kernel⟩
abbrev n__law_same : List Str := ["_law_told", "_law_due"]
abbrev p__law_same : List Str := ["_law_told", "_law_due"]
abbrev s__law_is_whole : Stmt := topS 20
theorem sc__law_is_whole : FnScope ["_law_thing", "_law_low", "_law_high"] ["_law_thing", "_law_low", "_law_high"] (defScope s__law_is_whole) := ⟨rfl, rfl, rfl, by decide +kernel, rfl, by decide +kernel, by decide +kernel⟩
abbrev n__law_is_whole : List Str := ["_law_thing", "_law_low", "_law_high"]
abbrev p__law_is_whole : List Str := ["_law_thing", "_law_low", "_law_high"]
abbrev s__law_top : Stmt := topS 21
theorem sc__law_top : FnScope ["_law_width", "_law_found", "_law_turn"] ["_law_width"] (defScope s__law_top) := ⟨rfl, rfl, rfl, by decide +kernel, rfl, by decide +kernel, by decide +kernel⟩
abbrev n__law_top : List Str := ["_law_width", "_law_found", "_law_turn"]
abbrev p__law_top : List Str := ["_law_width"]
abbrev s__law_odd : Stmt := topS 22
theorem sc__law_odd : FnScope ["_law_jar_here", "_law_some"] ["_law_jar_here"] (defScope s__law_odd) := ⟨rfl, rfl, rfl, by decide +kernel, rfl, by decide +kernel, by decide +kernel⟩
abbrev n__law_odd : List Str := ["_law_jar_here", "_law_some"]
abbrev p__law_odd : List Str := ["_law_jar_here"]
abbrev s__law_bent : Stmt := topS 23
theorem sc__law_bent : FnScope ["_law_jar_here", "_law_thing", "_law_deep", "_law_at", "_law_way"] ["_law_jar_here", "_law_thing", "_law_deep"] (defScope s__law_bent) := ⟨rfl, rfl, rfl, by decide +kernel, rfl, by decide +kernel, by decide +kernel⟩
abbrev n__law_bent : List Str := ["_law_jar_here", "_law_thing", "_law_deep", "_law_at", "_law_way"]
abbrev p__law_bent : List Str := ["_law_jar_here", "_law_thing", "_law_deep"]
abbrev s__law_range : Stmt := topS 24
theorem sc__law_range : FnScope ["_law_jar_here", "_law_width", "_law_top_here", "_law_one", "_law_two"] ["_law_jar_here", "_law_width"] (defScope s__law_range) := ⟨rfl, rfl, rfl, by decide +kernel, rfl, by decide +kernel, by decide +kernel⟩
abbrev n__law_range : List Str := ["_law_jar_here", "_law_width", "_law_top_here", "_law_one", "_law_two"]
abbrev p__law_range : List Str := ["_law_jar_here", "_law_width"]
abbrev s__law_blocks : Stmt := topS 25
theorem sc__law_blocks : FnScope ["_law_width", "_law_low", "_law_high", "_law_found", "_law_here", "_law_size", "_law_bits"] ["_law_width", "_law_low", "_law_high"] (defScope s__law_blocks) := ⟨rfl, rfl, rfl, by decide +kernel, rfl, by decide +kernel, by decide +kernel⟩
abbrev n__law_blocks : List Str := ["_law_width", "_law_low", "_law_high", "_law_found", "_law_here", "_law_size", "_law_bits"]
abbrev p__law_blocks : List Str := ["_law_width", "_law_low", "_law_high"]
abbrev s__law_fewest : Stmt := topS 26
theorem sc__law_fewest : FnScope ["_law_width", "_law_low", "_law_high", "_law_fewest_here", "_law_word", "_law_best", "_law_size", "_law_many"] ["_law_width", "_law_low", "_law_high"] (defScope s__law_fewest) := ⟨rfl, rfl, rfl, by decide +kernel, rfl, by decide +kernel, by decide +kernel⟩
abbrev n__law_fewest : List Str := ["_law_width", "_law_low", "_law_high", "_law_fewest_here", "_law_word", "_law_best", "_law_size", "_law_many"]
abbrev p__law_fewest : List Str := ["_law_width", "_law_low", "_law_high"]
abbrev s__law_are_marks : Stmt := topS 27
theorem sc__law_are_marks : FnScope ["_law_width", "_law_low", "_law_high", "_law_thing", "_law_one", "_law_two", "_law_size", "_law_word"] ["_law_width", "_law_low", "_law_high", "_law_thing"] (defScope s__law_are_marks) := ⟨rfl, rfl, rfl, by decide +kernel, rfl, by decide +kernel, by decide +kernel⟩
abbrev n__law_are_marks : List Str := ["_law_width", "_law_low", "_law_high", "_law_thing", "_law_one", "_law_two", "_law_size", "_law_word"]
abbrev p__law_are_marks : List Str := ["_law_width", "_law_low", "_law_high", "_law_thing"]
abbrev s__law_things : Stmt := topS 28
theorem sc__law_things : FnScope ["_law_jar_here", "_law_width", "_law_low", "_law_high", "_law_heads", "_law_some", "_law_lasts", "_law_word", "_law_bits", "_law_turn"] ["_law_jar_here", "_law_width", "_law_low", "_law_high"] (defScope s__law_things) := ⟨rfl, rfl, rfl, by decide +kernel, rfl, by decide +kernel, by decide +kernel⟩
abbrev n__law_things : List Str := ["_law_jar_here", "_law_width", "_law_low", "_law_high", "_law_heads", "_law_some", "_law_lasts", "_law_word", "_law_bits", "_law_turn"]
abbrev p__law_things : List Str := ["_law_jar_here", "_law_width", "_law_low", "_law_high"]
abbrev s__law_are_right : Stmt := topS 29
theorem sc__law_are_right : FnScope ["_law_jar_here", "_law_width", "_law_low", "_law_high", "_law_due", "_law_told", "_law_thing", "_law_is_due", "_law_word", "_law_bits"] ["_law_jar_here", "_law_width", "_law_low", "_law_high"] (defScope s__law_are_right) := ⟨rfl, rfl, rfl, by decide +kernel, rfl, by decide +kernel, by decide +kernel⟩
abbrev n__law_are_right : List Str := ["_law_jar_here", "_law_width", "_law_low", "_law_high", "_law_due", "_law_told", "_law_thing", "_law_is_due", "_law_word", "_law_bits"]
abbrev p__law_are_right : List Str := ["_law_jar_here", "_law_width", "_law_low", "_law_high"]
abbrev s__law_right : Stmt := topS 30
theorem sc__law_right : FnScope ["_law_jar_here", "_law_width", "_law_low", "_law_high", "_law_wide"] ["_law_jar_here"] (defScope s__law_right) := ⟨rfl, rfl, rfl, by decide +kernel, rfl, by decide +kernel, by decide +kernel⟩
abbrev n__law_right : List Str := ["_law_jar_here", "_law_width", "_law_low", "_law_high", "_law_wide"]
abbrev p__law_right : List Str := ["_law_jar_here"]
abbrev s_law : Stmt := topS 31
theorem sc_law : FnScope ["_law_script", "_law_turn"] ["_law_script"] (defScope s_law) := ⟨rfl, rfl, rfl, by decide +kernel, rfl, by decide +kernel, by decide +kernel⟩
abbrev n_law : List Str := ["_law_script", "_law_turn"]
abbrev p_law : List Str := ["_law_script"]
theorem de_g {X : Cx} {j : Bool} {x : Str} {d : PyData} {pos : Pos} (h : ∃ v, (∃ u, X.mg x = some u ∧ RelV v u) ∧ ∀ b H, Dt X.K b H v d) (hg : Gl X x) (hd : (x == ("__debug__" : Str)) = false := by decide) : DE X j (.Name x pos) (dC d) := by
  obtain ⟨v, ⟨u, hm, r⟩, hd'⟩ := h
  exact de_c (pe_glob hg hm r hd) fun {b} H => hd' b H
theorem hu {k : Nat} {A : Around} (r : Room k A) : A.units + 64 < cLine := by
  have := r.un
  omega
theorem tn0 : Int.toNat 0 = 0 := rfl
theorem tn1 : Int.toNat 1 = 1 := rfl
theorem tn2 : Int.toNat 2 = 2 := rfl
theorem tn3 : Int.toNat 3 = 3 := rfl
theorem tn4 : Int.toNat 4 = 4 := rfl
theorem tn5 : Int.toNat 5 = 5 := rfl
theorem noL_int (i : Int) : NoL (.int i) := .int i
/-! ### rows of answers -/
theorem row_ext {ds ys : List PyData} {n : Nat} (h1 : ds.length = n) (h2 : ys.length = n) (h : ∀ (k : Nat) e, ds[k]? = some e → ys[k]? = some e) : ds = ys := by
  apply List.ext_getElem?
  intro k
  cases e : ds[k]? with
  | none =>
    have := List.getElem?_eq_none_iff.mp e
    exact (List.getElem?_eq_none (by omega)).symm
  | some x => exact (h k x e).symm
theorem all_true {n : Nat} : ((List.replicate n true).all id) = true := by simp
/-! ### bits -/
theorem bAnd (x y : Nat) : Builtin.bitAnd (x : Int) (y : Int) = ((x &&& y : Nat) : Int) := by
  rw [bitAnd_pp (by omega) (by omega), Int.toNat_natCast, Int.toNat_natCast]
theorem bXor (x y : Nat) : Builtin.bitXor (x : Int) (y : Int) = ((x ^^^ y : Nat) : Int) := by
  rw [Bits.bitXor_pp (by omega) (by omega), Int.toNat_natCast, Int.toNat_natCast]
/-- the program's constants -/
structure CstQ (K : PySem.W.Frag) (w : World) (mg : Str → Option Value) : Prop where
  ww : ∃ v, (∃ u, mg "WORD_WIDTH" = some u ∧ RelV v u) ∧ ∀ b H, Dt K b H v (.int 32)
def isRow : PyData → Int → Int → Bool | .tuple xs, a, b => decide (a ≤ xs.length) && decide ((xs.length : Int) ≤ b) | _, _, _ => false
theorem isRow_ok {xs : List PyData} {a b : Int} (h1 : a ≤ xs.length) (h2 : (xs.length : Int) ≤ b) : isRow (.tuple xs) a b = true := by
  show (decide (a ≤ (xs.length : Int)) && decide ((xs.length : Int) ≤ b)) = true
  rw [decide_eq_true h1, decide_eq_true h2]
  rfl
/-! ### the looks, of any data -/
def numB (d : PyData) (a b : Int) : Bool := match d with | .int z => decide (a ≤ z) && decide (z ≤ b) | _ => false
def wordB (d : PyData) (n : Nat) : Bool := match d with | .int z => decide (0 ≤ z) && decide (z < 2 ^ n) | _ => false
def txts : List Str := ["", "send", "drop", "a", "b_2", "exact", "prefix", "mask", "range", "if"]
/-- data whose texts are among these -/
inductive Gd : PyData → Prop
  | non : Gd .none
  | bl (c : Bool) : Gd (.bool c)
  | int (i : Int) : Gd (.int i)
  | str {z : Str} (h : z ∈ txts) : Gd (.str z)
  | lst {ds : List PyData} : (∀ d ∈ ds, Gd d) → Gd (.list ds)
  | tup {ds : List PyData} : (∀ d ∈ ds, Gd d) → Gd (.tuple ds)
  | emp : Gd (.dict [])
section
variable {P : Program} {w : World} {K : PySem.W.Frag} {mg : Str → Option Value} {base : Heap}

def fNumA : DF := fun ds Q => ∃ (d : PyData) (a b : Int), ds = [d, .int a, .int b] ∧ Q (.bool (numB d a b))
theorem moNumA : MoF fNumA := fun _ _ _ m ⟨z, a, b, e, q⟩ => ⟨z, a, b, e, m _ q⟩
theorem ok_number {f : Addr} {fd : FuncData} (F : Fun K "is_number" "is_number" s_is_number f fd) (B : Blt mg) : FnG P w K mg base CX0 1 f fd p_is_number (spP K fNumA) := by
  refine fnP F sc_is_number moNumA (fun ds Q h => ?_) (fun cdv A outer s H E b hA hr => ⟨_, (dss_one (ds_ret (de_andV (de_isi (by rfl) B.isi (pe_bltn (v := .ty "int") (by rfl) B.int (by decide +kernel) rfl) kit_int (de_v (pv 0))) (de_andV (de_chN op_leN1 op_leN2 (de_v (pv 1)) (de_v (pv 0)) (de_v (pv 2))) (de_one (de_not (de_isi (by rfl) B.isi (pe_bltn (v := .ty "bool") (by rfl) B.bool (by decide +kernel) rfl) kit_bool (de_v (pv 0))))))))), fun ds Q h => ?_⟩)
  · obtain ⟨z, a, b, rfl, _⟩ := h
    rfl
  · obtain ⟨d, a, b, rfl, k⟩ := h
    cases d with
    | int z =>
      simp only [tn0, tn1, tn2, tn3, tn4, tn5, bT, bs, b1, DL.wp, sRet, sRetN, sRetO, sSeq, sIf, sSet, sNew, sMov, sDo, sApp, sExt, sUnp, sPar, sParN, sNext, setAll, dAnd, dOr, dNot, dIf, dIsi, dv, dC, dOp, cI0, cII, gII, cSc, eSc, chI, chI3, chN, nmD, gNotInS, cInC, gInC, cIxS, gIxS, cAddS, gAddS, strI, sgn, dB, mask, stl, sSetM, sNewM, sAppM, sExtM, sUnpM, b1M, dNeg, dEmp, nList, nCat, nSl, sRetN,  dtAnd, dtOr, dtNot, bw1, dCall, dCallJ, nCall, dCB, aCons, aNil, dTup, nLst, dNew, gLen, cLen, gTu, cTu, c2I, g2I, c1I, g1I, itm, cIx, gSl, oNo, oPt, dAll, dSum, dRepr, gCat, cCat, cInS, gInS, isN, ini, List.map, List.length, List.replicate, List.append, List.cons_append, List.nil_append, List.append_nil, List.getElem?_cons_zero, List.getElem?_cons_succ, List.set_cons_zero, List.set_cons_succ, List.length_cons, List.length_nil, Option.getD_some, true_and, and_true, if_true, if_false, isT_int_int, isT_bool_int, isT_tuple_tuple, isT_str_str, Bool.not_false, Bool.not_true, false_implies, List.length_map, Bool.false_eq_true, Bool.true_eq_false, isT_int_none, isT_int_bool, isT_int_str, isT_int_list, isT_int_tuple, isT_int_dict, isT_bool_none, isT_bool_bool, isT_bool_str, isT_bool_list, isT_bool_tuple, isT_bool_dict, isT_tuple_none, isT_tuple_bool, isT_tuple_int, isT_tuple_str, isT_tuple_list, isT_tuple_dict, isT_str_none, isT_str_bool, isT_str_int, isT_str_list, isT_str_tuple, isT_str_dict]
      by_cases h1 : a ≤ z <;> by_cases h2 : z ≤ b <;> simpa [numB, h1, h2] using k
    | bool c =>
      simp only [tn0, tn1, tn2, tn3, tn4, tn5, bT, bs, b1, DL.wp, sRet, sRetN, sRetO, sSeq, sIf, sSet, sNew, sMov, sDo, sApp, sExt, sUnp, sPar, sParN, sNext, setAll, dAnd, dOr, dNot, dIf, dIsi, dv, dC, dOp, cI0, cII, gII, cSc, eSc, chI, chI3, chN, nmD, gNotInS, cInC, gInC, cIxS, gIxS, cAddS, gAddS, strI, sgn, dB, mask, stl, sSetM, sNewM, sAppM, sExtM, sUnpM, b1M, dNeg, dEmp, nList, nCat, nSl, sRetN,  dtAnd, dtOr, dtNot, bw1, dCall, dCallJ, nCall, dCB, aCons, aNil, dTup, nLst, dNew, gLen, cLen, gTu, cTu, c2I, g2I, c1I, g1I, itm, cIx, gSl, oNo, oPt, dAll, dSum, dRepr, gCat, cCat, cInS, gInS, isN, ini, List.map, List.length, List.replicate, List.append, List.cons_append, List.nil_append, List.append_nil, List.getElem?_cons_zero, List.getElem?_cons_succ, List.set_cons_zero, List.set_cons_succ, List.length_cons, List.length_nil, Option.getD_some, true_and, and_true, if_true, if_false, isT_int_int, isT_bool_int, isT_tuple_tuple, isT_str_str, Bool.not_false, Bool.not_true, false_implies, List.length_map, Bool.false_eq_true, Bool.true_eq_false, isT_int_none, isT_int_bool, isT_int_str, isT_int_list, isT_int_tuple, isT_int_dict, isT_bool_none, isT_bool_bool, isT_bool_str, isT_bool_list, isT_bool_tuple, isT_bool_dict, isT_tuple_none, isT_tuple_bool, isT_tuple_int, isT_tuple_str, isT_tuple_list, isT_tuple_dict, isT_str_none, isT_str_bool, isT_str_int, isT_str_list, isT_str_tuple, isT_str_dict]
      by_cases h1 : a ≤ (if c = true then (1 : Int) else 0) <;> by_cases h2 : (if c = true then (1 : Int) else 0) ≤ b <;> simpa [numB, h1, h2] using k
    | _ =>
      simp only [tn0, tn1, tn2, tn3, tn4, tn5, bT, bs, b1, DL.wp, sRet, sRetN, sRetO, sSeq, sIf, sSet, sNew, sMov, sDo, sApp, sExt, sUnp, sPar, sParN, sNext, setAll, dAnd, dOr, dNot, dIf, dIsi, dv, dC, dOp, cI0, cII, gII, cSc, eSc, chI, chI3, chN, nmD, gNotInS, cInC, gInC, cIxS, gIxS, cAddS, gAddS, strI, sgn, dB, mask, stl, sSetM, sNewM, sAppM, sExtM, sUnpM, b1M, dNeg, dEmp, nList, nCat, nSl, sRetN,  dtAnd, dtOr, dtNot, bw1, dCall, dCallJ, nCall, dCB, aCons, aNil, dTup, nLst, dNew, gLen, cLen, gTu, cTu, c2I, g2I, c1I, g1I, itm, cIx, gSl, oNo, oPt, dAll, dSum, dRepr, gCat, cCat, cInS, gInS, isN, ini, List.map, List.length, List.replicate, List.append, List.cons_append, List.nil_append, List.append_nil, List.getElem?_cons_zero, List.getElem?_cons_succ, List.set_cons_zero, List.set_cons_succ, List.length_cons, List.length_nil, Option.getD_some, true_and, and_true, if_true, if_false, isT_int_int, isT_bool_int, isT_tuple_tuple, isT_str_str, Bool.not_false, Bool.not_true, false_implies, List.length_map, Bool.false_eq_true, Bool.true_eq_false, isT_int_none, isT_int_bool, isT_int_str, isT_int_list, isT_int_tuple, isT_int_dict, isT_bool_none, isT_bool_bool, isT_bool_str, isT_bool_list, isT_bool_tuple, isT_bool_dict, isT_tuple_none, isT_tuple_bool, isT_tuple_int, isT_tuple_str, isT_tuple_list, isT_tuple_dict, isT_str_none, isT_str_bool, isT_str_int, isT_str_list, isT_str_tuple, isT_str_dict]
      exact k
def fWordA : DF := fun ds Q => ∃ (d : PyData) (n : Nat), ds = [d, .int (n : Nat)] ∧ n ≤ 64 ∧ Q (.bool (wordB d n))
theorem moWordA : MoF fWordA := fun _ _ _ m ⟨z, n, e, l, q⟩ => ⟨z, n, e, l, m _ q⟩
theorem ok_word {f : Addr} {fd : FuncData} (F : Fun K "is_word" "is_word" s_is_word f fd) (B : Blt mg) : FnG P w K mg base CX0 1 f fd p_is_word (spP K fWordA) := by
  refine fnP F sc_is_word moWordA (fun ds Q h => ?_) (fun cdv A outer s H E b hA hr => ⟨_, (dss_one (ds_ret (de_andV (de_isi (by rfl) B.isi (pe_bltn (v := .ty "int") (by rfl) B.int (by decide +kernel) rfl) kit_int (de_v (pv 0))) (de_andV (de_chN op_leN1 op_ltN2 de_int (de_v (pv 0)) (de_shl de_int (de_v (pv 1)))) (de_one (de_not (de_isi (by rfl) B.isi (pe_bltn (v := .ty "bool") (by rfl) B.bool (by decide +kernel) rfl) kit_bool (de_v (pv 0))))))))), fun ds Q h => ?_⟩)
  · obtain ⟨z, n, rfl, _⟩ := h
    rfl
  · obtain ⟨d, n, rfl, l, k⟩ := h
    cases d with
    | int z =>
      simp only [tn0, tn1, tn2, tn3, tn4, tn5, bT, bs, b1, DL.wp, sRet, sRetN, sRetO, sSeq, sIf, sSet, sNew, sMov, sDo, sApp, sExt, sUnp, sPar, sParN, sNext, setAll, dAnd, dOr, dNot, dIf, dIsi, dv, dC, dOp, cI0, cII, gII, cSc, eSc, chI, chI3, chN, nmD, gNotInS, cInC, gInC, cIxS, gIxS, cAddS, gAddS, strI, sgn, dB, mask, stl, sSetM, sNewM, sAppM, sExtM, sUnpM, b1M, dNeg, dEmp, nList, nCat, nSl, sRetN,  dtAnd, dtOr, dtNot, bw1, dCall, dCallJ, nCall, dCB, aCons, aNil, dTup, nLst, dNew, gLen, cLen, gTu, cTu, c2I, g2I, c1I, g1I, itm, cIx, gSl, oNo, oPt, dAll, dSum, dRepr, gCat, cCat, cInS, gInS, isN, ini, List.map, List.length, List.replicate, List.append, List.cons_append, List.nil_append, List.append_nil, List.getElem?_cons_zero, List.getElem?_cons_succ, List.set_cons_zero, List.set_cons_succ, List.length_cons, List.length_nil, Option.getD_some, true_and, and_true, if_true, if_false, isT_int_int, isT_bool_int, isT_tuple_tuple, isT_str_str, Bool.not_false, Bool.not_true, false_implies, List.length_map, Bool.false_eq_true, Bool.true_eq_false, isT_int_none, isT_int_bool, isT_int_str, isT_int_list, isT_int_tuple, isT_int_dict, isT_bool_none, isT_bool_bool, isT_bool_str, isT_bool_list, isT_bool_tuple, isT_bool_dict, isT_tuple_none, isT_tuple_bool, isT_tuple_int, isT_tuple_str, isT_tuple_list, isT_tuple_dict, isT_str_none, isT_str_bool, isT_str_int, isT_str_list, isT_str_tuple, isT_str_dict]
      by_cases h1 : 0 ≤ z
      · rw [if_pos (decide_eq_true h1)]
        refine ⟨⟨by omega, by omega, by decide⟩, ?_⟩
        rw [Int.one_mul, Int.toNat_natCast]
        by_cases h2 : z < 2 ^ n <;> simpa [wordB, h1, h2] using k
      · rw [if_neg (by simpa using h1)]
        simpa [wordB, h1] using k
    | bool c =>
      simp only [tn0, tn1, tn2, tn3, tn4, tn5, bT, bs, b1, DL.wp, sRet, sRetN, sRetO, sSeq, sIf, sSet, sNew, sMov, sDo, sApp, sExt, sUnp, sPar, sParN, sNext, setAll, dAnd, dOr, dNot, dIf, dIsi, dv, dC, dOp, cI0, cII, gII, cSc, eSc, chI, chI3, chN, nmD, gNotInS, cInC, gInC, cIxS, gIxS, cAddS, gAddS, strI, sgn, dB, mask, stl, sSetM, sNewM, sAppM, sExtM, sUnpM, b1M, dNeg, dEmp, nList, nCat, nSl, sRetN,  dtAnd, dtOr, dtNot, bw1, dCall, dCallJ, nCall, dCB, aCons, aNil, dTup, nLst, dNew, gLen, cLen, gTu, cTu, c2I, g2I, c1I, g1I, itm, cIx, gSl, oNo, oPt, dAll, dSum, dRepr, gCat, cCat, cInS, gInS, isN, ini, List.map, List.length, List.replicate, List.append, List.cons_append, List.nil_append, List.append_nil, List.getElem?_cons_zero, List.getElem?_cons_succ, List.set_cons_zero, List.set_cons_succ, List.length_cons, List.length_nil, Option.getD_some, true_and, and_true, if_true, if_false, isT_int_int, isT_bool_int, isT_tuple_tuple, isT_str_str, Bool.not_false, Bool.not_true, false_implies, List.length_map, Bool.false_eq_true, Bool.true_eq_false, isT_int_none, isT_int_bool, isT_int_str, isT_int_list, isT_int_tuple, isT_int_dict, isT_bool_none, isT_bool_bool, isT_bool_str, isT_bool_list, isT_bool_tuple, isT_bool_dict, isT_tuple_none, isT_tuple_bool, isT_tuple_int, isT_tuple_str, isT_tuple_list, isT_tuple_dict, isT_str_none, isT_str_bool, isT_str_int, isT_str_list, isT_str_tuple, isT_str_dict]
      rw [if_pos (decide_eq_true (by split <;> decide))]
      refine ⟨⟨by omega, by omega, by decide⟩, ?_⟩
      by_cases h2 : (if c = true then (1 : Int) else 0) < 1 * 2 ^ (n : Int).toNat <;> simpa [wordB, h2] using k
    | _ =>
      simp only [tn0, tn1, tn2, tn3, tn4, tn5, bT, bs, b1, DL.wp, sRet, sRetN, sRetO, sSeq, sIf, sSet, sNew, sMov, sDo, sApp, sExt, sUnp, sPar, sParN, sNext, setAll, dAnd, dOr, dNot, dIf, dIsi, dv, dC, dOp, cI0, cII, gII, cSc, eSc, chI, chI3, chN, nmD, gNotInS, cInC, gInC, cIxS, gIxS, cAddS, gAddS, strI, sgn, dB, mask, stl, sSetM, sNewM, sAppM, sExtM, sUnpM, b1M, dNeg, dEmp, nList, nCat, nSl, sRetN,  dtAnd, dtOr, dtNot, bw1, dCall, dCallJ, nCall, dCB, aCons, aNil, dTup, nLst, dNew, gLen, cLen, gTu, cTu, c2I, g2I, c1I, g1I, itm, cIx, gSl, oNo, oPt, dAll, dSum, dRepr, gCat, cCat, cInS, gInS, isN, ini, List.map, List.length, List.replicate, List.append, List.cons_append, List.nil_append, List.append_nil, List.getElem?_cons_zero, List.getElem?_cons_succ, List.set_cons_zero, List.set_cons_succ, List.length_cons, List.length_nil, Option.getD_some, true_and, and_true, if_true, if_false, isT_int_int, isT_bool_int, isT_tuple_tuple, isT_str_str, Bool.not_false, Bool.not_true, false_implies, List.length_map, Bool.false_eq_true, Bool.true_eq_false, isT_int_none, isT_int_bool, isT_int_str, isT_int_list, isT_int_tuple, isT_int_dict, isT_bool_none, isT_bool_bool, isT_bool_str, isT_bool_list, isT_bool_tuple, isT_bool_dict, isT_tuple_none, isT_tuple_bool, isT_tuple_int, isT_tuple_str, isT_tuple_list, isT_tuple_dict, isT_str_none, isT_str_bool, isT_str_int, isT_str_list, isT_str_tuple, isT_str_dict]
      exact k
def fRow : DF := fun ds Q => ∃ (d : PyData) (a b : Int), ds = [d, .int a, .int b] ∧ Q (.bool (isRow d a b))
theorem moRow : MoF fRow := fun _ _ _ m ⟨d, a, b, e, q⟩ => ⟨d, a, b, e, m _ q⟩
theorem ok_row {f : Addr} {fd : FuncData} (F : Fun K "is_row" "is_row" s_is_row f fd) (B : Blt mg) : FnG P w K mg base CX0 1 f fd p_is_row (spP K fRow) := by
  refine fnP F sc_is_row moRow (fun ds Q h => ?_) (fun cdv A outer s H E b hA hr => ⟨_, (dss_one (ds_ret (de_andV (de_isi (by rfl) B.isi (pe_bltn (v := .ty "tuple") (by rfl) B.tuple (by decide +kernel) rfl) kit_tuple (de_v (pv 0))) (de_one (de_lele (de_v (pv 1)) (de_len (by rfl) B.len (da_cons (de_v (pv 0)) da_nil)) (de_v (pv 2))))))), fun ds Q h => ?_⟩)
  · obtain ⟨d, a, b, rfl, _⟩ := h
    rfl
  · obtain ⟨d, a, b, rfl, k⟩ := h
    have no : isT "tuple" d = false → isRow d a b = false := fun e => by
      cases d <;> first | rfl | (rw [isT_tuple_tuple] at e; cases e)
    simp only [tn0, tn1, tn2, tn3, tn4, tn5, bT, bs, b1, DL.wp, sRet, sRetN, sRetO, sSeq, sIf, sSet, sNew, sMov, sDo, sApp, sExt, sUnp, sPar, sParN, sNext, setAll, dAnd, dOr, dNot, dIf, dIsi, dv, dC, dOp, cI0, cII, gII, cSc, eSc, chI, chI3, chN, nmD, gNotInS, cInC, gInC, cIxS, gIxS, cAddS, gAddS, strI, sgn, dB, mask, stl, sSetM, sNewM, sAppM, sExtM, sUnpM, b1M, dNeg, dEmp, nList, nCat, nSl, sRetN,  dtAnd, dtOr, dtNot, bw1, dCall, dCallJ, nCall, dCB, aCons, aNil, dTup, nLst, dNew, gLen, cLen, gTu, cTu, c2I, g2I, c1I, g1I, itm, cIx, gSl, oNo, oPt, dAll, dSum, dRepr, gCat, cCat, cInS, gInS, isN, ini, List.map, List.length, List.replicate, List.append, List.cons_append, List.nil_append, List.append_nil, List.getElem?_cons_zero, List.getElem?_cons_succ, List.set_cons_zero, List.set_cons_succ, List.length_cons, List.length_nil, Option.getD_some, true_and, and_true, if_true, if_false, isT_int_int, isT_bool_int, isT_tuple_tuple, isT_str_str, Bool.not_false, Bool.not_true, false_implies, List.length_map, Bool.false_eq_true, Bool.true_eq_false, isT_int_none, isT_int_bool, isT_int_str, isT_int_list, isT_int_tuple, isT_int_dict, isT_bool_none, isT_bool_bool, isT_bool_str, isT_bool_list, isT_bool_tuple, isT_bool_dict, isT_tuple_none, isT_tuple_bool, isT_tuple_int, isT_tuple_str, isT_tuple_list, isT_tuple_dict, isT_str_none, isT_str_bool, isT_str_int, isT_str_list, isT_str_tuple, isT_str_dict]
    by_cases c : isT "tuple" d = true
    · rw [if_pos c]
      cases d with
      | tuple xs =>
        simp only [tn0, tn1, tn2, tn3, tn4, tn5, bT, bs, b1, DL.wp, sRet, sRetN, sRetO, sSeq, sIf, sSet, sNew, sMov, sDo, sApp, sExt, sUnp, sPar, sParN, sNext, setAll, dAnd, dOr, dNot, dIf, dIsi, dv, dC, dOp, cI0, cII, gII, cSc, eSc, chI, chI3, chN, nmD, gNotInS, cInC, gInC, cIxS, gIxS, cAddS, gAddS, strI, sgn, dB, mask, stl, sSetM, sNewM, sAppM, sExtM, sUnpM, b1M, dNeg, dEmp, nList, nCat, nSl, sRetN,  dtAnd, dtOr, dtNot, bw1, dCall, dCallJ, nCall, dCB, aCons, aNil, dTup, nLst, dNew, gLen, cLen, gTu, cTu, c2I, g2I, c1I, g1I, itm, cIx, gSl, oNo, oPt, dAll, dSum, dRepr, gCat, cCat, cInS, gInS, isN, ini, List.map, List.length, List.replicate, List.append, List.cons_append, List.nil_append, List.append_nil, List.getElem?_cons_zero, List.getElem?_cons_succ, List.set_cons_zero, List.set_cons_succ, List.length_cons, List.length_nil, Option.getD_some, true_and, and_true, if_true, if_false, isT_int_int, isT_bool_int, isT_tuple_tuple, isT_str_str, Bool.not_false, Bool.not_true, false_implies, List.length_map, Bool.false_eq_true, Bool.true_eq_false, isT_int_none, isT_int_bool, isT_int_str, isT_int_list, isT_int_tuple, isT_int_dict, isT_bool_none, isT_bool_bool, isT_bool_str, isT_bool_list, isT_bool_tuple, isT_bool_dict, isT_tuple_none, isT_tuple_bool, isT_tuple_int, isT_tuple_str, isT_tuple_list, isT_tuple_dict, isT_str_none, isT_str_bool, isT_str_int, isT_str_list, isT_str_tuple, isT_str_dict]
        have k' : Q (.bool (decide (a ≤ (xs.length : Int)) && decide ((xs.length : Int) ≤ b))) := k
        by_cases h1 : a ≤ (xs.length : Int) <;> by_cases h2 : (xs.length : Int) ≤ b <;> simpa [h1, h2] using k'
      | none => rw [isT_tuple_none] at c; cases c
      | bool x => rw [isT_tuple_bool] at c; cases c
      | int x => rw [isT_tuple_int] at c; cases c
      | str x => rw [isT_tuple_str] at c; cases c
      | list x => rw [isT_tuple_list] at c; cases c
      | dict x => exact (nomatch (show (kitB "dict" "tuple").getD false = true from c))
    · rw [if_neg c]
      rw [no (by simpa using c)] at k
      exact k

end
end LQ

namespace GuL
open PySem PySem.Spec PyProof.Rows L2
theorem FnG.imp9 {P : Program} {w : World} {K : PySem.W.Frag} {mg : Str → Option Value} {base : Heap} {CX : CXT} {k : Nat} {f : Addr} {fd : FuncData} {ps : List Str} {sp sp' : Sp} (F : FnG P w K mg base CX k f fd ps sp) (h : ∀ vs H Q E, sp' vs H Q E → sp vs H Q E) : FnG P w K mg base CX k f fd ps sp' :=
  ⟨fun vs H Q E q => F.len vs H Q E (h _ _ _ _ q), fun A outer s H args us vs Q E ha hr he hb hv hs => F.go A outer s H args us vs Q E ha hr he hb hv (h _ _ _ _ hs)⟩
end GuL
namespace LQ
open PySem PySem.Spec PyProof.Rows L2 GuL HG DL
section
variable {P : Program} {w : World} {K : PySem.W.Frag} {mg : Str → Option Value} {base : Heap}
/-! ### the jar -/
def spJar (K : PySem.W.Frag) : Sp := fun vs H Q _ => ∃ (a : Addr) (ns : List Int) (t : Int), vs = [.ref a, .int t] ∧ SqL K H a (ns.map V.int) ∧ ns.length ≤ 63 ∧ 0 ≤ t ∧
  ∀ H' p o m, Same H H' → H p = none → H' p = some (bw o m 0) → 0 ≤ o → Q (.ref p) H'
theorem ok_jar {f : Addr} {fd : FuncData} (F : Fun K "_law_jar" "_law_jar" s__law_jar f fd) (B : Blt mg) : FnOk P w K mg base CX0 1 f fd p__law_jar (spJar K) := by
  refine F.ok sc__law_jar (fun vs H Q E h => ?_) (fun cdv A outer s H vs Q E hr h => ?_)
  · obtain ⟨a, ns, t, rfl, _⟩ := h
    rfl
  · obtain ⟨a, ns, t, rfl, hS, hlen, ht, k⟩ := h
    refine ⟨_, pss_cons (ps_set (i := 2) sc__law_jar.nd rfl (.inl rfl) (pe_op op_add pe_int (pe_op op_mul pe_int (pv 1))))
      (pss_cons (ps_for PassesOwn.never rfl (pi_list (pe_slice sl_list (pv 0) po_none (po_some pe_int))) (pg_name (i := 3) sc__law_jar.nd rfl (.inl rfl))
        (pss_one (ps_set (i := 2) sc__law_jar.nd rfl (.inl rfl) (pe_op op_mod (pe_callTy call_int1 (by rfl) B.int (by decide +kernel) (pa_cons (pe_op op_add (pe_op op_add (pe_op op_mul (pv 2) pe_int) (pe_op op_mul (pe_op op_mod (pe_callTy call_int1 (by rfl) B.int (by decide +kernel) (pa_cons (pv 3) pa_nil)) pe_int) pe_int)) pe_int) pa_nil)) pe_int))))
      (Evl.pss_cut (ps_set (i := 4) sc__law_jar.nd rfl (.inl rfl) (pe_ifExp (pt_cmpR op_lt (pv 1) (pe_callB call_len_seq (by rfl) B.len PySem.boot_len (pa_cons (pv 0) pa_nil)) (nomark _))
          (pe_callTy call_int1 (by rfl) B.int (by decide +kernel) (pa_cons (pe_ix ix_list (pv 0) (pv 1) (fun _ _ => rfl)) pa_nil)) pe_int))
      (Evl.pss_cut (ps_set (i := 2) sc__law_jar.nd rfl (.inl rfl) (pe_op op_mod (pe_callTy call_int1 (by rfl) B.int (by decide +kernel) (pa_cons (pe_op op_add (pe_op op_add (pe_op op_mul (pv 2) pe_int) (pe_op op_mul (pe_op op_mod (pe_callTy call_int1 (by rfl) B.int (by decide +kernel) (pa_cons (pv 4) pa_nil)) pe_int) pe_int)) pe_int) pa_nil)) pe_int))
      (pss_one (ps_ret (pe_lst (pa_cons (pe_ifExp (PW.pt (pw_or (pt_cmpR op_lt (pv 4) pe_int (nomark _)) (pw_or1 (pt_cmpR op_ge (pv 4) (pe_op op_pow pe_int pe_int) (nomark _)))))
          (pe_callB call_abs (by rfl) B.abs (by decide +kernel) (pa_cons (pv 4) pa_nil)) pe_int) (pa_cons (pv 2) (pa_cons pe_int pa_nil))))))))), ?_⟩
    refine ⟨_, rfl, _, _, rfl, rfl, .inl ⟨by decide, by decide⟩, _, _, rfl, rfl, ?_⟩
    refine ⟨_, rfl, 9, rfl, a, ns.map V.int, rfl, hS, fun c nc => ?_⟩
    have s1 : Same H (upd H c (.lst (cutV (ns.map V.int) none (some 9)))) := same_new nc
    refine ⟨c, rfl, ⟨_, SqL.of upd_same⟩, for_list (K := K) (a := c) (xs := cutV (ns.map V.int) none (some 9)) (fun i σ H' => ∃ (m : Int) (v : Option V), σ = [some (.ref a), some (.int t), some (.int m), v, none] ∧ Same H H' ∧ H' c = some (.lst (cutV (ns.map V.int) none (some 9))))
      ⟨_, none, rfl, s1, upd_same⟩ (fun i σ H' _ ⟨_, _, _, _, e⟩ => SqL.of e) ?_ ?_⟩
    · rintro i y σ H' hi ⟨m, v, rfl, s2, ec⟩
      obtain ⟨z, rfl⟩ := int_of_mem (cutV_mem (List.mem_of_getElem? hi))
      refine ⟨_, rfl, _, _, rfl, rfl, .inr ⟨by decide, by decide⟩, _, rfl, .inl ⟨_, rfl, _, _, rfl, rfl, (by show (0 : Int) < _; decide), _, _, rfl, rfl, .inr ⟨by decide, by decide⟩, _, _, rfl, rfl, _, _, rfl, rfl, .inl ⟨_, rfl, _, _, rfl, rfl, (by show (0 : Int) < _; decide), ?_⟩⟩⟩
      exact ⟨_, _, rfl, s2, ec⟩
    · rintro σ H' ⟨m, v, rfl, s2, ec⟩
      refine ⟨fun σ' H'' => ∃ z : Int, σ' = [some (.ref a), some (.int t), some (.int m), v, some (.int z)] ∧ H'' = H', ?_, ?_⟩
      · refine ⟨_, rfl, _, rfl, a, _, rfl, .inl (s2.seq hS), _, _, rfl, rfl, _, rfl, ite2 (fun c => ?_) (fun c => ?_)⟩
        · obtain ⟨z, hz⟩ := getI (ns := ns) ht (of_decide_eq_true c)
          exact ⟨_, rfl, _, rfl, a, _, t, _, rfl, rfl, s2.seq hS, hz, .inl ⟨_, rfl, ⟨_, rfl, rfl⟩⟩⟩
        · exact ⟨_, rfl, rfl⟩
      · rintro σ' H'' ⟨z, rfl, rfl⟩
        refine ⟨fun σ' H2 => ∃ m2 : Int, σ' = [some (.ref a), some (.int t), some (.int m2), v, some (.int z)] ∧ H2 = H'', ?_, ?_⟩
        · refine ⟨_, rfl, _, _, rfl, rfl, .inr ⟨by decide, by decide⟩, _, rfl, .inl ⟨_, rfl, _, _, rfl, rfl, (by show (0 : Int) < _; decide), _, _, rfl, rfl, .inr ⟨by decide, by decide⟩, _, _, rfl, rfl, _, _, rfl, rfl, .inl ⟨_, rfl, _, _, rfl, rfl, (by show (0 : Int) < _; decide), ?_⟩⟩⟩
          exact ⟨_, rfl, rfl⟩
        · rintro σ' H2 ⟨m2, rfl, rfl⟩
          have fin : ∀ o : Int, 0 ≤ o → ∀ p, H2 p = none → Q (.ref p) (upd H2 p (bw o m2 0)) := fun o ho p hp => k _ p o m2 (s2.trans (same_new hp)) (s2.free hp) upd_same ho
          refine ⟨_, rfl, _, _, rfl, rfl, _, rfl, ite2 (fun c => ?_) (fun c => ?_)⟩
          · refine ⟨_, rfl, z, rfl, _, rfl, by show 3 ≤ sizeLine; decide, fin _ ?_⟩
            split <;> omega
          · refine ⟨_, rfl, _, _, rfl, rfl, ⟨by decide, by decide, by decide⟩, _, _, rfl, rfl, _, rfl, ite2 (fun c => ?_) (fun c => ?_)⟩
            · refine ⟨_, rfl, z, rfl, _, rfl, by show 3 ≤ sizeLine; decide, fin _ ?_⟩
              split <;> omega
            · exact ⟨_, rfl, by show 3 ≤ sizeLine; decide, fin _ (by decide)⟩
end
section
variable {P : Program} {w : World} {K : PySem.W.Frag} {mg : Str → Option Value} {base : Heap}
/-! ### a draw -/
def spDraw : Sp := fun vs H Q _ => ∃ (b : Addr) (t o m c : Int), vs = [.ref b, .int t] ∧ H b = some (bw o m c) ∧ 0 ≤ o ∧ 0 < t ∧ t ≤ 4294967296 ∧
  ∀ H' r o' m' c', Exb b H H' → H' b = some (bw o' m' c') → 0 ≤ o' → 0 ≤ r → r < t → Q (.int r) H'
theorem ok_draw0 {f : Addr} {fd : FuncData} (F : Fun K "_law_draw" "_law_draw" s__law_draw f fd) (B : Blt mg) : FnOk P w K mg base CX0 1 f fd p__law_draw spDraw := by
  refine F.ok sc__law_draw (fun vs H Q E h => ?_) (fun cdv A outer s H vs Q E hr h => ?_)
  · obtain ⟨b, t, o, m, c, rfl, _⟩ := h
    rfl
  · obtain ⟨b, t, o, m, c, rfl, hb, ho, ht, ht2, k⟩ := h
    refine ⟨_, pss_cons (ps_if (pt_cmpR op_gt (pe_ix ix_list (pv 0) pe_int (fun _ _ => rfl)) pe_int (nomark _))
        (pss_cons (ps_asg (pe_callB call_divmodW (by rfl) B.divmod (by decide +kernel) (pa_cons (pe_ix ix_list (pv 0) pe_int (fun _ _ => rfl)) (pa_cons (pv 1) pa_nil)))
            (pg_tup (by rfl) (pgs_cons (pg_sub (pv 0) pe_int set_list) (pgs_cons (pg_name (i := 2) sc__law_draw.nd rfl (.inl rfl)) pgs_nil))))
          (pss_one (ps_ret (pv 2)))) pss_nil)
      (pss_cons (ps_asg (pe_op op_add (pe_ix ix_list (pv 0) pe_int (fun _ _ => rfl)) pe_int) (pg_sub (pv 0) pe_int set_list))
      (pss_cons (ps_set (i := 3) sc__law_draw.nd rfl (.inl rfl) (pe_op op_mod (pe_callTy call_int1 (by rfl) B.int (by decide +kernel) (pa_cons (pe_op op_add (pe_op op_add (pe_op op_mul (pe_ix ix_list (pv 0) pe_int (fun _ _ => rfl)) pe_int) (pe_op op_mul (pe_ix ix_list (pv 0) pe_int (fun _ _ => rfl)) pe_int)) pe_int) pa_nil)) pe_int))
      (pss_cons (ps_asg (pv 3) (pg_sub (pv 0) pe_int set_list))
      (pss_one (ps_ret (pe_op op_mod (pe_callTy call_int1 (by rfl) B.int (by decide +kernel) (pa_cons (pe_op op_fdiv (pe_op op_mod (pe_callTy call_int1 (by rfl) B.int (by decide +kernel) (pa_cons (pe_op op_mul (pv 3) (pe_op op_add (pe_op op_mod (pe_callTy call_int1 (by rfl) B.int (by decide +kernel) (pa_cons (pv 3) pa_nil)) pe_int) pe_int)) pa_nil)) pe_int) pe_int) pa_nil)) (pv 1))))))), ?_⟩
    refine ⟨_, rfl, b, _, 0, _, rfl, rfl, SqL.of hb, atI_nat (j := 0) rfl, _, _, rfl, rfl, _, rfl, ite2 (fun c1 => ?_) (fun c1 => ?_)⟩
    · have o1 : 0 < o := of_decide_eq_true c1
      refine ⟨_, rfl, b, _, 0, _, rfl, rfl, SqL.of hb, atI_nat (j := 0) rfl, _, rfl, _, _, rfl, ⟨ht, PyProof.noPylong_of_log2 ?_⟩, fun p hp => ?_⟩
      · have l40 : t.natAbs.log2 < 40 := log_small (show t.natAbs < 2 ^ 40 by omega)
        omega
      have npb : b ≠ p := ne_of_none hb hp
      refine ⟨p, _, rfl, SqT.of upd_same, rfl, _, _, rfl, _, rfl, b, _, 0, 0, rfl, rfl, (by rw [upd_ne npb]; exact hb), rfl, _, _, rfl, rfl, ?_⟩
      refine ⟨_, rfl, ?_⟩
      refine k _ _ _ _ _ ((Exb.of (same_new hp)).trans Exb.put) upd_same (Int.ediv_nonneg ho (Int.le_of_lt ht)) (Int.emod_nonneg _ (by omega)) (Int.emod_lt_of_pos _ ht)
    · refine ⟨_, rfl, b, _, 2, _, rfl, rfl, SqL.of hb, atI_nat (j := 2) rfl, _, _, rfl, rfl, _, rfl, b, _, 2, 2, rfl, rfl, hb, rfl, ?_⟩
      refine ⟨_, rfl, b, _, 1, _, rfl, rfl, SqL.of upd_same, atI_nat (j := 1) rfl, _, _, rfl, rfl, .inr ⟨by decide, by decide⟩, _, rfl, b, _, 2, _, rfl, rfl, SqL.of upd_same, atI_nat (j := 2) rfl, _, _, rfl, rfl, .inr ⟨by decide, by decide⟩, _, _, rfl, rfl, _, _, rfl, rfl, .inl ⟨_, rfl, _, _, rfl, rfl, (by show (0 : Int) < _; decide), ?_⟩⟩
      generalize hst : (m * 48271 + (c + 1) * 40009 + 3) % 2147483477 = st
      have g0 : 0 ≤ st := by rw [← hst]; exact Int.emod_nonneg _ (by decide)
      have g1 : st < 2147483477 := by rw [← hst]; exact Int.emod_lt_of_pos _ (by decide)
      refine ⟨_, rfl, _, rfl, b, _, 1, 1, rfl, rfl, upd_same, rfl, ?_⟩
      refine ⟨_, rfl, _, rfl, .inl ⟨_, rfl, _, _, rfl, rfl, (by show (0 : Int) < _; decide), _, _, rfl, rfl, _, _, rfl, rfl, .inl ⟨by omega, by omega⟩, .inl ⟨_, rfl, _, _, rfl, rfl, (by show (0 : Int) < _; decide), _, _, rfl, rfl, ⟨by decide, by decide⟩, .inl ⟨_, rfl, _, rfl, _, _, rfl, rfl, ht, ?_⟩⟩⟩⟩
      exact k _ _ _ _ _ (Exb.put.trans Exb.put) upd_same ho (Int.emod_nonneg _ (by omega)) (Int.emod_lt_of_pos _ ht)
def fDraw : DF := fun ds Q => ∃ t : Int, ds = [.int t] ∧ 0 < t ∧ t ≤ 4294967296 ∧ ∀ r : Int, 0 ≤ r → r < t → Q (.int r)
theorem moDraw : MoF fDraw := fun _ _ _ m ⟨t, e, a, b, q⟩ => ⟨t, e, a, b, fun r h1 h2 => m _ (q r h1 h2)⟩
theorem ok_draw {f : Addr} {fd : FuncData} (F : Fun K "_law_draw" "_law_draw" s__law_draw f fd) (B : Blt mg) : FnG P w K mg base CX0 1 f fd p__law_draw (spJ K fDraw) := by
  refine (FnG.of (ok_draw0 F B)).imp9 fun vs H Q E h => ?_
  obtain ⟨b, vs', ds, rfl, ⟨_, kn⟩, h2, t, rfl, h3, h4, q⟩ := h
  obtain ⟨o, m, c, e1, e2⟩ := kn rfl
  cases h2 with
  | cons h5 h6 =>
    cases h5
    cases h6
    refine ⟨b.jar, t, o, m, c, rfl, e1, e2, h3, h4, fun H' r o' m' c' x g1 g2 r0 r1 => q r r0 r1 _ H' ⟨fun p u n h => x p u (n rfl) h, fun _ _ => ⟨o', m', c', g1, g2⟩⟩ (.int r)⟩
/-! ### one of a row -/
def fOf : DF := fun ds Q => ∃ xs : List PyData, (ds = [.tuple xs] ∨ ds = [.list xs]) ∧ 0 < xs.length ∧ xs.length ≤ 100000 ∧ ∀ x ∈ xs, Q x
theorem moOf : MoF fOf := fun _ _ _ m ⟨t, e, a, b, q⟩ => ⟨t, e, a, b, fun r h1 => m _ (q r h1)⟩
theorem ok_of {f fD : Addr} {fd dD : FuncData} (F : Fun K "_law_of" "_law_of" s__law_of f fd) (B : Blt mg) (KD : DK P w K mg base 1 "_law_draw" s__law_draw p__law_draw (spJ K fDraw) fD dD) : FnG P w K mg base CX0 2 f fd p__law_of (spJ K fOf) := by
  refine fnJ F sc__law_of moOf (fun ds Q h => ?_) (fun cdv A outer s H E b hA hr => ⟨_, (dss_one (ds_ret (de_ix (de_v (pv 1)) (de_callJ (i := 0) KD.G moDraw hA (hr.mono (by decide)) (by rfl) KD.g KD.F.kp KD.b pass0 (pv 0) (da_cons (de_len (by rfl) B.len (da_cons (de_v (pv 1)) da_nil)) da_nil)) (fun _ _ => rfl)))), fun ds Q h => ?_⟩)
  · obtain ⟨xs, rfl | rfl, _⟩ := h <;> rfl
  · obtain ⟨xs, h, h1, h2, k⟩ := h
    rcases h with rfl | rfl
    · simp only [tn0, tn1, tn2, tn3, tn4, tn5, bT, bs, b1, DL.wp, sRet, sRetN, sRetO, sSeq, sIf, sSet, sNew, sMov, sDo, sApp, sExt, sUnp, sPar, sParN, sNext, setAll, dAnd, dOr, dNot, dIf, dIsi, dv, dC, dOp, cI0, cII, gII, cSc, eSc, chI, chI3, chN, nmD, dB, mask, stl, sSetM, sNewM, sAppM, sExtM, sUnpM, b1M, dNeg, dEmp, nList, nCat, nSl, sRetN,  dtAnd, dtOr, dtNot, bw1, dCall, dCallJ, nCall, dCB, aCons, aNil, dTup, nLst, dNew, gLen, cLen, gTu, cTu, c2I, g2I, c1I, g1I, itm, cIx, gSl, oNo, oPt, dAll, dSum, dRepr, gCat, cCat, cInS, gInS, isN, ini, List.map, List.length, List.replicate, List.append, List.cons_append, List.nil_append, List.append_nil, List.getElem?_cons_zero, List.getElem?_cons_succ, List.set_cons_zero, List.set_cons_succ, List.length_cons, List.length_nil, Option.getD_some, true_and, and_true, if_true, if_false, isT_int_int, isT_bool_int, isT_tuple_tuple, isT_str_str, Bool.not_false, Bool.not_true, false_implies, List.length_map, Bool.false_eq_true, Bool.true_eq_false, isT_int_none, isT_int_bool, isT_int_str, isT_int_list, isT_int_tuple, isT_int_dict, isT_bool_none, isT_bool_bool, isT_bool_str, isT_bool_list, isT_bool_tuple, isT_bool_dict, isT_tuple_none, isT_tuple_bool, isT_tuple_int, isT_tuple_str, isT_tuple_list, isT_tuple_dict, isT_str_none, isT_str_bool, isT_str_int, isT_str_list, isT_str_tuple, isT_str_dict]
      refine ⟨_, rfl, by omega, by omega, fun r r0 r1 => ?_⟩
      obtain ⟨i, rfl⟩ := Int.eq_ofNat_of_zero_le r0
      have hi : i < xs.length := by omega
      refine ⟨⟨by omega, by omega⟩, ?_⟩
      show Q ((xs[i]?).getD .none)
      rw [List.getElem?_eq_getElem hi]
      exact k _ (List.getElem_mem hi)
    · simp only [tn0, tn1, tn2, tn3, tn4, tn5, bT, bs, b1, DL.wp, sRet, sRetN, sRetO, sSeq, sIf, sSet, sNew, sMov, sDo, sApp, sExt, sUnp, sPar, sParN, sNext, setAll, dAnd, dOr, dNot, dIf, dIsi, dv, dC, dOp, cI0, cII, gII, cSc, eSc, chI, chI3, chN, nmD, dB, mask, stl, sSetM, sNewM, sAppM, sExtM, sUnpM, b1M, dNeg, dEmp, nList, nCat, nSl, sRetN,  dtAnd, dtOr, dtNot, bw1, dCall, dCallJ, nCall, dCB, aCons, aNil, dTup, nLst, dNew, gLen, cLen, gTu, cTu, c2I, g2I, c1I, g1I, itm, cIx, gSl, oNo, oPt, dAll, dSum, dRepr, gCat, cCat, cInS, gInS, isN, ini, List.map, List.length, List.replicate, List.append, List.cons_append, List.nil_append, List.append_nil, List.getElem?_cons_zero, List.getElem?_cons_succ, List.set_cons_zero, List.set_cons_succ, List.length_cons, List.length_nil, Option.getD_some, true_and, and_true, if_true, if_false, isT_int_int, isT_bool_int, isT_tuple_tuple, isT_str_str, Bool.not_false, Bool.not_true, false_implies, List.length_map, Bool.false_eq_true, Bool.true_eq_false, isT_int_none, isT_int_bool, isT_int_str, isT_int_list, isT_int_tuple, isT_int_dict, isT_bool_none, isT_bool_bool, isT_bool_str, isT_bool_list, isT_bool_tuple, isT_bool_dict, isT_tuple_none, isT_tuple_bool, isT_tuple_int, isT_tuple_str, isT_tuple_list, isT_tuple_dict, isT_str_none, isT_str_bool, isT_str_int, isT_str_list, isT_str_tuple, isT_str_dict]
      refine ⟨_, rfl, by omega, by omega, fun r r0 r1 => ?_⟩
      obtain ⟨i, rfl⟩ := Int.eq_ofNat_of_zero_le r0
      have hi : i < xs.length := by omega
      refine ⟨⟨by omega, by omega⟩, ?_⟩
      show Q ((xs[i]?).getD .none)
      rw [List.getElem?_eq_getElem hi]
      exact k _ (List.getElem_mem hi)
/-! ### the same, by what is shown -/
def fSame : DF := fun ds Q => ∃ d : PyData, ds = [d, d] ∧ Okd d ∧ d.hasDict = false ∧ Q (.bool true)
theorem moSame : MoF fSame := fun _ _ _ m ⟨t, e, a, b, q⟩ => ⟨t, e, a, b, m _ q⟩
theorem ok_same {f : Addr} {fd : FuncData} (F : Fun K "_law_same" "_law_same" s__law_same f fd) (B : Blt mg) : FnG P w K mg base CX0 1 f fd p__law_same (spP K fSame) := by
  refine fnP F sc__law_same moSame (fun ds Q h => ?_) (fun cdv A outer s H E b hA hr => ⟨_, (dss_one (ds_ret (de_eq (de_repr hA (hu hr) (by rfl) B.repr (de_v (pv 0))) (de_repr hA (hu hr) (by rfl) B.repr (de_v (pv 1)))))), fun ds Q h => ?_⟩)
  · obtain ⟨d, rfl, _⟩ := h
    rfl
  · obtain ⟨d, rfl, h1, h2, k⟩ := h
    simp only [tn0, tn1, tn2, tn3, tn4, tn5, bT, bs, b1, DL.wp, sRet, sRetN, sRetO, sSeq, sIf, sSet, sNew, sMov, sDo, sApp, sExt, sUnp, sPar, sParN, sNext, setAll, dAnd, dOr, dNot, dIf, dIsi, dv, dC, dOp, cI0, cII, gII, cSc, eSc, chI, chI3, chN, nmD, dB, mask, stl, sSetM, sNewM, sAppM, sExtM, sUnpM, b1M, dNeg, dEmp, nList, nCat, nSl, sRetN,  dtAnd, dtOr, dtNot, bw1, dCall, dCallJ, nCall, dCB, aCons, aNil, dTup, nLst, dNew, gLen, cLen, gTu, cTu, c2I, g2I, c1I, g1I, itm, cIx, gSl, oNo, oPt, dAll, dSum, dRepr, gCat, cCat, cInS, gInS, isN, ini, List.map, List.length, List.replicate, List.append, List.cons_append, List.nil_append, List.append_nil, List.getElem?_cons_zero, List.getElem?_cons_succ, List.set_cons_zero, List.set_cons_succ, List.length_cons, List.length_nil, Option.getD_some, true_and, and_true, if_true, if_false, isT_int_int, isT_bool_int, isT_tuple_tuple, isT_str_str, Bool.not_false, Bool.not_true, false_implies, List.length_map, Bool.false_eq_true, Bool.true_eq_false, isT_int_none, isT_int_bool, isT_int_str, isT_int_list, isT_int_tuple, isT_int_dict, isT_bool_none, isT_bool_bool, isT_bool_str, isT_bool_list, isT_bool_tuple, isT_bool_dict, isT_tuple_none, isT_tuple_bool, isT_tuple_int, isT_tuple_str, isT_tuple_list, isT_tuple_dict, isT_str_none, isT_str_bool, isT_str_int, isT_str_list, isT_str_tuple, isT_str_dict]
    refine ⟨h1, h2, h1, h2, ?_⟩
    simpa using k
/-! ### 2 to a width -/
def fTop : DF := fun ds Q => ∃ n : Nat, ds = [.int (n : Nat)] ∧ n ≤ 32 ∧ Q (.int ((2 ^ n : Nat) : Int))
theorem moTop : MoF fTop := fun _ _ _ m ⟨t, e, a, q⟩ => ⟨t, e, a, m _ q⟩
theorem ok_top {f : Addr} {fd : FuncData} (F : Fun K "_law_top" "_law_top" s__law_top f fd) (B : Blt mg) : FnG P w K mg base CX0 1 f fd p__law_top (spP K fTop) := by
  refine fnP F sc__law_top moTop (fun ds Q h => ?_) (fun cdv A outer s H E b hA hr => ⟨_, (dss_cons (ds_set (i := 1) sc__law_top.nd rfl (by first | exact Or.inl rfl | exact Or.inr rfl) de_int) (dss_cons (ds_for (p := (.one (.n 2))) PassesOwn.never rfl (di_rng1 (by rfl) B.range (da_cons (de_v (pv 0)) da_nil)) (pg_name (i := 2) sc__law_top.nd rfl (by first | exact Or.inl rfl | exact Or.inr rfl)) (dss_one (ds_set (i := 1) sc__law_top.nd rfl (by first | exact Or.inl rfl | exact Or.inr rfl) (de_mul (de_v (pv 1)) de_int)))) (dss_one (ds_ret (de_v (pv 1)))))), fun ds Q h => ?_⟩)
  · obtain ⟨n, rfl, _⟩ := h
    rfl
  · obtain ⟨n, rfl, h1, k⟩ := h
    simp only [tn0, tn1, tn2, tn3, tn4, tn5, bT, bs, b1, DL.wp, sRet, sRetN, sRetO, sSeq, sIf, sSet, sNew, sMov, sDo, sApp, sExt, sUnp, sPar, sParN, sNext, setAll, dAnd, dOr, dNot, dIf, dIsi, dv, dC, dOp, cI0, cII, gII, cSc, eSc, chI, chI3, chN, nmD, dB, mask, stl, sSetM, sNewM, sAppM, sExtM, sUnpM, b1M, dNeg, dEmp, nList, nCat, nSl, sRetN,  dtAnd, dtOr, dtNot, bw1, dCall, dCallJ, nCall, dCB, aCons, aNil, dTup, nLst, dNew, gLen, cLen, gTu, cTu, c2I, g2I, c1I, g1I, itm, cIx, gSl, oNo, oPt, dAll, dSum, dRepr, gCat, cCat, cInS, gInS, isN, ini, List.map, List.length, List.replicate, List.append, List.cons_append, List.nil_append, List.append_nil, List.getElem?_cons_zero, List.getElem?_cons_succ, List.set_cons_zero, List.set_cons_succ, List.length_cons, List.length_nil, Option.getD_some, true_and, and_true, if_true, if_false, isT_int_int, isT_bool_int, isT_tuple_tuple, isT_str_str, Bool.not_false, Bool.not_true, false_implies, List.length_map, Bool.false_eq_true, Bool.true_eq_false, isT_int_none, isT_int_bool, isT_int_str, isT_int_list, isT_int_tuple, isT_int_dict, isT_bool_none, isT_bool_bool, isT_bool_str, isT_bool_list, isT_bool_tuple, isT_bool_dict, isT_tuple_none, isT_tuple_bool, isT_tuple_int, isT_tuple_str, isT_tuple_list, isT_tuple_dict, isT_str_none, isT_str_bool, isT_str_int, isT_str_list, isT_str_tuple, isT_str_dict, sFor, rng1I]
    refine ⟨.int _, ⟨by omega, by omega⟩, fun i ρ => ∃ s1, frzs [s1] = [none] ∧ ρ = [.par (.int (n : Nat)), .dat (.int ((2 ^ i : Nat) : Int)), s1], ⟨SV.nil, rfl, rfl⟩, ?_, ?_⟩
    · rintro i d ρ hd ⟨s1, hf, rfl⟩
      unfold rngD at hd
      rw [List.getElem?_map] at hd
      cases hi : (List.range ((n : Int).toNat))[i]? with
      | none => rw [hi] at hd; cases hd
      | some z =>
        rw [hi] at hd
        cases hd
        have hl := (List.getElem?_eq_some_iff.mp hi).1
        rw [List.length_range, Int.toNat_natCast] at hl
        have p2 : (2 : Nat) ^ i ≤ 2 ^ 32 := Nat.pow_le_pow_right (by decide) (by omega)
        simp only [tn0, tn1, tn2, tn3, tn4, tn5, bT, bs, b1, DL.wp, sRet, sRetN, sRetO, sSeq, sIf, sSet, sNew, sMov, sDo, sApp, sExt, sUnp, sPar, sParN, sNext, setAll, dAnd, dOr, dNot, dIf, dIsi, dv, dC, dOp, cI0, cII, gII, cSc, eSc, chI, chI3, chN, nmD, dB, mask, stl, sSetM, sNewM, sAppM, sExtM, sUnpM, b1M, dNeg, dEmp, nList, nCat, nSl, sRetN,  dtAnd, dtOr, dtNot, bw1, dCall, dCallJ, nCall, dCB, aCons, aNil, dTup, nLst, dNew, gLen, cLen, gTu, cTu, c2I, g2I, c1I, g1I, itm, cIx, gSl, oNo, oPt, dAll, dSum, dRepr, gCat, cCat, cInS, gInS, isN, ini, List.map, List.length, List.replicate, List.append, List.cons_append, List.nil_append, List.append_nil, List.getElem?_cons_zero, List.getElem?_cons_succ, List.set_cons_zero, List.set_cons_succ, List.length_cons, List.length_nil, Option.getD_some, true_and, and_true, if_true, if_false, isT_int_int, isT_bool_int, isT_tuple_tuple, isT_str_str, Bool.not_false, Bool.not_true, false_implies, List.length_map, Bool.false_eq_true, Bool.true_eq_false, isT_int_none, isT_int_bool, isT_int_str, isT_int_list, isT_int_tuple, isT_int_dict, isT_bool_none, isT_bool_bool, isT_bool_str, isT_bool_list, isT_bool_tuple, isT_bool_dict, isT_tuple_none, isT_tuple_bool, isT_tuple_int, isT_tuple_str, isT_tuple_list, isT_tuple_dict, isT_str_none, isT_str_bool, isT_str_int, isT_str_list, isT_str_tuple, isT_str_dict]
        refine ⟨.int _, .inr ⟨by decide, by decide⟩, .int _, .dat (.int (0 + (z : Nat))), rfl, ?_⟩
        rw [Nat.pow_succ]
        simp
    · rintro ρ ⟨s1, hf, rfl⟩
      have e : (rngD 0 ((n : Int).toNat)).length = n := by unfold rngD; rw [List.length_map, List.length_range, Int.toNat_natCast]
      rw [e]
      refine ⟨?_, k⟩
      show none :: none :: frzs [s1] = _
      rw [hf]
      rfl
end
theorem noL2 {a b : PyData} (ha : NoL a) (hb : NoL b) : ∀ d ∈ [a, b], NoL d := fun d hd => by
  simp only [List.mem_cons, List.not_mem_nil, or_false] at hd
  rcases hd with rfl | rfl <;> assumption
theorem cut13 {a b c : PyData} : cutD [a, b, c] (some 1) none = [b, c] := rfl
theorem sum_app (a b : List Nat) : (a ++ b).sum = a.sum + b.sum := List.sum_append
theorem rng_get {lo : Int} {n i : Nat} {d : PyData} (h : (rngD lo n)[i]? = some d) : i < n ∧ d = .int (lo + (i : Nat)) := by
  unfold rngD at h
  rw [List.getElem?_map] at h
  cases e : (List.range n)[i]? with
  | none => rw [e] at h; cases h
  | some z =>
    rw [e] at h
    cases h
    have hl := (List.getElem?_eq_some_iff.mp e).1
    rw [List.length_range] at hl
    rw [List.getElem?_range hl] at e
    cases e
    exact ⟨hl, rfl⟩
theorem rng_len {lo : Int} {n : Nat} : (rngD lo n).length = n := by unfold rngD; rw [List.length_map, List.length_range]
theorem p32 {n : Nat} (h : n ≤ 32) : 2 ^ n ≤ 4294967296 := Nat.le_trans (Nat.pow_le_pow_right (by decide) h) (by decide)
theorem cmR {a : Int} {t : Nat} (h : t ≤ 4294967296) : CMul a (t : Int) := .inr ⟨by omega, by omega⟩
theorem cdw {n : Nat} {x : Int} (h : n ≤ 32) : CDivW x ((2 ^ n : Nat) : Int) := by
  have h1 := p32 h
  have h2 := Nat.two_pow_pos n
  refine ⟨by omega, ?_⟩
  have : ((2 ^ n : Nat) : Int).natAbs.log2 < 40 := log_small (show ((2 ^ n : Nat) : Int).natAbs < 2 ^ 40 by omega)
  omega
section
variable {P : Program} {w : World} {K : PySem.W.Frag} {mg : Str → Option Value} {base : Heap}

theorem ok_whole {f : Addr} {fd : FuncData} (F : Fun K "_law_is_whole" "_law_is_whole" s__law_is_whole f fd) (B : Blt mg) : FnG P w K mg base CX0 1 f fd p__law_is_whole (spP K fNumA) := by
  refine fnP F sc__law_is_whole moNumA (fun ds Q h => ?_) (fun cdv A outer s H E b hA hr => ⟨_, (dss_one (ds_ret (de_andV (de_isi (by rfl) B.isi (pe_bltn (v := .ty "int") (by rfl) B.int (by decide +kernel) rfl) kit_int (de_v (pv 0))) (de_andV (de_not (de_isi (by rfl) B.isi (pe_bltn (v := .ty "bool") (by rfl) B.bool (by decide +kernel) rfl) kit_bool (de_v (pv 0)))) (de_one (de_lele (de_v (pv 1)) (de_v (pv 0)) (de_v (pv 2)))))))), fun ds Q h => ?_⟩)
  · obtain ⟨z, a, b, rfl, _⟩ := h
    rfl
  · obtain ⟨d, a, b, rfl, k⟩ := h
    cases d with
    | int z =>
      simp only [tn0, tn1, tn2, tn3, tn4, tn5, bT, bs, b1, DL.wp, sRet, sRetN, sRetO, sSeq, sIf, sSet, sNew, sMov, sDo, sApp, sExt, sUnp, sPar, sParN, sNext, setAll, dAnd, dOr, dNot, dIf, dIsi, dv, dC, dOp, cI0, cII, gII, cSc, eSc, chI, chI3, chN, nmD, dCall0, gNotInS, cInC, gInC, cIxS, gIxS, cAddS, gAddS, strI, sgn, dB, mask, stl, sSetM, sNewM, sAppM, sExtM, sUnpM, b1M, dNeg, dEmp, nList, nCat, nSl, sRetN,  dtAnd, dtOr, dtNot, bw1, dCall, dCallJ, nCall, dCB, aCons, aNil, dTup, nLst, dNew, gLen, cLen, gTu, cTu, c2I, g2I, c1I, g1I, itm, cIx, gSl, oNo, oPt, dAll, dSum, dRepr, gCat, cCat, cInS, gInS, isN, ini, List.map, List.length, List.replicate, List.append, List.cons_append, List.nil_append, List.append_nil, List.getElem?_cons_zero, List.getElem?_cons_succ, List.set_cons_zero, List.set_cons_succ, List.length_cons, List.length_nil, Option.getD_some, true_and, and_true, if_true, if_false, isT_int_int, isT_bool_int, isT_tuple_tuple, isT_str_str, Bool.not_false, Bool.not_true, false_implies, List.length_map, Bool.false_eq_true, Bool.true_eq_false, isT_int_none, isT_int_bool, isT_int_str, isT_int_list, isT_int_tuple, isT_int_dict, isT_bool_none, isT_bool_bool, isT_bool_str, isT_bool_list, isT_bool_tuple, isT_bool_dict, isT_tuple_none, isT_tuple_bool, isT_tuple_int, isT_tuple_str, isT_tuple_list, isT_tuple_dict, isT_str_none, isT_str_bool, isT_str_int, isT_str_list, isT_str_tuple, isT_str_dict]
      by_cases h1 : a ≤ z <;> by_cases h2 : z ≤ b <;> simpa [numB, h1, h2] using k
    | _ =>
      simp only [tn0, tn1, tn2, tn3, tn4, tn5, bT, bs, b1, DL.wp, sRet, sRetN, sRetO, sSeq, sIf, sSet, sNew, sMov, sDo, sApp, sExt, sUnp, sPar, sParN, sNext, setAll, dAnd, dOr, dNot, dIf, dIsi, dv, dC, dOp, cI0, cII, gII, cSc, eSc, chI, chI3, chN, nmD, dCall0, gNotInS, cInC, gInC, cIxS, gIxS, cAddS, gAddS, strI, sgn, dB, mask, stl, sSetM, sNewM, sAppM, sExtM, sUnpM, b1M, dNeg, dEmp, nList, nCat, nSl, sRetN,  dtAnd, dtOr, dtNot, bw1, dCall, dCallJ, nCall, dCB, aCons, aNil, dTup, nLst, dNew, gLen, cLen, gTu, cTu, c2I, g2I, c1I, g1I, itm, cIx, gSl, oNo, oPt, dAll, dSum, dRepr, gCat, cCat, cInS, gInS, isN, ini, List.map, List.length, List.replicate, List.append, List.cons_append, List.nil_append, List.append_nil, List.getElem?_cons_zero, List.getElem?_cons_succ, List.set_cons_zero, List.set_cons_succ, List.length_cons, List.length_nil, Option.getD_some, true_and, and_true, if_true, if_false, isT_int_int, isT_bool_int, isT_tuple_tuple, isT_str_str, Bool.not_false, Bool.not_true, false_implies, List.length_map, Bool.false_eq_true, Bool.true_eq_false, isT_int_none, isT_int_bool, isT_int_str, isT_int_list, isT_int_tuple, isT_int_dict, isT_bool_none, isT_bool_bool, isT_bool_str, isT_bool_list, isT_bool_tuple, isT_bool_dict, isT_tuple_none, isT_tuple_bool, isT_tuple_int, isT_tuple_str, isT_tuple_list, isT_tuple_dict, isT_str_none, isT_str_bool, isT_str_int, isT_str_list, isT_str_tuple, isT_str_dict]
      exact k
/-! ### kept words -/

end
theorem num_int {d : PyData} {a b : Int} (h : numB d a b = true) : ∃ z : Int, d = .int z ∧ a ≤ z ∧ z ≤ b := by
  cases d with
  | int z =>
    have h' : (decide (a ≤ z) && decide (z ≤ b)) = true := h
    rw [Bool.and_eq_true, decide_eq_true_eq, decide_eq_true_eq] at h'
    exact ⟨z, rfl, h'.1, h'.2⟩
  | _ => cases h
theorem num_word {d : PyData} {w : Nat} : numB d 0 (((2 ^ w : Nat) : Int) - 1) = wordB d w := by
  cases d with
  | int z =>
    show (decide (0 ≤ z) && decide (z ≤ ((2 ^ w : Nat) : Int) - 1)) = (decide (0 ≤ z) && decide (z < 2 ^ w))
    have e : decide (z ≤ ((2 ^ w : Nat) : Int) - 1) = decide (z < 2 ^ w) := by
      rw [decide_eq_decide]
      have : ((2 ^ w : Nat) : Int) = 2 ^ w := by simp
      omega
    rw [e]
  | _ => rfl
theorem isT_tup {d : PyData} (h : isT "tuple" d = true) : ∃ ds, d = .tuple ds := by
  cases d with
  | tuple ds => exact ⟨ds, rfl⟩
  | none => rw [isT_tuple_none] at h; cases h
  | bool x => rw [isT_tuple_bool] at h; cases h
  | int x => rw [isT_tuple_int] at h; cases h
  | str x => rw [isT_tuple_str] at h; cases h
  | list x => rw [isT_tuple_list] at h; cases h
  | dict x => rw [isT_tuple_dict] at h; cases h
mutual
def gdB : PyData → Bool
  | .none => true
  | .bool _ => true
  | .int _ => true
  | .str z => decide (z ∈ txts)
  | .list ds => gdBs ds
  | .tuple ds => gdBs ds
  | .dict [] => true
  | .dict (_ :: _) => false
def gdBs : List PyData → Bool
  | [] => true
  | d :: ds => gdB d && gdBs ds
end
mutual
theorem gd_of : ∀ d : PyData, gdB d = true → Gd d
  | .none, _ => .non
  | .bool _, _ => .bl _
  | .int _, _ => .int _
  | .str z, h => .str (by simp only [gdB] at h; exact of_decide_eq_true h)
  | .list ds, h => .lst (gds_of ds (by simpa only [gdB] using h))
  | .tuple ds, h => .tup (gds_of ds (by simpa only [gdB] using h))
  | .dict [], _ => .emp
  | .dict (_ :: _), h => by simp only [gdB, Bool.false_eq_true] at h
theorem gds_of : ∀ ds : List PyData, gdBs ds = true → ∀ d ∈ ds, Gd d
  | [], _ => fun _ h => nomatch h
  | d :: ds, h => fun x hx => by
    simp only [gdBs, Bool.and_eq_true] at h
    rcases List.mem_cons.mp hx with e | e
    · rw [e]
      exact gd_of d h.1
    · exact gds_of ds h.2 x e
end
/-- right data, that may be bent -/
inductive Bt : PyData → Prop
  | int (i : Int) : Bt (.int i)
  | str {z : Str} (h : z ∈ txts) : Bt (.str z)
  | tup {ds : List PyData} (l : ds.length ≤ 1000) (s : SeqAt.shaped (.tuple ds) = true) (h : ∀ d ∈ ds, Bt d) : Bt (.tuple ds)
theorem Bt.gd : ∀ {d : PyData}, Bt d → Gd d
  | _, .int i => .int i
  | _, .str h => .str h
  | _, .tup _ _ h => .tup fun d hd => (h d hd).gd
theorem cut_mem {ds : List PyData} {l h : Option Int} {d : PyData} (hd : d ∈ DL.cutD ds l h) : d ∈ ds := List.mem_of_mem_drop (List.mem_of_mem_take hd)
theorem cut_len {ds : List PyData} {l h : Option Int} : (DL.cutD ds l h).length ≤ ds.length := by
  unfold DL.cutD
  rw [List.length_take, List.length_drop]
  omega
theorem eqv_nilT (ds : List PyData) : PyData.eqv (.tuple ds) (.tuple []) = ds.isEmpty := by
  cases ds with
  | nil => simp [PyData.eqv, PyData.eqvAll]
  | cons _ _ => simp [PyData.eqv, PyData.eqvAll]
theorem ite_both {c : Bool} {p q : Prop} (h1 : p) (h2 : q) : if c = true then p else q := by cases c <;> assumption
theorem ite_else {p q : Prop} (h2 : q) : if false = true then p else q := by simpa using h2
theorem ite_yes {c : Bool} {p q : Prop} (e : c = true) (h1 : p) : if c = true then p else q := by rw [if_pos e]; exact h1
theorem ite_no {c : Bool} {p q : Prop} (e : c = false) (h1 : q) : if c = true then p else q := by rw [if_neg (by rw [e]; exact Bool.false_ne_true)]; exact h1
/-- tuples are not long -/
def TL (e : PyData) : Prop := ∀ xs, e = .tuple xs → xs.length ≤ 3000
def tlB : PyData → Bool | .tuple xs => decide (xs.length ≤ 3000) | _ => true
theorem tls_of (l : List PyData) (h : l.all tlB = true) : ∀ e ∈ l, TL e := fun e he xs z => by
  have := List.all_eq_true.mp h e he
  subst z
  exact of_decide_eq_true this
def fOdd : DF := fun ds Q => ds = [] ∧ ∀ e, Gd e → TL e → Q e
theorem moOdd : MoF fOdd := fun _ _ _ m ⟨e, q⟩ => ⟨e, fun x h t => m _ (q x h t)⟩
def fBent (n : Nat) : DF := fun ds Q => ∃ (d : PyData) (k : Nat), ds = [d, .int (k : Nat)] ∧ k < n ∧ Bt d ∧ ∀ e, Gd e → TL e → Q e
theorem moBent {n : Nat} : MoF (fBent n) := fun _ _ _ m ⟨d, k, a, b, c, q⟩ => ⟨d, k, a, b, c, fun x h t => m _ (q x h t)⟩
section
variable {P : Program} {w : World} {K : PySem.W.Frag} {mg : Str → Option Value} {base : Heap}

theorem ok_odd {f fO : Addr} {fd dO : FuncData} (F : Fun K "_law_odd" "_law_odd" s__law_odd f fd) (B : Blt mg) (KO : DK P w K mg base 2 "_law_of" s__law_of p__law_of (spJ K fOf) fO dO) : FnG P w K mg base CX0 3 f fd p__law_odd (spJ K fOdd) := by
  refine fnJ F sc__law_odd moOdd (fun ds Q h => ?_) (fun cdv A outer s H E b hA hr => ⟨_, (dss_cons (ds_setM (i := 1) sc__law_odd.nd rfl (by first | exact Or.inl rfl | exact Or.inr rfl) (de_tup (da_cons de_non (da_cons de_bl (da_cons de_bl (da_cons de_int (da_cons de_int (da_cons (de_neg de_int) (da_cons de_int (da_cons de_int (da_cons (de_pow de_int de_int) (da_cons de_str (da_cons de_str (da_cons de_str (da_cons de_str (da_cons (de_tup da_nil) (da_cons (de_tup (da_cons de_int da_nil)) (da_cons (de_tup (da_cons de_int (da_cons de_int da_nil))) (da_cons (de_tup (da_cons de_int (da_cons de_int da_nil))) da_nil))))))))))))))))))) (dss_cons (ds_setM (i := 1) sc__law_odd.nd rfl (by first | exact Or.inl rfl | exact Or.inr rfl) (de_cat (de_v (pv 1)) (de_tup (da_cons (de_tup (da_cons de_bl (da_cons de_int da_nil))) (da_cons (de_new (dn_lst da_nil)) (da_cons (de_new (dn_lst (da_cons de_int (da_cons de_int da_nil)))) (da_cons de_emp (da_cons (de_tup (da_cons de_str (da_cons de_int da_nil))) (da_cons (de_tup (da_cons de_str (da_cons de_int da_nil))) (da_cons (de_tup (da_cons (de_tup (da_cons de_str (da_cons de_int da_nil))) da_nil)) (da_cons (de_tup (da_cons (de_tup (da_cons de_int da_nil)) (da_cons de_str (da_cons (de_tup da_nil) da_nil)))) (da_cons (de_tup (da_cons de_int (da_cons de_int (da_cons de_int da_nil)))) da_nil)))))))))))) (dss_one (ds_ret (de_callJ (i := 0) KO.G moOf hA (hr.mono (by decide)) (by rfl) KO.g KO.F.kp KO.b pass0 (pv 0) (da_cons (de_v (pv 1)) da_nil)))))), fun ds Q h => ?_⟩)
  · obtain ⟨rfl, _⟩ := h
    rfl
  · obtain ⟨rfl, k⟩ := h
    simp only [tn0, tn1, tn2, tn3, tn4, tn5, bT, bs, b1, DL.wp, sRet, sRetN, sRetO, sSeq, sIf, sSet, sNew, sMov, sDo, sApp, sExt, sUnp, sPar, sParN, sNext, setAll, dAnd, dOr, dNot, dIf, dIsi, dv, dC, dOp, cI0, cII, gII, cSc, eSc, chI, chI3, chN, nmD, dCall0, gNotInS, cInC, gInC, cIxS, gIxS, cAddS, gAddS, strI, sgn, dB, mask, stl, sSetM, sNewM, sAppM, sExtM, sUnpM, b1M, dNeg, dEmp, nList, nCat, nSl, sRetN,  dtAnd, dtOr, dtNot, bw1, dCall, dCallJ, nCall, dCB, aCons, aNil, dTup, nLst, dNew, gLen, cLen, gTu, cTu, c2I, g2I, c1I, g1I, itm, cIx, gSl, oNo, oPt, dAll, dSum, dRepr, gCat, cCat, cInS, gInS, isN, ini, List.map, List.length, List.replicate, List.append, List.cons_append, List.nil_append, List.append_nil, List.getElem?_cons_zero, List.getElem?_cons_succ, List.set_cons_zero, List.set_cons_succ, List.length_cons, List.length_nil, Option.getD_some, true_and, and_true, if_true, if_false, isT_int_int, isT_bool_int, isT_tuple_tuple, isT_str_str, Bool.not_false, Bool.not_true, false_implies, List.length_map, Bool.false_eq_true, Bool.true_eq_false, isT_int_none, isT_int_bool, isT_int_str, isT_int_list, isT_int_tuple, isT_int_dict, isT_bool_none, isT_bool_bool, isT_bool_str, isT_bool_list, isT_bool_tuple, isT_bool_dict, isT_tuple_none, isT_tuple_bool, isT_tuple_int, isT_tuple_str, isT_tuple_list, isT_tuple_dict, isT_str_none, isT_str_bool, isT_str_int, isT_str_list, isT_str_tuple, isT_str_dict]
    refine ⟨⟨by decide, by decide, by decide⟩, ?_⟩
    repeat (refine ⟨by decide, ?_⟩)
    refine ⟨_, .inl rfl, by decide, by decide, fun x hx => k x (gds_of _ ?_ x hx) (tls_of _ ?_ x hx)⟩
    all_goals decide +kernel
theorem bent0 {f : Addr} {fd : FuncData} {m : Nat} : FnG P w K mg base CX0 m f fd p__law_bent (spJ K (fBent 0)) := by
  have no : ∀ {vs H Q E}, ¬ spJ K (fBent 0) vs H Q E := fun h => by
    obtain ⟨_, _, _, _, _, _, _, k, _, hk, _⟩ := h
    omega
  exact ⟨fun _ _ _ _ h => (no h).elim, fun _ _ _ _ _ _ _ _ _ _ _ _ _ _ h => (no h).elim⟩
theorem bent1 {f fO fD : Addr} {fd dO dD : FuncData} {m n : Nat} (hm : 3 ≤ m) (F : Fun K "_law_bent" "_law_bent" s__law_bent f fd) (B : Blt mg) (KD : DK P w K mg base 1 "_law_draw" s__law_draw p__law_draw (spJ K fDraw) fD dD) (KOd : DK P w K mg base 3 "_law_odd" s__law_odd p__law_odd (spJ K fOdd) fO dO)
    (KB : DK P w K mg base m "_law_bent" s__law_bent p__law_bent (spJ K (fBent n)) f fd) : FnG P w K mg base CX0 (m + 1) f fd p__law_bent (spJ K (fBent (n + 1))) := by
  refine fnJ F sc__law_bent moBent (fun ds Q h => ?_) (fun cdv A outer s H E b hA hr => ⟨_, (dss_cons (ds_if (DW.dt (dw_or (dt_not (dt_val (de_isi (by rfl) B.isi (pe_bltn (v := .ty "tuple") (by rfl) B.tuple (by decide +kernel) rfl) kit_tuple (de_v (pv 1))))) (dw_or (dt_eqD (hu hr) (de_v (pv 1)) (de_tup da_nil)) (dw_or (dt_eq (de_v (pv 2)) de_int) (dw_or1 (dt_eq (de_callJ (i := 0) KD.G moDraw hA (hr.mono (by omega)) (by rfl) KD.g KD.F.kp KD.b pass0 (pv 0) (da_cons de_int da_nil)) de_int)))))) (dss_cons (ds_if (DW.dt (dw_and (dt_val (de_isi (by rfl) B.isi (pe_bltn (v := .ty "int") (by rfl) B.int (by decide +kernel) rfl) kit_int (de_v (pv 1)))) (dw_and1 (dt_eq (de_callJ (i := 0) KD.G moDraw hA (hr.mono (by omega)) (by rfl) KD.g KD.F.kp KD.b pass0 (pv 0) (da_cons de_int da_nil)) de_int)))) (dss_one (ds_ret (de_add (de_v (pv 1)) (de_if (dt_eq (de_callJ (i := 0) KD.G moDraw hA (hr.mono (by omega)) (by rfl) KD.g KD.F.kp KD.b pass0 (pv 0) (da_cons de_int da_nil)) de_int) de_int (de_neg de_int))))) dss_nil) (dss_one (ds_ret (de_if (DW.dt (dw_and (dt_val (de_isi (by rfl) B.isi (pe_bltn (v := .ty "tuple") (by rfl) B.tuple (by decide +kernel) rfl) kit_tuple (de_v (pv 1)))) (dw_and1 (dt_eq (de_callJ (i := 0) KD.G moDraw hA (hr.mono (by omega)) (by rfl) KD.g KD.F.kp KD.b pass0 (pv 0) (da_cons de_int da_nil)) de_int)))) (de_new (dn_list (by rfl) B.list (de_v (pv 1)))) (de_callJ (i := 0) KOd.G moOdd hA (hr.mono (by omega)) (by rfl) KOd.g KOd.F.kp KOd.b pass0 (pv 0) da_nil))))) dss_nil) (dss_cons (ds_par (i := 3) (k := 4) rfl sc__law_bent.nd rfl rfl (by decide) rfl rfl (de_callJ (i := 0) KD.G moDraw hA (hr.mono (by omega)) (by rfl) KD.g KD.F.kp KD.b pass0 (pv 0) (da_cons (de_len (by rfl) B.len (da_cons (de_v (pv 1)) da_nil)) da_nil)) (de_callJ (i := 0) KD.G moDraw hA (hr.mono (by omega)) (by rfl) KD.g KD.F.kp KD.b pass0 (pv 0) (da_cons de_int da_nil)) (by rfl)) (dss_cons (ds_if (dt_eq (de_v (pv 4)) de_int) (dss_one (ds_ret (de_cat (de_sl (de_v (pv 1)) do_no (do_pt (de_v (pv 3)))) (de_sl (de_v (pv 1)) (do_pt (de_add (de_v (pv 3)) de_int)) do_no)))) dss_nil) (dss_cons (ds_if (dt_eq (de_v (pv 4)) de_int) (dss_one (ds_ret (de_cat (de_cat (de_sl (de_v (pv 1)) do_no (do_pt (de_v (pv 3)))) (de_tup (da_cons (de_ix (de_v (pv 1)) (de_v (pv 3)) (fun _ _ => rfl)) da_nil))) (de_sl (de_v (pv 1)) (do_pt (de_v (pv 3))) do_no)))) dss_nil) (dss_one (ds_ret (de_cat (de_cat (de_sl (de_v (pv 1)) do_no (do_pt (de_v (pv 3)))) (de_tup (da_cons (de_callJ (i := 0) KB.G moBent hA (hr.mono (by omega)) (by rfl) KB.g KB.F.kp KB.b pass0 (pv 0) (da_cons (de_ix (de_v (pv 1)) (de_v (pv 3)) (fun _ _ => rfl)) (da_cons (de_sub (de_v (pv 2)) de_int) da_nil))) da_nil))) (de_sl (de_v (pv 1)) (do_pt (de_add (de_v (pv 3)) de_int)) do_no)))))))), fun ds Q h => ?_⟩)
  · obtain ⟨d, k, rfl, _⟩ := h
    rfl
  · obtain ⟨d, k, rfl, hk, hb, q⟩ := h
    simp only [tn0, tn1, tn2, tn3, tn4, tn5, bT, bs, b1, DL.wp, sRet, sRetN, sRetO, sSeq, sIf, sSet, sNew, sMov, sDo, sApp, sExt, sUnp, sPar, sParN, sNext, setAll, dAnd, dOr, dNot, dIf, dIsi, dv, dC, dOp, cI0, cII, gII, cSc, eSc, chI, chI3, chN, nmD, dCall0, gNotInS, cInC, gInC, cIxS, gIxS, cAddS, gAddS, strI, sgn, dB, mask, stl, sSetM, sNewM, sAppM, sExtM, sUnpM, b1M, dNeg, dEmp, nList, nCat, nSl, sRetN,  dtAnd, dtOr, dtNot, bw1, dCall, dCallJ, nCall, dCB, aCons, aNil, dTup, nLst, dNew, gLen, cLen, gTu, cTu, c2I, g2I, c1I, g1I, itm, cIx, gSl, oNo, oPt, dAll, dSum, dRepr, gCat, cCat, cInS, gInS, isN, ini, List.map, List.length, List.replicate, List.append, List.cons_append, List.nil_append, List.append_nil, List.getElem?_cons_zero, List.getElem?_cons_succ, List.set_cons_zero, List.set_cons_succ, List.length_cons, List.length_nil, Option.getD_some, true_and, and_true, if_true, if_false, isT_int_int, isT_bool_int, isT_tuple_tuple, isT_str_str, Bool.not_false, Bool.not_true, false_implies, List.length_map, Bool.false_eq_true, Bool.true_eq_false, isT_int_none, isT_int_bool, isT_int_str, isT_int_list, isT_int_tuple, isT_int_dict, isT_bool_none, isT_bool_bool, isT_bool_str, isT_bool_list, isT_bool_tuple, isT_bool_dict, isT_tuple_none, isT_tuple_bool, isT_tuple_int, isT_tuple_str, isT_tuple_list, isT_tuple_dict, isT_str_none, isT_str_bool, isT_str_int, isT_str_list, isT_str_tuple, isT_str_dict]
    have odd : fOdd [] Q := ⟨rfl, q⟩
    have qi : ∀ i, Q (.int i) := fun i => q _ (.int i) fun _ z => nomatch z
    have qt : ∀ xs : List PyData, (∀ d ∈ xs, Gd d) → xs.length ≤ 3000 → Q (.tuple xs) := fun xs h l => q _ (.tup h) fun ys z => by cases z; exact l
    cases hb with
    | int i =>
      simp only [tn0, tn1, tn2, tn3, tn4, tn5, bT, bs, b1, DL.wp, sRet, sRetN, sRetO, sSeq, sIf, sSet, sNew, sMov, sDo, sApp, sExt, sUnp, sPar, sParN, sNext, setAll, dAnd, dOr, dNot, dIf, dIsi, dv, dC, dOp, cI0, cII, gII, cSc, eSc, chI, chI3, chN, nmD, dCall0, gNotInS, cInC, gInC, cIxS, gIxS, cAddS, gAddS, strI, sgn, dB, mask, stl, sSetM, sNewM, sAppM, sExtM, sUnpM, b1M, dNeg, dEmp, nList, nCat, nSl, sRetN,  dtAnd, dtOr, dtNot, bw1, dCall, dCallJ, nCall, dCB, aCons, aNil, dTup, nLst, dNew, gLen, cLen, gTu, cTu, c2I, g2I, c1I, g1I, itm, cIx, gSl, oNo, oPt, dAll, dSum, dRepr, gCat, cCat, cInS, gInS, isN, ini, List.map, List.length, List.replicate, List.append, List.cons_append, List.nil_append, List.append_nil, List.getElem?_cons_zero, List.getElem?_cons_succ, List.set_cons_zero, List.set_cons_succ, List.length_cons, List.length_nil, Option.getD_some, true_and, and_true, if_true, if_false, isT_int_int, isT_bool_int, isT_tuple_tuple, isT_str_str, Bool.not_false, Bool.not_true, false_implies, List.length_map, Bool.false_eq_true, Bool.true_eq_false, isT_int_none, isT_int_bool, isT_int_str, isT_int_list, isT_int_tuple, isT_int_dict, isT_bool_none, isT_bool_bool, isT_bool_str, isT_bool_list, isT_bool_tuple, isT_bool_dict, isT_tuple_none, isT_tuple_bool, isT_tuple_int, isT_tuple_str, isT_tuple_list, isT_tuple_dict, isT_str_none, isT_str_bool, isT_str_int, isT_str_list, isT_str_tuple, isT_str_dict]
      refine ⟨_, rfl, by decide, by decide, fun x x0 x1 => ⟨trivial, ite_both ⟨_, rfl, by decide, by decide, fun y y0 y1 => ⟨trivial, ite_both (qi _) (qi _)⟩⟩ odd⟩⟩
    | str hz =>
      simp only [tn0, tn1, tn2, tn3, tn4, tn5, bT, bs, b1, DL.wp, sRet, sRetN, sRetO, sSeq, sIf, sSet, sNew, sMov, sDo, sApp, sExt, sUnp, sPar, sParN, sNext, setAll, dAnd, dOr, dNot, dIf, dIsi, dv, dC, dOp, cI0, cII, gII, cSc, eSc, chI, chI3, chN, nmD, dCall0, gNotInS, cInC, gInC, cIxS, gIxS, cAddS, gAddS, strI, sgn, dB, mask, stl, sSetM, sNewM, sAppM, sExtM, sUnpM, b1M, dNeg, dEmp, nList, nCat, nSl, sRetN,  dtAnd, dtOr, dtNot, bw1, dCall, dCallJ, nCall, dCB, aCons, aNil, dTup, nLst, dNew, gLen, cLen, gTu, cTu, c2I, g2I, c1I, g1I, itm, cIx, gSl, oNo, oPt, dAll, dSum, dRepr, gCat, cCat, cInS, gInS, isN, ini, List.map, List.length, List.replicate, List.append, List.cons_append, List.nil_append, List.append_nil, List.getElem?_cons_zero, List.getElem?_cons_succ, List.set_cons_zero, List.set_cons_succ, List.length_cons, List.length_nil, Option.getD_some, true_and, and_true, if_true, if_false, isT_int_int, isT_bool_int, isT_tuple_tuple, isT_str_str, Bool.not_false, Bool.not_true, false_implies, List.length_map, Bool.false_eq_true, Bool.true_eq_false, isT_int_none, isT_int_bool, isT_int_str, isT_int_list, isT_int_tuple, isT_int_dict, isT_bool_none, isT_bool_bool, isT_bool_str, isT_bool_list, isT_bool_tuple, isT_bool_dict, isT_tuple_none, isT_tuple_bool, isT_tuple_int, isT_tuple_str, isT_tuple_list, isT_tuple_dict, isT_str_none, isT_str_bool, isT_str_int, isT_str_list, isT_str_tuple, isT_str_dict]
      exact odd
    | @tup ds l sh hd =>
      simp only [tn0, tn1, tn2, tn3, tn4, tn5, bT, bs, b1, DL.wp, sRet, sRetN, sRetO, sSeq, sIf, sSet, sNew, sMov, sDo, sApp, sExt, sUnp, sPar, sParN, sNext, setAll, dAnd, dOr, dNot, dIf, dIsi, dv, dC, dOp, cI0, cII, gII, cSc, eSc, chI, chI3, chN, nmD, dCall0, gNotInS, cInC, gInC, cIxS, gIxS, cAddS, gAddS, strI, sgn, dB, mask, stl, sSetM, sNewM, sAppM, sExtM, sUnpM, b1M, dNeg, dEmp, nList, nCat, nSl, sRetN,  dtAnd, dtOr, dtNot, bw1, dCall, dCallJ, nCall, dCB, aCons, aNil, dTup, nLst, dNew, gLen, cLen, gTu, cTu, c2I, g2I, c1I, g1I, itm, cIx, gSl, oNo, oPt, dAll, dSum, dRepr, gCat, cCat, cInS, gInS, isN, ini, List.map, List.length, List.replicate, List.append, List.cons_append, List.nil_append, List.append_nil, List.getElem?_cons_zero, List.getElem?_cons_succ, List.set_cons_zero, List.set_cons_succ, List.length_cons, List.length_nil, Option.getD_some, true_and, and_true, if_true, if_false, isT_int_int, isT_bool_int, isT_tuple_tuple, isT_str_str, Bool.not_false, Bool.not_true, false_implies, List.length_map, Bool.false_eq_true, Bool.true_eq_false, isT_int_none, isT_int_bool, isT_int_str, isT_int_list, isT_int_tuple, isT_int_dict, isT_bool_none, isT_bool_bool, isT_bool_str, isT_bool_list, isT_bool_tuple, isT_bool_dict, isT_tuple_none, isT_tuple_bool, isT_tuple_int, isT_tuple_str, isT_tuple_list, isT_tuple_dict, isT_str_none, isT_str_bool, isT_str_int, isT_str_list, isT_str_tuple, isT_str_dict]
      have gd : Gd (.tuple ds) := (Bt.tup l sh hd).gd
      have gds : ∀ d ∈ ds, Gd d := fun d h => (hd d h).gd
      have lst : fDraw [.int 3] fun x =>
          (match x, PyData.int 0 with
            | PyData.int i, PyData.int i_1 => True
            | PyData.str s, PyData.str s_1 => True
            | PyData.bool b, PyData.bool b_1 => True
            | PyData.none, PyData.none => True
            | PyData.none, PyData.int i => True
            | PyData.int i, PyData.none => True
            | PyData.none, PyData.str s => True
            | PyData.str s, PyData.none => True
            | x, x_1 => False) ∧
            if (match x, PyData.int 0 with
                  | PyData.int i, PyData.int k => decide (i = k)
                  | PyData.str x, PyData.str y => decide (x = y)
                  | PyData.bool x, PyData.bool y => decide (x = y)
                  | PyData.none, PyData.none => true
                  | x, x_1 => false) = true then Q (PyData.list ds) else fOdd [] Q :=
        ⟨_, rfl, by decide, by decide, fun x x0 x1 => ⟨trivial, ite_both (q _ (.lst gds) fun _ z => nomatch z) odd⟩⟩
      have nl : SeqAt.shaped (.tuple []) = true := by decide +kernel
      refine ⟨by decide, ⟨sh, nl⟩, ?_⟩
      rw [eqv_nilT]
      by_cases c : ds = []
      · subst c
        exact lst
      have hne : ds.isEmpty = false := by
        cases ds with
        | nil => exact absurd rfl c
        | cons _ _ => rfl
      have hpos : 0 < ds.length := List.length_pos_iff.mpr c
      rw [hne]
      refine ite_else ?_
      by_cases ck : (k : Int) = 0
      · exact ite_yes (decide_eq_true ck) lst
      refine ite_no (decide_eq_false ck) ⟨_, rfl, by decide, by decide, fun x x0 x1 => ⟨trivial, ite_both lst ?_⟩⟩
      refine ⟨_, rfl, by omega, by omega, fun a a0 a1 => ⟨_, rfl, by decide, by decide, fun y y0 y1 => ⟨.int _, .int _, trivial, ?_⟩⟩⟩
      obtain ⟨a, rfl⟩ := Int.eq_ofNat_of_zero_le a0
      have hi : ds[(a : Int).toNat]? = some ds[a] := by
        rw [Int.toNat_natCast]
        exact List.getElem?_eq_getElem (by omega)
      have m1 : ds[a] ∈ ds := List.getElem_mem _
      have cg : ∀ l h : Option Int, ∀ d ∈ DL.cutD ds l h, Gd d := fun l h d hd => gds d (cut_mem hd)
      have cl : ∀ l h : Option Int, (DL.cutD ds l h).length ≤ 1000 := fun l h => Nat.le_trans cut_len (by omega)
      refine ite_both ⟨trivial, ?_, qt _ (fun d h => ?_) ?_⟩ ⟨trivial, ite_both ?_ ?_⟩
      · show (DL.cutD ds none (some (a : Int))).length + (DL.cutD ds (some ((a : Int) + 1)) none).length ≤ 100000
        have := cl none (some (a : Int)); have := cl (some ((a : Int) + 1)) none
        omega
      · rcases List.mem_append.mp h with h | h
        · exact cg _ _ d h
        · exact cg _ _ d h
      · show (DL.cutD ds none (some (a : Int)) ++ DL.cutD ds (some ((a : Int) + 1)) none).length ≤ 3000
        rw [List.length_append]
        have := cl none (some (a : Int)); have := cl (some ((a : Int) + 1)) none
        omega
      · refine ⟨⟨by omega, by omega⟩, by decide, ?_, ?_, ?_⟩
        · have := cl none (some (a : Int))
          show (DL.cutD ds none (some (a : Int))).length + 1 ≤ 100000
          omega
        · show (DL.cutD ds none (some (a : Int)) ++ [(ds[(a : Int).toNat]?).getD .none]).length + (DL.cutD ds (some (a : Int)) none).length ≤ 100000
          rw [List.length_append]
          have := cl none (some (a : Int)); have := cl (some (a : Int)) none
          simp only [List.length_cons, List.length_nil]
          omega
        · show Q (.tuple ((DL.cutD ds none (some (a : Int)) ++ [(ds[(a : Int).toNat]?).getD .none]) ++ DL.cutD ds (some (a : Int)) none))
          rw [hi]
          refine qt _ (fun d h => ?_) (by
            rw [List.length_append, List.length_append]
            have := cl none (some (a : Int)); have := cl (some (a : Int)) none
            simp only [List.length_cons, List.length_nil]
            omega)
          rcases List.mem_append.mp h with h | h
          · rcases List.mem_append.mp h with h | h
            · exact cg _ _ d h
            · rw [List.mem_singleton.mp h]
              exact gds _ m1
          · exact cg _ _ d h
      · have kp : 0 < k := by omega
        refine ⟨⟨by omega, by omega⟩, _, k - 1, ?_, by omega, hd _ m1, fun e he _ => ⟨by decide, ?_, trivial, ?_, ?_⟩⟩
        · show [(ds[(a : Int).toNat]?).getD .none, PyData.int ((k : Int) - 1)] = _
          rw [hi, show (k : Int) - 1 = ((k - 1 : Nat) : Int) by omega]
          rfl
        · have := cl none (some (a : Int))
          show (DL.cutD ds none (some (a : Int))).length + 1 ≤ 100000
          omega
        · show (DL.cutD ds none (some (a : Int)) ++ [e]).length + (DL.cutD ds (some ((a : Int) + 1)) none).length ≤ 100000
          rw [List.length_append]
          have := cl none (some (a : Int)); have := cl (some ((a : Int) + 1)) none
          simp only [List.length_cons, List.length_nil]
          omega
        · refine qt _ (fun d h => ?_) (by
            rw [List.length_append, List.length_append]
            have := cl none (some (a : Int)); have := cl (some ((a : Int) + 1)) none
            simp only [List.length_cons, List.length_nil]
            omega)
          rcases List.mem_append.mp h with h | h
          · rcases List.mem_append.mp h with h | h
            · exact cg _ _ d h
            · rw [List.mem_singleton.mp h]
              exact he
          · exact cg _ _ d h
theorem ok_bent {f fO fD : Addr} {fd dO dD : FuncData} (F : Fun K "_law_bent" "_law_bent" s__law_bent f fd) (B : Blt mg) (KD : DK P w K mg base 1 "_law_draw" s__law_draw p__law_draw (spJ K fDraw) fD dD) (KOd : DK P w K mg base 3 "_law_odd" s__law_odd p__law_odd (spJ K fOdd) fO dO) (b : Binds K fd p__law_bent []) (g : mg "_law_bent" = some (.ref f)) : FnG P w K mg base CX0 8 f fd p__law_bent (spJ K (fBent 5)) :=
  let s0 := bent0 (P := P) (w := w) (K := K) (mg := mg) (base := base) (f := f) (fd := fd) (m := 3)
  let s1 := bent1 (m := 3) (n := 0) (by decide) F B KD KOd ⟨F, b, g, s0⟩
  let s2 := bent1 (m := 4) (n := 1) (by decide) F B KD KOd ⟨F, b, g, s1⟩
  let s3 := bent1 (m := 5) (n := 2) (by decide) F B KD KOd ⟨F, b, g, s2⟩
  let s4 := bent1 (m := 6) (n := 3) (by decide) F B KD KOd ⟨F, b, g, s3⟩
  bent1 (m := 7) (n := 4) (by decide) F B KD KOd ⟨F, b, g, s4⟩
end
end LQ

namespace LQ
open PySem PySem.Spec PyProof.Rows L2 GuL HG DL

theorem cpw {a : Int} {x : Nat} (h : x ≤ 32) (h1 : 0 ≤ a) (h2 : a.natAbs < 2 ^ 64) : CPow a (x : Int) := ⟨by omega, by omega, h2⟩
def pas : Stmt := .Pass ⟨0, 0, 0, 0⟩
def stBody : Stmt → List Stmt
  | .While _ ss _ _ => ss
  | .For _ _ ss _ _ => ss
  | _ => []
theorem ite_dec {c : Bool} {p : Prop} [Decidable p] {a b : Prop} (e : c = decide p) (h1 : p → a) (h2 : ¬ p → b) : if c = true then a else b := by
  subst e
  by_cases h : p
  · rw [if_pos (decide_eq_true h)]; exact h1 h
  · rw [if_neg (by rw [decide_eq_false h]; exact Bool.false_ne_true)]; exact h2 h
def bD (w : Nat) (p : Nat × Nat) : PyData := .tuple [.int (p.1 : Nat), .int ((w - p.2 : Nat) : Int)]
def encB (w : Nat) (l : List (Nat × Nat)) : PyData := .tuple (l.map (bD w))
structure Rg (w low high : Nat) : Prop where
  w1 : 1 ≤ w
  w2 : w ≤ 32
  l : low ≤ high
  h : high < 2 ^ w
def fChk : DF := fun ds Q => ∃ w low high : Nat, ds = [.int (w : Nat), .int (low : Nat), .int (high : Nat)] ∧ Rg w low high ∧ Q .none
theorem moChk : MoF fChk := fun _ _ _ m ⟨a, b, c, e, r, q⟩ => ⟨a, b, c, e, r, m _ q⟩
def fBlks : DF := fun ds Q => ∃ w low high : Nat, ds = [.int (w : Nat), .int (low : Nat), .int (high : Nat)] ∧ Rg w low high ∧ Q (encB w (blks w low high))
theorem moBlks : MoF fBlks := fun _ _ _ m ⟨a, b, c, e, r, q⟩ => ⟨a, b, c, e, r, m _ q⟩
theorem Rg.b32 {w low high : Nat} (r : Rg w low high) : high < 4294967296 := Nat.lt_of_lt_of_le r.h (p32 r.w2)
theorem Rg.len {w low high : Nat} (r : Rg w low high) : (blks w low high).length ≤ 62 := by
  have := blks_len r.h r.l
  have := r.w2
  omega
section
variable {P : Program} {w : World} {K : PySem.W.Frag} {mg : Str → Option Value} {base : Heap}

theorem ok_chk {f fN fW : Addr} {fd dN dW : FuncData} (F : Fun K "check_range" "check_range" s_check_range f fd) (C : CstQ K w mg) (KN : DK P w K mg base 1 "is_number" s_is_number p_is_number (spP K fNumA) fN dN) (KW : DK P w K mg base 1 "is_word" s_is_word p_is_word (spP K fWordA) fW dW) : FnG P w K mg base CX0 2 f fd p_check_range (spP K fChk) := by
  refine fnP F sc_check_range moChk (fun ds Q h => ?_) (fun cdv A outer s H E b hA hr => ⟨_, (dss_cons (ds_if (dt_not (dt_val (de_call KN.G moNumA hA (hr.mono (by decide)) (by rfl) KN.g KN.F.kp KN.b pass0 (da_cons (de_v (pv 0)) (da_cons de_int (da_cons (de_g C.ww (by rfl)) da_nil)))))) (dss_one ds_never) dss_nil) (dss_cons (ds_if (dt_not (dt_val (de_call KW.G moWordA hA (hr.mono (by decide)) (by rfl) KW.g KW.F.kp KW.b pass0 (da_cons (de_v (pv 1)) (da_cons (de_v (pv 0)) da_nil))))) (dss_one ds_never) dss_nil) (dss_one (ds_if (DW.dt (dw_or (dt_not (dt_val (de_call KW.G moWordA hA (hr.mono (by decide)) (by rfl) KW.g KW.F.kp KW.b pass0 (da_cons (de_v (pv 2)) (da_cons (de_v (pv 0)) da_nil))))) (dw_or1 (dt_lt (de_v (pv 2)) (de_v (pv 1)))))) (dss_one ds_never) dss_nil)))), fun ds Q h => ?_⟩)
  · obtain ⟨a, b, c, rfl, _⟩ := h
    rfl
  · obtain ⟨wd, low, high, rfl, r, k⟩ := h
    obtain ⟨w1, w2, hl, hh⟩ := r
    have c1 : numB (.int (wd : Nat)) 1 32 = true := by
      show (decide ((1 : Int) ≤ (wd : Int)) && decide ((wd : Int) ≤ 32)) = true
      rw [decide_eq_true (by omega), decide_eq_true (by omega)]
      rfl
    have e2 : ((2 ^ wd : Nat) : Int) = 2 ^ wd := by simp
    have c2 : ∀ x : Nat, x < 2 ^ wd → wordB (.int (x : Nat)) wd = true := fun x hx => by
      show (decide ((0 : Int) ≤ (x : Int)) && decide ((x : Int) < 2 ^ wd)) = true
      rw [decide_eq_true (by omega), decide_eq_true (by omega)]
      rfl
    simp only [tn0, tn1, tn2, tn3, tn4, tn5, bT, bs, b1, DL.wp, sRet, sRetN, sRetO, sSeq, sIf, sSet, sNew, sMov, sDo, sApp, sExt, sUnp, sPar, sParN, sNext, setAll, dAnd, dOr, dNot, dIf, dIsi, dv, dC, dOp, cI0, cII, gII, cSc, eSc, chI, chI3, chN, nmD, dCall0, gNotInS, cInC, gInC, cIxS, gIxS, cAddS, gAddS, strI, sgn, dB, mask, stl, sSetM, sNewM, sAppM, sExtM, sUnpM, b1M, dNeg, dEmp, nList, nCat, nSl, sRetN,  dtAnd, dtOr, dtNot, bw1, dCall, dCallJ, nCall, dCB, aCons, aNil, dTup, nLst, dNew, gLen, cLen, gTu, cTu, c2I, g2I, c1I, g1I, itm, cIx, gSl, oNo, oPt, dAll, dSum, dRepr, gCat, cCat, cInS, gInS, isN, ini, List.map, List.length, List.replicate, List.append, List.cons_append, List.nil_append, List.append_nil, List.getElem?_cons_zero, List.getElem?_cons_succ, List.set_cons_zero, List.set_cons_succ, List.length_cons, List.length_nil, Option.getD_some, true_and, and_true, if_true, if_false, isT_int_int, isT_bool_int, isT_tuple_tuple, isT_str_str, Bool.not_false, Bool.not_true, false_implies, List.length_map, Bool.false_eq_true, Bool.true_eq_false, isT_int_none, isT_int_bool, isT_int_str, isT_int_list, isT_int_tuple, isT_int_dict, isT_bool_none, isT_bool_bool, isT_bool_str, isT_bool_list, isT_bool_tuple, isT_bool_dict, isT_tuple_none, isT_tuple_bool, isT_tuple_int, isT_tuple_str, isT_tuple_list, isT_tuple_dict, isT_str_none, isT_str_bool, isT_str_int, isT_str_list, isT_str_tuple, isT_str_dict]
    refine ⟨_, 1, 32, rfl, ?_⟩
    rw [c1]
    refine ⟨_, wd, rfl, by omega, ?_⟩
    rw [c2 low (by omega)]
    refine ⟨_, wd, rfl, by omega, ?_⟩
    rw [c2 high hh]
    show if decide ((high : Int) < (low : Int)) = true then _ else _
    exact ite_no (decide_eq_false (by omega)) k
theorem ok_prefin {f : Addr} {fd : FuncData} (F : Fun K "prefixes_in" "prefixes_in" s_prefixes_in f fd) (B : Blt mg) : FnG P w K mg base CX0 1 f fd p_prefixes_in (spP K fBlks) := by
  refine fnP F sc_prefixes_in moBlks (fun ds Q h => ?_) fun cdv A outer s H E b hA hr => ?_
  · obtain ⟨a, b, c, rfl, _⟩ := h
    rfl
  ·
    obtain ⟨ti, ei, ki⟩ : ∃ t, DS (cxD P w K mg base n_prefixes_in "prefixes_in" s_prefixes_in f cdv A outer s H E) false ((stBody ((defBody s_prefixes_in).getD 1 pas)).getD 1 pas) t ∧ ∀ (D : DEnds) (wd here high : Nat) (s1 : SV) (done : List PyData), (s1 = .par (.int (here : Nat)) ∨ s1 = .dat (.int (here : Nat))) → here ≤ high → wd ≤ 32 → high < 2 ^ wd → D.nx [.par (.int (wd : Nat)), s1, .par (.int (high : Nat)), .own done, .dat (.int (fr wd here high : Nat))] → t D [.par (.int (wd : Nat)), s1, .par (.int (high : Nat)), .own done, .dat (.int 0)] := by
      refine ⟨_, (ds_while PassesOwn.never (DW.dt (dw_and (dt_lt (de_v (pv 4)) (de_v (pv 0))) (dw_and (dt_eq (de_and (de_v (pv 1)) (de_shl de_int (de_v (pv 4)))) de_int) (dw_and1 (dt_le (de_sub (de_add (de_v (pv 1)) (de_shl de_int (de_v (pv 4)))) de_int) (de_v (pv 2))))))) (dss_one (ds_setM (i := 4) sc_prefixes_in.nd rfl (by first | exact Or.inl rfl | exact Or.inr rfl) (de_add (de_v (pv 4)) de_int)))), fun D wd here high s1 done hs hl w2 hh q => ?_⟩
      simp only [tn0, tn1, tn2, tn3, tn4, tn5, bT, bs, b1, DL.wp, sRet, sRetN, sRetO, sSeq, sIf, sSet, sNew, sMov, sDo, sApp, sExt, sUnp, sPar, sParN, sNext, setAll, dAnd, dOr, dNot, dIf, dIsi, dv, dC, dOp, cI0, cII, gII, cSc, eSc, chI, chI3, chN, nmD, dCall0, gNotInS, cInC, gInC, cIxS, gIxS, cAddS, gAddS, strI, sgn, dB, mask, stl, sSetM, sNewM, sAppM, sExtM, sUnpM, b1M, dNeg, dEmp, nList, nCat, nSl, sRetN,  dtAnd, dtOr, dtNot, bw1, dCall, dCallJ, nCall, dCB, aCons, aNil, dTup, nLst, dNew, gLen, cLen, gTu, cTu, c2I, g2I, c1I, g1I, itm, cIx, gSl, oNo, oPt, dAll, dSum, dRepr, gCat, cCat, cInS, gInS, isN, ini, List.map, List.length, List.replicate, List.append, List.cons_append, List.nil_append, List.append_nil, List.getElem?_cons_zero, List.getElem?_cons_succ, List.set_cons_zero, List.set_cons_succ, List.length_cons, List.length_nil, Option.getD_some, true_and, and_true, if_true, if_false, isT_int_int, isT_bool_int, isT_tuple_tuple, isT_str_str, Bool.not_false, Bool.not_true, false_implies, List.length_map, Bool.false_eq_true, Bool.true_eq_false, isT_int_none, isT_int_bool, isT_int_str, isT_int_list, isT_int_tuple, isT_int_dict, isT_bool_none, isT_bool_bool, isT_bool_str, isT_bool_list, isT_bool_tuple, isT_bool_dict, isT_tuple_none, isT_tuple_bool, isT_tuple_int, isT_tuple_str, isT_tuple_list, isT_tuple_dict, isT_str_none, isT_str_bool, isT_str_int, isT_str_list, isT_str_tuple, isT_str_dict, sWhile]
      refine ⟨fun m ρ => ∃ x : Nat, m = wd - x ∧ Fit wd here high x ∧ ρ = [.par (.int (wd : Nat)), s1, .par (.int (high : Nat)), .own done, .dat (.int (x : Nat))], ⟨_, 0, rfl, .zero hl, rfl⟩, ?_⟩
      rintro m ρ ⟨x, rfl, hx, rfl⟩
      have fin0 : ¬ Fit wd here high (x + 1) → fr wd here high = x := fun z => fr_eq hl hx z
      have xw := hx.w
      have x32 : x ≤ 32 := by omega
      have stop : ¬ Fit wd here high (x + 1) → D.nx [.par (.int (wd : Nat)), s1, .par (.int (high : Nat)), .own done, .dat (.int (x : Nat))] := fun z => by
        rw [fin0 z] at q
        exact q
      have e1 : (1 : Int) * 2 ^ ((x : Int).toNat) = ((2 ^ x : Nat) : Int) := by rw [Int.toNat_natCast]; simp
      have e2 : (here : Int) + 2 * 2 ^ ((x : Int).toNat) - 1 ≤ (high : Int) ↔ here + 2 ^ (x + 1) ≤ high + 1 := by
        rw [Int.toNat_natCast]
        have : ((2 ^ x : Nat) : Int) = 2 ^ x := by simp
        have : 2 ^ (x + 1) = 2 ^ x * 2 := Nat.pow_succ 2 x
        omega
      have e3 : Builtin.bitAnd (here : Int) (1 * 2 ^ ((x : Int).toNat)) = 0 ↔ here % 2 ^ (x + 1) = 0 := by
        rw [e1, bAnd, ← bit_iff hx.d]
        omega
      rcases hs with rfl | rfl
      all_goals
        simp only [tn0, tn1, tn2, tn3, tn4, tn5, bT, bs, b1, DL.wp, sRet, sRetN, sRetO, sSeq, sIf, sSet, sNew, sMov, sDo, sApp, sExt, sUnp, sPar, sParN, sNext, setAll, dAnd, dOr, dNot, dIf, dIsi, dv, dC, dOp, cI0, cII, gII, cSc, eSc, chI, chI3, chN, nmD, dCall0, gNotInS, cInC, gInC, cIxS, gIxS, cAddS, gAddS, strI, sgn, dB, mask, stl, sSetM, sNewM, sAppM, sExtM, sUnpM, b1M, dNeg, dEmp, nList, nCat, nSl, sRetN,  dtAnd, dtOr, dtNot, bw1, dCall, dCallJ, nCall, dCB, aCons, aNil, dTup, nLst, dNew, gLen, cLen, gTu, cTu, c2I, g2I, c1I, g1I, itm, cIx, gSl, oNo, oPt, dAll, dSum, dRepr, gCat, cCat, cInS, gInS, isN, ini, List.map, List.length, List.replicate, List.append, List.cons_append, List.nil_append, List.append_nil, List.getElem?_cons_zero, List.getElem?_cons_succ, List.set_cons_zero, List.set_cons_succ, List.length_cons, List.length_nil, Option.getD_some, true_and, and_true, if_true, if_false, isT_int_int, isT_bool_int, isT_tuple_tuple, isT_str_str, Bool.not_false, Bool.not_true, false_implies, List.length_map, Bool.false_eq_true, Bool.true_eq_false, isT_int_none, isT_int_bool, isT_int_str, isT_int_list, isT_int_tuple, isT_int_dict, isT_bool_none, isT_bool_bool, isT_bool_str, isT_bool_list, isT_bool_tuple, isT_bool_dict, isT_tuple_none, isT_tuple_bool, isT_tuple_int, isT_tuple_str, isT_tuple_list, isT_tuple_dict, isT_str_none, isT_str_bool, isT_str_int, isT_str_list, isT_str_tuple, isT_str_dict]
        refine ite_dec rfl (fun c1 => ⟨cpw x32 (by decide) (by decide), ite_dec rfl (fun c2 => ⟨cpw x32 (by decide) (by decide), ite_dec rfl (fun c3 => ?_) fun c3 => ?_⟩) fun c2 => ?_⟩) fun c1 => ?_
        · have nf : Fit wd here high (x + 1) := ⟨by omega, Nat.dvd_of_mod_eq_zero (e3.mp c2), e2.mp c3⟩
          exact ⟨_, by omega, x + 1, rfl, nf, rfl⟩
        · exact stop fun z => c3 (e2.mpr z.h)
        · exact stop fun z => c2 (e3.mpr (Nat.mod_eq_zero_of_dvd z.d))
        · exact stop fun z => by have := z.w; omega
    refine ⟨_, (dss_cons (ds_newM (i := 3) sc_prefixes_in.nd rfl (by first | exact Or.inl rfl | exact Or.inr rfl) (dn_lst da_nil)) (dss_cons (ds_while PassesOwn.never (dt_le (de_v (pv 1)) (de_v (pv 2))) (dss_cons (ds_setM (i := 4) sc_prefixes_in.nd rfl (by first | exact Or.inl rfl | exact Or.inr rfl) de_int) (dss_cons ei (dss_cons (ds_appM (i := 3) (pv 3) (de_tup (da_cons (de_v (pv 1)) (da_cons (de_sub (de_v (pv 0)) (de_v (pv 4))) da_nil)))) (dss_one (ds_setM (i := 1) sc_prefixes_in.nd rfl (by first | exact Or.inl rfl | exact Or.inr rfl) (de_add (de_v (pv 1)) (de_shl de_int (de_v (pv 4)))))))))) (dss_one (ds_ret (de_tuple (by rfl) B.tuple (da_cons (de_v (pv 3)) da_nil)))))), fun ds Q h => ?_⟩
    obtain ⟨wd, low, high, rfl, r, k⟩ := h
    have b32 := r.b32
    have l62 := r.len
    obtain ⟨w1, w2, hl, hh⟩ := r
    simp only [tn0, tn1, tn2, tn3, tn4, tn5, bT, bs, b1, DL.wp, sRet, sRetN, sRetO, sSeq, sIf, sSet, sNew, sMov, sDo, sApp, sExt, sUnp, sPar, sParN, sNext, setAll, dAnd, dOr, dNot, dIf, dIsi, dv, dC, dOp, cI0, cII, gII, cSc, eSc, chI, chI3, chN, nmD, dCall0, gNotInS, cInC, gInC, cIxS, gIxS, cAddS, gAddS, strI, sgn, dB, mask, stl, sSetM, sNewM, sAppM, sExtM, sUnpM, b1M, dNeg, dEmp, nList, nCat, nSl, sRetN,  dtAnd, dtOr, dtNot, bw1, dCall, dCallJ, nCall, dCB, aCons, aNil, dTup, nLst, dNew, gLen, cLen, gTu, cTu, c2I, g2I, c1I, g1I, itm, cIx, gSl, oNo, oPt, dAll, dSum, dRepr, gCat, cCat, cInS, gInS, isN, ini, List.map, List.length, List.replicate, List.append, List.cons_append, List.nil_append, List.append_nil, List.getElem?_cons_zero, List.getElem?_cons_succ, List.set_cons_zero, List.set_cons_succ, List.length_cons, List.length_nil, Option.getD_some, true_and, and_true, if_true, if_false, isT_int_int, isT_bool_int, isT_tuple_tuple, isT_str_str, Bool.not_false, Bool.not_true, false_implies, List.length_map, Bool.false_eq_true, Bool.true_eq_false, isT_int_none, isT_int_bool, isT_int_str, isT_int_list, isT_int_tuple, isT_int_dict, isT_bool_none, isT_bool_bool, isT_bool_str, isT_bool_list, isT_bool_tuple, isT_bool_dict, isT_tuple_none, isT_tuple_bool, isT_tuple_int, isT_tuple_str, isT_tuple_list, isT_tuple_dict, isT_str_none, isT_str_bool, isT_str_int, isT_str_list, isT_str_tuple, isT_str_dict, sWhile]
    refine ⟨by decide, fun m ρ => ∃ (here : Nat) (done : List (Nat × Nat)) (s1 s4 : SV), (s1 = .par (.int (here : Nat)) ∨ s1 = .dat (.int (here : Nat))) ∧ frzs [s4] = [none] ∧ m = high + 1 - here ∧ low ≤ here ∧ here ≤ high + 1 ∧ done ++ blks wd here high = blks wd low high ∧ ρ = [.par (.int (wd : Nat)), s1, .par (.int (high : Nat)), .own (done.map (bD wd)), s4], ⟨high + 1 - low, low, [], _, .nil, .inl rfl, rfl, rfl, Nat.le_refl _, by omega, rfl, rfl⟩, ?_⟩
    rintro m ρ ⟨here, done, s1, s4, hs, hf, rfl, h1, h2, h3, rfl⟩
    rcases hs with rfl | rfl
    all_goals
      simp only [tn0, tn1, tn2, tn3, tn4, tn5, bT, bs, b1, DL.wp, sRet, sRetN, sRetO, sSeq, sIf, sSet, sNew, sMov, sDo, sApp, sExt, sUnp, sPar, sParN, sNext, setAll, dAnd, dOr, dNot, dIf, dIsi, dv, dC, dOp, cI0, cII, gII, cSc, eSc, chI, chI3, chN, nmD, dCall0, gNotInS, cInC, gInC, cIxS, gIxS, cAddS, gAddS, strI, sgn, dB, mask, stl, sSetM, sNewM, sAppM, sExtM, sUnpM, b1M, dNeg, dEmp, nList, nCat, nSl, sRetN,  dtAnd, dtOr, dtNot, bw1, dCall, dCallJ, nCall, dCB, aCons, aNil, dTup, nLst, dNew, gLen, cLen, gTu, cTu, c2I, g2I, c1I, g1I, itm, cIx, gSl, oNo, oPt, dAll, dSum, dRepr, gCat, cCat, cInS, gInS, isN, ini, List.map, List.length, List.replicate, List.append, List.cons_append, List.nil_append, List.append_nil, List.getElem?_cons_zero, List.getElem?_cons_succ, List.set_cons_zero, List.set_cons_succ, List.length_cons, List.length_nil, Option.getD_some, true_and, and_true, if_true, if_false, isT_int_int, isT_bool_int, isT_tuple_tuple, isT_str_str, Bool.not_false, Bool.not_true, false_implies, List.length_map, Bool.false_eq_true, Bool.true_eq_false, isT_int_none, isT_int_bool, isT_int_str, isT_int_list, isT_int_tuple, isT_int_dict, isT_bool_none, isT_bool_bool, isT_bool_str, isT_bool_list, isT_bool_tuple, isT_bool_dict, isT_tuple_none, isT_tuple_bool, isT_tuple_int, isT_tuple_str, isT_tuple_list, isT_tuple_dict, isT_str_none, isT_str_bool, isT_str_int, isT_str_list, isT_str_tuple, isT_str_dict]
      refine ite_dec rfl (fun c1 => ?_) fun c1 => ?_
      · have c1 : here ≤ high := by omega
        refine ki _ wd here high _ _ (by first | exact .inl rfl | exact .inr rfl) c1 w2 hh ?_
        have f := fr_fit (w := wd) c1
        have fw := f.w
        have fh := f.h
        have p := pos2 (fr wd here high)
        have dl : done.length < 62 := by
          rw [blks_cons c1] at h3
          have := congrArg List.length h3
          rw [List.length_append, List.length_cons] at this
          omega
        simp only [tn0, tn1, tn2, tn3, tn4, tn5, bT, bs, b1, DL.wp, sRet, sRetN, sRetO, sSeq, sIf, sSet, sNew, sMov, sDo, sApp, sExt, sUnp, sPar, sParN, sNext, setAll, dAnd, dOr, dNot, dIf, dIsi, dv, dC, dOp, cI0, cII, gII, cSc, eSc, chI, chI3, chN, nmD, dCall0, gNotInS, cInC, gInC, cIxS, gIxS, cAddS, gAddS, strI, sgn, dB, mask, stl, sSetM, sNewM, sAppM, sExtM, sUnpM, b1M, dNeg, dEmp, nList, nCat, nSl, sRetN,  dtAnd, dtOr, dtNot, bw1, dCall, dCallJ, nCall, dCB, aCons, aNil, dTup, nLst, dNew, gLen, cLen, gTu, cTu, c2I, g2I, c1I, g1I, itm, cIx, gSl, oNo, oPt, dAll, dSum, dRepr, gCat, cCat, cInS, gInS, isN, ini, List.map, List.length, List.replicate, List.append, List.cons_append, List.nil_append, List.append_nil, List.getElem?_cons_zero, List.getElem?_cons_succ, List.set_cons_zero, List.set_cons_succ, List.length_cons, List.length_nil, Option.getD_some, true_and, and_true, if_true, if_false, isT_int_int, isT_bool_int, isT_tuple_tuple, isT_str_str, Bool.not_false, Bool.not_true, false_implies, List.length_map, Bool.false_eq_true, Bool.true_eq_false, isT_int_none, isT_int_bool, isT_int_str, isT_int_list, isT_int_tuple, isT_int_dict, isT_bool_none, isT_bool_bool, isT_bool_str, isT_bool_list, isT_bool_tuple, isT_bool_dict, isT_tuple_none, isT_tuple_bool, isT_tuple_int, isT_tuple_str, isT_tuple_list, isT_tuple_dict, isT_str_none, isT_str_bool, isT_str_int, isT_str_list, isT_str_tuple, isT_str_dict]
        refine ⟨by decide, by omega, cpw (by omega) (by decide) (by decide), _, ?_, here + 2 ^ fr wd here high, done ++ [(here, fr wd here high)], _, .dat (.int (fr wd here high : Nat)), .inr rfl, rfl, rfl, by omega, by omega, ?_, ?_⟩
        · omega
        · rw [List.append_assoc, List.singleton_append, ← h3, blks_cons c1]
        · have eA : (here : Int) + 1 * 2 ^ ((fr wd here high : Nat) : Int).toNat = ((here + 2 ^ fr wd here high : Nat) : Int) := by rw [Int.toNat_natCast]; simp
          have eB : (wd : Int) - ((fr wd here high : Nat) : Int) = ((wd - fr wd here high : Nat) : Int) := by omega
          rw [eA, eB, List.map_append]
          rfl
      · have c1 : ¬ here ≤ high := by omega
        rw [blks_nil (by omega), List.append_nil] at h3
        subst h3
        exact k
end
end LQ

namespace LQ
open PySem PySem.Spec PyProof.Rows L2 GuL HG DL
section
variable {P : Program} {w : World} {K : PySem.W.Frag} {mg : Str → Option Value} {base : Heap}

theorem ok_lawblocks {f : Addr} {fd : FuncData} (F : Fun K "_law_blocks" "_law_blocks" s__law_blocks f fd) (B : Blt mg) : FnG P w K mg base CX0 1 f fd p__law_blocks (spP K fBlks) := by
  refine fnP F sc__law_blocks moBlks (fun ds Q h => ?_) fun cdv A outer s H E b hA hr => ?_
  · obtain ⟨a, b, c, rfl, _⟩ := h
    rfl
  · obtain ⟨ti, ei, ki⟩ : ∃ t, DS (cxD P w K mg base n__law_blocks "_law_blocks" s__law_blocks f cdv A outer s H E) false ((stBody ((defBody s__law_blocks).getD 1 pas)).getD 1 pas) t ∧ ∀ (D : DEnds) (wd low here high : Nat) (done : List PyData), here ≤ high → wd ≤ 32 → high < 2 ^ wd → D.nx [.par (.int (wd : Nat)), .par (.int (low : Nat)), .par (.int (high : Nat)), .own done, .dat (.int (here : Nat)), .dat (.int ((2 ^ fr wd here high : Nat) : Int)), .dat (.int ((wd - fr wd here high : Nat) : Int))] → t D [.par (.int (wd : Nat)), .par (.int (low : Nat)), .par (.int (high : Nat)), .own done, .dat (.int (here : Nat)), .dat (.int 1), .dat (.int (wd : Nat))] := by
      refine ⟨_, (ds_while PassesOwn.never (DW.dt (dw_and (dt_gt (de_v (pv 6)) de_int) (dw_and (dt_eq (de_mod (de_intc (by rfl) B.int (da_cons (de_v (pv 4)) da_nil)) (de_mul de_int (de_v (pv 5)))) de_int) (dw_and1 (dt_le (de_sub (de_add (de_v (pv 4)) (de_mul de_int (de_v (pv 5)))) de_int) (de_v (pv 2))))))) (dss_one (ds_par (i := 5) (k := 6) rfl sc__law_blocks.nd rfl rfl (by decide) rfl rfl (de_mul de_int (de_v (pv 5))) (de_sub (de_v (pv 6)) de_int) (by rfl)))), fun D wd low here high done hl w2 hh q => ?_⟩
      simp only [tn0, tn1, tn2, tn3, tn4, tn5, bT, bs, b1, DL.wp, sRet, sRetN, sRetO, sSeq, sIf, sSet, sNew, sMov, sDo, sApp, sExt, sUnp, sPar, sParN, sNext, setAll, dAnd, dOr, dNot, dIf, dIsi, dv, dC, dOp, cI0, cII, gII, cSc, eSc, chI, chI3, chN, nmD, dCall0, gNotInS, cInC, gInC, cIxS, gIxS, cAddS, gAddS, strI, sgn, dB, mask, stl, sSetM, sNewM, sAppM, sExtM, sUnpM, b1M, dNeg, dEmp, nList, nCat, nSl, sRetN,  dtAnd, dtOr, dtNot, bw1, dCall, dCallJ, nCall, dCB, aCons, aNil, dTup, nLst, dNew, gLen, cLen, gTu, cTu, c2I, g2I, c1I, g1I, itm, cIx, gSl, oNo, oPt, dAll, dSum, dRepr, gCat, cCat, cInS, gInS, isN, ini, List.map, List.length, List.replicate, List.append, List.cons_append, List.nil_append, List.append_nil, List.getElem?_cons_zero, List.getElem?_cons_succ, List.set_cons_zero, List.set_cons_succ, List.length_cons, List.length_nil, Option.getD_some, true_and, and_true, if_true, if_false, isT_int_int, isT_bool_int, isT_tuple_tuple, isT_str_str, Bool.not_false, Bool.not_true, false_implies, List.length_map, Bool.false_eq_true, Bool.true_eq_false, isT_int_none, isT_int_bool, isT_int_str, isT_int_list, isT_int_tuple, isT_int_dict, isT_bool_none, isT_bool_bool, isT_bool_str, isT_bool_list, isT_bool_tuple, isT_bool_dict, isT_tuple_none, isT_tuple_bool, isT_tuple_int, isT_tuple_str, isT_tuple_list, isT_tuple_dict, isT_str_none, isT_str_bool, isT_str_int, isT_str_list, isT_str_tuple, isT_str_dict, sWhile]
      refine ⟨fun m ρ => ∃ x : Nat, m = wd - x ∧ Fit wd here high x ∧ ρ = [.par (.int (wd : Nat)), .par (.int (low : Nat)), .par (.int (high : Nat)), .own done, .dat (.int (here : Nat)), .dat (.int ((2 ^ x : Nat) : Int)), .dat (.int ((wd - x : Nat) : Int))], ⟨_, 0, rfl, .zero hl, rfl⟩, ?_⟩
      rintro m ρ ⟨x, rfl, hx, rfl⟩
      have fin0 : ¬ Fit wd here high (x + 1) → fr wd here high = x := fun z => fr_eq hl hx z
      have xw := hx.w
      have x32 : x ≤ 32 := by omega
      have stop : ¬ Fit wd here high (x + 1) → D.nx [.par (.int (wd : Nat)), .par (.int (low : Nat)), .par (.int (high : Nat)), .own done, .dat (.int (here : Nat)), .dat (.int ((2 ^ x : Nat) : Int)), .dat (.int ((wd - x : Nat) : Int))] := fun z => by
        rw [fin0 z] at q
        exact q
      have pp := pos2 x
      have e9 : 2 ^ (x + 1) = 2 ^ x * 2 := Nat.pow_succ 2 x
      have e2 : (here : Int) + 2 * ((2 ^ x : Nat) : Int) - 1 ≤ (high : Int) ↔ here + 2 ^ (x + 1) ≤ high + 1 := by omega
      have e3 : (here : Int) % (2 * ((2 ^ x : Nat) : Int)) = 0 ↔ here % 2 ^ (x + 1) = 0 := by
        rw [show (2 : Int) * ((2 ^ x : Nat) : Int) = ((2 ^ (x + 1) : Nat) : Int) by omega]
        omega
      have cm : CMul 2 ((2 ^ x : Nat) : Int) := .inl ⟨by decide, by decide⟩
      simp only [tn0, tn1, tn2, tn3, tn4, tn5, bT, bs, b1, DL.wp, sRet, sRetN, sRetO, sSeq, sIf, sSet, sNew, sMov, sDo, sApp, sExt, sUnp, sPar, sParN, sNext, setAll, dAnd, dOr, dNot, dIf, dIsi, dv, dC, dOp, cI0, cII, gII, cSc, eSc, chI, chI3, chN, nmD, dCall0, gNotInS, cInC, gInC, cIxS, gIxS, cAddS, gAddS, strI, sgn, dB, mask, stl, sSetM, sNewM, sAppM, sExtM, sUnpM, b1M, dNeg, dEmp, nList, nCat, nSl, sRetN,  dtAnd, dtOr, dtNot, bw1, dCall, dCallJ, nCall, dCB, aCons, aNil, dTup, nLst, dNew, gLen, cLen, gTu, cTu, c2I, g2I, c1I, g1I, itm, cIx, gSl, oNo, oPt, dAll, dSum, dRepr, gCat, cCat, cInS, gInS, isN, ini, List.map, List.length, List.replicate, List.append, List.cons_append, List.nil_append, List.append_nil, List.getElem?_cons_zero, List.getElem?_cons_succ, List.set_cons_zero, List.set_cons_succ, List.length_cons, List.length_nil, Option.getD_some, true_and, and_true, if_true, if_false, isT_int_int, isT_bool_int, isT_tuple_tuple, isT_str_str, Bool.not_false, Bool.not_true, false_implies, List.length_map, Bool.false_eq_true, Bool.true_eq_false, isT_int_none, isT_int_bool, isT_int_str, isT_int_list, isT_int_tuple, isT_int_dict, isT_bool_none, isT_bool_bool, isT_bool_str, isT_bool_list, isT_bool_tuple, isT_bool_dict, isT_tuple_none, isT_tuple_bool, isT_tuple_int, isT_tuple_str, isT_tuple_list, isT_tuple_dict, isT_str_none, isT_str_bool, isT_str_int, isT_str_list, isT_str_tuple, isT_str_dict]
      refine ite_dec rfl (fun c1 => ⟨cm, by omega, ite_dec rfl (fun c2 => ⟨cm, ite_dec rfl (fun c3 => ?_) fun c3 => ?_⟩) fun c2 => ?_⟩) fun c1 => ?_
      · have nf : Fit wd here high (x + 1) := ⟨by omega, Nat.dvd_of_mod_eq_zero (e3.mp c2), e2.mp c3⟩
        refine ⟨cm, .int _, .int _, _, ?_, x + 1, rfl, nf, ?_⟩
        · omega
        · rw [show (2 : Int) * ((2 ^ x : Nat) : Int) = ((2 ^ (x + 1) : Nat) : Int) by omega, show ((wd - x : Nat) : Int) - 1 = ((wd - (x + 1) : Nat) : Int) by omega]
      · exact stop fun z => c3 (e2.mpr z.h)
      · exact stop fun z => c2 (e3.mpr (Nat.mod_eq_zero_of_dvd z.d))
      · exact stop fun z => by have := z.w; omega
    refine ⟨_, (dss_cons (ds_parN (i := 3) (k := 4) rfl sc__law_blocks.nd rfl rfl (by decide) rfl rfl (dn_lst da_nil) (de_v (pv 1)) (by rfl)) (dss_cons (ds_while PassesOwn.never (dt_le (de_v (pv 4)) (de_v (pv 2))) (dss_cons (ds_par (i := 5) (k := 6) rfl sc__law_blocks.nd rfl rfl (by decide) rfl rfl de_int (de_v (pv 0)) (by rfl)) (dss_cons ei (dss_cons (ds_appM (i := 3) (pv 3) (de_tup (da_cons (de_v (pv 4)) (da_cons (de_v (pv 6)) da_nil)))) (dss_one (ds_setM (i := 4) sc__law_blocks.nd rfl (by first | exact Or.inl rfl | exact Or.inr rfl) (de_add (de_v (pv 4)) (de_v (pv 5))))))))) (dss_one (ds_ret (de_tuple (by rfl) B.tuple (da_cons (de_v (pv 3)) da_nil)))))), fun ds Q h => ?_⟩
    obtain ⟨wd, low, high, rfl, r, k⟩ := h
    have b32 := r.b32
    have l62 := r.len
    obtain ⟨w1, w2, hl, hh⟩ := r
    simp only [tn0, tn1, tn2, tn3, tn4, tn5, bT, bs, b1, DL.wp, sRet, sRetN, sRetO, sSeq, sIf, sSet, sNew, sMov, sDo, sApp, sExt, sUnp, sPar, sParN, sNext, setAll, dAnd, dOr, dNot, dIf, dIsi, dv, dC, dOp, cI0, cII, gII, cSc, eSc, chI, chI3, chN, nmD, dCall0, gNotInS, cInC, gInC, cIxS, gIxS, cAddS, gAddS, strI, sgn, dB, mask, stl, sSetM, sNewM, sAppM, sExtM, sUnpM, b1M, dNeg, dEmp, nList, nCat, nSl, sRetN,  dtAnd, dtOr, dtNot, bw1, dCall, dCallJ, nCall, dCB, aCons, aNil, dTup, nLst, dNew, gLen, cLen, gTu, cTu, c2I, g2I, c1I, g1I, itm, cIx, gSl, oNo, oPt, dAll, dSum, dRepr, gCat, cCat, cInS, gInS, isN, ini, List.map, List.length, List.replicate, List.append, List.cons_append, List.nil_append, List.append_nil, List.getElem?_cons_zero, List.getElem?_cons_succ, List.set_cons_zero, List.set_cons_succ, List.length_cons, List.length_nil, Option.getD_some, true_and, and_true, if_true, if_false, isT_int_int, isT_bool_int, isT_tuple_tuple, isT_str_str, Bool.not_false, Bool.not_true, false_implies, List.length_map, Bool.false_eq_true, Bool.true_eq_false, isT_int_none, isT_int_bool, isT_int_str, isT_int_list, isT_int_tuple, isT_int_dict, isT_bool_none, isT_bool_bool, isT_bool_str, isT_bool_list, isT_bool_tuple, isT_bool_dict, isT_tuple_none, isT_tuple_bool, isT_tuple_int, isT_tuple_str, isT_tuple_list, isT_tuple_dict, isT_str_none, isT_str_bool, isT_str_int, isT_str_list, isT_str_tuple, isT_str_dict, sWhile]
    refine ⟨by decide, (fun _ z => nomatch z), .int _, fun m ρ => ∃ (here : Nat) (done : List (Nat × Nat)) (s5 s6 : SV), frzs [s5, s6] = [none, none] ∧ m = high + 1 - here ∧ low ≤ here ∧ here ≤ high + 1 ∧ done ++ blks wd here high = blks wd low high ∧ ρ = [.par (.int (wd : Nat)), .par (.int (low : Nat)), .par (.int (high : Nat)), .own (done.map (bD wd)), .dat (.int (here : Nat)), s5, s6], ⟨high + 1 - low, low, [], .nil, .nil, rfl, rfl, Nat.le_refl _, by omega, rfl, rfl⟩, ?_⟩
    rintro m ρ ⟨here, done, s5, s6, hf, rfl, h1, h2, h3, rfl⟩
    simp only [tn0, tn1, tn2, tn3, tn4, tn5, bT, bs, b1, DL.wp, sRet, sRetN, sRetO, sSeq, sIf, sSet, sNew, sMov, sDo, sApp, sExt, sUnp, sPar, sParN, sNext, setAll, dAnd, dOr, dNot, dIf, dIsi, dv, dC, dOp, cI0, cII, gII, cSc, eSc, chI, chI3, chN, nmD, dCall0, gNotInS, cInC, gInC, cIxS, gIxS, cAddS, gAddS, strI, sgn, dB, mask, stl, sSetM, sNewM, sAppM, sExtM, sUnpM, b1M, dNeg, dEmp, nList, nCat, nSl, sRetN,  dtAnd, dtOr, dtNot, bw1, dCall, dCallJ, nCall, dCB, aCons, aNil, dTup, nLst, dNew, gLen, cLen, gTu, cTu, c2I, g2I, c1I, g1I, itm, cIx, gSl, oNo, oPt, dAll, dSum, dRepr, gCat, cCat, cInS, gInS, isN, ini, List.map, List.length, List.replicate, List.append, List.cons_append, List.nil_append, List.append_nil, List.getElem?_cons_zero, List.getElem?_cons_succ, List.set_cons_zero, List.set_cons_succ, List.length_cons, List.length_nil, Option.getD_some, true_and, and_true, if_true, if_false, isT_int_int, isT_bool_int, isT_tuple_tuple, isT_str_str, Bool.not_false, Bool.not_true, false_implies, List.length_map, Bool.false_eq_true, Bool.true_eq_false, isT_int_none, isT_int_bool, isT_int_str, isT_int_list, isT_int_tuple, isT_int_dict, isT_bool_none, isT_bool_bool, isT_bool_str, isT_bool_list, isT_bool_tuple, isT_bool_dict, isT_tuple_none, isT_tuple_bool, isT_tuple_int, isT_tuple_str, isT_tuple_list, isT_tuple_dict, isT_str_none, isT_str_bool, isT_str_int, isT_str_list, isT_str_tuple, isT_str_dict]
    refine ite_dec rfl (fun c1 => ?_) fun c1 => ?_
    · have c1 : here ≤ high := by omega
      refine ⟨.int _, .int _, ki _ wd low here high _ c1 w2 hh ?_⟩
      have f := fr_fit (w := wd) c1
      have fw := f.w
      have fh := f.h
      have p := pos2 (fr wd here high)
      have dl : done.length < 62 := by
        rw [blks_cons c1] at h3
        have := congrArg List.length h3
        rw [List.length_append, List.length_cons] at this
        omega
      simp only [tn0, tn1, tn2, tn3, tn4, tn5, bT, bs, b1, DL.wp, sRet, sRetN, sRetO, sSeq, sIf, sSet, sNew, sMov, sDo, sApp, sExt, sUnp, sPar, sParN, sNext, setAll, dAnd, dOr, dNot, dIf, dIsi, dv, dC, dOp, cI0, cII, gII, cSc, eSc, chI, chI3, chN, nmD, dCall0, gNotInS, cInC, gInC, cIxS, gIxS, cAddS, gAddS, strI, sgn, dB, mask, stl, sSetM, sNewM, sAppM, sExtM, sUnpM, b1M, dNeg, dEmp, nList, nCat, nSl, sRetN,  dtAnd, dtOr, dtNot, bw1, dCall, dCallJ, nCall, dCB, aCons, aNil, dTup, nLst, dNew, gLen, cLen, gTu, cTu, c2I, g2I, c1I, g1I, itm, cIx, gSl, oNo, oPt, dAll, dSum, dRepr, gCat, cCat, cInS, gInS, isN, ini, List.map, List.length, List.replicate, List.append, List.cons_append, List.nil_append, List.append_nil, List.getElem?_cons_zero, List.getElem?_cons_succ, List.set_cons_zero, List.set_cons_succ, List.length_cons, List.length_nil, Option.getD_some, true_and, and_true, if_true, if_false, isT_int_int, isT_bool_int, isT_tuple_tuple, isT_str_str, Bool.not_false, Bool.not_true, false_implies, List.length_map, Bool.false_eq_true, Bool.true_eq_false, isT_int_none, isT_int_bool, isT_int_str, isT_int_list, isT_int_tuple, isT_int_dict, isT_bool_none, isT_bool_bool, isT_bool_str, isT_bool_list, isT_bool_tuple, isT_bool_dict, isT_tuple_none, isT_tuple_bool, isT_tuple_int, isT_tuple_str, isT_tuple_list, isT_tuple_dict, isT_str_none, isT_str_bool, isT_str_int, isT_str_list, isT_str_tuple, isT_str_dict]
      refine ⟨by decide, by omega, _, ?_, here + 2 ^ fr wd here high, done ++ [(here, fr wd here high)], .dat (.int ((2 ^ fr wd here high : Nat) : Int)), .dat (.int ((wd - fr wd here high : Nat) : Int)), rfl, rfl, by omega, by omega, ?_, ?_⟩
      · omega
      · rw [List.append_assoc, List.singleton_append, ← h3, blks_cons c1]
      · rw [show (here : Int) + ((2 ^ fr wd here high : Nat) : Int) = ((here + 2 ^ fr wd here high : Nat) : Int) by omega, List.map_append]
        rfl
    · have c1 : ¬ here ≤ high := by omega
      rw [blks_nil (by omega), List.append_nil] at h3
      subst h3
      exact k
end
end LQ

namespace DL
open PySem PySem.Spec PyProof.Rows L2 GuL HG LZ RZ
section
variable {X : Cx} {b : Bx} {j : Bool} {tg iter e e1 e2 : Expr} {pos p0 p : Pos} {ta tb : DTE} {tt : DTA}
/-! ### enumerate of a list -/
theorem ito_enL {K : PySem.W.Frag} {B : Hp} {a : Addr} {xs : List V} {ds : List PyData} (k : Kj b j B) (h : B a = some (.lst xs)) (n : ¬ b.ex a) (hd : Dts K b B xs ds) : Ito K b j (Ite K a) B (enD ds) := by
  have ln : (enD ds).length = xs.length := by unfold enD; rw [List.length_mapIdx, hd.len]
  have at_ : ∀ {H : Hp}, Stp b j B H → SqL K H a xs := fun s => SqL.of (s.1 _ _ (fun _ => nj n) h)
  refine ⟨fun i H v H' => ∃ T p, v = .ref T ∧ H T = none ∧ H' = upd H T (.tup [.int (i : Nat), p]) ∧ xs[i]? = some p, ?_, ?_⟩
  · rw [ln]
    exact ⟨fun i H hi s => ⟨xs, xs[i], at_ s, by simp [hi]⟩, fun H s => ⟨xs, at_ s, Nat.le_refl _⟩, fun i H x H' hi s ⟨T, p, e1, e2, e3, e4⟩ => ⟨T, p, e1, e2, e3, e4 xs (at_ s)⟩⟩
  · rintro O w i H x H' d hi s ⟨T, p, rfl, hT, rfl, hp⟩ e
    obtain ⟨d2, e2, h2⟩ := hd.at hp
    unfold enD at e
    rw [List.getElem?_mapIdx, e2] at e
    cases e
    exact ⟨same_new hT, .tup (SqT.of upd_same) (.cons (.int _) (.cons (((frO w h2).stpO k s).stpX (k.step s) (.new hT) Bx.pj) .nil))⟩
def enIL (t : DTA) : DTI := fun ρ Q => t ρ fun ds => match ds with | [.list ds] => Q (enD ds) | _ => False
theorem di_enL (hg : Gl X "enumerate") (hm : X.mg "enumerate" = none) (h : DA X j [e] tt) {ts : List Expr} {kk : Nat} {tp : Pos} (hs : starEach [e] X.env = [(false, eval e X.env)] := by rfl) : DI X j false (.Tuple ts kk tp) (.Call (.Name "enumerate" p) [e] [] pos) (enIL tt) := by
  refine ⟨fun b => piI (pi_enum hg hm (h.pa b) hs) ?_, fun ρ Q Q' m q => h.mo _ _ _ (fun d h => ?_) q⟩
  · rintro σ H Q ⟨ρ, H0, G, r, q⟩
    refine ⟨ρ, H0, G, r, h.mo _ _ _ (fun ds q vs H1 s1 hv => ?_) q⟩
    split at q
    · rename_i n
      cases hv with
      | cons h1 h2 =>
        cases h1 with
        | lst g1 g3 g2 =>
          cases h2
          have r1 := r.step s1
          exact ⟨_, _, rfl, SqL.of g1, q _ H1 s1 (ito_enL r1.kH g1 g3 g2)⟩
    · exact q.elim
  · split at h
    · exact m _ h
    · exact h.elim
/-! ### range of two -/
theorem di_rng2 {f : Bool} (hg : Gl X "range") (hm : X.mg "range" = none) (h : DA X j [e1, e2] tt) (hs : starEach [e1, e2] X.env = [(false, eval e1 X.env), (false, eval e2 X.env)] := by rfl) (hs2 : starEach [e2] X.env = [(false, eval e2 X.env)] := by rfl) : DI X j f tg (.Call (.Name "range" p) [e1, e2] [] pos) (rng2I tt) := by
  refine ⟨fun b => piI (pi_range2 hg hm (h.pa b) hs hs2) ?_, fun ρ Q Q' m q => h.mo _ _ _ (fun d h => ?_) q⟩
  · rintro σ H Q ⟨ρ, H0, G, r, q⟩
    refine ⟨ρ, H0, G, r, h.mo _ _ _ (fun ds q vs H1 s1 hv => ?_) q⟩
    split at q
    · rename_i m n
      cases hv with
      | cons h1 h2 =>
        cases h1
        cases h2 with
        | cons h2 h3 =>
          cases h2
          cases h3
          exact ⟨m, n, rfl, q.1, q.2 _ H1 s1 ito_rng⟩
    · exact q.elim
  · split at h
    · exact ⟨h.1, m _ h.2⟩
    · exact h.elim
end
end DL

namespace LQ
open PySem PySem.Spec PyProof.Rows L2 GuL HG DL
theorem row_map {ds es : List PyData} (f : PyData → PyData) (h1 : es.length = ds.length) (h : ∀ (k : Nat) e, es[k]? = some e → ∃ d, ds[k]? = some d ∧ e = f d) : es = ds.map f := by
  apply List.ext_getElem?
  intro k
  rw [List.getElem?_map]
  cases e : es[k]? with
  | none =>
    have := List.getElem?_eq_none_iff.mp e
    rw [List.getElem?_eq_none (by omega)]
    rfl
  | some x =>
    obtain ⟨d, h2, rfl⟩ := h k x e
    rw [h2]
    rfl

theorem neg1 : -(1 : Int) = -1 := rfl
def cutB (w low high a c : Nat) : Bool := (blks w low high).any fun x => decide (a < x.1) && decide (x.1 ≤ c)
theorem cutB_iff {w low high a c : Nat} : cutB w low high a c = true ↔ Cut w low high a c := by
  unfold cutB Cut
  rw [List.any_eq_true]
  simp only [Bool.and_eq_true, decide_eq_true_eq]
def upB (w low high : Nat) : List Nat → Bool
  | a :: c :: r => cutB w low high a c && upB w low high (c :: r)
  | _ => true
theorem upB_iff {w low high : Nat} : ∀ {ns : List Nat}, upB w low high ns = true ↔ ∀ (j a c : Nat), ns[j]? = some a → ns[j + 1]? = some c → cutB w low high a c = true
  | [] => by
    constructor
    · intro _ j a c h _
      cases h
    · intro _
      rfl
  | [_] => by
    constructor
    · intro _ j a c _ h
      rw [List.getElem?_cons_succ] at h
      cases h
    · intro _
      rfl
  | a :: c :: r => by
    show (cutB w low high a c && upB w low high (c :: r)) = true ↔ _
    rw [Bool.and_eq_true, upB_iff]
    constructor
    · rintro ⟨h1, h2⟩ j x y hx hy
      cases j with
      | zero => cases hx; cases hy; exact h1
      | succ j => exact h2 j x y hx hy
    · intro h
      exact ⟨h 0 a c rfl rfl, fun j x y hx hy => h (j + 1) x y hx hy⟩
def natD : PyData → Nat | .int i => i.toNat | _ => 0
def marksB (w low high : Nat) (d : PyData) : Bool := match d with | .tuple ds => ds.all (fun d => numB d (low : Nat) (high : Nat)) && upB w low high (ds.map natD) | _ => false
def cAt (L ns : List Nat) : Nat → Nat | 0 => 0 | i + 1 => cntB L (ns.getD i 0)
def intD : PyData → Int | .int i => i | _ => 0
theorem max_cnt {L : List Nat} {n : Nat} {os : List (Option PyData)} (up : L.Pairwise (· < ·)) (h0 : ∃ x, L[0]? = some x ∧ x ≤ n) (l1 : os.length = L.length)
    (l2 : ∀ (q : Nat) o, os[q]? = some o → ∃ x, L[q]? = some x ∧ o = if x ≤ n then some (.int (q : Nat)) else none) : ∃ zs : List Int, os.filterMap id = zs.map .int ∧ 0 < zs.length ∧ ∀ m ∈ zs, (∀ y ∈ zs, y ≤ m) → m + 1 = (cntB L n : Nat) := by
  have mem : ∀ d, d ∈ os.filterMap id ↔ ∃ q : Nat, q < cntB L n ∧ d = .int (q : Nat) := fun d => by
    rw [List.mem_filterMap]
    constructor
    · rintro ⟨o, ho, e⟩
      obtain ⟨q, hq⟩ := List.mem_iff_getElem?.mp ho
      obtain ⟨x, hx, e2⟩ := l2 q o hq
      have e : o = some d := e
      rw [e] at e2
      by_cases c : x ≤ n
      · rw [if_pos c] at e2
        cases e2
        exact ⟨q, (cnt_iff up).mpr ⟨x, hx, c⟩, rfl⟩
      · rw [if_neg c] at e2
        cases e2
    · rintro ⟨q, hq, rfl⟩
      obtain ⟨x, hx, c⟩ := (cnt_iff up).mp hq
      have := (List.getElem?_eq_some_iff.mp hx).1
      have hq2 := List.getElem?_eq_getElem (show q < os.length by omega)
      obtain ⟨y, hy, e2⟩ := l2 q _ hq2
      rw [hx] at hy
      cases hy
      rw [if_pos c] at e2
      exact ⟨os[q], List.getElem_mem _, e2⟩
  have c0 : 0 < cntB L n := (cnt_iff up).mpr h0
  refine ⟨(os.filterMap id).map intD, ?_, ?_, fun m hm hy => ?_⟩
  · rw [List.map_map]
    conv => lhs; rw [← List.map_id (os.filterMap id)]
    refine List.map_congr_left fun d hd => ?_
    obtain ⟨q, _, rfl⟩ := (mem d).mp hd
    rfl
  · rw [List.length_map]
    exact List.length_pos_of_mem ((mem _).mpr ⟨0, c0, rfl⟩)
  · obtain ⟨d, hd, rfl⟩ := List.mem_map.mp hm
    obtain ⟨q, hq, rfl⟩ := (mem d).mp hd
    have := hy ((cntB L n - 1 : Nat) : Int) (List.mem_map.mpr ⟨_, (mem _).mpr ⟨cntB L n - 1, by omega, rfl⟩, rfl⟩)
    show (q : Int) + 1 = _
    have e : intD (PyData.int (q : Nat)) = (q : Int) := rfl
    rw [e] at this
    omega
def fMarks : DF := fun ds Q => ∃ (w low high : Nat) (d : PyData), ds = [.int (w : Nat), .int (low : Nat), .int (high : Nat), d] ∧ Rg w low high ∧ (∀ xs, d = .tuple xs → xs.length ≤ 3000) ∧ Q (.bool (marksB w low high d))
theorem moMarks : MoF fMarks := fun _ _ _ m ⟨a, b, c, d, e, r, l, q⟩ => ⟨a, b, c, d, e, r, l, m _ q⟩
theorem up_len {w low high : Nat} : ∀ {ns : List Nat} {x : Nat}, upB w low high (x :: ns) = true → (∀ y ∈ x :: ns, y ≤ high) → (x :: ns).length ≤ high + 1 - x
  | [], x, _, h => by
    have := h x List.mem_cons_self
    show 1 ≤ _
    omega
  | y :: ns, x, h, hb => by
    have h' : (cutB w low high x y && upB w low high (y :: ns)) = true := h
    rw [Bool.and_eq_true] at h'
    obtain ⟨b, _, b1, b2⟩ := cutB_iff.mp h'.1
    have := up_len h'.2 fun z hz => hb z (List.mem_cons_of_mem _ hz)
    have := hb y (List.mem_cons_of_mem _ List.mem_cons_self)
    rw [List.length_cons]
    omega
theorem nat_of_num {d : PyData} {low high : Nat} (h : numB d (low : Nat) (high : Nat) = true) : d = .int (natD d : Nat) ∧ low ≤ natD d ∧ natD d ≤ high := by
  obtain ⟨z, rfl, z1, z2⟩ := num_int h
  obtain ⟨n, rfl⟩ := Int.eq_ofNat_of_zero_le (show 0 ≤ z by omega)
  refine ⟨rfl, ?_, ?_⟩
  · show low ≤ (n : Int).toNat
    omega
  · show (n : Int).toNat ≤ high
    omega
theorem marks_len {w low high : Nat} {ds : List PyData} (h : marksB w low high (.tuple ds) = true) : (ds.length : Int) ≤ (high : Int) - (low : Int) + 1 ∨ ds = [] := by
  have h' : (ds.all (fun d => numB d (low : Nat) (high : Nat)) && upB w low high (ds.map natD)) = true := h
  rw [Bool.and_eq_true, List.all_eq_true] at h'
  cases ds with
  | nil => exact .inr rfl
  | cons d ds =>
    refine .inl ?_
    have l1 := (nat_of_num (h'.1 d List.mem_cons_self)).2
    have := up_len (x := natD d) (ns := ds.map natD) h'.2 fun y hy => by
      rw [← List.map_cons] at hy
      obtain ⟨x, hx, rfl⟩ := List.mem_map.mp hy
      exact (nat_of_num (h'.1 x hx)).2.2
    rw [List.length_cons, List.length_map] at this
    rw [List.length_cons]
    omega
section
variable {P : Program} {w : World} {K : PySem.W.Frag} {mg : Str → Option Value} {base : Heap}

theorem ok_marksof {f fN fR fP : Addr} {fd dN dR dP : FuncData} (F : Fun K "are_marks_of" "are_marks_of" s_are_marks_of f fd) (B : Blt mg) (KN : DK P w K mg base 1 "is_number" s_is_number p_is_number (spP K fNumA) fN dN) (KR : DK P w K mg base 1 "is_row" s_is_row p_is_row (spP K fRow) fR dR) (KPi : DK P w K mg base 1 "prefixes_in" s_prefixes_in p_prefixes_in (spP K fBlks) fP dP) : FnG P w K mg base CX0 2 f fd p_are_marks_of (spP K fMarks) := by
  refine fnP F sc_are_marks_of moMarks (fun ds Q h => ?_) (fun cdv A outer s H E b hA hr => ⟨_, (dss_cons (ds_if (DW.dt (dw_or (dt_not (dt_val (de_call KR.G moRow hA (hr.mono (by decide)) (by rfl) KR.g KR.F.kp KR.b pass0 (da_cons (de_v (pv 3)) (da_cons de_int (da_cons (de_add (de_sub (de_v (pv 2)) (de_v (pv 1))) de_int) da_nil)))))) (dw_or1 (dt_not (dt_val (de_all rfl (by rfl) B.all (de_new (dn_lcM rfl sc_are_marks_of.nd (own := [("mark", 6)]) (p := (.one (.n 6))) (di_tup (de_v (pv 3))) (blkOk_by (N := ["width", "low", "high", "value", "begins", "at", "mark", "word", "_", "index"]) (sc := defScope s_are_marks_of) (by decide +kernel)) (by decide) (fun _ _ _ _ _ => (pg_name (i := 6) sc_are_marks_of.nd rfl (by first | exact Or.inl rfl | exact Or.inr rfl))) (fun _ _ _ _ _ => (de_call KN.G moNumA hA (hr.mono (by decide)) (by rfl) KN.g KN.F.kp KN.b pass0 (da_cons (de_v (pv 6)) (da_cons (de_v (pv 1)) (da_cons (de_v (pv 2)) da_nil))))))))))))) (dss_one (ds_ret de_bl)) dss_nil) (dss_cons (ds_setLcM (i := 4) rfl sc_are_marks_of.nd rfl rfl (sw_true rfl rfl rfl (by decide +kernel)) (own := [("word", 7), ("_", 8)]) (p := (.one (.t [7, 8]))) (di_tup (de_call KPi.G moBlks hA (hr.mono (by decide)) (by rfl) KPi.g KPi.F.kp KPi.b pass0 (da_cons (de_v (pv 0)) (da_cons (de_v (pv 1)) (da_cons (de_v (pv 2)) da_nil))))) (blkOk_by (N := ["width", "low", "high", "value", "begins", "at", "mark", "word", "_", "index"]) (sc := defScope s_are_marks_of) (by decide +kernel)) (by decide) (fun _ _ _ _ _ => (pg_tup rfl (pgs_cons (pg_name (i := 7) sc_are_marks_of.nd rfl (by first | exact Or.inl rfl | exact Or.inr rfl)) (pgs_cons (pg_name (i := 8) sc_are_marks_of.nd rfl (by first | exact Or.inl rfl | exact Or.inr rfl)) pgs_nil)))) (fun _ _ _ _ _ => (de_v (pv 7)))) (dss_still (is := [4]) (dss_cons (ds_setM (i := 5) sc_are_marks_of.nd rfl (by first | exact Or.inl rfl | exact Or.inr rfl) (de_neg de_int)) (dss_cons (ds_forM (p := (.one (.n 6))) PassesOwn.never rfl (dim_seq (de_v (pv 3))) (pg_name (i := 6) sc_are_marks_of.nd rfl (by first | exact Or.inl rfl | exact Or.inr rfl)) (dss_cons (ds_if (DW.dt (dw_or (dt_eq (de_add (de_v (pv 5)) de_int) (de_len (by rfl) B.len (da_cons (de_v (pv 4)) da_nil))) (dw_or1 (dt_lt (de_v (pv 6)) (de_ix (de_v (pv 4)) (de_add (de_v (pv 5)) de_int) (fun _ _ => rfl)))))) (dss_one (ds_ret de_bl)) dss_nil) (dss_one (ds_setM (i := 5) sc_are_marks_of.nd rfl (by first | exact Or.inl rfl | exact Or.inr rfl) (de_maxL rfl (by rfl) B.max (de_new (dn_lcTM rfl sc_are_marks_of.nd (own := [("index", 9), ("word", 7)]) (p := (.one (.t [9, 7]))) (di_enL (by rfl) B.enumerate (da_cons (de_v (pv 4)) da_nil)) (blkOk_by (N := ["width", "low", "high", "value", "begins", "at", "mark", "word", "_", "index"]) (sc := defScope s_are_marks_of) (by decide +kernel)) (by decide) (fun _ _ _ _ _ => (pg_tup rfl (pgs_cons (pg_name (i := 9) sc_are_marks_of.nd rfl (by first | exact Or.inl rfl | exact Or.inr rfl)) (pgs_cons (pg_name (i := 7) sc_are_marks_of.nd rfl (by first | exact Or.inl rfl | exact Or.inr rfl)) pgs_nil)))) (fun _ _ _ _ _ => (dt_le (de_v (pv 7)) (de_v (pv 6)))) (fun _ _ _ _ _ => (de_v (pv 9)))))))))) (dss_one (ds_ret de_bl))))))), fun ds Q h => ?_⟩)
  · obtain ⟨a, b, c, d, rfl, _⟩ := h
    rfl
  · obtain ⟨wd, low, high, d, rfl, r, hlen, k⟩ := h
    have b32 := r.b32
    have l62 := r.len
    have hl := r.l
    simp only [tn0, tn1, tn2, tn3, tn4, tn5, bT, bs, b1, DL.wp, sRet, sRetN, sRetO, sSeq, sIf, sSet, sNew, sMov, sDo, sApp, sExt, sUnp, sPar, sParN, sNext, setAll, dAnd, dOr, dNot, dIf, dIsi, dv, dC, dOp, cI0, cII, gII, cSc, eSc, chI, chI3, chN, nmD, dCall0, gNotInS, cInC, gInC, cIxS, gIxS, cAddS, gAddS, strI, sgn, dB, mask, stl, sSetM, sNewM, sAppM, sExtM, sUnpM, b1M, dNeg, dEmp, nList, nCat, nSl, sRetN,  dtAnd, dtOr, dtNot, bw1, dCall, dCallJ, nCall, dCB, aCons, aNil, dTup, nLst, dNew, gLen, cLen, gTu, cTu, c2I, g2I, c1I, g1I, itm, cIx, gSl, oNo, oPt, dAll, dSum, dRepr, gCat, cCat, cInS, gInS, isN, ini, List.map, List.length, List.replicate, List.append, List.cons_append, List.nil_append, List.append_nil, List.getElem?_cons_zero, List.getElem?_cons_succ, List.set_cons_zero, List.set_cons_succ, List.length_cons, List.length_nil, Option.getD_some, true_and, and_true, if_true, if_false, isT_int_int, isT_bool_int, isT_tuple_tuple, isT_str_str, Bool.not_false, Bool.not_true, false_implies, List.length_map, Bool.false_eq_true, Bool.true_eq_false, isT_int_none, isT_int_bool, isT_int_str, isT_int_list, isT_int_tuple, isT_int_dict, isT_bool_none, isT_bool_bool, isT_bool_str, isT_bool_list, isT_bool_tuple, isT_bool_dict, isT_tuple_none, isT_tuple_bool, isT_tuple_int, isT_tuple_str, isT_tuple_list, isT_tuple_dict, isT_str_none, isT_str_bool, isT_str_int, isT_str_list, isT_str_tuple, isT_str_dict, nLcM, tupI, bTM, sStill, stil, sForM, seqI, dMaxL, enIL, nLcTM]
    refine ⟨d, 0, _, rfl, ?_⟩
    cases d with
    | tuple ds =>
      have hlen := hlen ds rfl
      have no : marksB wd low high (.tuple ds) = false → Q (.bool false) := fun e => by rw [e] at k; exact k
      show if (!(decide ((0 : Int) ≤ (ds.length : Int)) && decide ((ds.length : Int) ≤ (high : Int) - (low : Int) + 1))) = true then _ else _
      rw [decide_eq_true (show (0 : Int) ≤ (ds.length : Int) by omega), Bool.true_and]
      by_cases c1 : (ds.length : Int) ≤ (high : Int) - (low : Int) + 1
      · rw [decide_eq_true c1]
        refine ite_no rfl ⟨by omega, fun i e => ∃ d, ds[i]? = some d ∧ e = .bool (numB d (low : Nat) (high : Nat)), fun i d hd => ⟨d, _, _, rfl, d, hd, rfl⟩, fun es f1 f2 => ?_⟩
        have e4 := row_map (fun d => .bool (numB d (low : Nat) (high : Nat))) f1 f2
        refine ⟨ds.map fun d => numB d (low : Nat) (high : Nat), by rw [e4, List.map_map]; rfl, ?_⟩
        have ea : (ds.map fun d => numB d (low : Nat) (high : Nat)).all id = ds.all fun d => numB d (low : Nat) (high : Nat) := by rw [List.all_map]; rfl
        rw [ea]
        cases hall : ds.all fun d => numB d (low : Nat) (high : Nat) with
        | false =>
          refine ite_yes rfl (no ?_)
          show (ds.all (fun d => numB d (low : Nat) (high : Nat)) && _) = false
          rw [hall, Bool.false_and]
        | true =>
          refine ite_no rfl ⟨wd, low, high, rfl, r, ?_⟩
          show (List.map (bD wd) (blks wd low high)).length ≤ 100000 ∧ _
          refine ⟨by rw [List.length_map]; omega, fun i e => ∃ x, (blks wd low high)[i]? = some x ∧ e = .int (x.1 : Nat), fun i d hd => ?_, fun es f3 f4 => ?_⟩
          · rw [List.getElem?_map] at hd
            cases hx : (blks wd low high)[i]? with
            | none => rw [hx] at hd; cases hd
            | some x =>
              rw [hx] at hd
              cases hd
              exact ⟨rfl, x, hx, rfl⟩
          · have e5 : es = (begins wd low high).map fun n => .int (n : Nat) := by
              unfold begins
              rw [List.map_map]
              apply List.ext_getElem?
              intro i
              rw [List.length_map] at f3
              cases hx : (blks wd low high)[i]? with
              | none =>
                have := List.getElem?_eq_none_iff.mp hx
                rw [List.getElem?_map, hx, List.getElem?_eq_none (by omega)]
                rfl
              | some x =>
                have li := (List.getElem?_eq_some_iff.mp hx).1
                have h0 := List.getElem?_eq_getElem (show i < es.length by omega)
                obtain ⟨y, hy, e6⟩ := f4 i _ h0
                rw [hx] at hy
                cases hy
                rw [h0, List.getElem?_map, hx, e6]
                rfl
            subst e5
            clear f3 f4 f1 f2 e4 ea
            simp only [tn0, tn1, tn2, tn3, tn4, tn5, bT, bs, b1, DL.wp, sRet, sRetN, sRetO, sSeq, sIf, sSet, sNew, sMov, sDo, sApp, sExt, sUnp, sPar, sParN, sNext, setAll, dAnd, dOr, dNot, dIf, dIsi, dv, dC, dOp, cI0, cII, gII, cSc, eSc, chI, chI3, chN, nmD, dCall0, gNotInS, cInC, gInC, cIxS, gIxS, cAddS, gAddS, strI, sgn, dB, mask, stl, sSetM, sNewM, sAppM, sExtM, sUnpM, b1M, dNeg, dEmp, nList, nCat, nSl, sRetN,  dtAnd, dtOr, dtNot, bw1, dCall, dCallJ, nCall, dCB, aCons, aNil, dTup, nLst, dNew, gLen, cLen, gTu, cTu, c2I, g2I, c1I, g1I, itm, cIx, gSl, oNo, oPt, dAll, dSum, dRepr, gCat, cCat, cInS, gInS, isN, ini, List.map, List.length, List.replicate, List.append, List.cons_append, List.nil_append, List.append_nil, List.getElem?_cons_zero, List.getElem?_cons_succ, List.set_cons_zero, List.set_cons_succ, List.length_cons, List.length_nil, Option.getD_some, true_and, and_true, if_true, if_false, isT_int_int, isT_bool_int, isT_tuple_tuple, isT_str_str, Bool.not_false, Bool.not_true, false_implies, List.length_map, Bool.false_eq_true, Bool.true_eq_false, isT_int_none, isT_int_bool, isT_int_str, isT_int_list, isT_int_tuple, isT_int_dict, isT_bool_none, isT_bool_bool, isT_bool_str, isT_bool_list, isT_bool_tuple, isT_bool_dict, isT_tuple_none, isT_tuple_bool, isT_tuple_int, isT_tuple_str, isT_tuple_list, isT_tuple_dict, isT_str_none, isT_str_bool, isT_str_int, isT_str_list, isT_str_tuple, isT_str_dict, List.foldl, stil, neg1]
            have hns : ∀ d ∈ ds, d = .int (natD d : Nat) ∧ low ≤ natD d ∧ natD d ≤ high := fun d hd => nat_of_num (List.all_eq_true.mp hall d hd)
            have lL : (begins wd low high).length ≤ 62 := by unfold begins; rw [List.length_map]; exact l62
            have lP : 0 < (begins wd low high).length := List.length_pos_of_mem (List.mem_of_getElem? (begins_head (w := wd) hl))
            refine ⟨fun (i : Nat) ρ => ∃ (a : Int) (s6 : SV), frzs [s6] = [none] ∧ (∀ j x y, j + 1 < i → (ds.map natD)[j]? = some x → (ds.map natD)[j + 1]? = some y → cutB wd low high x y = true) ∧ a + 1 = (cAt (begins wd low high) (ds.map natD) i : Nat) ∧ ρ = [.par (.int (wd : Nat)), .par (.int (low : Nat)), .par (.int (high : Nat)), .par (.tuple ds), .dat (.list ((begins wd low high).map fun n => .int (n : Nat))), .dat (.int a), s6, .nil, .nil, .nil], ⟨-1, .nil, rfl, fun j x y h => absurd h (by omega), rfl, rfl⟩, ?_, ?_⟩
            · rintro i d ρ hd ⟨a, s6, hf, hi, ha, rfl⟩
              obtain ⟨en, n1, n2⟩ := hns d (List.mem_of_getElem? hd)
              have hn : (ds.map natD)[i]? = some (natD d) := by rw [List.getElem?_map, hd]; rfl
              rw [en]
              generalize natD d = n at n1 n2 hn
              have cl : cAt (begins wd low high) (ds.map natD) i ≤ (begins wd low high).length := by
                cases i with
                | zero => exact Nat.zero_le _
                | succ i => exact cnt_le
              have key : (cAt (begins wd low high) (ds.map natD) i < (begins wd low high).length ∧ ∃ b, (begins wd low high)[cAt (begins wd low high) (ds.map natD) i]? = some b ∧ b ≤ n) ∨ (marksB wd low high (.tuple ds) = false ∧ ¬ (cAt (begins wd low high) (ds.map natD) i < (begins wd low high).length ∧ ∃ b, (begins wd low high)[cAt (begins wd low high) (ds.map natD) i]? = some b ∧ b ≤ n)) := by
                cases i with
                | zero => exact .inl ⟨lP, low, begins_head hl, n1⟩
                | succ i =>
                  have li := (List.getElem?_eq_some_iff.mp hn).1
                  have hp : (ds.map natD)[i]? = some (ds.map natD)[i] := List.getElem?_eq_getElem (by omega)
                  have eg : (ds.map natD).getD i 0 = (ds.map natD)[i] := by rw [List.getD_eq_getElem?_getD, hp]; rfl
                  have ec : cAt (begins wd low high) (ds.map natD) (i + 1) = cntB (begins wd low high) (ds.map natD)[i] := by
                    show cntB _ ((ds.map natD).getD i 0) = _
                    rw [eg]
                  rw [ec]
                  by_cases hc : cutB wd low high (ds.map natD)[i] n = true
                  · exact .inl (cut_next.mpr (cutB_iff.mp hc))
                  · refine .inr ⟨?_, fun z => hc (cutB_iff.mpr (cut_next.mp z))⟩
                    show (ds.all (fun d => numB d (low : Nat) (high : Nat)) && upB wd low high (ds.map natD)) = false
                    rw [hall, Bool.true_and, ← Bool.not_eq_true, upB_iff]
                    exact fun z => hc (z i _ _ hp hn)
              have hi' : (cAt (begins wd low high) (ds.map natD) i < (begins wd low high).length ∧ ∃ b, (begins wd low high)[cAt (begins wd low high) (ds.map natD) i]? = some b ∧ b ≤ n) → ∀ j x y, j + 1 < i + 1 → (ds.map natD)[j]? = some x → (ds.map natD)[j + 1]? = some y → cutB wd low high x y = true := fun z j x y hj hx hy => by
                by_cases e : j + 1 < i
                · exact hi j x y e hx hy
                · have e : i = j + 1 := by omega
                  subst e
                  rw [hn] at hy
                  cases hy
                  have eg : (ds.map natD).getD j 0 = x := by rw [List.getD_eq_getElem?_getD, hx]; rfl
                  have ec : cAt (begins wd low high) (ds.map natD) (j + 1) = cntB (begins wd low high) x := by
                    show cntB _ ((ds.map natD).getD j 0) = _
                    rw [eg]
                  rw [ec] at z
                  exact cutB_iff.mpr (cut_next.mp z)
              have enext : cAt (begins wd low high) (ds.map natD) (i + 1) = cntB (begins wd low high) n := by
                show cntB _ ((ds.map natD).getD i 0) = _
                rw [List.getD_eq_getElem?_getD, hn]
                rfl
              generalize cAt (begins wd low high) (ds.map natD) i = c at ha key hi' cl
              simp only [tn0, tn1, tn2, tn3, tn4, tn5, bT, bs, b1, DL.wp, sRet, sRetN, sRetO, sSeq, sIf, sSet, sNew, sMov, sDo, sApp, sExt, sUnp, sPar, sParN, sNext, setAll, dAnd, dOr, dNot, dIf, dIsi, dv, dC, dOp, cI0, cII, gII, cSc, eSc, chI, chI3, chN, nmD, dCall0, gNotInS, cInC, gInC, cIxS, gIxS, cAddS, gAddS, strI, sgn, dB, mask, stl, sSetM, sNewM, sAppM, sExtM, sUnpM, b1M, dNeg, dEmp, nList, nCat, nSl, sRetN,  dtAnd, dtOr, dtNot, bw1, dCall, dCallJ, nCall, dCB, aCons, aNil, dTup, nLst, dNew, gLen, cLen, gTu, cTu, c2I, g2I, c1I, g1I, itm, cIx, gSl, oNo, oPt, dAll, dSum, dRepr, gCat, cCat, cInS, gInS, isN, ini, List.map, List.length, List.replicate, List.append, List.cons_append, List.nil_append, List.append_nil, List.getElem?_cons_zero, List.getElem?_cons_succ, List.set_cons_zero, List.set_cons_succ, List.length_cons, List.length_nil, Option.getD_some, true_and, and_true, if_true, if_false, isT_int_int, isT_bool_int, isT_tuple_tuple, isT_str_str, Bool.not_false, Bool.not_true, false_implies, List.length_map, Bool.false_eq_true, Bool.true_eq_false, isT_int_none, isT_int_bool, isT_int_str, isT_int_list, isT_int_tuple, isT_int_dict, isT_bool_none, isT_bool_bool, isT_bool_str, isT_bool_list, isT_bool_tuple, isT_bool_dict, isT_tuple_none, isT_tuple_bool, isT_tuple_int, isT_tuple_str, isT_tuple_list, isT_tuple_dict, isT_str_none, isT_str_bool, isT_str_int, isT_str_list, isT_str_tuple, isT_str_dict]
              rw [ha]
              by_cases c1 : c = (begins wd low high).length
              · refine ite_yes (decide_eq_true (by rw [c1])) (no ?_)
                rcases key with z | z
                · omega
                · exact z.1
              refine ite_no (decide_eq_false (by omega)) ⟨⟨by omega, by omega⟩, ?_⟩
              have cl2 : c < (begins wd low high).length := by omega
              have hb := List.getElem?_eq_getElem cl2
              generalize (begins wd low high)[c] = bb at hb
              have eb : ((begins wd low high).map fun n => PyData.int (n : Nat))[((c : Nat) : Int).toNat]?.getD .none = .int (bb : Nat) := by
                rw [Int.toNat_natCast, List.getElem?_map, hb]
                rfl
              rw [eb]
              refine ⟨trivial, ite_dec rfl (fun c2 => no ?_) fun c2 => ?_⟩
              · rcases key with ⟨_, b', z1, z2⟩ | z
                · rw [hb] at z1
                  cases z1
                  omega
                · exact z.1
              · have ok : c < (begins wd low high).length ∧ ∃ b, (begins wd low high)[c]? = some b ∧ b ≤ n := ⟨cl2, bb, hb, by omega⟩
                have le : (enD ((begins wd low high).map fun n => PyData.int (n : Nat))).length = (begins wd low high).length := by unfold enD; rw [List.length_mapIdx, List.length_map]
                refine ⟨by rw [le]; omega, fun q o => ∃ x, (begins wd low high)[q]? = some x ∧ o = if x ≤ n then some (.int (q : Nat)) else none, fun q d hd => ?_, fun os l1 l2 => ?_⟩
                · unfold enD at hd
                  rw [List.getElem?_mapIdx, List.getElem?_map] at hd
                  cases hx : (begins wd low high)[q]? with
                  | none => rw [hx] at hd; cases hd
                  | some x =>
                    rw [hx] at hd
                    cases hd
                    simp only [tn0, tn1, tn2, tn3, tn4, tn5, bT, bs, b1, DL.wp, sRet, sRetN, sRetO, sSeq, sIf, sSet, sNew, sMov, sDo, sApp, sExt, sUnp, sPar, sParN, sNext, setAll, dAnd, dOr, dNot, dIf, dIsi, dv, dC, dOp, cI0, cII, gII, cSc, eSc, chI, chI3, chN, nmD, dCall0, gNotInS, cInC, gInC, cIxS, gIxS, cAddS, gAddS, strI, sgn, dB, mask, stl, sSetM, sNewM, sAppM, sExtM, sUnpM, b1M, dNeg, dEmp, nList, nCat, nSl, sRetN,  dtAnd, dtOr, dtNot, bw1, dCall, dCallJ, nCall, dCB, aCons, aNil, dTup, nLst, dNew, gLen, cLen, gTu, cTu, c2I, g2I, c1I, g1I, itm, cIx, gSl, oNo, oPt, dAll, dSum, dRepr, gCat, cCat, cInS, gInS, isN, ini, List.map, List.length, List.replicate, List.append, List.cons_append, List.nil_append, List.append_nil, List.getElem?_cons_zero, List.getElem?_cons_succ, List.set_cons_zero, List.set_cons_succ, List.length_cons, List.length_nil, Option.getD_some, true_and, and_true, if_true, if_false, isT_int_int, isT_bool_int, isT_tuple_tuple, isT_str_str, Bool.not_false, Bool.not_true, false_implies, List.length_map, Bool.false_eq_true, Bool.true_eq_false, isT_int_none, isT_int_bool, isT_int_str, isT_int_list, isT_int_tuple, isT_int_dict, isT_bool_none, isT_bool_bool, isT_bool_str, isT_bool_list, isT_bool_tuple, isT_bool_dict, isT_tuple_none, isT_tuple_bool, isT_tuple_int, isT_tuple_str, isT_tuple_list, isT_tuple_dict, isT_str_none, isT_str_bool, isT_str_int, isT_str_list, isT_str_tuple, isT_str_dict]
                    refine ite_dec rfl (fun c3 => ⟨x, hx, ?_⟩) fun c3 => ⟨x, hx, ?_⟩
                    · rw [if_pos (by omega)]
                    · rw [if_neg (by omega)]
                · rw [le] at l1
                  obtain ⟨zs, z1, z2, z3⟩ := max_cnt (begins_up (Nat.le_refl _)) ⟨low, begins_head hl, n1⟩ l1 l2
                  exact ⟨zs, by rw [z1], z2, fun m m1 m2 => ⟨m, _, rfl, hi' ok, by rw [enext]; exact z3 m m1 m2, rfl⟩⟩
            · rintro ρ ⟨a, s6, hf, hi, ha, rfl⟩
              refine ⟨?_, ?_⟩
              · show none :: none :: none :: none :: none :: none :: frzs (s6 :: [.nil, .nil, .nil]) = _
                cases s6 <;> first | rfl | cases hf
              · have : marksB wd low high (.tuple ds) = true := by
                  show (ds.all (fun d => numB d (low : Nat) (high : Nat)) && upB wd low high (ds.map natD)) = true
                  rw [hall, Bool.true_and, upB_iff]
                  intro j x y hx hy
                  refine hi j x y ?_ hx hy
                  have := (List.getElem?_eq_some_iff.mp hy).1
                  rw [List.length_map] at this
                  omega
                rw [this] at k
                exact k
      · rw [decide_eq_false c1]
        refine ite_yes rfl (no ?_)
        cases hm : marksB wd low high (.tuple ds) with
        | false => rfl
        | true =>
          rcases marks_len hm with z | z
          · exact absurd z c1
          · subst z
            exact absurd (show ((0 : Nat) : Int) ≤ _ by omega) c1
    | _ => exact k
end
end LQ

namespace LQ
open PySem PySem.Spec PyProof.Rows L2 GuL HG DL

theorem ite_not {p : Prop} [Decidable p] {a b : Prop} (h1 : ¬ p → a) (h2 : p → b) : if (!decide p) = true then a else b := by
  by_cases h : p
  · rw [if_neg (by rw [decide_eq_true h]; decide)]; exact h2 h
  · rw [if_pos (by rw [decide_eq_false h]; rfl)]; exact h1 h
theorem zp2_at : ∀ {ds es : List PyData} {i : Nat} {e : PyData}, (zp2 ds es)[i]? = some e → ∃ a b, ds[i]? = some a ∧ es[i]? = some b ∧ e = .tuple [a, b]
  | [], es, i, e, h => by
    simp [zp2] at h
  | _ :: _, [], i, e, h => by
    simp [zp2] at h
  | d :: ds, x :: es, i, e, h => by
    cases i with
    | zero => cases h; exact ⟨d, x, rfl, rfl, rfl⟩
    | succ i => exact zp2_at (ds := ds) (es := es) h
theorem cutD1 (l : List PyData) : DL.cutD l (some 1) none = l.drop 1 := by
  unfold DL.cutD
  rw [HT.sIx_none, show (some (1 : Int)) = some ((1 : Nat) : Int) from rfl, HT.sIx_nat]
  cases l with
  | nil => rfl
  | cons x xs =>
    rw [List.length_cons, show min 1 (xs.length + 1) = 1 by omega]
    exact List.take_of_length_le (by rw [List.length_drop, List.length_cons]; omega)
theorem ediv_nat (n m : Nat) : (n : Int) / (m : Int) = ((n / m : Nat) : Int) := by
  first | rfl | exact (Int.natCast_ediv _ _).symm | exact (Int.ofNat_ediv _ _).symm
section
variable {P : Program} {w : World} {K : PySem.W.Frag} {mg : Str → Option Value} {base : Heap}

theorem ok_prefof {f fC fP : Addr} {fd dCk dP : FuncData} (F : Fun K "prefixes_of" "prefixes_of" s_prefixes_of f fd) (KC : DK P w K mg base 2 "check_range" s_check_range p_check_range (spP K fChk) fC dCk) (KPi : DK P w K mg base 1 "prefixes_in" s_prefixes_in p_prefixes_in (spP K fBlks) fP dP) : FnG P w K mg base CX0 3 f fd p_prefixes_of (spP K fBlks) := by
  refine fnP F sc_prefixes_of moBlks (fun ds Q h => ?_) (fun cdv A outer s H E b hA hr => ⟨_, (dss_cons (ds_do (de_call KC.G moChk hA (hr.mono (by decide)) (by rfl) KC.g KC.F.kp KC.b pass0 (da_cons (de_v (pv 0)) (da_cons (de_v (pv 1)) (da_cons (de_v (pv 2)) da_nil))))) (dss_one (ds_ret (de_call KPi.G moBlks hA (hr.mono (by decide)) (by rfl) KPi.g KPi.F.kp KPi.b pass0 (da_cons (de_v (pv 0)) (da_cons (de_v (pv 1)) (da_cons (de_v (pv 2)) da_nil))))))), fun ds Q h => ?_⟩)
  · obtain ⟨a, b, c, rfl, _⟩ := h
    rfl
  · obtain ⟨wd, low, high, rfl, r, k⟩ := h
    simp only [tn0, tn1, tn2, tn3, tn4, tn5, bT, bs, b1, DL.wp, sRet, sRetN, sRetO, sSeq, sIf, sSet, sNew, sMov, sDo, sApp, sExt, sUnp, sPar, sParN, sNext, setAll, dAnd, dOr, dNot, dIf, dIsi, dv, dC, dOp, cI0, cII, gII, cSc, eSc, chI, chI3, chN, nmD, dCall0, gNotInS, cInC, gInC, cIxS, gIxS, cAddS, gAddS, strI, sgn, dB, mask, stl, sSetM, sNewM, sAppM, sExtM, sUnpM, b1M, dNeg, dEmp, nList, nCat, nSl, sRetN,  dtAnd, dtOr, dtNot, bw1, dCall, dCallJ, nCall, dCB, aCons, aNil, dTup, nLst, dNew, gLen, cLen, gTu, cTu, c2I, g2I, c1I, g1I, itm, cIx, gSl, oNo, oPt, dAll, dSum, dRepr, gCat, cCat, cInS, gInS, isN, ini, List.map, List.length, List.replicate, List.append, List.cons_append, List.nil_append, List.append_nil, List.getElem?_cons_zero, List.getElem?_cons_succ, List.set_cons_zero, List.set_cons_succ, List.length_cons, List.length_nil, Option.getD_some, true_and, and_true, if_true, if_false, isT_int_int, isT_bool_int, isT_tuple_tuple, isT_str_str, Bool.not_false, Bool.not_true, false_implies, List.length_map, Bool.false_eq_true, Bool.true_eq_false, isT_int_none, isT_int_bool, isT_int_str, isT_int_list, isT_int_tuple, isT_int_dict, isT_bool_none, isT_bool_bool, isT_bool_str, isT_bool_list, isT_bool_tuple, isT_bool_dict, isT_tuple_none, isT_tuple_bool, isT_tuple_int, isT_tuple_str, isT_tuple_list, isT_tuple_dict, isT_str_none, isT_str_bool, isT_str_int, isT_str_list, isT_str_tuple, isT_str_dict]
    exact ⟨wd, low, high, rfl, r, wd, low, high, rfl, r, k⟩
theorem ok_aremarks {f fC fP : Addr} {fd dCk dP : FuncData} (F : Fun K "are_marks" "are_marks" s_are_marks f fd) (KC : DK P w K mg base 2 "check_range" s_check_range p_check_range (spP K fChk) fC dCk) (KMo : DK P w K mg base 2 "are_marks_of" s_are_marks_of p_are_marks_of (spP K fMarks) fP dP) : FnG P w K mg base CX0 3 f fd p_are_marks (spP K fMarks) := by
  refine fnP F sc_are_marks moMarks (fun ds Q h => ?_) (fun cdv A outer s H E b hA hr => ⟨_, (dss_cons (ds_do (de_call KC.G moChk hA (hr.mono (by decide)) (by rfl) KC.g KC.F.kp KC.b pass0 (da_cons (de_v (pv 0)) (da_cons (de_v (pv 1)) (da_cons (de_v (pv 2)) da_nil))))) (dss_one (ds_ret (de_call KMo.G moMarks hA (hr.mono (by decide)) (by rfl) KMo.g KMo.F.kp KMo.b pass0 (da_cons (de_v (pv 0)) (da_cons (de_v (pv 1)) (da_cons (de_v (pv 2)) (da_cons (de_v (pv 3)) da_nil)))))))), fun ds Q h => ?_⟩)
  · obtain ⟨a, b, c, d, rfl, _⟩ := h
    rfl
  · obtain ⟨wd, low, high, d, rfl, r, hlen, k⟩ := h
    simp only [tn0, tn1, tn2, tn3, tn4, tn5, bT, bs, b1, DL.wp, sRet, sRetN, sRetO, sSeq, sIf, sSet, sNew, sMov, sDo, sApp, sExt, sUnp, sPar, sParN, sNext, setAll, dAnd, dOr, dNot, dIf, dIsi, dv, dC, dOp, cI0, cII, gII, cSc, eSc, chI, chI3, chN, nmD, dCall0, gNotInS, cInC, gInC, cIxS, gIxS, cAddS, gAddS, strI, sgn, dB, mask, stl, sSetM, sNewM, sAppM, sExtM, sUnpM, b1M, dNeg, dEmp, nList, nCat, nSl, sRetN,  dtAnd, dtOr, dtNot, bw1, dCall, dCallJ, nCall, dCB, aCons, aNil, dTup, nLst, dNew, gLen, cLen, gTu, cTu, c2I, g2I, c1I, g1I, itm, cIx, gSl, oNo, oPt, dAll, dSum, dRepr, gCat, cCat, cInS, gInS, isN, ini, List.map, List.length, List.replicate, List.append, List.cons_append, List.nil_append, List.append_nil, List.getElem?_cons_zero, List.getElem?_cons_succ, List.set_cons_zero, List.set_cons_succ, List.length_cons, List.length_nil, Option.getD_some, true_and, and_true, if_true, if_false, isT_int_int, isT_bool_int, isT_tuple_tuple, isT_str_str, Bool.not_false, Bool.not_true, false_implies, List.length_map, Bool.false_eq_true, Bool.true_eq_false, isT_int_none, isT_int_bool, isT_int_str, isT_int_list, isT_int_tuple, isT_int_dict, isT_bool_none, isT_bool_bool, isT_bool_str, isT_bool_list, isT_bool_tuple, isT_bool_dict, isT_tuple_none, isT_tuple_bool, isT_tuple_int, isT_tuple_str, isT_tuple_list, isT_tuple_dict, isT_str_none, isT_str_bool, isT_str_int, isT_str_list, isT_str_tuple, isT_str_dict]
    exact ⟨wd, low, high, rfl, r, wd, low, high, d, rfl, r, hlen, k⟩
theorem ok_lawmarks {f fI : Addr} {fd dI : FuncData} (F : Fun K "_law_are_marks" "_law_are_marks" s__law_are_marks f fd) (B : Blt mg) (KIW : DK P w K mg base 1 "_law_is_whole" s__law_is_whole p__law_is_whole (spP K fNumA) fI dI) : FnG P w K mg base CX0 2 f fd p__law_are_marks (spP K fMarks) := by
  refine fnP F sc__law_are_marks moMarks (fun ds Q h => ?_) fun cdv A outer s H E b hA hr => ?_
  · obtain ⟨a, b, c, d, rfl, _⟩ := h
    rfl
  · obtain ⟨ti, ei, ki⟩ : ∃ t, DS (cxD P w K mg base n__law_are_marks "_law_are_marks" s__law_are_marks f cdv A outer s H E) false ((stBody ((defBody s__law_are_marks).getD 1 pas)).getD 2 pas) t ∧ ∀ (D : DEnds) (s0 s1 s2 s3 : SV) (one two : Nat), one < 4294967296 → two < 4294967296 → (∀ x, x ≤ 32 → one / 2 ^ x = two / 2 ^ x → (∀ j, j < x → one / 2 ^ j ≠ two / 2 ^ j) → D.nx [s0, s1, s2, s3, .dat (.int (one : Nat)), .dat (.int (two : Nat)), .dat (.int ((2 ^ x : Nat) : Int)), .nil]) → t D [s0, s1, s2, s3, .dat (.int (one : Nat)), .dat (.int (two : Nat)), .dat (.int 1), .nil] := by
      refine ⟨_, (ds_while PassesOwn.never (dt_ne (de_fdivW (de_v (pv 4)) (de_v (pv 6))) (de_fdivW (de_v (pv 5)) (de_v (pv 6)))) (dss_one (ds_setM (i := 6) sc__law_are_marks.nd rfl (by first | exact Or.inl rfl | exact Or.inr rfl) (de_mul de_int (de_v (pv 6)))))), fun D s0 s1 s2 s3 one two h1 h2 q => ?_⟩
      simp only [tn0, tn1, tn2, tn3, tn4, tn5, bT, bs, b1, DL.wp, sRet, sRetN, sRetO, sSeq, sIf, sSet, sNew, sMov, sDo, sApp, sExt, sUnp, sPar, sParN, sNext, setAll, dAnd, dOr, dNot, dIf, dIsi, dv, dC, dOp, cI0, cII, gII, cSc, eSc, chI, chI3, chN, nmD, dCall0, gNotInS, cInC, gInC, cIxS, gIxS, cAddS, gAddS, strI, sgn, dB, mask, stl, sSetM, sNewM, sAppM, sExtM, sUnpM, b1M, dNeg, dEmp, nList, nCat, nSl, sRetN,  dtAnd, dtOr, dtNot, bw1, dCall, dCallJ, nCall, dCB, aCons, aNil, dTup, nLst, dNew, gLen, cLen, gTu, cTu, c2I, g2I, c1I, g1I, itm, cIx, gSl, oNo, oPt, dAll, dSum, dRepr, gCat, cCat, cInS, gInS, isN, ini, List.map, List.length, List.replicate, List.append, List.cons_append, List.nil_append, List.append_nil, List.getElem?_cons_zero, List.getElem?_cons_succ, List.set_cons_zero, List.set_cons_succ, List.length_cons, List.length_nil, Option.getD_some, true_and, and_true, if_true, if_false, isT_int_int, isT_bool_int, isT_tuple_tuple, isT_str_str, Bool.not_false, Bool.not_true, false_implies, List.length_map, Bool.false_eq_true, Bool.true_eq_false, isT_int_none, isT_int_bool, isT_int_str, isT_int_list, isT_int_tuple, isT_int_dict, isT_bool_none, isT_bool_bool, isT_bool_str, isT_bool_list, isT_bool_tuple, isT_bool_dict, isT_tuple_none, isT_tuple_bool, isT_tuple_int, isT_tuple_str, isT_tuple_list, isT_tuple_dict, isT_str_none, isT_str_bool, isT_str_int, isT_str_list, isT_str_tuple, isT_str_dict, sWhile]
      refine ⟨fun m ρ => ∃ x : Nat, m = 33 - x ∧ x ≤ 32 ∧ (∀ j, j < x → one / 2 ^ j ≠ two / 2 ^ j) ∧ ρ = [s0, s1, s2, s3, .dat (.int (one : Nat)), .dat (.int (two : Nat)), .dat (.int ((2 ^ x : Nat) : Int)), .nil], ⟨_, 0, rfl, by omega, fun j h => absurd h (by omega), rfl⟩, ?_⟩
      rintro m ρ ⟨x, rfl, hx, hj, rfl⟩
      simp only [tn0, tn1, tn2, tn3, tn4, tn5, bT, bs, b1, DL.wp, sRet, sRetN, sRetO, sSeq, sIf, sSet, sNew, sMov, sDo, sApp, sExt, sUnp, sPar, sParN, sNext, setAll, dAnd, dOr, dNot, dIf, dIsi, dv, dC, dOp, cI0, cII, gII, cSc, eSc, chI, chI3, chN, nmD, dCall0, gNotInS, cInC, gInC, cIxS, gIxS, cAddS, gAddS, strI, sgn, dB, mask, stl, sSetM, sNewM, sAppM, sExtM, sUnpM, b1M, dNeg, dEmp, nList, nCat, nSl, sRetN,  dtAnd, dtOr, dtNot, bw1, dCall, dCallJ, nCall, dCB, aCons, aNil, dTup, nLst, dNew, gLen, cLen, gTu, cTu, c2I, g2I, c1I, g1I, itm, cIx, gSl, oNo, oPt, dAll, dSum, dRepr, gCat, cCat, cInS, gInS, isN, ini, List.map, List.length, List.replicate, List.append, List.cons_append, List.nil_append, List.append_nil, List.getElem?_cons_zero, List.getElem?_cons_succ, List.set_cons_zero, List.set_cons_succ, List.length_cons, List.length_nil, Option.getD_some, true_and, and_true, if_true, if_false, isT_int_int, isT_bool_int, isT_tuple_tuple, isT_str_str, Bool.not_false, Bool.not_true, false_implies, List.length_map, Bool.false_eq_true, Bool.true_eq_false, isT_int_none, isT_int_bool, isT_int_str, isT_int_list, isT_int_tuple, isT_int_dict, isT_bool_none, isT_bool_bool, isT_bool_str, isT_bool_list, isT_bool_tuple, isT_bool_dict, isT_tuple_none, isT_tuple_bool, isT_tuple_int, isT_tuple_str, isT_tuple_list, isT_tuple_dict, isT_str_none, isT_str_bool, isT_str_int, isT_str_list, isT_str_tuple, isT_str_dict]
      have pp := pos2 x
      have e9 : 2 ^ (x + 1) = 2 ^ x * 2 := Nat.pow_succ 2 x
      have d1 := ediv_nat one (2 ^ x)
      have d2 := ediv_nat two (2 ^ x)
      refine ⟨cdw hx, cdw hx, ite_not (fun c1 => ⟨.inl ⟨by decide, by decide⟩, ?_⟩) fun c1 => ?_⟩
      · have c1 : one / 2 ^ x ≠ two / 2 ^ x := fun z => c1 (by rw [d1, d2, z])
        have x31 : x ≠ 32 := fun z => c1 (by subst z; rw [Nat.div_eq_of_lt h1, Nat.div_eq_of_lt h2])
        refine ⟨_, by omega, x + 1, rfl, by omega, fun j hl => ?_, by rw [show (2 : Int) * ((2 ^ x : Nat) : Int) = ((2 ^ (x + 1) : Nat) : Int) by omega]⟩
        by_cases e : j = x
        · rw [e]; exact c1
        · exact hj j (by omega)
      · exact q x hx (by rw [d1, d2] at c1; omega) hj
    refine ⟨_, (dss_cons (ds_if (DW.dt (dw_or (dt_not (dt_val (de_isi (by rfl) B.isi (pe_bltn (v := .ty "tuple") (by rfl) B.tuple (by decide +kernel) rfl) kit_tuple (de_v (pv 3))))) (dw_or1 (dt_not (dt_val (de_all rfl (by rfl) B.all (de_new (dn_lcM rfl sc__law_are_marks.nd (own := [("_law_word", 7)]) (p := (.one (.n 7))) (di_tup (de_v (pv 3))) (blkOk_by (N := ["_law_width", "_law_low", "_law_high", "_law_thing", "_law_one", "_law_two", "_law_size", "_law_word"]) (sc := defScope s__law_are_marks) (by decide +kernel)) (by decide) (fun _ _ _ _ _ => (pg_name (i := 7) sc__law_are_marks.nd rfl (by first | exact Or.inl rfl | exact Or.inr rfl))) (fun _ _ _ _ _ => (de_call KIW.G moNumA hA (hr.mono (by decide)) (by rfl) KIW.g KIW.F.kp KIW.b pass0 (da_cons (de_v (pv 7)) (da_cons (de_v (pv 1)) (da_cons (de_v (pv 2)) da_nil))))))))))))) (dss_one (ds_ret de_bl)) dss_nil) (dss_cons (ds_forM (p := (.one (.t [4, 5]))) PassesOwn.never rfl (dim_z2u (by rfl) B.zip (da_cons (de_v (pv 3)) (da_cons (de_sl (de_v (pv 3)) (do_pt de_int) do_no) da_nil))) (pg_tup rfl (pgs_cons (pg_name (i := 4) sc__law_are_marks.nd rfl (by first | exact Or.inl rfl | exact Or.inr rfl)) (pgs_cons (pg_name (i := 5) sc__law_are_marks.nd rfl (by first | exact Or.inl rfl | exact Or.inr rfl)) pgs_nil))) (dss_cons (ds_if (dt_ge (de_v (pv 4)) (de_v (pv 5))) (dss_one (ds_ret de_bl)) dss_nil) (dss_cons (ds_setM (i := 6) sc__law_are_marks.nd rfl (by first | exact Or.inl rfl | exact Or.inr rfl) de_int) (dss_cons ei (dss_one (ds_if (DW.dt (dw_and (dt_ge (de_mul (de_fdivW (de_v (pv 4)) (de_v (pv 6))) (de_v (pv 6))) (de_v (pv 1))) (dw_and1 (dt_le (de_sub (de_mul (de_add (de_fdivW (de_v (pv 4)) (de_v (pv 6))) de_int) (de_v (pv 6))) de_int) (de_v (pv 2)))))) (dss_one (ds_ret de_bl)) dss_nil)))))) (dss_one (ds_ret de_bl)))), fun ds Q h => ?_⟩
    obtain ⟨wd, low, high, d, rfl, r, hlen, k⟩ := h
    have b32 := r.b32
    have l62 := r.len
    cases d with
    | tuple ds =>
      simp only [tn0, tn1, tn2, tn3, tn4, tn5, bT, bs, b1, DL.wp, sRet, sRetN, sRetO, sSeq, sIf, sSet, sNew, sMov, sDo, sApp, sExt, sUnp, sPar, sParN, sNext, setAll, dAnd, dOr, dNot, dIf, dIsi, dv, dC, dOp, cI0, cII, gII, cSc, eSc, chI, chI3, chN, nmD, dCall0, gNotInS, cInC, gInC, cIxS, gIxS, cAddS, gAddS, strI, sgn, dB, mask, stl, sSetM, sNewM, sAppM, sExtM, sUnpM, b1M, dNeg, dEmp, nList, nCat, nSl, sRetN,  dtAnd, dtOr, dtNot, bw1, dCall, dCallJ, nCall, dCB, aCons, aNil, dTup, nLst, dNew, gLen, cLen, gTu, cTu, c2I, g2I, c1I, g1I, itm, cIx, gSl, oNo, oPt, dAll, dSum, dRepr, gCat, cCat, cInS, gInS, isN, ini, List.map, List.length, List.replicate, List.append, List.cons_append, List.nil_append, List.append_nil, List.getElem?_cons_zero, List.getElem?_cons_succ, List.set_cons_zero, List.set_cons_succ, List.length_cons, List.length_nil, Option.getD_some, true_and, and_true, if_true, if_false, isT_int_int, isT_bool_int, isT_tuple_tuple, isT_str_str, Bool.not_false, Bool.not_true, false_implies, List.length_map, Bool.false_eq_true, Bool.true_eq_false, isT_int_none, isT_int_bool, isT_int_str, isT_int_list, isT_int_tuple, isT_int_dict, isT_bool_none, isT_bool_bool, isT_bool_str, isT_bool_list, isT_bool_tuple, isT_bool_dict, isT_tuple_none, isT_tuple_bool, isT_tuple_int, isT_tuple_str, isT_tuple_list, isT_tuple_dict, isT_str_none, isT_str_bool, isT_str_int, isT_str_list, isT_str_tuple, isT_str_dict, sForM, z2IU, nLcM, tupI, bTM]
      have hlen := hlen ds rfl
      have no : marksB wd low high (.tuple ds) = false → Q (.bool false) := fun e => by rw [e] at k; exact k
      refine ⟨by omega, fun i e => ∃ d, ds[i]? = some d ∧ e = .bool (numB d (low : Nat) (high : Nat)), fun i d hd => ⟨d, _, _, rfl, d, hd, rfl⟩, fun es f1 f2 => ?_⟩
      have e4 := row_map (fun d => .bool (numB d (low : Nat) (high : Nat))) f1 f2
      refine ⟨ds.map fun d => numB d (low : Nat) (high : Nat), by rw [e4, List.map_map]; rfl, ?_⟩
      have ea : (ds.map fun d => numB d (low : Nat) (high : Nat)).all id = ds.all fun d => numB d (low : Nat) (high : Nat) := by rw [List.all_map]; rfl
      rw [ea]
      cases hall : ds.all fun d => numB d (low : Nat) (high : Nat) with
      | false =>
        refine ite_yes rfl (no ?_)
        show (ds.all (fun d => numB d (low : Nat) (high : Nat)) && _) = false
        rw [hall, Bool.false_and]
      | true =>
        have hns : ∀ d ∈ ds, d = .int (natD d : Nat) ∧ low ≤ natD d ∧ natD d ≤ high := fun d hd => nat_of_num (List.all_eq_true.mp hall d hd)
        refine ite_no rfl ?_
        rw [cutD1]
        refine ⟨fun (i : Nat) ρ => ∃ s4 s5 s6 : SV, frzs [s4, s5, s6] = [none, none, none] ∧ (∀ j x y, j < i → (ds.map natD)[j]? = some x → (ds.map natD)[j + 1]? = some y → cutB wd low high x y = true) ∧ ρ = [.par (.int (wd : Nat)), .par (.int (low : Nat)), .par (.int (high : Nat)), .par (.tuple ds), s4, s5, s6, .nil], ⟨.nil, .nil, .nil, rfl, fun j x y h => absurd h (by omega), rfl⟩, ?_, ?_⟩
        · rintro i d ρ hd ⟨s4, s5, s6, hf, hi, rfl⟩
          obtain ⟨a, c, ha, hc, rfl⟩ := zp2_at hd
          rw [List.getElem?_drop, Nat.add_comm] at hc
          obtain ⟨ea, a1, a2⟩ := hns a (List.mem_of_getElem? ha)
          obtain ⟨ec, c1, c2⟩ := hns c (List.mem_of_getElem? hc)
          have hna : (ds.map natD)[i]? = some (natD a) := by rw [List.getElem?_map, ha]; rfl
          have hnc : (ds.map natD)[i + 1]? = some (natD c) := by rw [List.getElem?_map, hc]; rfl
          rw [ea, ec]
          generalize natD a = one at a1 a2 hna
          generalize natD c = two at c1 c2 hnc
          have bad : ¬ cutB wd low high one two = true → marksB wd low high (.tuple ds) = false := fun hcut => by
            show (ds.all (fun d => numB d (low : Nat) (high : Nat)) && upB wd low high (ds.map natD)) = false
            rw [hall, Bool.true_and, ← Bool.not_eq_true, upB_iff]
            exact fun z => hcut (z i _ _ hna hnc)
          have good : cutB wd low high one two = true → ∀ j x y, j < i + 1 → (ds.map natD)[j]? = some x → (ds.map natD)[j + 1]? = some y → cutB wd low high x y = true := fun hcut j x y hj hx hy => by
            by_cases e : j < i
            · exact hi j x y e hx hy
            · have e : j = i := by omega
              subst e
              rw [hna] at hx
              rw [hnc] at hy
              cases hx
              cases hy
              exact hcut
          simp only [tn0, tn1, tn2, tn3, tn4, tn5, bT, bs, b1, DL.wp, sRet, sRetN, sRetO, sSeq, sIf, sSet, sNew, sMov, sDo, sApp, sExt, sUnp, sPar, sParN, sNext, setAll, dAnd, dOr, dNot, dIf, dIsi, dv, dC, dOp, cI0, cII, gII, cSc, eSc, chI, chI3, chN, nmD, dCall0, gNotInS, cInC, gInC, cIxS, gIxS, cAddS, gAddS, strI, sgn, dB, mask, stl, sSetM, sNewM, sAppM, sExtM, sUnpM, b1M, dNeg, dEmp, nList, nCat, nSl, sRetN,  dtAnd, dtOr, dtNot, bw1, dCall, dCallJ, nCall, dCB, aCons, aNil, dTup, nLst, dNew, gLen, cLen, gTu, cTu, c2I, g2I, c1I, g1I, itm, cIx, gSl, oNo, oPt, dAll, dSum, dRepr, gCat, cCat, cInS, gInS, isN, ini, List.map, List.length, List.replicate, List.append, List.cons_append, List.nil_append, List.append_nil, List.getElem?_cons_zero, List.getElem?_cons_succ, List.set_cons_zero, List.set_cons_succ, List.length_cons, List.length_nil, Option.getD_some, true_and, and_true, if_true, if_false, isT_int_int, isT_bool_int, isT_tuple_tuple, isT_str_str, Bool.not_false, Bool.not_true, false_implies, List.length_map, Bool.false_eq_true, Bool.true_eq_false, isT_int_none, isT_int_bool, isT_int_str, isT_int_list, isT_int_tuple, isT_int_dict, isT_bool_none, isT_bool_bool, isT_bool_str, isT_bool_list, isT_bool_tuple, isT_bool_dict, isT_tuple_none, isT_tuple_bool, isT_tuple_int, isT_tuple_str, isT_tuple_list, isT_tuple_dict, isT_str_none, isT_str_bool, isT_str_int, isT_str_list, isT_str_tuple, isT_str_dict]
          refine ite_dec rfl (fun c3 => no (bad fun z => ?_)) fun c3 => ?_
          · obtain ⟨b, _, b1, b2⟩ := cutB_iff.mp z
            omega
          · refine ki _ _ _ _ _ one two (by omega) (by omega) fun x hx hk hj => ?_
            have ci := cut_iff (w := wd) r.h a1 (by omega) c2 hk hj
            simp only [tn0, tn1, tn2, tn3, tn4, tn5, bT, bs, b1, DL.wp, sRet, sRetN, sRetO, sSeq, sIf, sSet, sNew, sMov, sDo, sApp, sExt, sUnp, sPar, sParN, sNext, setAll, dAnd, dOr, dNot, dIf, dIsi, dv, dC, dOp, cI0, cII, gII, cSc, eSc, chI, chI3, chN, nmD, dCall0, gNotInS, cInC, gInC, cIxS, gIxS, cAddS, gAddS, strI, sgn, dB, mask, stl, sSetM, sNewM, sAppM, sExtM, sUnpM, b1M, dNeg, dEmp, nList, nCat, nSl, sRetN,  dtAnd, dtOr, dtNot, bw1, dCall, dCallJ, nCall, dCB, aCons, aNil, dTup, nLst, dNew, gLen, cLen, gTu, cTu, c2I, g2I, c1I, g1I, itm, cIx, gSl, oNo, oPt, dAll, dSum, dRepr, gCat, cCat, cInS, gInS, isN, ini, List.map, List.length, List.replicate, List.append, List.cons_append, List.nil_append, List.append_nil, List.getElem?_cons_zero, List.getElem?_cons_succ, List.set_cons_zero, List.set_cons_succ, List.length_cons, List.length_nil, Option.getD_some, true_and, and_true, if_true, if_false, isT_int_int, isT_bool_int, isT_tuple_tuple, isT_str_str, Bool.not_false, Bool.not_true, false_implies, List.length_map, Bool.false_eq_true, Bool.true_eq_false, isT_int_none, isT_int_bool, isT_int_str, isT_int_list, isT_int_tuple, isT_int_dict, isT_bool_none, isT_bool_bool, isT_bool_str, isT_bool_list, isT_bool_tuple, isT_bool_dict, isT_tuple_none, isT_tuple_bool, isT_tuple_int, isT_tuple_str, isT_tuple_list, isT_tuple_dict, isT_str_none, isT_str_bool, isT_str_int, isT_str_list, isT_str_tuple, isT_str_dict]
            have d1 := ediv_nat one (2 ^ x)
            have pp := p32 hx
            have cm : ∀ u : Int, CMul u ((2 ^ x : Nat) : Int) := fun u => cmR pp
            have m1 : ((one / 2 ^ x : Nat) : Int) * ((2 ^ x : Nat) : Int) = ((one / 2 ^ x * 2 ^ x : Nat) : Int) := (Int.natCast_mul _ _).symm
            have m2 : (((one / 2 ^ x : Nat) : Int) + 1) * ((2 ^ x : Nat) : Int) = (((one / 2 ^ x + 1) * 2 ^ x : Nat) : Int) := by
              rw [Int.natCast_mul, Int.natCast_add]
              rfl
            have ok : ¬ (low ≤ one / 2 ^ x * 2 ^ x ∧ (one / 2 ^ x + 1) * 2 ^ x ≤ high + 1) → ∃ s4 s5 s6 : SV, frzs [s4, s5, s6] = [none, none, none] ∧ (∀ j x y, j < i + 1 → (ds.map natD)[j]? = some x → (ds.map natD)[j + 1]? = some y → cutB wd low high x y = true) ∧ [SV.par (.int (wd : Nat)), .par (.int (low : Nat)), .par (.int (high : Nat)), .par (.tuple ds), SV.dat (.int (one : Nat)), .dat (.int (two : Nat)), .dat (.int ((2 ^ x : Nat) : Int)), .nil] = [.par (.int (wd : Nat)), .par (.int (low : Nat)), .par (.int (high : Nat)), .par (.tuple ds), s4, s5, s6, .nil] := fun z => ⟨_, _, _, rfl, good (cutB_iff.mpr (ci.mpr z)), rfl⟩
            refine ⟨cdw hx, cm _, ite_dec rfl (fun g1 => ⟨cdw hx, cm _, ite_dec rfl (fun g2 => no (bad fun z => ci.mp (cutB_iff.mp z) ⟨?_, ?_⟩)) fun g2 => ok fun z => g2 ?_⟩) fun g1 => ok fun z => g1 ?_⟩
            · rw [d1, m1] at g1
              omega
            · rw [d1, m2] at g2
              omega
            · rw [d1, m2]
              omega
            · rw [d1, m1]
              omega
        · rintro ρ ⟨s4, s5, s6, hf, hi, rfl⟩
          refine ⟨?_, ?_⟩
          · show none :: none :: none :: none :: frzs (s4 :: s5 :: s6 :: [.nil]) = _
            cases s4 <;> cases s5 <;> cases s6 <;> first | rfl | cases hf
          · have : marksB wd low high (.tuple ds) = true := by
              show (ds.all (fun d => numB d (low : Nat) (high : Nat)) && upB wd low high (ds.map natD)) = true
              rw [hall, Bool.true_and, upB_iff]
              intro j x y hx hy
              refine hi j x y ?_ hx hy
              rw [zp2_min, List.length_drop]
              have := (List.getElem?_eq_some_iff.mp hy).1
              rw [List.length_map] at this
              omega
            rw [this] at k
            exact k
    | _ => simp only [tn0, tn1, tn2, tn3, tn4, tn5, bT, bs, b1, DL.wp, sRet, sRetN, sRetO, sSeq, sIf, sSet, sNew, sMov, sDo, sApp, sExt, sUnp, sPar, sParN, sNext, setAll, dAnd, dOr, dNot, dIf, dIsi, dv, dC, dOp, cI0, cII, gII, cSc, eSc, chI, chI3, chN, nmD, dCall0, gNotInS, cInC, gInC, cIxS, gIxS, cAddS, gAddS, strI, sgn, dB, mask, stl, sSetM, sNewM, sAppM, sExtM, sUnpM, b1M, dNeg, dEmp, nList, nCat, nSl, sRetN,  dtAnd, dtOr, dtNot, bw1, dCall, dCallJ, nCall, dCB, aCons, aNil, dTup, nLst, dNew, gLen, cLen, gTu, cTu, c2I, g2I, c1I, g1I, itm, cIx, gSl, oNo, oPt, dAll, dSum, dRepr, gCat, cCat, cInS, gInS, isN, ini, List.map, List.length, List.replicate, List.append, List.cons_append, List.nil_append, List.append_nil, List.getElem?_cons_zero, List.getElem?_cons_succ, List.set_cons_zero, List.set_cons_succ, List.length_cons, List.length_nil, Option.getD_some, true_and, and_true, if_true, if_false, isT_int_int, isT_bool_int, isT_tuple_tuple, isT_str_str, Bool.not_false, Bool.not_true, false_implies, List.length_map, Bool.false_eq_true, Bool.true_eq_false, isT_int_none, isT_int_bool, isT_int_str, isT_int_list, isT_int_tuple, isT_int_dict, isT_bool_none, isT_bool_bool, isT_bool_str, isT_bool_list, isT_bool_tuple, isT_bool_dict, isT_tuple_none, isT_tuple_bool, isT_tuple_int, isT_tuple_str, isT_tuple_list, isT_tuple_dict, isT_str_none, isT_str_bool, isT_str_int, isT_str_list, isT_str_tuple, isT_str_dict]; exact k
end
end LQ

namespace LQ
open PySem PySem.Spec PyProof.Rows L2 GuL HG DL

theorem frz_tl {s : SV} {r : List SV} {l : List (Option Addr)} (h : frzs (s :: r) = none :: l) : frzs r = l := by cases s <;> exact (List.cons.inj h).2
def oI : Option Nat → PyData | none => .none | some v => .int (v : Nat)
def fewL (wd low n : Nat) : List PyData := (List.range (n + 1)).map fun i => .int (cntE wd low (low + i) : Nat)
def fFew : DF := fun ds Q => ∃ w low high : Nat, ds = [.int (w : Nat), .int (low : Nat), .int (high : Nat)] ∧ Rg w low high ∧ w ≤ 7 ∧ Q (.int ((blks w low high).length : Nat))
theorem moFew : MoF fFew := fun _ _ _ m ⟨a, b, c, e, r, s, q⟩ => ⟨a, b, c, e, r, s, m _ q⟩
theorem fewL_succ {wd low n : Nat} : fewL wd low (n + 1) = fewL wd low n ++ [.int (cntE wd low (low + (n + 1)) : Nat)] := by
  unfold fewL
  rw [List.range_succ, List.map_append]
  rfl
theorem fewL_len {wd low n : Nat} : (fewL wd low n).length = n + 1 := by unfold fewL; rw [List.length_map, List.length_range]
theorem fewL_get {wd low n i : Nat} (h : i ≤ n) : (fewL wd low n)[i]? = some (.int (cntE wd low (low + i) : Nat)) := by
  unfold fewL
  rw [List.getElem?_map, List.getElem?_range (by omega)]
  rfl
theorem cntE_end {w low high : Nat} (h : low ≤ high) : cntE w low (high + 1) = (blks w low high).length := by
  unfold cntE
  rw [if_pos (by omega), Nat.add_sub_cancel]
  unfold begins
  rw [List.length_map]
section
variable {P : Program} {w : World} {K : PySem.W.Frag} {mg : Str → Option Value} {base : Heap}

theorem ok_few {f fT : Addr} {fd dT : FuncData} (F : Fun K "_law_fewest" "_law_fewest" s__law_fewest f fd) (B : Blt mg) (KTp : DK P w K mg base 1 "_law_top" s__law_top p__law_top (spP K fTop) fT dT) : FnG P w K mg base CX0 2 f fd p__law_fewest (spP K fFew) := by
  refine fnP F sc__law_fewest moFew (fun ds Q h => ?_) fun cdv A outer s H E b hA hr => ?_
  · obtain ⟨a, b, c, rfl, _⟩ := h
    rfl
  · obtain ⟨ti, ei, ki⟩ : ∃ t, DS (cxD P w K mg base n__law_fewest "_law_fewest" s__law_fewest f cdv A outer s H E) false ((stBody ((defBody s__law_fewest).getD 1 pas)).getD 1 pas) t ∧ ∀ (D : DEnds) (wd low high n : Nat) (s7 : SV), frzs [s7] = [none] → wd ≤ 7 → low + n + 1 ≤ 2 ^ wd → (∀ (s6 s7 : SV), frzs [s6, s7] = [none, none] → D.nx [.par (.int (wd : Nat)), .par (.int (low : Nat)), .par (.int (high : Nat)), .own (fewL wd low n), .dat (.int ((low + n : Nat) : Int)), .dat (.int (cntE wd low (low + (n + 1)) : Nat)), s6, s7]) → t D [.par (.int (wd : Nat)), .par (.int (low : Nat)), .par (.int (high : Nat)), .own (fewL wd low n), .dat (.int ((low + n : Nat) : Int)), .dat .none, .dat (.int 1), s7] := by
      refine ⟨_, (ds_while PassesOwn.never (DW.dt (dw_and (dt_le (de_v (pv 6)) (de_add (de_sub (de_v (pv 4)) (de_v (pv 1))) de_int)) (dw_and1 (dt_le (de_v (pv 6)) (de_call KTp.G moTop hA (hr.mono (by decide)) (by rfl) KTp.g KTp.F.kp KTp.b pass0 (da_cons (de_v (pv 0)) da_nil)))))) (dss_cons (ds_if (dt_eq (de_mod (de_intc (by rfl) B.int (da_cons (de_add (de_v (pv 4)) de_int) da_nil)) (de_v (pv 6))) de_int) (dss_cons (ds_set (i := 7) sc__law_fewest.nd rfl (by first | exact Or.inl rfl | exact Or.inr rfl) (de_add (de_ix (de_v (pv 3)) (de_sub (de_sub (de_add (de_v (pv 4)) de_int) (de_v (pv 6))) (de_v (pv 1))) (fun _ _ => rfl)) de_int)) (dss_one (ds_set (i := 5) sc__law_fewest.nd rfl (by first | exact Or.inl rfl | exact Or.inr rfl) (de_if (dt_isN (de_v (pv 5))) (de_v (pv 7)) (de_min rfl (by rfl) B.min (da_cons (de_v (pv 5)) (da_cons (de_v (pv 7)) da_nil))))))) dss_nil) (dss_one (ds_set (i := 6) sc__law_fewest.nd rfl (by first | exact Or.inl rfl | exact Or.inr rfl) (de_mul de_int (de_v (pv 6))))))), fun D wd low high n s7 hf w7 hh q => ?_⟩
      unfold sWhile
      refine ⟨fun m ρ => ∃ (x : Nat) (best : Option Nat) (s7 : SV), m = 9 - x ∧ x ≤ 8 ∧ frzs [s7] = [none] ∧ (∀ v, best = some v → cntE wd low (low + (n + 1)) ≤ v) ∧ (∀ f, f < x → 2 ^ f ∣ low + (n + 1) → low + 2 ^ f ≤ low + (n + 1) → ∃ v, best = some v ∧ v ≤ cntE wd low (low + (n + 1) - 2 ^ f) + 1) ∧
        ρ = [.par (.int (wd : Nat)), .par (.int (low : Nat)), .par (.int (high : Nat)), .own (fewL wd low n), .dat (.int ((low + n : Nat) : Int)), .dat (oI best), .dat (.int ((2 ^ x : Nat) : Int)), s7], ⟨_, 0, none, s7, rfl, by omega, hf, (fun v h => nomatch h), (fun f h => absurd h (by omega)), rfl⟩, ?_⟩
      rintro m ρ ⟨x, best, s7, rfl, hx, hf7, hb1, hb2, rfl⟩
      have pp := pos2 x
      have e9 : 2 ^ (x + 1) = 2 ^ x * 2 := Nat.pow_succ 2 x
      have done : (n + 1 < 2 ^ x ∨ wd < x) → best = some (cntE wd low (low + (n + 1))) := fun hs => by
        obtain ⟨f0, g1, g2, g3, g4⟩ := few_eq (w := wd) (low := low) (e := low + (n + 1)) (by omega) (by omega)
        have : f0 < x := by
          rcases hs with z | z
          · exact (Nat.pow_lt_pow_iff_right (by decide)).mp (show 2 ^ f0 < 2 ^ x by omega)
          · omega
        obtain ⟨v, hv, hl⟩ := hb2 f0 this g1 g2
        have := hb1 v hv
        rw [hv]
        congr 1
        omega
      have stop : (n + 1 < 2 ^ x ∨ wd < x) → D.nx [.par (.int (wd : Nat)), .par (.int (low : Nat)), .par (.int (high : Nat)), .own (fewL wd low n), .dat (.int ((low + n : Nat) : Int)), .dat (oI best), .dat (.int ((2 ^ x : Nat) : Int)), s7] := fun hs => by
        rw [done hs]
        exact q _ _ (by show none :: frzs [s7] = _; rw [hf7])
      simp only [tn0, tn1, tn2, tn3, tn4, tn5, bT, bs, b1, DL.wp, sRet, sRetN, sRetO, sSeq, sIf, sSet, sNew, sMov, sDo, sApp, sExt, sUnp, sPar, sParN, sNext, setAll, dAnd, dOr, dNot, dIf, dIsi, dv, dC, dOp, cI0, cII, gII, cSc, eSc, chI, chI3, chN, nmD, dCall0, gNotInS, cInC, gInC, cIxS, gIxS, cAddS, gAddS, strI, sgn, dB, mask, stl, sSetM, sNewM, sAppM, sExtM, sUnpM, b1M, dNeg, dEmp, nList, nCat, nSl, sRetN,  dtAnd, dtOr, dtNot, bw1, dCall, dCallJ, nCall, dCB, aCons, aNil, dTup, nLst, dNew, gLen, cLen, gTu, cTu, c2I, g2I, c1I, g1I, itm, cIx, gSl, oNo, oPt, dAll, dSum, dRepr, gCat, cCat, cInS, gInS, isN, ini, List.map, List.length, List.replicate, List.append, List.cons_append, List.nil_append, List.append_nil, List.getElem?_cons_zero, List.getElem?_cons_succ, List.set_cons_zero, List.set_cons_succ, List.length_cons, List.length_nil, Option.getD_some, true_and, and_true, if_true, if_false, isT_int_int, isT_bool_int, isT_tuple_tuple, isT_str_str, Bool.not_false, Bool.not_true, false_implies, List.length_map, Bool.false_eq_true, Bool.true_eq_false, isT_int_none, isT_int_bool, isT_int_str, isT_int_list, isT_int_tuple, isT_int_dict, isT_bool_none, isT_bool_bool, isT_bool_str, isT_bool_list, isT_bool_tuple, isT_bool_dict, isT_tuple_none, isT_tuple_bool, isT_tuple_int, isT_tuple_str, isT_tuple_list, isT_tuple_dict, isT_str_none, isT_str_bool, isT_str_int, isT_str_list, isT_str_tuple, isT_str_dict]
      have cm : CMul 2 ((2 ^ x : Nat) : Int) := .inl ⟨by decide, by decide⟩
      have dbl : (2 : Int) * ((2 ^ x : Nat) : Int) = ((2 ^ (x + 1) : Nat) : Int) := by omega
      refine ite_dec rfl (fun c1 => ⟨wd, rfl, by omega, trivial, ite_dec rfl (fun c2 => ?_) fun c2 => stop (.inr ?_)⟩) fun c1 => stop (.inl (by omega))
      · have c2 : x ≤ wd := (Nat.pow_le_pow_iff_right (a := 2) (by decide)).mp (by omega)
        have c1 : 2 ^ x ≤ n + 1 := by omega
        have hv : (fewL wd low n)[(((low + n : Nat) : Int) + 1 - ((2 ^ x : Nat) : Int) - (low : Int)).toNat]?.getD .none = .int (cntE wd low (low + (n + 1) - 2 ^ x) : Nat) := by
          rw [show (((low + n : Nat) : Int) + 1 - ((2 ^ x : Nat) : Int) - (low : Int)).toNat = n + 1 - 2 ^ x by omega, fewL_get (by omega), show low + (n + 1 - 2 ^ x) = low + (n + 1) - 2 ^ x by omega]
          rfl
        have hmod : (((low + n : Nat) : Int) + 1) % ((2 ^ x : Nat) : Int) = (((low + (n + 1)) % 2 ^ x : Nat) : Int) := by
          rw [show ((low + n : Nat) : Int) + 1 = ((low + (n + 1) : Nat) : Int) by omega]
          first | rfl | exact (Int.natCast_emod _ _).symm | exact (Int.ofNat_emod _ _).symm
        refine ⟨by omega, ite_dec rfl (fun c3 => ?_) fun c3 => ?_⟩
        · have c3 : 2 ^ x ∣ low + (n + 1) := Nat.dvd_of_mod_eq_zero (by rw [hmod] at c3; omega)
          have le := few_le (w := wd) (low := low) (e := low + (n + 1)) (by omega) c3 (by omega)
          refine ⟨⟨by omega, by rw [fewL_len]; omega⟩, ?_⟩
          rw [hv]
          cases best with
          | none =>
            refine ⟨trivial, .int _, ite_yes rfl ⟨.int _, cm, .int _, _, ?_, x + 1, some (cntE wd low (low + (n + 1) - 2 ^ x) + 1), .dat (.int ((cntE wd low (low + (n + 1) - 2 ^ x) : Nat) + 1)), rfl, by omega, rfl, fun v hv => ?_, fun f1 hf1 d1 l1 => ?_, ?_⟩⟩
            · omega
            · cases hv
              exact le
            · by_cases e : f1 = x
              · subst e
                exact ⟨_, rfl, Nat.le_refl _⟩
              · obtain ⟨v, hv, _⟩ := hb2 f1 (by omega) d1 l1
                cases hv
            · rw [dbl]
              rfl
          | some v =>
            have hv1 := hb1 v rfl
            refine ⟨trivial, .int _, ite_no rfl ⟨trivial, .int _, cm, .int _, _, ?_, x + 1, some (if cntE wd low (low + (n + 1) - 2 ^ x) + 1 < v then cntE wd low (low + (n + 1) - 2 ^ x) + 1 else v), .dat (.int ((cntE wd low (low + (n + 1) - 2 ^ x) : Nat) + 1)), rfl, by omega, rfl, fun v' hv' => ?_, fun f1 hf1 d1 l1 => ⟨_, rfl, ?_⟩, ?_⟩⟩
            · omega
            · cases hv'
              split <;> omega
            · by_cases e : f1 = x
              · subst e
                split <;> omega
              · obtain ⟨v2, hv2, hl2⟩ := hb2 f1 (by omega) d1 l1
                cases hv2
                split <;> omega
            · rw [dbl]
              show [_, _, _, _, _, SV.dat (.int (if ((cntE wd low (low + (n + 1) - 2 ^ x) : Nat) : Int) + 1 < (v : Int) then ((cntE wd low (low + (n + 1) - 2 ^ x) : Nat) : Int) + 1 else (v : Int))), _, _] = _
              have : (if ((cntE wd low (low + (n + 1) - 2 ^ x) : Nat) : Int) + 1 < (v : Int) then ((cntE wd low (low + (n + 1) - 2 ^ x) : Nat) : Int) + 1 else (v : Int)) = (((if cntE wd low (low + (n + 1) - 2 ^ x) + 1 < v then cntE wd low (low + (n + 1) - 2 ^ x) + 1 else v) : Nat) : Int) := by
                by_cases z : cntE wd low (low + (n + 1) - 2 ^ x) + 1 < v
                · rw [if_pos z, if_pos (by omega)]
                  rfl
                · rw [if_neg z, if_neg (by omega)]
              rw [this]
              rfl
        · refine ⟨cm, .int _, _, ?_, x + 1, best, s7, rfl, by omega, hf7, hb1, fun f1 hf1 d1 l1 => ?_, by rw [dbl]⟩
          · omega
          · by_cases e : f1 = x
            · subst e
              have := Nat.mod_eq_zero_of_dvd d1
              exact absurd (by rw [hmod, this]; rfl) c3
            · exact hb2 f1 (by omega) d1 l1
      · exact (Nat.pow_lt_pow_iff_right (a := 2) (by decide)).mp (by omega)
    refine ⟨_, (dss_cons (ds_new (i := 3) sc__law_fewest.nd rfl (by first | exact Or.inl rfl | exact Or.inr rfl) (dn_lst (da_cons de_int da_nil))) (dss_cons (ds_for (p := (.one (.n 4))) PassesOwn.never rfl (di_rng2 (by rfl) B.range (da_cons (de_v (pv 1)) (da_cons (de_add (de_v (pv 2)) de_int) da_nil))) (pg_name (i := 4) sc__law_fewest.nd rfl (by first | exact Or.inl rfl | exact Or.inr rfl)) (dss_cons (ds_unp (is := [5, 6]) (de_tup (da_cons de_non (da_cons de_int da_nil))) (pg_tup rfl (pgs_cons (pg_name (i := 5) sc__law_fewest.nd rfl (by first | exact Or.inl rfl | exact Or.inr rfl)) (pgs_cons (pg_name (i := 6) sc__law_fewest.nd rfl (by first | exact Or.inl rfl | exact Or.inr rfl)) pgs_nil)))) (dss_cons ei (dss_one (ds_app (i := 3) (pv 3) (de_v (pv 5))))))) (dss_one (ds_ret (de_last (de_v (pv 3)) (de_neg de_int) (fun _ _ => rfl)))))), fun ds Q h => ?_⟩
    obtain ⟨wd, low, high, rfl, r, w7, k⟩ := h
    have hl := r.l
    have hh := r.h
    have h7 : 2 ^ wd ≤ 128 := Nat.le_trans (Nat.pow_le_pow_right (by decide) w7) (by decide)
    simp only [tn0, tn1, tn2, tn3, tn4, tn5, bT, bs, b1, DL.wp, sRet, sRetN, sRetO, sSeq, sIf, sSet, sNew, sMov, sDo, sApp, sExt, sUnp, sPar, sParN, sNext, setAll, dAnd, dOr, dNot, dIf, dIsi, dv, dC, dOp, cI0, cII, gII, cSc, eSc, chI, chI3, chN, nmD, dCall0, gNotInS, cInC, gInC, cIxS, gIxS, cAddS, gAddS, strI, sgn, dB, mask, stl, sSetM, sNewM, sAppM, sExtM, sUnpM, b1M, dNeg, dEmp, nList, nCat, nSl, sRetN,  dtAnd, dtOr, dtNot, bw1, dCall, dCallJ, nCall, dCB, aCons, aNil, dTup, nLst, dNew, gLen, cLen, gTu, cTu, c2I, g2I, c1I, g1I, itm, cIx, gSl, oNo, oPt, dAll, dSum, dRepr, gCat, cCat, cInS, gInS, isN, ini, List.map, List.length, List.replicate, List.append, List.cons_append, List.nil_append, List.append_nil, List.getElem?_cons_zero, List.getElem?_cons_succ, List.set_cons_zero, List.set_cons_succ, List.length_cons, List.length_nil, Option.getD_some, true_and, and_true, if_true, if_false, isT_int_int, isT_bool_int, isT_tuple_tuple, isT_str_str, Bool.not_false, Bool.not_true, false_implies, List.length_map, Bool.false_eq_true, Bool.true_eq_false, isT_int_none, isT_int_bool, isT_int_str, isT_int_list, isT_int_tuple, isT_int_dict, isT_bool_none, isT_bool_bool, isT_bool_str, isT_bool_list, isT_bool_tuple, isT_bool_dict, isT_tuple_none, isT_tuple_bool, isT_tuple_int, isT_tuple_str, isT_tuple_list, isT_tuple_dict, isT_str_none, isT_str_bool, isT_str_int, isT_str_list, isT_str_tuple, isT_str_dict, sFor, rng2I]
    refine ⟨by decide, fun d hd => ?_, ⟨by omega, by omega, by omega, by omega⟩, fun (n : Nat) ρ => ∃ s4 s5 s6 s7 : SV, frzs [s4, s5, s6, s7] = [none, none, none, none] ∧ ρ = [.par (.int (wd : Nat)), .par (.int (low : Nat)), .par (.int (high : Nat)), .own (fewL wd low n), s4, s5, s6, s7], ⟨.nil, .nil, .nil, .nil, rfl, ?_⟩, ?_, ?_⟩
    · rw [List.mem_singleton.mp hd]
      exact .int _
    · have : fewL wd low 0 = [.int 0] := by
        show [PyData.int ((cntE wd low (low + 0) : Nat) : Int)] = _
        have : cntE wd low (low + 0) = 0 := by
          unfold cntE
          rw [if_neg (by omega)]
        rw [this]
        rfl
      rw [this]
    · rintro n d ρ hd ⟨s4, s5, s6, s7, hf, rfl⟩
      obtain ⟨hn, rfl⟩ := rng_get hd
      have hn : low + n + 1 ≤ 2 ^ wd := by omega
      have f7 := frz_tl (frz_tl (frz_tl hf))
      simp only [tn0, tn1, tn2, tn3, tn4, tn5, bT, bs, b1, DL.wp, sRet, sRetN, sRetO, sSeq, sIf, sSet, sNew, sMov, sDo, sApp, sExt, sUnp, sPar, sParN, sNext, setAll, dAnd, dOr, dNot, dIf, dIsi, dv, dC, dOp, cI0, cII, gII, cSc, eSc, chI, chI3, chN, nmD, dCall0, gNotInS, cInC, gInC, cIxS, gIxS, cAddS, gAddS, strI, sgn, dB, mask, stl, sSetM, sNewM, sAppM, sExtM, sUnpM, b1M, dNeg, dEmp, nList, nCat, nSl, sRetN,  dtAnd, dtOr, dtNot, bw1, dCall, dCallJ, nCall, dCB, aCons, aNil, dTup, nLst, dNew, gLen, cLen, gTu, cTu, c2I, g2I, c1I, g1I, itm, cIx, gSl, oNo, oPt, dAll, dSum, dRepr, gCat, cCat, cInS, gInS, isN, ini, List.map, List.length, List.replicate, List.append, List.cons_append, List.nil_append, List.append_nil, List.getElem?_cons_zero, List.getElem?_cons_succ, List.set_cons_zero, List.set_cons_succ, List.length_cons, List.length_nil, Option.getD_some, true_and, and_true, if_true, if_false, isT_int_int, isT_bool_int, isT_tuple_tuple, isT_str_str, Bool.not_false, Bool.not_true, false_implies, List.length_map, Bool.false_eq_true, Bool.true_eq_false, isT_int_none, isT_int_bool, isT_int_str, isT_int_list, isT_int_tuple, isT_int_dict, isT_bool_none, isT_bool_bool, isT_bool_str, isT_bool_list, isT_bool_tuple, isT_bool_dict, isT_tuple_none, isT_tuple_bool, isT_tuple_int, isT_tuple_str, isT_tuple_list, isT_tuple_dict, isT_str_none, isT_str_bool, isT_str_int, isT_str_list, isT_str_tuple, isT_str_dict]
      refine ⟨.int _, by decide, fun d hd => ?_, ki _ wd low high n s7 f7 w7 hn fun s6' s7' hf' => ?_⟩
      · simp only [List.mem_cons, List.not_mem_nil, or_false] at hd
        rcases hd with rfl | rfl
        · exact .non
        · exact .int _
      · simp only [tn0, tn1, tn2, tn3, tn4, tn5, bT, bs, b1, DL.wp, sRet, sRetN, sRetO, sSeq, sIf, sSet, sNew, sMov, sDo, sApp, sExt, sUnp, sPar, sParN, sNext, setAll, dAnd, dOr, dNot, dIf, dIsi, dv, dC, dOp, cI0, cII, gII, cSc, eSc, chI, chI3, chN, nmD, dCall0, gNotInS, cInC, gInC, cIxS, gIxS, cAddS, gAddS, strI, sgn, dB, mask, stl, sSetM, sNewM, sAppM, sExtM, sUnpM, b1M, dNeg, dEmp, nList, nCat, nSl, sRetN,  dtAnd, dtOr, dtNot, bw1, dCall, dCallJ, nCall, dCB, aCons, aNil, dTup, nLst, dNew, gLen, cLen, gTu, cTu, c2I, g2I, c1I, g1I, itm, cIx, gSl, oNo, oPt, dAll, dSum, dRepr, gCat, cCat, cInS, gInS, isN, ini, List.map, List.length, List.replicate, List.append, List.cons_append, List.nil_append, List.append_nil, List.getElem?_cons_zero, List.getElem?_cons_succ, List.set_cons_zero, List.set_cons_succ, List.length_cons, List.length_nil, Option.getD_some, true_and, and_true, if_true, if_false, isT_int_int, isT_bool_int, isT_tuple_tuple, isT_str_str, Bool.not_false, Bool.not_true, false_implies, List.length_map, Bool.false_eq_true, Bool.true_eq_false, isT_int_none, isT_int_bool, isT_int_str, isT_int_list, isT_int_tuple, isT_int_dict, isT_bool_none, isT_bool_bool, isT_bool_str, isT_bool_list, isT_bool_tuple, isT_bool_dict, isT_tuple_none, isT_tuple_bool, isT_tuple_int, isT_tuple_str, isT_tuple_list, isT_tuple_dict, isT_str_none, isT_str_bool, isT_str_int, isT_str_list, isT_str_tuple, isT_str_dict]
        exact ⟨.int _, by rw [fewL_len]; omega, .dat (.int ((low + n : Nat) : Int)), .dat (.int (cntE wd low (low + (n + 1)) : Nat)), s6', s7', by show none :: none :: frzs [s6', s7'] = _; rw [hf'], by rw [fewL_succ]⟩
    · rintro ρ ⟨s4, s5, s6, s7, hf, rfl⟩
      have en : (rngD (low : Int) ((high : Int) + 1 - (low : Int)).toNat).length = high + 1 - low := by
        rw [rng_len]
        omega
      have lst : cLast (.list (fewL wd low (high + 1 - low))) (.int (-1)) ∧ Q (gLast (.list (fewL wd low (high + 1 - low))) (.int (-1))) := by
        refine ⟨⟨fun z => ?_, rfl⟩, ?_⟩
        · have := congrArg List.length z
          rw [fewL_len] at this
          cases this
        · show Q (((fewL wd low (high + 1 - low))[(fewL wd low (high + 1 - low)).length - 1]?).getD .none)
          rw [fewL_len, Nat.add_sub_cancel, fewL_get (Nat.le_refl _), show low + (high + 1 - low) = high + 1 by omega, cntE_end hl]
          exact k
      refine ⟨?_, ?_⟩
      · show none :: none :: none :: none :: frzs [s4, s5, s6, s7] = _
        rw [hf]
        rfl
      · rw [en]
        exact lst

def fRange : DF := fun ds Q => ∃ w : Nat, ds = [.int (w : Nat)] ∧ 1 ≤ w ∧ w ≤ 32 ∧ ∀ low high : Nat, low ≤ high → high < 2 ^ w → Q (.tuple [.int (low : Nat), .int (high : Nat)])
theorem moRange : MoF fRange := fun _ _ _ m ⟨w, e, a, b, q⟩ => ⟨w, e, a, b, fun l h h1 h2 => m _ (q l h h1 h2)⟩
theorem ok_range {f fO fD fT : Addr} {fd dO dD dT : FuncData} (F : Fun K "_law_range" "_law_range" s__law_range f fd) (B : Blt mg) (KO : DK P w K mg base 2 "_law_of" s__law_of p__law_of (spJ K fOf) fO dO) (KD : DK P w K mg base 1 "_law_draw" s__law_draw p__law_draw (spJ K fDraw) fD dD) (KTp : DK P w K mg base 1 "_law_top" s__law_top p__law_top (spP K fTop) fT dT) : FnG P w K mg base CX0 3 f fd p__law_range (spJ K fRange) := by
  refine fnJ F sc__law_range moRange (fun ds Q h => ?_) (fun cdv A outer s H E b hA hr => ⟨_, (dss_cons (ds_setM (i := 2) sc__law_range.nd rfl (by first | exact Or.inl rfl | exact Or.inr rfl) (de_sub (de_call KTp.G moTop hA (hr.mono (by decide)) (by rfl) KTp.g KTp.F.kp KTp.b pass0 (da_cons (de_v (pv 1)) da_nil)) de_int)) (dss_cons (ds_setM (i := 3) sc__law_range.nd rfl (by first | exact Or.inl rfl | exact Or.inr rfl) (de_callJ (i := 0) KO.G moOf hA (hr.mono (by decide)) (by rfl) KO.g KO.F.kp KO.b pass0 (pv 0) (da_cons (de_tup (da_cons de_int (da_cons (de_v (pv 2)) (da_cons (de_callJ (i := 0) KD.G moDraw hA (hr.mono (by decide)) (by rfl) KD.g KD.F.kp KD.b pass0 (pv 0) (da_cons (de_add (de_v (pv 2)) de_int) da_nil)) (da_cons (de_callJ (i := 0) KD.G moDraw hA (hr.mono (by decide)) (by rfl) KD.g KD.F.kp KD.b pass0 (pv 0) (da_cons (de_add (de_v (pv 2)) de_int) da_nil)) (da_cons (de_min rfl (by rfl) B.min (da_cons de_int (da_cons (de_v (pv 2)) da_nil))) (da_cons (de_max rfl (by rfl) B.max (da_cons de_int (da_cons (de_sub (de_v (pv 2)) de_int) da_nil))) da_nil))))))) da_nil))) (dss_cons (ds_setM (i := 4) sc__law_range.nd rfl (by first | exact Or.inl rfl | exact Or.inr rfl) (de_callJ (i := 0) KO.G moOf hA (hr.mono (by decide)) (by rfl) KO.g KO.F.kp KO.b pass0 (pv 0) (da_cons (de_tup (da_cons (de_v (pv 3)) (da_cons (de_v (pv 2)) (da_cons de_int (da_cons (de_callJ (i := 0) KD.G moDraw hA (hr.mono (by decide)) (by rfl) KD.g KD.F.kp KD.b pass0 (pv 0) (da_cons (de_add (de_v (pv 2)) de_int) da_nil)) (da_cons (de_callJ (i := 0) KD.G moDraw hA (hr.mono (by decide)) (by rfl) KD.g KD.F.kp KD.b pass0 (pv 0) (da_cons (de_add (de_v (pv 2)) de_int) da_nil)) da_nil)))))) da_nil))) (dss_one (ds_ret (de_tup (da_cons (de_min rfl (by rfl) B.min (da_cons (de_v (pv 3)) (da_cons (de_v (pv 4)) da_nil))) (da_cons (de_max rfl (by rfl) B.max (da_cons (de_v (pv 3)) (da_cons (de_v (pv 4)) da_nil))) da_nil)))))))), fun ds Q h => ?_⟩)
  · obtain ⟨w, rfl, _⟩ := h
    rfl
  · obtain ⟨wd, rfl, w1, w2, k⟩ := h
    have pp := p32 w2
    have p0 := pos2 wd
    have two : 2 ≤ 2 ^ wd := Nat.le_trans (by decide) (Nat.pow_le_pow_right (by decide) w1)
    simp only [tn0, tn1, tn2, tn3, tn4, tn5, bT, bs, b1, DL.wp, sRet, sRetN, sRetO, sSeq, sIf, sSet, sNew, sMov, sDo, sApp, sExt, sUnp, sPar, sParN, sNext, setAll, dAnd, dOr, dNot, dIf, dIsi, dv, dC, dOp, cI0, cII, gII, cSc, eSc, chI, chI3, chN, nmD, dCall0, gNotInS, cInC, gInC, cIxS, gIxS, cAddS, gAddS, strI, sgn, dB, mask, stl, sSetM, sNewM, sAppM, sExtM, sUnpM, b1M, dNeg, dEmp, nList, nCat, nSl, sRetN,  dtAnd, dtOr, dtNot, bw1, dCall, dCallJ, nCall, dCB, aCons, aNil, dTup, nLst, dNew, gLen, cLen, gTu, cTu, c2I, g2I, c1I, g1I, itm, cIx, gSl, oNo, oPt, dAll, dSum, dRepr, gCat, cCat, cInS, gInS, isN, ini, List.map, List.length, List.replicate, List.append, List.cons_append, List.nil_append, List.append_nil, List.getElem?_cons_zero, List.getElem?_cons_succ, List.set_cons_zero, List.set_cons_succ, List.length_cons, List.length_nil, Option.getD_some, true_and, and_true, if_true, if_false, isT_int_int, isT_bool_int, isT_tuple_tuple, isT_str_str, Bool.not_false, Bool.not_true, false_implies, List.length_map, Bool.false_eq_true, Bool.true_eq_false, isT_int_none, isT_int_bool, isT_int_str, isT_int_list, isT_int_tuple, isT_int_dict, isT_bool_none, isT_bool_bool, isT_bool_str, isT_bool_list, isT_bool_tuple, isT_bool_dict, isT_tuple_none, isT_tuple_bool, isT_tuple_int, isT_tuple_str, isT_tuple_list, isT_tuple_dict, isT_str_none, isT_str_bool, isT_str_int, isT_str_list, isT_str_tuple, isT_str_dict]
    refine ⟨wd, rfl, w2, ?_⟩
    simp only [tn0, tn1, tn2, tn3, tn4, tn5, bT, bs, b1, DL.wp, sRet, sRetN, sRetO, sSeq, sIf, sSet, sNew, sMov, sDo, sApp, sExt, sUnp, sPar, sParN, sNext, setAll, dAnd, dOr, dNot, dIf, dIsi, dv, dC, dOp, cI0, cII, gII, cSc, eSc, chI, chI3, chN, nmD, dCall0, gNotInS, cInC, gInC, cIxS, gIxS, cAddS, gAddS, strI, sgn, dB, mask, stl, sSetM, sNewM, sAppM, sExtM, sUnpM, b1M, dNeg, dEmp, nList, nCat, nSl, sRetN,  dtAnd, dtOr, dtNot, bw1, dCall, dCallJ, nCall, dCB, aCons, aNil, dTup, nLst, dNew, gLen, cLen, gTu, cTu, c2I, g2I, c1I, g1I, itm, cIx, gSl, oNo, oPt, dAll, dSum, dRepr, gCat, cCat, cInS, gInS, isN, ini, List.map, List.length, List.replicate, List.append, List.cons_append, List.nil_append, List.append_nil, List.getElem?_cons_zero, List.getElem?_cons_succ, List.set_cons_zero, List.set_cons_succ, List.length_cons, List.length_nil, Option.getD_some, true_and, and_true, if_true, if_false, isT_int_int, isT_bool_int, isT_tuple_tuple, isT_str_str, Bool.not_false, Bool.not_true, false_implies, List.length_map, Bool.false_eq_true, Bool.true_eq_false, isT_int_none, isT_int_bool, isT_int_str, isT_int_list, isT_int_tuple, isT_int_dict, isT_bool_none, isT_bool_bool, isT_bool_str, isT_bool_list, isT_bool_tuple, isT_bool_dict, isT_tuple_none, isT_tuple_bool, isT_tuple_int, isT_tuple_str, isT_tuple_list, isT_tuple_dict, isT_str_none, isT_str_bool, isT_str_int, isT_str_list, isT_str_tuple, isT_str_dict]
    have wrd : ∀ z : Int, 0 ≤ z → z < ((2 ^ wd : Nat) : Int) → ∃ n : Nat, n < 2 ^ wd ∧ PyData.int z = .int (n : Nat) := fun z z0 z1 => by
      obtain ⟨n, rfl⟩ := Int.eq_ofNat_of_zero_le z0
      exact ⟨n, by omega, rfl⟩
    refine ⟨_, rfl, by omega, by omega, fun a a0 a1 => ⟨_, rfl, by omega, by omega, fun b b0 b1 => ⟨by decide, _, .inl rfl, by show 0 < 6; decide, by show 6 ≤ 100000; decide, fun x hx => ⟨_, rfl, by omega, by omega, fun c c0 c1 => ⟨_, rfl, by omega, by omega, fun e e0 e1 => ⟨by decide, _, .inl rfl, by show 0 < 5; decide, by show 5 ≤ 100000; decide, fun y hy => ?_⟩⟩⟩⟩⟩⟩
    obtain ⟨n, hn, rfl⟩ : ∃ n : Nat, n < 2 ^ wd ∧ x = .int (n : Nat) := by
      simp only [List.mem_cons, List.not_mem_nil, or_false] at hx
      rcases hx with rfl | rfl | rfl | rfl | rfl | rfl
      · exact wrd _ (by omega) (by omega)
      · exact wrd _ (by omega) (by omega)
      · exact wrd _ (by omega) (by omega)
      · exact wrd _ (by omega) (by omega)
      · exact wrd _ (by split <;> omega) (by split <;> omega)
      · exact wrd _ (by split <;> omega) (by split <;> omega)
    obtain ⟨m, hm, rfl⟩ : ∃ m : Nat, m < 2 ^ wd ∧ y = .int (m : Nat) := by
      simp only [List.mem_cons, List.not_mem_nil, or_false] at hy
      rcases hy with rfl | rfl | rfl | rfl | rfl
      · exact ⟨n, hn, rfl⟩
      · exact wrd _ (by omega) (by omega)
      · exact wrd _ (by omega) (by omega)
      · exact wrd _ (by omega) (by omega)
      · exact wrd _ (by omega) (by omega)
    refine ⟨trivial, trivial, by decide, ?_⟩
    show Q (.tuple [.int (if (m : Int) < (n : Int) then (m : Int) else (n : Int)), .int (if (m : Int) > (n : Int) then (m : Int) else (n : Int))])
    by_cases c3 : m < n
    · rw [if_pos (by omega), if_neg (by omega)]
      exact k m n (by omega) hn
    · rw [if_neg (by omega)]
      by_cases c4 : (m : Int) > (n : Int)
      · rw [if_pos c4]
        exact k n m (by omega) hm
      · rw [if_neg c4]
        have : m = n := by omega
        subst this
        exact k m m (Nat.le_refl _) hm
end
end LQ

namespace SI
open PySem PySem.Spec PyProof.Rows L2
/-! ### set of a list of whole numbers -/
abbrev noneYet (w : World) : Obj := { cls := .type "set", dict := none, data := .set #[] 0 (.fresh 0 0 (!w.params.followText "set-order")) }
section
variable {P : Program} {w : World} {A : Around} {E : Value → Shared → Prop} {s : Shared}
theorem callSetL {l : Addr} {items : Array Value} (ns : List Int) {Q : Value → Shared → Prop} (hh : A.handled = none) (hl : s.heap.IsList l items) (hit : IntsAre items.toList ns) (hb : ns.length + 1 < scanBound)
    (fin : ∀ (h' : Heap) (tk c : Nat), SetR w h' s.heap.objs.size (fun j => decide (j ∈ ns)) c → c ≤ ns.length → (∀ b o, s.heap.get? b = some o → h'.get? b = some o) → Q (.ref s.heap.objs.size) { s with heap := h', toks := tk }) :
    wpAny (model P w) A (call (.type "set") [.ref l]) Q E s := by
  have sz : items.size = ns.length := by have q := IntsAre.length hit; rw [Array.length_toList] at q; exact q
  obtain ⟨c0, tl, m0⟩ := F.called_set.mro
  have m1 := F.called_set.made; have m2 := F.called_set.sub
  refine wpAny_call (codeAny_of_tree ?_); show wpAny _ _ (callAny (.type "set") _) _ _ _
  refine wpAny_pure ⟨Code.quiet_builtin _ (by decide +kernel), codeAny_builtin F.entry_type_call ?_⟩; rw [Around.under_plain (weight_type_call_type "set" [.ref l] []) rfl]
  have g1 := F.called_set.notType; have g2 := F.called_set.canCreate; have g3 := F.typeCall_set_1 (.ref l)
  repeat (any_goals (first | assumption | wp_step))
  refine codeAny_mono (code_set_led1 (.ref l) (E := E) (Q₁ := fun x t => x = .ref s.heap.objs.size ∧ t = { s with heap := s.heap.push (noneYet w) }) ⟨rfl, rfl⟩) fun r t hr => ?_
  cases r with
  | error e => exact hr
  | ok fl =>
    cases fl with
    | ret obj =>
      obtain ⟨rfl, rfl⟩ := hr
      have oS : (s.heap.push (noneYet w)).get? s.heap.objs.size = some (noneYet w) := Heap.get?_push_size _ rfl
      have oT : Shared.TypeIs { s with heap := s.heap.push (noneYet w) } (.ref s.heap.objs.size) "set" := ⟨_, oS, rfl⟩
      have i1 := F.called_set.init.lookup; have i2 := F.called_set.init.bind (.ref s.heap.objs.size)
      repeat (any_goals (first | assumption | wp_step))
      refine codeAny_mono (codeAny_call_builtin (R := wants (fun r t => r = .none ∧ ∃ h' tk c, t = { s with heap := h', toks := tk } ∧ SetR w h' s.heap.objs.size (fun j => decide (j ∈ ns)) c ∧ c ≤ ns.length ∧ (∀ b o, s.heap.get? b = some o → h'.get? b = some o)) E) F.called_set.init.plain F.entry_set_init (check_set_init_1 oT ?_)) fun r2 t2 hr2 => ?_
      · obtain ⟨⟨oc, od, odt, osl⟩, hol, hcl, nl, hdl⟩ := hl
        simp only at hcl hdl; subst hcl; subst hdl
        have hol' : (s.heap.push (noneYet w)).get? l = some { cls := .type "list", dict := od, data := .seq items nl, slots := osl } := Heap.get?_push_of_some _ hol
        have u1 := F.sub_list_set; have u2 := F.sub_list_frozenset
        have u3 : (Value.type "list" == Value.type "dict") = false := by decide
        have hl1 : (s.heap.push (noneYet w)).IsList l items := ⟨_, hol', rfl, nl, rfl⟩
        unfold Builtin.«set.__init__» noKeywords Builtin.Frozenset.updateFrom; generalize hPI : pyIter = PI
        wp_walk
        subst hPI
        refine wpAny_pyIter_list hl1 (wpAny_bind (wpAny_runValue ?_))
        have lS : l < s.heap.objs.size := Heap.lt_size hol
        have q3 : A.in1.in1.in1.handled = none := by simp only [Around.in1, hh] <;> simp [hh]
        have zp : (s.heap.push (noneYet w)).objs.size = s.heap.objs.size + 1 := Heap.size_push ..
        have lne : l ≠ (s.heap.push (noneYet w)).objs.size := by rw [zp]; exact Nat.ne_of_lt (Nat.lt_succ_of_lt lS)
        have sne : s.heap.objs.size ∉ [(s.heap.push (noneYet w)).objs.size, l] := by
          rw [zp]; simp only [List.mem_cons, List.not_mem_nil, or_false, not_or]; exact ⟨Nat.ne_of_lt (Nat.lt_succ_self _), Nat.ne_of_gt lS⟩
        have vals : ∀ (i : Nat) (v : Value), items[i]? = some v → ∃ k t, ns[i]? = some k ∧ v = .int k t := fun i v hv => by
          have hi : i < ns.length := by rw [← sz]; exact (Array.getElem?_eq_some_iff.mp hv).1
          obtain ⟨t, e⟩ := PyProof.Rows.IntsAre.int_at hit i v (by rw [Array.getElem?_toList]; exact hv)
          exact ⟨ns[i], t, List.getElem?_eq_getElem hi, by rw [e, List.getD_eq_getElem?_getD, List.getElem?_eq_getElem hi] <;> rfl⟩
        refine set_update_ints ((Walks.list q3 _ l lne items).toS) s.heap.objs.size sne ns sz hb vals (items.size - 0) 0 _ (by omega) (Nat.zero_le _) ⟨⟨_, Heap.get?_push_size _ rfl, rfl, rfl⟩, (hl1.push _)⟩ ?hA0 ?hB0
        case hA0 =>
          exact ⟨0, Nat.le_refl 0, setR_new_at (Heap.get?_push_of_some _ oS)⟩
        case hB0 =>
          intro s' c' mv cl' S'
          obtain ⟨h', g', d', tk', os'⟩ := s'
          have e1 : g' = s.gens := mv.gens; have e2 : d' = s.drawn := mv.drawn; have e3 : os' = s.os := mv.os
          subst e1; subst e2; subst e3
          show wpAny _ _ _ _ _ _; refine wpAny_pure ?_; show wpAny _ _ (ret Value.none) _ _ _
          rw [sz] at cl'
          refine wpAny_pure ⟨rfl, h', tk', c', rfl, S', cl', fun b o e => ?_⟩
          have b0 : b < s.heap.objs.size := Heap.lt_size e
          exact mv.heap b o (by rw [zp]; simp only [List.mem_cons, List.not_mem_nil, or_false, not_or]; exact ⟨Nat.ne_of_lt b0, Nat.ne_of_lt (Nat.lt_succ_of_lt b0)⟩) (Heap.get?_push_of_some _ (Heap.get?_push_of_some _ e))
      · cases r2 with
        | error e => exact hr2
        | ok f2 =>
          cases f2 with
          | ret r =>
            obtain ⟨rfl, h', tk, c, rfl, S', cl', kp⟩ := hr2
            repeat (any_goals (first | assumption | wp_step))
            exact fin _ _ _ S' cl' kp
          | _ => exact hr2.elim
    | _ => exact hr.elim
end
section
variable {X : Cx}
def rSetI (K : PySem.W.Frag) (w : World) : List V → Hp → VK → Prop := fun xs H Q => ∃ (l : Addr) (ns : List Int), xs = [V.ref l] ∧ SqL K H l (ns.map V.int) ∧ ns.length < 64 ∧
  ∀ a c, H a = none → c ≤ ns.length → Q (.ref a) (upd H a (SetO w a (fun j => decide (j ∈ ns)) c))
theorem cr_setI (hc : X.calm = true) : CallR X (.type "set") (rSetI X.K X.w) := by
  intro pins s σ H xs us Q I r h
  obtain ⟨l, ns, rfl, hl, hf, q⟩ := h
  rw [Vals.ref1 r]
  obtain ⟨its, rv, pl, hz⟩ := I.list hl
  have hn : H s.heap.objs.size = none := I.hok.fresh (Nat.le_refl _)
  refine callSetL (P := X.prog) (w := X.w) ns (I.ok.hd hc) pl.isList (by simpa using ints_of_vals rv) (by unfold scanBound; omega) fun h' tk c R cl k => ?_
  exact ⟨.ref s.heap.objs.size, upd H s.heap.objs.size (SetO X.w s.heap.objs.size (fun j => decide (j ∈ ns)) c), I.laid (t' := tk) k (Nat.le_refl _) (setO_new R), rfl, q _ c hn cl⟩
end
end SI

namespace DL
open PySem PySem.Spec PyProof.Rows L2 GuL HG LZ RZ
section
variable {X : Cx} {b : Bx} {j : Bool} {e : Expr} {pos pos2 p p2 : Pos} {tt : DTA}
theorem dts_ofInts {K : PySem.W.Frag} {H : Hp} : ∀ ms : List Int, Dts K b H (ms.map V.int) (ms.map PyData.int)
  | [] => .nil
  | m :: ms => .cons (.int m) (dts_ofInts ms)
/-- sorted(set(xs)), whole numbers -/
def nSS (t : DTA) : DTA := fun ρ Q => t ρ fun ds => ∃ ns : List Int, ds = ns.map .int ∧ ns.length < 64 ∧ ∀ ms : List Int, (∀ m ∈ ms, m ∈ ns) → ms.length ≤ ns.length → Q (ms.map .int)
theorem dn_sortedSet (hc : X.calm = true) (hg : Gl X "sorted") (hm : X.mg "sorted" = none) (hg2 : Gl X "set") (hm2 : X.mg "set" = none) (ha : DN X j e tt)
    (he : starEach [e] X.env = (false, eval e X.env) :: starEach [] X.env := by rfl) (hpl : (backTo pos2 (starEach [] X.env)).any (·.1) = false := by rfl)
    (he2 : starEach [.Call (.Name "set" p2) [e] [] pos2] X.env = (false, eval (.Call (.Name "set" p2) [e] [] pos2) X.env) :: starEach [] X.env := by rfl) (hpl2 : (backTo pos (starEach [] X.env)).any (·.1) = false := by rfl) :
    DN X j (.Call (.Name "sorted" p) [.Call (.Name "set" p2) [e] [] pos2] [] pos) (nSS tt) := by
  refine ⟨fun b => peI (pe_callB (cr_sortedSet hc) hg hm (by decide +kernel) (pa_cons (pe_callTy (SI.cr_setI hc) hg2 hm2 (by decide +kernel) (pa_cons (ha.pe b) pa_nil he) (by decide) (by decide) he hpl) pa_nil he2) (by decide) (by decide) he2 hpl2) ?_, fun ρ Q Q' m q => ha.mo ρ _ _ (fun ds ⟨ns, e, l, h⟩ => ⟨ns, e, l, fun ms m1 m2 => m _ (h ms m1 m2)⟩) q⟩
  rintro σ H Q ⟨ρ, H0, G, r, q⟩
  refine ⟨ρ, H0, G, r, ha.mo ρ _ _ (fun ds q a xs H1 s1 hp hx hd => ?_) q⟩
  obtain ⟨ns, rfl, l, q⟩ := q
  have ex := dts_ints hd
  subst ex
  refine ⟨a, ns, rfl, SqL.of hx, l, fun s c hs cl => ?_⟩
  refine ⟨s, _, c, rfl, upd_same, by omega, fun ms p up mem len hp' => ?_⟩
  have st : Stp b j H (upd H1 s (SetO X.w s (fun j => decide (j ∈ ns)) c)) := s1.trans (.new hs)
  exact q ms (fun m hm => of_decide_eq_true ((mem m).mp hm)) (by omega) p _ _ (st.trans (.new hp')) (st.free r.kH hp') upd_same (dts_ofInts ms)
end
end DL

namespace LQ
open PySem PySem.Spec PyProof.Rows L2 GuL HG DL

theorem row_of {L : List (Nat × Nat)} {es : List PyData} (f : Nat × Nat → PyData) (h1 : es.length = L.length) (h : ∀ (i : Nat) e, es[i]? = some e → ∃ x, L[i]? = some x ∧ e = f x) : es = L.map f := by
  apply List.ext_getElem?
  intro i
  rw [List.getElem?_map]
  cases hx : L[i]? with
  | none =>
    have := List.getElem?_eq_none_iff.mp hx
    rw [List.getElem?_eq_none (by omega)]
    rfl
  | some x =>
    have li := (List.getElem?_eq_some_iff.mp hx).1
    have h0 := List.getElem?_eq_getElem (show i < es.length by omega)
    obtain ⟨y, hy, e6⟩ := h i _ h0
    rw [hx] at hy
    cases hy
    rw [h0, e6]
    rfl
theorem blk_item {wd i : Nat} {L : List (Nat × Nat)} {d : PyData} (hd : (L.map (bD wd))[i]? = some d) : ∃ x, L[i]? = some x ∧ d = bD wd x := by
  rw [List.getElem?_map] at hd
  cases hx : L[i]? with
  | none => rw [hx] at hd; cases hd
  | some x => rw [hx] at hd; cases hd; exact ⟨x, rfl, rfl⟩
theorem blk_lt {w high : Nat} : ∀ {n low : Nat}, high + 1 - low ≤ n → ∀ x ∈ blks w low high, x.1 ≤ high ∧ x.2 ≤ w
  | 0, low, hn, x, hx => by
    rw [blks_nil (by omega)] at hx
    cases hx
  | n + 1, low, hn, x, hx => by
    by_cases c : low ≤ high
    · have p := pos2 (fr w low high)
      have f := fr_fit (w := w) c
      rw [blks_cons c] at hx
      rcases List.mem_cons.mp hx with e | e
      · rw [e]
        exact ⟨c, f.w⟩
      · exact blk_lt (n := n) (by omega) x e
    · rw [blks_nil (by omega)] at hx
      cases hx
theorem ints_of {es : List PyData} (h : ∀ d ∈ es, ∃ z : Int, d = .int z) : es = (es.map intD).map .int := by
  rw [List.map_map]
  conv => lhs; rw [← List.map_id es]
  refine List.map_congr_left fun d hd => ?_
  obtain ⟨z, rfl⟩ := h d hd
  rfl
theorem bt_heads {w low high : Nat} (r : Rg w low high) : Bt (.tuple ((blks w low high).map fun x => .int (x.1 : Nat))) := by
  have b32 := r.b32
  have l62 := r.len
  refine .tup (by rw [List.length_map]; omega) ?_ fun d hd => ?_
  · have := Sms.all (k := 0) (n := 41) (ds := (blks w low high).map fun x => PyData.int (x.1 : Nat)) fun d hd => by
      obtain ⟨x, hx, rfl⟩ := List.mem_map.mp hd
      have := (blk_lt (Nat.le_refl _) x hx).1
      exact .int (by omega) (by omega)
    exact (Sm.tup this).shaped (by decide)
  · obtain ⟨x, _, rfl⟩ := List.mem_map.mp hd
    exact .int _
def fThings : DF := fun ds Q => ∃ w low high : Nat, ds = [.int (w : Nat), .int (low : Nat), .int (high : Nat)] ∧ Rg w low high ∧ ∀ ts : List PyData, ts.length ≤ 100 → (∀ d ∈ ts, TL d) → Q (.list ts)
theorem moThings : MoF fThings := fun _ _ _ m ⟨a, b, c, e, r, q⟩ => ⟨a, b, c, e, r, fun ts h1 h2 => m _ (q ts h1 h2)⟩
section
variable {P : Program} {w : World} {K : PySem.W.Frag} {mg : Str → Option Value} {base : Heap}

theorem ok_things {f fK fD fT fB fO : Addr} {fd dK dD dT dBt dO : FuncData} (F : Fun K "_law_things" "_law_things" s__law_things f fd) (B : Blt mg) (KBl : DK P w K mg base 1 "_law_blocks" s__law_blocks p__law_blocks (spP K fBlks) fK dK) (KD : DK P w K mg base 1 "_law_draw" s__law_draw p__law_draw (spJ K fDraw) fD dD) (KTp : DK P w K mg base 1 "_law_top" s__law_top p__law_top (spP K fTop) fT dT) (KB : DK P w K mg base 8 "_law_bent" s__law_bent p__law_bent (spJ K (fBent 5)) fB dBt) (KOd : DK P w K mg base 3 "_law_odd" s__law_odd p__law_odd (spJ K fOdd) fO dO) : FnG P w K mg base CX0 9 f fd p__law_things (spJ K fThings) := by
  refine fnJ F sc__law_things moThings (fun ds Q h => ?_) (fun cdv A outer s H E b hA hr => ⟨_, (dss_cons (ds_setM (i := 4) sc__law_things.nd rfl (by first | exact Or.inl rfl | exact Or.inr rfl) (de_tuple (by rfl) B.tuple (da_cons (de_new (dn_lcM rfl sc__law_things.nd (own := [("_law_word", 7), ("_law_bits", 8)]) (p := (.one (.t [7, 8]))) (di_tup (de_call KBl.G moBlks hA (hr.mono (by decide)) (by rfl) KBl.g KBl.F.kp KBl.b pass0 (da_cons (de_v (pv 1)) (da_cons (de_v (pv 2)) (da_cons (de_v (pv 3)) da_nil))))) (blkOk_by (N := ["_law_jar_here", "_law_width", "_law_low", "_law_high", "_law_heads", "_law_some", "_law_lasts", "_law_word", "_law_bits", "_law_turn"]) (sc := defScope s__law_things) (by decide +kernel)) (by decide) (fun _ _ _ _ _ => (pg_tup rfl (pgs_cons (pg_name (i := 7) sc__law_things.nd rfl (by first | exact Or.inl rfl | exact Or.inr rfl)) (pgs_cons (pg_name (i := 8) sc__law_things.nd rfl (by first | exact Or.inl rfl | exact Or.inr rfl)) pgs_nil)))) (fun _ _ _ _ _ => (de_v (pv 7))))) da_nil))) (dss_cons (ds_setM (i := 5) sc__law_things.nd rfl (by first | exact Or.inl rfl | exact Or.inr rfl) (de_new (dn_sortedSet rfl (by rfl) B.sorted (by rfl) B.set (dn_lcM rfl sc__law_things.nd (own := [("_law_turn", 9)]) (p := (.one (.n 9))) (di_rng1 (by rfl) B.range (da_cons (de_callJ (i := 0) KD.G moDraw hA (hr.mono (by decide)) (by rfl) KD.g KD.F.kp KD.b pass0 (pv 0) (da_cons de_int da_nil)) da_nil)) (blkOk_by (N := ["_law_jar_here", "_law_width", "_law_low", "_law_high", "_law_heads", "_law_some", "_law_lasts", "_law_word", "_law_bits", "_law_turn"]) (sc := defScope s__law_things) (by decide +kernel)) (by decide) (fun _ _ _ _ _ => (pg_name (i := 9) sc__law_things.nd rfl (by first | exact Or.inl rfl | exact Or.inr rfl))) (fun _ _ _ _ _ => (de_add (de_v (pv 2)) (de_callJ (i := 0) KD.G moDraw hA (hr.mono (by decide)) (by rfl) KD.g KD.F.kp KD.b pass0 (pv 0) (da_cons (de_add (de_sub (de_v (pv 3)) (de_v (pv 2))) de_int) da_nil)))))))) (dss_cons (ds_setM (i := 6) sc__law_things.nd rfl (by first | exact Or.inl rfl | exact Or.inr rfl) (de_tuple (by rfl) B.tuple (da_cons (de_new (dn_lcM rfl sc__law_things.nd (own := [("_law_word", 7), ("_law_bits", 8)]) (p := (.one (.t [7, 8]))) (di_tup (de_call KBl.G moBlks hA (hr.mono (by decide)) (by rfl) KBl.g KBl.F.kp KBl.b pass0 (da_cons (de_v (pv 1)) (da_cons (de_v (pv 2)) (da_cons (de_v (pv 3)) da_nil))))) (blkOk_by (N := ["_law_jar_here", "_law_width", "_law_low", "_law_high", "_law_heads", "_law_some", "_law_lasts", "_law_word", "_law_bits", "_law_turn"]) (sc := defScope s__law_things) (by decide +kernel)) (by decide) (fun _ _ _ _ _ => (pg_tup rfl (pgs_cons (pg_name (i := 7) sc__law_things.nd rfl (by first | exact Or.inl rfl | exact Or.inr rfl)) (pgs_cons (pg_name (i := 8) sc__law_things.nd rfl (by first | exact Or.inl rfl | exact Or.inr rfl)) pgs_nil)))) (fun _ _ _ _ _ => (de_sub (de_add (de_v (pv 7)) (de_call KTp.G moTop hA (hr.mono (by decide)) (by rfl) KTp.g KTp.F.kp KTp.b pass0 (da_cons (de_sub (de_v (pv 1)) (de_v (pv 8))) da_nil))) de_int)))) da_nil))) (dss_one (ds_ret (de_new (dn_lst (da_cons (de_v (pv 4)) (da_cons (de_v (pv 6)) (da_cons (de_tuple (by rfl) B.tuple (da_cons (de_v (pv 5)) da_nil)) (da_cons (de_callJ (i := 0) KB.G moBent hA (hr.mono (by decide)) (by rfl) KB.g KB.F.kp KB.b pass0 (pv 0) (da_cons (de_v (pv 4)) (da_cons de_int da_nil))) (da_cons (de_callJ (i := 0) KB.G moBent hA (hr.mono (by decide)) (by rfl) KB.g KB.F.kp KB.b pass0 (pv 0) (da_cons (de_v (pv 4)) (da_cons de_int da_nil))) (da_cons (de_new (dn_list (by rfl) B.list (de_v (pv 4)))) (da_cons (de_callJ (i := 0) KOd.G moOdd hA (hr.mono (by decide)) (by rfl) KOd.g KOd.F.kp KOd.b pass0 (pv 0) da_nil) da_nil)))))))))))))), fun ds Q h => ?_⟩)
  · obtain ⟨a, b, c, rfl, _⟩ := h
    rfl
  · obtain ⟨wd, low, high, rfl, r, k⟩ := h
    have b32 := r.b32
    have l62 := r.len
    have hl := r.l
    have hh := r.h
    have w2 := r.w2
    simp only [tn0, tn1, tn2, tn3, tn4, tn5, bT, bs, b1, DL.wp, sRet, sRetN, sRetO, sSeq, sIf, sSet, sNew, sMov, sDo, sApp, sExt, sUnp, sPar, sParN, sNext, setAll, dAnd, dOr, dNot, dIf, dIsi, dv, dC, dOp, cI0, cII, gII, cSc, eSc, chI, chI3, chN, nmD, dCall0, gNotInS, cInC, gInC, cIxS, gIxS, cAddS, gAddS, strI, sgn, dB, mask, stl, sSetM, sNewM, sAppM, sExtM, sUnpM, b1M, dNeg, dEmp, nList, nCat, nSl, sRetN,  dtAnd, dtOr, dtNot, bw1, dCall, dCallJ, nCall, dCB, aCons, aNil, dTup, nLst, dNew, gLen, cLen, gTu, cTu, c2I, g2I, c1I, g1I, itm, cIx, gSl, oNo, oPt, dAll, dSum, dRepr, gCat, cCat, cInS, gInS, isN, ini, List.map, List.length, List.replicate, List.append, List.cons_append, List.nil_append, List.append_nil, List.getElem?_cons_zero, List.getElem?_cons_succ, List.set_cons_zero, List.set_cons_succ, List.length_cons, List.length_nil, Option.getD_some, true_and, and_true, if_true, if_false, isT_int_int, isT_bool_int, isT_tuple_tuple, isT_str_str, Bool.not_false, Bool.not_true, false_implies, List.length_map, Bool.false_eq_true, Bool.true_eq_false, isT_int_none, isT_int_bool, isT_int_str, isT_int_list, isT_int_tuple, isT_int_dict, isT_bool_none, isT_bool_bool, isT_bool_str, isT_bool_list, isT_bool_tuple, isT_bool_dict, isT_tuple_none, isT_tuple_bool, isT_tuple_int, isT_tuple_str, isT_tuple_list, isT_tuple_dict, isT_str_none, isT_str_bool, isT_str_int, isT_str_list, isT_str_tuple, isT_str_dict, nLcM, tupI, bTM, nSS, rng1I]
    refine ⟨wd, low, high, rfl, r, ?_⟩
    simp only [tn0, tn1, tn2, tn3, tn4, tn5, bT, bs, b1, DL.wp, sRet, sRetN, sRetO, sSeq, sIf, sSet, sNew, sMov, sDo, sApp, sExt, sUnp, sPar, sParN, sNext, setAll, dAnd, dOr, dNot, dIf, dIsi, dv, dC, dOp, cI0, cII, gII, cSc, eSc, chI, chI3, chN, nmD, dCall0, gNotInS, cInC, gInC, cIxS, gIxS, cAddS, gAddS, strI, sgn, dB, mask, stl, sSetM, sNewM, sAppM, sExtM, sUnpM, b1M, dNeg, dEmp, nList, nCat, nSl, sRetN,  dtAnd, dtOr, dtNot, bw1, dCall, dCallJ, nCall, dCB, aCons, aNil, dTup, nLst, dNew, gLen, cLen, gTu, cTu, c2I, g2I, c1I, g1I, itm, cIx, gSl, oNo, oPt, dAll, dSum, dRepr, gCat, cCat, cInS, gInS, isN, ini, List.map, List.length, List.replicate, List.append, List.cons_append, List.nil_append, List.append_nil, List.getElem?_cons_zero, List.getElem?_cons_succ, List.set_cons_zero, List.set_cons_succ, List.length_cons, List.length_nil, Option.getD_some, true_and, and_true, if_true, if_false, isT_int_int, isT_bool_int, isT_tuple_tuple, isT_str_str, Bool.not_false, Bool.not_true, false_implies, List.length_map, Bool.false_eq_true, Bool.true_eq_false, isT_int_none, isT_int_bool, isT_int_str, isT_int_list, isT_int_tuple, isT_int_dict, isT_bool_none, isT_bool_bool, isT_bool_str, isT_bool_list, isT_bool_tuple, isT_bool_dict, isT_tuple_none, isT_tuple_bool, isT_tuple_int, isT_tuple_str, isT_tuple_list, isT_tuple_dict, isT_str_none, isT_str_bool, isT_str_int, isT_str_list, isT_str_tuple, isT_str_dict, encB]
    refine ⟨by omega, fun i e => ∃ x, (blks wd low high)[i]? = some x ∧ e = .int (x.1 : Nat), fun i d hd => ?_, fun es f3 f4 => ?_⟩
    · obtain ⟨x, hx, rfl⟩ := blk_item hd
      exact ⟨rfl, x, hx, rfl⟩
    have e5 := row_of (fun x => .int (x.1 : Nat)) (by rw [f3]) f4
    subst e5
    refine ⟨_, rfl, by decide, by decide, fun m m0 m1 => ?_⟩
    simp only [tn0, tn1, tn2, tn3, tn4, tn5, bT, bs, b1, DL.wp, sRet, sRetN, sRetO, sSeq, sIf, sSet, sNew, sMov, sDo, sApp, sExt, sUnp, sPar, sParN, sNext, setAll, dAnd, dOr, dNot, dIf, dIsi, dv, dC, dOp, cI0, cII, gII, cSc, eSc, chI, chI3, chN, nmD, dCall0, gNotInS, cInC, gInC, cIxS, gIxS, cAddS, gAddS, strI, sgn, dB, mask, stl, sSetM, sNewM, sAppM, sExtM, sUnpM, b1M, dNeg, dEmp, nList, nCat, nSl, sRetN,  dtAnd, dtOr, dtNot, bw1, dCall, dCallJ, nCall, dCB, aCons, aNil, dTup, nLst, dNew, gLen, cLen, gTu, cTu, c2I, g2I, c1I, g1I, itm, cIx, gSl, oNo, oPt, dAll, dSum, dRepr, gCat, cCat, cInS, gInS, isN, ini, List.map, List.length, List.replicate, List.append, List.cons_append, List.nil_append, List.append_nil, List.getElem?_cons_zero, List.getElem?_cons_succ, List.set_cons_zero, List.set_cons_succ, List.length_cons, List.length_nil, Option.getD_some, true_and, and_true, if_true, if_false, isT_int_int, isT_bool_int, isT_tuple_tuple, isT_str_str, Bool.not_false, Bool.not_true, false_implies, List.length_map, Bool.false_eq_true, Bool.true_eq_false, isT_int_none, isT_int_bool, isT_int_str, isT_int_list, isT_int_tuple, isT_int_dict, isT_bool_none, isT_bool_bool, isT_bool_str, isT_bool_list, isT_bool_tuple, isT_bool_dict, isT_tuple_none, isT_tuple_bool, isT_tuple_int, isT_tuple_str, isT_tuple_list, isT_tuple_dict, isT_str_none, isT_str_bool, isT_str_int, isT_str_list, isT_str_tuple, isT_str_dict]
    refine ⟨⟨by omega, by omega⟩, by rw [rng_len]; omega, fun i e => ∃ z : Int, e = .int z, fun i d hd => ⟨_, rfl, by omega, by omega, fun y y0 y1 => ⟨trivial, _, rfl⟩⟩, fun es2 g1 g2 => ?_⟩
    rw [rng_len] at g1
    refine ⟨es2.map intD, ints_of fun d hd => ?_, by rw [List.length_map]; omega, fun ms m2 m3 => ?_⟩
    · obtain ⟨i, hi⟩ := List.mem_iff_getElem?.mp hd
      exact g2 i d hi
    rw [List.length_map] at m3
    refine ⟨wd, low, high, rfl, r, ?_⟩
    simp only [tn0, tn1, tn2, tn3, tn4, tn5, bT, bs, b1, DL.wp, sRet, sRetN, sRetO, sSeq, sIf, sSet, sNew, sMov, sDo, sApp, sExt, sUnp, sPar, sParN, sNext, setAll, dAnd, dOr, dNot, dIf, dIsi, dv, dC, dOp, cI0, cII, gII, cSc, eSc, chI, chI3, chN, nmD, dCall0, gNotInS, cInC, gInC, cIxS, gIxS, cAddS, gAddS, strI, sgn, dB, mask, stl, sSetM, sNewM, sAppM, sExtM, sUnpM, b1M, dNeg, dEmp, nList, nCat, nSl, sRetN,  dtAnd, dtOr, dtNot, bw1, dCall, dCallJ, nCall, dCB, aCons, aNil, dTup, nLst, dNew, gLen, cLen, gTu, cTu, c2I, g2I, c1I, g1I, itm, cIx, gSl, oNo, oPt, dAll, dSum, dRepr, gCat, cCat, cInS, gInS, isN, ini, List.map, List.length, List.replicate, List.append, List.cons_append, List.nil_append, List.append_nil, List.getElem?_cons_zero, List.getElem?_cons_succ, List.set_cons_zero, List.set_cons_succ, List.length_cons, List.length_nil, Option.getD_some, true_and, and_true, if_true, if_false, isT_int_int, isT_bool_int, isT_tuple_tuple, isT_str_str, Bool.not_false, Bool.not_true, false_implies, List.length_map, Bool.false_eq_true, Bool.true_eq_false, isT_int_none, isT_int_bool, isT_int_str, isT_int_list, isT_int_tuple, isT_int_dict, isT_bool_none, isT_bool_bool, isT_bool_str, isT_bool_list, isT_bool_tuple, isT_bool_dict, isT_tuple_none, isT_tuple_bool, isT_tuple_int, isT_tuple_str, isT_tuple_list, isT_tuple_dict, isT_str_none, isT_str_bool, isT_str_int, isT_str_list, isT_str_tuple, isT_str_dict, encB]
    refine ⟨by omega, fun i e => ∃ z : Int, e = .int z, fun i d hd => ?_, fun es3 h3 h4 => ?_⟩
    · obtain ⟨x, hx, rfl⟩ := blk_item hd
      have xl := (blk_lt (Nat.le_refl _) x (List.mem_of_getElem? hx)).2
      simp only [tn0, tn1, tn2, tn3, tn4, tn5, bT, bs, b1, DL.wp, sRet, sRetN, sRetO, sSeq, sIf, sSet, sNew, sMov, sDo, sApp, sExt, sUnp, sPar, sParN, sNext, setAll, dAnd, dOr, dNot, dIf, dIsi, dv, dC, dOp, cI0, cII, gII, cSc, eSc, chI, chI3, chN, nmD, dCall0, gNotInS, cInC, gInC, cIxS, gIxS, cAddS, gAddS, strI, sgn, dB, mask, stl, sSetM, sNewM, sAppM, sExtM, sUnpM, b1M, dNeg, dEmp, nList, nCat, nSl, sRetN,  dtAnd, dtOr, dtNot, bw1, dCall, dCallJ, nCall, dCB, aCons, aNil, dTup, nLst, dNew, gLen, cLen, gTu, cTu, c2I, g2I, c1I, g1I, itm, cIx, gSl, oNo, oPt, dAll, dSum, dRepr, gCat, cCat, cInS, gInS, isN, ini, List.map, List.length, List.replicate, List.append, List.cons_append, List.nil_append, List.append_nil, List.getElem?_cons_zero, List.getElem?_cons_succ, List.set_cons_zero, List.set_cons_succ, List.length_cons, List.length_nil, Option.getD_some, true_and, and_true, if_true, if_false, isT_int_int, isT_bool_int, isT_tuple_tuple, isT_str_str, Bool.not_false, Bool.not_true, false_implies, List.length_map, Bool.false_eq_true, Bool.true_eq_false, isT_int_none, isT_int_bool, isT_int_str, isT_int_list, isT_int_tuple, isT_int_dict, isT_bool_none, isT_bool_bool, isT_bool_str, isT_bool_list, isT_bool_tuple, isT_bool_dict, isT_tuple_none, isT_tuple_bool, isT_tuple_int, isT_tuple_str, isT_tuple_list, isT_tuple_dict, isT_str_none, isT_str_bool, isT_str_int, isT_str_list, isT_str_tuple, isT_str_dict, bD]
      refine ⟨wd - (wd - x.2), ?_, by omega, ?_⟩
      · rw [show (wd : Int) - ((wd - x.2 : Nat) : Int) = ((wd - (wd - x.2) : Nat) : Int) by omega]
      · exact ⟨trivial, trivial, _, rfl⟩
    have bh := bt_heads r
    refine ⟨_, 1, rfl, by decide, bh, fun b1 _ t1 => ⟨_, 1, rfl, by decide, bh, fun b2 _ t2 => ⟨rfl, fun o _ t3 => ⟨by decide, k _ (by show 7 ≤ 100; decide) fun d hd => ?_⟩⟩⟩⟩
    simp only [List.mem_cons, List.not_mem_nil, or_false] at hd
    rcases hd with rfl | rfl | rfl | rfl | rfl | rfl | rfl
    · intro xs z
      cases z
      rw [List.length_map]
      omega
    · intro xs z
      cases z
      rw [h3]
      omega
    · intro xs z
      cases z
      rw [List.length_map]
      omega
    · exact t1
    · exact t2
    · exact fun xs z => nomatch z
    · exact t3
end
end LQ

namespace LQ
open PySem PySem.Spec PyProof.Rows L2 GuL HG DL

/-! ### calls by names alone -/
def rev3 {α : Type} : List α → List α | [a, b, c] => [c, b, a] | ds => ds
def rev4 {α : Type} : List α → List α | [a, b, c, d] => [d, c, b, a] | ds => ds
theorem Fun_kbnG {K : PySem.W.Frag} {pv : List Value → List Value} {pV : List V → List V} {x qual : Str} {st : Stmt} {f : Addr} {fd : FuncData} {ps ks : List Str} (hv : ∀ {zs : List V} {ws : List Value}, Vals zs ws → Vals (pV zs) (pv ws)) (F : Fun K x qual st f fd)
    (h : ∀ (kV doc pm : Value) (an : Option Addr) (cdv ct : Value) (ws : List Value), ws.length = ks.length → bindArgs (PySem.W.fnOf x qual (defArgs st) (defBody st) (defScope st) .none kV doc pm an cdv ct) ⟨[], ks.zip ws⟩ = pure (ps.zip (pv ws))) : KBn K fd ps 0 ks (fun _ ws => pv ws) (fun _ zs => pV zs) := by
  obtain ⟨oc, od, kV, doc, pm, an, cdv, ct, osl, rfl, lk, hcd⟩ := F.ex
  refine ⟨fun s us ws _ h0 h1 => ?_, fun _ r => hv r⟩
  obtain rfl := List.length_eq_zero_iff.mp h0
  exact .of_eq (h kV doc pm an cdv ct ws h1)
theorem vRev3 {zs : List V} {ws : List Value} (h : Vals zs ws) : Vals (rev3 zs) (rev3 ws) := by
  match zs, ws, h with
  | [_, _, _], [_, _, _], .cons a (.cons b (.cons c .nil)) => exact .cons c (.cons b (.cons a .nil))
  | [], [], h => exact h
  | [_], [_], h => exact h
  | [_, _], [_, _], h => exact h
  | _ :: _ :: _ :: _ :: _, _ :: _ :: _ :: _ :: _, h => exact h
theorem vRev4 {zs : List V} {ws : List Value} (h : Vals zs ws) : Vals (rev4 zs) (rev4 ws) := by
  match zs, ws, h with
  | [_, _, _, _], [_, _, _, _], .cons a (.cons b (.cons c (.cons d .nil))) => exact .cons d (.cons c (.cons b (.cons a .nil)))
  | [], [], h => exact h
  | [_], [_], h => exact h
  | [_, _], [_, _], h => exact h
  | [_, _, _], [_, _, _], h => exact h
  | _ :: _ :: _ :: _ :: _ :: _, _ :: _ :: _ :: _ :: _ :: _, h => exact h
theorem hDp {K : PySem.W.Frag} {b : Bx} {H : Hp} {vs : List V} {ds : List PyData} (l : ds.length = 3) (h : Dts K b H vs ds) : Dts K b H (rev3 vs) (rev3 ds) := by
  match ds, l, vs, h with
  | [_, _, _], _, [_, _, _], .cons a (.cons b (.cons c .nil)) => exact .cons c (.cons b (.cons a .nil))
theorem hDa {K : PySem.W.Frag} {b : Bx} {H : Hp} {vs : List V} {ds : List PyData} (l : ds.length = 4) (h : Dts K b H vs ds) : Dts K b H (rev4 vs) (rev4 ds) := by
  match ds, l, vs, h with
  | [_, _, _, _], _, [_, _, _, _], .cons a (.cons b (.cons c (.cons d .nil))) => exact .cons d (.cons c (.cons b (.cons a .nil)))
theorem two_okd (a c : Bool) : Okd (.list [.bool a, .bool c]) := ((Sms.cons (.bl a) (Sms.cons (.bl c) .nil)).mono (Nat.le_refl _) (by decide) : Sms 0 10 _).okd (by decide) (by decide)
theorem two_hd (a c : Bool) : PyData.hasDict (.list [.bool a, .bool c]) = false := ((Sms.cons (.bl a) (Sms.cons (.bl c) .nil)).mono (Nat.le_refl _) (by decide) : Sms 0 10 _).hdL
theorem sm_encB {w low high : Nat} (r : Rg w low high) : Sm 2 5300 (encB w (blks w low high)) := by
  have b32 := r.b32
  have l62 := r.len
  have := Sms.all (k := 1) (n := 84) (ds := (blks w low high).map (bD w)) fun d hd => by
    obtain ⟨x, hx, rfl⟩ := List.mem_map.mp hd
    have := (blk_lt (Nat.le_refl _) x hx).1
    have w2 := r.w2
    exact .tup ((Sms.cons (.int (by omega) (by omega)) (Sms.cons (.int (by omega) (by omega)) .nil)).mono (Nat.le_refl _) (by decide))
  refine .tup (this.mono (Nat.le_refl _) ?_)
  rw [List.length_map]
  omega
theorem heads_marks {w low high : Nat} (r : Rg w low high) : marksB w low high (.tuple ((blks w low high).map fun x => .int (x.1 : Nat))) = true := by
  show (((blks w low high).map fun x => PyData.int (x.1 : Nat)).all (fun d => numB d (low : Nat) (high : Nat)) && upB w low high (((blks w low high).map fun x => PyData.int (x.1 : Nat)).map natD)) = true
  have e : ((blks w low high).map fun x => PyData.int (x.1 : Nat)).map natD = begins w low high := by
    unfold begins
    rw [List.map_map]
    refine List.map_congr_left fun x _ => ?_
    show (x.1 : Int).toNat = x.1
    omega
  rw [e, Bool.and_eq_true]
  refine ⟨?_, ?_⟩
  · rw [List.all_eq_true]
    intro d hd
    obtain ⟨x, hx, rfl⟩ := List.mem_map.mp hd
    have g := begins_ge (w := w) (low := low) (high := high) (Nat.le_refl _) x.1 (List.mem_map.mpr ⟨x, hx, rfl⟩)
    show (decide ((low : Int) ≤ (x.1 : Int)) && decide ((x.1 : Int) ≤ (high : Int))) = true
    rw [decide_eq_true (by omega), decide_eq_true (by omega)]
    rfl
  · rw [upB_iff]
    intro j a c ha hc
    rw [cutB_iff]
    obtain ⟨x, hx, e⟩ := List.mem_map.mp (List.mem_of_getElem? hc)
    have up := begins_up (w := w) (low := low) (high := high) (Nat.le_refl _)
    have lj := (List.getElem?_eq_some_iff.mp ha)
    have lk := (List.getElem?_eq_some_iff.mp hc)
    have := List.pairwise_iff_getElem.mp up j (j + 1) lj.1 lk.1 (by omega)
    rw [lj.2, lk.2] at this
    exact ⟨x, hx, by omega, by omega⟩
def fAreR : DF := fun ds Q => ∃ w low high : Nat, ds = [.int (w : Nat), .int (low : Nat), .int (high : Nat)] ∧ Rg w low high ∧ Q (.bool true)
theorem moAreR : MoF fAreR := fun _ _ _ m ⟨a, b, c, e, r, q⟩ => ⟨a, b, c, e, r, m _ q⟩
section
variable {P : Program} {w : World} {K : PySem.W.Frag} {mg : Str → Option Value} {base : Heap}

theorem ok_areright {f f1 f2 f3 f4 f5 f6 : Addr} {fd x1 x2 x3 x4 x5 x6 : FuncData} (F : Fun K "_law_are_right" "_law_are_right" s__law_are_right f fd) (B : Blt mg) (KBl : DK P w K mg base 1 "_law_blocks" s__law_blocks p__law_blocks (spP K fBlks) f1 x1) (KPo : DK P w K mg base 3 "prefixes_of" s_prefixes_of p_prefixes_of (spP K fBlks) f2 x2) (KSm : DK P w K mg base 1 "_law_same" s__law_same p__law_same (spP K fSame) f3 x3) (KTh : DK P w K mg base 9 "_law_things" s__law_things p__law_things (spJ K fThings) f4 x4) (KLM : DK P w K mg base 2 "_law_are_marks" s__law_are_marks p__law_are_marks (spP K fMarks) f5 x5) (KAm : DK P w K mg base 3 "are_marks" s_are_marks p_are_marks (spP K fMarks) f6 x6)
    (nP : KBn K x2 p_prefixes_of 0 ["high", "low", "width"] (fun _ ws => rev3 ws) (fun _ zs => rev3 zs)) (nA : KBn K x6 p_are_marks 0 ["value", "high", "low", "width"] (fun _ ws => rev4 ws) (fun _ zs => rev4 zs)) : FnG P w K mg base CX0 10 f fd p__law_are_right (spJ K fAreR) := by
  have body : ∀ (cdv : Value) (A : Around) (outer : List Env) (s : Shared) (H : Hp) (E : XK) (_ : Unit), A.guards = some [] → Room 9 (A.deeper (envOfC "_law_are_right" (defScope s__law_are_right) s.heap.objs.size f cdv)) →
      ∃ t, DSs (cxD P w K mg base n__law_are_right "_law_are_right" s__law_are_right f cdv A outer s H E) true (defBody s__law_are_right) t ∧ ∀ ds (Q : PyData → Prop), fAreR ds Q → t { nx := fun _ => Q .none, rt := Q } (ini n__law_are_right (.jar :: ds.map .par)) := fun cdv A outer s H E b hA hr => by
    obtain ⟨tc, ec, kc⟩ : ∃ t, DSs (cxD P w K mg base n__law_are_right "_law_are_right" s__law_are_right f cdv A outer s H E) true ((defBody s__law_are_right).drop 4) t ∧ ∀ (Q : PyData → Prop) (wd low high : Nat) (s5 s6 s7 s8 s9 : SV), Rg wd low high → Q (.bool true) → t { nx := fun _ => Q .none, rt := Q } [.jar, .par (.int (wd : Nat)), .par (.int (low : Nat)), .par (.int (high : Nat)), .dat (encB wd (blks wd low high)), s5, s6, s7, s8, s9] := by
      refine ⟨_, (dss_one (ds_ret (de_isT (de_call KAm.G moMarks hA (hr.mono (by decide)) (by rfl) KAm.g KAm.F.kp KAm.b pass0 (da_cons (de_v (pv 1)) (da_cons (de_v (pv 2)) (da_cons (de_v (pv 3)) (da_cons (de_tuple (by rfl) B.tuple (da_cons (de_new (dn_lcM rfl sc__law_are_right.nd (own := [("_law_word", 8), ("_law_bits", 9)]) (p := (.one (.t [8, 9]))) (di_tup (de_v (pv 4))) (blkOk_by (N := ["_law_jar_here", "_law_width", "_law_low", "_law_high", "_law_due", "_law_told", "_law_thing", "_law_is_due", "_law_word", "_law_bits"]) (sc := defScope s__law_are_right) (by decide +kernel)) (by decide) (fun _ _ _ _ _ => (pg_tup rfl (pgs_cons (pg_name (i := 8) sc__law_are_right.nd rfl (by first | exact Or.inl rfl | exact Or.inr rfl)) (pgs_cons (pg_name (i := 9) sc__law_are_right.nd rfl (by first | exact Or.inl rfl | exact Or.inr rfl)) pgs_nil)))) (fun _ _ _ _ _ => (de_v (pv 8))))) da_nil)) da_nil)))))))), fun Q wd low high s5 s6 s7 s8 s9 r k => ?_⟩
      have l62 := r.len
      simp only [tn0, tn1, tn2, tn3, tn4, tn5, bT, bs, b1, DL.wp, sRet, sRetN, sRetO, sSeq, sIf, sSet, sNew, sMov, sDo, sApp, sExt, sUnp, sPar, sParN, sNext, setAll, dAnd, dOr, dNot, dIf, dIsi, dv, dC, dOp, cI0, cII, gII, cSc, eSc, chI, chI3, chN, nmD, dCall0, gNotInS, cInC, gInC, cIxS, gIxS, cAddS, gAddS, strI, sgn, dB, mask, stl, sSetM, sNewM, sAppM, sExtM, sUnpM, b1M, dNeg, dEmp, nList, nCat, nSl, sRetN,  dtAnd, dtOr, dtNot, bw1, dCall, dCallJ, nCall, dCB, aCons, aNil, dTup, nLst, dNew, gLen, cLen, gTu, cTu, c2I, g2I, c1I, g1I, itm, cIx, gSl, oNo, oPt, dAll, dSum, dRepr, gCat, cCat, cInS, gInS, isN, ini, List.map, List.length, List.replicate, List.append, List.cons_append, List.nil_append, List.append_nil, List.getElem?_cons_zero, List.getElem?_cons_succ, List.set_cons_zero, List.set_cons_succ, List.length_cons, List.length_nil, Option.getD_some, true_and, and_true, if_true, if_false, isT_int_int, isT_bool_int, isT_tuple_tuple, isT_str_str, Bool.not_false, Bool.not_true, false_implies, List.length_map, Bool.false_eq_true, Bool.true_eq_false, isT_int_none, isT_int_bool, isT_int_str, isT_int_list, isT_int_tuple, isT_int_dict, isT_bool_none, isT_bool_bool, isT_bool_str, isT_bool_list, isT_bool_tuple, isT_bool_dict, isT_tuple_none, isT_tuple_bool, isT_tuple_int, isT_tuple_str, isT_tuple_list, isT_tuple_dict, isT_str_none, isT_str_bool, isT_str_int, isT_str_list, isT_str_tuple, isT_str_dict, nLcM, tupI, bTM, cIsT, gIsT, encB]
      refine ⟨by omega, fun i e => ∃ x, (blks wd low high)[i]? = some x ∧ e = .int (x.1 : Nat), fun i d hd => ?_, fun es f3 f4 => ?_⟩
      · obtain ⟨x, hx, rfl⟩ := blk_item hd
        exact ⟨rfl, x, hx, rfl⟩
      have e5 := row_of (fun x => .int (x.1 : Nat)) f3 f4
      subst e5
      refine ⟨wd, low, high, _, rfl, r, fun xs z => by cases z; rw [List.length_map]; omega, ?_⟩
      rw [heads_marks r]
      exact ⟨trivial, k⟩
    obtain ⟨tb, eb, kb⟩ : ∃ t, DSs (cxD P w K mg base n__law_are_right "_law_are_right" s__law_are_right f cdv A outer s H E) true ((defBody s__law_are_right).drop 3) t ∧ ∀ (Q : PyData → Prop) (wd low high : Nat) (s5 : SV), frzs [s5] = [none] → Rg wd low high → Q (.bool true) → t { nx := fun _ => Q .none, rt := Q } [.jar, .par (.int (wd : Nat)), .par (.int (low : Nat)), .par (.int (high : Nat)), .dat (encB wd (blks wd low high)), s5, .nil, .nil, .nil, .nil] := by
      refine ⟨_, (dss_cons (ds_forM (p := (.one (.n 6))) PassesOwn.never rfl (dim_new (dn_catL (de_callJ (i := 0) KTh.G moThings hA (hr.mono (by decide)) (by rfl) KTh.g KTh.F.kp KTh.b pass0 (pv 0) (da_cons (de_v (pv 1)) (da_cons (de_v (pv 2)) (da_cons (de_v (pv 3)) da_nil)))) (de_new (dn_lst (da_cons (de_tup da_nil) (da_cons (de_tup (da_cons (de_v (pv 2)) (da_cons (de_v (pv 3)) da_nil))) da_nil)))))) (pg_name (i := 6) sc__law_are_right.nd rfl (by first | exact Or.inl rfl | exact Or.inr rfl)) (dss_cons (ds_setM (i := 7) sc__law_are_right.nd rfl (by first | exact Or.inl rfl | exact Or.inr rfl) (de_call KLM.G moMarks hA (hr.mono (by decide)) (by rfl) KLM.g KLM.F.kp KLM.b pass0 (da_cons (de_v (pv 1)) (da_cons (de_v (pv 2)) (da_cons (de_v (pv 3)) (da_cons (de_v (pv 6)) da_nil)))))) (dss_cons (ds_newM (i := 5) sc__law_are_right.nd rfl (by first | exact Or.inl rfl | exact Or.inr rfl) (dn_lst (da_cons (de_call KAm.G moMarks hA (hr.mono (by decide)) (by rfl) KAm.g KAm.F.kp KAm.b pass0 (da_cons (de_v (pv 1)) (da_cons (de_v (pv 2)) (da_cons (de_v (pv 3)) (da_cons (de_v (pv 6)) da_nil))))) (da_cons (de_callK KAm.G moMarks hA (hr.mono (by decide)) (by rfl) KAm.g KAm.F.kp nA pass0 (dk_cons (de_v (pv 6)) (dk_cons (de_v (pv 3)) (dk_cons (de_v (pv 2)) (dk_cons (de_v (pv 1)) dk_nil)))) hDa) da_nil)))) (dss_one (ds_if (dt_not (dt_val (de_call KSm.G moSame hA (hr.mono (by decide)) (by rfl) KSm.g KSm.F.kp KSm.b pass0 (da_cons (de_v (pv 5)) (da_cons (de_new (dn_lst (da_cons (de_v (pv 7)) (da_cons (de_v (pv 7)) da_nil)))) da_nil))))) (dss_one (ds_ret de_bl)) dss_nil))))) ec), fun Q wd low high s5 hf r k => ?_⟩
      simp only [tn0, tn1, tn2, tn3, tn4, tn5, bT, bs, b1, DL.wp, sRet, sRetN, sRetO, sSeq, sIf, sSet, sNew, sMov, sDo, sApp, sExt, sUnp, sPar, sParN, sNext, setAll, dAnd, dOr, dNot, dIf, dIsi, dv, dC, dOp, cI0, cII, gII, cSc, eSc, chI, chI3, chN, nmD, dCall0, gNotInS, cInC, gInC, cIxS, gIxS, cAddS, gAddS, strI, sgn, dB, mask, stl, sSetM, sNewM, sAppM, sExtM, sUnpM, b1M, dNeg, dEmp, nList, nCat, nSl, sRetN,  dtAnd, dtOr, dtNot, bw1, dCall, dCallJ, nCall, dCB, aCons, aNil, dTup, nLst, dNew, gLen, cLen, gTu, cTu, c2I, g2I, c1I, g1I, itm, cIx, gSl, oNo, oPt, dAll, dSum, dRepr, gCat, cCat, cInS, gInS, isN, ini, List.map, List.length, List.replicate, List.append, List.cons_append, List.nil_append, List.append_nil, List.getElem?_cons_zero, List.getElem?_cons_succ, List.set_cons_zero, List.set_cons_succ, List.length_cons, List.length_nil, Option.getD_some, true_and, and_true, if_true, if_false, isT_int_int, isT_bool_int, isT_tuple_tuple, isT_str_str, Bool.not_false, Bool.not_true, false_implies, List.length_map, Bool.false_eq_true, Bool.true_eq_false, isT_int_none, isT_int_bool, isT_int_str, isT_int_list, isT_int_tuple, isT_int_dict, isT_bool_none, isT_bool_bool, isT_bool_str, isT_bool_list, isT_bool_tuple, isT_bool_dict, isT_tuple_none, isT_tuple_bool, isT_tuple_int, isT_tuple_str, isT_tuple_list, isT_tuple_dict, isT_str_none, isT_str_bool, isT_str_int, isT_str_list, isT_str_tuple, isT_str_dict, sForM, newIM, bTM]
      refine ⟨wd, low, high, rfl, r, fun ts h1 h2 => ⟨by decide, by decide, by decide, ?_⟩⟩
      refine ⟨by show ts.length + 2 ≤ 100000; omega, fun (i : Nat) ρ => ∃ s5 s6 s7 : SV, frzs [s5, s6, s7] = [none, none, none] ∧ ρ = [.jar, .par (.int (wd : Nat)), .par (.int (low : Nat)), .par (.int (high : Nat)), .dat (encB wd (blks wd low high)), s5, s6, s7, .nil, .nil], ⟨s5, .nil, .nil, (by cases s5 <;> first | rfl | cases hf), rfl⟩, ?_, ?_⟩
      · rintro i d ρ hd ⟨s5, s6, s7, hg, rfl⟩
        have tl : TL d := by
          rcases List.mem_append.mp (List.mem_of_getElem? hd) with z | z
          · exact h2 d z
          · simp only [List.mem_cons, List.not_mem_nil, or_false] at z
            rcases z with rfl | rfl
            · exact fun xs z => by cases z; exact Nat.zero_le _
            · exact fun xs z => by cases z; show 2 ≤ 3000; decide
        simp only [tn0, tn1, tn2, tn3, tn4, tn5, bT, bs, b1, DL.wp, sRet, sRetN, sRetO, sSeq, sIf, sSet, sNew, sMov, sDo, sApp, sExt, sUnp, sPar, sParN, sNext, setAll, dAnd, dOr, dNot, dIf, dIsi, dv, dC, dOp, cI0, cII, gII, cSc, eSc, chI, chI3, chN, nmD, dCall0, gNotInS, cInC, gInC, cIxS, gIxS, cAddS, gAddS, strI, sgn, dB, mask, stl, sSetM, sNewM, sAppM, sExtM, sUnpM, b1M, dNeg, dEmp, nList, nCat, nSl, sRetN,  dtAnd, dtOr, dtNot, bw1, dCall, dCallJ, nCall, dCB, aCons, aNil, dTup, nLst, dNew, gLen, cLen, gTu, cTu, c2I, g2I, c1I, g1I, itm, cIx, gSl, oNo, oPt, dAll, dSum, dRepr, gCat, cCat, cInS, gInS, isN, ini, List.map, List.length, List.replicate, List.append, List.cons_append, List.nil_append, List.append_nil, List.getElem?_cons_zero, List.getElem?_cons_succ, List.set_cons_zero, List.set_cons_succ, List.length_cons, List.length_nil, Option.getD_some, true_and, and_true, if_true, if_false, isT_int_int, isT_bool_int, isT_tuple_tuple, isT_str_str, Bool.not_false, Bool.not_true, false_implies, List.length_map, Bool.false_eq_true, Bool.true_eq_false, isT_int_none, isT_int_bool, isT_int_str, isT_int_list, isT_int_tuple, isT_int_dict, isT_bool_none, isT_bool_bool, isT_bool_str, isT_bool_list, isT_bool_tuple, isT_bool_dict, isT_tuple_none, isT_tuple_bool, isT_tuple_int, isT_tuple_str, isT_tuple_list, isT_tuple_dict, isT_str_none, isT_str_bool, isT_str_int, isT_str_list, isT_str_tuple, isT_str_dict]
        refine ⟨wd, low, high, d, rfl, r, tl, wd, low, high, d, rfl, r, tl, wd, low, high, d, rfl, r, tl, by decide, by decide, _, rfl, two_okd _ _, two_hd _ _, ite_no rfl ⟨_, _, _, rfl, rfl⟩⟩
      · rintro ρ ⟨s5', s6, s7, hg, rfl⟩
        refine ⟨?_, kc Q wd low high _ _ _ _ _ r k⟩
        show none :: none :: none :: none :: none :: frzs (s5' :: s6 :: s7 :: [.nil, .nil]) = none :: none :: none :: none :: none :: frzs (s5 :: [.nil, .nil, .nil, .nil])
        have a1 : frzs (s5' :: s6 :: s7 :: [.nil, .nil]) = [none, none, none, none, none] := by
          cases s5' <;> cases s6 <;> cases s7 <;> first | rfl | cases hg
        have a2 : frzs (s5 :: [.nil, .nil, .nil, .nil]) = [none, none, none, none, none] := by
          cases s5 <;> first | rfl | cases hf
        rw [a1, a2]
    refine ⟨_, (dss_cons (ds_setM (i := 4) sc__law_are_right.nd rfl (by first | exact Or.inl rfl | exact Or.inr rfl) (de_call KBl.G moBlks hA (hr.mono (by decide)) (by rfl) KBl.g KBl.F.kp KBl.b pass0 (da_cons (de_v (pv 1)) (da_cons (de_v (pv 2)) (da_cons (de_v (pv 3)) da_nil))))) (dss_cons (ds_newM (i := 5) sc__law_are_right.nd rfl (by first | exact Or.inl rfl | exact Or.inr rfl) (dn_lst (da_cons (de_call KPo.G moBlks hA (hr.mono (by decide)) (by rfl) KPo.g KPo.F.kp KPo.b pass0 (da_cons (de_v (pv 1)) (da_cons (de_v (pv 2)) (da_cons (de_v (pv 3)) da_nil)))) (da_cons (de_callK KPo.G moBlks hA (hr.mono (by decide)) (by rfl) KPo.g KPo.F.kp nP pass0 (dk_cons (de_v (pv 3)) (dk_cons (de_v (pv 2)) (dk_cons (de_v (pv 1)) dk_nil))) hDp) da_nil)))) (dss_cons (ds_if (DW.dt (dw_or (dt_not (dt_val (de_call KSm.G moSame hA (hr.mono (by decide)) (by rfl) KSm.g KSm.F.kp KSm.b pass0 (da_cons (de_v (pv 5)) (da_cons (de_new (dn_lst (da_cons (de_v (pv 4)) (da_cons (de_v (pv 4)) da_nil)))) da_nil))))) (dw_or1 (DW.dt (dw_and (dt_gt (de_v (pv 1)) de_int) (dw_and1 (dt_gt (de_len (by rfl) B.len (da_cons (de_v (pv 4)) da_nil)) (de_sub (de_mul de_int (de_v (pv 1))) de_int)))))))) (dss_one (ds_ret de_bl)) dss_nil) eb))), fun ds Q h => ?_⟩
    obtain ⟨wd, low, high, rfl, r, k⟩ := h
    have bl := blks_len r.h r.l
    simp only [tn0, tn1, tn2, tn3, tn4, tn5, bT, bs, b1, DL.wp, sRet, sRetN, sRetO, sSeq, sIf, sSet, sNew, sMov, sDo, sApp, sExt, sUnp, sPar, sParN, sNext, setAll, dAnd, dOr, dNot, dIf, dIsi, dv, dC, dOp, cI0, cII, gII, cSc, eSc, chI, chI3, chN, nmD, dCall0, gNotInS, cInC, gInC, cIxS, gIxS, cAddS, gAddS, strI, sgn, dB, mask, stl, sSetM, sNewM, sAppM, sExtM, sUnpM, b1M, dNeg, dEmp, nList, nCat, nSl, sRetN,  dtAnd, dtOr, dtNot, bw1, dCall, dCallJ, nCall, dCB, aCons, aNil, dTup, nLst, dNew, gLen, cLen, gTu, cTu, c2I, g2I, c1I, g1I, itm, cIx, gSl, oNo, oPt, dAll, dSum, dRepr, gCat, cCat, cInS, gInS, isN, ini, List.map, List.length, List.replicate, List.append, List.cons_append, List.nil_append, List.append_nil, List.getElem?_cons_zero, List.getElem?_cons_succ, List.set_cons_zero, List.set_cons_succ, List.length_cons, List.length_nil, Option.getD_some, true_and, and_true, if_true, if_false, isT_int_int, isT_bool_int, isT_tuple_tuple, isT_str_str, Bool.not_false, Bool.not_true, false_implies, List.length_map, Bool.false_eq_true, Bool.true_eq_false, isT_int_none, isT_int_bool, isT_int_str, isT_int_list, isT_int_tuple, isT_int_dict, isT_bool_none, isT_bool_bool, isT_bool_str, isT_bool_list, isT_bool_tuple, isT_bool_dict, isT_tuple_none, isT_tuple_bool, isT_tuple_int, isT_tuple_str, isT_tuple_list, isT_tuple_dict, isT_str_none, isT_str_bool, isT_str_int, isT_str_list, isT_str_tuple, isT_str_dict]
    refine ⟨wd, low, high, rfl, r, wd, low, high, rfl, r, wd, low, high, rfl, r, by decide, by decide, _, rfl, ?_, ?_, ite_no rfl ?_⟩
    · exact ((Sms.cons (sm_encB r) (Sms.cons (sm_encB r) .nil)).mono (Nat.le_refl _) (Nat.le_refl _)).okd (by decide) (by decide)
    · exact (Sms.cons (sm_encB r) (Sms.cons (sm_encB r) .nil)).hdL
    · have kk := fun z : Q (.bool true) => kb Q wd low high (.own [encB wd (blks wd low high), encB wd (blks wd low high)]) rfl r z
      refine ite_dec rfl (fun c1 => ⟨trivial, .inl ⟨by decide, by decide⟩, trivial, ite_dec rfl (fun c2 => ?_) fun _ => kk k⟩) fun _ => kk k
      rw [List.length_map] at c2
      omega
  refine fnJ F sc__law_are_right moAreR (fun ds Q h => ?_) body
  obtain ⟨a, b, c, rfl, _⟩ := h
  rfl
end
end LQ

namespace LQ
open PySem PySem.Spec PyProof.Rows L2 GuL HG DL

def fRight : DF := fun ds Q => ds = [] ∧ Q (.bool true)
theorem moRight : MoF fRight := fun _ _ _ m ⟨e, q⟩ => ⟨e, m _ q⟩
section
variable {P : Program} {w : World} {K : PySem.W.Frag} {mg : Str → Option Value} {base : Heap}

theorem ok_right {f f1 f2 f3 f4 f5 : Addr} {fd x1 x2 x3 x4 x5 : FuncData} (F : Fun K "_law_right" "_law_right" s__law_right f fd) (B : Blt mg) (KD : DK P w K mg base 1 "_law_draw" s__law_draw p__law_draw (spJ K fDraw) f1 x1) (KRg : DK P w K mg base 3 "_law_range" s__law_range p__law_range (spJ K fRange) f2 x2) (KAr : DK P w K mg base 10 "_law_are_right" s__law_are_right p__law_are_right (spJ K fAreR) f3 x3) (KPo : DK P w K mg base 3 "prefixes_of" s_prefixes_of p_prefixes_of (spP K fBlks) f4 x4) (KFw : DK P w K mg base 2 "_law_fewest" s__law_fewest p__law_fewest (spP K fFew) f5 x5) : FnG P w K mg base CX0 11 f fd p__law_right (spJ K fRight) := by
  have body : ∀ (cdv : Value) (A : Around) (outer : List Env) (s : Shared) (H : Hp) (E : XK) (_ : Unit), A.guards = some [] → Room 10 (A.deeper (envOfC "_law_right" (defScope s__law_right) s.heap.objs.size f cdv)) →
      ∃ t, DSs (cxD P w K mg base n__law_right "_law_right" s__law_right f cdv A outer s H E) true (defBody s__law_right) t ∧ ∀ ds (Q : PyData → Prop), fRight ds Q → t { nx := fun _ => Q .none, rt := Q } (ini n__law_right (.jar :: ds.map .par)) := fun cdv A outer s H E b hA hr => by
    obtain ⟨td, ed, kd⟩ : ∃ t, DSs (cxD P w K mg base n__law_right "_law_right" s__law_right f cdv A outer s H E) true ((defBody s__law_right).drop 5) t ∧ ∀ (Q : PyData → Prop) (wd : Nat) (d1 d2 d3 : PyData), 1 ≤ wd → wd ≤ 32 → Q (.bool true) → t { nx := fun _ => Q .none, rt := Q } [.jar, .dat d1, .dat d2, .dat d3, .dat (.int (wd : Nat))] := by
      refine ⟨_, (dss_cons (ds_unpM (p := (.one (.t [2, 3]))) (de_callJ (i := 0) KRg.G moRange hA (hr.mono (by decide)) (by rfl) KRg.g KRg.F.kp KRg.b pass0 (pv 0) (da_cons (de_v (pv 4)) da_nil)) (pg_tup rfl (pgs_cons (pg_name (i := 2) sc__law_right.nd rfl (by first | exact Or.inl rfl | exact Or.inr rfl)) (pgs_cons (pg_name (i := 3) sc__law_right.nd rfl (by first | exact Or.inl rfl | exact Or.inr rfl)) pgs_nil)))) (dss_one (ds_ret (de_callJ (i := 0) KAr.G moAreR hA (hr.mono (by decide)) (by rfl) KAr.g KAr.F.kp KAr.b pass0 (pv 0) (da_cons (de_v (pv 4)) (da_cons (de_v (pv 2)) (da_cons (de_v (pv 3)) da_nil))))))), fun Q wd d1 d2 d3 w1 w2 k => ?_⟩
      simp only [tn0, tn1, tn2, tn3, tn4, tn5, bT, bs, b1, DL.wp, sRet, sRetN, sRetO, sSeq, sIf, sSet, sNew, sMov, sDo, sApp, sExt, sUnp, sPar, sParN, sNext, setAll, dAnd, dOr, dNot, dIf, dIsi, dv, dC, dOp, cI0, cII, gII, cSc, eSc, chI, chI3, chN, nmD, dCall0, gNotInS, cInC, gInC, cIxS, gIxS, cAddS, gAddS, strI, sgn, dB, mask, stl, sSetM, sNewM, sAppM, sExtM, sUnpM, b1M, dNeg, dEmp, nList, nCat, nSl, sRetN,  dtAnd, dtOr, dtNot, bw1, dCall, dCallJ, nCall, dCB, aCons, aNil, dTup, nLst, dNew, gLen, cLen, gTu, cTu, c2I, g2I, c1I, g1I, itm, cIx, gSl, oNo, oPt, dAll, dSum, dRepr, gCat, cCat, cInS, gInS, isN, ini, List.map, List.length, List.replicate, List.append, List.cons_append, List.nil_append, List.append_nil, List.getElem?_cons_zero, List.getElem?_cons_succ, List.set_cons_zero, List.set_cons_succ, List.length_cons, List.length_nil, Option.getD_some, true_and, and_true, if_true, if_false, isT_int_int, isT_bool_int, isT_tuple_tuple, isT_str_str, Bool.not_false, Bool.not_true, false_implies, List.length_map, Bool.false_eq_true, Bool.true_eq_false, isT_int_none, isT_int_bool, isT_int_str, isT_int_list, isT_int_tuple, isT_int_dict, isT_bool_none, isT_bool_bool, isT_bool_str, isT_bool_list, isT_bool_tuple, isT_bool_dict, isT_tuple_none, isT_tuple_bool, isT_tuple_int, isT_tuple_str, isT_tuple_list, isT_tuple_dict, isT_str_none, isT_str_bool, isT_str_int, isT_str_list, isT_str_tuple, isT_str_dict, bTM]
      refine ⟨wd, rfl, w1, w2, fun low high hl hh => ⟨rfl, ?_⟩⟩
      simp only [tn0, tn1, tn2, tn3, tn4, tn5, bT, bs, b1, DL.wp, sRet, sRetN, sRetO, sSeq, sIf, sSet, sNew, sMov, sDo, sApp, sExt, sUnp, sPar, sParN, sNext, setAll, dAnd, dOr, dNot, dIf, dIsi, dv, dC, dOp, cI0, cII, gII, cSc, eSc, chI, chI3, chN, nmD, dCall0, gNotInS, cInC, gInC, cIxS, gIxS, cAddS, gAddS, strI, sgn, dB, mask, stl, sSetM, sNewM, sAppM, sExtM, sUnpM, b1M, dNeg, dEmp, nList, nCat, nSl, sRetN,  dtAnd, dtOr, dtNot, bw1, dCall, dCallJ, nCall, dCB, aCons, aNil, dTup, nLst, dNew, gLen, cLen, gTu, cTu, c2I, g2I, c1I, g1I, itm, cIx, gSl, oNo, oPt, dAll, dSum, dRepr, gCat, cCat, cInS, gInS, isN, ini, List.map, List.length, List.replicate, List.append, List.cons_append, List.nil_append, List.append_nil, List.getElem?_cons_zero, List.getElem?_cons_succ, List.set_cons_zero, List.set_cons_succ, List.length_cons, List.length_nil, Option.getD_some, true_and, and_true, if_true, if_false, isT_int_int, isT_bool_int, isT_tuple_tuple, isT_str_str, Bool.not_false, Bool.not_true, false_implies, List.length_map, Bool.false_eq_true, Bool.true_eq_false, isT_int_none, isT_int_bool, isT_int_str, isT_int_list, isT_int_tuple, isT_int_dict, isT_bool_none, isT_bool_bool, isT_bool_str, isT_bool_list, isT_bool_tuple, isT_bool_dict, isT_tuple_none, isT_tuple_bool, isT_tuple_int, isT_tuple_str, isT_tuple_list, isT_tuple_dict, isT_str_none, isT_str_bool, isT_str_int, isT_str_list, isT_str_tuple, isT_str_dict]
      exact ⟨wd, low, high, rfl, ⟨w1, w2, hl, hh⟩, k⟩
    obtain ⟨tc, ec, kc⟩ : ∃ t, DSs (cxD P w K mg base n__law_right "_law_right" s__law_right f cdv A outer s H E) true ((defBody s__law_right).drop 2) t ∧ ∀ (Q : PyData → Prop) (wd low high : Nat), Rg wd low high → wd ≤ 7 → Q (.bool true) → t { nx := fun _ => Q .none, rt := Q } [.jar, .dat (.int (wd : Nat)), .dat (.int (low : Nat)), .dat (.int (high : Nat)), .nil] := by
      refine ⟨_, (dss_cons (ds_if (dt_not (dt_val (de_callJ (i := 0) KAr.G moAreR hA (hr.mono (by decide)) (by rfl) KAr.g KAr.F.kp KAr.b pass0 (pv 0) (da_cons (de_v (pv 1)) (da_cons (de_v (pv 2)) (da_cons (de_v (pv 3)) da_nil)))))) (dss_one (ds_ret de_bl)) dss_nil) (dss_cons (ds_if (dt_ne (de_len (by rfl) B.len (da_cons (de_call KPo.G moBlks hA (hr.mono (by decide)) (by rfl) KPo.g KPo.F.kp KPo.b pass0 (da_cons (de_v (pv 1)) (da_cons (de_v (pv 2)) (da_cons (de_v (pv 3)) da_nil)))) da_nil)) (de_call KFw.G moFew hA (hr.mono (by decide)) (by rfl) KFw.g KFw.F.kp KFw.b pass0 (da_cons (de_v (pv 1)) (da_cons (de_v (pv 2)) (da_cons (de_v (pv 3)) da_nil))))) (dss_one (ds_ret de_bl)) dss_nil) (dss_cons (ds_setM (i := 4) sc__law_right.nd rfl (by first | exact Or.inl rfl | exact Or.inr rfl) (de_add de_int (de_callJ (i := 0) KD.G moDraw hA (hr.mono (by decide)) (by rfl) KD.g KD.F.kp KD.b pass0 (pv 0) (da_cons de_int da_nil)))) ed))), fun Q wd low high r w7 k => ?_⟩
      simp only [tn0, tn1, tn2, tn3, tn4, tn5, bT, bs, b1, DL.wp, sRet, sRetN, sRetO, sSeq, sIf, sSet, sNew, sMov, sDo, sApp, sExt, sUnp, sPar, sParN, sNext, setAll, dAnd, dOr, dNot, dIf, dIsi, dv, dC, dOp, cI0, cII, gII, cSc, eSc, chI, chI3, chN, nmD, dCall0, gNotInS, cInC, gInC, cIxS, gIxS, cAddS, gAddS, strI, sgn, dB, mask, stl, sSetM, sNewM, sAppM, sExtM, sUnpM, b1M, dNeg, dEmp, nList, nCat, nSl, sRetN,  dtAnd, dtOr, dtNot, bw1, dCall, dCallJ, nCall, dCB, aCons, aNil, dTup, nLst, dNew, gLen, cLen, gTu, cTu, c2I, g2I, c1I, g1I, itm, cIx, gSl, oNo, oPt, dAll, dSum, dRepr, gCat, cCat, cInS, gInS, isN, ini, List.map, List.length, List.replicate, List.append, List.cons_append, List.nil_append, List.append_nil, List.getElem?_cons_zero, List.getElem?_cons_succ, List.set_cons_zero, List.set_cons_succ, List.length_cons, List.length_nil, Option.getD_some, true_and, and_true, if_true, if_false, isT_int_int, isT_bool_int, isT_tuple_tuple, isT_str_str, Bool.not_false, Bool.not_true, false_implies, List.length_map, Bool.false_eq_true, Bool.true_eq_false, isT_int_none, isT_int_bool, isT_int_str, isT_int_list, isT_int_tuple, isT_int_dict, isT_bool_none, isT_bool_bool, isT_bool_str, isT_bool_list, isT_bool_tuple, isT_bool_dict, isT_tuple_none, isT_tuple_bool, isT_tuple_int, isT_tuple_str, isT_tuple_list, isT_tuple_dict, isT_str_none, isT_str_bool, isT_str_int, isT_str_list, isT_str_tuple, isT_str_dict]
      refine ⟨wd, low, high, rfl, r, wd, low, high, rfl, r, ?_⟩
      simp only [tn0, tn1, tn2, tn3, tn4, tn5, bT, bs, b1, DL.wp, sRet, sRetN, sRetO, sSeq, sIf, sSet, sNew, sMov, sDo, sApp, sExt, sUnp, sPar, sParN, sNext, setAll, dAnd, dOr, dNot, dIf, dIsi, dv, dC, dOp, cI0, cII, gII, cSc, eSc, chI, chI3, chN, nmD, dCall0, gNotInS, cInC, gInC, cIxS, gIxS, cAddS, gAddS, strI, sgn, dB, mask, stl, sSetM, sNewM, sAppM, sExtM, sUnpM, b1M, dNeg, dEmp, nList, nCat, nSl, sRetN,  dtAnd, dtOr, dtNot, bw1, dCall, dCallJ, nCall, dCB, aCons, aNil, dTup, nLst, dNew, gLen, cLen, gTu, cTu, c2I, g2I, c1I, g1I, itm, cIx, gSl, oNo, oPt, dAll, dSum, dRepr, gCat, cCat, cInS, gInS, isN, ini, List.map, List.length, List.replicate, List.append, List.cons_append, List.nil_append, List.append_nil, List.getElem?_cons_zero, List.getElem?_cons_succ, List.set_cons_zero, List.set_cons_succ, List.length_cons, List.length_nil, Option.getD_some, true_and, and_true, if_true, if_false, isT_int_int, isT_bool_int, isT_tuple_tuple, isT_str_str, Bool.not_false, Bool.not_true, false_implies, List.length_map, Bool.false_eq_true, Bool.true_eq_false, isT_int_none, isT_int_bool, isT_int_str, isT_int_list, isT_int_tuple, isT_int_dict, isT_bool_none, isT_bool_bool, isT_bool_str, isT_bool_list, isT_bool_tuple, isT_bool_dict, isT_tuple_none, isT_tuple_bool, isT_tuple_int, isT_tuple_str, isT_tuple_list, isT_tuple_dict, isT_str_none, isT_str_bool, isT_str_int, isT_str_list, isT_str_tuple, isT_str_dict, encB]
      refine ⟨wd, low, high, rfl, r, w7, trivial, ?_⟩
      show if (!decide (((blks wd low high).length : Int) = ((blks wd low high).length : Int))) = true then _ else _
      rw [decide_eq_true rfl]
      refine ite_no rfl ⟨_, rfl, by decide, by decide, fun y y0 y1 => ⟨trivial, ?_⟩⟩
      obtain ⟨y, rfl⟩ := Int.eq_ofNat_of_zero_le y0
      have ey : (1 : Int) + (y : Int) = ((1 + y : Nat) : Int) := by omega
      show td _ [.jar, .dat (.int (wd : Nat)), .dat (.int (low : Nat)), .dat (.int (high : Nat)), .dat (.int ((1 : Int) + (y : Int)))]
      rw [ey]
      exact kd Q (1 + y) _ _ _ (by omega) (by omega) k
    refine ⟨_, (dss_cons (ds_setM (i := 1) sc__law_right.nd rfl (by first | exact Or.inl rfl | exact Or.inr rfl) (de_add de_int (de_callJ (i := 0) KD.G moDraw hA (hr.mono (by decide)) (by rfl) KD.g KD.F.kp KD.b pass0 (pv 0) (da_cons de_int da_nil)))) (dss_cons (ds_unpM (p := (.one (.t [2, 3]))) (de_callJ (i := 0) KRg.G moRange hA (hr.mono (by decide)) (by rfl) KRg.g KRg.F.kp KRg.b pass0 (pv 0) (da_cons (de_v (pv 1)) da_nil)) (pg_tup rfl (pgs_cons (pg_name (i := 2) sc__law_right.nd rfl (by first | exact Or.inl rfl | exact Or.inr rfl)) (pgs_cons (pg_name (i := 3) sc__law_right.nd rfl (by first | exact Or.inl rfl | exact Or.inr rfl)) pgs_nil)))) ec)), fun ds Q h => ?_⟩
    obtain ⟨rfl, k⟩ := h
    simp only [tn0, tn1, tn2, tn3, tn4, tn5, bT, bs, b1, DL.wp, sRet, sRetN, sRetO, sSeq, sIf, sSet, sNew, sMov, sDo, sApp, sExt, sUnp, sPar, sParN, sNext, setAll, dAnd, dOr, dNot, dIf, dIsi, dv, dC, dOp, cI0, cII, gII, cSc, eSc, chI, chI3, chN, nmD, dCall0, gNotInS, cInC, gInC, cIxS, gIxS, cAddS, gAddS, strI, sgn, dB, mask, stl, sSetM, sNewM, sAppM, sExtM, sUnpM, b1M, dNeg, dEmp, nList, nCat, nSl, sRetN,  dtAnd, dtOr, dtNot, bw1, dCall, dCallJ, nCall, dCB, aCons, aNil, dTup, nLst, dNew, gLen, cLen, gTu, cTu, c2I, g2I, c1I, g1I, itm, cIx, gSl, oNo, oPt, dAll, dSum, dRepr, gCat, cCat, cInS, gInS, isN, ini, List.map, List.length, List.replicate, List.append, List.cons_append, List.nil_append, List.append_nil, List.getElem?_cons_zero, List.getElem?_cons_succ, List.set_cons_zero, List.set_cons_succ, List.length_cons, List.length_nil, Option.getD_some, true_and, and_true, if_true, if_false, isT_int_int, isT_bool_int, isT_tuple_tuple, isT_str_str, Bool.not_false, Bool.not_true, false_implies, List.length_map, Bool.false_eq_true, Bool.true_eq_false, isT_int_none, isT_int_bool, isT_int_str, isT_int_list, isT_int_tuple, isT_int_dict, isT_bool_none, isT_bool_bool, isT_bool_str, isT_bool_list, isT_bool_tuple, isT_bool_dict, isT_tuple_none, isT_tuple_bool, isT_tuple_int, isT_tuple_str, isT_tuple_list, isT_tuple_dict, isT_str_none, isT_str_bool, isT_str_int, isT_str_list, isT_str_tuple, isT_str_dict, bTM]
    refine ⟨_, rfl, by decide, by decide, fun m m0 m1 => ?_⟩
    obtain ⟨m, rfl⟩ := Int.eq_ofNat_of_zero_le m0
    have em : (1 : Int) + (m : Int) = ((1 + m : Nat) : Int) := by omega
    refine ⟨trivial, 1 + m, by show [PyData.int ((1 : Int) + (m : Int))] = _; rw [em], by omega, by omega, fun low high hl hh => ⟨rfl, ?_⟩⟩
    show tc _ [.jar, .dat (.int ((1 : Int) + (m : Int))), .dat (.int (low : Nat)), .dat (.int (high : Nat)), .nil]
    rw [em]
    exact kc Q (1 + m) low high ⟨by omega, by omega, hl, hh⟩ (by omega) k
  refine fnJ F sc__law_right moRight (fun ds Q h => ?_) body
  obtain ⟨rfl, _⟩ := h
  rfl
end
end LQ

namespace LQ
open PySem PySem.Spec PyProof.Rows L2 GuL HG DL

section
variable {P : Program} {w : World} {K : PySem.W.Frag} {mg : Str → Option Value} {base : Heap}
def spLaw (K : PySem.W.Frag) : Sp := fun vs H Q _ => ∃ (a : Addr) (ns : List Int), vs = [.ref a] ∧ SqL K H a (ns.map V.int) ∧ ns.length ≤ 63 ∧ ∀ H', Q (.bl true) H'
theorem ok_law {f fR fB : Addr} {fd fdR fdB : FuncData} (F : Fun K "law" "law" s_law f fd) (B : Blt mg) (FR : Fun K "_law_right" "_law_right" s__law_right fR fdR) (bR : Binds K fdR p__law_right []) (gR : mg "_law_right" = some (.ref fR)) (GR : FnG P w K mg base CX0 11 fR fdR p__law_right (spJ K fRight))
    (FB : Fun K "_law_jar" "_law_jar" s__law_jar fB fdB) (bB : Binds K fdB p__law_jar []) (gB : mg "_law_jar" = some (.ref fB)) : FnG P w K mg base CX0 12 f fd p_law (spLaw K) := by
  have GB : FnOk P w K mg base CX0 1 fB fdB p__law_jar (spJar K) := ok_jar FB B
  refine okG F sc_law (fun vs H Q E h => ?_) (fun cdv A outer s H vs Q E hA hr h => ?_)
  · obtain ⟨a, ns, rfl, _⟩ := h
    rfl
  · obtain ⟨a, ns, rfl, hS, hlen, k⟩ := h
    have hr1 : Room 1 _ := hr.mono (by decide)
    refine ⟨_, pss_one (ps_ret (pe_callB (cr_all rfl) (by rfl) B.all (by decide +kernel) (pa_cons
      (pe_lc (own := [("_law_turn", 1)]) (g := gName 1) (tt := tYes) rfl sc_law.nd (pi_range1 (by rfl) B.range (pa_cons (pe_callB (call_max2 rfl) (by rfl) B.max (by decide +kernel) (pa_cons pe_int (pa_cons (pe_callB (call_min2 rfl) (by rfl) B.min (by decide +kernel)
          (pa_cons (pe_callB call_len_seq (by rfl) B.len PySem.boot_len (pa_cons (pv 0) pa_nil)) (pa_cons pe_int pa_nil))) pa_nil))) pa_nil))
        (blkOk_by (N := n_law) (sc := defScope s_law) (by decide +kernel)) (fun _ _ _ _ _ => pg_name (i := 1) sc_law.nd rfl (Or.inl rfl)) (fun _ _ _ _ _ => pts_nil)
        (fun _ _ _ _ _ => pe_callG GR hA hr (by rfl) gR FR.kp bR .nil pass0 (pa_cons (pe_call GB hr1 (by rfl) gB FB.kp bB .nil pass0 (pa_cons (pv 0) (pa_cons (pv 1) pa_nil))) pa_nil))) pa_nil))), ?_⟩
    refine ⟨_, rfl, a, _, rfl, .inl hS, _, _, rfl, _, _, rfl, _, rfl, ?_, ?_, fun D hD => ?_⟩
    · split <;> split <;> omega
    · split <;> split <;> omega
    refine lc_range (lo := 0) (fun i H' => Same H H' ∧ H' D = some (.lst ((List.replicate i true).map V.bl))) ⟨same_new hD, upd_same⟩ ?_ ?_
    · rintro i H1 hi ⟨s1, f1⟩
      have i3 : i ≤ 1000 := by
        have : i < 1000 := by
          revert hi
          split <;> split <;> omega
        omega
      refine ⟨rfl, _, rfl, _, rfl, a, ns, _, rfl, s1.seq hS, hlen, by omega, fun H2 p o m s2 np fp ho => ?_⟩
      have nDp : D ≠ p := ne_of_none f1 np
      have np0 : H p = none := s1.free np
      refine ⟨Bx.of p, [], [], rfl, ⟨fun a e => ⟨_, (congrArg H2 (show a = p from e)).trans fp⟩, fun _ => ⟨o, m, 0, fp, ho⟩⟩, .nil, rfl, fun v H3 e3 hv => ?_⟩
      cases hv
      have f3 : H3 D = some (.lst ((List.replicate i true).map V.bl)) := e3.1 _ _ (fun _ => nDp) (s2 _ _ f1)
      refine ⟨_, f3, ?_, fun b u e => ?_, ?_⟩
      · rw [List.length_map, List.length_replicate]
        exact small1000 i3
      · rw [upd_ne (ne_of_none e hD)]
        exact e3.1 _ _ (fun _ => ne_of_none e np0) (s2 _ _ (s1 _ _ e))
      · rw [upd_same, List.replicate_succ', List.map_append]
        rfl
    · rintro H1 ⟨s1, f1⟩
      refine ⟨D, _, rfl, SqL.of f1, ?_⟩
      have e : ∀ n : Nat, (List.replicate n true).all id = true := fun n => by simp
      rw [e]
      exact k _
end
end LQ

namespace LQ
open PySem PySem.Spec PyProof.Rows L2 GuL HG DL
section
variable {K : PySem.W.Frag} {mg : Str → Option Value}
theorem ga_eq {x : Str} {C : Addr} (a : PySem.W.nsIn K mainGlobals x = some (some (.ref C))) : He.ga K x = C := by
  unfold He.ga
  rw [a]
theorem all_mk {l : PySem.W.OpenLaw} {w : World} {h : Heap} {fa f0 f1 f2 f3 f4 f5 f6 f7 f8 f9 f10 f11 f12 f13 f14 f15 f16 f17 f18 f19 f20 f21 f22 f23 : Addr} (X : K.In h) (G : h.Ns mainGlobals mg) (hfa : mg "law" = some (.ref fa))
    {od0 an0 od1 an1 od2 an2 od3 an3 od4 an4 od5 an5 od6 an6 od7 an7 od8 an8 od9 an9 od10 an10 od11 an11 od12 an12 od13 an13 od14 an14 od15 an15 od16 an16 od17 an17 od18 an18 od19 an19 od20 an20 od21 an21 od22 an22 od23 an23 : Option Addr} {sl0 sl1 sl2 sl3 sl4 sl5 sl6 sl7 sl8 sl9 sl10 sl11 sl12 sl13 sl14 sl15 sl16 sl17 sl18 sl19 sl20 sl21 sl22 sl23 : Array (Option Value)} {oc0 kV0 dc0 pm0 cd0 ct0 oc1 kV1 dc1 pm1 cd1 ct1 oc2 kV2 dc2 pm2 cd2 ct2 oc3 kV3 dc3 pm3 cd3 ct3 oc4 kV4 dc4 pm4 cd4 ct4 oc5 kV5 dc5 pm5 cd5 ct5 oc6 kV6 dc6 pm6 cd6 ct6 oc7 kV7 dc7 pm7 cd7 ct7 oc8 kV8 dc8 pm8 cd8 ct8 oc9 kV9 dc9 pm9 cd9 ct9 oc10 kV10 dc10 pm10 cd10 ct10 oc11 kV11 dc11 pm11 cd11 ct11 oc12 kV12 dc12 pm12 cd12 ct12 oc13 kV13 dc13 pm13 cd13 ct13 oc14 kV14 dc14 pm14 cd14 ct14 oc15 kV15 dc15 pm15 cd15 ct15 oc16 kV16 dc16 pm16 cd16 ct16 oc17 kV17 dc17 pm17 cd17 ct17 oc18 kV18 dc18 pm18 cd18 ct18 oc19 kV19 dc19 pm19 cd19 ct19 oc20 kV20 dc20 pm20 cd20 ct20 oc21 kV21 dc21 pm21 cd21 ct21 oc22 kV22 dc22 pm22 cd22 ct22 oc23 kV23 dc23 pm23 cd23 ct23 : Value} {t_ww : Tok}
    (a0 : PySem.W.nsIn K mainGlobals "is_number" = some (some (.ref f0))) (l0 : K.lookup f0 = some ⟨oc0, od0, .func (PySem.W.fnOf "is_number" "is_number" (defArgs s_is_number) (defBody s_is_number) (defScope s_is_number) .none kV0 dc0 pm0 an0 cd0 ct0), sl0⟩) (c0 : PySem.W.codeIn K cd0 "is_number" = true) (k0 : PySem.W.keepIn K (.ref f0) = true)
    (a1 : PySem.W.nsIn K mainGlobals "is_word" = some (some (.ref f1))) (l1 : K.lookup f1 = some ⟨oc1, od1, .func (PySem.W.fnOf "is_word" "is_word" (defArgs s_is_word) (defBody s_is_word) (defScope s_is_word) .none kV1 dc1 pm1 an1 cd1 ct1), sl1⟩) (c1 : PySem.W.codeIn K cd1 "is_word" = true) (k1 : PySem.W.keepIn K (.ref f1) = true)
    (a2 : PySem.W.nsIn K mainGlobals "is_row" = some (some (.ref f2))) (l2 : K.lookup f2 = some ⟨oc2, od2, .func (PySem.W.fnOf "is_row" "is_row" (defArgs s_is_row) (defBody s_is_row) (defScope s_is_row) .none kV2 dc2 pm2 an2 cd2 ct2), sl2⟩) (c2 : PySem.W.codeIn K cd2 "is_row" = true) (k2 : PySem.W.keepIn K (.ref f2) = true)
    (a3 : PySem.W.nsIn K mainGlobals "_law_jar" = some (some (.ref f3))) (l3 : K.lookup f3 = some ⟨oc3, od3, .func (PySem.W.fnOf "_law_jar" "_law_jar" (defArgs s__law_jar) (defBody s__law_jar) (defScope s__law_jar) .none kV3 dc3 pm3 an3 cd3 ct3), sl3⟩) (c3 : PySem.W.codeIn K cd3 "_law_jar" = true) (k3 : PySem.W.keepIn K (.ref f3) = true)
    (a4 : PySem.W.nsIn K mainGlobals "_law_draw" = some (some (.ref f4))) (l4 : K.lookup f4 = some ⟨oc4, od4, .func (PySem.W.fnOf "_law_draw" "_law_draw" (defArgs s__law_draw) (defBody s__law_draw) (defScope s__law_draw) .none kV4 dc4 pm4 an4 cd4 ct4), sl4⟩) (c4 : PySem.W.codeIn K cd4 "_law_draw" = true) (k4 : PySem.W.keepIn K (.ref f4) = true)
    (a5 : PySem.W.nsIn K mainGlobals "_law_of" = some (some (.ref f5))) (l5 : K.lookup f5 = some ⟨oc5, od5, .func (PySem.W.fnOf "_law_of" "_law_of" (defArgs s__law_of) (defBody s__law_of) (defScope s__law_of) .none kV5 dc5 pm5 an5 cd5 ct5), sl5⟩) (c5 : PySem.W.codeIn K cd5 "_law_of" = true) (k5 : PySem.W.keepIn K (.ref f5) = true)
    (a6 : PySem.W.nsIn K mainGlobals "_law_same" = some (some (.ref f6))) (l6 : K.lookup f6 = some ⟨oc6, od6, .func (PySem.W.fnOf "_law_same" "_law_same" (defArgs s__law_same) (defBody s__law_same) (defScope s__law_same) .none kV6 dc6 pm6 an6 cd6 ct6), sl6⟩) (c6 : PySem.W.codeIn K cd6 "_law_same" = true) (k6 : PySem.W.keepIn K (.ref f6) = true)
    (a7 : PySem.W.nsIn K mainGlobals "_law_top" = some (some (.ref f7))) (l7 : K.lookup f7 = some ⟨oc7, od7, .func (PySem.W.fnOf "_law_top" "_law_top" (defArgs s__law_top) (defBody s__law_top) (defScope s__law_top) .none kV7 dc7 pm7 an7 cd7 ct7), sl7⟩) (c7 : PySem.W.codeIn K cd7 "_law_top" = true) (k7 : PySem.W.keepIn K (.ref f7) = true)
    (a8 : PySem.W.nsIn K mainGlobals "_law_is_whole" = some (some (.ref f8))) (l8 : K.lookup f8 = some ⟨oc8, od8, .func (PySem.W.fnOf "_law_is_whole" "_law_is_whole" (defArgs s__law_is_whole) (defBody s__law_is_whole) (defScope s__law_is_whole) .none kV8 dc8 pm8 an8 cd8 ct8), sl8⟩) (c8 : PySem.W.codeIn K cd8 "_law_is_whole" = true) (k8 : PySem.W.keepIn K (.ref f8) = true)
    (a9 : PySem.W.nsIn K mainGlobals "_law_odd" = some (some (.ref f9))) (l9 : K.lookup f9 = some ⟨oc9, od9, .func (PySem.W.fnOf "_law_odd" "_law_odd" (defArgs s__law_odd) (defBody s__law_odd) (defScope s__law_odd) .none kV9 dc9 pm9 an9 cd9 ct9), sl9⟩) (c9 : PySem.W.codeIn K cd9 "_law_odd" = true) (k9 : PySem.W.keepIn K (.ref f9) = true)
    (a10 : PySem.W.nsIn K mainGlobals "_law_bent" = some (some (.ref f10))) (l10 : K.lookup f10 = some ⟨oc10, od10, .func (PySem.W.fnOf "_law_bent" "_law_bent" (defArgs s__law_bent) (defBody s__law_bent) (defScope s__law_bent) .none kV10 dc10 pm10 an10 cd10 ct10), sl10⟩) (c10 : PySem.W.codeIn K cd10 "_law_bent" = true) (k10 : PySem.W.keepIn K (.ref f10) = true)
    (a11 : PySem.W.nsIn K mainGlobals "check_range" = some (some (.ref f11))) (l11 : K.lookup f11 = some ⟨oc11, od11, .func (PySem.W.fnOf "check_range" "check_range" (defArgs s_check_range) (defBody s_check_range) (defScope s_check_range) .none kV11 dc11 pm11 an11 cd11 ct11), sl11⟩) (c11 : PySem.W.codeIn K cd11 "check_range" = true) (k11 : PySem.W.keepIn K (.ref f11) = true)
    (a12 : PySem.W.nsIn K mainGlobals "prefixes_in" = some (some (.ref f12))) (l12 : K.lookup f12 = some ⟨oc12, od12, .func (PySem.W.fnOf "prefixes_in" "prefixes_in" (defArgs s_prefixes_in) (defBody s_prefixes_in) (defScope s_prefixes_in) .none kV12 dc12 pm12 an12 cd12 ct12), sl12⟩) (c12 : PySem.W.codeIn K cd12 "prefixes_in" = true) (k12 : PySem.W.keepIn K (.ref f12) = true)
    (a13 : PySem.W.nsIn K mainGlobals "_law_blocks" = some (some (.ref f13))) (l13 : K.lookup f13 = some ⟨oc13, od13, .func (PySem.W.fnOf "_law_blocks" "_law_blocks" (defArgs s__law_blocks) (defBody s__law_blocks) (defScope s__law_blocks) .none kV13 dc13 pm13 an13 cd13 ct13), sl13⟩) (c13 : PySem.W.codeIn K cd13 "_law_blocks" = true) (k13 : PySem.W.keepIn K (.ref f13) = true)
    (a14 : PySem.W.nsIn K mainGlobals "are_marks_of" = some (some (.ref f14))) (l14 : K.lookup f14 = some ⟨oc14, od14, .func (PySem.W.fnOf "are_marks_of" "are_marks_of" (defArgs s_are_marks_of) (defBody s_are_marks_of) (defScope s_are_marks_of) .none kV14 dc14 pm14 an14 cd14 ct14), sl14⟩) (c14 : PySem.W.codeIn K cd14 "are_marks_of" = true) (k14 : PySem.W.keepIn K (.ref f14) = true)
    (a15 : PySem.W.nsIn K mainGlobals "prefixes_of" = some (some (.ref f15))) (l15 : K.lookup f15 = some ⟨oc15, od15, .func (PySem.W.fnOf "prefixes_of" "prefixes_of" (defArgs s_prefixes_of) (defBody s_prefixes_of) (defScope s_prefixes_of) .none kV15 dc15 pm15 an15 cd15 ct15), sl15⟩) (c15 : PySem.W.codeIn K cd15 "prefixes_of" = true) (k15 : PySem.W.keepIn K (.ref f15) = true)
    (a16 : PySem.W.nsIn K mainGlobals "are_marks" = some (some (.ref f16))) (l16 : K.lookup f16 = some ⟨oc16, od16, .func (PySem.W.fnOf "are_marks" "are_marks" (defArgs s_are_marks) (defBody s_are_marks) (defScope s_are_marks) .none kV16 dc16 pm16 an16 cd16 ct16), sl16⟩) (c16 : PySem.W.codeIn K cd16 "are_marks" = true) (k16 : PySem.W.keepIn K (.ref f16) = true)
    (a17 : PySem.W.nsIn K mainGlobals "_law_are_marks" = some (some (.ref f17))) (l17 : K.lookup f17 = some ⟨oc17, od17, .func (PySem.W.fnOf "_law_are_marks" "_law_are_marks" (defArgs s__law_are_marks) (defBody s__law_are_marks) (defScope s__law_are_marks) .none kV17 dc17 pm17 an17 cd17 ct17), sl17⟩) (c17 : PySem.W.codeIn K cd17 "_law_are_marks" = true) (k17 : PySem.W.keepIn K (.ref f17) = true)
    (a18 : PySem.W.nsIn K mainGlobals "_law_fewest" = some (some (.ref f18))) (l18 : K.lookup f18 = some ⟨oc18, od18, .func (PySem.W.fnOf "_law_fewest" "_law_fewest" (defArgs s__law_fewest) (defBody s__law_fewest) (defScope s__law_fewest) .none kV18 dc18 pm18 an18 cd18 ct18), sl18⟩) (c18 : PySem.W.codeIn K cd18 "_law_fewest" = true) (k18 : PySem.W.keepIn K (.ref f18) = true)
    (a19 : PySem.W.nsIn K mainGlobals "_law_range" = some (some (.ref f19))) (l19 : K.lookup f19 = some ⟨oc19, od19, .func (PySem.W.fnOf "_law_range" "_law_range" (defArgs s__law_range) (defBody s__law_range) (defScope s__law_range) .none kV19 dc19 pm19 an19 cd19 ct19), sl19⟩) (c19 : PySem.W.codeIn K cd19 "_law_range" = true) (k19 : PySem.W.keepIn K (.ref f19) = true)
    (a20 : PySem.W.nsIn K mainGlobals "_law_things" = some (some (.ref f20))) (l20 : K.lookup f20 = some ⟨oc20, od20, .func (PySem.W.fnOf "_law_things" "_law_things" (defArgs s__law_things) (defBody s__law_things) (defScope s__law_things) .none kV20 dc20 pm20 an20 cd20 ct20), sl20⟩) (c20 : PySem.W.codeIn K cd20 "_law_things" = true) (k20 : PySem.W.keepIn K (.ref f20) = true)
    (a21 : PySem.W.nsIn K mainGlobals "_law_are_right" = some (some (.ref f21))) (l21 : K.lookup f21 = some ⟨oc21, od21, .func (PySem.W.fnOf "_law_are_right" "_law_are_right" (defArgs s__law_are_right) (defBody s__law_are_right) (defScope s__law_are_right) .none kV21 dc21 pm21 an21 cd21 ct21), sl21⟩) (c21 : PySem.W.codeIn K cd21 "_law_are_right" = true) (k21 : PySem.W.keepIn K (.ref f21) = true)
    (a22 : PySem.W.nsIn K mainGlobals "_law_right" = some (some (.ref f22))) (l22 : K.lookup f22 = some ⟨oc22, od22, .func (PySem.W.fnOf "_law_right" "_law_right" (defArgs s__law_right) (defBody s__law_right) (defScope s__law_right) .none kV22 dc22 pm22 an22 cd22 ct22), sl22⟩) (c22 : PySem.W.codeIn K cd22 "_law_right" = true) (k22 : PySem.W.keepIn K (.ref f22) = true)
    (a23 : PySem.W.nsIn K mainGlobals "law" = some (some (.ref f23))) (l23 : K.lookup f23 = some ⟨oc23, od23, .func (PySem.W.fnOf "law" "law" (defArgs s_law) (defBody s_law) (defScope s_law) .none kV23 dc23 pm23 an23 cd23 ct23), sl23⟩) (c23 : PySem.W.codeIn K cd23 "law" = true) (k23 : PySem.W.keepIn K (.ref f23) = true)
    (z_int : PySem.W.nsIn K mainGlobals "int" = some none)
    (z_abs : PySem.W.nsIn K mainGlobals "abs" = some none)
    (z_len : PySem.W.nsIn K mainGlobals "len" = some none)
    (z_divmod : PySem.W.nsIn K mainGlobals "divmod" = some none)
    (z_range : PySem.W.nsIn K mainGlobals "range" = some none)
    (z_tuple : PySem.W.nsIn K mainGlobals "tuple" = some none)
    (z_repr : PySem.W.nsIn K mainGlobals "repr" = some none)
    (z_all : PySem.W.nsIn K mainGlobals "all" = some none)
    (z_max : PySem.W.nsIn K mainGlobals "max" = some none)
    (z_min : PySem.W.nsIn K mainGlobals "min" = some none)
    (z_sum : PySem.W.nsIn K mainGlobals "sum" = some none)
    (z_zip : PySem.W.nsIn K mainGlobals "zip" = some none)
    (z_str : PySem.W.nsIn K mainGlobals "str" = some none)
    (z_list : PySem.W.nsIn K mainGlobals "list" = some none)
    (z_isinstance : PySem.W.nsIn K mainGlobals "isinstance" = some none)
    (z_bool : PySem.W.nsIn K mainGlobals "bool" = some none)
    (z_enumerate : PySem.W.nsIn K mainGlobals "enumerate" = some none)
    (z_sorted : PySem.W.nsIn K mainGlobals "sorted" = some none)
    (z_set : PySem.W.nsIn K mainGlobals "set" = some none)
    (y_ww : PySem.W.nsIn K mainGlobals "WORD_WIDTH" = some (some (.int 32 t_ww)))
    :
    ∃ fd : FuncData, (∀ (s : Shared) (v : Value), BindsTo s fd ⟨[v], []⟩ [("_law_script", v)]) ∧ ∀ base : Heap, K.In base → base.Ns mainGlobals mg → FnG l.prog w K mg base CX0 12 fa fd ["_law_script"] (spLaw K) := by
  have e := hfa.symm.trans (PySem.W.mg_of X G a23)
  cases e
  have F0 := fun_mk (st := s_is_number) l0 c0 k0
  have g0 := PySem.W.mg_of X G a0
  have b0 := F0.binds (ps := p_is_number) fun _ _ _ _ _ _ us hl => match us, hl with | [_, _, _], _ => rfl
  have F1 := fun_mk (st := s_is_word) l1 c1 k1
  have g1 := PySem.W.mg_of X G a1
  have b1 := F1.binds (ps := p_is_word) fun _ _ _ _ _ _ us hl => match us, hl with | [_, _], _ => rfl
  have F2 := fun_mk (st := s_is_row) l2 c2 k2
  have g2 := PySem.W.mg_of X G a2
  have b2 := F2.binds (ps := p_is_row) fun _ _ _ _ _ _ us hl => match us, hl with | [_, _, _], _ => rfl
  have F3 := fun_mk (st := s__law_jar) l3 c3 k3
  have g3 := PySem.W.mg_of X G a3
  have b3 := F3.binds (ps := p__law_jar) fun _ _ _ _ _ _ us hl => match us, hl with | [_, _], _ => rfl
  have F4 := fun_mk (st := s__law_draw) l4 c4 k4
  have g4 := PySem.W.mg_of X G a4
  have b4 := F4.binds (ps := p__law_draw) fun _ _ _ _ _ _ us hl => match us, hl with | [_, _], _ => rfl
  have F5 := fun_mk (st := s__law_of) l5 c5 k5
  have g5 := PySem.W.mg_of X G a5
  have b5 := F5.binds (ps := p__law_of) fun _ _ _ _ _ _ us hl => match us, hl with | [_, _], _ => rfl
  have F6 := fun_mk (st := s__law_same) l6 c6 k6
  have g6 := PySem.W.mg_of X G a6
  have b6 := F6.binds (ps := p__law_same) fun _ _ _ _ _ _ us hl => match us, hl with | [_, _], _ => rfl
  have F7 := fun_mk (st := s__law_top) l7 c7 k7
  have g7 := PySem.W.mg_of X G a7
  have b7 := F7.binds (ps := p__law_top) fun _ _ _ _ _ _ us hl => match us, hl with | [_], _ => rfl
  have F8 := fun_mk (st := s__law_is_whole) l8 c8 k8
  have g8 := PySem.W.mg_of X G a8
  have b8 := F8.binds (ps := p__law_is_whole) fun _ _ _ _ _ _ us hl => match us, hl with | [_, _, _], _ => rfl
  have F9 := fun_mk (st := s__law_odd) l9 c9 k9
  have g9 := PySem.W.mg_of X G a9
  have b9 := F9.binds (ps := p__law_odd) fun _ _ _ _ _ _ us hl => match us, hl with | [_], _ => rfl
  have F10 := fun_mk (st := s__law_bent) l10 c10 k10
  have g10 := PySem.W.mg_of X G a10
  have b10 := F10.binds (ps := p__law_bent) fun _ _ _ _ _ _ us hl => match us, hl with | [_, _, _], _ => rfl
  have F11 := fun_mk (st := s_check_range) l11 c11 k11
  have g11 := PySem.W.mg_of X G a11
  have b11 := F11.binds (ps := p_check_range) fun _ _ _ _ _ _ us hl => match us, hl with | [_, _, _], _ => rfl
  have F12 := fun_mk (st := s_prefixes_in) l12 c12 k12
  have g12 := PySem.W.mg_of X G a12
  have b12 := F12.binds (ps := p_prefixes_in) fun _ _ _ _ _ _ us hl => match us, hl with | [_, _, _], _ => rfl
  have F13 := fun_mk (st := s__law_blocks) l13 c13 k13
  have g13 := PySem.W.mg_of X G a13
  have b13 := F13.binds (ps := p__law_blocks) fun _ _ _ _ _ _ us hl => match us, hl with | [_, _, _], _ => rfl
  have F14 := fun_mk (st := s_are_marks_of) l14 c14 k14
  have g14 := PySem.W.mg_of X G a14
  have b14 := F14.binds (ps := p_are_marks_of) fun _ _ _ _ _ _ us hl => match us, hl with | [_, _, _, _], _ => rfl
  have F15 := fun_mk (st := s_prefixes_of) l15 c15 k15
  have g15 := PySem.W.mg_of X G a15
  have b15 := F15.binds (ps := p_prefixes_of) fun _ _ _ _ _ _ us hl => match us, hl with | [_, _, _], _ => rfl
  have F16 := fun_mk (st := s_are_marks) l16 c16 k16
  have g16 := PySem.W.mg_of X G a16
  have b16 := F16.binds (ps := p_are_marks) fun _ _ _ _ _ _ us hl => match us, hl with | [_, _, _, _], _ => rfl
  have F17 := fun_mk (st := s__law_are_marks) l17 c17 k17
  have g17 := PySem.W.mg_of X G a17
  have b17 := F17.binds (ps := p__law_are_marks) fun _ _ _ _ _ _ us hl => match us, hl with | [_, _, _, _], _ => rfl
  have F18 := fun_mk (st := s__law_fewest) l18 c18 k18
  have g18 := PySem.W.mg_of X G a18
  have b18 := F18.binds (ps := p__law_fewest) fun _ _ _ _ _ _ us hl => match us, hl with | [_, _, _], _ => rfl
  have F19 := fun_mk (st := s__law_range) l19 c19 k19
  have g19 := PySem.W.mg_of X G a19
  have b19 := F19.binds (ps := p__law_range) fun _ _ _ _ _ _ us hl => match us, hl with | [_, _], _ => rfl
  have F20 := fun_mk (st := s__law_things) l20 c20 k20
  have g20 := PySem.W.mg_of X G a20
  have b20 := F20.binds (ps := p__law_things) fun _ _ _ _ _ _ us hl => match us, hl with | [_, _, _, _], _ => rfl
  have F21 := fun_mk (st := s__law_are_right) l21 c21 k21
  have g21 := PySem.W.mg_of X G a21
  have b21 := F21.binds (ps := p__law_are_right) fun _ _ _ _ _ _ us hl => match us, hl with | [_, _, _, _], _ => rfl
  have F22 := fun_mk (st := s__law_right) l22 c22 k22
  have g22 := PySem.W.mg_of X G a22
  have b22 := F22.binds (ps := p__law_right) fun _ _ _ _ _ _ us hl => match us, hl with | [_], _ => rfl
  have F23 := fun_mk (st := s_law) l23 c23 k23
  have g23 := PySem.W.mg_of X G a23
  have B : Blt mg := ⟨PySem.W.mg_none_of X G z_int, PySem.W.mg_none_of X G z_abs, PySem.W.mg_none_of X G z_len, PySem.W.mg_none_of X G z_divmod, PySem.W.mg_none_of X G z_range, PySem.W.mg_none_of X G z_tuple, PySem.W.mg_none_of X G z_repr, PySem.W.mg_none_of X G z_all, PySem.W.mg_none_of X G z_max, PySem.W.mg_none_of X G z_min, PySem.W.mg_none_of X G z_sum, PySem.W.mg_none_of X G z_zip, PySem.W.mg_none_of X G z_str, PySem.W.mg_none_of X G z_list, PySem.W.mg_none_of X G z_isinstance, PySem.W.mg_none_of X G z_bool, PySem.W.mg_none_of X G z_enumerate, PySem.W.mg_none_of X G z_sorted, PySem.W.mg_none_of X G z_set⟩
  have C : CstQ K w mg := ⟨⟨.int 32, ⟨_, PySem.W.mg_of X G y_ww, ⟨_, rfl⟩⟩, fun b H => .int _⟩⟩
  refine ⟨PySem.W.fnOf "law" "law" (defArgs s_law) (defBody s_law) (defScope s_law) .none kV23 dc23 pm23 an23 cd23 ct23, fun s v => .of_eq rfl, fun base _ _ => ?_⟩
  have nP := Fun_kbnG (ps := p_prefixes_of) (ks := ["high", "low", "width"]) vRev3 F15 fun _ _ _ _ _ _ ws hl => match ws, hl with | [_, _, _], _ => rfl
  have nA := Fun_kbnG (ps := p_are_marks) (ks := ["value", "high", "low", "width"]) vRev4 F16 fun _ _ _ _ _ _ ws hl => match ws, hl with | [_, _, _, _], _ => rfl
  have D4 : DK l.prog w K mg base 1 "_law_draw" s__law_draw p__law_draw _ f4 _ := ⟨F4, b4, g4, ok_draw F4 B⟩
  have D5 : DK l.prog w K mg base 2 "_law_of" s__law_of p__law_of _ f5 _ := ⟨F5, b5, g5, ok_of F5 B D4⟩
  have D7 : DK l.prog w K mg base 1 "_law_top" s__law_top p__law_top _ f7 _ := ⟨F7, b7, g7, ok_top F7 B⟩
  have D19 : DK l.prog w K mg base 3 "_law_range" s__law_range p__law_range _ f19 _ := ⟨F19, b19, g19, ok_range F19 B D5 D4 D7⟩
  have D13 : DK l.prog w K mg base 1 "_law_blocks" s__law_blocks p__law_blocks _ f13 _ := ⟨F13, b13, g13, ok_lawblocks F13 B⟩
  have D0 : DK l.prog w K mg base 1 "is_number" s_is_number p_is_number _ f0 _ := ⟨F0, b0, g0, ok_number F0 B⟩
  have D1 : DK l.prog w K mg base 1 "is_word" s_is_word p_is_word _ f1 _ := ⟨F1, b1, g1, ok_word F1 B⟩
  have D11 : DK l.prog w K mg base 2 "check_range" s_check_range p_check_range _ f11 _ := ⟨F11, b11, g11, ok_chk F11 C D0 D1⟩
  have D12 : DK l.prog w K mg base 1 "prefixes_in" s_prefixes_in p_prefixes_in _ f12 _ := ⟨F12, b12, g12, ok_prefin F12 B⟩
  have D15 : DK l.prog w K mg base 3 "prefixes_of" s_prefixes_of p_prefixes_of _ f15 _ := ⟨F15, b15, g15, ok_prefof F15 D11 D12⟩
  have D6 : DK l.prog w K mg base 1 "_law_same" s__law_same p__law_same _ f6 _ := ⟨F6, b6, g6, ok_same F6 B⟩
  have D9 : DK l.prog w K mg base 3 "_law_odd" s__law_odd p__law_odd _ f9 _ := ⟨F9, b9, g9, ok_odd F9 B D5⟩
  have D10 : DK l.prog w K mg base 8 "_law_bent" s__law_bent p__law_bent _ f10 _ := ⟨F10, b10, g10, ok_bent F10 B D4 D9 b10 g10⟩
  have D20 : DK l.prog w K mg base 9 "_law_things" s__law_things p__law_things _ f20 _ := ⟨F20, b20, g20, ok_things F20 B D13 D4 D7 D10 D9⟩
  have D8 : DK l.prog w K mg base 1 "_law_is_whole" s__law_is_whole p__law_is_whole _ f8 _ := ⟨F8, b8, g8, ok_whole F8 B⟩
  have D17 : DK l.prog w K mg base 2 "_law_are_marks" s__law_are_marks p__law_are_marks _ f17 _ := ⟨F17, b17, g17, ok_lawmarks F17 B D8⟩
  have D2 : DK l.prog w K mg base 1 "is_row" s_is_row p_is_row _ f2 _ := ⟨F2, b2, g2, ok_row F2 B⟩
  have D14 : DK l.prog w K mg base 2 "are_marks_of" s_are_marks_of p_are_marks_of _ f14 _ := ⟨F14, b14, g14, ok_marksof F14 B D0 D2 D12⟩
  have D16 : DK l.prog w K mg base 3 "are_marks" s_are_marks p_are_marks _ f16 _ := ⟨F16, b16, g16, ok_aremarks F16 D11 D14⟩
  have D21 : DK l.prog w K mg base 10 "_law_are_right" s__law_are_right p__law_are_right _ f21 _ := ⟨F21, b21, g21, ok_areright F21 B D13 D15 D6 D20 D17 D16 nP nA⟩
  have D18 : DK l.prog w K mg base 2 "_law_fewest" s__law_fewest p__law_fewest _ f18 _ := ⟨F18, b18, g18, ok_few F18 B D7⟩
  have D22 : DK l.prog w K mg base 11 "_law_right" s__law_right p__law_right _ f22 _ := ⟨F22, b22, g22, ok_right F22 B D4 D19 D21 D15 D18⟩
  exact ok_law F23 B F22 b22 g22 D22.G F3 b3 g3
end
end LQ
open PySem PySem.W PyProof.Rows in
set_option maxRecDepth 100000 in
set_option maxHeartbeats 0 in
theorem PySem.Challenge.cw_switchstages_k30_whole_fewest_prefixes_a_holds : PySem.Challenge.rw_switchstages_k30_whole_fewest_prefixes_a.Holds := by
  w_on; o_law; k_head; (case hw => w_witness2)
  k_fill
  refine GuL.walkG (l := PySem.Challenge.rw_switchstages_k30_whole_fewest_prefixes_a) (n := 63) (k := 12) (x := "_law_script") (sp := LQ.spLaw) rfl (by decide) rfl ⟨rfl, by decide, by decide⟩ (fun w h Y => PySem.W.kIn_of Y) ?F (fun K H a ns hl _ hS => ⟨a, ns, rfl, hS, hl, fun _ => rfl⟩)
  case F =>
    intro w mg fa h KX G hmg
    refine' LQ.all_mk KX G hmg ?a0 ?l0 ?c0 ?k0 ?a1 ?l1 ?c1 ?k1 ?a2 ?l2 ?c2 ?k2 ?a3 ?l3 ?c3 ?k3 ?a4 ?l4 ?c4 ?k4 ?a5 ?l5 ?c5 ?k5 ?a6 ?l6 ?c6 ?k6 ?a7 ?l7 ?c7 ?k7 ?a8 ?l8 ?c8 ?k8 ?a9 ?l9 ?c9 ?k9 ?a10 ?l10 ?c10 ?k10 ?a11 ?l11 ?c11 ?k11 ?a12 ?l12 ?c12 ?k12 ?a13 ?l13 ?c13 ?k13 ?a14 ?l14 ?c14 ?k14 ?a15 ?l15 ?c15 ?k15 ?a16 ?l16 ?c16 ?k16 ?a17 ?l17 ?c17 ?k17 ?a18 ?l18 ?c18 ?k18 ?a19 ?l19 ?c19 ?k19 ?a20 ?l20 ?c20 ?k20 ?a21 ?l21 ?c21 ?k21 ?a22 ?l22 ?c22 ?k22 ?a23 ?l23 ?c23 ?k23 ?z_int ?z_abs ?z_len ?z_divmod ?z_range ?z_tuple ?z_repr ?z_all ?z_max ?z_min ?z_sum ?z_zip ?z_str ?z_list ?z_isinstance ?z_bool ?z_enumerate ?z_sorted ?z_set ?y_ww
    (case a0 => k_is)
    (case l0 => k_is)
    (case c0 => k_is)
    (case k0 => k_is)
    (case a1 => k_is)
    (case l1 => k_is)
    (case c1 => k_is)
    (case k1 => k_is)
    (case a2 => k_is)
    (case l2 => k_is)
    (case c2 => k_is)
    (case k2 => k_is)
    (case a3 => k_is)
    (case l3 => k_is)
    (case c3 => k_is)
    (case k3 => k_is)
    (case a4 => k_is)
    (case l4 => k_is)
    (case c4 => k_is)
    (case k4 => k_is)
    (case a5 => k_is)
    (case l5 => k_is)
    (case c5 => k_is)
    (case k5 => k_is)
    (case a6 => k_is)
    (case l6 => k_is)
    (case c6 => k_is)
    (case k6 => k_is)
    (case a7 => k_is)
    (case l7 => k_is)
    (case c7 => k_is)
    (case k7 => k_is)
    (case a8 => k_is)
    (case l8 => k_is)
    (case c8 => k_is)
    (case k8 => k_is)
    (case a9 => k_is)
    (case l9 => k_is)
    (case c9 => k_is)
    (case k9 => k_is)
    (case a10 => k_is)
    (case l10 => k_is)
    (case c10 => k_is)
    (case k10 => k_is)
    (case a11 => k_is)
    (case l11 => k_is)
    (case c11 => k_is)
    (case k11 => k_is)
    (case a12 => k_is)
    (case l12 => k_is)
    (case c12 => k_is)
    (case k12 => k_is)
    (case a13 => k_is)
    (case l13 => k_is)
    (case c13 => k_is)
    (case k13 => k_is)
    (case a14 => k_is)
    (case l14 => k_is)
    (case c14 => k_is)
    (case k14 => k_is)
    (case a15 => k_is)
    (case l15 => k_is)
    (case c15 => k_is)
    (case k15 => k_is)
    (case a16 => k_is)
    (case l16 => k_is)
    (case c16 => k_is)
    (case k16 => k_is)
    (case a17 => k_is)
    (case l17 => k_is)
    (case c17 => k_is)
    (case k17 => k_is)
    (case a18 => k_is)
    (case l18 => k_is)
    (case c18 => k_is)
    (case k18 => k_is)
    (case a19 => k_is)
    (case l19 => k_is)
    (case c19 => k_is)
    (case k19 => k_is)
    (case a20 => k_is)
    (case l20 => k_is)
    (case c20 => k_is)
    (case k20 => k_is)
    (case a21 => k_is)
    (case l21 => k_is)
    (case c21 => k_is)
    (case k21 => k_is)
    (case a22 => k_is)
    (case l22 => k_is)
    (case c22 => k_is)
    (case k22 => k_is)
    (case a23 => k_is)
    (case l23 => k_is)
    (case c23 => k_is)
    (case k23 => k_is)
    (case z_int => k_is)
    (case z_abs => k_is)
    (case z_len => k_is)
    (case z_divmod => k_is)
    (case z_range => k_is)
    (case z_tuple => k_is)
    (case z_repr => k_is)
    (case z_all => k_is)
    (case z_max => k_is)
    (case z_min => k_is)
    (case z_sum => k_is)
    (case z_zip => k_is)
    (case z_str => k_is)
    (case z_list => k_is)
    (case z_isinstance => k_is)
    (case z_bool => k_is)
    (case z_enumerate => k_is)
    (case z_sorted => k_is)
    (case z_set => k_is)
    (case y_ww => k_is)

