import PyProof.Rows.All
import Wide.All
import OpenK.AllK
import Wide.FinOn
import HandS.ForMost
import HandS.Flow
import PyProof.ReprRoads
import PyProof.CallFns
import HandS.Walk
import HandS.Evl
import HandS.TupAny
import HandS.TupMul
import HandS.WideBits
import HandS.RevRange
import PyProof.ReprLen
import PyProof.StrLawsRepr
import HandS.IsInst
import HandS.More
import KE.GoesEnum
import KE.GoesMore
import HandS.Zip
import HandS.Defaults
import PyProof.EqLayable
import PyProof.Rows.BitMore
import HandS.StrMore
import HandS.Wide
import HandS.HeadHook1
import HandS.Exc
import HandS.ExcInit
import KE.KExcInit
import KE.KExcIs
import HandS.ExcValue
import PySem.Challenge.RW_switchstages_k25_whole_hits_by_own_looks
set_option Elab.async false
set_option linter.all false
set_option maxRecDepth 100000
set_option maxHeartbeats 4000000
namespace GuL
open PySem PySem.Spec PyProof.Rows L2
/-! ### a def whose promise holds where no repr is under way -/
structure FnG (P : Program) (w : World) (K : PySem.W.Frag) (mg : Str → Option Value) (base : Heap) (CX : CXT) (k : Nat) (f : Addr) (fd : FuncData) (ps : List Str) (sp : Sp) : Prop where
  len : ∀ vs H Q E, sp vs H Q E → vs.length = ps.length
  go : ∀ (A : Around) (outer : List Env) (s : Shared) (H : Hp) (as : Args) (us : List Value) (vs : List V) (Q : VK) (E : XK), A.guards = some [] → Room k A → Env0 P w K mg base A outer s H → BindsTo s fd as (ps.zip us) →
    Vals vs us → sp vs H Q E → codeAny (model P w) A (.call (.ref f) as) (CR CX outer P w H s Q E) s
theorem FnG.of {P : Program} {w : World} {K : PySem.W.Frag} {mg : Str → Option Value} {base : Heap} {CX : CXT} {k : Nat} {f : Addr} {fd : FuncData} {ps : List Str} {sp : Sp} (F : FnOk P w K mg base CX k f fd ps sp) : FnG P w K mg base CX k f fd ps sp :=
  ⟨F.len, fun A outer s H as us vs Q E _ => F.run A outer s H as us vs Q E⟩
section
variable {X : Cx} {CX : CXT} {k : Nat} {f : Addr} {fd : FuncData} {ps : List Str} {sp : Sp} {dvs : List V} {ds : List Value} {E : XK} {x : Str} {p pos : Pos} {e : Expr} {es : List Expr} {t : TA}
theorem runG {pins : List (Addr × Obj)} {σ : L2.St} {H : Hp} {s : Shared} {Q : VK} {us : List Value} {vs : List V} (F : FnG X.prog X.w X.K X.mg X.base CX k f fd ps sp) (hA : X.A.guards = some []) (hr : Room k X.A) (hb : Binds X.K fd ps ds) (hd : Vals dvs ds) (hx : Passes CX X E)
    (I : L2.Inv X pins σ H s) (r : Vals vs us) (h : sp (vs ++ dvs) H Q E) : wpAny (model X.prog X.w) X.A (call (.ref f) us) (EP X pins σ Q) X.xe s := by
  have q2 : Vals (vs ++ dvs) (us ++ ds) := r.append hd
  have ql : (us ++ ds).length = ps.length := q2.length.symm.trans (F.len _ _ _ _ h)
  have go := F.go X.A X.stack s H ⟨us, []⟩ (us ++ ds) (vs ++ dvs) Q E hA hr I.env0 (hb s us I.kIn ql) q2 h
  refine wpAny_call (codeAny_mono go fun rr s' hq => ?_)
  match rr, hq with
  | .error e, hq => exact hx pins σ H s e s' I hq
  | .ok (.ret u), hq => exact I.after hq
theorem pe_callG (F : FnG X.prog X.w X.K X.mg X.base CX k f fd ps sp) (hA : X.A.guards = some []) (hr : Room k X.A) (hg : Gl X x) (hm : X.mg x = some (.ref f)) (hk : PySem.W.keepIn X.K (.ref f) = true) (hb : Binds X.K fd ps ds) (hd : Vals dvs ds) (hx : Passes CX X E) (ha : PA X (e :: es) t)
    (hdb : (x == ("__debug__" : Str)) = false := by decide) (he : starEach (e :: es) X.env = (false, eval e X.env) :: starEach es X.env := by rfl) (hpl : (backTo pos (starEach es X.env)).any (·.1) = false := by rfl) :
    PE X (.Call (.Name x p) (e :: es) [] pos) (tCall sp dvs E t) :=
  ⟨fun pins s σ H Q I h => wpAny_Call_Name_kw (ld_glob I hg hm (PySem.W.callWith_K (h₀ := X.base) I.ok.mod.kin hk (thn (ha.run pos pins s σ H _ I h) fun us s1 hh => by
    obtain ⟨vs, H1, I1, r, q⟩ := hh
    exact ⟨I1.kIn, runG F hA hr hb hd hx I1 r q⟩) he hpl) hdb)⟩
end
/-- the rule for such a def -/
theorem okG {P : Program} {w : World} {K : PySem.W.Frag} {mg : Str → Option Value} {base : Heap} {x qual : Str} {st : Stmt} {f : Addr} {fd : FuncData} {N ps : List Str} {k : Nat} {sp : Sp} (F : Fun K x qual st f fd) (S : FnScope N ps (defScope st)) (len : ∀ vs H Q E, sp vs H Q E → vs.length = ps.length)
    (body : ∀ (cdv : Value) (A : Around) (outer : List Env) (s : Shared) (H : Hp) (vs : List V) (Q : VK) (E : XK), A.guards = some [] → Room k (A.deeper (envOfC qual (defScope st) s.heap.objs.size f cdv)) → sp vs H Q E →
      ∃ t, PSs (cxOf CX0 P w K mg base N qual (defScope st) f cdv A outer s H E).nox (defBody st) t ∧ t { nx := fun _ H' => Q .non H', rt := Q } (start N vs) H) : FnG P w K mg base CX0 (k + 1) f fd ps sp := by
  obtain ⟨oc, od, kV, doc, pm, an, cdv, ct, osl, rfl, lk, hcd⟩ := F.ex
  constructor
  · exact len
  intro A outer s H as us vs Q E hA hr e0 hb r hsp
  have kin : K.In s.heap := e0.mod.kin.keeps fun b o e => (e0.bs b o e).1
  have noL : s.heap.NoLimit := e0.mod.nolimit.keeps fun b o e => (e0.bs b o e).1
  have kinds : ∀ y ∈ ps.zip us, (defScope st).names.lookup y.1 = some .local ∨ ((defScope st).names.lookup y.1 = some .cell ∧ ((cellsFrom (s.heap.objs.size + 1) (defScope st).names []).lookup y.1).isSome = true) := by
    rintro ⟨n, v⟩ hy
    cases S.par n (List.of_mem_zip hy).1 with
    | inl q => exact .inl q
    | inr q => exact .inr ⟨q, PySem.W.cellsFrom_some _ _ _ (.inl q)⟩
  refine codeAny_call_function hr.depth (kin _ _ lk) rfl S.co S.gen rfl (PySem.W.codeRec_of kin hcd) (hb _ _ _ _ (wpAny_newFunctionEnv_cells S.kind kinds fun env he s1 z => ?_))
  subst he
  refine ⟨noL.keeps z.toInCall.keep, codeAny_func ?_⟩
  obtain ⟨t, ht, hq⟩ := body cdv A outer s H vs Q E hA (hr.deeper _) hsp
  have J := inv_start (E := E) (CX := CX0) (P := P) (w := w) S hr.hd e0 (len _ _ _ _ hsp) r z
  refine wpAny_mono (ht.nox.run [] s1 (start N vs) H _ J hq) (fun fl s' hs => ?_) fun e s' hs => hs
  match fl, hs with
  | .ret u, hs =>
    obtain ⟨v, σ', H', J2, rv, q⟩ := hs
    exact ⟨v, H', J2.os, J2.bare, J2.base, J2.hok, rv, q⟩
  | .next, hs =>
    obtain ⟨σ', H', J2, q⟩ := hs
    exact ⟨.non, H', J2.os, J2.bare, J2.base, J2.hok, rfl, q⟩
  | .brk, hs =>
    obtain ⟨_, _, _, q⟩ := hs
    exact q.elim
  | .cont, hs =>
    obtain ⟨_, _, _, q⟩ := hs
    exact q.elim
/-! ### repr of data -/
/-- v is shown as z -/
inductive Shd (K : PySem.W.Frag) (H : Hp) : V → PyData → Prop where
  | dat {v : V} {d : PyData} (h : Dp K H v d) (n : d.hasDict = false) : Shd K H v d
  | emp {a : Addr} (h : H a = some (.dK [])) : Shd K H (.ref a) (.dict [])
def rRepr (K : PySem.W.Frag) : List V → Hp → VK → Prop := fun xs H Q => ∃ (v : V) (d : PyData), xs = [v] ∧ Shd K H v d ∧ d.showable = true ∧ d.depth ≤ 40 ∧ d.shown.length ≤ sizeLine ∧ Q (.str d.shown) H
theorem call_repr {X : Cx} (hA : X.A.guards = some []) (hu : X.A.units + 64 < cLine) : CallR X (.builtin "repr") (rRepr X.K) := by
  intro pins s σ H xs us Q I r h
  obtain ⟨v, d, rfl, hd, hs, hp, hz, q⟩ := h
  obtain ⟨u, rfl, ru⟩ := vals1 r
  have rd : ∃ as, Reads s.heap u d as ∧ (d.hasDict = true → sysModules ∉ as) := by
    cases hd with
    | dat h n =>
      obtain ⟨as, q⟩ := Dp.reads I d v u h ru
      exact ⟨as, q, fun e => by rw [n] at e; cases e⟩
    | @emp a h =>
      obtain rfl : u = Value.ref a := ru
      obtain ⟨_, hsys, vs, kv, o, es, ep, h1, h2, h3, h4⟩ := (show ObjOk X.prog X.w H s.heap a (.dK []) from I.hok a _ h)
      cases kv
      have he : es.toList = [] := by
        have h5 := h4.2.1
        revert h5
        generalize es.toList = l
        intro h5
        cases h5
        rfl
      refine ⟨a :: [] ++ [], Reads.dict h1 h2.1 h3 (by rw [he]; exact .nil) (by rw [he]; exact .nil), fun _ m => ?_⟩
      have e : sysModules = a := by simpa using m
      rw [e] at hsys
      simp at hsys
  obtain ⟨as, rd, hsm⟩ := rd
  cases v with
  | ref a =>
    obtain rfl : u = Value.ref a := ru
    exact repr_of_reads' rd hs hsm hA (by omega) (fun _ _ e => e) (fun h' u' tk k => ⟨.str d.shown, H, I.kept (t' := tk) k, ⟨u', rfl⟩, q⟩) hz
  | non =>
    obtain rfl : u = Value.none := ru
    cases rd
    exact PySem.P.repr_of_none ⟨.str _, H, I.tok _, ⟨_, rfl⟩, q⟩
  | bl b =>
    obtain rfl : u = Value.bool b := ru
    cases rd
    exact PySem.P.repr_of_bool ⟨.str _, H, I.tok _, ⟨_, rfl⟩, q⟩
  | int i =>
    obtain ⟨t, rfl⟩ := ru
    cases rd
    exact PySem.P.repr_of_int (of_decide_eq_true hs) ⟨.str _, H, I.tok _, ⟨_, rfl⟩, q⟩
  | str z =>
    obtain ⟨t, rfl⟩ := ru
    cases rd
    exact PySem.P.repr_of_str ⟨.str _, H, I.tok _, ⟨_, rfl⟩, q⟩ hz
  | byt b =>
    obtain ⟨t, rfl⟩ := ru
    cases rd
  | flt b =>
    obtain ⟨t, rfl⟩ := ru
    cases rd
  | ty n =>
    obtain rfl : u = Value.type n := ru
    cases rd
/-! ### the end of a law -/
section
variable {P : Program} {w : World} {K : PySem.W.Frag} {mg mb : Str → Option Value} {CX : CXT} {k : Nat} {fa a : Addr} {fd : FuncData} {x : Str} {sp : Sp} {s₁ : Shared} {vs : List Value} {ns : List Int}
/-- what a law's call leaves -/
abbrev Done (s₁ : Shared) (r : Result) (s' : Shared) : Prop := r = .ok (.ret (.bool true)) ∧ OldK s₁.heap s'.heap ∧ s'.os = s₁.os ∧ AllBare s'.gens
/-- the heap of what is tracked holds the script at a, or nothing -/
structure Scr (P : Program) (w : World) (K : PySem.W.Frag) (h : Heap) (a : Addr) (obj : Obj) (ns : List Int) (H : Hp) : Prop where
  only : Only H
  seq : SqL K H a (ns.map V.int)
  hok : HOk P w H h
  at_ : ∀ b, H b ≠ none → b = a
  nk : H a ≠ none → K.lookup a = none
theorem law_core {H : Hp} (KX : K.In s₁.heap) (hns : s₁.heap.Ns mainGlobals mg) (hb : s₁.heap.Ns builtinsNs mb) (hbb : ∀ x : Str, x ≠ "__name__" → mb x = bootBuiltins x) (hlim : s₁.heap.NoLimit) (hg : s₁.gens = #[])
    (ha : s₁.heap.get? a = some { cls := .type "list", data := .seq vs.toArray }) (hr : Room k callerA) (S : Scr P w K s₁.heap a { cls := .type "list", data := .seq vs.toArray } ns H)
    (F : ∀ base : Heap, K.In base → base.Ns mainGlobals mg → FnG P w K mg base CX k fa fd [x] sp) (hbind : ∀ (s : Shared) (u : Value), BindsTo s fd ⟨[u], []⟩ [(x, u)])
    (hsp : sp [.ref a] H (fun v _ => v = .bl true) fun _ _ _ => False) (hCX : ∀ e s', CX [] H s₁ (fun _ _ _ => False) e s' → False) :
    codeAny (model P w) callerA (.call (.ref fa) ⟨[.ref a], []⟩) (Done s₁) s₁ := by
  have free : ∀ {b : Addr} {o : Obj}, s₁.heap.get? b = some o → b ≠ a → H b = none := fun {b o} _ n => by
    by_cases z : H b = none
    · exact z
    · exact (n (S.at_ b z)).elim
  have hid : ∀ {b : Addr} {o : Obj}, s₁.heap.get? b = some o → H b = none → (hidT s₁.heap H).get? b = some o := hidT_get
  have dict : ∀ {b : Addr} {m : Str → Option Value}, s₁.heap.Ns b m → (hidT s₁.heap H).Ns b m := by
    rintro b m ⟨o, es, ep, e, dt, rr⟩
    refine ⟨o, es, ep, hid e (free e fun z => ?_), dt, rr⟩
    subst z
    rw [ha] at e
    cases e
    exact nomatch (show Data.seq vs.toArray _ = Data.dict es ep from dt)
  have kin : K.In (hidT s₁.heap H) := fun b o e => by
    refine hid (KX b o e) ?_
    by_cases z : H b = none
    · exact z
    · have eb := S.at_ b z
      subst eb
      have q := S.nk z
      rw [e] at q
      cases q
  have M : Mod K mg (hidT s₁.heap H) := by
    obtain ⟨mc, l1, l2⟩ := hlim
    exact ⟨kin, dict hns, ⟨mb, dict hb, hbb⟩, ⟨mc, dict l1, l2⟩⟩
  have none0 : ∀ b : Addr, b ∉ ([] : List Addr) := fun b z => nomatch z
  have e0 : Env0 P w K mg (hidT s₁.heap H) callerA [] s₁ H := ⟨rfl, M, fun b o e => of_hidT e, Nat.le_of_eq (hidT_size _ _), trivial, fun b z => (none0 b z).elim, S.hok, .of_eq hg⟩
  have go := (F _ kin (dict hns)).go callerA [] s₁ H ⟨[.ref a], []⟩ [.ref a] [.ref a] _ _ rfl hr e0 (hbind s₁ (.ref a)) (.cons rfl .nil) hsp
  refine codeAny_mono go fun r s' h => ?_
  match r, h with
  | .error e, h => exact (hCX e s' h).elim
  | .ok (.ret u), h =>
    obtain ⟨v, H', os, bare, un, hok', rv, q⟩ := h
    have ev : v = .bl true := q
    subst ev
    have eu : u = Value.bool true := rv
    subst eu
    refine ⟨rfl, OldK.of_keep fun b o e => ?_, os, bare⟩
    by_cases z : H b = none
    · exact un.keep b o e z (none0 b) (none0 b)
    · rcases S.only b with y | ⟨ob, xs, y⟩
      · exact (z y).elim
      · obtain ⟨e1, _⟩ := S.hok b _ y
        obtain ⟨e2, _⟩ := hok' b _ (un.frzs b ob _ y)
        rw [e] at e1
        cases e1
        exact e2
theorem law_callG (KX : K.In s₁.heap) (hns : s₁.heap.Ns mainGlobals mg) (hb : s₁.heap.Ns builtinsNs mb) (hbb : ∀ x : Str, x ≠ "__name__" → mb x = bootBuiltins x) (hlim : s₁.heap.NoLimit) (hg : s₁.gens = #[])
    (ha : s₁.heap.get? a = some { cls := .type "list", data := .seq vs.toArray }) (hi : IntsAre vs ns) (hl : ns.length ≤ sizeLine) (hr : Room k callerA)
    (F : ∀ base : Heap, K.In base → base.Ns mainGlobals mg → FnG P w K mg base CX k fa fd [x] sp) (hbind : ∀ (s : Shared) (u : Value), BindsTo s fd ⟨[u], []⟩ [(x, u)])
    (hsp : ∀ H : Hp, Only H → SqL K H a (ns.map V.int) → sp [.ref a] H (fun v _ => v = .bl true) fun _ _ _ => False)
    (hCX : ∀ H e s', CX [] H s₁ (fun _ _ _ => False) e s' → False) :
    codeAny (model P w) callerA (.call (.ref fa) ⟨[.ref a], []⟩) (Done s₁) s₁ := by
  have rv := vals_ints hi
  have lv := hi.length
  have key : ∃ H, Scr P w K s₁.heap a { cls := .type "list", data := .seq vs.toArray } ns H := by
    by_cases hk : K.lookup a = none
    · have at0 : ∀ {b : Addr} {u : HO}, (if b = a then some (HO.frz { cls := .type "list", data := .seq vs.toArray } (.lst (ns.map V.int))) else none) = some u → b = a ∧ u = HO.frz { cls := .type "list", data := .seq vs.toArray } (.lst (ns.map V.int)) := fun {b u} z => by
        by_cases e : b = a
        · rw [if_pos e] at z
          exact ⟨e, (Option.some.inj z).symm⟩
        · rw [if_neg e] at z
          cases z
      refine ⟨fun b => if b = a then some (.frz { cls := .type "list", data := .seq vs.toArray } (.lst (ns.map V.int))) else none, ⟨fun b => ?_, ?_, fun b u z => ?_, fun b z => ?_, fun _ => hk⟩⟩
      · by_cases e : b = a
        · right
          exact ⟨_, _, if_pos e⟩
        · left
          exact if_neg e
      · left
        right
        exact ⟨_, if_pos rfl⟩
      · obtain ⟨rfl, rfl⟩ := at0 z
        exact ⟨ha, by rw [List.length_map]; exact hl, vs, _, rv, ha⟩
      · by_cases e : b = a
        · exact e
        · exact (z (if_neg e)).elim
    · obtain ⟨o, ho⟩ := Option.ne_none_iff_exists'.mp hk
      have e := KX a o ho
      rw [ha] at e
      cases e
      refine ⟨fun _ => none, ⟨fun _ => .inl rfl, ?_, fun b u z => (nomatch z), fun b z => (z rfl).elim, fun z => (z rfl).elim⟩⟩
      right
      exact ⟨_, vs.toArray, _, ho, rfl, rfl, rfl, by rw [List.size_toArray, lv]; exact hl, by simpa using rv⟩
  obtain ⟨H, S⟩ := key
  exact law_core KX hns hb hbb hlim hg ha hr S F hbind (hsp H S.only S.seq) (hCX H)
end
theorem walkG {l : PySem.W.OpenLaw} {n k : Nat} {q : Program} {loose : List Str} {XP : (Str → Option Value) → Heap → Prop} {YP : World → Heap → Prop} {d : DefRec} {K : Params → PySem.W.Frag} {sp : PySem.W.Frag → Sp} {x : Str}
    (hn : l.most = some n) (hn2 : n ≤ sizeLine) (hdf : d.params.defaults = []) (hr : Room k callerA) (hY : ∀ (w : World) (h : Heap), YP w h → (K w.params).In h)
    (F : ∀ (w : World) (mg : Str → Option Value) (fa : Addr) (h : Heap), (K w.params).In h → h.Ns mainGlobals mg → mg d.name = some (.ref fa) →
      ∃ fd : FuncData, (∀ (s : Shared) (u : Value), BindsTo s fd ⟨[u], []⟩ [(x, u)]) ∧ ∀ base : Heap, (K w.params).In base → base.Ns mainGlobals mg → FnG l.prog w (K w.params) mg base CX0 k fa fd [x] (sp (K w.params)))
    (hsp : ∀ (K : PySem.W.Frag) (H : Hp) (a : Addr) (ns : List Int), ns.length ≤ n → Only H → SqL K H a (ns.map V.int) → sp K [.ref a] H (fun v _ => v = .bl true) fun _ _ _ => False) :
    PySem.W.WalkO q loose XP YP l.row.toRowW d [] (fun f vs => PySem.call f vs) := by
  refine Att.attach_call hn hdf fun w s₀ s₁ mg mb fa o pm cd doc a vs ns G Y ho hd hcd hmg hobj hints hlen hg => ?_
  obtain ⟨fd, hb, hF⟩ := F w mg fa _ (hY w _ Y) G.T.g hmg
  exact law_callG (hY w _ Y) G.T.g G.T.b G.T.builtins G.T.nolimit hg hobj hints (Nat.le_trans hlen hn2) hr hF hb (fun H h2 h3 => hsp _ H a ns hlen h2 h3) fun H e s' z => z
end GuL

namespace HG
open PySem PySem.Spec PyProof.Rows L2 GuL
/-! ### heaps -/
/-- all that was tracked is as it was, but b -/
def Exb (b : Addr) (H H' : Hp) : Prop := ∀ p u, p ≠ b → H p = some u → H' p = some u
theorem Exb.refl (b : Addr) (H : Hp) : Exb b H H := fun _ _ _ h => h
theorem Exb.trans {b : Addr} {H H1 H2 : Hp} (a : Exb b H H1) (c : Exb b H1 H2) : Exb b H H2 := fun p u n h => c p u n (a p u n h)
theorem Exb.of {b : Addr} {H H' : Hp} (a : Same H H') : Exb b H H' := fun p u _ h => a p u h
theorem Exb.put {b : Addr} {H : Hp} {o : HO} : Exb b H (upd H b o) := fun p u n h => by
  rw [upd_ne n]
  exact h
theorem Exb.fresh {b D : Addr} {H H' : Hp} (a : Exb b H H') (n : D ≠ b) (h : H' D = none) : H D = none := by
  cases q : H D with
  | none => rfl
  | some u =>
    rw [a D u n q] at h
    cases h
theorem Exb.mut {b D : Addr} {H H' : Hp} {o : HO} (a : Exb b H H') (h : H D = none) : Exb b H (upd H' D o) := fun p u n q => by
  rw [upd_ne (ne_of_none q h)]
  exact a p u n q
theorem same_new {H : Hp} {p : Addr} {o : HO} (h : H p = none) : Same H (upd H p o) := fun b x e => by
  rw [upd_ne (ne_of_none e h)]
  exact e
/-- the bowl -/
def bw (o m c : Int) : HO := .lst [.int o, .int m, .int c]
theorem cutV_mem {xs : List V} {lo hi : Option Int} {x : V} (h : x ∈ cutV xs lo hi) : x ∈ xs := by
  unfold cutV at h
  exact List.mem_of_mem_drop (List.mem_of_mem_take h)
theorem int_of_mem {ns : List Int} {y : V} (h : y ∈ ns.map V.int) : ∃ z, y = V.int z := by
  obtain ⟨z, _, e⟩ := List.mem_map.mp h
  exact ⟨z, e.symm⟩
theorem getI {ns : List Int} {t : Int} (h0 : 0 ≤ t) (h1 : t < ((ns.map V.int).length : Int)) : ∃ z, atI (ns.map V.int) t = some (V.int z) := by
  obtain ⟨j, rfl⟩ := Int.eq_ofNat_of_zero_le h0
  have hj : j < ns.length := by
    rw [List.length_map] at h1
    omega
  refine ⟨ns[j], atI_nat ?_⟩
  rw [List.getElem?_map, List.getElem?_eq_getElem hj]
  rfl
theorem sqT_exb {K : PySem.W.Frag} {b t : Addr} {H H' : Hp} {xs : List V} (e : Exb b H H') (n : t ≠ b) (h : SqT K H t xs) : SqT K H' t xs := by
  rcases h with (h | ⟨o, h⟩) | h
  · exact .inl (.inl (e _ _ n h))
  · exact .inl (.inr ⟨o, e _ _ n h⟩)
  · exact .inr h
structure Okd (d : PyData) : Prop where
  sh : d.showable = true
  dp : d.depth ≤ 40
  lv : d.leavesShort 13 = true
  wt : d.weight ≤ 2 ^ 20
theorem Okd.fits {d : PyData} (h : Okd d) : d.shown.length ≤ sizeLine := PyData.shown_fits (B := 13) (by decide) (by decide) h.lv h.wt
theorem log_small {n : Nat} (h : n < 2 ^ 40) : n.log2 < 40 := by
  by_cases z : n = 0
  · rw [z]; decide
  · exact (Nat.log2_lt z).mpr h
theorem okd_int {r : Int} (h0 : -100 ≤ r) (h1 : r < 5000000000) : Okd (.int r) := by
  have a : r.natAbs < 10 ^ 12 := by omega
  have l : r.natAbs.log2 < 40 := log_small (show r.natAbs < 2 ^ 40 by omega)
  refine ⟨?_, by simp [PyData.depth], ?_, ?_⟩
  · simp only [PyData.showable, decide_eq_true_eq]
    omega
  · simp only [PyData.leavesShort, decide_eq_true_eq]
    exact PyData.shown_int_le a
  · simp only [PyData.weight]
    split <;> omega
theorem okd_ints : ∀ {rs : List Int}, rs.length ≤ 100 → (∀ r ∈ rs, 0 ≤ r ∧ r < 5000000000) → Okd (.tuple (rs.map .int)) := fun {rs} hl h => by
  have key : ∀ l : List Int, (∀ r ∈ l, 0 ≤ r ∧ r < 5000000000) → PyData.showableAll (l.map .int) = true ∧ PyData.depthAll (l.map .int) = 0 ∧ PyData.leavesShortAll 13 (l.map .int) = true ∧ PyData.weightAll (l.map .int) ≤ 50 * l.length := by
    intro l
    induction l with
    | nil => intro _; exact ⟨rfl, rfl, rfl, Nat.le_refl _⟩
    | cons r l ih =>
      intro h
      obtain ⟨i1, i2, i3, i4⟩ := ih fun x hx => h x (List.mem_cons_of_mem _ hx)
      obtain ⟨r0, r1⟩ := h r List.mem_cons_self
      have o := okd_int (r := r) (by omega) r1
      have l40 : r.natAbs.log2 < 40 := log_small (show r.natAbs < 2 ^ 40 by omega)
      refine ⟨?_, ?_, ?_, ?_⟩
      · simp only [List.map_cons, PyData.showableAll, o.sh, i1, Bool.and_self]
      · simp only [List.map_cons, PyData.depthAll, i2, PyData.depth]
        rfl
      · simp only [List.map_cons, PyData.leavesShortAll, o.lv, i3, Bool.and_self]
      · have e : PyData.weight (.int r) ≤ 41 := by
          simp only [PyData.weight]
          split <;> omega
        simp only [List.map_cons, PyData.weightAll, List.length_cons]
        omega
  obtain ⟨i1, i2, i3, i4⟩ := key rs h
  exact ⟨by simp only [PyData.showable, i1], by simp only [PyData.depth, i2]; decide, by simp only [PyData.leavesShort, i3], by simp only [PyData.weight]; omega⟩
theorem okd_str {z : Str} (hl : z.length ≤ 1000) (h : ∀ c ∈ z.cps.toList, c < 16 ^ 8) : Okd (.str z) := by
  refine ⟨rfl, by simp [PyData.depth], ?_, ?_⟩
  · simp only [PyData.leavesShort, List.all_eq_true, decide_eq_true_eq]
    exact h
  · simp only [PyData.weight]
    have e : z.cps.size = z.length := rfl
    omega
theorem sameT {K : PySem.W.Frag} {H H' : Hp} {a : Addr} {xs : List V} (e : Same H H') (h : SqT K H a xs) : SqT K H' a xs := by
  rcases h with (h | ⟨o, h⟩) | h
  · exact .inl (.inl (e _ _ h))
  · exact .inl (.inr ⟨o, e _ _ h⟩)
  · exact .inr h
mutual
theorem dpSame {K : PySem.W.Frag} {H H' : Hp} (e : Same H H') : ∀ {v : V} {d : PyData}, Dp K H v d → Dp K H' v d
  | _, _, .non => .non
  | _, _, .bl b => .bl b
  | _, _, .int i => .int i
  | _, _, .str x => .str x
  | _, _, .lst h r => .lst (e.seq h) (dpSameAll e r)
  | _, _, .tup h r => .tup (sameT e h) (dpSameAll e r)
theorem dpSameAll {K : PySem.W.Frag} {H H' : Hp} (e : Same H H') : ∀ {vs : List V} {ds : List PyData}, DpAll K H vs ds → DpAll K H' vs ds
  | _, _, .nil => .nil
  | _, _, .cons h r => .cons (dpSame e h) (dpSameAll e r)
end
theorem shdSame {K : PySem.W.Frag} {H H' : Hp} (e : Same H H') {v : V} {d : PyData} : Shd K H v d → Shd K H' v d
  | .dat h n => .dat (dpSame e h) n
  | .emp h => .emp (e _ _ h)
theorem dp_ints {K : PySem.W.Frag} {H : Hp} : ∀ ys : List Int, DpAll K H (ys.map V.int) (ys.map PyData.int)
  | [] => .nil
  | y :: ys => .cons (.int y) (dp_ints ys)
theorem same_exb {H H1 H2 : Hp} {p : Addr} (s : Same H H1) (n : H p = none) (e : Exb p H1 H2) : Same H H2 := fun b o h => e b o (ne_of_none h n) (s b o h)
/-! ### data told by the value -/
theorem dp_str {K : PySem.W.Frag} {H : Hp} {v : V} {z : Str} (h : Dp K H v (.str z)) : v = .str z := by
  cases h
  rfl
theorem dp_int {K : PySem.W.Frag} {H : Hp} {v : V} {i : Int} (h : Dp K H v (.int i)) : v = .int i := by
  cases h
  rfl
theorem dp_tup {K : PySem.W.Frag} {H : Hp} {v : V} {ds : List PyData} (h : Dp K H v (.tuple ds)) : ∃ a xs, v = .ref a ∧ SqT K H a xs ∧ DpAll K H xs ds := by
  cases h with
  | tup h1 h2 => exact ⟨_, _, rfl, h1, h2⟩
theorem dpAll_len {K : PySem.W.Frag} {H : Hp} : ∀ {xs : List V} {ds : List PyData}, DpAll K H xs ds → xs.length = ds.length
  | _, _, .nil => rfl
  | _, _, .cons _ r => by rw [List.length_cons, List.length_cons, dpAll_len r]
theorem dpAll_get {K : PySem.W.Frag} {H : Hp} : ∀ {xs : List V} {ds : List PyData} {i : Nat} {d : PyData}, DpAll K H xs ds → ds[i]? = some d → ∃ x, xs[i]? = some x ∧ Dp K H x d
  | _, _, 0, d, .cons h _, e => by
    simp at e
    subst e
    exact ⟨_, rfl, h⟩
  | _, _, i + 1, d, .cons _ r, e => by
    obtain ⟨x, q1, q2⟩ := dpAll_get (i := i) r (by simpa using e)
    exact ⟨x, by simpa using q1, q2⟩
theorem dpAll_at {K : PySem.W.Frag} {H : Hp} : ∀ {xs : List V} {ds : List PyData} {i : Nat} {x : V}, DpAll K H xs ds → xs[i]? = some x → ∃ d, ds[i]? = some d ∧ Dp K H x d
  | _, _, 0, x, .cons h _, e => by
    simp at e
    subst e
    exact ⟨_, rfl, h⟩
  | _, _, i + 1, x, .cons _ r, e => by
    obtain ⟨d, q1, q2⟩ := dpAll_at (i := i) r (by simpa using e)
    exact ⟨d, by simpa using q1, q2⟩
theorem dpAll_snoc {K : PySem.W.Frag} {H : Hp} {x : V} {d : PyData} (h : Dp K H x d) : ∀ {xs : List V} {ds : List PyData}, DpAll K H xs ds → DpAll K H (xs ++ [x]) (ds ++ [d])
  | _, _, .nil => .cons h .nil
  | _, _, .cons a r => .cons a (dpAll_snoc h r)
theorem dpAll_strs {K : PySem.W.Frag} {H : Hp} : ∀ zs : List Str, DpAll K H (zs.map V.str) (zs.map PyData.str)
  | [] => .nil
  | z :: zs => .cons (.str z) (dpAll_strs zs)
theorem dpAll_strs_inv {K : PySem.W.Frag} {H : Hp} : ∀ {xs : List V} {zs : List Str}, DpAll K H xs (zs.map PyData.str) → xs = zs.map V.str
  | _, [], .nil => rfl
  | _, z :: zs, .cons h r => by rw [dp_str h, dpAll_strs_inv r]; rfl
theorem dpAll_ints_inv {K : PySem.W.Frag} {H : Hp} : ∀ {xs : List V} {zs : List Int}, DpAll K H xs (zs.map PyData.int) → xs = zs.map V.int
  | _, [], .nil => rfl
  | _, z :: zs, .cons h r => by rw [dp_int h, dpAll_ints_inv r]; rfl
/-! ### what stands at tuples and lists alone stays, whatever becomes of the jar: data of tuples -/
/-- no list within -/
inductive NoL : PyData → Prop
  | non : NoL .none
  | bl (b : Bool) : NoL (.bool b)
  | int (i : Int) : NoL (.int i)
  | str (z : Str) : NoL (.str z)
  | tup {ds : List PyData} : (∀ d ∈ ds, NoL d) → NoL (.tuple ds)
mutual
theorem dpExb {K : PySem.W.Frag} {b : Addr} {H H' : Hp} {xs0 : List V} (hb : H b = some (.lst xs0)) (e : Exb b H H') : ∀ {v : V} {d : PyData}, NoL d → Dp K H v d → Dp K H' v d
  | _, _, _, .non => .non
  | _, _, _, .bl b => .bl b
  | _, _, _, .int i => .int i
  | _, _, _, .str x => .str x
  | _, _, n, .lst _ _ => nomatch n
  | _, _, .tup n, .tup (a := a) h r => .tup (by
      rcases h with (h | ⟨o, h⟩) | h
      · exact .inl (.inl (e _ _ (fun z => by rw [z, hb] at h; cases h) h))
      · exact .inl (.inr ⟨o, e _ _ (fun z => by rw [z, hb] at h; cases h) h⟩)
      · exact .inr h) (dpExbAll hb e n r)
theorem dpExbAll {K : PySem.W.Frag} {b : Addr} {H H' : Hp} {xs0 : List V} (hb : H b = some (.lst xs0)) (e : Exb b H H') : ∀ {vs : List V} {ds : List PyData}, (∀ d ∈ ds, NoL d) → DpAll K H vs ds → DpAll K H' vs ds
  | _, _, _, .nil => .nil
  | _, _, n, .cons h r => .cons (dpExb hb e (n _ List.mem_cons_self) h) (dpExbAll hb e (fun d hd => n d (List.mem_cons_of_mem _ hd)) r)
end
end HG

namespace DL
open PySem PySem.Spec PyProof.Rows L2 GuL HG
/-! ### data told by a value, none of whose lists stands at b -/
mutual
inductive Dt (K : PySem.W.Frag) (b : Addr) (H : Hp) : V → PyData → Prop
  | non : Dt K b H .non .none
  | bl (c : Bool) : Dt K b H (.bl c) (.bool c)
  | int (i : Int) : Dt K b H (.int i) (.int i)
  | str (x : Str) : Dt K b H (.str x) (.str x)
  | lst {a : Addr} {xs : List V} {ds : List PyData} : SqL K H a xs → a ≠ b → Dts K b H xs ds → Dt K b H (.ref a) (.list ds)
  | tup {a : Addr} {xs : List V} {ds : List PyData} : SqT K H a xs → Dts K b H xs ds → Dt K b H (.ref a) (.tuple ds)
inductive Dts (K : PySem.W.Frag) (b : Addr) (H : Hp) : List V → List PyData → Prop
  | nil : Dts K b H [] []
  | cons {v : V} {vs : List V} {d : PyData} {ds : List PyData} : Dt K b H v d → Dts K b H vs ds → Dts K b H (v :: vs) (d :: ds)
end
/-- the jar at b -/
def Jar (b : Addr) (H : Hp) : Prop := ∃ o m c, H b = some (bw o m c) ∧ 0 ≤ o
/-- what may have become of the heap: without j nothing tracked is changed; with j the jar alone -/
def Stp (b : Addr) (j : Bool) (H H' : Hp) : Prop := (∀ p u, (j = true → p ≠ b) → H p = some u → H' p = some u) ∧ (j = true → Jar b H → Jar b H')
def Kn (b : Addr) (j : Bool) (H : Hp) : Prop := (∃ u, H b = some u) ∧ (j = true → Jar b H)
section
variable {K : PySem.W.Frag} {b : Addr} {j : Bool} {H H1 H2 H' : Hp} {p : Addr} {v : V} {d : PyData} {vs xs : List V} {ds : List PyData}
theorem Stp.refl : Stp b j H H := ⟨fun _ _ _ h => h, fun _ h => h⟩
theorem Stp.trans (a : Stp b j H H1) (c : Stp b j H1 H2) : Stp b j H H2 := ⟨fun p u n h => c.1 p u n (a.1 p u n h), fun e h => c.2 e (a.2 e h)⟩
theorem Kn.step (k : Kn b j H) (s : Stp b j H H') : Kn b j H' := by
  cases j with
  | false =>
    obtain ⟨⟨u, h⟩, _⟩ := k
    exact ⟨⟨u, s.1 b u (fun e => nomatch e) h⟩, fun e => nomatch e⟩
  | true =>
    obtain ⟨o, m, c, h1, h2⟩ := s.2 rfl (k.2 rfl)
    exact ⟨⟨_, h1⟩, fun _ => ⟨o, m, c, h1, h2⟩⟩
theorem Jar.same (s : Same H H') (h : Jar b H) : Jar b H' := by
  obtain ⟨o, m, c, h1, h2⟩ := h
  exact ⟨o, m, c, s _ _ h1, h2⟩
theorem Stp.same (s : Same H H') : Stp b j H H' := ⟨fun p u _ h => s p u h, fun _ h => h.same s⟩
theorem Stp.pure (s : Stp b false H H') : Same H H' := fun p u h => s.1 p u (fun e => nomatch e) h
theorem Kn.pure (k : Kn b j H) : Kn b false H := ⟨k.1, fun e => nomatch e⟩
theorem Stp.of (s : Stp b false H H') : Stp b j H H' := Stp.same s.pure
theorem Stp.new {o : HO} (h : H p = none) : Stp b j H (upd H p o) := Stp.same (same_new h)
theorem Kn.ne (k : Kn b j H) (h : H p = none) : p ≠ b := fun e => by
  obtain ⟨⟨u, q⟩, _⟩ := k
  rw [e, q] at h
  cases h
theorem Stp.free (k : Kn b j H) (s : Stp b j H H') (h : H' p = none) : H p = none := by
  cases q : H p with
  | none => rfl
  | some u =>
    rw [s.1 p u (fun _ => (k.step s).ne h) q] at h
    cases h
theorem Stp.mut {o : HO} (k : Kn b j H) (s : Stp b j H H') (h : H p = none) : Stp b j H (upd H' p o) := by
  refine ⟨fun q u n e => ?_, fun e h' => ?_⟩
  · rw [upd_ne (ne_of_none e h)]
    exact s.1 q u n e
  · obtain ⟨o1, m, c, h1, h2⟩ := s.2 e h'
    refine ⟨o1, m, c, ?_, h2⟩
    rw [upd_ne (fun z => k.ne h z.symm)]
    exact h1
theorem Stp.jb (e : j = true) (k : Kn b j H) (n : H p = some (.tup xs)) : p ≠ b := fun z => by
  obtain ⟨o, m, c, h1, _⟩ := k.2 e
  rw [z, h1] at n
  cases n
theorem sqT_stp (k : Kn b j H) (s : Stp b j H H') (h : SqT K H p xs) : SqT K H' p xs := by
  have nb : j = true → ∀ u, H p = some u → (∀ ys, u ≠ .lst ys) → p ≠ b := fun e u h1 h2 z => by
    obtain ⟨o, m, c, h3, _⟩ := k.2 e
    rw [z, h3] at h1
    cases h1
    exact h2 _ rfl
  rcases h with (h | ⟨o, h⟩) | h
  · exact .inl (.inl (s.1 _ _ (fun e => nb e _ h fun _ q => nomatch q) h))
  · exact .inl (.inr ⟨o, s.1 _ _ (fun e => nb e _ h fun _ q => nomatch q) h⟩)
  · exact .inr h
theorem sqL_stp (s : Stp b j H H') (n : p ≠ b) (h : SqL K H p xs) : SqL K H' p xs := by
  rcases h with (h | ⟨o, h⟩) | h
  · exact .inl (.inl (s.1 _ _ (fun _ => n) h))
  · exact .inl (.inr ⟨o, s.1 _ _ (fun _ => n) h⟩)
  · exact .inr h
mutual
theorem Dt.stp (k : Kn b j H) (s : Stp b j H H') : ∀ {v : V} {d : PyData}, Dt K b H v d → Dt K b H' v d
  | _, _, .non => .non
  | _, _, .bl c => .bl c
  | _, _, .int i => .int i
  | _, _, .str x => .str x
  | _, _, .lst h n r => .lst (sqL_stp s n h) n (Dts.stp k s r)
  | _, _, .tup h r => .tup (sqT_stp k s h) (Dts.stp k s r)
theorem Dts.stp (k : Kn b j H) (s : Stp b j H H') : ∀ {vs : List V} {ds : List PyData}, Dts K b H vs ds → Dts K b H' vs ds
  | _, _, .nil => .nil
  | _, _, .cons h r => .cons (Dt.stp k s h) (Dts.stp k s r)
end
mutual
theorem Dt.dp : ∀ {v : V} {d : PyData}, Dt K b H v d → Dp K H v d
  | _, _, .non => .non
  | _, _, .bl c => .bl c
  | _, _, .int i => .int i
  | _, _, .str x => .str x
  | _, _, .lst h _ r => .lst h (Dts.dp r)
  | _, _, .tup h r => .tup h (Dts.dp r)
theorem Dts.dp : ∀ {vs : List V} {ds : List PyData}, Dts K b H vs ds → DpAll K H vs ds
  | _, _, .nil => .nil
  | _, _, .cons h r => .cons (Dt.dp h) (Dts.dp r)
end
mutual
theorem Dt.of : ∀ {v : V} {d : PyData}, NoL d → Dp K H v d → Dt K b H v d
  | _, _, _, .non => .non
  | _, _, _, .bl c => .bl c
  | _, _, _, .int i => .int i
  | _, _, _, .str x => .str x
  | _, _, n, .lst _ _ => nomatch n
  | _, _, .tup n, .tup h r => .tup h (Dts.of n r)
theorem Dts.of : ∀ {vs : List V} {ds : List PyData}, (∀ d ∈ ds, NoL d) → DpAll K H vs ds → Dts K b H vs ds
  | _, _, _, .nil => .nil
  | _, _, n, .cons h r => .cons (Dt.of (n _ List.mem_cons_self) h) (Dts.of (fun d hd => n d (List.mem_cons_of_mem _ hd)) r)
end
theorem Dts.len : ∀ {vs : List V} {ds : List PyData}, Dts K b H vs ds → vs.length = ds.length
  | _, _, .nil => rfl
  | _, _, .cons _ r => by rw [List.length_cons, List.length_cons, Dts.len r]
theorem Dts.get : ∀ {xs : List V} {ds : List PyData} {i : Nat} {d : PyData}, Dts K b H xs ds → ds[i]? = some d → ∃ x, xs[i]? = some x ∧ Dt K b H x d
  | _, _, 0, d, .cons h _, e => by
    simp at e
    subst e
    exact ⟨_, rfl, h⟩
  | _, _, i + 1, d, .cons _ r, e => by
    obtain ⟨x, q1, q2⟩ := Dts.get (i := i) r (by simpa using e)
    exact ⟨x, by simpa using q1, q2⟩
theorem Dts.at : ∀ {xs : List V} {ds : List PyData} {i : Nat} {x : V}, Dts K b H xs ds → xs[i]? = some x → ∃ d, ds[i]? = some d ∧ Dt K b H x d
  | _, _, 0, x, .cons h _, e => by
    simp at e
    subst e
    exact ⟨_, rfl, h⟩
  | _, _, i + 1, x, .cons _ r, e => by
    obtain ⟨d, q1, q2⟩ := Dts.at (i := i) r (by simpa using e)
    exact ⟨d, by simpa using q1, q2⟩
theorem Dts.app : ∀ {xs ys : List V} {ds es : List PyData}, Dts K b H xs ds → Dts K b H ys es → Dts K b H (xs ++ ys) (ds ++ es)
  | _, _, _, _, .nil, h => h
  | _, _, _, _, .cons a r, h => .cons a (Dts.app r h)
theorem Dts.drop : ∀ {xs : List V} {ds : List PyData} (n : Nat), Dts K b H xs ds → Dts K b H (xs.drop n) (ds.drop n)
  | _, _, 0, h => h
  | _, _, _ + 1, .nil => .nil
  | _, _, n + 1, .cons _ r => Dts.drop n r
theorem Dts.take : ∀ {xs : List V} {ds : List PyData} (n : Nat), Dts K b H xs ds → Dts K b H (xs.take n) (ds.take n)
  | _, _, 0, _ => .nil
  | _, _, _ + 1, .nil => .nil
  | _, _, n + 1, .cons h r => .cons h (Dts.take n r)
theorem Dts.snoc (h : Dts K b H xs ds) (a : Dt K b H v d) : Dts K b H (xs ++ [v]) (ds ++ [d]) := h.app (.cons a .nil)
end
/-! ### the slots -/
inductive SV where
  | nil
  | dat (d : PyData)
  | par (d : PyData)
  | own (ds : List PyData)
  | frz (p : Addr) (ds : List PyData)
  | jar
/-- what a slot holds: data; data of the entry; a list of its own; a list that stands still for a while; the jar -/
def SOk (K : PySem.W.Frag) (b : Addr) (H0 G H : Hp) (v : Option V) : SV → Prop
  | .nil => True
  | .dat d => ∃ x, v = some x ∧ Dt K b H x d ∧ NoL d
  | .par d => ∃ x, v = some x ∧ Dt K b H0 x d
  | .own ds => ∃ p xs, v = some (.ref p) ∧ H p = some (.lst xs) ∧ Dts K b H xs ds ∧ (∀ d ∈ ds, NoL d) ∧ G p = none ∧ p ≠ b
  | .frz p ds => ∃ xs, v = some (.ref p) ∧ G p = some (.lst xs) ∧ Dts K b H xs ds ∧ (∀ d ∈ ds, NoL d) ∧ p ≠ b
  | .jar => v = some (.ref b)
structure Rel (K : PySem.W.Frag) (b : Addr) (j : Bool) (H0 G : Hp) (σ : L2.St) (H : Hp) (ρ : List SV) : Prop where
  len : σ.length = ρ.length
  kn : Kn b j H0
  sg : Stp b j H0 G
  st : Stp b j G H
  sl : ∀ (i : Nat) (s : SV), ρ[i]? = some s → SOk K b H0 G H (σ[i]?.join) s
  dis : ∀ (i k : Nat) (ds ds' : List PyData) (p : Addr), i ≠ k → ρ[i]? = some (.own ds) → ρ[k]? = some (.own ds') → σ[i]? = some (some (.ref p)) → σ[k]? ≠ some (some (.ref p))
section
variable {K : PySem.W.Frag} {b : Addr} {j : Bool} {H0 G H H1 H' : Hp} {σ : L2.St} {ρ : List SV}
theorem Rel.knG (r : Rel K b j H0 G σ H ρ) : Kn b j G := r.kn.step r.sg
theorem Rel.knH (r : Rel K b j H0 G σ H ρ) : Kn b j H := r.knG.step r.st
theorem Rel.s0 (r : Rel K b j H0 G σ H ρ) : Stp b j H0 H := r.sg.trans r.st
theorem SOk.stp {v : Option V} {s : SV} (k : Kn b j H) (st : Stp b j H H') (h : SOk K b H0 G H v s) : SOk K b H0 G H' v s := by
  cases s with
  | nil => exact True.intro
  | dat d =>
    obtain ⟨x, e, h1, h2⟩ := h
    exact ⟨x, e, h1.stp k st, h2⟩
  | par d => exact h
  | own ds =>
    obtain ⟨p, xs, e, h1, h2, h3, h4, h5⟩ := h
    exact ⟨p, xs, e, st.1 _ _ (fun _ => h5) h1, h2.stp k st, h3, h4, h5⟩
  | frz p ds =>
    obtain ⟨xs, e, h1, h2, h3, h4⟩ := h
    exact ⟨xs, e, h1, h2.stp k st, h3, h4⟩
  | jar => exact h
theorem Rel.step (r : Rel K b j H0 G σ H ρ) (s : Stp b j H H') : Rel K b j H0 G σ H' ρ :=
  ⟨r.len, r.kn, r.sg, r.st.trans s, fun i v h => (r.sl i v h).stp r.knH s, r.dis⟩
/-- an own list's place is none of the earlier heap's -/
theorem Rel.own_at (r : Rel K b j H0 G σ H ρ) {i : Nat} {ds : List PyData} (h : ρ[i]? = some (.own ds)) : ∃ p xs, σ[i]? = some (some (.ref p)) ∧ H p = some (.lst xs) ∧ Dts K b H xs ds ∧ (∀ d ∈ ds, NoL d) ∧ G p = none ∧ p ≠ b := by
  obtain ⟨p, xs, e, h1⟩ := r.sl i _ h
  refine ⟨p, xs, ?_, h1⟩
  cases q : σ[i]? with
  | none => rw [q] at e; cases e
  | some y =>
    rw [q] at e
    have e' : y = some (.ref p) := e
    rw [e']
/-- a slot gets data -/
theorem Rel.set {i : Nat} {x : V} {s : SV} (r : Rel K b j H0 G σ H ρ) (h : SOk K b H0 G H (some x) s) (n : ∀ ds, s = .own ds → ∀ (k : Nat) (ds' : List PyData) (p : Addr), k ≠ i → ρ[k]? = some (.own ds') → x = .ref p → σ[k]? ≠ some (some (.ref p))) : Rel K b j H0 G (σ.set i (some x)) H (ρ.set i s) := by
  refine ⟨by rw [List.length_set, List.length_set, r.len], r.kn, r.sg, r.st, fun k s' e => ?_, fun k l ds ds' p nk e1 e2 e3 => ?_⟩
  · rw [List.getElem?_set] at e ⊢
    split at e
    · rename_i c
      rw [if_pos c]
      split at e
      · rename_i c2
        cases e
        rw [if_pos (by rw [r.len]; exact c2)]
        exact h
      · cases e
    · rename_i c
      rw [if_neg c]
      exact r.sl k s' e
  · rw [List.getElem?_set] at e1 e2 e3 ⊢
    by_cases c1 : i = k
    · have c2 : i ≠ l := fun z => nk (c1.symm.trans z)
      rw [if_pos c1] at e1 e3
      rw [if_neg c2] at e2 ⊢
      split at e1
      · cases e1
        split at e3
        · cases e3
          exact n _ rfl l ds' p (fun z => c2 z.symm) e2 rfl
        · cases e3
      · cases e1
    · rw [if_neg c1] at e1 e3
      by_cases c2 : i = l
      · rw [if_pos c2] at e2 ⊢
        split at e2
        · cases e2
          rename_i c3
          rw [if_pos (by rw [r.len]; exact c3)]
          intro z
          cases z
          exact n _ rfl k ds p (fun z => c1 z.symm) e1 rfl e3
        · cases e2
      · rw [if_neg c2] at e2 ⊢
        exact r.dis k l ds ds' p nk e1 e2 e3
theorem Rel.setD {i : Nat} {x : V} {d : PyData} (r : Rel K b j H0 G σ H ρ) (h : Dt K b H x d) (n : NoL d) : Rel K b j H0 G (σ.set i (some x)) H (ρ.set i (.dat d)) :=
  r.set ⟨x, rfl, h, n⟩ fun _ e => nomatch e
/-- fewer things are known -/
theorem Rel.forget {i : Nat} (r : Rel K b j H0 G σ H ρ) : Rel K b j H0 G σ H (ρ.set i .nil) := by
  refine ⟨by rw [List.length_set, r.len], r.kn, r.sg, r.st, fun k s' e => ?_, fun k l ds ds' p nk e1 e2 e3 => ?_⟩
  · rw [List.getElem?_set] at e
    split at e
    · split at e
      · cases e; exact True.intro
      · cases e
    · exact r.sl k s' e
  · rw [List.getElem?_set] at e1 e2
    split at e1
    · split at e1 <;> cases e1
    · split at e2
      · split at e2 <;> cases e2
      · exact r.dis k l ds ds' p nk e1 e2 e3
end
end DL

namespace DL
open PySem PySem.Spec PyProof.Rows L2 GuL HG
/-! ### readings by data alone -/
abbrev DTE := List SV → (PyData → Prop) → Prop
abbrev DTA := List SV → (List PyData → Prop) → Prop
abbrev DTT := List SV → (Bool → Prop) → Prop
def LE (K : PySem.W.Frag) (b : Addr) (j : Bool) (t : DTE) : TE := fun σ H Q => ∃ ρ H0 G, Rel K b j H0 G σ H ρ ∧ t ρ fun d => ∀ v H', Stp b j H H' → Dt K b H' v d → Q v H'
def LA (K : PySem.W.Frag) (b : Addr) (j : Bool) (t : DTA) : TA := fun σ H Q => ∃ ρ H0 G, Rel K b j H0 G σ H ρ ∧ t ρ fun ds => ∀ vs H', Stp b j H H' → Dts K b H' vs ds → Q vs H'
def LT (K : PySem.W.Frag) (b : Addr) (j : Bool) (t : DTT) : TT := fun σ H Q => ∃ ρ H0 G, Rel K b j H0 G σ H ρ ∧ t ρ fun c => ∀ H', Stp b j H H' → Q c H'
/-- a new list -/
def LL (K : PySem.W.Frag) (b : Addr) (j : Bool) (t : DTA) : TE := fun σ H Q => ∃ ρ H0 G, Rel K b j H0 G σ H ρ ∧ t ρ fun ds => ∀ p xs H', Stp b j H H' → H p = none → H' p = some (.lst xs) → Dts K b H' xs ds → Q (.ref p) H'
structure DE (X : Cx) (b : Addr) (j : Bool) (e : Expr) (t : DTE) : Prop where
  pe : PE X e (LE X.K b j t)
  mo : ∀ ρ (Q Q' : PyData → Prop), (∀ d, Q d → Q' d) → t ρ Q → t ρ Q'
structure DA (X : Cx) (b : Addr) (j : Bool) (es : List Expr) (t : DTA) : Prop where
  pa : PA X es (LA X.K b j t)
  mo : ∀ ρ (Q Q' : List PyData → Prop), (∀ d, Q d → Q' d) → t ρ Q → t ρ Q'
structure DT (X : Cx) (b : Addr) (j : Bool) (e : Expr) (t : DTT) : Prop where
  pt : PT X e (LT X.K b j t)
  mo : ∀ ρ (Q Q' : Bool → Prop), (∀ d, Q d → Q' d) → t ρ Q → t ρ Q'
structure DW (X : Cx) (b : Addr) (j : Bool) (e : Expr) (t : DTT) : Prop where
  pw : PW X e (LT X.K b j t)
  mo : ∀ ρ (Q Q' : Bool → Prop), (∀ d, Q d → Q' d) → t ρ Q → t ρ Q'
structure DN (X : Cx) (b : Addr) (j : Bool) (e : Expr) (t : DTA) : Prop where
  pe : PE X e (LL X.K b j t)
  mo : ∀ ρ (Q Q' : List PyData → Prop), (∀ d, Q d → Q' d) → t ρ Q → t ρ Q'
theorem peI {X : Cx} {e : Expr} {t t' : TE} (h : PE X e t') (i : ∀ σ H Q, t σ H Q → t' σ H Q) : PE X e t := ⟨fun pins s σ H Q I q => h.run pins s σ H Q I (i σ H Q q)⟩
theorem ptI {X : Cx} {e : Expr} {t t' : TT} (h : PT X e t') (i : ∀ σ H Q, t σ H Q → t' σ H Q) : PT X e t := ⟨fun pins s σ H Q I q => h.run pins s σ H Q I (i σ H Q q)⟩
theorem pwI {X : Cx} {e : Expr} {t t' : TT} (h : PW X e t') (i : ∀ σ H Q, t σ H Q → t' σ H Q) : PW X e t := ⟨fun wh pins s σ H Q I q => h.run wh pins s σ H Q I (i σ H Q q)⟩
theorem paI {X : Cx} {es : List Expr} {t t' : TA} (h : PA X es t') (i : ∀ σ H Q, t σ H Q → t' σ H Q) : PA X es t := ⟨fun pos pins s σ H Q I q => h.run pos pins s σ H Q I (i σ H Q q)⟩
/-! ### names, constants -/
def dv (i : Nat) : DTE := fun ρ Q => match ρ[i]? with | some (.dat d) => Q d | some (.par d) => Q d | some (.own ds) => Q (.list ds) | some (.frz _ ds) => Q (.list ds) | _ => False
def dC (d : PyData) : DTE := fun _ Q => Q d
theorem get_join {σ : L2.St} {i : Nat} {x : V} (h : σ[i]?.join = some x) : σ[i]? = some (some x) := by
  cases q : σ[i]? with
  | none => rw [q] at h; cases h
  | some y =>
    rw [q] at h
    have h' : y = some x := h
    rw [h']
section
variable {X : Cx} {b : Addr} {j : Bool} {e e1 e2 e3 : Expr} {pos : Pos}
theorem de_v {i : Nat} (h : PE X e (tVar i)) : DE X b j e (dv i) := by
  refine ⟨peI h ?_, ?_⟩
  · rintro σ H Q ⟨ρ, H0, G, r, q⟩
    unfold dv at q
    split at q
    · rename_i d e
      obtain ⟨x, e1, h1, _⟩ := r.sl i _ e
      exact ⟨x, get_join e1, q x H .refl h1⟩
    · rename_i d e
      obtain ⟨x, e1, h1⟩ := r.sl i _ e
      exact ⟨x, get_join e1, q x H .refl (h1.stp r.kn r.s0)⟩
    · rename_i ds e
      obtain ⟨p, xs, e1, h1, h2, h3, h4, h5⟩ := r.sl i _ e
      exact ⟨_, get_join e1, q _ H .refl (.lst (SqL.of h1) h5 h2)⟩
    · rename_i p ds e
      obtain ⟨xs, e1, h1, h2, h3, h4⟩ := r.sl i _ e
      exact ⟨_, get_join e1, q _ H .refl (.lst (SqL.of (r.st.1 _ _ (fun _ => h4) h1)) h4 h2)⟩
    · exact q.elim
  · intro ρ Q Q' m q
    unfold dv at q ⊢
    split at q <;> first | exact m _ q | exact q.elim
theorem de_c {v : V} {d : PyData} (h : PE X e (tC v)) (hd : ∀ H, Dt X.K b H v d) : DE X b j e (dC d) :=
  ⟨peI h fun _ H _ ⟨_, _, _, _, q⟩ => q v H .refl (hd H), fun _ _ _ m q => m _ q⟩
theorem de_int {i : Int} {jj : Nat} {pos : Pos} : DE X b j (.Constant (.int i) jj pos) (dC (.int i)) := de_c pe_int fun _ => .int i
theorem de_bl {i : Bool} {jj : Nat} {pos : Pos} : DE X b j (.Constant (.bool i) jj pos) (dC (.bool i)) := de_c pe_bl fun _ => .bl i
theorem de_non {jj : Nat} {pos : Pos} : DE X b j (.Constant .none jj pos) (dC .none) := de_c pe_non fun _ => .non
theorem de_str {x : Str} {jj : Nat} {pos : Pos} : DE X b j (.Constant (.str x) jj pos) (dC (.str x)) := de_c pe_str fun _ => .str x
/-! ### two operands -/
def dOp (C : PyData → PyData → Prop) (g : PyData → PyData → PyData) (ta tb : DTE) : DTE := fun ρ Q => ta ρ fun x => tb ρ fun y => C x y ∧ Q (g x y)
def Snd (K : PySem.W.Frag) (b : Addr) (j : Bool) (r : R2) (C : PyData → PyData → Prop) (g : PyData → PyData → PyData) : Prop :=
  ∀ x y dx dy H Q, Kn b j H → Dt K b H x dx → Dt K b H y dy → C dx dy → (∀ v H', Stp b j H H' → Dt K b H' v (g dx dy) → Q v H') → r x y H Q
theorem mo_op {C : PyData → PyData → Prop} {g : PyData → PyData → PyData} {ta tb : DTE} (ma : ∀ ρ (Q Q' : PyData → Prop), (∀ d, Q d → Q' d) → ta ρ Q → ta ρ Q') (mb : ∀ ρ (Q Q' : PyData → Prop), (∀ d, Q d → Q' d) → tb ρ Q → tb ρ Q') : ∀ ρ (Q Q' : PyData → Prop), (∀ d, Q d → Q' d) → dOp C g ta tb ρ Q → dOp C g ta tb ρ Q' :=
  fun ρ Q Q' m q => ma ρ _ _ (fun x h => mb ρ _ _ (fun y h => ⟨h.1, m _ h.2⟩) h) q
theorem op2 {r : R2} {C : PyData → PyData → Prop} {g : PyData → PyData → PyData} {ta tb : DTE} (h : PE X e (tOp r (LE X.K b j ta) (LE X.K b j tb))) (ma : ∀ ρ (Q Q' : PyData → Prop), (∀ d, Q d → Q' d) → ta ρ Q → ta ρ Q') (mb : ∀ ρ (Q Q' : PyData → Prop), (∀ d, Q d → Q' d) → tb ρ Q → tb ρ Q') (s : Snd X.K b j r C g) :
    DE X b j e (dOp C g ta tb) := by
  refine ⟨peI h ?_, mo_op ma mb⟩
  rintro σ H Q ⟨ρ, H0, G, rl, q⟩
  refine ⟨ρ, H0, G, rl, ma ρ _ _ (fun dx q => ?_) q⟩
  intro x H1 s1 hx
  refine ⟨ρ, H0, G, rl.step s1, mb ρ _ _ (fun dy q => ?_) q⟩
  intro y H2 s2 hy
  have r2 := (rl.step s1).step s2
  exact s x y dx dy H2 Q r2.knH (hx.stp (rl.step s1).knH s2) hy q.1 fun v H' s3 hv => q.2 v H' ((s1.trans s2).trans s3) hv
/-- two ints -/
def cII (C : Int → Int → Prop) : PyData → PyData → Prop | .int i, .int j => C i j | _, _ => False
def gII (f : Int → Int → PyData) : PyData → PyData → PyData | .int i, .int j => f i j | _, _ => .none
def cI0 : PyData → PyData → Prop | .int _, .int _ => True | _, _ => False
theorem snd_I {C : Int → Int → Prop} {f : Int → Int → V} {f' : Int → Int → PyData} (hf : ∀ i k H, Dt X.K b H (f i k) (f' i k)) : Snd X.K b j (rI C f) (cII C) (gII f') := by
  intro x y dx dy H Q k hx hy c q
  cases hx <;> cases hy <;> first | exact c.elim | skip
  exact ⟨_, _, rfl, rfl, c, q _ H .refl (hf _ _ _)⟩
theorem snd_I0 {f : Int → Int → V} {f' : Int → Int → PyData} (hf : ∀ i k H, Dt X.K b H (f i k) (f' i k)) : Snd X.K b j (rI0 f) cI0 (gII f') := by
  intro x y dx dy H Q k hx hy c q
  cases hx <;> cases hy <;> first | exact c.elim | skip
  exact ⟨_, _, rfl, rfl, q _ H .refl (hf _ _ _)⟩
variable {ta tb tc : DTE}
theorem de_add (ha : DE X b j e1 ta) (hb : DE X b j e2 tb) : DE X b j (.BinOp e1 .Add e2 pos) (dOp cI0 (gII fun i k => .int (i + k)) ta tb) := op2 (pe_op op_add ha.pe hb.pe) ha.mo hb.mo (snd_I0 fun _ _ _ => .int _)
theorem de_sub (ha : DE X b j e1 ta) (hb : DE X b j e2 tb) : DE X b j (.BinOp e1 .Sub e2 pos) (dOp cI0 (gII fun i k => .int (i - k)) ta tb) := op2 (pe_op op_sub ha.pe hb.pe) ha.mo hb.mo (snd_I0 fun _ _ _ => .int _)
theorem de_mul (ha : DE X b j e1 ta) (hb : DE X b j e2 tb) : DE X b j (.BinOp e1 .Mult e2 pos) (dOp (cII CMul) (gII fun i k => .int (i * k)) ta tb) := op2 (pe_op op_mul ha.pe hb.pe) ha.mo hb.mo (snd_I fun _ _ _ => .int _)
theorem de_fdiv (ha : DE X b j e1 ta) (hb : DE X b j e2 tb) : DE X b j (.BinOp e1 .FloorDiv e2 pos) (dOp (cII CDiv) (gII fun i k => .int (i / k)) ta tb) := op2 (pe_op op_fdiv ha.pe hb.pe) ha.mo hb.mo (snd_I fun _ _ _ => .int _)
theorem de_mod (ha : DE X b j e1 ta) (hb : DE X b j e2 tb) : DE X b j (.BinOp e1 .Mod e2 pos) (dOp (cII fun _ k => 0 < k) (gII fun i k => .int (i % k)) ta tb) := op2 (pe_op op_mod ha.pe hb.pe) ha.mo hb.mo (snd_I fun _ _ _ => .int _)
theorem de_and (ha : DE X b j e1 ta) (hb : DE X b j e2 tb) : DE X b j (.BinOp e1 .BitAnd e2 pos) (dOp cI0 (gII fun i k => .int (Builtin.bitAnd i k)) ta tb) := op2 (pe_op op_and ha.pe hb.pe) ha.mo hb.mo (snd_I0 fun _ _ _ => .int _)
theorem de_bor (ha : DE X b j e1 ta) (hb : DE X b j e2 tb) : DE X b j (.BinOp e1 .BitOr e2 pos) (dOp cI0 (gII fun i k => .int (Builtin.bitOr i k)) ta tb) := op2 (pe_op op_or ha.pe hb.pe) ha.mo hb.mo (snd_I0 fun _ _ _ => .int _)
theorem de_xor (ha : DE X b j e1 ta) (hb : DE X b j e2 tb) : DE X b j (.BinOp e1 .BitXor e2 pos) (dOp cI0 (gII fun i k => .int (Builtin.bitXor i k)) ta tb) := op2 (pe_op op_xor ha.pe hb.pe) ha.mo hb.mo (snd_I0 fun _ _ _ => .int _)
theorem de_shl (ha : DE X b j e1 ta) (hb : DE X b j e2 tb) : DE X b j (.BinOp e1 .LShift e2 pos) (dOp (cII CPow) (gII fun i k => .int (i * 2 ^ k.toNat)) ta tb) := op2 (pe_op op_shl ha.pe hb.pe) ha.mo hb.mo (snd_I fun _ _ _ => .int _)
theorem de_shr (ha : DE X b j e1 ta) (hb : DE X b j e2 tb) : DE X b j (.BinOp e1 .RShift e2 pos) (dOp (cII fun _ k => 0 ≤ k) (gII fun i k => .int (i / 2 ^ k.toNat)) ta tb) := op2 (pe_op op_shr ha.pe hb.pe) ha.mo hb.mo (snd_I fun _ _ _ => .int _)
theorem de_pow (ha : DE X b j e1 ta) (hb : DE X b j e2 tb) : DE X b j (.BinOp e1 .Pow e2 pos) (dOp (cII CPow) (gII fun i k => .int (i ^ k.toNat)) ta tb) := op2 (pe_op op_pow ha.pe hb.pe) ha.mo hb.mo (snd_I fun _ _ _ => .int _)
theorem de_lt (ha : DE X b j e1 ta) (hb : DE X b j e2 tb) : DE X b j (.Compare e1 [.Lt] [e2] pos) (dOp cI0 (gII fun i k => .bool (decide (i < k))) ta tb) := op2 (pe_cmpR op_lt ha.pe hb.pe (nomark _)) ha.mo hb.mo (snd_I0 fun _ _ _ => .bl _)
theorem de_le (ha : DE X b j e1 ta) (hb : DE X b j e2 tb) : DE X b j (.Compare e1 [.LtE] [e2] pos) (dOp cI0 (gII fun i k => .bool (decide (i ≤ k))) ta tb) := op2 (pe_cmpR op_le ha.pe hb.pe (nomark _)) ha.mo hb.mo (snd_I0 fun _ _ _ => .bl _)
theorem de_gt (ha : DE X b j e1 ta) (hb : DE X b j e2 tb) : DE X b j (.Compare e1 [.Gt] [e2] pos) (dOp cI0 (gII fun i k => .bool (decide (k < i))) ta tb) := op2 (pe_cmpR op_gt ha.pe hb.pe (nomark _)) ha.mo hb.mo (snd_I0 fun _ _ _ => .bl _)
theorem de_ge (ha : DE X b j e1 ta) (hb : DE X b j e2 tb) : DE X b j (.Compare e1 [.GtE] [e2] pos) (dOp cI0 (gII fun i k => .bool (decide (k ≤ i))) ta tb) := op2 (pe_cmpR op_ge ha.pe hb.pe (nomark _)) ha.mo hb.mo (snd_I0 fun _ _ _ => .bl _)
/-- == of plain things -/
def cSc : PyData → PyData → Prop | .int _, .int _ => True | .str _, .str _ => True | .bool _, .bool _ => True | .none, .none => True | .none, .int _ => True | .int _, .none => True | .none, .str _ => True | .str _, .none => True | _, _ => False
def eSc : PyData → PyData → Bool | .int i, .int k => decide (i = k) | .str x, .str y => decide (x = y) | .bool x, .bool y => decide (x = y) | .none, .none => true | _, _ => false
theorem scal_ok {K : PySem.W.Frag} {H : Hp} {x y : V} {dx dy : PyData} (hx : Dt K b H x dx) (hy : Dt K b H y dy) (c : cSc dx dy) : scal x y = true ∧ decide (x = y) = eSc dx dy := by
  cases hx <;> cases hy <;> first | exact c.elim | skip
  all_goals first | exact ⟨rfl, rfl⟩ | skip
  · rename_i a e
    refine ⟨rfl, ?_⟩
    show decide (V.bl a = V.bl e) = decide (a = e)
    by_cases h : a = e
    · rw [h]; simp
    · rw [decide_eq_false h, decide_eq_false fun z => h (V.bl.inj z)]
  · rename_i a e
    refine ⟨rfl, ?_⟩
    show decide (V.int a = V.int e) = decide (a = e)
    by_cases h : a = e
    · rw [h]; simp
    · rw [decide_eq_false h, decide_eq_false fun z => h (V.int.inj z)]
  · rename_i a e
    refine ⟨rfl, ?_⟩
    show decide (V.str a = V.str e) = decide (a = e)
    by_cases h : a = e
    · rw [h]; simp
    · rw [decide_eq_false h, decide_eq_false fun z => h (V.str.inj z)]
theorem snd_eq : Snd X.K b j rEq cSc (fun x y => .bool (eSc x y)) := fun x y dx dy H Q k hx hy c q => by
  obtain ⟨h1, h2⟩ := scal_ok hx hy c
  refine ⟨h1, ?_⟩
  rw [h2]
  exact q _ H .refl (.bl _)
theorem snd_ne : Snd X.K b j rNe cSc (fun x y => .bool (!eSc x y)) := fun x y dx dy H Q k hx hy c q => by
  obtain ⟨h1, h2⟩ := scal_ok hx hy c
  refine ⟨h1, ?_⟩
  rw [h2]
  exact q _ H .refl (.bl _)
theorem de_eq (ha : DE X b j e1 ta) (hb : DE X b j e2 tb) : DE X b j (.Compare e1 [.Eq] [e2] pos) (dOp cSc (fun x y => .bool (eSc x y)) ta tb) := op2 (pe_cmpR op_eq ha.pe hb.pe (nomark _)) ha.mo hb.mo snd_eq
theorem de_ne (ha : DE X b j e1 ta) (hb : DE X b j e2 tb) : DE X b j (.Compare e1 [.NotEq] [e2] pos) (dOp cSc (fun x y => .bool (!eSc x y)) ta tb) := op2 (pe_cmpR op_ne ha.pe hb.pe (nomark _)) ha.mo hb.mo snd_ne
/-- == of data of any depth -/
theorem de_eqD (hu : X.A.units + 64 < cLine) (ha : DE X b j e1 ta) (hb : DE X b j e2 tb) : DE X b j (.Compare e1 [.Eq] [e2] pos) (dOp (fun x y => SeqAt.shaped x = true ∧ SeqAt.shaped y = true) (fun x y => .bool (PyData.eqv x y)) ta tb) :=
  op2 (pe_cmpR (op_eqD hu) ha.pe hb.pe (nomark _)) ha.mo hb.mo fun x y dx dy H Q k hx hy c q => ⟨dx, dy, hx.dp, hy.dp, c.1, c.2, q _ H .refl (.bl _)⟩
theorem de_neD (hu : X.A.units + 64 < cLine) (ha : DE X b j e1 ta) (hb : DE X b j e2 tb) : DE X b j (.Compare e1 [.NotEq] [e2] pos) (dOp (fun x y => SeqAt.shaped x = true ∧ SeqAt.shaped y = true) (fun x y => .bool (!PyData.eqv x y)) ta tb) :=
  op2 (pe_cmpR (op_neD hu) ha.pe hb.pe (nomark _)) ha.mo hb.mo fun x y dx dy H Q k hx hy c q => ⟨dx, dy, hx.dp, hy.dp, c.1, c.2, q _ H .refl (.bl _)⟩
/-- is None -/
def isN : PyData → Bool | .none => true | _ => false
theorem isN_ok {K : PySem.W.Frag} {H : Hp} {x : V} {d : PyData} (h : Dt K b H x d) : decide (x = .non) = isN d := by
  cases h <;> first | rfl | exact decide_eq_false (fun e => nomatch e)
theorem de_isN {jj : Nat} {p2 : Pos} (ha : DE X b j e1 ta) : DE X b j (.Compare e1 [.Is] [.Constant .none jj p2] pos) (dOp (fun _ y => y = .none) (fun x _ => .bool (isN x)) ta (dC .none)) :=
  op2 (pe_cmpR op_isN ha.pe de_non.pe (nomark _)) ha.mo (fun _ _ _ m q => m _ q) fun x y dx dy H Q k hx hy c q => by
    subst c
    cases hy
    refine ⟨rfl, ?_⟩
    rw [isN_ok hx]
    exact q _ H .refl (.bl _)
theorem de_notN {jj : Nat} {p2 : Pos} (ha : DE X b j e1 ta) : DE X b j (.Compare e1 [.IsNot] [.Constant .none jj p2] pos) (dOp (fun _ y => y = .none) (fun x _ => .bool (!isN x)) ta (dC .none)) :=
  op2 (pe_cmpR op_notN ha.pe de_non.pe (nomark _)) ha.mo (fun _ _ _ m q => m _ q) fun x y dx dy H Q k hx hy c q => by
    subst c
    cases hy
    refine ⟨rfl, ?_⟩
    rw [isN_ok hx]
    exact q _ H .refl (.bl _)
/-! ### rows: items, slices, put together -/
def itm : PyData → PyData → PyData | .tuple ds, .int i => (ds[i.toNat]?).getD .none | .list ds, .int i => (ds[i.toNat]?).getD .none | _, _ => .none
def cIx : PyData → PyData → Prop | .tuple ds, .int i => 0 ≤ i ∧ i < ds.length | .list ds, .int i => 0 ≤ i ∧ i < ds.length | _, _ => False
theorem snd_ix : Snd X.K b j (rIx X.K) cIx itm := by
  intro x y dx dy H Q k hx hy c q
  cases hx <;> cases hy <;> first | exact c.elim | skip
  · rename_i a xs ds h n r i
    obtain ⟨c1, c2⟩ := c
    obtain ⟨m, rfl⟩ := Int.eq_ofNat_of_zero_le c1
    have hm : m < ds.length := by omega
    obtain ⟨v, e1, e2⟩ := r.get (List.getElem?_eq_getElem hm)
    refine .inl ⟨a, xs, _, v, rfl, rfl, h, atI_nat e1, q v H .refl ?_⟩
    show Dt X.K b H v ((ds[m]?).getD .none)
    rw [List.getElem?_eq_getElem hm]
    exact e2
  · rename_i a xs ds h r i
    obtain ⟨c1, c2⟩ := c
    obtain ⟨m, rfl⟩ := Int.eq_ofNat_of_zero_le c1
    have hm : m < ds.length := by omega
    obtain ⟨v, e1, e2⟩ := r.get (List.getElem?_eq_getElem hm)
    refine .inr (.inl ⟨a, xs, _, v, rfl, rfl, h, atI_nat e1, q v H .refl ?_⟩)
    show Dt X.K b H v ((ds[m]?).getD .none)
    rw [List.getElem?_eq_getElem hm]
    exact e2
theorem de_ix (ha : DE X b j e1 ta) (hb : DE X b j e2 tb) (hs : PlainIx e2 := by intro _ _; rfl) : DE X b j (.Subscript e1 e2 pos) (dOp cIx itm ta tb) := op2 (pe_ix ix_seq ha.pe hb.pe hs) ha.mo hb.mo snd_ix
/-- t[lo:hi] of a tuple -/
def dSlo : Option DTE → List SV → (Option Int → Prop) → Prop
  | none, _, Q => Q none
  | some t, ρ, Q => t ρ fun d => ∃ i, d = .int i ∧ Q (some i)
def cutD (ds : List PyData) (lo hi : Option Int) : List PyData := (ds.drop (HT.sIx ds.length 0 lo)).take (HT.sIx ds.length ds.length hi - HT.sIx ds.length 0 lo)
def dSl (te : DTE) (lo hi : Option DTE) : DTE := fun ρ Q => te ρ fun d => dSlo lo ρ fun l => dSlo hi ρ fun h => ∃ ds, d = .tuple ds ∧ Q (.tuple (cutD ds l h))
end
end DL

namespace DL
open PySem PySem.Spec PyProof.Rows L2 GuL HG
def LO (K : PySem.W.Frag) (b : Addr) (j : Bool) (t : List SV → (Option Int → Prop) → Prop) : TO := fun σ H Q => ∃ ρ H0 G, Rel K b j H0 G σ H ρ ∧ t ρ fun o => ∀ H', Stp b j H H' → Q o H'
structure DO (X : Cx) (b : Addr) (j : Bool) (e : Option Expr) (t : List SV → (Option Int → Prop) → Prop) : Prop where
  po : PO X e (LO X.K b j t)
  mo : ∀ ρ (Q Q' : Option Int → Prop), (∀ d, Q d → Q' d) → t ρ Q → t ρ Q'
def oNo : List SV → (Option Int → Prop) → Prop := fun _ Q => Q none
def oPt (te : DTE) : List SV → (Option Int → Prop) → Prop := fun ρ Q => te ρ fun d => match d with | .int i => Q (some i) | _ => False
def gSl (te : DTE) (tl th : List SV → (Option Int → Prop) → Prop) : DTE := fun ρ Q => te ρ fun d => tl ρ fun l => th ρ fun h => match d with | .tuple ds => Q (.tuple (cutD ds l h)) | _ => False
section
variable {X : Cx} {b : Addr} {j : Bool} {e e1 e2 e3 : Expr} {es : List Expr} {pos : Pos} {ta tb tc : DTE} {tt : DTA}
theorem do_no : DO X b j none oNo := ⟨⟨fun pins s σ H Q I ⟨_, _, _, _, q⟩ => po_none.run pins s σ H Q I (q H .refl)⟩, fun _ _ _ m q => m _ q⟩
theorem do_pt (ha : DE X b j e ta) : DO X b j (some e) (oPt ta) := by
  refine ⟨⟨fun pins s σ H Q I ⟨ρ, H0, G, r, q⟩ => (po_some ha.pe).run pins s σ H Q I ?_⟩, fun ρ Q Q' m q => ha.mo ρ _ _ (fun d h => ?_) q⟩
  · refine ⟨ρ, H0, G, r, ha.mo ρ _ _ (fun d h v H' st hv => ?_) q⟩
    cases hv <;> first | exact h.elim | skip
    exact ⟨_, rfl, h H' st⟩
  · cases d <;> first | exact h.elim | exact m _ h
theorem cutV_dts {K : PySem.W.Frag} {H : Hp} {xs : List V} {ds : List PyData} {lo hi : Option Int} (h : Dts K b H xs ds) : Dts K b H (cutV xs lo hi) (cutD ds lo hi) := by
  unfold cutV cutD
  rw [h.len]
  exact (h.drop _).take _
theorem de_sl {lo hi : Option Expr} {p2 : Pos} {tl th : List SV → (Option Int → Prop) → Prop} (ha : DE X b j e ta) (hl : DO X b j lo tl) (hh : DO X b j hi th) : DE X b j (.Subscript e (.Slice lo hi none p2) pos) (gSl ta tl th) := by
  refine ⟨peI (pe_slice sl_tupA ha.pe hl.po hh.po) ?_, fun ρ Q Q' m q => ha.mo ρ _ _ (fun d h => hl.mo ρ _ _ (fun l h => hh.mo ρ _ _ (fun u h => ?_) h) h) q⟩
  · rintro σ H Q ⟨ρ, H0, G, r, q⟩
    refine ⟨ρ, H0, G, r, ha.mo ρ _ _ (fun d q v H1 s1 hv => ?_) q⟩
    have r1 := r.step s1
    refine ⟨ρ, H0, G, r1, hl.mo ρ _ _ (fun l q H2 s2 => ?_) q⟩
    have r2 := r1.step s2
    refine ⟨ρ, H0, G, r2, hh.mo ρ _ _ (fun u q H3 s3 => ?_) q⟩
    have r3 := r2.step s3
    cases hv with
    | @tup a xs ds h1 h2 =>
      have g1 := sqT_stp r2.knH s3 (sqT_stp r1.knH s2 h1)
      have g2 := (h2.stp r1.knH s2).stp r2.knH s3
      have st := (s1.trans s2).trans s3
      refine ⟨a, xs, rfl, g1, fun w => ?_, fun _ p hp => ?_⟩
      · refine q _ _ st (.tup g1 ?_)
        have e : cutD ds l u = ds := by
          unfold cutD
          rw [← g2.len, w.1, w.2, List.drop_zero, Nat.sub_zero, g2.len, List.take_length]
        rw [e]
        exact g2
      · exact q _ _ (st.trans (.new hp)) (.tup (SqT.of upd_same) ((cutV_dts g2).stp r3.knH (.new hp)))
    | _ => exact q.elim
  · cases d <;> first | exact h.elim | exact m _ h
/-- two tuples put together -/
def cCat : PyData → PyData → Prop | .tuple ds, .tuple es => ds.length + es.length ≤ 100000 | _, _ => False
def gCat : PyData → PyData → PyData | .tuple ds, .tuple es => .tuple (ds ++ es) | _, _ => .none
theorem de_cat (ha : DE X b j e1 ta) (hb : DE X b j e2 tb) : DE X b j (.BinOp e1 .Add e2 pos) (dOp cCat gCat ta tb) := op2 (pe_op op_catA ha.pe hb.pe) ha.mo hb.mo fun x y dx dy H Q k hx hy c q => by
  cases hx <;> cases hy <;> first | exact c.elim | skip
  rename_i a xs ds h1 h2 a' ys es g1 g2
  have c' : ds.length + es.length ≤ 100000 := c
  refine ⟨a, a', xs, ys, rfl, rfl, h1, g1, by rw [h2.len, g2.len]; exact Nat.le_trans c' (by decide), fun e => ?_, fun _ e => ?_, fun _ _ p hp => ?_⟩
  · subst e
    cases h2
    exact q _ _ .refl (.tup g1 g2)
  · subst e
    cases g2
    exact q _ _ .refl (.tup h1 (by rw [List.append_nil]; exact h2))
  · exact q _ _ (.new hp) (.tup (SqT.of upd_same) ((h2.app g2).stp k (.new hp)))
/-! ### arguments, displays -/
def aNil : DTA := fun _ Q => Q []
def aCons (t : DTE) (u : DTA) : DTA := fun ρ Q => t ρ fun d => u ρ fun ds => Q (d :: ds)
theorem da_nil : DA X b j [] aNil := ⟨paI pa_nil fun σ H Q ⟨_, _, _, _, q⟩ => q [] H .refl .nil, fun _ _ _ m q => m _ q⟩
theorem da_cons (ha : DE X b j e ta) (hr : DA X b j es tt) (hs : starEach (e :: es) X.env = (false, eval e X.env) :: starEach es X.env := by rfl) : DA X b j (e :: es) (aCons ta tt) := by
  refine ⟨paI (pa_cons ha.pe hr.pa hs) ?_, fun ρ Q Q' m q => ha.mo ρ _ _ (fun d h => hr.mo ρ _ _ (fun ds h => m _ h) h) q⟩
  rintro σ H Q ⟨ρ, H0, G, r, q⟩
  refine ⟨ρ, H0, G, r, ha.mo ρ _ _ (fun d q v H1 s1 hv => ?_) q⟩
  refine ⟨ρ, H0, G, r.step s1, hr.mo ρ _ _ (fun ds q vs H2 s2 hvs => ?_) q⟩
  exact q _ _ (s1.trans s2) (.cons (hv.stp (r.step s1).knH s2) hvs)
def dTup (t : DTA) : DTE := fun ρ Q => t ρ fun ds => ds.length ≤ 1000 ∧ Q (.tuple ds)
theorem sz1000 {n : Nat} (h : n ≤ 1000) : n ≤ sizeLine := Nat.le_trans h (by decide)
theorem sz5 {n : Nat} (h : n ≤ 100000) : n ≤ sizeLine := Nat.le_trans h (by decide)
theorem de_tup {x1 : Nat} (h : DA X b j es tt) : DE X b j (.Tuple es x1 pos) (dTup tt) := by
  refine ⟨peI (pe_tup h.pa) ?_, fun ρ Q Q' m q => h.mo ρ _ _ (fun ds h => ⟨h.1, m _ h.2⟩) q⟩
  rintro σ H Q ⟨ρ, H0, G, r, q⟩
  refine ⟨ρ, H0, G, r, h.mo ρ _ _ (fun ds q vs H1 s1 hv => ⟨by rw [hv.len]; exact sz1000 q.1, fun p hp => ?_⟩) q⟩
  exact q.2 _ _ (s1.trans (.new hp)) (.tup (SqT.of upd_same) (hv.stp (r.step s1).knH (.new hp)))
def nLst (t : DTA) : DTA := fun ρ Q => t ρ fun ds => ds.length ≤ 1000 ∧ Q ds
theorem dn_lst (h : DA X b j es tt) : DN X b j (.List es pos) (nLst tt) := by
  refine ⟨peI (pe_lst h.pa) ?_, fun ρ Q Q' m q => h.mo ρ _ _ (fun ds h => ⟨h.1, m _ h.2⟩) q⟩
  rintro σ H Q ⟨ρ, H0, G, r, q⟩
  refine ⟨ρ, H0, G, r, h.mo ρ _ _ (fun ds q vs H1 s1 hv => ⟨by rw [hv.len]; exact sz1000 q.1, fun p hp => ?_⟩) q⟩
  exact q.2 _ _ _ (s1.trans (.new hp)) (s1.free r.knH hp) upd_same (hv.stp (r.step s1).knH (.new hp))
/-- a new list, as data -/
def dNew (t : DTA) : DTE := fun ρ Q => t ρ fun ds => Q (.list ds)
theorem de_new (h : DN X b j e tt) : DE X b j e (dNew tt) := by
  refine ⟨peI h.pe ?_, fun ρ Q Q' m q => h.mo ρ _ _ (fun ds h => m _ h) q⟩
  rintro σ H Q ⟨ρ, H0, G, r, q⟩
  exact ⟨ρ, H0, G, r, h.mo ρ _ _ (fun ds q p xs H1 s1 hp hx hd => q _ _ s1 (.lst (SqL.of hx) (r.knH.ne hp) hd)) q⟩
/-! ### calls of built-ins -/
def dCB (C : List PyData → Prop) (g : List PyData → PyData) (t : DTA) : DTE := fun ρ Q => t ρ fun ds => C ds ∧ Q (g ds)
def SndC (K : PySem.W.Frag) (b : Addr) (j : Bool) (r : List V → Hp → VK → Prop) (C : List PyData → Prop) (g : List PyData → PyData) : Prop :=
  ∀ xs ds H Q, Kn b j H → Dts K b H xs ds → C ds → (∀ v H', Stp b j H H' → Dt K b H' v (g ds) → Q v H') → r xs H Q
theorem de_cb {r : List V → Hp → VK → Prop} {C : List PyData → Prop} {g : List PyData → PyData} (h : PE X e (tCB r (LA X.K b j tt))) (mo : ∀ ρ (Q Q' : List PyData → Prop), (∀ d, Q d → Q' d) → tt ρ Q → tt ρ Q') (s : SndC X.K b j r C g) : DE X b j e (dCB C g tt) := by
  refine ⟨peI h ?_, fun ρ Q Q' m q => mo ρ _ _ (fun ds h => ⟨h.1, m _ h.2⟩) q⟩
  rintro σ H Q ⟨ρ, H0, G, rl, q⟩
  exact ⟨ρ, H0, G, rl, mo ρ _ _ (fun ds q vs H1 s1 hv => s vs ds H1 Q (rl.step s1).knH hv q.1 fun v H' s3 hd => q.2 v H' (s1.trans s3) hd) q⟩
/-- len -/
def cLen : List PyData → Prop | [.tuple _] => True | [.list _] => True | [.str x] => x.length ≤ 100000 | _ => False
def gLen : List PyData → PyData | [.tuple ds] => .int ds.length | [.list ds] => .int ds.length | [.str x] => .int x.length | _ => .none
theorem snd_len : SndC X.K b j (rLen X.K) cLen gLen := by
  intro xs ds H Q k h c q
  cases h with
  | nil => exact c.elim
  | cons h1 h2 =>
    cases h2 with
    | cons _ _ => cases h1 <;> exact c.elim
    | nil =>
      cases h1 with
      | str x => exact ⟨_, _, rfl, ⟨sz5 c, rfl⟩, q _ H .refl (.int _)⟩
      | lst g1 g2 g3 => exact ⟨_, _, rfl, .inl ⟨_, g1, rfl⟩, q _ H .refl (by rw [g3.len]; exact .int _)⟩
      | tup g1 g3 => exact ⟨_, _, rfl, .inr ⟨_, g1, rfl⟩, q _ H .refl (by rw [g3.len]; exact .int _)⟩
      | _ => exact c.elim
theorem de_len {p : Pos} (hg : Gl X "len") (hm : X.mg "len" = none) (ha : DA X b j (e :: es) tt)
    (he : starEach (e :: es) X.env = (false, eval e X.env) :: starEach es X.env := by rfl) (hpl : (backTo pos (starEach es X.env)).any (·.1) = false := by rfl) : DE X b j (.Call (.Name "len" p) (e :: es) [] pos) (dCB cLen gLen tt) :=
  de_cb (pe_callB call_len hg hm PySem.boot_len ha.pa (by decide) (by decide) he hpl) ha.mo snd_len
end
end DL

namespace DL
open PySem PySem.Spec PyProof.Rows L2 GuL HG
abbrev MoE (t : DTE) : Prop := ∀ ρ (Q Q' : PyData → Prop), (∀ d, Q d → Q' d) → t ρ Q → t ρ Q'
abbrev MoA (t : DTA) : Prop := ∀ ρ (Q Q' : List PyData → Prop), (∀ d, Q d → Q' d) → t ρ Q → t ρ Q'
abbrev MoT (t : DTT) : Prop := ∀ ρ (Q Q' : Bool → Prop), (∀ d, Q d → Q' d) → t ρ Q → t ρ Q'
/-- a bool's worth -/
def bw1 (d : PyData) (Q : Bool → Prop) : Prop := match d with | .bool c => Q c | _ => False
theorem bw1_mo {d : PyData} {Q Q' : Bool → Prop} (m : ∀ c, Q c → Q' c) (h : bw1 d Q) : bw1 d Q' := by
  cases d <;> first | exact h.elim | exact m _ h
def dB (t : DTE) : DTT := fun ρ Q => t ρ fun d => bw1 d Q
def dtAnd (t u : DTT) : DTT := fun ρ Q => t ρ fun c => if c = true then u ρ Q else Q false
def dtOr (t u : DTT) : DTT := fun ρ Q => t ρ fun c => if c = true then Q true else u ρ Q
def dtNot (t : DTT) : DTT := fun ρ Q => t ρ fun c => Q (!c)
def dAnd (t u : DTE) : DTE := fun ρ Q => t ρ fun d => bw1 d fun c => if c = true then u ρ Q else Q (.bool false)
def dOr (t u : DTE) : DTE := fun ρ Q => t ρ fun d => bw1 d fun c => if c = true then Q (.bool true) else u ρ Q
def dNot (t : DTE) : DTE := fun ρ Q => t ρ fun d => bw1 d fun c => Q (.bool (!c))
def dIf (t : DTT) (u v : DTE) : DTE := fun ρ Q => t ρ fun c => if c = true then u ρ Q else v ρ Q
section
variable {X : Cx} {b : Addr} {j : Bool} {e e1 e2 e3 : Expr} {es : List Expr} {pos : Pos} {ta tb tc : DTE} {tt : DTA} {t u : DTT}
theorem dt_val (h : DE X b j e ta) (he : ∀ whole, isTrue e X.env whole = (do let v ← whole; standAt e.pos; holding [v] (truthy v)) := by intro _; rfl) : DT X b j e (dB ta) := by
  refine ⟨ptI (pt_val h.pe he) ?_, fun ρ Q Q' m q => h.mo ρ _ _ (fun d h => bw1_mo m h) q⟩
  rintro σ H Q ⟨ρ, H0, G, r, q⟩
  refine ⟨ρ, H0, G, r, h.mo ρ _ _ (fun d q v H' st hv => ?_) q⟩
  cases hv <;> first | exact q.elim | exact ⟨_, rfl, q H' st⟩
theorem op2T {r : R2} {C : PyData → PyData → Prop} {g : PyData → PyData → PyData} (h : PT X e (tTest (tOp r (LE X.K b j ta) (LE X.K b j tb)))) (ma : MoE ta) (mb : MoE tb) (s : Snd X.K b j r C g) : DT X b j e (dB (dOp C g ta tb)) := by
  refine ⟨ptI h ?_, fun ρ Q Q' m q => mo_op ma mb ρ _ _ (fun d h => bw1_mo m h) q⟩
  rintro σ H Q ⟨ρ, H0, G, rl, q⟩
  refine ⟨ρ, H0, G, rl, ma ρ _ _ (fun dx q => ?_) q⟩
  intro x H1 s1 hx
  refine ⟨ρ, H0, G, rl.step s1, mb ρ _ _ (fun dy q => ?_) q⟩
  intro y H2 s2 hy
  have r2 := (rl.step s1).step s2
  refine s x y dx dy H2 _ r2.knH (hx.stp (rl.step s1).knH s2) hy q.1 fun v H' s3 hv => ?_
  have q2 := q.2
  generalize g dx dy = dd at q2 hv
  cases hv <;> first | exact q2.elim | exact ⟨_, rfl, q2 H' ((s1.trans s2).trans s3)⟩
theorem dt_lt (ha : DE X b j e1 ta) (hb : DE X b j e2 tb) : DT X b j (.Compare e1 [.Lt] [e2] pos) (dB (dOp cI0 (gII fun i k => .bool (decide (i < k))) ta tb)) := op2T (pt_cmpR op_lt ha.pe hb.pe (nomark _)) ha.mo hb.mo (snd_I0 fun _ _ _ => .bl _)
theorem dt_le (ha : DE X b j e1 ta) (hb : DE X b j e2 tb) : DT X b j (.Compare e1 [.LtE] [e2] pos) (dB (dOp cI0 (gII fun i k => .bool (decide (i ≤ k))) ta tb)) := op2T (pt_cmpR op_le ha.pe hb.pe (nomark _)) ha.mo hb.mo (snd_I0 fun _ _ _ => .bl _)
theorem dt_gt (ha : DE X b j e1 ta) (hb : DE X b j e2 tb) : DT X b j (.Compare e1 [.Gt] [e2] pos) (dB (dOp cI0 (gII fun i k => .bool (decide (k < i))) ta tb)) := op2T (pt_cmpR op_gt ha.pe hb.pe (nomark _)) ha.mo hb.mo (snd_I0 fun _ _ _ => .bl _)
theorem dt_ge (ha : DE X b j e1 ta) (hb : DE X b j e2 tb) : DT X b j (.Compare e1 [.GtE] [e2] pos) (dB (dOp cI0 (gII fun i k => .bool (decide (k ≤ i))) ta tb)) := op2T (pt_cmpR op_ge ha.pe hb.pe (nomark _)) ha.mo hb.mo (snd_I0 fun _ _ _ => .bl _)
theorem dt_eq (ha : DE X b j e1 ta) (hb : DE X b j e2 tb) : DT X b j (.Compare e1 [.Eq] [e2] pos) (dB (dOp cSc (fun x y => .bool (eSc x y)) ta tb)) := op2T (pt_cmpR op_eq ha.pe hb.pe (nomark _)) ha.mo hb.mo snd_eq
theorem dt_ne (ha : DE X b j e1 ta) (hb : DE X b j e2 tb) : DT X b j (.Compare e1 [.NotEq] [e2] pos) (dB (dOp cSc (fun x y => .bool (!eSc x y)) ta tb)) := op2T (pt_cmpR op_ne ha.pe hb.pe (nomark _)) ha.mo hb.mo snd_ne
def cSh : PyData → PyData → Prop := fun x y => SeqAt.shaped x = true ∧ SeqAt.shaped y = true
theorem snd_eqD : Snd X.K b j (rEqD X.K) cSh (fun x y => .bool (PyData.eqv x y)) := fun x y dx dy H Q k hx hy c q => ⟨dx, dy, hx.dp, hy.dp, c.1, c.2, q _ H .refl (.bl _)⟩
theorem snd_neD : Snd X.K b j (rNeD X.K) cSh (fun x y => .bool (!PyData.eqv x y)) := fun x y dx dy H Q k hx hy c q => ⟨dx, dy, hx.dp, hy.dp, c.1, c.2, q _ H .refl (.bl _)⟩
theorem dt_eqD (hu : X.A.units + 64 < cLine) (ha : DE X b j e1 ta) (hb : DE X b j e2 tb) : DT X b j (.Compare e1 [.Eq] [e2] pos) (dB (dOp cSh (fun x y => .bool (PyData.eqv x y)) ta tb)) := op2T (pt_cmpR (op_eqD hu) ha.pe hb.pe (nomark _)) ha.mo hb.mo snd_eqD
theorem dt_neD (hu : X.A.units + 64 < cLine) (ha : DE X b j e1 ta) (hb : DE X b j e2 tb) : DT X b j (.Compare e1 [.NotEq] [e2] pos) (dB (dOp cSh (fun x y => .bool (!PyData.eqv x y)) ta tb)) := op2T (pt_cmpR (op_neD hu) ha.pe hb.pe (nomark _)) ha.mo hb.mo snd_neD
theorem snd_isN : Snd X.K b j (fun x y H Q => y = .non ∧ Q (.bl (decide (x = .non))) H) (fun _ y => y = .none) (fun x _ => .bool (isN x)) := fun x y dx dy H Q k hx hy c q => by
  subst c
  cases hy
  refine ⟨rfl, ?_⟩
  rw [isN_ok hx]
  exact q _ H .refl (.bl _)
theorem snd_notN : Snd X.K b j (fun x y H Q => y = .non ∧ Q (.bl (!decide (x = .non))) H) (fun _ y => y = .none) (fun x _ => .bool (!isN x)) := fun x y dx dy H Q k hx hy c q => by
  subst c
  cases hy
  refine ⟨rfl, ?_⟩
  rw [isN_ok hx]
  exact q _ H .refl (.bl _)
theorem dt_isN {jj : Nat} {p2 : Pos} (ha : DE X b j e1 ta) : DT X b j (.Compare e1 [.Is] [.Constant .none jj p2] pos) (dB (dOp (fun _ y => y = .none) (fun x _ => .bool (isN x)) ta (dC .none))) := op2T (pt_cmpR op_isN ha.pe de_non.pe (nomark _)) ha.mo (fun _ _ _ m q => m _ q) snd_isN
theorem dt_notN {jj : Nat} {p2 : Pos} (ha : DE X b j e1 ta) : DT X b j (.Compare e1 [.IsNot] [.Constant .none jj p2] pos) (dB (dOp (fun _ y => y = .none) (fun x _ => .bool (!isN x)) ta (dC .none))) := op2T (pt_cmpR op_notN ha.pe de_non.pe (nomark _)) ha.mo (fun _ _ _ m q => m _ q) snd_notN
/-- x in a row of texts -/
def cInS : PyData → PyData → Prop | .str _, .tuple ds => ∃ zs : List Str, ds = zs.map .str | _, _ => False
def isS (z : Str) : PyData → Bool | .str y => y == z | _ => false
def gInS : PyData → PyData → PyData | .str z, .tuple ds => .bool (ds.any (isS z)) | _, _ => .none
theorem dts_strs {K : PySem.W.Frag} {H : Hp} : ∀ {xs : List V} {zs : List Str}, Dts K b H xs (zs.map .str) → xs = zs.map V.str
  | _, [], .nil => rfl
  | _, z :: zs, .cons h r => by
    cases h
    rw [dts_strs r]
    rfl
theorem snd_inS : Snd X.K b j (rIn X.K false) cInS gInS := fun x y dx dy H Q k hx hy c q => by
  cases hx <;> first | exact c.elim | skip
  cases hy <;> first | exact c.elim | skip
  rename_i z a xs ds h r
  obtain ⟨zs, rfl⟩ := c
  have e := dts_strs r
  subst e
  refine ⟨a, _, rfl, .inr h, rfl, ?_, ?_⟩
  · rw [List.all_map]
    exact List.all_eq_true.mpr fun _ _ => rfl
  · refine q _ H .refl ?_
    have e : (if false = true then !inV (V.str z) (zs.map V.str) else inV (V.str z) (zs.map V.str)) = (zs.map PyData.str).any (isS z) := by
      rw [if_neg Bool.false_ne_true]
      unfold inV
      rw [List.any_map, List.any_map]
      rfl
    rw [e]
    exact .bl _
theorem de_inS (ha : DE X b j e1 ta) (hb : DE X b j e2 tb) (hm : behindInMarks .In e2 = false := by rfl) : DE X b j (.Compare e1 [.In] [e2] pos) (dOp cInS gInS ta tb) := op2 (pe_cmpR op_in_seq ha.pe hb.pe hm) ha.mo hb.mo snd_inS
theorem dt_inS (ha : DE X b j e1 ta) (hb : DE X b j e2 tb) (hm : behindInMarks .In e2 = false := by rfl) : DT X b j (.Compare e1 [.In] [e2] pos) (dB (dOp cInS gInS ta tb)) := op2T (pt_cmpR op_in_seq ha.pe hb.pe hm) ha.mo hb.mo snd_inS
/-! ### and, or, not, if else, chains -/
theorem dw_and1 (h : DT X b j e t) : DW X b j (.BoolOp .And [e] pos) t := ⟨pw_and1 h.pt, h.mo⟩
theorem dw_or1 (h : DT X b j e t) : DW X b j (.BoolOp .Or [e] pos) t := ⟨pw_or1 h.pt, h.mo⟩
theorem dw_and (ha : DT X b j e t) (hb : DW X b j (.BoolOp .And (e1 :: es) pos) u) : DW X b j (.BoolOp .And (e :: e1 :: es) pos) (dtAnd t u) := by
  refine ⟨pwI (pw_and ha.pt hb.pw) ?_, fun ρ Q Q' m q => ha.mo ρ _ _ (fun c h => ?_) q⟩
  · rintro σ H Q ⟨ρ, H0, G, r, q⟩
    refine ⟨ρ, H0, G, r, ha.mo ρ _ _ (fun c q H1 s1 => ?_) q⟩
    cases c with
    | true => exact ⟨ρ, H0, G, r.step s1, hb.mo ρ _ _ (fun c q H2 s2 => q H2 (s1.trans s2)) q⟩
    | false => exact q H1 s1
  · cases c with
    | true => exact hb.mo ρ _ _ m h
    | false => exact m _ h
theorem dw_or (ha : DT X b j e t) (hb : DW X b j (.BoolOp .Or (e1 :: es) pos) u) : DW X b j (.BoolOp .Or (e :: e1 :: es) pos) (dtOr t u) := by
  refine ⟨pwI (pw_or ha.pt hb.pw) ?_, fun ρ Q Q' m q => ha.mo ρ _ _ (fun c h => ?_) q⟩
  · rintro σ H Q ⟨ρ, H0, G, r, q⟩
    refine ⟨ρ, H0, G, r, ha.mo ρ _ _ (fun c q H1 s1 => ?_) q⟩
    cases c with
    | false => exact ⟨ρ, H0, G, r.step s1, hb.mo ρ _ _ (fun c q H2 s2 => q H2 (s1.trans s2)) q⟩
    | true => exact q H1 s1
  · cases c with
    | false => exact hb.mo ρ _ _ m h
    | true => exact m _ h
theorem DW.dt (h : DW X b j e t) : DT X b j e t := ⟨h.pw.pt, h.mo⟩
theorem dt_not (h : DT X b j e t) : DT X b j (.UnaryOp .Not e pos) (dtNot t) := by
  refine ⟨ptI (pt_not h.pt) ?_, fun ρ Q Q' m q => h.mo ρ _ _ (fun c h => m _ h) q⟩
  rintro σ H Q ⟨ρ, H0, G, r, q⟩
  exact ⟨ρ, H0, G, r, q⟩
theorem de_one {op : BoolOp} (h : DE X b j e ta) : DE X b j (.BoolOp op [e] pos) ta := ⟨pe_one h.pe, h.mo⟩
theorem de_andV (ha : DE X b j e ta) (hb : DE X b j (.BoolOp .And (e1 :: es) pos) tb) : DE X b j (.BoolOp .And (e :: e1 :: es) pos) (dAnd ta tb) := by
  refine ⟨peI (pe_and ha.pe hb.pe) ?_, fun ρ Q Q' m q => ha.mo ρ _ _ (fun d h => bw1_mo (fun c h => ?_) h) q⟩
  · rintro σ H Q ⟨ρ, H0, G, r, q⟩
    refine ⟨ρ, H0, G, r, ha.mo ρ _ _ (fun d q v H1 s1 hv => ?_) q⟩
    cases hv <;> first | exact q.elim | skip
    rename_i c
    refine ⟨c, rfl, ?_⟩
    cases c with
    | true => exact ⟨ρ, H0, G, r.step s1, hb.mo ρ _ _ (fun d q v H2 s2 hv => q v H2 (s1.trans s2) hv) q⟩
    | false => exact q _ H1 s1 (.bl _)
  · cases c with
    | true => exact hb.mo ρ _ _ m h
    | false => exact m _ h
theorem de_orV (ha : DE X b j e ta) (hb : DE X b j (.BoolOp .Or (e1 :: es) pos) tb) : DE X b j (.BoolOp .Or (e :: e1 :: es) pos) (dOr ta tb) := by
  refine ⟨peI (pe_or ha.pe hb.pe) ?_, fun ρ Q Q' m q => ha.mo ρ _ _ (fun d h => bw1_mo (fun c h => ?_) h) q⟩
  · rintro σ H Q ⟨ρ, H0, G, r, q⟩
    refine ⟨ρ, H0, G, r, ha.mo ρ _ _ (fun d q v H1 s1 hv => ?_) q⟩
    cases hv <;> first | exact q.elim | skip
    rename_i c
    refine ⟨c, rfl, ?_⟩
    cases c with
    | false => exact ⟨ρ, H0, G, r.step s1, hb.mo ρ _ _ (fun d q v H2 s2 hv => q v H2 (s1.trans s2) hv) q⟩
    | true => exact q _ H1 s1 (.bl _)
  · cases c with
    | false => exact hb.mo ρ _ _ m h
    | true => exact m _ h
theorem de_not (ha : DE X b j e ta) : DE X b j (.UnaryOp .Not e pos) (dNot ta) := by
  refine ⟨peI (pe_not ha.pe) ?_, fun ρ Q Q' m q => ha.mo ρ _ _ (fun d h => bw1_mo (fun c h => m _ h) h) q⟩
  rintro σ H Q ⟨ρ, H0, G, r, q⟩
  refine ⟨ρ, H0, G, r, ha.mo ρ _ _ (fun d q v H1 s1 hv => ?_) q⟩
  cases hv <;> first | exact q.elim | exact ⟨_, rfl, q _ H1 s1 (.bl _)⟩
theorem de_if (hc : DT X b j e t) (ha : DE X b j e1 ta) (hb : DE X b j e2 tb) : DE X b j (.IfExp e e1 e2 pos) (dIf t ta tb) := by
  refine ⟨peI (pe_ifExp hc.pt ha.pe hb.pe) ?_, fun ρ Q Q' m q => hc.mo ρ _ _ (fun c h => ?_) q⟩
  · rintro σ H Q ⟨ρ, H0, G, r, q⟩
    refine ⟨ρ, H0, G, r, hc.mo ρ _ _ (fun c q H1 s1 => ?_) q⟩
    cases c with
    | true => exact ⟨ρ, H0, G, r.step s1, ha.mo ρ _ _ (fun d q v H2 s2 hv => q v H2 (s1.trans s2) hv) q⟩
    | false => exact ⟨ρ, H0, G, r.step s1, hb.mo ρ _ _ (fun d q v H2 s2 hv => q v H2 (s1.trans s2) hv) q⟩
  · cases c with
    | true => exact ha.mo ρ _ _ m h
    | false => exact hb.mo ρ _ _ m h
/-- a <= b <= c of whole numbers, and the like -/
def chI (f f' : Int → Int → Bool) (ta tb tc : DTE) : DTE := fun ρ Q => ta ρ fun x => tb ρ fun y => match x, y with
  | .int i, .int k => if f i k = true then tc ρ fun z => match z with | .int l => Q (.bool (f' k l)) | _ => False else Q (.bool false)
  | _, _ => False
theorem chI_mo {f f' : Int → Int → Bool} (ma : MoE ta) (mb : MoE tb) (mc : MoE tc) : MoE (chI f f' ta tb tc) := fun ρ Q Q' m q => ma ρ _ _ (fun x h => mb ρ _ _ (fun y h => by
  cases x <;> first | exact h.elim | skip
  cases y <;> first | exact h.elim | skip
  rename_i i _ k
  show if f i k = true then _ else _
  have h' : if f i k = true then (tc ρ fun z => match z with | .int l => Q (.bool (f' k l)) | _ => False) else Q (.bool false) := h
  split at h'
  · rename_i c
    rw [if_pos c]
    exact mc ρ _ _ (fun z h => by cases z <;> first | exact h.elim | exact m _ h) h'
  · rename_i c
    rw [if_neg c]
    exact m _ h') h) q
theorem chI_ok {f f' : Int → Int → Bool} (ma : MoE ta) (mb : MoE tb) (mc : MoE tc) : ∀ σ H Q, LE X.K b j (chI f f' ta tb tc) σ H Q → tChain (rI0 fun i k => .bl (f i k)) (rI0 fun i k => .bl (f' i k)) (LE X.K b j ta) (LE X.K b j tb) (LE X.K b j tc) σ H Q := by
  rintro σ H Q ⟨ρ, H0, G, r, q⟩
  refine ⟨ρ, H0, G, r, ma ρ _ _ (fun x q v H1 s1 hv => ?_) q⟩
  refine ⟨ρ, H0, G, r.step s1, mb ρ _ _ (fun y q w H2 s2 hw => ?_) q⟩
  cases hv <;> first | exact q.elim | skip
  cases hw <;> first | exact q.elim | skip
  rename_i i _ k
  have q' : if f i k = true then (tc ρ fun z => match z with | .int l => ∀ v H', Stp b j H H' → Dt X.K b H' v (.bool (f' k l)) → Q v H' | _ => False) else ∀ v H', Stp b j H H' → Dt X.K b H' v (.bool false) → Q v H' := q
  refine ⟨i, k, rfl, rfl, _, rfl, ?_⟩
  split at q'
  · rename_i c
    rw [if_pos c]
    refine ⟨ρ, H0, G, (r.step s1).step s2, mc ρ _ _ (fun z q w H3 s3 hw => ?_) q'⟩
    cases hw <;> first | exact q.elim | skip
    exact ⟨_, _, rfl, rfl, q _ H3 ((s1.trans s2).trans s3) (.bl _)⟩
  · rename_i c
    rw [if_neg c]
    exact q' _ H2 (s1.trans s2) (.bl _)
theorem de_lele (ha : DE X b j e1 ta) (hb : DE X b j e2 tb) (hc : DE X b j e3 tc) (hm : lastMarks [.LtE, .LtE] [e2, e3] = false := by with_unfolding_all rfl) : DE X b j (.Compare e1 [.LtE, .LtE] [e2, e3] pos) (chI (fun i k => decide (i ≤ k)) (fun i k => decide (i ≤ k)) ta tb tc) :=
  ⟨peI (pe_chain op_le op_le ha.pe hb.pe hc.pe hm) (chI_ok ha.mo hb.mo hc.mo), chI_mo ha.mo hb.mo hc.mo⟩
theorem dt_lele (ha : DE X b j e1 ta) (hb : DE X b j e2 tb) (hc : DE X b j e3 tc) (hm : lastMarks [.LtE, .LtE] [e2, e3] = false := by with_unfolding_all rfl) : DT X b j (.Compare e1 [.LtE, .LtE] [e2, e3] pos) (dB (chI (fun i k => decide (i ≤ k)) (fun i k => decide (i ≤ k)) ta tb tc)) := by
  refine ⟨ptI (pt_chain op_le op_le ha.pe hb.pe hc.pe hm) ?_, fun ρ Q Q' m q => chI_mo ha.mo hb.mo hc.mo ρ _ _ (fun d h => bw1_mo m h) q⟩
  rintro σ H Q ⟨ρ, H0, G, r, q⟩
  refine chI_ok ha.mo hb.mo hc.mo σ H _ ⟨ρ, H0, G, r, chI_mo ha.mo hb.mo hc.mo ρ _ _ (fun d q v H' st hv => ?_) q⟩
  cases hv <;> first | exact q.elim | exact ⟨_, rfl, q H' st⟩
end
end DL

namespace DL
open PySem PySem.Spec PyProof.Rows L2 GuL HG
section
variable {X : Cx} {b : Addr} {j : Bool} {e e1 e2 e3 : Expr} {es : List Expr} {pos p : Pos} {ta tb tc : DTE} {tt : DTA} {t u : DTT}
/-! ### isinstance -/
def tyN : PyData → String | .none => "NoneType" | .bool _ => "bool" | .int _ => "int" | .str _ => "str" | .list _ => "list" | .tuple _ => "tuple" | .dict _ => "dict"
def isT (T : String) (d : PyData) : Bool := (kitB (tyN d) T).getD false
def dIsi (T : String) (t : DTE) : DTE := fun ρ Q => t ρ fun d => Q (.bool (isT T d))
theorem dt_ty {K : PySem.W.Frag} {H : Hp} {x : V} {d : PyData} (h : Dt K b H x d) : TyX K H x (.type (tyN d)) := by
  cases h with
  | non => exact .base .non
  | bl c => exact .base (.bl c)
  | int i => exact .base (.int i)
  | str z => exact .base (.str z)
  | lst h _ _ =>
    rcases h with (h | ⟨o, h⟩) | ⟨o, its, n, h1, h2, _⟩
    · exact .base (.lst h)
    · exact .base (.frz h)
    · exact .kList h1 h2
  | tup h _ =>
    rcases h with (h | ⟨o, h⟩) | ⟨o, its, n, h1, h2, _⟩
    · exact .base (.tup h)
    · exact .fTuple h
    · exact .kTuple h1 h2
theorem de_isi {T : String} (hg : Gl X "isinstance") (hm : X.mg "isinstance" = none) (hT : PE X e1 (tC (.ty T))) (hk : ∀ d : PyData, (kitB (tyN d) T).isSome = true) (ha : DE X b j e ta)
    (he : starEach (e :: [e1]) X.env = (false, eval e X.env) :: starEach [e1] X.env := by rfl) (he2 : starEach [e1] X.env = (false, eval e1 X.env) :: starEach [] X.env := by rfl) (hpl : (backTo pos (starEach [e1] X.env)).any (·.1) = false := by rfl) : DE X b j (.Call (.Name "isinstance" p) (e :: [e1]) [] pos) (dIsi T ta) := by
  refine ⟨peI (pe_callB call_isi hg hm (by decide +kernel) (pa_cons ha.pe (pa_cons hT pa_nil he2) he) (by decide) (by decide) he hpl) ?_, fun ρ Q Q' m q => ha.mo ρ _ _ (fun d h => m _ h) q⟩
  rintro σ H Q ⟨ρ, H0, G, r, q⟩
  refine ⟨ρ, H0, G, r, ha.mo ρ _ _ (fun d q v H1 s1 hv => ?_) q⟩
  obtain ⟨c, hc⟩ := Option.isSome_iff_exists.mp (hk d)
  have e9 : isT T d = c := by unfold isT; rw [hc]; rfl
  refine ⟨v, .ty T, _, _, c, rfl, .ty _, dt_ty hv, kit_ty hc, ?_⟩
  rw [← e9]
  exact q _ H1 s1 (.bl _)
theorem kit_int (d : PyData) : (kitB (tyN d) "int").isSome = true := by cases d <;> (dsimp only [tyN]; decide +kernel)
theorem isT_int_none : isT "int" PyData.none = false := by show (kitB "NoneType" "int").getD false = false; decide +kernel
theorem isT_int_bool (c : Bool) : isT "int" (PyData.bool c) = true := by show (kitB "bool" "int").getD false = true; decide +kernel
theorem isT_int_int (i : Int) : isT "int" (PyData.int i) = true := by show (kitB "int" "int").getD false = true; decide +kernel
theorem isT_int_str (z : Str) : isT "int" (PyData.str z) = false := by show (kitB "str" "int").getD false = false; decide +kernel
theorem isT_int_list (ds : List PyData) : isT "int" (PyData.list ds) = false := by show (kitB "list" "int").getD false = false; decide +kernel
theorem isT_int_tuple (ds : List PyData) : isT "int" (PyData.tuple ds) = false := by show (kitB "tuple" "int").getD false = false; decide +kernel
theorem kit_bool (d : PyData) : (kitB (tyN d) "bool").isSome = true := by cases d <;> (dsimp only [tyN]; decide +kernel)
theorem isT_bool_none : isT "bool" PyData.none = false := by show (kitB "NoneType" "bool").getD false = false; decide +kernel
theorem isT_bool_bool (c : Bool) : isT "bool" (PyData.bool c) = true := by show (kitB "bool" "bool").getD false = true; decide +kernel
theorem isT_bool_int (i : Int) : isT "bool" (PyData.int i) = false := by show (kitB "int" "bool").getD false = false; decide +kernel
theorem isT_bool_str (z : Str) : isT "bool" (PyData.str z) = false := by show (kitB "str" "bool").getD false = false; decide +kernel
theorem isT_bool_list (ds : List PyData) : isT "bool" (PyData.list ds) = false := by show (kitB "list" "bool").getD false = false; decide +kernel
theorem isT_bool_tuple (ds : List PyData) : isT "bool" (PyData.tuple ds) = false := by show (kitB "tuple" "bool").getD false = false; decide +kernel
theorem kit_str (d : PyData) : (kitB (tyN d) "str").isSome = true := by cases d <;> (dsimp only [tyN]; decide +kernel)
theorem isT_str_none : isT "str" PyData.none = false := by show (kitB "NoneType" "str").getD false = false; decide +kernel
theorem isT_str_bool (c : Bool) : isT "str" (PyData.bool c) = false := by show (kitB "bool" "str").getD false = false; decide +kernel
theorem isT_str_int (i : Int) : isT "str" (PyData.int i) = false := by show (kitB "int" "str").getD false = false; decide +kernel
theorem isT_str_str (z : Str) : isT "str" (PyData.str z) = true := by show (kitB "str" "str").getD false = true; decide +kernel
theorem isT_str_list (ds : List PyData) : isT "str" (PyData.list ds) = false := by show (kitB "list" "str").getD false = false; decide +kernel
theorem isT_str_tuple (ds : List PyData) : isT "str" (PyData.tuple ds) = false := by show (kitB "tuple" "str").getD false = false; decide +kernel
theorem kit_tuple (d : PyData) : (kitB (tyN d) "tuple").isSome = true := by cases d <;> (dsimp only [tyN]; decide +kernel)
theorem isT_tuple_none : isT "tuple" PyData.none = false := by show (kitB "NoneType" "tuple").getD false = false; decide +kernel
theorem isT_tuple_bool (c : Bool) : isT "tuple" (PyData.bool c) = false := by show (kitB "bool" "tuple").getD false = false; decide +kernel
theorem isT_tuple_int (i : Int) : isT "tuple" (PyData.int i) = false := by show (kitB "int" "tuple").getD false = false; decide +kernel
theorem isT_tuple_str (z : Str) : isT "tuple" (PyData.str z) = false := by show (kitB "str" "tuple").getD false = false; decide +kernel
theorem isT_tuple_list (ds : List PyData) : isT "tuple" (PyData.list ds) = false := by show (kitB "list" "tuple").getD false = false; decide +kernel
theorem isT_tuple_tuple (ds : List PyData) : isT "tuple" (PyData.tuple ds) = true := by show (kitB "tuple" "tuple").getD false = true; decide +kernel
theorem kit_list (d : PyData) : (kitB (tyN d) "list").isSome = true := by cases d <;> (dsimp only [tyN]; decide +kernel)
theorem isT_list_none : isT "list" PyData.none = false := by show (kitB "NoneType" "list").getD false = false; decide +kernel
theorem isT_list_bool (c : Bool) : isT "list" (PyData.bool c) = false := by show (kitB "bool" "list").getD false = false; decide +kernel
theorem isT_list_int (i : Int) : isT "list" (PyData.int i) = false := by show (kitB "int" "list").getD false = false; decide +kernel
theorem isT_list_str (z : Str) : isT "list" (PyData.str z) = false := by show (kitB "str" "list").getD false = false; decide +kernel
theorem isT_list_list (ds : List PyData) : isT "list" (PyData.list ds) = true := by show (kitB "list" "list").getD false = true; decide +kernel
theorem isT_list_tuple (ds : List PyData) : isT "list" (PyData.tuple ds) = false := by show (kitB "tuple" "list").getD false = false; decide +kernel
/-! ### all, any, sum, tuple of a list -/
def dAll (t : DTE) : DTE := fun ρ Q => t ρ fun d => ∃ bs : List Bool, d = .list (bs.map .bool) ∧ Q (.bool (bs.all id))
def dSum (t : DTE) : DTE := fun ρ Q => t ρ fun d => ∃ ns : List Int, d = .list (ns.map .int) ∧ Q (.int ns.sum)
theorem dts_bools {K : PySem.W.Frag} {H : Hp} : ∀ {xs : List V} {zs : List Bool}, Dts K b H xs (zs.map .bool) → xs = zs.map V.bl
  | _, [], .nil => rfl
  | _, z :: zs, .cons h r => by
    cases h
    rw [dts_bools r]
    rfl
theorem dts_ints {K : PySem.W.Frag} {H : Hp} : ∀ {xs : List V} {zs : List Int}, Dts K b H xs (zs.map .int) → xs = zs.map V.int
  | _, [], .nil => rfl
  | _, z :: zs, .cons h r => by
    cases h
    rw [dts_ints r]
    rfl
theorem de_all (hc : X.calm = true) (hg : Gl X "all") (hm : X.mg "all" = none) (ha : DE X b j e ta)
    (he : starEach [e] X.env = (false, eval e X.env) :: starEach [] X.env := by rfl) (hpl : (backTo pos (starEach [] X.env)).any (·.1) = false := by rfl) : DE X b j (.Call (.Name "all" p) [e] [] pos) (dAll ta) := by
  refine ⟨peI (pe_callB (cr_all hc) hg hm (by decide +kernel) (pa_cons ha.pe pa_nil he) (by decide) (by decide) he hpl) ?_, fun ρ Q Q' m q => ha.mo ρ _ _ (fun d ⟨bs, e, h⟩ => ⟨bs, e, m _ h⟩) q⟩
  rintro σ H Q ⟨ρ, H0, G, r, q⟩
  refine ⟨ρ, H0, G, r, ha.mo ρ _ _ (fun d q v H1 s1 hv => ?_) q⟩
  obtain ⟨bs, rfl, q⟩ := q
  cases hv with
  | lst h1 h2 h3 =>
    have e := dts_bools h3
    subst e
    exact ⟨_, bs, rfl, h1, q _ H1 s1 (.bl _)⟩
theorem de_sum (hc : X.calm = true) (hg : Gl X "sum") (hm : X.mg "sum" = none) (ha : DE X b j e ta)
    (he : starEach [e] X.env = (false, eval e X.env) :: starEach [] X.env := by rfl) (hpl : (backTo pos (starEach [] X.env)).any (·.1) = false := by rfl) : DE X b j (.Call (.Name "sum" p) [e] [] pos) (dSum ta) := by
  refine ⟨peI (pe_callB (cr_sum hc) hg hm (by decide +kernel) (pa_cons ha.pe pa_nil he) (by decide) (by decide) he hpl) ?_, fun ρ Q Q' m q => ha.mo ρ _ _ (fun d ⟨bs, e, h⟩ => ⟨bs, e, m _ h⟩) q⟩
  rintro σ H Q ⟨ρ, H0, G, r, q⟩
  refine ⟨ρ, H0, G, r, ha.mo ρ _ _ (fun d q v H1 s1 hv => ?_) q⟩
  obtain ⟨bs, rfl, q⟩ := q
  cases hv with
  | lst h1 h2 h3 =>
    have e := dts_ints h3
    subst e
    exact ⟨_, bs, rfl, h1, q _ H1 s1 (.int _)⟩
def cTu : List PyData → Prop | [.list _] => True | [.tuple _] => True | _ => False
def gTu : List PyData → PyData | [.list ds] => .tuple ds | [.tuple ds] => .tuple ds | _ => .none
theorem de_tuple (hg : Gl X "tuple") (hm : X.mg "tuple" = none) (ha : DA X b j (e :: es) tt)
    (he : starEach (e :: es) X.env = (false, eval e X.env) :: starEach es X.env := by rfl) (hpl : (backTo pos (starEach es X.env)).any (·.1) = false := by rfl) : DE X b j (.Call (.Name "tuple" p) (e :: es) [] pos) (dCB cTu gTu tt) :=
  de_cb (pe_callTy call_tuple_of hg hm (by decide +kernel) ha.pa (by decide) (by decide) he hpl) ha.mo fun xs ds H Q k h c q => by
    cases h with
    | nil => exact c.elim
    | cons h1 h2 =>
      cases h2 with
      | cons _ _ => cases h1 <;> exact c.elim
      | nil =>
        cases h1 with
        | lst g1 g2 g3 => exact ⟨_, _, rfl, .inl ⟨g1, fun l hl => q _ _ (.new hl) (.tup (SqT.of upd_same) (g3.stp k (.new hl)))⟩⟩
        | tup g1 g3 => exact ⟨_, _, rfl, .inr ⟨g1, q _ _ .refl (.tup g1 g3)⟩⟩
        | _ => exact c.elim
/-! ### numbers -/
def c2I : List PyData → Prop | [.int _, .int _] => True | _ => False
def g2I (f : Int → Int → Int) : List PyData → PyData | [.int i, .int k] => .int (f i k) | _ => .none
def c1I : List PyData → Prop | [.int _] => True | _ => False
def g1I (f : Int → Int) : List PyData → PyData | [.int i] => .int (f i) | _ => .none
theorem snd_2I {f : Int → Int → Int} : SndC X.K b j (fun xs H Q => ∃ i k, xs = [.int i, .int k] ∧ Q (.int (f i k)) H) c2I (g2I f) := fun xs ds H Q k h c q => by
  cases h with
  | nil => exact c.elim
  | cons h1 h2 =>
    cases h2 with
    | nil => cases h1 <;> exact c.elim
    | cons h2 h3 =>
      cases h3 with
      | cons _ _ => cases h1 <;> cases h2 <;> exact c.elim
      | nil =>
        cases h1 <;> cases h2 <;> first | exact c.elim | exact ⟨_, _, rfl, q _ _ .refl (.int _)⟩
theorem de_max (hc : X.calm = true) (hg : Gl X "max") (hm : X.mg "max" = none) (ha : DA X b j (e :: es) tt)
    (he : starEach (e :: es) X.env = (false, eval e X.env) :: starEach es X.env := by rfl) (hpl : (backTo pos (starEach es X.env)).any (·.1) = false := by rfl) : DE X b j (.Call (.Name "max" p) (e :: es) [] pos) (dCB c2I (g2I fun i k => if k > i then k else i) tt) :=
  de_cb (pe_callB (call_max2 hc) hg hm (by decide +kernel) ha.pa (by decide) (by decide) he hpl) ha.mo snd_2I
theorem de_min (hc : X.calm = true) (hg : Gl X "min") (hm : X.mg "min" = none) (ha : DA X b j (e :: es) tt)
    (he : starEach (e :: es) X.env = (false, eval e X.env) :: starEach es X.env := by rfl) (hpl : (backTo pos (starEach es X.env)).any (·.1) = false := by rfl) : DE X b j (.Call (.Name "min" p) (e :: es) [] pos) (dCB c2I (g2I fun i k => if k < i then k else i) tt) :=
  de_cb (pe_callB (call_min2 hc) hg hm (by decide +kernel) ha.pa (by decide) (by decide) he hpl) ha.mo snd_2I
theorem snd_1I {f : Int → Int} : SndC X.K b j (fun xs H Q => ∃ i, xs = [.int i] ∧ Q (.int (f i)) H) c1I (g1I f) := fun xs ds H Q k h c q => by
  cases h with
  | nil => exact c.elim
  | cons h1 h2 =>
    cases h2 with
    | cons _ _ => cases h1 <;> exact c.elim
    | nil => cases h1 <;> first | exact c.elim | exact ⟨_, rfl, q _ _ .refl (.int _)⟩
theorem de_abs (hg : Gl X "abs") (hm : X.mg "abs" = none) (ha : DA X b j (e :: es) tt)
    (he : starEach (e :: es) X.env = (false, eval e X.env) :: starEach es X.env := by rfl) (hpl : (backTo pos (starEach es X.env)).any (·.1) = false := by rfl) : DE X b j (.Call (.Name "abs" p) (e :: es) [] pos) (dCB c1I (g1I fun i => if i < 0 then -i else i) tt) :=
  de_cb (pe_callB call_abs hg hm (by decide +kernel) ha.pa (by decide) (by decide) he hpl) ha.mo snd_1I
theorem de_intc (hg : Gl X "int") (hm : X.mg "int" = none) (ha : DA X b j (e :: es) tt)
    (he : starEach (e :: es) X.env = (false, eval e X.env) :: starEach es X.env := by rfl) (hpl : (backTo pos (starEach es X.env)).any (·.1) = false := by rfl) : DE X b j (.Call (.Name "int" p) (e :: es) [] pos) (dCB c1I (g1I fun i => i) tt) :=
  de_cb (pe_callTy call_int1 hg hm (by decide +kernel) ha.pa (by decide) (by decide) he hpl) ha.mo fun xs ds H Q k h c q => .inl (snd_1I (f := fun i => i) xs ds H Q k h c q)
/-! ### repr -/
def dRepr (t : DTE) : DTE := fun ρ Q => t ρ fun d => Okd d ∧ d.hasDict = false ∧ Q (.str d.shown)
theorem de_repr (hA : X.A.guards = some []) (hu : X.A.units + 64 < cLine) (hg : Gl X "repr") (hm : X.mg "repr" = none) (ha : DE X b j e ta)
    (he : starEach [e] X.env = (false, eval e X.env) :: starEach [] X.env := by rfl) (hpl : (backTo pos (starEach [] X.env)).any (·.1) = false := by rfl) : DE X b j (.Call (.Name "repr" p) [e] [] pos) (dRepr ta) := by
  refine ⟨peI (pe_callB (call_repr hA hu) hg hm (by decide +kernel) (pa_cons ha.pe pa_nil he) (by decide) (by decide) he hpl) ?_, fun ρ Q Q' m q => ha.mo ρ _ _ (fun d ⟨h1, h2, h⟩ => ⟨h1, h2, m _ h⟩) q⟩
  rintro σ H Q ⟨ρ, H0, G, r, q⟩
  refine ⟨ρ, H0, G, r, ha.mo ρ _ _ (fun d q v H1 s1 hv => ?_) q⟩
  obtain ⟨h1, h2, q⟩ := q
  exact ⟨v, d, rfl, .dat hv.dp h2, h1.sh, h1.dp, h1.fits, q _ H1 s1 (.str _)⟩
/-! ### calls of own functions -/
abbrev DF := List PyData → (PyData → Prop) → Prop
abbrev DFN := List PyData → (List PyData → Prop) → Prop
abbrev MoF (F : DF) : Prop := ∀ ds (Q Q' : PyData → Prop), (∀ d, Q d → Q' d) → F ds Q → F ds Q'
abbrev MoFN (F : DFN) : Prop := ∀ ds (Q Q' : List PyData → Prop), (∀ d, Q d → Q' d) → F ds Q → F ds Q'
/-- nothing changes, data in and out -/
def spP (K : PySem.W.Frag) (F : DF) : Sp := fun vs H Q _ => ∃ b ds, Kn b false H ∧ Dts K b H vs ds ∧ F ds fun d => ∀ v H', Same H H' → Dt K b H' v d → Q v H'
/-- the same, a new list out -/
def spN (K : PySem.W.Frag) (F : DFN) : Sp := fun vs H Q _ => ∃ b ds, Kn b false H ∧ Dts K b H vs ds ∧ F ds fun es => ∀ p xs H', Same H H' → H p = none → H' p = some (.lst xs) → Dts K b H' xs es → Q (.ref p) H'
/-- the jar ahead, which changes -/
def spJ (K : PySem.W.Frag) (F : DF) : Sp := fun vs H Q _ => ∃ b vs' ds, vs = .ref b :: vs' ∧ Kn b true H ∧ Dts K b H vs' ds ∧ F ds fun d => ∀ v H', Stp b true H H' → Dt K b H' v d → Q v H'
/-- a def that is known -/
structure DK (P : Program) (w : World) (K : PySem.W.Frag) (mg : Str → Option Value) (base : Heap) (k : Nat) (x : Str) (st : Stmt) (ps : List Str) (sp : Sp) (f : Addr) (fd : FuncData) : Prop where
  F : Fun K x x st f fd
  b : Binds K fd ps []
  g : mg x = some (.ref f)
  G : FnG P w K mg base CX0 k f fd ps sp
def dCall (F : DF) (t : DTA) : DTE := fun ρ Q => t ρ fun ds => F ds Q
def nCall (F : DFN) (t : DTA) : DTA := fun ρ Q => t ρ fun ds => F ds Q
def dCallJ (i : Nat) (F : DF) (t : DTA) : DTE := fun ρ Q => ρ[i]? = some .jar ∧ t ρ fun ds => F ds Q
variable {k : Nat} {f : Addr} {fd : FuncData} {ps : List Str} {x : Str} {F : DF} {FN : DFN}
theorem de_call (G : FnG X.prog X.w X.K X.mg X.base CX0 k f fd ps (spP X.K F)) (mF : MoF F) (hA : X.A.guards = some []) (hr : Room k X.A) (hg : Gl X x) (hm : X.mg x = some (.ref f)) (hk : PySem.W.keepIn X.K (.ref f) = true) (hb : Binds X.K fd ps []) (hx : Passes CX0 X (fun _ _ _ => False)) (ha : DA X b j (e :: es) tt)
    (hdb : (x == ("__debug__" : Str)) = false := by decide) (he : starEach (e :: es) X.env = (false, eval e X.env) :: starEach es X.env := by rfl) (hpl : (backTo pos (starEach es X.env)).any (·.1) = false := by rfl) : DE X b j (.Call (.Name x p) (e :: es) [] pos) (dCall F tt) := by
  refine ⟨peI (pe_callG G hA hr hg hm hk hb .nil hx ha.pa hdb he hpl) ?_, fun ρ Q Q' m q => ha.mo ρ _ _ (fun ds h => mF _ _ _ m h) q⟩
  rintro σ H Q ⟨ρ, H0, G0, r, q⟩
  refine ⟨ρ, H0, G0, r, ha.mo ρ _ _ (fun ds q vs H1 s1 hv => ?_) q⟩
  show spP X.K F (vs ++ []) H1 Q _
  rw [List.append_nil]
  exact ⟨b, ds, (r.step s1).knH.pure, hv, mF _ _ _ (fun d q v H' s2 hd => q v H' (s1.trans (.same s2)) hd) q⟩
theorem dn_call (G : FnG X.prog X.w X.K X.mg X.base CX0 k f fd ps (spN X.K FN)) (mF : MoFN FN) (hA : X.A.guards = some []) (hr : Room k X.A) (hg : Gl X x) (hm : X.mg x = some (.ref f)) (hk : PySem.W.keepIn X.K (.ref f) = true) (hb : Binds X.K fd ps []) (hx : Passes CX0 X (fun _ _ _ => False)) (ha : DA X b j (e :: es) tt)
    (hdb : (x == ("__debug__" : Str)) = false := by decide) (he : starEach (e :: es) X.env = (false, eval e X.env) :: starEach es X.env := by rfl) (hpl : (backTo pos (starEach es X.env)).any (·.1) = false := by rfl) : DN X b j (.Call (.Name x p) (e :: es) [] pos) (nCall FN tt) := by
  refine ⟨peI (pe_callG G hA hr hg hm hk hb .nil hx ha.pa hdb he hpl) ?_, fun ρ Q Q' m q => ha.mo ρ _ _ (fun ds h => mF _ _ _ m h) q⟩
  rintro σ H Q ⟨ρ, H0, G0, r, q⟩
  refine ⟨ρ, H0, G0, r, ha.mo ρ _ _ (fun ds q vs H1 s1 hv => ?_) q⟩
  show spN X.K FN (vs ++ []) H1 Q _
  rw [List.append_nil]
  exact ⟨b, ds, (r.step s1).knH.pure, hv, mF _ _ _ (fun d q p xs H' s2 hp hx hd => q p xs H' (s1.trans (.same s2)) (s1.free r.knH hp) hx hd) q⟩
theorem de_callJ {i : Nat} (G : FnG X.prog X.w X.K X.mg X.base CX0 k f fd ps (spJ X.K F)) (mF : MoF F) (hA : X.A.guards = some []) (hr : Room k X.A) (hg : Gl X x) (hm : X.mg x = some (.ref f)) (hk : PySem.W.keepIn X.K (.ref f) = true) (hb : Binds X.K fd ps []) (hx : Passes CX0 X (fun _ _ _ => False)) (hi : PE X e (tVar i)) (ha : DA X b true es tt)
    (hdb : (x == ("__debug__" : Str)) = false := by decide) (he : starEach (e :: es) X.env = (false, eval e X.env) :: starEach es X.env := by rfl) (hpl : (backTo pos (starEach es X.env)).any (·.1) = false := by rfl) : DE X b true (.Call (.Name x p) (e :: es) [] pos) (dCallJ i F tt) := by
  refine ⟨peI (pe_callG G hA hr hg hm hk hb .nil hx (pa_cons hi ha.pa he) hdb he hpl) ?_, fun ρ Q Q' m q => ⟨q.1, ha.mo ρ _ _ (fun ds h => mF _ _ _ m h) q.2⟩⟩
  rintro σ H Q ⟨ρ, H0, G0, r, hj, q⟩
  refine ⟨.ref b, get_join (r.sl i _ hj), ρ, H0, G0, r, ha.mo ρ _ _ (fun ds q vs H1 s1 hv => ?_) q⟩
  show spJ X.K F ((.ref b :: vs) ++ []) H1 Q _
  rw [List.append_nil]
  exact ⟨b, vs, ds, rfl, (r.step s1).knH, hv, mF _ _ _ (fun d q v H' s2 hd => q v H' (s1.trans s2) hd) q⟩
end
end DL

namespace DL
open PySem PySem.Spec PyProof.Rows L2 GuL HG
structure DEnds where
  nx : List SV → Prop
  rt : PyData → Prop := fun _ => False
  rn : List PyData → Prop := fun _ => False
  bk : List SV → Prop := fun _ => False
  ct : List SV → Prop := fun _ => False
abbrev DTS := DEnds → List SV → Prop
/-- what is wanted behind, of values and the heap -/
def lft (K : PySem.W.Frag) (b : Addr) (j : Bool) (H0 G : Hp) (D : Ends) : DEnds where
  nx := fun ρ' => ∀ σ' H', Rel K b j H0 G σ' H' ρ' → D.nx σ' H'
  rt := fun d => ∀ v H', Stp b j H0 H' → Dt K b H' v d → D.rt v H'
  rn := fun ds => ∀ p xs H', Stp b j H0 H' → H0 p = none → H' p = some (.lst xs) → Dts K b H' xs ds → D.rt (.ref p) H'
  bk := fun ρ' => ∀ σ' H', Rel K b j H0 G σ' H' ρ' → D.bk σ' H'
  ct := fun ρ' => ∀ σ' H', Rel K b j H0 G σ' H' ρ' → D.ct σ' H'
def LS (K : PySem.W.Frag) (b : Addr) (j : Bool) (t : DTS) : TS := fun D σ H => ∃ ρ H0 G, Rel K b j H0 G σ H ρ ∧ t (lft K b j H0 G D) ρ
structure DEnds.Le (D D' : DEnds) : Prop where
  nx : ∀ ρ, D.nx ρ → D'.nx ρ
  rt : ∀ d, D.rt d → D'.rt d
  rn : ∀ d, D.rn d → D'.rn d
  bk : ∀ ρ, D.bk ρ → D'.bk ρ
  ct : ∀ ρ, D.ct ρ → D'.ct ρ
theorem DEnds.Le.refl (D : DEnds) : D.Le D := ⟨fun _ h => h, fun _ h => h, fun _ h => h, fun _ h => h, fun _ h => h⟩
abbrev MoS (t : DTS) : Prop := ∀ D D' ρ, D.Le D' → t D ρ → t D' ρ
structure DS (X : Cx) (b : Addr) (j : Bool) (s : Stmt) (t : DTS) : Prop where
  ps : PS X s (LS X.K b j t)
  mo : MoS t
structure DSs (X : Cx) (b : Addr) (j : Bool) (s : List Stmt) (t : DTS) : Prop where
  ps : PSs X s (LS X.K b j t)
  mo : MoS t
theorem psI {X : Cx} {s : Stmt} {t t' : TS} (h : PS X s t') (i : ∀ D σ H, t D σ H → t' D σ H) : PS X s t := ⟨fun pins sh σ H D I q => h.run pins sh σ H D I (i D σ H q)⟩
theorem pssI {X : Cx} {s : List Stmt} {t t' : TS} (h : PSs X s t') (i : ∀ D σ H, t D σ H → t' D σ H) : PSs X s t := ⟨fun pins sh σ H D I q => h.run pins sh σ H D I (i D σ H q)⟩
def sNext : DTS := fun D ρ => D.nx ρ
def sSeq (t u : DTS) : DTS := fun D ρ => t { D with nx := u D } ρ
def sNever : DTS := fun _ _ => False
def sRet (t : DTE) : DTS := fun D ρ => t ρ D.rt
def sRetN (t : DTA) : DTS := fun D ρ => t ρ D.rn
def sRetO (i : Nat) : DTS := fun D ρ => match ρ[i]? with | some (.own ds) => D.rn ds | _ => False
def sIf (c : DTT) (t u : DTS) : DTS := fun D ρ => c ρ fun k => if k = true then t D ρ else u D ρ
def sSet (i : Nat) (t : DTE) : DTS := fun D ρ => t ρ fun d => NoL d ∧ D.nx (ρ.set i (.dat d))
def sNew (i : Nat) (t : DTA) : DTS := fun D ρ => t ρ fun ds => (∀ d ∈ ds, NoL d) ∧ D.nx (ρ.set i (.own ds))
def sMov (i k : Nat) : DTS := fun D ρ => match ρ[k]? with | some (.own ds) => D.nx ((ρ.set k .nil).set i (.own ds)) | _ => False
def sDo (t : DTE) : DTS := fun D ρ => t ρ fun _ => D.nx ρ
def sApp (i : Nat) (t : DTE) : DTS := fun D ρ => match ρ[i]? with | some (.own ds) => t ρ fun d => NoL d ∧ ds.length < 100000 ∧ D.nx (ρ.set i (.own (ds ++ [d]))) | _ => False
def sExt (i : Nat) (t : DTA) : DTS := fun D ρ => match ρ[i]? with | some (.own ds) => t ρ fun es => (∀ d ∈ es, NoL d) ∧ ds.length + es.length ≤ 100000 ∧ D.nx (ρ.set i (.own (ds ++ es))) | _ => False
def setAll : List SV → List Nat → List PyData → List SV
  | ρ, i :: is, d :: ds => setAll (ρ.set i (.dat d)) is ds
  | ρ, _, _ => ρ
def sUnp (is : List Nat) (t : DTE) : DTS := fun D ρ => t ρ fun d => match d with | .tuple ds => ds.length = is.length ∧ (∀ d ∈ ds, NoL d) ∧ D.nx (setAll ρ is ds) | _ => False
def sPar (i k : Nat) (t u : DTE) : DTS := fun D ρ => t ρ fun d => u ρ fun e => NoL d ∧ NoL e ∧ D.nx ((ρ.set i (.dat d)).set k (.dat e))
def sParN (i k : Nat) (t : DTA) (u : DTE) : DTS := fun D ρ => t ρ fun ds => u ρ fun e => (∀ d ∈ ds, NoL d) ∧ NoL e ∧ D.nx ((ρ.set i (.own ds)).set k (.dat e))
section
variable {X : Cx} {b : Addr} {j : Bool} {e e1 e2 : Expr} {es : List Expr} {pos : Pos} {ta tb tc : DTE} {tt : DTA} {c : DTT} {st : Stmt} {ss ss' : List Stmt} {t u : DTS}
theorem le_seq {D D' : DEnds} (h : D.Le D') (m : MoS u) : DEnds.Le { D with nx := u D } { D' with nx := u D' } := ⟨fun ρ q => m _ _ _ h q, h.rt, h.rn, h.bk, h.ct⟩
theorem dss_nil : DSs X b j [] sNext := ⟨pssI pss_nil fun D σ H ⟨ρ, H0, G, r, q⟩ => q σ H r, fun D D' ρ h q => h.nx ρ q⟩
theorem dss_cons (h1 : DS X b j st t) (h2 : DSs X b j ss u) : DSs X b j (st :: ss) (sSeq t u) := by
  refine ⟨pssI (pss_cons h1.ps h2.ps) ?_, fun D D' ρ h q => h1.mo _ _ _ (le_seq h h2.mo) q⟩
  rintro D σ H ⟨ρ, H0, G, r, q⟩
  exact ⟨ρ, H0, G, r, h1.mo { lft X.K b j H0 G D with nx := u (lft X.K b j H0 G D) } (lft X.K b j H0 G { D with nx := LS X.K b j u D }) ρ ⟨fun ρ' q σ' H' r' => ⟨ρ', H0, G, r', q⟩, fun _ h => h, fun _ h => h, fun _ h => h, fun _ h => h⟩ q⟩
theorem dss_one (h1 : DS X b j st t) : DSs X b j [st] t := ⟨pssI (pss_one h1.ps) fun D σ H h => h, h1.mo⟩
theorem ds_never : DS X b j st sNever := ⟨psI ps_never fun _ _ _ ⟨_, _, _, _, q⟩ => q.elim, fun _ _ _ _ q => q.elim⟩
theorem dss_never : DSs X b j ss sNever := ⟨pssI pss_never fun _ _ _ ⟨_, _, _, _, q⟩ => q.elim, fun _ _ _ _ q => q.elim⟩
theorem ds_ret (h : DE X b j e ta) : DS X b j (.Return (some e) pos) (sRet ta) := by
  refine ⟨psI (ps_ret h.pe) ?_, fun D D' ρ l q => h.mo _ _ _ l.rt q⟩
  rintro D σ H ⟨ρ, H0, G, r, q⟩
  exact ⟨ρ, H0, G, r, h.mo _ _ _ (fun d q v H' st hv => q v H' (r.s0.trans st) hv) q⟩
theorem ds_retN (h : DN X b j e tt) : DS X b j (.Return (some e) pos) (sRetN tt) := by
  refine ⟨psI (ps_ret h.pe) ?_, fun D D' ρ l q => h.mo _ _ _ l.rn q⟩
  rintro D σ H ⟨ρ, H0, G, r, q⟩
  exact ⟨ρ, H0, G, r, h.mo _ _ _ (fun ds q p xs H' st hp hx hd => q p xs H' (r.s0.trans st) (r.s0.free r.kn hp) hx hd) q⟩
theorem ds_retO {i : Nat} (h : PE X e (tVar i)) : DS X b j (.Return (some e) pos) (sRetO i) := by
  refine ⟨psI (ps_ret h) ?_, fun D D' ρ l q => ?_⟩
  · rintro D σ H ⟨ρ, H0, G, r, q⟩
    unfold sRetO at q
    split at q
    · rename_i ds e
      obtain ⟨p, xs, e1, h1, h2, h3, h4, h5⟩ := r.own_at e
      exact ⟨_, e1, q p xs H r.s0 (r.sg.free r.kn h4) h1 h2⟩
    · exact q.elim
  · unfold sRetO at q ⊢
    split at q
    · exact l.rn _ q
    · exact q.elim
theorem ds_if (hc : DT X b j e c) (ha : DSs X b j ss t) (hb : DSs X b j ss' u) : DS X b j (.If e ss ss' pos) (sIf c t u) := by
  refine ⟨psI (ps_if hc.pt ha.ps hb.ps) ?_, fun D D' ρ l q => hc.mo _ _ _ (fun k h => ?_) q⟩
  · rintro D σ H ⟨ρ, H0, G, r, q⟩
    refine ⟨ρ, H0, G, r, hc.mo _ _ _ (fun k q H1 s1 => ?_) q⟩
    cases k with
    | true => exact ⟨ρ, H0, G, r.step s1, q⟩
    | false => exact ⟨ρ, H0, G, r.step s1, q⟩
  · cases k with
    | true => exact ha.mo _ _ _ l h
    | false => exact hb.mo _ _ _ l h
theorem ds_set {i : Nat} {x : Str} {pos' : Pos} (hN : X.N.Nodup) (hi : X.N[i]? = some x) (hx : Loc X.env.scope x) (he : DE X b j e ta) (hs : swapsWith e (some (.Name x pos')) pos.line X.env = pure false := by rfl)
    (hf : X.fn x = true ∨ X.env.scope.names.lookup x = some .local := by first | exact .inl rfl | exact .inr rfl) : DS X b j (.Assign [.Name x pos'] e pos) (sSet i ta) := by
  refine ⟨psI (ps_set hN hi hx he.pe hs hf) ?_, fun D D' ρ l q => he.mo _ _ _ (fun d h => ⟨h.1, l.nx _ h.2⟩) q⟩
  rintro D σ H ⟨ρ, H0, G, r, q⟩
  exact ⟨ρ, H0, G, r, he.mo _ _ _ (fun d q v H' st hv => q.2 _ _ ((r.step st).setD hv q.1)) q⟩
theorem Rel.setN {K : PySem.W.Frag} {H0 G H : Hp} {σ : L2.St} {ρ : List SV} {i : Nat} {p : Addr} {xs : List V} {ds : List PyData} {H1 : Hp} (r : Rel K b j H0 G σ H ρ) (st : Stp b j H H1) (hp : H p = none) (hx : H1 p = some (.lst xs)) (hd : Dts K b H1 xs ds) (n : ∀ d ∈ ds, NoL d) :
    Rel K b j H0 G (σ.set i (some (.ref p))) H1 (ρ.set i (.own ds)) := by
  refine (r.step st).set ⟨p, xs, rfl, hx, hd, n, r.st.free r.knG hp, r.knH.ne hp⟩ fun ds' _ k ds'' q nk e1 e2 => ?_
  cases e2
  obtain ⟨p', xs', e3, e4, _⟩ := r.own_at e1
  intro z
  rw [e3] at z
  cases z
  rw [e4] at hp
  cases hp
theorem ds_new {i : Nat} {x : Str} {pos' : Pos} (hN : X.N.Nodup) (hi : X.N[i]? = some x) (hx : Loc X.env.scope x) (he : DN X b j e tt) (hs : swapsWith e (some (.Name x pos')) pos.line X.env = pure false := by rfl)
    (hf : X.fn x = true ∨ X.env.scope.names.lookup x = some .local := by first | exact .inl rfl | exact .inr rfl) : DS X b j (.Assign [.Name x pos'] e pos) (sNew i tt) := by
  refine ⟨psI (ps_set hN hi hx he.pe hs hf) ?_, fun D D' ρ l q => he.mo _ _ _ (fun d h => ⟨h.1, l.nx _ h.2⟩) q⟩
  rintro D σ H ⟨ρ, H0, G, r, q⟩
  exact ⟨ρ, H0, G, r, he.mo _ _ _ (fun ds q p xs H' st hp hx hd => q.2 _ _ (r.setN st hp hx hd q.1)) q⟩
theorem ds_mov {i k : Nat} {x : Str} {pos' : Pos} (hN : X.N.Nodup) (hi : X.N[i]? = some x) (hx : Loc X.env.scope x) (he : PE X e (tVar k)) (hs : swapsWith e (some (.Name x pos')) pos.line X.env = pure false := by rfl)
    (hf : X.fn x = true ∨ X.env.scope.names.lookup x = some .local := by first | exact .inl rfl | exact .inr rfl) : DS X b j (.Assign [.Name x pos'] e pos) (sMov i k) := by
  refine ⟨psI (ps_set hN hi hx he hs hf) ?_, fun D D' ρ l q => ?_⟩
  · rintro D σ H ⟨ρ, H0, G, r, q⟩
    unfold sMov at q
    split at q
    · rename_i ds e
      obtain ⟨p, xs, e1, h1, h2, h3, h4, h5⟩ := r.own_at e
      refine ⟨_, e1, q _ _ (r.forget.set ⟨p, xs, rfl, h1, h2, h3, h4, h5⟩ fun ds' _ m ds'' q' nk e3 e4 => ?_)⟩
      cases e4
      rw [List.getElem?_set] at e3
      split at e3
      · split at e3 <;> cases e3
      · rename_i ne
        exact r.dis k m ds ds'' p ne e e3 e1
    · exact q.elim
  · unfold sMov at q ⊢
    split at q
    · exact l.nx _ q
    · exact q.elim
theorem ds_do (he : DE X b j e ta) (hs : swapsWith e none pos.line X.env = pure false := by rfl) : DS X b j (.Expr e pos) (sDo ta) := by
  refine ⟨psI (ps_expr he.pe hs) ?_, fun D D' ρ l q => he.mo _ _ _ (fun d h => l.nx _ h) q⟩
  rintro D σ H ⟨ρ, H0, G, r, q⟩
  exact ⟨ρ, H0, G, r, he.mo _ _ _ (fun d q v H' st hv => q _ _ (r.step st)) q⟩
theorem Rel.own_put {K : PySem.W.Frag} {H0 G H H1 : Hp} {σ : L2.St} {ρ : List SV} {i : Nat} {p : Addr} {ds es : List PyData} {ys : List V} (r : Rel K b j H0 G σ H1 ρ) (e : ρ[i]? = some (.own ds)) (e1 : σ[i]? = some (some (.ref p)))
    (hy : Dts K b H1 ys es) (n : ∀ d ∈ es, NoL d) : Rel K b j H0 G σ (upd H1 p (.lst ys)) (ρ.set i (.own es)) := by
  obtain ⟨p', xs, e1', h1, h2, h3, h4, h5⟩ := r.own_at e
  rw [e1] at e1'
  cases e1'
  have s1 : ∀ {q : Addr} {u : HO}, H1 q = some u → q ≠ p → upd H1 p (.lst ys) q = some u := fun {q u} h nq => by rw [upd_ne nq]; exact h
  have nb : b ≠ p := fun z => h5 z.symm
  have sJ : Jar b H1 → Jar b (upd H1 p (.lst ys)) := fun ⟨o, m, c, g1, g2⟩ => ⟨o, m, c, s1 g1 nb, g2⟩
  have st' : Stp b j G (upd H1 p (.lst ys)) := ⟨fun q u nq g => s1 (r.st.1 q u nq g) (ne_of_none g h4), fun jt g => sJ (r.st.2 jt g)⟩
  have sT : ∀ {q : Addr} {zs : List V}, SqT K H1 q zs → SqT K (upd H1 p (.lst ys)) q zs := fun {q zs} g => by
    rcases g with (g | ⟨o, g⟩) | g
    · exact .inl (.inl (s1 g (fun z => by rw [z, h1] at g; cases g)))
    · exact .inl (.inr ⟨o, s1 g (fun z => by rw [z, h1] at g; cases g)⟩)
    · exact .inr g
  have dtK : ∀ {v : V} {d : PyData}, NoL d → Dt K b H1 v d → Dt K b (upd H1 p (.lst ys)) v d := fun {v d} nd g => by
    have ex : Exb p H1 (upd H1 p (.lst ys)) := Exb.put
    exact .of nd (dpExb (b := p) (xs0 := xs) h1 ex nd g.dp)
  have dtsK : ∀ {vs : List V} {ds : List PyData}, (∀ d ∈ ds, NoL d) → Dts K b H1 vs ds → Dts K b (upd H1 p (.lst ys)) vs ds := fun {vs ds} nd g => by
    have ex : Exb p H1 (upd H1 p (.lst ys)) := Exb.put
    exact .of nd (dpExbAll (b := p) (xs0 := xs) h1 ex nd g.dp)
  refine ⟨by rw [List.length_set]; exact r.len, r.kn, r.sg, st', fun k s' q => ?_, fun k l d1 d2 q nk q1 q2 q3 => ?_⟩
  · rw [List.getElem?_set] at q
    split at q
    · rename_i c
      subst c
      split at q
      · cases q
        exact ⟨p, ys, by rw [e1]; rfl, upd_same, dtsK n hy, n, h4, h5⟩
      · cases q
    · rename_i c
      have old := r.sl k s' q
      cases s' with
      | nil => exact True.intro
      | dat d =>
        obtain ⟨x, g1, g2, g3⟩ := old
        exact ⟨x, g1, dtK g3 g2, g3⟩
      | par d => exact old
      | own d1 =>
        obtain ⟨q1, zs, g1, g2, g3, g4, g5, g6⟩ := old
        have nq : q1 ≠ p := fun z => by
          subst z
          exact r.dis i k ds d1 q1 c e q e1 (get_join g1)
        exact ⟨q1, zs, g1, s1 g2 nq, dtsK g4 g3, g4, g5, g6⟩
      | frz q1 d1 =>
        obtain ⟨zs, g1, g2, g3, g4, g5⟩ := old
        exact ⟨zs, g1, g2, dtsK g4 g3, g4, g5⟩
      | jar => exact old
  · have o1 : ∃ d1', ρ[k]? = some (.own d1') := by
      rw [List.getElem?_set] at q1
      split at q1
      · rename_i c
        exact ⟨ds, by rw [← c]; exact e⟩
      · exact ⟨_, q1⟩
    have o2 : ∃ d2', ρ[l]? = some (.own d2') := by
      rw [List.getElem?_set] at q2
      split at q2
      · rename_i c
        exact ⟨ds, by rw [← c]; exact e⟩
      · exact ⟨_, q2⟩
    obtain ⟨d1', o1⟩ := o1
    obtain ⟨d2', o2⟩ := o2
    exact r.dis k l d1' d2' q nk o1 o2 q3
theorem ds_app {i : Nat} {apos cpos : Pos} (hv : PE X e (tVar i)) (ha : DE X b j e1 ta) (hbase : attributeBase e "append" X.env (eval e X.env) = eval e X.env := by rfl)
    (hfew : ((backTo cpos (starEach [e1] X.env)).all (fun x => !x.1) && (backToKw cpos (keywordEach [] X.env)).all (fun x => x.1.isSome) && decide ([e1].length + ([] : List Keyword).length + (if ([] : List Keyword).isEmpty then 0 else 1) < 30)) = true := by rfl)
    (hline : (apos.endLine == cpos.line) = true := by rfl) (hs : starEach [e1] X.env = (false, eval e1 X.env) :: starEach [] X.env := by rfl) (hplain : (backTo cpos (starEach [] X.env)).any (·.1) = false := by rfl)
    (hsw : swapsWith (.Call (.Attribute e "append" apos) [e1] [] cpos) none pos.line X.env = pure false := by rfl) : DS X b j (.Expr (.Call (.Attribute e "append" apos) [e1] [] cpos) pos) (sApp i ta) := by
  refine ⟨psI (ps_expr (pe_bm PySem.F.plainAttrs_list PySem.F.slot_list_append PySem.F.type_list_append mt_append hv (pa_cons ha.pe pa_nil hs) hbase hfew hline hs hplain) hsw) ?_, fun D D' ρ l q => ?_⟩
  · rintro D σ H ⟨ρ, H0, G, r, q⟩
    unfold sApp at q
    split at q
    · rename_i ds e
      obtain ⟨p, xs, e1, h1, h2, h3, h4, h5⟩ := r.own_at e
      refine ⟨.ref p, e1, .inl ⟨rfl, _, SqL.of h1⟩, ρ, H0, G, r, ha.mo _ _ _ (fun d q v H1 s1 hd => ?_) q⟩
      have r1 := r.step s1
      obtain ⟨p', xs', e1', h1', h2', h3', h4', h5'⟩ := r1.own_at e
      rw [e1] at e1'
      cases e1'
      refine ⟨p, xs', v, rfl, rfl, h1', by rw [h2'.len]; exact Nat.lt_of_lt_of_le q.2.1 (by decide), q.2.2 σ _ (r1.own_put (H := H) e e1 (h2'.snoc hd) fun z hz => ?_)⟩
      rcases List.mem_append.mp hz with hz | hz
      · exact h3 z hz
      · rw [List.mem_singleton.mp hz]; exact q.1
    · exact q.elim
  · unfold sApp at q ⊢
    split at q
    · exact ha.mo _ _ _ (fun d h => ⟨h.1, h.2.1, l.nx _ h.2.2⟩) q
    · exact q.elim
theorem ds_ext {i : Nat} {apos cpos : Pos} (hv : PE X e (tVar i)) (ha : DN X b j e1 tt) (hbase : attributeBase e "extend" X.env (eval e X.env) = eval e X.env := by rfl)
    (hfew : ((backTo cpos (starEach [e1] X.env)).all (fun x => !x.1) && (backToKw cpos (keywordEach [] X.env)).all (fun x => x.1.isSome) && decide ([e1].length + ([] : List Keyword).length + (if ([] : List Keyword).isEmpty then 0 else 1) < 30)) = true := by rfl)
    (hline : (apos.endLine == cpos.line) = true := by rfl) (hs : starEach [e1] X.env = (false, eval e1 X.env) :: starEach [] X.env := by rfl) (hplain : (backTo cpos (starEach [] X.env)).any (·.1) = false := by rfl)
    (hsw : swapsWith (.Call (.Attribute e "extend" apos) [e1] [] cpos) none pos.line X.env = pure false := by rfl) : DS X b j (.Expr (.Call (.Attribute e "extend" apos) [e1] [] cpos) pos) (sExt i tt) := by
  refine ⟨psI (ps_expr (pe_bm PySem.F.plainAttrs_list PySem.F.slot_list_extend PySem.F.type_list_extend mt_extend hv (pa_cons ha.pe pa_nil hs) hbase hfew hline hs hplain) hsw) ?_, fun D D' ρ l q => ?_⟩
  · rintro D σ H ⟨ρ, H0, G, r, q⟩
    unfold sExt at q
    split at q
    · rename_i ds e
      obtain ⟨p, xs, e1, h1, h2, h3, h4, h5⟩ := r.own_at e
      refine ⟨.ref p, e1, .inl ⟨rfl, _, SqL.of h1⟩, ρ, H0, G, r, ha.mo _ _ _ (fun es q l ys H1 s1 hl hy hd => ?_) q⟩
      have r1 := r.step s1
      obtain ⟨p', xs', e1', h1', h2', h3', h4', h5'⟩ := r1.own_at e
      rw [e1] at e1'
      cases e1'
      refine ⟨p, l, xs', ys, rfl, rfl, h1', hy, by rw [h2'.len, hd.len]; exact sz5 q.2.1, q.2.2 σ _ (r1.own_put (H := H) e e1 (h2'.app hd) fun z hz => ?_)⟩
      rcases List.mem_append.mp hz with hz | hz
      · exact h3 z hz
      · exact q.1 z hz
    · exact q.elim
  · unfold sExt at q ⊢
    split at q
    · exact ha.mo _ _ _ (fun d h => ⟨h.1, h.2.1, l.nx _ h.2.2⟩) q
    · exact q.elim
end
end DL

namespace PySem
open Sem (wp)
open AutoSeq1 (wpAny_loadPart')
theorem meets_enumerate_newT {v : Value} {o : Obj} {H : Heap → Prop} (B : Begins v o H) :
    Meets (Builtin.«enumerate.__new__» ⟨[.type "enumerate", v], []⟩) (fun _ R s => H s.heap ∧
      R (.ok (.ret (.ref (s.heap.push o).objs.size))) { s with heap := (s.heap.push o).push { cls := .type "enumerate", data := .fields #[.none, .bool false, .ref s.heap.objs.size, rawInt 0, .none, .none] } }) :=
  .of_wp fun prog w A R s h => by
    obtain ⟨hp, g, d, tk, os⟩ := s; obtain ⟨h1, h⟩ := h
    have hsub := sub_enumerate
    have q1 : ∀ {A' : Around} {E : Value → Shared → Prop} {Q : Value → Shared → Prop}, Q (.ref hp.objs.size) ⟨hp.push o, g, d, tk, os⟩ → wpAny (model prog w) A' (pyIter v) Q E ⟨hp, g, d, tk, os⟩ :=
      fun q => B.iter prog w _ _ ⟨hp, g, d, tk, os⟩ _ h1 q
    wp_walk using q1
    refine wpAny_stack_any fun st => wpAny_pure ?_
    split
    · rename_i c _ _ _ _ _
      cases (c == Value.type "enumerate")
      · wp_walk using q1
        exact ⟨_, rfl, h⟩
      · wp_walk using q1
        exact ⟨_, rfl, h⟩
    · wp_walk using q1
      exact ⟨_, rfl, h⟩
theorem enum_beginsT {prog : Program} {w : World} {A : Around} {E : Value → Shared → Prop} {s : Shared} {v : Value} {o : Obj} {H : Heap → Prop} {Q : Value → Shared → Prop} (B : Begins v o H) (h1 : H s.heap)
    (h : ∀ h', IsEnum h' (s.heap.objs.size + 1) s.heap.objs.size 0 .none → h'.get? s.heap.objs.size = some o → h'.objs.size = s.heap.objs.size + 2 →
      (∀ b o, s.heap.get? b = some o → h'.get? b = some o) → Q (.ref (s.heap.objs.size + 1)) { s with heap := h' }) :
    wpAny (model prog w) A (call (.type "enumerate") [v]) Q E s := by
  refine callType_new F.called_enumerate (by decide) (F.typeCall_enumerate_1 _) (F.newCall_enumerate_1 _) (fun obj => F.args_object_init_2 obj _) F.entry_enumerate_new
    (meets_enumerate_newT B) ⟨h1, ?_⟩
  have hz : (s.heap.push o).objs.size = s.heap.objs.size + 1 := Heap.size_push ..
  show _ ∧ _
  rw [hz]
  have he : IsEnum ((s.heap.push o).push { cls := .type "enumerate", data := .fields #[.none, .bool false, .ref s.heap.objs.size, rawInt 0, .none, .none] }) (s.heap.objs.size + 1) s.heap.objs.size 0 .none := by
    have := Heap.get?_push_size (s.heap.push o) (o := { cls := .type "enumerate", data := .fields #[.none, .bool false, .ref s.heap.objs.size, rawInt 0, .none, .none] }) rfl
    rw [hz] at this; exact this
  refine ⟨⟨_, he, rfl⟩, h _ he (Heap.get?_push_of_some _ (Heap.get?_push_size _ B.free)) (by rw [Heap.size_push, hz]) fun b o x => Heap.get?_push_of_some _ (Heap.get?_push_of_some _ x)⟩
end PySem
namespace LZ
open PySem PySem.Spec PyProof.Rows L2
/-! ### enumerate of a tuple -/
def ItE (K : PySem.W.Frag) (a : Addr) : It where
  go n H := ∃ l, SqT K H a l ∧ n < l.length
  yld n H res H2 := ∃ T p, res = .ref T ∧ H T = none ∧ H2 = upd H T (.tup [.int (n : Nat), p]) ∧ (∀ l, SqT K H a l → l[n]? = some p)
  stop n H := ∃ l, SqT K H a l ∧ n = l.length
section
variable {P : Program} {w : World} {K : PySem.W.Frag} {elts : List Expr} {kk : Nat} {tpos : Pos} {a e j : Addr}
theorem turnE (nej : e ≠ j) (nea : e ≠ a) (na : a ≠ j) : Turn P w K (.Tuple elts kk tpos) (ItE K a) [e, j] e (fun n h => (∃ old, IsEnum h e j ((n : Nat) : Int) old) ∧ h.IsTupleIter j a n) := by
  have nef : e ∉ [j, a] := by simp [nej, nea]
  have nk : ∀ n : Nat, (0 : Int) + (n : Int) = (n : Int) := fun n => by omega
  refine { mem := List.mem_cons_self, obj := ?_, keep := ?_, item := ?_, done := ?_, self := ?_ }
  · rintro n h ⟨⟨old, g1⟩, o4, g4, _, d4⟩ c hc
    have hc' : c = e ∨ c = j := by simpa using hc
    rcases hc' with rfl | rfl
    · exact ⟨_, g1, fun v y => nomatch y⟩
    · exact ⟨_, g4, fun v y => by rw [d4] at y; nomatch y⟩
  · rintro n h h2 ⟨⟨old, g1⟩, g4⟩ hk
    exact ⟨⟨old, hk e (by simp) _ g1⟩, g4.at fun o q => hk j (by simp) o q⟩
  · rintro X rfl rfl rfl cal n pins s σ H E I fp ⟨⟨old, g1⟩, g4⟩ ⟨l, hl, hn⟩
    obtain ⟨us, rus, tu, _⟩ := I.tuple hl
    have e1 := rus.length
    have hd : X.A.in1.handled = none := I.ok.hd cal
    have W := WalksT.enumFrom 0 (Draws.tuple (prog := X.prog) (w := X.w) (A := X.A.in1) hd j a na us.toArray) e nej nef (by simp)
    refine W.item n s _ E (by simp only [List.size_toArray]; omega) ⟨⟨old, by rw [nk]; exact g1⟩, g4, tu⟩ fun T vals h1 tk hP hle hT hM hk => ?_
    obtain ⟨t0, x1, hx1, rfl⟩ := hP
    refine ⟨_, rfl, W.go elts kk tpos n T _ _ E hM fun h2 hSt hk2 => ?_⟩
    obtain ⟨⟨old2, y1⟩, y4, _⟩ := hSt
    rw [nk] at y1
    obtain ⟨o, ho, hc, m, hdt⟩ := hT
    have ho2 : h2.get? T = some o := hk2 T o (W.apart n T h1 hM) ho
    obtain ⟨p, hp⟩ : ∃ p, l[n]? = some p := ⟨_, List.getElem?_eq_getElem hn⟩
    obtain ⟨u, hu, ru⟩ := rus.get hp
    have eu : u = x1 := by
      have : us[n]? = some x1 := by simpa using hx1
      rw [hu] at this
      exact Option.some.inj this
    subst eu
    rw [nk] at hdt
    have nw : ObjOk X.prog X.w (upd H T (.tup [.int (n : Nat), p])) h2 T (.tup [.int (n : Nat), p]) := ⟨by show 2 ≤ sizeLine; decide, [.int (n : Nat) t0, u], .cons ⟨_, rfl⟩ (.cons ru .nil), ⟨o, ho2, hc, m, hdt⟩⟩
    have lt : ∀ c, c ∈ [e, j] → c < s.heap.objs.size := fun c hc => by
      obtain ⟨o4, f4, _⟩ := g4
      have hc' : c = e ∨ c = j := by simpa using hc
      rcases hc' with rfl | rfl
      · exact Heap.lt_size g1
      · exact Heap.lt_size f4
    have I2 : Inv X pins σ (upd H T (.tup [.int (n : Nat), p])) { s with heap := h2, toks := tk } := I.turnedNew (ch := [e, j]) (fun c o hc q => hk2 c o hc (hk c o hc q)) fp hle nw
    refine ⟨.ref T, _, I2, rfl, ⟨T, p, rfl, I.hok.fresh hle, rfl, fun l2 h => by rw [I.tuple_inj h hl]; exact hp⟩, ⟨⟨old2, y1⟩, y4⟩, fun c hc => ?_⟩
    rw [upd_ne (Nat.ne_of_lt (Nat.lt_of_lt_of_le (lt c hc) hle))]
    exact (fp c hc).1
  · rintro X rfl rfl rfl cal n pins s σ H E I fp ⟨⟨old, g1⟩, g4⟩ ⟨l, hl, hn⟩
    obtain ⟨us, rus, tu, _⟩ := I.tuple hl
    have e1 := rus.length
    have hd : X.A.in1.handled = none := I.ok.hd cal
    have W := WalksT.enumFrom 0 (Draws.tuple (prog := X.prog) (w := X.w) (A := X.A.in1) hd j a na us.toArray) e nej nef (by simp)
    have em : us.toArray.size = n := by
      simp only [List.size_toArray]
      omega
    refine W.done s _ E (by rw [em]; exact ⟨⟨old, by rw [nk]; exact g1⟩, g4, tu⟩) fun h1 tk hk => ⟨rfl, I.turnedL (ch := [e, j]) (fun c o hc q => hk c o hc q) fp⟩
  · rintro A n s Q E ⟨⟨old, st⟩, _⟩ q
    exact wpAny_pyIter_enum st q
end
def iEnumT (K : PySem.W.Frag) (ta : TA) : TI := fun σ H R => ta σ H fun us H1 => ∃ a l, us = [.ref a] ∧ SqT K H1 a l ∧ R (ItE K a) H1
theorem pi_enumT {X : Cx} {x1 : Expr} {ta : TA} {p p2 tp : Pos} {ts : List Expr} {kk : Nat} (hg : Gl X "enumerate") (hm : X.mg "enumerate" = none) (ha : PA X [x1] ta) (h1 : starEach [x1] X.env = [(false, eval x1 X.env)] := by rfl) :
    PI X (.Tuple ts kk tp) (.Call (.Name "enumerate" p) [x1] [] p2) (iEnumT X.K ta) := by
  constructor
  intro pins s σ H R I h
  refine Call_ (ld_blt I hg hm boot_enumerate (PyProof.Rows.callWith_type1 (thn (ha.run p2 pins s σ H _ I h) fun us s1 q1 => ?_) h1 rfl))
  obtain ⟨vs, H1, I1, r1, a, l, rfl, hl, q⟩ := q1
  obtain ⟨u1, rfl, e1⟩ := vals1 r1
  obtain rfl : u1 = Value.ref a := e1
  obtain ⟨is1, rv1, tu, _⟩ := I1.tuple hl
  have la : a < s1.heap.objs.size := by
    obtain ⟨o, ho, _⟩ := id tu
    exact Heap.lt_size ho
  refine enum_beginsT (begins_tuple a is1.toArray) tu fun h' g1 g2 _ hk => wpAny_pyIter_enum g1 ?_
  have I2 : Inv X pins σ H1 { s1 with heap := h' } := I1.kept (t' := s1.toks) hk
  refine ⟨s1.heap.objs.size + 1, [s1.heap.objs.size + 1, s1.heap.objs.size], _, ItE X.K a, H1, rfl, I2, turnE (Nat.succ_ne_self _) (Nat.ne_of_gt (Nat.lt_succ_of_lt la)) (Nat.ne_of_lt la), ⟨⟨_, g1⟩, ⟨_, g2, rfl, rfl⟩⟩, fun c hc => ?_, q⟩
  have le : s1.heap.objs.size ≤ c := by
    have hc' : c = s1.heap.objs.size + 1 ∨ c = s1.heap.objs.size := by simpa using hc
    rcases hc' with rfl | rfl
    · exact Nat.le_add_right _ _
    · exact Nat.le_refl _
  exact I1.fpOk le (I1.hok.fresh le)
end LZ

namespace LZ
open PySem PySem.Spec PyProof.Rows L2
/-! ### zip of three tuples of one length -/
def It3 (K : PySem.W.Frag) (a b c : Addr) : It where
  go n H := ∃ l r m, SqT K H a l ∧ SqT K H b r ∧ SqT K H c m ∧ l.length = r.length ∧ l.length = m.length ∧ n < l.length
  yld n H res H2 := ∃ T p q u, res = .ref T ∧ H T = none ∧ H2 = upd H T (.tup [p, q, u]) ∧ (∀ l, SqT K H a l → l[n]? = some p) ∧ (∀ r, SqT K H b r → r[n]? = some q) ∧ (∀ m, SqT K H c m → m[n]? = some u)
  stop n H := ∃ l r m, SqT K H a l ∧ SqT K H b r ∧ SqT K H c m ∧ l.length = r.length ∧ l.length = m.length ∧ n = l.length
def St3 (a b c z TI TO j k i : Addr) (n : Nat) (h : Heap) : Prop := IsZip h z TI TO .none ∧ IsTupOf3 h TI (.ref j) (.ref k) (.ref i) ∧ (∃ p q u, IsTupOf3 h TO p q u) ∧ h.IsTupleIter j a n ∧ h.IsTupleIter k b n ∧ h.IsTupleIter i c n
theorem six {c z TI TO j k i : Addr} (h : c ∈ [z, TI, TO, j, k, i]) : c = z ∨ c = TI ∨ c = TO ∨ c = j ∨ c = k ∨ c = i := by simpa using h
section
variable {P : Program} {w : World} {K : PySem.W.Frag} {elts : List Expr} {kk : Nat} {tpos : Pos} {a b c z TI TO j k i : Addr}
theorem turn3 (S : ZipSep3 z TI TO j k i [j, a] [k, b] [i, c]) (na : a ≠ j) (nb : b ≠ k) (nc : c ≠ i) : Turn P w K (.Tuple elts kk tpos) (It3 K a b c) [z, TI, TO, j, k, i] z (St3 a b c z TI TO j k i) := by
  have four : ∀ {c : Addr}, c ∉ [z, TI, TO, j, k, i] → c ∉ [z, TO, j, k, i] := fun h m => h (by
    simp only [List.mem_cons, List.not_mem_nil, or_false] at m ⊢
    rcases m with m | m | m | m | m
    · exact .inl m
    · exact .inr (.inr (.inl m))
    · exact .inr (.inr (.inr (.inl m)))
    · exact .inr (.inr (.inr (.inr (.inl m))))
    · exact .inr (.inr (.inr (.inr (.inr m)))))
  refine { mem := List.mem_cons_self, obj := ?_, keep := ?_, item := ?_, done := ?_, self := ?_ }
  · rintro n h ⟨g1, g2, ⟨p, q, u, g3⟩, ⟨o4, g4, _, d4⟩, ⟨o5, g5, _, d5⟩, ⟨o6, g6, _, d6⟩⟩ c hc
    rcases six hc with rfl | rfl | rfl | rfl | rfl | rfl
    · exact ⟨_, g1, fun v y => nomatch y⟩
    · exact ⟨_, g2, fun v y => nomatch y⟩
    · exact ⟨_, g3, fun v y => nomatch y⟩
    · exact ⟨_, g4, fun v y => by rw [d4] at y; nomatch y⟩
    · exact ⟨_, g5, fun v y => by rw [d5] at y; nomatch y⟩
    · exact ⟨_, g6, fun v y => by rw [d6] at y; nomatch y⟩
  · rintro n h h2 ⟨g1, g2, ⟨p, q, u, g3⟩, g4, g5, g6⟩ hk
    exact ⟨hk z (by simp) _ g1, hk TI (by simp) _ g2, ⟨p, q, u, hk TO (by simp) _ g3⟩, g4.at fun o e => hk j (by simp) o e, g5.at fun o e => hk k (by simp) o e, g6.at fun o e => hk i (by simp) o e⟩
  · rintro X rfl rfl rfl cal n pins s σ H E I fp ⟨g1, g2, ⟨p0, q0, u0, g3⟩, g4, g5, g6⟩ ⟨l, r, m, hl, hr, hm, hlen, hlen2, hn⟩
    obtain ⟨us, rus, tu, _⟩ := I.tuple hl
    obtain ⟨vs, rvs, tv, _⟩ := I.tuple hr
    obtain ⟨ws, rws, tw, _⟩ := I.tuple hm
    have e1 := rus.length
    have e2 := rvs.length
    have e3 := rws.length
    have hd : X.A.in1.handled = none := I.ok.hd cal
    have W := WalksT.zipD3 S (Draws.tuple (prog := X.prog) (w := X.w) (A := X.A.in1) hd j a na us.toArray) (Draws.tuple (prog := X.prog) (w := X.w) (A := X.A.in1) hd k b nb vs.toArray) (Draws.tuple (prog := X.prog) (w := X.w) (A := X.A.in1) hd i c nc ws.toArray)
    refine W.item n s _ E (by simp only [List.size_toArray]; omega) ⟨g1, g2, ⟨p0, q0, u0, g3⟩, ⟨g4, tu⟩, ⟨g5, tv⟩, g6, tw⟩ fun T vals h1 tk hP hle hT hM hk => ?_
    obtain ⟨x1, x2, x3, hx1, hx2, hx3, rfl⟩ := hP
    refine ⟨_, rfl, W.go elts kk tpos n T _ _ E hM fun h2 hSt hk2 => ?_⟩
    obtain ⟨y1, y2, y3, ⟨y4, _⟩, ⟨y5, _⟩, y6, _⟩ := hSt
    obtain ⟨o, ho, hc, mm, hdt⟩ := hT
    have ho2 : h2.get? T = some o := hk2 T o (W.apart n T h1 hM) ho
    obtain ⟨p, hp⟩ : ∃ p, l[n]? = some p := ⟨_, List.getElem?_eq_getElem hn⟩
    obtain ⟨q, hq⟩ : ∃ q, r[n]? = some q := ⟨_, List.getElem?_eq_getElem (by omega)⟩
    obtain ⟨t, ht⟩ : ∃ t, m[n]? = some t := ⟨_, List.getElem?_eq_getElem (by omega)⟩
    obtain ⟨u, hu, ru⟩ := rus.get hp
    obtain ⟨v, hv, rv⟩ := rvs.get hq
    obtain ⟨w', hw, rw'⟩ := rws.get ht
    have eu : u = x1 := by
      have : us[n]? = some x1 := by simpa using hx1
      rw [hu] at this
      exact Option.some.inj this
    have ev : v = x2 := by
      have : vs[n]? = some x2 := by simpa using hx2
      rw [hv] at this
      exact Option.some.inj this
    have ew : w' = x3 := by
      have : ws[n]? = some x3 := by simpa using hx3
      rw [hw] at this
      exact Option.some.inj this
    subst eu ev ew
    have nw : ObjOk X.prog X.w (upd H T (.tup [p, q, t])) h2 T (.tup [p, q, t]) := ⟨by show 3 ≤ sizeLine; decide, [u, v, w'], .cons ru (.cons rv (.cons rw' .nil)), ⟨o, ho2, hc, mm, hdt⟩⟩
    have I2 : Inv X pins σ (upd H T (.tup [p, q, t])) { s with heap := h2, toks := tk } := I.turnedNew (ch := [z, TI, TO, j, k, i]) (fun c o hc e => hk2 c o (four hc) (hk c o (four hc) e)) fp hle nw
    refine ⟨.ref T, _, I2, rfl, ⟨T, p, q, t, rfl, I.hok.fresh hle, rfl, fun l2 h => by rw [I.tuple_inj h hl]; exact hp, fun r2 h => by rw [I.tuple_inj h hr]; exact hq, fun m2 h => by rw [I.tuple_inj h hm]; exact ht⟩, ⟨y1, y2, y3, y4, y5, y6⟩, fun c hc => ?_⟩
    have lt : c < s.heap.objs.size := by
      obtain ⟨o4, f4, _⟩ := g4
      obtain ⟨o5, f5, _⟩ := g5
      obtain ⟨o6, f6, _⟩ := g6
      rcases six hc with rfl | rfl | rfl | rfl | rfl | rfl
      · exact Heap.lt_size g1
      · exact Heap.lt_size g2
      · exact Heap.lt_size g3
      · exact Heap.lt_size f4
      · exact Heap.lt_size f5
      · exact Heap.lt_size f6
    rw [upd_ne (Nat.ne_of_lt (Nat.lt_of_lt_of_le lt hle))]
    exact (fp c hc).1
  · rintro X rfl rfl rfl cal n pins s σ H E I fp ⟨g1, g2, ⟨p0, q0, u0, g3⟩, g4, g5, g6⟩ ⟨l, r, m, hl, hr, hm, hlen, hlen2, hn⟩
    obtain ⟨us, rus, tu, _⟩ := I.tuple hl
    obtain ⟨vs, rvs, tv, _⟩ := I.tuple hr
    obtain ⟨ws, rws, tw, _⟩ := I.tuple hm
    have e1 := rus.length
    have e2 := rvs.length
    have e3 := rws.length
    have hd : X.A.in1.handled = none := I.ok.hd cal
    have W := WalksT.zipD3 S (Draws.tuple (prog := X.prog) (w := X.w) (A := X.A.in1) hd j a na us.toArray) (Draws.tuple (prog := X.prog) (w := X.w) (A := X.A.in1) hd k b nb vs.toArray) (Draws.tuple (prog := X.prog) (w := X.w) (A := X.A.in1) hd i c nc ws.toArray)
    have em : min (min us.toArray.size vs.toArray.size) ws.toArray.size = n := by
      simp only [List.size_toArray]
      omega
    refine W.done s _ E (by rw [em]; exact ⟨g1, g2, ⟨p0, q0, u0, g3⟩, ⟨g4, tu⟩, ⟨g5, tv⟩, g6, tw⟩) fun h1 tk hk => ⟨rfl, I.turnedL (ch := [z, TI, TO, j, k, i]) (fun c o hc e => hk c o (four hc) e) fp⟩
  · intro A n s Q E st q
    exact wpAny_pyIter_zip st.1 q
end
def iZip3 (K : PySem.W.Frag) (ta : TA) : TI := fun σ H R => ta σ H fun us H1 => ∃ a b c l r m, us = [.ref a, .ref b, .ref c] ∧ SqT K H1 a l ∧ SqT K H1 b r ∧ SqT K H1 c m ∧ R (It3 K a b c) H1
theorem pi_zip3 {X : Cx} {x1 x2 x3 : Expr} {ta : TA} {p p2 tp : Pos} {ts : List Expr} {kk : Nat} (hg : Gl X "zip") (hm : X.mg "zip" = none) (ha : PA X [x1, x2, x3] ta) (h1 : starEach [x1, x2, x3] X.env = (false, eval x1 X.env) :: starEach [x2, x3] X.env := by rfl)
    (h2 : (backTo p2 (starEach [x2, x3] X.env)).any (·.1) = false := by rfl) : PI X (.Tuple ts kk tp) (.Call (.Name "zip" p) [x1, x2, x3] [] p2) (iZip3 X.K ta) := by
  constructor
  intro pins s σ H R I h
  refine Call_ (ld_blt I hg hm PyProof.Rows.boot_zip (PyProof.Rows.callWith_type1 (thn (ha.run p2 pins s σ H _ I h) fun us s1 q1 => ?_) h1 h2))
  obtain ⟨vs, H1, I1, r1, a, b, c, l, r, m, rfl, hl, hr, hm, q⟩ := q1
  obtain ⟨u1, u2, u3, rfl, e1, e2, e3⟩ : ∃ u1 u2 u3, us = [u1, u2, u3] ∧ RelV (.ref a) u1 ∧ RelV (.ref b) u2 ∧ RelV (.ref c) u3 := by
    cases r1 with
    | cons g1 g2 =>
      cases g2 with
      | cons g3 g4 =>
        cases g4 with
        | cons g5 g6 =>
          cases g6
          exact ⟨_, _, _, rfl, g1, g3, g5⟩
  obtain rfl : u1 = Value.ref a := e1
  obtain rfl : u2 = Value.ref b := e2
  obtain rfl : u3 = Value.ref c := e3
  obtain ⟨is1, rv1, tu, _⟩ := I1.tuple hl
  obtain ⟨is2, rv2, tv, _⟩ := I1.tuple hr
  obtain ⟨is3, rv3, tw, _⟩ := I1.tuple hm
  have la : a < s1.heap.objs.size := by obtain ⟨o, ho, _⟩ := id tu; exact Heap.lt_size ho
  have lb : b < s1.heap.objs.size := by obtain ⟨o, ho, _⟩ := id tv; exact Heap.lt_size ho
  have lc : c < s1.heap.objs.size := by obtain ⟨o, ho, _⟩ := id tw; exact Heap.lt_size ho
  refine zip_begins3 (begins_tuple a is1.toArray) (begins_tuple b is2.toArray) (begins_tuple c is3.toArray) tu tv tw fun h' g1 g2 g3 g4 g5 g6 _ hk => wpAny_pyIter_zip g1 ?_
  have I2 : Inv X pins σ H1 { s1 with heap := h' } := I1.kept (t' := s1.toks) hk
  have S : ZipSep3 (s1.heap.objs.size + 5) (s1.heap.objs.size + 3) (s1.heap.objs.size + 4) s1.heap.objs.size (s1.heap.objs.size + 1) (s1.heap.objs.size + 2) [s1.heap.objs.size, a] [s1.heap.objs.size + 1, b] [s1.heap.objs.size + 2, c] :=
    zip_sep3 (fun c hc => by rw [List.mem_singleton.mp hc]; exact la) (fun c hc => by rw [List.mem_singleton.mp hc]; exact lb) (fun d hc => by rw [List.mem_singleton.mp hc]; exact lc)
  refine ⟨s1.heap.objs.size + 5, [s1.heap.objs.size + 5, s1.heap.objs.size + 3, s1.heap.objs.size + 4, s1.heap.objs.size, s1.heap.objs.size + 1, s1.heap.objs.size + 2], _, It3 X.K a b c, H1, rfl, I2, turn3 S (Nat.ne_of_lt la) (Nat.ne_of_lt (Nat.lt_succ_of_lt lb)) (Nat.ne_of_lt (Nat.lt_of_lt_of_le lc (Nat.le_add_right _ 2))), ⟨g1, g2, ⟨_, _, _, g3⟩, ⟨_, g4, rfl, rfl⟩, ⟨_, g5, rfl, rfl⟩, ⟨_, g6, rfl, rfl⟩⟩, fun c hc => ?_, q⟩
  have le : s1.heap.objs.size ≤ c := by
    rcases six hc with rfl | rfl | rfl | rfl | rfl | rfl
    · exact Nat.le_add_right _ _
    · exact Nat.le_add_right _ _
    · exact Nat.le_add_right _ _
    · exact Nat.le_refl _
    · exact Nat.le_add_right _ _
    · exact Nat.le_add_right _ _
  exact I1.fpOk le (I1.hok.fresh le)
end LZ

namespace DL
open PySem PySem.Spec PyProof.Rows L2 GuL HG LZ
/-! ### slots forgotten -/
theorem wipe_get {σ : L2.St} {k : Nat} : ∀ {vs : List Nat}, (wipe σ vs)[k]? = if k ∈ vs ∧ k < σ.length then some none else σ[k]?
  | [] => by simp [wipe]
  | v :: vs => by
    unfold wipe
    rw [List.getElem?_set, wipe_length, wipe_get (vs := vs)]
    by_cases h : v = k
    · subst h
      by_cases l : v < σ.length
      · simp [l]
      · have e : σ[v]? = none := List.getElem?_eq_none (by omega)
        simp [l, e]
    · have h' : ¬ k = v := fun e => h e.symm
      simp [h, h']
theorem wipe_set {σ : L2.St} {i : Nat} {x : Option V} {vs : List Nat} (h : i ∈ vs) : wipe (σ.set i x) vs = wipe σ vs := by
  apply List.ext_getElem?
  intro k
  rw [wipe_get, wipe_get, List.length_set, List.getElem?_set]
  by_cases c : k ∈ vs ∧ k < σ.length
  · rw [if_pos c, if_pos c]
  · rw [if_neg c, if_neg c]
    by_cases e : i = k
    · subst e
      have l : ¬ i < σ.length := fun z => c ⟨h, z⟩
      rw [if_pos rfl, if_neg l]
      exact (List.getElem?_eq_none (by omega)).symm
    · rw [if_neg e]
def wp (ρ : List SV) : List Nat → List SV
  | [] => ρ
  | v :: vs => (wp ρ vs).set v .nil
section
variable {K : PySem.W.Frag} {b : Addr} {j : Bool} {H0 G H H1 H' : Hp} {σ : L2.St} {ρ : List SV}
theorem Rel.setNil {i : Nat} {x : Option V} (r : Rel K b j H0 G σ H ρ) : Rel K b j H0 G (σ.set i x) H (ρ.set i .nil) := by
  refine ⟨by rw [List.length_set, List.length_set, r.len], r.kn, r.sg, r.st, fun k s' e => ?_, fun k l ds ds' p nk e1 e2 e3 => ?_⟩
  · rw [List.getElem?_set] at e ⊢
    split at e
    · split at e
      · cases e; exact True.intro
      · cases e
    · rename_i c
      rw [if_neg c]
      exact r.sl k s' e
  · rw [List.getElem?_set] at e1 e2 e3 ⊢
    split at e1
    · split at e1 <;> cases e1
    · split at e2
      · split at e2 <;> cases e2
      · rename_i c1 c2
        rw [if_neg c1] at e3
        rw [if_neg c2]
        exact r.dis k l ds ds' p nk e1 e2 e3
theorem Rel.wipe (r : Rel K b j H0 G σ H ρ) : ∀ vs : List Nat, Rel K b j H0 G (wipe σ vs) H (wp ρ vs)
  | [] => r
  | v :: vs => (r.wipe vs).setNil
/-! ### targets -/
inductive P1 where
  | n (i : Nat)
  | t (is : List Nat)
inductive Pt where
  | one (p : P1)
  | row (ps : List P1)
def gNs : List Nat → TGs
  | [] => gNil
  | i :: is => gCons (gName i) (gNs is)
def g1 (K : PySem.W.Frag) : P1 → TG
  | .n i => gName i
  | .t is => gTup K is.length (gNs is)
def gPs (K : PySem.W.Frag) : List P1 → TGs
  | [] => gNil
  | p :: ps => gCons (g1 K p) (gPs K ps)
def gT (K : PySem.W.Frag) : Pt → TG
  | .one p => g1 K p
  | .row ps => gTup K ps.length (gPs K ps)
def b1 : P1 → PyData → List SV → (List SV → Prop) → Prop
  | .n i, d, ρ, Q => NoL d ∧ Q (ρ.set i (.dat d))
  | .t is, d, ρ, Q => match d with | .tuple ds => ds.length = is.length ∧ (∀ d ∈ ds, NoL d) ∧ Q (setAll ρ is ds) | _ => False
def bs : List P1 → List PyData → List SV → (List SV → Prop) → Prop
  | [], [], ρ, Q => Q ρ
  | p :: ps, d :: ds, ρ, Q => b1 p d ρ fun ρ' => bs ps ds ρ' Q
  | _, _, _, _ => False
def bT : Pt → PyData → List SV → (List SV → Prop) → Prop
  | .one p, d, ρ, Q => b1 p d ρ Q
  | .row ps, d, ρ, Q => match d with | .tuple ds => bs ps ds ρ Q | _ => False
def ix1 : P1 → List Nat
  | .n i => [i]
  | .t is => is
def ixT : Pt → List Nat
  | .one p => ix1 p
  | .row ps => ps.flatMap ix1
theorem b1_mo {p : P1} {d : PyData} {ρ : List SV} {Q Q' : List SV → Prop} (m : ∀ ρ, Q ρ → Q' ρ) (h : b1 p d ρ Q) : b1 p d ρ Q' := by
  cases p with
  | n i => exact ⟨h.1, m _ h.2⟩
  | t is => cases d <;> first | exact h.elim | exact ⟨h.1, h.2.1, m _ h.2.2⟩
theorem bs_mo {Q Q' : List SV → Prop} (m : ∀ ρ, Q ρ → Q' ρ) : ∀ {ps : List P1} {ds : List PyData} {ρ : List SV}, bs ps ds ρ Q → bs ps ds ρ Q'
  | [], [], _, h => m _ h
  | _ :: _, _ :: _, _, h => b1_mo (fun _ h => bs_mo m h) h
  | [], _ :: _, _, h => h.elim
  | _ :: _, [], _, h => h.elim
theorem bT_mo {p : Pt} {d : PyData} {ρ : List SV} {Q Q' : List SV → Prop} (m : ∀ ρ, Q ρ → Q' ρ) (h : bT p d ρ Q) : bT p d ρ Q' := by
  cases p with
  | one p => exact b1_mo m h
  | row ps => cases d <;> first | exact h.elim | exact bs_mo m h
/-- σ' is σ but for the places is -/
def But (is : List Nat) (σ σ' : L2.St) : Prop := ∀ vs : List Nat, (∀ i ∈ is, i ∈ vs) → wipe σ' vs = wipe σ vs
theorem gNs_ok {Q : L2.St → Hp → Prop} : ∀ {is : List Nat} {ds : List PyData} {xs : List V} {σ : L2.St} {ρ : List SV}, Rel K b j H0 G σ H ρ → Dts K b H xs ds → ds.length = is.length → (∀ d ∈ ds, NoL d) →
    (∀ σ', Rel K b j H0 G σ' H (setAll ρ is ds) → But is σ σ' → Q σ' H) → gNs is xs σ H Q
  | [], [], [], σ, ρ, r, _, _, _, q => ⟨rfl, q σ r fun _ _ => rfl⟩
  | i :: is, d :: ds, x :: xs, σ, ρ, r, .cons h1 h2, l, n, q => by
    refine ⟨x, xs, rfl, ?_⟩
    refine gNs_ok (is := is) (ds := ds) (r.setD h1 (n d List.mem_cons_self)) h2 (by simpa using l) (fun d hd => n d (List.mem_cons_of_mem _ hd)) fun σ' r' bt => q σ' r' fun vs hv => ?_
    rw [bt vs fun i hi => hv i (List.mem_cons_of_mem _ hi), wipe_set (hv i List.mem_cons_self)]
theorem g1_ok {p : P1} {d : PyData} {x : V} {Q : L2.St → Hp → Prop} {Qd : List SV → Prop} (r : Rel K b j H0 G σ H ρ) (h : Dt K b H x d) (hb : b1 p d ρ Qd) (q : ∀ σ' ρ', Rel K b j H0 G σ' H ρ' → Qd ρ' → But (ix1 p) σ σ' → Q σ' H) : g1 K p x σ H Q := by
  cases p with
  | n i =>
    obtain ⟨h1, h2⟩ := hb
    exact q _ _ (r.setD h h1) h2 fun vs hv => wipe_set (hv i List.mem_cons_self)
  | t is =>
    cases h with
    | @tup a xs ds g1 g2 =>
      obtain ⟨h1, h2, h3⟩ := hb
      exact ⟨a, xs, rfl, g1, by rw [g2.len, h1], gNs_ok r g2 h1 h2 fun σ' r' bt => q σ' _ r' h3 bt⟩
    | _ => exact hb.elim
theorem gPs_ok {Q : L2.St → Hp → Prop} {Qd : List SV → Prop} : ∀ {ps : List P1} {ds : List PyData} {xs : List V} {σ : L2.St} {ρ : List SV}, Rel K b j H0 G σ H ρ → Dts K b H xs ds → bs ps ds ρ Qd →
    (∀ σ' ρ', Rel K b j H0 G σ' H ρ' → Qd ρ' → But (ps.flatMap ix1) σ σ' → Q σ' H) → gPs K ps xs σ H Q
  | [], [], [], σ, ρ, r, _, h, q => ⟨rfl, q σ ρ r h fun _ _ => rfl⟩
  | p :: ps, d :: ds, x :: xs, σ, ρ, r, .cons h1 h2, h, q => by
    refine ⟨x, xs, rfl, ?_⟩
    refine g1_ok r h1 h fun σ1 ρ1 r1 h3 bt1 => ?_
    refine gPs_ok (ps := ps) (ds := ds) r1 h2 h3 fun σ2 ρ2 r2 h4 bt2 => q σ2 ρ2 r2 h4 fun vs hv => ?_
    rw [bt2 vs fun i hi => hv i (by rw [List.flatMap_cons]; exact List.mem_append_right _ hi), bt1 vs fun i hi => hv i (by rw [List.flatMap_cons]; exact List.mem_append_left _ hi)]
  | [], _ :: _, _, _, _, _, _, h, _ => h.elim
  | _ :: _, [], _, _, _, _, _, h, _ => h.elim
theorem gT_ok {p : Pt} {d : PyData} {x : V} {Q : L2.St → Hp → Prop} {Qd : List SV → Prop} (r : Rel K b j H0 G σ H ρ) (h : Dt K b H x d) (hb : bT p d ρ Qd) (q : ∀ σ' ρ', Rel K b j H0 G σ' H ρ' → Qd ρ' → But (ixT p) σ σ' → Q σ' H) : gT K p x σ H Q := by
  cases p with
  | one p => exact g1_ok r h hb q
  | row ps =>
    cases h with
    | @tup a xs ds g1 g2 =>
      have len : ∀ {ps : List P1} {ds : List PyData} {ρ : List SV} {Q : List SV → Prop}, bs ps ds ρ Q → ds.length = ps.length := by
        intro ps
        induction ps with
        | nil =>
          intro ds ρ Q h
          cases ds with
          | nil => rfl
          | cons _ _ => exact h.elim
        | cons p ps ih =>
          intro ds ρ Q h
          cases ds with
          | nil => exact h.elim
          | cons d ds =>
            have h' : b1 p d ρ fun ρ' => bs ps ds ρ' Q := h
            have k : ∃ ρ', bs ps ds ρ' Q := by
              cases p with
              | n i => exact ⟨_, h'.2⟩
              | t is => cases d <;> first | exact h'.elim | exact ⟨_, h'.2.2⟩
            obtain ⟨ρ', k⟩ := k
            rw [List.length_cons, List.length_cons, ih k]
      exact ⟨a, xs, rfl, g1, by rw [g2.len, len hb], gPs_ok r g2 hb q⟩
    | _ => exact hb.elim
/-! ### the heap without the own lists -/
def isOwn : SV → Bool | .own _ => true | _ => false
def mn (σ : L2.St) (ρ : List SV) (H : Hp) : Hp := fun a => if ((List.range ρ.length).any fun i => (match ρ[i]? with | some s => isOwn s | none => false) && decide (σ[i]? = some (some (.ref a)))) = true then none else H a
theorem mn_own {i : Nat} {ds : List PyData} {a : Addr} (h : ρ[i]? = some (.own ds)) (e : σ[i]? = some (some (.ref a))) : mn σ ρ H a = none := by
  unfold mn
  rw [if_pos]
  rw [List.any_eq_true]
  refine ⟨i, List.mem_range.mpr ?_, ?_⟩
  · exact (List.getElem?_eq_some_iff.mp h).1
  · rw [h, e]; simp [isOwn]
theorem mn_else {a : Addr} (h : ∀ (i : Nat) (ds : List PyData), ρ[i]? = some (.own ds) → σ[i]? ≠ some (some (.ref a))) : mn σ ρ H a = H a := by
  unfold mn
  rw [if_neg]
  rw [List.any_eq_true]
  rintro ⟨i, _, q⟩
  rw [Bool.and_eq_true] at q
  obtain ⟨q1, q2⟩ := q
  cases e : ρ[i]? with
  | none => rw [e] at q1; cases q1
  | some s =>
    rw [e] at q1
    cases s <;> first | exact nomatch (show false = true from q1) | skip
    exact h i _ e (of_decide_eq_true q2)
theorem mn_sub {a : Addr} {u : HO} (h : mn σ ρ H a = some u) : H a = some u := by
  unfold mn at h
  split at h
  · cases h
  · exact h
/-- what an own list's place is not -/
theorem Rel.mn_keep (r : Rel K b j H0 G σ H ρ) {a : Addr} {u : HO} (h : H a = some u) (n : (∀ xs, u ≠ .lst xs) ∨ G a ≠ none ∨ a = b) : mn σ ρ H a = some u := by
  rw [mn_else, h]
  intro i ds e z
  obtain ⟨p, xs, e1, h1, _, _, h4, h5⟩ := r.own_at e
  rw [e1] at z
  cases z
  rcases n with n | n | n
  · rw [h1] at h
    cases h
    exact n _ rfl
  · exact n h4
  · exact h5 n
theorem Rel.mn_G (r : Rel K b j H0 G σ H ρ) {p : Addr} {u : HO} (n : j = true → p ≠ b) (h : G p = some u) : mn σ ρ H p = some u :=
  r.mn_keep (r.st.1 p u n h) (.inr (.inl (by rw [h]; exact fun e => nomatch e)))
theorem Rel.mn_jar (r : Rel K b j H0 G σ H ρ) (h : Jar b H) : Jar b (mn σ ρ H) := by
  obtain ⟨o, m, c, h1, h2⟩ := h
  exact ⟨o, m, c, r.mn_keep h1 (.inr (.inr rfl)), h2⟩
theorem Jar.mn (h : Jar b (mn σ ρ H)) : Jar b H := by
  obtain ⟨o, m, c, h1, h2⟩ := h
  exact ⟨o, m, c, mn_sub h1, h2⟩
/-- into a loop -/
theorem Rel.into (r : Rel K b j H0 G σ H ρ) : Rel K b j H0 (mn σ ρ H) σ H ρ := by
  refine ⟨r.len, r.kn, ⟨fun p u n h => ?_, fun e h => r.mn_jar (r.s0.2 e h)⟩, ⟨fun p u _ h => mn_sub h, fun _ h => h.mn⟩, fun i s e => ?_, r.dis⟩
  · exact r.mn_G n (r.sg.1 p u n h)
  · have old := r.sl i s e
    cases s with
    | nil => exact old
    | dat d => exact old
    | par d => exact old
    | own ds =>
      obtain ⟨p, xs, e1, h1, h2, h3, h4, h5⟩ := r.own_at e
      exact ⟨p, xs, by rw [e1]; rfl, h1, h2, h3, mn_own e e1, h5⟩
    | frz p ds =>
      obtain ⟨xs, e1, h1, h2, h3, h4⟩ := old
      exact ⟨xs, e1, r.mn_G (fun _ => h4) h1, h2, h3, h4⟩
    | jar => exact old
def frzs : List SV → List (Option Addr)
  | [] => []
  | .frz p _ :: r => some p :: frzs r
  | _ :: r => none :: frzs r
theorem frzs_get : ∀ {ρ : List SV} {i : Nat} {p : Addr}, (frzs ρ)[i]? = some (some p) ↔ ∃ ds, ρ[i]? = some (.frz p ds)
  | [], i, p => by simp [frzs]
  | s :: r, 0, p => by cases s <;> simp [frzs]
  | s :: r, i + 1, p => by
    have ih := frzs_get (ρ := r) (i := i) (p := p)
    cases s <;> simpa [frzs] using ih
/-- out of it -/
theorem Rel.out {ρ' : List SV} {σ' : L2.St} (r : Rel K b j H0 G σ H ρ) (r' : Rel K b j H0 (mn σ ρ H) σ' H' ρ') (hf : frzs ρ' = frzs ρ) : Rel K b j H0 G σ' H' ρ' := by
  refine ⟨r'.len, r.kn, r.sg, ⟨fun p u n h => r'.st.1 p u n (r.mn_G n h), fun e h => r'.st.2 e (r.mn_jar (r.st.2 e h))⟩, fun i s e => ?_, r'.dis⟩
  have old := r'.sl i s e
  cases s with
  | nil => exact old
  | dat d => exact old
  | par d => exact old
  | own ds =>
    obtain ⟨p, xs, e1, h1, h2, h3, h4, h5⟩ := old
    refine ⟨p, xs, e1, h1, h2, h3, ?_, h5⟩
    cases q : G p with
    | none => rfl
    | some u =>
      rw [r.mn_G (fun _ => h5) q] at h4
      cases h4
  | frz p ds =>
    obtain ⟨xs, e1, h1, h2, h3, h4⟩ := old
    have e2 : (frzs ρ)[i]? = some (some p) := by rw [← hf]; exact frzs_get.mpr ⟨ds, e⟩
    obtain ⟨ds', e3⟩ := frzs_get.mp e2
    obtain ⟨xs', e4, g1, g2, g3, g4⟩ := r.sl i _ e3
    have e5 := r.mn_G (fun _ => g4) g1
    rw [h1] at e5
    cases e5
    exact ⟨xs, e1, g1, h2, h3, h4⟩
  | jar => exact old
end
end DL

namespace DL
open PySem PySem.Spec PyProof.Rows L2 GuL HG LZ RZ
/-! ### what is walked -/
/-- J gives the items, however the heap goes on from B -/
def Ito (K : PySem.W.Frag) (b : Addr) (j : Bool) (J : It) (B : Hp) (items : List PyData) : Prop :=
  ∃ Y, Walk J items.length (fun H => Stp b j B H) Y ∧ ∀ i H x H' d, i < items.length → Stp b j B H → Y i H x H' → items[i]? = some d → Same H H' ∧ Dt K b H' x d
abbrev DTI := List SV → (List PyData → Prop) → Prop
def LI (K : PySem.W.Frag) (b : Addr) (j : Bool) (f : Bool) (t : DTI) : TI := fun σ H R => ∃ ρ H0 G, Rel K b j H0 G σ H ρ ∧ t ρ fun items => ∀ J H', Stp b j H H' → Ito K b j J (if f = true then mn σ ρ H' else H') items → R J H'
structure DI (X : Cx) (b : Addr) (j : Bool) (f : Bool) (tg e : Expr) (t : DTI) : Prop where
  pi : PI X tg e (LI X.K b j f t)
  mo : ∀ ρ (Q Q' : List PyData → Prop), (∀ d, Q d → Q' d) → t ρ Q → t ρ Q'
theorem piI {X : Cx} {tg e : Expr} {t t' : TI} (h : PI X tg e t') (i : ∀ σ H Q, t σ H Q → t' σ H Q) : PI X tg e t := ⟨fun pins s σ H Q I q => h.run pins s σ H Q I (i σ H Q q)⟩
section
variable {K : PySem.W.Frag} {b : Addr} {j : Bool} {H0 G H H1 H' : Hp} {σ : L2.St} {ρ : List SV}
/-- the base of an iterator is known, and is part of the heap -/
theorem base_kn (r : Rel K b j H0 G σ H ρ) (f : Bool) : Kn b j (if f = true then mn σ ρ H else H) := by
  cases f with
  | false => exact r.knH
  | true =>
    obtain ⟨⟨u, h1⟩, h2⟩ := r.knH
    exact ⟨⟨u, r.mn_keep h1 (.inr (.inr rfl))⟩, fun e => r.mn_jar (h2 e)⟩
theorem base_T (r : Rel K b j H0 G σ H ρ) (f : Bool) {a : Addr} {xs : List V} (h : SqT K H a xs) : SqT K (if f = true then mn σ ρ H else H) a xs := by
  cases f with
  | false => exact h
  | true =>
    rcases h with (h | ⟨o, h⟩) | h
    · exact .inl (.inl (r.mn_keep h (.inl fun xs z => nomatch z)))
    · exact .inl (.inr ⟨o, r.mn_keep h (.inl fun xs z => nomatch z)⟩)
    · exact .inr h
mutual
theorem base_dt (r : Rel K b j H0 G σ H ρ) (f : Bool) : ∀ {v : V} {d : PyData}, NoL d → Dt K b H v d → Dt K b (if f = true then mn σ ρ H else H) v d
  | _, _, _, .non => .non
  | _, _, _, .bl c => .bl c
  | _, _, _, .int i => .int i
  | _, _, _, .str x => .str x
  | _, _, n, .lst _ _ _ => nomatch n
  | _, _, .tup n, .tup h d => .tup (base_T r f h) (base_dts r f n d)
theorem base_dts (r : Rel K b j H0 G σ H ρ) (f : Bool) : ∀ {vs : List V} {ds : List PyData}, (∀ d ∈ ds, NoL d) → Dts K b H vs ds → Dts K b (if f = true then mn σ ρ H else H) vs ds
  | _, _, _, .nil => .nil
  | _, _, n, .cons h d => .cons (base_dt r f (n _ List.mem_cons_self) h) (base_dts r f (fun d hd => n d (List.mem_cons_of_mem _ hd)) d)
end
theorem ito_tup {B : Hp} {a : Addr} {xs : List V} {ds : List PyData} (k : Kn b j B) (h : SqT K B a xs) (hd : Dts K b B xs ds) : Ito K b j (Itt K a) B ds := by
  refine ⟨YAt xs, ?_, fun i H x H' d hi s ⟨e, hx⟩ hd' => ?_⟩
  · rw [← hd.len]
    exact (walk_tup (xs := xs)).mono (fun H s => sqT_stp k s h) fun _ _ _ _ _ _ y => y
  · subst e
    obtain ⟨d2, e2, h2⟩ := hd.at hx
    rw [hd'] at e2
    cases e2
    exact ⟨Same.refl _, h2.stp k s⟩
theorem ito_lst {B : Hp} {a : Addr} {xs : List V} {ds : List PyData} (k : Kn b j B) (h : SqL K B a xs) (n : a ≠ b) (hd : Dts K b B xs ds) : Ito K b j (Itl K a) B ds := by
  refine ⟨YAt xs, ?_, fun i H x H' d hi s ⟨e, hx⟩ hd' => ?_⟩
  · rw [← hd.len]
    exact (walk_list (xs := xs)).mono (fun H s => sqL_stp s n h) fun _ _ _ _ _ _ y => y
  · subst e
    obtain ⟨d2, e2, h2⟩ := hd.at hx
    rw [hd'] at e2
    cases e2
    exact ⟨Same.refl _, h2.stp k s⟩
def rngD (lo : Int) (n : Nat) : List PyData := (List.range n).map fun i => .int (lo + (i : Nat))
theorem ito_rng {B : Hp} {lo : Int} {n : Nat} : Ito K b j (Itr lo n) B (rngD lo n) := by
  refine ⟨YFn fun i => .int (lo + i), ?_, fun i H x H' d hi s ⟨e, hx⟩ hd => ?_⟩
  · have e : (rngD lo n).length = n := by unfold rngD; rw [List.length_map, List.length_range]
    rw [e]
    exact walk_range.mono (fun _ _ => True.intro) fun _ _ _ _ _ _ y => y
  · subst e hx
    unfold rngD at hd hi
    rw [List.length_map, List.length_range] at hi
    rw [List.getElem?_map, List.getElem?_range hi] at hd
    cases hd
    exact ⟨Same.refl _, .int _⟩
/-- pairs of the index -/
def enD (ds : List PyData) : List PyData := ds.mapIdx fun i d => .tuple [.int (i : Nat), d]
theorem ito_en {B : Hp} {a : Addr} {xs : List V} {ds : List PyData} (k : Kn b j B) (h : SqT K B a xs) (hd : Dts K b B xs ds) : Ito K b j (ItE K a) B (enD ds) := by
  have ln : (enD ds).length = xs.length := by unfold enD; rw [List.length_mapIdx, hd.len]
  refine ⟨fun i H v H' => ∃ T p, v = .ref T ∧ H T = none ∧ H' = upd H T (.tup [.int (i : Nat), p]) ∧ xs[i]? = some p, ?_, ?_⟩
  · rw [ln]
    exact ⟨fun i H hi s => ⟨xs, sqT_stp k s h, hi⟩, fun H s => ⟨xs, sqT_stp k s h, rfl⟩, fun i H x H' hi s ⟨T, p, e1, e2, e3, e4⟩ => ⟨T, p, e1, e2, e3, e4 xs (sqT_stp k s h)⟩⟩
  · rintro i H x H' d hi s ⟨T, p, rfl, hT, rfl, hp⟩ e
    obtain ⟨d2, e2, h2⟩ := hd.at hp
    unfold enD at e
    rw [List.getElem?_mapIdx, e2] at e
    cases e
    exact ⟨same_new hT, .tup (SqT.of upd_same) (.cons (.int _) (.cons ((h2.stp k s).stp (k.step s) (.new hT)) .nil))⟩
def zp2 : List PyData → List PyData → List PyData
  | d :: ds, e :: es => .tuple [d, e] :: zp2 ds es
  | _, _ => []
theorem zp2_len : ∀ {ds es : List PyData}, ds.length = es.length → (zp2 ds es).length = ds.length
  | [], [], _ => rfl
  | _ :: ds, _ :: es, h => by
    have h' : ds.length = es.length := by simpa using h
    show (zp2 ds es).length + 1 = ds.length + 1
    rw [zp2_len h']
theorem zp2_get : ∀ {ds es : List PyData} {i : Nat} {d e : PyData}, ds[i]? = some d → es[i]? = some e → (zp2 ds es)[i]? = some (.tuple [d, e])
  | _ :: ds, _ :: es, 0, d, e, h1, h2 => by
    simp at h1 h2
    subst h1 h2
    rfl
  | _ :: ds, _ :: es, i + 1, d, e, h1, h2 => by
    have := zp2_get (ds := ds) (es := es) (i := i) (by simpa using h1) (by simpa using h2)
    simpa [zp2] using this
theorem ito_z2 {B : Hp} {a c : Addr} {xs ys : List V} {ds es : List PyData} (k : Kn b j B) (ha : SqT K B a xs) (hc : SqT K B c ys) (hd : Dts K b B xs ds) (he : Dts K b B ys es) (hl : ds.length = es.length) : Ito K b j (ItzT K a c) B (zp2 ds es) := by
  have l1 : (zp2 ds es).length = xs.length := by rw [zp2_len hl, hd.len]
  have l2 : xs.length = ys.length := by rw [hd.len, he.len, hl]
  refine ⟨fun i H v H' => ∃ T p q, v = .ref T ∧ H T = none ∧ H' = upd H T (.tup [p, q]) ∧ xs[i]? = some p ∧ ys[i]? = some q, ?_, ?_⟩
  · rw [l1]
    refine ⟨fun i H hi s => ⟨xs, ys, xs[i], ys[i]'(by omega), sqT_stp k s ha, sqT_stp k s hc, by simp [hi], List.getElem?_eq_getElem _⟩, fun H s => ⟨xs, ys, sqT_stp k s ha, sqT_stp k s hc, .inl (Nat.le_refl _)⟩, fun i H x H' hi s y => ?_⟩
    obtain ⟨T, p, q, e1, e2, e3, e4, e5⟩ := y
    exact ⟨T, p, q, e1, e2, e3, e4 xs (sqT_stp k s ha), e5 ys (sqT_stp k s hc)⟩
  · rintro i H x H' d hi s ⟨T, p, q, rfl, hT, rfl, hp, hq⟩ e
    obtain ⟨d2, e2, h2⟩ := hd.at hp
    obtain ⟨d3, e3, h3⟩ := he.at hq
    rw [zp2_get e2 e3] at e
    cases e
    exact ⟨same_new hT, .tup (SqT.of upd_same) (.cons ((h2.stp k s).stp (k.step s) (.new hT)) (.cons ((h3.stp k s).stp (k.step s) (.new hT)) .nil))⟩
def zp3 : List PyData → List PyData → List PyData → List PyData
  | d :: ds, e :: es, f :: fs => .tuple [d, e, f] :: zp3 ds es fs
  | _, _, _ => []
theorem zp3_len : ∀ {ds es fs : List PyData}, ds.length = es.length → ds.length = fs.length → (zp3 ds es fs).length = ds.length
  | [], [], [], _, _ => rfl
  | _ :: ds, _ :: es, _ :: fs, h, g => by
    have h' : ds.length = es.length := by simpa using h
    have g' : ds.length = fs.length := by simpa using g
    show (zp3 ds es fs).length + 1 = ds.length + 1
    rw [zp3_len h' g']
theorem zp3_get : ∀ {ds es fs : List PyData} {i : Nat} {d e f : PyData}, ds[i]? = some d → es[i]? = some e → fs[i]? = some f → (zp3 ds es fs)[i]? = some (.tuple [d, e, f])
  | _ :: ds, _ :: es, _ :: fs, 0, d, e, f, h1, h2, h3 => by
    simp at h1 h2 h3
    subst h1 h2 h3
    rfl
  | _ :: ds, _ :: es, _ :: fs, i + 1, d, e, f, h1, h2, h3 => by
    have := zp3_get (ds := ds) (es := es) (fs := fs) (i := i) (by simpa using h1) (by simpa using h2) (by simpa using h3)
    simpa [zp3] using this
theorem ito_z3 {B : Hp} {a c g : Addr} {xs ys zs : List V} {ds es fs : List PyData} (k : Kn b j B) (ha : SqT K B a xs) (hc : SqT K B c ys) (hg : SqT K B g zs) (hd : Dts K b B xs ds) (he : Dts K b B ys es) (hf : Dts K b B zs fs) (hl : ds.length = es.length) (hl2 : ds.length = fs.length) : Ito K b j (It3 K a c g) B (zp3 ds es fs) := by
  have l1 : (zp3 ds es fs).length = xs.length := by rw [zp3_len hl hl2, hd.len]
  have l2 : xs.length = ys.length := by rw [hd.len, he.len, hl]
  have l3 : xs.length = zs.length := by rw [hd.len, hf.len, hl2]
  refine ⟨fun i H v H' => ∃ T p q u, v = .ref T ∧ H T = none ∧ H' = upd H T (.tup [p, q, u]) ∧ xs[i]? = some p ∧ ys[i]? = some q ∧ zs[i]? = some u, ?_, ?_⟩
  · rw [l1]
    refine ⟨fun i H hi s => ⟨xs, ys, zs, sqT_stp k s ha, sqT_stp k s hc, sqT_stp k s hg, l2, l3, hi⟩, fun H s => ⟨xs, ys, zs, sqT_stp k s ha, sqT_stp k s hc, sqT_stp k s hg, l2, l3, rfl⟩, fun i H x H' hi s y => ?_⟩
    obtain ⟨T, p, q, u, e1, e2, e3, e4, e5, e6⟩ := y
    exact ⟨T, p, q, u, e1, e2, e3, e4 xs (sqT_stp k s ha), e5 ys (sqT_stp k s hc), e6 zs (sqT_stp k s hg)⟩
  · rintro i H x H' d hi s ⟨T, p, q, u, rfl, hT, rfl, hp, hq, hu⟩ e
    obtain ⟨d2, e2, h2⟩ := hd.at hp
    obtain ⟨d3, e3, h3⟩ := he.at hq
    obtain ⟨d4, e4, h4⟩ := hf.at hu
    rw [zp3_get e2 e3 e4] at e
    cases e
    exact ⟨same_new hT, .tup (SqT.of upd_same) (.cons ((h2.stp k s).stp (k.step s) (.new hT)) (.cons ((h3.stp k s).stp (k.step s) (.new hT)) (.cons ((h4.stp k s).stp (k.step s) (.new hT)) .nil)))⟩
end
/-! ### the iterators as they are written -/
def tupI (f : Bool) (t : DTE) : DTI := fun ρ Q => t ρ fun d => match d with | .tuple ds => (f = true → ∀ d ∈ ds, NoL d) ∧ Q ds | _ => False
def lstI (t : DTE) : DTI := fun ρ Q => t ρ fun d => match d with | .list ds => Q ds | _ => False
def newI (t : DTA) : DTI := fun ρ Q => t ρ fun ds => (∀ d ∈ ds, NoL d) ∧ Q ds
def rng1I (t : DTA) : DTI := fun ρ Q => t ρ fun ds => match ds with | [.int n] => (-(2 ^ 62) ≤ n ∧ n < 2 ^ 62) ∧ Q (rngD 0 n.toNat) | _ => False
def rng2I (t : DTA) : DTI := fun ρ Q => t ρ fun ds => match ds with | [.int m, .int n] => (-(2 ^ 62) ≤ m ∧ m < 2 ^ 62 ∧ -(2 ^ 62) ≤ n ∧ n < 2 ^ 62) ∧ Q (rngD m (n - m).toNat) | _ => False
def enI (f : Bool) (t : DTA) : DTI := fun ρ Q => t ρ fun ds => match ds with | [.tuple ds] => (f = true → ∀ d ∈ ds, NoL d) ∧ Q (enD ds) | _ => False
def z2I (f : Bool) (t : DTA) : DTI := fun ρ Q => t ρ fun ds => match ds with | [.tuple ds, .tuple es] => (f = true → (∀ d ∈ ds, NoL d) ∧ ∀ d ∈ es, NoL d) ∧ ds.length = es.length ∧ Q (zp2 ds es) | _ => False
def z3I (f : Bool) (t : DTA) : DTI := fun ρ Q => t ρ fun ds => match ds with | [.tuple ds, .tuple es, .tuple fs] => (f = true → (∀ d ∈ ds, NoL d) ∧ (∀ d ∈ es, NoL d) ∧ ∀ d ∈ fs, NoL d) ∧ ds.length = es.length ∧ ds.length = fs.length ∧ Q (zp3 ds es fs) | _ => False
section
variable {X : Cx} {b : Addr} {j f : Bool} {tg e e1 e2 e3 : Expr} {es : List Expr} {pos p : Pos} {ta : DTE} {tt : DTA}
theorem base_dts' {K : PySem.W.Frag} {H0 G H : Hp} {σ : L2.St} {ρ : List SV} {vs : List V} {ds : List PyData} (r : Rel K b j H0 G σ H ρ) (h : f = true → ∀ d ∈ ds, NoL d) (hd : Dts K b H vs ds) : Dts K b (if f = true then mn σ ρ H else H) vs ds := by
  cases f with
  | false => exact hd
  | true => exact base_dts r true (h rfl) hd
theorem di_tup (h : DE X b j e ta) : DI X b j f tg e (tupI f ta) := by
  refine ⟨piI (pi_tup h.pe) ?_, fun ρ Q Q' m q => h.mo _ _ _ (fun d h => ?_) q⟩
  · rintro σ H Q ⟨ρ, H0, G, r, q⟩
    refine ⟨ρ, H0, G, r, h.mo _ _ _ (fun d q v H1 s1 hv => ?_) q⟩
    cases hv with
    | @tup a xs ds g1 g2 =>
      have r1 := r.step s1
      exact ⟨a, rfl, ⟨xs, g1⟩, q.2 _ H1 s1 (ito_tup (base_kn r1 f) (base_T r1 f g1) (base_dts' r1 q.1 g2))⟩
    | _ => exact q.elim
  · cases d <;> first | exact h.elim | exact ⟨h.1, m _ h.2⟩
theorem di_lst (h : DE X b j e ta) : DI X b j false tg e (lstI ta) := by
  refine ⟨piI (pi_list h.pe) ?_, fun ρ Q Q' m q => h.mo _ _ _ (fun d h => ?_) q⟩
  · rintro σ H Q ⟨ρ, H0, G, r, q⟩
    refine ⟨ρ, H0, G, r, h.mo _ _ _ (fun d q v H1 s1 hv => ?_) q⟩
    cases hv with
    | @lst a xs ds g1 g3 g2 =>
      have r1 := r.step s1
      exact ⟨a, rfl, ⟨xs, g1⟩, q _ H1 s1 (ito_lst r1.knH g1 g3 g2)⟩
    | _ => exact q.elim
  · cases d <;> first | exact h.elim | exact m _ h
theorem di_new (h : DN X b j e tt) : DI X b j f tg e (newI tt) := by
  refine ⟨piI (pi_list h.pe) ?_, fun ρ Q Q' m q => h.mo _ _ _ (fun d h => ⟨h.1, m _ h.2⟩) q⟩
  rintro σ H Q ⟨ρ, H0, G, r, q⟩
  refine ⟨ρ, H0, G, r, h.mo _ _ _ (fun ds q p xs H1 s1 hp hx hd => ?_) q⟩
  have r1 := r.step s1
  have hx' : (if f = true then mn σ ρ H1 else H1) p = some (.lst xs) := by
    cases f with
    | false => exact hx
    | true =>
      show mn σ ρ H1 p = _
      rw [mn_else, hx]
      intro i ds e z
      obtain ⟨p', xs', e1, h1, _⟩ := r.own_at e
      rw [e1] at z
      cases z
      rw [h1] at hp
      cases hp
  exact ⟨p, rfl, ⟨xs, SqL.of hx⟩, q.2 _ H1 s1 (ito_lst (base_kn r1 f) (SqL.of hx') (r.knH.ne hp) (base_dts r1 f q.1 hd))⟩
theorem di_rng1 (hg : Gl X "range") (hm : X.mg "range" = none) (h : DA X b j [e] tt) (hs : starEach [e] X.env = [(false, eval e X.env)] := by rfl) : DI X b j f tg (.Call (.Name "range" p) [e] [] pos) (rng1I tt) := by
  refine ⟨piI (pi_range1 hg hm h.pa hs) ?_, fun ρ Q Q' m q => h.mo _ _ _ (fun d h => ?_) q⟩
  · rintro σ H Q ⟨ρ, H0, G, r, q⟩
    refine ⟨ρ, H0, G, r, h.mo _ _ _ (fun ds q vs H1 s1 hv => ?_) q⟩
    split at q
    · rename_i n
      cases hv with
      | cons h1 h2 =>
        cases h1
        cases h2
        exact ⟨n, rfl, q.1.1, q.1.2, q.2 _ H1 s1 ito_rng⟩
    · exact q.elim
  · split at h
    · exact ⟨h.1, m _ h.2⟩
    · exact h.elim
theorem di_en (hg : Gl X "enumerate") (hm : X.mg "enumerate" = none) (h : DA X b j [e] tt) {ts : List Expr} {kk : Nat} {tp : Pos} (hs : starEach [e] X.env = [(false, eval e X.env)] := by rfl) : DI X b j f (.Tuple ts kk tp) (.Call (.Name "enumerate" p) [e] [] pos) (enI f tt) := by
  refine ⟨piI (pi_enumT hg hm h.pa hs) ?_, fun ρ Q Q' m q => h.mo _ _ _ (fun d h => ?_) q⟩
  · rintro σ H Q ⟨ρ, H0, G, r, q⟩
    refine ⟨ρ, H0, G, r, h.mo _ _ _ (fun ds q vs H1 s1 hv => ?_) q⟩
    split at q
    · rename_i n
      cases hv with
      | cons h1 h2 =>
        cases h1 with
        | tup g1 g2 =>
          cases h2
          have r1 := r.step s1
          exact ⟨_, _, rfl, g1, q.2 _ H1 s1 (ito_en (base_kn r1 f) (base_T r1 f g1) (base_dts' r1 q.1 g2))⟩
    · exact q.elim
  · split at h
    · exact ⟨h.1, m _ h.2⟩
    · exact h.elim
theorem di_z2 (hg : Gl X "zip") (hm : X.mg "zip" = none) (h : DA X b j [e1, e2] tt) {ts : List Expr} {kk : Nat} {tp : Pos} (hs : starEach [e1, e2] X.env = (false, eval e1 X.env) :: starEach [e2] X.env := by rfl) (hpl : (backTo pos (starEach [e2] X.env)).any (·.1) = false := by rfl) : DI X b j f (.Tuple ts kk tp) (.Call (.Name "zip" p) [e1, e2] [] pos) (z2I f tt) := by
  refine ⟨piI (pi_zipA hg hm h.pa hs hpl) ?_, fun ρ Q Q' m q => h.mo _ _ _ (fun d h => ?_) q⟩
  · rintro σ H Q ⟨ρ, H0, G, r, q⟩
    refine ⟨ρ, H0, G, r, h.mo _ _ _ (fun ds q vs H1 s1 hv => ?_) q⟩
    split at q
    · cases hv with
      | cons h1 h2 =>
        cases h1 with
        | tup g1 g2 =>
          cases h2 with
          | cons h3 h4 =>
            cases h3 with
            | tup g3 g4 =>
              cases h4
              have r1 := r.step s1
              exact ⟨_, _, _, _, rfl, .inr ⟨g1, g3, q.2.2 _ H1 s1 (ito_z2 (base_kn r1 f) (base_T r1 f g1) (base_T r1 f g3) (base_dts' r1 (fun e => (q.1 e).1) g2) (base_dts' r1 (fun e => (q.1 e).2) g4) q.2.1)⟩⟩
    · exact q.elim
  · split at h
    · exact ⟨h.1, h.2.1, m _ h.2.2⟩
    · exact h.elim
theorem di_z3 (hg : Gl X "zip") (hm : X.mg "zip" = none) (h : DA X b j [e1, e2, e3] tt) {ts : List Expr} {kk : Nat} {tp : Pos} (hs : starEach [e1, e2, e3] X.env = (false, eval e1 X.env) :: starEach [e2, e3] X.env := by rfl) (hpl : (backTo pos (starEach [e2, e3] X.env)).any (·.1) = false := by rfl) : DI X b j f (.Tuple ts kk tp) (.Call (.Name "zip" p) [e1, e2, e3] [] pos) (z3I f tt) := by
  refine ⟨piI (pi_zip3 hg hm h.pa hs hpl) ?_, fun ρ Q Q' m q => h.mo _ _ _ (fun d h => ?_) q⟩
  · rintro σ H Q ⟨ρ, H0, G, r, q⟩
    refine ⟨ρ, H0, G, r, h.mo _ _ _ (fun ds q vs H1 s1 hv => ?_) q⟩
    split at q
    · cases hv with
      | cons h1 h2 =>
        cases h1 with
        | tup g1 g2 =>
          cases h2 with
          | cons h3 h4 =>
            cases h3 with
            | tup g3 g4 =>
              cases h4 with
              | cons h5 h6 =>
                cases h5 with
                | tup g5 g6 =>
                  cases h6
                  have r1 := r.step s1
                  exact ⟨_, _, _, _, _, _, rfl, g1, g3, g5, q.2.2.2 _ H1 s1 (ito_z3 (base_kn r1 f) (base_T r1 f g1) (base_T r1 f g3) (base_T r1 f g5) (base_dts' r1 (fun e => (q.1 e).1) g2) (base_dts' r1 (fun e => (q.1 e).2.1) g4) (base_dts' r1 (fun e => (q.1 e).2.2) g6) q.2.1 q.2.2.1)⟩
    · exact q.elim
  · split at h
    · exact ⟨h.1, h.2.1, h.2.2.1, m _ h.2.2.2⟩
    · exact h.elim
end
end DL

namespace DL
open PySem PySem.Spec PyProof.Rows L2 GuL HG LZ RZ
/-! ### comprehensions -/
def nLc (ti : DTI) (p : Pt) (vs : List Nat) (te : DTE) : DTA := fun ρ Q => ti ρ fun items => items.length ≤ 100000 ∧ ∃ R : Nat → PyData → Prop, (∀ k d, items[k]? = some d → bT p d (wp ρ vs) fun ρ' => te ρ' fun e => NoL e ∧ R k e) ∧
  ∀ ds, ds.length = items.length → (∀ (k : Nat) e, ds[k]? = some e → R k e) → Q ds
def nLcT (ti : DTI) (p : Pt) (vs : List Nat) (tt : DTT) (te : DTE) : DTA := fun ρ Q => ti ρ fun items => items.length ≤ 100000 ∧ ∃ R : Nat → Option PyData → Prop,
  (∀ k d, items[k]? = some d → bT p d (wp ρ vs) fun ρ' => tt ρ' fun c => if c = true then te ρ' fun e => NoL e ∧ R k (some e) else R k none) ∧
  ∀ os : List (Option PyData), os.length = items.length → (∀ (k : Nat) o, os[k]? = some o → R k o) → Q (os.filterMap id)
section
variable {X : Cx} {b : Addr} {j : Bool} {tg iter elt : Expr} {ifs : List Expr} {ti : DTI} {te : DTE} {tt : DTT} {p : Pt} {vs : List Nat}
theorem app_keep {K : PySem.W.Frag} {H : Hp} {D : Addr} {acc ys : List V} {ds : List PyData} {xs : List V} (hD : H D = some (.lst acc)) (n : ∀ d ∈ ds, NoL d) (h : Dts K b H xs ds) : Dts K b (upd H D (.lst ys)) xs ds :=
  .of n (dpExbAll (b := D) (xs0 := acc) hD Exb.put n h.dp)
theorem lc_okT (mt : MoT tt) (me : MoE te) (hv : ∀ i ∈ ixT p, i ∈ vs) {wi : TI} {mti : ∀ ρ (Q Q' : List PyData → Prop), (∀ d, Q d → Q' d) → ti ρ Q → ti ρ Q'} (hi : ∀ σ H R, LI X.K b j false ti σ H R → wi σ H R) :
    ∀ σ H Q, LL X.K b j (nLcT ti p vs tt te) σ H Q → tLc wi (gT X.K p) (LT X.K b j tt) (LE X.K b j te) vs σ H Q := by
  rintro σ H Q ⟨ρ, H0, G, r, q⟩
  refine hi σ H _ ⟨ρ, H0, G, r, mti _ _ _ (fun items q J H1 s1 it D hD => ?_) q⟩
  obtain ⟨hl, R, hR, hQ⟩ := q
  obtain ⟨Y, wk, hy⟩ := it
  have r1 := r.step s1
  have k1 := r1.knH
  have nDb := k1.ne hD
  refine lc_it wk (fun i H2 => Stp b j H1 H2 ∧ ∃ (acc : List V) (os : List (Option PyData)), H2 D = some (.lst acc) ∧ Dts X.K b H2 acc (os.filterMap id) ∧ (∀ d ∈ os.filterMap id, NoL d) ∧ os.length = i ∧ ∀ (k : Nat) o, os[k]? = some o → R k o) ?_ (fun i H2 _ h => h.1) ?_ ?_
  · refine ⟨.new hD, [], [], upd_same, .nil, (fun d h => nomatch h), rfl, fun k o h => ?_⟩
    rw [List.getElem?_nil] at h
    cases h
  · rintro i x H2 H3 hi2 ⟨s2, acc, os, hD2, ha, hn, hlen, ho⟩ y
    obtain ⟨d, hd⟩ : ∃ d, items[i]? = some d := ⟨_, List.getElem?_eq_getElem hi2⟩
    obtain ⟨sm, hx⟩ := hy i H2 x H3 d hi2 s2 y hd
    have s3 : Stp b j H1 H3 := s2.trans (.same sm)
    have r3 := (r1.step s3).wipe vs
    have k2 := k1.step s2
    refine gT_ok r3 hx (hR i d hd) fun σ' ρ' r' hb bt => ⟨bt vs hv |>.trans ?_, ?_⟩
    · apply List.ext_getElem?
      intro k
      rw [wipe_get, wipe_get, wipe_length]
      split <;> rfl
    refine ⟨ρ', H0, G, r', mt _ _ _ (fun c hc H4 s4 => ?_) hb⟩
    have k3 := k1.step s3
    have acc4 : H4 D = some (.lst acc) := s4.1 D _ (fun _ => nDb) (sm _ _ hD2)
    have ha4 : Dts X.K b H4 acc (os.filterMap id) := (ha.stp k2 (.same sm)).stp k3 s4
    cases c with
    | true =>
      have hc : te ρ' fun e => NoL e ∧ R i (some e) := hc
      change LE X.K b j te σ' H4 _
      refine ⟨ρ', H0, G, r'.step s4, me _ _ _ (fun e he v H5 s5 hv5 => ?_) hc⟩
      obtain ⟨ne, hRe⟩ := he
      have k4 := k3.step s4
      have acc5 : H5 D = some (.lst acc) := s5.1 D _ (fun _ => nDb) acc4
      have ha5 := ha4.stp k4 s5
      refine ⟨acc, acc5, ?_, ?_, acc ++ [v], os ++ [some e], upd_same, ?_, ?_, ?_, ?_⟩
      · rw [ha.len]
        refine Nat.lt_of_le_of_lt (List.length_filterMap_le _ _) ?_
        rw [hlen]
        exact Nat.lt_of_lt_of_le (Nat.lt_of_lt_of_le hi2 hl) (by decide)
      · exact Stp.mut k1 ((s3.trans s4).trans s5) hD
      · rw [List.filterMap_append]
        exact app_keep acc5 (fun d hd => by
          rcases List.mem_append.mp hd with h | h
          · exact hn d h
          · rw [List.mem_singleton.mp h]; exact ne) (ha5.snoc hv5)
      · intro d hd
        rw [List.filterMap_append] at hd
        rcases List.mem_append.mp hd with h | h
        · exact hn d h
        · rw [List.mem_singleton.mp h]; exact ne
      · rw [List.length_append, hlen]; rfl
      · intro k o hk
        rw [List.getElem?_append] at hk
        split at hk
        · exact ho k o hk
        · rename_i c
          have e1 : k = i := by
            have := (List.getElem?_eq_some_iff.mp hk).1
            simp at this
            omega
          subst e1
          rw [hlen, Nat.sub_self] at hk
          cases hk
          exact hRe
    | false =>
      have hc : R i none := hc
      change Stp b j H1 H4 ∧ _
      refine ⟨s3.trans s4, acc, os ++ [none], acc4, ?_, ?_, ?_, ?_⟩
      · rw [List.filterMap_append]
        show Dts X.K b H4 acc (os.filterMap id ++ [])
        rw [List.append_nil]
        exact ha4
      · intro d hd
        rw [List.filterMap_append] at hd
        rcases List.mem_append.mp hd with h | h
        · exact hn d h
        · exact nomatch h
      · rw [List.length_append, hlen]; rfl
      · intro k o hk
        rw [List.getElem?_append] at hk
        split at hk
        · exact ho k o hk
        · rename_i c
          have e1 : k = i := by
            have := (List.getElem?_eq_some_iff.mp hk).1
            simp at this
            omega
          subst e1
          rw [hlen, Nat.sub_self] at hk
          cases hk
          exact hc
  · rintro H2 ⟨s2, acc, os, hD2, ha, hn, hlen, ho⟩
    exact hQ os hlen ho D acc H2 (s1.trans s2) (s1.free r.knH hD) hD2 ha
theorem lc_mo (mt : MoT tt) (me : MoE te) (mti : ∀ ρ (Q Q' : List PyData → Prop), (∀ d, Q d → Q' d) → ti ρ Q → ti ρ Q') : MoA (nLcT ti p vs tt te) := fun ρ Q Q' m q => mti _ _ _ (fun items ⟨hl, R, hR, hQ⟩ => ⟨hl, R, hR, fun os h1 h2 => m _ (hQ os h1 h2)⟩) q
def tY : DTT := fun _ Q => Q true
/-- without a test -/
theorem lc_no {ρ : List SV} {Q : List PyData → Prop} (mti : ∀ ρ (Q Q' : List PyData → Prop), (∀ d, Q d → Q' d) → ti ρ Q → ti ρ Q') (me : MoE te) (h : nLc ti p vs te ρ Q) : nLcT ti p vs tY te ρ Q := by
  refine mti _ _ _ (fun items ⟨hl, R, hR, hQ⟩ => ⟨hl, fun k o => ∃ e : PyData, o = some e ∧ R k e, fun k d hd => bT_mo (Q := fun ρ' => te ρ' fun e => NoL e ∧ R k e) (fun ρ' h => ?_) (hR k d hd), fun os h1 h2 => ?_⟩) h
  · change te ρ' fun e => NoL e ∧ ∃ e' : PyData, some e = some e' ∧ R k e'
    exact me ρ' (fun e => NoL e ∧ R k e) _ (fun e h => ⟨h.1, e, rfl, h.2⟩) h
  · have key : ∀ (os : List (Option PyData)) (R : Nat → PyData → Prop), (∀ (k : Nat) o, os[k]? = some o → ∃ e, o = some e ∧ R k e) → (os.filterMap id).length = os.length ∧ ∀ (k : Nat) e, (os.filterMap id)[k]? = some e → R k e := by
      intro os
      induction os with
      | nil => exact fun R _ => ⟨rfl, fun k e h => by simp at h⟩
      | cons o os ih =>
        intro R h
        obtain ⟨e, rfl, he⟩ := h 0 o rfl
        obtain ⟨i1, i2⟩ := ih (fun k e => R (k + 1) e) fun k o hk => h (k + 1) o (by simpa using hk)
        refine ⟨by show (os.filterMap id).length + 1 = _; rw [i1]; rfl, fun k e' hk => ?_⟩
        cases k with
        | zero =>
          have : some e = some e' := hk
          cases this
          exact he
        | succ k => exact i2 k e' hk
    obtain ⟨i1, i2⟩ := key os R h2
    exact hQ _ (by rw [i1, h1]) i2
end
section
variable {X : Cx} {b : Addr} {j : Bool} {tg iter elt : Expr} {ifs : List Expr} {scope : Scope} {own : List (Str × Nat)} {pos spos : Pos} {ti : DTI} {te : DTE} {tt : DTT} {p : Pt}
theorem dn_lcT {c : Expr} (hc : X.calm = true) (hN : X.N.Nodup) (hi : DI X b j false tg iter ti) (ok : BlkOk X.N X.env.scope scope own) (hv : ∀ i ∈ ixT p, i ∈ own.map (·.2))
    (hg : ∀ (s : Shared) (H : Hp) (C : Addr) (cl : List (Str × Addr)) (fp : List Addr), PG (X.blk s H scope (compEnvC scope cl C X.env) fp) tg (gT X.K p))
    (ht : ∀ (s : Shared) (H : Hp) (C : Addr) (cl : List (Str × Addr)) (fp : List Addr), DT (X.blk s H scope (compEnvC scope cl C X.env) fp) b j c tt)
    (he : ∀ (s : Shared) (H : Hp) (C : Addr) (cl : List (Str × Addr)) (fp : List Addr), DE (X.blk s H scope (compEnvC scope cl C X.env) fp) b j elt te) (hs : ∀ x, foldedSetIterable iter X.env x = pure x := by intro _; rfl) :
    DN X b j (.ListComp elt [⟨tg, iter, [c], 0⟩] scope pos) (nLcT ti p (own.map (·.2)) tt te) := by
  have mt : MoT tt := (ht X.s_0 X.H_0 X.env.locals [] []).mo
  have me : MoE te := (he X.s_0 X.H_0 X.env.locals [] []).mo
  refine ⟨peI (pe_lc (te := LE X.K b j te) (tt := LT X.K b j tt) hc hN hi.pi ok hg (fun s H C cl fp => pts_one (ht s H C cl fp).pt) (fun s H C cl fp => (he s H C cl fp).pe) hs) ?_, lc_mo mt me hi.mo⟩
  exact lc_okT (X := X) mt me hv (mti := hi.mo) fun _ _ _ h => h
theorem ds_setLcT {c : Expr} {i : Nat} {y : Str} {py : Pos} (hc : X.calm = true) (hN : X.N.Nodup) (hy : X.N[i]? = some y) (hyl : X.env.scope.names.lookup y = some .local)
    (hsw : swapsWith (.ListComp elt [⟨tg, iter, [c], 0⟩] scope pos) (some (.Name y py)) spos.line X.env = pure true) (hi : DI X b j false tg iter ti) (ok : BlkOk X.N X.env.scope scope own) (hv : ∀ i ∈ ixT p, i ∈ own.map (·.2))
    (hg : ∀ (s : Shared) (H : Hp) (C : Addr) (cl : List (Str × Addr)) (fp : List Addr), PG (X.blk s H scope (compEnvC scope cl C X.env) fp) tg (gT X.K p))
    (ht : ∀ (s : Shared) (H : Hp) (C : Addr) (cl : List (Str × Addr)) (fp : List Addr), DT (X.blk s H scope (compEnvC scope cl C X.env) fp) b j c tt)
    (he : ∀ (s : Shared) (H : Hp) (C : Addr) (cl : List (Str × Addr)) (fp : List Addr), DE (X.blk s H scope (compEnvC scope cl C X.env) fp) b j elt te) (hs : ∀ x, foldedSetIterable iter X.env x = pure x := by intro _; rfl) :
    DS X b j (.Assign [.Name y py] (.ListComp elt [⟨tg, iter, [c], 0⟩] scope pos) spos) (sNew i (nLcT ti p (own.map (·.2)) tt te)) := by
  have mt : MoT tt := (ht X.s_0 X.H_0 X.env.locals [] []).mo
  have me : MoE te := (he X.s_0 X.H_0 X.env.locals [] []).mo
  refine ⟨psI (ps_setLc (te := LE X.K b j te) (tt := LT X.K b j tt) hc hN hy hyl hsw hi.pi ok hg (fun s H C cl fp => pts_one (ht s H C cl fp).pt) (fun s H C cl fp => (he s H C cl fp).pe) hs) ?_, fun D D' ρ l q => lc_mo mt me hi.mo _ _ _ (fun d h => ⟨h.1, l.nx _ h.2⟩) q⟩
  rintro D σ H ⟨ρ, H0, G, r, q⟩
  exact lc_okT (X := X) mt me hv (mti := hi.mo) (fun _ _ _ h => h) σ H _ ⟨ρ, H0, G, r, lc_mo mt me hi.mo _ _ _ (fun ds q p xs H' st hp hx hd => q.2 _ _ (r.setN st hp hx hd q.1)) q⟩
theorem LT_yes {K : PySem.W.Frag} : ∀ σ H Q, LT K b j tY σ H Q → tYes σ H Q := fun σ H Q ⟨_, _, _, _, q⟩ => q H .refl
theorem dn_lc (hc : X.calm = true) (hN : X.N.Nodup) (hi : DI X b j false tg iter ti) (ok : BlkOk X.N X.env.scope scope own) (hv : ∀ i ∈ ixT p, i ∈ own.map (·.2))
    (hg : ∀ (s : Shared) (H : Hp) (C : Addr) (cl : List (Str × Addr)) (fp : List Addr), PG (X.blk s H scope (compEnvC scope cl C X.env) fp) tg (gT X.K p))
    (he : ∀ (s : Shared) (H : Hp) (C : Addr) (cl : List (Str × Addr)) (fp : List Addr), DE (X.blk s H scope (compEnvC scope cl C X.env) fp) b j elt te) (hs : ∀ x, foldedSetIterable iter X.env x = pure x := by intro _; rfl) :
    DN X b j (.ListComp elt [⟨tg, iter, [], 0⟩] scope pos) (nLc ti p (own.map (·.2)) te) := by
  have mY : MoT tY := fun _ _ _ m q => m _ q
  have me : MoE te := (he X.s_0 X.H_0 X.env.locals [] []).mo
  refine ⟨peI (pe_lc (te := LE X.K b j te) (tt := LT X.K b j tY) hc hN hi.pi ok hg (fun s H C cl fp => ⟨fun pins sh σ H' Q I q => pts_nil.run pins sh σ H' Q I (LT_yes σ H' Q q)⟩) (fun s H C cl fp => (he s H C cl fp).pe) hs) ?_, fun ρ Q Q' m q => hi.mo _ _ _ (fun items ⟨hl, R, hR, hQ⟩ => ⟨hl, R, hR, fun os h1 h2 => m _ (hQ os h1 h2)⟩) q⟩
  rintro σ H Q ⟨ρ, H0, G, r, q⟩
  exact lc_okT (X := X) mY me hv (mti := hi.mo) (fun _ _ _ h => h) σ H Q ⟨ρ, H0, G, r, lc_no hi.mo me q⟩
theorem ds_setLc {i : Nat} {y : Str} {py : Pos} (hc : X.calm = true) (hN : X.N.Nodup) (hy : X.N[i]? = some y) (hyl : X.env.scope.names.lookup y = some .local)
    (hsw : swapsWith (.ListComp elt [⟨tg, iter, [], 0⟩] scope pos) (some (.Name y py)) spos.line X.env = pure true) (hi : DI X b j false tg iter ti) (ok : BlkOk X.N X.env.scope scope own) (hv : ∀ i ∈ ixT p, i ∈ own.map (·.2))
    (hg : ∀ (s : Shared) (H : Hp) (C : Addr) (cl : List (Str × Addr)) (fp : List Addr), PG (X.blk s H scope (compEnvC scope cl C X.env) fp) tg (gT X.K p))
    (he : ∀ (s : Shared) (H : Hp) (C : Addr) (cl : List (Str × Addr)) (fp : List Addr), DE (X.blk s H scope (compEnvC scope cl C X.env) fp) b j elt te) (hs : ∀ x, foldedSetIterable iter X.env x = pure x := by intro _; rfl) :
    DS X b j (.Assign [.Name y py] (.ListComp elt [⟨tg, iter, [], 0⟩] scope pos) spos) (sNew i (nLc ti p (own.map (·.2)) te)) := by
  have mY : MoT tY := fun _ _ _ m q => m _ q
  have me : MoE te := (he X.s_0 X.H_0 X.env.locals [] []).mo
  have mo : MoA (nLc ti p (own.map (·.2)) te) := fun ρ Q Q' m q => hi.mo _ _ _ (fun items ⟨hl, R, hR, hQ⟩ => ⟨hl, R, hR, fun os h1 h2 => m _ (hQ os h1 h2)⟩) q
  refine ⟨psI (ps_setLc (te := LE X.K b j te) (tt := LT X.K b j tY) hc hN hy hyl hsw hi.pi ok hg (fun s H C cl fp => ⟨fun pins sh σ H' Q I q => pts_nil.run pins sh σ H' Q I (LT_yes σ H' Q q)⟩) (fun s H C cl fp => (he s H C cl fp).pe) hs) ?_, fun D D' ρ l q => mo _ _ _ (fun d h => ⟨h.1, l.nx _ h.2⟩) q⟩
  rintro D σ H ⟨ρ, H0, G, r, q⟩
  refine lc_okT (X := X) mY me hv (mti := hi.mo) (fun _ _ _ h => h) σ H _ ⟨ρ, H0, G, r, lc_no hi.mo me (mo _ _ _ (fun ds q p xs H' st hp hx hd => q.2 _ _ (r.setN st hp hx hd q.1)) q)⟩
end
/-! ### for -/
def fin (D : DEnds) (N B : List SV → Prop) : DEnds := { nx := N, rt := D.rt, rn := D.rn, ct := N, bk := B }
theorem fin_le {D D' : DEnds} {N B B' : List SV → Prop} (l : D.Le D') (h : ∀ ρ, B ρ → B' ρ) : (fin D N B).Le (fin D' N B') := ⟨fun _ h => h, l.rt, l.rn, h, fun _ h => h⟩
def sFor (ti : DTI) (p : Pt) (body : DTS) : DTS := fun D ρ => ti ρ fun items => ∃ I : Nat → List SV → Prop, I 0 ρ ∧
  (∀ k d ρ', items[k]? = some d → I k ρ' → bT p d ρ' fun ρ'' => body (fin D (I (k + 1)) fun ρ2 => frzs ρ2 = frzs ρ ∧ D.nx ρ2) ρ'') ∧ ∀ ρ', I items.length ρ' → frzs ρ' = frzs ρ ∧ D.nx ρ'
def sForO (i : Nat) (p : Pt) (body : DTS) : DTS := fun D ρ => match ρ[i]? with
  | some (.own ds) => ∀ a : Addr, ∃ I : Nat → List SV → Prop, I 0 (ρ.set i (.frz a ds)) ∧
    (∀ k d ρ', ds[k]? = some d → I k ρ' → bT p d ρ' fun ρ'' => body (fin D (I (k + 1)) fun ρ2 => ρ2[i]? = some (.frz a ds) ∧ frzs ρ2 = frzs (ρ.set i (.frz a ds)) ∧ D.nx (ρ2.set i (.own ds))) ρ'') ∧
    ∀ ρ', I ds.length ρ' → ρ'[i]? = some (.frz a ds) ∧ frzs ρ' = frzs (ρ.set i (.frz a ds)) ∧ D.nx (ρ'.set i (.own ds))
  | _ => False
section
variable {X : Cx} {b : Addr} {j : Bool} {tg iter e : Expr} {ss : List Stmt} {pos : Pos} {ti : DTI} {t : DTS} {p : Pt}
theorem ds_for (hp : PassesOwn (model X.prog X.w) X.A X.env X.xe) (hc : X.calm = true) (hi : DI X b j true tg iter ti) (hg : PG X tg (gT X.K p)) (hb : DSs X b j ss t)
    (hs : ∀ x, foldedSetIterable iter X.env x = pure x := by intro _; rfl) : DS X b j (.For tg iter ss [] pos) (sFor ti p t) := by
  refine ⟨psI (ps_for hp hc hi.pi hg hb.ps hs) ?_, fun D D' ρ l q => hi.mo _ _ _ (fun items ⟨I, h0, h1, h2⟩ => ⟨I, h0, fun k d ρ' hd hI => bT_mo (fun ρ'' h => hb.mo _ _ _ (fin_le l fun ρ2 h => ⟨h.1, l.nx _ h.2⟩) h) (h1 k d ρ' hd hI), fun ρ' h => ⟨(h2 ρ' h).1, l.nx _ (h2 ρ' h).2⟩⟩) q⟩
  rintro D σ H ⟨ρ, H0, G, r, q⟩
  refine ⟨ρ, H0, G, r, hi.mo _ _ _ (fun items q J H1 s1 it => ?_) q⟩
  obtain ⟨I, h0, h1, h2⟩ := q
  obtain ⟨Y, wk, hy⟩ := it
  have r1 := r.step s1
  refine for_it wk (fun i σ' H' => ∃ ρ', I i ρ' ∧ Rel X.K b j H0 (mn σ ρ H1) σ' H' ρ') ⟨ρ, h0, r1.into⟩ (fun i σ' H' _ ⟨ρ', _, r'⟩ => r'.st) ?_ ?_
  · rintro i x σ' H' H2 hi2 ⟨ρ', hI, r'⟩ y
    obtain ⟨d, hd⟩ : ∃ d, items[i]? = some d := ⟨_, List.getElem?_eq_getElem hi2⟩
    obtain ⟨sm, hx⟩ := hy i H' x H2 d hi2 r'.st y hd
    refine gT_ok (r'.step (.same sm)) hx (h1 i d ρ' hd hI) fun σ3 ρ3 r3 h3 _ => ?_
    exact ⟨ρ3, H0, mn σ ρ H1, r3, hb.mo (fin (lft X.K b j H0 G D) (I (i + 1)) fun ρ2 => frzs ρ2 = frzs ρ ∧ (lft X.K b j H0 G D).nx ρ2) _ _ ⟨fun ρ4 h σ4 H4 r4 => ⟨ρ4, h, r4⟩, fun _ h => h, fun _ h => h, fun ρ4 h σ4 H4 r4 => h.2 σ4 H4 (r1.out r4 h.1), fun ρ4 h σ4 H4 r4 => ⟨ρ4, h, r4⟩⟩ h3⟩
  · rintro σ' H' ⟨ρ', hI, r'⟩
    obtain ⟨e1, e2⟩ := h2 ρ' hI
    exact e2 σ' H' (r1.out r' e1)
theorem Rel.freeze {K : PySem.W.Frag} {H0 G H : Hp} {σ : L2.St} {ρ : List SV} {i : Nat} {ds : List PyData} {p : Addr} (r : Rel K b j H0 G σ H ρ) (e : ρ[i]? = some (.own ds)) (e1 : σ[i]? = some (some (.ref p))) :
    Rel K b j H0 (mn σ (ρ.set i (.frz p ds)) H) σ H (ρ.set i (.frz p ds)) := by
  obtain ⟨p', xs, e1', h1, h2, h3, h4, h5⟩ := r.own_at e
  rw [e1] at e1'
  cases e1'
  have hi := (List.getElem?_eq_some_iff.mp e).1
  have o1 : ∀ {k : Nat} {d1 : List PyData}, (ρ.set i (.frz p ds))[k]? = some (.own d1) → k ≠ i ∧ ρ[k]? = some (.own d1) := fun {k d1} q => by
    rw [List.getElem?_set] at q
    split at q
    · first | cases q | (split at q <;> cases q)
    · rename_i c
      exact ⟨fun z => c z.symm, q⟩
  have keep : ∀ {a : Addr} {u : HO}, H a = some u → ((∀ xs, u ≠ .lst xs) ∨ G a ≠ none ∨ a = b ∨ a = p) → mn σ (ρ.set i (.frz p ds)) H a = some u := fun {a u} h n => by
    rw [mn_else, h]
    intro k d1 q z
    obtain ⟨nk, q9⟩ := o1 q
    obtain ⟨p', xs', g1, g2, _, _, g4, g5⟩ := r.own_at q9
    rw [g1] at z
    cases z
    rcases n with n | n | n | n
    · rw [g2] at h
      cases h
      exact n _ rfl
    · exact n g4
    · exact g5 n
    · subst n
      exact r.dis k i d1 ds _ nk q9 e g1 e1
  refine ⟨by rw [List.length_set]; exact r.len, r.kn, ⟨fun q u n h => keep (r.s0.1 q u n h) (.inr (.inl fun z => ?_)), fun jt h => ?_⟩, ⟨fun q u _ h => mn_sub h, fun _ h => h.mn⟩, fun k s q => ?_, fun k l d1 d2 q nk q1 q2 => ?_⟩
  · have := r.sg.1 q u n h
    rw [z] at this
    cases this
  · obtain ⟨o, m, c, g1, g2⟩ := r.s0.2 jt h
    exact ⟨o, m, c, keep g1 (.inr (.inr (.inl rfl))), g2⟩
  · by_cases c : i = k
    · subst c
      rw [List.getElem?_set_self hi] at q
      cases q
      exact ⟨xs, by rw [e1]; rfl, keep h1 (.inr (.inr (.inr rfl))), h2, h3, h5⟩
    · rw [List.getElem?_set_ne c] at q
      have old := r.sl k s q
      cases s with
      | nil => exact old
      | dat d => exact old
      | par d => exact old
      | own d1 =>
        obtain ⟨q1, zs, g1, g2, g3, g4, g5, g6⟩ := r.own_at q
        exact ⟨q1, zs, by rw [g1]; rfl, g2, g3, g4, mn_own (i := k) (by rw [List.getElem?_set_ne c]; exact q) g1, g6⟩
      | frz q1 d1 =>
        obtain ⟨zs, g1, g2, g3, g4, g5⟩ := old
        exact ⟨zs, g1, keep (r.st.1 _ _ (fun _ => g5) g2) (.inr (.inl (by rw [g2]; exact fun z => nomatch z))), g3, g4, g5⟩
      | jar => exact old
  · exact r.dis k l d1 d2 q nk (o1 q1).2 (o1 q2).2
theorem Rel.thaw {K : PySem.W.Frag} {H0 G H H' : Hp} {σ σ' : L2.St} {ρ ρ' : List SV} {i : Nat} {ds : List PyData} {p : Addr} (r : Rel K b j H0 G σ H ρ) (e : ρ[i]? = some (.own ds)) (e1 : σ[i]? = some (some (.ref p)))
    (r' : Rel K b j H0 (mn σ (ρ.set i (.frz p ds)) H) σ' H' ρ') (he : ρ'[i]? = some (.frz p ds)) (hf : frzs ρ' = frzs (ρ.set i (.frz p ds))) : Rel K b j H0 G σ' H' (ρ'.set i (.own ds)) := by
  obtain ⟨p', xs, e1', h1, h2, h3, h4, h5⟩ := r.own_at e
  rw [e1] at e1'
  cases e1'
  have rf := r.freeze e e1
  obtain ⟨zs, f1, f2, f3, f4, f5⟩ := r'.sl i _ he
  have hi' := (List.getElem?_eq_some_iff.mp he).1
  have hi := (List.getElem?_eq_some_iff.mp e).1
  have inG : ∀ {q : Addr} {u : HO}, (j = true → q ≠ b) → G q = some u → mn σ (ρ.set i (.frz p ds)) H q = some u := fun {q u} n h => by
    rw [mn_else, r.st.1 q u n h]
    intro k d1 z w
    rw [List.getElem?_set] at z
    split at z
    · first | cases z | (split at z <;> cases z)
    · obtain ⟨p', xs', g1, g2, _, _, g4, g5⟩ := r.own_at z
      rw [g1] at w
      cases w
      rw [g4] at h
      cases h
  refine ⟨by rw [List.length_set]; exact r'.len, r.kn, r.sg, ⟨fun q u n h => r'.st.1 q u n (inG n h), fun jt h => r'.st.2 jt ?_⟩, fun k s q => ?_, fun k l d1 d2 q nk q1 q2 q3 => ?_⟩
  · exact (rf.sg.2 jt (r.kn.2 jt))
  · by_cases c : i = k
    · subst c
      rw [List.getElem?_set_self hi'] at q
      cases q
      exact ⟨p, zs, f1, r'.st.1 _ _ (fun _ => f5) f2, f3, f4, h4, f5⟩
    · rw [List.getElem?_set_ne c] at q
      have old := r'.sl k s q
      cases s with
      | nil => exact old
      | dat d => exact old
      | par d => exact old
      | own d1 =>
        obtain ⟨q1, ys, g1, g2, g3, g4, g5, g6⟩ := r'.own_at q
        refine ⟨q1, ys, by rw [g1]; rfl, g2, g3, g4, ?_, g6⟩
        cases z : G q1 with
        | none => rfl
        | some u =>
          rw [inG (fun _ => g6) z] at g5
          cases g5
      | frz q1 d1 =>
        obtain ⟨ys, g1, g2, g3, g4, g5⟩ := old
        have e2 : (frzs (ρ.set i (.frz p ds)))[k]? = some (some q1) := by rw [← hf]; exact frzs_get.mpr ⟨d1, q⟩
        obtain ⟨d2, e3⟩ := frzs_get.mp e2
        rw [List.getElem?_set_ne c] at e3
        obtain ⟨ys', e4, y1, y2, y3, y4⟩ := r.sl k _ e3
        have e5 := inG (fun _ => y4) y1
        rw [g2] at e5
        cases e5
        exact ⟨ys, g1, y1, g3, g4, g5⟩
      | jar => exact old
  · by_cases c1 : i = k
    · subst c1
      have nl : i ≠ l := fun z => nk z
      rw [List.getElem?_set_ne nl] at q2
      rw [get_join f1] at q3
      cases q3
      intro z
      obtain ⟨p', xs', g1, g2, _, _, g4, _⟩ := r'.own_at q2
      rw [g1] at z
      cases z
      rw [f2] at g4
      cases g4
    · rw [List.getElem?_set_ne c1] at q1
      by_cases c2 : i = l
      · subst c2
        rw [get_join f1]
        intro z
        cases z
        obtain ⟨p', xs', g1, g2, _, _, g4, _⟩ := r'.own_at q1
        rw [g1] at q3
        cases q3
        rw [f2] at g4
        cases g4
      · rw [List.getElem?_set_ne c2] at q2
        exact r'.dis k l d1 d2 q nk q1 q2 q3
theorem ds_forO {i : Nat} (hp : PassesOwn (model X.prog X.w) X.A X.env X.xe) (hc : X.calm = true) (hi : PE X e (tVar i)) (hg : PG X tg (gT X.K p)) (hb : DSs X b j ss t)
    (hs : ∀ x, foldedSetIterable e X.env x = pure x := by intro _; rfl) : DS X b j (.For tg e ss [] pos) (sForO i p t) := by
  refine ⟨psI (ps_for hp hc (pi_list hi) hg hb.ps hs) ?_, fun D D' ρ l q => ?_⟩
  · rintro D σ H ⟨ρ, H0, G, r, q⟩
    unfold sForO at q
    split at q
    · rename_i ds e
      obtain ⟨a, xs, e1, g1, g2, g3, g4, g5⟩ := r.own_at e
      obtain ⟨I, h0, h1, h2⟩ := q a
      refine ⟨.ref a, e1, a, rfl, ⟨xs, SqL.of g1⟩, ?_⟩
      have rf := r.freeze e e1
      obtain ⟨zs, f1, f2, f3, f4, f5⟩ := rf.sl i (.frz a ds) (List.getElem?_set_self (List.getElem?_eq_some_iff.mp e).1)
      rw [mn_sub f2] at g1
      cases g1
      have ln : xs.length = ds.length := g2.len
      refine for_it (walk_list (K := X.K) (a := a) (xs := xs)) (fun i' σ' H' => ∃ ρ', I i' ρ' ∧ Rel X.K b j H0 (mn σ (ρ.set i (.frz a ds)) H) σ' H' ρ') ⟨_, h0, rf⟩ (fun i' σ' H' _ ⟨ρ', _, r'⟩ => SqL.of (r'.st.1 _ _ (fun _ => f5) f2)) ?_ ?_
      · rintro k x σ' H' H2 hi2 ⟨ρ', hI, r'⟩ ⟨rfl, hx⟩
        obtain ⟨d, hd, hdx⟩ := f3.at hx
        have nd := g3 d (List.mem_of_getElem? hd)
        have rf0 : Rel X.K b j H0 (mn σ (ρ.set i (.frz a ds)) H) σ H (ρ.set i (.frz a ds)) := rf
        have hdx' : Dt X.K b H2 x d := by
          have b2 := base_dt rf0 true nd hdx
          have k2 := base_kn rf0 true
          refine b2.stp k2 ⟨fun q u n h => r'.st.1 q u n h, fun jt h => r'.st.2 jt h⟩
        refine gT_ok r' hdx' (h1 k d ρ' hd hI) fun σ3 ρ3 r3 h3 _ => ?_
        exact ⟨ρ3, H0, _, r3, hb.mo (fin (lft X.K b j H0 G D) (I (k + 1)) fun ρ2 => ρ2[i]? = some (.frz a ds) ∧ frzs ρ2 = frzs (ρ.set i (.frz a ds)) ∧ (lft X.K b j H0 G D).nx (ρ2.set i (.own ds))) _ _ ⟨fun ρ4 h σ4 H4 r4 => ⟨ρ4, h, r4⟩, fun _ h => h, fun _ h => h, fun ρ4 h σ4 H4 r4 => h.2.2 σ4 H4 (r.thaw e e1 r4 h.1 h.2.1), fun ρ4 h σ4 H4 r4 => ⟨ρ4, h, r4⟩⟩ h3⟩
      · rintro σ' H' ⟨ρ', hI, r'⟩
        rw [ln] at hI
        obtain ⟨y1, y2, y3⟩ := h2 ρ' hI
        exact y3 σ' H' (r.thaw e e1 r' y1 y2)
    · exact q.elim
  · unfold sForO at q ⊢
    split at q
    · intro a
      obtain ⟨I, h0, h1, h2⟩ := q a
      exact ⟨I, h0, fun k d ρ' hd hI => bT_mo (fun ρ'' h => hb.mo _ _ _ (fin_le l fun ρ2 h => ⟨h.1, h.2.1, l.nx _ h.2.2⟩) h) (h1 k d ρ' hd hI), fun ρ' h => ⟨(h2 ρ' h).1, (h2 ρ' h).2.1, l.nx _ (h2 ρ' h).2.2⟩⟩
    · exact q.elim
end
end DL

namespace DL
open PySem PySem.Spec PyProof.Rows L2 GuL HG LZ RZ
section
variable {X : Cx} {b : Addr} {j : Bool} {e e1 e2 tg : Expr} {es : List Expr} {pos : Pos} {ta tb : DTE} {tt : DTA}
/-! ### several targets -/
theorem ds_unp {is : List Nat} (he : DE X b j e ta) (hg : PG X tg (gTup X.K is.length (gNs is))) (hs : swapsWithSole [tg] e pos.line X.env = pure false := by rfl) (hw : swappedStores [tg] e X.env = pure none := by rfl)
    (h1 : (assignEach [tg] X.env).map (·.2) = [assign tg X.env] := by rfl) : DS X b j (.Assign [tg] e pos) (sUnp is ta) := by
  refine ⟨psI (ps_asg he.pe hg hs hw h1) ?_, fun D D' ρ l q => he.mo _ _ _ (fun d h => ?_) q⟩
  · rintro D σ H ⟨ρ, H0, G, r, q⟩
    refine ⟨ρ, H0, G, r, he.mo _ _ _ (fun d q v H1 s1 hv => ?_) q⟩
    cases hv with
    | @tup a xs ds g1 g2 =>
      obtain ⟨h1, h2, h3⟩ := q
      exact ⟨a, xs, rfl, g1, by rw [g2.len, h1], gNs_ok (r.step s1) g2 h1 h2 fun σ' r' _ => h3 σ' H1 r'⟩
    | _ => exact q.elim
  · cases d <;> first | exact h.elim | exact ⟨h.1, h.2.1, l.nx _ h.2.2⟩
theorem ds_par {i k : Nat} {x y : Str} {px py pt : Pos} {kt k2 : Nat} {pt2 : Pos} (hc : X.calm = true) (hN : X.N.Nodup) (hi : X.N[i]? = some x) (hj : X.N[k]? = some y) (hij : i ≠ k)
    (hx : X.env.scope.names.lookup x = some .local) (hy : X.env.scope.names.lookup y = some .local) (ha : DE X b j e1 ta) (hb : DE X b j e2 tb)
    (hw : swappedStores [.Tuple [.Name x px, .Name y py] kt pt] (.Tuple [e1, e2] k2 pt2) X.env = pure (some [x, y])) (h1 : starEach [e1, e2] X.env = (false, eval e1 X.env) :: starEach [e2] X.env := by rfl) (h2 : starEach [e2] X.env = (false, eval e2 X.env) :: starEach [] X.env := by rfl)
    (hs : swapsWithSole [.Tuple [.Name x px, .Name y py] kt pt] (.Tuple [e1, e2] k2 pt2) pos.line X.env = pure false := by rfl) : DS X b j (.Assign [.Tuple [.Name x px, .Name y py] kt pt] (.Tuple [e1, e2] k2 pt2) pos) (sPar i k ta tb) := by
  refine ⟨psI (L2.ps_par hc hN hi hj hij hx hy (pa_cons ha.pe (pa_cons hb.pe pa_nil h2) h1) hw hs) ?_, fun D D' ρ l q => ha.mo _ _ _ (fun d h => hb.mo _ _ _ (fun e h => ⟨h.1, h.2.1, l.nx _ h.2.2⟩) h) q⟩
  rintro D σ H ⟨ρ, H0, G, r, q⟩
  refine ⟨ρ, H0, G, r, ha.mo _ _ _ (fun d q v H1 s1 hv => ?_) q⟩
  have r1 := r.step s1
  refine ⟨ρ, H0, G, r1, hb.mo _ _ _ (fun e q w H2 s2 hw => ?_) q⟩
  exact ⟨v, w, rfl, q.2.2 _ H2 (((r1.step s2).setD (hv.stp r1.knH s2) q.1).setD hw q.2.1)⟩
theorem ds_parN {i k : Nat} {x y : Str} {px py pt : Pos} {kt k2 : Nat} {pt2 : Pos} (hc : X.calm = true) (hN : X.N.Nodup) (hi : X.N[i]? = some x) (hj : X.N[k]? = some y) (hij : i ≠ k)
    (hx : X.env.scope.names.lookup x = some .local) (hy : X.env.scope.names.lookup y = some .local) (ha : DN X b j e1 tt) (hb : DE X b j e2 tb)
    (hw : swappedStores [.Tuple [.Name x px, .Name y py] kt pt] (.Tuple [e1, e2] k2 pt2) X.env = pure (some [x, y])) (h1 : starEach [e1, e2] X.env = (false, eval e1 X.env) :: starEach [e2] X.env := by rfl) (h2 : starEach [e2] X.env = (false, eval e2 X.env) :: starEach [] X.env := by rfl)
    (hs : swapsWithSole [.Tuple [.Name x px, .Name y py] kt pt] (.Tuple [e1, e2] k2 pt2) pos.line X.env = pure false := by rfl) : DS X b j (.Assign [.Tuple [.Name x px, .Name y py] kt pt] (.Tuple [e1, e2] k2 pt2) pos) (sParN i k tt tb) := by
  refine ⟨psI (L2.ps_par hc hN hi hj hij hx hy (pa_cons ha.pe (pa_cons hb.pe pa_nil h2) h1) hw hs) ?_, fun D D' ρ l q => ha.mo _ _ _ (fun d h => hb.mo _ _ _ (fun e h => ⟨h.1, h.2.1, l.nx _ h.2.2⟩) h) q⟩
  rintro D σ H ⟨ρ, H0, G, r, q⟩
  refine ⟨ρ, H0, G, r, ha.mo _ _ _ (fun ds q p xs H1 s1 hp hx hd => ?_) q⟩
  have r1 := r.step s1
  refine ⟨ρ, H0, G, r1, hb.mo _ _ _ (fun e q w H2 s2 hw => ?_) q⟩
  have nb := r.knH.ne hp
  exact ⟨.ref p, w, rfl, q.2.2 _ H2 ((r.setN (s1.trans s2) hp (s2.1 p _ (fun _ => nb) hx) (hd.stp r1.knH s2) q.1).setD hw q.2.1)⟩
end
/-! ### a def's own rule -/
def ini (N : List Str) (ss : List SV) : List SV := ss ++ List.replicate (N.length - ss.length) .nil
theorem dts_par {K : PySem.W.Frag} {b : Addr} {H : Hp} : ∀ {vs : List V} {ds : List PyData} {i : Nat} {s : SV}, Dts K b H vs ds → (ds.map SV.par)[i]? = some s → ∃ x d, vs[i]? = some x ∧ s = .par d ∧ Dt K b H x d
  | _, _, 0, s, .cons h _, e => by
    simp at e
    exact ⟨_, _, rfl, e.symm, h⟩
  | _, _, i + 1, s, .cons _ r, e => by
    obtain ⟨x, d, h1, h2, h3⟩ := dts_par (i := i) r (by simpa using e)
    exact ⟨x, d, by simpa using h1, h2, h3⟩
theorem ini_get {N : List Str} {ss : List SV} {i : Nat} {s : SV} (h : (ini N ss)[i]? = some s) : ss[i]? = some s ∨ s = .nil := by
  unfold ini at h
  rw [List.getElem?_append] at h
  split at h
  · exact .inl h
  · right
    rw [List.getElem?_replicate] at h
    split at h
    · exact (Option.some.inj h).symm
    · cases h
theorem start_get {N : List Str} {vs : List V} {i : Nat} {x : V} (h : vs[i]? = some x) : (start N vs)[i]?.join = some x := by
  unfold L2.start
  rw [List.getElem?_append_left (by rw [List.length_map]; exact (List.getElem?_eq_some_iff.mp h).1), List.getElem?_map, h]
  rfl
theorem rel_start {K : PySem.W.Frag} {b : Addr} {j : Bool} {H : Hp} {N : List Str} {vs : List V} {ds : List PyData} (k : Kn b j H) (h : Dts K b H vs ds) : Rel K b j H H (start N vs) H (ini N (ds.map .par)) := by
  have len : (start N vs).length = (ini N (ds.map SV.par)).length := by
    unfold L2.start ini
    rw [List.length_append, List.length_append, List.length_map, List.length_map, List.length_replicate, List.length_replicate, h.len]
  refine ⟨len, k, .refl, .refl, fun i s e => ?_, fun i k ds1 ds2 p _ e1 => ?_⟩
  · rcases ini_get e with e | rfl
    · obtain ⟨x, d, h1, rfl, h3⟩ := dts_par h e
      exact ⟨x, start_get h1, h3⟩
    · exact True.intro
  · rcases ini_get e1 with e | e
    · obtain ⟨x, d, _, h2, _⟩ := dts_par h e
      cases h2
    · cases e
theorem rel_startJ {K : PySem.W.Frag} {b : Addr} {H : Hp} {N : List Str} {vs : List V} {ds : List PyData} (k : Kn b true H) (h : Dts K b H vs ds) : Rel K b true H H (start N (.ref b :: vs)) H (ini N (.jar :: ds.map .par)) := by
  have len : (start N (.ref b :: vs)).length = (ini N (.jar :: ds.map SV.par)).length := by
    unfold L2.start ini
    rw [List.length_append, List.length_append, List.length_map, List.length_cons, List.length_cons, List.length_map, List.length_replicate, List.length_replicate, h.len]
  refine ⟨len, k, .refl, .refl, fun i s e => ?_, fun i k ds1 ds2 p _ e1 => ?_⟩
  · rcases ini_get e with e | rfl
    · cases i with
      | zero =>
        cases e
        exact start_get (N := N) (vs := .ref b :: vs) (i := 0) rfl
      | succ i =>
        obtain ⟨x, d, h1, rfl, h3⟩ := dts_par h (show (ds.map SV.par)[i]? = some s by simpa using e)
        exact ⟨x, start_get (N := N) (vs := .ref b :: vs) (i := i + 1) (by simpa using h1), h3⟩
    · exact True.intro
  · rcases ini_get e1 with e | e
    · cases i with
      | zero => cases e
      | succ i =>
        obtain ⟨x, d, _, h2, _⟩ := dts_par h (show (ds.map SV.par)[i]? = some (SV.own ds1) by simpa using e)
        cases h2
    · cases e
section
variable {P : Program} {w : World} {K : PySem.W.Frag} {mg : Str → Option Value} {base : Heap} {x : Str} {st : Stmt} {f : Addr} {fd : FuncData} {N ps : List Str} {k : Nat}
abbrev cxD (P : Program) (w : World) (K : PySem.W.Frag) (mg : Str → Option Value) (base : Heap) (N : List Str) (x : Str) (st : Stmt) (f : Addr) (cdv : Value) (A : Around) (outer : List Env) (s : Shared) (H : Hp) (E : XK) : Cx := (cxOf CX0 P w K mg base N x (defScope st) f cdv A outer s H E).nox
theorem fnP {F : DF} (Fu : Fun K x x st f fd) (S : FnScope N ps (defScope st)) (mF : MoF F) (len : ∀ ds Q, F ds Q → ds.length = ps.length)
    (body : ∀ (cdv : Value) (A : Around) (outer : List Env) (s : Shared) (H : Hp) (E : XK) (b : Addr), A.guards = some [] → Room k (A.deeper (envOfC x (defScope st) s.heap.objs.size f cdv)) →
      ∃ t, DSs (cxD P w K mg base N x st f cdv A outer s H E) b false (defBody st) t ∧ ∀ ds (Q : PyData → Prop), F ds Q → t { nx := fun _ => Q .none, rt := Q, rn := fun es => Q (.list es) } (ini N (ds.map .par))) : FnG P w K mg base CX0 (k + 1) f fd ps (spP K F) := by
  refine okG Fu S (fun vs H Q E h => ?_) (fun cdv A outer s H vs Q E hA hr h => ?_)
  · obtain ⟨b, ds, _, h2, h3⟩ := h
    rw [h2.len, len _ _ h3]
  · obtain ⟨b, ds, h1, h2, h3⟩ := h
    obtain ⟨t, ht, hq⟩ := body cdv A outer s H E b hA hr
    let QQ : PyData → Prop := fun d => ∀ v H', Same H H' → Dt K b H' v d → Q v H'
    refine ⟨_, ht.ps, ini N (ds.map .par), H, H, rel_start h1 h2, ht.mo { nx := fun _ => QQ .none, rt := QQ, rn := fun es => QQ (.list es) } _ _ ⟨fun ρ q σ' H' r => q _ _ r.s0.pure .non, fun d q v H' st hv => q v H' st.pure hv, fun es q p xs H' st hp hx hd => q _ _ st.pure (.lst (SqL.of hx) (h1.ne hp) hd), fun _ z => z.elim, fun _ z => z.elim⟩ (hq ds QQ h3)⟩
theorem fnN {F : DFN} (Fu : Fun K x x st f fd) (S : FnScope N ps (defScope st)) (mF : MoFN F) (len : ∀ ds Q, F ds Q → ds.length = ps.length)
    (body : ∀ (cdv : Value) (A : Around) (outer : List Env) (s : Shared) (H : Hp) (E : XK) (b : Addr), A.guards = some [] → Room k (A.deeper (envOfC x (defScope st) s.heap.objs.size f cdv)) →
      ∃ t, DSs (cxD P w K mg base N x st f cdv A outer s H E) b false (defBody st) t ∧ ∀ ds (Q : List PyData → Prop), F ds Q → t { nx := fun _ => False, rn := Q } (ini N (ds.map .par))) : FnG P w K mg base CX0 (k + 1) f fd ps (spN K F) := by
  refine okG Fu S (fun vs H Q E h => ?_) (fun cdv A outer s H vs Q E hA hr h => ?_)
  · obtain ⟨b, ds, _, h2, h3⟩ := h
    rw [h2.len, len _ _ h3]
  · obtain ⟨b, ds, h1, h2, h3⟩ := h
    obtain ⟨t, ht, hq⟩ := body cdv A outer s H E b hA hr
    let QQ : List PyData → Prop := fun es => ∀ p xs H', Same H H' → H p = none → H' p = some (.lst xs) → Dts K b H' xs es → Q (.ref p) H'
    refine ⟨_, ht.ps, ini N (ds.map .par), H, H, rel_start h1 h2, ht.mo { nx := fun _ => False, rn := QQ } _ _ ⟨fun ρ q => q.elim, fun d q => q.elim, fun es q p xs H' st hp hx hd => q p xs H' st.pure hp hx hd, fun _ z => z.elim, fun _ z => z.elim⟩ (hq ds QQ h3)⟩
theorem fnJ {F : DF} (Fu : Fun K x x st f fd) (S : FnScope N ps (defScope st)) (mF : MoF F) (len : ∀ ds Q, F ds Q → ds.length + 1 = ps.length)
    (body : ∀ (cdv : Value) (A : Around) (outer : List Env) (s : Shared) (H : Hp) (E : XK) (b : Addr), A.guards = some [] → Room k (A.deeper (envOfC x (defScope st) s.heap.objs.size f cdv)) →
      ∃ t, DSs (cxD P w K mg base N x st f cdv A outer s H E) b true (defBody st) t ∧ ∀ ds (Q : PyData → Prop), F ds Q → t { nx := fun _ => Q .none, rt := Q } (ini N (.jar :: ds.map .par))) : FnG P w K mg base CX0 (k + 1) f fd ps (spJ K F) := by
  refine okG Fu S (fun vs H Q E h => ?_) (fun cdv A outer s H vs Q E hA hr h => ?_)
  · obtain ⟨b, vs', ds, rfl, _, h2, h3⟩ := h
    rw [List.length_cons, h2.len, len _ _ h3]
  · obtain ⟨b, vs', ds, rfl, h1, h2, h3⟩ := h
    obtain ⟨t, ht, hq⟩ := body cdv A outer s H E b hA hr
    let QQ : PyData → Prop := fun d => ∀ v H', Stp b true H H' → Dt K b H' v d → Q v H'
    refine ⟨_, ht.ps, ini N (.jar :: ds.map .par), H, H, rel_startJ h1 h2, ht.mo { nx := fun _ => QQ .none, rt := QQ } _ _ ⟨fun ρ q σ' H' r => q _ _ r.s0 .non, fun d q v H' st hv => q v H' st hv, fun es q => q.elim, fun _ z => z.elim, fun _ z => z.elim⟩ (hq ds QQ h3)⟩
end
/-! ### calls by names alone -/
section
variable {X : Cx} {b : Addr} {j : Bool} {e : Expr} {pos p kpos : Pos} {ta : DTE} {tt : DTA} {kws : List Keyword} {nm : Option Str}
structure DKw (X : Cx) (b : Addr) (j : Bool) (kws : List Keyword) (t : DTA) : Prop where
  pk : PK X kws (LA X.K b j t)
  mo : MoA t
theorem pkI {X : Cx} {ks : List Keyword} {t t' : TA} (h : PK X ks t') (i : ∀ σ H Q, t σ H Q → t' σ H Q) : PK X ks t := ⟨fun pos pins s σ H Q I q => h.run pos pins s σ H Q I (i σ H Q q)⟩
theorem dk_nil : DKw X b j [] aNil := ⟨pkI pk_nil fun σ H Q ⟨_, _, _, _, q⟩ => q [] H .refl .nil, fun _ _ _ m q => m _ q⟩
theorem dk_cons (ha : DE X b j e ta) (hr : DKw X b j kws tt) : DKw X b j (⟨nm, e, kpos⟩ :: kws) (aCons ta tt) := by
  refine ⟨pkI (pk_cons ha.pe hr.pk) ?_, fun ρ Q Q' m q => ha.mo ρ _ _ (fun d h => hr.mo ρ _ _ (fun ds h => m _ h) h) q⟩
  rintro σ H Q ⟨ρ, H0, G, r, q⟩
  refine ⟨ρ, H0, G, r, ha.mo ρ _ _ (fun d q v H1 s1 hv => ?_) q⟩
  refine ⟨ρ, H0, G, r.step s1, hr.mo ρ _ _ (fun ds q vs H2 s2 hvs => ?_) q⟩
  exact q _ _ (s1.trans s2) (.cons (hv.stp (r.step s1).knH s2) hvs)
variable {k : Nat} {f : Addr} {fd : FuncData} {ps ks : List Str} {x : Str} {F : DF} {g : List Value → List Value → List Value} {gV : List V → List V → List V} {gD : List PyData → List PyData}
theorem de_callK (G : FnG X.prog X.w X.K X.mg X.base CX0 k f fd ps (spP X.K F)) (mF : MoF F) (hA : X.A.guards = some []) (hr : Room k X.A) (hg : Gl X x) (hm : X.mg x = some (.ref f)) (hk : PySem.W.keepIn X.K (.ref f) = true) (hb : KBn X.K fd ps 0 ks g gV) (hx : Passes CX0 X (fun _ _ _ => False)) (hkw : DKw X b j kws tt)
    (hD : ∀ {K : PySem.W.Frag} {b : Addr} {H : Hp} {vs : List V} {ds : List PyData}, ds.length = ks.length → Dts K b H vs ds → Dts K b H (gV [] vs) (gD ds))
    (hall : (backToKw pos (keywordEach kws X.env)).all (·.1.isSome) = true := by rfl) (hks : (backToKw pos (keywordEach kws X.env)).filterMap (·.1) = ks := by rfl) (hdb : (x == ("__debug__" : Str)) = false := by decide)
    (hpl : ((backTo pos (starEach [] X.env)).any (·.1) || (backToKw pos (keywordEach kws X.env)).any (·.1.isNone)) = false := by rfl) :
    DE X b j (.Call (.Name x p) [] kws pos) (fun ρ Q => tt ρ fun ds => ds.length = ks.length ∧ F (gD ds) Q) := by
  refine ⟨⟨fun pins s σ H Q I h => ?_⟩, fun ρ Q Q' m q => hkw.mo ρ _ _ (fun ds h => ⟨h.1, mF _ _ _ m h.2⟩) q⟩
  obtain ⟨ρ, H0, G0, r, q⟩ := h
  refine wpAny_Call_Name_kw (ld_glob I hg hm ?_ hdb)
  have q2 : LA X.K b j tt σ H fun zs H2 => zs.length = ks.length ∧ spP X.K F (gV [] zs) H2 Q (fun _ _ _ => False) :=
    ⟨ρ, H0, G0, r, hkw.mo ρ _ _ (fun ds h vs H1 s1 hv => ⟨by rw [hv.len]; exact h.1, b, gD ds, (r.step s1).knH.pure, hD h.1 hv, mF _ _ _ (fun d q v H' s2 hd => q v H' (s1.trans (.same s2)) hd) h.2⟩) q⟩
  refine PySem.W.callWith_KW0 (h₀ := X.base) I.ok.mod.kin hk hall (thn (hkw.pk.run pos pins s σ H _ I q2) fun ws s2 ⟨zs, H2, I2, rz, l2, q2⟩ => ⟨I2.kIn, ?_⟩) hpl
  rw [hks]
  have r2 := hb.rel (vs := []) (us := []) .nil rz
  have go := G.go X.A X.stack s2 H2 ⟨[], ks.zip ws⟩ (g [] ws) (gV [] zs) Q _ hA hr I2.env0 (hb.to s2 [] ws I2.kIn rfl (rz.length.symm.trans l2)) r2 q2
  refine wpAny_call (codeAny_mono go fun rr s' hq => ?_)
  match rr, hq with
  | .error e, hq => exact hx pins σ H2 s2 e s' I2 hq
  | .ok (.ret u), hq => exact I2.after hq
end
end DL

namespace DL
open PySem PySem.Spec PyProof.Rows L2 GuL HG
/-! ### more chains -/
def tChain3 (r r' r'' : R2) (ta tb tc td : TE) : TE := fun σ H Q => ta σ H fun x H1 => tb σ H1 fun y H2 => r x y H2 fun z H3 => ∃ k, z = .bl k ∧
  (if k = true then tc σ H3 fun w H4 => r' y w H4 fun z' H5 => ∃ k', z' = .bl k' ∧ (if k' = true then td σ H5 fun u H6 => r'' w u H6 Q else Q (.bl false) H5) else Q (.bl false) H3)
section
variable {X : Cx} {b : Addr} {j : Bool} {e e1 e2 e3 e4 : Expr} {pos : Pos} {ta tb tc td : DTE}
theorem pe_chain3 {op op' op'' : CmpOp} {r r' r'' : R2} {ua ub uc ud : TE} (ho : OpR X (compareOp op) r) (ho' : OpR X (compareOp op') r') (ho'' : OpR X (compareOp op'') r'') (ha : PE X e1 ua) (hb : PE X e2 ub) (hc : PE X e3 uc) (hd : PE X e4 ud)
    (hm : lastMarks [op, op', op''] [e2, e3, e4] = false := by with_unfolding_all rfl) : PE X (.Compare e1 [op, op', op''] [e2, e3, e4] pos) (tChain3 r r' r'' ua ub uc ud) := by
  refine ⟨fun pins s σ H Q I h => ?_⟩
  refine Compare_chain (thn (ha.run pins s σ H _ I h) fun v s1 ⟨x, H1, I1, r1, q1⟩ => chain_link (thn (hb.run pins s1 σ H1 _ I1 q1) fun u s2 ⟨y, H2, I2, r2, q2⟩ =>
    thn (ho pins s2 σ H2 x y v u _ I2 r1 r2 q2) fun d s3 ⟨z, H3, I3, r3, k, e, q3⟩ => ?_)) hm
  subst e
  cases r3
  refine wpAny_truthy_bool ?_
  cases k with
  | false => exact ite_ff ⟨.bl false, H3, I3, rfl, q3⟩
  | true =>
    refine ite_tt (chain_link (thn (hc.run pins s3 σ H3 _ I3 q3) fun w' s4 ⟨z', H4, I4, r4, q4⟩ => thn (ho' pins s4 σ H4 y z' u w' _ I4 r2 r4 q4) fun d' s5 ⟨zz, H5, I5, r5, k2, e2, q5⟩ => ?_))
    subst e2
    cases r5
    refine wpAny_truthy_bool ?_
    cases k2 with
    | false => exact ite_ff ⟨.bl false, H5, I5, rfl, q5⟩
    | true => exact ite_tt (chain_last (thn (hd.run pins s5 σ H5 _ I5 q5) fun w2 s6 ⟨z2, H6, I6, r6, q6⟩ => ho'' pins s6 σ H6 z' z2 w' w2 Q I6 r4 r6 q6))
theorem de_ch {op op' : CmpOp} {f f' : Int → Int → Bool} (ho : OpR X (compareOp op) (rI0 fun i k => .bl (f i k))) (ho' : OpR X (compareOp op') (rI0 fun i k => .bl (f' i k))) (ha : DE X b j e1 ta) (hb : DE X b j e2 tb) (hc : DE X b j e3 tc) (hm : lastMarks [op, op'] [e2, e3] = false := by with_unfolding_all rfl) : DE X b j (.Compare e1 [op, op'] [e2, e3] pos) (chI f f' ta tb tc) :=
  ⟨peI (pe_chain ho ho' ha.pe hb.pe hc.pe hm) (chI_ok ha.mo hb.mo hc.mo), chI_mo ha.mo hb.mo hc.mo⟩
theorem dt_ch {op op' : CmpOp} {f f' : Int → Int → Bool} (ho : OpR X (compareOp op) (rI0 fun i k => .bl (f i k))) (ho' : OpR X (compareOp op') (rI0 fun i k => .bl (f' i k))) (ha : DE X b j e1 ta) (hb : DE X b j e2 tb) (hc : DE X b j e3 tc) (hm : lastMarks [op, op'] [e2, e3] = false := by with_unfolding_all rfl) : DT X b j (.Compare e1 [op, op'] [e2, e3] pos) (dB (chI f f' ta tb tc)) := by
  refine ⟨ptI (pt_chain ho ho' ha.pe hb.pe hc.pe hm) ?_, fun ρ Q Q' m q => chI_mo ha.mo hb.mo hc.mo ρ _ _ (fun d h => bw1_mo m h) q⟩
  rintro σ H Q ⟨ρ, H0, G, r, q⟩
  refine chI_ok ha.mo hb.mo hc.mo σ H _ ⟨ρ, H0, G, r, chI_mo ha.mo hb.mo hc.mo ρ _ _ (fun d q v H' st hv => ?_) q⟩
  cases hv <;> first | exact q.elim | exact ⟨_, rfl, q H' st⟩
def chI3 (f f' f'' : Int → Int → Bool) (ta tb tc td : DTE) : DTE := fun ρ Q => ta ρ fun x => tb ρ fun y => match x, y with
  | .int i, .int k => if f i k = true then tc ρ fun z => match z with | .int l => (if f' k l = true then td ρ fun u => match u with | .int m => Q (.bool (f'' l m)) | _ => False else Q (.bool false)) | _ => False else Q (.bool false)
  | _, _ => False
theorem chI3_mo {f f' f'' : Int → Int → Bool} (ma : MoE ta) (mb : MoE tb) (mc : MoE tc) (md : MoE td) : MoE (chI3 f f' f'' ta tb tc td) := fun ρ Q Q' m q => ma ρ _ _ (fun x h => mb ρ _ _ (fun y h => by
  cases x <;> first | exact h.elim | skip
  cases y <;> first | exact h.elim | skip
  rename_i i _ k
  show if f i k = true then _ else _
  have h' : if f i k = true then (tc ρ fun z => match z with | .int l => (if f' k l = true then td ρ fun u => match u with | .int m => Q (.bool (f'' l m)) | _ => False else Q (.bool false)) | _ => False) else Q (.bool false) := h
  split at h'
  · rename_i c
    rw [if_pos c]
    refine mc ρ _ _ (fun z h => ?_) h'
    cases z <;> first | exact h.elim | skip
    rename_i l
    have h2 : if f' k l = true then (td ρ fun u => match u with | .int m => Q (.bool (f'' l m)) | _ => False) else Q (.bool false) := h
    show if f' k l = true then _ else _
    split at h2
    · rename_i c2
      rw [if_pos c2]
      exact md ρ _ _ (fun z h => by cases z <;> first | exact h.elim | exact m _ h) h2
    · rename_i c2
      rw [if_neg c2]
      exact m _ h2
  · rename_i c
    rw [if_neg c]
    exact m _ h') h) q
theorem de_ch3 {op op' op'' : CmpOp} {f f' f'' : Int → Int → Bool} (ho : OpR X (compareOp op) (rI0 fun i k => .bl (f i k))) (ho' : OpR X (compareOp op') (rI0 fun i k => .bl (f' i k))) (ho'' : OpR X (compareOp op'') (rI0 fun i k => .bl (f'' i k)))
    (ha : DE X b j e1 ta) (hb : DE X b j e2 tb) (hc : DE X b j e3 tc) (hd : DE X b j e4 td) (hm : lastMarks [op, op', op''] [e2, e3, e4] = false := by with_unfolding_all rfl) : DE X b j (.Compare e1 [op, op', op''] [e2, e3, e4] pos) (chI3 f f' f'' ta tb tc td) := by
  refine ⟨peI (pe_chain3 ho ho' ho'' ha.pe hb.pe hc.pe hd.pe hm) ?_, chI3_mo ha.mo hb.mo hc.mo hd.mo⟩
  rintro σ H Q ⟨ρ, H0, G, r, q⟩
  refine ⟨ρ, H0, G, r, ha.mo ρ _ _ (fun x q v H1 s1 hv => ?_) q⟩
  refine ⟨ρ, H0, G, r.step s1, hb.mo ρ _ _ (fun y q w H2 s2 hw => ?_) q⟩
  cases hv <;> first | exact q.elim | skip
  cases hw <;> first | exact q.elim | skip
  rename_i i _ k
  have q' : if f i k = true then (tc ρ fun z => match z with | .int l => (if f' k l = true then td ρ fun u => match u with | .int m => ∀ v H', Stp b j H H' → Dt X.K b H' v (.bool (f'' l m)) → Q v H' | _ => False else ∀ v H', Stp b j H H' → Dt X.K b H' v (.bool false) → Q v H') | _ => False) else ∀ v H', Stp b j H H' → Dt X.K b H' v (.bool false) → Q v H' := q
  refine ⟨i, k, rfl, rfl, _, rfl, ?_⟩
  split at q'
  · rename_i c
    rw [if_pos c]
    refine ⟨ρ, H0, G, (r.step s1).step s2, hc.mo ρ _ _ (fun z q w H3 s3 hw => ?_) q'⟩
    cases hw <;> first | exact q.elim | skip
    rename_i l
    have q2 : if f' k l = true then (td ρ fun u => match u with | .int m => ∀ v H', Stp b j H H' → Dt X.K b H' v (.bool (f'' l m)) → Q v H' | _ => False) else ∀ v H', Stp b j H H' → Dt X.K b H' v (.bool false) → Q v H' := q
    refine ⟨k, l, rfl, rfl, _, rfl, ?_⟩
    split at q2
    · rename_i c2
      rw [if_pos c2]
      refine ⟨ρ, H0, G, ((r.step s1).step s2).step s3, hd.mo ρ _ _ (fun z q w H4 s4 hw => ?_) q2⟩
      cases hw <;> first | exact q.elim | skip
      exact ⟨_, _, rfl, rfl, q _ H4 (((s1.trans s2).trans s3).trans s4) (.bl _)⟩
    · rename_i c2
      rw [if_neg c2]
      exact q2 _ H3 ((s1.trans s2).trans s3) (.bl _)
  · rename_i c
    rw [if_neg c]
    exact q' _ H2 (s1.trans s2) (.bl _)
end
end DL

namespace DL
open PySem PySem.Spec PyProof.Rows L2 GuL HG
/-! ### small plain data: k deep, of weight n -/
structure Sm (k n : Nat) (d : PyData) : Prop where
  nl : NoL d
  sh : d.showable = true
  dp : d.depth ≤ k
  lv : d.leavesShort 13 = true
  wt : d.weight ≤ n
  cl : d.canLay0 = true
  hd : d.hasDict = false
structure Sms (k n : Nat) (ds : List PyData) : Prop where
  nl : ∀ d ∈ ds, NoL d
  sh : PyData.showableAll ds = true
  dp : PyData.depthAll ds ≤ k
  lv : PyData.leavesShortAll 13 ds = true
  wt : PyData.weightAll ds ≤ n
  cl : PyData.canLayAll0 ds = true
  hd : PyData.hasDictAll ds = false
theorem Sm.mono {k n k' n' : Nat} {d : PyData} (h : Sm k n d) (hk : k ≤ k') (hn : n ≤ n') : Sm k' n' d := ⟨h.nl, h.sh, Nat.le_trans h.dp hk, h.lv, Nat.le_trans h.wt hn, h.cl, h.hd⟩
theorem Sm.int {i : Int} (h0 : -100 ≤ i) (h1 : i < 5000000000) : Sm 0 41 (.int i) := by
  have o := okd_int h0 h1
  refine ⟨.int i, o.sh, by simp [PyData.depth], o.lv, ?_, rfl, rfl⟩
  have l40 : i.natAbs.log2 < 40 := log_small (show i.natAbs < 2 ^ 40 by omega)
  simp only [PyData.weight]
  split <;> omega
theorem Sm.non : Sm 0 0 .none := ⟨.non, rfl, by simp [PyData.depth], rfl, by simp [PyData.weight], rfl, rfl⟩
theorem Sm.bl (b : Bool) : Sm 0 0 (.bool b) := ⟨.bl b, rfl, by simp [PyData.depth], rfl, by simp [PyData.weight], rfl, rfl⟩
theorem Sm.str {z : Str} (hl : z.length ≤ 20) (h : ∀ c ∈ z.cps.toList, c < 128) : Sm 0 20 (.str z) := by
  refine ⟨.str z, rfl, by simp [PyData.depth], ?_, ?_, ?_, rfl⟩
  · simp only [PyData.leavesShort, List.all_eq_true, decide_eq_true_eq]
    exact fun c hc => Nat.lt_of_lt_of_le (h c hc) (by decide)
  · simp only [PyData.weight]
    exact hl
  · simp only [PyData.canLay0]
    unfold PyData.strOk
    rw [← Array.all_toList, List.all_eq_true]
    intro c hc
    have := h c hc
    simp
    omega
theorem Sms.nil {k : Nat} : Sms k 0 [] := ⟨(fun _ h => nomatch h), rfl, (by simp [PyData.depthAll]), rfl, (by simp [PyData.weightAll]), rfl, rfl⟩
theorem Sms.cons {k n m : Nat} {d : PyData} {ds : List PyData} (h : Sm k n d) (r : Sms k m ds) : Sms k (n + 1 + m) (d :: ds) := by
  have h1 := h.dp
  have h2 := r.dp
  have h3 := h.wt
  have h4 := r.wt
  refine ⟨fun x hx => ?_, ?_, ?_, ?_, ?_, ?_, ?_⟩
  · rcases List.mem_cons.mp hx with rfl | hx
    · exact h.nl
    · exact r.nl x hx
  · simp only [PyData.showableAll, h.sh, r.sh, Bool.and_self]
  · simp only [PyData.depthAll]
    omega
  · simp only [PyData.leavesShortAll, h.lv, r.lv, Bool.and_self]
  · simp only [PyData.weightAll]
    omega
  · simp only [PyData.canLayAll0, h.cl, r.cl, Bool.and_self]
  · simp only [PyData.hasDictAll, h.hd, r.hd, Bool.or_self]
theorem Sms.mono {k n k' n' : Nat} {d : List PyData} (h : Sms k n d) (hk : k ≤ k') (hn : n ≤ n') : Sms k' n' d := ⟨h.nl, h.sh, Nat.le_trans h.dp hk, h.lv, Nat.le_trans h.wt hn, h.cl, h.hd⟩
theorem Sms.all {k n : Nat} : ∀ {ds : List PyData}, (∀ d ∈ ds, Sm k n d) → Sms k (ds.length * (n + 1)) ds
  | [], _ => .mono .nil (Nat.le_refl _) (by simp)
  | d :: ds, h => by
    have r := Sms.all (ds := ds) fun x hx => h x (List.mem_cons_of_mem _ hx)
    refine (Sms.cons (h d List.mem_cons_self) r).mono (Nat.le_refl _) ?_
    rw [List.length_cons, Nat.succ_mul]
    omega
theorem Sm.tup {k n : Nat} {ds : List PyData} (h : Sms k n ds) : Sm (k + 1) n (.tuple ds) := by
  have h1 := h.dp
  have h2 := h.wt
  exact ⟨.tup h.nl, by simp only [PyData.showable, h.sh], by simp only [PyData.depth]; omega, by simp only [PyData.leavesShort, h.lv], by simp only [PyData.weight]; omega, by simp only [PyData.canLay0, h.cl], by simp only [PyData.hasDict, h.hd]⟩
theorem Sm.okd {k n : Nat} {d : PyData} (h : Sm k n d) (hk : k ≤ 40) (hn : n ≤ 2 ^ 20) : Okd d := ⟨h.sh, Nat.le_trans h.dp hk, h.lv, Nat.le_trans h.wt hn⟩
theorem Sm.shaped {k n : Nat} {d : PyData} (h : Sm k n d) (hk : k ≤ 60) : SeqAt.shaped d = true := by
  unfold SeqAt.shaped
  rw [h.cl, decide_eq_true (Nat.le_trans h.dp (by omega))]
  rfl
theorem Sms.shaped {k n : Nat} {ds : List PyData} (h : Sms k n ds) (hk : k ≤ 60) : SeqAt.shaped (.list ds) = true := by
  have h1 := h.dp
  unfold SeqAt.shaped
  rw [show PyData.canLay0 (.list ds) = true from by simp only [PyData.canLay0, h.cl], decide_eq_true (by simp only [PyData.depth]; omega)]
  rfl
theorem Sms.okd {k n : Nat} {ds : List PyData} (h : Sms k n ds) (hk : k ≤ 38) (hn : n ≤ 2 ^ 20) : Okd (.list ds) := by
  have h1 := h.dp
  have h2 := h.wt
  exact ⟨by simp only [PyData.showable, h.sh], by simp only [PyData.depth]; omega, by simp only [PyData.leavesShort, h.lv], by simp only [PyData.weight]; omega⟩
theorem Sms.hdL {k n : Nat} {ds : List PyData} (h : Sms k n ds) : PyData.hasDict (.list ds) = false := by simp only [PyData.hasDict, h.hd]
end DL

namespace LQ
open PySem PySem.Spec PyProof.Rows L2 GuL HG DL
/-! ### the text -/
def topS (i : Nat) : Stmt := PySem.Challenge.pw_switchstages_k25_whole_hits_by_own_looks.main.body.getD i (.Pass ⟨0, 0, 0, 0⟩)
structure Blt (mg : Str → Option Value) : Prop where
  int : mg "int" = none
  abs : mg "abs" = none
  len : mg "len" = none
  divmod : mg "divmod" = none
  range : mg "range" = none
  tuple : mg "tuple" = none
  repr : mg "repr" = none
  all : mg "all" = none
  max : mg "max" = none
  min : mg "min" = none
  sum : mg "sum" = none
  zip : mg "zip" = none
  str : mg "str" = none
  list : mg "list" = none
  isi : mg "isinstance" = none
  bool : mg "bool" = none
  enumerate : mg "enumerate" = none
abbrev s_is_number : Stmt := topS 5
theorem sc_is_number : FnScope ["value", "least", "most"] ["value", "least", "most"] (defScope s_is_number) := ⟨rfl, rfl, rfl, by decide +kernel, rfl, by decide +kernel, by decide +kernel⟩
abbrev n_is_number : List Str := ["value", "least", "most"]
abbrev p_is_number : List Str := ["value", "least", "most"]
abbrev s_is_word : Stmt := topS 6
theorem sc_is_word : FnScope ["value", "width"] ["value", "width"] (defScope s_is_word) := ⟨rfl, rfl, rfl, by decide +kernel, rfl, by decide +kernel, by decide +kernel⟩
abbrev n_is_word : List Str := ["value", "width"]
abbrev p_is_word : List Str := ["value", "width"]
abbrev s_is_row : Stmt := topS 7
theorem sc_is_row : FnScope ["value", "least", "most"] ["value", "least", "most"] (defScope s_is_row) := ⟨rfl, rfl, rfl, by decide +kernel, rfl, by decide +kernel, by decide +kernel⟩
abbrev n_is_row : List Str := ["value", "least", "most"]
abbrev p_is_row : List Str := ["value", "least", "most"]
abbrev s_is_text_of : Stmt := topS 9
theorem sc_is_text_of : FnScope ["value", "texts"] ["value", "texts"] (defScope s_is_text_of) := ⟨rfl, rfl, rfl, by decide +kernel, rfl, by decide +kernel, by decide +kernel⟩
abbrev n_is_text_of : List Str := ["value", "texts"]
abbrev p_is_text_of : List Str := ["value", "texts"]
abbrev s_as_mask : Stmt := topS 17
theorem sc_as_mask : FnScope ["kind", "width", "sought", "whole", "word", "bits"] ["kind", "width", "sought"] (defScope s_as_mask) := ⟨rfl, rfl, rfl, by decide +kernel, rfl, by decide +kernel, by decide +kernel⟩
abbrev n_as_mask : List Str := ["kind", "width", "sought", "whole", "word", "bits"]
abbrev p_as_mask : List Str := ["kind", "width", "sought"]
abbrev s_is_key_hit : Stmt := topS 19
theorem sc_is_key_hit : FnScope ["kind", "width", "sought", "word", "wanted", "mask"] ["kind", "width", "sought", "word"] (defScope s_is_key_hit) := ⟨rfl, rfl, rfl, by decide +kernel, rfl, by decide +kernel, by decide +kernel⟩
abbrev n_is_key_hit : List Str := ["kind", "width", "sought", "word", "wanted", "mask"]
abbrev p_is_key_hit : List Str := ["kind", "width", "sought", "word"]
abbrev s_is_hit : Stmt := topS 18
theorem sc_is_hit : FnScope ["pairs", "sought", "words", "part", "word", "kind", "width"] ["pairs", "sought", "words"] (defScope s_is_hit) := ⟨rfl, rfl, rfl, by decide +kernel, rfl, by decide +kernel, by decide +kernel⟩
abbrev n_is_hit : List Str := ["pairs", "sought", "words", "part", "word", "kind", "width"]
abbrev p_is_hit : List Str := ["pairs", "sought", "words"]
abbrev s_first_hit : Stmt := topS 20
theorem sc_first_hit : FnScope ["pairs", "entries", "words", "index", "entry"] ["pairs", "entries", "words"] (defScope s_first_hit) := ⟨rfl, rfl, rfl, by decide +kernel, rfl, by decide +kernel, by decide +kernel⟩
abbrev n_first_hit : List Str := ["pairs", "entries", "words", "index", "entry"]
abbrev p_first_hit : List Str := ["pairs", "entries", "words"]

theorem de_g {X : Cx} {b : Addr} {j : Bool} {x : Str} {d : PyData} {pos : Pos} (h : ∃ v, (∃ u, X.mg x = some u ∧ RelV v u) ∧ ∀ b H, Dt X.K b H v d) (hg : Gl X x) (hd : (x == ("__debug__" : Str)) = false := by decide) : DE X b j (.Name x pos) (dC d) := by
  obtain ⟨v, ⟨u, hm, r⟩, hd'⟩ := h
  exact de_c (pe_glob hg hm r hd) fun H => hd' b H
theorem hu {k : Nat} {A : Around} (r : Room k A) : A.units + 64 < cLine := by
  have := r.un
  omega
theorem tn0 : Int.toNat 0 = 0 := rfl
theorem tn1 : Int.toNat 1 = 1 := rfl
theorem tn2 : Int.toNat 2 = 2 := rfl
theorem tn3 : Int.toNat 3 = 3 := rfl
theorem tn4 : Int.toNat 4 = 4 := rfl
theorem tn5 : Int.toNat 5 = 5 := rfl
/-! ### keys, entries, as data -/
inductive Kd where | ex | pr | ma | ra
  deriving DecidableEq
def Kd.s : Kd → Str | .ex => "exact" | .pr => "prefix" | .ma => "mask" | .ra => "range"
abbrev Ky := Kd × Nat
abbrev Pa := Nat × Nat
def encK (k : Ky) : PyData := .tuple [.str k.1.s, .int k.2]
def encKs (ks : List Ky) : PyData := .tuple (ks.map encK)
def encP (k : Kd) (p : Pa) : PyData := match k with | .ex => .int p.1 | _ => .tuple [.int p.1, .int p.2]
def PaOk (k : Ky) (p : Pa) : Prop := match k.1 with
  | .ex => p.1 < 2 ^ k.2
  | .pr => p.1 < 2 ^ k.2 ∧ p.2 ≤ k.2 ∧ p.1 % 2 ^ (k.2 - p.2) = 0
  | .ma => p.1 < 2 ^ k.2 ∧ p.2 < 2 ^ k.2 ∧ p.1 &&& p.2 = p.1
  | .ra => p.1 ≤ p.2 ∧ p.2 < 2 ^ k.2
def hitP (k : Ky) (p : Pa) (v : Nat) : Bool := match k.1 with
  | .ex => decide (v = p.1)
  | .pr => decide (v / 2 ^ (k.2 - p.2) = p.1 / 2 ^ (k.2 - p.2))
  | .ma => decide (v &&& p.2 = p.1)
  | .ra => decide (p.1 ≤ v) && decide (v ≤ p.2)
def encPs : List Ky → List Pa → List PyData
  | k :: ks, p :: ps => encP k.1 p :: encPs ks ps
  | _, _ => []
def PsOk : List Ky → List Pa → Prop
  | k :: ks, p :: ps => PaOk k p ∧ PsOk ks ps
  | [], [] => True
  | _, _ => False
def WsOk : List Ky → List Nat → Prop
  | k :: ks, w :: ws => w < 2 ^ k.2 ∧ WsOk ks ws
  | [], [] => True
  | _, _ => False
def hitPs : List Ky → List Pa → List Nat → Bool
  | k :: ks, p :: ps, w :: ws => hitP k p w && hitPs ks ps ws
  | _, _, _ => true
def encW (ws : List Nat) : PyData := .tuple (ws.map fun w => .int (w : Nat))
structure En where
  ps : List Pa
  act : Str
  args : List Nat
def encE (ks : List Ky) (e : En) : PyData := .tuple [.tuple (encPs ks e.ps), .str e.act, .tuple (e.args.map fun a => .int (a : Nat))]
def encEs (ks : List Ky) (es : List En) : PyData := .tuple (es.map (encE ks))
def KsOk (ks : List Ky) : Prop := ∀ k ∈ ks, 1 ≤ k.2 ∧ k.2 ≤ 32
def fst0 (ks : List Ky) (ws : List Nat) (es : List En) : Option Nat := es.findIdx? fun e => hitPs ks e.ps ws
def oInt : Option Nat → PyData | none => .none | some i => .int (i : Nat)
theorem encPs_len : ∀ {ks : List Ky} {ps : List Pa}, PsOk ks ps → (encPs ks ps).length = ks.length
  | [], [], _ => rfl
  | _ :: ks, _ :: ps, h => by
    show (encPs ks ps).length + 1 = _
    rw [encPs_len h.2]
    rfl
theorem WsOk.len : ∀ {ks : List Ky} {ws : List Nat}, WsOk ks ws → ws.length = ks.length
  | [], [], _ => rfl
  | _ :: ks, _ :: ws, h => by
    show ws.length + 1 = _
    rw [WsOk.len h.2]
    rfl
theorem noL_int (i : Int) : NoL (.int i) := .int i
theorem noL_ints (ws : List Nat) : ∀ d ∈ ws.map (fun w => PyData.int (w : Nat)), NoL d := fun d h => by
  obtain ⟨w, _, rfl⟩ := List.mem_map.mp h
  exact .int _
theorem noL_encW (ws : List Nat) : NoL (encW ws) := .tup (noL_ints ws)
theorem noL_encK (k : Ky) : NoL (encK k) := .tup fun d h => by
  simp only [List.mem_cons, List.not_mem_nil, or_false] at h
  rcases h with rfl | rfl
  · exact .str _
  · exact .int _
theorem noL_encKs (ks : List Ky) : ∀ d ∈ ks.map encK, NoL d := fun d h => by
  obtain ⟨w, _, rfl⟩ := List.mem_map.mp h
  exact noL_encK w
theorem noL_encP (k : Kd) (p : Pa) : NoL (encP k p) := by
  have two : NoL (.tuple [.int p.1, .int p.2]) := .tup fun d h => by
    simp only [List.mem_cons, List.not_mem_nil, or_false] at h
    rcases h with rfl | rfl <;> exact .int _
  cases k <;> first | exact .int _ | exact two
theorem noL_encPs : ∀ (ks : List Ky) (ps : List Pa), ∀ d ∈ encPs ks ps, NoL d
  | k :: ks, p :: ps, d, h => by
    rcases List.mem_cons.mp h with rfl | h
    · exact noL_encP _ _
    · exact noL_encPs ks ps d h
  | [], _, _, h => nomatch h
  | _ :: _, [], _, h => nomatch h
theorem noL_encE (ks : List Ky) (e : En) : NoL (encE ks e) := .tup fun d h => by
  simp only [List.mem_cons, List.not_mem_nil, or_false] at h
  rcases h with rfl | rfl | rfl
  · exact .tup (noL_encPs _ _)
  · exact .str _
  · exact .tup (noL_ints _)
theorem noL_encEs (ks : List Ky) (es : List En) : ∀ d ∈ es.map (encE ks), NoL d := fun d h => by
  obtain ⟨w, _, rfl⟩ := List.mem_map.mp h
  exact noL_encE ks w
/-! ### rows of answers -/
theorem row_ext {ds ys : List PyData} {n : Nat} (h1 : ds.length = n) (h2 : ys.length = n) (h : ∀ (k : Nat) e, ds[k]? = some e → ys[k]? = some e) : ds = ys := by
  apply List.ext_getElem?
  intro k
  cases e : ds[k]? with
  | none =>
    have := List.getElem?_eq_none_iff.mp e
    exact (List.getElem?_eq_none (by omega)).symm
  | some x => exact (h k x e).symm
theorem all_true {n : Nat} : ((List.replicate n true).all id) = true := by simp
section
variable {P : Program} {w : World} {K : PySem.W.Frag} {mg : Str → Option Value} {base : Heap}
/-! ### numbers, words, rows -/
def fNumber : DF := fun ds Q => ∃ z a b : Int, ds = [.int z, .int a, .int b] ∧ Q (.bool (decide (a ≤ z) && decide (z ≤ b)))
theorem moNumber : MoF fNumber := fun _ _ _ m ⟨z, a, b, e, q⟩ => ⟨z, a, b, e, m _ q⟩
theorem ok_number {f : Addr} {fd : FuncData} (F : Fun K "is_number" "is_number" s_is_number f fd) (B : Blt mg) : FnG P w K mg base CX0 1 f fd p_is_number (spP K fNumber) := by
  refine fnP F sc_is_number moNumber (fun ds Q h => ?_) (fun cdv A outer s H E b hA hr => ⟨_, (dss_one (ds_ret (de_andV (de_isi (by rfl) B.isi (pe_bltn (v := .ty "int") (by rfl) B.int (by decide +kernel) rfl) kit_int (de_v (pv 0))) (de_andV (de_lele (de_v (pv 1)) (de_v (pv 0)) (de_v (pv 2))) (de_one (de_not (de_isi (by rfl) B.isi (pe_bltn (v := .ty "bool") (by rfl) B.bool (by decide +kernel) rfl) kit_bool (de_v (pv 0))))))))), fun ds Q h => ?_⟩)
  · obtain ⟨z, a, b, rfl, _⟩ := h
    rfl
  · obtain ⟨z, a, b, rfl, k⟩ := h
    simp only [tn0, tn1, tn2, tn3, tn4, tn5, bT, bs, b1, DL.wp, sRet, sRetN, sRetO, sSeq, sIf, sSet, sNew, sMov, sDo, sApp, sExt, sUnp, sPar, sParN, sNext, setAll, dAnd, dOr, dNot, dIf, dIsi, dv, dC, dOp, cI0, cII, gII, cSc, eSc, chI, chI3, dB, dtAnd, dtOr, dtNot, bw1, dCall, dCallJ, nCall, dCB, aCons, aNil, dTup, nLst, dNew, gLen, cLen, gTu, cTu, c2I, g2I, c1I, g1I, itm, cIx, gSl, oNo, oPt, dAll, dSum, dRepr, gCat, cCat, cInS, gInS, isN, ini, List.map, List.length, List.replicate, List.append, List.cons_append, List.nil_append, List.append_nil, List.getElem?_cons_zero, List.getElem?_cons_succ, List.set_cons_zero, List.set_cons_succ, List.length_cons, List.length_nil, Option.getD_some, true_and, and_true, if_true, if_false, isT_int_int, isT_bool_int, isT_tuple_tuple, isT_str_str, Bool.not_false, Bool.not_true, false_implies, List.length_map, Bool.false_eq_true, Bool.true_eq_false]
    by_cases h1 : a ≤ z <;> by_cases h2 : z ≤ b <;> simpa [h1, h2] using k
def fWord : DF := fun ds Q => ∃ (z : Int) (n : Nat), ds = [.int z, .int (n : Nat)] ∧ n ≤ 64 ∧ Q (.bool (decide (0 ≤ z) && decide (z < 2 ^ n)))
theorem moWord : MoF fWord := fun _ _ _ m ⟨z, n, e, l, q⟩ => ⟨z, n, e, l, m _ q⟩
theorem ok_word {f : Addr} {fd : FuncData} (F : Fun K "is_word" "is_word" s_is_word f fd) (B : Blt mg) : FnG P w K mg base CX0 2 f fd p_is_word (spP K fWord) := by
  refine fnP F sc_is_word moWord (fun ds Q h => ?_) (fun cdv A outer s H E b hA hr => ⟨_, (dss_one (ds_ret (de_andV (de_isi (by rfl) B.isi (pe_bltn (v := .ty "int") (by rfl) B.int (by decide +kernel) rfl) kit_int (de_v (pv 0))) (de_andV (de_ch op_le op_lt de_int (de_v (pv 0)) (de_shl de_int (de_v (pv 1)))) (de_one (de_not (de_isi (by rfl) B.isi (pe_bltn (v := .ty "bool") (by rfl) B.bool (by decide +kernel) rfl) kit_bool (de_v (pv 0))))))))), fun ds Q h => ?_⟩)
  · obtain ⟨z, n, rfl, _⟩ := h
    rfl
  · obtain ⟨z, n, rfl, l, k⟩ := h
    simp only [tn0, tn1, tn2, tn3, tn4, tn5, bT, bs, b1, DL.wp, sRet, sRetN, sRetO, sSeq, sIf, sSet, sNew, sMov, sDo, sApp, sExt, sUnp, sPar, sParN, sNext, setAll, dAnd, dOr, dNot, dIf, dIsi, dv, dC, dOp, cI0, cII, gII, cSc, eSc, chI, chI3, dB, dtAnd, dtOr, dtNot, bw1, dCall, dCallJ, nCall, dCB, aCons, aNil, dTup, nLst, dNew, gLen, cLen, gTu, cTu, c2I, g2I, c1I, g1I, itm, cIx, gSl, oNo, oPt, dAll, dSum, dRepr, gCat, cCat, cInS, gInS, isN, ini, List.map, List.length, List.replicate, List.append, List.cons_append, List.nil_append, List.append_nil, List.getElem?_cons_zero, List.getElem?_cons_succ, List.set_cons_zero, List.set_cons_succ, List.length_cons, List.length_nil, Option.getD_some, true_and, and_true, if_true, if_false, isT_int_int, isT_bool_int, isT_tuple_tuple, isT_str_str, Bool.not_false, Bool.not_true, false_implies, List.length_map, Bool.false_eq_true, Bool.true_eq_false]
    by_cases h1 : 0 ≤ z
    · rw [if_pos (decide_eq_true h1)]
      refine ⟨⟨by omega, by omega, by decide⟩, ?_⟩
      rw [Int.one_mul, Int.toNat_natCast]
      by_cases h2 : z < 2 ^ n <;> simpa [h1, h2] using k
    · rw [if_neg (by simpa using h1)]
      simpa [h1] using k
def isRow : PyData → Int → Int → Bool | .tuple xs, a, b => decide (a ≤ xs.length) && decide ((xs.length : Int) ≤ b) | _, _, _ => false
def fRow : DF := fun ds Q => ∃ (d : PyData) (a b : Int), ds = [d, .int a, .int b] ∧ Q (.bool (isRow d a b))
theorem moRow : MoF fRow := fun _ _ _ m ⟨d, a, b, e, q⟩ => ⟨d, a, b, e, m _ q⟩
theorem ok_row {f : Addr} {fd : FuncData} (F : Fun K "is_row" "is_row" s_is_row f fd) (B : Blt mg) : FnG P w K mg base CX0 1 f fd p_is_row (spP K fRow) := by
  refine fnP F sc_is_row moRow (fun ds Q h => ?_) (fun cdv A outer s H E b hA hr => ⟨_, (dss_one (ds_ret (de_andV (de_isi (by rfl) B.isi (pe_bltn (v := .ty "tuple") (by rfl) B.tuple (by decide +kernel) rfl) kit_tuple (de_v (pv 0))) (de_one (de_lele (de_v (pv 1)) (de_len (by rfl) B.len (da_cons (de_v (pv 0)) da_nil)) (de_v (pv 2))))))), fun ds Q h => ?_⟩)
  · obtain ⟨d, a, b, rfl, _⟩ := h
    rfl
  · obtain ⟨d, a, b, rfl, k⟩ := h
    have no : isT "tuple" d = false → isRow d a b = false := fun e => by
      cases d <;> first | rfl | (rw [isT_tuple_tuple] at e; cases e)
    simp only [tn0, tn1, tn2, tn3, tn4, tn5, bT, bs, b1, DL.wp, sRet, sRetN, sRetO, sSeq, sIf, sSet, sNew, sMov, sDo, sApp, sExt, sUnp, sPar, sParN, sNext, setAll, dAnd, dOr, dNot, dIf, dIsi, dv, dC, dOp, cI0, cII, gII, cSc, eSc, chI, chI3, dB, dtAnd, dtOr, dtNot, bw1, dCall, dCallJ, nCall, dCB, aCons, aNil, dTup, nLst, dNew, gLen, cLen, gTu, cTu, c2I, g2I, c1I, g1I, itm, cIx, gSl, oNo, oPt, dAll, dSum, dRepr, gCat, cCat, cInS, gInS, isN, ini, List.map, List.length, List.replicate, List.append, List.cons_append, List.nil_append, List.append_nil, List.getElem?_cons_zero, List.getElem?_cons_succ, List.set_cons_zero, List.set_cons_succ, List.length_cons, List.length_nil, Option.getD_some, true_and, and_true, if_true, if_false, isT_int_int, isT_bool_int, isT_tuple_tuple, isT_str_str, Bool.not_false, Bool.not_true, false_implies, List.length_map, Bool.false_eq_true, Bool.true_eq_false]
    by_cases c : isT "tuple" d = true
    · rw [if_pos c]
      cases d with
      | tuple xs =>
        simp only [tn0, tn1, tn2, tn3, tn4, tn5, bT, bs, b1, DL.wp, sRet, sRetN, sRetO, sSeq, sIf, sSet, sNew, sMov, sDo, sApp, sExt, sUnp, sPar, sParN, sNext, setAll, dAnd, dOr, dNot, dIf, dIsi, dv, dC, dOp, cI0, cII, gII, cSc, eSc, chI, chI3, dB, dtAnd, dtOr, dtNot, bw1, dCall, dCallJ, nCall, dCB, aCons, aNil, dTup, nLst, dNew, gLen, cLen, gTu, cTu, c2I, g2I, c1I, g1I, itm, cIx, gSl, oNo, oPt, dAll, dSum, dRepr, gCat, cCat, cInS, gInS, isN, ini, List.map, List.length, List.replicate, List.append, List.cons_append, List.nil_append, List.append_nil, List.getElem?_cons_zero, List.getElem?_cons_succ, List.set_cons_zero, List.set_cons_succ, List.length_cons, List.length_nil, Option.getD_some, true_and, and_true, if_true, if_false, isT_int_int, isT_bool_int, isT_tuple_tuple, isT_str_str, Bool.not_false, Bool.not_true, false_implies, List.length_map, Bool.false_eq_true, Bool.true_eq_false]
        have k' : Q (.bool (decide (a ≤ (xs.length : Int)) && decide ((xs.length : Int) ≤ b))) := k
        by_cases h1 : a ≤ (xs.length : Int) <;> by_cases h2 : (xs.length : Int) ≤ b <;> simpa [h1, h2] using k'
      | none => rw [isT_tuple_none] at c; cases c
      | bool x => rw [isT_tuple_bool] at c; cases c
      | int x => rw [isT_tuple_int] at c; cases c
      | str x => rw [isT_tuple_str] at c; cases c
      | list x => rw [isT_tuple_list] at c; cases c
      | dict x => exact (nomatch (show (kitB "dict" "tuple").getD false = true from c))
    · rw [if_neg c]
      rw [no (by simpa using c)] at k
      exact k
def fTextOf : DF := fun ds Q => ∃ (z : Str) (zs : List Str), ds = [.str z, .tuple (zs.map .str)] ∧ Q (.bool ((zs.map .str).any (isS z)))
theorem moTextOf : MoF fTextOf := fun _ _ _ m ⟨z, zs, e, q⟩ => ⟨z, zs, e, m _ q⟩
theorem ok_textof {f : Addr} {fd : FuncData} (F : Fun K "is_text_of" "is_text_of" s_is_text_of f fd) (B : Blt mg) : FnG P w K mg base CX0 1 f fd p_is_text_of (spP K fTextOf) := by
  refine fnP F sc_is_text_of moTextOf (fun ds Q h => ?_) (fun cdv A outer s H E b hA hr => ⟨_, (dss_one (ds_ret (de_andV (de_isi (by rfl) B.isi (pe_bltn (v := .ty "str") (by rfl) B.str (by decide +kernel) rfl) kit_str (de_v (pv 0))) (de_one (de_inS (de_v (pv 0)) (de_v (pv 1))))))), fun ds Q h => ?_⟩)
  · obtain ⟨z, zs, rfl, _⟩ := h
    rfl
  · obtain ⟨z, zs, rfl, k⟩ := h
    simp only [tn0, tn1, tn2, tn3, tn4, tn5, bT, bs, b1, DL.wp, sRet, sRetN, sRetO, sSeq, sIf, sSet, sNew, sMov, sDo, sApp, sExt, sUnp, sPar, sParN, sNext, setAll, dAnd, dOr, dNot, dIf, dIsi, dv, dC, dOp, cI0, cII, gII, cSc, eSc, chI, chI3, dB, dtAnd, dtOr, dtNot, bw1, dCall, dCallJ, nCall, dCB, aCons, aNil, dTup, nLst, dNew, gLen, cLen, gTu, cTu, c2I, g2I, c1I, g1I, itm, cIx, gSl, oNo, oPt, dAll, dSum, dRepr, gCat, cCat, cInS, gInS, isN, ini, List.map, List.length, List.replicate, List.append, List.cons_append, List.nil_append, List.append_nil, List.getElem?_cons_zero, List.getElem?_cons_succ, List.set_cons_zero, List.set_cons_succ, List.length_cons, List.length_nil, Option.getD_some, true_and, and_true, if_true, if_false, isT_int_int, isT_bool_int, isT_tuple_tuple, isT_str_str, Bool.not_false, Bool.not_true, false_implies, List.length_map, Bool.false_eq_true, Bool.true_eq_false]
    exact ⟨⟨zs, rfl⟩, k⟩
end
end LQ

namespace LQ
open PySem PySem.Spec PyProof.Rows L2 GuL HG DL
/-! ### bits -/
theorem bAnd (x y : Nat) : Builtin.bitAnd (x : Int) (y : Int) = ((x &&& y : Nat) : Int) := by
  rw [bitAnd_pp (by omega) (by omega), Int.toNat_natCast, Int.toNat_natCast]
theorem bXor (x y : Nat) : Builtin.bitXor (x : Int) (y : Int) = ((x ^^^ y : Nat) : Int) := by
  rw [Bits.bitXor_pp (by omega) (by omega), Int.toNat_natCast, Int.toNat_natCast]
theorem hiBits {w k v : Nat} (hk : k ≤ w) (hv : v < 2 ^ w) : v &&& ((2 ^ w - 1) ^^^ (2 ^ k - 1)) = v / 2 ^ k * 2 ^ k := by
  apply Nat.eq_of_testBit_eq
  intro i
  rw [Nat.testBit_and, Nat.testBit_xor, Nat.testBit_two_pow_sub_one, Nat.testBit_two_pow_sub_one, Nat.mul_comm, Nat.testBit_two_pow_mul, Nat.testBit_div_two_pow]
  by_cases h1 : i < w
  · by_cases h2 : i < k
    · have h3 : ¬ k ≤ i := by omega
      simp [h1, h2, h3]
    · have h3 : k ≤ i := by omega
      have e : i - k + k = i := by omega
      simp [h1, h2, h3, e]
  · have e : v.testBit i = false := Nat.testBit_lt_two_pow (Nat.lt_of_lt_of_le hv (Nat.pow_le_pow_right (by decide) (by omega)))
    by_cases h3 : k ≤ i
    · have e2 : i - k + k = i := by omega
      simp [e, h3, e2]
    · simp [e, h3]
theorem s01 : ((Str.ofString "exact") = (Str.ofString "mask")) = False := eq_false (by decide)
theorem s02 : ((Str.ofString "mask") = (Str.ofString "exact")) = False := eq_false (by decide)
theorem s03 : ((Str.ofString "prefix") = (Str.ofString "exact")) = False := eq_false (by decide)
theorem s04 : ((Str.ofString "prefix") = (Str.ofString "mask")) = False := eq_false (by decide)
theorem s05 : ((Str.ofString "range") = (Str.ofString "exact")) = False := eq_false (by decide)
theorem s06 : ((Str.ofString "range") = (Str.ofString "prefix")) = False := eq_false (by decide)
theorem s07 : ((Str.ofString "range") = (Str.ofString "mask")) = False := eq_false (by decide)
theorem s08 : ((Str.ofString "exact") = (Str.ofString "prefix")) = False := eq_false (by decide)
theorem s09 : ((Str.ofString "mask") = (Str.ofString "prefix")) = False := eq_false (by decide)
theorem s10 : ((Str.ofString "exact") = (Str.ofString "range")) = False := eq_false (by decide)
theorem s11 : ((Str.ofString "mask") = (Str.ofString "range")) = False := eq_false (by decide)
theorem s12 : ((Str.ofString "prefix") = (Str.ofString "range")) = False := eq_false (by decide)
def maskN (k : Ky) (p : Pa) : Nat := match k.1 with | .ex => 2 ^ k.2 - 1 | .pr => (2 ^ k.2 - 1) ^^^ (2 ^ (k.2 - p.2) - 1) | .ma => p.2 | .ra => 0
theorem hit_mask {k : Ky} {p : Pa} {v : Nat} (h : PaOk k p) (hv : v < 2 ^ k.2) (nr : k.1 ≠ .ra) : decide (v &&& maskN k p = p.1) = hitP k p v := by
  obtain ⟨kd, w⟩ := k
  obtain ⟨x, y⟩ := p
  cases kd with
  | ex =>
    have hv : v < 2 ^ w := hv
    show decide (v &&& (2 ^ w - 1) = x) = decide (v = x)
    rw [Nat.and_two_pow_sub_one_eq_mod, Nat.mod_eq_of_lt hv]
  | ma => rfl
  | ra => exact (nr rfl).elim
  | pr =>
    obtain ⟨h1, h2, h3⟩ := h
    have hv : v < 2 ^ w := hv
    have h2 : y ≤ w := h2
    have h3 : x % 2 ^ (w - y) = 0 := h3
    show decide (v &&& ((2 ^ w - 1) ^^^ (2 ^ (w - y) - 1)) = x) = decide (v / 2 ^ (w - y) = x / 2 ^ (w - y))
    rw [hiBits (by omega) hv, decide_eq_decide]
    have pos : 0 < 2 ^ (w - y) := Nat.two_pow_pos _
    constructor
    · intro e
      rw [← e, Nat.mul_div_cancel _ pos]
    · intro e
      rw [e]
      exact Nat.div_mul_cancel (Nat.dvd_of_mod_eq_zero h3)

section
variable {P : Program} {w : World} {K : PySem.W.Frag} {mg : Str → Option Value} {base : Heap}
def fMask : DF := fun ds Q => ∃ (k : Ky) (p : Pa), ds = [.str k.1.s, .int (k.2 : Nat), encP k.1 p] ∧ PaOk k p ∧ k.2 ≤ 32 ∧ k.1 ≠ .ra ∧ Q (.tuple [.int (p.1 : Nat), .int (maskN k p : Nat)])
theorem moMask : MoF fMask := fun _ _ _ m ⟨k, p, e, a, b, c, q⟩ => ⟨k, p, e, a, b, c, m _ q⟩
theorem pow1 (w : Nat) : (1 : Int) * 2 ^ w - 1 = ((2 ^ w - 1 : Nat) : Int) := by
  have := Nat.two_pow_pos w
  rw [Int.one_mul, Int.natCast_sub this]
  simp
theorem ok_mask {f : Addr} {fd : FuncData} (F : Fun K "as_mask" "as_mask" s_as_mask f fd) (B : Blt mg) : FnG P w K mg base CX0 1 f fd p_as_mask (spP K fMask) := by
  refine fnP F sc_as_mask moMask (fun ds Q h => ?_) (fun cdv A outer s H E b hA hr => ⟨_, (dss_cons (ds_set (i := 3) sc_as_mask.nd rfl (by first | exact Or.inl rfl | exact Or.inr rfl) (de_sub (de_shl de_int (de_v (pv 1))) de_int)) (dss_cons (ds_if (dt_eq (de_v (pv 0)) de_str) (dss_one (ds_ret (de_tup (da_cons (de_v (pv 2)) (da_cons (de_v (pv 3)) da_nil))))) dss_nil) (dss_cons (ds_if (dt_eq (de_v (pv 0)) de_str) (dss_one (ds_ret (de_v (pv 2)))) dss_nil) (dss_cons (ds_unp (is := [4, 5]) (de_v (pv 2)) (pg_tup rfl (pgs_cons (pg_name (i := 4) sc_as_mask.nd rfl (by first | exact Or.inl rfl | exact Or.inr rfl)) (pgs_cons (pg_name (i := 5) sc_as_mask.nd rfl (by first | exact Or.inl rfl | exact Or.inr rfl)) pgs_nil)))) (dss_one (ds_ret (de_tup (da_cons (de_v (pv 4)) (da_cons (de_xor (de_v (pv 3)) (de_sub (de_shl de_int (de_sub (de_v (pv 1)) (de_v (pv 5)))) de_int)) da_nil))))))))), fun ds Q h => ?_⟩)
  · obtain ⟨k, p, rfl, _⟩ := h
    rfl
  · obtain ⟨⟨kd, w⟩, ⟨x, y⟩, rfl, hp, hw, nr, k⟩ := h
    have hw : w ≤ 32 := hw
    cases kd with
    | ra => exact (nr rfl).elim
    | ex =>
      simp only [tn0, tn1, tn2, tn3, tn4, tn5, bT, bs, b1, DL.wp, sRet, sRetN, sRetO, sSeq, sIf, sSet, sNew, sMov, sDo, sApp, sExt, sUnp, sPar, sParN, sNext, setAll, dAnd, dOr, dNot, dIf, dIsi, dv, dC, dOp, cI0, cII, gII, cSc, eSc, chI, chI3, dB, dtAnd, dtOr, dtNot, bw1, dCall, dCallJ, nCall, dCB, aCons, aNil, dTup, nLst, dNew, gLen, cLen, gTu, cTu, c2I, g2I, c1I, g1I, itm, cIx, gSl, oNo, oPt, dAll, dSum, dRepr, gCat, cCat, cInS, gInS, isN, ini, List.map, List.length, List.replicate, List.append, List.cons_append, List.nil_append, List.append_nil, List.getElem?_cons_zero, List.getElem?_cons_succ, List.set_cons_zero, List.set_cons_succ, List.length_cons, List.length_nil, Option.getD_some, true_and, and_true, if_true, if_false, isT_int_int, isT_bool_int, isT_tuple_tuple, isT_str_str, Bool.not_false, Bool.not_true, false_implies, List.length_map, Bool.false_eq_true, Bool.true_eq_false, encP, Kd.s]
      refine ⟨⟨by omega, by omega, by decide⟩, noL_int _, ?_⟩
      rw [Int.toNat_natCast, pow1]
      simpa [tn0, tn1, tn2, tn3, tn4, tn5, bT, bs, b1, DL.wp, sRet, sRetN, sRetO, sSeq, sIf, sSet, sNew, sMov, sDo, sApp, sExt, sUnp, sPar, sParN, sNext, setAll, dAnd, dOr, dNot, dIf, dIsi, dv, dC, dOp, cI0, cII, gII, cSc, eSc, chI, chI3, dB, dtAnd, dtOr, dtNot, bw1, dCall, dCallJ, nCall, dCB, aCons, aNil, dTup, nLst, dNew, gLen, cLen, gTu, cTu, c2I, g2I, c1I, g1I, itm, cIx, gSl, oNo, oPt, dAll, dSum, dRepr, gCat, cCat, cInS, gInS, isN, ini, List.map, List.length, List.replicate, List.append, List.cons_append, List.nil_append, List.append_nil, List.getElem?_cons_zero, List.getElem?_cons_succ, List.set_cons_zero, List.set_cons_succ, List.length_cons, List.length_nil, Option.getD_some, true_and, and_true, if_true, if_false, isT_int_int, isT_bool_int, isT_tuple_tuple, isT_str_str, Bool.not_false, Bool.not_true, false_implies, List.length_map, Bool.false_eq_true, Bool.true_eq_false, maskN] using k
    | ma =>
      simp only [tn0, tn1, tn2, tn3, tn4, tn5, bT, bs, b1, DL.wp, sRet, sRetN, sRetO, sSeq, sIf, sSet, sNew, sMov, sDo, sApp, sExt, sUnp, sPar, sParN, sNext, setAll, dAnd, dOr, dNot, dIf, dIsi, dv, dC, dOp, cI0, cII, gII, cSc, eSc, chI, chI3, dB, dtAnd, dtOr, dtNot, bw1, dCall, dCallJ, nCall, dCB, aCons, aNil, dTup, nLst, dNew, gLen, cLen, gTu, cTu, c2I, g2I, c1I, g1I, itm, cIx, gSl, oNo, oPt, dAll, dSum, dRepr, gCat, cCat, cInS, gInS, isN, ini, List.map, List.length, List.replicate, List.append, List.cons_append, List.nil_append, List.append_nil, List.getElem?_cons_zero, List.getElem?_cons_succ, List.set_cons_zero, List.set_cons_succ, List.length_cons, List.length_nil, Option.getD_some, true_and, and_true, if_true, if_false, isT_int_int, isT_bool_int, isT_tuple_tuple, isT_str_str, Bool.not_false, Bool.not_true, false_implies, List.length_map, Bool.false_eq_true, Bool.true_eq_false, encP, Kd.s, s01, s02, s03, s04, s05, s06, s07, s08, s09, s10, s11, s12, decide_false, decide_true, Bool.false_eq_true, if_false, if_true]
      refine ⟨⟨by omega, by omega, by decide⟩, noL_int _, ?_⟩
      simpa [maskN] using k
    | pr =>
      obtain ⟨h1, h2, h3⟩ := hp
      have h2 : y ≤ w := h2
      simp only [tn0, tn1, tn2, tn3, tn4, tn5, bT, bs, b1, DL.wp, sRet, sRetN, sRetO, sSeq, sIf, sSet, sNew, sMov, sDo, sApp, sExt, sUnp, sPar, sParN, sNext, setAll, dAnd, dOr, dNot, dIf, dIsi, dv, dC, dOp, cI0, cII, gII, cSc, eSc, chI, chI3, dB, dtAnd, dtOr, dtNot, bw1, dCall, dCallJ, nCall, dCB, aCons, aNil, dTup, nLst, dNew, gLen, cLen, gTu, cTu, c2I, g2I, c1I, g1I, itm, cIx, gSl, oNo, oPt, dAll, dSum, dRepr, gCat, cCat, cInS, gInS, isN, ini, List.map, List.length, List.replicate, List.append, List.cons_append, List.nil_append, List.append_nil, List.getElem?_cons_zero, List.getElem?_cons_succ, List.set_cons_zero, List.set_cons_succ, List.length_cons, List.length_nil, Option.getD_some, true_and, and_true, if_true, if_false, isT_int_int, isT_bool_int, isT_tuple_tuple, isT_str_str, Bool.not_false, Bool.not_true, false_implies, List.length_map, Bool.false_eq_true, Bool.true_eq_false, encP, Kd.s, s01, s02, s03, s04, s05, s06, s07, s08, s09, s10, s11, s12, decide_false, decide_true, Bool.false_eq_true, if_false, if_true]
      refine ⟨⟨by omega, by omega, by decide⟩, noL_int _, ?_⟩
      have e : ((w : Int) - (y : Int)).toNat = w - y := by omega
      rw [Int.toNat_natCast, pow1]
      have k' : Q (.tuple [.int (x : Nat), .int ((((2 ^ w - 1) ^^^ (2 ^ (w - y) - 1) : Nat)) : Int)]) := k
      rw [← bXor, ← pow1 (w - y)] at k'
      refine ⟨fun d hd => ?_, ⟨by omega, by omega, by decide⟩, by decide, ?_⟩
      · simp only [List.mem_cons, List.not_mem_nil, or_false] at hd
        rcases hd with rfl | rfl <;> exact noL_int _
      · rw [e]
        exact k'
def fKeyHit : DF := fun ds Q => ∃ (k : Ky) (p : Pa) (v : Nat), ds = [.str k.1.s, .int (k.2 : Nat), encP k.1 p, .int (v : Nat)] ∧ PaOk k p ∧ k.2 ≤ 32 ∧ v < 2 ^ k.2 ∧ Q (.bool (hitP k p v))
theorem moKeyHit : MoF fKeyHit := fun _ _ _ m ⟨k, p, v, e, a, b, c, q⟩ => ⟨k, p, v, e, a, b, c, m _ q⟩
theorem ok_keyhit {f fM : Addr} {fd dM : FuncData} (F : Fun K "is_key_hit" "is_key_hit" s_is_key_hit f fd) (KM : DK P w K mg base 1 "as_mask" s_as_mask p_as_mask (spP K fMask) fM dM) : FnG P w K mg base CX0 2 f fd p_is_key_hit (spP K fKeyHit) := by
  refine fnP F sc_is_key_hit moKeyHit (fun ds Q h => ?_) (fun cdv A outer s H E b hA hr => ⟨_, (dss_cons (ds_if (dt_eq (de_v (pv 0)) de_str) (dss_one (ds_ret (de_lele (de_ix (de_v (pv 2)) de_int (fun _ _ => rfl)) (de_v (pv 3)) (de_ix (de_v (pv 2)) de_int (fun _ _ => rfl))))) dss_nil) (dss_cons (ds_unp (is := [4, 5]) (de_call KM.G moMask hA (hr.mono (by decide)) (by rfl) KM.g KM.F.kp KM.b pass0 (da_cons (de_v (pv 0)) (da_cons (de_v (pv 1)) (da_cons (de_v (pv 2)) da_nil)))) (pg_tup rfl (pgs_cons (pg_name (i := 4) sc_is_key_hit.nd rfl (by first | exact Or.inl rfl | exact Or.inr rfl)) (pgs_cons (pg_name (i := 5) sc_is_key_hit.nd rfl (by first | exact Or.inl rfl | exact Or.inr rfl)) pgs_nil)))) (dss_one (ds_ret (de_eq (de_and (de_v (pv 3)) (de_v (pv 5))) (de_v (pv 4))))))), fun ds Q h => ?_⟩)
  · obtain ⟨k, p, v, rfl, _⟩ := h
    rfl
  · obtain ⟨⟨kd, w⟩, ⟨x, y⟩, v, rfl, hp, hw, hv, k⟩ := h
    by_cases nr : kd = .ra
    · subst nr
      simp only [tn0, tn1, tn2, tn3, tn4, tn5, bT, bs, b1, DL.wp, sRet, sRetN, sRetO, sSeq, sIf, sSet, sNew, sMov, sDo, sApp, sExt, sUnp, sPar, sParN, sNext, setAll, dAnd, dOr, dNot, dIf, dIsi, dv, dC, dOp, cI0, cII, gII, cSc, eSc, chI, chI3, dB, dtAnd, dtOr, dtNot, bw1, dCall, dCallJ, nCall, dCB, aCons, aNil, dTup, nLst, dNew, gLen, cLen, gTu, cTu, c2I, g2I, c1I, g1I, itm, cIx, gSl, oNo, oPt, dAll, dSum, dRepr, gCat, cCat, cInS, gInS, isN, ini, List.map, List.length, List.replicate, List.append, List.cons_append, List.nil_append, List.append_nil, List.getElem?_cons_zero, List.getElem?_cons_succ, List.set_cons_zero, List.set_cons_succ, List.length_cons, List.length_nil, Option.getD_some, true_and, and_true, if_true, if_false, isT_int_int, isT_bool_int, isT_tuple_tuple, isT_str_str, Bool.not_false, Bool.not_true, false_implies, List.length_map, Bool.false_eq_true, Bool.true_eq_false, encP, Kd.s]
      have k' : Q (.bool (decide (x ≤ v) && decide (v ≤ y))) := k
      simp
      by_cases h1 : x ≤ v <;> by_cases h2 : v ≤ y <;> simpa [h1, h2] using k'
    · have hs : ¬ kd.s = Kd.s .ra := by cases kd <;> first | exact (nr rfl).elim | decide
      have e := hit_mask hp hv nr
      rw [← e] at k
      simp only [tn0, tn1, tn2, tn3, tn4, tn5, bT, bs, b1, DL.wp, sRet, sRetN, sRetO, sSeq, sIf, sSet, sNew, sMov, sDo, sApp, sExt, sUnp, sPar, sParN, sNext, setAll, dAnd, dOr, dNot, dIf, dIsi, dv, dC, dOp, cI0, cII, gII, cSc, eSc, chI, chI3, dB, dtAnd, dtOr, dtNot, bw1, dCall, dCallJ, nCall, dCB, aCons, aNil, dTup, nLst, dNew, gLen, cLen, gTu, cTu, c2I, g2I, c1I, g1I, itm, cIx, gSl, oNo, oPt, dAll, dSum, dRepr, gCat, cCat, cInS, gInS, isN, ini, List.map, List.length, List.replicate, List.append, List.cons_append, List.nil_append, List.append_nil, List.getElem?_cons_zero, List.getElem?_cons_succ, List.set_cons_zero, List.set_cons_succ, List.length_cons, List.length_nil, Option.getD_some, true_and, and_true, if_true, if_false, isT_int_int, isT_bool_int, isT_tuple_tuple, isT_str_str, Bool.not_false, Bool.not_true, false_implies, List.length_map, Bool.false_eq_true, Bool.true_eq_false]
      have hs' : decide (kd.s = ("range" : Str)) = false := decide_eq_false hs
      rw [hs', if_neg Bool.false_ne_true]
      refine ⟨(kd, w), (x, y), rfl, hp, hw, nr, rfl, fun d hd => ?_, ?_⟩
      · simp only [List.mem_cons, List.not_mem_nil, or_false] at hd
        rcases hd with rfl | rfl <;> exact noL_int _
      · simp only [tn0, tn1, tn2, tn3, tn4, tn5, bT, bs, b1, DL.wp, sRet, sRetN, sRetO, sSeq, sIf, sSet, sNew, sMov, sDo, sApp, sExt, sUnp, sPar, sParN, sNext, setAll, dAnd, dOr, dNot, dIf, dIsi, dv, dC, dOp, cI0, cII, gII, cSc, eSc, chI, chI3, dB, dtAnd, dtOr, dtNot, bw1, dCall, dCallJ, nCall, dCB, aCons, aNil, dTup, nLst, dNew, gLen, cLen, gTu, cTu, c2I, g2I, c1I, g1I, itm, cIx, gSl, oNo, oPt, dAll, dSum, dRepr, gCat, cCat, cInS, gInS, isN, ini, List.map, List.length, List.replicate, List.append, List.cons_append, List.nil_append, List.append_nil, List.getElem?_cons_zero, List.getElem?_cons_succ, List.set_cons_zero, List.set_cons_succ, List.length_cons, List.length_nil, Option.getD_some, true_and, and_true, if_true, if_false, isT_int_int, isT_bool_int, isT_tuple_tuple, isT_str_str, Bool.not_false, Bool.not_true, false_implies, List.length_map, Bool.false_eq_true, Bool.true_eq_false]
        rw [bAnd]
        have k' : Q (.bool (decide (v &&& maskN (kd, w) (x, y) = x))) := k
        have e2 : decide (((v &&& maskN (kd, w) (x, y) : Nat) : Int) = ((x : Nat) : Int)) = decide (v &&& maskN (kd, w) (x, y) = x) := by
          rw [decide_eq_decide]
          omega
        rw [e2]
        exact k'
/-! ### rows of hits -/
def fHit : DF := fun ds Q => ∃ (ks : List Ky) (ps : List Pa) (ws : List Nat), ds = [encKs ks, .tuple (encPs ks ps), encW ws] ∧ PsOk ks ps ∧ WsOk ks ws ∧ KsOk ks ∧ ks.length ≤ 3 ∧ Q (.bool (hitPs ks ps ws))
theorem moHit : MoF fHit := fun _ _ _ m ⟨ks, ps, ws, e, a, b, c, d, q⟩ => ⟨ks, ps, ws, e, a, b, c, d, m _ q⟩
def hitL : List Ky → List Pa → List Nat → List Bool
  | k :: ks, p :: ps, w :: ws => hitP k p w :: hitL ks ps ws
  | _, _, _ => []
theorem hitL_all : ∀ {ks : List Ky} {ps : List Pa} {ws : List Nat}, (hitL ks ps ws).all id = hitPs ks ps ws
  | k :: ks, p :: ps, w :: ws => by
    show (hitP k p w && (hitL ks ps ws).all id) = _
    rw [hitL_all]
    rfl
  | [], _, _ => rfl
  | _ :: _, [], _ => rfl
  | _ :: _, _ :: _, [] => rfl
theorem hitL_len : ∀ {ks : List Ky} {ps : List Pa} {ws : List Nat}, PsOk ks ps → WsOk ks ws → (hitL ks ps ws).length = ks.length
  | [], [], [], _, _ => rfl
  | k :: ks, p :: ps, w :: ws, h1, h2 => by
    show (hitL ks ps ws).length + 1 = _
    rw [hitL_len h1.2 h2.2]
    rfl
theorem at3 : ∀ {ks : List Ky} {ps : List Pa} {ws : List Nat} {i : Nat} {d : PyData}, PsOk ks ps → WsOk ks ws → KsOk ks → (zp3 (ks.map encK) (encPs ks ps) (ws.map fun w => PyData.int (w : Nat)))[i]? = some d →
    ∃ k p w, d = .tuple [encK k, encP k.1 p, .int (w : Nat)] ∧ PaOk k p ∧ w < 2 ^ k.2 ∧ k.2 ≤ 32 ∧ ((hitL ks ps ws).map PyData.bool)[i]? = some (.bool (hitP k p w))
  | k :: ks, p :: ps, w :: ws, 0, d, h1, h2, h3, e => by
    simp [zp3, encPs] at e
    exact ⟨k, p, w, e.symm, h1.1, h2.1, (h3 k List.mem_cons_self).2, rfl⟩
  | k :: ks, p :: ps, w :: ws, i + 1, d, h1, h2, h3, e => by
    obtain ⟨k', p', w', g1, g2, g3, g4, g5⟩ := at3 (i := i) h1.2 h2.2 (fun k hk => h3 k (List.mem_cons_of_mem _ hk)) (show (zp3 (ks.map encK) (encPs ks ps) (ws.map fun w => PyData.int (w : Nat)))[i]? = some d by simpa [zp3, encPs] using e)
    exact ⟨k', p', w', g1, g2, g3, g4, by simpa [hitL] using g5⟩
  | [], [], [], _, _, _, _, _, e => by simp [zp3] at e
theorem ok_hit {f fK : Addr} {fd dK : FuncData} (F : Fun K "is_hit" "is_hit" s_is_hit f fd) (B : Blt mg) (KK : DK P w K mg base 2 "is_key_hit" s_is_key_hit p_is_key_hit (spP K fKeyHit) fK dK) : FnG P w K mg base CX0 3 f fd p_is_hit (spP K fHit) := by
  refine fnP F sc_is_hit moHit (fun ds Q h => ?_) (fun cdv A outer s H E b hA hr => ⟨_, (dss_one (ds_ret (de_all rfl (by rfl) B.all (de_new (dn_lc rfl sc_is_hit.nd (own := [("part", 3), ("word", 4), ("kind", 5), ("width", 6)]) (p := (.row [(.t [5, 6]), (.n 3), (.n 4)])) (di_z3 (by rfl) B.zip (da_cons (de_v (pv 0)) (da_cons (de_v (pv 1)) (da_cons (de_v (pv 2)) da_nil)))) (blkOk_by (N := ["pairs", "sought", "words", "part", "word", "kind", "width"]) (sc := defScope s_is_hit) (by decide +kernel)) (by decide) (fun _ _ _ _ _ => (pg_tup rfl (pgs_cons (pg_tup rfl (pgs_cons (pg_name (i := 5) sc_is_hit.nd rfl (by first | exact Or.inl rfl | exact Or.inr rfl)) (pgs_cons (pg_name (i := 6) sc_is_hit.nd rfl (by first | exact Or.inl rfl | exact Or.inr rfl)) pgs_nil))) (pgs_cons (pg_name (i := 3) sc_is_hit.nd rfl (by first | exact Or.inl rfl | exact Or.inr rfl)) (pgs_cons (pg_name (i := 4) sc_is_hit.nd rfl (by first | exact Or.inl rfl | exact Or.inr rfl)) pgs_nil))))) (fun _ _ _ _ _ => (de_call KK.G moKeyHit hA (hr.mono (by decide)) (by rfl) KK.g KK.F.kp KK.b pass0 (da_cons (de_v (pv 5)) (da_cons (de_v (pv 6)) (da_cons (de_v (pv 3)) (da_cons (de_v (pv 4)) da_nil))))))))))), fun ds Q h => ?_⟩)
  · obtain ⟨ks, ps, ws, rfl, _⟩ := h
    rfl
  · obtain ⟨ks, ps, ws, rfl, h1, h2, h3, h4, k⟩ := h
    simp only [tn0, tn1, tn2, tn3, tn4, tn5, bT, bs, b1, DL.wp, sRet, sRetN, sRetO, sSeq, sIf, sSet, sNew, sMov, sDo, sApp, sExt, sUnp, sPar, sParN, sNext, setAll, dAnd, dOr, dNot, dIf, dIsi, dv, dC, dOp, cI0, cII, gII, cSc, eSc, chI, chI3, dB, dtAnd, dtOr, dtNot, bw1, dCall, dCallJ, nCall, dCB, aCons, aNil, dTup, nLst, dNew, gLen, cLen, gTu, cTu, c2I, g2I, c1I, g1I, itm, cIx, gSl, oNo, oPt, dAll, dSum, dRepr, gCat, cCat, cInS, gInS, isN, ini, List.map, List.length, List.replicate, List.append, List.cons_append, List.nil_append, List.append_nil, List.getElem?_cons_zero, List.getElem?_cons_succ, List.set_cons_zero, List.set_cons_succ, List.length_cons, List.length_nil, Option.getD_some, true_and, and_true, if_true, if_false, isT_int_int, isT_bool_int, isT_tuple_tuple, isT_str_str, Bool.not_false, Bool.not_true, false_implies, List.length_map, Bool.false_eq_true, Bool.true_eq_false, nLc, z3I, encKs, encW]
    have l1 := encPs_len h1
    have l2 := h2.len
    refine ⟨l1.symm, l2.symm, ?_, fun i e => ((hitL ks ps ws).map PyData.bool)[i]? = some e, fun i d hd => ?_, fun es e1 e2 => ?_⟩
    · rw [zp3_len (by rw [List.length_map, l1]) (by rw [List.length_map, List.length_map, l2]), List.length_map]
      omega
    · obtain ⟨⟨kd, wd⟩, p, v, rfl, g1, g2, g3, g4⟩ := at3 h1 h2 h3 hd
      simp only [tn0, tn1, tn2, tn3, tn4, tn5, bT, bs, b1, DL.wp, sRet, sRetN, sRetO, sSeq, sIf, sSet, sNew, sMov, sDo, sApp, sExt, sUnp, sPar, sParN, sNext, setAll, dAnd, dOr, dNot, dIf, dIsi, dv, dC, dOp, cI0, cII, gII, cSc, eSc, chI, chI3, dB, dtAnd, dtOr, dtNot, bw1, dCall, dCallJ, nCall, dCB, aCons, aNil, dTup, nLst, dNew, gLen, cLen, gTu, cTu, c2I, g2I, c1I, g1I, itm, cIx, gSl, oNo, oPt, dAll, dSum, dRepr, gCat, cCat, cInS, gInS, isN, ini, List.map, List.length, List.replicate, List.append, List.cons_append, List.nil_append, List.append_nil, List.getElem?_cons_zero, List.getElem?_cons_succ, List.set_cons_zero, List.set_cons_succ, List.length_cons, List.length_nil, Option.getD_some, true_and, and_true, if_true, if_false, isT_int_int, isT_bool_int, isT_tuple_tuple, isT_str_str, Bool.not_false, Bool.not_true, false_implies, List.length_map, Bool.false_eq_true, Bool.true_eq_false, encK]
      refine ⟨?_, noL_encP _ _, noL_int _, _, _, _, rfl, g1, g3, g2, .bl _, g4⟩
      intro d hd
      simp only [List.mem_cons, List.not_mem_nil, or_false] at hd
      rcases hd with rfl | rfl
      · exact .str _
      · exact .int _
    · rw [zp3_len (by rw [List.length_map, l1]) (by rw [List.length_map, List.length_map, l2]), List.length_map] at e1
      have e3 := row_ext e1 (by rw [List.length_map, hitL_len h1 h2]) e2
      exact ⟨hitL ks ps ws, by rw [e3], by rw [hitL_all]; exact k⟩
/-! ### the first entry that is hit -/
def fFirst : DF := fun ds Q => ∃ (ks : List Ky) (es : List En) (ws : List Nat), ds = [encKs ks, encEs ks es, encW ws] ∧ (∀ e ∈ es, PsOk ks e.ps) ∧ WsOk ks ws ∧ KsOk ks ∧ ks.length ≤ 3 ∧ Q (oInt (fst0 ks ws es))
theorem moFirst : MoF fFirst := fun _ _ _ m ⟨ks, ps, ws, e, a, b, c, d, q⟩ => ⟨ks, ps, ws, e, a, b, c, d, m _ q⟩
theorem enD_get {ds : List PyData} {i : Nat} {d : PyData} (h : (enD ds)[i]? = some d) : ∃ e, ds[i]? = some e ∧ d = .tuple [.int (i : Nat), e] := by
  unfold enD at h
  rw [List.getElem?_mapIdx] at h
  cases e : ds[i]? with
  | none => rw [e] at h; cases h
  | some x => rw [e] at h; cases h; exact ⟨x, rfl, rfl⟩
theorem enD_len {ds : List PyData} : (enD ds).length = ds.length := by unfold enD; rw [List.length_mapIdx]
theorem ok_first {f fH : Addr} {fd dH : FuncData} (F : Fun K "first_hit" "first_hit" s_first_hit f fd) (B : Blt mg) (KH : DK P w K mg base 3 "is_hit" s_is_hit p_is_hit (spP K fHit) fH dH) : FnG P w K mg base CX0 4 f fd p_first_hit (spP K fFirst) := by
  refine fnP F sc_first_hit moFirst (fun ds Q h => ?_) (fun cdv A outer s H E b hA hr => ⟨_, (dss_cons (ds_for (p := (.one (.t [3, 4]))) PassesOwn.never rfl (di_en (by rfl) B.enumerate (da_cons (de_v (pv 1)) da_nil)) (pg_tup rfl (pgs_cons (pg_name (i := 3) sc_first_hit.nd rfl (by first | exact Or.inl rfl | exact Or.inr rfl)) (pgs_cons (pg_name (i := 4) sc_first_hit.nd rfl (by first | exact Or.inl rfl | exact Or.inr rfl)) pgs_nil))) (dss_one (ds_if (dt_val (de_call KH.G moHit hA (hr.mono (by decide)) (by rfl) KH.g KH.F.kp KH.b pass0 (da_cons (de_v (pv 0)) (da_cons (de_ix (de_v (pv 4)) de_int (fun _ _ => rfl)) (da_cons (de_v (pv 2)) da_nil))))) (dss_one (ds_ret (de_v (pv 3)))) dss_nil))) (dss_one (ds_ret de_non))), fun ds Q h => ?_⟩)
  · obtain ⟨ks, ps, ws, rfl, _⟩ := h
    rfl
  · obtain ⟨ks, es, ws, rfl, h1, h2, h3, h4, k⟩ := h
    simp only [tn0, tn1, tn2, tn3, tn4, tn5, bT, bs, b1, DL.wp, sRet, sRetN, sRetO, sSeq, sIf, sSet, sNew, sMov, sDo, sApp, sExt, sUnp, sPar, sParN, sNext, setAll, dAnd, dOr, dNot, dIf, dIsi, dv, dC, dOp, cI0, cII, gII, cSc, eSc, chI, chI3, dB, dtAnd, dtOr, dtNot, bw1, dCall, dCallJ, nCall, dCB, aCons, aNil, dTup, nLst, dNew, gLen, cLen, gTu, cTu, c2I, g2I, c1I, g1I, itm, cIx, gSl, oNo, oPt, dAll, dSum, dRepr, gCat, cCat, cInS, gInS, isN, ini, List.map, List.length, List.replicate, List.append, List.cons_append, List.nil_append, List.append_nil, List.getElem?_cons_zero, List.getElem?_cons_succ, List.set_cons_zero, List.set_cons_succ, List.length_cons, List.length_nil, Option.getD_some, true_and, and_true, if_true, if_false, isT_int_int, isT_bool_int, isT_tuple_tuple, isT_str_str, Bool.not_false, Bool.not_true, false_implies, List.length_map, Bool.false_eq_true, Bool.true_eq_false, sFor, enI, encEs]
    refine ⟨fun _ => noL_encEs ks es, fun i ρ => (∀ j, j < i → ∀ e, es[j]? = some e → hitPs ks e.ps ws = false) ∧ ∃ s1 s2, frzs [s1, s2] = [none, none] ∧ ρ = [.par (encKs ks), .par (.tuple (es.map (encE ks))), .par (encW ws), s1, s2], ⟨fun j hj => absurd hj (Nat.not_lt_zero j), .nil, .nil, rfl, rfl⟩, ?_, ?_⟩
    · rintro i d ρ hd ⟨hn, s1, s2, hf, rfl⟩
      obtain ⟨x, hx, rfl⟩ := enD_get hd
      rw [List.getElem?_map] at hx
      cases he : es[i]? with
      | none => rw [he] at hx; cases hx
      | some e =>
        rw [he] at hx
        cases hx
        simp only [tn0, tn1, tn2, tn3, tn4, tn5, bT, bs, b1, DL.wp, sRet, sRetN, sRetO, sSeq, sIf, sSet, sNew, sMov, sDo, sApp, sExt, sUnp, sPar, sParN, sNext, setAll, dAnd, dOr, dNot, dIf, dIsi, dv, dC, dOp, cI0, cII, gII, cSc, eSc, chI, chI3, dB, dtAnd, dtOr, dtNot, bw1, dCall, dCallJ, nCall, dCB, aCons, aNil, dTup, nLst, dNew, gLen, cLen, gTu, cTu, c2I, g2I, c1I, g1I, itm, cIx, gSl, oNo, oPt, dAll, dSum, dRepr, gCat, cCat, cInS, gInS, isN, ini, List.map, List.length, List.replicate, List.append, List.cons_append, List.nil_append, List.append_nil, List.getElem?_cons_zero, List.getElem?_cons_succ, List.set_cons_zero, List.set_cons_succ, List.length_cons, List.length_nil, Option.getD_some, true_and, and_true, if_true, if_false, isT_int_int, isT_bool_int, isT_tuple_tuple, isT_str_str, Bool.not_false, Bool.not_true, false_implies, List.length_map, Bool.false_eq_true, Bool.true_eq_false, encE]
        have me : e ∈ es := List.mem_of_getElem? he
        refine ⟨fun d hd => ?_, ⟨by omega, by omega⟩, ks, e.ps, ws, rfl, h1 e me, h2, h3, h4, ?_⟩
        · simp only [List.mem_cons, List.not_mem_nil, or_false] at hd
          rcases hd with rfl | rfl
          · exact .int _
          · exact noL_encE ks e
        · cases c : hitPs ks e.ps ws with
          | true =>
            have e2 : fst0 ks ws es = some i := by
              unfold fst0
              rw [List.findIdx?_eq_some_iff_getElem]
              obtain ⟨hi, he'⟩ := List.getElem?_eq_some_iff.mp he
              refine ⟨hi, by rw [he']; exact c, fun j hj => ?_⟩
              rw [hn j hj _ (List.getElem?_eq_getElem (by omega))]
              exact Bool.false_ne_true
            rw [e2] at k
            exact k
          | false =>
            refine ⟨fun j hj x hx => ?_, .dat (.int (i : Nat)), .dat (encE ks e), rfl, rfl⟩
            by_cases z : j = i
            · subst z
              rw [he] at hx
              cases hx
              exact c
            · exact hn j (by omega) x hx
    · rintro ρ ⟨hn, s1, s2, hf, rfl⟩
      rw [enD_len, List.length_map] at hn
      refine ⟨?_, ?_⟩
      · show none :: none :: none :: frzs [s1, s2] = _
        rw [hf]
        rfl
      · have e2 : fst0 ks ws es = none := by
          unfold fst0
          rw [List.findIdx?_eq_none_iff]
          intro x hx
          obtain ⟨j, hj⟩ := List.mem_iff_getElem?.mp hx
          exact hn j (List.getElem?_eq_some_iff.mp hj).1 x hj
        rw [e2] at k
        exact k
end
end LQ

namespace LQ
open PySem PySem.Spec PyProof.Rows L2 GuL HG DL
abbrev s_is_pair : Stmt := topS 29
theorem sc_is_pair : FnScope ["value"] ["value"] (defScope s_is_pair) := ⟨rfl, rfl, rfl, by decide +kernel, rfl, by decide +kernel, by decide +kernel⟩
abbrev n_is_pair : List Str := ["value"]
abbrev p_is_pair : List Str := ["value"]
abbrev s_is_keys : Stmt := topS 28
theorem sc_is_keys : FnScope ["value", "pair", "_", "width"] ["value"] (defScope s_is_keys) := ⟨rfl, rfl, rfl, by decide +kernel, rfl, by decide +kernel, by decide +kernel⟩
abbrev n_is_keys : List Str := ["value", "pair", "_", "width"]
abbrev p_is_keys : List Str := ["value"]
abbrev s_is_sought : Stmt := topS 16
theorem sc_is_sought : FnScope ["kind", "width", "value", "word", "second"] ["kind", "width", "value"] (defScope s_is_sought) := ⟨rfl, rfl, rfl, by decide +kernel, rfl, by decide +kernel, by decide +kernel⟩
abbrev n_is_sought : List Str := ["kind", "width", "value", "word", "second"]
abbrev p_is_sought : List Str := ["kind", "width", "value"]
abbrev s_are_sought : Stmt := topS 15
theorem sc_are_sought : FnScope ["pairs", "value", "kind", "width", "part"] ["pairs", "value"] (defScope s_are_sought) := ⟨rfl, rfl, rfl, by decide +kernel, rfl, by decide +kernel, by decide +kernel⟩
abbrev n_are_sought : List Str := ["pairs", "value", "kind", "width", "part"]
abbrev p_are_sought : List Str := ["pairs", "value"]
abbrev s_is_name : Stmt := topS 8
theorem sc_is_name : FnScope ["value"] ["value"] (defScope s_is_name) := ⟨rfl, rfl, rfl, by decide +kernel, rfl, by decide +kernel, by decide +kernel⟩
abbrev n_is_name : List Str := ["value"]
abbrev p_is_name : List Str := ["value"]
abbrev s_is_entry : Stmt := topS 30
theorem sc_is_entry : FnScope ["keys", "value"] ["keys", "value"] (defScope s_is_entry) := ⟨rfl, rfl, rfl, by decide +kernel, rfl, by decide +kernel, by decide +kernel⟩
abbrev n_is_entry : List Str := ["keys", "value"]
abbrev p_is_entry : List Str := ["keys", "value"]
abbrev s_check_keys : Stmt := topS 34
theorem sc_check_keys : FnScope ["keys"] ["keys"] (defScope s_check_keys) := ⟨rfl, rfl, rfl, by decide +kernel, rfl, by decide +kernel, by decide +kernel⟩
abbrev n_check_keys : List Str := ["keys"]
abbrev p_check_keys : List Str := ["keys"]
abbrev s_check_entries : Stmt := topS 35
theorem sc_check_entries : FnScope ["keys", "entries", "index", "entry"] ["keys", "entries"] (defScope s_check_entries) := ⟨rfl, rfl, rfl, by decide +kernel, rfl, by decide +kernel, by decide +kernel⟩
abbrev n_check_entries : List Str := ["keys", "entries", "index", "entry"]
abbrev p_check_entries : List Str := ["keys", "entries"]
abbrev s_check_words : Stmt := topS 36
theorem sc_check_words : FnScope ["keys", "words", "index", "word"] ["keys", "words"] (defScope s_check_words) := ⟨rfl, rfl, rfl, by decide +kernel, rfl, by decide +kernel, by decide +kernel⟩
abbrev n_check_words : List Str := ["keys", "words", "index", "word"]
abbrev p_check_words : List Str := ["keys", "words"]
abbrev s_check_lookup : Stmt := topS 37
theorem sc_check_lookup : FnScope ["keys", "entries", "words"] ["keys", "entries", "words"] (defScope s_check_lookup) := ⟨rfl, rfl, rfl, by decide +kernel, rfl, by decide +kernel, by decide +kernel⟩
abbrev n_check_lookup : List Str := ["keys", "entries", "words"]
abbrev p_check_lookup : List Str := ["keys", "entries", "words"]
abbrev s_hit_by : Stmt := topS 32
theorem sc_hit_by : FnScope ["keys", "entries", "words"] ["keys", "entries", "words"] (defScope s_hit_by) := ⟨rfl, rfl, rfl, by decide +kernel, rfl, by decide +kernel, by decide +kernel⟩
abbrev n_hit_by : List Str := ["keys", "entries", "words"]
abbrev p_hit_by : List Str := ["keys", "entries", "words"]
abbrev s_told_by : Stmt := topS 33
theorem sc_told_by : FnScope ["keys", "entries", "words", "index"] ["keys", "entries", "words"] (defScope s_told_by) := ⟨rfl, rfl, rfl, by decide +kernel, rfl, by decide +kernel, by decide +kernel⟩
abbrev n_told_by : List Str := ["keys", "entries", "words", "index"]
abbrev p_told_by : List Str := ["keys", "entries", "words"]
abbrev s_are_args : Stmt := topS 31
theorem sc_are_args : FnScope ["value", "word"] ["value"] (defScope s_are_args) := ⟨rfl, rfl, rfl, by decide +kernel, rfl, by decide +kernel, by decide +kernel⟩
abbrev n_are_args : List Str := ["value", "word"]
abbrev p_are_args : List Str := ["value"]

def kindsS : List Str := ["exact", "prefix", "mask", "range"]
def acts : List Str := ["send", "drop", "a", "b_2"]
/-- the program's constants -/
structure CstQ (K : PySem.W.Frag) (w : World) (mg : Str → Option Value) : Prop where
  kinds : ∃ v, (∃ u, mg "KINDS" = some u ∧ RelV v u) ∧ ∀ b H, Dt K b H v (.tuple (kindsS.map .str))
  mkk : ∃ v, (∃ u, mg "MOST_KEYS" = some u ∧ RelV v u) ∧ ∀ b H, Dt K b H v (.int 3)
  mkb : ∃ v, (∃ u, mg "MOST_KEY_BITS" = some u ∧ RelV v u) ∧ ∀ b H, Dt K b H v (.int 48)
  me : ∃ v, (∃ u, mg "MOST_ENTRIES" = some u ∧ RelV v u) ∧ ∀ b H, Dt K b H v (.int 32)
  ww : ∃ v, (∃ u, mg "WORD_WIDTH" = some u ∧ RelV v u) ∧ ∀ b H, Dt K b H v (.int 32)
  ma : ∃ v, (∃ u, mg "MOST_ARGS" = some u ∧ RelV v u) ∧ ∀ b H, Dt K b H v (.int 4)
  letters : ∃ u, mg "LETTERS" = some u ∧ RelV (.str (Str.ofString "abcdefghijklmnopqrstuvwxyz")) u
  signs : ∃ u, mg "NAME_SIGNS" = some u ∧ RelV (.str (Str.ofString "abcdefghijklmnopqrstuvwxyz0123456789_")) u
  kept : ∃ a es n, mg "KEPT_WORDS" = some (.ref a) ∧ KDict K w a es n ∧ ∀ z ∈ acts, PySem.W.nsIn K a z = some none
structure EnOk (ks : List Ky) (e : En) : Prop where
  ps : PsOk ks e.ps
  act : e.act ∈ acts
  len : e.args.length ≤ 4
  arg : ∀ a ∈ e.args, a < 2 ^ 32
theorem pe_gc {X : Cx} {x : Str} {v : V} {pos : Pos} (hg : Gl X x) (h : ∃ u, X.mg x = some u ∧ RelV v u) (hd : (x == ("__debug__" : Str)) = false := by decide) : PE X (.Name x pos) (tC v) := by
  obtain ⟨u, hm, r⟩ := h
  exact pe_glob hg hm r hd
theorem isRow_ok {xs : List PyData} {a b : Int} (h1 : a ≤ xs.length) (h2 : (xs.length : Int) ≤ b) : isRow (.tuple xs) a b = true := by
  show (decide (a ≤ (xs.length : Int)) && decide ((xs.length : Int) ≤ b)) = true
  rw [decide_eq_true h1, decide_eq_true h2]
  rfl
theorem kd_in (k : Kd) : (kindsS.map PyData.str).any (isS k.s) = true := by cases k <;> decide
section
variable {P : Program} {w : World} {K : PySem.W.Frag} {mg : Str → Option Value} {base : Heap}
/-! ### keys -/
def fPair : DF := fun ds Q => ∃ k : Ky, ds = [encK k] ∧ 1 ≤ k.2 ∧ k.2 ≤ 32 ∧ Q (.bool true)
theorem moPair : MoF fPair := fun _ _ _ m ⟨k, e, a, b, q⟩ => ⟨k, e, a, b, m _ q⟩
theorem ok_pair {f fR fT fN : Addr} {fd dR dT dN : FuncData} (F : Fun K "is_pair" "is_pair" s_is_pair f fd) (C : CstQ K w mg) (KR : DK P w K mg base 1 "is_row" s_is_row p_is_row (spP K fRow) fR dR) (KT : DK P w K mg base 1 "is_text_of" s_is_text_of p_is_text_of (spP K fTextOf) fT dT) (KN : DK P w K mg base 1 "is_number" s_is_number p_is_number (spP K fNumber) fN dN) : FnG P w K mg base CX0 2 f fd p_is_pair (spP K fPair) := by
  refine fnP F sc_is_pair moPair (fun ds Q h => ?_) (fun cdv A outer s H E b hA hr => ⟨_, (dss_one (ds_ret (de_andV (de_call KR.G moRow hA (hr.mono (by decide)) (by rfl) KR.g KR.F.kp KR.b pass0 (da_cons (de_v (pv 0)) (da_cons de_int (da_cons de_int da_nil)))) (de_andV (de_call KT.G moTextOf hA (hr.mono (by decide)) (by rfl) KT.g KT.F.kp KT.b pass0 (da_cons (de_ix (de_v (pv 0)) de_int (fun _ _ => rfl)) (da_cons (de_g C.kinds (by rfl)) da_nil))) (de_one (de_call KN.G moNumber hA (hr.mono (by decide)) (by rfl) KN.g KN.F.kp KN.b pass0 (da_cons (de_ix (de_v (pv 0)) de_int (fun _ _ => rfl)) (da_cons de_int (da_cons (de_g C.ww (by rfl)) da_nil))))))))), fun ds Q h => ?_⟩)
  · obtain ⟨k, rfl, _⟩ := h
    rfl
  · obtain ⟨⟨kd, wd⟩, rfl, h1, h2, k⟩ := h
    have h1 : 1 ≤ wd := h1
    have h2 : wd ≤ 32 := h2
    simp only [tn0, tn1, tn2, tn3, tn4, tn5, bT, bs, b1, DL.wp, sRet, sRetN, sRetO, sSeq, sIf, sSet, sNew, sMov, sDo, sApp, sExt, sUnp, sPar, sParN, sNext, setAll, dAnd, dOr, dNot, dIf, dIsi, dv, dC, dOp, cI0, cII, gII, cSc, eSc, chI, chI3, dB, dtAnd, dtOr, dtNot, bw1, dCall, dCallJ, nCall, dCB, aCons, aNil, dTup, nLst, dNew, gLen, cLen, gTu, cTu, c2I, g2I, c1I, g1I, itm, cIx, gSl, oNo, oPt, dAll, dSum, dRepr, gCat, cCat, cInS, gInS, isN, ini, List.map, List.length, List.replicate, List.append, List.cons_append, List.nil_append, List.append_nil, List.getElem?_cons_zero, List.getElem?_cons_succ, List.set_cons_zero, List.set_cons_succ, List.length_cons, List.length_nil, Option.getD_some, true_and, and_true, if_true, if_false, isT_int_int, isT_bool_int, isT_tuple_tuple, isT_str_str, Bool.not_false, Bool.not_true, false_implies, List.length_map, Bool.false_eq_true, Bool.true_eq_false, encK]
    refine ⟨_, 2, 2, rfl, ?_⟩
    rw [isRow_ok (by simp) (by simp)]
    simp only [tn0, tn1, tn2, tn3, tn4, tn5, bT, bs, b1, DL.wp, sRet, sRetN, sRetO, sSeq, sIf, sSet, sNew, sMov, sDo, sApp, sExt, sUnp, sPar, sParN, sNext, setAll, dAnd, dOr, dNot, dIf, dIsi, dv, dC, dOp, cI0, cII, gII, cSc, eSc, chI, chI3, dB, dtAnd, dtOr, dtNot, bw1, dCall, dCallJ, nCall, dCB, aCons, aNil, dTup, nLst, dNew, gLen, cLen, gTu, cTu, c2I, g2I, c1I, g1I, itm, cIx, gSl, oNo, oPt, dAll, dSum, dRepr, gCat, cCat, cInS, gInS, isN, ini, List.map, List.length, List.replicate, List.append, List.cons_append, List.nil_append, List.append_nil, List.getElem?_cons_zero, List.getElem?_cons_succ, List.set_cons_zero, List.set_cons_succ, List.length_cons, List.length_nil, Option.getD_some, true_and, and_true, if_true, if_false, isT_int_int, isT_bool_int, isT_tuple_tuple, isT_str_str, Bool.not_false, Bool.not_true, false_implies, List.length_map, Bool.false_eq_true, Bool.true_eq_false]
    refine ⟨⟨by omega, by omega⟩, kd.s, kindsS, rfl, ?_⟩
    rw [kd_in]
    simp only [tn0, tn1, tn2, tn3, tn4, tn5, bT, bs, b1, DL.wp, sRet, sRetN, sRetO, sSeq, sIf, sSet, sNew, sMov, sDo, sApp, sExt, sUnp, sPar, sParN, sNext, setAll, dAnd, dOr, dNot, dIf, dIsi, dv, dC, dOp, cI0, cII, gII, cSc, eSc, chI, chI3, dB, dtAnd, dtOr, dtNot, bw1, dCall, dCallJ, nCall, dCB, aCons, aNil, dTup, nLst, dNew, gLen, cLen, gTu, cTu, c2I, g2I, c1I, g1I, itm, cIx, gSl, oNo, oPt, dAll, dSum, dRepr, gCat, cCat, cInS, gInS, isN, ini, List.map, List.length, List.replicate, List.append, List.cons_append, List.nil_append, List.append_nil, List.getElem?_cons_zero, List.getElem?_cons_succ, List.set_cons_zero, List.set_cons_succ, List.length_cons, List.length_nil, Option.getD_some, true_and, and_true, if_true, if_false, isT_int_int, isT_bool_int, isT_tuple_tuple, isT_str_str, Bool.not_false, Bool.not_true, false_implies, List.length_map, Bool.false_eq_true, Bool.true_eq_false]
    refine ⟨⟨by omega, by omega⟩, (wd : Int), 1, 32, rfl, ?_⟩
    have e : (decide ((1 : Int) ≤ (wd : Int)) && decide ((wd : Int) ≤ 32)) = true := by
      rw [decide_eq_true (by omega), decide_eq_true (by omega)]
      rfl
    rw [e]
    exact k
def sumW (ks : List Ky) : Nat := (ks.map (·.2)).sum
def fKeys : DF := fun ds Q => ∃ ks : List Ky, ds = [encKs ks] ∧ KsOk ks ∧ 1 ≤ ks.length ∧ ks.length ≤ 3 ∧ sumW ks ≤ 48 ∧ Q (.bool true)
theorem moKeys : MoF fKeys := fun _ _ _ m ⟨k, e, a, b, c, d, q⟩ => ⟨k, e, a, b, c, d, m _ q⟩
theorem sum_int : ∀ (l : List Nat), (l.map fun n => ((n : Nat) : Int)).sum = ((l.sum : Nat) : Int)
  | [] => rfl
  | a :: l => by
    rw [List.map_cons, List.sum_cons, List.sum_cons, sum_int l]
    omega
theorem ok_keys {f fR fP : Addr} {fd dR dP : FuncData} (F : Fun K "is_keys" "is_keys" s_is_keys f fd) (B : Blt mg) (C : CstQ K w mg) (KR : DK P w K mg base 1 "is_row" s_is_row p_is_row (spP K fRow) fR dR) (KP : DK P w K mg base 2 "is_pair" s_is_pair p_is_pair (spP K fPair) fP dP) : FnG P w K mg base CX0 3 f fd p_is_keys (spP K fKeys) := by
  refine fnP F sc_is_keys moKeys (fun ds Q h => ?_) (fun cdv A outer s H E b hA hr => ⟨_, (dss_cons (ds_if (DW.dt (dw_or (dt_not (dt_val (de_call KR.G moRow hA (hr.mono (by decide)) (by rfl) KR.g KR.F.kp KR.b pass0 (da_cons (de_v (pv 0)) (da_cons de_int (da_cons (de_g C.mkk (by rfl)) da_nil)))))) (dw_or1 (dt_not (dt_val (de_all rfl (by rfl) B.all (de_new (dn_lc rfl sc_is_keys.nd (own := [("pair", 1)]) (p := (.one (.n 1))) (di_tup (de_v (pv 0))) (blkOk_by (N := ["value", "pair", "_", "width"]) (sc := defScope s_is_keys) (by decide +kernel)) (by decide) (fun _ _ _ _ _ => (pg_name (i := 1) sc_is_keys.nd rfl (by first | exact Or.inl rfl | exact Or.inr rfl))) (fun _ _ _ _ _ => (de_call KP.G moPair hA (hr.mono (by decide)) (by rfl) KP.g KP.F.kp KP.b pass0 (da_cons (de_v (pv 1)) da_nil))))))))))) (dss_one (ds_ret de_bl)) dss_nil) (dss_one (ds_ret (de_le (de_sum rfl (by rfl) B.sum (de_new (dn_lc rfl sc_is_keys.nd (own := [("_", 2), ("width", 3)]) (p := (.one (.t [2, 3]))) (di_tup (de_v (pv 0))) (blkOk_by (N := ["value", "pair", "_", "width"]) (sc := defScope s_is_keys) (by decide +kernel)) (by decide) (fun _ _ _ _ _ => (pg_tup rfl (pgs_cons (pg_name (i := 2) sc_is_keys.nd rfl (by first | exact Or.inl rfl | exact Or.inr rfl)) (pgs_cons (pg_name (i := 3) sc_is_keys.nd rfl (by first | exact Or.inl rfl | exact Or.inr rfl)) pgs_nil)))) (fun _ _ _ _ _ => (de_v (pv 3)))))) (de_g C.mkb (by rfl)))))), fun ds Q h => ?_⟩)
  · obtain ⟨k, rfl, _⟩ := h
    rfl
  · obtain ⟨ks, rfl, h0, h1, h2, h3, k⟩ := h
    simp only [tn0, tn1, tn2, tn3, tn4, tn5, bT, bs, b1, DL.wp, sRet, sRetN, sRetO, sSeq, sIf, sSet, sNew, sMov, sDo, sApp, sExt, sUnp, sPar, sParN, sNext, setAll, dAnd, dOr, dNot, dIf, dIsi, dv, dC, dOp, cI0, cII, gII, cSc, eSc, chI, chI3, dB, dtAnd, dtOr, dtNot, bw1, dCall, dCallJ, nCall, dCB, aCons, aNil, dTup, nLst, dNew, gLen, cLen, gTu, cTu, c2I, g2I, c1I, g1I, itm, cIx, gSl, oNo, oPt, dAll, dSum, dRepr, gCat, cCat, cInS, gInS, isN, ini, List.map, List.length, List.replicate, List.append, List.cons_append, List.nil_append, List.append_nil, List.getElem?_cons_zero, List.getElem?_cons_succ, List.set_cons_zero, List.set_cons_succ, List.length_cons, List.length_nil, Option.getD_some, true_and, and_true, if_true, if_false, isT_int_int, isT_bool_int, isT_tuple_tuple, isT_str_str, Bool.not_false, Bool.not_true, false_implies, List.length_map, Bool.false_eq_true, Bool.true_eq_false, encKs]
    refine ⟨_, 1, 3, rfl, ?_⟩
    rw [isRow_ok (by rw [List.length_map]; omega) (by rw [List.length_map]; omega)]
    simp only [tn0, tn1, tn2, tn3, tn4, tn5, bT, bs, b1, DL.wp, sRet, sRetN, sRetO, sSeq, sIf, sSet, sNew, sMov, sDo, sApp, sExt, sUnp, sPar, sParN, sNext, setAll, dAnd, dOr, dNot, dIf, dIsi, dv, dC, dOp, cI0, cII, gII, cSc, eSc, chI, chI3, dB, dtAnd, dtOr, dtNot, bw1, dCall, dCallJ, nCall, dCB, aCons, aNil, dTup, nLst, dNew, gLen, cLen, gTu, cTu, c2I, g2I, c1I, g1I, itm, cIx, gSl, oNo, oPt, dAll, dSum, dRepr, gCat, cCat, cInS, gInS, isN, ini, List.map, List.length, List.replicate, List.append, List.cons_append, List.nil_append, List.append_nil, List.getElem?_cons_zero, List.getElem?_cons_succ, List.set_cons_zero, List.set_cons_succ, List.length_cons, List.length_nil, Option.getD_some, true_and, and_true, if_true, if_false, isT_int_int, isT_bool_int, isT_tuple_tuple, isT_str_str, Bool.not_false, Bool.not_true, false_implies, List.length_map, Bool.false_eq_true, Bool.true_eq_false, nLc, tupI]
    refine ⟨by omega, fun i e => e = .bool true, fun i d hd => ?_, fun es e1 e2 => ?_⟩
    · rw [List.getElem?_map] at hd
      cases hk : ks[i]? with
      | none => rw [hk] at hd; cases hd
      | some ky =>
        rw [hk] at hd
        cases hd
        have q := h0 ky (List.mem_of_getElem? hk)
        exact ⟨noL_encK _, ky, rfl, q.1, q.2, .bl _, rfl⟩
    · have e3 : es = (List.replicate ks.length true).map PyData.bool := by
        rw [List.map_replicate]
        exact List.eq_replicate_iff.mpr ⟨e1, fun x hx => by obtain ⟨i, hi⟩ := List.mem_iff_getElem?.mp hx; exact e2 i x hi⟩
      refine ⟨_, by rw [e3], ?_⟩
      rw [all_true]
      simp only [tn0, tn1, tn2, tn3, tn4, tn5, bT, bs, b1, DL.wp, sRet, sRetN, sRetO, sSeq, sIf, sSet, sNew, sMov, sDo, sApp, sExt, sUnp, sPar, sParN, sNext, setAll, dAnd, dOr, dNot, dIf, dIsi, dv, dC, dOp, cI0, cII, gII, cSc, eSc, chI, chI3, dB, dtAnd, dtOr, dtNot, bw1, dCall, dCallJ, nCall, dCB, aCons, aNil, dTup, nLst, dNew, gLen, cLen, gTu, cTu, c2I, g2I, c1I, g1I, itm, cIx, gSl, oNo, oPt, dAll, dSum, dRepr, gCat, cCat, cInS, gInS, isN, ini, List.map, List.length, List.replicate, List.append, List.cons_append, List.nil_append, List.append_nil, List.getElem?_cons_zero, List.getElem?_cons_succ, List.set_cons_zero, List.set_cons_succ, List.length_cons, List.length_nil, Option.getD_some, true_and, and_true, if_true, if_false, isT_int_int, isT_bool_int, isT_tuple_tuple, isT_str_str, Bool.not_false, Bool.not_true, false_implies, List.length_map, Bool.false_eq_true, Bool.true_eq_false]
      refine ⟨by omega, fun i e => ((ks.map fun k => PyData.int (k.2 : Nat)))[i]? = some e, fun i d hd => ?_, fun es e1 e2 => ?_⟩
      · rw [List.getElem?_map] at hd
        cases hk : ks[i]? with
        | none => rw [hk] at hd; cases hd
        | some ky =>
          rw [hk] at hd
          cases hd
          simp only [tn0, tn1, tn2, tn3, tn4, tn5, bT, bs, b1, DL.wp, sRet, sRetN, sRetO, sSeq, sIf, sSet, sNew, sMov, sDo, sApp, sExt, sUnp, sPar, sParN, sNext, setAll, dAnd, dOr, dNot, dIf, dIsi, dv, dC, dOp, cI0, cII, gII, cSc, eSc, chI, chI3, dB, dtAnd, dtOr, dtNot, bw1, dCall, dCallJ, nCall, dCB, aCons, aNil, dTup, nLst, dNew, gLen, cLen, gTu, cTu, c2I, g2I, c1I, g1I, itm, cIx, gSl, oNo, oPt, dAll, dSum, dRepr, gCat, cCat, cInS, gInS, isN, ini, List.map, List.length, List.replicate, List.append, List.cons_append, List.nil_append, List.append_nil, List.getElem?_cons_zero, List.getElem?_cons_succ, List.set_cons_zero, List.set_cons_succ, List.length_cons, List.length_nil, Option.getD_some, true_and, and_true, if_true, if_false, isT_int_int, isT_bool_int, isT_tuple_tuple, isT_str_str, Bool.not_false, Bool.not_true, false_implies, List.length_map, Bool.false_eq_true, Bool.true_eq_false, encK]
          refine ⟨?_, .int _, by rw [List.getElem?_map, hk]; rfl⟩
          intro d hd
          simp only [List.mem_cons, List.not_mem_nil, or_false] at hd
          rcases hd with rfl | rfl
          · exact .str _
          · exact .int _
      · have e3 := row_ext e1 (by rw [List.length_map]) e2
        refine ⟨(ks.map (·.2)).map fun n => ((n : Nat) : Int), by rw [e3, List.map_map, List.map_map]; rfl, ?_⟩
        rw [sum_int]
        have e4 : decide (((ks.map (·.2)).sum : Nat) ≤ (48 : Int)) = true := decide_eq_true (by have : (ks.map (·.2)).sum ≤ 48 := h3; omega)
        rw [e4]
        exact k
/-! ### what entries seek -/
def fSought : DF := fun ds Q => ∃ (k : Ky) (p : Pa), ds = [.str k.1.s, .int (k.2 : Nat), encP k.1 p] ∧ PaOk k p ∧ k.2 ≤ 32 ∧ Q (.bool true)
theorem moSought : MoF fSought := fun _ _ _ m ⟨k, p, e, a, b, q⟩ => ⟨k, p, e, a, b, m _ q⟩
theorem word_ok {x n : Nat} (h : x < 2 ^ n) : (decide ((0 : Int) ≤ (x : Int)) && decide ((x : Int) < 2 ^ n)) = true := by
  have h' : (x : Int) < ((2 ^ n : Nat) : Int) := by omega
  rw [decide_eq_true (by omega), decide_eq_true (by simpa using h')]
  rfl
theorem num_ok {x a b : Int} (h1 : a ≤ x) (h2 : x ≤ b) : (decide (a ≤ x) && decide (x ≤ b)) = true := by
  rw [decide_eq_true h1, decide_eq_true h2]
  rfl
theorem noL2 {a b : PyData} (ha : NoL a) (hb : NoL b) : ∀ d ∈ [a, b], NoL d := fun d hd => by
  simp only [List.mem_cons, List.not_mem_nil, or_false] at hd
  rcases hd with rfl | rfl <;> assumption
theorem and_le {x y w : Nat} (h : x &&& y = x) (hy : y < 2 ^ w) : x ≤ y := by
  rw [← h]
  exact Nat.and_le_right
theorem lt_pow {y w : Nat} (h : y < 2 ^ w) : (y : Int) < 1 * 2 ^ (w : Int).toNat := by
  rw [Int.one_mul, Int.toNat_natCast]
  exact_mod_cast h
theorem ok_sought {f fW : Addr} {fd dW : FuncData} (F : Fun K "is_sought" "is_sought" s_is_sought f fd) (B : Blt mg) (KW : DK P w K mg base 2 "is_word" s_is_word p_is_word (spP K fWord) fW dW) : FnG P w K mg base CX0 3 f fd p_is_sought (spP K fSought) := by
  refine fnP F sc_is_sought moSought (fun ds Q h => ?_) (fun cdv A outer s H E b hA hr => ⟨_, (dss_cons (ds_if (dt_eq (de_v (pv 0)) de_str) (dss_one (ds_ret (de_call KW.G moWord hA (hr.mono (by decide)) (by rfl) KW.g KW.F.kp KW.b pass0 (da_cons (de_v (pv 2)) (da_cons (de_v (pv 1)) da_nil))))) dss_nil) (dss_cons (ds_if (DW.dt (dw_or (dt_not (dt_val (de_isi (by rfl) B.isi (pe_bltn (v := .ty "tuple") (by rfl) B.tuple (by decide +kernel) rfl) kit_tuple (de_v (pv 2))))) (dw_or1 (dt_ne (de_len (by rfl) B.len (da_cons (de_v (pv 2)) da_nil)) de_int)))) (dss_one (ds_ret de_bl)) dss_nil) (dss_cons (ds_unp (is := [3, 4]) (de_v (pv 2)) (pg_tup rfl (pgs_cons (pg_name (i := 3) sc_is_sought.nd rfl (by first | exact Or.inl rfl | exact Or.inr rfl)) (pgs_cons (pg_name (i := 4) sc_is_sought.nd rfl (by first | exact Or.inl rfl | exact Or.inr rfl)) pgs_nil)))) (dss_cons (ds_if (DW.dt (dw_or (dt_not (dt_val (de_isi (by rfl) B.isi (pe_bltn (v := .ty "int") (by rfl) B.int (by decide +kernel) rfl) kit_int (de_v (pv 3))))) (dw_or (dt_not (dt_val (de_isi (by rfl) B.isi (pe_bltn (v := .ty "int") (by rfl) B.int (by decide +kernel) rfl) kit_int (de_v (pv 4))))) (dw_or (dt_val (de_isi (by rfl) B.isi (pe_bltn (v := .ty "bool") (by rfl) B.bool (by decide +kernel) rfl) kit_bool (de_v (pv 3)))) (dw_or1 (dt_val (de_isi (by rfl) B.isi (pe_bltn (v := .ty "bool") (by rfl) B.bool (by decide +kernel) rfl) kit_bool (de_v (pv 4))))))))) (dss_one (ds_ret de_bl)) dss_nil) (dss_cons (ds_if (dt_eq (de_v (pv 0)) de_str) (dss_one (ds_ret (de_andV (de_ch op_le op_lt de_int (de_v (pv 3)) (de_shl de_int (de_v (pv 1)))) (de_andV (de_lele de_int (de_v (pv 4)) (de_v (pv 1))) (de_one (de_eq (de_and (de_v (pv 3)) (de_sub (de_shl de_int (de_sub (de_v (pv 1)) (de_v (pv 4)))) de_int)) de_int)))))) dss_nil) (dss_one (ds_ret (de_andV (de_ch3 op_le op_le op_lt de_int (de_v (pv 3)) (de_v (pv 4)) (de_shl de_int (de_v (pv 1)))) (de_one (de_orV (de_eq (de_v (pv 0)) de_str) (de_one (de_eq (de_and (de_v (pv 3)) (de_v (pv 4))) (de_v (pv 3)))))))))))))), fun ds Q h => ?_⟩)
  · obtain ⟨k, p, rfl, _⟩ := h
    rfl
  · obtain ⟨⟨kd, wd⟩, ⟨x, y⟩, rfl, hp, hw, k⟩ := h
    have hw : wd ≤ 32 := hw
    have x0 : (0 : Int) ≤ (x : Int) := by omega
    have y0 : (0 : Int) ≤ (y : Int) := by omega
    cases kd with
    | ex =>
      have hp : x < 2 ^ wd := hp
      simp only [tn0, tn1, tn2, tn3, tn4, tn5, bT, bs, b1, DL.wp, sRet, sRetN, sRetO, sSeq, sIf, sSet, sNew, sMov, sDo, sApp, sExt, sUnp, sPar, sParN, sNext, setAll, dAnd, dOr, dNot, dIf, dIsi, dv, dC, dOp, cI0, cII, gII, cSc, eSc, chI, chI3, dB, dtAnd, dtOr, dtNot, bw1, dCall, dCallJ, nCall, dCB, aCons, aNil, dTup, nLst, dNew, gLen, cLen, gTu, cTu, c2I, g2I, c1I, g1I, itm, cIx, gSl, oNo, oPt, dAll, dSum, dRepr, gCat, cCat, cInS, gInS, isN, ini, List.map, List.length, List.replicate, List.append, List.cons_append, List.nil_append, List.append_nil, List.getElem?_cons_zero, List.getElem?_cons_succ, List.set_cons_zero, List.set_cons_succ, List.length_cons, List.length_nil, Option.getD_some, true_and, and_true, if_true, if_false, isT_int_int, isT_bool_int, isT_tuple_tuple, isT_str_str, Bool.not_false, Bool.not_true, false_implies, List.length_map, Bool.false_eq_true, Bool.true_eq_false, encP, Kd.s, s01, s02, s03, s04, s05, s06, s07, s08, s09, s10, s11, s12, decide_false, decide_true, Bool.false_eq_true, if_false, if_true]
      refine ⟨_, wd, rfl, by omega, ?_⟩
      rw [word_ok hp]
      exact k
    | pr =>
      obtain ⟨h1, h2, h3⟩ := hp
      have h1 : x < 2 ^ wd := h1
      have h2 : y ≤ wd := h2
      have h3 : x % 2 ^ (wd - y) = 0 := h3
      simp only [tn0, tn1, tn2, tn3, tn4, tn5, bT, bs, b1, DL.wp, sRet, sRetN, sRetO, sSeq, sIf, sSet, sNew, sMov, sDo, sApp, sExt, sUnp, sPar, sParN, sNext, setAll, dAnd, dOr, dNot, dIf, dIsi, dv, dC, dOp, cI0, cII, gII, cSc, eSc, chI, chI3, dB, dtAnd, dtOr, dtNot, bw1, dCall, dCallJ, nCall, dCB, aCons, aNil, dTup, nLst, dNew, gLen, cLen, gTu, cTu, c2I, g2I, c1I, g1I, itm, cIx, gSl, oNo, oPt, dAll, dSum, dRepr, gCat, cCat, cInS, gInS, isN, ini, List.map, List.length, List.replicate, List.append, List.cons_append, List.nil_append, List.append_nil, List.getElem?_cons_zero, List.getElem?_cons_succ, List.set_cons_zero, List.set_cons_succ, List.length_cons, List.length_nil, Option.getD_some, true_and, and_true, if_true, if_false, isT_int_int, isT_bool_int, isT_tuple_tuple, isT_str_str, Bool.not_false, Bool.not_true, false_implies, List.length_map, Bool.false_eq_true, Bool.true_eq_false, encP, Kd.s, s01, s02, s03, s04, s05, s06, s07, s08, s09, s10, s11, s12, decide_false, decide_true, Bool.false_eq_true, if_false, if_true]
      refine ⟨noL2 (.int _) (.int _), ?_⟩
      simp only [tn0, tn1, tn2, tn3, tn4, tn5, bT, bs, b1, DL.wp, sRet, sRetN, sRetO, sSeq, sIf, sSet, sNew, sMov, sDo, sApp, sExt, sUnp, sPar, sParN, sNext, setAll, dAnd, dOr, dNot, dIf, dIsi, dv, dC, dOp, cI0, cII, gII, cSc, eSc, chI, chI3, dB, dtAnd, dtOr, dtNot, bw1, dCall, dCallJ, nCall, dCB, aCons, aNil, dTup, nLst, dNew, gLen, cLen, gTu, cTu, c2I, g2I, c1I, g1I, itm, cIx, gSl, oNo, oPt, dAll, dSum, dRepr, gCat, cCat, cInS, gInS, isN, ini, List.map, List.length, List.replicate, List.append, List.cons_append, List.nil_append, List.append_nil, List.getElem?_cons_zero, List.getElem?_cons_succ, List.set_cons_zero, List.set_cons_succ, List.length_cons, List.length_nil, Option.getD_some, true_and, and_true, if_true, if_false, isT_int_int, isT_bool_int, isT_tuple_tuple, isT_str_str, Bool.not_false, Bool.not_true, false_implies, List.length_map, Bool.false_eq_true, Bool.true_eq_false, encP, Kd.s, s01, s02, s03, s04, s05, s06, s07, s08, s09, s10, s11, s12, decide_false, decide_true, Bool.false_eq_true, if_false, if_true, decide_eq_true x0, decide_eq_true y0, decide_eq_true (lt_pow h1)]
      refine ⟨⟨by omega, by omega, by decide⟩, ?_⟩
      have e1 : decide ((y : Int) ≤ (wd : Int)) = true := decide_eq_true (by omega)
      simp only [tn0, tn1, tn2, tn3, tn4, tn5, bT, bs, b1, DL.wp, sRet, sRetN, sRetO, sSeq, sIf, sSet, sNew, sMov, sDo, sApp, sExt, sUnp, sPar, sParN, sNext, setAll, dAnd, dOr, dNot, dIf, dIsi, dv, dC, dOp, cI0, cII, gII, cSc, eSc, chI, chI3, dB, dtAnd, dtOr, dtNot, bw1, dCall, dCallJ, nCall, dCB, aCons, aNil, dTup, nLst, dNew, gLen, cLen, gTu, cTu, c2I, g2I, c1I, g1I, itm, cIx, gSl, oNo, oPt, dAll, dSum, dRepr, gCat, cCat, cInS, gInS, isN, ini, List.map, List.length, List.replicate, List.append, List.cons_append, List.nil_append, List.append_nil, List.getElem?_cons_zero, List.getElem?_cons_succ, List.set_cons_zero, List.set_cons_succ, List.length_cons, List.length_nil, Option.getD_some, true_and, and_true, if_true, if_false, isT_int_int, isT_bool_int, isT_tuple_tuple, isT_str_str, Bool.not_false, Bool.not_true, false_implies, List.length_map, Bool.false_eq_true, Bool.true_eq_false, e1]
      refine ⟨⟨by omega, by omega, by decide⟩, ?_⟩
      have e : ((wd : Int) - (y : Int)).toNat = wd - y := by omega
      rw [e, pow1, bAnd, Nat.and_two_pow_sub_one_eq_mod, h3]
      exact k
    | ma =>
      obtain ⟨h1, h2, h3⟩ := hp
      have h1 : x < 2 ^ wd := h1
      have h2 : y < 2 ^ wd := h2
      have h3 : x &&& y = x := h3
      have xy : decide ((x : Int) ≤ (y : Int)) = true := decide_eq_true (by have := and_le h3 h2; omega)
      simp only [tn0, tn1, tn2, tn3, tn4, tn5, bT, bs, b1, DL.wp, sRet, sRetN, sRetO, sSeq, sIf, sSet, sNew, sMov, sDo, sApp, sExt, sUnp, sPar, sParN, sNext, setAll, dAnd, dOr, dNot, dIf, dIsi, dv, dC, dOp, cI0, cII, gII, cSc, eSc, chI, chI3, dB, dtAnd, dtOr, dtNot, bw1, dCall, dCallJ, nCall, dCB, aCons, aNil, dTup, nLst, dNew, gLen, cLen, gTu, cTu, c2I, g2I, c1I, g1I, itm, cIx, gSl, oNo, oPt, dAll, dSum, dRepr, gCat, cCat, cInS, gInS, isN, ini, List.map, List.length, List.replicate, List.append, List.cons_append, List.nil_append, List.append_nil, List.getElem?_cons_zero, List.getElem?_cons_succ, List.set_cons_zero, List.set_cons_succ, List.length_cons, List.length_nil, Option.getD_some, true_and, and_true, if_true, if_false, isT_int_int, isT_bool_int, isT_tuple_tuple, isT_str_str, Bool.not_false, Bool.not_true, false_implies, List.length_map, Bool.false_eq_true, Bool.true_eq_false, encP, Kd.s, s01, s02, s03, s04, s05, s06, s07, s08, s09, s10, s11, s12, decide_false, decide_true, Bool.false_eq_true, if_false, if_true]
      refine ⟨noL2 (.int _) (.int _), ?_⟩
      simp only [tn0, tn1, tn2, tn3, tn4, tn5, bT, bs, b1, DL.wp, sRet, sRetN, sRetO, sSeq, sIf, sSet, sNew, sMov, sDo, sApp, sExt, sUnp, sPar, sParN, sNext, setAll, dAnd, dOr, dNot, dIf, dIsi, dv, dC, dOp, cI0, cII, gII, cSc, eSc, chI, chI3, dB, dtAnd, dtOr, dtNot, bw1, dCall, dCallJ, nCall, dCB, aCons, aNil, dTup, nLst, dNew, gLen, cLen, gTu, cTu, c2I, g2I, c1I, g1I, itm, cIx, gSl, oNo, oPt, dAll, dSum, dRepr, gCat, cCat, cInS, gInS, isN, ini, List.map, List.length, List.replicate, List.append, List.cons_append, List.nil_append, List.append_nil, List.getElem?_cons_zero, List.getElem?_cons_succ, List.set_cons_zero, List.set_cons_succ, List.length_cons, List.length_nil, Option.getD_some, true_and, and_true, if_true, if_false, isT_int_int, isT_bool_int, isT_tuple_tuple, isT_str_str, Bool.not_false, Bool.not_true, false_implies, List.length_map, Bool.false_eq_true, Bool.true_eq_false, encP, Kd.s, s01, s02, s03, s04, s05, s06, s07, s08, s09, s10, s11, s12, decide_false, decide_true, Bool.false_eq_true, if_false, if_true, decide_eq_true x0, xy]
      refine ⟨⟨by omega, by omega, by decide⟩, ?_⟩
      simp only [tn0, tn1, tn2, tn3, tn4, tn5, bT, bs, b1, DL.wp, sRet, sRetN, sRetO, sSeq, sIf, sSet, sNew, sMov, sDo, sApp, sExt, sUnp, sPar, sParN, sNext, setAll, dAnd, dOr, dNot, dIf, dIsi, dv, dC, dOp, cI0, cII, gII, cSc, eSc, chI, chI3, dB, dtAnd, dtOr, dtNot, bw1, dCall, dCallJ, nCall, dCB, aCons, aNil, dTup, nLst, dNew, gLen, cLen, gTu, cTu, c2I, g2I, c1I, g1I, itm, cIx, gSl, oNo, oPt, dAll, dSum, dRepr, gCat, cCat, cInS, gInS, isN, ini, List.map, List.length, List.replicate, List.append, List.cons_append, List.nil_append, List.append_nil, List.getElem?_cons_zero, List.getElem?_cons_succ, List.set_cons_zero, List.set_cons_succ, List.length_cons, List.length_nil, Option.getD_some, true_and, and_true, if_true, if_false, isT_int_int, isT_bool_int, isT_tuple_tuple, isT_str_str, Bool.not_false, Bool.not_true, false_implies, List.length_map, Bool.false_eq_true, Bool.true_eq_false, decide_eq_true (lt_pow h2)]
      rw [bAnd, h3]
      simpa using k
    | ra =>
      obtain ⟨h1, h2⟩ := hp
      have h1 : x ≤ y := h1
      have h2 : y < 2 ^ wd := h2
      have xy : decide ((x : Int) ≤ (y : Int)) = true := decide_eq_true (by omega)
      simp only [tn0, tn1, tn2, tn3, tn4, tn5, bT, bs, b1, DL.wp, sRet, sRetN, sRetO, sSeq, sIf, sSet, sNew, sMov, sDo, sApp, sExt, sUnp, sPar, sParN, sNext, setAll, dAnd, dOr, dNot, dIf, dIsi, dv, dC, dOp, cI0, cII, gII, cSc, eSc, chI, chI3, dB, dtAnd, dtOr, dtNot, bw1, dCall, dCallJ, nCall, dCB, aCons, aNil, dTup, nLst, dNew, gLen, cLen, gTu, cTu, c2I, g2I, c1I, g1I, itm, cIx, gSl, oNo, oPt, dAll, dSum, dRepr, gCat, cCat, cInS, gInS, isN, ini, List.map, List.length, List.replicate, List.append, List.cons_append, List.nil_append, List.append_nil, List.getElem?_cons_zero, List.getElem?_cons_succ, List.set_cons_zero, List.set_cons_succ, List.length_cons, List.length_nil, Option.getD_some, true_and, and_true, if_true, if_false, isT_int_int, isT_bool_int, isT_tuple_tuple, isT_str_str, Bool.not_false, Bool.not_true, false_implies, List.length_map, Bool.false_eq_true, Bool.true_eq_false, encP, Kd.s, s01, s02, s03, s04, s05, s06, s07, s08, s09, s10, s11, s12, decide_false, decide_true, Bool.false_eq_true, if_false, if_true]
      refine ⟨noL2 (.int _) (.int _), ?_⟩
      simp only [tn0, tn1, tn2, tn3, tn4, tn5, bT, bs, b1, DL.wp, sRet, sRetN, sRetO, sSeq, sIf, sSet, sNew, sMov, sDo, sApp, sExt, sUnp, sPar, sParN, sNext, setAll, dAnd, dOr, dNot, dIf, dIsi, dv, dC, dOp, cI0, cII, gII, cSc, eSc, chI, chI3, dB, dtAnd, dtOr, dtNot, bw1, dCall, dCallJ, nCall, dCB, aCons, aNil, dTup, nLst, dNew, gLen, cLen, gTu, cTu, c2I, g2I, c1I, g1I, itm, cIx, gSl, oNo, oPt, dAll, dSum, dRepr, gCat, cCat, cInS, gInS, isN, ini, List.map, List.length, List.replicate, List.append, List.cons_append, List.nil_append, List.append_nil, List.getElem?_cons_zero, List.getElem?_cons_succ, List.set_cons_zero, List.set_cons_succ, List.length_cons, List.length_nil, Option.getD_some, true_and, and_true, if_true, if_false, isT_int_int, isT_bool_int, isT_tuple_tuple, isT_str_str, Bool.not_false, Bool.not_true, false_implies, List.length_map, Bool.false_eq_true, Bool.true_eq_false, encP, Kd.s, s01, s02, s03, s04, s05, s06, s07, s08, s09, s10, s11, s12, decide_false, decide_true, Bool.false_eq_true, if_false, if_true, decide_eq_true x0, xy]
      refine ⟨⟨by omega, by omega, by decide⟩, ?_⟩
      simp only [tn0, tn1, tn2, tn3, tn4, tn5, bT, bs, b1, DL.wp, sRet, sRetN, sRetO, sSeq, sIf, sSet, sNew, sMov, sDo, sApp, sExt, sUnp, sPar, sParN, sNext, setAll, dAnd, dOr, dNot, dIf, dIsi, dv, dC, dOp, cI0, cII, gII, cSc, eSc, chI, chI3, dB, dtAnd, dtOr, dtNot, bw1, dCall, dCallJ, nCall, dCB, aCons, aNil, dTup, nLst, dNew, gLen, cLen, gTu, cTu, c2I, g2I, c1I, g1I, itm, cIx, gSl, oNo, oPt, dAll, dSum, dRepr, gCat, cCat, cInS, gInS, isN, ini, List.map, List.length, List.replicate, List.append, List.cons_append, List.nil_append, List.append_nil, List.getElem?_cons_zero, List.getElem?_cons_succ, List.set_cons_zero, List.set_cons_succ, List.length_cons, List.length_nil, Option.getD_some, true_and, and_true, if_true, if_false, isT_int_int, isT_bool_int, isT_tuple_tuple, isT_str_str, Bool.not_false, Bool.not_true, false_implies, List.length_map, Bool.false_eq_true, Bool.true_eq_false, decide_eq_true (lt_pow h2)]
      exact k
def fAre : DF := fun ds Q => ∃ (ks : List Ky) (ps : List Pa), ds = [encKs ks, .tuple (encPs ks ps)] ∧ PsOk ks ps ∧ KsOk ks ∧ ks.length ≤ 3 ∧ Q (.bool true)
theorem moAre : MoF fAre := fun _ _ _ m ⟨k, p, e, a, b, c, q⟩ => ⟨k, p, e, a, b, c, m _ q⟩
theorem at2 : ∀ {ks : List Ky} {ps : List Pa} {i : Nat} {d : PyData}, PsOk ks ps → KsOk ks → (zp2 (ks.map encK) (encPs ks ps))[i]? = some d →
    ∃ k p, d = .tuple [encK k, encP k.1 p] ∧ PaOk k p ∧ k.2 ≤ 32
  | k :: ks, p :: ps, 0, d, h1, h3, e => by
    simp [zp2, encPs] at e
    exact ⟨k, p, e.symm, h1.1, (h3 k List.mem_cons_self).2⟩
  | k :: ks, p :: ps, i + 1, d, h1, h3, e => at2 (i := i) h1.2 (fun k hk => h3 k (List.mem_cons_of_mem _ hk)) (show (zp2 (ks.map encK) (encPs ks ps))[i]? = some d by simpa [zp2, encPs] using e)
  | [], [], _, _, _, _, e => by simp [zp2] at e
theorem all_rep {es : List PyData} {n : Nat} (e1 : es.length = n) (e2 : ∀ (i : Nat) x, es[i]? = some x → x = .bool true) : es = (List.replicate n true).map PyData.bool := by
  rw [List.map_replicate]
  exact List.eq_replicate_iff.mpr ⟨e1, fun x hx => by obtain ⟨i, hi⟩ := List.mem_iff_getElem?.mp hx; exact e2 i x hi⟩
theorem ok_are {f fS : Addr} {fd dS : FuncData} (F : Fun K "are_sought" "are_sought" s_are_sought f fd) (B : Blt mg) (KS : DK P w K mg base 3 "is_sought" s_is_sought p_is_sought (spP K fSought) fS dS) : FnG P w K mg base CX0 4 f fd p_are_sought (spP K fAre) := by
  refine fnP F sc_are_sought moAre (fun ds Q h => ?_) (fun cdv A outer s H E b hA hr => ⟨_, (dss_cons (ds_if (DW.dt (dw_or (dt_not (dt_val (de_isi (by rfl) B.isi (pe_bltn (v := .ty "tuple") (by rfl) B.tuple (by decide +kernel) rfl) kit_tuple (de_v (pv 1))))) (dw_or1 (dt_ne (de_len (by rfl) B.len (da_cons (de_v (pv 1)) da_nil)) (de_len (by rfl) B.len (da_cons (de_v (pv 0)) da_nil)))))) (dss_one (ds_ret de_bl)) dss_nil) (dss_cons (ds_for (p := (.row [(.t [2, 3]), (.n 4)])) PassesOwn.never rfl (di_z2 (by rfl) B.zip (da_cons (de_v (pv 0)) (da_cons (de_v (pv 1)) da_nil))) (pg_tup rfl (pgs_cons (pg_tup rfl (pgs_cons (pg_name (i := 2) sc_are_sought.nd rfl (by first | exact Or.inl rfl | exact Or.inr rfl)) (pgs_cons (pg_name (i := 3) sc_are_sought.nd rfl (by first | exact Or.inl rfl | exact Or.inr rfl)) pgs_nil))) (pgs_cons (pg_name (i := 4) sc_are_sought.nd rfl (by first | exact Or.inl rfl | exact Or.inr rfl)) pgs_nil))) (dss_one (ds_if (dt_not (dt_val (de_call KS.G moSought hA (hr.mono (by decide)) (by rfl) KS.g KS.F.kp KS.b pass0 (da_cons (de_v (pv 2)) (da_cons (de_v (pv 3)) (da_cons (de_v (pv 4)) da_nil)))))) (dss_one (ds_ret de_bl)) dss_nil))) (dss_one (ds_ret de_bl)))), fun ds Q h => ?_⟩)
  · obtain ⟨k, p, rfl, _⟩ := h
    rfl
  · obtain ⟨ks, ps, rfl, h1, h2, h3, k⟩ := h
    have l1 := encPs_len h1
    have e0 : decide (((encPs ks ps).length : Int) = (ks.length : Int)) = true := decide_eq_true (by omega)
    simp only [tn0, tn1, tn2, tn3, tn4, tn5, bT, bs, b1, DL.wp, sRet, sRetN, sRetO, sSeq, sIf, sSet, sNew, sMov, sDo, sApp, sExt, sUnp, sPar, sParN, sNext, setAll, dAnd, dOr, dNot, dIf, dIsi, dv, dC, dOp, cI0, cII, gII, cSc, eSc, chI, chI3, dB, dtAnd, dtOr, dtNot, bw1, dCall, dCallJ, nCall, dCB, aCons, aNil, dTup, nLst, dNew, gLen, cLen, gTu, cTu, c2I, g2I, c1I, g1I, itm, cIx, gSl, oNo, oPt, dAll, dSum, dRepr, gCat, cCat, cInS, gInS, isN, ini, List.map, List.length, List.replicate, List.append, List.cons_append, List.nil_append, List.append_nil, List.getElem?_cons_zero, List.getElem?_cons_succ, List.set_cons_zero, List.set_cons_succ, List.length_cons, List.length_nil, Option.getD_some, true_and, and_true, if_true, if_false, isT_int_int, isT_bool_int, isT_tuple_tuple, isT_str_str, Bool.not_false, Bool.not_true, false_implies, List.length_map, Bool.false_eq_true, Bool.true_eq_false, encKs, e0, sFor, z2I]
    refine ⟨fun _ => ⟨noL_encKs ks, noL_encPs ks ps⟩, l1.symm, fun i ρ => ∃ s1 s2 s3, frzs [s1, s2, s3] = [none, none, none] ∧ ρ = [.par (.tuple (ks.map encK)), .par (.tuple (encPs ks ps)), s1, s2, s3], ⟨.nil, .nil, .nil, rfl, rfl⟩, ?_, ?_⟩
    · rintro i d ρ hd ⟨s1, s2, s3, hf, rfl⟩
      obtain ⟨⟨kd, wd⟩, p, rfl, g1, g2⟩ := at2 h1 h2 hd
      simp only [tn0, tn1, tn2, tn3, tn4, tn5, bT, bs, b1, DL.wp, sRet, sRetN, sRetO, sSeq, sIf, sSet, sNew, sMov, sDo, sApp, sExt, sUnp, sPar, sParN, sNext, setAll, dAnd, dOr, dNot, dIf, dIsi, dv, dC, dOp, cI0, cII, gII, cSc, eSc, chI, chI3, dB, dtAnd, dtOr, dtNot, bw1, dCall, dCallJ, nCall, dCB, aCons, aNil, dTup, nLst, dNew, gLen, cLen, gTu, cTu, c2I, g2I, c1I, g1I, itm, cIx, gSl, oNo, oPt, dAll, dSum, dRepr, gCat, cCat, cInS, gInS, isN, ini, List.map, List.length, List.replicate, List.append, List.cons_append, List.nil_append, List.append_nil, List.getElem?_cons_zero, List.getElem?_cons_succ, List.set_cons_zero, List.set_cons_succ, List.length_cons, List.length_nil, Option.getD_some, true_and, and_true, if_true, if_false, isT_int_int, isT_bool_int, isT_tuple_tuple, isT_str_str, Bool.not_false, Bool.not_true, false_implies, List.length_map, Bool.false_eq_true, Bool.true_eq_false, encK]
      refine ⟨noL2 (.str _) (.int _), noL_encP _ _, (kd, wd), p, rfl, g1, g2, ?_⟩
      simp only [tn0, tn1, tn2, tn3, tn4, tn5, bT, bs, b1, DL.wp, sRet, sRetN, sRetO, sSeq, sIf, sSet, sNew, sMov, sDo, sApp, sExt, sUnp, sPar, sParN, sNext, setAll, dAnd, dOr, dNot, dIf, dIsi, dv, dC, dOp, cI0, cII, gII, cSc, eSc, chI, chI3, dB, dtAnd, dtOr, dtNot, bw1, dCall, dCallJ, nCall, dCB, aCons, aNil, dTup, nLst, dNew, gLen, cLen, gTu, cTu, c2I, g2I, c1I, g1I, itm, cIx, gSl, oNo, oPt, dAll, dSum, dRepr, gCat, cCat, cInS, gInS, isN, ini, List.map, List.length, List.replicate, List.append, List.cons_append, List.nil_append, List.append_nil, List.getElem?_cons_zero, List.getElem?_cons_succ, List.set_cons_zero, List.set_cons_succ, List.length_cons, List.length_nil, Option.getD_some, true_and, and_true, if_true, if_false, isT_int_int, isT_bool_int, isT_tuple_tuple, isT_str_str, Bool.not_false, Bool.not_true, false_implies, List.length_map, Bool.false_eq_true, Bool.true_eq_false]
      exact ⟨_, _, _, rfl, rfl⟩
    · rintro ρ ⟨s1, s2, s3, hf, rfl⟩
      refine ⟨?_, k⟩
      show none :: none :: frzs [s1, s2, s3] = _
      rw [hf]
      rfl
end
end LQ

namespace GuL
open PySem PySem.Spec PyProof.Rows L2
theorem FnG.imp9 {P : Program} {w : World} {K : PySem.W.Frag} {mg : Str → Option Value} {base : Heap} {CX : CXT} {k : Nat} {f : Addr} {fd : FuncData} {ps : List Str} {sp sp' : Sp} (F : FnG P w K mg base CX k f fd ps sp) (h : ∀ vs H Q E, sp' vs H Q E → sp vs H Q E) : FnG P w K mg base CX k f fd ps sp' :=
  ⟨fun vs H Q E q => F.len vs H Q E (h _ _ _ _ q), fun A outer s H args us vs Q E ha hr he hb hv hs => F.go A outer s H args us vs Q E ha hr he hb hv (h _ _ _ _ hs)⟩
end GuL
namespace LQ
open PySem PySem.Spec PyProof.Rows L2 GuL HG DL
section
variable {P : Program} {w : World} {K : PySem.W.Frag} {mg : Str → Option Value} {base : Heap}
/-! ### names: the four that the law knows -/
def fName : DF := fun ds Q => ∃ z : Str, ds = [.str z] ∧ z ∈ acts ∧ Q (.bool true)
theorem moName : MoF fName := fun _ _ _ m ⟨z, e, a, q⟩ => ⟨z, e, a, m _ q⟩
theorem nm_len : ∀ z ∈ acts, 0 < z.length ∧ z.length ≤ 12 := by decide +kernel
theorem nm_strip : ∀ z ∈ acts, (Txt.stripChars z (Str.ofString "abcdefghijklmnopqrstuvwxyz0123456789_")).length = 0 := by decide +kernel
theorem nm_first : ∀ z ∈ acts, ∃ c, z.cps.toList[0]? = some c ∧ c ∈ (Str.ofString "abcdefghijklmnopqrstuvwxyz").cps.toList := by
  intro z hz
  simp only [acts, List.mem_cons, List.not_mem_nil, or_false] at hz
  rcases hz with rfl | rfl | rfl | rfl <;> exact ⟨_, rfl, by decide +kernel⟩
theorem ok_name {f : Addr} {fd : FuncData} (F : Fun K "is_name" "is_name" s_is_name f fd) (B : Blt mg) (C : CstQ K w mg) : FnG P w K mg base CX0 1 f fd p_is_name (spP K fName) := by
  have old : FnOk P w K mg base CX0 1 f fd p_is_name (fun vs H Q _ => ∃ z : Str, vs = [.str z] ∧ z ∈ acts ∧ ∀ H', Same H H' → Q (.bl true) H') := by
    refine F.ok sc_is_name (fun vs H Q E h => ?_) (fun cdv A outer s H vs Q E hr h => ?_)
    · obtain ⟨z, rfl, _⟩ := h
      rfl
    · obtain ⟨z, rfl, hz, k⟩ := h
      obtain ⟨kw, es, n, gK, hK, hn⟩ := C.kept
      obtain ⟨l0, l1⟩ := nm_len z hz
      obtain ⟨c0, hc0, hcm⟩ := nm_first z hz
      refine ⟨_, pss_cons (ps_if (PW.pt (pw_or (pt_not (pt_val (pe_callB call_isi (by rfl) B.isi (by decide +kernel) (pa_cons (pv 0) (pa_cons (pe_bltn (v := .ty "str") (by rfl) B.str (by decide +kernel) rfl) pa_nil))))) (pw_or1 (pt_not (pt_chain op_lt op_le pe_int (pe_callB call_len_str (by rfl) B.len PySem.boot_len (pa_cons (pv 0) pa_nil)) pe_int))))) (pss_one (ps_ret pe_bl)) pss_nil)
        (pss_one (ps_ret (pe_and (pe_notT (pe_bm PySem.F.plainAttrs_str PySem.F.slot_str_strip PySem.F.type_str_strip mt_stripChars (pv 0) (pa_cons (pe_gc (by rfl) C.signs) pa_nil))) (pe_and (pe_cmpR op_in_sign (pe_ix ix_str (pv 0) pe_int (fun _ _ => rfl)) (pe_gc (by rfl) C.letters) (by rfl)) (pe_one (pe_cmpR (op_notIn_kd hK) (pv 0) (pe_gc (v := .ref kw) (by rfl) ⟨_, gK, rfl⟩) (by rfl))))))), ?_⟩
      refine ⟨_, rfl, .str z, .ty "str", _, _, true, rfl, .ty _, .base (.str z), kit_ty (by decide +kernel), true, rfl, iteF ?_⟩
      refine ⟨_, rfl, z, rfl, Nat.le_trans (show z.length ≤ 12 by omega) (by decide), _, _, rfl, rfl, _, rfl, ?_⟩
      rw [show decide ((0 : Int) < ((z.length : Nat) : Int)) = true from decide_eq_true (by omega)]
      refine ⟨_, _, rfl, rfl, ?_⟩
      have e12 : decide ((z.length : Int) ≤ 12) = true := decide_eq_true (by omega)
      refine ⟨true, congrArg V.bl e12, iteF ?_⟩
      refine ⟨_, rfl, rfl, _, _, rfl, rfl, Nat.le_trans (show z.length ≤ 12 by omega) (by decide), false, ⟨by rw [nm_strip z hz]; decide, by rw [nm_strip z hz]; rfl⟩, true, rfl, iteT ?_⟩
      refine ⟨_, rfl, z, 0, c0, rfl, rfl, Nat.le_trans (show z.length ≤ 12 by omega) (by decide), atI_nat (j := 0) hc0, c0, _, rfl, rfl, ?_⟩
      have e2 : decide (c0 ∈ (Str.ofString "abcdefghijklmnopqrstuvwxyz").cps.toList) = true := decide_eq_true hcm
      refine ⟨true, congrArg V.bl e2, iteT ?_⟩
      exact ⟨_, rfl, z, none, rfl, rfl, hn z hz, k _ (Same.refl _)⟩
  refine (FnG.of old).imp9 fun vs H Q E h => ?_
  obtain ⟨b, ds, _, h2, z, rfl, hz, q⟩ := h
  cases h2 with
  | cons h3 h4 =>
    cases h3
    cases h4
    exact ⟨z, rfl, hz, fun H' s => q _ H' s (.bl true)⟩
end
end LQ

namespace LQ
open PySem PySem.Spec PyProof.Rows L2 GuL HG DL
section
variable {P : Program} {w : World} {K : PySem.W.Frag} {mg : Str → Option Value} {base : Heap}
def fArgs : DF := fun ds Q => ∃ as : List Nat, ds = [.tuple (as.map fun a => .int (a : Nat))] ∧ as.length ≤ 4 ∧ (∀ a ∈ as, a < 2 ^ 32) ∧ Q (.bool true)
theorem moArgs : MoF fArgs := fun _ _ _ m ⟨k, e, a, b, q⟩ => ⟨k, e, a, b, m _ q⟩
theorem ok_args {f fR fW : Addr} {fd dR dW : FuncData} (F : Fun K "are_args" "are_args" s_are_args f fd) (B : Blt mg) (C : CstQ K w mg) (KR : DK P w K mg base 1 "is_row" s_is_row p_is_row (spP K fRow) fR dR) (KW : DK P w K mg base 2 "is_word" s_is_word p_is_word (spP K fWord) fW dW) : FnG P w K mg base CX0 3 f fd p_are_args (spP K fArgs) := by
  refine fnP F sc_are_args moArgs (fun ds Q h => ?_) (fun cdv A outer s H E b hA hr => ⟨_, (dss_one (ds_ret (de_andV (de_call KR.G moRow hA (hr.mono (by decide)) (by rfl) KR.g KR.F.kp KR.b pass0 (da_cons (de_v (pv 0)) (da_cons de_int (da_cons (de_g C.ma (by rfl)) da_nil)))) (de_one (de_all rfl (by rfl) B.all (de_new (dn_lc rfl sc_are_args.nd (own := [("word", 1)]) (p := (.one (.n 1))) (di_tup (de_v (pv 0))) (blkOk_by (N := ["value", "word"]) (sc := defScope s_are_args) (by decide +kernel)) (by decide) (fun _ _ _ _ _ => (pg_name (i := 1) sc_are_args.nd rfl (by first | exact Or.inl rfl | exact Or.inr rfl))) (fun _ _ _ _ _ => (de_call KW.G moWord hA (hr.mono (by decide)) (by rfl) KW.g KW.F.kp KW.b pass0 (da_cons (de_v (pv 1)) (da_cons (de_g C.ww (by rfl)) da_nil))))))))))), fun ds Q h => ?_⟩)
  · obtain ⟨k, rfl, _⟩ := h
    rfl
  · obtain ⟨as, rfl, l4, ha, k⟩ := h
    simp only [tn0, tn1, tn2, tn3, tn4, tn5, bT, bs, b1, DL.wp, sRet, sRetN, sRetO, sSeq, sIf, sSet, sNew, sMov, sDo, sApp, sExt, sUnp, sPar, sParN, sNext, setAll, dAnd, dOr, dNot, dIf, dIsi, dv, dC, dOp, cI0, cII, gII, cSc, eSc, chI, chI3, dB, dtAnd, dtOr, dtNot, bw1, dCall, dCallJ, nCall, dCB, aCons, aNil, dTup, nLst, dNew, gLen, cLen, gTu, cTu, c2I, g2I, c1I, g1I, itm, cIx, gSl, oNo, oPt, dAll, dSum, dRepr, gCat, cCat, cInS, gInS, isN, ini, List.map, List.length, List.replicate, List.append, List.cons_append, List.nil_append, List.append_nil, List.getElem?_cons_zero, List.getElem?_cons_succ, List.set_cons_zero, List.set_cons_succ, List.length_cons, List.length_nil, Option.getD_some, true_and, and_true, if_true, if_false, isT_int_int, isT_bool_int, isT_tuple_tuple, isT_str_str, Bool.not_false, Bool.not_true, false_implies, List.length_map, Bool.false_eq_true, Bool.true_eq_false]
    refine ⟨_, 0, 4, rfl, ?_⟩
    rw [isRow_ok (by omega) (by rw [List.length_map]; omega)]
    simp only [tn0, tn1, tn2, tn3, tn4, tn5, bT, bs, b1, DL.wp, sRet, sRetN, sRetO, sSeq, sIf, sSet, sNew, sMov, sDo, sApp, sExt, sUnp, sPar, sParN, sNext, setAll, dAnd, dOr, dNot, dIf, dIsi, dv, dC, dOp, cI0, cII, gII, cSc, eSc, chI, chI3, dB, dtAnd, dtOr, dtNot, bw1, dCall, dCallJ, nCall, dCB, aCons, aNil, dTup, nLst, dNew, gLen, cLen, gTu, cTu, c2I, g2I, c1I, g1I, itm, cIx, gSl, oNo, oPt, dAll, dSum, dRepr, gCat, cCat, cInS, gInS, isN, ini, List.map, List.length, List.replicate, List.append, List.cons_append, List.nil_append, List.append_nil, List.getElem?_cons_zero, List.getElem?_cons_succ, List.set_cons_zero, List.set_cons_succ, List.length_cons, List.length_nil, Option.getD_some, true_and, and_true, if_true, if_false, isT_int_int, isT_bool_int, isT_tuple_tuple, isT_str_str, Bool.not_false, Bool.not_true, false_implies, List.length_map, Bool.false_eq_true, Bool.true_eq_false, nLc, tupI]
    refine ⟨by omega, fun i e => e = .bool true, fun i d hd => ?_, fun es e1 e2 => ?_⟩
    · rw [List.getElem?_map] at hd
      cases hk : as[i]? with
      | none => rw [hk] at hd; cases hd
      | some a =>
        rw [hk] at hd
        cases hd
        simp only [tn0, tn1, tn2, tn3, tn4, tn5, bT, bs, b1, DL.wp, sRet, sRetN, sRetO, sSeq, sIf, sSet, sNew, sMov, sDo, sApp, sExt, sUnp, sPar, sParN, sNext, setAll, dAnd, dOr, dNot, dIf, dIsi, dv, dC, dOp, cI0, cII, gII, cSc, eSc, chI, chI3, dB, dtAnd, dtOr, dtNot, bw1, dCall, dCallJ, nCall, dCB, aCons, aNil, dTup, nLst, dNew, gLen, cLen, gTu, cTu, c2I, g2I, c1I, g1I, itm, cIx, gSl, oNo, oPt, dAll, dSum, dRepr, gCat, cCat, cInS, gInS, isN, ini, List.map, List.length, List.replicate, List.append, List.cons_append, List.nil_append, List.append_nil, List.getElem?_cons_zero, List.getElem?_cons_succ, List.set_cons_zero, List.set_cons_succ, List.length_cons, List.length_nil, Option.getD_some, true_and, and_true, if_true, if_false, isT_int_int, isT_bool_int, isT_tuple_tuple, isT_str_str, Bool.not_false, Bool.not_true, false_implies, List.length_map, Bool.false_eq_true, Bool.true_eq_false]
        refine ⟨.int _, _, 32, rfl, by omega, ?_⟩
        rw [word_ok (ha a (List.mem_of_getElem? hk))]
        exact ⟨.bl _, rfl⟩
    · exact ⟨List.replicate as.length true, by rw [all_rep e1 e2], by rw [all_true]; exact k⟩
def fEntry : DF := fun ds Q => ∃ (ks : List Ky) (e : En), ds = [encKs ks, encE ks e] ∧ EnOk ks e ∧ KsOk ks ∧ ks.length ≤ 3 ∧ Q (.bool true)
theorem moEntry : MoF fEntry := fun _ _ _ m ⟨k, p, e, a, b, c, q⟩ => ⟨k, p, e, a, b, c, m _ q⟩
theorem ok_entry {f fR fA fM fG : Addr} {fd dR dA dM dG : FuncData} (F : Fun K "is_entry" "is_entry" s_is_entry f fd) (B : Blt mg) (KR : DK P w K mg base 1 "is_row" s_is_row p_is_row (spP K fRow) fR dR) (KA : DK P w K mg base 4 "are_sought" s_are_sought p_are_sought (spP K fAre) fA dA) (KM : DK P w K mg base 1 "is_name" s_is_name p_is_name (spP K fName) fM dM) (KG : DK P w K mg base 3 "are_args" s_are_args p_are_args (spP K fArgs) fG dG) : FnG P w K mg base CX0 5 f fd p_is_entry (spP K fEntry) := by
  refine fnP F sc_is_entry moEntry (fun ds Q h => ?_) (fun cdv A outer s H E b hA hr => ⟨_, (dss_cons (ds_if (DW.dt (dw_or (dt_not (dt_val (de_call KR.G moRow hA (hr.mono (by decide)) (by rfl) KR.g KR.F.kp KR.b pass0 (da_cons (de_v (pv 1)) (da_cons de_int (da_cons de_int da_nil)))))) (dw_or (dt_not (dt_val (de_call KA.G moAre hA (hr.mono (by decide)) (by rfl) KA.g KA.F.kp KA.b pass0 (da_cons (de_v (pv 0)) (da_cons (de_ix (de_v (pv 1)) de_int (fun _ _ => rfl)) da_nil))))) (dw_or1 (dt_not (dt_val (de_call KM.G moName hA (hr.mono (by decide)) (by rfl) KM.g KM.F.kp KM.b pass0 (da_cons (de_ix (de_v (pv 1)) de_int (fun _ _ => rfl)) da_nil)))))))) (dss_one (ds_ret de_bl)) dss_nil) (dss_one (ds_ret (de_call KG.G moArgs hA (hr.mono (by decide)) (by rfl) KG.g KG.F.kp KG.b pass0 (da_cons (de_ix (de_v (pv 1)) de_int (fun _ _ => rfl)) da_nil))))), fun ds Q h => ?_⟩)
  · obtain ⟨k, p, rfl, _⟩ := h
    rfl
  · obtain ⟨ks, e, rfl, h1, h2, h3, k⟩ := h
    simp only [tn0, tn1, tn2, tn3, tn4, tn5, bT, bs, b1, DL.wp, sRet, sRetN, sRetO, sSeq, sIf, sSet, sNew, sMov, sDo, sApp, sExt, sUnp, sPar, sParN, sNext, setAll, dAnd, dOr, dNot, dIf, dIsi, dv, dC, dOp, cI0, cII, gII, cSc, eSc, chI, chI3, dB, dtAnd, dtOr, dtNot, bw1, dCall, dCallJ, nCall, dCB, aCons, aNil, dTup, nLst, dNew, gLen, cLen, gTu, cTu, c2I, g2I, c1I, g1I, itm, cIx, gSl, oNo, oPt, dAll, dSum, dRepr, gCat, cCat, cInS, gInS, isN, ini, List.map, List.length, List.replicate, List.append, List.cons_append, List.nil_append, List.append_nil, List.getElem?_cons_zero, List.getElem?_cons_succ, List.set_cons_zero, List.set_cons_succ, List.length_cons, List.length_nil, Option.getD_some, true_and, and_true, if_true, if_false, isT_int_int, isT_bool_int, isT_tuple_tuple, isT_str_str, Bool.not_false, Bool.not_true, false_implies, List.length_map, Bool.false_eq_true, Bool.true_eq_false, encE]
    refine ⟨_, 3, 3, rfl, ?_⟩
    rw [isRow_ok (by simp) (by simp)]
    simp only [tn0, tn1, tn2, tn3, tn4, tn5, bT, bs, b1, DL.wp, sRet, sRetN, sRetO, sSeq, sIf, sSet, sNew, sMov, sDo, sApp, sExt, sUnp, sPar, sParN, sNext, setAll, dAnd, dOr, dNot, dIf, dIsi, dv, dC, dOp, cI0, cII, gII, cSc, eSc, chI, chI3, dB, dtAnd, dtOr, dtNot, bw1, dCall, dCallJ, nCall, dCB, aCons, aNil, dTup, nLst, dNew, gLen, cLen, gTu, cTu, c2I, g2I, c1I, g1I, itm, cIx, gSl, oNo, oPt, dAll, dSum, dRepr, gCat, cCat, cInS, gInS, isN, ini, List.map, List.length, List.replicate, List.append, List.cons_append, List.nil_append, List.append_nil, List.getElem?_cons_zero, List.getElem?_cons_succ, List.set_cons_zero, List.set_cons_succ, List.length_cons, List.length_nil, Option.getD_some, true_and, and_true, if_true, if_false, isT_int_int, isT_bool_int, isT_tuple_tuple, isT_str_str, Bool.not_false, Bool.not_true, false_implies, List.length_map, Bool.false_eq_true, Bool.true_eq_false]
    refine ⟨⟨by omega, by omega⟩, ks, e.ps, rfl, h1.ps, h2, h3, ?_⟩
    simp only [tn0, tn1, tn2, tn3, tn4, tn5, bT, bs, b1, DL.wp, sRet, sRetN, sRetO, sSeq, sIf, sSet, sNew, sMov, sDo, sApp, sExt, sUnp, sPar, sParN, sNext, setAll, dAnd, dOr, dNot, dIf, dIsi, dv, dC, dOp, cI0, cII, gII, cSc, eSc, chI, chI3, dB, dtAnd, dtOr, dtNot, bw1, dCall, dCallJ, nCall, dCB, aCons, aNil, dTup, nLst, dNew, gLen, cLen, gTu, cTu, c2I, g2I, c1I, g1I, itm, cIx, gSl, oNo, oPt, dAll, dSum, dRepr, gCat, cCat, cInS, gInS, isN, ini, List.map, List.length, List.replicate, List.append, List.cons_append, List.nil_append, List.append_nil, List.getElem?_cons_zero, List.getElem?_cons_succ, List.set_cons_zero, List.set_cons_succ, List.length_cons, List.length_nil, Option.getD_some, true_and, and_true, if_true, if_false, isT_int_int, isT_bool_int, isT_tuple_tuple, isT_str_str, Bool.not_false, Bool.not_true, false_implies, List.length_map, Bool.false_eq_true, Bool.true_eq_false]
    refine ⟨⟨by omega, by omega⟩, e.act, rfl, h1.act, ?_⟩
    simp only [tn0, tn1, tn2, tn3, tn4, tn5, bT, bs, b1, DL.wp, sRet, sRetN, sRetO, sSeq, sIf, sSet, sNew, sMov, sDo, sApp, sExt, sUnp, sPar, sParN, sNext, setAll, dAnd, dOr, dNot, dIf, dIsi, dv, dC, dOp, cI0, cII, gII, cSc, eSc, chI, chI3, dB, dtAnd, dtOr, dtNot, bw1, dCall, dCallJ, nCall, dCB, aCons, aNil, dTup, nLst, dNew, gLen, cLen, gTu, cTu, c2I, g2I, c1I, g1I, itm, cIx, gSl, oNo, oPt, dAll, dSum, dRepr, gCat, cCat, cInS, gInS, isN, ini, List.map, List.length, List.replicate, List.append, List.cons_append, List.nil_append, List.append_nil, List.getElem?_cons_zero, List.getElem?_cons_succ, List.set_cons_zero, List.set_cons_succ, List.length_cons, List.length_nil, Option.getD_some, true_and, and_true, if_true, if_false, isT_int_int, isT_bool_int, isT_tuple_tuple, isT_str_str, Bool.not_false, Bool.not_true, false_implies, List.length_map, Bool.false_eq_true, Bool.true_eq_false]
    exact ⟨⟨by omega, by omega⟩, e.args, rfl, h1.len, h1.arg, k⟩
/-! ### what is checked -/
def KeysOk (ks : List Ky) : Prop := KsOk ks ∧ 1 ≤ ks.length ∧ ks.length ≤ 3 ∧ sumW ks ≤ 48
def fCKeys : DF := fun ds Q => ∃ ks : List Ky, ds = [encKs ks] ∧ KeysOk ks ∧ Q .none
theorem moCKeys : MoF fCKeys := fun _ _ _ m ⟨k, e, a, q⟩ => ⟨k, e, a, m _ q⟩
theorem ok_ckeys {f fY : Addr} {fd dY : FuncData} (F : Fun K "check_keys" "check_keys" s_check_keys f fd) (KY : DK P w K mg base 3 "is_keys" s_is_keys p_is_keys (spP K fKeys) fY dY) : FnG P w K mg base CX0 4 f fd p_check_keys (spP K fCKeys) := by
  refine fnP F sc_check_keys moCKeys (fun ds Q h => ?_) (fun cdv A outer s H E b hA hr => ⟨_, (dss_one (ds_if (dt_not (dt_val (de_call KY.G moKeys hA (hr.mono (by decide)) (by rfl) KY.g KY.F.kp KY.b pass0 (da_cons (de_v (pv 0)) da_nil)))) (dss_one ds_never) dss_nil)), fun ds Q h => ?_⟩)
  · obtain ⟨k, rfl, _⟩ := h
    rfl
  · obtain ⟨ks, rfl, ⟨h0, h1, h2, h3⟩, k⟩ := h
    simp only [tn0, tn1, tn2, tn3, tn4, tn5, bT, bs, b1, DL.wp, sRet, sRetN, sRetO, sSeq, sIf, sSet, sNew, sMov, sDo, sApp, sExt, sUnp, sPar, sParN, sNext, setAll, dAnd, dOr, dNot, dIf, dIsi, dv, dC, dOp, cI0, cII, gII, cSc, eSc, chI, chI3, dB, dtAnd, dtOr, dtNot, bw1, dCall, dCallJ, nCall, dCB, aCons, aNil, dTup, nLst, dNew, gLen, cLen, gTu, cTu, c2I, g2I, c1I, g1I, itm, cIx, gSl, oNo, oPt, dAll, dSum, dRepr, gCat, cCat, cInS, gInS, isN, ini, List.map, List.length, List.replicate, List.append, List.cons_append, List.nil_append, List.append_nil, List.getElem?_cons_zero, List.getElem?_cons_succ, List.set_cons_zero, List.set_cons_succ, List.length_cons, List.length_nil, Option.getD_some, true_and, and_true, if_true, if_false, isT_int_int, isT_bool_int, isT_tuple_tuple, isT_str_str, Bool.not_false, Bool.not_true, false_implies, List.length_map, Bool.false_eq_true, Bool.true_eq_false]
    exact ⟨ks, rfl, h0, h1, h2, h3, k⟩
def fCEntries : DF := fun ds Q => ∃ (ks : List Ky) (es : List En), ds = [encKs ks, encEs ks es] ∧ (∀ e ∈ es, EnOk ks e) ∧ KsOk ks ∧ ks.length ≤ 3 ∧ es.length ≤ 32 ∧ Q .none
theorem moCEntries : MoF fCEntries := fun _ _ _ m ⟨k, es, e, a, b, c, d, q⟩ => ⟨k, es, e, a, b, c, d, m _ q⟩
theorem ok_centries {f fR fE : Addr} {fd dR dE : FuncData} (F : Fun K "check_entries" "check_entries" s_check_entries f fd) (B : Blt mg) (C : CstQ K w mg) (KR : DK P w K mg base 1 "is_row" s_is_row p_is_row (spP K fRow) fR dR) (KE : DK P w K mg base 5 "is_entry" s_is_entry p_is_entry (spP K fEntry) fE dE) : FnG P w K mg base CX0 6 f fd p_check_entries (spP K fCEntries) := by
  refine fnP F sc_check_entries moCEntries (fun ds Q h => ?_) (fun cdv A outer s H E b hA hr => ⟨_, (dss_cons (ds_if (dt_not (dt_val (de_call KR.G moRow hA (hr.mono (by decide)) (by rfl) KR.g KR.F.kp KR.b pass0 (da_cons (de_v (pv 1)) (da_cons de_int (da_cons (de_g C.me (by rfl)) da_nil)))))) (dss_one ds_never) dss_nil) (dss_one (ds_for (p := (.one (.t [2, 3]))) PassesOwn.never rfl (di_en (by rfl) B.enumerate (da_cons (de_v (pv 1)) da_nil)) (pg_tup rfl (pgs_cons (pg_name (i := 2) sc_check_entries.nd rfl (by first | exact Or.inl rfl | exact Or.inr rfl)) (pgs_cons (pg_name (i := 3) sc_check_entries.nd rfl (by first | exact Or.inl rfl | exact Or.inr rfl)) pgs_nil))) (dss_one (ds_if (dt_not (dt_val (de_call KE.G moEntry hA (hr.mono (by decide)) (by rfl) KE.g KE.F.kp KE.b pass0 (da_cons (de_v (pv 0)) (da_cons (de_v (pv 3)) da_nil))))) (dss_one ds_never) dss_nil))))), fun ds Q h => ?_⟩)
  · obtain ⟨k, es, rfl, _⟩ := h
    rfl
  · obtain ⟨ks, es, rfl, h1, h2, h3, h4, k⟩ := h
    simp only [tn0, tn1, tn2, tn3, tn4, tn5, bT, bs, b1, DL.wp, sRet, sRetN, sRetO, sSeq, sIf, sSet, sNew, sMov, sDo, sApp, sExt, sUnp, sPar, sParN, sNext, setAll, dAnd, dOr, dNot, dIf, dIsi, dv, dC, dOp, cI0, cII, gII, cSc, eSc, chI, chI3, dB, dtAnd, dtOr, dtNot, bw1, dCall, dCallJ, nCall, dCB, aCons, aNil, dTup, nLst, dNew, gLen, cLen, gTu, cTu, c2I, g2I, c1I, g1I, itm, cIx, gSl, oNo, oPt, dAll, dSum, dRepr, gCat, cCat, cInS, gInS, isN, ini, List.map, List.length, List.replicate, List.append, List.cons_append, List.nil_append, List.append_nil, List.getElem?_cons_zero, List.getElem?_cons_succ, List.set_cons_zero, List.set_cons_succ, List.length_cons, List.length_nil, Option.getD_some, true_and, and_true, if_true, if_false, isT_int_int, isT_bool_int, isT_tuple_tuple, isT_str_str, Bool.not_false, Bool.not_true, false_implies, List.length_map, Bool.false_eq_true, Bool.true_eq_false, encEs]
    refine ⟨_, 0, 32, rfl, ?_⟩
    rw [isRow_ok (by omega) (by rw [List.length_map]; omega)]
    simp only [tn0, tn1, tn2, tn3, tn4, tn5, bT, bs, b1, DL.wp, sRet, sRetN, sRetO, sSeq, sIf, sSet, sNew, sMov, sDo, sApp, sExt, sUnp, sPar, sParN, sNext, setAll, dAnd, dOr, dNot, dIf, dIsi, dv, dC, dOp, cI0, cII, gII, cSc, eSc, chI, chI3, dB, dtAnd, dtOr, dtNot, bw1, dCall, dCallJ, nCall, dCB, aCons, aNil, dTup, nLst, dNew, gLen, cLen, gTu, cTu, c2I, g2I, c1I, g1I, itm, cIx, gSl, oNo, oPt, dAll, dSum, dRepr, gCat, cCat, cInS, gInS, isN, ini, List.map, List.length, List.replicate, List.append, List.cons_append, List.nil_append, List.append_nil, List.getElem?_cons_zero, List.getElem?_cons_succ, List.set_cons_zero, List.set_cons_succ, List.length_cons, List.length_nil, Option.getD_some, true_and, and_true, if_true, if_false, isT_int_int, isT_bool_int, isT_tuple_tuple, isT_str_str, Bool.not_false, Bool.not_true, false_implies, List.length_map, Bool.false_eq_true, Bool.true_eq_false, sFor, enI]
    refine ⟨fun _ => noL_encEs ks es, fun i ρ => ∃ s1 s2, frzs [s1, s2] = [none, none] ∧ ρ = [.par (encKs ks), .par (.tuple (es.map (encE ks))), s1, s2], ⟨.nil, .nil, rfl, rfl⟩, ?_, ?_⟩
    · rintro i d ρ hd ⟨s1, s2, hf, rfl⟩
      obtain ⟨x, hx, rfl⟩ := enD_get hd
      rw [List.getElem?_map] at hx
      cases he : es[i]? with
      | none => rw [he] at hx; cases hx
      | some e =>
        rw [he] at hx
        cases hx
        simp only [tn0, tn1, tn2, tn3, tn4, tn5, bT, bs, b1, DL.wp, sRet, sRetN, sRetO, sSeq, sIf, sSet, sNew, sMov, sDo, sApp, sExt, sUnp, sPar, sParN, sNext, setAll, dAnd, dOr, dNot, dIf, dIsi, dv, dC, dOp, cI0, cII, gII, cSc, eSc, chI, chI3, dB, dtAnd, dtOr, dtNot, bw1, dCall, dCallJ, nCall, dCB, aCons, aNil, dTup, nLst, dNew, gLen, cLen, gTu, cTu, c2I, g2I, c1I, g1I, itm, cIx, gSl, oNo, oPt, dAll, dSum, dRepr, gCat, cCat, cInS, gInS, isN, ini, List.map, List.length, List.replicate, List.append, List.cons_append, List.nil_append, List.append_nil, List.getElem?_cons_zero, List.getElem?_cons_succ, List.set_cons_zero, List.set_cons_succ, List.length_cons, List.length_nil, Option.getD_some, true_and, and_true, if_true, if_false, isT_int_int, isT_bool_int, isT_tuple_tuple, isT_str_str, Bool.not_false, Bool.not_true, false_implies, List.length_map, Bool.false_eq_true, Bool.true_eq_false]
        exact ⟨noL2 (.int _) (noL_encE ks e), ks, e, rfl, h1 e (List.mem_of_getElem? he), h2, h3, .dat (.int (i : Nat)), .dat (encE ks e), rfl, rfl⟩
    · rintro ρ ⟨s1, s2, hf, rfl⟩
      refine ⟨?_, k⟩
      show none :: none :: frzs [s1, s2] = _
      rw [hf]
      rfl
def fCWords : DF := fun ds Q => ∃ (ks : List Ky) (ws : List Nat), ds = [encKs ks, encW ws] ∧ WsOk ks ws ∧ KsOk ks ∧ Q .none
theorem moCWords : MoF fCWords := fun _ _ _ m ⟨k, es, e, a, b, q⟩ => ⟨k, es, e, a, b, m _ q⟩
theorem WsOk.at : ∀ {ks : List Ky} {ws : List Nat} {i v : Nat}, WsOk ks ws → ws[i]? = some v → ∃ k, ks[i]? = some k ∧ v < 2 ^ k.2
  | k :: ks, x :: ws, 0, v, h, e => by
    simp at e
    subst e
    exact ⟨k, rfl, h.1⟩
  | k :: ks, x :: ws, i + 1, v, h, e => by
    obtain ⟨k', h1, h2⟩ := WsOk.at (i := i) h.2 (by simpa using e)
    exact ⟨k', by simpa using h1, h2⟩
  | [], [], _, _, _, e => by simp at e
theorem ok_cwords {f fR fW : Addr} {fd dR dW : FuncData} (F : Fun K "check_words" "check_words" s_check_words f fd) (B : Blt mg) (KR : DK P w K mg base 1 "is_row" s_is_row p_is_row (spP K fRow) fR dR) (KW : DK P w K mg base 2 "is_word" s_is_word p_is_word (spP K fWord) fW dW) : FnG P w K mg base CX0 3 f fd p_check_words (spP K fCWords) := by
  refine fnP F sc_check_words moCWords (fun ds Q h => ?_) (fun cdv A outer s H E b hA hr => ⟨_, (dss_cons (ds_if (dt_not (dt_val (de_call KR.G moRow hA (hr.mono (by decide)) (by rfl) KR.g KR.F.kp KR.b pass0 (da_cons (de_v (pv 1)) (da_cons (de_len (by rfl) B.len (da_cons (de_v (pv 0)) da_nil)) (da_cons (de_len (by rfl) B.len (da_cons (de_v (pv 0)) da_nil)) da_nil)))))) (dss_one ds_never) dss_nil) (dss_one (ds_for (p := (.one (.t [2, 3]))) PassesOwn.never rfl (di_en (by rfl) B.enumerate (da_cons (de_v (pv 1)) da_nil)) (pg_tup rfl (pgs_cons (pg_name (i := 2) sc_check_words.nd rfl (by first | exact Or.inl rfl | exact Or.inr rfl)) (pgs_cons (pg_name (i := 3) sc_check_words.nd rfl (by first | exact Or.inl rfl | exact Or.inr rfl)) pgs_nil))) (dss_one (ds_if (dt_not (dt_val (de_call KW.G moWord hA (hr.mono (by decide)) (by rfl) KW.g KW.F.kp KW.b pass0 (da_cons (de_v (pv 3)) (da_cons (de_ix (de_ix (de_v (pv 0)) (de_v (pv 2)) (fun _ _ => rfl)) de_int (fun _ _ => rfl)) da_nil))))) (dss_one ds_never) dss_nil))))), fun ds Q h => ?_⟩)
  · obtain ⟨k, es, rfl, _⟩ := h
    rfl
  · obtain ⟨ks, ws, rfl, h1, h2, k⟩ := h
    have l1 := h1.len
    simp only [tn0, tn1, tn2, tn3, tn4, tn5, bT, bs, b1, DL.wp, sRet, sRetN, sRetO, sSeq, sIf, sSet, sNew, sMov, sDo, sApp, sExt, sUnp, sPar, sParN, sNext, setAll, dAnd, dOr, dNot, dIf, dIsi, dv, dC, dOp, cI0, cII, gII, cSc, eSc, chI, chI3, dB, dtAnd, dtOr, dtNot, bw1, dCall, dCallJ, nCall, dCB, aCons, aNil, dTup, nLst, dNew, gLen, cLen, gTu, cTu, c2I, g2I, c1I, g1I, itm, cIx, gSl, oNo, oPt, dAll, dSum, dRepr, gCat, cCat, cInS, gInS, isN, ini, List.map, List.length, List.replicate, List.append, List.cons_append, List.nil_append, List.append_nil, List.getElem?_cons_zero, List.getElem?_cons_succ, List.set_cons_zero, List.set_cons_succ, List.length_cons, List.length_nil, Option.getD_some, true_and, and_true, if_true, if_false, isT_int_int, isT_bool_int, isT_tuple_tuple, isT_str_str, Bool.not_false, Bool.not_true, false_implies, List.length_map, Bool.false_eq_true, Bool.true_eq_false, encW, encKs]
    refine ⟨_, _, _, rfl, ?_⟩
    rw [isRow_ok (by rw [List.length_map]; omega) (by rw [List.length_map]; omega)]
    simp only [tn0, tn1, tn2, tn3, tn4, tn5, bT, bs, b1, DL.wp, sRet, sRetN, sRetO, sSeq, sIf, sSet, sNew, sMov, sDo, sApp, sExt, sUnp, sPar, sParN, sNext, setAll, dAnd, dOr, dNot, dIf, dIsi, dv, dC, dOp, cI0, cII, gII, cSc, eSc, chI, chI3, dB, dtAnd, dtOr, dtNot, bw1, dCall, dCallJ, nCall, dCB, aCons, aNil, dTup, nLst, dNew, gLen, cLen, gTu, cTu, c2I, g2I, c1I, g1I, itm, cIx, gSl, oNo, oPt, dAll, dSum, dRepr, gCat, cCat, cInS, gInS, isN, ini, List.map, List.length, List.replicate, List.append, List.cons_append, List.nil_append, List.append_nil, List.getElem?_cons_zero, List.getElem?_cons_succ, List.set_cons_zero, List.set_cons_succ, List.length_cons, List.length_nil, Option.getD_some, true_and, and_true, if_true, if_false, isT_int_int, isT_bool_int, isT_tuple_tuple, isT_str_str, Bool.not_false, Bool.not_true, false_implies, List.length_map, Bool.false_eq_true, Bool.true_eq_false, sFor, enI]
    refine ⟨fun _ => noL_ints ws, fun i ρ => ∃ s1 s2, frzs [s1, s2] = [none, none] ∧ ρ = [.par (.tuple (ks.map encK)), .par (.tuple (ws.map fun w => .int (w : Nat))), s1, s2], ⟨.nil, .nil, rfl, rfl⟩, ?_, ?_⟩
    · rintro i d ρ hd ⟨s1, s2, hf, rfl⟩
      obtain ⟨x, hx, rfl⟩ := enD_get hd
      rw [List.getElem?_map] at hx
      cases he : ws[i]? with
      | none => rw [he] at hx; cases hx
      | some v =>
        rw [he] at hx
        cases hx
        obtain ⟨ky, hk1, hk2⟩ := h1.at he
        have hi := (List.getElem?_eq_some_iff.mp hk1).1
        have hy := (h2 ky (List.mem_of_getElem? hk1)).2
        simp only [tn0, tn1, tn2, tn3, tn4, tn5, bT, bs, b1, DL.wp, sRet, sRetN, sRetO, sSeq, sIf, sSet, sNew, sMov, sDo, sApp, sExt, sUnp, sPar, sParN, sNext, setAll, dAnd, dOr, dNot, dIf, dIsi, dv, dC, dOp, cI0, cII, gII, cSc, eSc, chI, chI3, dB, dtAnd, dtOr, dtNot, bw1, dCall, dCallJ, nCall, dCB, aCons, aNil, dTup, nLst, dNew, gLen, cLen, gTu, cTu, c2I, g2I, c1I, g1I, itm, cIx, gSl, oNo, oPt, dAll, dSum, dRepr, gCat, cCat, cInS, gInS, isN, ini, List.map, List.length, List.replicate, List.append, List.cons_append, List.nil_append, List.append_nil, List.getElem?_cons_zero, List.getElem?_cons_succ, List.set_cons_zero, List.set_cons_succ, List.length_cons, List.length_nil, Option.getD_some, true_and, and_true, if_true, if_false, isT_int_int, isT_bool_int, isT_tuple_tuple, isT_str_str, Bool.not_false, Bool.not_true, false_implies, List.length_map, Bool.false_eq_true, Bool.true_eq_false]
        refine ⟨noL2 (.int _) (.int _), ⟨by omega, by omega⟩, ?_⟩
        rw [Int.toNat_natCast, List.getElem?_map, hk1]
        simp only [tn0, tn1, tn2, tn3, tn4, tn5, bT, bs, b1, DL.wp, sRet, sRetN, sRetO, sSeq, sIf, sSet, sNew, sMov, sDo, sApp, sExt, sUnp, sPar, sParN, sNext, setAll, dAnd, dOr, dNot, dIf, dIsi, dv, dC, dOp, cI0, cII, gII, cSc, eSc, chI, chI3, dB, dtAnd, dtOr, dtNot, bw1, dCall, dCallJ, nCall, dCB, aCons, aNil, dTup, nLst, dNew, gLen, cLen, gTu, cTu, c2I, g2I, c1I, g1I, itm, cIx, gSl, oNo, oPt, dAll, dSum, dRepr, gCat, cCat, cInS, gInS, isN, ini, List.map, List.length, List.replicate, List.append, List.cons_append, List.nil_append, List.append_nil, List.getElem?_cons_zero, List.getElem?_cons_succ, List.set_cons_zero, List.set_cons_succ, List.length_cons, List.length_nil, Option.getD_some, true_and, and_true, if_true, if_false, isT_int_int, isT_bool_int, isT_tuple_tuple, isT_str_str, Bool.not_false, Bool.not_true, false_implies, List.length_map, Bool.false_eq_true, Bool.true_eq_false, Option.map_some, encK]
        refine ⟨⟨by omega, by omega⟩, _, ky.2, rfl, by omega, ?_⟩
        rw [word_ok hk2]
        exact ⟨.dat (.int (i : Nat)), .dat (.int (v : Nat)), rfl, rfl⟩
    · rintro ρ ⟨s1, s2, hf, rfl⟩
      refine ⟨?_, k⟩
      show none :: none :: frzs [s1, s2] = _
      rw [hf]
      rfl
/-! ### looked up -/
structure LkOk (ks : List Ky) (es : List En) (ws : List Nat) : Prop where
  k : KeysOk ks
  e : ∀ e ∈ es, EnOk ks e
  l : es.length ≤ 32
  w : WsOk ks ws
def fLookup : DF := fun ds Q => ∃ (ks : List Ky) (es : List En) (ws : List Nat), ds = [encKs ks, encEs ks es, encW ws] ∧ LkOk ks es ws ∧ Q .none
theorem moLookup : MoF fLookup := fun _ _ _ m ⟨k, es, w, e, a, q⟩ => ⟨k, es, w, e, a, m _ q⟩
theorem ok_lookup {f f1 f2 f3 : Addr} {fd d1 d2 d3 : FuncData} (F : Fun K "check_lookup" "check_lookup" s_check_lookup f fd) (KCK : DK P w K mg base 4 "check_keys" s_check_keys p_check_keys (spP K fCKeys) f1 d1) (KCE : DK P w K mg base 6 "check_entries" s_check_entries p_check_entries (spP K fCEntries) f2 d2) (KCW : DK P w K mg base 3 "check_words" s_check_words p_check_words (spP K fCWords) f3 d3) : FnG P w K mg base CX0 7 f fd p_check_lookup (spP K fLookup) := by
  refine fnP F sc_check_lookup moLookup (fun ds Q h => ?_) (fun cdv A outer s H E b hA hr => ⟨_, (dss_cons (ds_do (de_call KCK.G moCKeys hA (hr.mono (by decide)) (by rfl) KCK.g KCK.F.kp KCK.b pass0 (da_cons (de_v (pv 0)) da_nil))) (dss_cons (ds_do (de_call KCE.G moCEntries hA (hr.mono (by decide)) (by rfl) KCE.g KCE.F.kp KCE.b pass0 (da_cons (de_v (pv 0)) (da_cons (de_v (pv 1)) da_nil)))) (dss_one (ds_do (de_call KCW.G moCWords hA (hr.mono (by decide)) (by rfl) KCW.g KCW.F.kp KCW.b pass0 (da_cons (de_v (pv 0)) (da_cons (de_v (pv 2)) da_nil))))))), fun ds Q h => ?_⟩)
  · obtain ⟨k, es, ws, rfl, _⟩ := h
    rfl
  · obtain ⟨ks, es, ws, rfl, h, k⟩ := h
    simp only [tn0, tn1, tn2, tn3, tn4, tn5, bT, bs, b1, DL.wp, sRet, sRetN, sRetO, sSeq, sIf, sSet, sNew, sMov, sDo, sApp, sExt, sUnp, sPar, sParN, sNext, setAll, dAnd, dOr, dNot, dIf, dIsi, dv, dC, dOp, cI0, cII, gII, cSc, eSc, chI, chI3, dB, dtAnd, dtOr, dtNot, bw1, dCall, dCallJ, nCall, dCB, aCons, aNil, dTup, nLst, dNew, gLen, cLen, gTu, cTu, c2I, g2I, c1I, g1I, itm, cIx, gSl, oNo, oPt, dAll, dSum, dRepr, gCat, cCat, cInS, gInS, isN, ini, List.map, List.length, List.replicate, List.append, List.cons_append, List.nil_append, List.append_nil, List.getElem?_cons_zero, List.getElem?_cons_succ, List.set_cons_zero, List.set_cons_succ, List.length_cons, List.length_nil, Option.getD_some, true_and, and_true, if_true, if_false, isT_int_int, isT_bool_int, isT_tuple_tuple, isT_str_str, Bool.not_false, Bool.not_true, false_implies, List.length_map, Bool.false_eq_true, Bool.true_eq_false]
    exact ⟨ks, rfl, h.k, ks, es, rfl, h.e, h.k.1, h.k.2.2.1, h.l, ks, ws, rfl, h.w, h.k.1, k⟩
def fHitBy : DF := fun ds Q => ∃ (ks : List Ky) (es : List En) (ws : List Nat), ds = [encKs ks, encEs ks es, encW ws] ∧ LkOk ks es ws ∧ Q (oInt (fst0 ks ws es))
theorem moHitBy : MoF fHitBy := fun _ _ _ m ⟨k, es, w, e, a, q⟩ => ⟨k, es, w, e, a, m _ q⟩
theorem ok_hitby {f f1 f2 : Addr} {fd d1 d2 : FuncData} (F : Fun K "hit_by" "hit_by" s_hit_by f fd) (KCL : DK P w K mg base 7 "check_lookup" s_check_lookup p_check_lookup (spP K fLookup) f1 d1) (KF : DK P w K mg base 4 "first_hit" s_first_hit p_first_hit (spP K fFirst) f2 d2) : FnG P w K mg base CX0 8 f fd p_hit_by (spP K fHitBy) := by
  refine fnP F sc_hit_by moHitBy (fun ds Q h => ?_) (fun cdv A outer s H E b hA hr => ⟨_, (dss_cons (ds_do (de_call KCL.G moLookup hA (hr.mono (by decide)) (by rfl) KCL.g KCL.F.kp KCL.b pass0 (da_cons (de_v (pv 0)) (da_cons (de_v (pv 1)) (da_cons (de_v (pv 2)) da_nil))))) (dss_one (ds_ret (de_call KF.G moFirst hA (hr.mono (by decide)) (by rfl) KF.g KF.F.kp KF.b pass0 (da_cons (de_v (pv 0)) (da_cons (de_v (pv 1)) (da_cons (de_v (pv 2)) da_nil))))))), fun ds Q h => ?_⟩)
  · obtain ⟨k, es, ws, rfl, _⟩ := h
    rfl
  · obtain ⟨ks, es, ws, rfl, h, k⟩ := h
    simp only [tn0, tn1, tn2, tn3, tn4, tn5, bT, bs, b1, DL.wp, sRet, sRetN, sRetO, sSeq, sIf, sSet, sNew, sMov, sDo, sApp, sExt, sUnp, sPar, sParN, sNext, setAll, dAnd, dOr, dNot, dIf, dIsi, dv, dC, dOp, cI0, cII, gII, cSc, eSc, chI, chI3, dB, dtAnd, dtOr, dtNot, bw1, dCall, dCallJ, nCall, dCB, aCons, aNil, dTup, nLst, dNew, gLen, cLen, gTu, cTu, c2I, g2I, c1I, g1I, itm, cIx, gSl, oNo, oPt, dAll, dSum, dRepr, gCat, cCat, cInS, gInS, isN, ini, List.map, List.length, List.replicate, List.append, List.cons_append, List.nil_append, List.append_nil, List.getElem?_cons_zero, List.getElem?_cons_succ, List.set_cons_zero, List.set_cons_succ, List.length_cons, List.length_nil, Option.getD_some, true_and, and_true, if_true, if_false, isT_int_int, isT_bool_int, isT_tuple_tuple, isT_str_str, Bool.not_false, Bool.not_true, false_implies, List.length_map, Bool.false_eq_true, Bool.true_eq_false]
    exact ⟨ks, es, ws, rfl, h, ks, es, ws, rfl, fun e he => (h.e e he).ps, h.w, h.k.1, h.k.2.2.1, k⟩
def deedD (e : En) : PyData := .tuple [.str e.act, .tuple (e.args.map fun a => .int (a : Nat))]
def toldD (ks : List Ky) (es : List En) (ws : List Nat) : PyData := match fst0 ks ws es with | none => .none | some i => match es[i]? with | some e => deedD e | none => .none
theorem fst0_lt {ks : List Ky} {es : List En} {ws : List Nat} {i : Nat} (h : fst0 ks ws es = some i) : i < es.length := by
  unfold fst0 at h
  rw [List.findIdx?_eq_some_iff_getElem] at h
  exact h.1
def fToldBy : DF := fun ds Q => ∃ (ks : List Ky) (es : List En) (ws : List Nat), ds = [encKs ks, encEs ks es, encW ws] ∧ LkOk ks es ws ∧ Q (toldD ks es ws)
theorem moToldBy : MoF fToldBy := fun _ _ _ m ⟨k, es, w, e, a, q⟩ => ⟨k, es, w, e, a, m _ q⟩
theorem noL_deed (e : En) : NoL (deedD e) := .tup (noL2 (.str _) (.tup (noL_ints _)))
theorem cut13 {a b c : PyData} : cutD [a, b, c] (some 1) none = [b, c] := rfl
theorem ok_toldby {f f1 f2 : Addr} {fd d1 d2 : FuncData} (F : Fun K "told_by" "told_by" s_told_by f fd) (KCL : DK P w K mg base 7 "check_lookup" s_check_lookup p_check_lookup (spP K fLookup) f1 d1) (KF : DK P w K mg base 4 "first_hit" s_first_hit p_first_hit (spP K fFirst) f2 d2) : FnG P w K mg base CX0 8 f fd p_told_by (spP K fToldBy) := by
  refine fnP F sc_told_by moToldBy (fun ds Q h => ?_) (fun cdv A outer s H E b hA hr => ⟨_, (dss_cons (ds_do (de_call KCL.G moLookup hA (hr.mono (by decide)) (by rfl) KCL.g KCL.F.kp KCL.b pass0 (da_cons (de_v (pv 0)) (da_cons (de_v (pv 1)) (da_cons (de_v (pv 2)) da_nil))))) (dss_cons (ds_set (i := 3) sc_told_by.nd rfl (by first | exact Or.inl rfl | exact Or.inr rfl) (de_call KF.G moFirst hA (hr.mono (by decide)) (by rfl) KF.g KF.F.kp KF.b pass0 (da_cons (de_v (pv 0)) (da_cons (de_v (pv 1)) (da_cons (de_v (pv 2)) da_nil))))) (dss_one (ds_ret (de_if (dt_isN (de_v (pv 3))) de_non (de_sl (de_ix (de_v (pv 1)) (de_v (pv 3)) (fun _ _ => rfl)) (do_pt de_int) do_no)))))), fun ds Q h => ?_⟩)
  · obtain ⟨k, es, ws, rfl, _⟩ := h
    rfl
  · obtain ⟨ks, es, ws, rfl, h, k⟩ := h
    simp only [tn0, tn1, tn2, tn3, tn4, tn5, bT, bs, b1, DL.wp, sRet, sRetN, sRetO, sSeq, sIf, sSet, sNew, sMov, sDo, sApp, sExt, sUnp, sPar, sParN, sNext, setAll, dAnd, dOr, dNot, dIf, dIsi, dv, dC, dOp, cI0, cII, gII, cSc, eSc, chI, chI3, dB, dtAnd, dtOr, dtNot, bw1, dCall, dCallJ, nCall, dCB, aCons, aNil, dTup, nLst, dNew, gLen, cLen, gTu, cTu, c2I, g2I, c1I, g1I, itm, cIx, gSl, oNo, oPt, dAll, dSum, dRepr, gCat, cCat, cInS, gInS, isN, ini, List.map, List.length, List.replicate, List.append, List.cons_append, List.nil_append, List.append_nil, List.getElem?_cons_zero, List.getElem?_cons_succ, List.set_cons_zero, List.set_cons_succ, List.length_cons, List.length_nil, Option.getD_some, true_and, and_true, if_true, if_false, isT_int_int, isT_bool_int, isT_tuple_tuple, isT_str_str, Bool.not_false, Bool.not_true, false_implies, List.length_map, Bool.false_eq_true, Bool.true_eq_false]
    refine ⟨ks, es, ws, rfl, h, ks, es, ws, rfl, fun e he => (h.e e he).ps, h.w, h.k.1, h.k.2.2.1, ?_⟩
    unfold toldD at k
    cases hf : fst0 ks ws es with
    | none =>
      rw [hf] at k
      simp only [tn0, tn1, tn2, tn3, tn4, tn5, bT, bs, b1, DL.wp, sRet, sRetN, sRetO, sSeq, sIf, sSet, sNew, sMov, sDo, sApp, sExt, sUnp, sPar, sParN, sNext, setAll, dAnd, dOr, dNot, dIf, dIsi, dv, dC, dOp, cI0, cII, gII, cSc, eSc, chI, chI3, dB, dtAnd, dtOr, dtNot, bw1, dCall, dCallJ, nCall, dCB, aCons, aNil, dTup, nLst, dNew, gLen, cLen, gTu, cTu, c2I, g2I, c1I, g1I, itm, cIx, gSl, oNo, oPt, dAll, dSum, dRepr, gCat, cCat, cInS, gInS, isN, ini, List.map, List.length, List.replicate, List.append, List.cons_append, List.nil_append, List.append_nil, List.getElem?_cons_zero, List.getElem?_cons_succ, List.set_cons_zero, List.set_cons_succ, List.length_cons, List.length_nil, Option.getD_some, true_and, and_true, if_true, if_false, isT_int_int, isT_bool_int, isT_tuple_tuple, isT_str_str, Bool.not_false, Bool.not_true, false_implies, List.length_map, Bool.false_eq_true, Bool.true_eq_false, oInt]
      exact ⟨.non, k⟩
    | some i =>
      rw [hf] at k
      have hi := fst0_lt hf
      have k : Q (match es[i]? with | some e => deedD e | none => .none) := k
      rw [List.getElem?_eq_getElem hi] at k
      simp only [tn0, tn1, tn2, tn3, tn4, tn5, bT, bs, b1, DL.wp, sRet, sRetN, sRetO, sSeq, sIf, sSet, sNew, sMov, sDo, sApp, sExt, sUnp, sPar, sParN, sNext, setAll, dAnd, dOr, dNot, dIf, dIsi, dv, dC, dOp, cI0, cII, gII, cSc, eSc, chI, chI3, dB, dtAnd, dtOr, dtNot, bw1, dCall, dCallJ, nCall, dCB, aCons, aNil, dTup, nLst, dNew, gLen, cLen, gTu, cTu, c2I, g2I, c1I, g1I, itm, cIx, gSl, oNo, oPt, dAll, dSum, dRepr, gCat, cCat, cInS, gInS, isN, ini, List.map, List.length, List.replicate, List.append, List.cons_append, List.nil_append, List.append_nil, List.getElem?_cons_zero, List.getElem?_cons_succ, List.set_cons_zero, List.set_cons_succ, List.length_cons, List.length_nil, Option.getD_some, true_and, and_true, if_true, if_false, isT_int_int, isT_bool_int, isT_tuple_tuple, isT_str_str, Bool.not_false, Bool.not_true, false_implies, List.length_map, Bool.false_eq_true, Bool.true_eq_false, oInt, encEs]
      refine ⟨.int _, ⟨by omega, by omega⟩, ?_⟩
      rw [Int.toNat_natCast, List.getElem?_map, List.getElem?_eq_getElem hi]
      simp only [tn0, tn1, tn2, tn3, tn4, tn5, bT, bs, b1, DL.wp, sRet, sRetN, sRetO, sSeq, sIf, sSet, sNew, sMov, sDo, sApp, sExt, sUnp, sPar, sParN, sNext, setAll, dAnd, dOr, dNot, dIf, dIsi, dv, dC, dOp, cI0, cII, gII, cSc, eSc, chI, chI3, dB, dtAnd, dtOr, dtNot, bw1, dCall, dCallJ, nCall, dCB, aCons, aNil, dTup, nLst, dNew, gLen, cLen, gTu, cTu, c2I, g2I, c1I, g1I, itm, cIx, gSl, oNo, oPt, dAll, dSum, dRepr, gCat, cCat, cInS, gInS, isN, ini, List.map, List.length, List.replicate, List.append, List.cons_append, List.nil_append, List.append_nil, List.getElem?_cons_zero, List.getElem?_cons_succ, List.set_cons_zero, List.set_cons_succ, List.length_cons, List.length_nil, Option.getD_some, true_and, and_true, if_true, if_false, isT_int_int, isT_bool_int, isT_tuple_tuple, isT_str_str, Bool.not_false, Bool.not_true, false_implies, List.length_map, Bool.false_eq_true, Bool.true_eq_false, Option.map_some, encE, cut13]
      exact k
end
end LQ

namespace LQ
open PySem PySem.Spec PyProof.Rows L2 GuL HG DL
abbrev s__law_jar : Stmt := topS 39
theorem sc__law_jar : FnScope ["_law_script", "_law_turn", "_law_mixed", "_law_cell", "_law_own"] ["_law_script", "_law_turn"] (defScope s__law_jar) := ⟨rfl, rfl, rfl, by decide +kernel, rfl, by decide +kernel, by decide +kernel⟩
abbrev n__law_jar : List Str := ["_law_script", "_law_turn", "_law_mixed", "_law_cell", "_law_own"]
abbrev p__law_jar : List Str := ["_law_script", "_law_turn"]
abbrev s__law_draw : Stmt := topS 40
theorem sc__law_draw : FnScope ["_law_jar_here", "_law_many", "_law_figure", "_law_stirred"] ["_law_jar_here", "_law_many"] (defScope s__law_draw) := ⟨rfl, rfl, rfl, by decide +kernel, rfl, by decide +kernel, by decide +kernel⟩
abbrev n__law_draw : List Str := ["_law_jar_here", "_law_many", "_law_figure", "_law_stirred"]
abbrev p__law_draw : List Str := ["_law_jar_here", "_law_many"]
abbrev s__law_of : Stmt := topS 41
theorem sc__law_of : FnScope ["_law_jar_here", "_law_some"] ["_law_jar_here", "_law_some"] (defScope s__law_of) := ⟨rfl, rfl, rfl, by decide +kernel, rfl, by decide +kernel, by decide +kernel⟩
abbrev n__law_of : List Str := ["_law_jar_here", "_law_some"]
abbrev p__law_of : List Str := ["_law_jar_here", "_law_some"]
abbrev s__law_same : Stmt := topS 42
theorem sc__law_same : FnScope ["_law_told", "_law_due"] ["_law_told", "_law_due"] (defScope s__law_same) := ⟨rfl, rfl, rfl, by decide +kernel, rfl, by decide +kernel, by decide +kernel⟩
abbrev n__law_same : List Str := ["_law_told", "_law_due"]
abbrev p__law_same : List Str := ["_law_told", "_law_due"]
abbrev s__law_top : Stmt := topS 43
theorem sc__law_top : FnScope ["_law_width", "_law_found", "_law_turn"] ["_law_width"] (defScope s__law_top) := ⟨rfl, rfl, rfl, by decide +kernel, rfl, by decide +kernel, by decide +kernel⟩
abbrev n__law_top : List Str := ["_law_width", "_law_found", "_law_turn"]
abbrev p__law_top : List Str := ["_law_width"]

section
variable {P : Program} {w : World} {K : PySem.W.Frag} {mg : Str → Option Value} {base : Heap}
/-! ### the jar -/
def spJar (K : PySem.W.Frag) : Sp := fun vs H Q _ => ∃ (a : Addr) (ns : List Int) (t : Int), vs = [.ref a, .int t] ∧ SqL K H a (ns.map V.int) ∧ ns.length ≤ 63 ∧ 0 ≤ t ∧
  ∀ H' p o m, Same H H' → H p = none → H' p = some (bw o m 0) → 0 ≤ o → Q (.ref p) H'
theorem ok_jar {f : Addr} {fd : FuncData} (F : Fun K "_law_jar" "_law_jar" s__law_jar f fd) (B : Blt mg) : FnOk P w K mg base CX0 1 f fd p__law_jar (spJar K) := by
  refine F.ok sc__law_jar (fun vs H Q E h => ?_) (fun cdv A outer s H vs Q E hr h => ?_)
  · obtain ⟨a, ns, t, rfl, _⟩ := h
    rfl
  · obtain ⟨a, ns, t, rfl, hS, hlen, ht, k⟩ := h
    refine ⟨_, pss_cons (ps_set (i := 2) sc__law_jar.nd rfl (.inl rfl) (pe_op op_add pe_int (pe_op op_mul pe_int (pv 1))))
      (pss_cons (ps_for PassesOwn.never rfl (pi_list (pe_slice sl_list (pv 0) po_none (po_some pe_int))) (pg_name (i := 3) sc__law_jar.nd rfl (.inl rfl))
        (pss_one (ps_set (i := 2) sc__law_jar.nd rfl (.inl rfl) (pe_op op_mod (pe_callTy call_int1 (by rfl) B.int (by decide +kernel) (pa_cons (pe_op op_add (pe_op op_add (pe_op op_mul (pv 2) pe_int) (pe_op op_mul (pe_op op_mod (pe_callTy call_int1 (by rfl) B.int (by decide +kernel) (pa_cons (pv 3) pa_nil)) pe_int) pe_int)) pe_int) pa_nil)) pe_int))))
      (Evl.pss_cut (ps_set (i := 4) sc__law_jar.nd rfl (.inl rfl) (pe_ifExp (pt_cmpR op_lt (pv 1) (pe_callB call_len_seq (by rfl) B.len PySem.boot_len (pa_cons (pv 0) pa_nil)) (nomark _))
          (pe_callTy call_int1 (by rfl) B.int (by decide +kernel) (pa_cons (pe_ix ix_list (pv 0) (pv 1) (fun _ _ => rfl)) pa_nil)) pe_int))
      (Evl.pss_cut (ps_set (i := 2) sc__law_jar.nd rfl (.inl rfl) (pe_op op_mod (pe_callTy call_int1 (by rfl) B.int (by decide +kernel) (pa_cons (pe_op op_add (pe_op op_add (pe_op op_mul (pv 2) pe_int) (pe_op op_mul (pe_op op_mod (pe_callTy call_int1 (by rfl) B.int (by decide +kernel) (pa_cons (pv 4) pa_nil)) pe_int) pe_int)) pe_int) pa_nil)) pe_int))
      (pss_one (ps_ret (pe_lst (pa_cons (pe_ifExp (PW.pt (pw_or (pt_cmpR op_lt (pv 4) pe_int (nomark _)) (pw_or1 (pt_cmpR op_ge (pv 4) (pe_op op_pow pe_int pe_int) (nomark _)))))
          (pe_callB call_abs (by rfl) B.abs (by decide +kernel) (pa_cons (pv 4) pa_nil)) pe_int) (pa_cons (pv 2) (pa_cons pe_int pa_nil))))))))), ?_⟩
    refine ⟨_, rfl, _, _, rfl, rfl, .inl ⟨by decide, by decide⟩, _, _, rfl, rfl, ?_⟩
    refine ⟨_, rfl, 9, rfl, a, ns.map V.int, rfl, hS, fun c nc => ?_⟩
    have s1 : Same H (upd H c (.lst (cutV (ns.map V.int) none (some 9)))) := same_new nc
    refine ⟨c, rfl, ⟨_, SqL.of upd_same⟩, for_list (K := K) (a := c) (xs := cutV (ns.map V.int) none (some 9)) (fun i σ H' => ∃ (m : Int) (v : Option V), σ = [some (.ref a), some (.int t), some (.int m), v, none] ∧ Same H H' ∧ H' c = some (.lst (cutV (ns.map V.int) none (some 9))))
      ⟨_, none, rfl, s1, upd_same⟩ (fun i σ H' _ ⟨_, _, _, _, e⟩ => SqL.of e) ?_ ?_⟩
    · rintro i y σ H' hi ⟨m, v, rfl, s2, ec⟩
      obtain ⟨z, rfl⟩ := int_of_mem (cutV_mem (List.mem_of_getElem? hi))
      refine ⟨_, rfl, _, _, rfl, rfl, .inr ⟨by decide, by decide⟩, _, rfl, .inl ⟨_, rfl, _, _, rfl, rfl, (by show (0 : Int) < _; decide), _, _, rfl, rfl, .inr ⟨by decide, by decide⟩, _, _, rfl, rfl, _, _, rfl, rfl, .inl ⟨_, rfl, _, _, rfl, rfl, (by show (0 : Int) < _; decide), ?_⟩⟩⟩
      exact ⟨_, _, rfl, s2, ec⟩
    · rintro σ H' ⟨m, v, rfl, s2, ec⟩
      refine ⟨fun σ' H'' => ∃ z : Int, σ' = [some (.ref a), some (.int t), some (.int m), v, some (.int z)] ∧ H'' = H', ?_, ?_⟩
      · refine ⟨_, rfl, _, rfl, a, _, rfl, .inl (s2.seq hS), _, _, rfl, rfl, _, rfl, ite2 (fun c => ?_) (fun c => ?_)⟩
        · obtain ⟨z, hz⟩ := getI (ns := ns) ht (of_decide_eq_true c)
          exact ⟨_, rfl, _, rfl, a, _, t, _, rfl, rfl, s2.seq hS, hz, .inl ⟨_, rfl, ⟨_, rfl, rfl⟩⟩⟩
        · exact ⟨_, rfl, rfl⟩
      · rintro σ' H'' ⟨z, rfl, rfl⟩
        refine ⟨fun σ' H2 => ∃ m2 : Int, σ' = [some (.ref a), some (.int t), some (.int m2), v, some (.int z)] ∧ H2 = H'', ?_, ?_⟩
        · refine ⟨_, rfl, _, _, rfl, rfl, .inr ⟨by decide, by decide⟩, _, rfl, .inl ⟨_, rfl, _, _, rfl, rfl, (by show (0 : Int) < _; decide), _, _, rfl, rfl, .inr ⟨by decide, by decide⟩, _, _, rfl, rfl, _, _, rfl, rfl, .inl ⟨_, rfl, _, _, rfl, rfl, (by show (0 : Int) < _; decide), ?_⟩⟩⟩
          exact ⟨_, rfl, rfl⟩
        · rintro σ' H2 ⟨m2, rfl, rfl⟩
          have fin : ∀ o : Int, 0 ≤ o → ∀ p, H2 p = none → Q (.ref p) (upd H2 p (bw o m2 0)) := fun o ho p hp => k _ p o m2 (s2.trans (same_new hp)) (s2.free hp) upd_same ho
          refine ⟨_, rfl, _, _, rfl, rfl, _, rfl, ite2 (fun c => ?_) (fun c => ?_)⟩
          · refine ⟨_, rfl, z, rfl, _, rfl, by show 3 ≤ sizeLine; decide, fin _ ?_⟩
            split <;> omega
          · refine ⟨_, rfl, _, _, rfl, rfl, ⟨by decide, by decide, by decide⟩, _, _, rfl, rfl, _, rfl, ite2 (fun c => ?_) (fun c => ?_)⟩
            · refine ⟨_, rfl, z, rfl, _, rfl, by show 3 ≤ sizeLine; decide, fin _ ?_⟩
              split <;> omega
            · exact ⟨_, rfl, by show 3 ≤ sizeLine; decide, fin _ (by decide)⟩
end
end LQ

namespace LQ
open PySem PySem.Spec PyProof.Rows L2 GuL HG DL
section
variable {P : Program} {w : World} {K : PySem.W.Frag} {mg : Str → Option Value} {base : Heap}
/-! ### a draw -/
def spDraw : Sp := fun vs H Q _ => ∃ (b : Addr) (t o m c : Int), vs = [.ref b, .int t] ∧ H b = some (bw o m c) ∧ 0 ≤ o ∧ 0 < t ∧ t ≤ 4294967296 ∧
  ∀ H' r o' m' c', Exb b H H' → H' b = some (bw o' m' c') → 0 ≤ o' → 0 ≤ r → r < t → Q (.int r) H'
theorem ok_draw0 {f : Addr} {fd : FuncData} (F : Fun K "_law_draw" "_law_draw" s__law_draw f fd) (B : Blt mg) : FnOk P w K mg base CX0 1 f fd p__law_draw spDraw := by
  refine F.ok sc__law_draw (fun vs H Q E h => ?_) (fun cdv A outer s H vs Q E hr h => ?_)
  · obtain ⟨b, t, o, m, c, rfl, _⟩ := h
    rfl
  · obtain ⟨b, t, o, m, c, rfl, hb, ho, ht, ht2, k⟩ := h
    refine ⟨_, pss_cons (ps_if (pt_cmpR op_gt (pe_ix ix_list (pv 0) pe_int (fun _ _ => rfl)) pe_int (nomark _))
        (pss_cons (ps_asg (pe_callB call_divmodW (by rfl) B.divmod (by decide +kernel) (pa_cons (pe_ix ix_list (pv 0) pe_int (fun _ _ => rfl)) (pa_cons (pv 1) pa_nil)))
            (pg_tup (by rfl) (pgs_cons (pg_sub (pv 0) pe_int set_list) (pgs_cons (pg_name (i := 2) sc__law_draw.nd rfl (.inl rfl)) pgs_nil))))
          (pss_one (ps_ret (pv 2)))) pss_nil)
      (pss_cons (ps_asg (pe_op op_add (pe_ix ix_list (pv 0) pe_int (fun _ _ => rfl)) pe_int) (pg_sub (pv 0) pe_int set_list))
      (pss_cons (ps_set (i := 3) sc__law_draw.nd rfl (.inl rfl) (pe_op op_mod (pe_callTy call_int1 (by rfl) B.int (by decide +kernel) (pa_cons (pe_op op_add (pe_op op_add (pe_op op_mul (pe_ix ix_list (pv 0) pe_int (fun _ _ => rfl)) pe_int) (pe_op op_mul (pe_ix ix_list (pv 0) pe_int (fun _ _ => rfl)) pe_int)) pe_int) pa_nil)) pe_int))
      (pss_cons (ps_asg (pv 3) (pg_sub (pv 0) pe_int set_list))
      (pss_one (ps_ret (pe_op op_mod (pe_callTy call_int1 (by rfl) B.int (by decide +kernel) (pa_cons (pe_op op_fdiv (pe_op op_mod (pe_callTy call_int1 (by rfl) B.int (by decide +kernel) (pa_cons (pe_op op_mul (pv 3) (pe_op op_add (pe_op op_mod (pe_callTy call_int1 (by rfl) B.int (by decide +kernel) (pa_cons (pv 3) pa_nil)) pe_int) pe_int)) pa_nil)) pe_int) pe_int) pa_nil)) (pv 1))))))), ?_⟩
    refine ⟨_, rfl, b, _, 0, _, rfl, rfl, SqL.of hb, atI_nat (j := 0) rfl, _, _, rfl, rfl, _, rfl, ite2 (fun c1 => ?_) (fun c1 => ?_)⟩
    · have o1 : 0 < o := of_decide_eq_true c1
      refine ⟨_, rfl, b, _, 0, _, rfl, rfl, SqL.of hb, atI_nat (j := 0) rfl, _, rfl, _, _, rfl, ⟨ht, PyProof.noPylong_of_log2 ?_⟩, fun p hp => ?_⟩
      · have l40 : t.natAbs.log2 < 40 := log_small (show t.natAbs < 2 ^ 40 by omega)
        omega
      have npb : b ≠ p := ne_of_none hb hp
      refine ⟨p, _, rfl, SqT.of upd_same, rfl, _, _, rfl, _, rfl, b, _, 0, 0, rfl, rfl, (by rw [upd_ne npb]; exact hb), rfl, _, _, rfl, rfl, ?_⟩
      refine ⟨_, rfl, ?_⟩
      refine k _ _ _ _ _ ((Exb.of (same_new hp)).trans Exb.put) upd_same (Int.ediv_nonneg ho (Int.le_of_lt ht)) (Int.emod_nonneg _ (by omega)) (Int.emod_lt_of_pos _ ht)
    · refine ⟨_, rfl, b, _, 2, _, rfl, rfl, SqL.of hb, atI_nat (j := 2) rfl, _, _, rfl, rfl, _, rfl, b, _, 2, 2, rfl, rfl, hb, rfl, ?_⟩
      refine ⟨_, rfl, b, _, 1, _, rfl, rfl, SqL.of upd_same, atI_nat (j := 1) rfl, _, _, rfl, rfl, .inr ⟨by decide, by decide⟩, _, rfl, b, _, 2, _, rfl, rfl, SqL.of upd_same, atI_nat (j := 2) rfl, _, _, rfl, rfl, .inr ⟨by decide, by decide⟩, _, _, rfl, rfl, _, _, rfl, rfl, .inl ⟨_, rfl, _, _, rfl, rfl, (by show (0 : Int) < _; decide), ?_⟩⟩
      generalize hst : (m * 48271 + (c + 1) * 40009 + 3) % 2147483477 = st
      have g0 : 0 ≤ st := by rw [← hst]; exact Int.emod_nonneg _ (by decide)
      have g1 : st < 2147483477 := by rw [← hst]; exact Int.emod_lt_of_pos _ (by decide)
      refine ⟨_, rfl, _, rfl, b, _, 1, 1, rfl, rfl, upd_same, rfl, ?_⟩
      refine ⟨_, rfl, _, rfl, .inl ⟨_, rfl, _, _, rfl, rfl, (by show (0 : Int) < _; decide), _, _, rfl, rfl, _, _, rfl, rfl, .inl ⟨by omega, by omega⟩, .inl ⟨_, rfl, _, _, rfl, rfl, (by show (0 : Int) < _; decide), _, _, rfl, rfl, ⟨by decide, by decide⟩, .inl ⟨_, rfl, _, rfl, _, _, rfl, rfl, ht, ?_⟩⟩⟩⟩
      exact k _ _ _ _ _ (Exb.put.trans Exb.put) upd_same ho (Int.emod_nonneg _ (by omega)) (Int.emod_lt_of_pos _ ht)
def fDraw : DF := fun ds Q => ∃ t : Int, ds = [.int t] ∧ 0 < t ∧ t ≤ 4294967296 ∧ ∀ r : Int, 0 ≤ r → r < t → Q (.int r)
theorem moDraw : MoF fDraw := fun _ _ _ m ⟨t, e, a, b, q⟩ => ⟨t, e, a, b, fun r h1 h2 => m _ (q r h1 h2)⟩
theorem ok_draw {f : Addr} {fd : FuncData} (F : Fun K "_law_draw" "_law_draw" s__law_draw f fd) (B : Blt mg) : FnG P w K mg base CX0 1 f fd p__law_draw (spJ K fDraw) := by
  refine (FnG.of (ok_draw0 F B)).imp9 fun vs H Q E h => ?_
  obtain ⟨b, vs', ds, rfl, ⟨_, kn⟩, h2, t, rfl, h3, h4, q⟩ := h
  obtain ⟨o, m, c, e1, e2⟩ := kn rfl
  cases h2 with
  | cons h5 h6 =>
    cases h5
    cases h6
    refine ⟨b, t, o, m, c, rfl, e1, e2, h3, h4, fun H' r o' m' c' x g1 g2 r0 r1 => q r r0 r1 _ H' ⟨fun p u n h => x p u (n rfl) h, fun _ _ => ⟨o', m', c', g1, g2⟩⟩ (.int r)⟩
/-! ### one of a row -/
def fOf : DF := fun ds Q => ∃ xs : List PyData, (ds = [.tuple xs] ∨ ds = [.list xs]) ∧ 0 < xs.length ∧ xs.length ≤ 100000 ∧ ∀ x ∈ xs, Q x
theorem moOf : MoF fOf := fun _ _ _ m ⟨t, e, a, b, q⟩ => ⟨t, e, a, b, fun r h1 => m _ (q r h1)⟩
theorem ok_of {f fD : Addr} {fd dD : FuncData} (F : Fun K "_law_of" "_law_of" s__law_of f fd) (B : Blt mg) (KD : DK P w K mg base 1 "_law_draw" s__law_draw p__law_draw (spJ K fDraw) fD dD) : FnG P w K mg base CX0 2 f fd p__law_of (spJ K fOf) := by
  refine fnJ F sc__law_of moOf (fun ds Q h => ?_) (fun cdv A outer s H E b hA hr => ⟨_, (dss_one (ds_ret (de_ix (de_v (pv 1)) (de_callJ (i := 0) KD.G moDraw hA (hr.mono (by decide)) (by rfl) KD.g KD.F.kp KD.b pass0 (pv 0) (da_cons (de_len (by rfl) B.len (da_cons (de_v (pv 1)) da_nil)) da_nil)) (fun _ _ => rfl)))), fun ds Q h => ?_⟩)
  · obtain ⟨xs, rfl | rfl, _⟩ := h <;> rfl
  · obtain ⟨xs, h, h1, h2, k⟩ := h
    rcases h with rfl | rfl
    · simp only [tn0, tn1, tn2, tn3, tn4, tn5, bT, bs, b1, DL.wp, sRet, sRetN, sRetO, sSeq, sIf, sSet, sNew, sMov, sDo, sApp, sExt, sUnp, sPar, sParN, sNext, setAll, dAnd, dOr, dNot, dIf, dIsi, dv, dC, dOp, cI0, cII, gII, cSc, eSc, chI, chI3, dB, dtAnd, dtOr, dtNot, bw1, dCall, dCallJ, nCall, dCB, aCons, aNil, dTup, nLst, dNew, gLen, cLen, gTu, cTu, c2I, g2I, c1I, g1I, itm, cIx, gSl, oNo, oPt, dAll, dSum, dRepr, gCat, cCat, cInS, gInS, isN, ini, List.map, List.length, List.replicate, List.append, List.cons_append, List.nil_append, List.append_nil, List.getElem?_cons_zero, List.getElem?_cons_succ, List.set_cons_zero, List.set_cons_succ, List.length_cons, List.length_nil, Option.getD_some, true_and, and_true, if_true, if_false, isT_int_int, isT_bool_int, isT_tuple_tuple, isT_str_str, Bool.not_false, Bool.not_true, false_implies, List.length_map, Bool.false_eq_true, Bool.true_eq_false]
      refine ⟨_, rfl, by omega, by omega, fun r r0 r1 => ?_⟩
      obtain ⟨i, rfl⟩ := Int.eq_ofNat_of_zero_le r0
      have hi : i < xs.length := by omega
      refine ⟨⟨by omega, by omega⟩, ?_⟩
      show Q ((xs[i]?).getD .none)
      rw [List.getElem?_eq_getElem hi]
      exact k _ (List.getElem_mem hi)
    · simp only [tn0, tn1, tn2, tn3, tn4, tn5, bT, bs, b1, DL.wp, sRet, sRetN, sRetO, sSeq, sIf, sSet, sNew, sMov, sDo, sApp, sExt, sUnp, sPar, sParN, sNext, setAll, dAnd, dOr, dNot, dIf, dIsi, dv, dC, dOp, cI0, cII, gII, cSc, eSc, chI, chI3, dB, dtAnd, dtOr, dtNot, bw1, dCall, dCallJ, nCall, dCB, aCons, aNil, dTup, nLst, dNew, gLen, cLen, gTu, cTu, c2I, g2I, c1I, g1I, itm, cIx, gSl, oNo, oPt, dAll, dSum, dRepr, gCat, cCat, cInS, gInS, isN, ini, List.map, List.length, List.replicate, List.append, List.cons_append, List.nil_append, List.append_nil, List.getElem?_cons_zero, List.getElem?_cons_succ, List.set_cons_zero, List.set_cons_succ, List.length_cons, List.length_nil, Option.getD_some, true_and, and_true, if_true, if_false, isT_int_int, isT_bool_int, isT_tuple_tuple, isT_str_str, Bool.not_false, Bool.not_true, false_implies, List.length_map, Bool.false_eq_true, Bool.true_eq_false]
      refine ⟨_, rfl, by omega, by omega, fun r r0 r1 => ?_⟩
      obtain ⟨i, rfl⟩ := Int.eq_ofNat_of_zero_le r0
      have hi : i < xs.length := by omega
      refine ⟨⟨by omega, by omega⟩, ?_⟩
      show Q ((xs[i]?).getD .none)
      rw [List.getElem?_eq_getElem hi]
      exact k _ (List.getElem_mem hi)
/-! ### the same, by what is shown -/
def fSame : DF := fun ds Q => ∃ d : PyData, ds = [d, d] ∧ Okd d ∧ d.hasDict = false ∧ Q (.bool true)
theorem moSame : MoF fSame := fun _ _ _ m ⟨t, e, a, b, q⟩ => ⟨t, e, a, b, m _ q⟩
theorem ok_same {f : Addr} {fd : FuncData} (F : Fun K "_law_same" "_law_same" s__law_same f fd) (B : Blt mg) : FnG P w K mg base CX0 1 f fd p__law_same (spP K fSame) := by
  refine fnP F sc__law_same moSame (fun ds Q h => ?_) (fun cdv A outer s H E b hA hr => ⟨_, (dss_one (ds_ret (de_eq (de_repr hA (hu hr) (by rfl) B.repr (de_v (pv 0))) (de_repr hA (hu hr) (by rfl) B.repr (de_v (pv 1)))))), fun ds Q h => ?_⟩)
  · obtain ⟨d, rfl, _⟩ := h
    rfl
  · obtain ⟨d, rfl, h1, h2, k⟩ := h
    simp only [tn0, tn1, tn2, tn3, tn4, tn5, bT, bs, b1, DL.wp, sRet, sRetN, sRetO, sSeq, sIf, sSet, sNew, sMov, sDo, sApp, sExt, sUnp, sPar, sParN, sNext, setAll, dAnd, dOr, dNot, dIf, dIsi, dv, dC, dOp, cI0, cII, gII, cSc, eSc, chI, chI3, dB, dtAnd, dtOr, dtNot, bw1, dCall, dCallJ, nCall, dCB, aCons, aNil, dTup, nLst, dNew, gLen, cLen, gTu, cTu, c2I, g2I, c1I, g1I, itm, cIx, gSl, oNo, oPt, dAll, dSum, dRepr, gCat, cCat, cInS, gInS, isN, ini, List.map, List.length, List.replicate, List.append, List.cons_append, List.nil_append, List.append_nil, List.getElem?_cons_zero, List.getElem?_cons_succ, List.set_cons_zero, List.set_cons_succ, List.length_cons, List.length_nil, Option.getD_some, true_and, and_true, if_true, if_false, isT_int_int, isT_bool_int, isT_tuple_tuple, isT_str_str, Bool.not_false, Bool.not_true, false_implies, List.length_map, Bool.false_eq_true, Bool.true_eq_false]
    refine ⟨h1, h2, h1, h2, ?_⟩
    simpa using k
/-! ### 2 to a width -/
def fTop : DF := fun ds Q => ∃ n : Nat, ds = [.int (n : Nat)] ∧ n ≤ 32 ∧ Q (.int ((2 ^ n : Nat) : Int))
theorem moTop : MoF fTop := fun _ _ _ m ⟨t, e, a, q⟩ => ⟨t, e, a, m _ q⟩
theorem ok_top {f : Addr} {fd : FuncData} (F : Fun K "_law_top" "_law_top" s__law_top f fd) (B : Blt mg) : FnG P w K mg base CX0 1 f fd p__law_top (spP K fTop) := by
  refine fnP F sc__law_top moTop (fun ds Q h => ?_) (fun cdv A outer s H E b hA hr => ⟨_, (dss_cons (ds_set (i := 1) sc__law_top.nd rfl (by first | exact Or.inl rfl | exact Or.inr rfl) de_int) (dss_cons (ds_for (p := (.one (.n 2))) PassesOwn.never rfl (di_rng1 (by rfl) B.range (da_cons (de_v (pv 0)) da_nil)) (pg_name (i := 2) sc__law_top.nd rfl (by first | exact Or.inl rfl | exact Or.inr rfl)) (dss_one (ds_set (i := 1) sc__law_top.nd rfl (by first | exact Or.inl rfl | exact Or.inr rfl) (de_mul (de_v (pv 1)) de_int)))) (dss_one (ds_ret (de_v (pv 1)))))), fun ds Q h => ?_⟩)
  · obtain ⟨n, rfl, _⟩ := h
    rfl
  · obtain ⟨n, rfl, h1, k⟩ := h
    simp only [tn0, tn1, tn2, tn3, tn4, tn5, bT, bs, b1, DL.wp, sRet, sRetN, sRetO, sSeq, sIf, sSet, sNew, sMov, sDo, sApp, sExt, sUnp, sPar, sParN, sNext, setAll, dAnd, dOr, dNot, dIf, dIsi, dv, dC, dOp, cI0, cII, gII, cSc, eSc, chI, chI3, dB, dtAnd, dtOr, dtNot, bw1, dCall, dCallJ, nCall, dCB, aCons, aNil, dTup, nLst, dNew, gLen, cLen, gTu, cTu, c2I, g2I, c1I, g1I, itm, cIx, gSl, oNo, oPt, dAll, dSum, dRepr, gCat, cCat, cInS, gInS, isN, ini, List.map, List.length, List.replicate, List.append, List.cons_append, List.nil_append, List.append_nil, List.getElem?_cons_zero, List.getElem?_cons_succ, List.set_cons_zero, List.set_cons_succ, List.length_cons, List.length_nil, Option.getD_some, true_and, and_true, if_true, if_false, isT_int_int, isT_bool_int, isT_tuple_tuple, isT_str_str, Bool.not_false, Bool.not_true, false_implies, List.length_map, Bool.false_eq_true, Bool.true_eq_false, sFor, rng1I]
    refine ⟨.int _, ⟨by omega, by omega⟩, fun i ρ => ∃ s1, frzs [s1] = [none] ∧ ρ = [.par (.int (n : Nat)), .dat (.int ((2 ^ i : Nat) : Int)), s1], ⟨SV.nil, rfl, rfl⟩, ?_, ?_⟩
    · rintro i d ρ hd ⟨s1, hf, rfl⟩
      unfold rngD at hd
      rw [List.getElem?_map] at hd
      cases hi : (List.range ((n : Int).toNat))[i]? with
      | none => rw [hi] at hd; cases hd
      | some z =>
        rw [hi] at hd
        cases hd
        have hl := (List.getElem?_eq_some_iff.mp hi).1
        rw [List.length_range, Int.toNat_natCast] at hl
        have p2 : (2 : Nat) ^ i ≤ 2 ^ 32 := Nat.pow_le_pow_right (by decide) (by omega)
        simp only [tn0, tn1, tn2, tn3, tn4, tn5, bT, bs, b1, DL.wp, sRet, sRetN, sRetO, sSeq, sIf, sSet, sNew, sMov, sDo, sApp, sExt, sUnp, sPar, sParN, sNext, setAll, dAnd, dOr, dNot, dIf, dIsi, dv, dC, dOp, cI0, cII, gII, cSc, eSc, chI, chI3, dB, dtAnd, dtOr, dtNot, bw1, dCall, dCallJ, nCall, dCB, aCons, aNil, dTup, nLst, dNew, gLen, cLen, gTu, cTu, c2I, g2I, c1I, g1I, itm, cIx, gSl, oNo, oPt, dAll, dSum, dRepr, gCat, cCat, cInS, gInS, isN, ini, List.map, List.length, List.replicate, List.append, List.cons_append, List.nil_append, List.append_nil, List.getElem?_cons_zero, List.getElem?_cons_succ, List.set_cons_zero, List.set_cons_succ, List.length_cons, List.length_nil, Option.getD_some, true_and, and_true, if_true, if_false, isT_int_int, isT_bool_int, isT_tuple_tuple, isT_str_str, Bool.not_false, Bool.not_true, false_implies, List.length_map, Bool.false_eq_true, Bool.true_eq_false]
        refine ⟨.int _, .inr ⟨by decide, by decide⟩, .int _, .dat (.int (0 + (z : Nat))), rfl, ?_⟩
        rw [Nat.pow_succ]
        simp
    · rintro ρ ⟨s1, hf, rfl⟩
      have e : (rngD 0 ((n : Int).toNat)).length = n := by unfold rngD; rw [List.length_map, List.length_range, Int.toNat_natCast]
      rw [e]
      refine ⟨?_, k⟩
      show none :: none :: frzs [s1] = _
      rw [hf]
      rfl
end
end LQ

namespace DL
open PySem PySem.Spec PyProof.Rows L2 GuL HG
theorem de_fdivW {X : Cx} {b : Addr} {j : Bool} {e1 e2 : Expr} {pos : Pos} {ta tb : DTE} (ha : DE X b j e1 ta) (hb : DE X b j e2 tb) : DE X b j (.BinOp e1 .FloorDiv e2 pos) (dOp (cII CDivW) (gII fun i k => .int (i / k)) ta tb) := op2 (pe_op op_fdivW ha.pe hb.pe) ha.mo hb.mo (snd_I fun _ _ _ => .int _)
end DL
namespace LQ
open PySem PySem.Spec PyProof.Rows L2 GuL HG DL
abbrev s__law_keys : Stmt := topS 44
theorem sc__law_keys : FnScope ["_law_jar_here", "_law_most", "_law_wide", "_law_found", "_law_left", "_law_turn", "_law_width"] ["_law_jar_here", "_law_most", "_law_wide"] (defScope s__law_keys) := ⟨rfl, rfl, rfl, by decide +kernel, rfl, by decide +kernel, by decide +kernel⟩
abbrev n__law_keys : List Str := ["_law_jar_here", "_law_most", "_law_wide", "_law_found", "_law_left", "_law_turn", "_law_width"]
abbrev p__law_keys : List Str := ["_law_jar_here", "_law_most", "_law_wide"]
abbrev s__law_key : Stmt := topS 45
theorem sc__law_key : FnScope ["_law_jar_here", "_law_kind", "_law_width", "_law_top_here", "_law_one", "_law_two", "_law_bits", "_law_by"] ["_law_jar_here", "_law_kind", "_law_width"] (defScope s__law_key) := ⟨rfl, rfl, rfl, by decide +kernel, rfl, by decide +kernel, by decide +kernel⟩
abbrev n__law_key : List Str := ["_law_jar_here", "_law_kind", "_law_width", "_law_top_here", "_law_one", "_law_two", "_law_bits", "_law_by"]
abbrev p__law_key : List Str := ["_law_jar_here", "_law_kind", "_law_width"]
abbrev s__law_entry : Stmt := topS 46
theorem sc__law_entry : FnScope ["_law_jar_here", "_law_keys_here", "_law_told", "_law_args", "_law_kind", "_law_width"] ["_law_jar_here", "_law_keys_here"] (defScope s__law_entry) := ⟨rfl, rfl, rfl, by decide +kernel, rfl, by decide +kernel, by decide +kernel⟩
abbrev n__law_entry : List Str := ["_law_jar_here", "_law_keys_here", "_law_told", "_law_args", "_law_kind", "_law_width"]
abbrev p__law_entry : List Str := ["_law_jar_here", "_law_keys_here"]
abbrev s__law_entries : Stmt := topS 47
theorem sc__law_entries : FnScope ["_law_jar_here", "_law_keys_here", "_law_most", "_law_found", "_law_turn", "_law_entry_here", "_law_other"] ["_law_jar_here", "_law_keys_here", "_law_most"] (defScope s__law_entries) := ⟨rfl, rfl, rfl, by decide +kernel, rfl, by decide +kernel, by decide +kernel⟩
abbrev n__law_entries : List Str := ["_law_jar_here", "_law_keys_here", "_law_most", "_law_found", "_law_turn", "_law_entry_here", "_law_other"]
abbrev p__law_entries : List Str := ["_law_jar_here", "_law_keys_here", "_law_most"]
abbrev s__law_is_hit : Stmt := topS 48
theorem sc__law_is_hit : FnScope ["_law_kind", "_law_width", "_law_key_here", "_law_word", "_law_by"] ["_law_kind", "_law_width", "_law_key_here", "_law_word"] (defScope s__law_is_hit) := ⟨rfl, rfl, rfl, by decide +kernel, rfl, by decide +kernel, by decide +kernel⟩
abbrev n__law_is_hit : List Str := ["_law_kind", "_law_width", "_law_key_here", "_law_word", "_law_by"]
abbrev p__law_is_hit : List Str := ["_law_kind", "_law_width", "_law_key_here", "_law_word"]
abbrev s__law_hit : Stmt := topS 49
theorem sc__law_hit : FnScope ["_law_keys_here", "_law_entries_here", "_law_words_here", "_law_at", "_law_entry_here", "_law_key_here", "_law_word", "_law_kind", "_law_width"] ["_law_keys_here", "_law_entries_here", "_law_words_here"] (defScope s__law_hit) := ⟨rfl, rfl, rfl, by decide +kernel, rfl, by decide +kernel, by decide +kernel⟩
abbrev n__law_hit : List Str := ["_law_keys_here", "_law_entries_here", "_law_words_here", "_law_at", "_law_entry_here", "_law_key_here", "_law_word", "_law_kind", "_law_width"]
abbrev p__law_hit : List Str := ["_law_keys_here", "_law_entries_here", "_law_words_here"]
abbrev s__law_tells : Stmt := topS 50
theorem sc__law_tells : FnScope ["_law_keys_here", "_law_entries_here", "_law_words_here", "_law_at"] ["_law_keys_here", "_law_entries_here", "_law_words_here"] (defScope s__law_tells) := ⟨rfl, rfl, rfl, by decide +kernel, rfl, by decide +kernel, by decide +kernel⟩
abbrev n__law_tells : List Str := ["_law_keys_here", "_law_entries_here", "_law_words_here", "_law_at"]
abbrev p__law_tells : List Str := ["_law_keys_here", "_law_entries_here", "_law_words_here"]

theorem sum_app (a b : List Nat) : (a ++ b).sum = a.sum + b.sum := List.sum_append
theorem rng_get {lo : Int} {n i : Nat} {d : PyData} (h : (rngD lo n)[i]? = some d) : i < n ∧ d = .int (lo + (i : Nat)) := by
  unfold rngD at h
  rw [List.getElem?_map] at h
  cases e : (List.range n)[i]? with
  | none => rw [e] at h; cases h
  | some z =>
    rw [e] at h
    cases h
    have hl := (List.getElem?_eq_some_iff.mp e).1
    rw [List.length_range] at hl
    rw [List.getElem?_range hl] at e
    cases e
    exact ⟨hl, rfl⟩
theorem rng_len {lo : Int} {n : Nat} : (rngD lo n).length = n := by unfold rngD; rw [List.length_map, List.length_range]
section
variable {P : Program} {w : World} {K : PySem.W.Frag} {mg : Str → Option Value} {base : Heap}
def fKeysL : DF := fun ds Q => ∃ most wide : Nat, ds = [.int (most : Nat), .int (wide : Nat)] ∧ 1 ≤ most ∧ most ≤ 48 ∧ 1 ≤ wide ∧ wide ≤ 32 ∧
  ∀ ks : List Ky, 1 ≤ ks.length → ks.length ≤ 3 → (∀ k ∈ ks, 1 ≤ k.2 ∧ k.2 ≤ wide) → sumW ks ≤ most → Q (encKs ks)
theorem moKeysL : MoF fKeysL := fun _ _ _ m ⟨t, s, e, a, b, c, d, q⟩ => ⟨t, s, e, a, b, c, d, fun ks h1 h2 h3 h4 => m _ (q ks h1 h2 h3 h4)⟩
theorem sumW_snoc (ks : List Ky) (k : Ky) : sumW (ks ++ [k]) = sumW ks + k.2 := by
  unfold sumW
  rw [List.map_append, sum_app]
  simp
theorem kd_of {x : PyData} (h : x ∈ [PyData.str "exact", .str "prefix", .str "mask", .str "range"]) : ∃ k : Kd, x = .str k.s := by
  simp only [List.mem_cons, List.not_mem_nil, or_false] at h
  rcases h with rfl | rfl | rfl | rfl
  · exact ⟨.ex, rfl⟩
  · exact ⟨.pr, rfl⟩
  · exact ⟨.ma, rfl⟩
  · exact ⟨.ra, rfl⟩
theorem ok_keysL {f fD fO : Addr} {fd dD dO : FuncData} (F : Fun K "_law_keys" "_law_keys" s__law_keys f fd) (B : Blt mg) (KD : DK P w K mg base 1 "_law_draw" s__law_draw p__law_draw (spJ K fDraw) fD dD) (KO : DK P w K mg base 2 "_law_of" s__law_of p__law_of (spJ K fOf) fO dO) : FnG P w K mg base CX0 3 f fd p__law_keys (spJ K fKeysL) := by
  refine fnJ F sc__law_keys moKeysL (fun ds Q h => ?_) (fun cdv A outer s H E b hA hr => ⟨_, (dss_cons (ds_parN (i := 3) (k := 4) rfl sc__law_keys.nd rfl rfl (by decide) rfl rfl (dn_lst da_nil) (de_v (pv 1)) (by rfl)) (dss_cons (ds_for (p := (.one (.n 5))) PassesOwn.never rfl (di_rng1 (by rfl) B.range (da_cons (de_add de_int (de_callJ (i := 0) KD.G moDraw hA (hr.mono (by decide)) (by rfl) KD.g KD.F.kp KD.b pass0 (pv 0) (da_cons de_int da_nil))) da_nil)) (pg_name (i := 5) sc__law_keys.nd rfl (by first | exact Or.inl rfl | exact Or.inr rfl)) (dss_one (ds_if (dt_gt (de_v (pv 4)) de_int) (dss_cons (ds_set (i := 6) sc__law_keys.nd rfl (by first | exact Or.inl rfl | exact Or.inr rfl) (de_add de_int (de_callJ (i := 0) KD.G moDraw hA (hr.mono (by decide)) (by rfl) KD.g KD.F.kp KD.b pass0 (pv 0) (da_cons (de_min rfl (by rfl) B.min (da_cons (de_v (pv 4)) (da_cons (de_v (pv 2)) da_nil))) da_nil)))) (dss_cons (ds_app (i := 3) (pv 3) (de_tup (da_cons (de_callJ (i := 0) KO.G moOf hA (hr.mono (by decide)) (by rfl) KO.g KO.F.kp KO.b pass0 (pv 0) (da_cons (de_tup (da_cons de_str (da_cons de_str (da_cons de_str (da_cons de_str da_nil))))) da_nil)) (da_cons (de_v (pv 6)) da_nil)))) (dss_one (ds_set (i := 4) sc__law_keys.nd rfl (by first | exact Or.inl rfl | exact Or.inr rfl) (de_sub (de_v (pv 4)) (de_v (pv 6))))))) dss_nil))) (dss_one (ds_ret (de_tuple (by rfl) B.tuple (da_cons (de_v (pv 3)) da_nil)))))), fun ds Q h => ?_⟩)
  · obtain ⟨most, wide, rfl, _⟩ := h
    rfl
  · obtain ⟨most, wide, rfl, h1, h2, h3, h4, k⟩ := h
    simp only [tn0, tn1, tn2, tn3, tn4, tn5, bT, bs, b1, DL.wp, sRet, sRetN, sRetO, sSeq, sIf, sSet, sNew, sMov, sDo, sApp, sExt, sUnp, sPar, sParN, sNext, setAll, dAnd, dOr, dNot, dIf, dIsi, dv, dC, dOp, cI0, cII, gII, cSc, eSc, chI, chI3, dB, dtAnd, dtOr, dtNot, bw1, dCall, dCallJ, nCall, dCB, aCons, aNil, dTup, nLst, dNew, gLen, cLen, gTu, cTu, c2I, g2I, c1I, g1I, itm, cIx, gSl, oNo, oPt, dAll, dSum, dRepr, gCat, cCat, cInS, gInS, isN, ini, List.map, List.length, List.replicate, List.append, List.cons_append, List.nil_append, List.append_nil, List.getElem?_cons_zero, List.getElem?_cons_succ, List.set_cons_zero, List.set_cons_succ, List.length_cons, List.length_nil, Option.getD_some, true_and, and_true, if_true, if_false, isT_int_int, isT_bool_int, isT_tuple_tuple, isT_str_str, Bool.not_false, Bool.not_true, false_implies, List.length_map, Bool.false_eq_true, Bool.true_eq_false, sFor, rng1I]
    refine ⟨by decide, fun d hd => (nomatch hd), .int _, _, rfl, by decide, by decide, fun r r0 r1 => ⟨trivial, ⟨by omega, by omega⟩, fun i ρ => ∃ (ks : List Ky) (s5 s6 : SV), frzs [s5, s6] = [none, none] ∧
      ρ = [.jar, .par (.int (most : Nat)), .par (.int (wide : Nat)), .own (ks.map encK), .dat (.int ((most - sumW ks : Nat) : Int)), s5, s6] ∧ ks.length ≤ i ∧ (1 ≤ i → 1 ≤ ks.length) ∧ (∀ k ∈ ks, 1 ≤ k.2 ∧ k.2 ≤ wide) ∧ sumW ks ≤ most, ?_, ?_, ?_⟩⟩
    · exact ⟨[], .nil, .nil, rfl, rfl, Nat.le_refl _, fun h => absurd h (by decide), (fun k hk => nomatch hk), Nat.zero_le _⟩
    · rintro i d ρ hd ⟨ks, s5, s6, hf, rfl, g1, g2, g3, g4⟩
      obtain ⟨hi, rfl⟩ := rng_get hd
      simp only [tn0, tn1, tn2, tn3, tn4, tn5, bT, bs, b1, DL.wp, sRet, sRetN, sRetO, sSeq, sIf, sSet, sNew, sMov, sDo, sApp, sExt, sUnp, sPar, sParN, sNext, setAll, dAnd, dOr, dNot, dIf, dIsi, dv, dC, dOp, cI0, cII, gII, cSc, eSc, chI, chI3, dB, dtAnd, dtOr, dtNot, bw1, dCall, dCallJ, nCall, dCB, aCons, aNil, dTup, nLst, dNew, gLen, cLen, gTu, cTu, c2I, g2I, c1I, g1I, itm, cIx, gSl, oNo, oPt, dAll, dSum, dRepr, gCat, cCat, cInS, gInS, isN, ini, List.map, List.length, List.replicate, List.append, List.cons_append, List.nil_append, List.append_nil, List.getElem?_cons_zero, List.getElem?_cons_succ, List.set_cons_zero, List.set_cons_succ, List.length_cons, List.length_nil, Option.getD_some, true_and, and_true, if_true, if_false, isT_int_int, isT_bool_int, isT_tuple_tuple, isT_str_str, Bool.not_false, Bool.not_true, false_implies, List.length_map, Bool.false_eq_true, Bool.true_eq_false]
      refine ⟨.int _, ?_⟩
      by_cases c : (0 : Int) < ((most - sumW ks : Nat) : Int)
      · rw [if_pos (decide_eq_true c)]
        refine ⟨_, rfl, by split <;> omega, by split <;> omega, fun r r0 r1 => ⟨trivial, .int _, by decide, _, .inl rfl, by decide, by decide, fun x hx => ?_⟩⟩
        obtain ⟨kd, rfl⟩ := kd_of hx
        obtain ⟨n, rfl⟩ := Int.eq_ofNat_of_zero_le r0
        have e : (1 : Int) + (n : Int) = ((1 + n : Nat) : Int) := by omega
        have hn : 1 + n ≤ wide ∧ 1 + n ≤ most - sumW ks := by
          split at r1 <;> omega
        refine ⟨by decide, .tup (noL2 (.str _) (.int _)), by omega, trivial, .int _, ks ++ [(kd, 1 + n)], .dat (.int (0 + (i : Nat))), .dat (.int (1 + (n : Nat))), rfl, ?_, ?_, ?_, ?_, ?_⟩
        · show [_, _, _, SV.own (ks.map encK ++ [.tuple [.str kd.s, .int (1 + (n : Int))]]), SV.dat (.int (((most - sumW ks : Nat) : Int) - (1 + (n : Int)))), _, _] = _
          rw [e, List.map_append, sumW_snoc]
          have e2 : ((most - sumW ks : Nat) : Int) - ((1 + n : Nat) : Int) = ((most - (sumW ks + (1 + n)) : Nat) : Int) := by omega
          rw [e2]
          rfl
        · rw [List.length_append]
          show ks.length + 1 ≤ i + 1
          omega
        · intro _
          rw [List.length_append]
          show 1 ≤ ks.length + 1
          omega
        · intro ky hk
          rcases List.mem_append.mp hk with hk | hk
          · exact g3 ky hk
          · rw [List.mem_singleton.mp hk]
            exact ⟨by show 1 ≤ 1 + n; omega, hn.1⟩
        · rw [sumW_snoc]
          show sumW ks + (1 + n) ≤ most
          omega
      · rw [if_neg (by rw [decide_eq_false c]; exact Bool.false_ne_true)]
        refine ⟨ks, .dat (.int (0 + (i : Nat))), s6, ?_, rfl, by omega, fun _ => ?_, g3, g4⟩
        · have : frzs [s5, s6] = [none, none] := hf
          cases s6 <;> first | rfl | (cases s5 <;> cases this)
        · cases i with
          | zero =>
            have : ks = [] := List.length_eq_zero_iff.mp (by omega)
            subst this
            exact absurd (show (0 : Int) < ((most - 0 : Nat) : Int) by omega) c
          | succ i => exact g2 (by omega)
    · rintro ρ ⟨ks, s5, s6, hf, rfl, g1, g2, g3, g4⟩
      rw [rng_len] at g1 g2
      refine ⟨?_, ?_⟩
      · show none :: none :: none :: none :: none :: frzs [s5, s6] = _
        rw [hf]
        rfl
      · exact k ks (g2 (by omega)) (by omega) g3 g4
end
end LQ

namespace LQ
open PySem PySem.Spec PyProof.Rows L2 GuL HG DL
section
variable {P : Program} {w : World} {K : PySem.W.Frag} {mg : Str → Option Value} {base : Heap}
def fKeyL : DF := fun ds Q => ∃ k : Ky, ds = [.str k.1.s, .int (k.2 : Nat)] ∧ 1 ≤ k.2 ∧ k.2 ≤ 32 ∧ ∀ p : Pa, PaOk k p → Q (encP k.1 p)
theorem moKeyL : MoF fKeyL := fun _ _ _ m ⟨t, e, a, b, q⟩ => ⟨t, e, a, b, fun p h => m _ (q p h)⟩
theorem p32 {n : Nat} (h : n ≤ 32) : 2 ^ n ≤ 4294967296 := Nat.le_trans (Nat.pow_le_pow_right (by decide) h) (by decide)
theorem cmR {a : Int} {t : Nat} (h : t ≤ 4294967296) : CMul a (t : Int) := .inr ⟨by omega, by omega⟩
theorem cdw {n : Nat} {x : Int} (h : n ≤ 32) : CDivW x ((2 ^ n : Nat) : Int) := by
  have h1 := p32 h
  have h2 := Nat.two_pow_pos n
  refine ⟨by omega, ?_⟩
  have : ((2 ^ n : Nat) : Int).natAbs.log2 < 40 := log_small (show ((2 ^ n : Nat) : Int).natAbs < 2 ^ 40 by omega)
  omega
theorem ok_keyL {f fD fO fT : Addr} {fd dD dO dT : FuncData} (F : Fun K "_law_key" "_law_key" s__law_key f fd) (B : Blt mg) (KD : DK P w K mg base 1 "_law_draw" s__law_draw p__law_draw (spJ K fDraw) fD dD) (KO : DK P w K mg base 2 "_law_of" s__law_of p__law_of (spJ K fOf) fO dO) (KTp : DK P w K mg base 1 "_law_top" s__law_top p__law_top (spP K fTop) fT dT) : FnG P w K mg base CX0 3 f fd p__law_key (spJ K fKeyL) := by
  refine fnJ F sc__law_key moKeyL (fun ds Q h => ?_) (fun cdv A outer s H E b hA hr => ⟨_, (dss_cons (ds_set (i := 3) sc__law_key.nd rfl (by first | exact Or.inl rfl | exact Or.inr rfl) (de_call KTp.G moTop hA (hr.mono (by decide)) (by rfl) KTp.g KTp.F.kp KTp.b pass0 (da_cons (de_v (pv 2)) da_nil))) (dss_cons (ds_par (i := 4) (k := 5) rfl sc__law_key.nd rfl rfl (by decide) rfl rfl (de_callJ (i := 0) KD.G moDraw hA (hr.mono (by decide)) (by rfl) KD.g KD.F.kp KD.b pass0 (pv 0) (da_cons (de_v (pv 3)) da_nil)) (de_callJ (i := 0) KD.G moDraw hA (hr.mono (by decide)) (by rfl) KD.g KD.F.kp KD.b pass0 (pv 0) (da_cons (de_v (pv 3)) da_nil)) (by rfl)) (dss_cons (ds_if (dt_eq (de_v (pv 1)) de_str) (dss_one (ds_ret (de_v (pv 4)))) dss_nil) (dss_cons (ds_if (dt_eq (de_v (pv 1)) de_str) (dss_one (ds_ret (de_tup (da_cons (de_min rfl (by rfl) B.min (da_cons (de_v (pv 4)) (da_cons (de_v (pv 5)) da_nil))) (da_cons (de_max rfl (by rfl) B.max (da_cons (de_v (pv 4)) (da_cons (de_v (pv 5)) da_nil))) da_nil))))) dss_nil) (dss_cons (ds_if (dt_eq (de_v (pv 1)) de_str) (dss_one (ds_ret (de_tup (da_cons (de_and (de_v (pv 4)) (de_v (pv 5))) (da_cons (de_v (pv 5)) da_nil))))) dss_nil) (dss_cons (ds_set (i := 6) sc__law_key.nd rfl (by first | exact Or.inl rfl | exact Or.inr rfl) (de_callJ (i := 0) KO.G moOf hA (hr.mono (by decide)) (by rfl) KO.g KO.F.kp KO.b pass0 (pv 0) (da_cons (de_tup (da_cons de_int (da_cons de_int (da_cons (de_v (pv 2)) (da_cons (de_sub (de_v (pv 2)) de_int) (da_cons (de_callJ (i := 0) KD.G moDraw hA (hr.mono (by decide)) (by rfl) KD.g KD.F.kp KD.b pass0 (pv 0) (da_cons (de_add (de_v (pv 2)) de_int) da_nil)) da_nil)))))) da_nil))) (dss_cons (ds_set (i := 7) sc__law_key.nd rfl (by first | exact Or.inl rfl | exact Or.inr rfl) (de_call KTp.G moTop hA (hr.mono (by decide)) (by rfl) KTp.g KTp.F.kp KTp.b pass0 (da_cons (de_sub (de_v (pv 2)) (de_min rfl (by rfl) B.min (da_cons (de_v (pv 6)) (da_cons (de_v (pv 2)) da_nil)))) da_nil))) (dss_one (ds_ret (de_tup (da_cons (de_mul (de_fdivW (de_v (pv 4)) (de_v (pv 7))) (de_v (pv 7))) (da_cons (de_min rfl (by rfl) B.min (da_cons (de_v (pv 6)) (da_cons (de_v (pv 2)) da_nil))) da_nil)))))))))))), fun ds Q h => ?_⟩)
  · obtain ⟨k, rfl, _⟩ := h
    rfl
  · obtain ⟨⟨kd, wd⟩, rfl, h1, h2, k⟩ := h
    have h1 : 1 ≤ wd := h1
    have h2 : wd ≤ 32 := h2
    have tp := p32 h2
    have tq := Nat.two_pow_pos wd
    simp only [tn0, tn1, tn2, tn3, tn4, tn5, bT, bs, b1, DL.wp, sRet, sRetN, sRetO, sSeq, sIf, sSet, sNew, sMov, sDo, sApp, sExt, sUnp, sPar, sParN, sNext, setAll, dAnd, dOr, dNot, dIf, dIsi, dv, dC, dOp, cI0, cII, gII, cSc, eSc, chI, chI3, dB, dtAnd, dtOr, dtNot, bw1, dCall, dCallJ, nCall, dCB, aCons, aNil, dTup, nLst, dNew, gLen, cLen, gTu, cTu, c2I, g2I, c1I, g1I, itm, cIx, gSl, oNo, oPt, dAll, dSum, dRepr, gCat, cCat, cInS, gInS, isN, ini, List.map, List.length, List.replicate, List.append, List.cons_append, List.nil_append, List.append_nil, List.getElem?_cons_zero, List.getElem?_cons_succ, List.set_cons_zero, List.set_cons_succ, List.length_cons, List.length_nil, Option.getD_some, true_and, and_true, if_true, if_false, isT_int_int, isT_bool_int, isT_tuple_tuple, isT_str_str, Bool.not_false, Bool.not_true, false_implies, List.length_map, Bool.false_eq_true, Bool.true_eq_false]
    refine ⟨wd, rfl, h2, .int _, _, rfl, by omega, by omega, fun x x0 x1 => ⟨_, rfl, by omega, by omega, fun y y0 y1 => ⟨.int _, .int _, ?_⟩⟩⟩
    obtain ⟨x, rfl⟩ := Int.eq_ofNat_of_zero_le x0
    obtain ⟨y, rfl⟩ := Int.eq_ofNat_of_zero_le y0
    have hx : x < 2 ^ wd := by omega
    have hy : y < 2 ^ wd := by omega
    cases kd with
    | ex =>
      simp only [Kd.s, s01, s02, s03, s04, s05, s06, s07, s08, s09, s10, s11, s12, decide_false, decide_true, Bool.false_eq_true, if_false, if_true]
      exact k (x, 0) hx
    | ra =>
      simp only [Kd.s, s01, s02, s03, s04, s05, s06, s07, s08, s09, s10, s11, s12, decide_false, decide_true, Bool.false_eq_true, if_false, if_true, tn0, tn1, tn2, tn3, tn4, tn5, bT, bs, b1, DL.wp, sRet, sRetN, sRetO, sSeq, sIf, sSet, sNew, sMov, sDo, sApp, sExt, sUnp, sPar, sParN, sNext, setAll, dAnd, dOr, dNot, dIf, dIsi, dv, dC, dOp, cI0, cII, gII, cSc, eSc, chI, chI3, dB, dtAnd, dtOr, dtNot, bw1, dCall, dCallJ, nCall, dCB, aCons, aNil, dTup, nLst, dNew, gLen, cLen, gTu, cTu, c2I, g2I, c1I, g1I, itm, cIx, gSl, oNo, oPt, dAll, dSum, dRepr, gCat, cCat, cInS, gInS, isN, ini, List.map, List.length, List.replicate, List.append, List.cons_append, List.nil_append, List.append_nil, List.getElem?_cons_zero, List.getElem?_cons_succ, List.set_cons_zero, List.set_cons_succ, List.length_cons, List.length_nil, Option.getD_some, true_and, and_true, if_true, if_false, isT_int_int, isT_bool_int, isT_tuple_tuple, isT_str_str, Bool.not_false, Bool.not_true, false_implies, List.length_map, Bool.false_eq_true, Bool.true_eq_false]
      refine ⟨by decide, ?_⟩
      have e1 : (if (y : Int) < (x : Int) then (y : Int) else (x : Int)) = ((min x y : Nat) : Int) := by split <;> omega
      have e2 : (if (y : Int) > (x : Int) then (y : Int) else (x : Int)) = ((max x y : Nat) : Int) := by split <;> omega
      rw [e1, e2]
      exact k (min x y, max x y) ⟨by show min x y ≤ max x y; omega, by show max x y < 2 ^ wd; omega⟩
    | ma =>
      simp only [Kd.s, s01, s02, s03, s04, s05, s06, s07, s08, s09, s10, s11, s12, decide_false, decide_true, Bool.false_eq_true, if_false, if_true, tn0, tn1, tn2, tn3, tn4, tn5, bT, bs, b1, DL.wp, sRet, sRetN, sRetO, sSeq, sIf, sSet, sNew, sMov, sDo, sApp, sExt, sUnp, sPar, sParN, sNext, setAll, dAnd, dOr, dNot, dIf, dIsi, dv, dC, dOp, cI0, cII, gII, cSc, eSc, chI, chI3, dB, dtAnd, dtOr, dtNot, bw1, dCall, dCallJ, nCall, dCB, aCons, aNil, dTup, nLst, dNew, gLen, cLen, gTu, cTu, c2I, g2I, c1I, g1I, itm, cIx, gSl, oNo, oPt, dAll, dSum, dRepr, gCat, cCat, cInS, gInS, isN, ini, List.map, List.length, List.replicate, List.append, List.cons_append, List.nil_append, List.append_nil, List.getElem?_cons_zero, List.getElem?_cons_succ, List.set_cons_zero, List.set_cons_succ, List.length_cons, List.length_nil, Option.getD_some, true_and, and_true, if_true, if_false, isT_int_int, isT_bool_int, isT_tuple_tuple, isT_str_str, Bool.not_false, Bool.not_true, false_implies, List.length_map, Bool.false_eq_true, Bool.true_eq_false]
      refine ⟨by decide, ?_⟩
      rw [bAnd]
      refine k (x &&& y, y) ⟨?_, hy, ?_⟩
      · exact Nat.and_lt_two_pow _ hy
      · show x &&& y &&& y = x &&& y
        rw [Nat.and_assoc, Nat.and_self]
    | pr =>
      simp only [Kd.s, s01, s02, s03, s04, s05, s06, s07, s08, s09, s10, s11, s12, decide_false, decide_true, Bool.false_eq_true, if_false, if_true, tn0, tn1, tn2, tn3, tn4, tn5, bT, bs, b1, DL.wp, sRet, sRetN, sRetO, sSeq, sIf, sSet, sNew, sMov, sDo, sApp, sExt, sUnp, sPar, sParN, sNext, setAll, dAnd, dOr, dNot, dIf, dIsi, dv, dC, dOp, cI0, cII, gII, cSc, eSc, chI, chI3, dB, dtAnd, dtOr, dtNot, bw1, dCall, dCallJ, nCall, dCB, aCons, aNil, dTup, nLst, dNew, gLen, cLen, gTu, cTu, c2I, g2I, c1I, g1I, itm, cIx, gSl, oNo, oPt, dAll, dSum, dRepr, gCat, cCat, cInS, gInS, isN, ini, List.map, List.length, List.replicate, List.append, List.cons_append, List.nil_append, List.append_nil, List.getElem?_cons_zero, List.getElem?_cons_succ, List.set_cons_zero, List.set_cons_succ, List.length_cons, List.length_nil, Option.getD_some, true_and, and_true, if_true, if_false, isT_int_int, isT_bool_int, isT_tuple_tuple, isT_str_str, Bool.not_false, Bool.not_true, false_implies, List.length_map, Bool.false_eq_true, Bool.true_eq_false]
      refine ⟨_, rfl, by omega, by omega, fun z z0 z1 => ⟨by decide, _, .inl rfl, (by show 0 < 5; decide), (by show 5 ≤ 100000; decide), fun u hu => ?_⟩⟩
      obtain ⟨z, rfl⟩ := Int.eq_ofNat_of_zero_le z0
      have hu' : ∃ m : Nat, u = .int (m : Nat) := by
        simp only [List.mem_cons, List.not_mem_nil, or_false] at hu
        rcases hu with rfl | rfl | rfl | rfl | rfl
        · exact ⟨0, rfl⟩
        · exact ⟨1, rfl⟩
        · exact ⟨wd, rfl⟩
        · exact ⟨wd - 1, by rw [show ((wd : Int) - 1) = ((wd - 1 : Nat) : Int) by omega]⟩
        · exact ⟨z, rfl⟩
      obtain ⟨m, rfl⟩ := hu'
      simp only [tn0, tn1, tn2, tn3, tn4, tn5, bT, bs, b1, DL.wp, sRet, sRetN, sRetO, sSeq, sIf, sSet, sNew, sMov, sDo, sApp, sExt, sUnp, sPar, sParN, sNext, setAll, dAnd, dOr, dNot, dIf, dIsi, dv, dC, dOp, cI0, cII, gII, cSc, eSc, chI, chI3, dB, dtAnd, dtOr, dtNot, bw1, dCall, dCallJ, nCall, dCB, aCons, aNil, dTup, nLst, dNew, gLen, cLen, gTu, cTu, c2I, g2I, c1I, g1I, itm, cIx, gSl, oNo, oPt, dAll, dSum, dRepr, gCat, cCat, cInS, gInS, isN, ini, List.map, List.length, List.replicate, List.append, List.cons_append, List.nil_append, List.append_nil, List.getElem?_cons_zero, List.getElem?_cons_succ, List.set_cons_zero, List.set_cons_succ, List.length_cons, List.length_nil, Option.getD_some, true_and, and_true, if_true, if_false, isT_int_int, isT_bool_int, isT_tuple_tuple, isT_str_str, Bool.not_false, Bool.not_true, false_implies, List.length_map, Bool.false_eq_true, Bool.true_eq_false]
      have e1 : (if (wd : Int) < (m : Int) then (wd : Int) else (m : Int)) = ((min m wd : Nat) : Int) := by split <;> omega
      rw [e1]
      have e2 : (wd : Int) - ((min m wd : Nat) : Int) = ((wd - min m wd : Nat) : Int) := by omega
      rw [e2]
      have q1 := p32 (show wd - min m wd ≤ 32 by omega)
      have cm : CMul ((x : Int) / ((2 ^ (wd - min m wd) : Nat) : Int)) ((2 ^ (wd - min m wd) : Nat) : Int) := cmR q1
      refine ⟨.int _, _, rfl, by omega, .int _, cdw (by omega), cm, by show 2 ≤ 1000; decide, ?_⟩
      show Q (.tuple [.int ((x : Int) / ((2 ^ (wd - min m wd) : Nat) : Int) * ((2 ^ (wd - min m wd) : Nat) : Int)), .int ((min m wd : Nat) : Int)])
      have e3 : (x : Int) / ((2 ^ (wd - min m wd) : Nat) : Int) * ((2 ^ (wd - min m wd) : Nat) : Int) = ((x / 2 ^ (wd - min m wd) * 2 ^ (wd - min m wd) : Nat) : Int) := by
        rw [Int.natCast_mul, Int.natCast_ediv]
      rw [e3]
      refine k (x / 2 ^ (wd - min m wd) * 2 ^ (wd - min m wd), min m wd) ⟨?_, ?_, ?_⟩
      · exact Nat.lt_of_le_of_lt (Nat.div_mul_le_self _ _) hx
      · show min m wd ≤ wd
        omega
      · show x / 2 ^ (wd - min m wd) * 2 ^ (wd - min m wd) % 2 ^ (wd - min m wd) = 0
        exact Nat.mul_mod_left _ _
/-! ### the law's own hits -/
theorem ok_ishitL {f fT : Addr} {fd dT : FuncData} (F : Fun K "_law_is_hit" "_law_is_hit" s__law_is_hit f fd) (B : Blt mg) (KTp : DK P w K mg base 1 "_law_top" s__law_top p__law_top (spP K fTop) fT dT) : FnG P w K mg base CX0 2 f fd p__law_is_hit (spP K fKeyHit) := by
  refine fnP F sc__law_is_hit moKeyHit (fun ds Q h => ?_) (fun cdv A outer s H E b hA hr => ⟨_, (dss_cons (ds_if (dt_eq (de_v (pv 0)) de_str) (dss_one (ds_ret (de_eq (de_v (pv 3)) (de_v (pv 2))))) dss_nil) (dss_cons (ds_if (dt_eq (de_v (pv 0)) de_str) (dss_one (ds_ret (de_lele (de_ix (de_v (pv 2)) de_int (fun _ _ => rfl)) (de_v (pv 3)) (de_ix (de_v (pv 2)) de_int (fun _ _ => rfl))))) dss_nil) (dss_cons (ds_if (dt_eq (de_v (pv 0)) de_str) (dss_one (ds_ret (de_eq (de_and (de_v (pv 3)) (de_ix (de_v (pv 2)) de_int (fun _ _ => rfl))) (de_and (de_ix (de_v (pv 2)) de_int (fun _ _ => rfl)) (de_ix (de_v (pv 2)) de_int (fun _ _ => rfl)))))) dss_nil) (dss_cons (ds_set (i := 4) sc__law_is_hit.nd rfl (by first | exact Or.inl rfl | exact Or.inr rfl) (de_call KTp.G moTop hA (hr.mono (by decide)) (by rfl) KTp.g KTp.F.kp KTp.b pass0 (da_cons (de_sub (de_v (pv 1)) (de_ix (de_v (pv 2)) de_int (fun _ _ => rfl))) da_nil))) (dss_one (ds_ret (de_eq (de_fdivW (de_v (pv 3)) (de_v (pv 4))) (de_fdivW (de_ix (de_v (pv 2)) de_int (fun _ _ => rfl)) (de_v (pv 4)))))))))), fun ds Q h => ?_⟩)
  · obtain ⟨k, p, v, rfl, _⟩ := h
    rfl
  · obtain ⟨⟨kd, wd⟩, ⟨x, y⟩, v, rfl, hp, hw, hv, k⟩ := h
    have hw : wd ≤ 32 := hw
    cases kd with
    | ex =>
      simp only [tn0, tn1, tn2, tn3, tn4, tn5, bT, bs, b1, DL.wp, sRet, sRetN, sRetO, sSeq, sIf, sSet, sNew, sMov, sDo, sApp, sExt, sUnp, sPar, sParN, sNext, setAll, dAnd, dOr, dNot, dIf, dIsi, dv, dC, dOp, cI0, cII, gII, cSc, eSc, chI, chI3, dB, dtAnd, dtOr, dtNot, bw1, dCall, dCallJ, nCall, dCB, aCons, aNil, dTup, nLst, dNew, gLen, cLen, gTu, cTu, c2I, g2I, c1I, g1I, itm, cIx, gSl, oNo, oPt, dAll, dSum, dRepr, gCat, cCat, cInS, gInS, isN, ini, List.map, List.length, List.replicate, List.append, List.cons_append, List.nil_append, List.append_nil, List.getElem?_cons_zero, List.getElem?_cons_succ, List.set_cons_zero, List.set_cons_succ, List.length_cons, List.length_nil, Option.getD_some, true_and, and_true, if_true, if_false, isT_int_int, isT_bool_int, isT_tuple_tuple, isT_str_str, Bool.not_false, Bool.not_true, false_implies, List.length_map, Bool.false_eq_true, Bool.true_eq_false, encP, Kd.s, s01, s02, s03, s04, s05, s06, s07, s08, s09, s10, s11, s12, decide_false, decide_true, Bool.false_eq_true, if_false, if_true]
      have e : decide ((v : Int) = (x : Int)) = decide (v = x) := by
        rw [decide_eq_decide]
        omega
      rw [e]
      exact k
    | ra =>
      simp only [tn0, tn1, tn2, tn3, tn4, tn5, bT, bs, b1, DL.wp, sRet, sRetN, sRetO, sSeq, sIf, sSet, sNew, sMov, sDo, sApp, sExt, sUnp, sPar, sParN, sNext, setAll, dAnd, dOr, dNot, dIf, dIsi, dv, dC, dOp, cI0, cII, gII, cSc, eSc, chI, chI3, dB, dtAnd, dtOr, dtNot, bw1, dCall, dCallJ, nCall, dCB, aCons, aNil, dTup, nLst, dNew, gLen, cLen, gTu, cTu, c2I, g2I, c1I, g1I, itm, cIx, gSl, oNo, oPt, dAll, dSum, dRepr, gCat, cCat, cInS, gInS, isN, ini, List.map, List.length, List.replicate, List.append, List.cons_append, List.nil_append, List.append_nil, List.getElem?_cons_zero, List.getElem?_cons_succ, List.set_cons_zero, List.set_cons_succ, List.length_cons, List.length_nil, Option.getD_some, true_and, and_true, if_true, if_false, isT_int_int, isT_bool_int, isT_tuple_tuple, isT_str_str, Bool.not_false, Bool.not_true, false_implies, List.length_map, Bool.false_eq_true, Bool.true_eq_false, encP, Kd.s, s01, s02, s03, s04, s05, s06, s07, s08, s09, s10, s11, s12, decide_false, decide_true, Bool.false_eq_true, if_false, if_true]
      have k' : Q (.bool (decide (x ≤ v) && decide (v ≤ y))) := k
      simp
      by_cases h1 : x ≤ v <;> by_cases h2 : v ≤ y <;> simpa [h1, h2] using k'
    | ma =>
      have h3 : x &&& y = x := hp.2.2
      simp only [tn0, tn1, tn2, tn3, tn4, tn5, bT, bs, b1, DL.wp, sRet, sRetN, sRetO, sSeq, sIf, sSet, sNew, sMov, sDo, sApp, sExt, sUnp, sPar, sParN, sNext, setAll, dAnd, dOr, dNot, dIf, dIsi, dv, dC, dOp, cI0, cII, gII, cSc, eSc, chI, chI3, dB, dtAnd, dtOr, dtNot, bw1, dCall, dCallJ, nCall, dCB, aCons, aNil, dTup, nLst, dNew, gLen, cLen, gTu, cTu, c2I, g2I, c1I, g1I, itm, cIx, gSl, oNo, oPt, dAll, dSum, dRepr, gCat, cCat, cInS, gInS, isN, ini, List.map, List.length, List.replicate, List.append, List.cons_append, List.nil_append, List.append_nil, List.getElem?_cons_zero, List.getElem?_cons_succ, List.set_cons_zero, List.set_cons_succ, List.length_cons, List.length_nil, Option.getD_some, true_and, and_true, if_true, if_false, isT_int_int, isT_bool_int, isT_tuple_tuple, isT_str_str, Bool.not_false, Bool.not_true, false_implies, List.length_map, Bool.false_eq_true, Bool.true_eq_false, encP, Kd.s, s01, s02, s03, s04, s05, s06, s07, s08, s09, s10, s11, s12, decide_false, decide_true, Bool.false_eq_true, if_false, if_true]
      refine ⟨⟨by omega, by omega⟩, ⟨by omega, by omega⟩, ⟨by omega, by omega⟩, ?_⟩
      rw [bAnd, bAnd, h3]
      have e : decide (((v &&& y : Nat) : Int) = (x : Int)) = decide (v &&& y = x) := by
        rw [decide_eq_decide]
        omega
      rw [e]
      exact k
    | pr =>
      have h2 : y ≤ wd := hp.2.1
      simp only [tn0, tn1, tn2, tn3, tn4, tn5, bT, bs, b1, DL.wp, sRet, sRetN, sRetO, sSeq, sIf, sSet, sNew, sMov, sDo, sApp, sExt, sUnp, sPar, sParN, sNext, setAll, dAnd, dOr, dNot, dIf, dIsi, dv, dC, dOp, cI0, cII, gII, cSc, eSc, chI, chI3, dB, dtAnd, dtOr, dtNot, bw1, dCall, dCallJ, nCall, dCB, aCons, aNil, dTup, nLst, dNew, gLen, cLen, gTu, cTu, c2I, g2I, c1I, g1I, itm, cIx, gSl, oNo, oPt, dAll, dSum, dRepr, gCat, cCat, cInS, gInS, isN, ini, List.map, List.length, List.replicate, List.append, List.cons_append, List.nil_append, List.append_nil, List.getElem?_cons_zero, List.getElem?_cons_succ, List.set_cons_zero, List.set_cons_succ, List.length_cons, List.length_nil, Option.getD_some, true_and, and_true, if_true, if_false, isT_int_int, isT_bool_int, isT_tuple_tuple, isT_str_str, Bool.not_false, Bool.not_true, false_implies, List.length_map, Bool.false_eq_true, Bool.true_eq_false, encP, Kd.s, s01, s02, s03, s04, s05, s06, s07, s08, s09, s10, s11, s12, decide_false, decide_true, Bool.false_eq_true, if_false, if_true]
      refine ⟨⟨by omega, by omega⟩, ?_⟩
      have e2 : (wd : Int) - (y : Int) = ((wd - y : Nat) : Int) := by omega
      rw [e2]
      refine ⟨_, rfl, by omega, .int _, cdw (by omega), ⟨by omega, by omega⟩, cdw (by omega), trivial, ?_⟩
      show Q (.bool (decide ((v : Int) / ((2 ^ (wd - y) : Nat) : Int) = (x : Int) / ((2 ^ (wd - y) : Nat) : Int))))
      rw [← Int.natCast_ediv, ← Int.natCast_ediv]
      have e : decide (((v / 2 ^ (wd - y) : Nat) : Int) = ((x / 2 ^ (wd - y) : Nat) : Int)) = decide (v / 2 ^ (wd - y) = x / 2 ^ (wd - y)) := by
        rw [decide_eq_decide]
        omega
      rw [e]
      exact k
end
end LQ

namespace LQ
open PySem PySem.Spec PyProof.Rows L2 GuL HG DL
section
variable {P : Program} {w : World} {K : PySem.W.Frag} {mg : Str → Option Value} {base : Heap}
theorem ok_hitL {f fK : Addr} {fd dK : FuncData} (F : Fun K "_law_hit" "_law_hit" s__law_hit f fd) (B : Blt mg) (KIh : DK P w K mg base 2 "_law_is_hit" s__law_is_hit p__law_is_hit (spP K fKeyHit) fK dK) : FnG P w K mg base CX0 3 f fd p__law_hit (spP K fFirst) := by
  refine fnP F sc__law_hit moFirst (fun ds Q h => ?_) (fun cdv A outer s H E b hA hr => ⟨_, (dss_cons (ds_for (p := (.one (.t [3, 4]))) PassesOwn.never rfl (di_en (by rfl) B.enumerate (da_cons (de_v (pv 1)) da_nil)) (pg_tup rfl (pgs_cons (pg_name (i := 3) sc__law_hit.nd rfl (by first | exact Or.inl rfl | exact Or.inr rfl)) (pgs_cons (pg_name (i := 4) sc__law_hit.nd rfl (by first | exact Or.inl rfl | exact Or.inr rfl)) pgs_nil))) (dss_one (ds_if (dt_val (de_all rfl (by rfl) B.all (de_new (dn_lc rfl sc__law_hit.nd (own := [("_law_key_here", 5), ("_law_word", 6), ("_law_kind", 7), ("_law_width", 8)]) (p := (.row [(.t [7, 8]), (.n 5), (.n 6)])) (di_z3 (by rfl) B.zip (da_cons (de_v (pv 0)) (da_cons (de_ix (de_v (pv 4)) de_int (fun _ _ => rfl)) (da_cons (de_v (pv 2)) da_nil)))) (blkOk_by (N := ["_law_keys_here", "_law_entries_here", "_law_words_here", "_law_at", "_law_entry_here", "_law_key_here", "_law_word", "_law_kind", "_law_width"]) (sc := defScope s__law_hit) (by decide +kernel)) (by decide) (fun _ _ _ _ _ => (pg_tup rfl (pgs_cons (pg_tup rfl (pgs_cons (pg_name (i := 7) sc__law_hit.nd rfl (by first | exact Or.inl rfl | exact Or.inr rfl)) (pgs_cons (pg_name (i := 8) sc__law_hit.nd rfl (by first | exact Or.inl rfl | exact Or.inr rfl)) pgs_nil))) (pgs_cons (pg_name (i := 5) sc__law_hit.nd rfl (by first | exact Or.inl rfl | exact Or.inr rfl)) (pgs_cons (pg_name (i := 6) sc__law_hit.nd rfl (by first | exact Or.inl rfl | exact Or.inr rfl)) pgs_nil))))) (fun _ _ _ _ _ => (de_call KIh.G moKeyHit hA (hr.mono (by decide)) (by rfl) KIh.g KIh.F.kp KIh.b pass0 (da_cons (de_v (pv 7)) (da_cons (de_v (pv 8)) (da_cons (de_v (pv 5)) (da_cons (de_v (pv 6)) da_nil)))))))))) (dss_one (ds_ret (de_v (pv 3)))) dss_nil))) (dss_one (ds_ret de_non))), fun ds Q h => ?_⟩)
  · obtain ⟨ks, ps, ws, rfl, _⟩ := h
    rfl
  · obtain ⟨ks, es, ws, rfl, h1, h2, h3, h4, k⟩ := h
    simp only [tn0, tn1, tn2, tn3, tn4, tn5, bT, bs, b1, DL.wp, sRet, sRetN, sRetO, sSeq, sIf, sSet, sNew, sMov, sDo, sApp, sExt, sUnp, sPar, sParN, sNext, setAll, dAnd, dOr, dNot, dIf, dIsi, dv, dC, dOp, cI0, cII, gII, cSc, eSc, chI, chI3, dB, dtAnd, dtOr, dtNot, bw1, dCall, dCallJ, nCall, dCB, aCons, aNil, dTup, nLst, dNew, gLen, cLen, gTu, cTu, c2I, g2I, c1I, g1I, itm, cIx, gSl, oNo, oPt, dAll, dSum, dRepr, gCat, cCat, cInS, gInS, isN, ini, List.map, List.length, List.replicate, List.append, List.cons_append, List.nil_append, List.append_nil, List.getElem?_cons_zero, List.getElem?_cons_succ, List.set_cons_zero, List.set_cons_succ, List.length_cons, List.length_nil, Option.getD_some, true_and, and_true, if_true, if_false, isT_int_int, isT_bool_int, isT_tuple_tuple, isT_str_str, Bool.not_false, Bool.not_true, false_implies, List.length_map, Bool.false_eq_true, Bool.true_eq_false, sFor, enI, encEs]
    refine ⟨fun _ => noL_encEs ks es, fun i ρ => (∀ j, j < i → ∀ e, es[j]? = some e → hitPs ks e.ps ws = false) ∧ ∃ s1 s2 s3 s4 s5 s6, frzs [s1, s2, s3, s4, s5, s6] = [none, none, none, none, none, none] ∧ ρ = [.par (encKs ks), .par (.tuple (es.map (encE ks))), .par (encW ws), s1, s2, s3, s4, s5, s6], ⟨fun j hj => absurd hj (Nat.not_lt_zero j), .nil, .nil, .nil, .nil, .nil, .nil, rfl, rfl⟩, ?_, ?_⟩
    · rintro i d ρ hd ⟨hn, s1, s2, s3, s4, s5, s6, hf, rfl⟩
      obtain ⟨x, hx, rfl⟩ := enD_get hd
      rw [List.getElem?_map] at hx
      cases he : es[i]? with
      | none => rw [he] at hx; cases hx
      | some e =>
        rw [he] at hx
        cases hx
        have me : e ∈ es := List.mem_of_getElem? he
        have l1 := encPs_len (h1 e me)
        have l2 := h2.len
        simp only [tn0, tn1, tn2, tn3, tn4, tn5, bT, bs, b1, DL.wp, sRet, sRetN, sRetO, sSeq, sIf, sSet, sNew, sMov, sDo, sApp, sExt, sUnp, sPar, sParN, sNext, setAll, dAnd, dOr, dNot, dIf, dIsi, dv, dC, dOp, cI0, cII, gII, cSc, eSc, chI, chI3, dB, dtAnd, dtOr, dtNot, bw1, dCall, dCallJ, nCall, dCB, aCons, aNil, dTup, nLst, dNew, gLen, cLen, gTu, cTu, c2I, g2I, c1I, g1I, itm, cIx, gSl, oNo, oPt, dAll, dSum, dRepr, gCat, cCat, cInS, gInS, isN, ini, List.map, List.length, List.replicate, List.append, List.cons_append, List.nil_append, List.append_nil, List.getElem?_cons_zero, List.getElem?_cons_succ, List.set_cons_zero, List.set_cons_succ, List.length_cons, List.length_nil, Option.getD_some, true_and, and_true, if_true, if_false, isT_int_int, isT_bool_int, isT_tuple_tuple, isT_str_str, Bool.not_false, Bool.not_true, false_implies, List.length_map, Bool.false_eq_true, Bool.true_eq_false, encE, nLc, z3I, encKs, encW]
        refine ⟨noL2 (.int _) (noL_encE ks e), ⟨by omega, by omega⟩, l1.symm, l2.symm, ?_, fun i e' => ((hitL ks e.ps ws).map PyData.bool)[i]? = some e', fun i d hd => ?_, fun xs e1 e2 => ?_⟩
        · rw [zp3_len (by rw [List.length_map, l1]) (by rw [List.length_map, List.length_map, l2]), List.length_map]
          omega
        · obtain ⟨⟨kd, wd⟩, p, v, rfl, g1, g2, g3, g4⟩ := at3 (h1 e me) h2 h3 hd
          simp only [tn0, tn1, tn2, tn3, tn4, tn5, bT, bs, b1, DL.wp, sRet, sRetN, sRetO, sSeq, sIf, sSet, sNew, sMov, sDo, sApp, sExt, sUnp, sPar, sParN, sNext, setAll, dAnd, dOr, dNot, dIf, dIsi, dv, dC, dOp, cI0, cII, gII, cSc, eSc, chI, chI3, dB, dtAnd, dtOr, dtNot, bw1, dCall, dCallJ, nCall, dCB, aCons, aNil, dTup, nLst, dNew, gLen, cLen, gTu, cTu, c2I, g2I, c1I, g1I, itm, cIx, gSl, oNo, oPt, dAll, dSum, dRepr, gCat, cCat, cInS, gInS, isN, ini, List.map, List.length, List.replicate, List.append, List.cons_append, List.nil_append, List.append_nil, List.getElem?_cons_zero, List.getElem?_cons_succ, List.set_cons_zero, List.set_cons_succ, List.length_cons, List.length_nil, Option.getD_some, true_and, and_true, if_true, if_false, isT_int_int, isT_bool_int, isT_tuple_tuple, isT_str_str, Bool.not_false, Bool.not_true, false_implies, List.length_map, Bool.false_eq_true, Bool.true_eq_false, encK]
          exact ⟨noL2 (.str _) (.int _), noL_encP _ _, noL_int _, (kd, wd), p, v, rfl, g1, g3, g2, .bl _, g4⟩
        · rw [zp3_len (by rw [List.length_map, l1]) (by rw [List.length_map, List.length_map, l2]), List.length_map] at e1
          have e3 := row_ext e1 (by rw [List.length_map, hitL_len (h1 e me) h2]) e2
          refine ⟨hitL ks e.ps ws, by rw [e3], ?_⟩
          rw [hitL_all]
          cases c : hitPs ks e.ps ws with
          | true =>
            have e2 : fst0 ks ws es = some i := by
              unfold fst0
              rw [List.findIdx?_eq_some_iff_getElem]
              obtain ⟨hi, he'⟩ := List.getElem?_eq_some_iff.mp he
              refine ⟨hi, by rw [he']; exact c, fun j hj => ?_⟩
              rw [hn j hj _ (List.getElem?_eq_getElem (by omega))]
              exact Bool.false_ne_true
            rw [e2] at k
            exact k
          | false =>
            refine ⟨fun j hj x hx => ?_, .dat (.int (i : Nat)), .dat (encE ks e), s3, s4, s5, s6, ?_, rfl⟩
            · by_cases z : j = i
              · subst z
                rw [he] at hx
                cases hx
                exact c
              · exact hn j (by omega) x hx
            · cases s1 <;> cases s2 <;> first | exact hf | cases hf
    · rintro ρ ⟨hn, s1, s2, s3, s4, s5, s6, hf, rfl⟩
      rw [enD_len, List.length_map] at hn
      refine ⟨?_, ?_⟩
      · show none :: none :: none :: frzs [s1, s2, s3, s4, s5, s6] = _
        rw [hf]
        rfl
      · have e2 : fst0 ks ws es = none := by
          unfold fst0
          rw [List.findIdx?_eq_none_iff]
          intro x hx
          obtain ⟨j, hj⟩ := List.mem_iff_getElem?.mp hx
          exact hn j (List.getElem?_eq_some_iff.mp hj).1 x hj
        rw [e2] at k
        exact k
def fTells : DF := fun ds Q => ∃ (ks : List Ky) (es : List En) (ws : List Nat), ds = [encKs ks, encEs ks es, encW ws] ∧ (∀ e ∈ es, PsOk ks e.ps) ∧ WsOk ks ws ∧ KsOk ks ∧ ks.length ≤ 3 ∧ Q (toldD ks es ws)
theorem moTells : MoF fTells := fun _ _ _ m ⟨ks, ps, ws, e, a, b, c, d, q⟩ => ⟨ks, ps, ws, e, a, b, c, d, m _ q⟩
theorem ok_tells {f f2 : Addr} {fd d2 : FuncData} (F : Fun K "_law_tells" "_law_tells" s__law_tells f fd) (KLh : DK P w K mg base 3 "_law_hit" s__law_hit p__law_hit (spP K fFirst) f2 d2) : FnG P w K mg base CX0 4 f fd p__law_tells (spP K fTells) := by
  refine fnP F sc__law_tells moTells (fun ds Q h => ?_) (fun cdv A outer s H E b hA hr => ⟨_, (dss_cons (ds_set (i := 3) sc__law_tells.nd rfl (by first | exact Or.inl rfl | exact Or.inr rfl) (de_call KLh.G moFirst hA (hr.mono (by decide)) (by rfl) KLh.g KLh.F.kp KLh.b pass0 (da_cons (de_v (pv 0)) (da_cons (de_v (pv 1)) (da_cons (de_v (pv 2)) da_nil))))) (dss_one (ds_ret (de_if (dt_isN (de_v (pv 3))) de_non (de_sl (de_ix (de_v (pv 1)) (de_v (pv 3)) (fun _ _ => rfl)) (do_pt de_int) do_no))))), fun ds Q h => ?_⟩)
  · obtain ⟨k, es, ws, rfl, _⟩ := h
    rfl
  · obtain ⟨ks, es, ws, rfl, h1, h2, h3, h4, k⟩ := h
    simp only [tn0, tn1, tn2, tn3, tn4, tn5, bT, bs, b1, DL.wp, sRet, sRetN, sRetO, sSeq, sIf, sSet, sNew, sMov, sDo, sApp, sExt, sUnp, sPar, sParN, sNext, setAll, dAnd, dOr, dNot, dIf, dIsi, dv, dC, dOp, cI0, cII, gII, cSc, eSc, chI, chI3, dB, dtAnd, dtOr, dtNot, bw1, dCall, dCallJ, nCall, dCB, aCons, aNil, dTup, nLst, dNew, gLen, cLen, gTu, cTu, c2I, g2I, c1I, g1I, itm, cIx, gSl, oNo, oPt, dAll, dSum, dRepr, gCat, cCat, cInS, gInS, isN, ini, List.map, List.length, List.replicate, List.append, List.cons_append, List.nil_append, List.append_nil, List.getElem?_cons_zero, List.getElem?_cons_succ, List.set_cons_zero, List.set_cons_succ, List.length_cons, List.length_nil, Option.getD_some, true_and, and_true, if_true, if_false, isT_int_int, isT_bool_int, isT_tuple_tuple, isT_str_str, Bool.not_false, Bool.not_true, false_implies, List.length_map, Bool.false_eq_true, Bool.true_eq_false]
    refine ⟨ks, es, ws, rfl, h1, h2, h3, h4, ?_⟩
    unfold toldD at k
    cases hf : fst0 ks ws es with
    | none =>
      rw [hf] at k
      simp only [tn0, tn1, tn2, tn3, tn4, tn5, bT, bs, b1, DL.wp, sRet, sRetN, sRetO, sSeq, sIf, sSet, sNew, sMov, sDo, sApp, sExt, sUnp, sPar, sParN, sNext, setAll, dAnd, dOr, dNot, dIf, dIsi, dv, dC, dOp, cI0, cII, gII, cSc, eSc, chI, chI3, dB, dtAnd, dtOr, dtNot, bw1, dCall, dCallJ, nCall, dCB, aCons, aNil, dTup, nLst, dNew, gLen, cLen, gTu, cTu, c2I, g2I, c1I, g1I, itm, cIx, gSl, oNo, oPt, dAll, dSum, dRepr, gCat, cCat, cInS, gInS, isN, ini, List.map, List.length, List.replicate, List.append, List.cons_append, List.nil_append, List.append_nil, List.getElem?_cons_zero, List.getElem?_cons_succ, List.set_cons_zero, List.set_cons_succ, List.length_cons, List.length_nil, Option.getD_some, true_and, and_true, if_true, if_false, isT_int_int, isT_bool_int, isT_tuple_tuple, isT_str_str, Bool.not_false, Bool.not_true, false_implies, List.length_map, Bool.false_eq_true, Bool.true_eq_false, oInt]
      exact ⟨.non, k⟩
    | some i =>
      rw [hf] at k
      have hi := fst0_lt hf
      have k : Q (match es[i]? with | some e => deedD e | none => .none) := k
      rw [List.getElem?_eq_getElem hi] at k
      simp only [tn0, tn1, tn2, tn3, tn4, tn5, bT, bs, b1, DL.wp, sRet, sRetN, sRetO, sSeq, sIf, sSet, sNew, sMov, sDo, sApp, sExt, sUnp, sPar, sParN, sNext, setAll, dAnd, dOr, dNot, dIf, dIsi, dv, dC, dOp, cI0, cII, gII, cSc, eSc, chI, chI3, dB, dtAnd, dtOr, dtNot, bw1, dCall, dCallJ, nCall, dCB, aCons, aNil, dTup, nLst, dNew, gLen, cLen, gTu, cTu, c2I, g2I, c1I, g1I, itm, cIx, gSl, oNo, oPt, dAll, dSum, dRepr, gCat, cCat, cInS, gInS, isN, ini, List.map, List.length, List.replicate, List.append, List.cons_append, List.nil_append, List.append_nil, List.getElem?_cons_zero, List.getElem?_cons_succ, List.set_cons_zero, List.set_cons_succ, List.length_cons, List.length_nil, Option.getD_some, true_and, and_true, if_true, if_false, isT_int_int, isT_bool_int, isT_tuple_tuple, isT_str_str, Bool.not_false, Bool.not_true, false_implies, List.length_map, Bool.false_eq_true, Bool.true_eq_false, oInt, encEs]
      refine ⟨.int _, ⟨by omega, by omega⟩, ?_⟩
      rw [Int.toNat_natCast, List.getElem?_map, List.getElem?_eq_getElem hi]
      simp only [tn0, tn1, tn2, tn3, tn4, tn5, bT, bs, b1, DL.wp, sRet, sRetN, sRetO, sSeq, sIf, sSet, sNew, sMov, sDo, sApp, sExt, sUnp, sPar, sParN, sNext, setAll, dAnd, dOr, dNot, dIf, dIsi, dv, dC, dOp, cI0, cII, gII, cSc, eSc, chI, chI3, dB, dtAnd, dtOr, dtNot, bw1, dCall, dCallJ, nCall, dCB, aCons, aNil, dTup, nLst, dNew, gLen, cLen, gTu, cTu, c2I, g2I, c1I, g1I, itm, cIx, gSl, oNo, oPt, dAll, dSum, dRepr, gCat, cCat, cInS, gInS, isN, ini, List.map, List.length, List.replicate, List.append, List.cons_append, List.nil_append, List.append_nil, List.getElem?_cons_zero, List.getElem?_cons_succ, List.set_cons_zero, List.set_cons_succ, List.length_cons, List.length_nil, Option.getD_some, true_and, and_true, if_true, if_false, isT_int_int, isT_bool_int, isT_tuple_tuple, isT_str_str, Bool.not_false, Bool.not_true, false_implies, List.length_map, Bool.false_eq_true, Bool.true_eq_false, Option.map_some, encE, cut13]
      exact k
/-! ### entries are drawn -/
def fEntryL : DF := fun ds Q => ∃ ks : List Ky, ds = [encKs ks] ∧ KsOk ks ∧ ks.length ≤ 3 ∧ ∀ e : En, EnOk ks e → Q (encE ks e)
theorem moEntryL : MoF fEntryL := fun _ _ _ m ⟨ks, e, a, b, q⟩ => ⟨ks, e, a, b, fun e h => m _ (q e h)⟩
theorem ps_of : ∀ {ks : List Ky} {ds : List PyData}, ds.length = ks.length → (∀ (i : Nat) d, ds[i]? = some d → ∃ k p, ks[i]? = some k ∧ PaOk k p ∧ d = encP k.1 p) → ∃ ps, PsOk ks ps ∧ ds = encPs ks ps
  | [], [], _, _ => ⟨[], True.intro, rfl⟩
  | k :: ks, d :: ds, h, g => by
    obtain ⟨k', p, h1, h2, h3⟩ := g 0 d rfl
    cases h1
    obtain ⟨ps, g1, g2⟩ := ps_of (ks := ks) (ds := ds) (by simpa using h) fun i d hd => by
      obtain ⟨k', p', q1, q2, q3⟩ := g (i + 1) d (by simpa using hd)
      exact ⟨k', p', by simpa using q1, q2, q3⟩
    exact ⟨p :: ps, ⟨h2, g1⟩, by rw [h3, g2]; rfl⟩
theorem ok_entryL {f fD fO fT : Addr} {fd dD dO dT : FuncData} (F : Fun K "_law_entry" "_law_entry" s__law_entry f fd) (B : Blt mg) (KD : DK P w K mg base 1 "_law_draw" s__law_draw p__law_draw (spJ K fDraw) fD dD) (KO : DK P w K mg base 2 "_law_of" s__law_of p__law_of (spJ K fOf) fO dO) (KKy : DK P w K mg base 3 "_law_key" s__law_key p__law_key (spJ K fKeyL) fT dT) : FnG P w K mg base CX0 4 f fd p__law_entry (spJ K fEntryL) := by
  refine fnJ F sc__law_entry moEntryL (fun ds Q h => ?_) (fun cdv A outer s H E b hA hr => ⟨_, (dss_cons (ds_set (i := 2) sc__law_entry.nd rfl (by first | exact Or.inl rfl | exact Or.inr rfl) (de_tuple (by rfl) B.tuple (da_cons (de_new (dn_lc rfl sc__law_entry.nd (own := [("_law_kind", 4), ("_law_width", 5)]) (p := (.one (.t [4, 5]))) (di_tup (de_v (pv 1))) (blkOk_by (N := ["_law_jar_here", "_law_keys_here", "_law_told", "_law_args", "_law_kind", "_law_width"]) (sc := defScope s__law_entry) (by decide +kernel)) (by decide) (fun _ _ _ _ _ => (pg_tup rfl (pgs_cons (pg_name (i := 4) sc__law_entry.nd rfl (by first | exact Or.inl rfl | exact Or.inr rfl)) (pgs_cons (pg_name (i := 5) sc__law_entry.nd rfl (by first | exact Or.inl rfl | exact Or.inr rfl)) pgs_nil)))) (fun _ _ _ _ _ => (de_callJ (i := 0) KKy.G moKeyL hA (hr.mono (by decide)) (by rfl) KKy.g KKy.F.kp KKy.b pass0 (pv 0) (da_cons (de_v (pv 4)) (da_cons (de_v (pv 5)) da_nil)))))) da_nil))) (dss_cons (ds_set (i := 3) sc__law_entry.nd rfl (by first | exact Or.inl rfl | exact Or.inr rfl) (de_ix (de_tup (da_cons (de_tup da_nil) (da_cons (de_tup da_nil) (da_cons (de_tup (da_cons de_int da_nil)) (da_cons (de_tup (da_cons de_int da_nil)) (da_cons (de_tup (da_cons (de_callJ (i := 0) KD.G moDraw hA (hr.mono (by decide)) (by rfl) KD.g KD.F.kp KD.b pass0 (pv 0) (da_cons de_int da_nil)) (da_cons de_int da_nil))) (da_cons (de_tup (da_cons de_int (da_cons de_int (da_cons de_int (da_cons de_int da_nil))))) da_nil))))))) (de_callJ (i := 0) KD.G moDraw hA (hr.mono (by decide)) (by rfl) KD.g KD.F.kp KD.b pass0 (pv 0) (da_cons de_int da_nil)) (fun _ _ => rfl))) (dss_one (ds_ret (de_tup (da_cons (de_v (pv 2)) (da_cons (de_callJ (i := 0) KO.G moOf hA (hr.mono (by decide)) (by rfl) KO.g KO.F.kp KO.b pass0 (pv 0) (da_cons (de_tup (da_cons de_str (da_cons de_str (da_cons de_str (da_cons de_str da_nil))))) da_nil)) (da_cons (de_v (pv 3)) da_nil)))))))), fun ds Q h => ?_⟩)
  · obtain ⟨k, rfl, _⟩ := h
    rfl
  · obtain ⟨ks, rfl, h1, h2, k⟩ := h
    simp only [tn0, tn1, tn2, tn3, tn4, tn5, bT, bs, b1, DL.wp, sRet, sRetN, sRetO, sSeq, sIf, sSet, sNew, sMov, sDo, sApp, sExt, sUnp, sPar, sParN, sNext, setAll, dAnd, dOr, dNot, dIf, dIsi, dv, dC, dOp, cI0, cII, gII, cSc, eSc, chI, chI3, dB, dtAnd, dtOr, dtNot, bw1, dCall, dCallJ, nCall, dCB, aCons, aNil, dTup, nLst, dNew, gLen, cLen, gTu, cTu, c2I, g2I, c1I, g1I, itm, cIx, gSl, oNo, oPt, dAll, dSum, dRepr, gCat, cCat, cInS, gInS, isN, ini, List.map, List.length, List.replicate, List.append, List.cons_append, List.nil_append, List.append_nil, List.getElem?_cons_zero, List.getElem?_cons_succ, List.set_cons_zero, List.set_cons_succ, List.length_cons, List.length_nil, Option.getD_some, true_and, and_true, if_true, if_false, isT_int_int, isT_bool_int, isT_tuple_tuple, isT_str_str, Bool.not_false, Bool.not_true, false_implies, List.length_map, Bool.false_eq_true, Bool.true_eq_false, nLc, tupI, encKs]
    refine ⟨by omega, fun i e => ∃ k p, ks[i]? = some k ∧ PaOk k p ∧ e = encP k.1 p, fun i d hd => ?_, fun xs e1 e2 => ?_⟩
    · rw [List.getElem?_map] at hd
      cases hk : ks[i]? with
      | none => rw [hk] at hd; cases hd
      | some ky =>
        rw [hk] at hd
        cases hd
        have q := h1 ky (List.mem_of_getElem? hk)
        simp only [tn0, tn1, tn2, tn3, tn4, tn5, bT, bs, b1, DL.wp, sRet, sRetN, sRetO, sSeq, sIf, sSet, sNew, sMov, sDo, sApp, sExt, sUnp, sPar, sParN, sNext, setAll, dAnd, dOr, dNot, dIf, dIsi, dv, dC, dOp, cI0, cII, gII, cSc, eSc, chI, chI3, dB, dtAnd, dtOr, dtNot, bw1, dCall, dCallJ, nCall, dCB, aCons, aNil, dTup, nLst, dNew, gLen, cLen, gTu, cTu, c2I, g2I, c1I, g1I, itm, cIx, gSl, oNo, oPt, dAll, dSum, dRepr, gCat, cCat, cInS, gInS, isN, ini, List.map, List.length, List.replicate, List.append, List.cons_append, List.nil_append, List.append_nil, List.getElem?_cons_zero, List.getElem?_cons_succ, List.set_cons_zero, List.set_cons_succ, List.length_cons, List.length_nil, Option.getD_some, true_and, and_true, if_true, if_false, isT_int_int, isT_bool_int, isT_tuple_tuple, isT_str_str, Bool.not_false, Bool.not_true, false_implies, List.length_map, Bool.false_eq_true, Bool.true_eq_false, encK]
        exact ⟨noL2 (.str _) (.int _), ky, rfl, q.1, q.2, fun p hp => ⟨noL_encP _ _, ky, p, hk, hp, rfl⟩⟩
    · obtain ⟨ps, g1, rfl⟩ := ps_of e1 e2
      refine ⟨.tup (noL_encPs _ _), by decide, by decide, by decide, by decide, _, rfl, by decide, by decide, fun d d0 d1 => ⟨(by show 2 ≤ 1000; decide), (by show 4 ≤ 1000; decide), (by show 6 ≤ 1000; decide), _, rfl, by decide, by decide, fun y y0 y1 => ?_⟩⟩
      obtain ⟨d, rfl⟩ := Int.eq_ofNat_of_zero_le d0
      obtain ⟨y, rfl⟩ := Int.eq_ofNat_of_zero_le y0
      obtain ⟨args, a1, a2, a3⟩ : ∃ args : List Nat, args.length ≤ 4 ∧ (∀ a ∈ args, a < 2 ^ 32) ∧ ([PyData.tuple [], PyData.tuple [], PyData.tuple [PyData.int 1], PyData.tuple [PyData.int 2], PyData.tuple [.int (d : Int), PyData.int 0], PyData.tuple [PyData.int 4294967295, PyData.int 5, PyData.int 0, PyData.int 1]])[y]?.getD PyData.none = .tuple (args.map fun a => .int (a : Nat)) := by
        have hy : y < 6 := by omega
        have hd : d < 3 := by omega
        match y, hy with
        | 0, _ => exact ⟨[], by decide, by decide, rfl⟩
        | 1, _ => exact ⟨[], by decide, by decide, rfl⟩
        | 2, _ => exact ⟨[1], by decide, by decide, rfl⟩
        | 3, _ => exact ⟨[2], by decide, by decide, rfl⟩
        | 4, _ => exact ⟨[d, 0], by show 2 ≤ 4; decide, fun a ha => by
            simp only [List.mem_cons, List.not_mem_nil, or_false] at ha
            rcases ha with rfl | rfl <;> omega, rfl⟩
        | 5, _ => exact ⟨[4294967295, 5, 0, 1], by decide, by decide, rfl⟩
      refine ⟨⟨by omega, by show (y : Int) < 6; omega⟩, ?_⟩
      show NoL ((_ : List PyData)[y]?.getD PyData.none) ∧ _
      rw [a3]
      refine ⟨.tup (noL_ints _), by show 4 ≤ 1000; decide, _, .inl rfl, by decide, by decide, fun x hx => ⟨by show 3 ≤ 1000; decide, ?_⟩⟩
      obtain ⟨z, hz, rfl⟩ : ∃ z, z ∈ acts ∧ x = .str z := by
        simp only [List.mem_cons, List.not_mem_nil, or_false] at hx
        rcases hx with rfl | rfl | rfl | rfl
        · exact ⟨_, by decide, rfl⟩
        · exact ⟨_, by decide, rfl⟩
        · exact ⟨_, by decide, rfl⟩
        · exact ⟨_, by decide, rfl⟩
      show Q (.tuple [.tuple (encPs ks ps), .str z, (_ : List PyData)[y]?.getD PyData.none])
      rw [a3]
      exact k ⟨ps, z, args⟩ ⟨g1, hz, a1, a2⟩
end
end LQ

namespace DL
open PySem PySem.Spec PyProof.Rows L2 GuL HG
def dNeg (t : DTE) : DTE := fun ρ Q => t ρ fun d => match d with | .int i => Q (.int (-i)) | _ => False
theorem de_neg {X : Cx} {b : Addr} {j : Bool} {e : Expr} {pos : Pos} {ta : DTE} (ha : DE X b j e ta) : DE X b j (.UnaryOp .USub e pos) (dNeg ta) := by
  refine ⟨peI (pe_un un_neg ha.pe) ?_, fun ρ Q Q' m q => ha.mo _ _ _ (fun d h => by cases d <;> first | exact h.elim | exact m _ h) q⟩
  rintro σ H Q ⟨ρ, H0, G, r, q⟩
  refine ⟨ρ, H0, G, r, ha.mo _ _ _ (fun d q v H1 s1 hv => ?_) q⟩
  cases hv <;> first | exact q.elim | exact ⟨_, rfl, q _ H1 s1 (.int _)⟩
end DL
namespace LQ
open PySem PySem.Spec PyProof.Rows L2 GuL HG DL
abbrev s__law_words : Stmt := topS 52
theorem sc__law_words : FnScope ["_law_jar_here", "_law_keys_here", "_law_found", "_law_kind", "_law_width", "_law_top_here"] ["_law_jar_here", "_law_keys_here"] (defScope s__law_words) := ⟨rfl, rfl, rfl, by decide +kernel, rfl, by decide +kernel, by decide +kernel⟩
abbrev n__law_words : List Str := ["_law_jar_here", "_law_keys_here", "_law_found", "_law_kind", "_law_width", "_law_top_here"]
abbrev p__law_words : List Str := ["_law_jar_here", "_law_keys_here"]
abbrev s__law_edges : Stmt := topS 53
theorem sc__law_edges : FnScope ["_law_jar_here", "_law_keys_here", "_law_entries_here", "_law_found", "_law_entry_here", "_law_kind", "_law_width", "_law_key_here", "_law_one", "_law_top_here"] ["_law_jar_here", "_law_keys_here", "_law_entries_here"] (defScope s__law_edges) := ⟨rfl, rfl, rfl, by decide +kernel, rfl, by decide +kernel, by decide +kernel⟩
abbrev n__law_edges : List Str := ["_law_jar_here", "_law_keys_here", "_law_entries_here", "_law_found", "_law_entry_here", "_law_kind", "_law_width", "_law_key_here", "_law_one", "_law_top_here"]
abbrev p__law_edges : List Str := ["_law_jar_here", "_law_keys_here", "_law_entries_here"]
abbrev s__law_all_words : Stmt := topS 51
theorem sc__law_all_words : FnScope ["_law_keys_here", "_law_found", "_law_kind", "_law_width", "_law_longer", "_law_words_here", "_law_word"] ["_law_keys_here"] (defScope s__law_all_words) := ⟨rfl, rfl, rfl, by decide +kernel, rfl, by decide +kernel, by decide +kernel⟩
abbrev n__law_all_words : List Str := ["_law_keys_here", "_law_found", "_law_kind", "_law_width", "_law_longer", "_law_words_here", "_law_word"]
abbrev p__law_all_words : List Str := ["_law_keys_here"]

section
variable {P : Program} {w : World} {K : PySem.W.Frag} {mg : Str → Option Value} {base : Heap}
/-! ### how great entries are -/
theorem pa_bound {k : Ky} {p : Pa} (h : PaOk k p) (hk : k.2 ≤ 32) : p.1 < 4294967296 ∧ (k.1 ≠ .ex → p.2 < 4294967296) := by
  obtain ⟨kd, wd⟩ := k
  have q := p32 (show wd ≤ 32 from hk)
  cases kd with
  | ex => exact ⟨Nat.lt_of_lt_of_le (show p.1 < 2 ^ wd from h) q, fun z => absurd rfl z⟩
  | pr =>
    have h1 : p.1 < 2 ^ wd := h.1
    have h2 : p.2 ≤ wd := h.2.1
    have h3 : wd ≤ 32 := hk
    exact ⟨Nat.lt_of_lt_of_le h1 q, fun _ => by omega⟩
  | ma =>
    have h1 : p.1 < 2 ^ wd := h.1
    have h2 : p.2 < 2 ^ wd := h.2.1
    exact ⟨Nat.lt_of_lt_of_le h1 q, fun _ => Nat.lt_of_lt_of_le h2 q⟩
  | ra =>
    have h1 : p.1 ≤ p.2 := h.1
    have h2 : p.2 < 2 ^ wd := h.2
    exact ⟨by omega, fun _ => by omega⟩
theorem sm_encP {k : Ky} {p : Pa} (h : PaOk k p) (hk : k.2 ≤ 32) : Sm 1 84 (encP k.1 p) := by
  obtain ⟨h1, h2⟩ := pa_bound h hk
  obtain ⟨kd, wd⟩ := k
  have two : kd ≠ .ex → Sm 1 84 (.tuple [.int (p.1 : Nat), .int (p.2 : Nat)]) := fun z => by
    have h3 := h2 z
    exact .tup ((Sms.cons (.int (by omega) (by omega)) (Sms.cons (.int (by omega) (by omega)) .nil)).mono (Nat.le_refl _) (by decide))
  cases kd with
  | ex => exact (Sm.int (i := (p.1 : Nat)) (by omega) (by omega)).mono (by decide) (by decide)
  | pr => exact two (by decide)
  | ma => exact two (by decide)
  | ra => exact two (by decide)
theorem sms_encPs : ∀ {ks : List Ky} {ps : List Pa}, PsOk ks ps → KsOk ks → Sms 1 (ks.length * 85) (encPs ks ps)
  | [], [], _, _ => Sms.nil.mono (Nat.le_refl _) (by decide)
  | k :: ks, p :: ps, h, h2 => by
    refine (Sms.cons (sm_encP h.1 (h2 k List.mem_cons_self).2) (sms_encPs h.2 fun k hk => h2 k (List.mem_cons_of_mem _ hk))).mono (Nat.le_refl _) ?_
    rw [List.length_cons, Nat.succ_mul]
    omega
theorem sm_act {z : Str} (h : z ∈ acts) : Sm 0 20 (.str z) := by
  simp only [acts, List.mem_cons, List.not_mem_nil, or_false] at h
  rcases h with rfl | rfl | rfl | rfl <;> exact .str (by decide +kernel) (by decide +kernel)
theorem sms_args {as : List Nat} (h : as.length ≤ 4) (h2 : ∀ a ∈ as, a < 2 ^ 32) : Sms 0 168 (as.map fun a => PyData.int (a : Nat)) := by
  refine (Sms.all (k := 0) (n := 41) fun d hd => ?_).mono (Nat.le_refl _) (by rw [List.length_map]; omega)
  obtain ⟨a, ha, rfl⟩ := List.mem_map.mp hd
  have := h2 a ha
  exact .int (by omega) (by omega)
theorem sm_encE {ks : List Ky} {e : En} (h : EnOk ks e) (hk : KsOk ks) (hl : ks.length ≤ 3) : Sm 3 500 (encE ks e) :=
  .tup ((Sms.cons (Sm.tup (sms_encPs h.ps hk)) (Sms.cons (k := 2) ((sm_act h.act).mono (by decide) (Nat.le_refl _)) (Sms.cons (k := 2) ((Sm.tup (sms_args h.len h.arg)).mono (by decide) (Nat.le_refl _)) .nil))).mono (Nat.le_refl _) (by omega))
theorem eqv_nil (ds : List PyData) : PyData.eqv (.list ds) (.list []) = ds.isEmpty := by
  cases ds with
  | nil => simp [PyData.eqv, PyData.eqvAll]
  | cons _ _ => simp [PyData.eqv, PyData.eqvAll]
def fEntriesL : DF := fun ds Q => ∃ (ks : List Ky) (most : Nat), ds = [encKs ks, .int (most : Nat)] ∧ KsOk ks ∧ ks.length ≤ 3 ∧ most ≤ 100 ∧ ∀ es : List En, (∀ e ∈ es, EnOk ks e) → es.length ≤ most → Q (encEs ks es)
theorem moEntriesL : MoF fEntriesL := fun _ _ _ m ⟨ks, t, e, a, b, c, q⟩ => ⟨ks, t, e, a, b, c, fun e h h2 => m _ (q e h h2)⟩
theorem ok_entriesL {f fD fO fT : Addr} {fd dD dO dT : FuncData} (F : Fun K "_law_entries" "_law_entries" s__law_entries f fd) (B : Blt mg) (KD : DK P w K mg base 1 "_law_draw" s__law_draw p__law_draw (spJ K fDraw) fD dD) (KO : DK P w K mg base 2 "_law_of" s__law_of p__law_of (spJ K fOf) fO dO) (KEn : DK P w K mg base 4 "_law_entry" s__law_entry p__law_entry (spJ K fEntryL) fT dT) : FnG P w K mg base CX0 5 f fd p__law_entries (spJ K fEntriesL) := by
  refine fnJ F sc__law_entries moEntriesL (fun ds Q h => ?_) (fun cdv A outer s H E b hA hr => ⟨_, (dss_cons (ds_new (i := 3) sc__law_entries.nd rfl (by first | exact Or.inl rfl | exact Or.inr rfl) (dn_lst da_nil)) (dss_cons (ds_for (p := (.one (.n 4))) PassesOwn.never rfl (di_rng1 (by rfl) B.range (da_cons (de_callJ (i := 0) KD.G moDraw hA (hr.mono (by decide)) (by rfl) KD.g KD.F.kp KD.b pass0 (pv 0) (da_cons (de_add (de_v (pv 2)) de_int) da_nil)) da_nil)) (pg_name (i := 4) sc__law_entries.nd rfl (by first | exact Or.inl rfl | exact Or.inr rfl)) (dss_cons (ds_set (i := 5) sc__law_entries.nd rfl (by first | exact Or.inl rfl | exact Or.inr rfl) (de_callJ (i := 0) KEn.G moEntryL hA (hr.mono (by decide)) (by rfl) KEn.g KEn.F.kp KEn.b pass0 (pv 0) (da_cons (de_v (pv 1)) da_nil))) (dss_cons (ds_if (DW.dt (dw_and (dt_neD (hu hr) (de_v (pv 3)) (de_new (dn_lst da_nil))) (dw_and1 (dt_eq (de_callJ (i := 0) KD.G moDraw hA (hr.mono (by decide)) (by rfl) KD.g KD.F.kp KD.b pass0 (pv 0) (da_cons de_int da_nil)) de_int)))) (dss_cons (ds_set (i := 6) sc__law_entries.nd rfl (by first | exact Or.inl rfl | exact Or.inr rfl) (de_callJ (i := 0) KO.G moOf hA (hr.mono (by decide)) (by rfl) KO.g KO.F.kp KO.b pass0 (pv 0) (da_cons (de_v (pv 3)) da_nil))) (dss_one (ds_set (i := 5) sc__law_entries.nd rfl (by first | exact Or.inl rfl | exact Or.inr rfl) (de_if (dt_eq (de_callJ (i := 0) KD.G moDraw hA (hr.mono (by decide)) (by rfl) KD.g KD.F.kp KD.b pass0 (pv 0) (da_cons de_int da_nil)) de_int) (de_cat (de_tup (da_cons (de_ix (de_v (pv 6)) de_int (fun _ _ => rfl)) da_nil)) (de_sl (de_v (pv 5)) (do_pt de_int) do_no)) (de_cat (de_tup (da_cons (de_ix (de_v (pv 5)) de_int (fun _ _ => rfl)) da_nil)) (de_sl (de_v (pv 6)) (do_pt de_int) do_no)))))) dss_nil) (dss_one (ds_app (i := 3) (pv 3) (de_v (pv 5))))))) (dss_one (ds_ret (de_tuple (by rfl) B.tuple (da_cons (de_v (pv 3)) da_nil)))))), fun ds Q h => ?_⟩)
  · obtain ⟨k, t, rfl, _⟩ := h
    rfl
  · obtain ⟨ks, most, rfl, h1, h2, h3, k⟩ := h
    simp only [tn0, tn1, tn2, tn3, tn4, tn5, bT, bs, b1, DL.wp, sRet, sRetN, sRetO, sSeq, sIf, sSet, sNew, sMov, sDo, sApp, sExt, sUnp, sPar, sParN, sNext, setAll, dAnd, dOr, dNot, dIf, dIsi, dv, dC, dOp, cI0, cII, gII, cSc, eSc, chI, chI3, dB, dtAnd, dtOr, dtNot, bw1, dCall, dCallJ, nCall, dCB, aCons, aNil, dTup, nLst, dNew, gLen, cLen, gTu, cTu, c2I, g2I, c1I, g1I, itm, cIx, gSl, oNo, oPt, dAll, dSum, dRepr, gCat, cCat, cInS, gInS, isN, ini, List.map, List.length, List.replicate, List.append, List.cons_append, List.nil_append, List.append_nil, List.getElem?_cons_zero, List.getElem?_cons_succ, List.set_cons_zero, List.set_cons_succ, List.length_cons, List.length_nil, Option.getD_some, true_and, and_true, if_true, if_false, isT_int_int, isT_bool_int, isT_tuple_tuple, isT_str_str, Bool.not_false, Bool.not_true, false_implies, List.length_map, Bool.false_eq_true, Bool.true_eq_false, sFor, rng1I]
    refine ⟨by decide, fun d hd => (nomatch hd), _, rfl, by omega, by omega, fun r r0 r1 => ⟨⟨by omega, by omega⟩, fun i ρ => ∃ (es : List En) (s4 s5 s6 : SV), frzs [s4, s5, s6] = [none, none, none] ∧
      ρ = [.jar, .par (encKs ks), .par (.int (most : Nat)), .own (es.map (encE ks)), s4, s5, s6] ∧ es.length = i ∧ ∀ e ∈ es, EnOk ks e, ⟨[], .nil, .nil, .nil, rfl, rfl, rfl, fun e he => nomatch he⟩, ?_, ?_⟩⟩
    · rintro i d ρ hd ⟨es, s4, s5, s6, hf, rfl, g1, g2⟩
      obtain ⟨hi, rfl⟩ := rng_get hd
      simp only [tn0, tn1, tn2, tn3, tn4, tn5, bT, bs, b1, DL.wp, sRet, sRetN, sRetO, sSeq, sIf, sSet, sNew, sMov, sDo, sApp, sExt, sUnp, sPar, sParN, sNext, setAll, dAnd, dOr, dNot, dIf, dIsi, dv, dC, dOp, cI0, cII, gII, cSc, eSc, chI, chI3, dB, dtAnd, dtOr, dtNot, bw1, dCall, dCallJ, nCall, dCB, aCons, aNil, dTup, nLst, dNew, gLen, cLen, gTu, cTu, c2I, g2I, c1I, g1I, itm, cIx, gSl, oNo, oPt, dAll, dSum, dRepr, gCat, cCat, cInS, gInS, isN, ini, List.map, List.length, List.replicate, List.append, List.cons_append, List.nil_append, List.append_nil, List.getElem?_cons_zero, List.getElem?_cons_succ, List.set_cons_zero, List.set_cons_succ, List.length_cons, List.length_nil, Option.getD_some, true_and, and_true, if_true, if_false, isT_int_int, isT_bool_int, isT_tuple_tuple, isT_str_str, Bool.not_false, Bool.not_true, false_implies, List.length_map, Bool.false_eq_true, Bool.true_eq_false]
      refine ⟨.int _, ks, rfl, h1, h2, fun e he => ⟨noL_encE ks e, ?_⟩⟩
      have sm : Sms 3 (es.length * 501) (es.map (encE ks)) := by
        have := Sms.all (k := 3) (n := 500) (ds := es.map (encE ks)) fun d hd => by
          obtain ⟨x, hx, rfl⟩ := List.mem_map.mp hd
          exact sm_encE (g2 x hx) h1 h2
        rwa [List.length_map] at this
      have fin : ∀ (e' : En) (s6' : SV), EnOk ks e' → s6' = s6 ∨ (∃ d, s6' = .dat d) → ∃ (es' : List En) (s4 s5 s6 : SV), frzs [s4, s5, s6] = [none, none, none] ∧
          [SV.jar, .par (encKs ks), .par (.int (most : Nat)), .own (es.map (encE ks) ++ [encE ks e']), .dat (.int (0 + (i : Nat))), .dat (encE ks e'), s6'] = [.jar, .par (encKs ks), .par (.int (most : Nat)), .own (es'.map (encE ks)), s4, s5, s6] ∧ es'.length = i + 1 ∧ ∀ e ∈ es', EnOk ks e := fun e' s6' he' hs => by
        refine ⟨es ++ [e'], _, _, _, ?_, by rw [List.map_append]; rfl, by rw [List.length_append, g1]; rfl, fun x hx => ?_⟩
        · rcases hs with rfl | ⟨d, rfl⟩
          · cases s4 <;> cases s5 <;> first | exact hf | cases hf
          · rfl
        · rcases List.mem_append.mp hx with hx | hx
          · exact g2 x hx
          · rw [List.mem_singleton.mp hx]; exact he'
      refine ⟨by decide, ⟨sm.shaped (by decide), (Sms.nil (k := 0)).shaped (by decide)⟩, ?_⟩
      rw [eqv_nil]
      by_cases c : es = []
      · subst c
        exact ⟨noL_encE ks e, by decide, fin e s6 he (.inl rfl)⟩
      · have hne : (es.map (encE ks)).isEmpty = false := by
          cases es with
          | nil => exact absurd rfl c
          | cons _ _ => rfl
        have hpos : 0 < (es.map (encE ks)).length := by
          rw [List.length_map]
          exact List.length_pos_iff.mpr c
        rw [hne]
        refine ⟨_, rfl, by decide, by decide, fun x x0 x1 => ⟨trivial, ?_⟩⟩
        show if decide (x = 0) = true then _ else _
        by_cases hx : x = 0
        · rw [if_pos (decide_eq_true hx)]
          refine ⟨_, .inr rfl, hpos, by rw [List.length_map]; omega, fun d hd => ?_⟩
          obtain ⟨o, ho, rfl⟩ := List.mem_map.mp hd
          have hoo := g2 o ho
          refine ⟨noL_encE ks o, _, rfl, by decide, by decide, fun y y0 y1 => ⟨trivial, ?_⟩⟩
          show if decide (y = 0) = true then _ else _
          have n3 : ∀ (a c : PyData) (b : Str), NoL a → NoL c → NoL (.tuple [a, .str b, c]) := fun a c b ha hc => .tup fun d hd => by
            simp only [List.mem_cons, List.not_mem_nil, or_false] at hd
            rcases hd with rfl | rfl | rfl
            · exact ha
            · exact .str _
            · exact hc
          by_cases hy : y = 0
          · rw [if_pos (decide_eq_true hy)]
            have nn := noL_encE ks ⟨o.ps, e.act, e.args⟩
            simp only [tn0, tn1, tn2, tn3, tn4, tn5, bT, bs, b1, DL.wp, sRet, sRetN, sRetO, sSeq, sIf, sSet, sNew, sMov, sDo, sApp, sExt, sUnp, sPar, sParN, sNext, setAll, dAnd, dOr, dNot, dIf, dIsi, dv, dC, dOp, cI0, cII, gII, cSc, eSc, chI, chI3, dB, dtAnd, dtOr, dtNot, bw1, dCall, dCallJ, nCall, dCB, aCons, aNil, dTup, nLst, dNew, gLen, cLen, gTu, cTu, c2I, g2I, c1I, g1I, itm, cIx, gSl, oNo, oPt, dAll, dSum, dRepr, gCat, cCat, cInS, gInS, isN, ini, List.map, List.length, List.replicate, List.append, List.cons_append, List.nil_append, List.append_nil, List.getElem?_cons_zero, List.getElem?_cons_succ, List.set_cons_zero, List.set_cons_succ, List.length_cons, List.length_nil, Option.getD_some, true_and, and_true, if_true, if_false, isT_int_int, isT_bool_int, isT_tuple_tuple, isT_str_str, Bool.not_false, Bool.not_true, false_implies, List.length_map, Bool.false_eq_true, Bool.true_eq_false, encE, cut13]
            exact ⟨⟨by omega, by omega⟩, by decide, by show 3 ≤ 100000; decide, nn, nn, by omega, fin ⟨o.ps, e.act, e.args⟩ _ ⟨hoo.ps, he.act, he.len, he.arg⟩ (.inr ⟨_, rfl⟩)⟩
          · rw [if_neg (by rw [decide_eq_false hy]; exact Bool.false_ne_true)]
            have nn := noL_encE ks ⟨e.ps, o.act, o.args⟩
            simp only [tn0, tn1, tn2, tn3, tn4, tn5, bT, bs, b1, DL.wp, sRet, sRetN, sRetO, sSeq, sIf, sSet, sNew, sMov, sDo, sApp, sExt, sUnp, sPar, sParN, sNext, setAll, dAnd, dOr, dNot, dIf, dIsi, dv, dC, dOp, cI0, cII, gII, cSc, eSc, chI, chI3, dB, dtAnd, dtOr, dtNot, bw1, dCall, dCallJ, nCall, dCB, aCons, aNil, dTup, nLst, dNew, gLen, cLen, gTu, cTu, c2I, g2I, c1I, g1I, itm, cIx, gSl, oNo, oPt, dAll, dSum, dRepr, gCat, cCat, cInS, gInS, isN, ini, List.map, List.length, List.replicate, List.append, List.cons_append, List.nil_append, List.append_nil, List.getElem?_cons_zero, List.getElem?_cons_succ, List.set_cons_zero, List.set_cons_succ, List.length_cons, List.length_nil, Option.getD_some, true_and, and_true, if_true, if_false, isT_int_int, isT_bool_int, isT_tuple_tuple, isT_str_str, Bool.not_false, Bool.not_true, false_implies, List.length_map, Bool.false_eq_true, Bool.true_eq_false, encE, cut13]
            exact ⟨⟨by omega, by omega⟩, by decide, by show 3 ≤ 100000; decide, nn, nn, by omega, fin ⟨e.ps, o.act, o.args⟩ _ ⟨he.ps, hoo.act, hoo.len, hoo.arg⟩ (.inr ⟨_, rfl⟩)⟩
        · rw [if_neg (by rw [decide_eq_false hx]; exact Bool.false_ne_true)]
          exact ⟨noL_encE ks e, by omega, fin e s6 he (.inl rfl)⟩
    · rintro ρ ⟨es, s4, s5, s6, hf, rfl, g1, g2⟩
      rw [rng_len] at g1
      refine ⟨?_, ?_⟩
      · show none :: none :: none :: none :: frzs [s4, s5, s6] = _
        rw [hf]
        rfl
      · exact k es g2 (by omega)
/-! ### words are drawn -/
theorem ws_snoc : ∀ {ks : List Ky} {ws : List Nat} {i : Nat} {k : Ky} {v : Nat}, WsOk (ks.take i) ws → ks[i]? = some k → v < 2 ^ k.2 → WsOk (ks.take (i + 1)) (ws ++ [v])
  | k0 :: ks, [], 0, k, v, _, e, hv => by
    simp at e
    subst e
    exact ⟨hv, True.intro⟩
  | k0 :: ks, w :: ws, i + 1, k, v, h, e, hv => ⟨h.1, ws_snoc (i := i) h.2 (by simpa using e) hv⟩
  | k0 :: ks, _ :: _, 0, _, _, h, _, _ => h.elim
  | k0 :: ks, [], i + 1, _, _, h, _, _ => h.elim
def fWordsL : DF := fun ds Q => ∃ ks : List Ky, ds = [encKs ks] ∧ KsOk ks ∧ ks.length ≤ 3 ∧ ∀ ws : List Nat, WsOk ks ws → Q (encW ws)
theorem moWordsL : MoF fWordsL := fun _ _ _ m ⟨ks, e, a, b, q⟩ => ⟨ks, e, a, b, fun e h => m _ (q e h)⟩
theorem ok_wordsL {f fD fO fT : Addr} {fd dD dO dT : FuncData} (F : Fun K "_law_words" "_law_words" s__law_words f fd) (B : Blt mg) (KD : DK P w K mg base 1 "_law_draw" s__law_draw p__law_draw (spJ K fDraw) fD dD) (KO : DK P w K mg base 2 "_law_of" s__law_of p__law_of (spJ K fOf) fO dO) (KTp : DK P w K mg base 1 "_law_top" s__law_top p__law_top (spP K fTop) fT dT) : FnG P w K mg base CX0 3 f fd p__law_words (spJ K fWordsL) := by
  refine fnJ F sc__law_words moWordsL (fun ds Q h => ?_) (fun cdv A outer s H E b hA hr => ⟨_, (dss_cons (ds_new (i := 2) sc__law_words.nd rfl (by first | exact Or.inl rfl | exact Or.inr rfl) (dn_lst da_nil)) (dss_cons (ds_for (p := (.one (.t [3, 4]))) PassesOwn.never rfl (di_tup (de_v (pv 1))) (pg_tup rfl (pgs_cons (pg_name (i := 3) sc__law_words.nd rfl (by first | exact Or.inl rfl | exact Or.inr rfl)) (pgs_cons (pg_name (i := 4) sc__law_words.nd rfl (by first | exact Or.inl rfl | exact Or.inr rfl)) pgs_nil))) (dss_cons (ds_set (i := 5) sc__law_words.nd rfl (by first | exact Or.inl rfl | exact Or.inr rfl) (de_call KTp.G moTop hA (hr.mono (by decide)) (by rfl) KTp.g KTp.F.kp KTp.b pass0 (da_cons (de_v (pv 4)) da_nil))) (dss_one (ds_app (i := 2) (pv 2) (de_callJ (i := 0) KO.G moOf hA (hr.mono (by decide)) (by rfl) KO.g KO.F.kp KO.b pass0 (pv 0) (da_cons (de_tup (da_cons de_int (da_cons (de_sub (de_v (pv 5)) de_int) (da_cons (de_callJ (i := 0) KD.G moDraw hA (hr.mono (by decide)) (by rfl) KD.g KD.F.kp KD.b pass0 (pv 0) (da_cons (de_v (pv 5)) da_nil)) (da_cons (de_callJ (i := 0) KD.G moDraw hA (hr.mono (by decide)) (by rfl) KD.g KD.F.kp KD.b pass0 (pv 0) (da_cons (de_min rfl (by rfl) B.min (da_cons (de_v (pv 5)) (da_cons de_int da_nil))) da_nil)) (da_cons (de_callJ (i := 0) KD.G moDraw hA (hr.mono (by decide)) (by rfl) KD.g KD.F.kp KD.b pass0 (pv 0) (da_cons (de_v (pv 5)) da_nil)) da_nil)))))) da_nil)))))) (dss_one (ds_ret (de_tuple (by rfl) B.tuple (da_cons (de_v (pv 2)) da_nil)))))), fun ds Q h => ?_⟩)
  · obtain ⟨k, rfl, _⟩ := h
    rfl
  · obtain ⟨ks, rfl, h1, h2, k⟩ := h
    simp only [tn0, tn1, tn2, tn3, tn4, tn5, bT, bs, b1, DL.wp, sRet, sRetN, sRetO, sSeq, sIf, sSet, sNew, sMov, sDo, sApp, sExt, sUnp, sPar, sParN, sNext, setAll, dAnd, dOr, dNot, dIf, dIsi, dv, dC, dOp, cI0, cII, gII, cSc, eSc, chI, chI3, dB, dtAnd, dtOr, dtNot, bw1, dCall, dCallJ, nCall, dCB, aCons, aNil, dTup, nLst, dNew, gLen, cLen, gTu, cTu, c2I, g2I, c1I, g1I, itm, cIx, gSl, oNo, oPt, dAll, dSum, dRepr, gCat, cCat, cInS, gInS, isN, ini, List.map, List.length, List.replicate, List.append, List.cons_append, List.nil_append, List.append_nil, List.getElem?_cons_zero, List.getElem?_cons_succ, List.set_cons_zero, List.set_cons_succ, List.length_cons, List.length_nil, Option.getD_some, true_and, and_true, if_true, if_false, isT_int_int, isT_bool_int, isT_tuple_tuple, isT_str_str, Bool.not_false, Bool.not_true, false_implies, List.length_map, Bool.false_eq_true, Bool.true_eq_false, sFor, tupI, encKs]
    refine ⟨by decide, fun d hd => (nomatch hd), fun _ => noL_encKs ks, fun i ρ => ∃ (ws : List Nat) (s3 s4 s5 : SV), frzs [s3, s4, s5] = [none, none, none] ∧
      ρ = [.jar, .par (.tuple (ks.map encK)), .own (ws.map fun w => .int (w : Nat)), s3, s4, s5] ∧ WsOk (ks.take i) ws ∧ ws.length ≤ i, ⟨[], .nil, .nil, .nil, rfl, rfl, by cases ks <;> exact True.intro, Nat.le_refl _⟩, ?_, ?_⟩
    · rintro i d ρ hd ⟨ws, s3, s4, s5, hf, rfl, g1, g2⟩
      rw [List.getElem?_map] at hd
      cases hk : ks[i]? with
      | none => rw [hk] at hd; cases hd
      | some ky =>
        rw [hk] at hd
        cases hd
        have q := h1 ky (List.mem_of_getElem? hk)
        have hi := (List.getElem?_eq_some_iff.mp hk).1
        have tp := p32 q.2
        have tq := Nat.two_pow_pos ky.2
        simp only [tn0, tn1, tn2, tn3, tn4, tn5, bT, bs, b1, DL.wp, sRet, sRetN, sRetO, sSeq, sIf, sSet, sNew, sMov, sDo, sApp, sExt, sUnp, sPar, sParN, sNext, setAll, dAnd, dOr, dNot, dIf, dIsi, dv, dC, dOp, cI0, cII, gII, cSc, eSc, chI, chI3, dB, dtAnd, dtOr, dtNot, bw1, dCall, dCallJ, nCall, dCB, aCons, aNil, dTup, nLst, dNew, gLen, cLen, gTu, cTu, c2I, g2I, c1I, g1I, itm, cIx, gSl, oNo, oPt, dAll, dSum, dRepr, gCat, cCat, cInS, gInS, isN, ini, List.map, List.length, List.replicate, List.append, List.cons_append, List.nil_append, List.append_nil, List.getElem?_cons_zero, List.getElem?_cons_succ, List.set_cons_zero, List.set_cons_succ, List.length_cons, List.length_nil, Option.getD_some, true_and, and_true, if_true, if_false, isT_int_int, isT_bool_int, isT_tuple_tuple, isT_str_str, Bool.not_false, Bool.not_true, false_implies, List.length_map, Bool.false_eq_true, Bool.true_eq_false, encK]
        refine ⟨noL2 (.str _) (.int _), ky.2, rfl, q.2, .int _, ?_⟩
        refine ⟨trivial, _, rfl, by omega, by omega, fun x x0 x1 => ⟨trivial, _, rfl, by split <;> omega, by split <;> omega, fun y y0 y1 => ⟨_, rfl, by omega, by omega, fun z z0 z1 => ⟨(by show 5 ≤ 1000; decide), _, .inl rfl, (by show 0 < 5; decide), (by show 5 ≤ 100000; decide), fun u hu => ?_⟩⟩⟩⟩
        obtain ⟨v, rfl, hv⟩ : ∃ v : Nat, u = .int (v : Nat) ∧ v < 2 ^ ky.2 := by
          obtain ⟨x, rfl⟩ := Int.eq_ofNat_of_zero_le x0
          obtain ⟨y, rfl⟩ := Int.eq_ofNat_of_zero_le y0
          obtain ⟨z, rfl⟩ := Int.eq_ofNat_of_zero_le z0
          simp only [List.mem_cons, List.not_mem_nil, or_false] at hu
          rcases hu with rfl | rfl | rfl | rfl | rfl
          · exact ⟨0, rfl, tq⟩
          · exact ⟨2 ^ ky.2 - 1, by show PyData.int (((2 ^ ky.2 : Nat) : Int) - 1) = _; rw [show (((2 ^ ky.2 : Nat) : Int) - 1) = ((2 ^ ky.2 - 1 : Nat) : Int) by omega], by omega⟩
          · exact ⟨x, rfl, by omega⟩
          · exact ⟨y, rfl, by split at y1 <;> omega⟩
          · exact ⟨z, rfl, by omega⟩
        exact ⟨.int _, by omega, ws ++ [v], _, _, _, rfl, by rw [List.map_append]; rfl, ws_snoc g1 hk hv, by rw [List.length_append]; show ws.length + 1 ≤ i + 1; omega⟩
    · rintro ρ ⟨ws, s3, s4, s5, hf, rfl, g1, g2⟩
      rw [List.take_length] at g1
      refine ⟨?_, k ws g1⟩
      show none :: none :: none :: frzs [s3, s4, s5] = _
      rw [hf]
      rfl
end
end LQ

namespace LQ
open PySem PySem.Spec PyProof.Rows L2 GuL HG DL
section
variable {P : Program} {w : World} {K : PySem.W.Frag} {mg : Str → Option Value} {base : Heap}
def fEdges : DF := fun ds Q => ∃ (ks : List Ky) (es : List En), ds = [encKs ks, encEs ks es] ∧ KsOk ks ∧ ks.length ≤ 3 ∧ (∀ e ∈ es, EnOk ks e) ∧ es.length ≤ 100 ∧ ∀ ws : List Nat, WsOk ks ws → Q (encW ws)
theorem moEdges : MoF fEdges := fun _ _ _ m ⟨ks, es, e, a, b, c, d, q⟩ => ⟨ks, es, e, a, b, c, d, fun e h => m _ (q e h)⟩
theorem eqv_nilT (ds : List PyData) : PyData.eqv (.tuple ds) (.tuple []) = ds.isEmpty := by
  cases ds with
  | nil => simp [PyData.eqv, PyData.eqvAll]
  | cons _ _ => simp [PyData.eqv, PyData.eqvAll]
theorem at2e : ∀ {ks : List Ky} {ps : List Pa} {i : Nat} {d : PyData}, PsOk ks ps → (zp2 (ks.map encK) (encPs ks ps))[i]? = some d →
    ∃ k p, ks[i]? = some k ∧ d = .tuple [encK k, encP k.1 p] ∧ PaOk k p
  | k :: ks, p :: ps, 0, d, h1, e => by
    simp [zp2, encPs] at e
    exact ⟨k, p, rfl, e.symm, h1.1⟩
  | k :: ks, p :: ps, i + 1, d, h1, e => by
    obtain ⟨k', p', g1, g2, g3⟩ := at2e (i := i) h1.2 (show (zp2 (ks.map encK) (encPs ks ps))[i]? = some d by simpa [zp2, encPs] using e)
    exact ⟨k', p', by simpa using g1, g2, g3⟩
  | [], [], _, _, _, e => by simp [zp2] at e
theorem ok_edges {f fD fO fT fW : Addr} {fd dD dO dT dW : FuncData} (F : Fun K "_law_edges" "_law_edges" s__law_edges f fd) (B : Blt mg) (KD : DK P w K mg base 1 "_law_draw" s__law_draw p__law_draw (spJ K fDraw) fD dD) (KO : DK P w K mg base 2 "_law_of" s__law_of p__law_of (spJ K fOf) fO dO) (KTp : DK P w K mg base 1 "_law_top" s__law_top p__law_top (spP K fTop) fT dT) (KWo : DK P w K mg base 3 "_law_words" s__law_words p__law_words (spJ K fWordsL) fW dW) : FnG P w K mg base CX0 4 f fd p__law_edges (spJ K fEdges) := by
  refine fnJ F sc__law_edges moEdges (fun ds Q h => ?_) (fun cdv A outer s H E b hA hr => ⟨_, (dss_cons (ds_if (dt_eqD (hu hr) (de_v (pv 2)) (de_tup da_nil)) (dss_one (ds_ret (de_callJ (i := 0) KWo.G moWordsL hA (hr.mono (by decide)) (by rfl) KWo.g KWo.F.kp KWo.b pass0 (pv 0) (da_cons (de_v (pv 1)) da_nil)))) dss_nil) (dss_cons (ds_parN (i := 3) (k := 4) rfl sc__law_edges.nd rfl rfl (by decide) rfl rfl (dn_lst da_nil) (de_callJ (i := 0) KO.G moOf hA (hr.mono (by decide)) (by rfl) KO.g KO.F.kp KO.b pass0 (pv 0) (da_cons (de_v (pv 2)) da_nil)) (by rfl)) (dss_cons (ds_for (p := (.row [(.t [5, 6]), (.n 7)])) PassesOwn.never rfl (di_z2 (by rfl) B.zip (da_cons (de_v (pv 1)) (da_cons (de_ix (de_v (pv 4)) de_int (fun _ _ => rfl)) da_nil))) (pg_tup rfl (pgs_cons (pg_tup rfl (pgs_cons (pg_name (i := 5) sc__law_edges.nd rfl (by first | exact Or.inl rfl | exact Or.inr rfl)) (pgs_cons (pg_name (i := 6) sc__law_edges.nd rfl (by first | exact Or.inl rfl | exact Or.inr rfl)) pgs_nil))) (pgs_cons (pg_name (i := 7) sc__law_edges.nd rfl (by first | exact Or.inl rfl | exact Or.inr rfl)) pgs_nil))) (dss_cons (ds_set (i := 8) sc__law_edges.nd rfl (by first | exact Or.inl rfl | exact Or.inr rfl) (de_if (dt_eq (de_v (pv 5)) de_str) (de_v (pv 7)) (de_if (dt_eq (de_v (pv 5)) de_str) (de_ix (de_v (pv 7)) (de_callJ (i := 0) KD.G moDraw hA (hr.mono (by decide)) (by rfl) KD.g KD.F.kp KD.b pass0 (pv 0) (da_cons de_int da_nil)) (fun _ _ => rfl)) (de_ix (de_v (pv 7)) de_int (fun _ _ => rfl))))) (dss_cons (ds_set (i := 9) sc__law_edges.nd rfl (by first | exact Or.inl rfl | exact Or.inr rfl) (de_sub (de_call KTp.G moTop hA (hr.mono (by decide)) (by rfl) KTp.g KTp.F.kp KTp.b pass0 (da_cons (de_v (pv 6)) da_nil)) de_int)) (dss_one (ds_app (i := 3) (pv 3) (de_min rfl (by rfl) B.min (da_cons (de_v (pv 9)) (da_cons (de_max rfl (by rfl) B.max (da_cons de_int (da_cons (de_add (de_v (pv 8)) (de_callJ (i := 0) KO.G moOf hA (hr.mono (by decide)) (by rfl) KO.g KO.F.kp KO.b pass0 (pv 0) (da_cons (de_tup (da_cons de_int (da_cons de_int (da_cons de_int (da_cons de_int (da_cons (de_neg de_int) da_nil)))))) da_nil))) da_nil))) da_nil)))))))) (dss_one (ds_ret (de_tuple (by rfl) B.tuple (da_cons (de_v (pv 3)) da_nil))))))), fun ds Q h => ?_⟩)
  · obtain ⟨k, es, rfl, _⟩ := h
    rfl
  · obtain ⟨ks, es, rfl, h1, h2, h3, h4, k⟩ := h
    simp only [tn0, tn1, tn2, tn3, tn4, tn5, bT, bs, b1, DL.wp, sRet, sRetN, sRetO, sSeq, sIf, sSet, sNew, sMov, sDo, sApp, sExt, sUnp, sPar, sParN, sNext, setAll, dAnd, dOr, dNot, dIf, dIsi, dv, dC, dOp, cI0, cII, gII, cSc, eSc, chI, chI3, dB, dtAnd, dtOr, dtNot, bw1, dCall, dCallJ, nCall, dCB, aCons, aNil, dTup, nLst, dNew, gLen, cLen, gTu, cTu, c2I, g2I, c1I, g1I, itm, cIx, gSl, oNo, oPt, dAll, dSum, dRepr, gCat, cCat, cInS, gInS, isN, ini, List.map, List.length, List.replicate, List.append, List.cons_append, List.nil_append, List.append_nil, List.getElem?_cons_zero, List.getElem?_cons_succ, List.set_cons_zero, List.set_cons_succ, List.length_cons, List.length_nil, Option.getD_some, true_and, and_true, if_true, if_false, isT_int_int, isT_bool_int, isT_tuple_tuple, isT_str_str, Bool.not_false, Bool.not_true, false_implies, List.length_map, Bool.false_eq_true, Bool.true_eq_false]
    have sm : Sms 3 (es.length * 501) (es.map (encE ks)) := by
      have := Sms.all (k := 3) (n := 500) (ds := es.map (encE ks)) fun d hd => by
        obtain ⟨x, hx, rfl⟩ := List.mem_map.mp hd
        exact sm_encE (h3 x hx) h1 h2
      rwa [List.length_map] at this
    refine ⟨by decide, ⟨(Sm.tup sm).shaped (by decide), (Sm.tup (k := 0) Sms.nil).shaped (by decide)⟩, ?_⟩
    show if PyData.eqv (.tuple (es.map (encE ks))) (.tuple []) = true then _ else _
    rw [eqv_nilT]
    by_cases c : es = []
    · subst c
      exact ⟨ks, rfl, h1, h2, k⟩
    · have hne : (es.map (encE ks)).isEmpty = false := by
        cases es with
        | nil => exact absurd rfl c
        | cons _ _ => rfl
      have hpos : 0 < (es.map (encE ks)).length := by
        rw [List.length_map]
        exact List.length_pos_iff.mpr c
      rw [hne]
      refine ⟨by decide, _, .inl rfl, hpos, by rw [List.length_map]; omega, fun d hd => ?_⟩
      obtain ⟨o, ho, rfl⟩ := List.mem_map.mp hd
      have hoo := (h3 o ho).ps
      have l1 := encPs_len hoo
      have l2 : (zp2 (ks.map encK) (encPs ks o.ps)).length = ks.length := by rw [zp2_len (by rw [List.length_map, l1]), List.length_map]
      refine ⟨fun d hd => (nomatch hd), noL_encE ks o, ?_⟩
      simp only [tn0, tn1, tn2, tn3, tn4, tn5, bT, bs, b1, DL.wp, sRet, sRetN, sRetO, sSeq, sIf, sSet, sNew, sMov, sDo, sApp, sExt, sUnp, sPar, sParN, sNext, setAll, dAnd, dOr, dNot, dIf, dIsi, dv, dC, dOp, cI0, cII, gII, cSc, eSc, chI, chI3, dB, dtAnd, dtOr, dtNot, bw1, dCall, dCallJ, nCall, dCB, aCons, aNil, dTup, nLst, dNew, gLen, cLen, gTu, cTu, c2I, g2I, c1I, g1I, itm, cIx, gSl, oNo, oPt, dAll, dSum, dRepr, gCat, cCat, cInS, gInS, isN, ini, List.map, List.length, List.replicate, List.append, List.cons_append, List.nil_append, List.append_nil, List.getElem?_cons_zero, List.getElem?_cons_succ, List.set_cons_zero, List.set_cons_succ, List.length_cons, List.length_nil, Option.getD_some, true_and, and_true, if_true, if_false, isT_int_int, isT_bool_int, isT_tuple_tuple, isT_str_str, Bool.not_false, Bool.not_true, false_implies, List.length_map, Bool.false_eq_true, Bool.true_eq_false, sFor, z2I, encKs, encE]
      refine ⟨⟨by omega, by omega⟩, fun _ => ⟨noL_encKs ks, noL_encPs _ _⟩, l1.symm, fun i ρ => ∃ (ws : List Nat) (s5 s6 s7 s8 s9 : SV), frzs [s5, s6, s7, s8, s9] = [none, none, none, none, none] ∧
        ρ = [.jar, .par (.tuple (ks.map encK)), .par (encEs ks es), .own (ws.map fun w => .int (w : Nat)), .dat (encE ks o), s5, s6, s7, s8, s9] ∧ WsOk (ks.take i) ws ∧ ws.length ≤ i, ⟨[], .nil, .nil, .nil, .nil, .nil, rfl, rfl, by cases ks <;> exact True.intro, Nat.le_refl _⟩, ?_, ?_⟩
      · rintro i d ρ hd ⟨ws, s5, s6, s7, s8, s9, hf, rfl, g1, g2⟩
        obtain ⟨ky, p, hk, rfl, hp⟩ := at2e hoo hd
        have q := h1 ky (List.mem_of_getElem? hk)
        have hi := (List.getElem?_eq_some_iff.mp hk).1
        have tp := p32 q.2
        have tq := Nat.two_pow_pos ky.2
        obtain ⟨pb1, pb2⟩ := pa_bound hp q.2
        obtain ⟨kd, wd⟩ := ky
        have q2 : wd ≤ 32 := q.2
        have tp : 2 ^ wd ≤ 4294967296 := tp
        have tq : 0 < 2 ^ wd := tq
        have tail : ∀ (c : Nat) (z : Int), ∃ v : Nat, PyData.int (if (if (c : Int) + z > 0 then (c : Int) + z else 0) < ((2 ^ wd : Nat) : Int) - 1 then (if (c : Int) + z > 0 then (c : Int) + z else 0) else ((2 ^ wd : Nat) : Int) - 1) = .int (v : Nat) ∧ v < 2 ^ wd := fun c z => by
          generalize hx : (if (c : Int) + z > 0 then (c : Int) + z else 0) = x
          have hx0 : 0 ≤ x := by subst hx; split <;> omega
          obtain ⟨x, rfl⟩ := Int.eq_ofNat_of_zero_le hx0
          by_cases g : (x : Int) < ((2 ^ wd : Nat) : Int) - 1
          · rw [if_pos g]
            exact ⟨x, rfl, by omega⟩
          · rw [if_neg g]
            exact ⟨2 ^ wd - 1, by rw [show (((2 ^ wd : Nat) : Int) - 1) = ((2 ^ wd - 1 : Nat) : Int) by omega], by omega⟩
        have fu : ∀ u : PyData, u ∈ [PyData.int 0, .int 0, .int 0, .int 1, .int (-1)] → ∃ z : Int, u = .int z := fun u hu => by
          simp only [List.mem_cons, List.not_mem_nil, or_false] at hu
          rcases hu with rfl | rfl | rfl | rfl | rfl <;> exact ⟨_, rfl⟩
        cases kd with
        | ex =>
          simp only [tn0, tn1, tn2, tn3, tn4, tn5, bT, bs, b1, DL.wp, sRet, sRetN, sRetO, sSeq, sIf, sSet, sNew, sMov, sDo, sApp, sExt, sUnp, sPar, sParN, sNext, setAll, dAnd, dOr, dNot, dIf, dIsi, dv, dC, dOp, cI0, cII, gII, cSc, eSc, chI, chI3, dB, dtAnd, dtOr, dtNot, bw1, dCall, dCallJ, nCall, dCB, aCons, aNil, dTup, nLst, dNew, gLen, cLen, gTu, cTu, c2I, g2I, c1I, g1I, itm, cIx, gSl, oNo, oPt, dAll, dSum, dRepr, gCat, cCat, cInS, gInS, isN, ini, List.map, List.length, List.replicate, List.append, List.cons_append, List.nil_append, List.append_nil, List.getElem?_cons_zero, List.getElem?_cons_succ, List.set_cons_zero, List.set_cons_succ, List.length_cons, List.length_nil, Option.getD_some, true_and, and_true, if_true, if_false, isT_int_int, isT_bool_int, isT_tuple_tuple, isT_str_str, Bool.not_false, Bool.not_true, false_implies, List.length_map, Bool.false_eq_true, Bool.true_eq_false, encK, encP, Kd.s, s01, s02, s03, s04, s05, s06, s07, s08, s09, s10, s11, s12, decide_false, decide_true, Bool.false_eq_true, if_false, if_true, dNeg]
          refine ⟨noL2 (.str _) (.int _), .int _, .int _, wd, rfl, q2, trivial, ?_⟩
          refine ⟨.int _, (by show 5 ≤ 1000; decide), _, .inl rfl, (by show 0 < 5; decide), (by show 5 ≤ 100000; decide), fun u hu => ?_⟩
          obtain ⟨z, rfl⟩ := fu u hu
          obtain ⟨v, ev, hv⟩ := tail p.1 z
          simp only [tn0, tn1, tn2, tn3, tn4, tn5, bT, bs, b1, DL.wp, sRet, sRetN, sRetO, sSeq, sIf, sSet, sNew, sMov, sDo, sApp, sExt, sUnp, sPar, sParN, sNext, setAll, dAnd, dOr, dNot, dIf, dIsi, dv, dC, dOp, cI0, cII, gII, cSc, eSc, chI, chI3, dB, dtAnd, dtOr, dtNot, bw1, dCall, dCallJ, nCall, dCB, aCons, aNil, dTup, nLst, dNew, gLen, cLen, gTu, cTu, c2I, g2I, c1I, g1I, itm, cIx, gSl, oNo, oPt, dAll, dSum, dRepr, gCat, cCat, cInS, gInS, isN, ini, List.map, List.length, List.replicate, List.append, List.cons_append, List.nil_append, List.append_nil, List.getElem?_cons_zero, List.getElem?_cons_succ, List.set_cons_zero, List.set_cons_succ, List.length_cons, List.length_nil, Option.getD_some, true_and, and_true, if_true, if_false, isT_int_int, isT_bool_int, isT_tuple_tuple, isT_str_str, Bool.not_false, Bool.not_true, false_implies, List.length_map, Bool.false_eq_true, Bool.true_eq_false]
          rw [ev]
          exact ⟨.int _, by omega, ws ++ [v], _, _, _, _, _, rfl, by rw [List.map_append]; rfl, ws_snoc g1 hk hv, by rw [List.length_append]; show ws.length + 1 ≤ i + 1; omega⟩
        | ra =>
          simp only [tn0, tn1, tn2, tn3, tn4, tn5, bT, bs, b1, DL.wp, sRet, sRetN, sRetO, sSeq, sIf, sSet, sNew, sMov, sDo, sApp, sExt, sUnp, sPar, sParN, sNext, setAll, dAnd, dOr, dNot, dIf, dIsi, dv, dC, dOp, cI0, cII, gII, cSc, eSc, chI, chI3, dB, dtAnd, dtOr, dtNot, bw1, dCall, dCallJ, nCall, dCB, aCons, aNil, dTup, nLst, dNew, gLen, cLen, gTu, cTu, c2I, g2I, c1I, g1I, itm, cIx, gSl, oNo, oPt, dAll, dSum, dRepr, gCat, cCat, cInS, gInS, isN, ini, List.map, List.length, List.replicate, List.append, List.cons_append, List.nil_append, List.append_nil, List.getElem?_cons_zero, List.getElem?_cons_succ, List.set_cons_zero, List.set_cons_succ, List.length_cons, List.length_nil, Option.getD_some, true_and, and_true, if_true, if_false, isT_int_int, isT_bool_int, isT_tuple_tuple, isT_str_str, Bool.not_false, Bool.not_true, false_implies, List.length_map, Bool.false_eq_true, Bool.true_eq_false, encK, encP, Kd.s, s01, s02, s03, s04, s05, s06, s07, s08, s09, s10, s11, s12, decide_false, decide_true, Bool.false_eq_true, if_false, if_true, dNeg]
          refine ⟨noL2 (.str _) (.int _), .tup (noL2 (.int _) (.int _)), _, rfl, by decide, by decide, fun y y0 y1 => ?_⟩
          obtain ⟨c, ec⟩ : ∃ c : Nat, [PyData.int (p.1 : Nat), .int (p.2 : Nat)][y.toNat]?.getD .none = .int (c : Nat) := by
            obtain ⟨y, rfl⟩ := Int.eq_ofNat_of_zero_le y0
            match y, y1 with
            | 0, _ => exact ⟨p.1, rfl⟩
            | 1, _ => exact ⟨p.2, rfl⟩
            | y + 2, y1 => omega
          simp only [ec]
          refine ⟨⟨y0, y1⟩, .int _, wd, rfl, q2, trivial, ?_⟩
          refine ⟨.int _, (by show 5 ≤ 1000; decide), _, .inl rfl, (by show 0 < 5; decide), (by show 5 ≤ 100000; decide), fun u hu => ?_⟩
          obtain ⟨z, rfl⟩ := fu u hu
          obtain ⟨v, ev, hv⟩ := tail c z
          simp only [tn0, tn1, tn2, tn3, tn4, tn5, bT, bs, b1, DL.wp, sRet, sRetN, sRetO, sSeq, sIf, sSet, sNew, sMov, sDo, sApp, sExt, sUnp, sPar, sParN, sNext, setAll, dAnd, dOr, dNot, dIf, dIsi, dv, dC, dOp, cI0, cII, gII, cSc, eSc, chI, chI3, dB, dtAnd, dtOr, dtNot, bw1, dCall, dCallJ, nCall, dCB, aCons, aNil, dTup, nLst, dNew, gLen, cLen, gTu, cTu, c2I, g2I, c1I, g1I, itm, cIx, gSl, oNo, oPt, dAll, dSum, dRepr, gCat, cCat, cInS, gInS, isN, ini, List.map, List.length, List.replicate, List.append, List.cons_append, List.nil_append, List.append_nil, List.getElem?_cons_zero, List.getElem?_cons_succ, List.set_cons_zero, List.set_cons_succ, List.length_cons, List.length_nil, Option.getD_some, true_and, and_true, if_true, if_false, isT_int_int, isT_bool_int, isT_tuple_tuple, isT_str_str, Bool.not_false, Bool.not_true, false_implies, List.length_map, Bool.false_eq_true, Bool.true_eq_false]
          rw [ev]
          exact ⟨.int _, by omega, ws ++ [v], _, _, _, _, _, rfl, by rw [List.map_append]; rfl, ws_snoc g1 hk hv, by rw [List.length_append]; show ws.length + 1 ≤ i + 1; omega⟩
        | ma =>
          simp only [tn0, tn1, tn2, tn3, tn4, tn5, bT, bs, b1, DL.wp, sRet, sRetN, sRetO, sSeq, sIf, sSet, sNew, sMov, sDo, sApp, sExt, sUnp, sPar, sParN, sNext, setAll, dAnd, dOr, dNot, dIf, dIsi, dv, dC, dOp, cI0, cII, gII, cSc, eSc, chI, chI3, dB, dtAnd, dtOr, dtNot, bw1, dCall, dCallJ, nCall, dCB, aCons, aNil, dTup, nLst, dNew, gLen, cLen, gTu, cTu, c2I, g2I, c1I, g1I, itm, cIx, gSl, oNo, oPt, dAll, dSum, dRepr, gCat, cCat, cInS, gInS, isN, ini, List.map, List.length, List.replicate, List.append, List.cons_append, List.nil_append, List.append_nil, List.getElem?_cons_zero, List.getElem?_cons_succ, List.set_cons_zero, List.set_cons_succ, List.length_cons, List.length_nil, Option.getD_some, true_and, and_true, if_true, if_false, isT_int_int, isT_bool_int, isT_tuple_tuple, isT_str_str, Bool.not_false, Bool.not_true, false_implies, List.length_map, Bool.false_eq_true, Bool.true_eq_false, encK, encP, Kd.s, s01, s02, s03, s04, s05, s06, s07, s08, s09, s10, s11, s12, decide_false, decide_true, Bool.false_eq_true, if_false, if_true, dNeg]
          refine ⟨noL2 (.str _) (.int _), .tup (noL2 (.int _) (.int _)), ?_⟩
          refine ⟨⟨by decide, by decide⟩, .int _, wd, rfl, q2, trivial, ?_⟩
          refine ⟨.int _, (by show 5 ≤ 1000; decide), _, .inl rfl, (by show 0 < 5; decide), (by show 5 ≤ 100000; decide), fun u hu => ?_⟩
          obtain ⟨z, rfl⟩ := fu u hu
          obtain ⟨v, ev, hv⟩ := tail p.1 z
          simp only [tn0, tn1, tn2, tn3, tn4, tn5, bT, bs, b1, DL.wp, sRet, sRetN, sRetO, sSeq, sIf, sSet, sNew, sMov, sDo, sApp, sExt, sUnp, sPar, sParN, sNext, setAll, dAnd, dOr, dNot, dIf, dIsi, dv, dC, dOp, cI0, cII, gII, cSc, eSc, chI, chI3, dB, dtAnd, dtOr, dtNot, bw1, dCall, dCallJ, nCall, dCB, aCons, aNil, dTup, nLst, dNew, gLen, cLen, gTu, cTu, c2I, g2I, c1I, g1I, itm, cIx, gSl, oNo, oPt, dAll, dSum, dRepr, gCat, cCat, cInS, gInS, isN, ini, List.map, List.length, List.replicate, List.append, List.cons_append, List.nil_append, List.append_nil, List.getElem?_cons_zero, List.getElem?_cons_succ, List.set_cons_zero, List.set_cons_succ, List.length_cons, List.length_nil, Option.getD_some, true_and, and_true, if_true, if_false, isT_int_int, isT_bool_int, isT_tuple_tuple, isT_str_str, Bool.not_false, Bool.not_true, false_implies, List.length_map, Bool.false_eq_true, Bool.true_eq_false]
          rw [ev]
          exact ⟨.int _, by omega, ws ++ [v], _, _, _, _, _, rfl, by rw [List.map_append]; rfl, ws_snoc g1 hk hv, by rw [List.length_append]; show ws.length + 1 ≤ i + 1; omega⟩
        | pr =>
          simp only [tn0, tn1, tn2, tn3, tn4, tn5, bT, bs, b1, DL.wp, sRet, sRetN, sRetO, sSeq, sIf, sSet, sNew, sMov, sDo, sApp, sExt, sUnp, sPar, sParN, sNext, setAll, dAnd, dOr, dNot, dIf, dIsi, dv, dC, dOp, cI0, cII, gII, cSc, eSc, chI, chI3, dB, dtAnd, dtOr, dtNot, bw1, dCall, dCallJ, nCall, dCB, aCons, aNil, dTup, nLst, dNew, gLen, cLen, gTu, cTu, c2I, g2I, c1I, g1I, itm, cIx, gSl, oNo, oPt, dAll, dSum, dRepr, gCat, cCat, cInS, gInS, isN, ini, List.map, List.length, List.replicate, List.append, List.cons_append, List.nil_append, List.append_nil, List.getElem?_cons_zero, List.getElem?_cons_succ, List.set_cons_zero, List.set_cons_succ, List.length_cons, List.length_nil, Option.getD_some, true_and, and_true, if_true, if_false, isT_int_int, isT_bool_int, isT_tuple_tuple, isT_str_str, Bool.not_false, Bool.not_true, false_implies, List.length_map, Bool.false_eq_true, Bool.true_eq_false, encK, encP, Kd.s, s01, s02, s03, s04, s05, s06, s07, s08, s09, s10, s11, s12, decide_false, decide_true, Bool.false_eq_true, if_false, if_true, dNeg]
          refine ⟨noL2 (.str _) (.int _), .tup (noL2 (.int _) (.int _)), ?_⟩
          refine ⟨⟨by decide, by decide⟩, .int _, wd, rfl, q2, trivial, ?_⟩
          refine ⟨.int _, (by show 5 ≤ 1000; decide), _, .inl rfl, (by show 0 < 5; decide), (by show 5 ≤ 100000; decide), fun u hu => ?_⟩
          obtain ⟨z, rfl⟩ := fu u hu
          obtain ⟨v, ev, hv⟩ := tail p.1 z
          simp only [tn0, tn1, tn2, tn3, tn4, tn5, bT, bs, b1, DL.wp, sRet, sRetN, sRetO, sSeq, sIf, sSet, sNew, sMov, sDo, sApp, sExt, sUnp, sPar, sParN, sNext, setAll, dAnd, dOr, dNot, dIf, dIsi, dv, dC, dOp, cI0, cII, gII, cSc, eSc, chI, chI3, dB, dtAnd, dtOr, dtNot, bw1, dCall, dCallJ, nCall, dCB, aCons, aNil, dTup, nLst, dNew, gLen, cLen, gTu, cTu, c2I, g2I, c1I, g1I, itm, cIx, gSl, oNo, oPt, dAll, dSum, dRepr, gCat, cCat, cInS, gInS, isN, ini, List.map, List.length, List.replicate, List.append, List.cons_append, List.nil_append, List.append_nil, List.getElem?_cons_zero, List.getElem?_cons_succ, List.set_cons_zero, List.set_cons_succ, List.length_cons, List.length_nil, Option.getD_some, true_and, and_true, if_true, if_false, isT_int_int, isT_bool_int, isT_tuple_tuple, isT_str_str, Bool.not_false, Bool.not_true, false_implies, List.length_map, Bool.false_eq_true, Bool.true_eq_false]
          rw [ev]
          exact ⟨.int _, by omega, ws ++ [v], _, _, _, _, _, rfl, by rw [List.map_append]; rfl, ws_snoc g1 hk hv, by rw [List.length_append]; show ws.length + 1 ≤ i + 1; omega⟩
      · rintro ρ ⟨ws, s5, s6, s7, s8, s9, hf, rfl, g1, g2⟩
        rw [l2, List.take_length] at g1
        refine ⟨?_, k ws g1⟩
        show none :: none :: none :: none :: none :: frzs [s5, s6, s7, s8, s9] = _
        rw [hf]
        rfl
end
end LQ

namespace LQ
open PySem PySem.Spec PyProof.Rows L2 GuL HG DL
abbrev s__law_is_told : Stmt := topS 54
theorem sc__law_is_told : FnScope ["_law_keys_here", "_law_entries_here", "_law_words_here", "_law_at", "_law_due"] ["_law_keys_here", "_law_entries_here", "_law_words_here"] (defScope s__law_is_told) := ⟨rfl, rfl, rfl, by decide +kernel, rfl, by decide +kernel, by decide +kernel⟩
abbrev n__law_is_told : List Str := ["_law_keys_here", "_law_entries_here", "_law_words_here", "_law_at", "_law_due"]
abbrev p__law_is_told : List Str := ["_law_keys_here", "_law_entries_here", "_law_words_here"]

section
variable {P : Program} {w : World} {K : PySem.W.Frag} {mg : Str → Option Value} {base : Heap}
/-! ### all words -/
def ext1 (k : Ky) (f : List (List Nat)) : List (List Nat) := f.flatMap fun ws => (List.range (2 ^ k.2)).map fun v => ws ++ [v]
def allW (ks : List Ky) : List (List Nat) := ks.foldl (fun f k => ext1 k f) [[]]
theorem allW_snoc {ks : List Ky} {i : Nat} {k : Ky} (h : ks[i]? = some k) : allW (ks.take (i + 1)) = ext1 k (allW (ks.take i)) := by
  have hi := (List.getElem?_eq_some_iff.mp h).1
  have e : ks[i] = k := (List.getElem?_eq_some_iff.mp h).2
  unfold allW
  rw [List.take_succ_eq_append_getElem hi, List.foldl_append, e]
  rfl
theorem ext1_len (k : Ky) : ∀ f : List (List Nat), (ext1 k f).length = f.length * 2 ^ k.2
  | [] => by simp [ext1]
  | ws :: f => by
    have r := ext1_len k f
    unfold ext1 at r ⊢
    rw [List.flatMap_cons, List.length_append, r, List.length_map, List.length_range, List.length_cons, Nat.succ_mul]
    omega
theorem allW_len : ∀ (ks : List Ky) (i : Nat), i ≤ ks.length → (allW (ks.take i)).length = 2 ^ sumW (ks.take i)
  | ks, 0, _ => by simp [allW, sumW]
  | ks, i + 1, h => by
    have hk : ks[i]? = some ks[i] := List.getElem?_eq_getElem (by omega)
    rw [allW_snoc hk, ext1_len, allW_len ks i (by omega), List.take_succ_eq_append_getElem (by omega), sumW_snoc, Nat.pow_add]
theorem allW_ok : ∀ (ks : List Ky) (i : Nat), i ≤ ks.length → ∀ ws ∈ allW (ks.take i), WsOk (ks.take i) ws
  | ks, 0, _, ws, h => by
    simp [allW] at h
    subst h
    cases ks <;> exact True.intro
  | ks, i + 1, h, ws, hw => by
    have hk : ks[i]? = some ks[i] := List.getElem?_eq_getElem (by omega)
    rw [allW_snoc hk] at hw
    unfold ext1 at hw
    rw [List.mem_flatMap] at hw
    obtain ⟨vs, h1, h2⟩ := hw
    obtain ⟨v, h3, rfl⟩ := List.mem_map.mp h2
    exact ws_snoc (allW_ok ks i (by omega) vs h1) hk (List.mem_range.mp h3)
theorem sumW_take (ks : List Ky) (i : Nat) : sumW (ks.take i) ≤ sumW ks := by
  have : sumW (ks.take i ++ ks.drop i) = sumW ks := by rw [List.take_append_drop]
  unfold sumW at this ⊢
  rw [List.map_append, List.sum_append] at this
  omega
theorem ext1_snoc {ky : Ky} {l : List (List Nat)} {j : Nat} {ws : List Nat} (h : l[j]? = some ws) : ext1 ky (l.take (j + 1)) = ext1 ky (l.take j) ++ (List.range (2 ^ ky.2)).map fun v => ws ++ [v] := by
  have hj := (List.getElem?_eq_some_iff.mp h).1
  have e : l[j] = ws := (List.getElem?_eq_some_iff.mp h).2
  unfold ext1
  rw [List.take_succ_eq_append_getElem hj, List.flatMap_append, e]
  simp
theorem frzs_tl {s : SV} {ρ : List SV} {x : Option Addr} {xs : List (Option Addr)} (h : frzs (s :: ρ) = x :: xs) : frzs ρ = xs := by cases s <;> exact (List.cons.inj h).2
def fAllW : DFN := fun ds Q => ∃ ks : List Ky, ds = [encKs ks] ∧ KsOk ks ∧ sumW ks ≤ 7 ∧ ks.length ≤ 3 ∧ Q ((allW ks).map encW)
theorem moAllW : MoFN fAllW := fun _ _ _ m ⟨ks, e, a, b, c, q⟩ => ⟨ks, e, a, b, c, m _ q⟩
theorem ok_allwords {f fT : Addr} {fd dT : FuncData} (F : Fun K "_law_all_words" "_law_all_words" s__law_all_words f fd) (B : Blt mg) (KTp : DK P w K mg base 1 "_law_top" s__law_top p__law_top (spP K fTop) fT dT) : FnG P w K mg base CX0 2 f fd p__law_all_words (spN K fAllW) := by
  refine fnN F sc__law_all_words moAllW (fun ds Q h => ?_) (fun cdv A outer s H E b hA hr => ⟨_, (dss_cons (ds_new (i := 1) sc__law_all_words.nd rfl (by first | exact Or.inl rfl | exact Or.inr rfl) (dn_lst (da_cons (de_tup da_nil) da_nil))) (dss_cons (ds_for (p := (.one (.t [2, 3]))) PassesOwn.never rfl (di_tup (de_v (pv 0))) (pg_tup rfl (pgs_cons (pg_name (i := 2) sc__law_all_words.nd rfl (by first | exact Or.inl rfl | exact Or.inr rfl)) (pgs_cons (pg_name (i := 3) sc__law_all_words.nd rfl (by first | exact Or.inl rfl | exact Or.inr rfl)) pgs_nil))) (dss_cons (ds_new (i := 4) sc__law_all_words.nd rfl (by first | exact Or.inl rfl | exact Or.inr rfl) (dn_lst da_nil)) (dss_cons (ds_forO (i := 1) (p := (.one (.n 5))) PassesOwn.never rfl (pv 1) (pg_name (i := 5) sc__law_all_words.nd rfl (by first | exact Or.inl rfl | exact Or.inr rfl)) (dss_one (ds_ext (i := 4) (pv 4) (dn_lc rfl sc__law_all_words.nd (own := [("_law_word", 6)]) (p := (.one (.n 6))) (di_rng1 (by rfl) B.range (da_cons (de_call KTp.G moTop hA (hr.mono (by decide)) (by rfl) KTp.g KTp.F.kp KTp.b pass0 (da_cons (de_v (pv 3)) da_nil)) da_nil)) (blkOk_by (N := ["_law_keys_here", "_law_found", "_law_kind", "_law_width", "_law_longer", "_law_words_here", "_law_word"]) (sc := defScope s__law_all_words) (by decide +kernel)) (by decide) (fun _ _ _ _ _ => (pg_name (i := 6) sc__law_all_words.nd rfl (by first | exact Or.inl rfl | exact Or.inr rfl))) (fun _ _ _ _ _ => (de_cat (de_v (pv 5)) (de_tup (da_cons (de_v (pv 6)) da_nil)))))))) (dss_one (ds_mov (i := 1) (k := 4) sc__law_all_words.nd rfl (by first | exact Or.inl rfl | exact Or.inr rfl) (pv 4)))))) (dss_one (ds_retO (i := 1) (pv 1))))), fun ds Q h => ?_⟩)
  · obtain ⟨k, rfl, _⟩ := h
    rfl
  · obtain ⟨ks, rfl, h1, h2, h3, k⟩ := h
    simp only [tn0, tn1, tn2, tn3, tn4, tn5, bT, bs, b1, DL.wp, sRet, sRetN, sRetO, sSeq, sIf, sSet, sNew, sMov, sDo, sApp, sExt, sUnp, sPar, sParN, sNext, setAll, dAnd, dOr, dNot, dIf, dIsi, dv, dC, dOp, cI0, cII, gII, cSc, eSc, chI, chI3, dB, dtAnd, dtOr, dtNot, bw1, dCall, dCallJ, nCall, dCB, aCons, aNil, dTup, nLst, dNew, gLen, cLen, gTu, cTu, c2I, g2I, c1I, g1I, itm, cIx, gSl, oNo, oPt, dAll, dSum, dRepr, gCat, cCat, cInS, gInS, isN, ini, List.map, List.length, List.replicate, List.append, List.cons_append, List.nil_append, List.append_nil, List.getElem?_cons_zero, List.getElem?_cons_succ, List.set_cons_zero, List.set_cons_succ, List.length_cons, List.length_nil, Option.getD_some, true_and, and_true, if_true, if_false, isT_int_int, isT_bool_int, isT_tuple_tuple, isT_str_str, Bool.not_false, Bool.not_true, false_implies, List.length_map, Bool.false_eq_true, Bool.true_eq_false, sFor, tupI, encKs]
    refine ⟨by decide, by decide, ?_, fun _ => noL_encKs ks, fun (i : Nat) ρ => ∃ s2 s3 s4 s5 s6 : SV, frzs [s2, s3, s4, s5, s6] = [none, none, none, none, none] ∧ ρ = [.par (.tuple (ks.map encK)), .own ((allW (ks.take i)).map encW), s2, s3, s4, s5, s6], ?_, ?_, ?_⟩
    · intro d hd
      rw [List.mem_singleton.mp hd]
      exact .tup fun d h => nomatch h
    · exact ⟨.nil, .nil, .nil, .nil, .nil, rfl, by simp [allW, encW]⟩
    · rintro i d ρ hd ⟨s2, s3, s4, s5, s6, hf, rfl⟩
      rw [List.getElem?_map] at hd
      cases hk : ks[i]? with
      | none => rw [hk] at hd; cases hd
      | some ky =>
        rw [hk] at hd
        cases hd
        have q := h1 ky (List.mem_of_getElem? hk)
        have hi := (List.getElem?_eq_some_iff.mp hk).1
        have len1 := allW_len ks i (by omega)
        have len2 := allW_len ks (i + 1) (by omega)
        have le2 := sumW_take ks (i + 1)
        have b2 : 2 ^ sumW (ks.take (i + 1)) ≤ 2 ^ 7 := Nat.pow_le_pow_right (by decide) (by omega)
        have nx := allW_snoc hk
        have hs : ky.2 ≤ 7 := by
          have := sumW_take ks (i + 1)
          rw [List.take_succ_eq_append_getElem hi, sumW_snoc, (List.getElem?_eq_some_iff.mp hk).2] at this
          omega
        have tq := Nat.two_pow_pos ky.2
        have b3 : 2 ^ ky.2 ≤ 2 ^ 7 := Nat.pow_le_pow_right (by decide) hs
        simp only [tn0, tn1, tn2, tn3, tn4, tn5, bT, bs, b1, DL.wp, sRet, sRetN, sRetO, sSeq, sIf, sSet, sNew, sMov, sDo, sApp, sExt, sUnp, sPar, sParN, sNext, setAll, dAnd, dOr, dNot, dIf, dIsi, dv, dC, dOp, cI0, cII, gII, cSc, eSc, chI, chI3, dB, dtAnd, dtOr, dtNot, bw1, dCall, dCallJ, nCall, dCB, aCons, aNil, dTup, nLst, dNew, gLen, cLen, gTu, cTu, c2I, g2I, c1I, g1I, itm, cIx, gSl, oNo, oPt, dAll, dSum, dRepr, gCat, cCat, cInS, gInS, isN, ini, List.map, List.length, List.replicate, List.append, List.cons_append, List.nil_append, List.append_nil, List.getElem?_cons_zero, List.getElem?_cons_succ, List.set_cons_zero, List.set_cons_succ, List.length_cons, List.length_nil, Option.getD_some, true_and, and_true, if_true, if_false, isT_int_int, isT_bool_int, isT_tuple_tuple, isT_str_str, Bool.not_false, Bool.not_true, false_implies, List.length_map, Bool.false_eq_true, Bool.true_eq_false, encK, sForO]
        refine ⟨noL2 (.str _) (.int _), by decide, (fun d hd => nomatch hd), fun a => ⟨fun (j : Nat) ρ => ∃ s5 s6 : SV, frzs [s5, s6] = [none, none] ∧ ρ = [.par (.tuple (ks.map encK)), .frz a ((allW (ks.take i)).map encW), .dat (.str ky.1.s), .dat (.int ky.2), .own ((ext1 ky ((allW (ks.take i)).take j)).map encW), s5, s6], ?_, ?_, ?_⟩⟩
        · exact ⟨s5, s6, frzs_tl (frzs_tl (frzs_tl hf)), by simp [ext1]⟩
        · rintro j d ρ hd ⟨t5, t6, hg, rfl⟩
          rw [List.getElem?_map] at hd
          cases hw : (allW (ks.take i))[j]? with
          | none => rw [hw] at hd; cases hd
          | some ws =>
            rw [hw] at hd
            cases hd
            simp only [tn0, tn1, tn2, tn3, tn4, tn5, bT, bs, b1, DL.wp, sRet, sRetN, sRetO, sSeq, sIf, sSet, sNew, sMov, sDo, sApp, sExt, sUnp, sPar, sParN, sNext, setAll, dAnd, dOr, dNot, dIf, dIsi, dv, dC, dOp, cI0, cII, gII, cSc, eSc, chI, chI3, dB, dtAnd, dtOr, dtNot, bw1, dCall, dCallJ, nCall, dCB, aCons, aNil, dTup, nLst, dNew, gLen, cLen, gTu, cTu, c2I, g2I, c1I, g1I, itm, cIx, gSl, oNo, oPt, dAll, dSum, dRepr, gCat, cCat, cInS, gInS, isN, ini, List.map, List.length, List.replicate, List.append, List.cons_append, List.nil_append, List.append_nil, List.getElem?_cons_zero, List.getElem?_cons_succ, List.set_cons_zero, List.set_cons_succ, List.length_cons, List.length_nil, Option.getD_some, true_and, and_true, if_true, if_false, isT_int_int, isT_bool_int, isT_tuple_tuple, isT_str_str, Bool.not_false, Bool.not_true, false_implies, List.length_map, Bool.false_eq_true, Bool.true_eq_false, nLc, rng1I]
            refine ⟨noL_encW ws, ky.2, rfl, q.2, ⟨by omega, by omega⟩, ?_⟩
            rw [Int.toNat_natCast, rng_len]
            refine ⟨by omega, fun (v : Nat) d => d = encW (ws ++ [v]), fun v d hv => ?_, fun ds hl hR => ?_⟩
            · obtain ⟨hv2, rfl⟩ := rng_get hv
              have lw := (allW_ok ks i (by omega) ws (List.mem_of_getElem? hw)).len
              rw [List.length_take] at lw
              have hv0 : (0 : Int) + (v : Nat) = (v : Nat) := Int.zero_add _
              rw [hv0]
              refine ⟨.int _, by decide, ?_, ?_, ?_⟩
              · show (ws.map fun w => PyData.int (w : Nat)).length + 1 ≤ 100000
                rw [List.length_map]
                omega
              · show NoL (.tuple ((ws.map fun w => PyData.int (w : Nat)) ++ [.int (v : Nat)]))
                exact .tup fun d hd => by
                  rcases List.mem_append.mp hd with hd | hd
                  · exact noL_ints _ d hd
                  · rw [List.mem_singleton.mp hd]; exact .int _
              · show PyData.tuple ((ws.map fun w => PyData.int (w : Nat)) ++ [.int (v : Nat)]) = encW (ws ++ [v])
                unfold encW
                rw [List.map_append]
                rfl
            · have ed : ds = (List.range (2 ^ ky.2)).map fun v => encW (ws ++ [v]) := List.ext_getElem (by rw [hl, List.length_map, List.length_range]) fun v g1 g2 => by
                have := hR v _ (List.getElem?_eq_getElem g1)
                rw [this, List.getElem_map, List.getElem_range]
              subst ed
              have l1 := ext1_len ky ((allW (ks.take i)).take j)
              have l2 := ext1_len ky (allW (ks.take i))
              have l3 : ((allW (ks.take i)).take j).length * 2 ^ ky.2 ≤ (allW (ks.take i)).length * 2 ^ ky.2 := Nat.mul_le_mul_right _ (by rw [List.length_take]; omega)
              rw [← nx, len2] at l2
              refine ⟨fun d hd => ?_, by omega, ?_⟩
              · obtain ⟨v, _, rfl⟩ := List.mem_map.mp hd
                exact noL_encW _
              · refine ⟨.dat (encW ws), t6, by show none :: frzs [t6] = _; rw [frzs_tl hg], ?_⟩
                rw [ext1_snoc hw, List.map_append, List.map_map]
                rfl
        · rintro ρ ⟨t5, t6, hg, rfl⟩
          simp only [tn0, tn1, tn2, tn3, tn4, tn5, bT, bs, b1, DL.wp, sRet, sRetN, sRetO, sSeq, sIf, sSet, sNew, sMov, sDo, sApp, sExt, sUnp, sPar, sParN, sNext, setAll, dAnd, dOr, dNot, dIf, dIsi, dv, dC, dOp, cI0, cII, gII, cSc, eSc, chI, chI3, dB, dtAnd, dtOr, dtNot, bw1, dCall, dCallJ, nCall, dCB, aCons, aNil, dTup, nLst, dNew, gLen, cLen, gTu, cTu, c2I, g2I, c1I, g1I, itm, cIx, gSl, oNo, oPt, dAll, dSum, dRepr, gCat, cCat, cInS, gInS, isN, ini, List.map, List.length, List.replicate, List.append, List.cons_append, List.nil_append, List.append_nil, List.getElem?_cons_zero, List.getElem?_cons_succ, List.set_cons_zero, List.set_cons_succ, List.length_cons, List.length_nil, Option.getD_some, true_and, and_true, if_true, if_false, isT_int_int, isT_bool_int, isT_tuple_tuple, isT_str_str, Bool.not_false, Bool.not_true, false_implies, List.length_map, Bool.false_eq_true, Bool.true_eq_false]
          rw [List.take_length, ← nx]
          refine ⟨?_, .dat (.str ky.1.s), .dat (.int ky.2), .nil, t5, t6, by show none :: none :: none :: frzs [t5, t6] = _; rw [hg], rfl⟩
          show none :: some a :: none :: none :: none :: frzs [t5, t6] = none :: some a :: none :: none :: none :: frzs [s5, s6]
          rw [hg, show frzs [s5, s6] = [none, none] from frzs_tl (frzs_tl (frzs_tl hf))]
    · rintro ρ ⟨s2, s3, s4, s5, s6, hf, rfl⟩
      rw [List.take_length]
      refine ⟨?_, k⟩
      show none :: none :: frzs [s2, s3, s4, s5, s6] = _
      rw [hf]
      rfl
end
end LQ

namespace LQ
open PySem PySem.Spec PyProof.Rows L2 GuL HG DL
section
variable {P : Program} {w : World} {K : PySem.W.Frag} {mg : Str → Option Value} {base : Heap}
theorem noL_oInt (o : Option Nat) : NoL (oInt o) := by cases o <;> first | exact .non | exact .int _
theorem noL_told (ks : List Ky) (es : List En) (ws : List Nat) : NoL (toldD ks es ws) := by
  unfold toldD
  cases fst0 ks ws es with
  | none => exact .non
  | some i =>
    show NoL (match es[i]? with | some e => deedD e | none => .none)
    cases es[i]? with
    | none => exact .non
    | some e => exact noL_deed e
theorem sm_oInt {ks : List Ky} {es : List En} {ws : List Nat} (l : es.length ≤ 32) : Sm 2 300 (oInt (fst0 ks ws es)) := by
  cases h : fst0 ks ws es with
  | none => exact Sm.non.mono (by decide) (by decide)
  | some i =>
    have := fst0_lt h
    exact (Sm.int (by omega) (by omega)).mono (by decide) (by decide)
theorem sm_told {ks : List Ky} {es : List En} {ws : List Nat} (h : ∀ e ∈ es, EnOk ks e) : Sm 2 300 (toldD ks es ws) := by
  unfold toldD
  cases fst0 ks ws es with
  | none => exact Sm.non.mono (by decide) (by decide)
  | some i =>
    show Sm 2 300 (match es[i]? with | some e => deedD e | none => .none)
    cases hi : es[i]? with
    | none => exact Sm.non.mono (by decide) (by decide)
    | some e =>
      have he := h e (List.mem_of_getElem? hi)
      exact .tup ((Sms.cons (k := 1) ((sm_act he.act).mono (by decide) (Nat.le_refl _)) (Sms.cons (k := 1) ((Sm.tup (sms_args he.len he.arg)).mono (by decide) (Nat.le_refl _)) .nil)).mono (Nat.le_refl _) (by omega))
def fIsTold : DF := fun ds Q => ∃ (ks : List Ky) (es : List En) (ws : List Nat), ds = [encKs ks, encEs ks es, encW ws] ∧ LkOk ks es ws ∧ Q (.bool true)
theorem moIsTold : MoF fIsTold := fun _ _ _ m ⟨ks, es, w, e, a, q⟩ => ⟨ks, es, w, e, a, m _ q⟩
theorem ok_istold {f f1 f2 f3 f4 : Addr} {fd d1 d2 d3 d4 : FuncData} (F : Fun K "_law_is_told" "_law_is_told" s__law_is_told f fd) (KLh : DK P w K mg base 3 "_law_hit" s__law_hit p__law_hit (spP K fFirst) f1 d1) (KSa : DK P w K mg base 1 "_law_same" s__law_same p__law_same (spP K fSame) f2 d2) (KHb : DK P w K mg base 8 "hit_by" s_hit_by p_hit_by (spP K fHitBy) f3 d3) (KTb : DK P w K mg base 8 "told_by" s_told_by p_told_by (spP K fToldBy) f4 d4) : FnG P w K mg base CX0 9 f fd p__law_is_told (spP K fIsTold) := by
  refine fnP F sc__law_is_told moIsTold (fun ds Q h => ?_) (fun cdv A outer s H E b hA hr => ⟨_, (dss_cons (ds_set (i := 3) sc__law_is_told.nd rfl (by first | exact Or.inl rfl | exact Or.inr rfl) (de_call KLh.G moFirst hA (hr.mono (by decide)) (by rfl) KLh.g KLh.F.kp KLh.b pass0 (da_cons (de_v (pv 0)) (da_cons (de_v (pv 1)) (da_cons (de_v (pv 2)) da_nil))))) (dss_cons (ds_new (i := 4) sc__law_is_told.nd rfl (by first | exact Or.inl rfl | exact Or.inr rfl) (dn_lst (da_cons (de_v (pv 3)) (da_cons (de_if (dt_isN (de_v (pv 3))) de_non (de_sl (de_ix (de_v (pv 1)) (de_v (pv 3)) (fun _ _ => rfl)) (do_pt de_int) do_no)) da_nil)))) (dss_one (ds_ret (de_call KSa.G moSame hA (hr.mono (by decide)) (by rfl) KSa.g KSa.F.kp KSa.b pass0 (da_cons (de_new (dn_lst (da_cons (de_call KHb.G moHitBy hA (hr.mono (by decide)) (by rfl) KHb.g KHb.F.kp KHb.b pass0 (da_cons (de_v (pv 0)) (da_cons (de_v (pv 1)) (da_cons (de_v (pv 2)) da_nil)))) (da_cons (de_call KTb.G moToldBy hA (hr.mono (by decide)) (by rfl) KTb.g KTb.F.kp KTb.b pass0 (da_cons (de_v (pv 0)) (da_cons (de_v (pv 1)) (da_cons (de_v (pv 2)) da_nil)))) da_nil)))) (da_cons (de_v (pv 4)) da_nil))))))), fun ds Q h => ?_⟩)
  · obtain ⟨ks, es, ws, rfl, _⟩ := h
    rfl
  · obtain ⟨ks, es, ws, rfl, h, k⟩ := h
    simp only [tn0, tn1, tn2, tn3, tn4, tn5, bT, bs, b1, DL.wp, sRet, sRetN, sRetO, sSeq, sIf, sSet, sNew, sMov, sDo, sApp, sExt, sUnp, sPar, sParN, sNext, setAll, dAnd, dOr, dNot, dIf, dIsi, dv, dC, dOp, cI0, cII, gII, cSc, eSc, chI, chI3, dB, dtAnd, dtOr, dtNot, bw1, dCall, dCallJ, nCall, dCB, aCons, aNil, dTup, nLst, dNew, gLen, cLen, gTu, cTu, c2I, g2I, c1I, g1I, itm, cIx, gSl, oNo, oPt, dAll, dSum, dRepr, gCat, cCat, cInS, gInS, isN, ini, List.map, List.length, List.replicate, List.append, List.cons_append, List.nil_append, List.append_nil, List.getElem?_cons_zero, List.getElem?_cons_succ, List.set_cons_zero, List.set_cons_succ, List.length_cons, List.length_nil, Option.getD_some, true_and, and_true, if_true, if_false, isT_int_int, isT_bool_int, isT_tuple_tuple, isT_str_str, Bool.not_false, Bool.not_true, false_implies, List.length_map, Bool.false_eq_true, Bool.true_eq_false]
    refine ⟨ks, es, ws, rfl, fun e he => (h.e e he).ps, h.w, h.k.1, h.k.2.2.1, noL_oInt _, ?_⟩
    have sm : Sms 2 700 [oInt (fst0 ks ws es), toldD ks es ws] := (Sms.cons (sm_oInt h.l) (Sms.cons (sm_told h.e) .nil)).mono (Nat.le_refl _) (by decide)
    have o1 := sm.okd (by decide) (by decide)
    have o2 := sm.hdL
    have nn : ∀ d ∈ [oInt (fst0 ks ws es), toldD ks es ws], NoL d := noL2 (noL_oInt _) (noL_told ks es ws)
    cases hf : fst0 ks ws es with
    | none =>
      have e2 : toldD ks es ws = .none := by unfold toldD; rw [hf]
      rw [hf, e2] at o1 o2 nn
      simp only [tn0, tn1, tn2, tn3, tn4, tn5, bT, bs, b1, DL.wp, sRet, sRetN, sRetO, sSeq, sIf, sSet, sNew, sMov, sDo, sApp, sExt, sUnp, sPar, sParN, sNext, setAll, dAnd, dOr, dNot, dIf, dIsi, dv, dC, dOp, cI0, cII, gII, cSc, eSc, chI, chI3, dB, dtAnd, dtOr, dtNot, bw1, dCall, dCallJ, nCall, dCB, aCons, aNil, dTup, nLst, dNew, gLen, cLen, gTu, cTu, c2I, g2I, c1I, g1I, itm, cIx, gSl, oNo, oPt, dAll, dSum, dRepr, gCat, cCat, cInS, gInS, isN, ini, List.map, List.length, List.replicate, List.append, List.cons_append, List.nil_append, List.append_nil, List.getElem?_cons_zero, List.getElem?_cons_succ, List.set_cons_zero, List.set_cons_succ, List.length_cons, List.length_nil, Option.getD_some, true_and, and_true, if_true, if_false, isT_int_int, isT_bool_int, isT_tuple_tuple, isT_str_str, Bool.not_false, Bool.not_true, false_implies, List.length_map, Bool.false_eq_true, Bool.true_eq_false, oInt]
      exact ⟨by decide, nn, ks, es, ws, rfl, h, ks, es, ws, rfl, h, by decide, _, by rw [hf, e2]; rfl, o1, o2, k⟩
    | some i =>
      have hi := fst0_lt hf
      have e2 : toldD ks es ws = deedD es[i] := by
        unfold toldD
        rw [hf]
        show (match es[i]? with | some e => deedD e | none => .none) = _
        rw [List.getElem?_eq_getElem hi]
      rw [hf, e2] at o1 o2 nn
      simp only [tn0, tn1, tn2, tn3, tn4, tn5, bT, bs, b1, DL.wp, sRet, sRetN, sRetO, sSeq, sIf, sSet, sNew, sMov, sDo, sApp, sExt, sUnp, sPar, sParN, sNext, setAll, dAnd, dOr, dNot, dIf, dIsi, dv, dC, dOp, cI0, cII, gII, cSc, eSc, chI, chI3, dB, dtAnd, dtOr, dtNot, bw1, dCall, dCallJ, nCall, dCB, aCons, aNil, dTup, nLst, dNew, gLen, cLen, gTu, cTu, c2I, g2I, c1I, g1I, itm, cIx, gSl, oNo, oPt, dAll, dSum, dRepr, gCat, cCat, cInS, gInS, isN, ini, List.map, List.length, List.replicate, List.append, List.cons_append, List.nil_append, List.append_nil, List.getElem?_cons_zero, List.getElem?_cons_succ, List.set_cons_zero, List.set_cons_succ, List.length_cons, List.length_nil, Option.getD_some, true_and, and_true, if_true, if_false, isT_int_int, isT_bool_int, isT_tuple_tuple, isT_str_str, Bool.not_false, Bool.not_true, false_implies, List.length_map, Bool.false_eq_true, Bool.true_eq_false, oInt, encEs]
      refine ⟨⟨by omega, by omega⟩, ?_⟩
      simp only [Int.toNat_natCast, List.getElem?_map, List.getElem?_eq_getElem hi, Option.map, tn0, tn1, tn2, tn3, tn4, tn5, bT, bs, b1, DL.wp, sRet, sRetN, sRetO, sSeq, sIf, sSet, sNew, sMov, sDo, sApp, sExt, sUnp, sPar, sParN, sNext, setAll, dAnd, dOr, dNot, dIf, dIsi, dv, dC, dOp, cI0, cII, gII, cSc, eSc, chI, chI3, dB, dtAnd, dtOr, dtNot, bw1, dCall, dCallJ, nCall, dCB, aCons, aNil, dTup, nLst, dNew, gLen, cLen, gTu, cTu, c2I, g2I, c1I, g1I, itm, cIx, gSl, oNo, oPt, dAll, dSum, dRepr, gCat, cCat, cInS, gInS, isN, ini, List.map, List.length, List.replicate, List.append, List.cons_append, List.nil_append, List.append_nil, List.getElem?_cons_zero, List.getElem?_cons_succ, List.set_cons_zero, List.set_cons_succ, List.length_cons, List.length_nil, Option.getD_some, true_and, and_true, if_true, if_false, isT_int_int, isT_bool_int, isT_tuple_tuple, isT_str_str, Bool.not_false, Bool.not_true, false_implies, List.length_map, Bool.false_eq_true, Bool.true_eq_false, encE, cut13]
      exact ⟨by decide, nn, ks, es, ws, rfl, h, ks, es, ws, rfl, h, by decide, _, by rw [hf, e2]; rfl, o1, o2, k⟩
end
end LQ

namespace LQ
open PySem PySem.Spec PyProof.Rows L2 GuL HG DL
abbrev s__law_right : Stmt := topS 55
theorem sc__law_right : FnScope ["_law_jar_here", "_law_keys_here", "_law_entries_here", "_law_words_here", "_law_due", "_law_turn"] ["_law_jar_here"] (defScope s__law_right) := ⟨rfl, rfl, rfl, by decide +kernel, rfl, by decide +kernel, by decide +kernel⟩
abbrev n__law_right : List Str := ["_law_jar_here", "_law_keys_here", "_law_entries_here", "_law_words_here", "_law_due", "_law_turn"]
abbrev p__law_right : List Str := ["_law_jar_here"]

section
variable {P : Program} {w : World} {K : PySem.W.Frag} {mg : Str → Option Value} {base : Heap}
/-! ### calls by names alone -/
def rev3 : List PyData → List PyData | [a, b, c] => [c, b, a] | ds => ds
def rot3 : List PyData → List PyData | [a, b, c] => [b, c, a] | ds => ds
def rev3v {α : Type} : List α → List α | [a, b, c] => [c, b, a] | ds => ds
def rot3v {α : Type} : List α → List α | [a, b, c] => [b, c, a] | ds => ds
theorem Fun_kbnG {pv : List Value → List Value} {pV : List V → List V} {x qual : Str} {st : Stmt} {f : Addr} {fd : FuncData} {ps ks : List Str} (hv : ∀ {zs : List V} {ws : List Value}, Vals zs ws → Vals (pV zs) (pv ws)) (F : Fun K x qual st f fd)
    (h : ∀ (kV doc pm : Value) (an : Option Addr) (cdv ct : Value) (ws : List Value), ws.length = ks.length → bindArgs (PySem.W.fnOf x qual (defArgs st) (defBody st) (defScope st) .none kV doc pm an cdv ct) ⟨[], ks.zip ws⟩ = pure (ps.zip (pv ws))) : KBn K fd ps 0 ks (fun _ ws => pv ws) (fun _ zs => pV zs) := by
  obtain ⟨oc, od, kV, doc, pm, an, cdv, ct, osl, rfl, lk, hcd⟩ := F.ex
  refine ⟨fun s us ws _ h0 h1 => ?_, fun _ r => hv r⟩
  obtain rfl := List.length_eq_zero_iff.mp h0
  exact .of_eq (h kV doc pm an cdv ct ws h1)
theorem vRev3 {zs : List V} {ws : List Value} (h : Vals zs ws) : Vals (rev3v zs) (rev3v ws) := by
  match zs, ws, h with
  | [_, _, _], [_, _, _], .cons a (.cons b (.cons c .nil)) => exact .cons c (.cons b (.cons a .nil))
  | [], [], h => exact h
  | [_], [_], h => exact h
  | [_, _], [_, _], h => exact h
  | _ :: _ :: _ :: _ :: _, _ :: _ :: _ :: _ :: _, h => exact h
theorem vRot3 {zs : List V} {ws : List Value} (h : Vals zs ws) : Vals (rot3v zs) (rot3v ws) := by
  match zs, ws, h with
  | [_, _, _], [_, _, _], .cons a (.cons b (.cons c .nil)) => exact .cons b (.cons c (.cons a .nil))
  | [], [], h => exact h
  | [_], [_], h => exact h
  | [_, _], [_, _], h => exact h
  | _ :: _ :: _ :: _ :: _, _ :: _ :: _ :: _ :: _, h => exact h
theorem hD3a {K : PySem.W.Frag} {b : Addr} {H : Hp} {vs : List V} {ds : List PyData} (l : ds.length = 3) (h : Dts K b H vs ds) : Dts K b H (rev3v vs) (rev3 ds) := by
  cases h with
  | nil => cases l
  | cons a h => cases h with
    | nil => cases l
    | cons b h => cases h with
      | nil => cases l
      | cons c h => cases h with
        | nil => exact .cons c (.cons b (.cons a .nil))
        | cons d h => simp only [List.length_cons] at l; omega
theorem hD3b {K : PySem.W.Frag} {b : Addr} {H : Hp} {vs : List V} {ds : List PyData} (l : ds.length = 3) (h : Dts K b H vs ds) : Dts K b H (rot3v vs) (rot3 ds) := by
  cases h with
  | nil => cases l
  | cons a h => cases h with
    | nil => cases l
    | cons b h => cases h with
      | nil => cases l
      | cons c h => cases h with
        | nil => exact .cons b (.cons c (.cons a .nil))
        | cons d h => simp only [List.length_cons] at l; omega
theorem allW_okA (ks : List Ky) : ∀ ws ∈ allW ks, WsOk ks ws := by
  have := allW_ok ks ks.length (Nat.le_refl _)
  rwa [List.take_length] at this
def fRight : DF := fun ds Q => ds = [] ∧ Q (.bool true)
theorem moRight : MoF fRight := fun _ _ _ m ⟨e, q⟩ => ⟨e, m _ q⟩
theorem ok_right {f f1 f2 f3 f4 f5 f6 f7 f8 f9 f10 f11 : Addr} {fd d1 d2 d3 d4 d5 d6 d7 d8 d9 d10 d11 : FuncData} (F : Fun K "_law_right" "_law_right" s__law_right f fd) (B : Blt mg) (KLh : DK P w K mg base 3 "_law_hit" s__law_hit p__law_hit (spP K fFirst) f1 d1) (KSa : DK P w K mg base 1 "_law_same" s__law_same p__law_same (spP K fSame) f2 d2) (KHb : DK P w K mg base 8 "hit_by" s_hit_by p_hit_by (spP K fHitBy) f3 d3) (KTb : DK P w K mg base 8 "told_by" s_told_by p_told_by (spP K fToldBy) f4 d4) (KLt : DK P w K mg base 4 "_law_tells" s__law_tells p__law_tells (spP K fTells) f5 d5) (KIt : DK P w K mg base 9 "_law_is_told" s__law_is_told p__law_is_told (spP K fIsTold) f6 d6) (KKs : DK P w K mg base 3 "_law_keys" s__law_keys p__law_keys (spJ K fKeysL) f7 d7) (KEs : DK P w K mg base 5 "_law_entries" s__law_entries p__law_entries (spJ K fEntriesL) f8 d8) (KWo : DK P w K mg base 3 "_law_words" s__law_words p__law_words (spJ K fWordsL) f9 d9) (KEd : DK P w K mg base 4 "_law_edges" s__law_edges p__law_edges (spJ K fEdges) f10 d10) (KAw : DK P w K mg base 2 "_law_all_words" s__law_all_words p__law_all_words (spN K fAllW) f11 d11)
    (nH : KBn K d3 p_hit_by 0 ["words", "entries", "keys"] (fun _ ws => rev3v ws) (fun _ zs => rev3v zs)) (nT : KBn K d4 p_told_by 0 ["words", "keys", "entries"] (fun _ ws => rot3v ws) (fun _ zs => rot3v zs)) : FnG P w K mg base CX0 10 f fd p__law_right (spJ K fRight) := by
  have body : ∀ (cdv : Value) (A : Around) (outer : List Env) (s : Shared) (H : Hp) (E : XK) (b : Addr), A.guards = some [] → Room 9 (A.deeper (envOfC "_law_right" (defScope s__law_right) s.heap.objs.size f cdv)) →
      ∃ t, DSs (cxD P w K mg base n__law_right "_law_right" s__law_right f cdv A outer s H E) b true (defBody s__law_right) t ∧ ∀ ds (Q : PyData → Prop), fRight ds Q → t { nx := fun _ => Q .none, rt := Q } (ini n__law_right (.jar :: ds.map .par)) := fun cdv A outer s H E b hA hr => by
    obtain ⟨t2, e2', k2⟩ : ∃ t, DSs (cxD P w K mg base n__law_right "_law_right" s__law_right f cdv A outer s H E) b true ((defBody s__law_right).drop 7) t ∧ ∀ (Q : PyData → Prop) (s1 s2 s3 s4 s5 : SV), frzs [s1, s2, s3, s4, s5] = [none, none, none, none, none] → Q (.bool true) → t { nx := fun _ => Q .none, rt := Q } [.jar, s1, s2, s3, s4, s5] := by
      refine ⟨_, (dss_cons (ds_set (i := 1) sc__law_right.nd rfl (by first | exact Or.inl rfl | exact Or.inr rfl) (de_callJ (i := 0) KKs.G moKeysL hA (hr.mono (by decide)) (by rfl) KKs.g KKs.F.kp KKs.b pass0 (pv 0) (da_cons de_int (da_cons de_int da_nil)))) (dss_cons (ds_set (i := 2) sc__law_right.nd rfl (by first | exact Or.inl rfl | exact Or.inr rfl) (de_callJ (i := 0) KEs.G moEntriesL hA (hr.mono (by decide)) (by rfl) KEs.g KEs.F.kp KEs.b pass0 (pv 0) (da_cons (de_v (pv 1)) (da_cons de_int da_nil)))) (dss_cons (ds_for (p := (.one (.n 5))) PassesOwn.never rfl (di_rng1 (by rfl) B.range (da_cons de_int da_nil)) (pg_name (i := 5) sc__law_right.nd rfl (by first | exact Or.inl rfl | exact Or.inr rfl)) (dss_cons (ds_set (i := 3) sc__law_right.nd rfl (by first | exact Or.inl rfl | exact Or.inr rfl) (de_if (dt_lt (de_v (pv 5)) de_int) (de_callJ (i := 0) KWo.G moWordsL hA (hr.mono (by decide)) (by rfl) KWo.g KWo.F.kp KWo.b pass0 (pv 0) (da_cons (de_v (pv 1)) da_nil)) (de_callJ (i := 0) KEd.G moEdges hA (hr.mono (by decide)) (by rfl) KEd.g KEd.F.kp KEd.b pass0 (pv 0) (da_cons (de_v (pv 1)) (da_cons (de_v (pv 2)) da_nil))))) (dss_one (ds_if (dt_not (dt_val (de_call KIt.G moIsTold hA (hr.mono (by decide)) (by rfl) KIt.g KIt.F.kp KIt.b pass0 (da_cons (de_v (pv 1)) (da_cons (de_v (pv 2)) (da_cons (de_v (pv 3)) da_nil)))))) (dss_one (ds_ret de_bl)) dss_nil)))) (dss_one (ds_ret de_bl))))), fun Q s1 s2 s3 s4 s5 hf k => ?_⟩
      simp only [tn0, tn1, tn2, tn3, tn4, tn5, bT, bs, b1, DL.wp, sRet, sRetN, sRetO, sSeq, sIf, sSet, sNew, sMov, sDo, sApp, sExt, sUnp, sPar, sParN, sNext, setAll, dAnd, dOr, dNot, dIf, dIsi, dv, dC, dOp, cI0, cII, gII, cSc, eSc, chI, chI3, dB, dtAnd, dtOr, dtNot, bw1, dCall, dCallJ, nCall, dCB, aCons, aNil, dTup, nLst, dNew, gLen, cLen, gTu, cTu, c2I, g2I, c1I, g1I, itm, cIx, gSl, oNo, oPt, dAll, dSum, dRepr, gCat, cCat, cInS, gInS, isN, ini, List.map, List.length, List.replicate, List.append, List.cons_append, List.nil_append, List.append_nil, List.getElem?_cons_zero, List.getElem?_cons_succ, List.set_cons_zero, List.set_cons_succ, List.length_cons, List.length_nil, Option.getD_some, true_and, and_true, if_true, if_false, isT_int_int, isT_bool_int, isT_tuple_tuple, isT_str_str, Bool.not_false, Bool.not_true, false_implies, List.length_map, Bool.false_eq_true, Bool.true_eq_false, sFor, rng1I]
      refine ⟨48, 32, rfl, by decide, by decide, by decide, by decide, fun ks k1 k2 k3 k4 => ⟨.tup (noL_encKs ks), ks, 12, rfl, k3, k2, by decide, fun es e1 e2 => ⟨.tup (noL_encEs ks es), ⟨by decide, by decide⟩, fun (i : Nat) ρ => ∃ s3 s4 s5 : SV, frzs [s3, s4, s5] = [none, none, none] ∧ ρ = [.jar, .dat (encKs ks), .dat (encEs ks es), s3, s4, s5], ⟨s3, s4, s5, frzs_tl (frzs_tl hf), rfl⟩, ?_, ?_⟩⟩⟩
      · rintro i d ρ hd ⟨t3, t4, t5, hg, rfl⟩
        obtain ⟨hi, rfl⟩ := rng_get hd
        have lk : ∀ ws, WsOk ks ws → LkOk ks es ws := fun ws hw => ⟨⟨k3, k1, k2, k4⟩, e1, by omega, hw⟩
        have g4 : frzs [t4] = [none] := by have := frzs_tl hg; cases t4 <;> first | rfl | cases (List.cons.inj this).1
        simp only [tn0, tn1, tn2, tn3, tn4, tn5, bT, bs, b1, DL.wp, sRet, sRetN, sRetO, sSeq, sIf, sSet, sNew, sMov, sDo, sApp, sExt, sUnp, sPar, sParN, sNext, setAll, dAnd, dOr, dNot, dIf, dIsi, dv, dC, dOp, cI0, cII, gII, cSc, eSc, chI, chI3, dB, dtAnd, dtOr, dtNot, bw1, dCall, dCallJ, nCall, dCB, aCons, aNil, dTup, nLst, dNew, gLen, cLen, gTu, cTu, c2I, g2I, c1I, g1I, itm, cIx, gSl, oNo, oPt, dAll, dSum, dRepr, gCat, cCat, cInS, gInS, isN, ini, List.map, List.length, List.replicate, List.append, List.cons_append, List.nil_append, List.append_nil, List.getElem?_cons_zero, List.getElem?_cons_succ, List.set_cons_zero, List.set_cons_succ, List.length_cons, List.length_nil, Option.getD_some, true_and, and_true, if_true, if_false, isT_int_int, isT_bool_int, isT_tuple_tuple, isT_str_str, Bool.not_false, Bool.not_true, false_implies, List.length_map, Bool.false_eq_true, Bool.true_eq_false]
        refine ⟨.int _, ?_⟩
        have fin : ∀ ws, ∃ s3 s4 s5 : SV, frzs [s3, s4, s5] = [none, none, none] ∧ [SV.jar, SV.dat (encKs ks), .dat (encEs ks es), .dat (encW ws), t4, .dat (.int (0 + (i : Nat)))] = [.jar, .dat (encKs ks), .dat (encEs ks es), s3, s4, s5] := fun ws => ⟨_, _, _, (by show none :: frzs [t4, .dat (.int (0 + (i : Nat)))] = _; cases t4 <;> first | rfl | cases (List.cons.inj g4).1), rfl⟩
        split
        · exact ⟨ks, rfl, k3, k2, fun ws hw => ⟨noL_encW ws, ks, es, ws, rfl, lk ws hw, fin ws⟩⟩
        · exact ⟨ks, es, rfl, k3, k2, e1, by omega, fun ws hw => ⟨noL_encW ws, ks, es, ws, rfl, lk ws hw, fin ws⟩⟩
      · rintro ρ ⟨t3, t4, t5, hg, rfl⟩
        refine ⟨?_, k⟩
        show none :: none :: none :: frzs [t3, t4, t5] = none :: none :: none :: frzs [s3, s4, s5]
        rw [hg, show frzs [s3, s4, s5] = [none, none, none] from frzs_tl (frzs_tl hf)]
    obtain ⟨t1, d1', k1⟩ : ∃ t, DSs (cxD P w K mg base n__law_right "_law_right" s__law_right f cdv A outer s H E) b true ((defBody s__law_right).drop 3) t ∧ ∀ (Q : PyData → Prop) (ks : List Ky) (es : List En) (s3 s4 s5 : SV), KsOk ks → ks.length ≤ 3 → (∀ ws, WsOk ks ws → LkOk ks es ws) → frzs [s3, s4, s5] = [none, none, none] → Q (.bool true) → t { nx := fun _ => Q .none, rt := Q } [.jar, .dat (encKs ks), .dat (encEs ks es), s3, s4, s5] := by
      refine ⟨_, (dss_cons (ds_set (i := 3) sc__law_right.nd rfl (by first | exact Or.inl rfl | exact Or.inr rfl) (de_callJ (i := 0) KWo.G moWordsL hA (hr.mono (by decide)) (by rfl) KWo.g KWo.F.kp KWo.b pass0 (pv 0) (da_cons (de_v (pv 1)) da_nil))) (dss_cons (ds_set (i := 4) sc__law_right.nd rfl (by first | exact Or.inl rfl | exact Or.inr rfl) (de_call KLh.G moFirst hA (hr.mono (by decide)) (by rfl) KLh.g KLh.F.kp KLh.b pass0 (da_cons (de_v (pv 1)) (da_cons (de_v (pv 2)) (da_cons (de_v (pv 3)) da_nil))))) (dss_cons (ds_if (dt_not (dt_val (de_call KSa.G moSame hA (hr.mono (by decide)) (by rfl) KSa.g KSa.F.kp KSa.b pass0 (da_cons (de_callK KHb.G moHitBy hA (hr.mono (by decide)) (by rfl) KHb.g KHb.F.kp nH pass0 (dk_cons (de_v (pv 3)) (dk_cons (de_v (pv 2)) (dk_cons (de_v (pv 1)) dk_nil))) hD3a) (da_cons (de_v (pv 4)) da_nil))))) (dss_one (ds_ret de_bl)) dss_nil) (dss_cons (ds_if (dt_not (dt_val (de_call KSa.G moSame hA (hr.mono (by decide)) (by rfl) KSa.g KSa.F.kp KSa.b pass0 (da_cons (de_callK KTb.G moToldBy hA (hr.mono (by decide)) (by rfl) KTb.g KTb.F.kp nT pass0 (dk_cons (de_v (pv 3)) (dk_cons (de_v (pv 1)) (dk_cons (de_v (pv 2)) dk_nil))) hD3b) (da_cons (de_call KLt.G moTells hA (hr.mono (by decide)) (by rfl) KLt.g KLt.F.kp KLt.b pass0 (da_cons (de_v (pv 1)) (da_cons (de_v (pv 2)) (da_cons (de_v (pv 3)) da_nil)))) da_nil))))) (dss_one (ds_ret de_bl)) dss_nil) e2')))), fun Q ks es s3 s4 s5 kO kl lk hf k => ?_⟩
      simp only [tn0, tn1, tn2, tn3, tn4, tn5, bT, bs, b1, DL.wp, sRet, sRetN, sRetO, sSeq, sIf, sSet, sNew, sMov, sDo, sApp, sExt, sUnp, sPar, sParN, sNext, setAll, dAnd, dOr, dNot, dIf, dIsi, dv, dC, dOp, cI0, cII, gII, cSc, eSc, chI, chI3, dB, dtAnd, dtOr, dtNot, bw1, dCall, dCallJ, nCall, dCB, aCons, aNil, dTup, nLst, dNew, gLen, cLen, gTu, cTu, c2I, g2I, c1I, g1I, itm, cIx, gSl, oNo, oPt, dAll, dSum, dRepr, gCat, cCat, cInS, gInS, isN, ini, List.map, List.length, List.replicate, List.append, List.cons_append, List.nil_append, List.append_nil, List.getElem?_cons_zero, List.getElem?_cons_succ, List.set_cons_zero, List.set_cons_succ, List.length_cons, List.length_nil, Option.getD_some, true_and, and_true, if_true, if_false, isT_int_int, isT_bool_int, isT_tuple_tuple, isT_str_str, Bool.not_false, Bool.not_true, false_implies, List.length_map, Bool.false_eq_true, Bool.true_eq_false, rev3, rot3]
      refine ⟨ks, rfl, kO, kl, fun ws hw => ⟨noL_encW ws, ks, es, ws, rfl, fun e he => ((lk ws hw).e e he).ps, hw, kO, kl, noL_oInt _, ?_⟩⟩
      have so := sm_oInt (ks := ks) (ws := ws) (lk ws hw).l
      have st := sm_told (ks := ks) (ws := ws) (lk ws hw).e
      exact ⟨ks, es, ws, rfl, lk ws hw, _, rfl, so.okd (by decide) (by decide), so.hd, ks, es, ws, rfl, lk ws hw, ks, es, ws, rfl, fun e he => ((lk ws hw).e e he).ps, hw, kO, kl, _, rfl, st.okd (by decide) (by decide), st.hd, k2 Q _ _ _ _ s5 (by show none :: none :: none :: none :: frzs [s5] = _; rw [frzs_tl (frzs_tl hf)]) k⟩
    refine ⟨_, (dss_cons (ds_set (i := 1) sc__law_right.nd rfl (by first | exact Or.inl rfl | exact Or.inr rfl) (de_callJ (i := 0) KKs.G moKeysL hA (hr.mono (by decide)) (by rfl) KKs.g KKs.F.kp KKs.b pass0 (pv 0) (da_cons de_int (da_cons de_int da_nil)))) (dss_cons (ds_set (i := 2) sc__law_right.nd rfl (by first | exact Or.inl rfl | exact Or.inr rfl) (de_callJ (i := 0) KEs.G moEntriesL hA (hr.mono (by decide)) (by rfl) KEs.g KEs.F.kp KEs.b pass0 (pv 0) (da_cons (de_v (pv 1)) (da_cons de_int da_nil)))) (dss_cons (ds_for (p := (.one (.n 3))) PassesOwn.never rfl (di_new (dn_call KAw.G moAllW hA (hr.mono (by decide)) (by rfl) KAw.g KAw.F.kp KAw.b pass0 (da_cons (de_v (pv 1)) da_nil))) (pg_name (i := 3) sc__law_right.nd rfl (by first | exact Or.inl rfl | exact Or.inr rfl)) (dss_one (ds_if (dt_not (dt_val (de_call KIt.G moIsTold hA (hr.mono (by decide)) (by rfl) KIt.g KIt.F.kp KIt.b pass0 (da_cons (de_v (pv 1)) (da_cons (de_v (pv 2)) (da_cons (de_v (pv 3)) da_nil)))))) (dss_one (ds_ret de_bl)) dss_nil))) d1'))), fun ds Q h => ?_⟩
    obtain ⟨rfl, k⟩ := h
    simp only [tn0, tn1, tn2, tn3, tn4, tn5, bT, bs, b1, DL.wp, sRet, sRetN, sRetO, sSeq, sIf, sSet, sNew, sMov, sDo, sApp, sExt, sUnp, sPar, sParN, sNext, setAll, dAnd, dOr, dNot, dIf, dIsi, dv, dC, dOp, cI0, cII, gII, cSc, eSc, chI, chI3, dB, dtAnd, dtOr, dtNot, bw1, dCall, dCallJ, nCall, dCB, aCons, aNil, dTup, nLst, dNew, gLen, cLen, gTu, cTu, c2I, g2I, c1I, g1I, itm, cIx, gSl, oNo, oPt, dAll, dSum, dRepr, gCat, cCat, cInS, gInS, isN, ini, List.map, List.length, List.replicate, List.append, List.cons_append, List.nil_append, List.append_nil, List.getElem?_cons_zero, List.getElem?_cons_succ, List.set_cons_zero, List.set_cons_succ, List.length_cons, List.length_nil, Option.getD_some, true_and, and_true, if_true, if_false, isT_int_int, isT_bool_int, isT_tuple_tuple, isT_str_str, Bool.not_false, Bool.not_true, false_implies, List.length_map, Bool.false_eq_true, Bool.true_eq_false, sFor, newI]
    refine ⟨7, 4, rfl, by decide, by decide, by decide, by decide, fun ks q1 q2 q3 q4 => ⟨.tup (noL_encKs ks), ks, 9, rfl, fun x hx => ⟨(q3 x hx).1, Nat.le_trans (q3 x hx).2 (by decide)⟩, q2, by decide, fun es e1 e2 => ⟨.tup (noL_encEs ks es), ?_⟩⟩⟩
    have kO : KsOk ks := fun x hx => ⟨(q3 x hx).1, Nat.le_trans (q3 x hx).2 (by decide)⟩
    have lk : ∀ ws, WsOk ks ws → LkOk ks es ws := fun ws hw => ⟨⟨kO, q1, q2, by omega⟩, e1, by omega, hw⟩
    refine ⟨ks, rfl, kO, q4, q2, fun d hd => ?_, fun (i : Nat) ρ => ∃ s3 : SV, frzs [s3] = [none] ∧ ρ = [.jar, .dat (encKs ks), .dat (encEs ks es), s3, .nil, .nil], ⟨_, rfl, rfl⟩, ?_, ?_⟩
    · obtain ⟨ws, _, rfl⟩ := List.mem_map.mp hd
      exact noL_encW ws
    · rintro i d ρ hd ⟨s3, hf, rfl⟩
      rw [List.getElem?_map] at hd
      cases hk : (allW ks)[i]? with
      | none => rw [hk] at hd; cases hd
      | some ws =>
        rw [hk] at hd
        cases hd
        have hw := allW_okA ks ws (List.mem_of_getElem? hk)
        simp only [tn0, tn1, tn2, tn3, tn4, tn5, bT, bs, b1, DL.wp, sRet, sRetN, sRetO, sSeq, sIf, sSet, sNew, sMov, sDo, sApp, sExt, sUnp, sPar, sParN, sNext, setAll, dAnd, dOr, dNot, dIf, dIsi, dv, dC, dOp, cI0, cII, gII, cSc, eSc, chI, chI3, dB, dtAnd, dtOr, dtNot, bw1, dCall, dCallJ, nCall, dCB, aCons, aNil, dTup, nLst, dNew, gLen, cLen, gTu, cTu, c2I, g2I, c1I, g1I, itm, cIx, gSl, oNo, oPt, dAll, dSum, dRepr, gCat, cCat, cInS, gInS, isN, ini, List.map, List.length, List.replicate, List.append, List.cons_append, List.nil_append, List.append_nil, List.getElem?_cons_zero, List.getElem?_cons_succ, List.set_cons_zero, List.set_cons_succ, List.length_cons, List.length_nil, Option.getD_some, true_and, and_true, if_true, if_false, isT_int_int, isT_bool_int, isT_tuple_tuple, isT_str_str, Bool.not_false, Bool.not_true, false_implies, List.length_map, Bool.false_eq_true, Bool.true_eq_false]
        exact ⟨noL_encW ws, ks, es, ws, rfl, lk ws hw, .dat (encW ws), rfl, rfl⟩
    · rintro ρ ⟨s3, hf, rfl⟩
      refine ⟨?_, k1 Q ks es s3 .nil .nil kO q2 lk (by show frzs (s3 :: [.nil, .nil]) = _; cases s3 <;> first | rfl | cases (List.cons.inj hf).1) k⟩
      show none :: none :: none :: frzs [s3, .nil, .nil] = _
      cases s3 <;> first | rfl | cases (List.cons.inj hf).1
  refine fnJ F sc__law_right moRight (fun ds Q h => ?_) body
  obtain ⟨rfl, _⟩ := h
  rfl
end
end LQ

namespace LQ
open PySem PySem.Spec PyProof.Rows L2 GuL HG DL
abbrev s_law : Stmt := topS 56
theorem sc_law : FnScope ["_law_script", "_law_turn"] ["_law_script"] (defScope s_law) := ⟨rfl, rfl, rfl, by decide +kernel, rfl, by decide +kernel, by decide +kernel⟩
abbrev n_law : List Str := ["_law_script", "_law_turn"]
abbrev p_law : List Str := ["_law_script"]

section
variable {P : Program} {w : World} {K : PySem.W.Frag} {mg : Str → Option Value} {base : Heap}
def spLaw (K : PySem.W.Frag) : Sp := fun vs H Q _ => ∃ (a : Addr) (ns : List Int), vs = [.ref a] ∧ SqL K H a (ns.map V.int) ∧ ns.length ≤ 63 ∧ ∀ H', Q (.bl true) H'
theorem ok_law {f fR fB : Addr} {fd fdR fdB : FuncData} (F : Fun K "law" "law" s_law f fd) (B : Blt mg) (FR : Fun K "_law_right" "_law_right" s__law_right fR fdR) (bR : Binds K fdR p__law_right []) (gR : mg "_law_right" = some (.ref fR)) (GR : FnG P w K mg base CX0 10 fR fdR p__law_right (spJ K fRight))
    (FB : Fun K "_law_jar" "_law_jar" s__law_jar fB fdB) (bB : Binds K fdB p__law_jar []) (gB : mg "_law_jar" = some (.ref fB)) : FnG P w K mg base CX0 11 f fd p_law (spLaw K) := by
  have GB : FnOk P w K mg base CX0 1 fB fdB p__law_jar (spJar K) := ok_jar FB B
  refine okG F sc_law (fun vs H Q E h => ?_) (fun cdv A outer s H vs Q E hA hr h => ?_)
  · obtain ⟨a, ns, rfl, _⟩ := h
    rfl
  · obtain ⟨a, ns, rfl, hS, hlen, k⟩ := h
    have hr1 : Room 1 _ := hr.mono (by decide)
    refine ⟨_, pss_one (ps_ret (pe_callB (cr_all rfl) (by rfl) B.all (by decide +kernel) (pa_cons
      (pe_lc (own := [("_law_turn", 1)]) (g := gName 1) (tt := tYes) rfl sc_law.nd (pi_range1 (by rfl) B.range (pa_cons (pe_callB (call_max2 rfl) (by rfl) B.max (by decide +kernel) (pa_cons pe_int (pa_cons (pe_callB (call_min2 rfl) (by rfl) B.min (by decide +kernel)
          (pa_cons (pe_callB call_len_seq (by rfl) B.len PySem.boot_len (pa_cons (pv 0) pa_nil)) (pa_cons pe_int pa_nil))) pa_nil))) pa_nil))
        (blkOk_by (N := n_law) (sc := defScope s_law) (by decide +kernel)) (fun _ _ _ _ _ => pg_name (i := 1) sc_law.nd rfl (Or.inl rfl)) (fun _ _ _ _ _ => pts_nil)
        (fun _ _ _ _ _ => pe_callG GR hA hr (by rfl) gR FR.kp bR .nil pass0 (pa_cons (pe_call GB hr1 (by rfl) gB FB.kp bB .nil pass0 (pa_cons (pv 0) (pa_cons (pv 1) pa_nil))) pa_nil))) pa_nil))), ?_⟩
    refine ⟨_, rfl, a, _, rfl, .inl hS, _, _, rfl, _, _, rfl, _, rfl, ?_, ?_, fun D hD => ?_⟩
    · split <;> split <;> omega
    · split <;> split <;> omega
    refine lc_range (lo := 0) (fun i H' => Same H H' ∧ H' D = some (.lst ((List.replicate i true).map V.bl))) ⟨same_new hD, upd_same⟩ ?_ ?_
    · rintro i H1 hi ⟨s1, f1⟩
      have i3 : i ≤ 1000 := by
        have : i < 1000 := by
          revert hi
          split <;> split <;> omega
        omega
      refine ⟨rfl, _, rfl, _, rfl, a, ns, _, rfl, s1.seq hS, hlen, by omega, fun H2 p o m s2 np fp ho => ?_⟩
      have nDp : D ≠ p := ne_of_none f1 np
      have np0 : H p = none := s1.free np
      refine ⟨p, [], [], rfl, ⟨⟨_, fp⟩, fun _ => ⟨o, m, 0, fp, ho⟩⟩, .nil, rfl, fun v H3 e3 hv => ?_⟩
      cases hv
      have f3 : H3 D = some (.lst ((List.replicate i true).map V.bl)) := e3.1 _ _ (fun _ => nDp) (s2 _ _ f1)
      refine ⟨_, f3, ?_, fun b u e => ?_, ?_⟩
      · rw [List.length_map, List.length_replicate]
        exact small1000 i3
      · rw [upd_ne (ne_of_none e hD)]
        exact e3.1 _ _ (fun _ => ne_of_none e np0) (s2 _ _ (s1 _ _ e))
      · rw [upd_same, List.replicate_succ', List.map_append]
        rfl
    · rintro H1 ⟨s1, f1⟩
      refine ⟨D, _, rfl, SqL.of f1, ?_⟩
      have e : ∀ n : Nat, (List.replicate n true).all id = true := fun n => by simp
      rw [e]
      exact k _
end
end LQ

namespace LQ
open PySem PySem.Spec PyProof.Rows L2 GuL HG DL
section
variable {K : PySem.W.Frag} {mg : Str → Option Value}
theorem ga_eq {x : Str} {C : Addr} (a : PySem.W.nsIn K mainGlobals x = some (some (.ref C))) : He.ga K x = C := by
  unfold He.ga
  rw [a]
def txtOf : Value → Option Str
  | .str z _ => some z
  | _ => none
def tupB (K : PySem.W.Frag) (a : Addr) (zs : List Str) : Bool := match K.lookup a with
  | some o => (o.cls == Value.type "tuple") && (match o.data with
    | .seq its _ => decide (its.size ≤ 1000) && (its.toList.map txtOf == zs.map some)
    | _ => false)
  | none => false
theorem txts_vals : ∀ {vs : List Value} {zs : List Str}, vs.map txtOf = zs.map some → Vals (zs.map V.str) vs
  | [], [], _ => .nil
  | [], _ :: _, h => by cases h
  | _ :: _, [], h => by cases h
  | v :: vs, z :: zs, h => by
    rw [List.map_cons, List.map_cons] at h
    obtain ⟨h1, h2⟩ := List.cons.inj h
    refine .cons ?_ (txts_vals h2)
    cases v with
    | str y t =>
      cases h1
      exact ⟨t, rfl⟩
    | _ => cases h1
theorem tup_of {a : Addr} {zs : List Str} (h : tupB K a zs = true) (H : Hp) : SqT K H a (zs.map V.str) := by
  unfold tupB at h
  cases e : K.lookup a with
  | none =>
    rw [e] at h
    cases h
  | some o =>
    rw [e] at h
    obtain ⟨h1, h2⟩ := Bool.and_eq_true_iff.mp h
    cases e2 : o.data with
    | seq its m =>
      rw [e2] at h2
      obtain ⟨h3, h4⟩ := Bool.and_eq_true_iff.mp h2
      exact .inr ⟨o, its, m, e, eq_of_beq h1, e2, Nat.le_trans (of_decide_eq_true h3) (by decide), txts_vals (eq_of_beq h4)⟩
    | _ =>
      rw [e2] at h2
      cases h2
theorem dts_txts {b : Addr} {H : Hp} : ∀ zs : List Str, Dts K b H (zs.map V.str) (zs.map PyData.str)
  | [] => .nil
  | z :: zs => .cons (.str z) (dts_txts zs)
theorem all_mk {l : PySem.W.OpenLaw} {w : World} {h : Heap} {fa kw kds f0 f1 f2 f3 f4 f5 f6 f7 f8 f9 f10 f11 f12 f13 f14 f15 f16 f17 f18 f19 f20 f21 f22 f23 f24 f25 f26 f27 f28 f29 f30 f31 f32 f33 f34 f35 f36 f37 f38 : Addr} (X : K.In h) (G : h.Ns mainGlobals mg) (hfa : mg "law" = some (.ref fa))
    {od0 an0 od1 an1 od2 an2 od3 an3 od4 an4 od5 an5 od6 an6 od7 an7 od8 an8 od9 an9 od10 an10 od11 an11 od12 an12 od13 an13 od14 an14 od15 an15 od16 an16 od17 an17 od18 an18 od19 an19 od20 an20 od21 an21 od22 an22 od23 an23 od24 an24 od25 an25 od26 an26 od27 an27 od28 an28 od29 an29 od30 an30 od31 an31 od32 an32 od33 an33 od34 an34 od35 an35 od36 an36 od37 an37 od38 an38 : Option Addr} {sl0 sl1 sl2 sl3 sl4 sl5 sl6 sl7 sl8 sl9 sl10 sl11 sl12 sl13 sl14 sl15 sl16 sl17 sl18 sl19 sl20 sl21 sl22 sl23 sl24 sl25 sl26 sl27 sl28 sl29 sl30 sl31 sl32 sl33 sl34 sl35 sl36 sl37 sl38 : Array (Option Value)} {oc0 kV0 dc0 pm0 cd0 ct0 oc1 kV1 dc1 pm1 cd1 ct1 oc2 kV2 dc2 pm2 cd2 ct2 oc3 kV3 dc3 pm3 cd3 ct3 oc4 kV4 dc4 pm4 cd4 ct4 oc5 kV5 dc5 pm5 cd5 ct5 oc6 kV6 dc6 pm6 cd6 ct6 oc7 kV7 dc7 pm7 cd7 ct7 oc8 kV8 dc8 pm8 cd8 ct8 oc9 kV9 dc9 pm9 cd9 ct9 oc10 kV10 dc10 pm10 cd10 ct10 oc11 kV11 dc11 pm11 cd11 ct11 oc12 kV12 dc12 pm12 cd12 ct12 oc13 kV13 dc13 pm13 cd13 ct13 oc14 kV14 dc14 pm14 cd14 ct14 oc15 kV15 dc15 pm15 cd15 ct15 oc16 kV16 dc16 pm16 cd16 ct16 oc17 kV17 dc17 pm17 cd17 ct17 oc18 kV18 dc18 pm18 cd18 ct18 oc19 kV19 dc19 pm19 cd19 ct19 oc20 kV20 dc20 pm20 cd20 ct20 oc21 kV21 dc21 pm21 cd21 ct21 oc22 kV22 dc22 pm22 cd22 ct22 oc23 kV23 dc23 pm23 cd23 ct23 oc24 kV24 dc24 pm24 cd24 ct24 oc25 kV25 dc25 pm25 cd25 ct25 oc26 kV26 dc26 pm26 cd26 ct26 oc27 kV27 dc27 pm27 cd27 ct27 oc28 kV28 dc28 pm28 cd28 ct28 oc29 kV29 dc29 pm29 cd29 ct29 oc30 kV30 dc30 pm30 cd30 ct30 oc31 kV31 dc31 pm31 cd31 ct31 oc32 kV32 dc32 pm32 cd32 ct32 oc33 kV33 dc33 pm33 cd33 ct33 oc34 kV34 dc34 pm34 cd34 ct34 oc35 kV35 dc35 pm35 cd35 ct35 oc36 kV36 dc36 pm36 cd36 ct36 oc37 kV37 dc37 pm37 cd37 ct37 oc38 kV38 dc38 pm38 cd38 ct38 : Value} {t_mkk t_mkb t_me t_ww t_ma t_lt t_ns : Tok} {ekw : Array DictEntry} {nkw : Nat}
    (a0 : PySem.W.nsIn K mainGlobals "is_number" = some (some (.ref f0))) (l0 : K.lookup f0 = some ⟨oc0, od0, .func (PySem.W.fnOf "is_number" "is_number" (defArgs s_is_number) (defBody s_is_number) (defScope s_is_number) .none kV0 dc0 pm0 an0 cd0 ct0), sl0⟩) (c0 : PySem.W.codeIn K cd0 "is_number" = true) (k0 : PySem.W.keepIn K (.ref f0) = true)
    (a1 : PySem.W.nsIn K mainGlobals "is_word" = some (some (.ref f1))) (l1 : K.lookup f1 = some ⟨oc1, od1, .func (PySem.W.fnOf "is_word" "is_word" (defArgs s_is_word) (defBody s_is_word) (defScope s_is_word) .none kV1 dc1 pm1 an1 cd1 ct1), sl1⟩) (c1 : PySem.W.codeIn K cd1 "is_word" = true) (k1 : PySem.W.keepIn K (.ref f1) = true)
    (a2 : PySem.W.nsIn K mainGlobals "is_row" = some (some (.ref f2))) (l2 : K.lookup f2 = some ⟨oc2, od2, .func (PySem.W.fnOf "is_row" "is_row" (defArgs s_is_row) (defBody s_is_row) (defScope s_is_row) .none kV2 dc2 pm2 an2 cd2 ct2), sl2⟩) (c2 : PySem.W.codeIn K cd2 "is_row" = true) (k2 : PySem.W.keepIn K (.ref f2) = true)
    (a3 : PySem.W.nsIn K mainGlobals "is_text_of" = some (some (.ref f3))) (l3 : K.lookup f3 = some ⟨oc3, od3, .func (PySem.W.fnOf "is_text_of" "is_text_of" (defArgs s_is_text_of) (defBody s_is_text_of) (defScope s_is_text_of) .none kV3 dc3 pm3 an3 cd3 ct3), sl3⟩) (c3 : PySem.W.codeIn K cd3 "is_text_of" = true) (k3 : PySem.W.keepIn K (.ref f3) = true)
    (a4 : PySem.W.nsIn K mainGlobals "as_mask" = some (some (.ref f4))) (l4 : K.lookup f4 = some ⟨oc4, od4, .func (PySem.W.fnOf "as_mask" "as_mask" (defArgs s_as_mask) (defBody s_as_mask) (defScope s_as_mask) .none kV4 dc4 pm4 an4 cd4 ct4), sl4⟩) (c4 : PySem.W.codeIn K cd4 "as_mask" = true) (k4 : PySem.W.keepIn K (.ref f4) = true)
    (a5 : PySem.W.nsIn K mainGlobals "is_key_hit" = some (some (.ref f5))) (l5 : K.lookup f5 = some ⟨oc5, od5, .func (PySem.W.fnOf "is_key_hit" "is_key_hit" (defArgs s_is_key_hit) (defBody s_is_key_hit) (defScope s_is_key_hit) .none kV5 dc5 pm5 an5 cd5 ct5), sl5⟩) (c5 : PySem.W.codeIn K cd5 "is_key_hit" = true) (k5 : PySem.W.keepIn K (.ref f5) = true)
    (a6 : PySem.W.nsIn K mainGlobals "is_hit" = some (some (.ref f6))) (l6 : K.lookup f6 = some ⟨oc6, od6, .func (PySem.W.fnOf "is_hit" "is_hit" (defArgs s_is_hit) (defBody s_is_hit) (defScope s_is_hit) .none kV6 dc6 pm6 an6 cd6 ct6), sl6⟩) (c6 : PySem.W.codeIn K cd6 "is_hit" = true) (k6 : PySem.W.keepIn K (.ref f6) = true)
    (a7 : PySem.W.nsIn K mainGlobals "first_hit" = some (some (.ref f7))) (l7 : K.lookup f7 = some ⟨oc7, od7, .func (PySem.W.fnOf "first_hit" "first_hit" (defArgs s_first_hit) (defBody s_first_hit) (defScope s_first_hit) .none kV7 dc7 pm7 an7 cd7 ct7), sl7⟩) (c7 : PySem.W.codeIn K cd7 "first_hit" = true) (k7 : PySem.W.keepIn K (.ref f7) = true)
    (a8 : PySem.W.nsIn K mainGlobals "is_pair" = some (some (.ref f8))) (l8 : K.lookup f8 = some ⟨oc8, od8, .func (PySem.W.fnOf "is_pair" "is_pair" (defArgs s_is_pair) (defBody s_is_pair) (defScope s_is_pair) .none kV8 dc8 pm8 an8 cd8 ct8), sl8⟩) (c8 : PySem.W.codeIn K cd8 "is_pair" = true) (k8 : PySem.W.keepIn K (.ref f8) = true)
    (a9 : PySem.W.nsIn K mainGlobals "is_keys" = some (some (.ref f9))) (l9 : K.lookup f9 = some ⟨oc9, od9, .func (PySem.W.fnOf "is_keys" "is_keys" (defArgs s_is_keys) (defBody s_is_keys) (defScope s_is_keys) .none kV9 dc9 pm9 an9 cd9 ct9), sl9⟩) (c9 : PySem.W.codeIn K cd9 "is_keys" = true) (k9 : PySem.W.keepIn K (.ref f9) = true)
    (a10 : PySem.W.nsIn K mainGlobals "is_sought" = some (some (.ref f10))) (l10 : K.lookup f10 = some ⟨oc10, od10, .func (PySem.W.fnOf "is_sought" "is_sought" (defArgs s_is_sought) (defBody s_is_sought) (defScope s_is_sought) .none kV10 dc10 pm10 an10 cd10 ct10), sl10⟩) (c10 : PySem.W.codeIn K cd10 "is_sought" = true) (k10 : PySem.W.keepIn K (.ref f10) = true)
    (a11 : PySem.W.nsIn K mainGlobals "are_sought" = some (some (.ref f11))) (l11 : K.lookup f11 = some ⟨oc11, od11, .func (PySem.W.fnOf "are_sought" "are_sought" (defArgs s_are_sought) (defBody s_are_sought) (defScope s_are_sought) .none kV11 dc11 pm11 an11 cd11 ct11), sl11⟩) (c11 : PySem.W.codeIn K cd11 "are_sought" = true) (k11 : PySem.W.keepIn K (.ref f11) = true)
    (a12 : PySem.W.nsIn K mainGlobals "is_name" = some (some (.ref f12))) (l12 : K.lookup f12 = some ⟨oc12, od12, .func (PySem.W.fnOf "is_name" "is_name" (defArgs s_is_name) (defBody s_is_name) (defScope s_is_name) .none kV12 dc12 pm12 an12 cd12 ct12), sl12⟩) (c12 : PySem.W.codeIn K cd12 "is_name" = true) (k12 : PySem.W.keepIn K (.ref f12) = true)
    (a13 : PySem.W.nsIn K mainGlobals "are_args" = some (some (.ref f13))) (l13 : K.lookup f13 = some ⟨oc13, od13, .func (PySem.W.fnOf "are_args" "are_args" (defArgs s_are_args) (defBody s_are_args) (defScope s_are_args) .none kV13 dc13 pm13 an13 cd13 ct13), sl13⟩) (c13 : PySem.W.codeIn K cd13 "are_args" = true) (k13 : PySem.W.keepIn K (.ref f13) = true)
    (a14 : PySem.W.nsIn K mainGlobals "is_entry" = some (some (.ref f14))) (l14 : K.lookup f14 = some ⟨oc14, od14, .func (PySem.W.fnOf "is_entry" "is_entry" (defArgs s_is_entry) (defBody s_is_entry) (defScope s_is_entry) .none kV14 dc14 pm14 an14 cd14 ct14), sl14⟩) (c14 : PySem.W.codeIn K cd14 "is_entry" = true) (k14 : PySem.W.keepIn K (.ref f14) = true)
    (a15 : PySem.W.nsIn K mainGlobals "check_keys" = some (some (.ref f15))) (l15 : K.lookup f15 = some ⟨oc15, od15, .func (PySem.W.fnOf "check_keys" "check_keys" (defArgs s_check_keys) (defBody s_check_keys) (defScope s_check_keys) .none kV15 dc15 pm15 an15 cd15 ct15), sl15⟩) (c15 : PySem.W.codeIn K cd15 "check_keys" = true) (k15 : PySem.W.keepIn K (.ref f15) = true)
    (a16 : PySem.W.nsIn K mainGlobals "check_entries" = some (some (.ref f16))) (l16 : K.lookup f16 = some ⟨oc16, od16, .func (PySem.W.fnOf "check_entries" "check_entries" (defArgs s_check_entries) (defBody s_check_entries) (defScope s_check_entries) .none kV16 dc16 pm16 an16 cd16 ct16), sl16⟩) (c16 : PySem.W.codeIn K cd16 "check_entries" = true) (k16 : PySem.W.keepIn K (.ref f16) = true)
    (a17 : PySem.W.nsIn K mainGlobals "check_words" = some (some (.ref f17))) (l17 : K.lookup f17 = some ⟨oc17, od17, .func (PySem.W.fnOf "check_words" "check_words" (defArgs s_check_words) (defBody s_check_words) (defScope s_check_words) .none kV17 dc17 pm17 an17 cd17 ct17), sl17⟩) (c17 : PySem.W.codeIn K cd17 "check_words" = true) (k17 : PySem.W.keepIn K (.ref f17) = true)
    (a18 : PySem.W.nsIn K mainGlobals "check_lookup" = some (some (.ref f18))) (l18 : K.lookup f18 = some ⟨oc18, od18, .func (PySem.W.fnOf "check_lookup" "check_lookup" (defArgs s_check_lookup) (defBody s_check_lookup) (defScope s_check_lookup) .none kV18 dc18 pm18 an18 cd18 ct18), sl18⟩) (c18 : PySem.W.codeIn K cd18 "check_lookup" = true) (k18 : PySem.W.keepIn K (.ref f18) = true)
    (a19 : PySem.W.nsIn K mainGlobals "hit_by" = some (some (.ref f19))) (l19 : K.lookup f19 = some ⟨oc19, od19, .func (PySem.W.fnOf "hit_by" "hit_by" (defArgs s_hit_by) (defBody s_hit_by) (defScope s_hit_by) .none kV19 dc19 pm19 an19 cd19 ct19), sl19⟩) (c19 : PySem.W.codeIn K cd19 "hit_by" = true) (k19 : PySem.W.keepIn K (.ref f19) = true)
    (a20 : PySem.W.nsIn K mainGlobals "told_by" = some (some (.ref f20))) (l20 : K.lookup f20 = some ⟨oc20, od20, .func (PySem.W.fnOf "told_by" "told_by" (defArgs s_told_by) (defBody s_told_by) (defScope s_told_by) .none kV20 dc20 pm20 an20 cd20 ct20), sl20⟩) (c20 : PySem.W.codeIn K cd20 "told_by" = true) (k20 : PySem.W.keepIn K (.ref f20) = true)
    (a21 : PySem.W.nsIn K mainGlobals "_law_jar" = some (some (.ref f21))) (l21 : K.lookup f21 = some ⟨oc21, od21, .func (PySem.W.fnOf "_law_jar" "_law_jar" (defArgs s__law_jar) (defBody s__law_jar) (defScope s__law_jar) .none kV21 dc21 pm21 an21 cd21 ct21), sl21⟩) (c21 : PySem.W.codeIn K cd21 "_law_jar" = true) (k21 : PySem.W.keepIn K (.ref f21) = true)
    (a22 : PySem.W.nsIn K mainGlobals "_law_draw" = some (some (.ref f22))) (l22 : K.lookup f22 = some ⟨oc22, od22, .func (PySem.W.fnOf "_law_draw" "_law_draw" (defArgs s__law_draw) (defBody s__law_draw) (defScope s__law_draw) .none kV22 dc22 pm22 an22 cd22 ct22), sl22⟩) (c22 : PySem.W.codeIn K cd22 "_law_draw" = true) (k22 : PySem.W.keepIn K (.ref f22) = true)
    (a23 : PySem.W.nsIn K mainGlobals "_law_of" = some (some (.ref f23))) (l23 : K.lookup f23 = some ⟨oc23, od23, .func (PySem.W.fnOf "_law_of" "_law_of" (defArgs s__law_of) (defBody s__law_of) (defScope s__law_of) .none kV23 dc23 pm23 an23 cd23 ct23), sl23⟩) (c23 : PySem.W.codeIn K cd23 "_law_of" = true) (k23 : PySem.W.keepIn K (.ref f23) = true)
    (a24 : PySem.W.nsIn K mainGlobals "_law_same" = some (some (.ref f24))) (l24 : K.lookup f24 = some ⟨oc24, od24, .func (PySem.W.fnOf "_law_same" "_law_same" (defArgs s__law_same) (defBody s__law_same) (defScope s__law_same) .none kV24 dc24 pm24 an24 cd24 ct24), sl24⟩) (c24 : PySem.W.codeIn K cd24 "_law_same" = true) (k24 : PySem.W.keepIn K (.ref f24) = true)
    (a25 : PySem.W.nsIn K mainGlobals "_law_top" = some (some (.ref f25))) (l25 : K.lookup f25 = some ⟨oc25, od25, .func (PySem.W.fnOf "_law_top" "_law_top" (defArgs s__law_top) (defBody s__law_top) (defScope s__law_top) .none kV25 dc25 pm25 an25 cd25 ct25), sl25⟩) (c25 : PySem.W.codeIn K cd25 "_law_top" = true) (k25 : PySem.W.keepIn K (.ref f25) = true)
    (a26 : PySem.W.nsIn K mainGlobals "_law_keys" = some (some (.ref f26))) (l26 : K.lookup f26 = some ⟨oc26, od26, .func (PySem.W.fnOf "_law_keys" "_law_keys" (defArgs s__law_keys) (defBody s__law_keys) (defScope s__law_keys) .none kV26 dc26 pm26 an26 cd26 ct26), sl26⟩) (c26 : PySem.W.codeIn K cd26 "_law_keys" = true) (k26 : PySem.W.keepIn K (.ref f26) = true)
    (a27 : PySem.W.nsIn K mainGlobals "_law_key" = some (some (.ref f27))) (l27 : K.lookup f27 = some ⟨oc27, od27, .func (PySem.W.fnOf "_law_key" "_law_key" (defArgs s__law_key) (defBody s__law_key) (defScope s__law_key) .none kV27 dc27 pm27 an27 cd27 ct27), sl27⟩) (c27 : PySem.W.codeIn K cd27 "_law_key" = true) (k27 : PySem.W.keepIn K (.ref f27) = true)
    (a28 : PySem.W.nsIn K mainGlobals "_law_is_hit" = some (some (.ref f28))) (l28 : K.lookup f28 = some ⟨oc28, od28, .func (PySem.W.fnOf "_law_is_hit" "_law_is_hit" (defArgs s__law_is_hit) (defBody s__law_is_hit) (defScope s__law_is_hit) .none kV28 dc28 pm28 an28 cd28 ct28), sl28⟩) (c28 : PySem.W.codeIn K cd28 "_law_is_hit" = true) (k28 : PySem.W.keepIn K (.ref f28) = true)
    (a29 : PySem.W.nsIn K mainGlobals "_law_hit" = some (some (.ref f29))) (l29 : K.lookup f29 = some ⟨oc29, od29, .func (PySem.W.fnOf "_law_hit" "_law_hit" (defArgs s__law_hit) (defBody s__law_hit) (defScope s__law_hit) .none kV29 dc29 pm29 an29 cd29 ct29), sl29⟩) (c29 : PySem.W.codeIn K cd29 "_law_hit" = true) (k29 : PySem.W.keepIn K (.ref f29) = true)
    (a30 : PySem.W.nsIn K mainGlobals "_law_tells" = some (some (.ref f30))) (l30 : K.lookup f30 = some ⟨oc30, od30, .func (PySem.W.fnOf "_law_tells" "_law_tells" (defArgs s__law_tells) (defBody s__law_tells) (defScope s__law_tells) .none kV30 dc30 pm30 an30 cd30 ct30), sl30⟩) (c30 : PySem.W.codeIn K cd30 "_law_tells" = true) (k30 : PySem.W.keepIn K (.ref f30) = true)
    (a31 : PySem.W.nsIn K mainGlobals "_law_entry" = some (some (.ref f31))) (l31 : K.lookup f31 = some ⟨oc31, od31, .func (PySem.W.fnOf "_law_entry" "_law_entry" (defArgs s__law_entry) (defBody s__law_entry) (defScope s__law_entry) .none kV31 dc31 pm31 an31 cd31 ct31), sl31⟩) (c31 : PySem.W.codeIn K cd31 "_law_entry" = true) (k31 : PySem.W.keepIn K (.ref f31) = true)
    (a32 : PySem.W.nsIn K mainGlobals "_law_entries" = some (some (.ref f32))) (l32 : K.lookup f32 = some ⟨oc32, od32, .func (PySem.W.fnOf "_law_entries" "_law_entries" (defArgs s__law_entries) (defBody s__law_entries) (defScope s__law_entries) .none kV32 dc32 pm32 an32 cd32 ct32), sl32⟩) (c32 : PySem.W.codeIn K cd32 "_law_entries" = true) (k32 : PySem.W.keepIn K (.ref f32) = true)
    (a33 : PySem.W.nsIn K mainGlobals "_law_words" = some (some (.ref f33))) (l33 : K.lookup f33 = some ⟨oc33, od33, .func (PySem.W.fnOf "_law_words" "_law_words" (defArgs s__law_words) (defBody s__law_words) (defScope s__law_words) .none kV33 dc33 pm33 an33 cd33 ct33), sl33⟩) (c33 : PySem.W.codeIn K cd33 "_law_words" = true) (k33 : PySem.W.keepIn K (.ref f33) = true)
    (a34 : PySem.W.nsIn K mainGlobals "_law_edges" = some (some (.ref f34))) (l34 : K.lookup f34 = some ⟨oc34, od34, .func (PySem.W.fnOf "_law_edges" "_law_edges" (defArgs s__law_edges) (defBody s__law_edges) (defScope s__law_edges) .none kV34 dc34 pm34 an34 cd34 ct34), sl34⟩) (c34 : PySem.W.codeIn K cd34 "_law_edges" = true) (k34 : PySem.W.keepIn K (.ref f34) = true)
    (a35 : PySem.W.nsIn K mainGlobals "_law_all_words" = some (some (.ref f35))) (l35 : K.lookup f35 = some ⟨oc35, od35, .func (PySem.W.fnOf "_law_all_words" "_law_all_words" (defArgs s__law_all_words) (defBody s__law_all_words) (defScope s__law_all_words) .none kV35 dc35 pm35 an35 cd35 ct35), sl35⟩) (c35 : PySem.W.codeIn K cd35 "_law_all_words" = true) (k35 : PySem.W.keepIn K (.ref f35) = true)
    (a36 : PySem.W.nsIn K mainGlobals "_law_is_told" = some (some (.ref f36))) (l36 : K.lookup f36 = some ⟨oc36, od36, .func (PySem.W.fnOf "_law_is_told" "_law_is_told" (defArgs s__law_is_told) (defBody s__law_is_told) (defScope s__law_is_told) .none kV36 dc36 pm36 an36 cd36 ct36), sl36⟩) (c36 : PySem.W.codeIn K cd36 "_law_is_told" = true) (k36 : PySem.W.keepIn K (.ref f36) = true)
    (a37 : PySem.W.nsIn K mainGlobals "_law_right" = some (some (.ref f37))) (l37 : K.lookup f37 = some ⟨oc37, od37, .func (PySem.W.fnOf "_law_right" "_law_right" (defArgs s__law_right) (defBody s__law_right) (defScope s__law_right) .none kV37 dc37 pm37 an37 cd37 ct37), sl37⟩) (c37 : PySem.W.codeIn K cd37 "_law_right" = true) (k37 : PySem.W.keepIn K (.ref f37) = true)
    (a38 : PySem.W.nsIn K mainGlobals "law" = some (some (.ref f38))) (l38 : K.lookup f38 = some ⟨oc38, od38, .func (PySem.W.fnOf "law" "law" (defArgs s_law) (defBody s_law) (defScope s_law) .none kV38 dc38 pm38 an38 cd38 ct38), sl38⟩) (c38 : PySem.W.codeIn K cd38 "law" = true) (k38 : PySem.W.keepIn K (.ref f38) = true)
    (z_int : PySem.W.nsIn K mainGlobals "int" = some none)
    (z_abs : PySem.W.nsIn K mainGlobals "abs" = some none)
    (z_len : PySem.W.nsIn K mainGlobals "len" = some none)
    (z_divmod : PySem.W.nsIn K mainGlobals "divmod" = some none)
    (z_range : PySem.W.nsIn K mainGlobals "range" = some none)
    (z_tuple : PySem.W.nsIn K mainGlobals "tuple" = some none)
    (z_repr : PySem.W.nsIn K mainGlobals "repr" = some none)
    (z_all : PySem.W.nsIn K mainGlobals "all" = some none)
    (z_max : PySem.W.nsIn K mainGlobals "max" = some none)
    (z_min : PySem.W.nsIn K mainGlobals "min" = some none)
    (z_sum : PySem.W.nsIn K mainGlobals "sum" = some none)
    (z_zip : PySem.W.nsIn K mainGlobals "zip" = some none)
    (z_str : PySem.W.nsIn K mainGlobals "str" = some none)
    (z_list : PySem.W.nsIn K mainGlobals "list" = some none)
    (z_isinstance : PySem.W.nsIn K mainGlobals "isinstance" = some none)
    (z_bool : PySem.W.nsIn K mainGlobals "bool" = some none)
    (z_enumerate : PySem.W.nsIn K mainGlobals "enumerate" = some none)
    (y_mkk : PySem.W.nsIn K mainGlobals "MOST_KEYS" = some (some (.int 3 t_mkk)))
    (y_mkb : PySem.W.nsIn K mainGlobals "MOST_KEY_BITS" = some (some (.int 48 t_mkb)))
    (y_me : PySem.W.nsIn K mainGlobals "MOST_ENTRIES" = some (some (.int 32 t_me)))
    (y_ww : PySem.W.nsIn K mainGlobals "WORD_WIDTH" = some (some (.int 32 t_ww)))
    (y_ma : PySem.W.nsIn K mainGlobals "MOST_ARGS" = some (some (.int 4 t_ma)))
    (y_lt : PySem.W.nsIn K mainGlobals "LETTERS" = some (some (.str (Str.ofString "abcdefghijklmnopqrstuvwxyz") t_lt)))
    (y_ns : PySem.W.nsIn K mainGlobals "NAME_SIGNS" = some (some (.str (Str.ofString "abcdefghijklmnopqrstuvwxyz0123456789_") t_ns)))
    (y_kd : PySem.W.nsIn K mainGlobals "KINDS" = some (some (.ref kds)))
    (y_kw : PySem.W.nsIn K mainGlobals "KEPT_WORDS" = some (some (.ref kw)))
    (l_kw : K.lookup kw = some ⟨.type "dict", none, .dict ekw nkw, #[]⟩)
    (q_kw : PySem.W.KeysLit w.params ekw.toList)
    (w_kw : (kw == sysModules) = false)
    (n_kw0 : PySem.W.nsIn K kw "send" = some none)
    (n_kw1 : PySem.W.nsIn K kw "drop" = some none)
    (n_kw2 : PySem.W.nsIn K kw "a" = some none)
    (n_kw3 : PySem.W.nsIn K kw "b_2" = some none)
    (tb : tupB K (He.ga K "KINDS") kindsS = true) :
    ∃ fd : FuncData, (∀ (s : Shared) (v : Value), BindsTo s fd ⟨[v], []⟩ [("_law_script", v)]) ∧ ∀ base : Heap, K.In base → base.Ns mainGlobals mg → FnG l.prog w K mg base CX0 11 fa fd ["_law_script"] (spLaw K) := by
  have e := hfa.symm.trans (PySem.W.mg_of X G a38)
  cases e
  have F0 := fun_mk (st := s_is_number) l0 c0 k0
  have g0 := PySem.W.mg_of X G a0
  have b0 := F0.binds (ps := p_is_number) fun _ _ _ _ _ _ us hl => match us, hl with | [_, _, _], _ => rfl
  have F1 := fun_mk (st := s_is_word) l1 c1 k1
  have g1 := PySem.W.mg_of X G a1
  have b1 := F1.binds (ps := p_is_word) fun _ _ _ _ _ _ us hl => match us, hl with | [_, _], _ => rfl
  have F2 := fun_mk (st := s_is_row) l2 c2 k2
  have g2 := PySem.W.mg_of X G a2
  have b2 := F2.binds (ps := p_is_row) fun _ _ _ _ _ _ us hl => match us, hl with | [_, _, _], _ => rfl
  have F3 := fun_mk (st := s_is_text_of) l3 c3 k3
  have g3 := PySem.W.mg_of X G a3
  have b3 := F3.binds (ps := p_is_text_of) fun _ _ _ _ _ _ us hl => match us, hl with | [_, _], _ => rfl
  have F4 := fun_mk (st := s_as_mask) l4 c4 k4
  have g4 := PySem.W.mg_of X G a4
  have b4 := F4.binds (ps := p_as_mask) fun _ _ _ _ _ _ us hl => match us, hl with | [_, _, _], _ => rfl
  have F5 := fun_mk (st := s_is_key_hit) l5 c5 k5
  have g5 := PySem.W.mg_of X G a5
  have b5 := F5.binds (ps := p_is_key_hit) fun _ _ _ _ _ _ us hl => match us, hl with | [_, _, _, _], _ => rfl
  have F6 := fun_mk (st := s_is_hit) l6 c6 k6
  have g6 := PySem.W.mg_of X G a6
  have b6 := F6.binds (ps := p_is_hit) fun _ _ _ _ _ _ us hl => match us, hl with | [_, _, _], _ => rfl
  have F7 := fun_mk (st := s_first_hit) l7 c7 k7
  have g7 := PySem.W.mg_of X G a7
  have b7 := F7.binds (ps := p_first_hit) fun _ _ _ _ _ _ us hl => match us, hl with | [_, _, _], _ => rfl
  have F8 := fun_mk (st := s_is_pair) l8 c8 k8
  have g8 := PySem.W.mg_of X G a8
  have b8 := F8.binds (ps := p_is_pair) fun _ _ _ _ _ _ us hl => match us, hl with | [_], _ => rfl
  have F9 := fun_mk (st := s_is_keys) l9 c9 k9
  have g9 := PySem.W.mg_of X G a9
  have b9 := F9.binds (ps := p_is_keys) fun _ _ _ _ _ _ us hl => match us, hl with | [_], _ => rfl
  have F10 := fun_mk (st := s_is_sought) l10 c10 k10
  have g10 := PySem.W.mg_of X G a10
  have b10 := F10.binds (ps := p_is_sought) fun _ _ _ _ _ _ us hl => match us, hl with | [_, _, _], _ => rfl
  have F11 := fun_mk (st := s_are_sought) l11 c11 k11
  have g11 := PySem.W.mg_of X G a11
  have b11 := F11.binds (ps := p_are_sought) fun _ _ _ _ _ _ us hl => match us, hl with | [_, _], _ => rfl
  have F12 := fun_mk (st := s_is_name) l12 c12 k12
  have g12 := PySem.W.mg_of X G a12
  have b12 := F12.binds (ps := p_is_name) fun _ _ _ _ _ _ us hl => match us, hl with | [_], _ => rfl
  have F13 := fun_mk (st := s_are_args) l13 c13 k13
  have g13 := PySem.W.mg_of X G a13
  have b13 := F13.binds (ps := p_are_args) fun _ _ _ _ _ _ us hl => match us, hl with | [_], _ => rfl
  have F14 := fun_mk (st := s_is_entry) l14 c14 k14
  have g14 := PySem.W.mg_of X G a14
  have b14 := F14.binds (ps := p_is_entry) fun _ _ _ _ _ _ us hl => match us, hl with | [_, _], _ => rfl
  have F15 := fun_mk (st := s_check_keys) l15 c15 k15
  have g15 := PySem.W.mg_of X G a15
  have b15 := F15.binds (ps := p_check_keys) fun _ _ _ _ _ _ us hl => match us, hl with | [_], _ => rfl
  have F16 := fun_mk (st := s_check_entries) l16 c16 k16
  have g16 := PySem.W.mg_of X G a16
  have b16 := F16.binds (ps := p_check_entries) fun _ _ _ _ _ _ us hl => match us, hl with | [_, _], _ => rfl
  have F17 := fun_mk (st := s_check_words) l17 c17 k17
  have g17 := PySem.W.mg_of X G a17
  have b17 := F17.binds (ps := p_check_words) fun _ _ _ _ _ _ us hl => match us, hl with | [_, _], _ => rfl
  have F18 := fun_mk (st := s_check_lookup) l18 c18 k18
  have g18 := PySem.W.mg_of X G a18
  have b18 := F18.binds (ps := p_check_lookup) fun _ _ _ _ _ _ us hl => match us, hl with | [_, _, _], _ => rfl
  have F19 := fun_mk (st := s_hit_by) l19 c19 k19
  have g19 := PySem.W.mg_of X G a19
  have b19 := F19.binds (ps := p_hit_by) fun _ _ _ _ _ _ us hl => match us, hl with | [_, _, _], _ => rfl
  have F20 := fun_mk (st := s_told_by) l20 c20 k20
  have g20 := PySem.W.mg_of X G a20
  have b20 := F20.binds (ps := p_told_by) fun _ _ _ _ _ _ us hl => match us, hl with | [_, _, _], _ => rfl
  have F21 := fun_mk (st := s__law_jar) l21 c21 k21
  have g21 := PySem.W.mg_of X G a21
  have b21 := F21.binds (ps := p__law_jar) fun _ _ _ _ _ _ us hl => match us, hl with | [_, _], _ => rfl
  have F22 := fun_mk (st := s__law_draw) l22 c22 k22
  have g22 := PySem.W.mg_of X G a22
  have b22 := F22.binds (ps := p__law_draw) fun _ _ _ _ _ _ us hl => match us, hl with | [_, _], _ => rfl
  have F23 := fun_mk (st := s__law_of) l23 c23 k23
  have g23 := PySem.W.mg_of X G a23
  have b23 := F23.binds (ps := p__law_of) fun _ _ _ _ _ _ us hl => match us, hl with | [_, _], _ => rfl
  have F24 := fun_mk (st := s__law_same) l24 c24 k24
  have g24 := PySem.W.mg_of X G a24
  have b24 := F24.binds (ps := p__law_same) fun _ _ _ _ _ _ us hl => match us, hl with | [_, _], _ => rfl
  have F25 := fun_mk (st := s__law_top) l25 c25 k25
  have g25 := PySem.W.mg_of X G a25
  have b25 := F25.binds (ps := p__law_top) fun _ _ _ _ _ _ us hl => match us, hl with | [_], _ => rfl
  have F26 := fun_mk (st := s__law_keys) l26 c26 k26
  have g26 := PySem.W.mg_of X G a26
  have b26 := F26.binds (ps := p__law_keys) fun _ _ _ _ _ _ us hl => match us, hl with | [_, _, _], _ => rfl
  have F27 := fun_mk (st := s__law_key) l27 c27 k27
  have g27 := PySem.W.mg_of X G a27
  have b27 := F27.binds (ps := p__law_key) fun _ _ _ _ _ _ us hl => match us, hl with | [_, _, _], _ => rfl
  have F28 := fun_mk (st := s__law_is_hit) l28 c28 k28
  have g28 := PySem.W.mg_of X G a28
  have b28 := F28.binds (ps := p__law_is_hit) fun _ _ _ _ _ _ us hl => match us, hl with | [_, _, _, _], _ => rfl
  have F29 := fun_mk (st := s__law_hit) l29 c29 k29
  have g29 := PySem.W.mg_of X G a29
  have b29 := F29.binds (ps := p__law_hit) fun _ _ _ _ _ _ us hl => match us, hl with | [_, _, _], _ => rfl
  have F30 := fun_mk (st := s__law_tells) l30 c30 k30
  have g30 := PySem.W.mg_of X G a30
  have b30 := F30.binds (ps := p__law_tells) fun _ _ _ _ _ _ us hl => match us, hl with | [_, _, _], _ => rfl
  have F31 := fun_mk (st := s__law_entry) l31 c31 k31
  have g31 := PySem.W.mg_of X G a31
  have b31 := F31.binds (ps := p__law_entry) fun _ _ _ _ _ _ us hl => match us, hl with | [_, _], _ => rfl
  have F32 := fun_mk (st := s__law_entries) l32 c32 k32
  have g32 := PySem.W.mg_of X G a32
  have b32 := F32.binds (ps := p__law_entries) fun _ _ _ _ _ _ us hl => match us, hl with | [_, _, _], _ => rfl
  have F33 := fun_mk (st := s__law_words) l33 c33 k33
  have g33 := PySem.W.mg_of X G a33
  have b33 := F33.binds (ps := p__law_words) fun _ _ _ _ _ _ us hl => match us, hl with | [_, _], _ => rfl
  have F34 := fun_mk (st := s__law_edges) l34 c34 k34
  have g34 := PySem.W.mg_of X G a34
  have b34 := F34.binds (ps := p__law_edges) fun _ _ _ _ _ _ us hl => match us, hl with | [_, _, _], _ => rfl
  have F35 := fun_mk (st := s__law_all_words) l35 c35 k35
  have g35 := PySem.W.mg_of X G a35
  have b35 := F35.binds (ps := p__law_all_words) fun _ _ _ _ _ _ us hl => match us, hl with | [_], _ => rfl
  have F36 := fun_mk (st := s__law_is_told) l36 c36 k36
  have g36 := PySem.W.mg_of X G a36
  have b36 := F36.binds (ps := p__law_is_told) fun _ _ _ _ _ _ us hl => match us, hl with | [_, _, _], _ => rfl
  have F37 := fun_mk (st := s__law_right) l37 c37 k37
  have g37 := PySem.W.mg_of X G a37
  have b37 := F37.binds (ps := p__law_right) fun _ _ _ _ _ _ us hl => match us, hl with | [_], _ => rfl
  have F38 := fun_mk (st := s_law) l38 c38 k38
  have g38 := PySem.W.mg_of X G a38
  have B : Blt mg := ⟨PySem.W.mg_none_of X G z_int, PySem.W.mg_none_of X G z_abs, PySem.W.mg_none_of X G z_len, PySem.W.mg_none_of X G z_divmod, PySem.W.mg_none_of X G z_range, PySem.W.mg_none_of X G z_tuple, PySem.W.mg_none_of X G z_repr, PySem.W.mg_none_of X G z_all, PySem.W.mg_none_of X G z_max, PySem.W.mg_none_of X G z_min, PySem.W.mg_none_of X G z_sum, PySem.W.mg_none_of X G z_zip, PySem.W.mg_none_of X G z_str, PySem.W.mg_none_of X G z_list, PySem.W.mg_none_of X G z_isinstance, PySem.W.mg_none_of X G z_bool, PySem.W.mg_none_of X G z_enumerate⟩
  have C : CstQ K w mg := ⟨⟨.ref kds, ⟨_, PySem.W.mg_of X G y_kd, rfl⟩, fun b H => .tup (by rw [ga_eq y_kd] at tb; exact tup_of tb H) (dts_txts kindsS)⟩, ⟨.int 3, ⟨_, PySem.W.mg_of X G y_mkk, ⟨_, rfl⟩⟩, fun b H => .int _⟩, ⟨.int 48, ⟨_, PySem.W.mg_of X G y_mkb, ⟨_, rfl⟩⟩, fun b H => .int _⟩, ⟨.int 32, ⟨_, PySem.W.mg_of X G y_me, ⟨_, rfl⟩⟩, fun b H => .int _⟩, ⟨.int 32, ⟨_, PySem.W.mg_of X G y_ww, ⟨_, rfl⟩⟩, fun b H => .int _⟩, ⟨.int 4, ⟨_, PySem.W.mg_of X G y_ma, ⟨_, rfl⟩⟩, fun b H => .int _⟩, ⟨_, PySem.W.mg_of X G y_lt, ⟨_, rfl⟩⟩, ⟨_, PySem.W.mg_of X G y_ns, ⟨_, rfl⟩⟩, ⟨kw, ekw, nkw, PySem.W.mg_of X G y_kw, ⟨l_kw, q_kw, w_kw⟩, fun z hz => by
    simp only [acts, List.mem_cons, List.not_mem_nil, or_false] at hz
    rcases hz with rfl | rfl | rfl | rfl
    · exact n_kw0
    · exact n_kw1
    · exact n_kw2
    · exact n_kw3⟩⟩
  refine ⟨PySem.W.fnOf "law" "law" (defArgs s_law) (defBody s_law) (defScope s_law) .none kV38 dc38 pm38 an38 cd38 ct38, fun s v => .of_eq rfl, fun base _ _ => ?_⟩
  have nH := Fun_kbnG (ps := p_hit_by) (ks := ["words", "entries", "keys"]) vRev3 F19 fun _ _ _ _ _ _ ws hl => match ws, hl with | [_, _, _], _ => rfl
  have nT := Fun_kbnG (ps := p_told_by) (ks := ["words", "keys", "entries"]) vRot3 F20 fun _ _ _ _ _ _ ws hl => match ws, hl with | [_, _, _], _ => rfl
  have D25 : DK l.prog w K mg base 1 "_law_top" s__law_top p__law_top _ f25 _ := ⟨F25, b25, g25, ok_top F25 B⟩
  have D28 : DK l.prog w K mg base 2 "_law_is_hit" s__law_is_hit p__law_is_hit _ f28 _ := ⟨F28, b28, g28, ok_ishitL F28 B D25⟩
  have D29 : DK l.prog w K mg base 3 "_law_hit" s__law_hit p__law_hit _ f29 _ := ⟨F29, b29, g29, ok_hitL F29 B D28⟩
  have D24 : DK l.prog w K mg base 1 "_law_same" s__law_same p__law_same _ f24 _ := ⟨F24, b24, g24, ok_same F24 B⟩
  have D2 : DK l.prog w K mg base 1 "is_row" s_is_row p_is_row _ f2 _ := ⟨F2, b2, g2, ok_row F2 B⟩
  have D3 : DK l.prog w K mg base 1 "is_text_of" s_is_text_of p_is_text_of _ f3 _ := ⟨F3, b3, g3, ok_textof F3 B⟩
  have D0 : DK l.prog w K mg base 1 "is_number" s_is_number p_is_number _ f0 _ := ⟨F0, b0, g0, ok_number F0 B⟩
  have D8 : DK l.prog w K mg base 2 "is_pair" s_is_pair p_is_pair _ f8 _ := ⟨F8, b8, g8, ok_pair F8 C D2 D3 D0⟩
  have D9 : DK l.prog w K mg base 3 "is_keys" s_is_keys p_is_keys _ f9 _ := ⟨F9, b9, g9, ok_keys F9 B C D2 D8⟩
  have D15 : DK l.prog w K mg base 4 "check_keys" s_check_keys p_check_keys _ f15 _ := ⟨F15, b15, g15, ok_ckeys F15 D9⟩
  have D1 : DK l.prog w K mg base 2 "is_word" s_is_word p_is_word _ f1 _ := ⟨F1, b1, g1, ok_word F1 B⟩
  have D10 : DK l.prog w K mg base 3 "is_sought" s_is_sought p_is_sought _ f10 _ := ⟨F10, b10, g10, ok_sought F10 B D1⟩
  have D11 : DK l.prog w K mg base 4 "are_sought" s_are_sought p_are_sought _ f11 _ := ⟨F11, b11, g11, ok_are F11 B D10⟩
  have D12 : DK l.prog w K mg base 1 "is_name" s_is_name p_is_name _ f12 _ := ⟨F12, b12, g12, ok_name F12 B C⟩
  have D13 : DK l.prog w K mg base 3 "are_args" s_are_args p_are_args _ f13 _ := ⟨F13, b13, g13, ok_args F13 B C D2 D1⟩
  have D14 : DK l.prog w K mg base 5 "is_entry" s_is_entry p_is_entry _ f14 _ := ⟨F14, b14, g14, ok_entry F14 B D2 D11 D12 D13⟩
  have D16 : DK l.prog w K mg base 6 "check_entries" s_check_entries p_check_entries _ f16 _ := ⟨F16, b16, g16, ok_centries F16 B C D2 D14⟩
  have D17 : DK l.prog w K mg base 3 "check_words" s_check_words p_check_words _ f17 _ := ⟨F17, b17, g17, ok_cwords F17 B D2 D1⟩
  have D18 : DK l.prog w K mg base 7 "check_lookup" s_check_lookup p_check_lookup _ f18 _ := ⟨F18, b18, g18, ok_lookup F18 D15 D16 D17⟩
  have D4 : DK l.prog w K mg base 1 "as_mask" s_as_mask p_as_mask _ f4 _ := ⟨F4, b4, g4, ok_mask F4 B⟩
  have D5 : DK l.prog w K mg base 2 "is_key_hit" s_is_key_hit p_is_key_hit _ f5 _ := ⟨F5, b5, g5, ok_keyhit F5 D4⟩
  have D6 : DK l.prog w K mg base 3 "is_hit" s_is_hit p_is_hit _ f6 _ := ⟨F6, b6, g6, ok_hit F6 B D5⟩
  have D7 : DK l.prog w K mg base 4 "first_hit" s_first_hit p_first_hit _ f7 _ := ⟨F7, b7, g7, ok_first F7 B D6⟩
  have D19 : DK l.prog w K mg base 8 "hit_by" s_hit_by p_hit_by _ f19 _ := ⟨F19, b19, g19, ok_hitby F19 D18 D7⟩
  have D20 : DK l.prog w K mg base 8 "told_by" s_told_by p_told_by _ f20 _ := ⟨F20, b20, g20, ok_toldby F20 D18 D7⟩
  have D30 : DK l.prog w K mg base 4 "_law_tells" s__law_tells p__law_tells _ f30 _ := ⟨F30, b30, g30, ok_tells F30 D29⟩
  have D36 : DK l.prog w K mg base 9 "_law_is_told" s__law_is_told p__law_is_told _ f36 _ := ⟨F36, b36, g36, ok_istold F36 D29 D24 D19 D20⟩
  have D22 : DK l.prog w K mg base 1 "_law_draw" s__law_draw p__law_draw _ f22 _ := ⟨F22, b22, g22, ok_draw F22 B⟩
  have D23 : DK l.prog w K mg base 2 "_law_of" s__law_of p__law_of _ f23 _ := ⟨F23, b23, g23, ok_of F23 B D22⟩
  have D26 : DK l.prog w K mg base 3 "_law_keys" s__law_keys p__law_keys _ f26 _ := ⟨F26, b26, g26, ok_keysL F26 B D22 D23⟩
  have D27 : DK l.prog w K mg base 3 "_law_key" s__law_key p__law_key _ f27 _ := ⟨F27, b27, g27, ok_keyL F27 B D22 D23 D25⟩
  have D31 : DK l.prog w K mg base 4 "_law_entry" s__law_entry p__law_entry _ f31 _ := ⟨F31, b31, g31, ok_entryL F31 B D22 D23 D27⟩
  have D32 : DK l.prog w K mg base 5 "_law_entries" s__law_entries p__law_entries _ f32 _ := ⟨F32, b32, g32, ok_entriesL F32 B D22 D23 D31⟩
  have D33 : DK l.prog w K mg base 3 "_law_words" s__law_words p__law_words _ f33 _ := ⟨F33, b33, g33, ok_wordsL F33 B D22 D23 D25⟩
  have D34 : DK l.prog w K mg base 4 "_law_edges" s__law_edges p__law_edges _ f34 _ := ⟨F34, b34, g34, ok_edges F34 B D22 D23 D25 D33⟩
  have D35 : DK l.prog w K mg base 2 "_law_all_words" s__law_all_words p__law_all_words _ f35 _ := ⟨F35, b35, g35, ok_allwords F35 B D25⟩
  have D37 : DK l.prog w K mg base 10 "_law_right" s__law_right p__law_right _ f37 _ := ⟨F37, b37, g37, ok_right F37 B D29 D24 D19 D20 D30 D36 D26 D32 D33 D34 D35 nH nT⟩
  exact ok_law F38 B F37 b37 g37 D37.G F21 b21 g21
end
end LQ
open PySem PySem.W PyProof.Rows in
set_option maxRecDepth 100000 in
set_option maxHeartbeats 0 in
theorem PySem.Challenge.cw_switchstages_k25_whole_hits_by_own_looks_holds : PySem.Challenge.rw_switchstages_k25_whole_hits_by_own_looks.Holds := by
  w_on; o_law; k_head; (case hw => w_witness2)
  k_fill
  refine GuL.walkG (l := PySem.Challenge.rw_switchstages_k25_whole_hits_by_own_looks) (n := 63) (k := 11) (x := "_law_script") (sp := LQ.spLaw) rfl (by decide) rfl ⟨rfl, by decide, by decide⟩ (fun w h Y => PySem.W.kIn_of Y) ?F (fun K H a ns hl _ hS => ⟨a, ns, rfl, hS, hl, fun _ => rfl⟩)
  case F =>
    intro w mg fa h KX G hmg
    refine' LQ.all_mk KX G hmg ?a0 ?l0 ?c0 ?k0 ?a1 ?l1 ?c1 ?k1 ?a2 ?l2 ?c2 ?k2 ?a3 ?l3 ?c3 ?k3 ?a4 ?l4 ?c4 ?k4 ?a5 ?l5 ?c5 ?k5 ?a6 ?l6 ?c6 ?k6 ?a7 ?l7 ?c7 ?k7 ?a8 ?l8 ?c8 ?k8 ?a9 ?l9 ?c9 ?k9 ?a10 ?l10 ?c10 ?k10 ?a11 ?l11 ?c11 ?k11 ?a12 ?l12 ?c12 ?k12 ?a13 ?l13 ?c13 ?k13 ?a14 ?l14 ?c14 ?k14 ?a15 ?l15 ?c15 ?k15 ?a16 ?l16 ?c16 ?k16 ?a17 ?l17 ?c17 ?k17 ?a18 ?l18 ?c18 ?k18 ?a19 ?l19 ?c19 ?k19 ?a20 ?l20 ?c20 ?k20 ?a21 ?l21 ?c21 ?k21 ?a22 ?l22 ?c22 ?k22 ?a23 ?l23 ?c23 ?k23 ?a24 ?l24 ?c24 ?k24 ?a25 ?l25 ?c25 ?k25 ?a26 ?l26 ?c26 ?k26 ?a27 ?l27 ?c27 ?k27 ?a28 ?l28 ?c28 ?k28 ?a29 ?l29 ?c29 ?k29 ?a30 ?l30 ?c30 ?k30 ?a31 ?l31 ?c31 ?k31 ?a32 ?l32 ?c32 ?k32 ?a33 ?l33 ?c33 ?k33 ?a34 ?l34 ?c34 ?k34 ?a35 ?l35 ?c35 ?k35 ?a36 ?l36 ?c36 ?k36 ?a37 ?l37 ?c37 ?k37 ?a38 ?l38 ?c38 ?k38 ?z_int ?z_abs ?z_len ?z_divmod ?z_range ?z_tuple ?z_repr ?z_all ?z_max ?z_min ?z_sum ?z_zip ?z_str ?z_list ?z_isinstance ?z_bool ?z_enumerate ?y_mkk ?y_mkb ?y_me ?y_ww ?y_ma ?y_lt ?y_ns ?y_kd ?y_kw ?l_kw ?q_kw ?w_kw ?n_kw0 ?n_kw1 ?n_kw2 ?n_kw3 (by kernel_rfl)
    (case a0 => k_is)
    (case l0 => k_is)
    (case c0 => k_is)
    (case k0 => k_is)
    (case a1 => k_is)
    (case l1 => k_is)
    (case c1 => k_is)
    (case k1 => k_is)
    (case a2 => k_is)
    (case l2 => k_is)
    (case c2 => k_is)
    (case k2 => k_is)
    (case a3 => k_is)
    (case l3 => k_is)
    (case c3 => k_is)
    (case k3 => k_is)
    (case a4 => k_is)
    (case l4 => k_is)
    (case c4 => k_is)
    (case k4 => k_is)
    (case a5 => k_is)
    (case l5 => k_is)
    (case c5 => k_is)
    (case k5 => k_is)
    (case a6 => k_is)
    (case l6 => k_is)
    (case c6 => k_is)
    (case k6 => k_is)
    (case a7 => k_is)
    (case l7 => k_is)
    (case c7 => k_is)
    (case k7 => k_is)
    (case a8 => k_is)
    (case l8 => k_is)
    (case c8 => k_is)
    (case k8 => k_is)
    (case a9 => k_is)
    (case l9 => k_is)
    (case c9 => k_is)
    (case k9 => k_is)
    (case a10 => k_is)
    (case l10 => k_is)
    (case c10 => k_is)
    (case k10 => k_is)
    (case a11 => k_is)
    (case l11 => k_is)
    (case c11 => k_is)
    (case k11 => k_is)
    (case a12 => k_is)
    (case l12 => k_is)
    (case c12 => k_is)
    (case k12 => k_is)
    (case a13 => k_is)
    (case l13 => k_is)
    (case c13 => k_is)
    (case k13 => k_is)
    (case a14 => k_is)
    (case l14 => k_is)
    (case c14 => k_is)
    (case k14 => k_is)
    (case a15 => k_is)
    (case l15 => k_is)
    (case c15 => k_is)
    (case k15 => k_is)
    (case a16 => k_is)
    (case l16 => k_is)
    (case c16 => k_is)
    (case k16 => k_is)
    (case a17 => k_is)
    (case l17 => k_is)
    (case c17 => k_is)
    (case k17 => k_is)
    (case a18 => k_is)
    (case l18 => k_is)
    (case c18 => k_is)
    (case k18 => k_is)
    (case a19 => k_is)
    (case l19 => k_is)
    (case c19 => k_is)
    (case k19 => k_is)
    (case a20 => k_is)
    (case l20 => k_is)
    (case c20 => k_is)
    (case k20 => k_is)
    (case a21 => k_is)
    (case l21 => k_is)
    (case c21 => k_is)
    (case k21 => k_is)
    (case a22 => k_is)
    (case l22 => k_is)
    (case c22 => k_is)
    (case k22 => k_is)
    (case a23 => k_is)
    (case l23 => k_is)
    (case c23 => k_is)
    (case k23 => k_is)
    (case a24 => k_is)
    (case l24 => k_is)
    (case c24 => k_is)
    (case k24 => k_is)
    (case a25 => k_is)
    (case l25 => k_is)
    (case c25 => k_is)
    (case k25 => k_is)
    (case a26 => k_is)
    (case l26 => k_is)
    (case c26 => k_is)
    (case k26 => k_is)
    (case a27 => k_is)
    (case l27 => k_is)
    (case c27 => k_is)
    (case k27 => k_is)
    (case a28 => k_is)
    (case l28 => k_is)
    (case c28 => k_is)
    (case k28 => k_is)
    (case a29 => k_is)
    (case l29 => k_is)
    (case c29 => k_is)
    (case k29 => k_is)
    (case a30 => k_is)
    (case l30 => k_is)
    (case c30 => k_is)
    (case k30 => k_is)
    (case a31 => k_is)
    (case l31 => k_is)
    (case c31 => k_is)
    (case k31 => k_is)
    (case a32 => k_is)
    (case l32 => k_is)
    (case c32 => k_is)
    (case k32 => k_is)
    (case a33 => k_is)
    (case l33 => k_is)
    (case c33 => k_is)
    (case k33 => k_is)
    (case a34 => k_is)
    (case l34 => k_is)
    (case c34 => k_is)
    (case k34 => k_is)
    (case a35 => k_is)
    (case l35 => k_is)
    (case c35 => k_is)
    (case k35 => k_is)
    (case a36 => k_is)
    (case l36 => k_is)
    (case c36 => k_is)
    (case k36 => k_is)
    (case a37 => k_is)
    (case l37 => k_is)
    (case c37 => k_is)
    (case k37 => k_is)
    (case a38 => k_is)
    (case l38 => k_is)
    (case c38 => k_is)
    (case k38 => k_is)
    (case z_int => k_is)
    (case z_abs => k_is)
    (case z_len => k_is)
    (case z_divmod => k_is)
    (case z_range => k_is)
    (case z_tuple => k_is)
    (case z_repr => k_is)
    (case z_all => k_is)
    (case z_max => k_is)
    (case z_min => k_is)
    (case z_sum => k_is)
    (case z_zip => k_is)
    (case z_str => k_is)
    (case z_list => k_is)
    (case z_isinstance => k_is)
    (case z_bool => k_is)
    (case z_enumerate => k_is)
    (case y_mkk => k_is)
    (case y_mkb => k_is)
    (case y_me => k_is)
    (case y_ww => k_is)
    (case y_ma => k_is)
    (case y_lt => k_is)
    (case y_ns => k_is)
    (case y_kd => k_is)
    (case y_kw => k_is)
    (case l_kw => k_is)
    (case q_kw => k_keys)
    (case w_kw => decide)
    (case n_kw0 => k_is)
    (case n_kw1 => k_is)
    (case n_kw2 => k_is)
    (case n_kw3 => k_is)

