import PyProof.Rows.All
import Wide.All
import OpenK.AllK
import Wide.FinOn
import HandS.ForMost
import HandS.Flow
import PyProof.ReprRoads
import PyProof.CallFns
import HandS.Walk
import HandS.Evl
import HandS.TupAny
import HandS.TupMul
import HandS.WideBits
import HandS.RevRange
import PyProof.ReprLen
import PyProof.StrLawsRepr
import HandS.Base
import HandS.Style
import HandS.Zip
import HandS.Defaults
import HandS.IsInst
import HandS.More
import HandS.StrMore
import HandS.HeadHook3
import HandS.Strs
import HandS.Words
import HandS.Conv
import HandS.HeadHook1
import HandS.Exc
import HandS.ExcInit
import KE.KExcInit
import KE.KExcIs
import HandS.ExcValue
import PySem.Challenge.RW_switchstages_k03_whole_fields_read_and_w
set_option Elab.async false
set_option linter.all false
set_option maxRecDepth 100000
set_option maxHeartbeats 4000000
namespace GuL
open PySem PySem.Spec PyProof.Rows L2
/-! ### a def whose promise holds where no repr is under way -/
structure FnG (P : Program) (w : World) (K : PySem.W.Frag) (mg : Str → Option Value) (base : Heap) (CX : CXT) (k : Nat) (f : Addr) (fd : FuncData) (ps : List Str) (sp : Sp) : Prop where
  len : ∀ vs H Q E, sp vs H Q E → vs.length = ps.length
  go : ∀ (A : Around) (outer : List Env) (s : Shared) (H : Hp) (as : Args) (us : List Value) (vs : List V) (Q : VK) (E : XK), A.guards = some [] → Room k A → Env0 P w K mg base A outer s H → BindsTo s fd as (ps.zip us) →
    Vals vs us → sp vs H Q E → codeAny (model P w) A (.call (.ref f) as) (CR CX outer P w H s Q E) s
theorem FnG.of {P : Program} {w : World} {K : PySem.W.Frag} {mg : Str → Option Value} {base : Heap} {CX : CXT} {k : Nat} {f : Addr} {fd : FuncData} {ps : List Str} {sp : Sp} (F : FnOk P w K mg base CX k f fd ps sp) : FnG P w K mg base CX k f fd ps sp :=
  ⟨F.len, fun A outer s H as us vs Q E _ => F.run A outer s H as us vs Q E⟩
section
variable {X : Cx} {CX : CXT} {k : Nat} {f : Addr} {fd : FuncData} {ps : List Str} {sp : Sp} {dvs : List V} {ds : List Value} {E : XK} {x : Str} {p pos : Pos} {e : Expr} {es : List Expr} {t : TA}
theorem runG {pins : List (Addr × Obj)} {σ : L2.St} {H : Hp} {s : Shared} {Q : VK} {us : List Value} {vs : List V} (F : FnG X.prog X.w X.K X.mg X.base CX k f fd ps sp) (hA : X.A.guards = some []) (hr : Room k X.A) (hb : Binds X.K fd ps ds) (hd : Vals dvs ds) (hx : Passes CX X E)
    (I : L2.Inv X pins σ H s) (r : Vals vs us) (h : sp (vs ++ dvs) H Q E) : wpAny (model X.prog X.w) X.A (call (.ref f) us) (EP X pins σ Q) X.xe s := by
  have q2 : Vals (vs ++ dvs) (us ++ ds) := r.append hd
  have ql : (us ++ ds).length = ps.length := q2.length.symm.trans (F.len _ _ _ _ h)
  have go := F.go X.A X.stack s H ⟨us, []⟩ (us ++ ds) (vs ++ dvs) Q E hA hr I.env0 (hb s us I.kIn ql) q2 h
  refine wpAny_call (codeAny_mono go fun rr s' hq => ?_)
  match rr, hq with
  | .error e, hq => exact hx pins σ H s e s' I hq
  | .ok (.ret u), hq => exact I.after hq
theorem pe_callG (F : FnG X.prog X.w X.K X.mg X.base CX k f fd ps sp) (hA : X.A.guards = some []) (hr : Room k X.A) (hg : Gl X x) (hm : X.mg x = some (.ref f)) (hk : PySem.W.keepIn X.K (.ref f) = true) (hb : Binds X.K fd ps ds) (hd : Vals dvs ds) (hx : Passes CX X E) (ha : PA X (e :: es) t)
    (hdb : (x == ("__debug__" : Str)) = false := by decide) (he : starEach (e :: es) X.env = (false, eval e X.env) :: starEach es X.env := by rfl) (hpl : (backTo pos (starEach es X.env)).any (·.1) = false := by rfl) :
    PE X (.Call (.Name x p) (e :: es) [] pos) (tCall sp dvs E t) :=
  ⟨fun pins s σ H Q I h => wpAny_Call_Name_kw (ld_glob I hg hm (PySem.W.callWith_K (h₀ := X.base) I.ok.mod.kin hk (thn (ha.run pos pins s σ H _ I h) fun us s1 hh => by
    obtain ⟨vs, H1, I1, r, q⟩ := hh
    exact ⟨I1.kIn, runG F hA hr hb hd hx I1 r q⟩) he hpl) hdb)⟩
end
/-- the rule for such a def -/
theorem okG {P : Program} {w : World} {K : PySem.W.Frag} {mg : Str → Option Value} {base : Heap} {x qual : Str} {st : Stmt} {f : Addr} {fd : FuncData} {N ps : List Str} {k : Nat} {sp : Sp} (F : Fun K x qual st f fd) (S : FnScope N ps (defScope st)) (len : ∀ vs H Q E, sp vs H Q E → vs.length = ps.length)
    (body : ∀ (cdv : Value) (A : Around) (outer : List Env) (s : Shared) (H : Hp) (vs : List V) (Q : VK) (E : XK), A.guards = some [] → Room k (A.deeper (envOfC qual (defScope st) s.heap.objs.size f cdv)) → sp vs H Q E →
      ∃ t, PSs (cxOf CX0 P w K mg base N qual (defScope st) f cdv A outer s H E).nox (defBody st) t ∧ t { nx := fun _ H' => Q .non H', rt := Q } (start N vs) H) : FnG P w K mg base CX0 (k + 1) f fd ps sp := by
  obtain ⟨oc, od, kV, doc, pm, an, cdv, ct, osl, rfl, lk, hcd⟩ := F.ex
  constructor
  · exact len
  intro A outer s H as us vs Q E hA hr e0 hb r hsp
  have kin : K.In s.heap := e0.mod.kin.keeps fun b o e => (e0.bs b o e).1
  have noL : s.heap.NoLimit := e0.mod.nolimit.keeps fun b o e => (e0.bs b o e).1
  have kinds : ∀ y ∈ ps.zip us, (defScope st).names.lookup y.1 = some .local ∨ ((defScope st).names.lookup y.1 = some .cell ∧ ((cellsFrom (s.heap.objs.size + 1) (defScope st).names []).lookup y.1).isSome = true) := by
    rintro ⟨n, v⟩ hy
    cases S.par n (List.of_mem_zip hy).1 with
    | inl q => exact .inl q
    | inr q => exact .inr ⟨q, PySem.W.cellsFrom_some _ _ _ (.inl q)⟩
  refine codeAny_call_function hr.depth (kin _ _ lk) rfl S.co S.gen rfl (PySem.W.codeRec_of kin hcd) (hb _ _ _ _ (wpAny_newFunctionEnv_cells S.kind kinds fun env he s1 z => ?_))
  subst he
  refine ⟨noL.keeps z.toInCall.keep, codeAny_func ?_⟩
  obtain ⟨t, ht, hq⟩ := body cdv A outer s H vs Q E hA (hr.deeper _) hsp
  have J := inv_start (E := E) (CX := CX0) (P := P) (w := w) S hr.hd e0 (len _ _ _ _ hsp) r z
  refine wpAny_mono (ht.nox.run [] s1 (start N vs) H _ J hq) (fun fl s' hs => ?_) fun e s' hs => hs
  match fl, hs with
  | .ret u, hs =>
    obtain ⟨v, σ', H', J2, rv, q⟩ := hs
    exact ⟨v, H', J2.os, J2.bare, J2.base, J2.hok, rv, q⟩
  | .next, hs =>
    obtain ⟨σ', H', J2, q⟩ := hs
    exact ⟨.non, H', J2.os, J2.bare, J2.base, J2.hok, rfl, q⟩
  | .brk, hs =>
    obtain ⟨_, _, _, q⟩ := hs
    exact q.elim
  | .cont, hs =>
    obtain ⟨_, _, _, q⟩ := hs
    exact q.elim
/-! ### repr of data -/
/-- v is shown as z -/
inductive Shd (K : PySem.W.Frag) (H : Hp) : V → PyData → Prop where
  | dat {v : V} {d : PyData} (h : Dp K H v d) (n : d.hasDict = false) : Shd K H v d
  | emp {a : Addr} (h : H a = some (.dK [])) : Shd K H (.ref a) (.dict [])
def rRepr (K : PySem.W.Frag) : List V → Hp → VK → Prop := fun xs H Q => ∃ (v : V) (d : PyData), xs = [v] ∧ Shd K H v d ∧ d.showable = true ∧ d.depth ≤ 40 ∧ d.shown.length ≤ sizeLine ∧ Q (.str d.shown) H
theorem call_repr {X : Cx} (hA : X.A.guards = some []) (hu : X.A.units + 64 < cLine) : CallR X (.builtin "repr") (rRepr X.K) := by
  intro pins s σ H xs us Q I r h
  obtain ⟨v, d, rfl, hd, hs, hp, hz, q⟩ := h
  obtain ⟨u, rfl, ru⟩ := vals1 r
  have rd : ∃ as, Reads s.heap u d as ∧ (d.hasDict = true → sysModules ∉ as) := by
    cases hd with
    | dat h n =>
      obtain ⟨as, q⟩ := Dp.reads I d v u h ru
      exact ⟨as, q, fun e => by rw [n] at e; cases e⟩
    | @emp a h =>
      obtain rfl : u = Value.ref a := ru
      obtain ⟨_, hsys, vs, kv, o, es, ep, h1, h2, h3, h4⟩ := (show ObjOk X.prog X.w H s.heap a (.dK []) from I.hok a _ h)
      cases kv
      have he : es.toList = [] := by
        have h5 := h4.2.1
        revert h5
        generalize es.toList = l
        intro h5
        cases h5
        rfl
      refine ⟨a :: [] ++ [], Reads.dict h1 h2.1 h3 (by rw [he]; exact .nil) (by rw [he]; exact .nil), fun _ m => ?_⟩
      have e : sysModules = a := by simpa using m
      rw [e] at hsys
      simp at hsys
  obtain ⟨as, rd, hsm⟩ := rd
  cases v with
  | ref a =>
    obtain rfl : u = Value.ref a := ru
    exact repr_of_reads' rd hs hsm hA (by omega) (fun _ _ e => e) (fun h' u' tk k => ⟨.str d.shown, H, I.kept (t' := tk) k, ⟨u', rfl⟩, q⟩) hz
  | non =>
    obtain rfl : u = Value.none := ru
    cases rd
    exact PySem.P.repr_of_none ⟨.str _, H, I.tok _, ⟨_, rfl⟩, q⟩
  | bl b =>
    obtain rfl : u = Value.bool b := ru
    cases rd
    exact PySem.P.repr_of_bool ⟨.str _, H, I.tok _, ⟨_, rfl⟩, q⟩
  | int i =>
    obtain ⟨t, rfl⟩ := ru
    cases rd
    exact PySem.P.repr_of_int (of_decide_eq_true hs) ⟨.str _, H, I.tok _, ⟨_, rfl⟩, q⟩
  | str z =>
    obtain ⟨t, rfl⟩ := ru
    cases rd
    exact PySem.P.repr_of_str ⟨.str _, H, I.tok _, ⟨_, rfl⟩, q⟩ hz
  | byt b =>
    obtain ⟨t, rfl⟩ := ru
    cases rd
  | flt b =>
    obtain ⟨t, rfl⟩ := ru
    cases rd
  | ty n =>
    obtain rfl : u = Value.type n := ru
    cases rd
/-! ### the end of a law -/
section
variable {P : Program} {w : World} {K : PySem.W.Frag} {mg mb : Str → Option Value} {CX : CXT} {k : Nat} {fa a : Addr} {fd : FuncData} {x : Str} {sp : Sp} {s₁ : Shared} {vs : List Value} {ns : List Int}
/-- what a law's call leaves -/
abbrev Done (s₁ : Shared) (r : Result) (s' : Shared) : Prop := r = .ok (.ret (.bool true)) ∧ OldK s₁.heap s'.heap ∧ s'.os = s₁.os ∧ AllBare s'.gens
/-- the heap of what is tracked holds the script at a, or nothing -/
structure Scr (P : Program) (w : World) (K : PySem.W.Frag) (h : Heap) (a : Addr) (obj : Obj) (ns : List Int) (H : Hp) : Prop where
  only : Only H
  seq : SqL K H a (ns.map V.int)
  hok : HOk P w H h
  at_ : ∀ b, H b ≠ none → b = a
  nk : H a ≠ none → K.lookup a = none
theorem law_core {H : Hp} (KX : K.In s₁.heap) (hns : s₁.heap.Ns mainGlobals mg) (hb : s₁.heap.Ns builtinsNs mb) (hbb : ∀ x : Str, x ≠ "__name__" → mb x = bootBuiltins x) (hlim : s₁.heap.NoLimit) (hg : s₁.gens = #[])
    (ha : s₁.heap.get? a = some { cls := .type "list", data := .seq vs.toArray }) (hr : Room k callerA) (S : Scr P w K s₁.heap a { cls := .type "list", data := .seq vs.toArray } ns H)
    (F : ∀ base : Heap, K.In base → base.Ns mainGlobals mg → FnG P w K mg base CX k fa fd [x] sp) (hbind : ∀ (s : Shared) (u : Value), BindsTo s fd ⟨[u], []⟩ [(x, u)])
    (hsp : sp [.ref a] H (fun v _ => v = .bl true) fun _ _ _ => False) (hCX : ∀ e s', CX [] H s₁ (fun _ _ _ => False) e s' → False) :
    codeAny (model P w) callerA (.call (.ref fa) ⟨[.ref a], []⟩) (Done s₁) s₁ := by
  have free : ∀ {b : Addr} {o : Obj}, s₁.heap.get? b = some o → b ≠ a → H b = none := fun {b o} _ n => by
    by_cases z : H b = none
    · exact z
    · exact (n (S.at_ b z)).elim
  have hid : ∀ {b : Addr} {o : Obj}, s₁.heap.get? b = some o → H b = none → (hidT s₁.heap H).get? b = some o := hidT_get
  have dict : ∀ {b : Addr} {m : Str → Option Value}, s₁.heap.Ns b m → (hidT s₁.heap H).Ns b m := by
    rintro b m ⟨o, es, ep, e, dt, rr⟩
    refine ⟨o, es, ep, hid e (free e fun z => ?_), dt, rr⟩
    subst z
    rw [ha] at e
    cases e
    exact nomatch (show Data.seq vs.toArray _ = Data.dict es ep from dt)
  have kin : K.In (hidT s₁.heap H) := fun b o e => by
    refine hid (KX b o e) ?_
    by_cases z : H b = none
    · exact z
    · have eb := S.at_ b z
      subst eb
      have q := S.nk z
      rw [e] at q
      cases q
  have M : Mod K mg (hidT s₁.heap H) := by
    obtain ⟨mc, l1, l2⟩ := hlim
    exact ⟨kin, dict hns, ⟨mb, dict hb, hbb⟩, ⟨mc, dict l1, l2⟩⟩
  have none0 : ∀ b : Addr, b ∉ ([] : List Addr) := fun b z => nomatch z
  have e0 : Env0 P w K mg (hidT s₁.heap H) callerA [] s₁ H := ⟨rfl, M, fun b o e => of_hidT e, Nat.le_of_eq (hidT_size _ _), trivial, fun b z => (none0 b z).elim, S.hok, .of_eq hg⟩
  have go := (F _ kin (dict hns)).go callerA [] s₁ H ⟨[.ref a], []⟩ [.ref a] [.ref a] _ _ rfl hr e0 (hbind s₁ (.ref a)) (.cons rfl .nil) hsp
  refine codeAny_mono go fun r s' h => ?_
  match r, h with
  | .error e, h => exact (hCX e s' h).elim
  | .ok (.ret u), h =>
    obtain ⟨v, H', os, bare, un, hok', rv, q⟩ := h
    have ev : v = .bl true := q
    subst ev
    have eu : u = Value.bool true := rv
    subst eu
    refine ⟨rfl, OldK.of_keep fun b o e => ?_, os, bare⟩
    by_cases z : H b = none
    · exact un.keep b o e z (none0 b) (none0 b)
    · rcases S.only b with y | ⟨ob, xs, y⟩
      · exact (z y).elim
      · obtain ⟨e1, _⟩ := S.hok b _ y
        obtain ⟨e2, _⟩ := hok' b _ (un.frzs b ob _ y)
        rw [e] at e1
        cases e1
        exact e2
theorem law_callG (KX : K.In s₁.heap) (hns : s₁.heap.Ns mainGlobals mg) (hb : s₁.heap.Ns builtinsNs mb) (hbb : ∀ x : Str, x ≠ "__name__" → mb x = bootBuiltins x) (hlim : s₁.heap.NoLimit) (hg : s₁.gens = #[])
    (ha : s₁.heap.get? a = some { cls := .type "list", data := .seq vs.toArray }) (hi : IntsAre vs ns) (hl : ns.length ≤ sizeLine) (hr : Room k callerA)
    (F : ∀ base : Heap, K.In base → base.Ns mainGlobals mg → FnG P w K mg base CX k fa fd [x] sp) (hbind : ∀ (s : Shared) (u : Value), BindsTo s fd ⟨[u], []⟩ [(x, u)])
    (hsp : ∀ H : Hp, Only H → SqL K H a (ns.map V.int) → sp [.ref a] H (fun v _ => v = .bl true) fun _ _ _ => False)
    (hCX : ∀ H e s', CX [] H s₁ (fun _ _ _ => False) e s' → False) :
    codeAny (model P w) callerA (.call (.ref fa) ⟨[.ref a], []⟩) (Done s₁) s₁ := by
  have rv := vals_ints hi
  have lv := hi.length
  have key : ∃ H, Scr P w K s₁.heap a { cls := .type "list", data := .seq vs.toArray } ns H := by
    by_cases hk : K.lookup a = none
    · have at0 : ∀ {b : Addr} {u : HO}, (if b = a then some (HO.frz { cls := .type "list", data := .seq vs.toArray } (.lst (ns.map V.int))) else none) = some u → b = a ∧ u = HO.frz { cls := .type "list", data := .seq vs.toArray } (.lst (ns.map V.int)) := fun {b u} z => by
        by_cases e : b = a
        · rw [if_pos e] at z
          exact ⟨e, (Option.some.inj z).symm⟩
        · rw [if_neg e] at z
          cases z
      refine ⟨fun b => if b = a then some (.frz { cls := .type "list", data := .seq vs.toArray } (.lst (ns.map V.int))) else none, ⟨fun b => ?_, ?_, fun b u z => ?_, fun b z => ?_, fun _ => hk⟩⟩
      · by_cases e : b = a
        · right
          exact ⟨_, _, if_pos e⟩
        · left
          exact if_neg e
      · left
        right
        exact ⟨_, if_pos rfl⟩
      · obtain ⟨rfl, rfl⟩ := at0 z
        exact ⟨ha, by rw [List.length_map]; exact hl, vs, _, rv, ha⟩
      · by_cases e : b = a
        · exact e
        · exact (z (if_neg e)).elim
    · obtain ⟨o, ho⟩ := Option.ne_none_iff_exists'.mp hk
      have e := KX a o ho
      rw [ha] at e
      cases e
      refine ⟨fun _ => none, ⟨fun _ => .inl rfl, ?_, fun b u z => (nomatch z), fun b z => (z rfl).elim, fun z => (z rfl).elim⟩⟩
      right
      exact ⟨_, vs.toArray, _, ho, rfl, rfl, rfl, by rw [List.size_toArray, lv]; exact hl, by simpa using rv⟩
  obtain ⟨H, S⟩ := key
  exact law_core KX hns hb hbb hlim hg ha hr S F hbind (hsp H S.only S.seq) (hCX H)
end
theorem walkG {l : PySem.W.OpenLaw} {n k : Nat} {q : Program} {loose : List Str} {XP : (Str → Option Value) → Heap → Prop} {YP : World → Heap → Prop} {d : DefRec} {K : Params → PySem.W.Frag} {sp : PySem.W.Frag → Sp} {x : Str}
    (hn : l.most = some n) (hn2 : n ≤ sizeLine) (hdf : d.params.defaults = []) (hr : Room k callerA) (hY : ∀ (w : World) (h : Heap), YP w h → (K w.params).In h)
    (F : ∀ (w : World) (mg : Str → Option Value) (fa : Addr) (h : Heap), (K w.params).In h → h.Ns mainGlobals mg → mg d.name = some (.ref fa) →
      ∃ fd : FuncData, (∀ (s : Shared) (u : Value), BindsTo s fd ⟨[u], []⟩ [(x, u)]) ∧ ∀ base : Heap, (K w.params).In base → base.Ns mainGlobals mg → FnG l.prog w (K w.params) mg base CX0 k fa fd [x] (sp (K w.params)))
    (hsp : ∀ (K : PySem.W.Frag) (H : Hp) (a : Addr) (ns : List Int), ns.length ≤ n → Only H → SqL K H a (ns.map V.int) → sp K [.ref a] H (fun v _ => v = .bl true) fun _ _ _ => False) :
    PySem.W.WalkO q loose XP YP l.row.toRowW d [] (fun f vs => PySem.call f vs) := by
  refine Att.attach_call hn hdf fun w s₀ s₁ mg mb fa o pm cd doc a vs ns G Y ho hd hcd hmg hobj hints hlen hg => ?_
  obtain ⟨fd, hb, hF⟩ := F w mg fa _ (hY w _ Y) G.T.g hmg
  exact law_callG (hY w _ Y) G.T.g G.T.b G.T.builtins G.T.nolimit hg hobj hints (Nat.le_trans hlen hn2) hr hF hb (fun H h2 h3 => hsp _ H a ns hlen h2 h3) fun H e s' z => z
end GuL

namespace HG
open PySem PySem.Spec PyProof.Rows L2 GuL
/-! ### heaps -/
/-- all that was tracked is as it was, but b -/
def Exb (b : Addr) (H H' : Hp) : Prop := ∀ p u, p ≠ b → H p = some u → H' p = some u
theorem Exb.refl (b : Addr) (H : Hp) : Exb b H H := fun _ _ _ h => h
theorem Exb.trans {b : Addr} {H H1 H2 : Hp} (a : Exb b H H1) (c : Exb b H1 H2) : Exb b H H2 := fun p u n h => c p u n (a p u n h)
theorem Exb.of {b : Addr} {H H' : Hp} (a : Same H H') : Exb b H H' := fun p u _ h => a p u h
theorem Exb.put {b : Addr} {H : Hp} {o : HO} : Exb b H (upd H b o) := fun p u n h => by
  rw [upd_ne n]
  exact h
theorem Exb.fresh {b D : Addr} {H H' : Hp} (a : Exb b H H') (n : D ≠ b) (h : H' D = none) : H D = none := by
  cases q : H D with
  | none => rfl
  | some u =>
    rw [a D u n q] at h
    cases h
theorem Exb.mut {b D : Addr} {H H' : Hp} {o : HO} (a : Exb b H H') (h : H D = none) : Exb b H (upd H' D o) := fun p u n q => by
  rw [upd_ne (ne_of_none q h)]
  exact a p u n q
theorem same_new {H : Hp} {p : Addr} {o : HO} (h : H p = none) : Same H (upd H p o) := fun b x e => by
  rw [upd_ne (ne_of_none e h)]
  exact e
/-- the bowl -/
def bw (o m c : Int) : HO := .lst [.int o, .int m, .int c]
theorem cutV_mem {xs : List V} {lo hi : Option Int} {x : V} (h : x ∈ cutV xs lo hi) : x ∈ xs := by
  unfold cutV at h
  exact List.mem_of_mem_drop (List.mem_of_mem_take h)
theorem int_of_mem {ns : List Int} {y : V} (h : y ∈ ns.map V.int) : ∃ z, y = V.int z := by
  obtain ⟨z, _, e⟩ := List.mem_map.mp h
  exact ⟨z, e.symm⟩
theorem getI {ns : List Int} {t : Int} (h0 : 0 ≤ t) (h1 : t < ((ns.map V.int).length : Int)) : ∃ z, atI (ns.map V.int) t = some (V.int z) := by
  obtain ⟨j, rfl⟩ := Int.eq_ofNat_of_zero_le h0
  have hj : j < ns.length := by
    rw [List.length_map] at h1
    omega
  refine ⟨ns[j], atI_nat ?_⟩
  rw [List.getElem?_map, List.getElem?_eq_getElem hj]
  rfl
theorem sqT_exb {K : PySem.W.Frag} {b t : Addr} {H H' : Hp} {xs : List V} (e : Exb b H H') (n : t ≠ b) (h : SqT K H t xs) : SqT K H' t xs := by
  rcases h with (h | ⟨o, h⟩) | h
  · exact .inl (.inl (e _ _ n h))
  · exact .inl (.inr ⟨o, e _ _ n h⟩)
  · exact .inr h
structure Okd (d : PyData) : Prop where
  sh : d.showable = true
  dp : d.depth ≤ 40
  lv : d.leavesShort 13 = true
  wt : d.weight ≤ 2 ^ 20
theorem Okd.fits {d : PyData} (h : Okd d) : d.shown.length ≤ sizeLine := PyData.shown_fits (B := 13) (by decide) (by decide) h.lv h.wt
theorem log_small {n : Nat} (h : n < 2 ^ 40) : n.log2 < 40 := by
  by_cases z : n = 0
  · rw [z]; decide
  · exact (Nat.log2_lt z).mpr h
theorem okd_int {r : Int} (h0 : -100 ≤ r) (h1 : r < 5000000000) : Okd (.int r) := by
  have a : r.natAbs < 10 ^ 12 := by omega
  have l : r.natAbs.log2 < 40 := log_small (show r.natAbs < 2 ^ 40 by omega)
  refine ⟨?_, by simp [PyData.depth], ?_, ?_⟩
  · simp only [PyData.showable, decide_eq_true_eq]
    omega
  · simp only [PyData.leavesShort, decide_eq_true_eq]
    exact PyData.shown_int_le a
  · simp only [PyData.weight]
    split <;> omega
theorem okd_ints : ∀ {rs : List Int}, rs.length ≤ 100 → (∀ r ∈ rs, 0 ≤ r ∧ r < 5000000000) → Okd (.tuple (rs.map .int)) := fun {rs} hl h => by
  have key : ∀ l : List Int, (∀ r ∈ l, 0 ≤ r ∧ r < 5000000000) → PyData.showableAll (l.map .int) = true ∧ PyData.depthAll (l.map .int) = 0 ∧ PyData.leavesShortAll 13 (l.map .int) = true ∧ PyData.weightAll (l.map .int) ≤ 50 * l.length := by
    intro l
    induction l with
    | nil => intro _; exact ⟨rfl, rfl, rfl, Nat.le_refl _⟩
    | cons r l ih =>
      intro h
      obtain ⟨i1, i2, i3, i4⟩ := ih fun x hx => h x (List.mem_cons_of_mem _ hx)
      obtain ⟨r0, r1⟩ := h r List.mem_cons_self
      have o := okd_int (r := r) (by omega) r1
      have l40 : r.natAbs.log2 < 40 := log_small (show r.natAbs < 2 ^ 40 by omega)
      refine ⟨?_, ?_, ?_, ?_⟩
      · simp only [List.map_cons, PyData.showableAll, o.sh, i1, Bool.and_self]
      · simp only [List.map_cons, PyData.depthAll, i2, PyData.depth]
        rfl
      · simp only [List.map_cons, PyData.leavesShortAll, o.lv, i3, Bool.and_self]
      · have e : PyData.weight (.int r) ≤ 41 := by
          simp only [PyData.weight]
          split <;> omega
        simp only [List.map_cons, PyData.weightAll, List.length_cons]
        omega
  obtain ⟨i1, i2, i3, i4⟩ := key rs h
  exact ⟨by simp only [PyData.showable, i1], by simp only [PyData.depth, i2]; decide, by simp only [PyData.leavesShort, i3], by simp only [PyData.weight]; omega⟩
theorem okd_str {z : Str} (hl : z.length ≤ 1000) (h : ∀ c ∈ z.cps.toList, c < 16 ^ 8) : Okd (.str z) := by
  refine ⟨rfl, by simp [PyData.depth], ?_, ?_⟩
  · simp only [PyData.leavesShort, List.all_eq_true, decide_eq_true_eq]
    exact h
  · simp only [PyData.weight]
    have e : z.cps.size = z.length := rfl
    omega
theorem sameT {K : PySem.W.Frag} {H H' : Hp} {a : Addr} {xs : List V} (e : Same H H') (h : SqT K H a xs) : SqT K H' a xs := by
  rcases h with (h | ⟨o, h⟩) | h
  · exact .inl (.inl (e _ _ h))
  · exact .inl (.inr ⟨o, e _ _ h⟩)
  · exact .inr h
mutual
theorem dpSame {K : PySem.W.Frag} {H H' : Hp} (e : Same H H') : ∀ {v : V} {d : PyData}, Dp K H v d → Dp K H' v d
  | _, _, .non => .non
  | _, _, .bl b => .bl b
  | _, _, .int i => .int i
  | _, _, .str x => .str x
  | _, _, .lst h r => .lst (e.seq h) (dpSameAll e r)
  | _, _, .tup h r => .tup (sameT e h) (dpSameAll e r)
theorem dpSameAll {K : PySem.W.Frag} {H H' : Hp} (e : Same H H') : ∀ {vs : List V} {ds : List PyData}, DpAll K H vs ds → DpAll K H' vs ds
  | _, _, .nil => .nil
  | _, _, .cons h r => .cons (dpSame e h) (dpSameAll e r)
end
theorem shdSame {K : PySem.W.Frag} {H H' : Hp} (e : Same H H') {v : V} {d : PyData} : Shd K H v d → Shd K H' v d
  | .dat h n => .dat (dpSame e h) n
  | .emp h => .emp (e _ _ h)
theorem dp_ints {K : PySem.W.Frag} {H : Hp} : ∀ ys : List Int, DpAll K H (ys.map V.int) (ys.map PyData.int)
  | [] => .nil
  | y :: ys => .cons (.int y) (dp_ints ys)
theorem same_exb {H H1 H2 : Hp} {p : Addr} (s : Same H H1) (n : H p = none) (e : Exb p H1 H2) : Same H H2 := fun b o h => e b o (ne_of_none h n) (s b o h)
/-! ### data told by the value -/
theorem dp_str {K : PySem.W.Frag} {H : Hp} {v : V} {z : Str} (h : Dp K H v (.str z)) : v = .str z := by
  cases h
  rfl
theorem dp_int {K : PySem.W.Frag} {H : Hp} {v : V} {i : Int} (h : Dp K H v (.int i)) : v = .int i := by
  cases h
  rfl
theorem dp_tup {K : PySem.W.Frag} {H : Hp} {v : V} {ds : List PyData} (h : Dp K H v (.tuple ds)) : ∃ a xs, v = .ref a ∧ SqT K H a xs ∧ DpAll K H xs ds := by
  cases h with
  | tup h1 h2 => exact ⟨_, _, rfl, h1, h2⟩
theorem dpAll_len {K : PySem.W.Frag} {H : Hp} : ∀ {xs : List V} {ds : List PyData}, DpAll K H xs ds → xs.length = ds.length
  | _, _, .nil => rfl
  | _, _, .cons _ r => by rw [List.length_cons, List.length_cons, dpAll_len r]
theorem dpAll_get {K : PySem.W.Frag} {H : Hp} : ∀ {xs : List V} {ds : List PyData} {i : Nat} {d : PyData}, DpAll K H xs ds → ds[i]? = some d → ∃ x, xs[i]? = some x ∧ Dp K H x d
  | _, _, 0, d, .cons h _, e => by
    simp at e
    subst e
    exact ⟨_, rfl, h⟩
  | _, _, i + 1, d, .cons _ r, e => by
    obtain ⟨x, q1, q2⟩ := dpAll_get (i := i) r (by simpa using e)
    exact ⟨x, by simpa using q1, q2⟩
theorem dpAll_at {K : PySem.W.Frag} {H : Hp} : ∀ {xs : List V} {ds : List PyData} {i : Nat} {x : V}, DpAll K H xs ds → xs[i]? = some x → ∃ d, ds[i]? = some d ∧ Dp K H x d
  | _, _, 0, x, .cons h _, e => by
    simp at e
    subst e
    exact ⟨_, rfl, h⟩
  | _, _, i + 1, x, .cons _ r, e => by
    obtain ⟨d, q1, q2⟩ := dpAll_at (i := i) r (by simpa using e)
    exact ⟨d, by simpa using q1, q2⟩
theorem dpAll_snoc {K : PySem.W.Frag} {H : Hp} {x : V} {d : PyData} (h : Dp K H x d) : ∀ {xs : List V} {ds : List PyData}, DpAll K H xs ds → DpAll K H (xs ++ [x]) (ds ++ [d])
  | _, _, .nil => .cons h .nil
  | _, _, .cons a r => .cons a (dpAll_snoc h r)
theorem dpAll_strs {K : PySem.W.Frag} {H : Hp} : ∀ zs : List Str, DpAll K H (zs.map V.str) (zs.map PyData.str)
  | [] => .nil
  | z :: zs => .cons (.str z) (dpAll_strs zs)
theorem dpAll_strs_inv {K : PySem.W.Frag} {H : Hp} : ∀ {xs : List V} {zs : List Str}, DpAll K H xs (zs.map PyData.str) → xs = zs.map V.str
  | _, [], .nil => rfl
  | _, z :: zs, .cons h r => by rw [dp_str h, dpAll_strs_inv r]; rfl
theorem dpAll_ints_inv {K : PySem.W.Frag} {H : Hp} : ∀ {xs : List V} {zs : List Int}, DpAll K H xs (zs.map PyData.int) → xs = zs.map V.int
  | _, [], .nil => rfl
  | _, z :: zs, .cons h r => by rw [dp_int h, dpAll_ints_inv r]; rfl
/-! ### what stands at tuples and lists alone stays, whatever becomes of the jar: data of tuples -/
/-- no list within -/
inductive NoL : PyData → Prop
  | non : NoL .none
  | bl (b : Bool) : NoL (.bool b)
  | int (i : Int) : NoL (.int i)
  | str (z : Str) : NoL (.str z)
  | tup {ds : List PyData} : (∀ d ∈ ds, NoL d) → NoL (.tuple ds)
mutual
theorem dpExb {K : PySem.W.Frag} {b : Addr} {H H' : Hp} {xs0 : List V} (hb : H b = some (.lst xs0)) (e : Exb b H H') : ∀ {v : V} {d : PyData}, NoL d → Dp K H v d → Dp K H' v d
  | _, _, _, .non => .non
  | _, _, _, .bl b => .bl b
  | _, _, _, .int i => .int i
  | _, _, _, .str x => .str x
  | _, _, n, .lst _ _ => nomatch n
  | _, _, .tup n, .tup (a := a) h r => .tup (by
      rcases h with (h | ⟨o, h⟩) | h
      · exact .inl (.inl (e _ _ (fun z => by rw [z, hb] at h; cases h) h))
      · exact .inl (.inr ⟨o, e _ _ (fun z => by rw [z, hb] at h; cases h) h⟩)
      · exact .inr h) (dpExbAll hb e n r)
theorem dpExbAll {K : PySem.W.Frag} {b : Addr} {H H' : Hp} {xs0 : List V} (hb : H b = some (.lst xs0)) (e : Exb b H H') : ∀ {vs : List V} {ds : List PyData}, (∀ d ∈ ds, NoL d) → DpAll K H vs ds → DpAll K H' vs ds
  | _, _, _, .nil => .nil
  | _, _, n, .cons h r => .cons (dpExb hb e (n _ List.mem_cons_self) h) (dpExbAll hb e (fun d hd => n d (List.mem_cons_of_mem _ hd)) r)
end
end HG

namespace LJ
open PySem PySem.Spec PyProof.Rows L2 GuL HG
/-! ### the text -/
def topS (i : Nat) : Stmt := PySem.Challenge.pw_switchstages_k03_whole_fields_read_and_w.main.body.getD i (.Pass ⟨0, 0, 0, 0⟩)
abbrev sJar : Stmt := topS 34
abbrev sDip : Stmt := topS 35
abbrev sOne : Stmt := topS 36
structure Blt (mg : Str → Option Value) : Prop where
  int : mg "int" = none
  abs : mg "abs" = none
  len : mg "len" = none
  divmod : mg "divmod" = none
  range : mg "range" = none
  tuple : mg "tuple" = none
  repr : mg "repr" = none
  all : mg "all" = none
  max : mg "max" = none
  min : mg "min" = none
  sum : mg "sum" = none
  zip : mg "zip" = none
  str : mg "str" = none
  list : mg "list" = none
  set : mg "set" = none
  isi : mg "isinstance" = none
  bool : mg "bool" = none
  reversed : mg "reversed" = none
/-- the jar -/
def bw (o m c : Int) : HO := .lst [.int o, .int m, .int c]
section
variable {P : Program} {w : World} {K : PySem.W.Frag} {mg : Str → Option Value} {base : Heap}
/-! ### the jar -/
def spJar (K : PySem.W.Frag) : Sp := fun vs H Q _ => ∃ (a : Addr) (ns : List Int) (t : Int), vs = [.ref a, .int t] ∧ SqL K H a (ns.map V.int) ∧ ns.length ≤ 63 ∧ 0 ≤ t ∧
  ∀ H' p o m, Same H H' → H p = none → H' p = some (bw o m 0) → 0 ≤ o → Q (.ref p) H'
theorem scJar : FnScope ["_law_script", "_law_turn", "_law_mixed", "_law_cell", "_law_own"] ["_law_script", "_law_turn"] (defScope sJar) := ⟨rfl, rfl, rfl, by decide +kernel, rfl, by decide +kernel, by decide +kernel⟩
theorem ok_jar {f : Addr} {fd : FuncData} (F : Fun K "_law_jar" "_law_jar" sJar f fd) (B : Blt mg) : FnOk P w K mg base CX0 1 f fd ["_law_script", "_law_turn"] (spJar K) := by
  refine F.ok scJar (fun vs H Q E h => ?_) (fun cdv A outer s H vs Q E hr h => ?_)
  · obtain ⟨a, ns, t, rfl, _⟩ := h
    rfl
  · obtain ⟨a, ns, t, rfl, hS, hlen, ht, k⟩ := h
    refine ⟨_, pss_cons (ps_set (i := 2) scJar.nd rfl (.inl rfl) (pe_op op_add pe_int (pe_op op_mul pe_int (pv 1))))
      (pss_cons (ps_for PassesOwn.never rfl (pi_list (pe_slice sl_list (pv 0) po_none (po_some pe_int))) (pg_name (i := 3) scJar.nd rfl (.inl rfl))
        (pss_one (ps_set (i := 2) scJar.nd rfl (.inl rfl) (pe_op op_mod (pe_callTy call_int1 (by rfl) B.int (by decide +kernel) (pa_cons (pe_op op_add (pe_op op_add (pe_op op_mul (pv 2) pe_int) (pe_op op_mul (pe_op op_mod (pe_callTy call_int1 (by rfl) B.int (by decide +kernel) (pa_cons (pv 3) pa_nil)) pe_int) pe_int)) pe_int) pa_nil)) pe_int))))
      (Evl.pss_cut (ps_set (i := 4) scJar.nd rfl (.inl rfl) (pe_ifExp (pt_cmpR op_lt (pv 1) (pe_callB call_len_seq (by rfl) B.len PySem.boot_len (pa_cons (pv 0) pa_nil)) (nomark _))
          (pe_callTy call_int1 (by rfl) B.int (by decide +kernel) (pa_cons (pe_ix ix_list (pv 0) (pv 1) (fun _ _ => rfl)) pa_nil)) pe_int))
      (pss_one (ps_ret (pe_lst (pa_cons (pe_ifExp (PW.pt (pw_or (pt_cmpR op_lt (pv 4) pe_int (nomark _)) (pw_or1 (pt_cmpR op_ge (pv 4) (pe_op op_pow pe_int pe_int) (nomark _)))))
          (pe_callB call_abs (by rfl) B.abs (by decide +kernel) (pa_cons (pv 4) pa_nil)) pe_int) (pa_cons (pv 2) (pa_cons pe_int pa_nil)))))))), ?_⟩
    refine ⟨_, rfl, _, _, rfl, rfl, .inl ⟨by decide, by decide⟩, _, _, rfl, rfl, ?_⟩
    refine ⟨_, rfl, 10, rfl, a, ns.map V.int, rfl, hS, fun c nc => ?_⟩
    have s1 : Same H (upd H c (.lst (cutV (ns.map V.int) none (some 10)))) := same_new nc
    refine ⟨c, rfl, ⟨_, SqL.of upd_same⟩, for_list (K := K) (a := c) (xs := cutV (ns.map V.int) none (some 10)) (fun i σ H' => ∃ (m : Int) (v : Option V), σ = [some (.ref a), some (.int t), some (.int m), v, none] ∧ Same H H' ∧ H' c = some (.lst (cutV (ns.map V.int) none (some 10))))
      ⟨_, none, rfl, s1, upd_same⟩ (fun i σ H' _ ⟨_, _, _, _, e⟩ => SqL.of e) ?_ ?_⟩
    · rintro i y σ H' hi ⟨m, v, rfl, s2, ec⟩
      obtain ⟨z, rfl⟩ := int_of_mem (cutV_mem (List.mem_of_getElem? hi))
      refine ⟨_, rfl, _, _, rfl, rfl, .inr ⟨by decide, by decide⟩, _, rfl, .inl ⟨_, rfl, _, _, rfl, rfl, (by show (0 : Int) < _; decide), _, _, rfl, rfl, .inr ⟨by decide, by decide⟩, _, _, rfl, rfl, _, _, rfl, rfl, .inl ⟨_, rfl, _, _, rfl, rfl, (by show (0 : Int) < _; decide), ?_⟩⟩⟩
      exact ⟨_, _, rfl, s2, ec⟩
    · rintro σ H' ⟨m, v, rfl, s2, ec⟩
      refine ⟨fun σ' H'' => ∃ z : Int, σ' = [some (.ref a), some (.int t), some (.int m), v, some (.int z)] ∧ H'' = H', ?_, ?_⟩
      · refine ⟨_, rfl, _, rfl, a, _, rfl, .inl (s2.seq hS), _, _, rfl, rfl, _, rfl, ite2 (fun c => ?_) (fun c => ?_)⟩
        · obtain ⟨z, hz⟩ := getI (ns := ns) ht (of_decide_eq_true c)
          exact ⟨_, rfl, _, rfl, a, _, t, _, rfl, rfl, s2.seq hS, hz, .inl ⟨_, rfl, ⟨_, rfl, rfl⟩⟩⟩
        · exact ⟨_, rfl, rfl⟩
      · rintro σ' H'' ⟨z, rfl, rfl⟩
        have fin : ∀ o : Int, 0 ≤ o → ∀ p, H'' p = none → Q (.ref p) (upd H'' p (bw o m 0)) := fun o ho p hp => k _ p o m (s2.trans (same_new hp)) (s2.free hp) upd_same ho
        refine ⟨_, rfl, _, _, rfl, rfl, _, rfl, ite2 (fun c => ?_) (fun c => ?_)⟩
        · refine ⟨_, rfl, z, rfl, _, rfl, by show 3 ≤ sizeLine; decide, fin _ ?_⟩
          split <;> omega
        · refine ⟨_, rfl, _, _, rfl, rfl, ⟨by decide, by decide, by decide⟩, _, _, rfl, rfl, _, rfl, ite2 (fun c => ?_) (fun c => ?_)⟩
          · refine ⟨_, rfl, z, rfl, _, rfl, by show 3 ≤ sizeLine; decide, fin _ ?_⟩
            split <;> omega
          · exact ⟨_, rfl, by show 3 ≤ sizeLine; decide, fin _ (by decide)⟩
/-! ### a draw -/
theorem scDip : FnScope ["_law_jar_here", "_law_top", "_law_figure", "_law_stirred"] ["_law_jar_here", "_law_top"] (defScope sDip) := ⟨rfl, rfl, rfl, by decide +kernel, rfl, by decide +kernel, by decide +kernel⟩
def spDip : Sp := fun vs H Q _ => ∃ (b : Addr) (t o m c : Int), vs = [.ref b, .int t] ∧ H b = some (bw o m c) ∧ 0 ≤ o ∧ 0 < t ∧ t < 100000 ∧
  ∀ H' r o' m' c', Exb b H H' → H' b = some (bw o' m' c') → 0 ≤ o' → 0 ≤ r → r < t → Q (.int r) H'
theorem ok_dip {f : Addr} {fd : FuncData} (F : Fun K "_law_dip" "_law_dip" sDip f fd) (B : Blt mg) : FnOk P w K mg base CX0 1 f fd ["_law_jar_here", "_law_top"] spDip := by
  refine F.ok scDip (fun vs H Q E h => ?_) (fun cdv A outer s H vs Q E hr h => ?_)
  · obtain ⟨b, t, o, m, c, rfl, _⟩ := h
    rfl
  · obtain ⟨b, t, o, m, c, rfl, hb, ho, ht, ht2, k⟩ := h
    refine ⟨_, pss_cons (ps_if (pt_cmpR op_gt (pe_ix ix_list (pv 0) pe_int (fun _ _ => rfl)) pe_int (nomark _))
        (pss_cons (ps_asg (pe_callB call_divmod (by rfl) B.divmod (by decide +kernel) (pa_cons (pe_ix ix_list (pv 0) pe_int (fun _ _ => rfl)) (pa_cons (pv 1) pa_nil)))
            (pg_tup (by rfl) (pgs_cons (pg_sub (pv 0) pe_int set_list) (pgs_cons (pg_name (i := 2) scDip.nd rfl (.inl rfl)) pgs_nil))))
          (pss_one (ps_ret (pv 2)))) pss_nil)
      (pss_cons (ps_asg (pe_op op_add (pe_ix ix_list (pv 0) pe_int (fun _ _ => rfl)) pe_int) (pg_sub (pv 0) pe_int set_list))
      (pss_cons (ps_set (i := 3) scDip.nd rfl (.inl rfl) (pe_op op_mod (pe_callTy call_int1 (by rfl) B.int (by decide +kernel) (pa_cons (pe_op op_add (pe_ix ix_list (pv 0) pe_int (fun _ _ => rfl)) (pe_op op_mul pe_int (pe_ix ix_list (pv 0) pe_int (fun _ _ => rfl)))) pa_nil)) pe_int))
      (pss_cons (ps_asg (pe_op op_mod (pe_callTy call_int1 (by rfl) B.int (by decide +kernel) (pa_cons (pe_op op_add (pe_op op_mul (pv 3) (pe_op op_add (pe_op op_mod (pe_callTy call_int1 (by rfl) B.int (by decide +kernel) (pa_cons (pv 3) pa_nil)) pe_int) pe_int))
            (pe_op op_mul pe_int (pe_ix ix_list (pv 0) pe_int (fun _ _ => rfl)))) pa_nil)) pe_int) (pg_sub (pv 0) pe_int set_list))
      (pss_one (ps_ret (pe_op op_mod (pe_callTy call_int1 (by rfl) B.int (by decide +kernel) (pa_cons (pe_op op_fdiv (pe_ix ix_list (pv 0) pe_int (fun _ _ => rfl)) pe_int) pa_nil)) (pv 1))))))), ?_⟩
    refine ⟨_, rfl, b, _, 0, _, rfl, rfl, SqL.of hb, atI_nat (j := 0) rfl, _, _, rfl, rfl, _, rfl, ite2 (fun c1 => ?_) (fun c1 => ?_)⟩
    · have o1 : 0 < o := of_decide_eq_true c1
      refine ⟨_, rfl, b, _, 0, _, rfl, rfl, SqL.of hb, atI_nat (j := 0) rfl, _, rfl, _, _, rfl, ⟨ht, by omega⟩, fun p hp => ?_⟩
      have npb : b ≠ p := ne_of_none hb hp
      refine ⟨p, _, rfl, SqT.of upd_same, rfl, _, _, rfl, _, rfl, b, _, 0, 0, rfl, rfl, (by rw [upd_ne npb]; exact hb), rfl, _, _, rfl, rfl, ?_⟩
      refine ⟨_, rfl, ?_⟩
      refine k _ _ _ _ _ ((Exb.of (same_new hp)).trans Exb.put) upd_same (Int.ediv_nonneg ho (Int.le_of_lt ht)) (Int.emod_nonneg _ (by omega)) (Int.emod_lt_of_pos _ ht)
    · refine ⟨_, rfl, b, _, 2, _, rfl, rfl, SqL.of hb, atI_nat (j := 2) rfl, _, _, rfl, rfl, _, rfl, b, _, 2, 2, rfl, rfl, hb, rfl, ?_⟩
      refine ⟨_, rfl, b, _, 1, _, rfl, rfl, SqL.of upd_same, atI_nat (j := 1) rfl, _, rfl, b, _, 2, _, rfl, rfl, SqL.of upd_same, atI_nat (j := 2) rfl, _, _, rfl, rfl, .inl ⟨by decide, by decide⟩, _, _, rfl, rfl, .inl ⟨_, rfl, _, _, rfl, rfl, (by show (0 : Int) < _; decide), ?_⟩⟩
      refine ⟨_, rfl, _, rfl, .inl ⟨_, rfl, _, _, rfl, rfl, (by show (0 : Int) < _; decide), _, _, rfl, rfl, _, _, rfl, rfl, .inl ?_, ?_⟩⟩
      · refine ⟨?_, ?_⟩
        · have := Int.emod_nonneg (m + 28657 * (c + 1)) (show (2147483399 : Int) ≠ 0 by decide)
          omega
        · have := Int.emod_lt_of_pos (m + 28657 * (c + 1)) (show (0 : Int) < 2147483399 by decide)
          omega
      · refine ⟨_, rfl, b, _, 2, _, rfl, rfl, SqL.of upd_same, atI_nat (j := 2) rfl, _, _, rfl, rfl, .inl ⟨by decide, by decide⟩, _, _, rfl, rfl, .inl ⟨_, rfl, _, _, rfl, rfl, (by show (0 : Int) < _; decide), ?_⟩⟩
        refine ⟨_, rfl, b, _, 1, 1, rfl, rfl, upd_same, rfl, ?_⟩
        refine ⟨_, rfl, b, _, 1, _, rfl, rfl, SqL.of upd_same, atI_nat (j := 1) rfl, _, _, rfl, rfl, ⟨by decide, by decide⟩, .inl ⟨_, rfl, _, rfl, _, _, rfl, rfl, ht, ?_⟩⟩
        exact k _ _ _ _ _ (Exb.put.trans Exb.put) upd_same ho (Int.emod_nonneg _ (by omega)) (Int.emod_lt_of_pos _ ht)
/-! ### one of a text's signs, of a tuple's items, of a list's -/
theorem scOne : FnScope ["_law_jar_here", "_law_some"] ["_law_jar_here", "_law_some"] (defScope sOne) := ⟨rfl, rfl, rfl, by decide +kernel, rfl, by decide +kernel, by decide +kernel⟩
def spOne (K : PySem.W.Frag) : Sp := fun vs H Q _ => ∃ (b : Addr) (row : V) (o m c : Int), vs = [.ref b, row] ∧ H b = some (bw o m c) ∧ 0 ≤ o ∧
  ((∃ z : Str, row = .str z ∧ 0 < z.length ∧ z.length < 100000 ∧ ∀ H' x o' m' c', Exb b H H' → H' b = some (bw o' m' c') → 0 ≤ o' → x ∈ z.cps.toList → Q (.str ⟨#[x]⟩) H') ∨
    (∃ t xs, row = .ref t ∧ t ≠ b ∧ SqT K H t xs ∧ 0 < xs.length ∧ xs.length < 100000 ∧ ∀ H' v o' m' c', Exb b H H' → H' b = some (bw o' m' c') → 0 ≤ o' → v ∈ xs → Q v H') ∨
    ∃ t xs, row = .ref t ∧ t ≠ b ∧ H t = some (.lst xs) ∧ 0 < xs.length ∧ xs.length < 100000 ∧ ∀ H' v o' m' c', Exb b H H' → H' b = some (bw o' m' c') → 0 ≤ o' → v ∈ xs → Q v H')
theorem ok_one {f fD : Addr} {fd fdD : FuncData} (F : Fun K "_law_one_of" "_law_one_of" sOne f fd) (B : Blt mg) (FD : Fun K "_law_dip" "_law_dip" sDip fD fdD) (bD : Binds K fdD ["_law_jar_here", "_law_top"] []) (gD : mg "_law_dip" = some (.ref fD)) :
    FnOk P w K mg base CX0 2 f fd ["_law_jar_here", "_law_some"] (spOne K) := by
  have GD : FnOk P w K mg base CX0 1 fD fdD ["_law_jar_here", "_law_top"] spDip := ok_dip FD B
  refine F.ok scOne (fun vs H Q E h => ?_) (fun cdv A outer s H vs Q E hr h => ?_)
  · obtain ⟨b, row, o, m, c, rfl, _⟩ := h
    rfl
  · obtain ⟨b, row, o, m, c, rfl, hb, ho, h⟩ := h
    refine ⟨_, pss_one (ps_ret (pe_ix ix_seq (pv 1) (pe_call GD hr (by rfl) gD FD.kp bD .nil pass0 (pa_cons (pv 0) (pa_cons (pe_callB call_len (by rfl) B.len PySem.boot_len (pa_cons (pv 1) pa_nil)) pa_nil))) (fun _ _ => rfl))), ?_⟩
    rcases h with ⟨z, rfl, z0, z1, k⟩ | ⟨t, xs, rfl, nt, ht, z0, z1, k⟩ | ⟨t, xs, rfl, nt, ht, z0, z1, k⟩
    · refine ⟨_, rfl, _, rfl, _, rfl, _, z.length, rfl, ⟨Nat.le_of_lt (Nat.lt_of_lt_of_le z1 (by decide)), rfl⟩, b, _, o, m, c, rfl, hb, ho, by omega, by omega, fun H' r o' m' c' e eb ho' r0 r1 => ?_⟩
      obtain ⟨j, rfl⟩ := Int.eq_ofNat_of_zero_le r0
      have hj : j < z.cps.toList.length := by
        have e1 : z.cps.toList.length = z.length := by simp [Str.length]
        omega
      refine .inr (.inr ⟨z, _, z.cps.toList[j], rfl, rfl, Nat.le_of_lt (Nat.lt_of_lt_of_le z1 (by decide)), ?_, k _ _ _ _ _ e eb ho' (List.getElem_mem hj)⟩)
      exact atI_nat (List.getElem?_eq_getElem hj)
    · refine ⟨_, rfl, _, rfl, _, rfl, _, xs.length, rfl, .inr ⟨xs, ht, rfl⟩, b, _, o, m, c, rfl, hb, ho, by omega, by omega, fun H' r o' m' c' e eb ho' r0 r1 => ?_⟩
      obtain ⟨j, rfl⟩ := Int.eq_ofNat_of_zero_le r0
      have hj : j < xs.length := by omega
      exact .inr (.inl ⟨t, xs, _, xs[j], rfl, rfl, sqT_exb e nt ht, atI_nat (List.getElem?_eq_getElem hj), k _ _ _ _ _ e eb ho' (List.getElem_mem hj)⟩)
    · refine ⟨_, rfl, _, rfl, _, rfl, _, xs.length, rfl, .inl ⟨xs, SqL.of ht, rfl⟩, b, _, o, m, c, rfl, hb, ho, by omega, by omega, fun H' r o' m' c' e eb ho' r0 r1 => ?_⟩
      obtain ⟨j, rfl⟩ := Int.eq_ofNat_of_zero_le r0
      have hj : j < xs.length := by omega
      exact .inl ⟨t, xs, _, xs[j], rfl, rfl, SqL.of (e _ _ nt ht), atI_nat (List.getElem?_eq_getElem hj), k _ _ _ _ _ e eb ho' (List.getElem_mem hj)⟩
end
end LJ

namespace LJ
open PySem PySem.Spec PyProof.Rows L2 GuL HG
/-! ### names -/
def signs : List Nat := (Str.ofString "abcdefghijklmnopqrstuvwxyz0123456789_").cps.toList
def letters : List Nat := (Str.ofString "abcdefghijklmnopqrstuvwxyz").cps.toList
def keptN : List Str := "header" :: "local" :: "state" :: "read" :: "accept" :: "refuse" :: "go" :: "by" :: "case" :: "else" :: "order" :: "register" :: "action" :: "param" :: "table" :: "key" :: "exact" :: "prefix" :: "mask" :: "range" :: "default" :: "room" :: "control" :: "end" :: "set" :: "put" :: "strike" :: "touch" :: "add" :: "greatest" :: "least" :: "or" :: "into" :: "apply" :: "if" :: "then" :: "not" :: "both" :: "and" :: "either" :: "held" :: "in" :: "out" :: "gone" :: "entry" :: "to" :: []
def nameShB (z : Str) : Bool := decide (1 ≤ z.cps.toList.length) && (decide (z.cps.toList.length ≤ 12) && (z.cps.toList.all (fun c => decide (c ∈ signs)) && (z.cps.toList.take 1).all (fun c => decide (c ∈ letters))))
def NameSh (z : Str) : Prop := nameShB z = true
structure NameOk (z : Str) : Prop where
  sh : NameSh z
  nk : z ∉ keptN
theorem sh_len {z : Str} (h : NameSh z) : 1 ≤ z.cps.toList.length ∧ z.cps.toList.length ≤ 12 := by
  obtain ⟨h1, h⟩ := Bool.and_eq_true_iff.mp h
  obtain ⟨h2, h⟩ := Bool.and_eq_true_iff.mp h
  exact ⟨of_decide_eq_true h1, of_decide_eq_true h2⟩
theorem sh_signs {z : Str} (h : NameSh z) : ∀ c ∈ z.cps.toList, c ∈ signs := by
  obtain ⟨h1, h⟩ := Bool.and_eq_true_iff.mp h
  obtain ⟨h2, h⟩ := Bool.and_eq_true_iff.mp h
  obtain ⟨h3, h⟩ := Bool.and_eq_true_iff.mp h
  exact fun c hc => of_decide_eq_true (List.all_eq_true.mp h3 c hc)
theorem sh_first {z : Str} (h : NameSh z) : ∀ c ∈ z.cps.toList.take 1, c ∈ letters := by
  obtain ⟨h1, h⟩ := Bool.and_eq_true_iff.mp h
  obtain ⟨h2, h⟩ := Bool.and_eq_true_iff.mp h
  obtain ⟨h3, h⟩ := Bool.and_eq_true_iff.mp h
  exact fun c hc => of_decide_eq_true (List.all_eq_true.mp h c hc)
theorem str_app (z y : Str) : (z ++ y).cps.toList = z.cps.toList ++ y.cps.toList := by
  show (z.cps ++ y.cps).toList = _
  exact Array.toList_append
theorem sh_snoc {z : Str} {x : Nat} (h : NameSh z) (hl : z.cps.toList.length ≤ 11) (hx : x ∈ signs) : NameSh (z ++ ⟨#[x]⟩) := by
  have e : (z ++ (⟨#[x]⟩ : Str)).cps.toList = z.cps.toList ++ [x] := str_app z ⟨#[x]⟩
  have h0 := sh_len h
  unfold NameSh nameShB
  rw [e]
  refine Bool.and_eq_true_iff.mpr ⟨decide_eq_true (by rw [List.length_append]; omega), Bool.and_eq_true_iff.mpr ⟨decide_eq_true (by rw [List.length_append]; show _ + 1 ≤ 12; omega), Bool.and_eq_true_iff.mpr ⟨?_, ?_⟩⟩⟩
  · refine List.all_eq_true.mpr fun c hc => decide_eq_true ?_
    rcases List.mem_append.mp hc with hc | hc
    · exact sh_signs h c hc
    · rw [List.mem_singleton.mp hc]
      exact hx
  · rw [List.take_append_of_le_length h0.1]
    exact List.all_eq_true.mpr fun c hc => decide_eq_true (sh_first h c hc)
theorem sign_ok : ∀ c ∈ (Str.ofString "abyz059_").cps.toList, c ∈ signs := by decide +kernel
def qL : List Str := (List.range 60).map fun (k : Nat) => Str.ofString "q" ++ Str.ofString (toString (k : Int))
theorem qL_sh : qL.all nameShB = true := by decide +kernel
theorem qL_nk : qL.all (fun z => decide (z ∉ keptN)) = true := by decide +kernel
theorem qL_nd : qL.Nodup := by decide +kernel
theorem pigeon {α : Type} [DecidableEq α] : ∀ (L ts : List α), L.Nodup → ts.length < L.length → ∃ z, z ∈ L ∧ z ∉ ts
  | [], ts, _, h => by simp at h
  | x :: L, ts, hn, h => by
    by_cases hx : x ∈ ts
    · obtain ⟨n1, n2⟩ := List.nodup_cons.mp hn
      have hl : (ts.erase x).length < L.length := by
        rw [List.length_erase_of_mem hx]
        have := List.length_pos_of_mem hx
        rw [List.length_cons] at h
        omega
      obtain ⟨z, z1, z2⟩ := pigeon L (ts.erase x) n2 hl
      refine ⟨z, List.mem_cons_of_mem _ z1, fun q => z2 ?_⟩
      have ne : z ≠ x := fun e => n1 (e ▸ z1)
      exact (List.mem_erase_of_ne ne).mpr q
    · exact ⟨x, List.mem_cons_self, hx⟩
theorem inV_strs (z : Str) : ∀ ts : List Str, inV (.str z) (ts.map V.str) = decide (z ∈ ts)
  | [] => rfl
  | t :: ts => by
    have ih := inV_strs z ts
    unfold inV at ih ⊢
    rw [List.map_cons, List.any_cons, ih]
    show ((t == z) || decide (z ∈ ts)) = _
    by_cases e : t = z
    · subst e
      simp
    · have e2 : ¬ z = t := fun q => e q.symm
      have e3 : (t == z) = false := by simpa using e
      rw [e3, Bool.false_or]
      simp [e2]
def w11 : List Str := ["a", "b", "c", "x", "tag", "tage", "a1", "a_", "aa", "ab", "ttl"]
def w5 : List Str := ["a", "b", "m", "t", "z"]
theorem w11_sh : w11.all nameShB = true := by decide +kernel
theorem w5_sh : w5.all (fun z => nameShB z && decide (z.cps.toList.length ≤ 1)) = true := by decide +kernel
theorem mem_strs {L : List Str} {v : V} (h : v ∈ L.map V.str) : ∃ z, z ∈ L ∧ v = .str z := by
  obtain ⟨z, h1, h2⟩ := List.mem_map.mp h
  exact ⟨z, h1, h2.symm⟩
theorem w11_ok {z : Str} (h : z ∈ w11) : NameSh z := List.all_eq_true.mp w11_sh z h
theorem w5_ok {z : Str} (h : z ∈ w5) : NameSh z ∧ z.cps.toList.length ≤ 1 := by
  obtain ⟨h1, h2⟩ := Bool.and_eq_true_iff.mp (List.all_eq_true.mp w5_sh z h)
  exact ⟨h1, of_decide_eq_true h2⟩
theorem flatS (ys : List Str) : (ys.map V.str).all flatV = true := by
  rw [List.all_map]
  exact List.all_eq_true.mpr fun _ _ => rfl
theorem str_len (z : Str) : z.length = z.cps.toList.length := by simp [Str.length]
theorem log_lt {n : Nat} (h : n < 2 ^ 40) : n.log2 < 1920 := Nat.lt_trans (log_small h) (by decide)
theorem qL_at {i : Nat} (h : i < 60) : qL[i]? = some (Str.ofString "q" ++ Str.ofString (toString (i : Int))) := by
  unfold qL
  rw [List.getElem?_map, List.getElem?_range h]
  rfl
theorem qL_len : qL.length = 60 := by
  unfold qL
  rw [List.length_map, List.length_range]
theorem q_size : ∀ i, i < 60 → (Str.ofString "q").length + (Str.ofString (toString ((0 : Int) + (i : Nat)))).length ≤ sizeLine := by decide +kernel
end LJ

namespace LJ
open PySem PySem.Spec PyProof.Rows L2 GuL HG
abbrev sKept : Stmt := topS 37
abbrev sName : Stmt := topS 38
section
variable {P : Program} {w : World} {K : PySem.W.Frag} {mg : Str → Option Value} {base : Heap}
/-! ### the kept words -/
theorem scKept : FnScope ["_law_words_here"] [] (defScope sKept) := ⟨rfl, rfl, rfl, by decide +kernel, rfl, by decide +kernel, by decide +kernel⟩
def spKept : Sp := fun vs H Q _ => vs = [] ∧ ∀ H' p, Same H H' → H' p = some (.lst (keptN.map V.str)) → Q (.ref p) H'
theorem ok_kept {f : Addr} {fd : FuncData} (F : Fun K "_law_kept" "_law_kept" sKept f fd) : FnOk P w K mg base CX0 1 f fd [] spKept := by
  refine F.ok scKept (fun vs H Q E h => ?_) (fun cdv A outer s H vs Q E hr h => ?_)
  · obtain ⟨rfl, _⟩ := h
    rfl
  · obtain ⟨rfl, k⟩ := h
    refine ⟨_, pss_cons (ps_set (i := 0) scKept.nd rfl (.inl rfl) pe_str) (pss_cons (ps_set (i := 0) scKept.nd rfl (.inl rfl) (pe_op op_add_str (pv 0) pe_str))
      (pss_one (ps_ret (pe_bm PySem.F.plainAttrs_str PySem.F.slot_str_split PySem.F.type_str_split mt_split (pe_op op_add_str (pv 0) pe_str) (pa_cons pe_str pa_nil))))), ?_⟩
    refine ⟨_, rfl, _, _, rfl, rfl, by decide +kernel, _, rfl, _, _, rfl, rfl, by decide +kernel, ?_⟩
    refine ⟨rfl, _, _, rfl, rfl, by decide +kernel, by decide +kernel, fun p hp => ?_⟩
    have e : ∀ L : List Str, L = keptN → (upd H p (.lst (L.map V.str))) p = some (.lst (keptN.map V.str)) := fun L q => by
      rw [q]
      exact upd_same
    exact k _ p (same_new hp) (e _ (by decide +kernel))
/-! ### a name -/
theorem scName : FnScope ["_law_jar_here", "_law_taken", "_law_turn", "_law_word_here", "_law_more", "_law_k", "_law_each"] ["_law_jar_here", "_law_taken"] (defScope sName) := ⟨rfl, rfl, rfl, by decide +kernel, rfl, by decide +kernel, by decide +kernel⟩
def spName : Sp := fun vs H Q _ => ∃ (b t : Addr) (ts : List Str) (o m c : Int), vs = [.ref b, .ref t] ∧ H b = some (bw o m c) ∧ 0 ≤ o ∧ t ≠ b ∧ H t = some (.lst (ts.map V.str)) ∧ ts.length ≤ 12 ∧
  ∀ H' z o' m' c', Exb b H H' → H' b = some (bw o' m' c') → 0 ≤ o' → NameOk z → z ∉ ts → Q (.str z) H'
/-- the jar, and what else stands as before -/
structure Jr (b : Addr) (H H' : Hp) : Prop where
  e : Exb b H H'
  at_ : ∃ o m c, H' b = some (bw o m c) ∧ 0 ≤ o
theorem ok_name {f fD fO fK : Addr} {fd fdD fdO fdK : FuncData} (F : Fun K "_law_name" "_law_name" sName f fd) (B : Blt mg) (FD : Fun K "_law_dip" "_law_dip" sDip fD fdD) (bD : Binds K fdD ["_law_jar_here", "_law_top"] []) (gD : mg "_law_dip" = some (.ref fD))
    (FO : Fun K "_law_one_of" "_law_one_of" sOne fO fdO) (bO : Binds K fdO ["_law_jar_here", "_law_some"] []) (gO : mg "_law_one_of" = some (.ref fO)) (FK : Fun K "_law_kept" "_law_kept" sKept fK fdK) (bK : Binds K fdK [] []) (gK : mg "_law_kept" = some (.ref fK)) :
    FnOk P w K mg base CX0 3 f fd ["_law_jar_here", "_law_taken"] spName := by
  have GD : FnOk P w K mg base CX0 1 fD fdD ["_law_jar_here", "_law_top"] spDip := ok_dip FD B
  have GO : FnOk P w K mg base CX0 2 fO fdO ["_law_jar_here", "_law_some"] (spOne K) := ok_one FO B FD bD gD
  have GK : FnOk P w K mg base CX0 1 fK fdK [] spKept := ok_kept FK
  refine F.ok scName (fun vs H Q E h => ?_) (fun cdv A outer s H vs Q E hr h => ?_)
  · obtain ⟨b, t, ts, o, m, c, rfl, _⟩ := h
    rfl
  · obtain ⟨b, t, ts, o, m, c, rfl, hb, ho, nt, ht, hlen, k⟩ := h
    have hr1 : Room 1 _ := hr.mono (by decide)
    have hr2 : Room 2 _ := hr.mono (by decide)
    refine ⟨_, pss_cons (ps_for PassesOwn.never rfl (pi_range1 (by rfl) B.range (pa_cons pe_int pa_nil)) (pg_name (i := 2) scName.nd rfl (.inl rfl))
        (pss_cons (ps_set (i := 3) scName.nd rfl (.inl rfl) (pe_call GO hr2 (by rfl) gO FO.kp bO .nil pass0 (pa_cons (pv 0) (pa_cons (pe_lst (pa_cons pe_str (pa_cons pe_str (pa_cons pe_str (pa_cons pe_str (pa_cons pe_str (pa_cons pe_str (pa_cons pe_str (pa_cons pe_str (pa_cons pe_str (pa_cons pe_str (pa_cons pe_str pa_nil)))))))))))) pa_nil))))
        (Evl.pss_cut (ps_if (pt_cmpR op_eq (pe_call GD hr1 (by rfl) gD FD.kp bD .nil pass0 (pa_cons (pv 0) (pa_cons pe_int pa_nil))) pe_int (nomark _))
            (pss_cons (ps_set (i := 3) scName.nd rfl (.inl rfl) (pe_call GO hr2 (by rfl) gO FO.kp bO .nil pass0 (pa_cons (pv 0) (pa_cons (pe_lst (pa_cons pe_str (pa_cons pe_str (pa_cons pe_str (pa_cons pe_str (pa_cons pe_str pa_nil)))))) pa_nil))))
            (pss_one (ps_for PassesOwn.never rfl (pi_range1 (by rfl) B.range (pa_cons (pe_call GD hr1 (by rfl) gD FD.kp bD .nil pass0 (pa_cons (pv 0) (pa_cons pe_int pa_nil))) pa_nil)) (pg_name (i := 4) scName.nd rfl (.inl rfl))
              (pss_one (ps_set (i := 3) scName.nd rfl (.inl rfl) (pe_op op_add_str (pv 3) (pe_call GO hr2 (by rfl) gO FO.kp bO .nil pass0 (pa_cons (pv 0) (pa_cons pe_str pa_nil))))))))) pss_nil)
        (pss_one (ps_if (PW.pt (pw_and (pt_cmpR op_notIn_seq (pv 3) (pv 1) (by rfl)) (pw_and1 (pt_cmpR op_notIn_seq (pv 3) (pe_call0 GK hr1 (by rfl) gK FK.kp bK .nil pass0) (by rfl))))) (pss_one (ps_ret (pv 3))) pss_nil)))))
      (pss_one (ps_ret (pe_ix ix_list (pe_lc (own := [("_law_each", 6)]) (g := gName 6) (tt := tTest (tOp (rIn K true) (tVar 6) (tVar 1))) rfl scName.nd
          (pi_list (pe_lc (own := [("_law_k", 5)]) (g := gName 5) (tt := tYes) rfl scName.nd (pi_range1 (by rfl) B.range (pa_cons pe_int pa_nil)) (blkOk_by (N := ["_law_jar_here", "_law_taken", "_law_turn", "_law_word_here", "_law_more", "_law_k", "_law_each"]) (sc := defScope sName) (by decide +kernel))
            (fun _ _ _ _ _ => pg_name (i := 5) scName.nd rfl (Or.inl rfl)) (fun _ _ _ _ _ => pts_nil) (fun _ _ _ _ _ => pe_op op_add_str pe_str (pe_callTy call_str_int (by rfl) B.str (by decide +kernel) (pa_cons (pv 5) pa_nil)))))
          (blkOk_by (N := ["_law_jar_here", "_law_taken", "_law_turn", "_law_word_here", "_law_more", "_law_k", "_law_each"]) (sc := defScope sName) (by decide +kernel)) (fun _ _ _ _ _ => pg_name (i := 6) scName.nd rfl (Or.inl rfl)) (fun _ _ _ _ _ => pts_one (pt_cmpR op_notIn_seq (pv 6) (pv 1) (by rfl))) (fun _ _ _ _ _ => pv 6)) pe_int (fun _ _ => rfl)))), ?_⟩
    refine ⟨12, rfl, by decide, by decide, for_range (lo := 0) (n := 12) (fun i σ H' => ∃ v2 v3 v4 : Option V, σ = [some (.ref b), some (.ref t), v2, v3, v4, none, none] ∧ Jr b H H') ⟨_, _, _, rfl, Exb.refl _ _, o, m, c, hb, ho⟩ ?_ ?_⟩
    · rintro i σ H1 hi ⟨v2, v3, v4, rfl, e1, o1, m1, c1, hb1, ho1⟩
      refine ⟨_, rfl, by show 11 ≤ sizeLine; decide, fun p hp => ?_⟩
      have np : p ≠ b := fun z => by
        rw [z, hb1] at hp
        cases hp
      refine ⟨b, .ref p, o1, m1, c1, rfl, by rw [upd_ne (Ne.symm np)]; exact hb1, ho1, .inr (.inr ⟨p, _, rfl, np, upd_same, by show 0 < 11; decide, by show 11 < 100000; decide, fun H2 v o2 m2 c2 e2 hb2 ho2 hv => ?_⟩)⟩
      obtain ⟨z0, hz0, rfl⟩ := mem_strs (L := w11) hv
      have j2 : Exb b H H2 := (e1.trans (Exb.of (same_new hp))).trans e2
      refine ⟨fun σ' H' => ∃ (z : Str) (v4 : Option V), σ' = [some (.ref b), some (.ref t), some (.int (0 + (i : Int))), some (.str z), v4, none, none] ∧ Jr b H H' ∧ NameSh z, ?_, ?_⟩
      · refine ⟨_, rfl, b, 3, o2, m2, c2, rfl, hb2, ho2, by decide, by decide, fun H3 r o3 m3 c3 e3 hb3 ho3 r0 r1 => ⟨rfl, _, rfl, ite2 (fun _ => ?_) (fun _ => ?_)⟩⟩
        · refine ⟨_, rfl, by show 5 ≤ sizeLine; decide, fun p5 hp5 => ?_⟩
          have np5 : p5 ≠ b := fun z => by
            rw [z, hb3] at hp5
            cases hp5
          refine ⟨b, .ref p5, o3, m3, c3, rfl, by rw [upd_ne (Ne.symm np5)]; exact hb3, ho3, .inr (.inr ⟨p5, _, rfl, np5, upd_same, by show 0 < 5; decide, by show 5 < 100000; decide, fun H4 v o4 m4 c4 e4 hb4 ho4 hv => ?_⟩)⟩
          obtain ⟨z5, hz5, rfl⟩ := mem_strs (L := w5) hv
          have j4 : Exb b H H4 := ((j2.trans e3).trans (Exb.of (same_new hp5))).trans e4
          refine ⟨_, rfl, b, 12, o4, m4, c4, rfl, hb4, ho4, by decide, by decide, fun H5 r5 o5 m5 c5 e5 hb5 ho5 r50 r51 => ⟨r5, rfl, by omega, by omega, for_range (lo := 0) (n := r5.toNat)
            (fun j σ H' => ∃ (z : Str) (v4 : Option V), σ = [some (.ref b), some (.ref t), some (.int (0 + (i : Int))), some (.str z), v4, none, none] ∧ Jr b H H' ∧ NameSh z ∧ z.cps.toList.length ≤ 1 + j)
            ⟨z5, _, rfl, ⟨j4.trans e5, o5, m5, c5, hb5, ho5⟩, (w5_ok hz5).1, (w5_ok hz5).2⟩ ?_ ?_⟩⟩
          · rintro j σ H6 hj ⟨z, v4, rfl, ⟨e6, o6, m6, c6, hb6, ho6⟩, hz, hzl⟩
            refine ⟨_, rfl, _, rfl, b, _, o6, m6, c6, rfl, hb6, ho6, .inl ⟨_, rfl, by decide +kernel, by decide +kernel, fun H7 x o7 m7 c7 e7 hb7 ho7 hx => ?_⟩⟩
            have l1 : z.length = z.cps.toList.length := str_len z
            refine ⟨_, _, rfl, rfl, ?_, z ++ ⟨#[x]⟩, _, rfl, ⟨e6.trans e7, o7, m7, c7, hb7, ho7⟩, sh_snoc hz (by omega) (sign_ok x hx), ?_⟩
            · show z.length + 1 ≤ sizeLine
              have := sh_len hz
              exact Nat.le_of_lt (small1000 (by omega))
            · rw [str_app, List.length_append]
              show _ + 1 ≤ _
              omega
          · rintro σ H6 ⟨z, v4, rfl, J, hz, _⟩
            exact ⟨z, v4, rfl, J, hz⟩
        · exact ⟨z0, _, rfl, ⟨j2.trans e3, o3, m3, c3, hb3, ho3⟩, w11_ok hz0⟩
      · rintro σ' H3 ⟨z, v4, rfl, ⟨e3, o3, m3, c3, hb3, ho3⟩, hz⟩
        have ht3 : H3 t = some (.lst (ts.map V.str)) := e3 _ _ nt ht
        refine ⟨_, rfl, _, rfl, t, _, rfl, .inl (SqL.of ht3), rfl, flatS _, !inV (.str z) (ts.map V.str), rfl, ?_⟩
        rw [inV_strs]
        by_cases hzt : z ∈ ts
        · rw [decide_eq_true hzt]
          exact iteF (iteF ⟨_, _, _, rfl, e3, o3, m3, c3, hb3, ho3⟩)
        · rw [decide_eq_false hzt]
          refine iteT ⟨_, rfl, rfl, fun H4 p4 s4 hp4 => ⟨p4, _, rfl, .inl (SqL.of hp4), rfl, flatS _, !inV (.str z) (keptN.map V.str), rfl, ?_⟩⟩
          rw [inV_strs]
          by_cases hzk : z ∈ keptN
          · rw [decide_eq_true hzk]
            exact iteF ⟨_, _, _, rfl, e3.trans (Exb.of s4), o3, m3, c3, s4 _ _ hb3, ho3⟩
          · rw [decide_eq_false hzk]
            exact iteT ⟨_, rfl, k _ _ _ _ _ (e3.trans (Exb.of s4)) (s4 _ _ hb3) ho3 ⟨hz, hzk⟩ hzt⟩
    · rintro σ H1 ⟨v2, v3, v4, rfl, e1, o1, m1, c1, hb1, ho1⟩
      have ht1 : H1 t = some (.lst (ts.map V.str)) := e1 _ _ nt ht
      refine ⟨60, rfl, by decide, by decide, fun D hD => ?_⟩
      refine lc_range (lo := 0) (n := 60) (fun i H' => Same H1 H' ∧ H' D = some (.lst ((qL.take i).map V.str))) ⟨same_new hD, upd_same⟩ ?_ ?_
      · rintro i H2 hi ⟨s2, f2⟩
        refine ⟨rfl, _, rfl, _, rfl, ?_, _, _, rfl, rfl, q_size i hi, (qL.take i).map V.str, f2, ?_, fun x u e => ?_, ?_⟩
        · exact log_lt (by omega)
        · rw [List.length_map]
          exact small1000 (Nat.le_trans (List.length_take_le _ _) (by omega))
        · rw [upd_ne (ne_of_none e hD)]
          exact s2 _ _ e
        · rw [upd_same, List.take_add_one, qL_at hi, List.map_append, Int.zero_add]
          rfl
      · rintro H2 ⟨s2, f2⟩
        have q60 : qL.take 60 = qL := List.take_of_length_le (by rw [qL_len]; exact Nat.le_refl _)
        rw [q60] at f2
        refine ⟨D, rfl, ⟨_, SqL.of f2⟩, fun D2 hD2 => ?_⟩
        refine lc_list (K := K) (a := D) (xs := qL.map V.str) (fun j H' => Same H2 H' ∧ H' D2 = some (.lst (((qL.take j).filter fun z => decide (z ∉ ts)).map V.str))) ⟨same_new hD2, upd_same⟩ (fun j H' _ q => SqL.of (q.1 _ _ f2)) ?_ ?_
        · rintro j x H3 hj ⟨s3, f3⟩
          have j60 : j < 60 := by
            have := (List.getElem?_eq_some_iff.mp hj).1
            rw [List.length_map] at this
            unfold qL at this
            rw [List.length_map, List.length_range] at this
            exact this
          obtain ⟨zj, hzj, rfl⟩ : ∃ zj, qL[j]? = some zj ∧ x = .str zj := by
            rw [List.getElem?_map] at hj
            obtain ⟨zj, h1, h2⟩ := Option.map_eq_some_iff.mp hj
            exact ⟨zj, h1, h2.symm⟩
          have ht3 : H3 t = some (.lst (ts.map V.str)) := s3 _ _ (s2 _ _ ht1)
          refine ⟨rfl, _, rfl, _, rfl, t, _, rfl, .inl (SqL.of ht3), rfl, flatS _, !inV (.str zj) (ts.map V.str), rfl, ?_⟩
          rw [inV_strs]
          by_cases hzt : zj ∈ ts
          · rw [decide_eq_true hzt]
            refine iteF ⟨s3, ?_⟩
            rw [List.take_add_one, hzj, List.filter_append, Option.toList_some, List.filter_cons, if_neg (by simp [hzt])]
            show _ = some (HO.lst ((_ ++ []).map V.str))
            rw [List.append_nil]
            exact f3
          · rw [decide_eq_false hzt]
            refine iteT ⟨_, rfl, _, f3, ?_, fun x u e => ?_, ?_⟩
            · rw [List.length_map]
              exact small1000 (Nat.le_trans (List.length_filter_le _ _) (Nat.le_trans (List.length_take_le _ _) (by omega)))
            · rw [upd_ne (ne_of_none e hD2)]
              exact s3 _ _ e
            · rw [upd_same, List.take_add_one, hzj, List.filter_append, Option.toList_some, List.filter_cons, if_pos (by simp [hzt]), List.map_append]
              rfl
        · rintro H3 ⟨s3, f3⟩
          have q60' : qL.take (qL.map V.str).length = qL := List.take_of_length_le (by rw [List.length_map]; exact Nat.le_refl _)
          rw [q60'] at f3
          obtain ⟨z, hz1, hz2⟩ := pigeon qL ts qL_nd (by unfold qL; rw [List.length_map, List.length_range]; omega)
          have hm : z ∈ qL.filter fun z => decide (z ∉ ts) := List.mem_filter.mpr ⟨hz1, decide_eq_true hz2⟩
          obtain ⟨y, ys, ey⟩ : ∃ y ys, (qL.filter fun z => decide (z ∉ ts)) = y :: ys := by
            cases e : qL.filter fun z => decide (z ∉ ts) with
            | nil =>
              rw [e] at hm
              cases hm
            | cons y ys => exact ⟨y, ys, rfl⟩
          have hy : y ∈ qL.filter fun z => decide (z ∉ ts) := by
            rw [ey]
            exact List.mem_cons_self
          obtain ⟨hy1, hy2⟩ := List.mem_filter.mp hy
          rw [ey] at f3
          refine ⟨D2, _, 0, .str y, rfl, rfl, SqL.of f3, atI_nat (j := 0) rfl, k _ _ o1 m1 c1 (e1.trans (Exb.of (s2.trans s3))) (s3 _ _ (s2 _ _ hb1)) ho1 ⟨List.all_eq_true.mp qL_sh y hy1, of_decide_eq_true (List.all_eq_true.mp qL_nk y hy1)⟩ (of_decide_eq_true hy2)⟩
end
end LJ

namespace LJ
open PySem PySem.Spec PyProof.Rows L2 GuL HG
/-! ### fields, headers -/
abbrev Fld := Str × Nat
abbrev Hdr := Str × List Fld
def encF (f : Fld) : PyData := .tuple [.str f.1, .int (f.2 : Int)]
def encFs (fs : List Fld) : PyData := .tuple (fs.map encF)
def encH (h : Hdr) : PyData := .tuple [.str h.1, encFs h.2]
def encHs (hs : List Hdr) : PyData := .tuple (hs.map encH)
def bitsOf (fs : List Fld) : Nat := (fs.map (·.2)).sum
structure FieldsOk (fs : List Fld) : Prop where
  l1 : 1 ≤ fs.length
  l2 : fs.length ≤ 12
  nm : ∀ f ∈ fs, NameOk f.1
  wd : ∀ f ∈ fs, 1 ≤ f.2 ∧ f.2 ≤ 32
  nd : (fs.map (·.1)).Nodup
  m8 : bitsOf fs % 8 = 0
  le : bitsOf fs ≤ 128
structure HeadersOk (hs : List Hdr) : Prop where
  len : hs.length ≤ 6
  nm : ∀ h ∈ hs, NameOk h.1
  fo : ∀ h ∈ hs, FieldsOk h.2
  nd : (hs.map (·.1)).Nodup
theorem noL_encF (f : Fld) : NoL (encF f) := .tup fun d hd => by
  simp only [List.mem_cons, List.not_mem_nil, or_false] at hd
  rcases hd with rfl | rfl
  · exact .str _
  · exact .int _
theorem noL_encFs (fs : List Fld) : NoL (encFs fs) := .tup fun d hd => by
  obtain ⟨f, _, rfl⟩ := List.mem_map.mp hd
  exact noL_encF f
theorem noL_encH (h : Hdr) : NoL (encH h) := .tup fun d hd => by
  simp only [List.mem_cons, List.not_mem_nil, or_false] at hd
  rcases hd with rfl | rfl
  · exact .str _
  · exact noL_encFs _
theorem noL_encHs (hs : List Hdr) : NoL (encHs hs) := .tup fun d hd => by
  obtain ⟨f, _, rfl⟩ := List.mem_map.mp hd
  exact noL_encH f
theorem noL_mapF (fs : List Fld) : ∀ d ∈ fs.map encF, NoL d := fun d hd => by
  obtain ⟨f, _, rfl⟩ := List.mem_map.mp hd
  exact noL_encF f
theorem noL_mapH (hs : List Hdr) : ∀ d ∈ hs.map encH, NoL d := fun d hd => by
  obtain ⟨f, _, rfl⟩ := List.mem_map.mp hd
  exact noL_encH f
/-- rows that begin with these texts -/
structure Rows (zs : List Str) (ds : List PyData) : Prop where
  len : ds.length = zs.length
  row : ∀ (i : Nat) (d : PyData), ds[i]? = some d → ∃ z e, zs[i]? = some z ∧ d = .tuple [.str z, e]
theorem rowsF (fs : List Fld) : Rows (fs.map (·.1)) (fs.map encF) := ⟨by simp, fun i d h => by
  rw [List.getElem?_map] at h
  obtain ⟨f, h1, h2⟩ := Option.map_eq_some_iff.mp h
  exact ⟨f.1, .int (f.2 : Int), by rw [List.getElem?_map, h1]; rfl, h2.symm⟩⟩
theorem rowsH (hs : List Hdr) : Rows (hs.map (·.1)) (hs.map encH) := ⟨by simp, fun i d h => by
  rw [List.getElem?_map] at h
  obtain ⟨f, h1, h2⟩ := Option.map_eq_some_iff.mp h
  exact ⟨f.1, encFs f.2, by rw [List.getElem?_map, h1]; rfl, h2.symm⟩⟩
theorem pair_dp {K : PySem.W.Frag} {H : Hp} {v : V} {z : Str} {e : PyData} (h : Dp K H v (.tuple [.str z, e])) : ∃ a y, v = .ref a ∧ SqT K H a [.str z, y] ∧ Dp K H y e := by
  obtain ⟨a, xs, rfl, h1, h2⟩ := dp_tup h
  cases h2 with
  | cons h3 h4 =>
    cases h4 with
    | cons h5 h6 =>
      cases h6
      rw [dp_str h3] at h1
      exact ⟨a, _, rfl, h1, h5⟩
/-- [a for a, b in found]: the texts that rows begin with -/
theorem lcFirst {K : PySem.W.Frag} {σ : L2.St} {H : Hp} {Q : VK} {i j k : Nat} {l : Addr} {xs : List V} {ds : List PyData} {zs : List Str} (h0 : σ[i]? = some (some (.ref l))) (hl : H l = some (.lst xs)) (hd : DpAll K H xs ds) (hr : Rows zs ds) (hz : zs.length ≤ 900)
    (hw : ∀ x y, wipe (((wipe σ [j, k]).set j (some x)).set k (some y)) [j, k] = wipe σ [j, k]) (hj : ∀ x y, (((wipe σ [j, k]).set j (some x)).set k (some y))[j]? = some (some x))
    (q : ∀ D H', Same H H' → H D = none → H' D = some (.lst (zs.map V.str)) → Q (.ref D) H') :
    tLc (iList K (tVar i)) (gTup K 2 (gCons (gName j) (gCons (gName k) gNil))) tYes (tVar j) [j, k] σ H Q := by
  refine ⟨_, h0, l, rfl, ⟨_, SqL.of hl⟩, fun D hD => ?_⟩
  refine lc_list (K := K) (a := l) (xs := xs) (fun n H' => Same H H' ∧ H' D = some (.lst ((zs.take n).map V.str))) ⟨same_new hD, upd_same⟩ (fun n H' _ p => SqL.of (p.1 _ _ hl)) ?_ ?_
  · rintro n x H' hn ⟨s, f⟩
    obtain ⟨d, hd1, hd2⟩ := dpAll_at hd hn
    obtain ⟨z, e, hz1, rfl⟩ := hr.row n d hd1
    obtain ⟨a, y, rfl, h1, h2⟩ := pair_dp (dpSame s hd2)
    have hn9 : n < 900 := by
      have := (List.getElem?_eq_some_iff.mp hz1).1
      omega
    refine ⟨a, _, rfl, h1, rfl, _, _, rfl, _, _, rfl, rfl, hw _ _, _, hj _ _, _, f, ?_, fun b u hb => ?_, ?_⟩
    · rw [List.length_map]
      exact small1000 (Nat.le_trans (List.length_take_le _ _) (by omega))
    · rw [upd_ne (ne_of_none hb hD)]
      exact s _ _ hb
    · rw [upd_same, List.take_add_one, hz1, List.map_append]
      rfl
  · rintro H' ⟨s, f⟩
    have e : zs.take xs.length = zs := List.take_of_length_le (by rw [dpAll_len hd, hr.len]; exact Nat.le_refl _)
    rw [e] at f
    exact q D H' s hD f
/-! ### numbers -/
theorem pow_pos2 (w : Nat) : (1 : Int) ≤ 2 ^ w := by
  have : (0 : Int) < 2 ^ w := Int.pow_pos (by decide)
  omega
theorem one_shl (w : Nat) : (1 : Int) * 2 ^ ((w : Int).toNat) = 2 ^ w := by rw [Int.one_mul, Int.toNat_natCast]
theorem and_top {x : Int} {w : Nat} (hx : 0 ≤ x) : 0 ≤ Builtin.bitAnd x (2 ^ w - 1) ∧ Builtin.bitAnd x (2 ^ w - 1) < 2 ^ w := by
  rw [Bits.bitAnd_mask w hx]
  have p : (0 : Int) < 2 ^ w := Int.pow_pos (by decide)
  exact ⟨Int.emod_nonneg _ (by omega), Int.emod_lt_of_pos _ p⟩
theorem pow_two_le {w : Nat} (h : 1 ≤ w) : (2 : Int) ≤ 2 ^ w := by
  obtain ⟨n, rfl⟩ : ∃ n, w = n + 1 := ⟨w - 1, by omega⟩
  rw [Int.pow_succ]
  have := pow_pos2 n
  omega
theorem pow_lt_of {k : Int} {w : Nat} (h0 : 0 ≤ k) (h1 : k < w) : (1 : Int) * 2 ^ k.toNat < 2 ^ w := by
  rw [Int.one_mul]
  have : (2 : Nat) ^ k.toNat < 2 ^ w := Nat.pow_lt_pow_right (by decide) (by omega)
  exact_mod_cast this
theorem pow_bound {w : Nat} (h : w ≤ 60) : (2 : Int) ^ w ≤ 2 ^ 60 := by
  have : (2 : Nat) ^ w ≤ 2 ^ 60 := Nat.pow_le_pow_right (by decide) h
  exact_mod_cast this
end LJ

namespace LJ
open PySem PySem.Spec PyProof.Rows L2 GuL HG
abbrev sWord : Stmt := topS 39
abbrev sFields : Stmt := topS 40
abbrev sHeaders : Stmt := topS 41
section
variable {P : Program} {w : World} {K : PySem.W.Frag} {mg : Str → Option Value} {base : Heap}
/-- the defs that draw -/
structure Drw (P : Program) (w : World) (K : PySem.W.Frag) (mg : Str → Option Value) (base : Heap) (fD fO fN : Addr) (fdD fdO fdN : FuncData) : Prop where
  FD : Fun K "_law_dip" "_law_dip" sDip fD fdD
  bD : Binds K fdD ["_law_jar_here", "_law_top"] []
  gD : mg "_law_dip" = some (.ref fD)
  GD : FnOk P w K mg base CX0 1 fD fdD ["_law_jar_here", "_law_top"] spDip
  FO : Fun K "_law_one_of" "_law_one_of" sOne fO fdO
  bO : Binds K fdO ["_law_jar_here", "_law_some"] []
  gO : mg "_law_one_of" = some (.ref fO)
  GO : FnOk P w K mg base CX0 2 fO fdO ["_law_jar_here", "_law_some"] (spOne K)
  FN : Fun K "_law_name" "_law_name" sName fN fdN
  bN : Binds K fdN ["_law_jar_here", "_law_taken"] []
  gN : mg "_law_name" = some (.ref fN)
  GN : FnOk P w K mg base CX0 3 fN fdN ["_law_jar_here", "_law_taken"] spName
/-! ### a word -/
theorem scWord : FnScope ["_law_jar_here", "_law_width", "_law_top", "_law_way", "_law_high"] ["_law_jar_here", "_law_width"] (defScope sWord) := ⟨rfl, rfl, rfl, by decide +kernel, rfl, by decide +kernel, by decide +kernel⟩
def spWord : Sp := fun vs H Q _ => ∃ (b : Addr) (n : Nat) (o m c : Int), vs = [.ref b, .int (n : Int)] ∧ H b = some (bw o m c) ∧ 0 ≤ o ∧ 1 ≤ n ∧ n ≤ 32 ∧
  ∀ H' r, Jr b H H' → 0 ≤ r → r < 2 ^ n → Q (.int r) H'
theorem ok_word {f fD fO fN : Addr} {fd fdD fdO fdN : FuncData} (F : Fun K "_law_word" "_law_word" sWord f fd) (B : Blt mg) (Z : Drw P w K mg base fD fO fN fdD fdO fdN) : FnOk P w K mg base CX0 2 f fd ["_law_jar_here", "_law_width"] spWord := by
  refine F.ok scWord (fun vs H Q E h => ?_) (fun cdv A outer s H vs Q E hr h => ?_)
  · obtain ⟨b, n, o, m, c, rfl, _⟩ := h
    rfl
  · obtain ⟨b, n, o, m, c, rfl, hb, ho, n1, n32, k⟩ := h
    refine ⟨_, pss_cons (ps_par (i := 2) (j := 3) (by rfl) scWord.nd rfl rfl (by decide) rfl rfl (pa_cons (pe_op op_sub (pe_op op_shl pe_int (pv 1)) pe_int) (pa_cons (pe_call Z.GD (hr.mono (by decide)) (by rfl) Z.gD Z.FD.kp Z.bD .nil pass0 (pa_cons (pv 0) (pa_cons pe_int pa_nil))) pa_nil)) (by rfl))
      (pss_cons (ps_if (pt_cmpR op_lt (pv 3) pe_int (nomark _)) (pss_one (ps_ret (pe_call Z.GD (hr.mono (by decide)) (by rfl) Z.gD Z.FD.kp Z.bD .nil pass0 (pa_cons (pv 0) (pa_cons (pe_op op_add (pe_callB (call_min2 rfl) (by rfl) B.min (by decide +kernel) (pa_cons (pv 2) (pa_cons pe_int pa_nil))) pe_int) pa_nil))))) pss_nil)
      (pss_cons (ps_if (pt_cmpR op_eq (pv 3) pe_int (nomark _)) (pss_one (ps_ret (pe_op op_sub (pv 2) (pe_call Z.GD (hr.mono (by decide)) (by rfl) Z.gD Z.FD.kp Z.bD .nil pass0 (pa_cons (pv 0) (pa_cons (pe_op op_add (pe_callB (call_min2 rfl) (by rfl) B.min (by decide +kernel) (pa_cons (pv 2) (pa_cons pe_int pa_nil))) pe_int) pa_nil)))))) pss_nil)
      (pss_cons (ps_if (pt_cmpR op_eq (pv 3) pe_int (nomark _)) (pss_one (ps_ret (pe_op op_shl pe_int (pe_call Z.GD (hr.mono (by decide)) (by rfl) Z.gD Z.FD.kp Z.bD .nil pass0 (pa_cons (pv 0) (pa_cons (pv 1) pa_nil)))))) pss_nil)
      (pss_cons (ps_set (i := 4) scWord.nd rfl (.inl rfl) (pe_call Z.GD (hr.mono (by decide)) (by rfl) Z.gD Z.FD.kp Z.bD .nil pass0 (pa_cons (pv 0) (pa_cons pe_int pa_nil))))
      (pss_one (ps_ret (pe_op op_and (pe_op op_or (pe_op op_shl (pv 4) pe_int) (pe_call Z.GD (hr.mono (by decide)) (by rfl) Z.gD Z.FD.kp Z.bD .nil pass0 (pa_cons (pv 0) (pa_cons pe_int pa_nil)))) (pv 2)))))))), ?_⟩
    have T1 := pow_two_le n1
    have T2 : (2 : Int) ^ n ≤ 2 ^ 60 := pow_bound (by omega)
    have T3 : (1 : Int) * 2 ^ ((n : Int).toNat) = 2 ^ n := one_shl n
    refine ⟨_, rfl, _, _, rfl, rfl, ⟨by omega, by omega, by decide⟩, _, _, rfl, rfl, ?_⟩
    rw [T3]
    refine ⟨_, rfl, b, 6, o, m, c, rfl, hb, ho, by decide, by decide, fun H1 r1 o1 m1 c1 e1 hb1 ho1 r10 r11 => ⟨_, _, rfl, ?_⟩⟩
    refine ⟨_, rfl, _, _, rfl, rfl, _, rfl, ite2 (fun _ => ?_) (fun _ => ?_)⟩
    · refine ⟨_, rfl, _, rfl, _, _, rfl, _, _, rfl, rfl, b, _, o1, m1, c1, rfl, hb1, ho1, ?_, ?_, fun H2 r2 o2 m2 c2 e2 hb2 ho2 r20 r21 => k H2 r2 ⟨e1.trans e2, o2, m2, c2, hb2, ho2⟩ r20 ?_⟩
      · split <;> omega
      · split <;> omega
      · revert r21
        split <;> omega
    refine ⟨_, rfl, rfl, _, rfl, ite2 (fun _ => ?_) (fun _ => ?_)⟩
    · refine ⟨_, rfl, _, rfl, _, rfl, _, _, rfl, _, _, rfl, rfl, b, _, o1, m1, c1, rfl, hb1, ho1, ?_, ?_, fun H2 r2 o2 m2 c2 e2 hb2 ho2 r20 r21 => ⟨_, _, rfl, rfl, k H2 _ ⟨e1.trans e2, o2, m2, c2, hb2, ho2⟩ ?_ ?_⟩⟩
      · split <;> omega
      · split <;> omega
      · revert r21
        split <;> omega
      · omega
    refine ⟨_, rfl, rfl, _, rfl, ite2 (fun _ => ?_) (fun _ => ?_)⟩
    · refine ⟨_, rfl, _, rfl, b, _, o1, m1, c1, rfl, hb1, ho1, by omega, by omega, fun H2 r2 o2 m2 c2 e2 hb2 ho2 r20 r21 => ⟨_, _, rfl, rfl, ⟨r20, by omega, by decide⟩, k H2 _ ⟨e1.trans e2, o2, m2, c2, hb2, ho2⟩ ?_ (pow_lt_of r20 r21)⟩⟩
      have := pow_pos2 r2.toNat
      omega
    · refine ⟨_, rfl, b, _, o1, m1, c1, rfl, hb1, ho1, by decide, by decide, fun H2 r2 o2 m2 c2 e2 hb2 ho2 r20 r21 => ?_⟩
      refine ⟨_, rfl, _, _, rfl, rfl, ⟨by decide, by decide, by omega⟩, _, rfl, b, _, o2, m2, c2, rfl, hb2, ho2, by decide, by decide, fun H3 r3 o3 m3 c3 e3 hb3 ho3 r30 r31 => ⟨_, _, rfl, rfl, ?_⟩⟩
      have x0 : (0 : Int) ≤ Builtin.bitOr (r2 * 2 ^ (16 : Int).toNat) r3 := Bits.bitOr_nonneg (Int.mul_nonneg r20 (by decide)) r30
      have y := and_top (w := n) x0
      exact ⟨_, rfl, _, _, rfl, rfl, k H3 _ ⟨(e1.trans e2).trans e3, o3, m3, c3, hb3, ho3⟩ y.1 y.2⟩
end
end LJ

namespace LJ
open PySem PySem.Spec PyProof.Rows L2 GuL HG
section
variable {P : Program} {w : World} {K : PySem.W.Frag} {mg : Str → Option Value} {base : Heap}
theorem Jr.trans {b : Addr} {H H1 H2 : Hp} (a : Exb b H H1) (c : Jr b H1 H2) : Jr b H H2 := ⟨a.trans c.e, c.at_⟩
/-- a list that the jar's owner does not know may change -/
theorem Jr.put {b l : Addr} {H H' : Hp} {o : HO} (j : Jr b H H') (hl : H l = none) (nl : l ≠ b) : Jr b H (upd H' l o) := ⟨j.e.mut hl, by
  obtain ⟨x, m, c, h, h0⟩ := j.at_
  exact ⟨x, m, c, by rw [upd_ne (Ne.symm nl)]; exact h, h0⟩⟩
theorem Jr.same {b : Addr} {H H1 H2 : Hp} (j : Jr b H H1) (s : Same H1 H2) : Jr b H H2 := ⟨j.e.trans (Exb.of s), by
  obtain ⟨x, m, c, h, h0⟩ := j.at_
  exact ⟨x, m, c, s _ _ h, h0⟩⟩
theorem mem_ints {L : List Int} {v : V} (h : v ∈ L.map V.int) : ∃ z, z ∈ L ∧ v = .int z := by
  obtain ⟨z, h1, h2⟩ := List.mem_map.mp h
  exact ⟨z, h1, h2.symm⟩
/-! ### fields -/
def w15 : List Int := [1, 2, 3, 4, 5, 7, 8, 8, 8, 9, 16, 24, 31, 32, 128]
theorem w15_ok : ∀ x ∈ w15, 1 ≤ x ∧ x ≤ 128 := by decide
theorem scFields : FnScope ["_law_jar_here", "_law_size_here", "_law_left", "_law_found", "_law_slot", "_law_low", "_law_high", "_law_width", "_law_name_here", "_law_wide"] ["_law_jar_here", "_law_size_here"] (defScope sFields) := ⟨rfl, rfl, rfl, by decide +kernel, rfl, by decide +kernel, by decide +kernel⟩
def spFields (K : PySem.W.Frag) : Sp := fun vs H Q _ => ∃ (b : Addr) (n : Nat) (o m c : Int), vs = [.ref b, .int (n : Int)] ∧ H b = some (bw o m c) ∧ 0 ≤ o ∧ 1 ≤ n ∧ n ≤ 16 ∧
  ∀ H' v fs, Jr b H H' → Dp K H' v (encFs fs) → FieldsOk fs → bitsOf fs = 8 * n → Q v H'
theorem bitsOf_snoc (fs : List Fld) (f : Fld) : bitsOf (fs ++ [f]) = bitsOf fs + f.2 := by
  unfold bitsOf
  rw [List.map_append, List.sum_append]
  simp
structure FInv (K : PySem.W.Frag) (H H' : Hp) (b l : Addr) (n i : Nat) (left : Int) (fs : List Fld) (xs : List V) : Prop where
  j : Jr b H H'
  hl : H' l = some (.lst xs)
  dp : DpAll K H' xs (fs.map encF)
  len : fs.length ≤ i
  nm : ∀ f ∈ fs, NameOk f.1
  wd : ∀ f ∈ fs, 1 ≤ f.2 ∧ f.2 ≤ 32
  nd : (fs.map (·.1)).Nodup
  sum : left + (bitsOf fs : Int) = 8 * n
  l0 : 0 ≤ left
  l1 : left ≤ 32 * (12 - (i : Int))
theorem ok_fields {f fD fO fN : Addr} {fd fdD fdO fdN : FuncData} (F : Fun K "_law_fields" "_law_fields" sFields f fd) (B : Blt mg) (Z : Drw P w K mg base fD fO fN fdD fdO fdN) : FnOk P w K mg base CX0 4 f fd ["_law_jar_here", "_law_size_here"] (spFields K) := by
  refine F.ok scFields (fun vs H Q E h => ?_) (fun cdv A outer s H vs Q E hr h => ?_)
  · obtain ⟨b, n, o, m, c, rfl, _⟩ := h
    rfl
  · obtain ⟨b, n, o, m, c, rfl, hb, ho, n1, n16, k⟩ := h
    refine ⟨_, pss_cons (ps_par (i := 2) (j := 3) (by rfl) scFields.nd rfl rfl (by decide) rfl rfl (pa_cons (pe_op op_mul pe_int (pv 1)) (pa_cons (pe_lst pa_nil) pa_nil)) (by rfl))
      (pss_cons (ps_for PassesOwn.never rfl (pi_range1 (by rfl) B.range (pa_cons pe_int pa_nil)) (pg_name (i := 4) scFields.nd rfl (.inl rfl))
        (pss_one (ps_if (pt_cmpR op_gt (pv 2) pe_int (nomark _))
          (pss_cons (ps_par (i := 5) (j := 6) (by rfl) scFields.nd rfl rfl (by decide) rfl rfl (pa_cons (pe_callB (call_max2 rfl) (by rfl) B.max (by decide +kernel) (pa_cons pe_int (pa_cons (pe_op op_sub (pv 2) (pe_op op_mul pe_int (pe_op op_sub pe_int (pv 4)))) pa_nil))) (pa_cons (pe_callB (call_min2 rfl) (by rfl) B.min (by decide +kernel) (pa_cons pe_int (pa_cons (pv 2) pa_nil))) pa_nil)) (by rfl))
          (pss_cons (ps_set (i := 7) scFields.nd rfl (.inl rfl) (pe_call Z.GO (hr.mono (by decide)) (by rfl) Z.gO Z.FO.kp Z.bO .nil pass0 (pa_cons (pv 0) (pa_cons (pe_lst (pa_cons pe_int (pa_cons pe_int (pa_cons pe_int (pa_cons pe_int (pa_cons pe_int (pa_cons pe_int (pa_cons pe_int (pa_cons pe_int (pa_cons pe_int (pa_cons pe_int (pa_cons pe_int (pa_cons pe_int (pa_cons pe_int (pa_cons pe_int (pa_cons pe_int pa_nil)))))))))))))))) pa_nil))))
          (pss_cons (ps_set (i := 7) scFields.nd rfl (.inl rfl) (pe_callB (call_min2 rfl) (by rfl) B.min (by decide +kernel) (pa_cons (pv 6) (pa_cons (pe_callB (call_max2 rfl) (by rfl) B.max (by decide +kernel) (pa_cons (pv 5) (pa_cons (pv 7) pa_nil))) pa_nil))))
          (pss_cons (ps_expr (pe_bm PySem.F.plainAttrs_list PySem.F.slot_list_append PySem.F.type_list_append mt_append (pv 3) (pa_cons (pe_tup (pa_cons
            (pe_call Z.GN hr (by rfl) Z.gN Z.FN.kp Z.bN .nil pass0 (pa_cons (pv 0) (pa_cons (pe_lc (own := [("_law_name_here", 8), ("_law_wide", 9)]) (g := gTup K 2 (gCons (gName 8) (gCons (gName 9) gNil))) (tt := tYes) rfl scFields.nd (pi_list (pv 3))
              (blkOk_by (N := ["_law_jar_here", "_law_size_here", "_law_left", "_law_found", "_law_slot", "_law_low", "_law_high", "_law_width", "_law_name_here", "_law_wide"]) (sc := defScope sFields) (by decide +kernel)) (fun _ _ _ _ _ => pg_tup rfl (pgs_cons (pg_name (i := 8) scFields.nd rfl (.inl rfl)) (pgs_cons (pg_name (i := 9) scFields.nd rfl (.inl rfl)) pgs_nil))) (fun _ _ _ _ _ => pts_nil) (fun _ _ _ _ _ => pv 8)) pa_nil)))
            (pa_cons (pv 7) pa_nil))) pa_nil)))
          (pss_one (ps_set (i := 2) scFields.nd rfl (.inl rfl) (pe_op op_sub (pv 2) (pv 7)))))))) pss_nil)))
      (pss_one (ps_ret (pe_callTy call_tuple_of (by rfl) B.tuple (by decide +kernel) (pa_cons (pv 3) pa_nil))))), ?_⟩
    refine ⟨_, rfl, _, _, rfl, rfl, .inl ⟨by decide, by decide⟩, Nat.zero_le _, fun l hl => ⟨_, _, rfl, ?_⟩⟩
    have nl : l ≠ b := fun z => by
      rw [z, hb] at hl
      cases hl
    refine ⟨12, rfl, by decide, by decide, for_range (lo := 0) (n := 12) (fun i σ H' => ∃ (left : Int) (fs : List Fld) (xs : List V) (v4 v5 v6 v7 : Option V), σ = [some (.ref b), some (.int (n : Int)), some (.int left), some (.ref l), v4, v5, v6, v7, none, none] ∧ FInv K H H' b l n i left fs xs)
      ⟨8 * n, [], [], _, _, _, _, rfl, ⟨⟨Exb.of (same_new hl), o, m, c, by rw [upd_ne (Ne.symm nl)]; exact hb, ho⟩, upd_same, .nil, Nat.zero_le _, (fun f hf => nomatch hf), (fun f hf => nomatch hf), List.nodup_nil, ?_, by omega, by omega⟩⟩ ?_ ?_⟩
    · show (8 : Int) * n + ((0 : Nat) : Int) = 8 * n
      omega
    · rintro i σ H1 hi ⟨left, fs, xs, v4, v5, v6, v7, rfl, I⟩
      obtain ⟨e1, o1, m1, c1, hb1, ho1⟩ := I.j
      refine ⟨_, rfl, _, _, rfl, rfl, _, rfl, ite2 (fun cl => ?_) (fun cl => ?_)⟩
      · have l0 : 0 < left := of_decide_eq_true cl
        have I1 := I.l1
        refine ⟨_, rfl, _, rfl, _, _, rfl, rfl, _, _, rfl, rfl, .inl ⟨by decide, by decide⟩, _, _, rfl, rfl, _, _, rfl, _, rfl, _, _, rfl, _, _, rfl, ?_⟩
        -- the width's bounds
        have lo1 : ∃ lo hi : Int, (if left - 32 * (11 - ((0 : Int) + (i : Int))) > 1 then left - 32 * (11 - ((0 : Int) + (i : Int))) else 1) = lo ∧ (if left < 32 then left else 32) = hi ∧ 1 ≤ lo ∧ lo ≤ hi ∧ hi ≤ 32 ∧ hi ≤ left ∧ left - lo ≤ 32 * (11 - (i : Int)) := by
          refine ⟨_, _, rfl, rfl, ?_⟩
          split <;> split <;> omega
        obtain ⟨lo, hi', elo, ehi, b1, b2, b3, b4, b5⟩ := lo1
        rw [elo, ehi]
        refine ⟨_, rfl, by show 15 ≤ sizeLine; decide, fun p hp => ?_⟩
        have np : p ≠ b := fun z => by
          rw [z, hb1] at hp
          cases hp
        refine ⟨b, .ref p, o1, m1, c1, rfl, by rw [upd_ne (Ne.symm np)]; exact hb1, ho1, .inr (.inr ⟨p, _, rfl, np, upd_same, by show 0 < 15; decide, by show 15 < 100000; decide, fun H2 v o2 m2 c2 e2 hb2 ho2 hv => ?_⟩)⟩
        obtain ⟨wi, hwi, rfl⟩ := mem_ints (L := w15) hv
        have wb := w15_ok wi hwi
        refine ⟨_, rfl, _, rfl, _, rfl, _, _, rfl, _, _, rfl, ?_⟩
        obtain ⟨wn, ew, w1, w2⟩ : ∃ wn : Nat, (if (if wi > lo then wi else lo) < hi' then (if wi > lo then wi else lo) else hi') = (wn : Int) ∧ lo ≤ (wn : Int) ∧ (wn : Int) ≤ hi' := by
          refine ⟨(if (if wi > lo then wi else lo) < hi' then (if wi > lo then wi else lo) else hi').toNat, ?_, ?_, ?_⟩
          · split <;> split <;> omega
          · split <;> split <;> omega
          · split <;> split <;> omega
        rw [ew]
        have s1 := same_new (o := .lst (w15.map V.int)) hp
        have x2 : Exb b H1 H2 := (Exb.of s1).trans e2
        have hl2 : H2 l = some (.lst xs) := x2 _ _ nl I.hl
        have dp2 : DpAll K H2 xs (fs.map encF) := dpExbAll hb1 x2 (noL_mapF fs) I.dp
        refine ⟨_, rfl, .inl ⟨rfl, _, SqL.of hl2⟩, _, rfl, ?_⟩
        refine lcFirst rfl hl2 dp2 (rowsF fs) (by rw [List.length_map]; have := I.len; omega) (fun _ _ => rfl) (fun _ _ => rfl) fun D H3 s3 hD f3 => ?_
        have hb3 := s3 _ _ hb2
        have nD : D ≠ b := fun z => by
          rw [z, hb2] at hD
          cases hD
        refine ⟨b, D, fs.map (·.1), o2, m2, c2, rfl, hb3, ho2, nD, f3, by rw [List.length_map]; have := I.len; omega, fun H4 z o4 m4 c4 e4 hb4 ho4 hz hzn => ?_⟩
        have x4 : Exb b H2 H4 := (Exb.of s3).trans e4
        have hl4 : H4 l = some (.lst xs) := x4 _ _ nl hl2
        have dp4 : DpAll K H4 xs (fs.map encF) := dpExbAll hb2 x4 (noL_mapF fs) dp2
        refine ⟨_, rfl, by show 2 ≤ sizeLine; decide, fun q hq => ?_⟩
        have s5 := same_new (o := .tup [.str z, .int (wn : Int)]) hq
        have hl5 := s5 _ _ hl4
        have nql : q ≠ l := fun y => by
          rw [y, hl4] at hq
          cases hq
        refine ⟨l, xs, .ref q, rfl, rfl, hl5, ?_, ?_⟩
        · rw [dpAll_len I.dp, List.length_map]
          exact small1000 (by have := I.len; omega)
        · have hnew : H l = none := by
            cases y : H l with
            | none => rfl
            | some u =>
              rw [hl] at y
              cases y
          refine ⟨_, rfl, _, rfl, _, _, rfl, rfl, left - (wn : Int), fs ++ [(z, wn)], xs ++ [.ref q], _, _, _, _, rfl, ?_⟩
          have j5 : Jr b H (upd H4 q (.tup [.str z, .int (wn : Int)])) := (⟨(e1.trans x2).trans x4, o4, m4, c4, hb4, ho4⟩ : Jr b H H4).same s5
          have dp5 : DpAll K (upd H4 q (.tup [.str z, .int (wn : Int)])) xs (fs.map encF) := dpSameAll s5 dp4
          have dq : Dp K (upd H4 q (.tup [.str z, .int (wn : Int)])) (.ref q) (encF (z, wn)) := .tup (SqT.of upd_same) (.cons (.str z) (.cons (.int _) .nil))
          refine ⟨j5.put hnew nl, upd_same, ?_, by rw [List.length_append]; have := I.len; show _ + 1 ≤ _; omega, fun g hg => ?_, fun g hg => ?_, ?_, ?_, by omega, ?_⟩
          · rw [List.map_append]
            refine dpAll_snoc (dpExb hl5 Exb.put (noL_encF _) dq) (dpExbAll hl5 Exb.put (noL_mapF fs) dp5)
          · rcases List.mem_append.mp hg with hg | hg
            · exact I.nm g hg
            · rw [List.mem_singleton.mp hg]
              exact hz
          · rcases List.mem_append.mp hg with hg | hg
            · exact I.wd g hg
            · rw [List.mem_singleton.mp hg]
              exact ⟨by show 1 ≤ wn; omega, by show wn ≤ 32; omega⟩
          · rw [List.map_append, List.nodup_append]
            refine ⟨I.nd, by simp, fun x hx y hy => ?_⟩
            simp at hy
            subst hy
            exact fun e => hzn (e ▸ hx)
          · rw [bitsOf_snoc]
            have := I.sum
            show left - (wn : Int) + ((bitsOf fs + wn : Nat) : Int) = 8 * n
            omega
          · show left - (wn : Int) ≤ 32 * (12 - ((i + 1 : Nat) : Int))
            omega
      · have l0 : ¬ 0 < left := of_decide_eq_false (by simpa using cl)
        exact ⟨left, fs, xs, _, _, _, _, rfl, ⟨I.j, I.hl, I.dp, by have := I.len; omega, I.nm, I.wd, I.nd, I.sum, I.l0, by have := I.l0; omega⟩⟩
    · rintro σ H1 ⟨left, fs, xs, v4, v5, v6, v7, rfl, I⟩
      refine ⟨_, rfl, l, _, rfl, .inl ⟨SqL.of I.hl, fun t ht => ?_⟩⟩
      have z0 : left = 0 := by
        have h0 := I.l0
        have h1 := I.l1
        omega
      have hs := I.sum
      have e8 : bitsOf fs = 8 * n := by omega
      refine k _ _ fs (I.j.same (same_new ht)) (.tup (SqT.of upd_same) (dpSameAll (same_new ht) I.dp)) ⟨?_, I.len, I.nm, I.wd, I.nd, by omega, by omega⟩ e8
      cases fs with
      | nil =>
        have : bitsOf [] = 0 := rfl
        omega
      | cons _ _ => simp
end
end LJ

namespace LJ
open PySem PySem.Spec PyProof.Rows L2 GuL HG
section
variable {P : Program} {w : World} {K : PySem.W.Frag} {mg : Str → Option Value} {base : Heap}
/-! ### headers -/
def w10 : List Int := [1, 1, 1, 1, 2, 2, 3, 4, 1, 16]
theorem w10_ok : ∀ x ∈ w10, 1 ≤ x ∧ x ≤ 16 := by decide
theorem scHeaders : FnScope ["_law_jar_here", "_law_least", "_law_most", "_law_found", "_law_turn", "_law_size_here", "_law_name_here", "_law_fields_here"] ["_law_jar_here", "_law_least", "_law_most"] (defScope sHeaders) := ⟨rfl, rfl, rfl, by decide +kernel, rfl, by decide +kernel, by decide +kernel⟩
def spHeaders (K : PySem.W.Frag) : Sp := fun vs H Q _ => ∃ (b : Addr) (lo hi : Nat) (o m c : Int), vs = [.ref b, .int (lo : Int), .int (hi : Int)] ∧ H b = some (bw o m c) ∧ 0 ≤ o ∧ lo ≤ hi ∧ hi ≤ 6 ∧
  ∀ H' v hs, Jr b H H' → Dp K H' v (encHs hs) → HeadersOk hs → lo ≤ hs.length → hs.length ≤ hi → Q v H'
structure HInv (K : PySem.W.Frag) (H H' : Hp) (b l : Addr) (i : Nat) (hs : List Hdr) (xs : List V) : Prop where
  j : Jr b H H'
  hl : H' l = some (.lst xs)
  dp : DpAll K H' xs (hs.map encH)
  len : hs.length = i
  nm : ∀ h ∈ hs, NameOk h.1
  fo : ∀ h ∈ hs, FieldsOk h.2
  nd : (hs.map (·.1)).Nodup
theorem ok_headers {f fD fO fN fF : Addr} {fd fdD fdO fdN fdF : FuncData} (F : Fun K "_law_headers" "_law_headers" sHeaders f fd) (B : Blt mg) (Z : Drw P w K mg base fD fO fN fdD fdO fdN)
    (FF : Fun K "_law_fields" "_law_fields" sFields fF fdF) (bF : Binds K fdF ["_law_jar_here", "_law_size_here"] []) (gF : mg "_law_fields" = some (.ref fF)) : FnOk P w K mg base CX0 5 f fd ["_law_jar_here", "_law_least", "_law_most"] (spHeaders K) := by
  have GF : FnOk P w K mg base CX0 4 fF fdF ["_law_jar_here", "_law_size_here"] (spFields K) := ok_fields FF B Z
  refine F.ok scHeaders (fun vs H Q E h => ?_) (fun cdv A outer s H vs Q E hr h => ?_)
  · obtain ⟨b, lo, hi, o, m, c, rfl, _⟩ := h
    rfl
  · obtain ⟨b, lo, hi, o, m, c, rfl, hb, ho, lh, h6, k⟩ := h
    refine ⟨_, pss_cons (ps_set (i := 3) scHeaders.nd rfl (.inl rfl) (pe_lst pa_nil))
      (pss_cons (ps_for PassesOwn.never rfl (pi_range1 (by rfl) B.range (pa_cons (pe_op op_add (pv 1) (pe_call Z.GD (hr.mono (by decide)) (by rfl) Z.gD Z.FD.kp Z.bD .nil pass0 (pa_cons (pv 0) (pa_cons (pe_op op_add (pe_op op_sub (pv 2) (pv 1)) pe_int) pa_nil)))) pa_nil)) (pg_name (i := 4) scHeaders.nd rfl (.inl rfl))
        (pss_cons (ps_set (i := 5) scHeaders.nd rfl (.inl rfl) (pe_call Z.GO (hr.mono (by decide)) (by rfl) Z.gO Z.FO.kp Z.bO .nil pass0 (pa_cons (pv 0) (pa_cons (pe_lst (pa_cons pe_int (pa_cons pe_int (pa_cons pe_int (pa_cons pe_int (pa_cons pe_int (pa_cons pe_int (pa_cons pe_int (pa_cons pe_int (pa_cons pe_int (pa_cons pe_int pa_nil))))))))))) pa_nil))))
        (pss_one (ps_expr (pe_bm PySem.F.plainAttrs_list PySem.F.slot_list_append PySem.F.type_list_append mt_append (pv 3) (pa_cons (pe_tup (pa_cons
            (pe_call Z.GN (hr.mono (by decide)) (by rfl) Z.gN Z.FN.kp Z.bN .nil pass0 (pa_cons (pv 0) (pa_cons (pe_lc (own := [("_law_name_here", 6), ("_law_fields_here", 7)]) (g := gTup K 2 (gCons (gName 6) (gCons (gName 7) gNil))) (tt := tYes) rfl scHeaders.nd (pi_list (pv 3))
              (blkOk_by (N := ["_law_jar_here", "_law_least", "_law_most", "_law_found", "_law_turn", "_law_size_here", "_law_name_here", "_law_fields_here"]) (sc := defScope sHeaders) (by decide +kernel)) (fun _ _ _ _ _ => pg_tup rfl (pgs_cons (pg_name (i := 6) scHeaders.nd rfl (.inl rfl)) (pgs_cons (pg_name (i := 7) scHeaders.nd rfl (.inl rfl)) pgs_nil))) (fun _ _ _ _ _ => pts_nil) (fun _ _ _ _ _ => pv 6)) pa_nil)))
            (pa_cons (pe_call GF hr (by rfl) gF FF.kp bF .nil pass0 (pa_cons (pv 0) (pa_cons (pv 5) pa_nil))) pa_nil))) pa_nil))))))
      (pss_one (ps_ret (pe_callTy call_tuple_of (by rfl) B.tuple (by decide +kernel) (pa_cons (pv 3) pa_nil))))), ?_⟩
    refine ⟨Nat.zero_le _, fun l hl => ?_⟩
    have nl : l ≠ b := fun z => by
      rw [z, hb] at hl
      cases hl
    have s0 := same_new (o := .lst []) hl
    refine ⟨_, rfl, _, rfl, _, rfl, _, rfl, _, _, rfl, rfl, _, _, rfl, rfl, b, _, o, m, c, rfl, s0 _ _ hb, ho, by omega, by omega, fun H1 r o1 m1 c1 e1 hb1 ho1 r0 r1 => ?_⟩
    refine ⟨_, _, rfl, rfl, _, rfl, by omega, by omega, ?_⟩
    obtain ⟨N, eN⟩ : ∃ N : Nat, (lo : Int) + r = (N : Int) := ⟨((lo : Int) + r).toNat, by omega⟩
    rw [eN, Int.toNat_natCast]
    have N1 : lo ≤ N := by omega
    have N2 : N ≤ hi := by omega
    refine for_range (lo := 0) (n := N) (fun i σ H' => ∃ (hs : List Hdr) (xs : List V) (v4 v5 : Option V), σ = [some (.ref b), some (.int (lo : Int)), some (.int (hi : Int)), some (.ref l), v4, v5, none, none] ∧ HInv K H H' b l i hs xs)
      ⟨[], [], _, _, rfl, ⟨⟨(Exb.of s0).trans e1, o1, m1, c1, hb1, ho1⟩, e1 _ _ nl upd_same, .nil, rfl, (fun f hf => nomatch hf), (fun f hf => nomatch hf), List.nodup_nil⟩⟩ ?_ ?_
    · rintro i σ H2 hi' ⟨hs, xs, v4, v5, rfl, I⟩
      obtain ⟨e2, o2, m2, c2, hb2, ho2⟩ := I.j
      refine ⟨_, rfl, by show 10 ≤ sizeLine; decide, fun p hp => ?_⟩
      have np : p ≠ b := fun z => by
        rw [z, hb2] at hp
        cases hp
      refine ⟨b, .ref p, o2, m2, c2, rfl, by rw [upd_ne (Ne.symm np)]; exact hb2, ho2, .inr (.inr ⟨p, _, rfl, np, upd_same, by show 0 < 10; decide, by show 10 < 100000; decide, fun H3 v o3 m3 c3 e3 hb3 ho3 hv => ?_⟩)⟩
      obtain ⟨si, hsi, rfl⟩ := mem_ints (L := w10) hv
      have sb := w10_ok si hsi
      obtain ⟨sn, rfl⟩ := Int.eq_ofNat_of_zero_le (show 0 ≤ si by omega)
      have x3 : Exb b H2 H3 := (Exb.of (same_new hp)).trans e3
      have hl3 : H3 l = some (.lst xs) := x3 _ _ nl I.hl
      have dp3 : DpAll K H3 xs (hs.map encH) := dpExbAll hb2 x3 (noL_mapH hs) I.dp
      refine ⟨_, rfl, .inl ⟨rfl, _, SqL.of hl3⟩, _, rfl, ?_⟩
      refine lcFirst rfl hl3 dp3 (rowsH hs) (by rw [List.length_map, I.len]; omega) (fun _ _ => rfl) (fun _ _ => rfl) fun D H4 s4 hD f4 => ?_
      have hb4 := s4 _ _ hb3
      have nD : D ≠ b := fun z => by
        rw [z, hb3] at hD
        cases hD
      refine ⟨b, D, hs.map (·.1), o3, m3, c3, rfl, hb4, ho3, nD, f4, by rw [List.length_map, I.len]; omega, fun H5 z o5 m5 c5 e5 hb5 ho5 hz hzn => ?_⟩
      have x5 : Exb b H3 H5 := (Exb.of s4).trans e5
      refine ⟨_, rfl, _, rfl, b, sn, o5, m5, c5, rfl, hb5, ho5, by omega, by omega, fun H6 v6 fs j6 dp6 hf6 hbits => ?_⟩
      have x6 : Exb b H3 H6 := x5.trans j6.e
      have hl6 : H6 l = some (.lst xs) := x6 _ _ nl hl3
      have dpx6 : DpAll K H6 xs (hs.map encH) := dpExbAll hb3 x6 (noL_mapH hs) dp3
      refine ⟨by show 2 ≤ sizeLine; decide, fun q hq => ?_⟩
      have s7 := same_new (o := .tup [.str z, v6]) hq
      have hl7 := s7 _ _ hl6
      refine ⟨l, xs, .ref q, rfl, rfl, hl7, ?_, ?_⟩
      · rw [dpAll_len I.dp, List.length_map, I.len]
        exact small1000 (by omega)
      · refine ⟨hs ++ [(z, fs)], xs ++ [.ref q], _, _, rfl, ?_⟩
        have j6' : Jr b H H6 := Jr.trans (e2.trans (x3.trans x5)) j6
        have j7 : Jr b H (upd H6 q (.tup [.str z, v6])) := j6'.same s7
        have dp7 : DpAll K (upd H6 q (.tup [.str z, v6])) xs (hs.map encH) := dpSameAll s7 dpx6
        have dq : Dp K (upd H6 q (.tup [.str z, v6])) (.ref q) (encH (z, fs)) := .tup (SqT.of upd_same) (.cons (.str z) (.cons (dpSame s7 dp6) .nil))
        refine ⟨j7.put hl nl, upd_same, ?_, by rw [List.length_append, I.len]; rfl, fun g hg => ?_, fun g hg => ?_, ?_⟩
        · rw [List.map_append]
          exact dpAll_snoc (dpExb hl7 Exb.put (noL_encH _) dq) (dpExbAll hl7 Exb.put (noL_mapH hs) dp7)
        · rcases List.mem_append.mp hg with hg | hg
          · exact I.nm g hg
          · rw [List.mem_singleton.mp hg]
            exact hz
        · rcases List.mem_append.mp hg with hg | hg
          · exact I.fo g hg
          · rw [List.mem_singleton.mp hg]
            exact hf6
        · rw [List.map_append, List.nodup_append]
          refine ⟨I.nd, by simp, fun x hx y hy => ?_⟩
          simp at hy
          subst hy
          exact fun e => hzn (e ▸ hx)
    · rintro σ H2 ⟨hs, xs, v4, v5, rfl, I⟩
      refine ⟨_, rfl, l, _, rfl, .inl ⟨SqL.of I.hl, fun t ht => ?_⟩⟩
      have hl2 := I.len
      exact k _ _ hs (I.j.same (same_new ht)) (.tup (SqT.of upd_same) (dpSameAll (same_new ht) I.dp)) ⟨by omega, I.nm, I.fo, I.nd⟩ (by omega) (by omega)
end
end LJ

namespace Bt
/-! ### bits, the highest first -/
def valB (l : List Nat) : Nat := l.foldl (fun a b => 2 * a + b) 0
theorem foldB (l : List Nat) : ∀ a, l.foldl (fun a b => 2 * a + b) a = a * 2 ^ l.length + valB l := by
  induction l with
  | nil => intro a; simp [valB]
  | cons b l ih =>
    intro a
    unfold valB
    rw [List.foldl_cons, List.foldl_cons, ih, ih (2 * 0 + b), List.length_cons, Nat.pow_succ]
    have : (2 * a + b) * 2 ^ l.length = a * (2 ^ l.length * 2) + b * 2 ^ l.length := by
      rw [Nat.add_mul, Nat.mul_comm 2 a, Nat.mul_assoc, Nat.mul_comm 2]
    rw [this]
    simp
    omega
theorem valB_cons (b : Nat) (l : List Nat) : valB (b :: l) = b * 2 ^ l.length + valB l := by
  have := foldB l b
  unfold valB at this ⊢
  rw [List.foldl_cons]
  simpa using this
theorem valB_append (l m : List Nat) : valB (l ++ m) = valB l * 2 ^ m.length + valB m := by
  unfold valB
  rw [List.foldl_append, foldB]
  rfl
theorem valB_snoc (l : List Nat) (b : Nat) : valB (l ++ [b]) = 2 * valB l + b := by
  rw [valB_append]
  simp [valB]
  omega
def Bits (l : List Nat) : Prop := ∀ b ∈ l, b < 2
theorem Bits.app {l m : List Nat} (h : Bits l) (k : Bits m) : Bits (l ++ m) := fun b hb => (List.mem_append.mp hb).elim (h b) (k b)
theorem valB_lt : ∀ {l : List Nat}, Bits l → valB l < 2 ^ l.length
  | [], _ => by simp [valB]
  | b :: l, h => by
    have ih := valB_lt (l := l) fun x hx => h x (List.mem_cons_of_mem _ hx)
    have hb := h b List.mem_cons_self
    rw [valB_cons, List.length_cons, Nat.pow_succ]
    have : b * 2 ^ l.length ≤ 1 * 2 ^ l.length := Nat.mul_le_mul_right _ (by omega)
    omega
def bitsN (w n : Nat) : List Nat := (List.range w).map fun i => n / 2 ^ (w - 1 - i) % 2
theorem bitsN_len (w n : Nat) : (bitsN w n).length = w := by simp [bitsN]
theorem bitsN_bits (w n : Nat) : Bits (bitsN w n) := fun b hb => by
  obtain ⟨i, _, rfl⟩ := List.mem_map.mp hb
  exact Nat.mod_lt _ (by decide)
theorem bitsN_succ (w n : Nat) : bitsN (w + 1) n = (n / 2 ^ w % 2) :: bitsN w n := by
  unfold bitsN
  rw [List.range_succ_eq_map, List.map_cons, List.map_map]
  congr 1
  refine List.map_congr_left fun i hi => ?_
  show n / 2 ^ (w + 1 - 1 - (i + 1)) % 2 = n / 2 ^ (w - 1 - i) % 2
  rw [show w + 1 - 1 - (i + 1) = w - 1 - i by omega]
theorem valB_bitsN : ∀ (w n : Nat), valB (bitsN w n) = n % 2 ^ w
  | 0, n => by simp [bitsN, valB, Nat.mod_one]
  | w + 1, n => by
    rw [bitsN_succ, valB_cons, bitsN_len, valB_bitsN w n, Nat.pow_succ]
    have h := Nat.mod_mul (x := n) (a := 2 ^ w) (b := 2)
    rw [h, Nat.mul_comm (2 ^ w)]
    omega
theorem bitsN_mod (w n k : Nat) : bitsN w (n + k * 2 ^ w) = bitsN w n := by
  unfold bitsN
  refine List.map_congr_left fun i hi => ?_
  have hi' := List.mem_range.mp hi
  have e : 2 ^ w = 2 ^ (w - 1 - i) * 2 ^ (i + 1) := by rw [← Nat.pow_add]; congr 1; omega
  rw [e, ← Nat.mul_assoc, Nat.mul_comm k, Nat.mul_assoc, Nat.add_mul_div_left _ _ (Nat.pow_pos (by decide)), Nat.pow_succ, ← Nat.mul_assoc, Nat.mul_comm (k * 2 ^ i) 2, Nat.add_mul_mod_self_left]
theorem bitsN_valB : ∀ {l : List Nat}, Bits l → bitsN l.length (valB l) = l
  | [], _ => rfl
  | b :: l, h => by
    have hl : Bits l := fun x hx => h x (List.mem_cons_of_mem _ hx)
    have ih := bitsN_valB hl
    have hb := h b List.mem_cons_self
    have lt := valB_lt hl
    rw [List.length_cons, bitsN_succ, valB_cons]
    have e1 : (b * 2 ^ l.length + valB l) / 2 ^ l.length % 2 = b := by
      rw [Nat.mul_comm, Nat.mul_add_div (Nat.pow_pos (by decide)), Nat.div_eq_of_lt lt]
      omega
    rw [e1, Nat.add_comm, bitsN_mod, ih]
/-- a slice's worth -/
theorem slice {l : List Nat} (hl : Bits l) {a w : Nat} (h : a + w ≤ l.length) : valB ((l.drop a).take w) = valB l / 2 ^ (l.length - a - w) % 2 ^ w := by
  have e : l = l.take a ++ ((l.drop a).take w ++ (l.drop a).drop w) := by rw [List.take_append_drop, List.take_append_drop]
  have h2 : Bits ((l.drop a).take w) := fun b hb => hl b (List.mem_of_mem_drop (List.mem_of_mem_take hb))
  have h3 : Bits ((l.drop a).drop w) := fun b hb => hl b (List.mem_of_mem_drop (List.mem_of_mem_drop hb))
  have l2 : ((l.drop a).take w).length = w := by rw [List.length_take, List.length_drop]; omega
  have l3 : ((l.drop a).drop w).length = l.length - a - w := by rw [List.length_drop, List.length_drop]
  have v2 := valB_lt h2
  have v3 := valB_lt h3
  rw [l2] at v2
  rw [l3] at v3
  have ev : valB l = (valB (l.take a) * 2 ^ w + valB ((l.drop a).take w)) * 2 ^ (l.length - a - w) + valB ((l.drop a).drop w) := by
    have q : valB l = valB (l.take a ++ ((l.drop a).take w ++ (l.drop a).drop w)) := congrArg valB e
    rw [q, valB_append, valB_append, List.length_append, l2, l3, Nat.pow_add, Nat.add_mul, Nat.mul_assoc]
    omega
  rw [ev, Nat.mul_comm _ (2 ^ (l.length - a - w)), Nat.mul_add_div (Nat.pow_pos (by decide)), Nat.div_eq_of_lt v3, Nat.add_zero, Nat.mul_comm (valB (l.take a)), Nat.mul_add_mod, Nat.mod_eq_of_lt v2]
/-! ### bytes and words -/
def allBits (bs : List Nat) : List Nat := bs.flatMap (bitsN 8)
def wbits : List Nat → List Nat → List Nat
  | w :: ws, n :: ns => bitsN w n ++ wbits ws ns
  | _, _ => []
def readW : List Nat → List Nat → List Nat
  | [], _ => []
  | w :: ws, l => valB (l.take w) :: readW ws (l.drop w)
def bytesOf : Nat → List Nat → List Nat
  | 0, _ => []
  | k + 1, l => valB (l.take 8) :: bytesOf k (l.drop 8)
theorem allBits_len (bs : List Nat) : (allBits bs).length = 8 * bs.length := by
  induction bs with
  | nil => rfl
  | cons b bs ih =>
    have e : allBits (b :: bs) = bitsN 8 b ++ allBits bs := rfl
    rw [e, List.length_append, ih, bitsN_len, List.length_cons]
    omega
theorem allBits_bits (bs : List Nat) : Bits (allBits bs) := fun b hb => by
  obtain ⟨x, _, hx⟩ := List.mem_flatMap.mp hb
  exact bitsN_bits 8 x b hx
theorem wbits_bits : ∀ ws ns, Bits (wbits ws ns)
  | [], _ => fun b hb => by simp [wbits] at hb
  | _ :: _, [] => fun b hb => by simp [wbits] at hb
  | w :: ws, n :: ns => (bitsN_bits w n).app (wbits_bits ws ns)
theorem wbits_len : ∀ {ws ns : List Nat}, ns.length = ws.length → (wbits ws ns).length = ws.sum
  | [], [], _ => rfl
  | [], _ :: _, h => by simp at h
  | _ :: _, [], h => by simp at h
  | w :: ws, n :: ns, h => by
    show (bitsN w n ++ wbits ws ns).length = (w :: ws).sum
    rw [List.length_append, bitsN_len, wbits_len (by simpa using h), List.sum_cons]
theorem readW_len : ∀ (ws l : List Nat), (readW ws l).length = ws.length
  | [], _ => rfl
  | w :: ws, l => by simp [readW, readW_len ws]
theorem bytesOf_len : ∀ (k : Nat) (l : List Nat), (bytesOf k l).length = k
  | 0, _ => rfl
  | k + 1, l => by simp [bytesOf, bytesOf_len k]
/-- words that fit -/
inductive Fit : List Nat → List Nat → Prop
  | nil : Fit [] []
  | cons {w n : Nat} {ws ns : List Nat} : n < 2 ^ w → Fit ws ns → Fit (w :: ws) (n :: ns)
theorem Fit.len : ∀ {ws ns : List Nat}, Fit ws ns → ns.length = ws.length
  | _, _, .nil => rfl
  | _, _, .cons _ r => by rw [List.length_cons, List.length_cons, r.len]
theorem readW_fit : ∀ {ws l : List Nat}, Bits l → Fit ws (readW ws l)
  | [], _, _ => .nil
  | w :: ws, l, h => .cons (Nat.lt_of_lt_of_le (valB_lt fun b hb => h b (List.mem_of_mem_take hb)) (Nat.pow_le_pow_right (by decide) (List.length_take_le _ _))) (readW_fit fun b hb => h b (List.mem_of_mem_drop hb))
theorem readW_wbits : ∀ {ws ns : List Nat}, Fit ws ns → readW ws (wbits ws ns) = ns
  | _, _, .nil => rfl
  | _, _, .cons (w := w) (n := n) (ws := ws) (ns := ns) h r => by
    show valB ((bitsN w n ++ wbits ws ns).take w) :: readW ws ((bitsN w n ++ wbits ws ns).drop w) = n :: ns
    have e1 : (bitsN w n ++ wbits ws ns).take w = bitsN w n := by
      rw [List.take_append_of_le_length (by rw [bitsN_len]; exact Nat.le_refl _), List.take_of_length_le (by rw [bitsN_len]; exact Nat.le_refl _)]
    have e2 : (bitsN w n ++ wbits ws ns).drop w = wbits ws ns := by
      have q := List.drop_left (l₁ := bitsN w n) (l₂ := wbits ws ns)
      rw [bitsN_len] at q
      exact q
    rw [e1, e2, valB_bitsN, Nat.mod_eq_of_lt h, readW_wbits r]
theorem wbits_readW : ∀ {ws l : List Nat}, Bits l → l.length = ws.sum → wbits ws (readW ws l) = l
  | [], l, _, h => by
    have : l = [] := List.length_eq_zero_iff.mp (by simpa using h)
    subst this
    rfl
  | w :: ws, l, hb, h => by
    rw [List.sum_cons] at h
    show bitsN w (valB (l.take w)) ++ wbits ws (readW ws (l.drop w)) = l
    have l1 : (l.take w).length = w := by rw [List.length_take]; omega
    have q := bitsN_valB (l := l.take w) fun b hx => hb b (List.mem_of_mem_take hx)
    rw [l1] at q
    rw [q, wbits_readW (fun b hx => hb b (List.mem_of_mem_drop hx)) (by rw [List.length_drop]; omega), List.take_append_drop]
theorem bytesOf_allBits : ∀ {bs : List Nat}, (∀ b ∈ bs, b < 256) → bytesOf bs.length (allBits bs) = bs
  | [], _ => rfl
  | b :: bs, h => by
    show valB ((bitsN 8 b ++ allBits bs).take 8) :: bytesOf bs.length ((bitsN 8 b ++ allBits bs).drop 8) = b :: bs
    have e1 : (bitsN 8 b ++ allBits bs).take 8 = bitsN 8 b := by
      rw [List.take_append_of_le_length (by rw [bitsN_len]; exact Nat.le_refl _), List.take_of_length_le (by rw [bitsN_len]; exact Nat.le_refl _)]
    have e2 : (bitsN 8 b ++ allBits bs).drop 8 = allBits bs := by
      have q := List.drop_left (l₁ := bitsN 8 b) (l₂ := allBits bs)
      rw [bitsN_len] at q
      exact q
    rw [e1, e2, valB_bitsN, Nat.mod_eq_of_lt (h b List.mem_cons_self), bytesOf_allBits fun x hx => h x (List.mem_cons_of_mem _ hx)]
theorem allBits_bytesOf : ∀ {k : Nat} {l : List Nat}, Bits l → l.length = 8 * k → allBits (bytesOf k l) = l
  | 0, l, _, h => by
    have : l = [] := List.length_eq_zero_iff.mp (by simpa using h)
    subst this
    rfl
  | k + 1, l, hb, h => by
    show bitsN 8 (valB (l.take 8)) ++ allBits (bytesOf k (l.drop 8)) = l
    have l1 : (l.take 8).length = 8 := by rw [List.length_take]; omega
    have q := bitsN_valB (l := l.take 8) fun b hx => hb b (List.mem_of_mem_take hx)
    rw [l1] at q
    rw [q, allBits_bytesOf (fun b hx => hb b (List.mem_of_mem_drop hx)) (by rw [List.length_drop]; omega), List.take_append_drop]
theorem bytesOf_lt : ∀ {k : Nat} {l : List Nat}, Bits l → ∀ b ∈ bytesOf k l, b < 256
  | 0, _, _, b, h => by simp [bytesOf] at h
  | k + 1, l, hb, b, h => by
    rcases List.mem_cons.mp h with rfl | h
    · exact Nat.lt_of_lt_of_le (valB_lt fun b hx => hb b (List.mem_of_mem_take hx)) (Nat.le_trans (Nat.pow_le_pow_right (by decide) (List.length_take_le _ _)) (by decide))
    · exact bytesOf_lt (fun b hx => hb b (List.mem_of_mem_drop hx)) b h
theorem readW_get : ∀ (ws l : List Nat) (i : Nat) (w : Nat), ws[i]? = some w → (readW ws l)[i]? = some (valB ((l.drop (ws.take i).sum).take w))
  | [], _, i, _, h => by simp at h
  | w0 :: ws, l, 0, w, h => by
    simp at h
    subst h
    simp [readW]
  | w0 :: ws, l, i + 1, w, h => by
    have q := readW_get ws (l.drop w0) i w (by simpa using h)
    simp only [readW, List.getElem?_cons_succ, List.take_succ_cons, List.sum_cons]
    rw [q, List.drop_drop]
theorem bytesOf_get : ∀ (k : Nat) (l : List Nat) (i : Nat), i < k → (bytesOf k l)[i]? = some (valB ((l.drop (8 * i)).take 8))
  | 0, _, _, h => by omega
  | k + 1, l, 0, _ => by simp [bytesOf]
  | k + 1, l, i + 1, h => by
    have q := bytesOf_get k (l.drop 8) i (by omega)
    simp only [bytesOf, List.getElem?_cons_succ]
    rw [q, List.drop_drop, show 8 + 8 * i = 8 * (i + 1) by omega]
/-- bytes and words of fields of these widths that are the same bits -/
structure Rel (ws bs ns : List Nat) : Prop where
  len : 8 * bs.length = ws.sum
  b : ∀ b ∈ bs, b < 256
  fit : Fit ws ns
  rd : ns = readW ws (allBits bs)
  wr : bs = bytesOf bs.length (wbits ws ns)
theorem rel_of_bytes {ws bs : List Nat} (h : 8 * bs.length = ws.sum) (b : ∀ b ∈ bs, b < 256) : Rel ws bs (readW ws (allBits bs)) :=
  ⟨h, b, readW_fit (allBits_bits bs), rfl, by rw [wbits_readW (allBits_bits bs) (by rw [allBits_len]; exact h), bytesOf_allBits b]⟩
theorem rel_of_words {ws ns : List Nat} {k : Nat} (h : 8 * k = ws.sum) (f : Fit ws ns) : Rel ws (bytesOf k (wbits ws ns)) ns := by
  have l := wbits_len f.len
  refine ⟨by rw [bytesOf_len]; exact h, bytesOf_lt (wbits_bits ws ns), f, ?_, by rw [bytesOf_len]⟩
  rw [allBits_bytesOf (wbits_bits ws ns) (by omega), readW_wbits f]
end Bt

namespace LJ
open PySem PySem.Spec PyProof.Rows L2 GuL HG Bt
def vN (ns : List Nat) : List V := ns.map fun (n : Nat) => V.int (n : Int)
def encNs (ns : List Nat) : PyData := .tuple (ns.map fun (n : Nat) => PyData.int (n : Int))
def wds (fs : List Fld) : List Nat := fs.map (·.2)
theorem bits_wds (fs : List Fld) : bitsOf fs = (wds fs).sum := rfl
theorem dp_vN {K : PySem.W.Frag} {H : Hp} : ∀ ns : List Nat, DpAll K H (vN ns) (ns.map fun (n : Nat) => PyData.int (n : Int))
  | [] => .nil
  | n :: ns => .cons (.int n) (dp_vN ns)
theorem dp_vN_inv {K : PySem.W.Frag} {H : Hp} : ∀ {xs : List V} {ns : List Nat}, DpAll K H xs (ns.map fun (n : Nat) => PyData.int (n : Int)) → xs = vN ns
  | _, [], .nil => rfl
  | _, n :: ns, .cons h r => by rw [dp_int h, dp_vN_inv r]; rfl
theorem noL_encNs (ns : List Nat) : NoL (encNs ns) := .tup fun d hd => by
  obtain ⟨n, _, rfl⟩ := List.mem_map.mp hd
  exact .int _
theorem dp_encNs {K : PySem.W.Frag} {H : Hp} {a : Addr} {ns : List Nat} (h : H a = some (.tup (vN ns))) : Dp K H (.ref a) (encNs ns) := .tup (SqT.of h) (dp_vN ns)
theorem vN_len (ns : List Nat) : (vN ns).length = ns.length := by simp [vN]
theorem vN_get {ns : List Nat} {i n : Nat} (h : ns[i]? = some n) : (vN ns)[i]? = some (.int (n : Int)) := by
  unfold vN
  rw [List.getElem?_map, h]
  rfl
theorem vN_at {ns : List Nat} {i : Nat} {x : V} (h : (vN ns)[i]? = some x) : ∃ n, ns[i]? = some n ∧ x = .int (n : Int) := by
  unfold vN at h
  rw [List.getElem?_map] at h
  obtain ⟨n, h1, h2⟩ := Option.map_eq_some_iff.mp h
  exact ⟨n, h1, h2.symm⟩
theorem vN_snoc (ns : List Nat) (n : Nat) : vN (ns ++ [n]) = vN ns ++ [.int (n : Int)] := by simp [vN]
theorem cut_nat (xs : List V) {a b : Nat} (h1 : a ≤ b) (h2 : b ≤ xs.length) : cutV xs (some (a : Int)) (some (b : Int)) = (xs.drop a).take (b - a) := by
  unfold cutV
  rw [HT.sIx_nat, HT.sIx_nat, Nat.min_eq_left h2, Nat.min_eq_left (Nat.le_trans h1 h2)]
theorem Same.mut {H H' : Hp} {l : Addr} {o : HO} (s : Same H H') (h : H l = none) : Same H (upd H' l o) := fun b u e => by
  rw [upd_ne (ne_of_none e h)]
  exact s b u e
theorem bit_one {b k : Nat} : Builtin.bitAnd ((b : Int) / 2 ^ k) 1 = ((b / 2 ^ k % 2 : Nat) : Int) := by
  have h := Bits.bitAnd_mask (x := ((b : Int) / 2 ^ k)) 1 (Int.ediv_nonneg (by omega) (Int.le_of_lt (Int.pow_pos (by decide))))
  have e : (2 : Int) ^ 1 - 1 = 1 := by decide
  rw [e] at h
  rw [h]
  norm_cast
theorem rg8 : ∀ n : Nat, n ≤ 16 → RgC 0 (8 * (n : Int)) 8 n := by
  unfold RgC
  decide +kernel
theorem take_bit {l : List Nat} {j x : Nat} (h : l[j]? = some x) : valB (l.take (j + 1)) = 2 * valB (l.take j) + x := by
  rw [List.take_add_one, h]
  exact valB_snoc _ _
theorem bitsN_at {w n j : Nat} (h : j < w) : (bitsN w n)[j]? = some (n / 2 ^ (w - 1 - j) % 2) := by
  unfold bitsN
  rw [List.getElem?_map, List.getElem?_range h]
  rfl
theorem allBits_snoc (bs : List Nat) (b : Nat) : allBits (bs ++ [b]) = allBits bs ++ bitsN 8 b := by
  unfold allBits
  rw [List.flatMap_append]
  simp
theorem wbits_snoc : ∀ {ws ns : List Nat} {w n : Nat}, ns.length = ws.length → wbits (ws ++ [w]) (ns ++ [n]) = wbits ws ns ++ bitsN w n
  | [], [], w, n, _ => by simp [wbits]
  | [], _ :: _, _, _, h => by simp at h
  | _ :: _, [], _, _, h => by simp at h
  | w0 :: ws, n0 :: ns, w, n, h => by
    simp only [List.cons_append, wbits]
    rw [wbits_snoc (by simpa using h), List.append_assoc]
theorem sum_take_succ {ws : List Nat} {i w : Nat} (h : ws[i]? = some w) : (ws.take (i + 1)).sum = (ws.take i).sum + w := by
  rw [List.take_add_one, h, List.sum_append]
  simp
theorem sum_take_le (ws : List Nat) (i : Nat) : (ws.take i).sum ≤ ws.sum := by
  have h := congrArg List.sum (List.take_append_drop i ws)
  rw [List.sum_append] at h
  omega
end LJ

namespace LJ
open PySem PySem.Spec PyProof.Rows L2 GuL HG Bt
abbrev sSize : Stmt := topS 42
abbrev sRead : Stmt := topS 43
abbrev sWritten : Stmt := topS 44
abbrev sBytes : Stmt := topS 45
abbrev sWords : Stmt := topS 46
section
variable {P : Program} {w : World} {K : PySem.W.Frag} {mg : Str → Option Value} {base : Heap}
/-! ### reading -/
theorem take_all (l : List Nat) : l.take (vN l).length = l := List.take_of_length_le (by rw [vN_len]; exact Nat.le_refl _)
theorem scRead : FnScope ["_law_fields_here", "_law_taken", "_law_bits", "_law_found", "_law_at", "_law_byte", "_law_k", "_law_field", "_law_width", "_law_word_here", "_law_bit"] ["_law_fields_here", "_law_taken"] (defScope sRead) := ⟨rfl, rfl, rfl, by decide +kernel, rfl, by decide +kernel, by decide +kernel⟩
def spRead (K : PySem.W.Frag) : Sp := fun vs H Q _ => ∃ (v u : V) (fs : List Fld) (bs : List Nat), vs = [v, u] ∧ Dp K H v (encFs fs) ∧ Dp K H u (encNs bs) ∧ fs.length ≤ 12 ∧ bs.length ≤ 16 ∧ 8 * bs.length = (wds fs).sum ∧
  ∀ H' p, Same H H' → H' p = some (.tup (vN (readW (wds fs) (allBits bs)))) → Q (.ref p) H'
theorem ok_read {f : Addr} {fd : FuncData} (F : Fun K "_law_read" "_law_read" sRead f fd) (B : Blt mg) : FnOk P w K mg base CX0 1 f fd ["_law_fields_here", "_law_taken"] (spRead K) := by
  refine F.ok scRead (fun vs H Q E h => ?_) (fun cdv A outer s H vs Q E hr h => ?_)
  · obtain ⟨v, u, fs, bs, rfl, _⟩ := h
    rfl
  · obtain ⟨v, u, fs, bs, rfl, dv, du, l12, l16, hsum, k⟩ := h
    refine ⟨_, pss_cons (ps_par3 (i := 2) (j := 3) (l := 4) (by rfl) scRead.nd rfl rfl rfl (by decide) (by decide) (by decide) rfl rfl rfl (pa_cons (pe_lst pa_nil) (pa_cons (pe_lst pa_nil) (pa_cons pe_int pa_nil))) (by rfl))
      (pss_cons (ps_for PassesOwn.never rfl (pi_tup (pv 1)) (pg_name (i := 5) scRead.nd rfl (.inl rfl)) (pss_one (ps_for PassesOwn.never rfl (pi_range3 rfl B.range (pa_cons pe_int (pa_cons (pe_un un_neg pe_int) (pa_cons (pe_un un_neg pe_int) pa_nil)))) (pg_name (i := 6) scRead.nd rfl (.inl rfl))
        (pss_one (ps_expr (pe_bm PySem.F.plainAttrs_list PySem.F.slot_list_append PySem.F.type_list_append mt_append (pv 2) (pa_cons (pe_op op_and (pe_op op_shr (pv 5) (pv 6)) pe_int) pa_nil)))))))
      (pss_cons (ps_for PassesOwn.never rfl (pi_tup (pv 0)) (pg_tup rfl (pgs_cons (pg_name (i := 7) scRead.nd rfl (.inl rfl)) (pgs_cons (pg_name (i := 8) scRead.nd rfl (.inl rfl)) pgs_nil)))
        (pss_cons (ps_set (i := 9) scRead.nd rfl (.inl rfl) pe_int)
        (pss_cons (ps_for PassesOwn.never rfl (pi_list (pe_slice sl_list (pv 2) (po_some (pv 4)) (po_some (pe_op op_add (pv 4) (pv 8))))) (pg_name (i := 10) scRead.nd rfl (.inl rfl)) (pss_one (ps_set (i := 9) scRead.nd rfl (.inl rfl) (pe_op op_add (pe_op op_mul pe_int (pv 9)) (pv 10)))))
        (pss_cons (ps_expr (pe_bm PySem.F.plainAttrs_list PySem.F.slot_list_append PySem.F.type_list_append mt_append (pv 3) (pa_cons (pv 9) pa_nil)))
        (pss_one (ps_set (i := 4) scRead.nd rfl (.inl rfl) (pe_op op_add (pv 4) (pv 8))))))))
      (pss_one (ps_ret (pe_callTy call_tuple_of (by rfl) B.tuple (by decide +kernel) (pa_cons (pv 3) pa_nil)))))), ?_⟩
    refine ⟨Nat.zero_le _, fun lb hlb => ⟨Nat.zero_le _, fun lf hlf => ⟨_, _, _, rfl, ?_⟩⟩⟩
    have nbf : lb ≠ lf := fun z => by
      rw [← z, upd_same] at hlf
      cases hlf
    have hlf0 : H lf = none := by
      rw [upd_ne (Ne.symm nbf)] at hlf
      exact hlf
    have s0 := (same_new (o := .lst []) hlb).trans (same_new (o := .lst []) hlf)
    obtain ⟨ta, txs, rfl, hta, hda⟩ := dp_tup du
    obtain rfl := dp_vN_inv hda
    obtain ⟨fa, fxs, rfl, hfa, hfd⟩ := dp_tup dv
    refine ⟨_, rfl, ta, rfl, ⟨_, sameT s0 hta⟩, for_tup (K := K) (a := ta) (xs := vN bs) (fun i σ H' => ∃ v5 v6 : Option V, σ = [some (.ref fa), some (.ref ta), some (.ref lb), some (.ref lf), some (.int 0), v5, v6, none, none, none, none] ∧ Same H H' ∧ H' lb = some (.lst (vN (allBits (bs.take i)))) ∧ H' lf = some (.lst []))
      ⟨_, _, rfl, s0, by rw [upd_ne nbf]; exact upd_same, upd_same⟩ (fun i σ H' _ ⟨_, _, _, q, _⟩ => sameT q hta) ?_ ?_⟩
    · rintro i x σ H1 hi ⟨v5, v6, rfl, s1, fb, ff⟩
      obtain ⟨bn, hbn, rfl⟩ := vN_at hi
      have i16 : i < 16 := by
        have := (List.getElem?_eq_some_iff.mp hbn).1
        omega
      refine ⟨1, rfl, 1, rfl, 7, -1, -1, 8, rfl, RgC.neg (by decide) (by decide) (by decide) (by decide), for_rangeC (lo := 7) (c := -1) (n := 8) (fun j σ H' => ∃ v6 : Option V, σ = [some (.ref fa), some (.ref ta), some (.ref lb), some (.ref lf), some (.int 0), some (.int (bn : Int)), v6, none, none, none, none] ∧ Same H H' ∧
        H' lb = some (.lst (vN (allBits (bs.take i) ++ (bitsN 8 bn).take j))) ∧ H' lf = some (.lst [])) ⟨_, rfl, s1, by rw [List.take_zero, List.append_nil]; exact fb, ff⟩ ?_ ?_⟩
      · rintro j σ H2 hj ⟨v6, rfl, s2, fb2, ff2⟩
        have ej : (7 : Int) + (j : Nat) * -1 = ((8 - 1 - j : Nat) : Int) := by omega
        refine ⟨_, rfl, .inl ⟨rfl, _, SqL.of fb2⟩, _, rfl, _, rfl, _, _, rfl, rfl, by omega, _, _, rfl, rfl, lb, _, _, rfl, rfl, fb2, ?_, _, rfl, Same.mut s2 hlb, ?_, by rw [upd_ne (Ne.symm nbf)]; exact ff2⟩
        · rw [vN_len, List.length_append, allBits_len]
          have h1 := List.length_take_le i bs
          have h2 := List.length_take_le j (bitsN 8 bn)
          exact small1000 (by omega)
        · rw [upd_same, List.take_add_one, bitsN_at hj, ← List.append_assoc]
          show _ = some (HO.lst (vN (_ ++ [_])))
          rw [vN_snoc, ej, Int.toNat_natCast]
          show some (HO.lst (_ ++ [V.int (Builtin.bitAnd ((bn : Int) / 2 ^ (8 - 1 - j)) 1)])) = _
          rw [bit_one]
      · rintro σ H2 ⟨v6, rfl, s2, fb2, ff2⟩
        refine ⟨_, _, rfl, s2, ?_, ff2⟩
        rw [List.take_add_one, hbn]
        show _ = some (HO.lst (vN (allBits (bs.take i ++ [bn]))))
        rw [allBits_snoc]
        have e8 : (bitsN 8 bn).take 8 = bitsN 8 bn := List.take_of_length_le (by rw [bitsN_len]; exact Nat.le_refl _)
        rw [e8] at fb2
        exact fb2
    · rintro σ H1 ⟨v5, v6, rfl, s1, fb, ff⟩
      rw [List.take_of_length_le (by rw [vN_len]; exact Nat.le_refl _)] at fb
      have dl := dpAll_len hfd
      rw [List.length_map] at dl
      refine ⟨_, rfl, fa, rfl, ⟨_, sameT s1 hfa⟩, for_tup (K := K) (a := fa) (xs := fxs) (fun i σ H' => ∃ v5 v6 v7 v8 v9 v10 : Option V, σ = [some (.ref fa), some (.ref ta), some (.ref lb), some (.ref lf), some (.int ((((wds fs).take i).sum : Nat) : Int)), v5, v6, v7, v8, v9, v10] ∧ Same H H' ∧ H' lb = some (.lst (vN (allBits bs))) ∧
        H' lf = some (.lst (vN ((readW (wds fs) (allBits bs)).take i)))) ⟨_, _, _, _, _, _, rfl, s1, fb, ff⟩ (fun i σ H' _ ⟨_, _, _, _, _, _, _, q, _⟩ => sameT q hfa) ?_ ?_⟩
      · rintro i x σ H2 hi ⟨v5, v6, v7, v8, v9, v10, rfl, s2, fb2, ff2⟩
        obtain ⟨d, hd1, hd2⟩ := dpAll_at hfd hi
        rw [List.getElem?_map] at hd1
        obtain ⟨fl, hfl, rfl⟩ := Option.map_eq_some_iff.mp hd1
        obtain ⟨a, y, rfl, h1, h2⟩ := pair_dp (dpSame s2 hd2)
        obtain rfl := dp_int h2
        have hw : (wds fs)[i]? = some fl.2 := by
          unfold wds
          rw [List.getElem?_map, hfl]
          rfl
        have hle : ((wds fs).take i).sum + fl.2 ≤ (allBits bs).length := by
          have q1 := sum_take_succ hw
          have q2 := sum_take_le (wds fs) (i + 1)
          rw [allBits_len]
          omega
        have i12 : i < 12 := by
          have := (List.getElem?_eq_some_iff.mp hfl).1
          omega
        refine ⟨a, _, rfl, h1, rfl, _, _, rfl, _, _, rfl, rfl, ?_⟩
        refine ⟨_, rfl, _, rfl, _, rfl, _, rfl, _, rfl, _, _, rfl, rfl, _, rfl, lb, _, rfl, SqL.of fb2, fun c hc => ?_⟩
        have ecut : cutV (vN (allBits bs)) (some ((((wds fs).take i).sum : Nat) : Int)) (some (((((wds fs).take i).sum : Nat) : Int) + (fl.2 : Int))) = vN (((allBits bs).drop ((wds fs).take i).sum).take fl.2) := by
          have e : ((((wds fs).take i).sum : Nat) : Int) + (fl.2 : Int) = ((((wds fs).take i).sum + fl.2 : Nat) : Int) := by omega
          rw [e, cut_nat _ (Nat.le_add_right _ _) (by rw [vN_len]; exact hle), Nat.add_sub_cancel_left]
          unfold vN
          rw [List.map_take, List.map_drop]
        rw [ecut]
        have sc := same_new (o := .lst (vN (((allBits bs).drop ((wds fs).take i).sum).take fl.2))) hc
        refine ⟨c, rfl, ⟨_, SqL.of upd_same⟩, for_list (K := K) (a := c) (xs := vN (((allBits bs).drop ((wds fs).take i).sum).take fl.2)) (fun j σ H' => ∃ v10 : Option V, σ = [some (.ref fa), some (.ref ta), some (.ref lb), some (.ref lf), some (.int ((((wds fs).take i).sum : Nat) : Int)), v5, v6, some (.str fl.1), some (.int (fl.2 : Int)), some (.int ((valB ((((allBits bs).drop ((wds fs).take i).sum).take fl.2).take j) : Nat) : Int)), v10] ∧
          H' = upd H2 c (.lst (vN (((allBits bs).drop ((wds fs).take i).sum).take fl.2)))) ⟨_, rfl, rfl⟩ (fun j σ H' _ ⟨_, _, q⟩ => SqL.of (by rw [q]; exact upd_same)) ?_ ?_⟩
        · rintro j x σ H3 hj ⟨v10, rfl, rfl⟩
          obtain ⟨bt, hbt, rfl⟩ := vN_at hj
          refine ⟨_, rfl, _, _, rfl, rfl, .inl ⟨by decide, by decide⟩, _, rfl, _, _, rfl, rfl, some (.int (bt : Int)), ?_, rfl⟩
          rw [take_bit hbt]
          show [_, _, _, _, _, _, _, _, _, some (V.int (2 * ((valB _ : Nat) : Int) + (bt : Int))), _] = [_, _, _, _, _, _, _, _, _, some (V.int ((2 * valB _ + bt : Nat) : Int)), _]
          rw [Int.natCast_add, Int.natCast_mul]
          rfl
        · rintro σ H3 ⟨v10, rfl, rfl⟩
          rw [take_all]
          have s3 := s2.trans sc
          refine ⟨_, rfl, .inl ⟨rfl, _, SqL.of (sc _ _ ff2)⟩, _, rfl, lf, _, _, rfl, rfl, sc _ _ ff2, ?_, ?_⟩
          · rw [vN_len]
            exact small1000 (Nat.le_trans (List.length_take_le _ _) (by omega))
          · refine ⟨_, rfl, _, rfl, _, _, rfl, rfl, v5, v6, some (.str fl.1), some (.int (fl.2 : Int)), some (.int ((valB (((allBits bs).drop ((wds fs).take i).sum).take fl.2) : Nat) : Int)), v10, ?_, Same.mut s3 hlf0, by rw [upd_ne nbf]; exact sc _ _ fb2, ?_⟩
            · rw [sum_take_succ hw]
              rfl
            · rw [upd_same, List.take_add_one, readW_get _ _ i fl.2 hw, Option.toList_some, vN_snoc]
      · rintro σ H2 ⟨v5, v6, v7, v8, v9, v10, rfl, s2, fb2, ff2⟩
        refine ⟨_, rfl, lf, _, rfl, .inl ⟨SqL.of ff2, fun p hp => ?_⟩⟩
        have e : (readW (wds fs) (allBits bs)).take fxs.length = readW (wds fs) (allBits bs) := List.take_of_length_le (by rw [readW_len, dl]; unfold wds; rw [List.length_map]; exact Nat.le_refl _)
        show Q (.ref p) (upd H2 p (.tup (vN ((readW (wds fs) (allBits bs)).take fxs.length))))
        rw [e]
        exact k _ p (s2.trans (same_new hp)) upd_same
end
end LJ

namespace LJ
open PySem PySem.Spec PyProof.Rows L2 GuL HG Bt
section
variable {P : Program} {w : World} {K : PySem.W.Frag} {mg : Str → Option Value} {base : Heap}
/-! ### writing -/
theorem scWritten : FnScope ["_law_fields_here", "_law_words_here", "_law_bits", "_law_found", "_law_field", "_law_width", "_law_word_here", "_law_k", "_law_at", "_law_byte", "_law_bit"] ["_law_fields_here", "_law_words_here"] (defScope sWritten) := ⟨rfl, rfl, rfl, by decide +kernel, rfl, by decide +kernel, by decide +kernel⟩
def spWritten (K : PySem.W.Frag) : Sp := fun vs H Q _ => ∃ (v u : V) (fs : List Fld) (ns : List Nat) (k : Nat), vs = [v, u] ∧ Dp K H v (encFs fs) ∧ Dp K H u (encNs ns) ∧ fs.length ≤ 12 ∧ ns.length = fs.length ∧ 8 * k = (wds fs).sum ∧ k ≤ 16 ∧
  ∀ H' p, Same H H' → H' p = some (.tup (vN (bytesOf k (wbits (wds fs) ns)))) → Q (.ref p) H'
theorem wds_len (fs : List Fld) : (wds fs).length = fs.length := by unfold wds; rw [List.length_map]
theorem wds_at {fs : List Fld} {i : Nat} {fl : Fld} (h : fs[i]? = some fl) : (wds fs)[i]? = some fl.2 := by
  unfold wds
  rw [List.getElem?_map, h]
  rfl
theorem rgDown {w : Nat} (h : w ≤ 1000) : RgC ((w : Int) - 1) (-1) (-1) w := by
  have q := RgC.neg (i := (w : Int) - 1) (j := -1) (by omega) (by omega) (by decide) (by decide)
  have e : ((w : Int) - 1 - -1).toNat = w := by omega
  rw [e] at q
  exact q
theorem cut8 {l : List Nat} {i : Nat} (h : 8 * i + 8 ≤ l.length) : cutV (vN l) (some ((0 : Int) + (i : Nat) * 8)) (some ((0 : Int) + (i : Nat) * 8 + 8)) = vN ((l.drop (8 * i)).take 8) := by
  have e1 : (0 : Int) + (i : Nat) * 8 = ((8 * i : Nat) : Int) := by omega
  have e2 : ((8 * i : Nat) : Int) + 8 = ((8 * i + 8 : Nat) : Int) := by omega
  rw [e1, e2, cut_nat _ (Nat.le_add_right _ _) (by rw [vN_len]; exact h), Nat.add_sub_cancel_left]
  unfold vN
  rw [List.map_take, List.map_drop]
theorem ok_written {f : Addr} {fd : FuncData} (F : Fun K "_law_written" "_law_written" sWritten f fd) (B : Blt mg) : FnOk P w K mg base CX0 1 f fd ["_law_fields_here", "_law_words_here"] (spWritten K) := by
  refine F.ok scWritten (fun vs H Q E h => ?_) (fun cdv A outer s H vs Q E hr h => ?_)
  · obtain ⟨v, u, fs, ns, k, rfl, _⟩ := h
    rfl
  · obtain ⟨v, u, fs, ns, k, rfl, dv, du, l12, lns, hsum, k16, kk⟩ := h
    refine ⟨_, pss_cons (ps_par (i := 2) (j := 3) (by rfl) scWritten.nd rfl rfl (by decide) rfl rfl (pa_cons (pe_lst pa_nil) (pa_cons (pe_lst pa_nil) pa_nil)) (by rfl))
      (pss_cons (ps_for PassesOwn.never rfl (RZ.pi_zipA rfl B.zip (pa_cons (pv 0) (pa_cons (pv 1) pa_nil))) (pg_tup rfl (pgs_cons (pg_tup rfl (pgs_cons (pg_name (i := 4) scWritten.nd rfl (.inl rfl)) (pgs_cons (pg_name (i := 5) scWritten.nd rfl (.inl rfl)) pgs_nil))) (pgs_cons (pg_name (i := 6) scWritten.nd rfl (.inl rfl)) pgs_nil)))
        (pss_one (ps_for PassesOwn.never rfl (pi_range3 rfl B.range (pa_cons (pe_op op_sub (pv 5) pe_int) (pa_cons (pe_un un_neg pe_int) (pa_cons (pe_un un_neg pe_int) pa_nil)))) (pg_name (i := 7) scWritten.nd rfl (.inl rfl))
          (pss_one (ps_expr (pe_bm PySem.F.plainAttrs_list PySem.F.slot_list_append PySem.F.type_list_append mt_append (pv 2) (pa_cons (pe_op op_and (pe_op op_shr (pv 6) (pv 7)) pe_int) pa_nil)))))))
      (pss_cons (ps_for PassesOwn.never rfl (pi_range3 rfl B.range (pa_cons pe_int (pa_cons (pe_callB call_len_seq (by rfl) B.len PySem.boot_len (pa_cons (pv 2) pa_nil)) (pa_cons pe_int pa_nil)))) (pg_name (i := 8) scWritten.nd rfl (.inl rfl))
        (pss_cons (ps_set (i := 9) scWritten.nd rfl (.inl rfl) pe_int)
        (pss_cons (ps_for PassesOwn.never rfl (pi_list (pe_slice sl_list (pv 2) (po_some (pv 8)) (po_some (pe_op op_add (pv 8) pe_int)))) (pg_name (i := 10) scWritten.nd rfl (.inl rfl)) (pss_one (ps_set (i := 9) scWritten.nd rfl (.inl rfl) (pe_op op_add (pe_op op_mul pe_int (pv 9)) (pv 10)))))
        (pss_one (ps_expr (pe_bm PySem.F.plainAttrs_list PySem.F.slot_list_append PySem.F.type_list_append mt_append (pv 3) (pa_cons (pv 9) pa_nil)))))))
      (pss_one (ps_ret (pe_callTy call_tuple_of (by rfl) B.tuple (by decide +kernel) (pa_cons (pv 3) pa_nil)))))), ?_⟩
    refine ⟨Nat.zero_le _, fun lb hlb => ⟨Nat.zero_le _, fun lf hlf => ⟨_, _, rfl, ?_⟩⟩⟩
    have nbf : lb ≠ lf := fun z => by
      rw [← z, upd_same] at hlf
      cases hlf
    have hlf0 : H lf = none := by
      rw [upd_ne (Ne.symm nbf)] at hlf
      exact hlf
    have s0 := (same_new (o := .lst []) hlb).trans (same_new (o := .lst []) hlf)
    obtain ⟨ta, txs, rfl, hta, hda⟩ := dp_tup du
    obtain rfl := dp_vN_inv hda
    obtain ⟨fa, fxs, rfl, hfa, hfd⟩ := dp_tup dv
    have dl := dpAll_len hfd
    rw [List.length_map] at dl
    have lw := wds_len fs
    refine ⟨_, rfl, _, rfl, fa, ta, fxs, vN ns, rfl, .inr ⟨sameT s0 hfa, sameT s0 hta, ?_⟩⟩
    refine RZ.for_zipT (K := K) (a := fa) (b := ta) (xs := fxs) (ys := vN ns) (by rw [vN_len, dl, lns]) (fun i σ H' => ∃ v4 v5 v6 v7 : Option V, σ = [some (.ref fa), some (.ref ta), some (.ref lb), some (.ref lf), v4, v5, v6, v7, none, none, none] ∧ Same H H' ∧ H' lb = some (.lst (vN (wbits ((wds fs).take i) (ns.take i)))) ∧ H' lf = some (.lst []))
      ⟨_, _, _, _, rfl, s0, by rw [upd_ne nbf]; exact upd_same, upd_same⟩ (fun i σ H' ⟨_, _, _, _, _, q, _⟩ => ⟨sameT q hfa, sameT q hta⟩) ?_ ?_
    · rintro i x y T σ H1 hi hj' ⟨v4, v5, v6, v7, rfl, s1, fb, ff⟩ hT
      obtain ⟨d, hd1, hd2⟩ := dpAll_at hfd hi
      rw [List.getElem?_map] at hd1
      obtain ⟨fl, hfl, rfl⟩ := Option.map_eq_some_iff.mp hd1
      obtain ⟨a, y', rfl, h1, h2⟩ := pair_dp (dpSame s1 hd2)
      obtain rfl := dp_int h2
      obtain ⟨n, hn, rfl⟩ := vN_at hj'
      have hw := wds_at hfl
      have i12 : i < 12 := by
        have := (List.getElem?_eq_some_iff.mp hfl).1
        omega
      have w128 : ((wds fs).take i).sum + fl.2 ≤ 128 := by
        have q1 := sum_take_succ hw
        have q2 := sum_take_le (wds fs) (i + 1)
        omega
      have lwb : (wbits ((wds fs).take i) (ns.take i)).length = ((wds fs).take i).sum := wbits_len (by rw [List.length_take, List.length_take, lns, lw])
      have sT := same_new (o := .tup [.ref a, .int (n : Int)]) hT
      have nTb : lb ≠ T := fun z => by
        rw [← z, fb] at hT
        cases hT
      refine ⟨T, _, rfl, SqT.of upd_same, rfl, _, _, rfl, a, _, rfl, sameT sT h1, rfl, _, _, rfl, _, _, rfl, rfl, _, _, rfl, rfl, ?_⟩
      refine ⟨_, rfl, _, _, rfl, rfl, 1, rfl, 1, rfl, (fl.2 : Int) - 1, -1, -1, fl.2, rfl, rgDown (by omega), for_rangeC (lo := (fl.2 : Int) - 1) (c := -1) (n := fl.2) (fun j σ H' => ∃ v7 : Option V, σ = [some (.ref fa), some (.ref ta), some (.ref lb), some (.ref lf), some (.str fl.1), some (.int (fl.2 : Int)), some (.int (n : Int)), v7, none, none, none] ∧ Same H H' ∧
        H' lb = some (.lst (vN (wbits ((wds fs).take i) (ns.take i) ++ (bitsN fl.2 n).take j))) ∧ H' lf = some (.lst [])) ⟨_, rfl, s1.trans sT, by rw [List.take_zero, List.append_nil]; exact sT _ _ fb, sT _ _ ff⟩ ?_ ?_⟩
      · rintro j σ H2 hj ⟨v7, rfl, s2, fb2, ff2⟩
        have ej : (fl.2 : Int) - 1 + (j : Nat) * -1 = ((fl.2 - 1 - j : Nat) : Int) := by omega
        refine ⟨_, rfl, .inl ⟨rfl, _, SqL.of fb2⟩, _, rfl, _, rfl, _, _, rfl, rfl, by omega, _, _, rfl, rfl, lb, _, _, rfl, rfl, fb2, ?_, _, rfl, Same.mut s2 hlb, ?_, by rw [upd_ne (Ne.symm nbf)]; exact ff2⟩
        · rw [vN_len, List.length_append, lwb]
          have h2 := List.length_take_le j (bitsN fl.2 n)
          exact small1000 (by omega)
        · rw [upd_same, List.take_add_one, bitsN_at hj, ← List.append_assoc]
          show _ = some (HO.lst (vN (_ ++ [_])))
          rw [vN_snoc, ej, Int.toNat_natCast]
          show some (HO.lst (_ ++ [V.int (Builtin.bitAnd ((n : Int) / 2 ^ (fl.2 - 1 - j)) 1)])) = _
          rw [bit_one]
      · rintro σ H2 ⟨v7, rfl, s2, fb2, ff2⟩
        refine ⟨_, _, _, _, rfl, s2, ?_, ff2⟩
        rw [List.take_add_one, List.take_add_one, hw, hn]
        show _ = some (HO.lst (vN (wbits (_ ++ [_]) (_ ++ [_]))))
        rw [wbits_snoc (by rw [List.length_take, List.length_take, lns, lw])]
        have e8 : (bitsN fl.2 n).take fl.2 = bitsN fl.2 n := List.take_of_length_le (by rw [bitsN_len]; exact Nat.le_refl _)
        rw [e8] at fb2
        exact fb2
    · rintro σ H1 ⟨v4, v5, v6, v7, rfl, s1, fb, ff⟩
      rw [dl, List.take_of_length_le (by rw [lw]; exact Nat.le_refl _), List.take_of_length_le (by rw [lns]; exact Nat.le_refl _)] at fb
      have lwb : (wbits (wds fs) ns).length = 8 * k := by rw [wbits_len (by rw [lns, lw]), hsum]
      obtain ⟨l, hl⟩ : ∃ l, wbits (wds fs) ns = l := ⟨_, rfl⟩
      rw [hl] at fb lwb kk
      have e8 : ((vN l).length : Int) = 8 * (k : Int) := by
        rw [vN_len, lwb]
        omega
      refine ⟨_, rfl, lb, _, rfl, .inl (SqL.of fb), 0, _, 8, k, rfl, by rw [e8]; exact rg8 k k16, for_rangeC (lo := 0) (c := 8) (n := k) (fun i σ H' => ∃ v4 v5 v6 v7 v8 v9 v10 : Option V, σ = [some (.ref fa), some (.ref ta), some (.ref lb), some (.ref lf), v4, v5, v6, v7, v8, v9, v10] ∧ Same H H' ∧ H' lb = some (.lst (vN l)) ∧
        H' lf = some (.lst (vN ((bytesOf k l).take i)))) ⟨_, _, _, _, _, _, _, rfl, s1, fb, ff⟩ ?_ ?_⟩
      · rintro i σ H2 hi ⟨v4, v5, v6, v7, v8, v9, v10, rfl, s2, fb2, ff2⟩
        refine ⟨_, rfl, _, rfl, _, rfl, _, rfl, _, _, rfl, rfl, _, rfl, lb, _, rfl, SqL.of fb2, fun c hc => ?_⟩
        rw [cut8 (by omega)]
        have sc := same_new (o := .lst (vN ((l.drop (8 * i)).take 8))) hc
        refine ⟨c, rfl, ⟨_, SqL.of upd_same⟩, for_list (K := K) (a := c) (xs := vN ((l.drop (8 * i)).take 8)) (fun j σ H' => ∃ v10 : Option V, σ = [some (.ref fa), some (.ref ta), some (.ref lb), some (.ref lf), v4, v5, v6, v7, some (.int ((0 : Int) + (i : Nat) * 8)), some (.int ((valB (((l.drop (8 * i)).take 8).take j) : Nat) : Int)), v10] ∧
          H' = upd H2 c (.lst (vN ((l.drop (8 * i)).take 8)))) ⟨_, rfl, rfl⟩ (fun j σ H' _ ⟨_, _, q⟩ => SqL.of (by rw [q]; exact upd_same)) ?_ ?_⟩
        · rintro j x σ H3 hj ⟨v10, rfl, rfl⟩
          obtain ⟨bt, hbt, rfl⟩ := vN_at hj
          refine ⟨_, rfl, _, _, rfl, rfl, .inl ⟨by decide, by decide⟩, _, rfl, _, _, rfl, rfl, some (.int (bt : Int)), ?_, rfl⟩
          rw [take_bit hbt]
          show [_, _, _, _, _, _, _, _, _, some (V.int (2 * ((valB _ : Nat) : Int) + (bt : Int))), _] = [_, _, _, _, _, _, _, _, _, some (V.int ((2 * valB _ + bt : Nat) : Int)), _]
          rw [Int.natCast_add, Int.natCast_mul]
          rfl
        · rintro σ H3 ⟨v10, rfl, rfl⟩
          rw [take_all]
          have s3 := s2.trans sc
          refine ⟨_, rfl, .inl ⟨rfl, _, SqL.of (sc _ _ ff2)⟩, _, rfl, lf, _, _, rfl, rfl, sc _ _ ff2, ?_, ?_⟩
          · rw [vN_len]
            exact small1000 (Nat.le_trans (List.length_take_le _ _) (by omega))
          · refine ⟨v4, v5, v6, v7, some (.int ((0 : Int) + (i : Nat) * 8)), some (.int ((valB ((l.drop (8 * i)).take 8) : Nat) : Int)), v10, rfl, Same.mut s3 hlf0, by rw [upd_ne nbf]; exact sc _ _ fb2, ?_⟩
            rw [upd_same, List.take_add_one (l := bytesOf k l) (i := i), bytesOf_get k l i hi, Option.toList_some, vN_snoc]
      · rintro σ H2 ⟨v4, v5, v6, v7, v8, v9, v10, rfl, s2, fb2, ff2⟩
        refine ⟨_, rfl, lf, _, rfl, .inl ⟨SqL.of ff2, fun p hp => ?_⟩⟩
        have e : (bytesOf k l).take k = bytesOf k l := List.take_of_length_le (by rw [bytesOf_len]; exact Nat.le_refl _)
        show Q (.ref p) (upd H2 p (.tup (vN ((bytesOf k l).take k))))
        rw [e]
        exact kk _ p (s2.trans (same_new hp)) upd_same
end
end LJ

namespace LJ
open PySem PySem.Spec PyProof.Rows L2 GuL HG Bt
section
variable {P : Program} {w : World} {K : PySem.W.Frag} {mg : Str → Option Value} {base : Heap}
theorem sqExb {b a : Addr} {H H' : Hp} {xs0 xs : List V} (hb : H b = some (.lst xs0)) (e : Exb b H H') (h : SqT K H a xs) : SqT K H' a xs := by
  rcases h with (h | ⟨o, h⟩) | h
  · exact .inl (.inl (e _ _ (fun z => by rw [z, hb] at h; cases h) h))
  · exact .inl (.inr ⟨o, e _ _ (fun z => by rw [z, hb] at h; cases h) h⟩)
  · exact .inr h
/-- a list comprehension over fields -/
theorem lcPairs {K : PySem.W.Frag} {σ : L2.St} {H : Hp} {Q : VK} {j k : Nat} {tl te : TE} {fa : Addr} {fxs : List V} {fs : List Fld} {val : Fld → Int} (ht : ∀ R : VK, R (.ref fa) H → tl σ H R) (hfa : SqT K H fa fxs) (hd : DpAll K H fxs (fs.map encF)) (l12 : fs.length ≤ 12)
    (hw : ∀ x y, wipe (((wipe σ [j, k]).set j (some x)).set k (some y)) [j, k] = wipe σ [j, k])
    (hv : ∀ (fl : Fld) (H' : Hp) (R : VK), fl ∈ fs → R (.int (val fl)) H' → te (((wipe σ [j, k]).set j (some (.str fl.1))).set k (some (.int (fl.2 : Int)))) H' R)
    (q : ∀ D H', Same H H' → H D = none → H' D = some (.lst ((fs.map val).map V.int)) → Q (.ref D) H') :
    tLc (iTup K tl) (gTup K 2 (gCons (gName j) (gCons (gName k) gNil))) tYes te [j, k] σ H Q := by
  refine ht _ ⟨fa, rfl, ⟨_, hfa⟩, fun D hD => ?_⟩
  refine lc_tup (K := K) (a := fa) (xs := fxs) (fun n H' => Same H H' ∧ H' D = some (.lst (((fs.take n).map val).map V.int))) ⟨same_new hD, upd_same⟩ (fun n H' _ p => sameT p.1 hfa) ?_ ?_
  · rintro n x H' hn ⟨s, f⟩
    obtain ⟨d, hd1, hd2⟩ := dpAll_at hd hn
    rw [List.getElem?_map] at hd1
    obtain ⟨fl, hfl, rfl⟩ := Option.map_eq_some_iff.mp hd1
    obtain ⟨a, y, rfl, h1, h2⟩ := pair_dp (dpSame s hd2)
    obtain rfl := dp_int h2
    have n12 : n < 12 := by
      have := (List.getElem?_eq_some_iff.mp hfl).1
      omega
    refine ⟨a, _, rfl, h1, rfl, _, _, rfl, _, _, rfl, rfl, hw _ _, hv fl H' _ (List.mem_of_getElem? hfl) ⟨_, f, ?_, fun b u hb => ?_, ?_⟩⟩
    · rw [List.length_map, List.length_map]
      exact small1000 (Nat.le_trans (List.length_take_le _ _) (by omega))
    · rw [upd_ne (ne_of_none hb hD)]
      exact s _ _ hb
    · rw [upd_same, List.take_add_one, hfl, List.map_append, List.map_append]
      rfl
  · rintro H' ⟨s, f⟩
    have dl := dpAll_len hd
    rw [List.length_map] at dl
    have e : fs.take fxs.length = fs := List.take_of_length_le (by rw [dl]; exact Nat.le_refl _)
    rw [e] at f
    exact q D H' s hD f
theorem sum_wds (fs : List Fld) : (fs.map fun fl => (fl.2 : Int)).sum = (((wds fs).sum : Nat) : Int) := by
  induction fs with
  | nil => rfl
  | cons f fs ih =>
    show (f.2 : Int) + (fs.map fun fl => (fl.2 : Int)).sum = ((f.2 + (wds fs).sum : Nat) : Int)
    rw [ih, Int.natCast_add]
/-! ### how many bytes -/
theorem scSize : FnScope ["_law_fields_here", "_law_field", "_law_width"] ["_law_fields_here"] (defScope sSize) := ⟨rfl, rfl, rfl, by decide +kernel, rfl, by decide +kernel, by decide +kernel⟩
def spSize (K : PySem.W.Frag) : Sp := fun vs H Q _ => ∃ (v : V) (fs : List Fld), vs = [v] ∧ Dp K H v (encFs fs) ∧ fs.length ≤ 12 ∧ ∀ H', Same H H' → Q (.int (((wds fs).sum / 8 : Nat) : Int)) H'
theorem ok_size {f : Addr} {fd : FuncData} (F : Fun K "_law_size" "_law_size" sSize f fd) (B : Blt mg) : FnOk P w K mg base CX0 1 f fd ["_law_fields_here"] (spSize K) := by
  refine F.ok scSize (fun vs H Q E h => ?_) (fun cdv A outer s H vs Q E hr h => ?_)
  · obtain ⟨v, fs, rfl, _⟩ := h
    rfl
  · obtain ⟨v, fs, rfl, dv, l12, k⟩ := h
    refine ⟨_, pss_one (ps_ret (pe_op op_fdiv (pe_callB (cr_sum rfl) (by rfl) B.sum (by decide +kernel) (pa_cons (pe_lc (own := [("_law_field", 1), ("_law_width", 2)]) (g := gTup K 2 (gCons (gName 1) (gCons (gName 2) gNil))) (tt := tYes) rfl scSize.nd (pi_tup (pv 0))
              (blkOk_by (N := ["_law_fields_here", "_law_field", "_law_width"]) (sc := defScope sSize) (by decide +kernel)) (fun _ _ _ _ _ => pg_tup rfl (pgs_cons (pg_name (i := 1) scSize.nd rfl (.inl rfl)) (pgs_cons (pg_name (i := 2) scSize.nd rfl (.inl rfl)) pgs_nil))) (fun _ _ _ _ _ => pts_nil) (fun _ _ _ _ _ => pv 2)) pa_nil)) pe_int)), ?_⟩
    obtain ⟨fa, fxs, rfl, hfa, hfd⟩ := dp_tup dv
    unfold tRet tOp tCB tCons
    refine lcPairs (fs := fs) (val := fun fl => (fl.2 : Int)) (fun R r => ⟨_, rfl, r⟩) hfa hfd l12 (fun _ _ => rfl) (fun fl H' R _ r => ⟨_, rfl, r⟩) fun D H' s' hD f' => ?_
    refine ⟨D, _, rfl, SqL.of f', _, _, rfl, rfl, ⟨by decide, by decide⟩, ?_⟩
    rw [sum_wds]
    exact k H' s'
/-! ### drawn bytes -/
def w8 : List Int := [0, 1, 2, 7, 35, 128, 254, 255]
theorem w8_ok : ∀ x ∈ w8, 0 ≤ x ∧ x ≤ 255 := by decide
theorem scBytes : FnScope ["_law_jar_here", "_law_many", "_law_found", "_law_at"] ["_law_jar_here", "_law_many"] (defScope sBytes) := ⟨rfl, rfl, rfl, by decide +kernel, rfl, by decide +kernel, by decide +kernel⟩
def spBytes (K : PySem.W.Frag) : Sp := fun vs H Q _ => ∃ (b : Addr) (n : Nat) (o m c : Int), vs = [.ref b, .int (n : Int)] ∧ H b = some (bw o m c) ∧ 0 ≤ o ∧ n ≤ 16 ∧
  ∀ H' v bs, Jr b H H' → Dp K H' v (encNs bs) → bs.length = n → (∀ x ∈ bs, x < 256) → Q v H'
theorem ok_bytes {f fD fO fN : Addr} {fd fdD fdO fdN : FuncData} (F : Fun K "_law_bytes" "_law_bytes" sBytes f fd) (B : Blt mg) (Z : Drw P w K mg base fD fO fN fdD fdO fdN) : FnOk P w K mg base CX0 3 f fd ["_law_jar_here", "_law_many"] (spBytes K) := by
  refine F.ok scBytes (fun vs H Q E h => ?_) (fun cdv A outer s H vs Q E hr h => ?_)
  · obtain ⟨b, n, o, m, c, rfl, _⟩ := h
    rfl
  · obtain ⟨b, n, o, m, c, rfl, hb, ho, n16, k⟩ := h
    refine ⟨_, pss_cons (ps_set (i := 2) scBytes.nd rfl (.inl rfl) (pe_lst pa_nil))
      (pss_cons (ps_for PassesOwn.never rfl (pi_range1 (by rfl) B.range (pa_cons (pv 1) pa_nil)) (pg_name (i := 3) scBytes.nd rfl (.inl rfl))
        (pss_one (ps_expr (pe_bm PySem.F.plainAttrs_list PySem.F.slot_list_append PySem.F.type_list_append mt_append (pv 2) (pa_cons (pe_ifExp (pt_cmpR op_gt (pe_call Z.GD (hr.mono (by decide)) (by rfl) Z.gD Z.FD.kp Z.bD .nil pass0 (pa_cons (pv 0) (pa_cons pe_int pa_nil))) pe_int (nomark _)) (pe_call Z.GO (hr.mono (by decide)) (by rfl) Z.gO Z.FO.kp Z.bO .nil pass0 (pa_cons (pv 0) (pa_cons (pe_lst (pa_cons pe_int (pa_cons pe_int (pa_cons pe_int (pa_cons pe_int (pa_cons pe_int (pa_cons pe_int (pa_cons pe_int (pa_cons pe_int pa_nil))))))))) pa_nil))) (pe_call Z.GD (hr.mono (by decide)) (by rfl) Z.gD Z.FD.kp Z.bD .nil pass0 (pa_cons (pv 0) (pa_cons pe_int pa_nil)))) pa_nil)))))
      (pss_one (ps_ret (pe_callTy call_tuple_of (by rfl) B.tuple (by decide +kernel) (pa_cons (pv 2) pa_nil))))), ?_⟩
    refine ⟨Nat.zero_le _, fun l hl => ?_⟩
    have nl : l ≠ b := fun z => by
      rw [z, hb] at hl
      cases hl
    have s0 := same_new (o := .lst []) hl
    refine ⟨_, rfl, _, rfl, by omega, by omega, ?_⟩
    rw [Int.toNat_natCast]
    refine for_range (lo := 0) (n := n) (fun i σ H' => ∃ (ns : List Nat) (v3 : Option V), σ = [some (.ref b), some (.int (n : Int)), some (.ref l), v3] ∧ Jr b H H' ∧ H' l = some (.lst (vN ns)) ∧ ns.length = i ∧ ∀ x ∈ ns, x < 256)
      ⟨[], _, rfl, ⟨Exb.of s0, o, m, c, s0 _ _ hb, ho⟩, upd_same, rfl, fun x hx => nomatch hx⟩ ?_ ?_
    · rintro i σ H2 hi ⟨ns, v3, rfl, j2, hl2, len2, lt2⟩
      obtain ⟨e2, o2, m2, c2, hb2, ho2⟩ := j2
      refine ⟨_, rfl, .inl ⟨rfl, _, SqL.of hl2⟩, _, rfl, b, 3, o2, m2, c2, rfl, hb2, ho2, by decide, by decide, fun H3 r o3 m3 c3 e3 hb3 ho3 r0 r1 => ⟨_, _, rfl, rfl, _, rfl, ite2 (fun _ => ?_) (fun _ => ?_)⟩⟩
      · have hl3 : H3 l = some (.lst (vN ns)) := e3 _ _ nl hl2
        refine ⟨_, rfl, by show 8 ≤ sizeLine; decide, fun p hp => ?_⟩
        have np : p ≠ b := fun z => by
          rw [z, hb3] at hp
          cases hp
        have npl : l ≠ p := ne_of_none hl3 hp
        refine ⟨b, .ref p, o3, m3, c3, rfl, by rw [upd_ne (Ne.symm np)]; exact hb3, ho3, .inr (.inr ⟨p, _, rfl, np, upd_same, by show 0 < 8; decide, by show 8 < 100000; decide, fun H4 v o4 m4 c4 e4 hb4 ho4 hv => ?_⟩)⟩
        obtain ⟨si, hsi, rfl⟩ := mem_ints (L := w8) hv
        have sb := w8_ok si hsi
        obtain ⟨sn, rfl⟩ := Int.eq_ofNat_of_zero_le (show 0 ≤ si by omega)
        have x4 : Exb b H3 H4 := (Exb.of (same_new hp)).trans e4
        refine ⟨l, _, _, rfl, rfl, x4 _ _ nl hl3, ?_, ns ++ [sn], _, rfl, Jr.put ⟨(e2.trans e3).trans x4, o4, m4, c4, hb4, ho4⟩ hl nl, by rw [upd_same, vN_snoc], by rw [List.length_append, len2]; rfl, fun x hx => ?_⟩
        · rw [vN_len, len2]
          exact small1000 (by omega)
        · rcases List.mem_append.mp hx with hx | hx
          · exact lt2 x hx
          · rw [List.mem_singleton.mp hx]
            omega
      · have hl3 : H3 l = some (.lst (vN ns)) := e3 _ _ nl hl2
        refine ⟨_, rfl, b, 256, o3, m3, c3, rfl, hb3, ho3, by decide, by decide, fun H4 r4 o4 m4 c4 e4 hb4 ho4 r40 r41 => ?_⟩
        obtain ⟨sn, rfl⟩ := Int.eq_ofNat_of_zero_le r40
        refine ⟨l, _, _, rfl, rfl, e4 _ _ nl hl3, ?_, ns ++ [sn], _, rfl, Jr.put ⟨(e2.trans e3).trans e4, o4, m4, c4, hb4, ho4⟩ hl nl, by rw [upd_same, vN_snoc], by rw [List.length_append, len2]; rfl, fun x hx => ?_⟩
        · rw [vN_len, len2]
          exact small1000 (by omega)
        · rcases List.mem_append.mp hx with hx | hx
          · exact lt2 x hx
          · rw [List.mem_singleton.mp hx]
            omega
    · rintro σ H2 ⟨ns, v3, rfl, j2, hl2, len2, lt2⟩
      refine ⟨_, rfl, l, _, rfl, .inl ⟨SqL.of hl2, fun p hp => ?_⟩⟩
      exact k _ _ ns (j2.same (same_new hp)) (dp_encNs upd_same) len2 lt2
/-! ### drawn words -/
theorem fitSnoc : ∀ {ws ns : List Nat} {v n : Nat}, Fit ws ns → n < 2 ^ v → Fit (ws ++ [v]) (ns ++ [n])
  | _, _, _, _, .nil, h => .cons h .nil
  | _, _, _, _, .cons a r, h => .cons a (fitSnoc r h)
theorem scWords : FnScope ["_law_jar_here", "_law_fields_here", "_law_found", "_law_field", "_law_width"] ["_law_jar_here", "_law_fields_here"] (defScope sWords) := ⟨rfl, rfl, rfl, by decide +kernel, rfl, by decide +kernel, by decide +kernel⟩
def spWords (K : PySem.W.Frag) : Sp := fun vs H Q _ => ∃ (b : Addr) (v : V) (fs : List Fld) (o m c : Int), vs = [.ref b, v] ∧ H b = some (bw o m c) ∧ 0 ≤ o ∧ Dp K H v (encFs fs) ∧ fs.length ≤ 12 ∧ (∀ f ∈ fs, 1 ≤ f.2 ∧ f.2 ≤ 32) ∧
  ∀ H' u ns, Jr b H H' → Dp K H' u (encNs ns) → Fit (wds fs) ns → Q u H'
theorem ok_words {f fD fO fN fW : Addr} {fd fdD fdO fdN fdW : FuncData} (F : Fun K "_law_words" "_law_words" sWords f fd) (B : Blt mg) (Z : Drw P w K mg base fD fO fN fdD fdO fdN)
    (FW : Fun K "_law_word" "_law_word" sWord fW fdW) (bW : Binds K fdW ["_law_jar_here", "_law_width"] []) (gW : mg "_law_word" = some (.ref fW)) : FnOk P w K mg base CX0 3 f fd ["_law_jar_here", "_law_fields_here"] (spWords K) := by
  have GW : FnOk P w K mg base CX0 2 fW fdW ["_law_jar_here", "_law_width"] spWord := ok_word FW B Z
  refine F.ok scWords (fun vs H Q E h => ?_) (fun cdv A outer s H vs Q E hr h => ?_)
  · obtain ⟨b, v, fs, o, m, c, rfl, _⟩ := h
    rfl
  · obtain ⟨b, v, fs, o, m, c, rfl, hb, ho, dv, l12, wd, k⟩ := h
    refine ⟨_, pss_cons (ps_set (i := 2) scWords.nd rfl (.inl rfl) (pe_lst pa_nil))
      (pss_cons (ps_for PassesOwn.never rfl (pi_tup (pv 1)) (pg_tup rfl (pgs_cons (pg_name (i := 3) scWords.nd rfl (.inl rfl)) (pgs_cons (pg_name (i := 4) scWords.nd rfl (.inl rfl)) pgs_nil)))
        (pss_one (ps_expr (pe_bm PySem.F.plainAttrs_list PySem.F.slot_list_append PySem.F.type_list_append mt_append (pv 2) (pa_cons (pe_call GW hr (by rfl) gW FW.kp bW .nil pass0 (pa_cons (pv 0) (pa_cons (pv 4) pa_nil))) pa_nil)))))
      (pss_one (ps_ret (pe_callTy call_tuple_of (by rfl) B.tuple (by decide +kernel) (pa_cons (pv 2) pa_nil))))), ?_⟩
    refine ⟨Nat.zero_le _, fun l hl => ?_⟩
    have nl : l ≠ b := fun z => by
      rw [z, hb] at hl
      cases hl
    have s0 := same_new (o := .lst []) hl
    obtain ⟨fa, fxs, rfl, hfa, hfd⟩ := dp_tup dv
    have lw := wds_len fs
    have dl := dpAll_len hfd
    rw [List.length_map] at dl
    refine ⟨_, rfl, fa, rfl, ⟨_, sameT s0 hfa⟩, for_tup (K := K) (a := fa) (xs := fxs) (fun i σ H' => ∃ (ns : List Nat) (v3 v4 : Option V), σ = [some (.ref b), some (.ref fa), some (.ref l), v3, v4] ∧ Jr b H H' ∧ H' l = some (.lst (vN ns)) ∧ ns.length = i ∧ Fit ((wds fs).take i) ns)
      ⟨[], _, _, rfl, ⟨Exb.of s0, o, m, c, s0 _ _ hb, ho⟩, upd_same, rfl, .nil⟩ (fun i σ H' _ ⟨_, _, _, _, q, _⟩ => sqExb hb q.e hfa) ?_ ?_⟩
    · rintro i x σ H2 hi ⟨ns, v3, v4, rfl, j2, hl2, len2, fit2⟩
      obtain ⟨e2, o2, m2, c2, hb2, ho2⟩ := j2
      obtain ⟨d, hd1, hd2⟩ := dpAll_at (dpExbAll hb e2 (noL_mapF fs) hfd) hi
      rw [List.getElem?_map] at hd1
      obtain ⟨fl, hfl, rfl⟩ := Option.map_eq_some_iff.mp hd1
      obtain ⟨a, y, rfl, h1, h2⟩ := pair_dp hd2
      obtain rfl := dp_int h2
      have i12 : i < 12 := by
        have := (List.getElem?_eq_some_iff.mp hfl).1
        omega
      have wf := wd fl (List.mem_of_getElem? hfl)
      refine ⟨a, _, rfl, h1, rfl, _, _, rfl, _, _, rfl, rfl, ?_⟩
      refine ⟨_, rfl, .inl ⟨rfl, _, SqL.of hl2⟩, _, rfl, _, rfl, b, fl.2, o2, m2, c2, rfl, hb2, ho2, wf.1, wf.2, fun H3 r j3 r0 r1 => ?_⟩
      obtain ⟨rn, rfl⟩ := Int.eq_ofNat_of_zero_le r0
      have rlt : rn < 2 ^ fl.2 := by exact_mod_cast r1
      have hl3 : H3 l = some (.lst (vN ns)) := j3.e _ _ nl hl2
      refine ⟨l, _, _, rfl, rfl, hl3, ?_, ns ++ [rn], _, _, rfl, Jr.put (Jr.trans e2 j3) hl nl, by rw [upd_same, vN_snoc], by rw [List.length_append, len2]; rfl, ?_⟩
      · rw [vN_len, len2]
        exact small1000 (by omega)
      · rw [List.take_add_one, wds_at hfl]
        exact fitSnoc fit2 rlt
    · rintro σ H2 ⟨ns, v3, v4, rfl, j2, hl2, len2, fit2⟩
      refine ⟨_, rfl, l, _, rfl, .inl ⟨SqL.of hl2, fun p hp => ?_⟩⟩
      rw [dl, List.take_of_length_le (by rw [lw]; exact Nat.le_refl _)] at fit2
      exact k _ _ ns (j2.same (same_new hp)) (dp_encNs upd_same) fit2
end
end LJ

namespace LJ
open PySem PySem.Spec PyProof.Rows L2 GuL HG Bt
/-! ### calls by names alone -/
def tCallN0 (m : Nat) (sp : Sp) (gV : List V → List V → List V) (E : XK) (tk : TA) : TE := fun σ H Q => tk σ H fun zs H2 => zs.length = m ∧ sp (gV [] zs) H2 Q E
section
variable {X : Cx} {CX : CXT} {k : Nat} {f : Addr} {fd : FuncData} {ps ks : List Str} {sp : Sp} {E : XK} {x : Str} {p pos : Pos} {kws : List Keyword} {tk : TA} {g : List Value → List Value → List Value} {gV : List V → List V → List V}
theorem pe_callN0 (F : FnOk X.prog X.w X.K X.mg X.base CX k f fd ps sp) (hr : Room k X.A) (hg : Gl X x) (hm : X.mg x = some (.ref f)) (hk : PySem.W.keepIn X.K (.ref f) = true) (hb : KBn X.K fd ps 0 ks g gV) (hx : Passes CX X E)
    (hkw : PK X kws tk) (hall : (backToKw pos (keywordEach kws X.env)).all (·.1.isSome) = true := by rfl) (hks : (backToKw pos (keywordEach kws X.env)).filterMap (·.1) = ks := by rfl)
    (hdb : (x == ("__debug__" : Str)) = false := by decide)
    (hpl : ((backTo pos (starEach [] X.env)).any (·.1) || (backToKw pos (keywordEach kws X.env)).any (·.1.isNone)) = false := by rfl) :
    PE X (.Call (.Name x p) [] kws pos) (tCallN0 ks.length sp gV E tk) := by
  refine ⟨fun pins s σ H Q I h => ?_⟩
  refine wpAny_Call_Name_kw (ld_glob I hg hm ?_ hdb)
  refine PySem.W.callWith_KW0 (h₀ := X.base) I.ok.mod.kin hk hall (thn (hkw.run pos pins s σ H _ I h) fun ws s2 ⟨zs, H2, I2, rz, l2, q2⟩ => ⟨I2.kIn, ?_⟩) hpl
  rw [hks]
  exact run_fnN (us := []) (vs := []) F hr hb hx I2 .nil rz rfl l2 q2
end
theorem valsRev : ∀ {zs : List V} {ws : List Value}, Vals zs ws → Vals zs.reverse ws.reverse
  | _, _, .nil => .nil
  | _, _, .cons a r => by
    rw [List.reverse_cons, List.reverse_cons]
    exact (valsRev r).append (.cons a .nil)
theorem Fun_kbn {K : PySem.W.Frag} {x qual : Str} {st : Stmt} {f : Addr} {fd : FuncData} {ps ks : List Str} (F : Fun K x qual st f fd)
    (h : ∀ (kV doc pm : Value) (an : Option Addr) (cdv ct : Value) (ws : List Value), ws.length = ks.length → bindArgs (PySem.W.fnOf x qual (defArgs st) (defBody st) (defScope st) .none kV doc pm an cdv ct) ⟨[], ks.zip ws⟩ = pure (ps.zip ws.reverse)) : KBn K fd ps 0 ks (fun _ ws => ws.reverse) (fun _ zs => zs.reverse) := by
  obtain ⟨oc, od, kV, doc, pm, an, cdv, ct, osl, rfl, lk, hcd⟩ := F.ex
  refine ⟨fun s us ws _ h0 h1 => ?_, fun _ r => valsRev r⟩
  obtain rfl := List.length_eq_zero_iff.mp h0
  exact .of_eq (h kV doc pm an cdv ct ws h1)
/-! ### what the program's functions promise -/
abbrev sReadHeader : Stmt := topS 27
abbrev sWriteHeader : Stmt := topS 28
abbrev sSizeOf : Stmt := topS 26
abbrev sThere : Stmt := topS 47
def spRH (K : PySem.W.Frag) : Sp := fun vs H Q _ => ∃ (v t : V) (hs : List Hdr) (i : Nat) (nm : Str) (fs : List Fld) (bs : List Nat), vs = [v, .int (i : Int), t] ∧ Dp K H v (encHs hs) ∧ HeadersOk hs ∧ hs[i]? = some (nm, fs) ∧ Dp K H t (encNs bs) ∧ 8 * bs.length = (wds fs).sum ∧ (∀ b ∈ bs, b < 256) ∧
  ∀ H' p, Same H H' → H' p = some (.tup (vN (readW (wds fs) (allBits bs)))) → Q (.ref p) H'
def spWH (K : PySem.W.Frag) : Sp := fun vs H Q _ => ∃ (v u : V) (hs : List Hdr) (i : Nat) (nm : Str) (fs : List Fld) (ns : List Nat) (k : Nat), vs = [v, .int (i : Int), u] ∧ Dp K H v (encHs hs) ∧ HeadersOk hs ∧ hs[i]? = some (nm, fs) ∧ Dp K H u (encNs ns) ∧ Fit (wds fs) ns ∧ 8 * k = (wds fs).sum ∧
  ∀ H' p, Same H H' → H' p = some (.tup (vN (bytesOf k (wbits (wds fs) ns)))) → Q (.ref p) H'
def spSO (K : PySem.W.Frag) : Sp := fun vs H Q _ => ∃ (v : V) (hs : List Hdr) (i : Nat) (nm : Str) (fs : List Fld), vs = [v, .int (i : Int)] ∧ Dp K H v (encHs hs) ∧ HeadersOk hs ∧ hs[i]? = some (nm, fs) ∧ ∀ H', Same H H' → Q (.int (((wds fs).sum / 8 : Nat) : Int)) H'
section
variable {P : Program} {w : World} {K : PySem.W.Frag} {mg : Str → Option Value} {base : Heap}
/-- the program, as the law asks it (their depth: 8 at most) -/
structure Prg (P : Program) (w : World) (K : PySem.W.Frag) (mg : Str → Option Value) (base : Heap) (kR kW kS : Nat) (fR fW fS : Addr) (fdR fdW fdS : FuncData) : Prop where
  lR : kR ≤ 8
  lW : kW ≤ 8
  lS : kS ≤ 8
  FR : Fun K "read_header" "read_header" sReadHeader fR fdR
  bR : Binds K fdR ["headers", "index", "taken"] []
  nR : KBn K fdR ["headers", "index", "taken"] 0 ["taken", "index", "headers"] (fun _ ws => ws.reverse) (fun _ zs => zs.reverse)
  gR : mg "read_header" = some (.ref fR)
  GR : FnOk P w K mg base CX0 kR fR fdR ["headers", "index", "taken"] (spRH K)
  FW : Fun K "write_header" "write_header" sWriteHeader fW fdW
  bW : Binds K fdW ["headers", "index", "words"] []
  nW : KBn K fdW ["headers", "index", "words"] 0 ["words", "index", "headers"] (fun _ ws => ws.reverse) (fun _ zs => zs.reverse)
  gW : mg "write_header" = some (.ref fW)
  GW : FnOk P w K mg base CX0 kW fW fdW ["headers", "index", "words"] (spWH K)
  FS : Fun K "size_of" "size_of" sSizeOf fS fdS
  bS : Binds K fdS ["headers", "index"] []
  nS : KBn K fdS ["headers", "index"] 0 ["index", "headers"] (fun _ ws => ws.reverse) (fun _ zs => zs.reverse)
  gS : mg "size_of" = some (.ref fS)
  GS : FnOk P w K mg base CX0 kS fS fdS ["headers", "index"] (spSO K)
theorem noDict_ns : ∀ ns : List Nat, PyData.hasDictAll (ns.map fun (n : Nat) => PyData.int (n : Int)) = false
  | [] => rfl
  | n :: ns => by
    simp only [List.map_cons, PyData.hasDictAll, PyData.hasDict, noDict_ns ns, Bool.or_self]
theorem shd_ns {H : Hp} {v : V} {ns : List Nat} (h : Dp K H v (encNs ns)) : Shd K H v (encNs ns) := .dat h (by unfold encNs; simp only [PyData.hasDict, noDict_ns])
theorem okd_ns {ns : List Nat} (l : ns.length ≤ 100) (h : ∀ n ∈ ns, n < 2 ^ 32) : Okd (encNs ns) := by
  have q := okd_ints (rs := ns.map fun (n : Nat) => (n : Int)) (by rw [List.length_map]; exact l) (fun r hr => by
    obtain ⟨n, hn, rfl⟩ := List.mem_map.mp hr
    have := h n hn
    omega)
  rw [List.map_map] at q
  exact q
theorem fit_lt : ∀ {ws ns : List Nat}, (∀ x ∈ ws, x ≤ 32) → Fit ws ns → ∀ n ∈ ns, n < 2 ^ 32
  | [], [], _, .nil, n, hn => nomatch hn
  | v :: _, _ :: _, hw, .cons h r, n, hn => by
    rcases List.mem_cons.mp hn with rfl | hn
    · exact Nat.lt_of_lt_of_le h (Nat.pow_le_pow_right (by decide) (hw v List.mem_cons_self))
    · exact fit_lt (fun x hx => hw x (List.mem_cons_of_mem _ hx)) r n hn
/-! ### there and back -/
theorem scThere : FnScope ["_law_headers_here", "_law_at", "_law_taken", "_law_words_here"] ["_law_headers_here", "_law_at", "_law_taken", "_law_words_here"] (defScope sThere) := ⟨rfl, rfl, rfl, by decide +kernel, rfl, by decide +kernel, by decide +kernel⟩
def spThere (K : PySem.W.Frag) : Sp := fun vs H Q _ => ∃ (v t u : V) (hs : List Hdr) (i : Nat) (nm : Str) (fs : List Fld) (bs ns : List Nat), vs = [v, .int (i : Int), t, u] ∧ Dp K H v (encHs hs) ∧ HeadersOk hs ∧ hs[i]? = some (nm, fs) ∧ Dp K H t (encNs bs) ∧ Dp K H u (encNs ns) ∧ Rel (wds fs) bs ns ∧
  ∀ H', Same H H' → Q (.bl true) H'
theorem ok_there {kR kW kS : Nat} {f fR fW fS : Addr} {fd fdR fdW fdS : FuncData} (F : Fun K "_law_there" "_law_there" sThere f fd) (B : Blt mg) (G : Prg P w K mg base kR kW kS fR fW fS fdR fdW fdS) : FnG P w K mg base CX0 9 f fd ["_law_headers_here", "_law_at", "_law_taken", "_law_words_here"] (spThere K) := by
  refine okG F scThere (fun vs H Q E h => ?_) (fun cdv A outer s H vs Q E hA hr h => ?_)
  · obtain ⟨v, t, u, hs, i, nm, fs, bs, ns, rfl, _⟩ := h
    rfl
  · obtain ⟨v, t, u, hs, i, nm, fs, bs, ns, rfl, dv, ho, hi, dt, du, R, k⟩ := h
    refine ⟨_, pss_cons (ps_if (PW.pt (pw_or (pt_cmpR op_ne (pe_callB (call_repr hA hr.units) (by rfl) B.repr (by decide +kernel) (pa_cons (pe_call G.GR (hr.mono G.lR) (by rfl) G.gR G.FR.kp G.bR .nil pass0 (pa_cons (pv 0) (pa_cons (pv 1) (pa_cons (pv 2) pa_nil)))) pa_nil)) (pe_callB (call_repr hA hr.units) (by rfl) B.repr (by decide +kernel) (pa_cons (pv 3) pa_nil)) (nomark _)) (pw_or1 (pt_cmpR op_ne (pe_callB (call_repr hA hr.units) (by rfl) B.repr (by decide +kernel) (pa_cons (pe_call G.GW (hr.mono G.lW) (by rfl) G.gW G.FW.kp G.bW .nil pass0 (pa_cons (pv 0) (pa_cons (pv 1) (pa_cons (pv 3) pa_nil)))) pa_nil)) (pe_callB (call_repr hA hr.units) (by rfl) B.repr (by decide +kernel) (pa_cons (pv 2) pa_nil)) (nomark _))))) (pss_one (ps_ret pe_bl)) pss_nil)
      (pss_cons (ps_if (pt_cmpR op_ne (pe_callB (call_repr hA hr.units) (by rfl) B.repr (by decide +kernel) (pa_cons (pe_callN0 G.GR (hr.mono G.lR) (by rfl) G.gR G.FR.kp G.nR pass0 (pk_cons (pv 2) (pk_cons (pv 1) (pk_cons (pv 0) pk_nil)))) pa_nil)) (pe_callB (call_repr hA hr.units) (by rfl) B.repr (by decide +kernel) (pa_cons (pv 3) pa_nil)) (nomark _)) (pss_one (ps_ret pe_bl)) pss_nil)
      (pss_one (ps_ret (pe_cmpR op_eq (pe_callB (call_repr hA hr.units) (by rfl) B.repr (by decide +kernel) (pa_cons (pe_callN0 G.GW (hr.mono G.lW) (by rfl) G.gW G.FW.kp G.nW pass0 (pk_cons (pv 3) (pk_cons (pv 1) (pk_cons (pv 0) pk_nil)))) pa_nil)) (pe_callB (call_repr hA hr.units) (by rfl) B.repr (by decide +kernel) (pa_cons (pv 2) pa_nil)) (nomark _))))), ?_⟩
    have hf := ho.fo _ (List.mem_of_getElem? hi)
    have l12 : fs.length ≤ 12 := hf.l2
    have lws := wds_len fs
    have le : (wds fs).sum ≤ 128 := hf.le
    have lns := R.fit.len
    have lb : bs.length ≤ 16 := by
      have := R.len
      omega
    have oN : Okd (encNs ns) := okd_ns (by omega) (fit_lt (fun x hx => by
      obtain ⟨f, hf1, rfl⟩ := List.mem_map.mp hx
      exact (hf.wd f hf1).2) R.fit)
    have oB : Okd (encNs bs) := okd_ns (by omega) fun n hn => Nat.lt_trans (R.b n hn) (by decide)
    have er := R.rd
    have ew := R.wr
    refine ⟨_, rfl, _, rfl, _, rfl, v, t, hs, i, nm, fs, bs, rfl, dv, ho, hi, dt, R.len, R.b, fun H1 p1 s1 f1 => ?_⟩
    rw [← er] at f1
    refine ⟨_, _, rfl, shd_ns (dp_encNs f1), oN.sh, oN.dp, oN.fits, _, rfl, _, _, rfl, shd_ns (dpSame s1 du), oN.sh, oN.dp, oN.fits, rfl, _, rfl, iteNS rfl ?_⟩
    refine ⟨_, rfl, _, rfl, _, rfl, v, u, hs, i, nm, fs, ns, bs.length, rfl, dpSame s1 dv, ho, hi, dpSame s1 du, R.fit, R.len, fun H2 p2 s2 f2 => ?_⟩
    rw [← ew] at f2
    have t2 := s1.trans s2
    refine ⟨_, _, rfl, shd_ns (dp_encNs f2), oB.sh, oB.dp, oB.fits, _, rfl, _, _, rfl, shd_ns (dpSame t2 dt), oB.sh, oB.dp, oB.fits, rfl, _, rfl, iteNS rfl ?_⟩
    refine ⟨_, rfl, _, rfl, _, rfl, rfl, v, t, hs, i, nm, fs, bs, rfl, dpSame t2 dv, ho, hi, dpSame t2 dt, R.len, R.b, fun H3 p3 s3 f3 => ?_⟩
    rw [← er] at f3
    have t3 := t2.trans s3
    refine ⟨_, _, rfl, shd_ns (dp_encNs f3), oN.sh, oN.dp, oN.fits, _, rfl, _, _, rfl, shd_ns (dpSame t3 du), oN.sh, oN.dp, oN.fits, rfl, _, rfl, iteNS rfl ?_⟩
    refine ⟨_, rfl, _, rfl, _, rfl, rfl, v, u, hs, i, nm, fs, ns, bs.length, rfl, dpSame t3 dv, ho, hi, dpSame t3 du, R.fit, R.len, fun H4 p4 s4 f4 => ?_⟩
    rw [← ew] at f4
    have t4 := t3.trans s4
    refine ⟨_, _, rfl, shd_ns (dp_encNs f4), oB.sh, oB.dp, oB.fits, _, rfl, _, _, rfl, shd_ns (dpSame t4 dt), oB.sh, oB.dp, oB.fits, rfl, ?_⟩
    rw [decide_eq_true rfl]
    exact k _ t4
end
end LJ

namespace TR
open PySem PySem.Spec PyProof.Rows L2
theorem mul1 (l : Addr) (items : Array Value) (n : Nat) (dd : Option Addr) (sl : Array (Option Value)) (x : Int) (u : Tok) (c0 : (decide (x < -(2 ^ 63)) || decide (x ≥ 2 ^ 63)) = false) (c1 : (items.isEmpty || x == 1) = true) :
    Meets (Builtin.«tuple.__mul__» ⟨[.ref l, .int x u], []⟩) (fun _ R s => s.heap.get? l = some { cls := .type "tuple", dict := dd, data := .seq items n, slots := sl } ∧ R (.ok (.ret (.ref l))) s) :=
  .of_wp fun prog w A R s h => by
    obtain ⟨hp, g, d, tk, os⟩ := s
    obtain ⟨hl, h⟩ := h
    have f1 := AutoSeq1.idx_int
    wp_walk using wpAny_loadPart' hl
    repeat (first
      | (refine wpAny_ite_false (decide_eq_false (by rw [c0]; exact Bool.false_ne_true)) ?_; wp_walk using wpAny_loadPart' hl)
      | (refine wpAny_ite_true (decide_eq_true (by rw [c1])) ?_; wp_walk using wpAny_loadPart' hl))
    exact ⟨_, rfl, h⟩
theorem mul0 (l : Addr) (items : Array Value) (n : Nat) (dd : Option Addr) (sl : Array (Option Value)) (x : Int) (u : Tok) (c0 : (decide (x < -(2 ^ 63)) || decide (x ≥ 2 ^ 63)) = false) (c1 : (items.isEmpty || x == 1) = false) (c2 : (decide (x ≤ 0) || items.isEmpty) = true) :
    Meets (Builtin.«tuple.__mul__» ⟨[.ref l, .int x u], []⟩) (fun _ R s => s.heap.get? l = some { cls := .type "tuple", dict := dd, data := .seq items n, slots := sl } ∧
      R (.ok (.ret (Value.ref s.heap.objs.size))) { s with heap := s.heap.push { cls := Value.type "tuple", data := Data.seq #[] }, toks := s.toks }) :=
  .of_wp fun prog w A R s h => by
    obtain ⟨hp, g, d, tk, os⟩ := s
    obtain ⟨hl, h⟩ := h
    have f1 := AutoSeq1.idx_int
    wp_walk using wpAny_loadPart' hl
    repeat (first
      | (refine wpAny_ite_false (decide_eq_false (by rw [c0]; exact Bool.false_ne_true)) ?_; wp_walk using wpAny_loadPart' hl)
      | (refine wpAny_ite_false (decide_eq_false (by rw [c1]; exact Bool.false_ne_true)) ?_; wp_walk using wpAny_loadPart' hl)
      | (refine wpAny_ite_true (decide_eq_true (by rw [c2])) ?_; wp_walk using wpAny_loadPart' hl))
    exact ⟨_, rfl, h⟩
/-- t * k, whatever k -/
def rRepA (K : PySem.W.Frag) : R2 := fun x y H Q => ∃ l k xs, x = .ref l ∧ y = .int k ∧ SqT K H l xs ∧ xs ≠ [] ∧ -1000 ≤ k ∧ k ≤ 1000 ∧ xs.length ≤ 1000 ∧ ∀ p H', (∀ b u, H b = some u → H' b = some u) → SqT K H' p (List.replicate k.toNat xs).flatten → Q (.ref p) H'
section
variable {X : Cx}
theorem op_repA : OpR X (binaryOp .Mult) (rRepA X.K) := by
  intro pins s σ H x y v u Q I rx ry h
  obtain ⟨l, k, xs, rfl, rfl, hT, hne, h1, h2, hz, q⟩ := h
  by_cases k2 : 2 ≤ k
  · exact op_repT pins s σ H _ _ v u Q I rx ry ⟨l, k, xs, rfl, rfl, hT, hne, k2, h2, hz, fun p hp => q p _ (fun b u hb => by rw [upd_ne (ne_of_none hb hp)]; exact hb) (SqT.of upd_same)⟩
  cases rx
  obtain ⟨t, rfl⟩ := ry
  obtain ⟨its, r, ⟨⟨cls, dd, data, sl⟩, ho, hc, n, hd⟩, hs⟩ := I.tuple hT
  simp only at hc hd
  subst hc hd
  have hle : its.length = xs.length := r.length.symm
  have hn : its ≠ [] := fun e => hne (by
    rw [e] at hle
    exact List.eq_nil_of_length_eq_zero hle.symm)
  have hi : its.toArray.isEmpty = false := by
    cases its with
    | nil => exact absurd rfl hn
    | cons a b => rfl
  have c0 : (decide (k < -(2 ^ 63)) || decide (k ≥ 2 ^ 63)) = false := by
    rw [decide_eq_false (by omega), decide_eq_false (by omega)] <;> rfl
  by_cases k1 : k = 1
  · have c1 : (its.toArray.isEmpty || k == 1) = true := by
      rw [hi, Bool.false_or, k1]
      rfl
    refine wpAny_binaryOp_repeat_ref (T := "tuple") (U := "int") (by decide) ⟨_, ho, rfl⟩ (fun s' => typeIs_int s' k t) noFill_tuple_mul F.fills_int_mul F.slot_int_rmul repeat_tuple F.slot_int_index.lookup
      (call_meets F.slot_int_rmul (typeIs_int s k t) F.entry_int_rmul (F.args_int_rmul_2 _ _) (int_rmul_tuple k t l its.toArray n dd sl)
        ⟨ho, rfl, ⟨_, ho, rfl⟩, call_meets F.slot_tuple_mul ⟨_, ho, rfl⟩ F.entry_tuple_mul (F.args_tuple_mul_2 _ _) (mul1 l its.toArray n dd sl k t c0 c1) ⟨ho, ?_⟩⟩)
    refine ⟨.ref l, H, I, rfl, q l H (fun _ _ h => h) ?_⟩
    rw [k1]
    show SqT X.K H l (xs ++ [])
    rw [List.append_nil]
    exact hT
  · have c1 : (its.toArray.isEmpty || k == 1) = false := by
      rw [hi, Bool.false_or]
      exact beq_eq_false_iff_ne.mpr k1
    have c2 : (decide (k ≤ 0) || its.toArray.isEmpty) = true := by
      rw [hi, Bool.or_false]
      exact decide_eq_true (by omega)
    refine wpAny_binaryOp_repeat_ref (T := "tuple") (U := "int") (by decide) ⟨_, ho, rfl⟩ (fun s' => typeIs_int s' k t) noFill_tuple_mul F.fills_int_mul F.slot_int_rmul repeat_tuple F.slot_int_index.lookup
      (call_meets F.slot_int_rmul (typeIs_int s k t) F.entry_int_rmul (F.args_int_rmul_2 _ _) (int_rmul_tuple k t l its.toArray n dd sl)
        ⟨ho, rfl, ⟨_, ho, rfl⟩, call_meets F.slot_tuple_mul ⟨_, ho, rfl⟩ F.entry_tuple_mul (F.args_tuple_mul_2 _ _) (mul0 l its.toArray n dd sl k t c0 c1 c2) ⟨ho, ?_⟩⟩)
    have ek : (List.replicate k.toNat xs).flatten = [] := by
      have e : k.toNat = 0 := by omega
      rw [e]
      rfl
    refine ⟨.ref s.heap.objs.size, _, I.laid (t' := s.toks) (o := .tup []) (fun b ob q => Heap.get?_push_of_some _ q) (Nat.le_refl _) ?_, rfl, q _ _ (fun b u hb => ?_) ?_⟩
    · exact ⟨by decide, [], .nil, IsTup.new _ _⟩
    · rw [upd_ne (ne_of_none hb (I.hok.fresh (Nat.le_refl _)))]
      exact hb
    · rw [ek]
      exact SqT.of upd_same
end
end TR

namespace LJ
open PySem PySem.Spec PyProof.Rows L2 GuL HG Bt
abbrev sSingle : Stmt := topS 48
/-! ### one bit alone -/
def rCatB (K : PySem.W.Frag) : R2 := fun x y H Q => ∃ a b xs ys, x = .ref a ∧ y = .ref b ∧ SqT K H a xs ∧ SqT K H b ys ∧ xs.length + ys.length ≤ sizeLine ∧ ∀ p H', Same H H' → SqT K H' p (xs ++ ys) → Q (.ref p) H'
theorem op_catB {X : Cx} : OpR X (binaryOp .Add) (rCatB X.K) := by
  intro pins s σ H x y v u Q I rx ry h
  obtain ⟨a, b, xs, ys, rfl, rfl, ha, hb, hz, q⟩ := h
  refine op_catA pins s σ H _ _ v u Q I rx ry ⟨a, b, xs, ys, rfl, rfl, ha, hb, hz, fun e => ?_, fun _ e => ?_, fun _ _ p hp => ?_⟩
  · subst e
    exact q _ _ (Same.refl _) hb
  · subst e
    exact q _ _ (Same.refl _) (by rw [List.append_nil]; exact ha)
  · exact q _ _ (same_new hp) (SqT.of upd_same)
theorem hdr_at {K : PySem.W.Frag} {H : Hp} {v : V} {hs : List Hdr} {i : Nat} {nm : Str} {fs : List Fld} (h : Dp K H v (encHs hs)) (e : hs[i]? = some (nm, fs)) :
    ∃ ha hxs a fv, v = .ref ha ∧ SqT K H ha hxs ∧ hxs[i]? = some (.ref a) ∧ SqT K H a [.str nm, fv] ∧ Dp K H fv (encFs fs) := by
  obtain ⟨ha, hxs, rfl, h1, h2⟩ := dp_tup h
  obtain ⟨x, hx1, hx2⟩ := dpAll_get (i := i) (d := encH (nm, fs)) h2 (by rw [List.getElem?_map, e]; rfl)
  obtain ⟨a, y, rfl, g1, g2⟩ := pair_dp hx2
  exact ⟨ha, hxs, a, y, rfl, h1, hx1, g1, g2⟩
theorem fitOf : ∀ {ws ns : List Nat}, ns.length = ws.length → (∀ i w n : Nat, ws[i]? = some w → ns[i]? = some n → n < 2 ^ w) → Fit ws ns
  | [], [], _, _ => .nil
  | [], _ :: _, h, _ => by simp at h
  | _ :: _, [], h, _ => by simp at h
  | w :: ws, n :: ns, h, k => .cons (k 0 w n rfl rfl) (fitOf (by simpa using h) fun i w n a b => k (i + 1) w n (by simpa using a) (by simpa using b))
def oneAt (n spot x : Nat) : List Nat := List.replicate spot 0 ++ [x] ++ List.replicate (n - 1 - spot) 0
theorem oneAt_len {n spot x : Nat} (h : spot < n) : (oneAt n spot x).length = n := by
  unfold oneAt
  rw [List.length_append, List.length_append, List.length_replicate, List.length_replicate]
  show spot + 1 + _ = n
  omega
theorem oneAt_get {n spot x i m : Nat} (h : (oneAt n spot x)[i]? = some m) : (i = spot ∧ m = x) ∨ m = 0 := by
  unfold oneAt at h
  rw [List.append_assoc, List.getElem?_append] at h
  split at h
  · right
    rw [List.getElem?_replicate] at h
    split at h
    · exact (Option.some.inj h).symm
    · cases h
  · rename_i c
    rw [List.length_replicate] at c h
    obtain ⟨j, rfl⟩ : ∃ j, i = spot + j := ⟨i - spot, by omega⟩
    rw [Nat.add_sub_cancel_left] at h
    cases j with
    | zero => exact .inl ⟨rfl, (Option.some.inj h).symm⟩
    | succ j =>
      right
      have h' : (List.replicate (n - 1 - spot) 0)[j]? = some m := h
      rw [List.getElem?_replicate] at h'
      split at h'
      · exact (Option.some.inj h').symm
      · cases h'
theorem oneAt_mem {n spot x m : Nat} (h : m ∈ oneAt n spot x) : m = x ∨ m = 0 := by
  obtain ⟨i, hi⟩ := List.mem_iff_getElem?.mp h
  rcases oneAt_get hi with ⟨_, e⟩ | e
  · exact .inl e
  · exact .inr e
theorem rep_flat (n : Nat) : (List.replicate n [V.int 0]).flatten = vN (List.replicate n 0) := by
  induction n with
  | zero => rfl
  | succ n ih =>
    rw [List.replicate_succ, List.flatten_cons, ih]
    rfl
theorem cut_to {n i : Nat} (h : i ≤ n) : cutV (vN (List.replicate n 0)) none (some (i : Int)) = vN (List.replicate i 0) := by
  unfold cutV
  rw [HT.sIx_nat, vN_len, List.length_replicate, Nat.min_eq_left h]
  show ((vN (List.replicate n 0)).drop 0).take (i - 0) = _
  rw [List.drop_zero, Nat.sub_zero]
  unfold vN
  rw [← List.map_take, List.take_replicate, Nat.min_eq_left h]
theorem cut_from {n i : Nat} (h : i < n) : cutV (vN (List.replicate n 0)) (some ((i : Int) + 1)) none = vN (List.replicate (n - 1 - i) 0) := by
  have e : (i : Int) + 1 = ((i + 1 : Nat) : Int) := by omega
  rw [e]
  unfold cutV
  rw [HT.sIx_nat, vN_len, List.length_replicate, Nat.min_eq_left h]
  show ((vN (List.replicate n 0)).drop (i + 1)).take (n - (i + 1)) = _
  unfold vN
  rw [← List.map_drop, ← List.map_take, List.drop_replicate, List.take_replicate, Nat.min_self]
  have e2 : n - (i + 1) = n - 1 - i := by omega
  rw [e2]
theorem vN_app (a b : List Nat) : vN (a ++ b) = vN a ++ vN b := by simp [vN]
section
variable {P : Program} {w : World} {K : PySem.W.Frag} {mg : Str → Option Value} {base : Heap}
/-- the law's readers, as they are asked -/
structure Rdr (P : Program) (w : World) (K : PySem.W.Frag) (mg : Str → Option Value) (base : Heap) (fS fR fW fT : Addr) (fdS fdR fdW fdT : FuncData) : Prop where
  FS : Fun K "_law_size" "_law_size" sSize fS fdS
  bS : Binds K fdS ["_law_fields_here"] []
  gS : mg "_law_size" = some (.ref fS)
  GS : FnOk P w K mg base CX0 1 fS fdS ["_law_fields_here"] (spSize K)
  FR : Fun K "_law_read" "_law_read" sRead fR fdR
  bR : Binds K fdR ["_law_fields_here", "_law_taken"] []
  gR : mg "_law_read" = some (.ref fR)
  GR : FnOk P w K mg base CX0 1 fR fdR ["_law_fields_here", "_law_taken"] (spRead K)
  FW : Fun K "_law_written" "_law_written" sWritten fW fdW
  bW : Binds K fdW ["_law_fields_here", "_law_words_here"] []
  gW : mg "_law_written" = some (.ref fW)
  GW : FnOk P w K mg base CX0 1 fW fdW ["_law_fields_here", "_law_words_here"] (spWritten K)
  FT : Fun K "_law_there" "_law_there" sThere fT fdT
  bT : Binds K fdT ["_law_headers_here", "_law_at", "_law_taken", "_law_words_here"] []
  gT : mg "_law_there" = some (.ref fT)
  GT : FnG P w K mg base CX0 9 fT fdT ["_law_headers_here", "_law_at", "_law_taken", "_law_words_here"] (spThere K)
theorem scSingle : FnScope ["_law_headers_here", "_law_at", "_law_fields_here", "_law_blank", "_law_spot", "_law_k", "_law_words_here", "_law_size_here", "_law_taken"] ["_law_headers_here", "_law_at"] (defScope sSingle) := ⟨rfl, rfl, rfl, by decide +kernel, rfl, by decide +kernel, by decide +kernel⟩
def spSingle (K : PySem.W.Frag) : Sp := fun vs H Q _ => ∃ (v : V) (hs : List Hdr) (i : Nat) (nm : Str) (fs : List Fld), vs = [v, .int (i : Int)] ∧ Dp K H v (encHs hs) ∧ HeadersOk hs ∧ hs[i]? = some (nm, fs) ∧ ∀ H', Same H H' → Q (.bl true) H'
theorem ok_single {f fS fR fW fT : Addr} {fd fdS fdR fdW fdT : FuncData} (F : Fun K "_law_single" "_law_single" sSingle f fd) (B : Blt mg) (G : Rdr P w K mg base fS fR fW fT fdS fdR fdW fdT) : FnG P w K mg base CX0 10 f fd ["_law_headers_here", "_law_at"] (spSingle K) := by
  refine okG F scSingle (fun vs H Q E h => ?_) (fun cdv A outer s H vs Q E hA hr h => ?_)
  · obtain ⟨v, hs, i, nm, fs, rfl, _⟩ := h
    rfl
  · obtain ⟨v, hs, i, nm, fs, rfl, dv, ho, hi, k⟩ := h
    refine ⟨_, pss_cons (ps_set (i := 2) scSingle.nd rfl (.inl rfl) (pe_ix ix_tup (pe_ix ix_tup (pv 0) (pv 1) (fun _ _ => rfl)) pe_int (fun _ _ => rfl)))
      (pss_cons (ps_set (i := 3) scSingle.nd rfl (.inl rfl) (pe_op op_rep (pe_lst (pa_cons pe_int pa_nil)) (pe_callB call_len_seq (by rfl) B.len PySem.boot_len (pa_cons (pv 2) pa_nil))))
      (pss_cons (ps_for PassesOwn.never rfl (pi_range1 (by rfl) B.range (pa_cons (pe_callB call_len_seq (by rfl) B.len PySem.boot_len (pa_cons (pv 2) pa_nil)) pa_nil)) (pg_name (i := 4) scSingle.nd rfl (.inl rfl))
        (pss_one (ps_for PassesOwn.never rfl (pi_range1 (by rfl) B.range (pa_cons (pe_ix ix_tup (pe_ix ix_tup (pv 2) (pv 4) (fun _ _ => rfl)) pe_int (fun _ _ => rfl)) pa_nil)) (pg_name (i := 5) scSingle.nd rfl (.inl rfl))
          (pss_cons (ps_set (i := 6) scSingle.nd rfl (.inl rfl) (pe_callTy call_tuple_of (by rfl) B.tuple (by decide +kernel) (pa_cons (pe_op op_cat (pe_op op_cat (pe_slice sl_list (pv 3) po_none (po_some (pv 4))) (pe_lst (pa_cons (pe_op op_shl pe_int (pv 5)) pa_nil))) (pe_slice sl_list (pv 3) (po_some (pe_op op_add (pv 4) pe_int)) po_none)) pa_nil)))
          (pss_one (ps_if (pt_not (pt_val (pe_callG G.GT hA hr (by rfl) G.gT G.FT.kp G.bT .nil pass0 (pa_cons (pv 0) (pa_cons (pv 1) (pa_cons (pe_call G.GW (hr.mono (by decide)) (by rfl) G.gW G.FW.kp G.bW .nil pass0 (pa_cons (pv 2) (pa_cons (pv 6) pa_nil))) (pa_cons (pv 6) pa_nil))))))) (pss_one (ps_ret pe_bl)) pss_nil))))))
      (pss_cons (ps_set (i := 7) scSingle.nd rfl (.inl rfl) (pe_call G.GS (hr.mono (by decide)) (by rfl) G.gS G.FS.kp G.bS .nil pass0 (pa_cons (pv 2) pa_nil)))
      (pss_cons (ps_for PassesOwn.never rfl (pi_range1 (by rfl) B.range (pa_cons (pe_op op_mul pe_int (pv 7)) pa_nil)) (pg_name (i := 5) scSingle.nd rfl (.inl rfl))
        (pss_cons (ps_set (i := 8) scSingle.nd rfl (.inl rfl) (pe_op op_catB (pe_op op_catB (pe_op TR.op_repA (pe_tup (pa_cons pe_int pa_nil)) (pe_op op_fdiv (pv 5) pe_int)) (pe_tup (pa_cons (pe_op op_shr pe_int (pe_op op_mod (pe_callTy call_int1 (by rfl) B.int (by decide +kernel) (pa_cons (pv 5) pa_nil)) pe_int)) pa_nil)))
            (pe_op TR.op_repA (pe_tup (pa_cons pe_int pa_nil)) (pe_op op_sub (pe_op op_sub (pv 7) pe_int) (pe_op op_fdiv (pv 5) pe_int)))))
        (pss_one (ps_if (pt_not (pt_val (pe_callG G.GT hA hr (by rfl) G.gT G.FT.kp G.bT .nil pass0 (pa_cons (pv 0) (pa_cons (pv 1) (pa_cons (pv 8) (pa_cons (pe_call G.GR (hr.mono (by decide)) (by rfl) G.gR G.FR.kp G.bR .nil pass0 (pa_cons (pv 2) (pa_cons (pv 8) pa_nil))) pa_nil))))))) (pss_one (ps_ret pe_bl)) pss_nil))))
      (pss_one (ps_ret pe_bl)))))), ?_⟩
    obtain ⟨ha, hxs, a, fv, rfl, hh1, hh2, hh3, dfv⟩ := hdr_at dv hi
    obtain ⟨fa, fxs, rfl, hfa, hfd⟩ := dp_tup dfv
    have hf := ho.fo _ (List.mem_of_getElem? hi)
    have l12 : fs.length ≤ 12 := hf.l2
    have lws := wds_len fs
    have le : (wds fs).sum ≤ 128 := hf.le
    have m8 : (wds fs).sum % 8 = 0 := hf.m8
    have dl := dpAll_len hfd
    rw [List.length_map] at dl
    refine ⟨_, rfl, _, rfl, ha, hxs, i, _, rfl, rfl, hh1, atI_nat hh2, a, _, 1, _, rfl, rfl, hh3, atI_nat (j := 1) rfl, ?_⟩
    refine ⟨by show 1 ≤ sizeLine; decide, fun p0 hp0 => ?_⟩
    have s0 := same_new (o := .lst [.int 0]) hp0
    refine ⟨_, rfl, fa, _, rfl, .inr (sameT s0 hfa), p0, (fxs.length : Int), _, rfl, rfl, upd_same, by omega, by omega, ?_, fun lb hlb => ?_⟩
    · show 1 * ((fxs.length : Int)).toNat ≤ sizeLine
      rw [Int.toNat_natCast, dl]
      exact Nat.le_trans (show 1 * fs.length ≤ 12 by omega) (by decide)
    rw [Int.toNat_natCast, rep_flat, dl]
    have s1 := s0.trans (same_new (o := .lst (vN (List.replicate fs.length 0))) hlb)
    refine ⟨_, rfl, fa, _, rfl, .inr (sameT s1 hfa), (fxs.length : Int), rfl, by omega, by omega, ?_⟩
    rw [Int.toNat_natCast, dl]
    refine for_range (lo := 0) (n := fs.length) (fun spot σ H' => ∃ v4 v5 v6 : Option V, σ = [some (.ref ha), some (.int (i : Int)), some (.ref fa), some (.ref lb), v4, v5, v6, none, none] ∧ Same H H' ∧ H' lb = some (.lst (vN (List.replicate fs.length 0))))
      ⟨_, _, _, rfl, s1, upd_same⟩ ?_ ?_
    · rintro spot σ H1 hspot ⟨v4, v5, v6, rfl, t1, f1⟩
      rw [Int.zero_add]
      have hfl : fs[spot]? = some fs[spot] := List.getElem?_eq_getElem hspot
      obtain ⟨x, hx1, hx2⟩ := dpAll_get (i := spot) (d := encF fs[spot]) hfd (by rw [List.getElem?_map, hfl]; rfl)
      obtain ⟨fa1, y, rfl, g1, g2⟩ := pair_dp hx2
      obtain rfl := dp_int g2
      have wf := hf.wd _ (List.mem_of_getElem? hfl)
      refine ⟨_, rfl, _, rfl, fa, fxs, spot, _, rfl, rfl, sameT t1 hfa, atI_nat hx1, fa1, _, 1, _, rfl, rfl, sameT t1 g1, atI_nat (j := 1) rfl, _, rfl, by omega, by omega, ?_⟩
      rw [Int.toNat_natCast]
      refine for_range (lo := 0) (n := fs[spot].2) (fun j σ H' => ∃ v5 v6 : Option V, σ = [some (.ref ha), some (.int (i : Int)), some (.ref fa), some (.ref lb), some (.int (spot : Int)), v5, v6, none, none] ∧ Same H H' ∧ H' lb = some (.lst (vN (List.replicate fs.length 0))))
        ⟨_, _, rfl, t1, f1⟩ ?_ ?_
      · rintro j σ H2 hj ⟨v5, v6, rfl, t2, f2⟩
        rw [Int.zero_add]
        refine ⟨_, rfl, _, rfl, _, rfl, lb, _, rfl, SqL.of f2, fun c1 hc1 => ?_⟩
        rw [cut_to (Nat.le_of_lt hspot)]
        have u1 := same_new (o := .lst (vN (List.replicate spot 0))) hc1
        refine ⟨_, rfl, _, _, rfl, rfl, ⟨by omega, by omega, by decide⟩, by show 1 ≤ sizeLine; decide, fun c2 hc2 => ?_⟩
        have e2 : (1 : Int) * 2 ^ ((j : Int).toNat) = ((2 ^ j : Nat) : Int) := by
          rw [Int.one_mul, Int.toNat_natCast]
          norm_cast
        simp only [e2]
        have u2 := same_new (o := .lst [V.int ((2 ^ j : Nat) : Int)]) hc2
        refine ⟨c1, c2, _, _, rfl, rfl, u2 _ _ upd_same, upd_same, ?_, fun c3 hc3 => ?_⟩
        · rw [vN_len, List.length_replicate]
          exact Nat.le_trans (show spot + 1 ≤ 13 by omega) (by decide)
        have u3 := same_new (o := .lst (vN (List.replicate spot 0) ++ [V.int ((2 ^ j : Nat) : Int)])) hc3
        refine ⟨_, rfl, _, rfl, _, _, rfl, rfl, _, rfl, lb, _, rfl, SqL.of (u3 _ _ (u2 _ _ (u1 _ _ f2))), fun c4 hc4 => ?_⟩
        rw [cut_from hspot]
        have u4 := same_new (o := .lst (vN (List.replicate (fs.length - 1 - spot) 0))) hc4
        refine ⟨c3, c4, _, _, rfl, rfl, u4 _ _ upd_same, upd_same, ?_, fun c5 hc5 => ?_⟩
        · rw [List.length_append, vN_len, vN_len, List.length_replicate, List.length_replicate]
          exact Nat.le_trans (show spot + 1 + (fs.length - 1 - spot) ≤ 13 by omega) (by decide)
        have ew : vN (List.replicate spot 0) ++ [V.int ((2 ^ j : Nat) : Int)] ++ vN (List.replicate (fs.length - 1 - spot) 0) = vN (oneAt fs.length spot (2 ^ j)) := by
          unfold oneAt
          rw [vN_app, vN_app]
          rfl
        rw [ew]
        have u5 := same_new (o := .lst (vN (oneAt fs.length spot (2 ^ j)))) hc5
        refine ⟨c5, _, rfl, .inl ⟨SqL.of upd_same, fun pw hpw => ?_⟩⟩
        have u6 := same_new (o := .tup (vN (oneAt fs.length spot (2 ^ j)))) hpw
        have t8 := t2.trans (u1.trans (u2.trans (u3.trans (u4.trans (u5.trans u6)))))
        have fit : Fit (wds fs) (oneAt fs.length spot (2 ^ j)) := fitOf (by rw [oneAt_len hspot, lws]) fun q w n hw hn => by
          rcases oneAt_get hn with ⟨rfl, rfl⟩ | rfl
          · rw [wds_at hfl] at hw
            cases hw
            exact Nat.pow_lt_pow_right (by decide) hj
          · exact Nat.pow_pos (by decide)
        have hR := rel_of_words (k := (wds fs).sum / 8) (by omega) fit
        refine ⟨_, rfl, _, rfl, _, rfl, _, rfl, _, _, fs, oneAt fs.length spot (2 ^ j), (wds fs).sum / 8, rfl, .tup (sameT t8 hfa) (dpSameAll t8 hfd), dp_encNs upd_same, l12, by rw [oneAt_len hspot], by omega, by omega, fun H7 pb u7 f7 => ?_⟩
        have t9 := t8.trans u7
        refine ⟨_, rfl, _, _, _, hs, i, nm, fs, _, _, rfl, dpSame t9 dv, ho, hi, dp_encNs f7, dp_encNs (u7 _ _ upd_same), hR, fun H8 u8 => ⟨true, rfl, iteF ?_⟩⟩
        exact ⟨_, _, rfl, t9.trans u8, u8 _ _ (u7 _ _ (u6 _ _ (u5 _ _ (u4 _ _ (u3 _ _ (u2 _ _ (u1 _ _ f2)))))))⟩
      · rintro σ H2 ⟨v5, v6, rfl, t2, f2⟩
        exact ⟨_, _, _, rfl, t2, f2⟩
    · rintro σ H1 ⟨v4, v5, v6, rfl, t1, f1⟩
      refine ⟨_, rfl, _, fs, rfl, .tup (sameT t1 hfa) (dpSameAll t1 hfd), l12, fun H2 u2 => ?_⟩
      have t2 := t1.trans u2
      obtain ⟨sz, hsz⟩ : ∃ sz, (wds fs).sum / 8 = sz := ⟨_, rfl⟩
      rw [hsz]
      refine ⟨_, rfl, _, _, rfl, rfl, .inl ⟨by decide, by decide⟩, _, rfl, by omega, by omega, ?_⟩
      have en : (8 * (sz : Int)).toNat = 8 * sz := by omega
      rw [en]
      refine for_range (lo := 0) (n := 8 * sz) (fun q σ H' => ∃ v4 v5 v6 v8 : Option V, σ = [some (.ref ha), some (.int (i : Int)), some (.ref fa), some (.ref lb), v4, v5, v6, some (.int (sz : Int)), v8] ∧ Same H H')
        ⟨_, _, _, _, rfl, t2⟩ ?_ ?_
      · rintro q σ H3 hq ⟨v4, v5, v6, v8, rfl, t3⟩
        rw [Int.zero_add]
        refine ⟨by show 1 ≤ sizeLine; decide, fun c1 hc1 => ?_⟩
        have u1 := same_new (o := .tup [.int 0]) hc1
        refine ⟨_, rfl, _, _, rfl, rfl, ⟨by decide, by decide⟩, c1, (q : Int) / 8, _, rfl, rfl, SqT.of upd_same, by decide, by omega, by omega, by decide, fun d1 H4 u2 g1 => ?_⟩
        have e1 : ((q : Int) / 8).toNat = q / 8 := by omega
        rw [e1, rep_flat] at g1
        refine ⟨_, rfl, .inl ⟨_, rfl, _, _, rfl, rfl, (by show (0 : Int) < _; decide), _, _, rfl, rfl, (by show (0 : Int) ≤ _; omega), by show 1 ≤ sizeLine; decide, fun c2 hc2 => ?_⟩⟩
        have e2 : (128 : Int) / 2 ^ (((q : Int) % 8).toNat) = ((128 / 2 ^ (q % 8) : Nat) : Int) := by
          have e3 : ((q : Int) % 8).toNat = q % 8 := by omega
          rw [e3]
          norm_cast
        simp only [e2]
        have u3 := same_new (o := .tup [V.int ((128 / 2 ^ (q % 8) : Nat) : Int)]) hc2
        refine ⟨d1, c2, _, _, rfl, rfl, sameT u3 g1, SqT.of upd_same, ?_, fun d2 H5 u4 g2 => ?_⟩
        · rw [vN_len, List.length_replicate]
          exact Nat.le_trans (show q / 8 + 1 ≤ 20 by omega) (by decide)
        refine ⟨by show 1 ≤ sizeLine; decide, fun c3 hc3 => ?_⟩
        have u5 := same_new (o := .tup [.int 0]) hc3
        refine ⟨_, rfl, _, _, rfl, rfl, _, rfl, _, _, rfl, rfl, ⟨by decide, by decide⟩, _, _, rfl, rfl, c3, (sz : Int) - 1 - (q : Int) / 8, _, rfl, rfl, SqT.of upd_same, by decide, by omega, by omega, by decide, fun d3 H6 u6 g3 => ?_⟩
        have e4 : ((sz : Int) - 1 - (q : Int) / 8).toNat = sz - 1 - q / 8 := by omega
        rw [e4, rep_flat] at g3
        refine ⟨d2, d3, _, _, rfl, rfl, sameT u6 (sameT u5 g2), g3, ?_, fun d4 H7 u7 g4 => ?_⟩
        · rw [List.length_append, vN_len, vN_len, List.length_replicate, List.length_replicate]
          exact Nat.le_trans (show q / 8 + 1 + (sz - 1 - q / 8) ≤ 20 by omega) (by decide)
        have ew : vN (List.replicate (q / 8) 0) ++ [V.int ((128 / 2 ^ (q % 8) : Nat) : Int)] ++ vN (List.replicate (sz - 1 - q / 8) 0) = vN (oneAt sz (q / 8) (128 / 2 ^ (q % 8))) := by
          unfold oneAt
          rw [vN_app, vN_app]
          rfl
        rw [ew] at g4
        have q8 : q / 8 < sz := by omega
        have bl := oneAt_len (x := 128 / 2 ^ (q % 8)) q8
        have dt : Dp K H7 (.ref d4) (encNs (oneAt sz (q / 8) (128 / 2 ^ (q % 8)))) := .tup g4 (dp_vN _)
        have t8 := t3.trans (u1.trans (Same.trans u2 (u3.trans (u4.trans (u5.trans (Same.trans u6 u7))))))
        have hR := rel_of_bytes (ws := wds fs) (bs := oneAt sz (q / 8) (128 / 2 ^ (q % 8))) (by omega) (fun b hb => by
          rcases oneAt_mem hb with rfl | rfl
          · exact Nat.lt_of_le_of_lt (Nat.div_le_self _ _) (by decide)
          · decide)
        refine ⟨_, rfl, _, rfl, _, rfl, _, rfl, _, rfl, _, _, fs, _, rfl, .tup (sameT t8 hfa) (dpSameAll t8 hfd), dt, l12, by omega, by omega, fun H8 pb u8 f8 => ?_⟩
        have t9 := t8.trans u8
        refine ⟨_, _, _, hs, i, nm, fs, _, _, rfl, dpSame t9 dv, ho, hi, dpSame u8 dt, dp_encNs f8, hR, fun H9 u9 => ⟨true, rfl, iteF ?_⟩⟩
        exact ⟨_, _, _, _, rfl, t9.trans u9⟩
      · rintro σ H3 ⟨v4, v5, v6, v8, rfl, t3⟩
        exact k _ t3
end
end LJ

namespace LJ
open PySem PySem.Spec PyProof.Rows L2 GuL HG Bt
abbrev sRight : Stmt := topS 49
/-! ### bits that are all ones -/
theorem valB_ones : ∀ w : Nat, valB (List.replicate w 1) = 2 ^ w - 1
  | 0 => rfl
  | w + 1 => by
    rw [List.replicate_succ, valB_cons, List.length_replicate, valB_ones w, Nat.pow_succ]
    have := Nat.pow_pos (n := w) (show 0 < 2 by decide)
    omega
theorem allBits_ff : ∀ n : Nat, allBits (List.replicate n 255) = List.replicate (8 * n) 1
  | 0 => rfl
  | n + 1 => by
    show bitsN 8 255 ++ allBits (List.replicate n 255) = _
    rw [allBits_ff n, show 8 * (n + 1) = 8 + 8 * n by omega, ← List.replicate_append_replicate]
    rfl
theorem readW_ones : ∀ (ws : List Nat) (N : Nat), ws.sum ≤ N → readW ws (List.replicate N 1) = ws.map fun w => 2 ^ w - 1
  | [], _, _ => rfl
  | w :: ws, N, h => by
    rw [List.sum_cons] at h
    show valB ((List.replicate N 1).take w) :: readW ws ((List.replicate N 1).drop w) = _
    rw [List.take_replicate, Nat.min_eq_left (by omega), valB_ones, List.drop_replicate, readW_ones ws _ (by omega)]
    rfl
theorem rel_full {ws : List Nat} {n : Nat} (h : 8 * n = ws.sum) : Rel ws (List.replicate n 255) (ws.map fun w => 2 ^ w - 1) := by
  have q := rel_of_bytes (ws := ws) (bs := List.replicate n 255) (by rw [List.length_replicate]; exact h) (fun b hb => by rw [(List.mem_replicate.mp hb).2]; decide)
  rw [allBits_ff, readW_ones ws _ (by omega)] at q
  exact q
theorem rep_ff (n : Nat) : (List.replicate n [V.int 255]).flatten = vN (List.replicate n 255) := by
  induction n with
  | zero => rfl
  | succ n ih =>
    rw [List.replicate_succ, List.flatten_cons, ih]
    rfl
theorem full_vN (fs : List Fld) : (fs.map fun fl => (2 : Int) ^ fl.2 - 1).map V.int = vN ((wds fs).map fun w => 2 ^ w - 1) := by
  unfold vN wds
  rw [List.map_map, List.map_map, List.map_map]
  refine List.map_congr_left fun f _ => ?_
  show V.int ((2 : Int) ^ f.2 - 1) = V.int ((2 ^ f.2 - 1 : Nat) : Int)
  have p := Nat.pow_pos (n := f.2) (show 0 < 2 by decide)
  rw [Int.natCast_sub p]
  norm_cast
theorem okd2 : ∀ z : Nat, z < 17 → (PyData.list [.int (z : Int), .int (z : Int)]).showable = true ∧ (PyData.list [.int (z : Int), .int (z : Int)]).depth ≤ 40 ∧ (PyData.list [.int (z : Int), .int (z : Int)]).shown.length ≤ sizeLine ∧ (PyData.list [.int (z : Int), .int (z : Int)]).hasDict = false := by decide +kernel
theorem dp_two {K : PySem.W.Frag} {H : Hp} {p : Addr} {z : Nat} (h : H p = some (.lst [.int (z : Int), .int (z : Int)])) : Dp K H (.ref p) (.list [.int (z : Int), .int (z : Int)]) := .lst (SqL.of h) (.cons (.int _) (.cons (.int _) .nil))
/-- x = tuple([.. for a, b in fields]) -/
theorem lcAsg {K : PySem.W.Frag} {σ : L2.St} {H : Hp} {r : List V → Hp → VK → Prop} {g : TG} {u : TS} {D : Ends} {j k : Nat} {tl te : TE} {fa : Addr} {fxs : List V} {fs : List Fld} {val : Fld → Int} (ht : ∀ R : VK, R (.ref fa) H → tl σ H R) (hfa : SqT K H fa fxs) (hd : DpAll K H fxs (fs.map encF)) (l12 : fs.length ≤ 12)
    (hw : ∀ x y, wipe (((wipe σ [j, k]).set j (some x)).set k (some y)) [j, k] = wipe σ [j, k])
    (hv : ∀ (fl : Fld) (H' : Hp) (R : VK), fl ∈ fs → R (.int (val fl)) H' → te (((wipe σ [j, k]).set j (some (.str fl.1))).set k (some (.int (fl.2 : Int)))) H' R)
    (q : ∀ Dd H', Same H H' → H Dd = none → H' Dd = some (.lst ((fs.map val).map V.int)) → r [.ref Dd] H' fun x H1 => g x σ H1 fun σ2 H2 => u D σ2 H2) :
    tSeq (tAsg (tCB r (tCons (tLc (iTup K tl) (gTup K 2 (gCons (gName j) (gCons (gName k) gNil))) tYes te [j, k]) tNil)) g) u D σ H := by
  unfold tSeq tAsg tCB tCons tNil
  exact lcPairs ht hfa hd l12 hw hv q
section
variable {P : Program} {w : World} {K : PySem.W.Frag} {mg : Str → Option Value} {base : Heap}
/-- the law's other parts -/
structure Oth (P : Program) (w : World) (K : PySem.W.Frag) (mg : Str → Option Value) (base : Heap) (fH fB fW fX : Addr) (fdH fdB fdW fdX : FuncData) : Prop where
  FH : Fun K "_law_headers" "_law_headers" sHeaders fH fdH
  bH : Binds K fdH ["_law_jar_here", "_law_least", "_law_most"] []
  gH : mg "_law_headers" = some (.ref fH)
  GH : FnOk P w K mg base CX0 5 fH fdH ["_law_jar_here", "_law_least", "_law_most"] (spHeaders K)
  FB : Fun K "_law_bytes" "_law_bytes" sBytes fB fdB
  bB : Binds K fdB ["_law_jar_here", "_law_many"] []
  gB : mg "_law_bytes" = some (.ref fB)
  GB : FnOk P w K mg base CX0 3 fB fdB ["_law_jar_here", "_law_many"] (spBytes K)
  FW : Fun K "_law_words" "_law_words" sWords fW fdW
  bW : Binds K fdW ["_law_jar_here", "_law_fields_here"] []
  gW : mg "_law_words" = some (.ref fW)
  GW : FnOk P w K mg base CX0 3 fW fdW ["_law_jar_here", "_law_fields_here"] (spWords K)
  FX : Fun K "_law_single" "_law_single" sSingle fX fdX
  bX : Binds K fdX ["_law_headers_here", "_law_at"] []
  gX : mg "_law_single" = some (.ref fX)
  GX : FnG P w K mg base CX0 10 fX fdX ["_law_headers_here", "_law_at"] (spSingle K)
theorem scRight : FnScope ["_law_jar_here", "_law_headers_here", "_law_at", "_law_fields_here", "_law_size_here", "_law_turn", "_law_taken", "_law_words_here", "_law_full", "_law_field", "_law_width"] ["_law_jar_here"] (defScope sRight) := ⟨rfl, rfl, rfl, by decide +kernel, rfl, by decide +kernel, by decide +kernel⟩
def spRight : Sp := fun vs H Q _ => ∃ (b : Addr) (o m c : Int), vs = [.ref b] ∧ H b = some (bw o m c) ∧ 0 ≤ o ∧ ∀ H', Exb b H H' → Q (.bl true) H'
theorem ok_right {kR kW kS : Nat} {f fPR fPW fPS fS fR fW fT fD fO fN fH fB fWd fX : Addr} {fd fdPR fdPW fdPS fdS fdR fdW fdT fdD fdO fdN fdH fdB fdWd fdX : FuncData} (F : Fun K "_law_right" "_law_right" sRight f fd) (B : Blt mg)
    (G : Prg P w K mg base kR kW kS fPR fPW fPS fdPR fdPW fdPS) (R : Rdr P w K mg base fS fR fW fT fdS fdR fdW fdT) (Z : Drw P w K mg base fD fO fN fdD fdO fdN) (Y : Oth P w K mg base fH fB fWd fX fdH fdB fdWd fdX) : FnG P w K mg base CX0 11 f fd ["_law_jar_here"] spRight := by
  refine okG F scRight (fun vs H Q E h => ?_) (fun cdv A outer s H vs Q E hA hr h => ?_)
  · obtain ⟨b, o, m, c, rfl, _⟩ := h
    rfl
  · obtain ⟨b, o, m, c, rfl, hb, ho, k⟩ := h
    refine ⟨_, pss_cons (ps_set (i := 1) scRight.nd rfl (.inl rfl) (pe_call Y.GH (hr.mono (by decide)) (by rfl) Y.gH Y.FH.kp Y.bH .nil pass0 (pa_cons (pv 0) (pa_cons pe_int (pa_cons pe_int pa_nil)))))
      (pss_cons (ps_for PassesOwn.never rfl (pi_range1 (by rfl) B.range (pa_cons (pe_callB call_len_seq (by rfl) B.len PySem.boot_len (pa_cons (pv 1) pa_nil)) pa_nil)) (pg_name (i := 2) scRight.nd rfl (.inl rfl))
        (pss_cons (ps_set (i := 3) scRight.nd rfl (.inl rfl) (pe_ix ix_tup (pe_ix ix_tup (pv 1) (pv 2) (fun _ _ => rfl)) pe_int (fun _ _ => rfl)))
        (pss_cons (ps_set (i := 4) scRight.nd rfl (.inl rfl) (pe_call R.GS (hr.mono (by decide)) (by rfl) R.gS R.FS.kp R.bS .nil pass0 (pa_cons (pv 3) pa_nil)))
        (pss_cons (ps_if (pt_cmpR op_ne (pe_callB (call_repr hA hr.units) (by rfl) B.repr (by decide +kernel) (pa_cons (pe_lst (pa_cons (pe_call G.GS (hr.mono (Nat.le_trans G.lS (by decide))) (by rfl) G.gS G.FS.kp G.bS .nil pass0 (pa_cons (pv 1) (pa_cons (pv 2) pa_nil))) (pa_cons (pe_callN0 G.GS (hr.mono (Nat.le_trans G.lS (by decide))) (by rfl) G.gS G.FS.kp G.nS pass0 (pk_cons (pv 2) (pk_cons (pv 1) pk_nil))) pa_nil))) pa_nil)) (pe_callB (call_repr hA hr.units) (by rfl) B.repr (by decide +kernel) (pa_cons (pe_lst (pa_cons (pv 4) (pa_cons (pv 4) pa_nil))) pa_nil)) (nomark _)) (pss_one (ps_ret pe_bl)) pss_nil)
        (pss_cons (ps_for PassesOwn.never rfl (pi_range1 (by rfl) B.range (pa_cons pe_int pa_nil)) (pg_name (i := 5) scRight.nd rfl (.inl rfl))
          (pss_cons (ps_par (i := 6) (j := 7) (by rfl) scRight.nd rfl rfl (by decide) rfl rfl (pa_cons (pe_call Y.GB (hr.mono (by decide)) (by rfl) Y.gB Y.FB.kp Y.bB .nil pass0 (pa_cons (pv 0) (pa_cons (pv 4) pa_nil))) (pa_cons (pe_call Y.GW (hr.mono (by decide)) (by rfl) Y.gW Y.FW.kp Y.bW .nil pass0 (pa_cons (pv 0) (pa_cons (pv 3) pa_nil))) pa_nil)) (by rfl))
          (pss_cons (ps_if (pt_not (pt_val (pe_callG R.GT hA (hr.mono (by decide)) (by rfl) R.gT R.FT.kp R.bT .nil pass0 (pa_cons (pv 1) (pa_cons (pv 2) (pa_cons (pv 6) (pa_cons (pe_call R.GR (hr.mono (by decide)) (by rfl) R.gR R.FR.kp R.bR .nil pass0 (pa_cons (pv 3) (pa_cons (pv 6) pa_nil))) pa_nil))))))) (pss_one (ps_ret pe_bl)) pss_nil)
          (pss_one (ps_if (pt_not (pt_val (pe_callG R.GT hA (hr.mono (by decide)) (by rfl) R.gT R.FT.kp R.bT .nil pass0 (pa_cons (pv 1) (pa_cons (pv 2) (pa_cons (pe_call R.GW (hr.mono (by decide)) (by rfl) R.gW R.FW.kp R.bW .nil pass0 (pa_cons (pv 3) (pa_cons (pv 7) pa_nil))) (pa_cons (pv 7) pa_nil))))))) (pss_one (ps_ret pe_bl)) pss_nil)))))
        (pss_cons (ps_set (i := 8) scRight.nd rfl (.inl rfl) (pe_callTy call_tuple_of (by rfl) B.tuple (by decide +kernel) (pa_cons (pe_lc (own := [("_law_field", 9), ("_law_width", 10)]) (g := gTup K 2 (gCons (gName 9) (gCons (gName 10) gNil))) (tt := tYes) rfl scRight.nd (pi_tup (pv 3))
              (blkOk_by (N := ["_law_jar_here", "_law_headers_here", "_law_at", "_law_fields_here", "_law_size_here", "_law_turn", "_law_taken", "_law_words_here", "_law_full", "_law_field", "_law_width"]) (sc := defScope sRight) (by decide +kernel)) (fun _ _ _ _ _ => pg_tup rfl (pgs_cons (pg_name (i := 9) scRight.nd rfl (.inl rfl)) (pgs_cons (pg_name (i := 10) scRight.nd rfl (.inl rfl)) pgs_nil))) (fun _ _ _ _ _ => pts_nil) (fun _ _ _ _ _ => pe_op op_sub (pe_op op_shl pe_int (pv 10)) pe_int)) pa_nil)))
        (pss_one (ps_if (pt_not (pt_val (pe_callG R.GT hA (hr.mono (by decide)) (by rfl) R.gT R.FT.kp R.bT .nil pass0 (pa_cons (pv 1) (pa_cons (pv 2) (pa_cons (pe_op TR.op_repA (pe_tup (pa_cons pe_int pa_nil)) (pv 4)) (pa_cons (pv 8) pa_nil))))))) (pss_one (ps_ret pe_bl)) pss_nil))))))))
      (pss_one (ps_ret (pe_callG Y.GX hA hr (by rfl) Y.gX Y.FX.kp Y.bX .nil pass0 (pa_cons (pv 1) (pa_cons (pe_call Z.GD (hr.mono (by decide)) (by rfl) Z.gD Z.FD.kp Z.bD .nil pass0 (pa_cons (pv 0) (pa_cons (pe_callB call_len_seq (by rfl) B.len PySem.boot_len (pa_cons (pv 1) pa_nil)) pa_nil))) pa_nil)))))), ?_⟩
    refine ⟨_, rfl, b, 1, 6, o, m, c, rfl, hb, ho, by decide, by decide, fun H1 v hs j1 dv hok l1 l6 => ?_⟩
    obtain ⟨e1, o1, m1, c1, hb1, ho1⟩ := j1
    obtain ⟨va, vxs, rfl, hva, hvd⟩ := dp_tup dv
    have vl := dpAll_len hvd
    rw [List.length_map] at vl
    refine ⟨_, rfl, va, _, rfl, .inr hva, (vxs.length : Int), rfl, by omega, by omega, ?_⟩
    rw [Int.toNat_natCast, vl]
    refine for_range (lo := 0) (n := hs.length) (fun i σ H' => ∃ v2 v3 v4 v5 v6 v7 v8 : Option V, σ = [some (.ref b), some (.ref va), v2, v3, v4, v5, v6, v7, v8, none, none] ∧ Jr b H1 H')
      ⟨_, _, _, _, _, _, _, rfl, ⟨Exb.refl _ _, o1, m1, c1, hb1, ho1⟩⟩ ?_ ?_
    · rintro i σ H2 hi ⟨v2, v3, v4, v5, v6, v7, v8, rfl, j2⟩
      rw [Int.zero_add]
      have dv2 := dpExb hb1 j2.e (noL_encHs hs) dv
      obtain ⟨⟨nm, fs⟩, hfl⟩ : ∃ h, hs[i]? = some h := ⟨_, List.getElem?_eq_getElem hi⟩
      obtain ⟨ha, hxs, a, fv, ev, hh1, hh2, hh3, dfv⟩ := hdr_at dv2 hfl
      cases ev
      have hf := hok.fo _ (List.mem_of_getElem? hfl)
      have l12 : fs.length ≤ 12 := hf.l2
      have lws := wds_len fs
      have le : (wds fs).sum ≤ 128 := hf.le
      have m8 : (wds fs).sum % 8 = 0 := hf.m8
      refine ⟨_, rfl, _, rfl, va, hxs, i, _, rfl, rfl, hh1, atI_nat hh2, a, _, 1, _, rfl, rfl, hh3, atI_nat (j := 1) rfl, ?_⟩
      refine ⟨_, rfl, fv, fs, rfl, dfv, l12, fun H3 s3 => ?_⟩
      obtain ⟨sz, hsz⟩ : ∃ sz, (wds fs).sum / 8 = sz := ⟨_, rfl⟩
      rw [hsz]
      have z17 : sz < 17 := by omega
      obtain ⟨k1, k2, k3, k4⟩ := okd2 sz z17
      have dv3 := dpSame s3 dv2
      refine ⟨_, rfl, _, rfl, _, hs, i, nm, fs, rfl, dv3, hok, hfl, fun H4 s4 => ?_⟩
      rw [hsz]
      refine ⟨_, rfl, _, rfl, rfl, _, hs, i, nm, fs, rfl, dpSame s4 dv3, hok, hfl, fun H5 s5 => ?_⟩
      rw [hsz]
      refine ⟨by show 2 ≤ sizeLine; decide, fun p6 hp6 => ?_⟩
      refine ⟨_, _, rfl, .dat (dp_two upd_same) k4, k1, k2, k3, ?_⟩
      refine ⟨_, rfl, _, rfl, by show 2 ≤ sizeLine; decide, fun p7 hp7 => ?_⟩
      refine ⟨_, _, rfl, .dat (dp_two upd_same) k4, k1, k2, k3, rfl, _, rfl, iteNS rfl ?_⟩
      have s8 := s3.trans (s4.trans (s5.trans ((same_new (o := .lst [.int (sz : Int), .int (sz : Int)]) hp6).trans (same_new (o := .lst [.int (sz : Int), .int (sz : Int)]) hp7))))
      have j8 := j2.same s8
      have dfv8 := dpSame s8 dfv
      have dv8 := dpSame s8 dv2
      obtain ⟨o8, m8', c8, hb8, ho8⟩ := j8.at_
      have szw : 8 * sz = (wds fs).sum := by omega
      refine ⟨3, rfl, by decide, by decide, for_range (lo := 0) (n := 3) (fun t σ H' => ∃ v5 v6 v7 : Option V, σ = [some (.ref b), some (.ref va), some (.int (i : Int)), some fv, some (.int (sz : Int)), v5, v6, v7, v8, none, none] ∧ Jr b (upd (upd H5 p6 (.lst [.int (sz : Int), .int (sz : Int)])) p7 (.lst [.int (sz : Int), .int (sz : Int)])) H')
        ⟨_, _, _, rfl, ⟨Exb.refl _ _, o8, m8', c8, hb8, ho8⟩⟩ ?_ ?_⟩
      · rintro t σ H9 ht ⟨v5, v6, v7, rfl, j9⟩
        obtain ⟨o9, m9, c9, hb9, ho9⟩ := j9.at_
        have dv9 := dpExb hb8 j9.e (noL_encHs hs) dv8
        have df9 := dpExb hb8 j9.e (noL_encFs fs) dfv8
        refine ⟨_, rfl, _, rfl, b, sz, o9, m9, c9, rfl, hb9, ho9, by omega, fun H10 vb bs j10 db10 lb ltb => ?_⟩
        obtain ⟨o10, m10, c10, hb10, ho10⟩ := j10.at_
        have dv10 := dpExb hb9 j10.e (noL_encHs hs) dv9
        have df10 := dpExb hb9 j10.e (noL_encFs fs) df9
        refine ⟨_, rfl, _, rfl, b, fv, fs, o10, m10, c10, rfl, hb10, ho10, df10, l12, hf.wd, fun H11 vu ns j11 du11 fit => ⟨_, _, rfl, ?_⟩⟩
        have dv11 := dpExb hb10 j11.e (noL_encHs hs) dv10
        have df11 := dpExb hb10 j11.e (noL_encFs fs) df10
        have db11 := dpExb hb10 j11.e (noL_encNs bs) db10
        refine ⟨_, rfl, _, rfl, _, rfl, _, rfl, _, rfl, fv, vb, fs, bs, rfl, df11, db11, l12, by omega, by omega, fun H12 pb s12 f12 => ?_⟩
        refine ⟨_, _, _, hs, i, nm, fs, bs, _, rfl, dpSame s12 dv11, hok, hfl, dpSame s12 db11, dp_encNs f12, rel_of_bytes (by omega) ltb, fun H13 s13 => ⟨true, rfl, iteF ?_⟩⟩
        have t13 := s12.trans s13
        have du13 := dpSame t13 du11
        refine ⟨_, rfl, _, rfl, _, rfl, _, rfl, fv, vu, fs, ns, sz, rfl, dpSame t13 df11, du13, l12, by rw [fit.len, lws], szw, by omega, fun H14 pw s14 f14 => ?_⟩
        refine ⟨_, rfl, _, _, _, hs, i, nm, fs, _, ns, rfl, dpSame (t13.trans s14) dv11, hok, hfl, dp_encNs f14, dpSame s14 du13, rel_of_words szw fit, fun H15 s15 => ⟨true, rfl, iteF ?_⟩⟩
        exact ⟨_, _, _, rfl, (Jr.trans j9.e (Jr.trans j10.e j11)).same (t13.trans (s14.trans s15))⟩
      · rintro σ H9 ⟨v5, v6, v7, rfl, j9⟩
        have dv9 := dpExb hb8 j9.e (noL_encHs hs) dv8
        have df9 := dpExb hb8 j9.e (noL_encFs fs) dfv8
        obtain ⟨fa, fxs, ef, hfa, hfd⟩ := dp_tup df9
        cases ef
        dsimp only
        refine lcAsg (fs := fs) (val := fun fl => (2 : Int) ^ fl.2 - 1) (fun R r => ⟨_, rfl, r⟩) hfa hfd l12 (fun _ _ => rfl) (fun fl H' R hm r => ?_) fun D H' s' hD f' => ?_
        · have wf := hf.wd fl hm
          refine ⟨_, rfl, _, _, rfl, rfl, ⟨by omega, by omega, by decide⟩, _, _, rfl, rfl, ?_⟩
          have e := one_shl fl.2
          simp only [e]
          exact r
        · rw [full_vN] at f'
          refine ⟨D, _, rfl, .inl ⟨SqL.of f', fun pt hpt => ?_⟩⟩
          have s10 := s'.trans (same_new (o := .tup (vN ((wds fs).map fun w => 2 ^ w - 1))) hpt)
          refine ⟨_, rfl, _, rfl, by show 1 ≤ sizeLine; decide, fun c1 hc1 => ⟨_, rfl, c1, (sz : Int), _, rfl, rfl, SqT.of upd_same, by decide, by omega, by omega, by decide, fun d1 H11 u2 g1 => ?_⟩⟩
          rw [Int.toNat_natCast, rep_ff] at g1
          have u1 := same_new (o := .tup [.int 255]) hc1
          have u12 := u1.trans u2
          refine ⟨_, rfl, _, _, _, hs, i, nm, fs, List.replicate sz 255, _, rfl, dpSame (s10.trans u12) dv9, hok, hfl, .tup g1 (dp_vN _), dp_encNs (u12 _ _ upd_same), rel_full szw, fun H12 s12 => ⟨true, rfl, iteF ?_⟩⟩
          exact ⟨_, _, _, _, _, _, _, rfl, Jr.trans j2.e (Jr.same (Jr.trans (Exb.of s8) j9) (s10.trans (Same.trans u12 s12)))⟩
    · rintro σ H2 ⟨v2, v3, v4, v5, v6, v7, v8, rfl, j2⟩
      have dv2 := dpExb hb1 j2.e (noL_encHs hs) dv
      obtain ⟨o2, m2, c2, hb2, ho2⟩ := j2.at_
      obtain ⟨va2, vxs2, ev, hva2, hvd2⟩ := dp_tup dv2
      cases ev
      have vl2 := dpAll_len hvd2
      rw [List.length_map] at vl2
      refine ⟨_, rfl, _, rfl, _, rfl, va, _, rfl, .inr hva2, b, _, o2, m2, c2, rfl, hb2, ho2, by omega, by omega, fun H3 r o3 m3 c3 e3 hb3 ho3 r0 r1 => ?_⟩
      obtain ⟨rn, rfl⟩ := Int.eq_ofNat_of_zero_le r0
      have hrn : rn < hs.length := by omega
      obtain ⟨⟨nm, fs⟩, hfl⟩ : ∃ h, hs[rn]? = some h := ⟨_, List.getElem?_eq_getElem hrn⟩
      refine ⟨_, hs, rn, nm, fs, rfl, dpExb hb2 e3 (noL_encHs hs) dv2, hok, hfl, fun H4 s4 => k _ ?_⟩
      exact e1.trans (j2.e.trans (e3.trans (Exb.of s4)))
end
end LJ

namespace LJ
open PySem PySem.Spec PyProof.Rows L2 GuL HG Bt
abbrev sLaw : Stmt := topS 50
section
variable {P : Program} {w : World} {K : PySem.W.Frag} {mg : Str → Option Value} {base : Heap}
def spLaw (K : PySem.W.Frag) : Sp := fun vs H Q _ => ∃ (a : Addr) (ns : List Int), vs = [.ref a] ∧ SqL K H a (ns.map V.int) ∧ ns.length ≤ 63 ∧ ∀ H', Q (.bl true) H'
theorem scLaw : FnScope ["_law_script", "_law_turn"] ["_law_script"] (defScope sLaw) := ⟨rfl, rfl, rfl, by decide +kernel, rfl, by decide +kernel, by decide +kernel⟩
theorem same_exb {H H1 H2 : Hp} {p : Addr} (s : Same H H1) (n : H p = none) (e : Exb p H1 H2) : Same H H2 := fun b o h => e b o (ne_of_none h n) (s b o h)
theorem ok_law {f fR fB : Addr} {fd fdR fdB : FuncData} (F : Fun K "law" "law" sLaw f fd) (B : Blt mg) (FR : Fun K "_law_right" "_law_right" sRight fR fdR) (bR : Binds K fdR ["_law_jar_here"] []) (gR : mg "_law_right" = some (.ref fR)) (GR : FnG P w K mg base CX0 11 fR fdR ["_law_jar_here"] spRight)
    (FB : Fun K "_law_jar" "_law_jar" sJar fB fdB) (bB : Binds K fdB ["_law_script", "_law_turn"] []) (gB : mg "_law_jar" = some (.ref fB)) : FnG P w K mg base CX0 12 f fd ["_law_script"] (spLaw K) := by
  have GB : FnOk P w K mg base CX0 1 fB fdB ["_law_script", "_law_turn"] (spJar K) := ok_jar FB B
  refine okG F scLaw (fun vs H Q E h => ?_) (fun cdv A outer s H vs Q E hA hr h => ?_)
  · obtain ⟨a, ns, rfl, _⟩ := h
    rfl
  · obtain ⟨a, ns, rfl, hS, hlen, k⟩ := h
    have hr1 : Room 1 _ := hr.mono (by decide)
    refine ⟨_, pss_one (ps_ret (pe_callB (cr_all rfl) (by rfl) B.all (by decide +kernel) (pa_cons
      (pe_lc (own := [("_law_turn", 1)]) (g := gName 1) (tt := tYes) rfl scLaw.nd (pi_range1 (by rfl) B.range (pa_cons (pe_callB (call_max2 rfl) (by rfl) B.max (by decide +kernel) (pa_cons pe_int (pa_cons (pe_callB (call_min2 rfl) (by rfl) B.min (by decide +kernel)
          (pa_cons (pe_callB call_len_seq (by rfl) B.len PySem.boot_len (pa_cons (pv 0) pa_nil)) (pa_cons pe_int pa_nil))) pa_nil))) pa_nil))
        (blkOk_by (N := ["_law_script", "_law_turn"]) (sc := defScope sLaw) (by decide +kernel)) (fun _ _ _ _ _ => pg_name (i := 1) scLaw.nd rfl (Or.inl rfl)) (fun _ _ _ _ _ => pts_nil)
        (fun _ _ _ _ _ => pe_callG GR hA hr (by rfl) gR FR.kp bR .nil pass0 (pa_cons (pe_call GB hr1 (by rfl) gB FB.kp bB .nil pass0 (pa_cons (pv 0) (pa_cons (pv 1) pa_nil))) pa_nil))) pa_nil))), ?_⟩
    refine ⟨_, rfl, a, _, rfl, .inl hS, _, _, rfl, _, _, rfl, _, rfl, ?_, ?_, fun D hD => ?_⟩
    · split <;> split <;> omega
    · split <;> split <;> omega
    refine lc_range (lo := 0) (fun i H' => Same H H' ∧ H' D = some (.lst ((List.replicate i true).map V.bl))) ⟨same_new hD, upd_same⟩ ?_ ?_
    · rintro i H1 hi ⟨s1, f1⟩
      have i3 : i ≤ 1000 := by
        have : i < 1000 := by
          revert hi
          split <;> split <;> omega
        omega
      refine ⟨rfl, _, rfl, _, rfl, a, ns, _, rfl, s1.seq hS, hlen, by omega, fun H2 p o m s2 np fp ho => ?_⟩
      refine ⟨p, o, m, 0, rfl, fp, ho, fun H3 e3 => ?_⟩
      have nDp : D ≠ p := ne_of_none f1 np
      have np0 : H p = none := s1.free np
      have f3 : H3 D = some (.lst ((List.replicate i true).map V.bl)) := e3 _ _ nDp (s2 _ _ f1)
      refine ⟨_, f3, ?_, fun b u e => ?_, ?_⟩
      · rw [List.length_map, List.length_replicate]
        exact small1000 i3
      · rw [upd_ne (ne_of_none e hD)]
        exact same_exb (s1.trans s2) np0 e3 _ _ e
      · rw [upd_same, List.replicate_succ', List.map_append]
        rfl
    · rintro H1 ⟨s1, f1⟩
      refine ⟨D, _, rfl, SqL.of f1, ?_⟩
      have e : ∀ n : Nat, (List.replicate n true).all id = true := fun n => by simp
      rw [e]
      exact k _
end
end LJ

namespace LJ
open PySem PySem.Spec PyProof.Rows L2 GuL HG
theorem iteD {c A B : Prop} [Decidable c] (hc : c) (h : A) : if (decide c) = true then A else B := by
  rw [decide_eq_true hc]
  exact iteT h
theorem tyx_sqT {K : PySem.W.Frag} {H : Hp} {a : Addr} {xs : List V} (h : SqT K H a xs) : TyX K H (.ref a) (.type "tuple") := by
  rcases h with (h | ⟨o, h⟩) | ⟨o, its, n, h1, h2, _⟩
  · exact .base (.tup h)
  · exact .fTuple h
  · exact .kTuple h1 h2
/-- all([.. for x in t]) -/
theorem allTup {K : PySem.W.Frag} {σ : L2.St} {H : Hp} {Q : VK} {j : Nat} {tl te : TE} {a : Addr} {xs : List V} (ht : ∀ R : VK, R (.ref a) H → tl σ H R) (ha : SqT K H a xs) (hl : xs.length ≤ 900)
    (hw : ∀ x, wipe ((wipe σ [j]).set j (some x)) [j] = wipe σ [j])
    (hv : ∀ (i : Nat) (x : V) (H' : Hp) (R : VK), xs[i]? = some x → Same H H' → (∀ H'', Same H' H'' → R (.bl true) H'') → te ((wipe σ [j]).set j (some x)) H' R)
    (q : ∀ H', Same H H' → Q (.bl true) H') : tCB (rAll K) (tCons (tLc (iTup K tl) (gName j) tYes te [j]) tNil) σ H Q := by
  unfold tCB tCons tNil
  refine ht _ ⟨a, rfl, ⟨_, ha⟩, fun D hD => ?_⟩
  refine lc_tup (K := K) (a := a) (xs := xs) (fun n H' => Same H H' ∧ H' D = some (.lst ((List.replicate n true).map V.bl))) ⟨same_new hD, upd_same⟩ (fun n H' _ p => sameT p.1 ha) ?_ ?_
  · rintro n x H' hn ⟨s, f⟩
    have n9 : n < xs.length := (List.getElem?_eq_some_iff.mp hn).1
    refine ⟨hw _, hv n x H' _ hn s fun H'' s2 => ⟨_, s2 _ _ f, ?_, fun b u hb => ?_, ?_⟩⟩
    · rw [List.length_map, List.length_replicate]
      exact small1000 (by omega)
    · rw [upd_ne (ne_of_none hb hD)]
      exact s2 _ _ (s _ _ hb)
    · rw [upd_same, List.replicate_succ', List.map_append]
      rfl
  · rintro H' ⟨s, f⟩
    refine ⟨D, _, rfl, SqL.of f, ?_⟩
    have e : (List.replicate xs.length true).all id = true := by simp
    rw [e]
    exact q H' s
abbrev sNumber : Stmt := topS 11
abbrev sIsRow : Stmt := topS 12
abbrev sAreBytes : Stmt := topS 13
section
variable {P : Program} {w : World} {K : PySem.W.Frag} {mg : Str → Option Value} {base : Heap}
/-! ### numbers, words, bytes -/
theorem scNumber : FnScope ["value", "least", "most"] ["value", "least", "most"] (defScope sNumber) := ⟨rfl, rfl, rfl, by decide +kernel, rfl, by decide +kernel, by decide +kernel⟩
def spNumber : Sp := fun vs H Q _ => ∃ z a b : Int, vs = [.int z, .int a, .int b] ∧ a ≤ z ∧ z ≤ b ∧ Q (.bl true) H
theorem ok_number {f : Addr} {fd : FuncData} (F : Fun K "is_number" "is_number" sNumber f fd) (B : Blt mg) : FnOk P w K mg base CX0 1 f fd ["value", "least", "most"] spNumber := by
  refine F.ok scNumber (fun vs H Q E h => ?_) (fun cdv A outer s H vs Q E hr h => ?_)
  · obtain ⟨z, a, b, rfl, _⟩ := h
    rfl
  · obtain ⟨z, a, b, rfl, h1, h2, k⟩ := h
    refine ⟨_, pss_one (ps_ret (pe_and (pe_callB call_isi (by rfl) B.isi (by decide +kernel) (pa_cons (pv 0) (pa_cons (pe_bltn (v := .ty "int") (by rfl) B.int (by decide +kernel) rfl) pa_nil))) (pe_and (pe_chain op_le op_le (pv 1) (pv 0) (pv 2)) (pe_one (pe_not (pe_callB call_isi (by rfl) B.isi (by decide +kernel) (pa_cons (pv 0) (pa_cons (pe_bltn (v := .ty "bool") (by rfl) B.bool (by decide +kernel) rfl) pa_nil)))))))), ?_⟩
    refine ⟨_, rfl, .int z, .ty "int", _, _, true, rfl, .ty _, .base (.int z), kit_ty (by decide +kernel), true, rfl, iteT ?_⟩
    refine ⟨_, rfl, _, rfl, _, _, rfl, rfl, _, rfl, iteD h1 ⟨_, rfl, _, _, rfl, rfl, _, rfl, iteD h2 ?_⟩⟩
    exact ⟨_, rfl, .int z, .ty "bool", _, _, false, rfl, .ty _, .base (.int z), kit_ty (by decide +kernel), false, rfl, k⟩
theorem scIsRow : FnScope ["value", "least", "most"] ["value", "least", "most"] (defScope sIsRow) := ⟨rfl, rfl, rfl, by decide +kernel, rfl, by decide +kernel, by decide +kernel⟩
def spIsRow (K : PySem.W.Frag) : Sp := fun vs H Q _ => ∃ (a : Addr) (xs : List V) (lo hi : Int), vs = [.ref a, .int lo, .int hi] ∧ SqT K H a xs ∧ lo ≤ (xs.length : Int) ∧ (xs.length : Int) ≤ hi ∧ Q (.bl true) H
theorem ok_isrow {f : Addr} {fd : FuncData} (F : Fun K "is_row" "is_row" sIsRow f fd) (B : Blt mg) : FnOk P w K mg base CX0 1 f fd ["value", "least", "most"] (spIsRow K) := by
  refine F.ok scIsRow (fun vs H Q E h => ?_) (fun cdv A outer s H vs Q E hr h => ?_)
  · obtain ⟨a, xs, lo, hi, rfl, _⟩ := h
    rfl
  · obtain ⟨a, xs, lo, hi, rfl, h1, h2, h3, k⟩ := h
    refine ⟨_, pss_one (ps_ret (pe_and (pe_callB call_isi (by rfl) B.isi (by decide +kernel) (pa_cons (pv 0) (pa_cons (pe_bltn (v := .ty "tuple") (by rfl) B.tuple (by decide +kernel) rfl) pa_nil))) (pe_one (pe_chain op_le op_le (pv 1) (pe_callB call_len_seq (by rfl) B.len PySem.boot_len (pa_cons (pv 0) pa_nil)) (pv 2))))), ?_⟩
    refine ⟨_, rfl, .ref a, .ty "tuple", _, _, true, rfl, .ty _, tyx_sqT h1, kit_ty (by decide +kernel), true, rfl, iteT ?_⟩
    refine ⟨_, rfl, _, rfl, a, _, rfl, .inr h1, _, _, rfl, rfl, _, rfl, iteD h2 ⟨_, rfl, _, _, rfl, rfl, ?_⟩⟩
    show Q (.bl (decide ((xs.length : Int) ≤ hi))) H
    rw [decide_eq_true h3]
    exact k
end
end LJ

namespace LJ
open PySem PySem.Spec PyProof.Rows L2 GuL HG Bt
/-! ### signs taken off both ends, none of a dict's keys -/
theorem takeAll {α : Type} {p : α → Bool} : ∀ {l : List α}, (∀ a ∈ l, p a = true) → l.takeWhile p = l
  | [], _ => rfl
  | a :: l, h => by
    rw [List.takeWhile_cons, if_pos (h a List.mem_cons_self), takeAll fun b hb => h b (List.mem_cons_of_mem _ hb)]
theorem strip_nil {z y : Str} (h : ∀ c ∈ z.cps.toList, c ∈ y.cps.toList) : (Txt.stripChars z y).length = 0 := by
  have e : z.cps.toList.takeWhile y.cps.contains = z.cps.toList := takeAll fun c hc => by
    rw [Array.contains_iff_mem]
    exact Array.mem_toList_iff.mp (h c hc)
  have lo : stripLo y.cps.contains true z = z.cps.size := by
    unfold stripLo
    rw [if_pos rfl, e]
    simp
  unfold Txt.stripChars Txt.stripBy
  split
  · rename_i q
    unfold stripSame at q
    obtain ⟨q1, _⟩ := Bool.and_eq_true_iff.mp q
    rw [lo] at q1
    exact eq_of_beq q1
  · unfold stripped
    rw [lo]
    have hi : stripHi y.cps.contains true z z.cps.size = z.cps.size := by
      unfold stripHi
      rw [if_pos rfl]
      have : z.cps.toList.drop z.cps.size = [] := List.drop_eq_nil_of_le (by simp)
      rw [this]
      rfl
    rw [hi]
    show (Str.mk (z.cps.extract z.cps.size z.cps.size)).length = 0
    simp [Str.length]
theorem find_none {P : Params} {z : Str} : ∀ {l : List DictEntry} {ks : List Str}, l.map He.keyOf = He.keysIn P ks → z ∉ ks → l.find? (·.key.isStr z) = none ∧ l.any (·.refKey) = false
  | [], _, _, _ => ⟨rfl, rfl⟩
  | e :: r, [], h, _ => by cases h
  | e :: r, k :: ks, h, n => by
    have h1 : He.keyOf e :: r.map He.keyOf = some (k, PyData.keyHash P k) :: He.keysIn P ks := h
    injection h1 with h2 h3
    obtain ⟨i1, i2⟩ := find_none h3 fun m => n (List.mem_cons_of_mem _ m)
    unfold He.keyOf at h2
    split at h2
    · rename_i x t q
      have h4 := Option.some.inj h2
      obtain ⟨h5, h6⟩ := Prod.mk.inj h4
      have ne : x ≠ z := fun e => n (by rw [← e, h5]; exact List.mem_cons_self)
      refine ⟨?_, ?_⟩
      · rw [List.find?_cons, q]
        have : Value.isStr (.str x t) z = false := by
          show (x == z) = false
          exact beq_eq_false_iff_ne.mpr ne
        rw [this]
        exact i1
      · rw [List.any_cons, i2]
        unfold DictEntry.refKey
        rw [q]
        rfl
    · cases h2
/-- a dict of just these texts stands at a -/
structure KeptAt (K : PySem.W.Frag) (w : World) (a : Addr) (zs : List Str) : Prop where
  kd : ∃ es n, KDict K w a es n
  no : ∀ z, z ∉ zs → PySem.W.nsIn K a z = some none
theorem keptAt {K : PySem.W.Frag} {w : World} {a : Addr} {zs : List Str} {es : Array DictEntry} {n : Nat} (l : K.lookup a = some ⟨.type "dict", none, .dict es n, #[]⟩) (q : es.toList.map He.keyOf = He.keysIn w.params zs) (low : (a == sysModules) = false) : KeptAt K w a zs := by
  refine ⟨⟨es, n, l, He.keysLit_of q, low⟩, fun z hz => ?_⟩
  obtain ⟨h1, h2⟩ := find_none q hz
  unfold PySem.W.nsIn
  rw [l]
  show (match es.toList.find? (·.key.isStr z) with
      | some e => some (some e.val)
      | none => if es.toList.any (·.refKey) then none else some none) = some none
  rw [h1, h2]
  rfl
end LJ

namespace LJ
open PySem PySem.Spec PyProof.Rows L2 GuL HG Bt
abbrev sIsName : Stmt := topS 14
theorem pe_gc {X : Cx} {x : Str} {v : V} {pos : Pos} (hg : Gl X x) (h : ∃ u, X.mg x = some u ∧ RelV v u) (hd : (x == ("__debug__" : Str)) = false := by decide) : PE X (.Name x pos) (tC v) := by
  obtain ⟨u, hm, r⟩ := h
  exact pe_glob hg hm r hd
/-- the program's constants -/
structure Cst (K : PySem.W.Frag) (w : World) (mg : Str → Option Value) : Prop where
  letters : ∃ u, mg "LETTERS" = some u ∧ RelV (.str (Str.ofString "abcdefghijklmnopqrstuvwxyz")) u
  signs : ∃ u, mg "NAME_SIGNS" = some u ∧ RelV (.str (Str.ofString "abcdefghijklmnopqrstuvwxyz0123456789_")) u
  kept : ∃ a, mg "KEPT_WORDS" = some (.ref a) ∧ KeptAt K w a keptN
  mh : ∃ u, mg "MOST_HEADERS" = some u ∧ RelV (.int 6) u
  mf : ∃ u, mg "MOST_FIELDS" = some u ∧ RelV (.int 12) u
  mw : ∃ u, mg "WORD_WIDTH" = some u ∧ RelV (.int 32) u
  mb : ∃ u, mg "MOST_HEADER_BITS" = some u ∧ RelV (.int 128) u
section
variable {P : Program} {w : World} {K : PySem.W.Frag} {mg : Str → Option Value} {base : Heap}
/-! ### rows of bytes -/
theorem scAreBytes : FnScope ["value", "least", "most", "byte"] ["value", "least", "most"] (defScope sAreBytes) := ⟨rfl, rfl, rfl, by decide +kernel, rfl, by decide +kernel, by decide +kernel⟩
def spAreBytes (K : PySem.W.Frag) : Sp := fun vs H Q _ => ∃ (v : V) (bs : List Nat) (lo hi : Int), vs = [v, .int lo, .int hi] ∧ Dp K H v (encNs bs) ∧ lo ≤ (bs.length : Int) ∧ (bs.length : Int) ≤ hi ∧ bs.length ≤ 800 ∧ (∀ b ∈ bs, b < 256) ∧ ∀ H', Same H H' → Q (.bl true) H'
theorem ok_arebytes {f fR fB : Addr} {fd fdR fdB : FuncData} (F : Fun K "are_bytes" "are_bytes" sAreBytes f fd) (B : Blt mg) (FR : Fun K "is_row" "is_row" sIsRow fR fdR) (bR : Binds K fdR ["value", "least", "most"] []) (gR : mg "is_row" = some (.ref fR))
    (FB : Fun K "is_number" "is_number" sNumber fB fdB) (bB : Binds K fdB ["value", "least", "most"] []) (gB : mg "is_number" = some (.ref fB)) (GB : FnOk P w K mg base CX0 1 fB fdB ["value", "least", "most"] spNumber) : FnOk P w K mg base CX0 4 f fd ["value", "least", "most"] (spAreBytes K) := by
  have GR : FnOk P w K mg base CX0 1 fR fdR ["value", "least", "most"] (spIsRow K) := ok_isrow FR B
  refine F.ok scAreBytes (fun vs H Q E h => ?_) (fun cdv A outer s H vs Q E hr h => ?_)
  · obtain ⟨v, bs, lo, hi, rfl, _⟩ := h
    rfl
  · obtain ⟨v, bs, lo, hi, rfl, dv, h1, h2, h3, h4, k⟩ := h
    refine ⟨_, pss_one (ps_ret (pe_and (pe_call GR (hr.mono (by decide)) (by rfl) gR FR.kp bR .nil pass0 (pa_cons (pv 0) (pa_cons (pv 1) (pa_cons (pv 2) pa_nil)))) (pe_one (pe_callB (cr_all rfl) (by rfl) B.all (by decide +kernel) (pa_cons
      (pe_lc (own := [("byte", 3)]) (g := gName 3) (tt := tYes) rfl scAreBytes.nd (pi_tup (pv 0)) (blkOk_by (N := ["value", "least", "most", "byte"]) (sc := defScope sAreBytes) (by decide +kernel)) (fun _ _ _ _ _ => pg_name (i := 3) scAreBytes.nd rfl (Or.inl rfl)) (fun _ _ _ _ _ => pts_nil)
        (fun _ _ _ _ _ => pe_call GB (hr.mono (by decide)) (by rfl) gB FB.kp bB .nil pass0 (pa_cons (pv 3) (pa_cons pe_int (pa_cons pe_int pa_nil))))) pa_nil))))), ?_⟩
    obtain ⟨a, xs, rfl, ha, hd⟩ := dp_tup dv
    obtain rfl := dp_vN_inv hd
    have lv := vN_len bs
    refine ⟨_, rfl, _, rfl, _, rfl, a, _, lo, hi, rfl, ha, by omega, by omega, true, rfl, iteT ?_⟩
    refine allTup (fun R r => ⟨_, rfl, r⟩) ha (by omega) (fun _ => rfl) (fun i x H' R hx s' r => ?_) k
    obtain ⟨n, hn, rfl⟩ := vN_at hx
    have h5 := h4 n (List.mem_of_getElem? hn)
    exact ⟨_, rfl, (n : Int), 0, 255, rfl, by omega, by omega, r H' (Same.refl _)⟩
/-! ### names -/
theorem scIsName : FnScope ["value"] ["value"] (defScope sIsName) := ⟨rfl, rfl, rfl, by decide +kernel, rfl, by decide +kernel, by decide +kernel⟩
def spIsName : Sp := fun vs H Q _ => ∃ z : Str, vs = [.str z] ∧ NameOk z ∧ ∀ H', Same H H' → Q (.bl true) H'
theorem ok_isname {f : Addr} {fd : FuncData} (F : Fun K "is_name" "is_name" sIsName f fd) (B : Blt mg) (C : Cst K w mg) : FnOk P w K mg base CX0 1 f fd ["value"] spIsName := by
  refine F.ok scIsName (fun vs H Q E h => ?_) (fun cdv A outer s H vs Q E hr h => ?_)
  · obtain ⟨z, rfl, _⟩ := h
    rfl
  · obtain ⟨z, rfl, hz, k⟩ := h
    obtain ⟨kw, gK, ⟨es, n, hK⟩, hn⟩ := C.kept
    have hl := sh_len hz.sh
    have hlen : z.length = z.cps.toList.length := str_len z
    have l0 : 0 < z.length := by omega
    have l1 : z.length ≤ 12 := by omega
    have nm_strip : (Txt.stripChars z (Str.ofString "abcdefghijklmnopqrstuvwxyz0123456789_")).length = 0 := strip_nil (sh_signs hz.sh)
    obtain ⟨c0, hc0⟩ : ∃ c0, z.cps.toList[0]? = some c0 := ⟨_, List.getElem?_eq_getElem (by omega)⟩
    have hcm : c0 ∈ letters := sh_first hz.sh c0 (by
      cases hz' : z.cps.toList with
      | nil => rw [hz'] at hc0; cases hc0
      | cons y ys =>
        rw [hz'] at hc0
        cases hc0
        exact List.mem_singleton.mpr rfl)
    refine ⟨_, pss_cons (ps_if (PW.pt (pw_or (pt_not (pt_val (pe_callB call_isi (by rfl) B.isi (by decide +kernel) (pa_cons (pv 0) (pa_cons (pe_bltn (v := .ty "str") (by rfl) B.str (by decide +kernel) rfl) pa_nil))))) (pw_or1 (pt_not (pt_chain op_lt op_le pe_int (pe_callB call_len_str (by rfl) B.len PySem.boot_len (pa_cons (pv 0) pa_nil)) pe_int))))) (pss_one (ps_ret pe_bl)) pss_nil)
      (pss_one (ps_ret (pe_and (pe_notT (pe_bm PySem.F.plainAttrs_str PySem.F.slot_str_strip PySem.F.type_str_strip mt_stripChars (pv 0) (pa_cons (pe_gc (by rfl) C.signs) pa_nil))) (pe_and (pe_cmpR op_in_sign (pe_ix ix_str (pv 0) pe_int (fun _ _ => rfl)) (pe_gc (by rfl) C.letters) (by rfl)) (pe_one (pe_cmpR (op_notIn_kd hK) (pv 0) (pe_gc (v := .ref kw) (by rfl) ⟨_, gK, rfl⟩) (by rfl))))))), ?_⟩
    refine ⟨_, rfl, .str z, .ty "str", _, _, true, rfl, .ty _, .base (.str z), kit_ty (by decide +kernel), true, rfl, iteF ?_⟩
    refine ⟨_, rfl, z, rfl, Nat.le_trans (show z.length ≤ 12 by omega) (by decide), _, _, rfl, rfl, _, rfl, ?_⟩
    rw [show decide ((0 : Int) < ((z.length : Nat) : Int)) = true from decide_eq_true (by omega)]
    refine ⟨_, _, rfl, rfl, ?_⟩
    have e12 : decide ((z.length : Int) ≤ 12) = true := decide_eq_true (by omega)
    refine ⟨true, congrArg V.bl e12, iteF ?_⟩
    refine ⟨_, rfl, rfl, _, _, rfl, rfl, Nat.le_trans (show z.length ≤ 12 by omega) (by decide), false, ⟨by rw [nm_strip]; decide, by rw [nm_strip]; rfl⟩, true, rfl, iteT ?_⟩
    refine ⟨_, rfl, z, 0, c0, rfl, rfl, Nat.le_trans (show z.length ≤ 12 by omega) (by decide), atI_nat (j := 0) hc0, c0, _, rfl, rfl, ?_⟩
    have e2 : decide (c0 ∈ (Str.ofString "abcdefghijklmnopqrstuvwxyz").cps.toList) = true := decide_eq_true hcm
    refine ⟨true, congrArg V.bl e2, iteT ?_⟩
    exact ⟨_, rfl, z, none, rfl, rfl, hn z hz.nk, k _ (Same.refl _)⟩
end
end LJ

/-! set(t) of a tuple of any texts: how many of them are unlike -/
namespace TxS
open PySem PySem.Spec PyProof.Rows
/-- how many unlike ones stand ahead of i -/
def cnt (xs : List Str) : Nat → Nat
  | 0 => 0
  | i + 1 => if decide (xs.getD i Str.empty ∈ xs.take i) = true then cnt xs i else cnt xs i + 1
theorem cnt_le (xs : List Str) : ∀ i, cnt xs i ≤ i
  | 0 => Nat.le_refl _
  | i + 1 => by
    have := cnt_le xs i
    unfold cnt
    split <;> omega
theorem nodup_not_mem {xs : List Str} (h : xs.Nodup) {i : Nat} (hi : i < xs.length) : xs.getD i Str.empty ∉ xs.take i := by
  intro m
  obtain ⟨j, hj⟩ := List.mem_iff_getElem?.mp m
  have hj2 : j < i := by
    have q := (List.getElem?_eq_some_iff.mp hj).1
    rw [List.length_take] at q
    omega
  rw [List.getElem?_take_of_lt hj2] at hj
  have e : xs[i]? = some (xs.getD i Str.empty) := by
    rw [List.getD_eq_getElem?_getD, List.getElem?_eq_getElem hi]
    rfl
  have z := (List.getElem?_inj hi h).mp (e.trans hj.symm)
  omega
theorem cnt_nodup {xs : List Str} (h : xs.Nodup) : ∀ i, i ≤ xs.length → cnt xs i = i
  | 0, _ => rfl
  | i + 1, hi => by
    have a := nodup_not_mem h (show i < xs.length by omega)
    unfold cnt
    rw [decide_eq_false a, if_neg Bool.false_ne_true, cnt_nodup h i (by omega)]
theorem take_any {xs : List Str} {i : Nat} (h : i < xs.length) (y : Str) : (decide (y ∈ xs.take i) || decide (y = xs.getD i Str.empty)) = decide (y ∈ xs.take (i + 1)) := by
  have e : xs.take (i + 1) = xs.take i ++ [xs.getD i Str.empty] := by
    rw [List.take_add_one, List.getD_eq_getElem?_getD, List.getElem?_eq_getElem h]
    rfl
  rw [e, Bool.eq_iff_iff]
  simp [List.mem_append]
section
variable {q : Program} {w : World} {A : Around} {R : Result → Shared → Prop} {J : Addr} {fp wr : List Addr} {G : Array GenState → Array GenState → Prop} {n : Nat} {P : Nat → Value → Prop} {St : Nat → Shared → Prop}
theorem turns (W : WalksS q w A.in1 J fp wr G n P St) (b : Addr) (hb : b ∉ fp) (xs : List Str) (hl : xs.length = n) (hs : n + 1 < scanBound) (hv : ∀ i v, P i v → ∃ t, v = .str (xs.getD i Str.empty) t) :
    ∀ (m i : Nat) (s : Shared), n - i = m → i ≤ n → St i s → s.heap.SetOf (strKind q w) b (fun y => decide (y ∈ xs.take i)) (cnt xs i) →
      (∀ s', Moved (b :: wr) G s s' → s'.heap.SetOf (strKind q w) b (fun y => decide (y ∈ xs.take n)) (cnt xs n) → R (.ok (.ret .none)) s') → codeAny (model q w) A (.builtin "set.update.loop" ⟨[.ref b, .ref J], []⟩) R s := by
  have nw : b ∉ wr := fun z => hb (W.sub _ z)
  have up : ∀ c ∈ wr, c ∈ b :: wr := fun c z => List.mem_cons_of_mem _ z
  intro m
  induction m with
  | zero =>
    intro i s hm hi st hS k
    obtain rfl : i = n := by omega
    refine codeAny_builtin PyProof.Rows.F.entry_set_update_loop ?_
    rw [Around.under_plainId PyProof.Rows.F.plain_set_update_loop _]
    refine wpAny_bind (W.done s _ _ st fun s1 mv => ?_)
    refine wpAny_pure (k s1 (mv.mono up) ?_)
    obtain ⟨o, es, ep, t, ho, more⟩ := hS
    exact ⟨o, es, ep, t, mv.heap b _ nw ho, more⟩
  | succ m ih =>
    intro i s hm hi st hS k
    have lt : i < n := by omega
    refine codeAny_builtin PyProof.Rows.F.entry_set_update_loop ?_
    rw [Around.under_plainId PyProof.Rows.F.plain_set_update_loop _]
    refine wpAny_bind (W.item i s _ _ lt st fun v s1 hP st1 mv => ?_)
    obtain ⟨t, rfl⟩ := hv i v hP
    have hS1 : s1.heap.SetOf (strKind q w) b (fun y => decide (y ∈ xs.take i)) (cnt xs i) := by
      obtain ⟨o, es, ep, t, ho, more⟩ := hS
      exact ⟨o, es, ep, t, mv.heap b _ nw ho, more⟩
    refine wpAny_bind (wpAny_holding ?_)
    unfold setAdd
    refine wpAny_holding (wpAny_bind ((strKind q w).pyHash (k := xs.getD i Str.empty) (strKind_is _ _ _ _) ?_))
    have room : cnt xs i + 1 < scanBound := by
      have := cnt_le xs i
      omega
    refine wpAny_setAddHashed_of (knd := strKind q w) (s := { s1 with toks := s1.toks + 1 }) (strKind_is _ _ _ _) rfl hS1 room fun h' sb hS2 => ?_
    have hS3 : h'.SetOf (strKind q w) b (fun y => decide (y ∈ xs.take (i + 1))) (cnt xs (i + 1)) := SetOf_congr hS2 (fun y => take_any (by omega) y) rfl
    refine wpAny_pure ⟨plainId_quiet PyProof.Rows.F.plain_set_update_loop _, ih (i + 1) _ (by omega) lt (W.frame _ s1 _ _ st1 (Nat.le_succ _) fun c z o e => ?_) hS3 fun s2 mv2 hS4 => k s2 ?_ hS4⟩
    · rw [sb.2 c (fun z2 : c = b => hb (z2 ▸ z))]
      exact e
    · refine Moved.trans W.gtrans ((mv.mono up).then_heap (Nat.le_succ _) fun c o z e => ?_) mv2
      rw [sb.2 c (fun z2 : c = b => z (z2 ▸ List.mem_cons_self))]
      exact e
end
section
variable {q : Program} {w : World} {A : Around} {E : Value → Shared → Prop} {s : Shared}
/-- a new set, nothing in it -/
abbrev bare (led : Bool) : Obj := { cls := .type "set", dict := none, data := .set #[] 0 (.fresh 0 0 led) }
set_option maxHeartbeats 3200000 in
/-- the tuple t of the texts xs is put into the new set -/
theorem fills {t : Addr} {its : Array Value} {xs : List Str} {led : Bool} {Q : Fin → Shared → Prop} (hh : A.handled = none) (ht : s.heap.IsTuple t its) (hx : StrsAre its.toList xs) (hs : its.size + 1 < scanBound)
    (hQ : ∀ h' tk, h'.SetOf (strKind q w) s.heap.objs.size (fun y => decide (y ∈ xs.take its.size)) (cnt xs its.size) → (∀ c o, c < s.heap.objs.size → s.heap.get? c = some o → h'.get? c = some o) → Q (.done (.ret .none)) { s with heap := h', toks := tk }) :
    wpAny (model q w) A (Builtin.«set.__init__» ⟨[.ref s.heap.objs.size, .ref t], []⟩) Q E { s with heap := s.heap.push (bare led) } := by
  obtain ⟨⟨kc, kd, kdat, ks⟩, hot, hct, nt, hdt⟩ := ht
  obtain rfl : kc = .type "tuple" := hct
  obtain rfl : kdat = .seq its nt := hdt
  have new : (s.heap.push (bare led)).get? s.heap.objs.size = some (bare led) := Heap.get?_push_size _ rfl
  have old := Heap.get?_push_of_some (bare led) hot
  have T1 : (s.heap.push (bare led)).IsTuple t its := ⟨_, old, rfl, nt, rfl⟩
  have a1 := PySem.F.sub_tuple_set
  have a2 := PySem.F.sub_tuple_frozenset
  have a3 : ((Value.type "tuple") == (Value.type "dict")) = false := by decide
  unfold Builtin.«set.__init__» noKeywords
  unfold Builtin.Frozenset.updateFrom
  generalize walkE : pyIter = PI
  wp_walk
  subst walkE
  refine wpAny_pyIter_tuple T1 (wpAny_bind (wpAny_runValue ?_))
  have lt := Heap.lt_size hot
  have z1 : t ≠ (s.heap.push (bare led)).objs.size := by
    rw [Heap.size_push]
    exact Nat.ne_of_lt (Nat.lt_succ_of_lt lt)
  have z2 : s.heap.objs.size ∉ [(s.heap.push (bare led)).objs.size, t] := by
    rw [Heap.size_push]
    simp only [List.mem_cons, List.not_mem_nil, or_false, not_or]
    exact ⟨Nat.ne_of_lt (Nat.lt_succ_self _), Nat.ne_of_gt lt⟩
  have len : xs.length = its.size := by rw [← StrsAre.len_eq hx, Array.length_toList]
  have vals : ∀ (i : Nat) (v : Value), its[i]? = some v → ∃ u, v = .str (xs.getD i Str.empty) u := fun i v e => SS.strs_at hx i v (by rw [Array.getElem?_toList]; exact e)
  refine turns ((Walks.tuple (by simp [hh]) _ t z1 its).toS) _ z2 xs len hs vals (its.size - 0) 0 _ rfl (Nat.zero_le _) ⟨⟨_, Heap.get?_push_size _ rfl, rfl, rfl⟩, T1.push _⟩ ?S ?k
  case S => exact SetOf_congr ((setObjOf_fresh (knd := strKind q w) led).setOf (Heap.get?_push_of_some _ new) (by unfold scanBound; omega)) (fun _ => by simp) rfl
  case k =>
    rintro ⟨h', g', d', tk', os'⟩ mv hS
    obtain rfl : g' = s.gens := mv.gens
    obtain rfl : d' = s.drawn := mv.drawn
    obtain rfl : os' = s.os := mv.os
    refine wpAny_pure (wpAny_pure (hQ h' tk' hS fun c o lc e => ?_))
    refine mv.heap c o ?_ (Heap.get?_push_of_some _ (Heap.get?_push_of_some _ e))
    rw [Heap.size_push]
    simp only [List.mem_cons, List.not_mem_nil, or_false, not_or]
    exact ⟨Nat.ne_of_lt lc, Nat.ne_of_lt (Nat.lt_succ_of_lt lc)⟩
set_option maxHeartbeats 3200000 in
/-- set(t) -/
theorem made {t : Addr} {its : Array Value} {xs : List Str} {Q : Value → Shared → Prop} (hh : A.handled = none) (ht : s.heap.IsTuple t its) (hx : StrsAre its.toList xs) (hs : its.size + 1 < scanBound)
    (hQ : ∀ h' tk, h'.SetOf (strKind q w) s.heap.objs.size (fun y => decide (y ∈ xs.take its.size)) (cnt xs its.size) → (∀ c o, c < s.heap.objs.size → s.heap.get? c = some o → h'.get? c = some o) → Q (.ref s.heap.objs.size) { s with heap := h', toks := tk }) :
    wpAny (model q w) A (call (.type "set") [.ref t]) Q E s := by
  obtain ⟨c, tl, mro⟩ := PySem.F.called_set.mro
  have f1 := PySem.F.called_set.made
  have f2 := PySem.F.called_set.sub
  have f3 := PySem.F.called_set.notType
  have f4 := PySem.F.called_set.canCreate
  have f5 := PySem.F.typeCall_set_1 (.ref t)
  have f6 := PySem.F.called_set.init.lookup
  have f7 := PySem.F.called_set.init.bind (.ref s.heap.objs.size)
  refine wpAny_call (codeAny_of_tree ?_)
  refine wpAny_pure ⟨Code.quiet_builtin _ (by decide +kernel), ?_⟩
  refine codeAny_builtin PySem.F.entry_type_call ?_
  rw [Around.under_plain (weight_type_call_type "set" [.ref t] []) rfl]
  repeat (any_goals first | assumption | wp_step)
  refine codeAny_mono (code_set_new_1 (.ref t) (E := E) (Q₁ := fun v s1 => ∃ led, v = .ref s.heap.objs.size ∧ s1 = { s with heap := s.heap.push (bare led) }) fun led => ⟨led, rfl, rfl⟩) fun r s1 hr => ?_
  match r, hr with
  | .error e, hr => exact hr
  | .ok (.ret v), hr =>
    obtain ⟨led, rfl, rfl⟩ := hr
    have new : (s.heap.push (bare led)).get? s.heap.objs.size = some (bare led) := Heap.get?_push_size _ rfl
    have ty : Shared.TypeIs { s with heap := s.heap.push (bare led) } (.ref s.heap.objs.size) "set" := ⟨_, new, rfl⟩
    repeat (any_goals first | assumption | wp_step)
    refine codeAny_mono (codeAny_call_builtin (R := fun r s2 => match r with
        | .ok (.ret v) => v = .none ∧ ∃ h' tk, s2 = { s with heap := h', toks := tk } ∧ h'.SetOf (strKind q w) s.heap.objs.size (fun y => decide (y ∈ xs.take its.size)) (cnt xs its.size) ∧ ∀ c o, c < s.heap.objs.size → s.heap.get? c = some o → h'.get? c = some o
        | .error e => E e s2
        | _ => False) PySem.F.called_set.init.plain PySem.F.entry_set_init (check_set_init_1 ty (fills (by simp [hh]) ht hx hs fun h' tk hS kp => ⟨rfl, h', tk, rfl, hS, kp⟩))) fun r2 s2 hr2 => ?_
    match r2, hr2 with
    | .error e, hr2 => exact hr2
    | .ok (.ret v), hr2 =>
      obtain ⟨rfl, h', tk, rfl, hS, kp⟩ := hr2
      repeat (any_goals first | assumption | wp_step)
      exact hQ _ _ hS kp
    | .ok .next, hr2 => exact hr2.elim
    | .ok .brk, hr2 => exact hr2.elim
    | .ok .cont, hr2 => exact hr2.elim
  | .ok .next, hr => exact hr.elim
  | .ok .brk, hr => exact hr.elim
  | .ok .cont, hr => exact hr.elim
end
end TxS

namespace TxS
open PySem PySem.Spec PyProof.Rows L2
def tLenTx (K : PySem.W.Frag) (ta : TE) : TE := fun σ H Q => ta σ H fun x H1 => ∃ (l : Addr) (xs : List Str), x = .ref l ∧ SqT K H1 l (xs.map V.str) ∧ xs.length ≤ 1000 ∧ Q (.int (cnt xs xs.length : Nat)) H1
variable {X : Cx}
/-- len(set(t)), t a tuple of texts -/
theorem pe_lenTx {a : Expr} {ta : TE} {p1 p2 p3 p4 : Pos} (hc : X.calm = true) (g1 : Gl X "len") (m1 : X.mg "len" = none) (g2 : Gl X "set") (m2 : X.mg "set" = none) (ha : PE X a ta) (st : starEach [a] X.env = (false, eval a X.env) :: starEach [] X.env := by rfl) :
    PE X (.Call (.Name "len" p1) [.Call (.Name "set" p2) [a] [] p3] [] p4) (tLenTx X.K ta) := by
  refine ⟨fun pins s σ H Q I h => Call_ (ld_blt I g1 m1 boot_len (callWith_builtin1 (args_cons (Call_ (ld_blt I g2 m2 boot_set ?_)) rfl) rfl rfl))⟩
  refine callWith_type1 (args_cons (thn (ha.run pins s σ H _ I h) fun v s1 z => args_nil ?_) st) st rfl
  obtain ⟨x, H1, I1, r1, l, xs, rfl, hq, hl, k⟩ := z
  cases r1
  obtain ⟨its, r, tp, _⟩ := I1.tuple hq
  have len : its.toArray.size = xs.length := by rw [List.size_toArray, ← r.length, List.length_map]
  refine made (I1.ok.hd hc) tp (by simpa using strsAre_of r) (by rw [len]; unfold scanBound; omega) fun h' tk hS kp => args_nil ?_
  rw [len] at hS
  obtain ⟨o, es, ep, t, ho, ex, hd, _, _, _, hf, hn⟩ := hS
  have I2 : Inv X pins σ H1 { s1 with heap := h', toks := tk } := I1.kept fun b o e => kp b o (Heap.lt_size e) e
  have c1 := cnt_le xs xs.length
  exact call_len_set ho ex hd hf (by rw [hn]; omega) ⟨.int (cnt xs xs.length : Nat), H1, I2.tok _, ⟨_, by rw [hn]⟩, k⟩
end TxS

namespace LJ
open PySem PySem.Spec PyProof.Rows L2 GuL HG Bt
abbrev sUnlike : Stmt := topS 15
abbrev sNamesIn : Stmt := topS 16
abbrev sSized : Stmt := topS 17
abbrev sIsHeader : Stmt := topS 24
abbrev sHeaderFields : Stmt := topS 25
abbrev sAreHeaders : Stmt := topS 23
/-- x = sum([.. for a, b in fields]), by r what comes of the new list -/
theorem lcAsg1 {K : PySem.W.Frag} {σ : L2.St} {H : Hp} {r : List V → Hp → VK → Prop} {g : TG} {u : TS} {D : Ends} {j k : Nat} {tl te : TE} {fa : Addr} {fxs : List V} {fs : List Fld} {val : Fld → Int} (ht : ∀ R : VK, R (.ref fa) H → tl σ H R) (hfa : SqT K H fa fxs) (hd : DpAll K H fxs (fs.map encF)) (l12 : fs.length ≤ 12)
    (hw : ∀ x y, wipe (((wipe σ [j, k]).set j (some x)).set k (some y)) [j, k] = wipe σ [j, k])
    (hv : ∀ (fl : Fld) (H' : Hp) (R : VK), fl ∈ fs → R (.int (val fl)) H' → te (((wipe σ [j, k]).set j (some (.str fl.1))).set k (some (.int (fl.2 : Int)))) H' R)
    (q : ∀ Dd H', Same H H' → H Dd = none → H' Dd = some (.lst ((fs.map val).map V.int)) → r [.ref Dd] H' fun x H1 => g x σ H1 fun σ2 H2 => u D σ2 H2) :
    tSeq (tAsg (tCB r (tCons (tLc (iTup K tl) (gTup K 2 (gCons (gName j) (gCons (gName k) gNil))) tYes te [j, k]) tNil)) g) u D σ H := by
  unfold tSeq tAsg tCB tCons tNil
  exact lcPairs ht hfa hd l12 hw hv q
section
variable {P : Program} {w : World} {K : PySem.W.Frag} {mg : Str → Option Value} {base : Heap}
/-! ### unlike texts, the names of parts -/
theorem scUnlike : FnScope ["parts"] ["parts"] (defScope sUnlike) := ⟨rfl, rfl, rfl, by decide +kernel, rfl, by decide +kernel, by decide +kernel⟩
def spUnlike (K : PySem.W.Frag) : Sp := fun vs H Q _ => ∃ (a : Addr) (zs : List Str), vs = [.ref a] ∧ SqT K H a (zs.map V.str) ∧ zs.Nodup ∧ zs.length ≤ 800 ∧ Q (.bl true) H
theorem ok_unlike {f : Addr} {fd : FuncData} (F : Fun K "are_unlike" "are_unlike" sUnlike f fd) (B : Blt mg) : FnOk P w K mg base CX0 1 f fd ["parts"] (spUnlike K) := by
  refine F.ok scUnlike (fun vs H Q E h => ?_) (fun cdv A outer s H vs Q E hr h => ?_)
  · obtain ⟨a, zs, rfl, _⟩ := h
    rfl
  · obtain ⟨a, zs, rfl, ha, nd, hl, k⟩ := h
    refine ⟨_, pss_one (ps_ret (pe_cmpR op_eq (TxS.pe_lenTx rfl (by rfl) B.len (by rfl) B.set (pv 0)) (pe_callB call_len_seq (by rfl) B.len PySem.boot_len (pa_cons (pv 0) pa_nil)) (nomark _))), ?_⟩
    refine ⟨_, rfl, a, zs, rfl, ha, by omega, _, rfl, a, _, rfl, .inr ha, rfl, ?_⟩
    have e : decide (V.int ((TxS.cnt zs zs.length : Nat) : Int) = V.int (((zs.map V.str).length : Nat) : Int)) = true := by
      refine decide_eq_true ?_
      rw [TxS.cnt_nodup nd _ (Nat.le_refl _), List.length_map]
    rw [e]
    exact k
theorem scNamesIn : FnScope ["parts", "part"] ["parts"] (defScope sNamesIn) := ⟨rfl, rfl, rfl, by decide +kernel, rfl, by decide +kernel, by decide +kernel⟩
def spNamesIn (K : PySem.W.Frag) : Sp := fun vs H Q _ => ∃ (a : Addr) (xs : List V) (ds : List PyData) (zs : List Str), vs = [.ref a] ∧ SqT K H a xs ∧ DpAll K H xs ds ∧ Rows zs ds ∧ zs.length ≤ 800 ∧ ∀ H' p, Same H H' → H' p = some (.tup (zs.map V.str)) → Q (.ref p) H'
theorem ok_namesin {f : Addr} {fd : FuncData} (F : Fun K "names_in" "names_in" sNamesIn f fd) (B : Blt mg) : FnOk P w K mg base CX0 1 f fd ["parts"] (spNamesIn K) := by
  refine F.ok scNamesIn (fun vs H Q E h => ?_) (fun cdv A outer s H vs Q E hr h => ?_)
  · obtain ⟨a, xs, ds, zs, rfl, _⟩ := h
    rfl
  · obtain ⟨a, xs, ds, zs, rfl, ha, hd, hz, hl, k⟩ := h
    refine ⟨_, pss_one (ps_ret (pe_callTy call_tuple_of (by rfl) B.tuple (by decide +kernel) (pa_cons (pe_lc (own := [("part", 1)]) (g := gName 1) (tt := tYes) rfl scNamesIn.nd (pi_tup (pv 0)) (blkOk_by (N := ["parts", "part"]) (sc := defScope sNamesIn) (by decide +kernel)) (fun _ _ _ _ _ => pg_name (i := 1) scNamesIn.nd rfl (Or.inl rfl)) (fun _ _ _ _ _ => pts_nil) (fun _ _ _ _ _ => pe_ix (r := rIxT K) ix_tup (pv 1) pe_int (fun _ _ => rfl))) pa_nil))), ?_⟩
    refine ⟨_, rfl, a, rfl, ⟨_, ha⟩, fun D hD => ?_⟩
    have lx : xs.length = zs.length := (dpAll_len hd).trans hz.len
    refine lc_tup (K := K) (a := a) (xs := xs) (fun n H' => Same H H' ∧ H' D = some (.lst ((zs.take n).map V.str))) ⟨same_new hD, upd_same⟩ (fun n H' _ p => sameT p.1 ha) ?_ ?_
    · rintro n x H' hn ⟨s', f'⟩
      obtain ⟨d, hd1, hd2⟩ := dpAll_at hd hn
      obtain ⟨z, e, hz1, rfl⟩ := hz.row n d hd1
      obtain ⟨b, y, rfl, h1, h2⟩ := pair_dp (dpSame s' hd2)
      have n8 := (List.getElem?_eq_some_iff.mp hn).1
      refine ⟨rfl, _, rfl, b, _, 0, _, rfl, rfl, h1, atI_nat (j := 0) rfl, _, f', ?_, fun c u hc => ?_, ?_⟩
      · rw [List.length_map]
        exact small1000 (Nat.le_trans (List.length_take_le _ _) (by omega))
      · rw [upd_ne (ne_of_none hc hD)]
        exact s' _ _ hc
      · rw [upd_same, List.take_add_one, hz1, List.map_append]
        rfl
    · rintro H' ⟨s', f'⟩
      rw [lx, List.take_of_length_le (Nat.le_refl _)] at f'
      exact ⟨D, _, rfl, .inl ⟨SqL.of f', fun p hp => k _ p (s'.trans (same_new hp)) upd_same⟩⟩
/-- the functions of words -/
structure Wfn (P : Program) (w : World) (K : PySem.W.Frag) (mg : Str → Option Value) (base : Heap) (fN fR fM fU fI : Addr) (dN dR dM dU dI : FuncData) : Prop where
  FN : Fun K "is_number" "is_number" sNumber fN dN
  bN : Binds K dN ["value", "least", "most"] []
  gN : mg "is_number" = some (.ref fN)
  GN : FnOk P w K mg base CX0 1 fN dN ["value", "least", "most"] spNumber
  FR : Fun K "is_row" "is_row" sIsRow fR dR
  bR : Binds K dR ["value", "least", "most"] []
  gR : mg "is_row" = some (.ref fR)
  GR : FnOk P w K mg base CX0 1 fR dR ["value", "least", "most"] (spIsRow K)
  FM : Fun K "is_name" "is_name" sIsName fM dM
  bM : Binds K dM ["value"] []
  gM : mg "is_name" = some (.ref fM)
  GM : FnOk P w K mg base CX0 1 fM dM ["value"] spIsName
  FU : Fun K "are_unlike" "are_unlike" sUnlike fU dU
  bU : Binds K dU ["parts"] []
  gU : mg "are_unlike" = some (.ref fU)
  GU : FnOk P w K mg base CX0 1 fU dU ["parts"] (spUnlike K)
  FI : Fun K "names_in" "names_in" sNamesIn fI dI
  bI : Binds K dI ["parts"] []
  gI : mg "names_in" = some (.ref fI)
  GI : FnOk P w K mg base CX0 1 fI dI ["parts"] (spNamesIn K)

/-! ### names with widths -/
theorem scSized : FnScope ["value", "least", "most", "part", "name", "width"] ["value", "least", "most"] (defScope sSized) := ⟨rfl, rfl, rfl, by decide +kernel, rfl, by decide +kernel, by decide +kernel⟩
def spSized (K : PySem.W.Frag) : Sp := fun vs H Q _ => ∃ (v : V) (fs : List Fld) (lo hi : Int), vs = [v, .int lo, .int hi] ∧ Dp K H v (encFs fs) ∧ lo ≤ (fs.length : Int) ∧ (fs.length : Int) ≤ hi ∧ fs.length ≤ 12 ∧ (∀ f ∈ fs, NameOk f.1 ∧ 1 ≤ f.2 ∧ f.2 ≤ 32) ∧ (fs.map (·.1)).Nodup ∧ ∀ H', Same H H' → Q (.bl true) H'
theorem ok_sized {f fN fR fM fU fI : Addr} {fd dN dR dM dU dI : FuncData} (F : Fun K "are_sized" "are_sized" sSized f fd) (B : Blt mg) (C : Cst K w mg) (Z : Wfn P w K mg base fN fR fM fU fI dN dR dM dU dI) : FnOk P w K mg base CX0 2 f fd ["value", "least", "most"] (spSized K) := by
  refine F.ok scSized (fun vs H Q E h => ?_) (fun cdv A outer s H vs Q E hr h => ?_)
  · obtain ⟨v, fs, lo, hi, rfl, _⟩ := h
    rfl
  · obtain ⟨v, fs, lo, hi, rfl, dv, l1, l2, l12, ok, nd, k⟩ := h
    refine ⟨_, pss_cons (ps_if (pt_not (pt_val (pe_call Z.GR (hr.mono (by decide)) (by rfl) Z.gR Z.FR.kp Z.bR .nil pass0 (pa_cons (pv 0) (pa_cons (pv 1) (pa_cons (pv 2) pa_nil)))))) (pss_one (ps_ret pe_bl)) pss_nil)
      (pss_cons (ps_for PassesOwn.never rfl (pi_tup (pv 0)) (pg_name (i := 3) scSized.nd rfl (.inl rfl))
        (pss_cons (ps_if (PW.pt (pw_or (pt_not (pt_val (pe_callB call_isi (by rfl) B.isi (by decide +kernel) (pa_cons (pv 3) (pa_cons (pe_bltn (v := .ty "tuple") (by rfl) B.tuple (by decide +kernel) rfl) pa_nil))))) (pw_or1 (pt_cmpR op_ne (pe_callB call_len_seq (by rfl) B.len PySem.boot_len (pa_cons (pv 3) pa_nil)) pe_int (nomark _))))) (pss_one (ps_ret pe_bl)) pss_nil)
        (pss_cons (ps_asg (pv 3) (pg_tup rfl (pgs_cons (pg_name (i := 4) scSized.nd rfl (.inl rfl)) (pgs_cons (pg_name (i := 5) scSized.nd rfl (.inl rfl)) pgs_nil))))
        (pss_one (ps_if (PW.pt (pw_or (pt_not (pt_val (pe_call Z.GM (hr.mono (by decide)) (by rfl) Z.gM Z.FM.kp Z.bM .nil pass0 (pa_cons (pv 4) pa_nil)))) (pw_or1 (pt_not (pt_val (pe_call Z.GN (hr.mono (by decide)) (by rfl) Z.gN Z.FN.kp Z.bN .nil pass0 (pa_cons (pv 5) (pa_cons pe_int (pa_cons (pe_gc (by rfl) C.mw) pa_nil)))))))))
          (pss_one (ps_ret pe_bl)) pss_nil)))))
      (pss_one (ps_ret (pe_call Z.GU (hr.mono (by decide)) (by rfl) Z.gU Z.FU.kp Z.bU .nil pass0 (pa_cons (pe_call Z.GI (hr.mono (by decide)) (by rfl) Z.gI Z.FI.kp Z.bI .nil pass0 (pa_cons (pv 0) pa_nil)) pa_nil))))), ?_⟩
    obtain ⟨a, xs, rfl, ha, hd⟩ := dp_tup dv
    have dl := dpAll_len hd
    rw [List.length_map] at dl
    refine ⟨_, rfl, _, rfl, _, rfl, a, xs, lo, hi, rfl, ha, by omega, by omega, true, rfl, iteF ?_⟩
    unfold tNext
    dsimp only
    refine ⟨_, rfl, a, rfl, ⟨_, ha⟩, for_tup (K := K) (a := a) (xs := xs) (fun i σ H' => ∃ v3 v4 v5 : Option V, σ = [some (.ref a), some (.int lo), some (.int hi), v3, v4, v5] ∧ Same H H') ⟨none, none, none, rfl, Same.refl _⟩ (fun i σ H' _ ⟨_, _, _, _, q⟩ => sameT q ha) ?_ ?_⟩
    · rintro i x σ H1 hi' ⟨v3, v4, v5, rfl, s1⟩
      obtain ⟨d, hd1, hd2⟩ := dpAll_at hd hi'
      rw [List.getElem?_map] at hd1
      obtain ⟨fl, hfl, rfl⟩ := Option.map_eq_some_iff.mp hd1
      obtain ⟨b, y', rfl, h1, h2⟩ := pair_dp (dpSame s1 hd2)
      obtain rfl := dp_int h2
      obtain ⟨nk, w1, w2⟩ := ok fl (List.mem_of_getElem? hfl)
      refine ⟨_, rfl, .ref b, .ty "tuple", _, _, true, rfl, .ty _, tyx_sqT h1, kit_ty (by decide +kernel), true, rfl, iteF ?_⟩
      refine ⟨_, rfl, b, _, rfl, .inr h1, rfl, false, rfl, iteF ?_⟩
      refine ⟨_, rfl, b, _, rfl, h1, rfl, _, _, rfl, _, _, rfl, rfl, ?_⟩
      refine ⟨_, rfl, fl.1, rfl, nk, fun H2 s2 => ⟨true, rfl, iteF ?_⟩⟩
      refine ⟨_, rfl, (fl.2 : Int), 1, 32, rfl, by omega, by omega, true, rfl, iteF ?_⟩
      exact ⟨_, _, _, rfl, s1.trans s2⟩
    · rintro σ H1 ⟨v3, v4, v5, rfl, s1⟩
      refine ⟨_, rfl, a, xs, _, _, rfl, sameT s1 ha, dpSameAll s1 hd, rowsF fs, by rw [List.length_map]; omega, fun H3 p s3 f3 => ?_⟩
      exact ⟨p, _, rfl, SqT.of f3, nd, by rw [List.length_map]; omega, k H3 (s1.trans s3)⟩
/-! ### the fields of a header -/
theorem scHeaderFields : FnScope ["value", "bits", "_", "width"] ["value"] (defScope sHeaderFields) := ⟨rfl, rfl, rfl, by decide +kernel, rfl, by decide +kernel, by decide +kernel⟩
def spHeaderFields (K : PySem.W.Frag) : Sp := fun vs H Q _ => ∃ (v : V) (fs : List Fld), vs = [v] ∧ Dp K H v (encFs fs) ∧ FieldsOk fs ∧ ∀ H', Same H H' → Q (.bl true) H'
theorem ok_headerfields {f fN fR fM fU fI fF : Addr} {fd dN dR dM dU dI dF : FuncData} (F : Fun K "are_header_fields" "are_header_fields" sHeaderFields f fd) (B : Blt mg) (C : Cst K w mg) (Z : Wfn P w K mg base fN fR fM fU fI dN dR dM dU dI)
    (FF : Fun K "are_sized" "are_sized" sSized fF dF) (bF : Binds K dF ["value", "least", "most"] []) (gF : mg "are_sized" = some (.ref fF)) : FnOk P w K mg base CX0 3 f fd ["value"] (spHeaderFields K) := by
  have GF : FnOk P w K mg base CX0 2 fF dF ["value", "least", "most"] (spSized K) := ok_sized FF B C Z
  refine F.ok scHeaderFields (fun vs H Q E h => ?_) (fun cdv A outer s H vs Q E hr h => ?_)
  · obtain ⟨v, fs, rfl, _⟩ := h
    rfl
  · obtain ⟨v, fs, rfl, dv, ok, k⟩ := h
    refine ⟨_, pss_cons (ps_if (pt_not (pt_val (pe_call GF hr (by rfl) gF FF.kp bF .nil pass0 (pa_cons (pv 0) (pa_cons pe_int (pa_cons (pe_gc (by rfl) C.mf) pa_nil)))))) (pss_one (ps_ret pe_bl)) pss_nil)
      (pss_cons (ps_set (i := 1) scHeaderFields.nd rfl (.inl rfl) (pe_callB (cr_sum rfl) (by rfl) B.sum (by decide +kernel) (pa_cons (pe_lc (own := [("_", 2), ("width", 3)]) (g := gTup K 2 (gCons (gName 2) (gCons (gName 3) gNil))) (tt := tYes) rfl scHeaderFields.nd (pi_tup (pv 0))
              (blkOk_by (N := ["value", "bits", "_", "width"]) (sc := defScope sHeaderFields) (by decide +kernel)) (fun _ _ _ _ _ => pg_tup rfl (pgs_cons (pg_name (i := 2) scHeaderFields.nd rfl (.inl rfl)) (pgs_cons (pg_name (i := 3) scHeaderFields.nd rfl (.inl rfl)) pgs_nil))) (fun _ _ _ _ _ => pts_nil) (fun _ _ _ _ _ => pv 3)) pa_nil)))
      (pss_one (ps_ret (pe_and (pe_cmpR op_eq (pe_op op_mod (pv 1) pe_int) pe_int (nomark _)) (pe_one (pe_cmpR op_le (pv 1) (pe_gc (by rfl) C.mb) (nomark _))))))), ?_⟩
    have l1 := ok.l1
    have l12 := ok.l2
    refine ⟨_, rfl, _, fs, 1, 12, rfl, dv, by omega, by omega, by omega, fun f hf => ⟨ok.nm f hf, ok.wd f hf⟩, ok.nd, fun H1 s1 => ⟨true, rfl, iteF ?_⟩⟩
    obtain ⟨a, xs, rfl, ha, hd⟩ := dp_tup dv
    have dl := dpAll_len hd
    rw [List.length_map] at dl
    have m8 : (wds fs).sum % 8 = 0 := ok.m8
    have le : (wds fs).sum ≤ 128 := ok.le
    unfold tNext
    dsimp only
    refine lcAsg1 (fs := fs) (val := fun fl => (fl.2 : Int)) (fun R r => ⟨_, rfl, r⟩) (sameT s1 ha) (dpSameAll s1 hd) l12 (fun _ _ => rfl) (fun fl H' R _ r => ⟨_, rfl, r⟩) fun D H2 s2 hD f2 => ?_
    refine ⟨D, _, rfl, SqL.of f2, ?_⟩
    rw [sum_wds]
    have s12 := s1.trans s2
    refine ⟨_, rfl, _, _, rfl, rfl, (by show (0 : Int) < _; decide), rfl, ?_⟩
    have e1 : decide (V.int ((((wds fs).sum : Nat) : Int) % 8) = V.int 0) = true := by
      refine decide_eq_true (congrArg V.int ?_)
      omega
    refine ⟨true, congrArg V.bl e1, iteT ?_⟩
    refine ⟨_, rfl, _, _, rfl, rfl, ?_⟩
    have e2 : decide ((((wds fs).sum : Nat) : Int) ≤ 128) = true := decide_eq_true (by omega)
    show Q (.bl (decide ((((wds fs).sum : Nat) : Int) ≤ 128))) H2
    rw [e2]
    exact k H2 s12
end
end LJ

namespace LJ
open PySem PySem.Spec PyProof.Rows L2 GuL HG Bt
abbrev sCheckIndex : Stmt := topS 29
abbrev sHeaderSize : Stmt := topS 30
section
variable {P : Program} {w : World} {K : PySem.W.Frag} {mg : Str → Option Value} {base : Heap}
/-! ### a header, headers -/
theorem scIsHeader : FnScope ["value"] ["value"] (defScope sIsHeader) := ⟨rfl, rfl, rfl, by decide +kernel, rfl, by decide +kernel, by decide +kernel⟩
def spIsHeader (K : PySem.W.Frag) : Sp := fun vs H Q _ => ∃ (v : V) (h : Hdr), vs = [v] ∧ Dp K H v (encH h) ∧ NameOk h.1 ∧ FieldsOk h.2 ∧ ∀ H', Same H H' → Q (.bl true) H'
theorem ok_isheader {f fN fR fM fU fI fF : Addr} {fd dN dR dM dU dI dF : FuncData} (F : Fun K "is_header" "is_header" sIsHeader f fd) (Z : Wfn P w K mg base fN fR fM fU fI dN dR dM dU dI)
    (FF : Fun K "are_header_fields" "are_header_fields" sHeaderFields fF dF) (bF : Binds K dF ["value"] []) (gF : mg "are_header_fields" = some (.ref fF)) (GF : FnOk P w K mg base CX0 3 fF dF ["value"] (spHeaderFields K)) : FnOk P w K mg base CX0 4 f fd ["value"] (spIsHeader K) := by
  refine F.ok scIsHeader (fun vs H Q E h => ?_) (fun cdv A outer s H vs Q E hr h => ?_)
  · obtain ⟨v, h, rfl, _⟩ := h
    rfl
  · obtain ⟨v, h, rfl, dv, nk, ok, k⟩ := h
    refine ⟨_, pss_one (ps_ret (pe_and (pe_call Z.GR (hr.mono (by decide)) (by rfl) Z.gR Z.FR.kp Z.bR .nil pass0 (pa_cons (pv 0) (pa_cons pe_int (pa_cons pe_int pa_nil)))) (pe_and (pe_call Z.GM (hr.mono (by decide)) (by rfl) Z.gM Z.FM.kp Z.bM .nil pass0 (pa_cons (pe_ix ix_tup (pv 0) pe_int (fun _ _ => rfl)) pa_nil)) (pe_one (pe_call GF hr (by rfl) gF FF.kp bF .nil pass0 (pa_cons (pe_ix ix_tup (pv 0) pe_int (fun _ _ => rfl)) pa_nil)))))), ?_⟩
    obtain ⟨a, y, rfl, g1, g2⟩ := pair_dp dv
    refine ⟨_, rfl, a, _, 2, 2, rfl, g1, Int.le_refl _, Int.le_refl _, true, rfl, iteT ?_⟩
    refine ⟨_, rfl, a, _, 0, _, rfl, rfl, g1, atI_nat (j := 0) rfl, _, rfl, nk, fun H1 s1 => ⟨true, rfl, iteT ?_⟩⟩
    exact ⟨_, rfl, a, _, 1, _, rfl, rfl, sameT s1 g1, atI_nat (j := 1) rfl, y, h.2, rfl, dpSame s1 g2, ok, fun H2 s2 => k _ (s1.trans s2)⟩
theorem scAreHeaders : FnScope ["value", "part"] ["value"] (defScope sAreHeaders) := ⟨rfl, rfl, rfl, by decide +kernel, rfl, by decide +kernel, by decide +kernel⟩
def spAreHeaders (K : PySem.W.Frag) : Sp := fun vs H Q _ => ∃ (v : V) (hs : List Hdr), vs = [v] ∧ Dp K H v (encHs hs) ∧ HeadersOk hs ∧ ∀ H', Same H H' → Q (.bl true) H'
theorem ok_areheaders {f fN fR fM fU fI fF : Addr} {fd dN dR dM dU dI dF : FuncData} (F : Fun K "are_headers" "are_headers" sAreHeaders f fd) (B : Blt mg) (C : Cst K w mg) (Z : Wfn P w K mg base fN fR fM fU fI dN dR dM dU dI)
    (FF : Fun K "is_header" "is_header" sIsHeader fF dF) (bF : Binds K dF ["value"] []) (gF : mg "is_header" = some (.ref fF)) (GF : FnOk P w K mg base CX0 4 fF dF ["value"] (spIsHeader K)) : FnOk P w K mg base CX0 5 f fd ["value"] (spAreHeaders K) := by
  refine F.ok scAreHeaders (fun vs H Q E h => ?_) (fun cdv A outer s H vs Q E hr h => ?_)
  · obtain ⟨v, hs, rfl, _⟩ := h
    rfl
  · obtain ⟨v, hs, rfl, dv, ok, k⟩ := h
    refine ⟨_, pss_cons (ps_if (pt_not (pt_val (pe_call Z.GR (hr.mono (by decide)) (by rfl) Z.gR Z.FR.kp Z.bR .nil pass0 (pa_cons (pv 0) (pa_cons pe_int (pa_cons (pe_gc (by rfl) C.mh) pa_nil)))))) (pss_one (ps_ret pe_bl)) pss_nil)
      (pss_one (ps_ret (pe_and (pe_callB (cr_all rfl) (by rfl) B.all (by decide +kernel) (pa_cons (pe_lc (own := [("part", 1)]) (g := gName 1) (tt := tYes) rfl scAreHeaders.nd (pi_tup (pv 0)) (blkOk_by (N := ["value", "part"]) (sc := defScope sAreHeaders) (by decide +kernel)) (fun _ _ _ _ _ => pg_name (i := 1) scAreHeaders.nd rfl (Or.inl rfl)) (fun _ _ _ _ _ => pts_nil) (fun _ _ _ _ _ => pe_call GF hr (by rfl) gF FF.kp bF .nil pass0 (pa_cons (pv 1) pa_nil))) pa_nil)) (pe_one (pe_call Z.GU (hr.mono (by decide)) (by rfl) Z.gU Z.FU.kp Z.bU .nil pass0 (pa_cons (pe_call Z.GI (hr.mono (by decide)) (by rfl) Z.gI Z.FI.kp Z.bI .nil pass0 (pa_cons (pv 0) pa_nil)) pa_nil)))))), ?_⟩
    obtain ⟨a, xs, rfl, ha, hd⟩ := dp_tup dv
    have dl := dpAll_len hd
    rw [List.length_map] at dl
    have l6 := ok.len
    refine ⟨_, rfl, a, xs, 0, 6, rfl, ha, by omega, by omega, true, rfl, iteF ?_⟩
    unfold tNext
    dsimp only
    unfold tRet tAndV
    refine allTup (fun R r => ⟨_, rfl, r⟩) ha (by omega) (fun _ => rfl) (fun i x H' R hx s' r => ?_) fun H1 s1 => ?_
    · obtain ⟨d, hd1, hd2⟩ := dpAll_at hd hx
      rw [List.getElem?_map] at hd1
      obtain ⟨h, hh, rfl⟩ := Option.map_eq_some_iff.mp hd1
      have m := List.mem_of_getElem? hh
      exact ⟨_, rfl, _, h, rfl, dpSame s' hd2, ok.nm h m, ok.fo h m, r⟩
    · refine ⟨true, rfl, iteT ?_⟩
      refine ⟨_, rfl, a, xs, _, _, rfl, sameT s1 ha, dpSameAll s1 hd, rowsH hs, by rw [List.length_map]; omega, fun H3 p s3 f3 => ?_⟩
      exact ⟨p, _, rfl, SqT.of f3, ok.nd, by rw [List.length_map]; omega, k H3 (s1.trans s3)⟩
/-! ### the checks, the sizes -/
theorem scCheckIndex : FnScope ["headers", "index"] ["headers", "index"] (defScope sCheckIndex) := ⟨rfl, rfl, rfl, by decide +kernel, rfl, by decide +kernel, by decide +kernel⟩
def spCheckIndex (K : PySem.W.Frag) : Sp := fun vs H Q _ => ∃ (v : V) (hs : List Hdr) (i : Nat), vs = [v, .int (i : Int)] ∧ Dp K H v (encHs hs) ∧ HeadersOk hs ∧ i < hs.length ∧ ∀ H', Same H H' → Q .non H'
theorem ok_checkindex {f fN fH : Addr} {fd dN dH : FuncData} (F : Fun K "check_index" "check_index" sCheckIndex f fd) (B : Blt mg) (FN : Fun K "is_number" "is_number" sNumber fN dN) (bN : Binds K dN ["value", "least", "most"] []) (gN : mg "is_number" = some (.ref fN)) (GN : FnOk P w K mg base CX0 1 fN dN ["value", "least", "most"] spNumber)
    (FH : Fun K "are_headers" "are_headers" sAreHeaders fH dH) (bH : Binds K dH ["value"] []) (gH : mg "are_headers" = some (.ref fH)) (GH : FnOk P w K mg base CX0 5 fH dH ["value"] (spAreHeaders K)) : FnOk P w K mg base CX0 6 f fd ["headers", "index"] (spCheckIndex K) := by
  refine F.ok scCheckIndex (fun vs H Q E h => ?_) (fun cdv A outer s H vs Q E hr h => ?_)
  · obtain ⟨v, hs, i, rfl, _⟩ := h
    rfl
  · obtain ⟨v, hs, i, rfl, dv, ok, hi, k⟩ := h
    refine ⟨_, pss_cons (ps_if (pt_not (pt_val (pe_call GH hr (by rfl) gH FH.kp bH .nil pass0 (pa_cons (pv 0) pa_nil)))) (pss_one ps_never) pss_nil)
      (pss_one (ps_if (pt_not (pt_val (pe_call GN (hr.mono (by decide)) (by rfl) gN FN.kp bN .nil pass0 (pa_cons (pv 1) (pa_cons pe_int (pa_cons (pe_op op_sub (pe_callB call_len_seq (by rfl) B.len PySem.boot_len (pa_cons (pv 0) pa_nil)) pe_int) pa_nil)))))) (pss_one ps_never) pss_nil)), ?_⟩
    refine ⟨_, rfl, v, hs, rfl, dv, ok, fun H1 s1 => ⟨true, rfl, iteF ?_⟩⟩
    obtain ⟨a, xs, rfl, ha, hd⟩ := dp_tup dv
    have dl := dpAll_len hd
    rw [List.length_map] at dl
    exact ⟨_, rfl, _, rfl, a, _, rfl, .inr (sameT s1 ha), _, _, rfl, rfl, (i : Int), 0, _, rfl, by omega, by omega, true, rfl, iteF (k H1 s1)⟩
theorem scHeaderSize : FnScope ["header", "_", "width"] ["header"] (defScope sHeaderSize) := ⟨rfl, rfl, rfl, by decide +kernel, rfl, by decide +kernel, by decide +kernel⟩
def spHeaderSize (K : PySem.W.Frag) : Sp := fun vs H Q _ => ∃ (v : V) (h : Hdr), vs = [v] ∧ Dp K H v (encH h) ∧ h.2.length ≤ 12 ∧ ∀ H', Same H H' → Q (.int (((wds h.2).sum / 8 : Nat) : Int)) H'
theorem ok_headersize {f : Addr} {fd : FuncData} (F : Fun K "header_size" "header_size" sHeaderSize f fd) (B : Blt mg) : FnOk P w K mg base CX0 1 f fd ["header"] (spHeaderSize K) := by
  refine F.ok scHeaderSize (fun vs H Q E h => ?_) (fun cdv A outer s H vs Q E hr h => ?_)
  · obtain ⟨v, h, rfl, _⟩ := h
    rfl
  · obtain ⟨v, h, rfl, dv, l12, k⟩ := h
    refine ⟨_, pss_one (ps_ret (pe_op op_fdiv (pe_callB (cr_sum rfl) (by rfl) B.sum (by decide +kernel) (pa_cons (pe_lc (own := [("_", 1), ("width", 2)]) (g := gTup K 2 (gCons (gName 1) (gCons (gName 2) gNil))) (tt := tYes) rfl scHeaderSize.nd (pi_tup (pe_ix (r := rIxT K) ix_tup (pv 0) pe_int (fun _ _ => rfl)))
              (blkOk_by (N := ["header", "_", "width"]) (sc := defScope sHeaderSize) (by decide +kernel)) (fun _ _ _ _ _ => pg_tup rfl (pgs_cons (pg_name (i := 1) scHeaderSize.nd rfl (.inl rfl)) (pgs_cons (pg_name (i := 2) scHeaderSize.nd rfl (.inl rfl)) pgs_nil))) (fun _ _ _ _ _ => pts_nil) (fun _ _ _ _ _ => pv 2)) pa_nil)) pe_int)), ?_⟩
    obtain ⟨a, y, rfl, g1, g2⟩ := pair_dp dv
    obtain ⟨fa, fxs, rfl, hfa, hfd⟩ := dp_tup g2
    unfold tRet tOp tCB tCons
    refine lcPairs (fs := h.2) (val := fun fl => (fl.2 : Int)) (fun R r => ⟨_, rfl, a, _, 1, _, rfl, rfl, g1, atI_nat (j := 1) rfl, r⟩) hfa hfd l12 (fun _ _ => rfl) (fun fl H' R _ r => ⟨_, rfl, r⟩) fun D H' s' hD f' => ?_
    refine ⟨D, _, rfl, SqL.of f', _, _, rfl, rfl, ⟨by decide, by decide⟩, ?_⟩
    rw [sum_wds]
    exact k H' s'
theorem scSizeOf : FnScope ["headers", "index"] ["headers", "index"] (defScope sSizeOf) := ⟨rfl, rfl, rfl, by decide +kernel, rfl, by decide +kernel, by decide +kernel⟩
theorem dp_hdr {H : Hp} {v : V} {hs : List Hdr} {i : Nat} {h : Hdr} (d : Dp K H v (encHs hs)) (e : hs[i]? = some h) : ∃ a xs x, v = .ref a ∧ SqT K H a xs ∧ xs[i]? = some x ∧ Dp K H x (encH h) := by
  obtain ⟨a, xs, rfl, h1, h2⟩ := dp_tup d
  obtain ⟨x, hx1, hx2⟩ := dpAll_get (i := i) (d := encH h) h2 (by rw [List.getElem?_map, e]; rfl)
  exact ⟨a, xs, x, rfl, h1, hx1, hx2⟩
theorem ok_sizeof {f fC fS : Addr} {fd dC dS : FuncData} (F : Fun K "size_of" "size_of" sSizeOf f fd) (FC : Fun K "check_index" "check_index" sCheckIndex fC dC) (bC : Binds K dC ["headers", "index"] []) (gC : mg "check_index" = some (.ref fC)) (GC : FnOk P w K mg base CX0 6 fC dC ["headers", "index"] (spCheckIndex K))
    (FS : Fun K "header_size" "header_size" sHeaderSize fS dS) (bS : Binds K dS ["header"] []) (gS : mg "header_size" = some (.ref fS)) (GS : FnOk P w K mg base CX0 1 fS dS ["header"] (spHeaderSize K)) : FnOk P w K mg base CX0 7 f fd ["headers", "index"] (spSO K) := by
  refine F.ok scSizeOf (fun vs H Q E h => ?_) (fun cdv A outer s H vs Q E hr h => ?_)
  · obtain ⟨v, hs, i, nm, fs, rfl, _⟩ := h
    rfl
  · obtain ⟨v, hs, i, nm, fs, rfl, dv, ok, hi, k⟩ := h
    refine ⟨_, pss_cons (ps_expr (pe_call GC hr (by rfl) gC FC.kp bC .nil pass0 (pa_cons (pv 0) (pa_cons (pv 1) pa_nil))))
      (pss_one (ps_ret (pe_call GS (hr.mono (by decide)) (by rfl) gS FS.kp bS .nil pass0 (pa_cons (pe_ix ix_tup (pv 0) (pv 1) (fun _ _ => rfl)) pa_nil)))), ?_⟩
    refine ⟨_, rfl, _, rfl, v, hs, i, rfl, dv, ok, (List.getElem?_eq_some_iff.mp hi).1, fun H1 s1 => ?_⟩
    obtain ⟨a, xs, x, rfl, h1, h2, h3⟩ := dp_hdr (dpSame s1 dv) hi
    exact ⟨_, rfl, _, rfl, a, xs, i, _, rfl, rfl, h1, atI_nat h2, x, (nm, fs), rfl, h3, (ok.fo _ (List.mem_of_getElem? hi)).l2, fun H2 s2 => k H2 (s1.trans s2)⟩
end
end LJ

namespace LJ
open PySem PySem.Spec PyProof.Rows L2 GuL HG Bt
abbrev sWordsFrom : Stmt := topS 31
section
variable {P : Program} {w : World} {K : PySem.W.Frag} {mg : Str → Option Value} {base : Heap}
/-! ### words from bytes -/
theorem valB_small {l : List Nat} {N : Nat} (h : Bits l) (n : l.length ≤ N) : ((valB l : Nat) : Int).natAbs < 2 ^ N := by
  rw [Int.natAbs_natCast]
  exact Nat.lt_of_lt_of_le (valB_lt h) (Nat.pow_le_pow_right (by decide) n)
theorem valB_byte {l : List Nat} {k b : Nat} (hb : b < 2 ^ k) : ((valB (l ++ bitsN k b) : Nat) : Int) = ((valB l : Nat) : Int) * 2 ^ k + (b : Int) := by
  rw [valB_append, bitsN_len, valB_bitsN, Nat.mod_eq_of_lt hb]
  norm_cast
theorem slice_int {l : List Nat} (hl : Bits l) {a v : Nat} (h : a + v ≤ l.length) : ((valB l : Nat) : Int) / 2 ^ (l.length - a - v) % 2 ^ v = ((valB ((l.drop a).take v) : Nat) : Int) := by
  rw [slice hl h]
  norm_cast
theorem scWordsFrom : FnScope ["header", "taken", "bits", "byte", "behind", "words", "_", "width"] ["header", "taken"] (defScope sWordsFrom) := ⟨rfl, rfl, rfl, by decide +kernel, rfl, by decide +kernel, by decide +kernel⟩
def spWordsFrom (K : PySem.W.Frag) : Sp := fun vs H Q _ => ∃ (v u : V) (h : Hdr) (bs : List Nat), vs = [v, u] ∧ Dp K H v (encH h) ∧ h.2.length ≤ 12 ∧ Dp K H u (encNs bs) ∧ 8 * bs.length = (wds h.2).sum ∧ bs.length ≤ 16 ∧ (∀ b ∈ bs, b < 256) ∧ (∀ f ∈ h.2, f.2 ≤ 32) ∧
  ∀ H' p, Same H H' → H' p = some (.tup (vN (readW (wds h.2) (allBits bs)))) → Q (.ref p) H'
theorem ok_wordsfrom {f : Addr} {fd : FuncData} (F : Fun K "words_from" "words_from" sWordsFrom f fd) (B : Blt mg) : FnOk P w K mg base CX0 1 f fd ["header", "taken"] (spWordsFrom K) := by
  refine F.ok scWordsFrom (fun vs H Q E h => ?_) (fun cdv A outer s H vs Q E hr h => ?_)
  · obtain ⟨v, u, h, bs, rfl, _⟩ := h
    rfl
  · obtain ⟨v, u, h, bs, rfl, dv, l12, du, hsum, l16, h256, w32, k⟩ := h
    refine ⟨_, pss_cons (ps_set (i := 2) scWordsFrom.nd rfl (.inl rfl) pe_int)
      (pss_cons (ps_for PassesOwn.never rfl (pi_tup (pv 1)) (pg_name (i := 3) scWordsFrom.nd rfl (.inl rfl)) (pss_one (ps_set (i := 2) scWordsFrom.nd rfl (.inl rfl) (pe_op op_orL (pe_op op_shlN (pv 2) pe_int) (pv 3)))))
      (pss_cons (ps_set (i := 4) scWordsFrom.nd rfl (.inl rfl) (pe_op op_mul pe_int (pe_callB call_len_seq (by rfl) B.len PySem.boot_len (pa_cons (pv 1) pa_nil))))
      (pss_cons (ps_set (i := 5) scWordsFrom.nd rfl (.inl rfl) (pe_lst pa_nil))
      (pss_cons (ps_for PassesOwn.never rfl (pi_tup (pe_ix ix_tup (pv 0) pe_int (fun _ _ => rfl))) (pg_tup rfl (pgs_cons (pg_name (i := 6) scWordsFrom.nd rfl (.inl rfl)) (pgs_cons (pg_name (i := 7) scWordsFrom.nd rfl (.inl rfl)) pgs_nil)))
        (pss_cons (ps_set (i := 4) scWordsFrom.nd rfl (.inl rfl) (pe_op op_sub (pv 4) (pv 7)))
        (pss_one (ps_expr (pe_bm PySem.F.plainAttrs_list PySem.F.slot_list_append PySem.F.type_list_append mt_append (pv 5) (pa_cons (pe_op op_andM (pe_op op_shrN (pv 2) (pv 4)) (pe_op op_sub (pe_op op_shl pe_int (pv 7)) pe_int)) pa_nil))))))
      (pss_one (ps_ret (pe_callTy call_tuple_of (by rfl) B.tuple (by decide +kernel) (pa_cons (pv 5) pa_nil)))))))), ?_⟩
    obtain ⟨ta, txs, rfl, hta, hda⟩ := dp_tup du
    obtain rfl := dp_vN_inv hda
    obtain ⟨a, y, rfl, g1, g2⟩ := pair_dp dv
    obtain ⟨fa, fxs, rfl, hfa, hfd⟩ := dp_tup g2
    have dl := dpAll_len hfd
    rw [List.length_map] at dl
    have lw := wds_len h.2
    refine ⟨_, rfl, ta, rfl, ⟨_, hta⟩, for_tup (K := K) (a := ta) (xs := vN bs) (fun i σ H' => ∃ v3 : Option V, σ = [some (.ref a), some (.ref ta), some (.int ((valB (allBits (bs.take i)) : Nat) : Int)), v3, none, none, none, none] ∧ H' = H) ⟨_, rfl, rfl⟩ (fun i σ H' _ ⟨_, _, q⟩ => by rw [q]; exact hta) ?_ ?_⟩
    · rintro i x σ H1 hi ⟨v3, rfl, rfl⟩
      obtain ⟨b, hb, rfl⟩ := vN_at hi
      have i16 : i < 16 := by
        have := (List.getElem?_eq_some_iff.mp hb).1
        omega
      have b8 := h256 b (List.mem_of_getElem? hb)
      have lt : (allBits (bs.take i)).length ≤ 128 := by
        rw [allBits_len, List.length_take]
        omega
      refine ⟨_, rfl, _, 8, rfl, rfl, shl_ok (n := 128) (valB_small (allBits_bits _) lt) (by omega), _, rfl, _, _, 8, rfl, rfl, ⟨by omega, by omega, by omega⟩, some (.int (b : Int)), ?_, rfl⟩
      rw [List.take_add_one, hb]
      show [_, _, some (V.int (((valB (allBits (bs.take i)) : Nat) : Int) * 2 ^ 8 + (b : Int))), _, _, _, _, _] = [_, _, some (V.int ((valB (allBits (bs.take i ++ [b])) : Nat) : Int)), _, _, _, _, _]
      rw [allBits_snoc, valB_byte b8]
    · rintro σ H1 ⟨v3, rfl, rfl⟩
      rw [take_all bs]
      have lb := allBits_len bs
      refine ⟨_, rfl, ta, _, rfl, .inr hta, _, _, rfl, rfl, .inl ⟨by decide, by decide⟩, Nat.zero_le _, fun lf hlf => ?_⟩
      have s0 := same_new (o := .lst []) hlf
      refine ⟨_, rfl, a, _, 1, _, rfl, rfl, sameT s0 g1, atI_nat (j := 1) rfl, fa, rfl, ⟨_, sameT s0 hfa⟩, for_tup (K := K) (a := fa) (xs := fxs) (fun i σ H' => ∃ v6 v7 : Option V, σ = [some (.ref a), some (.ref ta), some (.int ((valB (allBits bs) : Nat) : Int)), v3, some (.int ((((allBits bs).length - ((wds h.2).take i).sum : Nat)) : Int)), some (.ref lf), v6, v7] ∧ Same H1 H' ∧
        H' lf = some (.lst (vN ((readW (wds h.2) (allBits bs)).take i)))) ⟨none, none, ?_, s0, upd_same⟩ (fun i σ H' _ ⟨_, _, _, q, _⟩ => sameT q hfa) ?_ ?_⟩
      · rw [vN_len, lb, List.take_zero]
        show [_, _, _, _, some (V.int (8 * ((bs.length : Nat) : Int))), _, _, _] = [_, _, _, _, some (V.int ((8 * bs.length - 0 : Nat) : Int)), _, _, _]
        rw [Nat.sub_zero, Int.natCast_mul]
        rfl
      · rintro i x σ H2 hi ⟨v6, v7, rfl, s2, f2⟩
        obtain ⟨d, hd1, hd2⟩ := dpAll_at hfd hi
        rw [List.getElem?_map] at hd1
        obtain ⟨fl, hfl, rfl⟩ := Option.map_eq_some_iff.mp hd1
        obtain ⟨b, y', rfl, h1, h2⟩ := pair_dp (dpSame s2 hd2)
        obtain rfl := dp_int h2
        have hw := wds_at hfl
        have i12 : i < 12 := by
          have := (List.getElem?_eq_some_iff.mp hfl).1
          omega
        have w1 := w32 fl (List.mem_of_getElem? hfl)
        have hle : ((wds h.2).take i).sum + fl.2 ≤ (allBits bs).length := by
          have q1 := sum_take_succ hw
          have q2 := sum_take_le (wds h.2) (i + 1)
          omega
        have eb : ((((allBits bs).length - ((wds h.2).take i).sum : Nat)) : Int) - (fl.2 : Int) = (((allBits bs).length - ((wds h.2).take i).sum - fl.2 : Nat) : Int) := by omega
        refine ⟨b, _, rfl, h1, rfl, _, _, rfl, _, _, rfl, rfl, ?_⟩
        refine ⟨_, rfl, _, rfl, _, _, rfl, rfl, ?_⟩
        refine ⟨_, rfl, .inl ⟨rfl, _, SqL.of f2⟩, _, rfl, _, rfl, _, _, rfl, congrArg V.int eb, _, rfl, _, _, rfl, rfl, ⟨by omega, by omega, by decide⟩, _, _, rfl, rfl, _, fl.2, rfl, congrArg V.int (congrArg (· - 1) (one_shl fl.2)), ?_⟩
        rw [slice_int (allBits_bits bs) hle]
        refine ⟨lf, _, _, rfl, rfl, f2, ?_, some (.str fl.1), some (.int (fl.2 : Int)), ?_, Same.mut s2 hlf, ?_⟩
        · rw [vN_len]
          exact small1000 (Nat.le_trans (List.length_take_le _ _) (by omega))
        · have e : ((((allBits bs).length - ((wds h.2).take i).sum : Nat)) : Int) - (fl.2 : Int) = (((allBits bs).length - ((wds h.2).take (i + 1)).sum : Nat) : Int) := by
            rw [sum_take_succ hw]
            omega
          exact congrArg (fun z => [some (V.ref a), some (V.ref ta), some (V.int ((valB (allBits bs) : Nat) : Int)), v3, some (V.int z), some (V.ref lf), some (V.str fl.1), some (V.int (fl.2 : Int))]) e
        · rw [upd_same, List.take_add_one, readW_get _ _ i fl.2 hw, Option.toList_some, vN_snoc]
      · rintro σ H2 ⟨v6, v7, rfl, s2, f2⟩
        refine ⟨_, rfl, lf, _, rfl, .inl ⟨SqL.of f2, fun p hp => ?_⟩⟩
        have e : (readW (wds h.2) (allBits bs)).take fxs.length = readW (wds h.2) (allBits bs) := List.take_of_length_le (by rw [readW_len, dl, lw]; exact Nat.le_refl _)
        show Q (.ref p) (upd H2 p (.tup (vN ((readW (wds h.2) (allBits bs)).take fxs.length))))
        rw [e]
        exact k _ p (s2.trans (same_new hp)) upd_same
theorem scReadHeader : FnScope ["headers", "index", "taken", "size"] ["headers", "index", "taken"] (defScope sReadHeader) := ⟨rfl, rfl, rfl, by decide +kernel, rfl, by decide +kernel, by decide +kernel⟩
theorem ok_readheader {f fC fS fB fW : Addr} {fd dC dS dB dW : FuncData} (F : Fun K "read_header" "read_header" sReadHeader f fd) (FC : Fun K "check_index" "check_index" sCheckIndex fC dC) (bC : Binds K dC ["headers", "index"] []) (gC : mg "check_index" = some (.ref fC)) (GC : FnOk P w K mg base CX0 6 fC dC ["headers", "index"] (spCheckIndex K))
    (FS : Fun K "header_size" "header_size" sHeaderSize fS dS) (bS : Binds K dS ["header"] []) (gS : mg "header_size" = some (.ref fS)) (GS : FnOk P w K mg base CX0 1 fS dS ["header"] (spHeaderSize K))
    (FB : Fun K "are_bytes" "are_bytes" sAreBytes fB dB) (bB : Binds K dB ["value", "least", "most"] []) (gB : mg "are_bytes" = some (.ref fB)) (GB : FnOk P w K mg base CX0 4 fB dB ["value", "least", "most"] (spAreBytes K))
    (FW : Fun K "words_from" "words_from" sWordsFrom fW dW) (bW : Binds K dW ["header", "taken"] []) (gW : mg "words_from" = some (.ref fW)) (GW : FnOk P w K mg base CX0 1 fW dW ["header", "taken"] (spWordsFrom K)) : FnOk P w K mg base CX0 7 f fd ["headers", "index", "taken"] (spRH K) := by
  refine F.ok scReadHeader (fun vs H Q E h => ?_) (fun cdv A outer s H vs Q E hr h => ?_)
  · obtain ⟨v, t, hs, i, nm, fs, bs, rfl, _⟩ := h
    rfl
  · obtain ⟨v, t, hs, i, nm, fs, bs, rfl, dv, ok, hi, dt, hsum, h256, k⟩ := h
    refine ⟨_, pss_cons (ps_expr (pe_call GC hr (by rfl) gC FC.kp bC .nil pass0 (pa_cons (pv 0) (pa_cons (pv 1) pa_nil))))
      (pss_cons (ps_set (i := 3) scReadHeader.nd rfl (.inl rfl) (pe_call GS (hr.mono (by decide)) (by rfl) gS FS.kp bS .nil pass0 (pa_cons (pe_ix ix_tup (pv 0) (pv 1) (fun _ _ => rfl)) pa_nil)))
      (pss_cons (ps_if (pt_not (pt_val (pe_call GB (hr.mono (by decide)) (by rfl) gB FB.kp bB .nil pass0 (pa_cons (pv 2) (pa_cons (pv 3) (pa_cons (pv 3) pa_nil)))))) (pss_one ps_never) pss_nil)
      (pss_one (ps_ret (pe_call GW (hr.mono (by decide)) (by rfl) gW FW.kp bW .nil pass0 (pa_cons (pe_ix ix_tup (pv 0) (pv 1) (fun _ _ => rfl)) (pa_cons (pv 2) pa_nil))))))), ?_⟩
    have of := ok.fo _ (List.mem_of_getElem? hi)
    have l12 : fs.length ≤ 12 := of.l2
    have le : (wds fs).sum ≤ 128 := of.le
    refine ⟨_, rfl, _, rfl, v, hs, i, rfl, dv, ok, (List.getElem?_eq_some_iff.mp hi).1, fun H1 s1 => ?_⟩
    obtain ⟨a, xs, x, rfl, h1, h2, h3⟩ := dp_hdr (dpSame s1 dv) hi
    refine ⟨_, rfl, _, rfl, a, xs, i, _, rfl, rfl, h1, atI_nat h2, x, (nm, fs), rfl, h3, l12, fun H2 s2 => ?_⟩
    have e8 : (wds fs).sum / 8 = bs.length := by omega
    show _
    refine ⟨_, rfl, _, rfl, _, rfl, t, bs, _, _, rfl, dpSame (s1.trans s2) dt, by show (((wds fs).sum / 8 : Nat) : Int) ≤ _; omega, by show _ ≤ (((wds fs).sum / 8 : Nat) : Int); omega, by omega, h256, fun H3 s3 => ⟨true, rfl, iteF ?_⟩⟩
    have s13 := s1.trans (s2.trans s3)
    exact ⟨_, rfl, _, rfl, a, xs, i, _, rfl, rfl, sameT (s2.trans s3) h1, atI_nat h2, _, rfl, x, t, (nm, fs), bs, rfl, dpSame (s2.trans s3) h3, l12, dpSame s13 dt, hsum, by omega, h256, fun f hf => (of.wd f hf).2, fun H4 p s4 f4 => k H4 p (s13.trans s4) f4⟩
end
end LJ

namespace LJ
open PySem PySem.Spec PyProof.Rows L2 GuL HG Bt
abbrev sWordsFor : Stmt := topS 18
abbrev sBytesFrom : Stmt := topS 32
theorem walk_zipT {K : PySem.W.Frag} {a b : Addr} {xs ys : List V} {n : Nat} (h1 : xs.length = n) (h2 : ys.length = n) :
    Walk (RZ.ItzT K a b) n (fun H => SqT K H a xs ∧ SqT K H b ys) (YPair (fun i => xs[i]?) (fun i => ys[i]?)) where
  goes := fun i H hi g => ⟨xs, ys, _, _, g.1, g.2, List.getElem?_eq_getElem (by omega), List.getElem?_eq_getElem (by omega)⟩
  stops := fun H g => ⟨xs, ys, g.1, g.2, .inl (by omega)⟩
  yields := fun i H x H' hi g y => by
    obtain ⟨T, u, v, rfl, hT, rfl, e1, e2⟩ := y
    exact ⟨T, u, v, rfl, hT, rfl, e1 xs g.1, e2 ys g.2⟩
theorem fit_at : ∀ {ws ns : List Nat} {i v n : Nat}, Fit ws ns → ws[i]? = some v → ns[i]? = some n → n < 2 ^ v
  | _ :: _, _ :: _, 0, v, n, .cons h _, a, b => by
    simp at a b
    subst a b
    exact h
  | _ :: _, _ :: _, i + 1, v, n, .cons _ r, a, b => fit_at (i := i) r (by simpa using a) (by simpa using b)
theorem iteND {c A B : Prop} [Decidable c] (hc : c) (h : B) : if (!decide c) = true then A else B := by
  rw [decide_eq_true hc]
  exact iteF h
section
variable {P : Program} {w : World} {K : PySem.W.Frag} {mg : Str → Option Value} {base : Heap}
/-! ### words that fit -/
theorem scWordsFor : FnScope ["sized", "value", "_", "width", "word"] ["sized", "value"] (defScope sWordsFor) := ⟨rfl, rfl, rfl, by decide +kernel, rfl, by decide +kernel, by decide +kernel⟩
def spWordsFor (K : PySem.W.Frag) : Sp := fun vs H Q _ => ∃ (v u : V) (fs : List Fld) (ns : List Nat), vs = [v, u] ∧ Dp K H v (encFs fs) ∧ fs.length ≤ 12 ∧ Dp K H u (encNs ns) ∧ Fit (wds fs) ns ∧ (∀ f ∈ fs, f.2 ≤ 32) ∧ ∀ H', Same H H' → Q (.bl true) H'
theorem ok_wordsfor {f : Addr} {fd : FuncData} (F : Fun K "are_words_for" "are_words_for" sWordsFor f fd) (B : Blt mg) : FnOk P w K mg base CX0 3 f fd ["sized", "value"] (spWordsFor K) := by
  refine F.ok scWordsFor (fun vs H Q E h => ?_) (fun cdv A outer s H vs Q E hr h => ?_)
  · obtain ⟨v, u, h, ns, rfl, _⟩ := h
    rfl
  · obtain ⟨v, u, fs, ns, rfl, dv, l12, du, fit, w32, k⟩ := h
    refine ⟨_, pss_cons (ps_if (PW.pt (pw_or (pt_not (pt_val (pe_callB call_isi (by rfl) B.isi (by decide +kernel) (pa_cons (pv 1) (pa_cons (pe_bltn (v := .ty "tuple") (by rfl) B.tuple (by decide +kernel) rfl) pa_nil))))) (pw_or1 (pt_cmpR op_ne (pe_callB call_len_seq (by rfl) B.len PySem.boot_len (pa_cons (pv 1) pa_nil)) (pe_callB call_len_seq (by rfl) B.len PySem.boot_len (pa_cons (pv 0) pa_nil)) (nomark _))))) (pss_one (ps_ret pe_bl)) pss_nil)
      (pss_cons (ps_for PassesOwn.never rfl (RZ.pi_zipA (by rfl) B.zip (pa_cons (pv 0) (pa_cons (pv 1) pa_nil))) (pg_tup rfl (pgs_cons (pg_tup rfl (pgs_cons (pg_name (i := 2) scWordsFor.nd rfl (.inl rfl)) (pgs_cons (pg_name (i := 3) scWordsFor.nd rfl (.inl rfl)) pgs_nil))) (pgs_cons (pg_name (i := 4) scWordsFor.nd rfl (.inl rfl)) pgs_nil)))
        (pss_one (ps_if (PW.pt (pw_or (pt_not (pt_val (pe_callB call_isi (by rfl) B.isi (by decide +kernel) (pa_cons (pv 4) (pa_cons (pe_bltn (v := .ty "int") (by rfl) B.int (by decide +kernel) rfl) pa_nil))))) (pw_or (pt_not (pt_chain op_le op_lt pe_int (pv 4) (pe_op op_shl pe_int (pv 3)))) (pw_or1 (pt_val (pe_callB call_isi (by rfl) B.isi (by decide +kernel) (pa_cons (pv 4) (pa_cons (pe_bltn (v := .ty "bool") (by rfl) B.bool (by decide +kernel) rfl) pa_nil)))))))) (pss_one (ps_ret pe_bl)) pss_nil)))
      (pss_one (ps_ret pe_bl))), ?_⟩
    obtain ⟨ta, txs, rfl, hta, hda⟩ := dp_tup du
    obtain rfl := dp_vN_inv hda
    obtain ⟨fa, fxs, rfl, hfa, hfd⟩ := dp_tup dv
    have dl := dpAll_len hfd
    rw [List.length_map] at dl
    have lw := wds_len fs
    have ln := fit.len
    have lv := vN_len ns
    have el : (!decide (V.int ((vN ns).length : Int) = V.int (fxs.length : Int))) = false := by
      have e : (vN ns).length = fxs.length := by omega
      rw [e]
      simp
    refine ⟨_, rfl, .ref ta, .ty "tuple", _, _, true, rfl, .ty _, tyx_sqT hta, kit_ty (by decide +kernel), true, rfl, iteF ?_⟩
    refine ⟨_, rfl, ta, _, rfl, .inr hta, _, rfl, fa, _, rfl, .inr hfa, rfl, false, congrArg V.bl el, iteF ?_⟩
    unfold tNext
    dsimp only
    refine ⟨_, rfl, _, rfl, fa, ta, fxs, vN ns, rfl, .inr ⟨hfa, hta, ?_⟩⟩
    refine RZ.for_zipT (K := K) (a := fa) (b := ta) (xs := fxs) (ys := vN ns) (by omega) (fun i σ H' => ∃ v3 v4 v5 : Option V, σ = [some (.ref fa), some (.ref ta), v3, v4, v5] ∧ Same H H')
      ⟨_, _, _, rfl, Same.refl _⟩ (fun i σ H' ⟨_, _, _, _, q⟩ => ⟨sameT q hfa, sameT q hta⟩) ?_ ?_
    · rintro i x y T σ H1 hi hj' ⟨v3, v4, v5, rfl, s1⟩ hT
      obtain ⟨d, hd1, hd2⟩ := dpAll_at hfd hi
      rw [List.getElem?_map] at hd1
      obtain ⟨fl, hfl, rfl⟩ := Option.map_eq_some_iff.mp hd1
      obtain ⟨b, y', rfl, h1, h2⟩ := pair_dp (dpSame s1 hd2)
      obtain rfl := dp_int h2
      obtain ⟨n, hn, rfl⟩ := vN_at hj'
      have w1 := w32 fl (List.mem_of_getElem? hfl)
      have nlt := fit_at fit (wds_at hfl) hn
      have sT := same_new (o := .tup [.ref b, .int (n : Int)]) hT
      refine ⟨T, _, rfl, SqT.of upd_same, rfl, _, _, rfl, b, _, rfl, sameT sT h1, rfl, _, _, rfl, _, _, rfl, rfl, _, _, rfl, rfl, ?_⟩
      have nz : (n : Int) < 1 * 2 ^ (fl.2 : Int).toNat := by
        rw [Int.one_mul, Int.toNat_natCast]
        exact_mod_cast nlt
      refine ⟨_, rfl, .int (n : Int), .ty "int", _, _, true, rfl, .ty _, .base (.int _), kit_ty (by decide +kernel), true, rfl, iteF ?_⟩
      refine ⟨_, rfl, _, _, rfl, rfl, _, rfl, iteD (Int.natCast_nonneg n) ⟨_, rfl, _, _, rfl, rfl, ⟨by omega, by omega, by decide⟩, _, _, rfl, rfl, _, rfl, iteND nz ?_⟩⟩
      refine ⟨_, rfl, .int (n : Int), .ty "bool", _, _, false, rfl, .ty _, .base (.int _), kit_ty (by decide +kernel), false, rfl, iteF ?_⟩
      exact ⟨_, _, _, rfl, s1.trans sT⟩
    · rintro σ H1 ⟨v3, v4, v5, rfl, s1⟩
      exact k H1 s1
end
end LJ

namespace LJ
open PySem PySem.Spec PyProof.Rows L2 GuL HG Bt
section
variable {P : Program} {w : World} {K : PySem.W.Frag} {mg : Str → Option Value} {base : Heap}
/-! ### bytes from words -/
theorem scBytesFrom : FnScope ["header", "words", "bits", "_", "width", "word", "size", "behind"] ["header", "words"] (defScope sBytesFrom) := ⟨rfl, rfl, rfl, by decide +kernel, rfl, by decide +kernel, by decide +kernel⟩
def spBytesFrom (K : PySem.W.Frag) : Sp := fun vs H Q _ => ∃ (v u : V) (h : Hdr) (ns : List Nat) (k : Nat), vs = [v, u] ∧ Dp K H v (encH h) ∧ h.2.length ≤ 12 ∧ Dp K H u (encNs ns) ∧ Fit (wds h.2) ns ∧ 8 * k = (wds h.2).sum ∧ k ≤ 16 ∧
  ∀ H' p, Same H H' → H' p = some (.tup (vN (bytesOf k (wbits (wds h.2) ns)))) → Q (.ref p) H'
theorem ok_bytesfrom {f fS : Addr} {fd dS : FuncData} (F : Fun K "bytes_from" "bytes_from" sBytesFrom f fd) (B : Blt mg)
    (FS : Fun K "header_size" "header_size" sHeaderSize fS dS) (bS : Binds K dS ["header"] []) (gS : mg "header_size" = some (.ref fS)) (GS : FnOk P w K mg base CX0 1 fS dS ["header"] (spHeaderSize K)) : FnOk P w K mg base CX0 2 f fd ["header", "words"] (spBytesFrom K) := by
  refine F.ok scBytesFrom (fun vs H Q E h => ?_) (fun cdv A outer s H vs Q E hr h => ?_)
  · obtain ⟨v, u, h, ns, k, rfl, _⟩ := h
    rfl
  · obtain ⟨v, u, h, ns, k, rfl, dv, l12, du, fit, hsum, k16, kk⟩ := h
    refine ⟨_, pss_cons (ps_set (i := 2) scBytesFrom.nd rfl (.inr rfl) pe_int)
      (pss_cons (ps_for PassesOwn.never rfl (RZ.pi_zipA (by rfl) B.zip (pa_cons (pe_ix ix_tup (pv 0) pe_int (fun _ _ => rfl)) (pa_cons (pv 1) pa_nil))) (pg_tup rfl (pgs_cons (pg_tup rfl (pgs_cons (pg_name (i := 3) scBytesFrom.nd rfl (.inl rfl)) (pgs_cons (pg_name (i := 4) scBytesFrom.nd rfl (.inl rfl)) pgs_nil))) (pgs_cons (pg_name (i := 5) scBytesFrom.nd rfl (.inl rfl)) pgs_nil)))
        (pss_one (ps_set (i := 2) scBytesFrom.nd rfl (.inr rfl) (pe_op op_orL (pe_op op_shlN (pv 2) (pv 4)) (pv 5)))))
      (pss_cons (ps_set (i := 6) scBytesFrom.nd rfl (.inl rfl) (pe_call GS hr (by rfl) gS FS.kp bS .nil pass0 (pa_cons (pv 0) pa_nil)))
      (pss_one (ps_ret (pe_callTy call_tuple_of (by rfl) B.tuple (by decide +kernel) (pa_cons (pe_lc (own := [("behind", 7)]) (g := gName 7) (tt := tYes) rfl scBytesFrom.nd (pi_revR (by rfl) B.reversed (prg_1 (by rfl) B.range (pv 6)))
        (blkOk_by (N := ["header", "words", "bits", "_", "width", "word", "size", "behind"]) (sc := defScope sBytesFrom) (by decide +kernel)) (fun _ _ _ _ _ => pg_name (i := 7) scBytesFrom.nd rfl (Or.inl rfl)) (fun _ _ _ _ _ => pts_nil)
        (fun _ _ _ _ _ => pe_op op_andM (pe_op op_shrN (pv 2) (pe_op op_mul pe_int (pv 7))) pe_int)) pa_nil)))))), ?_⟩
    obtain ⟨ta, txs, rfl, hta, hda⟩ := dp_tup du
    obtain rfl := dp_vN_inv hda
    obtain ⟨a, y, rfl, g1, g2⟩ := pair_dp dv
    obtain ⟨fa, fxs, rfl, hfa, hfd⟩ := dp_tup g2
    have dl := dpAll_len hfd
    rw [List.length_map] at dl
    have lw := wds_len h.2
    have ln := fit.len
    have lv := vN_len ns
    refine ⟨_, rfl, a, _, 1, _, rfl, rfl, g1, atI_nat (j := 1) rfl, _, rfl, fa, ta, fxs, vN ns, rfl, .inr ⟨hfa, hta, ?_⟩⟩
    refine RZ.for_zipT (K := K) (a := fa) (b := ta) (xs := fxs) (ys := vN ns) (by omega) (fun i σ H' => ∃ v3 v4 v5 : Option V, σ = [some (.ref a), some (.ref ta), some (.int ((valB (wbits ((wds h.2).take i) (ns.take i)) : Nat) : Int)), v3, v4, v5, none, none] ∧ Same H H')
      ⟨_, _, _, rfl, Same.refl _⟩ (fun i σ H' ⟨_, _, _, _, q⟩ => ⟨sameT q hfa, sameT q hta⟩) ?_ ?_
    · rintro i x y T σ H1 hi hj' ⟨v3, v4, v5, rfl, s1⟩ hT
      obtain ⟨d, hd1, hd2⟩ := dpAll_at hfd hi
      rw [List.getElem?_map] at hd1
      obtain ⟨fl, hfl, rfl⟩ := Option.map_eq_some_iff.mp hd1
      obtain ⟨b, y', rfl, h1, h2⟩ := pair_dp (dpSame s1 hd2)
      obtain rfl := dp_int h2
      obtain ⟨n, hn, rfl⟩ := vN_at hj'
      have hw := wds_at hfl
      have nlt := fit_at fit hw hn
      have w128 : ((wds h.2).take i).sum + fl.2 ≤ 128 := by
        have q1 := sum_take_succ hw
        have q2 := sum_take_le (wds h.2) (i + 1)
        omega
      have lt : (ns.take i).length = ((wds h.2).take i).length := by rw [List.length_take, List.length_take, ln]
      have lwb : (wbits ((wds h.2).take i) (ns.take i)).length = ((wds h.2).take i).sum := wbits_len lt
      have sT := same_new (o := .tup [.ref b, .int (n : Int)]) hT
      refine ⟨T, _, rfl, SqT.of upd_same, rfl, _, _, rfl, b, _, rfl, sameT sT h1, rfl, _, _, rfl, _, _, rfl, rfl, _, _, rfl, rfl, ?_⟩
      have nz : (n : Int) < 2 ^ fl.2 := by exact_mod_cast nlt
      refine ⟨_, rfl, _, rfl, _, fl.2, rfl, rfl, shl_ok (n := 128) (valB_small (wbits_bits _ _) (by omega)) (by omega), _, rfl, _, _, fl.2, rfl, rfl, ⟨by omega, by omega, nz⟩, some (.str fl.1), some (.int (fl.2 : Int)), some (.int (n : Int)), ?_, s1.trans sT⟩
      rw [List.take_add_one, List.take_add_one, hw, hn]
      show [_, _, some (V.int (((valB (wbits ((wds h.2).take i) (ns.take i)) : Nat) : Int) * 2 ^ fl.2 + (n : Int))), _, _, _, _, _] = [_, _, some (V.int ((valB (wbits ((wds h.2).take i ++ [fl.2]) (ns.take i ++ [n])) : Nat) : Int)), _, _, _, _, _]
      rw [wbits_snoc lt, valB_byte nlt]
    · rintro σ H1 ⟨v3, v4, v5, rfl, s1⟩
      rw [dl, List.take_of_length_le (by omega), List.take_of_length_le (by omega)]
      have lwb : (wbits (wds h.2) ns).length = 8 * k := by rw [wbits_len ln, hsum]
      have wb := wbits_bits (wds h.2) ns
      obtain ⟨l, hl⟩ : ∃ l, wbits (wds h.2) ns = l := ⟨_, rfl⟩
      rw [hl] at lwb kk wb ⊢
      refine ⟨_, rfl, _, h, rfl, .tup (sameT s1 g1) (.cons (.str _) (.cons (.tup (sameT s1 hfa) (dpSameAll s1 hfd)) .nil)), l12, fun H2 s2 => ?_⟩
      have ek : (wds h.2).sum / 8 = k := by omega
      rw [ek]
      have t2 := s1.trans s2
      refine ⟨_, rfl, (k : Int), rfl, by decide, by decide, by omega, by omega, fun D hD => ?_⟩
      have en : ((k : Int) - 0).toNat = k := by omega
      rw [en]
      refine lc_it (walk_rangeC (lo := 0 + ((k : Nat) : Int) - 1) (c := -1) (n := k)) (fun i H' => Same H2 H' ∧ H' D = some (.lst (vN ((bytesOf k l).take i)))) ⟨same_new hD, upd_same⟩ (fun _ _ _ _ => True.intro) ?_ ?_
      · rintro i x H' H'' hi ⟨s', f'⟩ ⟨rfl, rfl⟩
        have eb : (8 : Int) * ((0 : Int) + ((k : Nat) : Int) - 1 + (i : Nat) * -1) = ((l.length - 8 * i - 8 : Nat) : Int) := by
          rw [lwb]
          omega
        refine ⟨rfl, _, rfl, _, rfl, _, _, rfl, rfl, .inl ⟨by decide, by decide⟩, _, _, rfl, congrArg V.int eb, _, 8, rfl, congrArg V.int (by decide), ?_⟩
        rw [slice_int wb (a := 8 * i) (v := 8) (by omega)]
        refine ⟨_, f', ?_, fun c u hc => ?_, ?_⟩
        · rw [vN_len]
          exact small1000 (Nat.le_trans (List.length_take_le _ _) (by omega))
        · rw [upd_ne (ne_of_none hc hD)]
          exact s' _ _ hc
        · rw [upd_same, List.take_add_one (l := bytesOf k l) (i := i), bytesOf_get k l i hi, Option.toList_some, vN_snoc]
      · rintro H3 ⟨s3, f3⟩
        have e : (bytesOf k l).take k = bytesOf k l := List.take_of_length_le (by rw [bytesOf_len]; exact Nat.le_refl _)
        rw [e] at f3
        exact ⟨D, _, rfl, .inl ⟨SqL.of f3, fun p hp => kk _ p (t2.trans (s3.trans (same_new hp))) upd_same⟩⟩
/-! ### a header written -/
theorem scWriteHeader : FnScope ["headers", "index", "words"] ["headers", "index", "words"] (defScope sWriteHeader) := ⟨rfl, rfl, rfl, by decide +kernel, rfl, by decide +kernel, by decide +kernel⟩
theorem ok_writeheader {f fC fW fB : Addr} {fd dC dW dB : FuncData} (F : Fun K "write_header" "write_header" sWriteHeader f fd) (FC : Fun K "check_index" "check_index" sCheckIndex fC dC) (bC : Binds K dC ["headers", "index"] []) (gC : mg "check_index" = some (.ref fC)) (GC : FnOk P w K mg base CX0 6 fC dC ["headers", "index"] (spCheckIndex K))
    (FW : Fun K "are_words_for" "are_words_for" sWordsFor fW dW) (bW : Binds K dW ["sized", "value"] []) (gW : mg "are_words_for" = some (.ref fW)) (GW : FnOk P w K mg base CX0 3 fW dW ["sized", "value"] (spWordsFor K))
    (FB : Fun K "bytes_from" "bytes_from" sBytesFrom fB dB) (bB : Binds K dB ["header", "words"] []) (gB : mg "bytes_from" = some (.ref fB)) (GB : FnOk P w K mg base CX0 2 fB dB ["header", "words"] (spBytesFrom K)) : FnOk P w K mg base CX0 7 f fd ["headers", "index", "words"] (spWH K) := by
  refine F.ok scWriteHeader (fun vs H Q E h => ?_) (fun cdv A outer s H vs Q E hr h => ?_)
  · obtain ⟨v, u, hs, i, nm, fs, ns, k, rfl, _⟩ := h
    rfl
  · obtain ⟨v, u, hs, i, nm, fs, ns, k, rfl, dv, ok, hi, du, fit, hsum, kk⟩ := h
    refine ⟨_, pss_cons (ps_expr (pe_call GC hr (by rfl) gC FC.kp bC .nil pass0 (pa_cons (pv 0) (pa_cons (pv 1) pa_nil))))
      (pss_cons (ps_if (pt_not (pt_val (pe_call GW (hr.mono (by decide)) (by rfl) gW FW.kp bW .nil pass0 (pa_cons (pe_ix ix_tup (pe_ix ix_tup (pv 0) (pv 1) (fun _ _ => rfl)) pe_int (fun _ _ => rfl)) (pa_cons (pv 2) pa_nil))))) (pss_one ps_never) pss_nil)
      (pss_one (ps_ret (pe_call GB (hr.mono (by decide)) (by rfl) gB FB.kp bB .nil pass0 (pa_cons (pe_ix ix_tup (pv 0) (pv 1) (fun _ _ => rfl)) (pa_cons (pv 2) pa_nil)))))), ?_⟩
    have of := ok.fo _ (List.mem_of_getElem? hi)
    have l12 : fs.length ≤ 12 := of.l2
    have le : (wds fs).sum ≤ 128 := of.le
    refine ⟨_, rfl, _, rfl, v, hs, i, rfl, dv, ok, (List.getElem?_eq_some_iff.mp hi).1, fun H1 s1 => ?_⟩
    obtain ⟨a, xs, x, rfl, h1, h2, h3⟩ := dp_hdr (dpSame s1 dv) hi
    obtain ⟨xa, y, rfl, g1, g2⟩ := pair_dp h3
    refine ⟨_, rfl, _, rfl, a, xs, i, _, rfl, rfl, h1, atI_nat h2, xa, _, 1, _, rfl, rfl, g1, atI_nat (j := 1) rfl, _, rfl, y, u, fs, ns, rfl, g2, l12, dpSame s1 du, fit, fun f hf => (of.wd f hf).2, fun H2 s2 => ⟨true, rfl, iteF ?_⟩⟩
    have t2 := s1.trans s2
    exact ⟨_, rfl, _, rfl, a, xs, i, _, rfl, rfl, sameT s2 h1, atI_nat h2, _, rfl, _, u, (nm, fs), ns, k, rfl, dpSame s2 h3, l12, dpSame t2 du, fit, hsum, by omega, fun H3 p s3 f3 => kk H3 p (t2.trans s3) f3⟩
end
end LJ

namespace LJ
open PySem PySem.Spec PyProof.Rows L2 GuL HG Bt
section
variable {K : PySem.W.Frag} {mg : Str → Option Value}
theorem ga_eq {x : Str} {C : Addr} (a : PySem.W.nsIn K mainGlobals x = some (some (.ref C))) : He.ga K x = C := by
  unfold He.ga
  rw [a]
def txtOf : Value → Option Str
  | .str z _ => some z
  | _ => none
/-- a tuple of just these texts stands at a -/
def tupB (K : PySem.W.Frag) (a : Addr) (zs : List Str) : Bool := match K.lookup a with
  | some o => (o.cls == Value.type "tuple") && (match o.data with
    | .seq its _ => decide (its.size ≤ 1000) && (its.toList.map txtOf == zs.map some)
    | _ => false)
  | none => false
theorem txts_vals : ∀ {vs : List Value} {zs : List Str}, vs.map txtOf = zs.map some → Vals (zs.map V.str) vs
  | [], [], _ => .nil
  | [], _ :: _, h => by cases h
  | _ :: _, [], h => by cases h
  | v :: vs, z :: zs, h => by
    rw [List.map_cons, List.map_cons] at h
    obtain ⟨h1, h2⟩ := List.cons.inj h
    refine .cons ?_ (txts_vals h2)
    cases v with
    | str y t =>
      cases h1
      exact ⟨t, rfl⟩
    | _ => cases h1
theorem tup_of {a : Addr} {zs : List Str} (h : tupB K a zs = true) (H : Hp) : SqT K H a (zs.map V.str) := by
  unfold tupB at h
  cases e : K.lookup a with
  | none =>
    rw [e] at h
    cases h
  | some o =>
    rw [e] at h
    obtain ⟨h1, h2⟩ := Bool.and_eq_true_iff.mp h
    cases e2 : o.data with
    | seq its m =>
      rw [e2] at h2
      obtain ⟨h3, h4⟩ := Bool.and_eq_true_iff.mp h2
      exact .inr ⟨o, its, m, e, eq_of_beq h1, e2, Nat.le_trans (of_decide_eq_true h3) (by decide), txts_vals (eq_of_beq h4)⟩
    | _ =>
      rw [e2] at h2
      cases h2
theorem all_mk {l : PySem.W.OpenLaw} {w : World} {h : Heap} {fa kw f0 f1 f2 f3 f4 f5 f6 f7 f8 f9 f10 f11 f12 f13 f14 f15 f16 f17 f18 f19 f20 f21 f22 f23 f24 f25 f26 f27 f28 f29 f30 f31 f32 f33 f34 : Addr} (X : K.In h) (G : h.Ns mainGlobals mg) (hfa : mg "law" = some (.ref fa))
    {od0 an0 od1 an1 od2 an2 od3 an3 od4 an4 od5 an5 od6 an6 od7 an7 od8 an8 od9 an9 od10 an10 od11 an11 od12 an12 od13 an13 od14 an14 od15 an15 od16 an16 od17 an17 od18 an18 od19 an19 od20 an20 od21 an21 od22 an22 od23 an23 od24 an24 od25 an25 od26 an26 od27 an27 od28 an28 od29 an29 od30 an30 od31 an31 od32 an32 od33 an33 od34 an34 : Option Addr} {sl0 sl1 sl2 sl3 sl4 sl5 sl6 sl7 sl8 sl9 sl10 sl11 sl12 sl13 sl14 sl15 sl16 sl17 sl18 sl19 sl20 sl21 sl22 sl23 sl24 sl25 sl26 sl27 sl28 sl29 sl30 sl31 sl32 sl33 sl34 : Array (Option Value)} {oc0 kV0 dc0 pm0 cd0 ct0 oc1 kV1 dc1 pm1 cd1 ct1 oc2 kV2 dc2 pm2 cd2 ct2 oc3 kV3 dc3 pm3 cd3 ct3 oc4 kV4 dc4 pm4 cd4 ct4 oc5 kV5 dc5 pm5 cd5 ct5 oc6 kV6 dc6 pm6 cd6 ct6 oc7 kV7 dc7 pm7 cd7 ct7 oc8 kV8 dc8 pm8 cd8 ct8 oc9 kV9 dc9 pm9 cd9 ct9 oc10 kV10 dc10 pm10 cd10 ct10 oc11 kV11 dc11 pm11 cd11 ct11 oc12 kV12 dc12 pm12 cd12 ct12 oc13 kV13 dc13 pm13 cd13 ct13 oc14 kV14 dc14 pm14 cd14 ct14 oc15 kV15 dc15 pm15 cd15 ct15 oc16 kV16 dc16 pm16 cd16 ct16 oc17 kV17 dc17 pm17 cd17 ct17 oc18 kV18 dc18 pm18 cd18 ct18 oc19 kV19 dc19 pm19 cd19 ct19 oc20 kV20 dc20 pm20 cd20 ct20 oc21 kV21 dc21 pm21 cd21 ct21 oc22 kV22 dc22 pm22 cd22 ct22 oc23 kV23 dc23 pm23 cd23 ct23 oc24 kV24 dc24 pm24 cd24 ct24 oc25 kV25 dc25 pm25 cd25 ct25 oc26 kV26 dc26 pm26 cd26 ct26 oc27 kV27 dc27 pm27 cd27 ct27 oc28 kV28 dc28 pm28 cd28 ct28 oc29 kV29 dc29 pm29 cd29 ct29 oc30 kV30 dc30 pm30 cd30 ct30 oc31 kV31 dc31 pm31 cd31 ct31 oc32 kV32 dc32 pm32 cd32 ct32 oc33 kV33 dc33 pm33 cd33 ct33 oc34 kV34 dc34 pm34 cd34 ct34 : Value} {t_mh t_mf t_mw t_mb t_lt t_ns : Tok} {ekw : Array DictEntry} {nkw : Nat}
    (a0 : PySem.W.nsIn K mainGlobals "_law_jar" = some (some (.ref f0))) (l0 : K.lookup f0 = some ⟨oc0, od0, .func (PySem.W.fnOf "_law_jar" "_law_jar" (defArgs sJar) (defBody sJar) (defScope sJar) .none kV0 dc0 pm0 an0 cd0 ct0), sl0⟩) (c0 : PySem.W.codeIn K cd0 "_law_jar" = true) (k0 : PySem.W.keepIn K (.ref f0) = true)
    (a1 : PySem.W.nsIn K mainGlobals "_law_dip" = some (some (.ref f1))) (l1 : K.lookup f1 = some ⟨oc1, od1, .func (PySem.W.fnOf "_law_dip" "_law_dip" (defArgs sDip) (defBody sDip) (defScope sDip) .none kV1 dc1 pm1 an1 cd1 ct1), sl1⟩) (c1 : PySem.W.codeIn K cd1 "_law_dip" = true) (k1 : PySem.W.keepIn K (.ref f1) = true)
    (a2 : PySem.W.nsIn K mainGlobals "_law_one_of" = some (some (.ref f2))) (l2 : K.lookup f2 = some ⟨oc2, od2, .func (PySem.W.fnOf "_law_one_of" "_law_one_of" (defArgs sOne) (defBody sOne) (defScope sOne) .none kV2 dc2 pm2 an2 cd2 ct2), sl2⟩) (c2 : PySem.W.codeIn K cd2 "_law_one_of" = true) (k2 : PySem.W.keepIn K (.ref f2) = true)
    (a3 : PySem.W.nsIn K mainGlobals "_law_kept" = some (some (.ref f3))) (l3 : K.lookup f3 = some ⟨oc3, od3, .func (PySem.W.fnOf "_law_kept" "_law_kept" (defArgs sKept) (defBody sKept) (defScope sKept) .none kV3 dc3 pm3 an3 cd3 ct3), sl3⟩) (c3 : PySem.W.codeIn K cd3 "_law_kept" = true) (k3 : PySem.W.keepIn K (.ref f3) = true)
    (a4 : PySem.W.nsIn K mainGlobals "_law_name" = some (some (.ref f4))) (l4 : K.lookup f4 = some ⟨oc4, od4, .func (PySem.W.fnOf "_law_name" "_law_name" (defArgs sName) (defBody sName) (defScope sName) .none kV4 dc4 pm4 an4 cd4 ct4), sl4⟩) (c4 : PySem.W.codeIn K cd4 "_law_name" = true) (k4 : PySem.W.keepIn K (.ref f4) = true)
    (a5 : PySem.W.nsIn K mainGlobals "_law_word" = some (some (.ref f5))) (l5 : K.lookup f5 = some ⟨oc5, od5, .func (PySem.W.fnOf "_law_word" "_law_word" (defArgs sWord) (defBody sWord) (defScope sWord) .none kV5 dc5 pm5 an5 cd5 ct5), sl5⟩) (c5 : PySem.W.codeIn K cd5 "_law_word" = true) (k5 : PySem.W.keepIn K (.ref f5) = true)
    (a6 : PySem.W.nsIn K mainGlobals "_law_fields" = some (some (.ref f6))) (l6 : K.lookup f6 = some ⟨oc6, od6, .func (PySem.W.fnOf "_law_fields" "_law_fields" (defArgs sFields) (defBody sFields) (defScope sFields) .none kV6 dc6 pm6 an6 cd6 ct6), sl6⟩) (c6 : PySem.W.codeIn K cd6 "_law_fields" = true) (k6 : PySem.W.keepIn K (.ref f6) = true)
    (a7 : PySem.W.nsIn K mainGlobals "_law_headers" = some (some (.ref f7))) (l7 : K.lookup f7 = some ⟨oc7, od7, .func (PySem.W.fnOf "_law_headers" "_law_headers" (defArgs sHeaders) (defBody sHeaders) (defScope sHeaders) .none kV7 dc7 pm7 an7 cd7 ct7), sl7⟩) (c7 : PySem.W.codeIn K cd7 "_law_headers" = true) (k7 : PySem.W.keepIn K (.ref f7) = true)
    (a8 : PySem.W.nsIn K mainGlobals "_law_size" = some (some (.ref f8))) (l8 : K.lookup f8 = some ⟨oc8, od8, .func (PySem.W.fnOf "_law_size" "_law_size" (defArgs sSize) (defBody sSize) (defScope sSize) .none kV8 dc8 pm8 an8 cd8 ct8), sl8⟩) (c8 : PySem.W.codeIn K cd8 "_law_size" = true) (k8 : PySem.W.keepIn K (.ref f8) = true)
    (a9 : PySem.W.nsIn K mainGlobals "_law_read" = some (some (.ref f9))) (l9 : K.lookup f9 = some ⟨oc9, od9, .func (PySem.W.fnOf "_law_read" "_law_read" (defArgs sRead) (defBody sRead) (defScope sRead) .none kV9 dc9 pm9 an9 cd9 ct9), sl9⟩) (c9 : PySem.W.codeIn K cd9 "_law_read" = true) (k9 : PySem.W.keepIn K (.ref f9) = true)
    (a10 : PySem.W.nsIn K mainGlobals "_law_written" = some (some (.ref f10))) (l10 : K.lookup f10 = some ⟨oc10, od10, .func (PySem.W.fnOf "_law_written" "_law_written" (defArgs sWritten) (defBody sWritten) (defScope sWritten) .none kV10 dc10 pm10 an10 cd10 ct10), sl10⟩) (c10 : PySem.W.codeIn K cd10 "_law_written" = true) (k10 : PySem.W.keepIn K (.ref f10) = true)
    (a11 : PySem.W.nsIn K mainGlobals "_law_bytes" = some (some (.ref f11))) (l11 : K.lookup f11 = some ⟨oc11, od11, .func (PySem.W.fnOf "_law_bytes" "_law_bytes" (defArgs sBytes) (defBody sBytes) (defScope sBytes) .none kV11 dc11 pm11 an11 cd11 ct11), sl11⟩) (c11 : PySem.W.codeIn K cd11 "_law_bytes" = true) (k11 : PySem.W.keepIn K (.ref f11) = true)
    (a12 : PySem.W.nsIn K mainGlobals "_law_words" = some (some (.ref f12))) (l12 : K.lookup f12 = some ⟨oc12, od12, .func (PySem.W.fnOf "_law_words" "_law_words" (defArgs sWords) (defBody sWords) (defScope sWords) .none kV12 dc12 pm12 an12 cd12 ct12), sl12⟩) (c12 : PySem.W.codeIn K cd12 "_law_words" = true) (k12 : PySem.W.keepIn K (.ref f12) = true)
    (a13 : PySem.W.nsIn K mainGlobals "_law_there" = some (some (.ref f13))) (l13 : K.lookup f13 = some ⟨oc13, od13, .func (PySem.W.fnOf "_law_there" "_law_there" (defArgs sThere) (defBody sThere) (defScope sThere) .none kV13 dc13 pm13 an13 cd13 ct13), sl13⟩) (c13 : PySem.W.codeIn K cd13 "_law_there" = true) (k13 : PySem.W.keepIn K (.ref f13) = true)
    (a14 : PySem.W.nsIn K mainGlobals "_law_single" = some (some (.ref f14))) (l14 : K.lookup f14 = some ⟨oc14, od14, .func (PySem.W.fnOf "_law_single" "_law_single" (defArgs sSingle) (defBody sSingle) (defScope sSingle) .none kV14 dc14 pm14 an14 cd14 ct14), sl14⟩) (c14 : PySem.W.codeIn K cd14 "_law_single" = true) (k14 : PySem.W.keepIn K (.ref f14) = true)
    (a15 : PySem.W.nsIn K mainGlobals "_law_right" = some (some (.ref f15))) (l15 : K.lookup f15 = some ⟨oc15, od15, .func (PySem.W.fnOf "_law_right" "_law_right" (defArgs sRight) (defBody sRight) (defScope sRight) .none kV15 dc15 pm15 an15 cd15 ct15), sl15⟩) (c15 : PySem.W.codeIn K cd15 "_law_right" = true) (k15 : PySem.W.keepIn K (.ref f15) = true)
    (a16 : PySem.W.nsIn K mainGlobals "law" = some (some (.ref f16))) (l16 : K.lookup f16 = some ⟨oc16, od16, .func (PySem.W.fnOf "law" "law" (defArgs sLaw) (defBody sLaw) (defScope sLaw) .none kV16 dc16 pm16 an16 cd16 ct16), sl16⟩) (c16 : PySem.W.codeIn K cd16 "law" = true) (k16 : PySem.W.keepIn K (.ref f16) = true)
    (a17 : PySem.W.nsIn K mainGlobals "is_number" = some (some (.ref f17))) (l17 : K.lookup f17 = some ⟨oc17, od17, .func (PySem.W.fnOf "is_number" "is_number" (defArgs sNumber) (defBody sNumber) (defScope sNumber) .none kV17 dc17 pm17 an17 cd17 ct17), sl17⟩) (c17 : PySem.W.codeIn K cd17 "is_number" = true) (k17 : PySem.W.keepIn K (.ref f17) = true)
    (a18 : PySem.W.nsIn K mainGlobals "is_row" = some (some (.ref f18))) (l18 : K.lookup f18 = some ⟨oc18, od18, .func (PySem.W.fnOf "is_row" "is_row" (defArgs sIsRow) (defBody sIsRow) (defScope sIsRow) .none kV18 dc18 pm18 an18 cd18 ct18), sl18⟩) (c18 : PySem.W.codeIn K cd18 "is_row" = true) (k18 : PySem.W.keepIn K (.ref f18) = true)
    (a19 : PySem.W.nsIn K mainGlobals "are_bytes" = some (some (.ref f19))) (l19 : K.lookup f19 = some ⟨oc19, od19, .func (PySem.W.fnOf "are_bytes" "are_bytes" (defArgs sAreBytes) (defBody sAreBytes) (defScope sAreBytes) .none kV19 dc19 pm19 an19 cd19 ct19), sl19⟩) (c19 : PySem.W.codeIn K cd19 "are_bytes" = true) (k19 : PySem.W.keepIn K (.ref f19) = true)
    (a20 : PySem.W.nsIn K mainGlobals "is_name" = some (some (.ref f20))) (l20 : K.lookup f20 = some ⟨oc20, od20, .func (PySem.W.fnOf "is_name" "is_name" (defArgs sIsName) (defBody sIsName) (defScope sIsName) .none kV20 dc20 pm20 an20 cd20 ct20), sl20⟩) (c20 : PySem.W.codeIn K cd20 "is_name" = true) (k20 : PySem.W.keepIn K (.ref f20) = true)
    (a21 : PySem.W.nsIn K mainGlobals "are_unlike" = some (some (.ref f21))) (l21 : K.lookup f21 = some ⟨oc21, od21, .func (PySem.W.fnOf "are_unlike" "are_unlike" (defArgs sUnlike) (defBody sUnlike) (defScope sUnlike) .none kV21 dc21 pm21 an21 cd21 ct21), sl21⟩) (c21 : PySem.W.codeIn K cd21 "are_unlike" = true) (k21 : PySem.W.keepIn K (.ref f21) = true)
    (a22 : PySem.W.nsIn K mainGlobals "names_in" = some (some (.ref f22))) (l22 : K.lookup f22 = some ⟨oc22, od22, .func (PySem.W.fnOf "names_in" "names_in" (defArgs sNamesIn) (defBody sNamesIn) (defScope sNamesIn) .none kV22 dc22 pm22 an22 cd22 ct22), sl22⟩) (c22 : PySem.W.codeIn K cd22 "names_in" = true) (k22 : PySem.W.keepIn K (.ref f22) = true)
    (a23 : PySem.W.nsIn K mainGlobals "are_sized" = some (some (.ref f23))) (l23 : K.lookup f23 = some ⟨oc23, od23, .func (PySem.W.fnOf "are_sized" "are_sized" (defArgs sSized) (defBody sSized) (defScope sSized) .none kV23 dc23 pm23 an23 cd23 ct23), sl23⟩) (c23 : PySem.W.codeIn K cd23 "are_sized" = true) (k23 : PySem.W.keepIn K (.ref f23) = true)
    (a24 : PySem.W.nsIn K mainGlobals "are_header_fields" = some (some (.ref f24))) (l24 : K.lookup f24 = some ⟨oc24, od24, .func (PySem.W.fnOf "are_header_fields" "are_header_fields" (defArgs sHeaderFields) (defBody sHeaderFields) (defScope sHeaderFields) .none kV24 dc24 pm24 an24 cd24 ct24), sl24⟩) (c24 : PySem.W.codeIn K cd24 "are_header_fields" = true) (k24 : PySem.W.keepIn K (.ref f24) = true)
    (a25 : PySem.W.nsIn K mainGlobals "is_header" = some (some (.ref f25))) (l25 : K.lookup f25 = some ⟨oc25, od25, .func (PySem.W.fnOf "is_header" "is_header" (defArgs sIsHeader) (defBody sIsHeader) (defScope sIsHeader) .none kV25 dc25 pm25 an25 cd25 ct25), sl25⟩) (c25 : PySem.W.codeIn K cd25 "is_header" = true) (k25 : PySem.W.keepIn K (.ref f25) = true)
    (a26 : PySem.W.nsIn K mainGlobals "are_headers" = some (some (.ref f26))) (l26 : K.lookup f26 = some ⟨oc26, od26, .func (PySem.W.fnOf "are_headers" "are_headers" (defArgs sAreHeaders) (defBody sAreHeaders) (defScope sAreHeaders) .none kV26 dc26 pm26 an26 cd26 ct26), sl26⟩) (c26 : PySem.W.codeIn K cd26 "are_headers" = true) (k26 : PySem.W.keepIn K (.ref f26) = true)
    (a27 : PySem.W.nsIn K mainGlobals "check_index" = some (some (.ref f27))) (l27 : K.lookup f27 = some ⟨oc27, od27, .func (PySem.W.fnOf "check_index" "check_index" (defArgs sCheckIndex) (defBody sCheckIndex) (defScope sCheckIndex) .none kV27 dc27 pm27 an27 cd27 ct27), sl27⟩) (c27 : PySem.W.codeIn K cd27 "check_index" = true) (k27 : PySem.W.keepIn K (.ref f27) = true)
    (a28 : PySem.W.nsIn K mainGlobals "header_size" = some (some (.ref f28))) (l28 : K.lookup f28 = some ⟨oc28, od28, .func (PySem.W.fnOf "header_size" "header_size" (defArgs sHeaderSize) (defBody sHeaderSize) (defScope sHeaderSize) .none kV28 dc28 pm28 an28 cd28 ct28), sl28⟩) (c28 : PySem.W.codeIn K cd28 "header_size" = true) (k28 : PySem.W.keepIn K (.ref f28) = true)
    (a29 : PySem.W.nsIn K mainGlobals "size_of" = some (some (.ref f29))) (l29 : K.lookup f29 = some ⟨oc29, od29, .func (PySem.W.fnOf "size_of" "size_of" (defArgs sSizeOf) (defBody sSizeOf) (defScope sSizeOf) .none kV29 dc29 pm29 an29 cd29 ct29), sl29⟩) (c29 : PySem.W.codeIn K cd29 "size_of" = true) (k29 : PySem.W.keepIn K (.ref f29) = true)
    (a30 : PySem.W.nsIn K mainGlobals "words_from" = some (some (.ref f30))) (l30 : K.lookup f30 = some ⟨oc30, od30, .func (PySem.W.fnOf "words_from" "words_from" (defArgs sWordsFrom) (defBody sWordsFrom) (defScope sWordsFrom) .none kV30 dc30 pm30 an30 cd30 ct30), sl30⟩) (c30 : PySem.W.codeIn K cd30 "words_from" = true) (k30 : PySem.W.keepIn K (.ref f30) = true)
    (a31 : PySem.W.nsIn K mainGlobals "read_header" = some (some (.ref f31))) (l31 : K.lookup f31 = some ⟨oc31, od31, .func (PySem.W.fnOf "read_header" "read_header" (defArgs sReadHeader) (defBody sReadHeader) (defScope sReadHeader) .none kV31 dc31 pm31 an31 cd31 ct31), sl31⟩) (c31 : PySem.W.codeIn K cd31 "read_header" = true) (k31 : PySem.W.keepIn K (.ref f31) = true)
    (a32 : PySem.W.nsIn K mainGlobals "are_words_for" = some (some (.ref f32))) (l32 : K.lookup f32 = some ⟨oc32, od32, .func (PySem.W.fnOf "are_words_for" "are_words_for" (defArgs sWordsFor) (defBody sWordsFor) (defScope sWordsFor) .none kV32 dc32 pm32 an32 cd32 ct32), sl32⟩) (c32 : PySem.W.codeIn K cd32 "are_words_for" = true) (k32 : PySem.W.keepIn K (.ref f32) = true)
    (a33 : PySem.W.nsIn K mainGlobals "bytes_from" = some (some (.ref f33))) (l33 : K.lookup f33 = some ⟨oc33, od33, .func (PySem.W.fnOf "bytes_from" "bytes_from" (defArgs sBytesFrom) (defBody sBytesFrom) (defScope sBytesFrom) .none kV33 dc33 pm33 an33 cd33 ct33), sl33⟩) (c33 : PySem.W.codeIn K cd33 "bytes_from" = true) (k33 : PySem.W.keepIn K (.ref f33) = true)
    (a34 : PySem.W.nsIn K mainGlobals "write_header" = some (some (.ref f34))) (l34 : K.lookup f34 = some ⟨oc34, od34, .func (PySem.W.fnOf "write_header" "write_header" (defArgs sWriteHeader) (defBody sWriteHeader) (defScope sWriteHeader) .none kV34 dc34 pm34 an34 cd34 ct34), sl34⟩) (c34 : PySem.W.codeIn K cd34 "write_header" = true) (k34 : PySem.W.keepIn K (.ref f34) = true)
    (z_int : PySem.W.nsIn K mainGlobals "int" = some none)
    (z_abs : PySem.W.nsIn K mainGlobals "abs" = some none)
    (z_len : PySem.W.nsIn K mainGlobals "len" = some none)
    (z_divmod : PySem.W.nsIn K mainGlobals "divmod" = some none)
    (z_range : PySem.W.nsIn K mainGlobals "range" = some none)
    (z_tuple : PySem.W.nsIn K mainGlobals "tuple" = some none)
    (z_repr : PySem.W.nsIn K mainGlobals "repr" = some none)
    (z_all : PySem.W.nsIn K mainGlobals "all" = some none)
    (z_max : PySem.W.nsIn K mainGlobals "max" = some none)
    (z_min : PySem.W.nsIn K mainGlobals "min" = some none)
    (z_sum : PySem.W.nsIn K mainGlobals "sum" = some none)
    (z_zip : PySem.W.nsIn K mainGlobals "zip" = some none)
    (z_str : PySem.W.nsIn K mainGlobals "str" = some none)
    (z_list : PySem.W.nsIn K mainGlobals "list" = some none)
    (z_set : PySem.W.nsIn K mainGlobals "set" = some none)
    (z_isinstance : PySem.W.nsIn K mainGlobals "isinstance" = some none)
    (z_bool : PySem.W.nsIn K mainGlobals "bool" = some none)
    (z_reversed : PySem.W.nsIn K mainGlobals "reversed" = some none)
    (y_mh : PySem.W.nsIn K mainGlobals "MOST_HEADERS" = some (some (.int 6 t_mh)))
    (y_mf : PySem.W.nsIn K mainGlobals "MOST_FIELDS" = some (some (.int 12 t_mf)))
    (y_mw : PySem.W.nsIn K mainGlobals "WORD_WIDTH" = some (some (.int 32 t_mw)))
    (y_mb : PySem.W.nsIn K mainGlobals "MOST_HEADER_BITS" = some (some (.int 128 t_mb)))
    (y_lt : PySem.W.nsIn K mainGlobals "LETTERS" = some (some (.str (Str.ofString "abcdefghijklmnopqrstuvwxyz") t_lt)))
    (y_ns : PySem.W.nsIn K mainGlobals "NAME_SIGNS" = some (some (.str (Str.ofString "abcdefghijklmnopqrstuvwxyz0123456789_") t_ns)))
    (y_kw : PySem.W.nsIn K mainGlobals "KEPT_WORDS" = some (some (.ref kw)))
    (l_kw : K.lookup kw = some ⟨.type "dict", none, .dict ekw nkw, #[]⟩)
    (q_kw : ekw.toList.map He.keyOf = He.keysIn w.params keptN)
    (w_kw : (kw == sysModules) = false) :
    ∃ fd : FuncData, (∀ (s : Shared) (v : Value), BindsTo s fd ⟨[v], []⟩ [("_law_script", v)]) ∧ ∀ base : Heap, K.In base → base.Ns mainGlobals mg → FnG l.prog w K mg base CX0 12 fa fd ["_law_script"] (spLaw K) := by
  have e := hfa.symm.trans (PySem.W.mg_of X G a16)
  cases e
  have FJar := fun_mk (st := sJar) l0 c0 k0
  have gJar := PySem.W.mg_of X G a0
  have bJar := FJar.binds (ps := ["_law_script", "_law_turn"]) fun _ _ _ _ _ _ us hl => match us, hl with | [_, _], _ => rfl
  have FD := fun_mk (st := sDip) l1 c1 k1
  have gD := PySem.W.mg_of X G a1
  have bD := FD.binds (ps := ["_law_jar_here", "_law_top"]) fun _ _ _ _ _ _ us hl => match us, hl with | [_, _], _ => rfl
  have FO := fun_mk (st := sOne) l2 c2 k2
  have gO := PySem.W.mg_of X G a2
  have bO := FO.binds (ps := ["_law_jar_here", "_law_some"]) fun _ _ _ _ _ _ us hl => match us, hl with | [_, _], _ => rfl
  have FK := fun_mk (st := sKept) l3 c3 k3
  have gK := PySem.W.mg_of X G a3
  have bK := FK.binds (ps := []) fun _ _ _ _ _ _ us hl => match us, hl with | [], _ => rfl
  have FNm := fun_mk (st := sName) l4 c4 k4
  have gNm := PySem.W.mg_of X G a4
  have bNm := FNm.binds (ps := ["_law_jar_here", "_law_taken"]) fun _ _ _ _ _ _ us hl => match us, hl with | [_, _], _ => rfl
  have FWd := fun_mk (st := sWord) l5 c5 k5
  have gWd := PySem.W.mg_of X G a5
  have bWd := FWd.binds (ps := ["_law_jar_here", "_law_width"]) fun _ _ _ _ _ _ us hl => match us, hl with | [_, _], _ => rfl
  have FFi := fun_mk (st := sFields) l6 c6 k6
  have gFi := PySem.W.mg_of X G a6
  have bFi := FFi.binds (ps := ["_law_jar_here", "_law_size_here"]) fun _ _ _ _ _ _ us hl => match us, hl with | [_, _], _ => rfl
  have FH := fun_mk (st := sHeaders) l7 c7 k7
  have gH := PySem.W.mg_of X G a7
  have bH := FH.binds (ps := ["_law_jar_here", "_law_least", "_law_most"]) fun _ _ _ _ _ _ us hl => match us, hl with | [_, _, _], _ => rfl
  have FS := fun_mk (st := sSize) l8 c8 k8
  have gS := PySem.W.mg_of X G a8
  have bS := FS.binds (ps := ["_law_fields_here"]) fun _ _ _ _ _ _ us hl => match us, hl with | [_], _ => rfl
  have FR := fun_mk (st := sRead) l9 c9 k9
  have gR := PySem.W.mg_of X G a9
  have bR := FR.binds (ps := ["_law_fields_here", "_law_taken"]) fun _ _ _ _ _ _ us hl => match us, hl with | [_, _], _ => rfl
  have FW := fun_mk (st := sWritten) l10 c10 k10
  have gW := PySem.W.mg_of X G a10
  have bW := FW.binds (ps := ["_law_fields_here", "_law_words_here"]) fun _ _ _ _ _ _ us hl => match us, hl with | [_, _], _ => rfl
  have FB := fun_mk (st := sBytes) l11 c11 k11
  have gB := PySem.W.mg_of X G a11
  have bB := FB.binds (ps := ["_law_jar_here", "_law_many"]) fun _ _ _ _ _ _ us hl => match us, hl with | [_, _], _ => rfl
  have FWs := fun_mk (st := sWords) l12 c12 k12
  have gWs := PySem.W.mg_of X G a12
  have bWs := FWs.binds (ps := ["_law_jar_here", "_law_fields_here"]) fun _ _ _ _ _ _ us hl => match us, hl with | [_, _], _ => rfl
  have FT := fun_mk (st := sThere) l13 c13 k13
  have gT := PySem.W.mg_of X G a13
  have bT := FT.binds (ps := ["_law_headers_here", "_law_at", "_law_taken", "_law_words_here"]) fun _ _ _ _ _ _ us hl => match us, hl with | [_, _, _, _], _ => rfl
  have FX := fun_mk (st := sSingle) l14 c14 k14
  have gX := PySem.W.mg_of X G a14
  have bX := FX.binds (ps := ["_law_headers_here", "_law_at"]) fun _ _ _ _ _ _ us hl => match us, hl with | [_, _], _ => rfl
  have FRt := fun_mk (st := sRight) l15 c15 k15
  have gRt := PySem.W.mg_of X G a15
  have bRt := FRt.binds (ps := ["_law_jar_here"]) fun _ _ _ _ _ _ us hl => match us, hl with | [_], _ => rfl
  have FL := fun_mk (st := sLaw) l16 c16 k16
  have gL := PySem.W.mg_of X G a16
  have FpN := fun_mk (st := sNumber) l17 c17 k17
  have gpN := PySem.W.mg_of X G a17
  have bpN := FpN.binds (ps := ["value", "least", "most"]) fun _ _ _ _ _ _ us hl => match us, hl with | [_, _, _], _ => rfl
  have FpR := fun_mk (st := sIsRow) l18 c18 k18
  have gpR := PySem.W.mg_of X G a18
  have bpR := FpR.binds (ps := ["value", "least", "most"]) fun _ _ _ _ _ _ us hl => match us, hl with | [_, _, _], _ => rfl
  have FpBs := fun_mk (st := sAreBytes) l19 c19 k19
  have gpBs := PySem.W.mg_of X G a19
  have bpBs := FpBs.binds (ps := ["value", "least", "most"]) fun _ _ _ _ _ _ us hl => match us, hl with | [_, _, _], _ => rfl
  have FpM := fun_mk (st := sIsName) l20 c20 k20
  have gpM := PySem.W.mg_of X G a20
  have bpM := FpM.binds (ps := ["value"]) fun _ _ _ _ _ _ us hl => match us, hl with | [_], _ => rfl
  have FpU := fun_mk (st := sUnlike) l21 c21 k21
  have gpU := PySem.W.mg_of X G a21
  have bpU := FpU.binds (ps := ["parts"]) fun _ _ _ _ _ _ us hl => match us, hl with | [_], _ => rfl
  have FpI := fun_mk (st := sNamesIn) l22 c22 k22
  have gpI := PySem.W.mg_of X G a22
  have bpI := FpI.binds (ps := ["parts"]) fun _ _ _ _ _ _ us hl => match us, hl with | [_], _ => rfl
  have FpZd := fun_mk (st := sSized) l23 c23 k23
  have gpZd := PySem.W.mg_of X G a23
  have bpZd := FpZd.binds (ps := ["value", "least", "most"]) fun _ _ _ _ _ _ us hl => match us, hl with | [_, _, _], _ => rfl
  have FpFs := fun_mk (st := sHeaderFields) l24 c24 k24
  have gpFs := PySem.W.mg_of X G a24
  have bpFs := FpFs.binds (ps := ["value"]) fun _ _ _ _ _ _ us hl => match us, hl with | [_], _ => rfl
  have FpH := fun_mk (st := sIsHeader) l25 c25 k25
  have gpH := PySem.W.mg_of X G a25
  have bpH := FpH.binds (ps := ["value"]) fun _ _ _ _ _ _ us hl => match us, hl with | [_], _ => rfl
  have FpHs := fun_mk (st := sAreHeaders) l26 c26 k26
  have gpHs := PySem.W.mg_of X G a26
  have bpHs := FpHs.binds (ps := ["value"]) fun _ _ _ _ _ _ us hl => match us, hl with | [_], _ => rfl
  have FpC := fun_mk (st := sCheckIndex) l27 c27 k27
  have gpC := PySem.W.mg_of X G a27
  have bpC := FpC.binds (ps := ["headers", "index"]) fun _ _ _ _ _ _ us hl => match us, hl with | [_, _], _ => rfl
  have FpZ := fun_mk (st := sHeaderSize) l28 c28 k28
  have gpZ := PySem.W.mg_of X G a28
  have bpZ := FpZ.binds (ps := ["header"]) fun _ _ _ _ _ _ us hl => match us, hl with | [_], _ => rfl
  have FpSO := fun_mk (st := sSizeOf) l29 c29 k29
  have gpSO := PySem.W.mg_of X G a29
  have bpSO := FpSO.binds (ps := ["headers", "index"]) fun _ _ _ _ _ _ us hl => match us, hl with | [_, _], _ => rfl
  have FpWF := fun_mk (st := sWordsFrom) l30 c30 k30
  have gpWF := PySem.W.mg_of X G a30
  have bpWF := FpWF.binds (ps := ["header", "taken"]) fun _ _ _ _ _ _ us hl => match us, hl with | [_, _], _ => rfl
  have FpRH := fun_mk (st := sReadHeader) l31 c31 k31
  have gpRH := PySem.W.mg_of X G a31
  have bpRH := FpRH.binds (ps := ["headers", "index", "taken"]) fun _ _ _ _ _ _ us hl => match us, hl with | [_, _, _], _ => rfl
  have FpWO := fun_mk (st := sWordsFor) l32 c32 k32
  have gpWO := PySem.W.mg_of X G a32
  have bpWO := FpWO.binds (ps := ["sized", "value"]) fun _ _ _ _ _ _ us hl => match us, hl with | [_, _], _ => rfl
  have FpBF := fun_mk (st := sBytesFrom) l33 c33 k33
  have gpBF := PySem.W.mg_of X G a33
  have bpBF := FpBF.binds (ps := ["header", "words"]) fun _ _ _ _ _ _ us hl => match us, hl with | [_, _], _ => rfl
  have FpWH := fun_mk (st := sWriteHeader) l34 c34 k34
  have gpWH := PySem.W.mg_of X G a34
  have bpWH := FpWH.binds (ps := ["headers", "index", "words"]) fun _ _ _ _ _ _ us hl => match us, hl with | [_, _, _], _ => rfl
  have npRH := Fun_kbn (ps := ["headers", "index", "taken"]) (ks := ["taken", "index", "headers"]) FpRH fun _ _ _ _ _ _ ws hl => match ws, hl with | [_, _, _], _ => rfl
  have npWH := Fun_kbn (ps := ["headers", "index", "words"]) (ks := ["words", "index", "headers"]) FpWH fun _ _ _ _ _ _ ws hl => match ws, hl with | [_, _, _], _ => rfl
  have npSO := Fun_kbn (ps := ["headers", "index"]) (ks := ["index", "headers"]) FpSO fun _ _ _ _ _ _ ws hl => match ws, hl with | [_, _], _ => rfl
  have B : Blt mg := ⟨PySem.W.mg_none_of X G z_int, PySem.W.mg_none_of X G z_abs, PySem.W.mg_none_of X G z_len, PySem.W.mg_none_of X G z_divmod, PySem.W.mg_none_of X G z_range, PySem.W.mg_none_of X G z_tuple, PySem.W.mg_none_of X G z_repr, PySem.W.mg_none_of X G z_all, PySem.W.mg_none_of X G z_max, PySem.W.mg_none_of X G z_min, PySem.W.mg_none_of X G z_sum, PySem.W.mg_none_of X G z_zip, PySem.W.mg_none_of X G z_str, PySem.W.mg_none_of X G z_list, PySem.W.mg_none_of X G z_set, PySem.W.mg_none_of X G z_isinstance, PySem.W.mg_none_of X G z_bool, PySem.W.mg_none_of X G z_reversed⟩
  have C : Cst K w mg := ⟨⟨_, PySem.W.mg_of X G y_lt, ⟨_, rfl⟩⟩, ⟨_, PySem.W.mg_of X G y_ns, ⟨_, rfl⟩⟩, ⟨kw, PySem.W.mg_of X G y_kw, keptAt l_kw q_kw w_kw⟩, ⟨_, PySem.W.mg_of X G y_mh, ⟨_, rfl⟩⟩, ⟨_, PySem.W.mg_of X G y_mf, ⟨_, rfl⟩⟩, ⟨_, PySem.W.mg_of X G y_mw, ⟨_, rfl⟩⟩, ⟨_, PySem.W.mg_of X G y_mb, ⟨_, rfl⟩⟩⟩
  refine ⟨PySem.W.fnOf "law" "law" (defArgs sLaw) (defBody sLaw) (defScope sLaw) .none kV16 dc16 pm16 an16 cd16 ct16, fun s v => .of_eq rfl, fun base _ _ => ?_⟩
  have GpN := ok_number (P := l.prog) (w := w) (base := base) FpN B
  have GpR := ok_isrow (P := l.prog) (w := w) (base := base) FpR B
  have GpBs := ok_arebytes (P := l.prog) (w := w) (base := base) FpBs B FpR bpR gpR FpN bpN gpN GpN
  have GpM := ok_isname (P := l.prog) (w := w) (base := base) FpM B C
  have GpU := ok_unlike (P := l.prog) (w := w) (base := base) FpU B
  have GpI := ok_namesin (P := l.prog) (w := w) (base := base) FpI B
  have Zw : Wfn l.prog w K mg base _ _ _ _ _ _ _ _ _ _ := ⟨FpN, bpN, gpN, GpN, FpR, bpR, gpR, GpR, FpM, bpM, gpM, GpM, FpU, bpU, gpU, GpU, FpI, bpI, gpI, GpI⟩
  have GpFs := ok_headerfields FpFs B C Zw FpZd bpZd gpZd
  have GpH := ok_isheader FpH Zw FpFs bpFs gpFs GpFs
  have GpHs := ok_areheaders FpHs B C Zw FpH bpH gpH GpH
  have GpC := ok_checkindex FpC B FpN bpN gpN GpN FpHs bpHs gpHs GpHs
  have GpZ := ok_headersize (P := l.prog) (w := w) (base := base) FpZ B
  have GpSO := ok_sizeof FpSO FpC bpC gpC GpC FpZ bpZ gpZ GpZ
  have GpWF := ok_wordsfrom (P := l.prog) (w := w) (base := base) FpWF B
  have GpRH := ok_readheader FpRH FpC bpC gpC GpC FpZ bpZ gpZ GpZ FpBs bpBs gpBs GpBs FpWF bpWF gpWF GpWF
  have GpWO := ok_wordsfor (P := l.prog) (w := w) (base := base) FpWO B
  have GpBF := ok_bytesfrom FpBF B FpZ bpZ gpZ GpZ
  have GpWH := ok_writeheader FpWH FpC bpC gpC GpC FpWO bpWO gpWO GpWO FpBF bpBF gpBF GpBF
  have Gp : Prg l.prog w K mg base 7 7 7 _ _ _ _ _ _ := ⟨by decide, by decide, by decide, FpRH, bpRH, npRH, gpRH, GpRH, FpWH, bpWH, npWH, gpWH, GpWH, FpSO, bpSO, npSO, gpSO, GpSO⟩
  have Z : Drw l.prog w K mg base _ _ _ _ _ _ := ⟨FD, bD, gD, ok_dip FD B, FO, bO, gO, ok_one FO B FD bD gD, FNm, bNm, gNm, ok_name FNm B FD bD gD FO bO gO FK bK gK⟩
  have GT := ok_there FT B Gp
  have R : Rdr l.prog w K mg base _ _ _ _ _ _ _ _ := ⟨FS, bS, gS, ok_size FS B, FR, bR, gR, ok_read FR B, FW, bW, gW, ok_written FW B, FT, bT, gT, GT⟩
  have Y : Oth l.prog w K mg base _ _ _ _ _ _ _ _ := ⟨FH, bH, gH, ok_headers FH B Z FFi bFi gFi, FB, bB, gB, ok_bytes FB B Z, FWs, bWs, gWs, ok_words FWs B Z FWd bWd gWd, FX, bX, gX, ok_single FX B R⟩
  have GRt := ok_right FRt B Gp R Z Y
  exact ok_law FL B FRt bRt gRt GRt FJar bJar gJar
end
end LJ
open PySem PySem.W PyProof.Rows in
set_option maxRecDepth 100000 in
set_option maxHeartbeats 0 in
theorem PySem.Challenge.cw_switchstages_k03_whole_fields_read_and_w_holds : PySem.Challenge.rw_switchstages_k03_whole_fields_read_and_w.Holds := by
  w_on; o_law; k_head; (case hw => w_witness2)
  k_fill
  refine GuL.walkG (l := PySem.Challenge.rw_switchstages_k03_whole_fields_read_and_w) (n := 63) (k := 12) (x := "_law_script") (sp := LJ.spLaw) rfl (by decide) rfl ⟨rfl, by decide, by decide⟩ (fun w h Y => PySem.W.kIn_of Y) ?F (fun K H a ns hl _ hS => ⟨a, ns, rfl, hS, hl, fun _ => rfl⟩)
  case F =>
    intro w mg fa h KX G hmg
    refine' LJ.all_mk KX G hmg ?a0 ?l0 ?c0 ?k0 ?a1 ?l1 ?c1 ?k1 ?a2 ?l2 ?c2 ?k2 ?a3 ?l3 ?c3 ?k3 ?a4 ?l4 ?c4 ?k4 ?a5 ?l5 ?c5 ?k5 ?a6 ?l6 ?c6 ?k6 ?a7 ?l7 ?c7 ?k7 ?a8 ?l8 ?c8 ?k8 ?a9 ?l9 ?c9 ?k9 ?a10 ?l10 ?c10 ?k10 ?a11 ?l11 ?c11 ?k11 ?a12 ?l12 ?c12 ?k12 ?a13 ?l13 ?c13 ?k13 ?a14 ?l14 ?c14 ?k14 ?a15 ?l15 ?c15 ?k15 ?a16 ?l16 ?c16 ?k16 ?a17 ?l17 ?c17 ?k17 ?a18 ?l18 ?c18 ?k18 ?a19 ?l19 ?c19 ?k19 ?a20 ?l20 ?c20 ?k20 ?a21 ?l21 ?c21 ?k21 ?a22 ?l22 ?c22 ?k22 ?a23 ?l23 ?c23 ?k23 ?a24 ?l24 ?c24 ?k24 ?a25 ?l25 ?c25 ?k25 ?a26 ?l26 ?c26 ?k26 ?a27 ?l27 ?c27 ?k27 ?a28 ?l28 ?c28 ?k28 ?a29 ?l29 ?c29 ?k29 ?a30 ?l30 ?c30 ?k30 ?a31 ?l31 ?c31 ?k31 ?a32 ?l32 ?c32 ?k32 ?a33 ?l33 ?c33 ?k33 ?a34 ?l34 ?c34 ?k34 ?z_int ?z_abs ?z_len ?z_divmod ?z_range ?z_tuple ?z_repr ?z_all ?z_max ?z_min ?z_sum ?z_zip ?z_str ?z_list ?z_set ?z_isinstance ?z_bool ?z_reversed ?y_mh ?y_mf ?y_mw ?y_mb ?y_lt ?y_ns ?y_kw ?l_kw ?q_kw ?w_kw
    (case a0 => k_is)
    (case l0 => k_is)
    (case c0 => k_is)
    (case k0 => k_is)
    (case a1 => k_is)
    (case l1 => k_is)
    (case c1 => k_is)
    (case k1 => k_is)
    (case a2 => k_is)
    (case l2 => k_is)
    (case c2 => k_is)
    (case k2 => k_is)
    (case a3 => k_is)
    (case l3 => k_is)
    (case c3 => k_is)
    (case k3 => k_is)
    (case a4 => k_is)
    (case l4 => k_is)
    (case c4 => k_is)
    (case k4 => k_is)
    (case a5 => k_is)
    (case l5 => k_is)
    (case c5 => k_is)
    (case k5 => k_is)
    (case a6 => k_is)
    (case l6 => k_is)
    (case c6 => k_is)
    (case k6 => k_is)
    (case a7 => k_is)
    (case l7 => k_is)
    (case c7 => k_is)
    (case k7 => k_is)
    (case a8 => k_is)
    (case l8 => k_is)
    (case c8 => k_is)
    (case k8 => k_is)
    (case a9 => k_is)
    (case l9 => k_is)
    (case c9 => k_is)
    (case k9 => k_is)
    (case a10 => k_is)
    (case l10 => k_is)
    (case c10 => k_is)
    (case k10 => k_is)
    (case a11 => k_is)
    (case l11 => k_is)
    (case c11 => k_is)
    (case k11 => k_is)
    (case a12 => k_is)
    (case l12 => k_is)
    (case c12 => k_is)
    (case k12 => k_is)
    (case a13 => k_is)
    (case l13 => k_is)
    (case c13 => k_is)
    (case k13 => k_is)
    (case a14 => k_is)
    (case l14 => k_is)
    (case c14 => k_is)
    (case k14 => k_is)
    (case a15 => k_is)
    (case l15 => k_is)
    (case c15 => k_is)
    (case k15 => k_is)
    (case a16 => k_is)
    (case l16 => k_is)
    (case c16 => k_is)
    (case k16 => k_is)
    (case a17 => k_is)
    (case l17 => k_is)
    (case c17 => k_is)
    (case k17 => k_is)
    (case a18 => k_is)
    (case l18 => k_is)
    (case c18 => k_is)
    (case k18 => k_is)
    (case a19 => k_is)
    (case l19 => k_is)
    (case c19 => k_is)
    (case k19 => k_is)
    (case a20 => k_is)
    (case l20 => k_is)
    (case c20 => k_is)
    (case k20 => k_is)
    (case a21 => k_is)
    (case l21 => k_is)
    (case c21 => k_is)
    (case k21 => k_is)
    (case a22 => k_is)
    (case l22 => k_is)
    (case c22 => k_is)
    (case k22 => k_is)
    (case a23 => k_is)
    (case l23 => k_is)
    (case c23 => k_is)
    (case k23 => k_is)
    (case a24 => k_is)
    (case l24 => k_is)
    (case c24 => k_is)
    (case k24 => k_is)
    (case a25 => k_is)
    (case l25 => k_is)
    (case c25 => k_is)
    (case k25 => k_is)
    (case a26 => k_is)
    (case l26 => k_is)
    (case c26 => k_is)
    (case k26 => k_is)
    (case a27 => k_is)
    (case l27 => k_is)
    (case c27 => k_is)
    (case k27 => k_is)
    (case a28 => k_is)
    (case l28 => k_is)
    (case c28 => k_is)
    (case k28 => k_is)
    (case a29 => k_is)
    (case l29 => k_is)
    (case c29 => k_is)
    (case k29 => k_is)
    (case a30 => k_is)
    (case l30 => k_is)
    (case c30 => k_is)
    (case k30 => k_is)
    (case a31 => k_is)
    (case l31 => k_is)
    (case c31 => k_is)
    (case k31 => k_is)
    (case a32 => k_is)
    (case l32 => k_is)
    (case c32 => k_is)
    (case k32 => k_is)
    (case a33 => k_is)
    (case l33 => k_is)
    (case c33 => k_is)
    (case k33 => k_is)
    (case a34 => k_is)
    (case l34 => k_is)
    (case c34 => k_is)
    (case k34 => k_is)
    (case z_int => k_is)
    (case z_abs => k_is)
    (case z_len => k_is)
    (case z_divmod => k_is)
    (case z_range => k_is)
    (case z_tuple => k_is)
    (case z_repr => k_is)
    (case z_all => k_is)
    (case z_max => k_is)
    (case z_min => k_is)
    (case z_sum => k_is)
    (case z_zip => k_is)
    (case z_str => k_is)
    (case z_list => k_is)
    (case z_set => k_is)
    (case z_isinstance => k_is)
    (case z_bool => k_is)
    (case z_reversed => k_is)
    (case y_mh => k_is)
    (case y_mf => k_is)
    (case y_mw => k_is)
    (case y_mb => k_is)
    (case y_lt => k_is)
    (case y_ns => k_is)
    (case y_kw => k_is)
    (case l_kw => k_is)
    (case q_kw => rfl)
    (case w_kw => decide)

