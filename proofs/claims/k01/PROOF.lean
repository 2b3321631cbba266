import PyProof.Rows.All
import Wide.All
import OpenK.AllK
import Wide.FinOn
import HandS.ForMost
import HandS.Exc
import HandS.ExcInit
import HandS.HeadHook1
import HandS.IsInst
import KE.KExcInit
import KE.KExcIs
import HandS.ExcValue
import HandS.Flow
import PyProof.ReprRoads
import PyProof.CallFns
import HandS.Walk
import HandS.Evl
import PyProof.ReprLen
import PyProof.StrLawsRepr
import PySem.Challenge.RW_switchstages_k01_errors_each_of_its_own
set_option Elab.async false
set_option linter.all false
set_option maxRecDepth 100000
set_option maxHeartbeats 4000000
namespace PySem
namespace KwE
open Builtin Builtin.ObjectAttr
open PySem.HandSPX
section
variable {prog : Program} {w : World} {A : Around} {E : Value → Shared → Prop} {R : Result → Shared → Prop} {hp : Heap} {g : Array GenState} {d : Drawn} {t : Nat} {os : OsState}
variable {nm q : Str} {C N : Addr} {bs bm bmB : List Value} {hdct : Bool} {sn : List Str} {sub : List Value} {ab : Bool} {col : Option Bool} {dd : Option Addr} {k0 k1 k2 k3 k5 : Option Value} {B newId initId : String}
theorem kw_check_new (F : ExcBaseFacts B newId initId bmB) (hT : ∀ X : String, bm.contains (.type X) = bmB.contains (.type X)) {rest : List Value} {kw : List (Str × Value)} {Q : Unit → Shared → Prop}
    (hC : hp.get? C = some (excClassObj nm q C N bs bm hdct sn sub ab col dd k0 k1 k2 k3 k5 newId)) (hq : Q () ⟨hp, g, d, t, os⟩) : wpAny (model prog w) A (checkBuiltinCall newId ⟨.ref C :: rest, kw⟩) Q E ⟨hp, g, d, t, os⟩ := by
  have c1 : (Value.ref C :: bm).contains (.type B) = true := by
    rw [List.contains_cons, hT, F.hasB]
    exact Bool.or_true _
  have c2 := F.noStar
  simp only [checkBuiltinCall, F.newKind, F.newSplit, F.newRow]
  repeat (first
    | refine wpAny_loadPart_at hC ?_
    | (refine wpAny_isSubtype_exc hC ?_; rw [c1])
    | refine wpAny_staticBase_exc hC ?_
    | refine wpAny_madeBy_exc hC ?_
    | simp only [bne_self_eq_false, Bool.false_eq_true, if_false]
    | wp_step)
  exact hq
theorem kw_new (F : ExcBaseFacts B newId initId bmB) (hT : ∀ X : String, bm.contains (.type X) = bmB.contains (.type X)) {rest : List Value} {kw : List (Str × Value)}
    (hC : hp.get? C = some (excClassObj nm q C N bs bm hdct sn sub ab col dd k0 k1 k2 k3 k5 newId)) (hz : rest.length ≤ sizeLine)
    (hq : R (.ok (.ret (.ref (hp.objs.size + 1)))) ⟨(hp.push (W.kdv_tup rest)).push (excO C hp.objs.size), g, d, t, os⟩) :
    codeAny (model prog w) A (.builtin newId ⟨.ref C :: rest, kw⟩) R ⟨hp, g, d, t, os⟩ := by
  have e0 := F.ends
  have e1 : (Value.ref C :: bm).contains (.type B) = true := by
    rw [List.contains_cons, hT, F.hasB]
    exact Bool.or_true _
  have e2 : (Value.ref C :: bm).contains (.type "AttributeError") = false := by
    rw [List.contains_cons, hT, F.noAttr]
    rfl
  have e3 : (Value.ref C :: bm).contains (.type "NameError") = false := by
    rw [List.contains_cons, hT, F.noName]
    rfl
  refine codeAny_builtinAt F.entry ?_
  unfold Builtin.«BaseException.__new__»
  refine wpAt_bind ?_
  show wpAt _ _ _ (stack >>= _) _ _ _
  refine wpAt_bind (wpAt_stack fun p below => wpAt_of_wpAny ?_)
  wp_walk
  refine wpAt_of_wpAny ?_
  rw [F.owner]
  repeat (first
    | with_reducible refine wpAny_madeHere_exc F.canon hC ?_
    | with_reducible refine wpAny_loadPart_at hC ?_
    | (with_reducible refine wpAny_isSubtype_exc hC ?_; first | rw [e1] | rw [e2] | rw [e3])
    | wp_step)
  show R _ _
  rw [Heap.size_push]
  exact hq
theorem kw_type (F : ExcBaseFacts B newId initId bmB) (hT : ∀ X : String, bm.contains (.type X) = bmB.contains (.type X)) {rest : List Value} {kw : List (Str × Value)} {fI : Addr} {Q : Fin → Shared → Prop}
    (hC : hp.get? C = some (excClassObj nm q C N bs bm hdct sn sub ab col dd k0 k1 k2 k3 k5 newId)) (hz : rest.length ≤ sizeLine)
    (hi : W.Looks (model prog w) hp (typeLookup (.ref C) "__init__") (some (.ref fI))) (hb : ∀ self, W.Looks (model prog w) hp (bindSpecial (.ref fI) self) (.ref fI, [self]))
    (hq : codeAny (model prog w) A (.call (.ref fI) ⟨.ref (hp.objs.size + 1) :: rest, kw⟩)
      (fun r s' => match r with | .ok (.ret v) => v = .none ∧ Q (.done (.ret (.ref (hp.objs.size + 1)))) s' | .ok _ => False | .error e => E e s')
      ⟨(hp.push (W.kdv_tup rest)).push (excO C hp.objs.size), g, d, t, os⟩) :
    wpAny (model prog w) A (Builtin.«type.__call__» ⟨.ref C :: rest, kw⟩) Q E ⟨hp, g, d, t, os⟩ := by
  repeat (first
    | with_reducible refine wpAny_loadPart_at hC ?_
    | with_reducible refine wpAny_madeBy_exc hC ?_
    | wp_step)
  refine codeAny_call_builtin_code (Code.quiet_builtin _ F.quiet) (kw_check_new F hT hC ?_)
  refine kw_new F hT hC hz ?_
  show wpAny _ _ _ _ _ _
  have kp : ∀ b o, hp.get? b = some o → ((hp.push (W.kdv_tup rest)).push (excO C hp.objs.size)).get? b = some o := fun b o e =>
    Heap.get?_push_of_some _ (Heap.get?_push_of_some _ e)
  have hC1 := kp _ _ hC
  have hme : ((hp.push (W.kdv_tup rest)).push (excO C hp.objs.size)).get? (hp.objs.size + 1) = some (excO C hp.objs.size) := by heap_get
  have hcc : (Value.ref C :: bm).contains (.ref C) = true := by simp
  have i1 := hi.keeps kp
  have b1 := (hb (.ref (hp.objs.size + 1))).keeps kp
  unfold isInstance
  repeat (first
    | with_reducible refine wpAny_loadPart_at hme ?_
    | (with_reducible refine wpAny_isSubtype_exc hC1 ?_; rw [hcc])
    | wp_step)
  show wpAny _ _ (typeLookup (.ref C) _) _ _ _
  refine i1.at ?_
  refine wpAny_holding (wpAny_bind (b1.at ?_))
  refine wpAny_bind (wpAny_call (codeAny_mono hq fun r s' z => ?_))
  rcases r with e | (v | _ | _ | _) <;> first | exact z | exact z.elim | skip
  obtain ⟨rfl, z⟩ := z
  first
    | exact wpAny_pure (wpAny_pure z)
    | (wp_walk; exact z)
theorem kw_check_type {M : Model} {rest : List Value} {kw : List (Str × Value)} {Q : Unit → Shared → Prop} (hC : hp.get? C = some (excClassObj nm q C N bs bm hdct sn sub ab col dd k0 k1 k2 k3 k5 newId))
    (hq : Q () ⟨hp, g, d, t, os⟩) : wpAny M A (checkBuiltinCall "type.__call__" ⟨.ref C :: rest, kw⟩) Q E ⟨hp, g, d, t, os⟩ := by
  have y1 := tc_sub
  have y2 : (⟨hp, g, d, t, os⟩ : Shared).TypeIs (.ref C) "type" := ⟨_, hC, rfl⟩
  simp only [checkBuiltinCall, tc_kind, tc_split]
  repeat (any_goals (first
    | assumption
    | with_reducible refine wpAny_loadPart_at hC ?_
    | with_reducible refine wpAny_onRaise ?_
    | with_reducible refine wpAny_map ?_
    | wp_step))
theorem kw_call (F : ExcBaseFacts B newId initId bmB) (hT : ∀ X : String, bm.contains (.type X) = bmB.contains (.type X)) {rest : List Value} {kw : List (Str × Value)} {fI : Addr}
    (hC : hp.get? C = some (excClassObj nm q C N bs bm hdct sn sub ab col dd k0 k1 k2 k3 k5 newId)) (hz : rest.length ≤ sizeLine)
    (hi : W.Looks (model prog w) hp (typeLookup (.ref C) "__init__") (some (.ref fI))) (hb : ∀ self, W.Looks (model prog w) hp (bindSpecial (.ref fI) self) (.ref fI, [self]))
    (hq : codeAny (model prog w) (A.under (.builtin "type.__call__" ⟨.ref C :: rest, kw⟩)) (.call (.ref fI) ⟨.ref (hp.objs.size + 1) :: rest, kw⟩) (W.InitBack (hp.objs.size + 1) R)
      ⟨(hp.push (W.kdv_tup rest)).push (excO C hp.objs.size), g, d, t, os⟩) :
    codeAny (model prog w) A (.call (.ref C) ⟨rest, kw⟩) R ⟨hp, g, d, t, os⟩ := by
  have z1 := tc_lookup
  have z2 := tc_bind (.ref C)
  have z3 : (⟨hp, g, d, t, os⟩ : Shared).TypeIs (.ref C) "type" := ⟨_, hC, rfl⟩
  refine codeAny_of_tree ?_
  show wpAny _ _ (callAny (.ref C) _) _ _ _
  repeat (any_goals (first
    | assumption
    | with_reducible refine wpAny_loadPart_at hC ?_
    | wp_step))
  refine ⟨rfl, ?_⟩
  refine codeAny_call_builtin_at (Code.quiet_builtin _ (by decide +kernel)) entry_typeCall (kw_check_type hC (kw_type F hT hC hz hi hb ?_))
  refine codeAny_mono hq fun r s' z => ?_
  rcases r with e | (v | _ | _ | _) <;> exact z
end
end KwE
end PySem

namespace OwnE
open PySem PySem.Spec PyProof.Rows L2
open PySem.HandSPX (excO refsVE)
/-! ### what the written part says of a class of errors -/
def clB (K : PySem.W.Frag) (C : Addr) : Bool :=
  PySem.W.excInitIn K C He.veBase "ValueError.__new__" && (PySem.W.clsIn K C).any fun cd => refsVE cd.mro && cd.hasDict
def ecB (K : PySem.W.Frag) (x : Str) : Bool :=
  decide (PySem.W.nsIn K mainGlobals x = some (some (.ref (He.ga K x)))) && (PySem.W.keepIn K (.ref (He.ga K x)) && ((PySem.W.clsIn K (He.ga K x)).isSome &&
  (decide (PySem.W.findIn K (.ref (He.ga K x)) "__getattribute__" = some (some (.builtin "BaseException.__getattribute__"))) &&
  (decide (PySem.W.findIn K (.ref (He.ga K x)) "__getattr__" = some none) && (decide (PySem.W.subIn K (.ref (He.ga K x)) (.type "BaseException") = some true) &&
  (decide (PySem.W.findIn K (.ref (He.ga K x)) "__class__" = some (some (.builtin "object.__class__"))) && decide (PySem.W.mroIn K (He.ga K x) (.type "object") = some true)))))))
def clsB : PySem.W.Frag → Bool := fun K => decide (PySem.W.specialIn K (.builtin "object.__class__") "__get__" = some (some (.builtin "getset_descriptor.__get__"))) && decide (PySem.W.takesIn K (.builtin "object.__class__") = some true)
structure EC (K : PySem.W.Frag) (mg : Str → Option Value) (x : Str) (C : Addr) : Prop where
  gC : mg x = some (.ref C)
  kC : PySem.W.keepIn K (.ref C) = true
  cl : (PySem.W.clsIn K C).isSome = true
  ga : PySem.W.findIn K (.ref C) "__getattribute__" = some (some (.builtin "BaseException.__getattribute__"))
  gg : PySem.W.findIn K (.ref C) "__getattr__" = some none
  exC : PySem.W.subIn K (.ref C) (.type "BaseException") = some true
  cC : PySem.W.findIn K (.ref C) "__class__" = some (some (.builtin "object.__class__"))
  ob : PySem.W.mroIn K C (.type "object") = some true
  sp : PySem.W.specialIn K (.builtin "object.__class__") "__get__" = some (some (.builtin "getset_descriptor.__get__"))
  tk : PySem.W.takesIn K (.builtin "object.__class__") = some true
theorem ec_of {K : PySem.W.Frag} {h : Heap} {mg : Str → Option Value} (X : K.In h) (G : h.Ns mainGlobals mg) (b : clsB K = true) {x : Str} (c : ecB K x = true) : EC K mg x (He.ga K x) := by
  obtain ⟨b1, b2⟩ := He.ba b
  obtain ⟨c1, c⟩ := He.ba c
  obtain ⟨c2, c⟩ := He.ba c
  obtain ⟨c3, c⟩ := He.ba c
  obtain ⟨c4, c⟩ := He.ba c
  obtain ⟨c5, c⟩ := He.ba c
  obtain ⟨c6, c⟩ := He.ba c
  obtain ⟨c7, c8⟩ := He.ba c
  exact ⟨PySem.W.mg_of X G (of_decide_eq_true c1), c2, c3, of_decide_eq_true c4, of_decide_eq_true c5, of_decide_eq_true c6, of_decide_eq_true c7, of_decide_eq_true c8, of_decide_eq_true b1, of_decide_eq_true b2⟩
/-! ### isinstance -/
def isPair (K : PySem.W.Frag) (x y : Str) (b : Bool) : Bool := decide (PySem.W.kitOne K (.ref (He.ga K x)) (.ref (He.ga K y)) = some b)
def isTy (K : PySem.W.Frag) (x : Str) (t : String) (b : Bool) : Bool := decide (PySem.W.kitOne K (.ref (He.ga K x)) (.type t) = some b)
section
variable {X : Cx} {C : Addr} {x : Str}
/-- isinstance(e, c) where e is an error that stands at a -/
def rIsX (K : PySem.W.Frag) : List V → Hp → VK → Prop := fun xs H Q => ∃ (a C : Addr) (od : Option Addr) (mg : Str → Option Value) (x : Str) (c : V) (u : Value) (b : Bool), xs = [.ref a, c] ∧ ClsV c u ∧ EC K mg x C ∧ H a = some (exo a C od) ∧
  (∀ d, od = some d → ∃ fs, H d = some (exd d fs)) ∧ PySem.W.kitOne K (.ref C) u = some b ∧ Q (.bl b) H
theorem call_isX : CallR X (.builtin "isinstance") (rIsX X.K) := by
  intro pins s σ H xs us Q I r h
  obtain ⟨a, C, od, mg, x, c, u, b, rfl, hc, T, ha, hd, hb, q⟩ := h
  obtain ⟨u1, u2, rfl, r1, r2⟩ := vals2 r
  obtain rfl : u1 = Value.ref a := r1
  have e2 := hc.eq r2
  subst e2
  obtain ⟨t1, hget⟩ := exo_at I.hok ha
  cases od with
  | none =>
    have J : PySem.W.InstAt s.heap a { cls := .ref C, dict := none, data := .fields #[.ref t1, .none, .none, .none, .bool false, .none] } C none := ⟨hget, rfl, rfl, trivial⟩
    exact PySem.W.kia_one (PySem.W.kitx_exc T.cl T.ga T.gg T.exC T.cC T.sp T.tk T.ob) I.kIn J hb (fun z => nomatch z) fun tk => ⟨.bl b, H, I.tok tk, rfl, q⟩
  | some d =>
    obtain ⟨fs, hd'⟩ := hd d rfl
    obtain ⟨mA, ⟨oD, es, ep, hoD, _⟩, _⟩ := exd_at I.hok hd'
    have J : PySem.W.InstAt s.heap a { cls := .ref C, dict := some d, data := .fields #[.ref t1, .none, .none, .none, .bool false, .none] } C (some oD) := ⟨hget, rfl, rfl, hoD⟩
    exact PySem.W.kia_one (PySem.W.kitx_exc T.cl T.ga T.gg T.exC T.cC T.sp T.tk T.ob) I.kIn J hb (fun z => nomatch z) fun tk => ⟨.bl b, H, I.tok tk, rfl, q⟩
end
/-! ### e.f of an error that stands at a -/
section
variable {X : Cx} {o : Expr} {to : TE} {p : Pos} {f : Str}
def tExF (K : PySem.W.Frag) (f : Str) (to : TE) : TE := fun σ H Q => to σ H fun y H1 => ∃ (a C d : Addr) (mg : Str → Option Value) (x : Str) (v : V), y = .ref a ∧ EC K mg x C ∧ PySem.W.hasDictIn K C = true ∧ PySem.W.findIn K (.ref C) f = some none ∧
  H1 a = some (exo a C (some d)) ∧ H1 d = some (exd d [(f, v)]) ∧ Q v H1
theorem pe_exF (he : PE X o to) (hb : attributeBase o f X.env (eval o X.env) = eval o X.env := by rfl) : PE X (.Attribute o f p) (tExF X.K f to) := by
  refine ⟨fun pins s σ H Q I h => ?_⟩
  refine attr_of hb (thn (he.run pins s σ H _ I h) fun u s1 hh => ?_)
  obtain ⟨y, H1, I1, r1, a, C, d, mg, x, v, rfl, T, hdct, hf, ha, hd, q⟩ := hh
  obtain rfl : u = Value.ref a := r1
  obtain ⟨t1, hget⟩ := exo_at I1.hok ha
  obtain ⟨mA, hns, hr⟩ := exd_at I1.hok hd
  obtain ⟨od, ho, hl⟩ := lookIn_ns hns
  have l : List.lookup f [(f, v)] = some v := by simp [List.lookup]
  obtain ⟨u, hu, ru⟩ := RelO.some_of (v := v) (o := mA f) (by rw [← l]; exact hr f)
  have J : PySem.W.InstAt s1.heap a { cls := .ref C, dict := some d, data := .fields #[.ref t1, .none, .none, .none, .bool false, .none] } C (some od) := ⟨hget, rfl, rfl, ho⟩
  exact HandSPX.exc_get I1.kIn J T.ga T.gg T.exC (PySem.W.findObj_own hdct hf rfl (by rw [hl, hu])) (handed_of ru) ⟨v, H1, I1.tok _, ru, q⟩
end
end OwnE


namespace PySem
namespace OwnEgiven
open PySem.W PySem.Calls PyProof.Rows PySem.HandSPX
def aInit (p1 p2 : Pos) : Arguments := { posonlyargs := [], args := [{ arg := "self", annotation := none, pos := p1 }, { arg := "given", annotation := none, pos := p2 }], vararg := none, kwonlyargs := [], kw_defaults := [], kwarg := none, defaults := [] }
def bInit (q1 q2 q3 q4 : Pos) : List Stmt := [.Assign [.Attribute (.Name "self" q1) "given" q2] (.Name "given" q3) q4]
def sInit : Scope := { kind := .function, names := [(PySem.Str.ofString "self", .local), (PySem.Str.ofString "given", .local)], isGenerator := false, isCoroutine := false, more := [] }
structure EI (K : Frag) (mg : Str → Option Value) (x qn : Str) (C fI : Addr) : Prop extends OwnE.EC K mg x C where
  mkr : excInitIn K C He.veBase "ValueError.__new__" = true
  cd : (clsIn K C).any (fun cd => refsVE cd.mro && cd.hasDict) = true
  dct : hasDictIn K C = true
  sa : findIn K (.ref C) "__setattr__" = some (some (.builtin "object.__setattr__"))
  no : findIn K (.ref C) "given" = some none
  iC : findIn K (.ref C) "__init__" = some (some (.ref fI))
  tC : typeIn K (.ref fI) = some (.type "function")
  fn : ∃ (oc : Value) (od : Option Addr) (doc pm : Value) (an : Option Addr) (cdv ct : Value) (osl : Array (Option Value)) (p1 p2 q1 q2 q3 q4 : Pos),
    K.lookup fI = some ⟨oc, od, .func (fnOf "__init__" qn (aInit p1 p2) (bInit q1 q2 q3 q4) sInit .none .none doc pm an cdv ct), osl⟩ ∧ codeIn K cdv qn = true
theorem ldL {M : Model} {s : Shared} {name : Str} {scope : Scope} {L a : Addr} {cd : Value} {m : Str → Option Value} {x : Str} {pos : Pos} {v : Value} {Q : Value → Shared → Prop} {A : Around} {E : Value → Shared → Prop}
    (hn : s.heap.Ns L m) (hv : m x = some v) (h : Q v s) (hk : scope.kind = .function := by rfl) (hl : (envOfC name scope L a cd).kindOf x = some .local := by rfl) (hd : (x == ("__debug__" : Str)) = false := by decide) :
    wpAny M A (eval (.Name x pos) (envOfC name scope L a cd)) Q E s :=
  wpAny_Name (wpAny_loadName_local hk hl hn hv h) hd
section
variable {prog : Program} {w : World} {A : Around} {E : Value → Shared → Prop} {R : Result → Shared → Prop} {s : Shared} {K : Frag} {mg : Str → Option Value} {cn qn : Str} {C fI : Addr}
/-- what __init__ leaves -/
structure IEnd (h h' : Heap) (x C dx t1 : Addr) (v : Value) : Prop where
  keep : ∀ b o, b ≠ x → h.get? b = some o → h'.get? b = some o
  obj : h'.get? x = some { cls := .ref C, dict := some dx, data := .fields #[.ref t1, .none, .none, .none, .bool false, .none] }
  dbig : h.objs.size ≤ dx
  dne : dx ≠ x
  ns : h'.Ns1 dx (fun y => if y = "given" then some v else none)
theorem init_ok (T : EI K mg cn qn C fI) {x t0 : Addr} {v : Value} {args : Args} (X : K.In s.heap) (hlim : s.heap.NoLimit) (hx : s.heap.get? x = some (excO C t0)) (hroom : A.depth < recursionLimit)
    (hb : args = ⟨[.ref x, v], []⟩ ∨ args = ⟨[.ref x], [(("given" : Str), v)]⟩)
    (hq : ∀ h' tk dx, IEnd s.heap h' x C dx t0 v → R (.ok (.ret .none)) { s with heap := h', toks := tk }) :
    codeAny (model prog w) A (.call (.ref fI) args) R s := by
  obtain ⟨oc, od, doc, pm, an, cdv, ct, osl, p1, p2, q1, q2, q3, q4, ho, hcd⟩ := T.fn
  obtain ⟨cdx, hcl, hany⟩ := any_some T.cd
  obtain ⟨hm1, hm2⟩ := He.ba hany
  have hB : BindsTo s (fnOf "__init__" qn (aInit p1 p2) (bInit q1 q2 q3 q4) sInit .none .none doc pm an cdv ct) args [("self", .ref x), ("given", v)] := by
    rcases hb with e | e
    · subst e
      exact BindsTo.of_eq (by first | rfl | with_unfolding_all rfl)
    · subst e
      exact BindsTo.of_eq (by first | rfl | with_unfolding_all rfl)
  refine Att.call_fn (binds := [("self", .ref x), ("given", v)]) X hlim ho hcd hroom hB (by first | rfl | decide | with_unfolding_all rfl) (fun s₁ IC => ?_) rfl rfl rfl
  obtain ⟨h₁, tk₁, rfl⟩ := IC.toInCall.same
  have kp : ∀ b o, s.heap.get? b = some o → h₁.get? b = some o := IC.toInCall.keep
  have hn := IC.toInCall.ns
  have hx₁ := kp _ _ hx
  have X₁ : K.In h₁ := X.keeps kp
  show wpAny _ _ (execs _ _) _ _ _
  refine wpAny_execs_cons (plainObj_wpAny_Assign_Attribute ?_)
  refine ldL (v := v) hn (by first | rfl | with_unfolding_all rfl | kernel_rfl) (ldL (v := .ref x) hn (by first | rfl | with_unfolding_all rfl | kernel_rfl) ?_)
  refine set_plain X₁ (ox := excO C t0) (od := none) ⟨hx₁, rfl, rfl, trivial⟩ T.sa ?_
  refine exc_osa X₁ hx₁ hcl hm1 hm2 T.no (fun h₃ tk₃ dx k₃ dn dne hx₃ hn₃ => ?_)
  show wpAny _ _ (execs _ _) _ _ _
  have lt : s.heap.objs.size < h₁.objs.size := hn.lt
  exact wpAny_execs_nil (hq h₃ tk₃ dx ⟨fun b o hb e => k₃ b o hb (kp b o e), hx₃, Nat.le_of_lt (Nat.lt_of_lt_of_le lt dn), dne, hn₃⟩)
/-- a made error -/
structure EMade (h h' : Heap) (e C d : Addr) (v : Value) : Prop where
  keep : ∀ b o, h.get? b = some o → h'.get? b = some o
  ebig : h.objs.size ≤ e
  obj : ∃ t1 : Addr, h'.get? e = some { cls := .ref C, dict := some d, data := .fields #[.ref t1, .none, .none, .none, .bool false, .none] }
  dbig : h.objs.size ≤ d
  dne : d ≠ e
  ns : h'.Ns1 d (fun y => if y = "given" then some v else none)
theorem made_ok (T : EI K mg cn qn C fI) {v : Value} {rest : List Value} {kw : List (Str × Value)} (X : K.In s.heap) (hlim : s.heap.NoLimit) (hroom : A.depth + 1 < recursionLimit)
    (hb : (rest = [v] ∧ kw = []) ∨ (rest = [] ∧ kw = [(("given" : Str), v)]))
    (hq : ∀ h' tk e d, EMade s.heap h' e C d v → R (.ok (.ret (.ref e))) { s with heap := h', toks := tk }) :
    codeAny (model prog w) A (.call (.ref C) ⟨rest, kw⟩) R s := by
  obtain ⟨nm, N, q, bs, bm, hdct, sn, sub, ab, col, dd, k0, k1, k2, k3, k5, hC, hbm⟩ := excInit_of X T.mkr
  obtain ⟨hp, g, dr, tk, os⟩ := s
  have hz : rest.length ≤ sizeLine := by
    rcases hb with ⟨rfl, _⟩ | ⟨rfl, _⟩
    · show 1 ≤ sizeLine
      decide
    · exact Nat.zero_le _
  have kp : ∀ b o, hp.get? b = some o → ((hp.push (kdv_tup rest)).push (excO C hp.objs.size)).get? b = some o := fun b o e => Heap.get?_push_of_some _ (Heap.get?_push_of_some _ e)
  have hget : ((hp.push (kdv_tup rest)).push (excO C hp.objs.size)).get? (hp.objs.size + 1) = some (excO C hp.objs.size) := by heap_get
  refine KwE.kw_call F.excBase_ValueError hbm hC hz (looks_findIn X T.iC) (fun self => bind_fn X self T.tC) ?_
  refine init_ok (s := ⟨(hp.push (kdv_tup rest)).push (excO C hp.objs.size), g, dr, tk, os⟩) (v := v) T (X.keeps kp) (hlim.keeps kp) hget ?_ ?_ fun h' tk' dx ⟨k', hx, dn, dne, hns⟩ => ?_
  · have e : (A.under (.builtin "type.__call__" ⟨.ref C :: rest, kw⟩)).depth = A.depth + 1 := L2.make_depth
    rw [e]
    exact hroom
  · rcases hb with ⟨rfl, rfl⟩ | ⟨rfl, rfl⟩
    · exact .inl rfl
    · exact .inr rfl
  · have old : ∀ b o, hp.get? b = some o → h'.get? b = some o := fun b o e => k' b o (Nat.ne_of_lt (Nat.lt_succ_of_lt (Heap.lt_size e))) (kp b o e)
    have z : hp.objs.size + 1 + 1 ≤ dx := by
      first
        | (simpa only [Heap.size_push] using dn)
        | exact dn
        | (have q := dn; rw [Heap.size_push, Heap.size_push] at q; exact q)
    exact ⟨rfl, hq h' tk' (hp.objs.size + 1) dx ⟨old, Nat.le_succ _, ⟨_, hx⟩, Nat.le_trans (Nat.le_trans (Nat.le_succ _) (Nat.le_succ _)) z, dne, hns⟩⟩
end
end OwnEgiven
end PySem
namespace OwnE
open PySem PySem.Spec PyProof.Rows L2
section
variable {X : Cx} {pins : List (Addr × Obj)} {σ : L2.St} {x qn : Str} {C fI : Addr} {e : Expr} {te : TE} {ta : TA} {p kp pos : Pos} {k : Nat}
/-- a new error stands at a, its dict at d -/
def tMkgiven (C : Addr) (ta : TA) : TE := fun σ H Q => ta σ H fun vs H1 => ∃ v, vs = [v] ∧ ∀ a d, H1 a = none → H1 d = none → d ≠ a → Q (.ref a) (upd (upd H1 d (exd d [("given", v)])) a (exo a C (some d)))
theorem relO_given {v : V} {u : Value} (r : RelV v u) (f : Str) : RelO (List.lookup f [(("given" : Str), v)]) (if f = "given" then some u else none) :=
  relO_put (fs := []) (mA := fun _ => none) r (fun _ => True.intro) f
theorem endgiven {Q : VK} {H1 : Hp} {v : V} {u : Value} {hp h' : Heap} {g : Array GenState} {dr : Drawn} {tk tk' : Nat} {os : OsState} {a d : Addr} (I1 : L2.Inv X pins σ H1 ⟨hp, g, dr, tk, os⟩) (r : RelV v u) (M : OwnEgiven.EMade hp h' a C d u)
    (q : ∀ a d, H1 a = none → H1 d = none → d ≠ a → Q (.ref a) (upd (upd H1 d (exd d [("given", v)])) a (exo a C (some d)))) : EP X pins σ Q (.ref a) ⟨h', g, dr, tk', os⟩ := by
  obtain ⟨t1, ho⟩ := M.obj
  have na : H1 a = none := I1.hok.fresh M.ebig
  have nd : H1 d = none := I1.hok.fresh M.dbig
  have K1 : L2.Inv X pins σ (upd H1 d (exd d [("given", v)])) ⟨h', g, dr, tk', os⟩ := I1.laid M.keep M.dbig (exd_ok M.ns fun f => relO_given r f)
  have na2 : upd H1 d (exd d [("given", v)]) a = none := by
    rw [upd_ne (Ne.symm M.dne)]
    exact na
  have U : Un X.fs [] H1 (upd (upd H1 d (exd d [("given", v)])) a (exo a C (some d))) hp h' := {
    keep := fun b o z _ _ _ => M.keep b o z
    slot := fun b o z _ _ _ => ⟨o.slots, M.keep b o z⟩
    free := fun b o z n _ => by
      have l := Heap.lt_size z
      rw [upd_ne (Nat.ne_of_lt (Nat.lt_of_lt_of_le l M.ebig)), upd_ne (Nat.ne_of_lt (Nat.lt_of_lt_of_le l M.dbig))]
      exact n
    there := fun b o z _ => ⟨o, M.keep b o z⟩
    tups := fun b xs z => by rw [upd_ne (ne_of_none z na), upd_ne (ne_of_none z nd)]; exact z
    frzs := fun b o w z => by rw [upd_ne (ne_of_none z na), upd_ne (ne_of_none z nd)]; exact z
    tbls := fun b ps z => ⟨#[], by rw [upd_ne (ne_of_none z na), upd_ne (ne_of_none z nd), z]; simp⟩ }
  have J : L2.Inv X pins σ (upd (upd H1 d (exd d [("given", v)])) a (exo a C (some d))) ⟨h', g, dr, tk', os⟩ := I1.un U fun b o z => by
    by_cases hb : b = a
    · subst hb
      rw [upd_same] at z
      cases z
      exact exo_ok ho
    · rw [upd_ne hb] at z
      exact (K1.hok b o z).stay (fun _ _ _ z => z) (fun c hc => by rw [upd_ne (ne_of_none hc na2)]; exact hc) fun c xs hc => by rw [upd_ne (ne_of_none hc na2)]; exact hc
  exact ⟨.ref a, _, J, rfl, q a d na nd M.dne⟩
theorem pe_mkgiven (T : OwnEgiven.EI X.K X.mg x qn C fI) (hr : Room k X.A) (ha : PA X [e] ta) (hg : Gl X x := by rfl) (hdb : (x == ("__debug__" : Str)) = false := by decide)
    (hs : starEach (e :: []) X.env = (false, eval e X.env) :: starEach [] X.env := by rfl) (hpl : (backTo pos (starEach [] X.env)).any (·.1) = false := by rfl) :
    PE X (.Call (.Name x p) [e] [] pos) (tMkgiven C ta) := by
  refine ⟨fun pins s σ H Q I h => ?_⟩
  refine wpAny_Call_Name_kw (ld_glob I hg T.gC ?_ hdb)
  refine PySem.W.callWith_K (h₀ := X.base) I.ok.mod.kin T.kC (thn (ha.run pos pins s σ H _ I h) fun us s1 hh => ?_) hs hpl
  obtain ⟨vs, H1, I1, r1, q1⟩ := hh
  refine ⟨I1.kIn, ?_⟩
  obtain ⟨v, ev, q2⟩ := q1
  subst ev
  obtain ⟨u, rfl, ru⟩ := vals1 r1
  show wpAny _ _ (call (.ref C) [u]) _ _ _
  have hlim := I1.nolimit
  obtain ⟨hp, g, dr, tk, os⟩ := s1
  refine wpAny_call (PySem.OwnEgiven.made_ok T I1.kIn hlim (by have := hr.dp; omega) (.inl ⟨rfl, rfl⟩) fun h' tk' e d M => ?_)
  exact endgiven I1 ru M q2
theorem pe_kwgiven (T : OwnEgiven.EI X.K X.mg x qn C fI) (hr : Room k X.A) (ha : PK X [⟨some "given", e, kp⟩] ta) (hg : Gl X x := by rfl) (hdb : (x == ("__debug__" : Str)) = false := by decide)
    (hall : (backToKw pos (keywordEach [⟨some "given", e, kp⟩] X.env)).all (·.1.isSome) = true := by rfl) (hks : (backToKw pos (keywordEach [⟨some "given", e, kp⟩] X.env)).filterMap (·.1) = [("given" : Str)] := by rfl)
    (hpl : ((backTo pos (starEach [] X.env)).any (·.1) || (backToKw pos (keywordEach [⟨some "given", e, kp⟩] X.env)).any (·.1.isNone)) = false := by rfl) :
    PE X (.Call (.Name x p) [] [⟨some "given", e, kp⟩] pos) (tMkgiven C ta) := by
  refine ⟨fun pins s σ H Q I h => ?_⟩
  refine wpAny_Call_Name_kw (ld_glob I hg T.gC ?_ hdb)
  refine PySem.W.callWith_KW0 (h₀ := X.base) I.ok.mod.kin T.kC hall ?_ hpl
  refine thn (ha.run pos pins s σ H _ I h) fun us s1 hh => ?_
  obtain ⟨vs, H1, I1, r1, q1⟩ := hh
  refine ⟨I1.kIn, ?_⟩
  rw [hks]
  obtain ⟨v, ev, q2⟩ := q1
  subst ev
  obtain ⟨u, rfl, ru⟩ := vals1 r1
  show wpAny _ _ (call (.ref C) [] [(("given" : Str), u)]) _ _ _
  have hlim := I1.nolimit
  obtain ⟨hp, g, dr, tk, os⟩ := s1
  refine wpAny_call (PySem.OwnEgiven.made_ok T I1.kIn hlim (by have := hr.dp; omega) (.inr ⟨rfl, rfl⟩) fun h' tk' e d M => ?_)
  exact endgiven I1 ru M q2
end
end OwnE

namespace PySem
namespace OwnEindex
open PySem.W PySem.Calls PyProof.Rows PySem.HandSPX
def aInit (p1 p2 : Pos) : Arguments := { posonlyargs := [], args := [{ arg := "self", annotation := none, pos := p1 }, { arg := "index", annotation := none, pos := p2 }], vararg := none, kwonlyargs := [], kw_defaults := [], kwarg := none, defaults := [] }
def bInit (q1 q2 q3 q4 : Pos) : List Stmt := [.Assign [.Attribute (.Name "self" q1) "index" q2] (.Name "index" q3) q4]
def sInit : Scope := { kind := .function, names := [(PySem.Str.ofString "self", .local), (PySem.Str.ofString "index", .local)], isGenerator := false, isCoroutine := false, more := [] }
structure EI (K : Frag) (mg : Str → Option Value) (x qn : Str) (C fI : Addr) : Prop extends OwnE.EC K mg x C where
  mkr : excInitIn K C He.veBase "ValueError.__new__" = true
  cd : (clsIn K C).any (fun cd => refsVE cd.mro && cd.hasDict) = true
  dct : hasDictIn K C = true
  sa : findIn K (.ref C) "__setattr__" = some (some (.builtin "object.__setattr__"))
  no : findIn K (.ref C) "index" = some none
  iC : findIn K (.ref C) "__init__" = some (some (.ref fI))
  tC : typeIn K (.ref fI) = some (.type "function")
  fn : ∃ (oc : Value) (od : Option Addr) (doc pm : Value) (an : Option Addr) (cdv ct : Value) (osl : Array (Option Value)) (p1 p2 q1 q2 q3 q4 : Pos),
    K.lookup fI = some ⟨oc, od, .func (fnOf "__init__" qn (aInit p1 p2) (bInit q1 q2 q3 q4) sInit .none .none doc pm an cdv ct), osl⟩ ∧ codeIn K cdv qn = true
theorem ldL {M : Model} {s : Shared} {name : Str} {scope : Scope} {L a : Addr} {cd : Value} {m : Str → Option Value} {x : Str} {pos : Pos} {v : Value} {Q : Value → Shared → Prop} {A : Around} {E : Value → Shared → Prop}
    (hn : s.heap.Ns L m) (hv : m x = some v) (h : Q v s) (hk : scope.kind = .function := by rfl) (hl : (envOfC name scope L a cd).kindOf x = some .local := by rfl) (hd : (x == ("__debug__" : Str)) = false := by decide) :
    wpAny M A (eval (.Name x pos) (envOfC name scope L a cd)) Q E s :=
  wpAny_Name (wpAny_loadName_local hk hl hn hv h) hd
section
variable {prog : Program} {w : World} {A : Around} {E : Value → Shared → Prop} {R : Result → Shared → Prop} {s : Shared} {K : Frag} {mg : Str → Option Value} {cn qn : Str} {C fI : Addr}
/-- what __init__ leaves -/
structure IEnd (h h' : Heap) (x C dx t1 : Addr) (v : Value) : Prop where
  keep : ∀ b o, b ≠ x → h.get? b = some o → h'.get? b = some o
  obj : h'.get? x = some { cls := .ref C, dict := some dx, data := .fields #[.ref t1, .none, .none, .none, .bool false, .none] }
  dbig : h.objs.size ≤ dx
  dne : dx ≠ x
  ns : h'.Ns1 dx (fun y => if y = "index" then some v else none)
theorem init_ok (T : EI K mg cn qn C fI) {x t0 : Addr} {v : Value} {args : Args} (X : K.In s.heap) (hlim : s.heap.NoLimit) (hx : s.heap.get? x = some (excO C t0)) (hroom : A.depth < recursionLimit)
    (hb : args = ⟨[.ref x, v], []⟩ ∨ args = ⟨[.ref x], [(("index" : Str), v)]⟩)
    (hq : ∀ h' tk dx, IEnd s.heap h' x C dx t0 v → R (.ok (.ret .none)) { s with heap := h', toks := tk }) :
    codeAny (model prog w) A (.call (.ref fI) args) R s := by
  obtain ⟨oc, od, doc, pm, an, cdv, ct, osl, p1, p2, q1, q2, q3, q4, ho, hcd⟩ := T.fn
  obtain ⟨cdx, hcl, hany⟩ := any_some T.cd
  obtain ⟨hm1, hm2⟩ := He.ba hany
  have hB : BindsTo s (fnOf "__init__" qn (aInit p1 p2) (bInit q1 q2 q3 q4) sInit .none .none doc pm an cdv ct) args [("self", .ref x), ("index", v)] := by
    rcases hb with e | e
    · subst e
      exact BindsTo.of_eq (by first | rfl | with_unfolding_all rfl)
    · subst e
      exact BindsTo.of_eq (by first | rfl | with_unfolding_all rfl)
  refine Att.call_fn (binds := [("self", .ref x), ("index", v)]) X hlim ho hcd hroom hB (by first | rfl | decide | with_unfolding_all rfl) (fun s₁ IC => ?_) rfl rfl rfl
  obtain ⟨h₁, tk₁, rfl⟩ := IC.toInCall.same
  have kp : ∀ b o, s.heap.get? b = some o → h₁.get? b = some o := IC.toInCall.keep
  have hn := IC.toInCall.ns
  have hx₁ := kp _ _ hx
  have X₁ : K.In h₁ := X.keeps kp
  show wpAny _ _ (execs _ _) _ _ _
  refine wpAny_execs_cons (plainObj_wpAny_Assign_Attribute ?_)
  refine ldL (v := v) hn (by first | rfl | with_unfolding_all rfl | kernel_rfl) (ldL (v := .ref x) hn (by first | rfl | with_unfolding_all rfl | kernel_rfl) ?_)
  refine set_plain X₁ (ox := excO C t0) (od := none) ⟨hx₁, rfl, rfl, trivial⟩ T.sa ?_
  refine exc_osa X₁ hx₁ hcl hm1 hm2 T.no (fun h₃ tk₃ dx k₃ dn dne hx₃ hn₃ => ?_)
  show wpAny _ _ (execs _ _) _ _ _
  have lt : s.heap.objs.size < h₁.objs.size := hn.lt
  exact wpAny_execs_nil (hq h₃ tk₃ dx ⟨fun b o hb e => k₃ b o hb (kp b o e), hx₃, Nat.le_of_lt (Nat.lt_of_lt_of_le lt dn), dne, hn₃⟩)
/-- a made error -/
structure EMade (h h' : Heap) (e C d : Addr) (v : Value) : Prop where
  keep : ∀ b o, h.get? b = some o → h'.get? b = some o
  ebig : h.objs.size ≤ e
  obj : ∃ t1 : Addr, h'.get? e = some { cls := .ref C, dict := some d, data := .fields #[.ref t1, .none, .none, .none, .bool false, .none] }
  dbig : h.objs.size ≤ d
  dne : d ≠ e
  ns : h'.Ns1 d (fun y => if y = "index" then some v else none)
theorem made_ok (T : EI K mg cn qn C fI) {v : Value} {rest : List Value} {kw : List (Str × Value)} (X : K.In s.heap) (hlim : s.heap.NoLimit) (hroom : A.depth + 1 < recursionLimit)
    (hb : (rest = [v] ∧ kw = []) ∨ (rest = [] ∧ kw = [(("index" : Str), v)]))
    (hq : ∀ h' tk e d, EMade s.heap h' e C d v → R (.ok (.ret (.ref e))) { s with heap := h', toks := tk }) :
    codeAny (model prog w) A (.call (.ref C) ⟨rest, kw⟩) R s := by
  obtain ⟨nm, N, q, bs, bm, hdct, sn, sub, ab, col, dd, k0, k1, k2, k3, k5, hC, hbm⟩ := excInit_of X T.mkr
  obtain ⟨hp, g, dr, tk, os⟩ := s
  have hz : rest.length ≤ sizeLine := by
    rcases hb with ⟨rfl, _⟩ | ⟨rfl, _⟩
    · show 1 ≤ sizeLine
      decide
    · exact Nat.zero_le _
  have kp : ∀ b o, hp.get? b = some o → ((hp.push (kdv_tup rest)).push (excO C hp.objs.size)).get? b = some o := fun b o e => Heap.get?_push_of_some _ (Heap.get?_push_of_some _ e)
  have hget : ((hp.push (kdv_tup rest)).push (excO C hp.objs.size)).get? (hp.objs.size + 1) = some (excO C hp.objs.size) := by heap_get
  refine KwE.kw_call F.excBase_ValueError hbm hC hz (looks_findIn X T.iC) (fun self => bind_fn X self T.tC) ?_
  refine init_ok (s := ⟨(hp.push (kdv_tup rest)).push (excO C hp.objs.size), g, dr, tk, os⟩) (v := v) T (X.keeps kp) (hlim.keeps kp) hget ?_ ?_ fun h' tk' dx ⟨k', hx, dn, dne, hns⟩ => ?_
  · have e : (A.under (.builtin "type.__call__" ⟨.ref C :: rest, kw⟩)).depth = A.depth + 1 := L2.make_depth
    rw [e]
    exact hroom
  · rcases hb with ⟨rfl, rfl⟩ | ⟨rfl, rfl⟩
    · exact .inl rfl
    · exact .inr rfl
  · have old : ∀ b o, hp.get? b = some o → h'.get? b = some o := fun b o e => k' b o (Nat.ne_of_lt (Nat.lt_succ_of_lt (Heap.lt_size e))) (kp b o e)
    have z : hp.objs.size + 1 + 1 ≤ dx := by
      first
        | (simpa only [Heap.size_push] using dn)
        | exact dn
        | (have q := dn; rw [Heap.size_push, Heap.size_push] at q; exact q)
    exact ⟨rfl, hq h' tk' (hp.objs.size + 1) dx ⟨old, Nat.le_succ _, ⟨_, hx⟩, Nat.le_trans (Nat.le_trans (Nat.le_succ _) (Nat.le_succ _)) z, dne, hns⟩⟩
end
end OwnEindex
end PySem
namespace OwnE
open PySem PySem.Spec PyProof.Rows L2
section
variable {X : Cx} {pins : List (Addr × Obj)} {σ : L2.St} {x qn : Str} {C fI : Addr} {e : Expr} {te : TE} {ta : TA} {p kp pos : Pos} {k : Nat}
/-- a new error stands at a, its dict at d -/
def tMkindex (C : Addr) (ta : TA) : TE := fun σ H Q => ta σ H fun vs H1 => ∃ v, vs = [v] ∧ ∀ a d, H1 a = none → H1 d = none → d ≠ a → Q (.ref a) (upd (upd H1 d (exd d [("index", v)])) a (exo a C (some d)))
theorem relO_index {v : V} {u : Value} (r : RelV v u) (f : Str) : RelO (List.lookup f [(("index" : Str), v)]) (if f = "index" then some u else none) :=
  relO_put (fs := []) (mA := fun _ => none) r (fun _ => True.intro) f
theorem endindex {Q : VK} {H1 : Hp} {v : V} {u : Value} {hp h' : Heap} {g : Array GenState} {dr : Drawn} {tk tk' : Nat} {os : OsState} {a d : Addr} (I1 : L2.Inv X pins σ H1 ⟨hp, g, dr, tk, os⟩) (r : RelV v u) (M : OwnEindex.EMade hp h' a C d u)
    (q : ∀ a d, H1 a = none → H1 d = none → d ≠ a → Q (.ref a) (upd (upd H1 d (exd d [("index", v)])) a (exo a C (some d)))) : EP X pins σ Q (.ref a) ⟨h', g, dr, tk', os⟩ := by
  obtain ⟨t1, ho⟩ := M.obj
  have na : H1 a = none := I1.hok.fresh M.ebig
  have nd : H1 d = none := I1.hok.fresh M.dbig
  have K1 : L2.Inv X pins σ (upd H1 d (exd d [("index", v)])) ⟨h', g, dr, tk', os⟩ := I1.laid M.keep M.dbig (exd_ok M.ns fun f => relO_index r f)
  have na2 : upd H1 d (exd d [("index", v)]) a = none := by
    rw [upd_ne (Ne.symm M.dne)]
    exact na
  have U : Un X.fs [] H1 (upd (upd H1 d (exd d [("index", v)])) a (exo a C (some d))) hp h' := {
    keep := fun b o z _ _ _ => M.keep b o z
    slot := fun b o z _ _ _ => ⟨o.slots, M.keep b o z⟩
    free := fun b o z n _ => by
      have l := Heap.lt_size z
      rw [upd_ne (Nat.ne_of_lt (Nat.lt_of_lt_of_le l M.ebig)), upd_ne (Nat.ne_of_lt (Nat.lt_of_lt_of_le l M.dbig))]
      exact n
    there := fun b o z _ => ⟨o, M.keep b o z⟩
    tups := fun b xs z => by rw [upd_ne (ne_of_none z na), upd_ne (ne_of_none z nd)]; exact z
    frzs := fun b o w z => by rw [upd_ne (ne_of_none z na), upd_ne (ne_of_none z nd)]; exact z
    tbls := fun b ps z => ⟨#[], by rw [upd_ne (ne_of_none z na), upd_ne (ne_of_none z nd), z]; simp⟩ }
  have J : L2.Inv X pins σ (upd (upd H1 d (exd d [("index", v)])) a (exo a C (some d))) ⟨h', g, dr, tk', os⟩ := I1.un U fun b o z => by
    by_cases hb : b = a
    · subst hb
      rw [upd_same] at z
      cases z
      exact exo_ok ho
    · rw [upd_ne hb] at z
      exact (K1.hok b o z).stay (fun _ _ _ z => z) (fun c hc => by rw [upd_ne (ne_of_none hc na2)]; exact hc) fun c xs hc => by rw [upd_ne (ne_of_none hc na2)]; exact hc
  exact ⟨.ref a, _, J, rfl, q a d na nd M.dne⟩
theorem pe_mkindex (T : OwnEindex.EI X.K X.mg x qn C fI) (hr : Room k X.A) (ha : PA X [e] ta) (hg : Gl X x := by rfl) (hdb : (x == ("__debug__" : Str)) = false := by decide)
    (hs : starEach (e :: []) X.env = (false, eval e X.env) :: starEach [] X.env := by rfl) (hpl : (backTo pos (starEach [] X.env)).any (·.1) = false := by rfl) :
    PE X (.Call (.Name x p) [e] [] pos) (tMkindex C ta) := by
  refine ⟨fun pins s σ H Q I h => ?_⟩
  refine wpAny_Call_Name_kw (ld_glob I hg T.gC ?_ hdb)
  refine PySem.W.callWith_K (h₀ := X.base) I.ok.mod.kin T.kC (thn (ha.run pos pins s σ H _ I h) fun us s1 hh => ?_) hs hpl
  obtain ⟨vs, H1, I1, r1, q1⟩ := hh
  refine ⟨I1.kIn, ?_⟩
  obtain ⟨v, ev, q2⟩ := q1
  subst ev
  obtain ⟨u, rfl, ru⟩ := vals1 r1
  show wpAny _ _ (call (.ref C) [u]) _ _ _
  have hlim := I1.nolimit
  obtain ⟨hp, g, dr, tk, os⟩ := s1
  refine wpAny_call (PySem.OwnEindex.made_ok T I1.kIn hlim (by have := hr.dp; omega) (.inl ⟨rfl, rfl⟩) fun h' tk' e d M => ?_)
  exact endindex I1 ru M q2
theorem pe_kwindex (T : OwnEindex.EI X.K X.mg x qn C fI) (hr : Room k X.A) (ha : PK X [⟨some "index", e, kp⟩] ta) (hg : Gl X x := by rfl) (hdb : (x == ("__debug__" : Str)) = false := by decide)
    (hall : (backToKw pos (keywordEach [⟨some "index", e, kp⟩] X.env)).all (·.1.isSome) = true := by rfl) (hks : (backToKw pos (keywordEach [⟨some "index", e, kp⟩] X.env)).filterMap (·.1) = [("index" : Str)] := by rfl)
    (hpl : ((backTo pos (starEach [] X.env)).any (·.1) || (backToKw pos (keywordEach [⟨some "index", e, kp⟩] X.env)).any (·.1.isNone)) = false := by rfl) :
    PE X (.Call (.Name x p) [] [⟨some "index", e, kp⟩] pos) (tMkindex C ta) := by
  refine ⟨fun pins s σ H Q I h => ?_⟩
  refine wpAny_Call_Name_kw (ld_glob I hg T.gC ?_ hdb)
  refine PySem.W.callWith_KW0 (h₀ := X.base) I.ok.mod.kin T.kC hall ?_ hpl
  refine thn (ha.run pos pins s σ H _ I h) fun us s1 hh => ?_
  obtain ⟨vs, H1, I1, r1, q1⟩ := hh
  refine ⟨I1.kIn, ?_⟩
  rw [hks]
  obtain ⟨v, ev, q2⟩ := q1
  subst ev
  obtain ⟨u, rfl, ru⟩ := vals1 r1
  show wpAny _ _ (call (.ref C) [] [(("index" : Str), u)]) _ _ _
  have hlim := I1.nolimit
  obtain ⟨hp, g, dr, tk, os⟩ := s1
  refine wpAny_call (PySem.OwnEindex.made_ok T I1.kIn hlim (by have := hr.dp; omega) (.inr ⟨rfl, rfl⟩) fun h' tk' e d M => ?_)
  exact endindex I1 ru M q2
end
end OwnE

namespace PySem
namespace OwnEplace
open PySem.W PySem.Calls PyProof.Rows PySem.HandSPX
def aInit (p1 p2 : Pos) : Arguments := { posonlyargs := [], args := [{ arg := "self", annotation := none, pos := p1 }, { arg := "place", annotation := none, pos := p2 }], vararg := none, kwonlyargs := [], kw_defaults := [], kwarg := none, defaults := [] }
def bInit (q1 q2 q3 q4 : Pos) : List Stmt := [.Assign [.Attribute (.Name "self" q1) "place" q2] (.Name "place" q3) q4]
def sInit : Scope := { kind := .function, names := [(PySem.Str.ofString "self", .local), (PySem.Str.ofString "place", .local)], isGenerator := false, isCoroutine := false, more := [] }
structure EI (K : Frag) (mg : Str → Option Value) (x qn : Str) (C fI : Addr) : Prop extends OwnE.EC K mg x C where
  mkr : excInitIn K C He.veBase "ValueError.__new__" = true
  cd : (clsIn K C).any (fun cd => refsVE cd.mro && cd.hasDict) = true
  dct : hasDictIn K C = true
  sa : findIn K (.ref C) "__setattr__" = some (some (.builtin "object.__setattr__"))
  no : findIn K (.ref C) "place" = some none
  iC : findIn K (.ref C) "__init__" = some (some (.ref fI))
  tC : typeIn K (.ref fI) = some (.type "function")
  fn : ∃ (oc : Value) (od : Option Addr) (doc pm : Value) (an : Option Addr) (cdv ct : Value) (osl : Array (Option Value)) (p1 p2 q1 q2 q3 q4 : Pos),
    K.lookup fI = some ⟨oc, od, .func (fnOf "__init__" qn (aInit p1 p2) (bInit q1 q2 q3 q4) sInit .none .none doc pm an cdv ct), osl⟩ ∧ codeIn K cdv qn = true
theorem ldL {M : Model} {s : Shared} {name : Str} {scope : Scope} {L a : Addr} {cd : Value} {m : Str → Option Value} {x : Str} {pos : Pos} {v : Value} {Q : Value → Shared → Prop} {A : Around} {E : Value → Shared → Prop}
    (hn : s.heap.Ns L m) (hv : m x = some v) (h : Q v s) (hk : scope.kind = .function := by rfl) (hl : (envOfC name scope L a cd).kindOf x = some .local := by rfl) (hd : (x == ("__debug__" : Str)) = false := by decide) :
    wpAny M A (eval (.Name x pos) (envOfC name scope L a cd)) Q E s :=
  wpAny_Name (wpAny_loadName_local hk hl hn hv h) hd
section
variable {prog : Program} {w : World} {A : Around} {E : Value → Shared → Prop} {R : Result → Shared → Prop} {s : Shared} {K : Frag} {mg : Str → Option Value} {cn qn : Str} {C fI : Addr}
/-- what __init__ leaves -/
structure IEnd (h h' : Heap) (x C dx t1 : Addr) (v : Value) : Prop where
  keep : ∀ b o, b ≠ x → h.get? b = some o → h'.get? b = some o
  obj : h'.get? x = some { cls := .ref C, dict := some dx, data := .fields #[.ref t1, .none, .none, .none, .bool false, .none] }
  dbig : h.objs.size ≤ dx
  dne : dx ≠ x
  ns : h'.Ns1 dx (fun y => if y = "place" then some v else none)
theorem init_ok (T : EI K mg cn qn C fI) {x t0 : Addr} {v : Value} {args : Args} (X : K.In s.heap) (hlim : s.heap.NoLimit) (hx : s.heap.get? x = some (excO C t0)) (hroom : A.depth < recursionLimit)
    (hb : args = ⟨[.ref x, v], []⟩ ∨ args = ⟨[.ref x], [(("place" : Str), v)]⟩)
    (hq : ∀ h' tk dx, IEnd s.heap h' x C dx t0 v → R (.ok (.ret .none)) { s with heap := h', toks := tk }) :
    codeAny (model prog w) A (.call (.ref fI) args) R s := by
  obtain ⟨oc, od, doc, pm, an, cdv, ct, osl, p1, p2, q1, q2, q3, q4, ho, hcd⟩ := T.fn
  obtain ⟨cdx, hcl, hany⟩ := any_some T.cd
  obtain ⟨hm1, hm2⟩ := He.ba hany
  have hB : BindsTo s (fnOf "__init__" qn (aInit p1 p2) (bInit q1 q2 q3 q4) sInit .none .none doc pm an cdv ct) args [("self", .ref x), ("place", v)] := by
    rcases hb with e | e
    · subst e
      exact BindsTo.of_eq (by first | rfl | with_unfolding_all rfl)
    · subst e
      exact BindsTo.of_eq (by first | rfl | with_unfolding_all rfl)
  refine Att.call_fn (binds := [("self", .ref x), ("place", v)]) X hlim ho hcd hroom hB (by first | rfl | decide | with_unfolding_all rfl) (fun s₁ IC => ?_) rfl rfl rfl
  obtain ⟨h₁, tk₁, rfl⟩ := IC.toInCall.same
  have kp : ∀ b o, s.heap.get? b = some o → h₁.get? b = some o := IC.toInCall.keep
  have hn := IC.toInCall.ns
  have hx₁ := kp _ _ hx
  have X₁ : K.In h₁ := X.keeps kp
  show wpAny _ _ (execs _ _) _ _ _
  refine wpAny_execs_cons (plainObj_wpAny_Assign_Attribute ?_)
  refine ldL (v := v) hn (by first | rfl | with_unfolding_all rfl | kernel_rfl) (ldL (v := .ref x) hn (by first | rfl | with_unfolding_all rfl | kernel_rfl) ?_)
  refine set_plain X₁ (ox := excO C t0) (od := none) ⟨hx₁, rfl, rfl, trivial⟩ T.sa ?_
  refine exc_osa X₁ hx₁ hcl hm1 hm2 T.no (fun h₃ tk₃ dx k₃ dn dne hx₃ hn₃ => ?_)
  show wpAny _ _ (execs _ _) _ _ _
  have lt : s.heap.objs.size < h₁.objs.size := hn.lt
  exact wpAny_execs_nil (hq h₃ tk₃ dx ⟨fun b o hb e => k₃ b o hb (kp b o e), hx₃, Nat.le_of_lt (Nat.lt_of_lt_of_le lt dn), dne, hn₃⟩)
/-- a made error -/
structure EMade (h h' : Heap) (e C d : Addr) (v : Value) : Prop where
  keep : ∀ b o, h.get? b = some o → h'.get? b = some o
  ebig : h.objs.size ≤ e
  obj : ∃ t1 : Addr, h'.get? e = some { cls := .ref C, dict := some d, data := .fields #[.ref t1, .none, .none, .none, .bool false, .none] }
  dbig : h.objs.size ≤ d
  dne : d ≠ e
  ns : h'.Ns1 d (fun y => if y = "place" then some v else none)
theorem made_ok (T : EI K mg cn qn C fI) {v : Value} {rest : List Value} {kw : List (Str × Value)} (X : K.In s.heap) (hlim : s.heap.NoLimit) (hroom : A.depth + 1 < recursionLimit)
    (hb : (rest = [v] ∧ kw = []) ∨ (rest = [] ∧ kw = [(("place" : Str), v)]))
    (hq : ∀ h' tk e d, EMade s.heap h' e C d v → R (.ok (.ret (.ref e))) { s with heap := h', toks := tk }) :
    codeAny (model prog w) A (.call (.ref C) ⟨rest, kw⟩) R s := by
  obtain ⟨nm, N, q, bs, bm, hdct, sn, sub, ab, col, dd, k0, k1, k2, k3, k5, hC, hbm⟩ := excInit_of X T.mkr
  obtain ⟨hp, g, dr, tk, os⟩ := s
  have hz : rest.length ≤ sizeLine := by
    rcases hb with ⟨rfl, _⟩ | ⟨rfl, _⟩
    · show 1 ≤ sizeLine
      decide
    · exact Nat.zero_le _
  have kp : ∀ b o, hp.get? b = some o → ((hp.push (kdv_tup rest)).push (excO C hp.objs.size)).get? b = some o := fun b o e => Heap.get?_push_of_some _ (Heap.get?_push_of_some _ e)
  have hget : ((hp.push (kdv_tup rest)).push (excO C hp.objs.size)).get? (hp.objs.size + 1) = some (excO C hp.objs.size) := by heap_get
  refine KwE.kw_call F.excBase_ValueError hbm hC hz (looks_findIn X T.iC) (fun self => bind_fn X self T.tC) ?_
  refine init_ok (s := ⟨(hp.push (kdv_tup rest)).push (excO C hp.objs.size), g, dr, tk, os⟩) (v := v) T (X.keeps kp) (hlim.keeps kp) hget ?_ ?_ fun h' tk' dx ⟨k', hx, dn, dne, hns⟩ => ?_
  · have e : (A.under (.builtin "type.__call__" ⟨.ref C :: rest, kw⟩)).depth = A.depth + 1 := L2.make_depth
    rw [e]
    exact hroom
  · rcases hb with ⟨rfl, rfl⟩ | ⟨rfl, rfl⟩
    · exact .inl rfl
    · exact .inr rfl
  · have old : ∀ b o, hp.get? b = some o → h'.get? b = some o := fun b o e => k' b o (Nat.ne_of_lt (Nat.lt_succ_of_lt (Heap.lt_size e))) (kp b o e)
    have z : hp.objs.size + 1 + 1 ≤ dx := by
      first
        | (simpa only [Heap.size_push] using dn)
        | exact dn
        | (have q := dn; rw [Heap.size_push, Heap.size_push] at q; exact q)
    exact ⟨rfl, hq h' tk' (hp.objs.size + 1) dx ⟨old, Nat.le_succ _, ⟨_, hx⟩, Nat.le_trans (Nat.le_trans (Nat.le_succ _) (Nat.le_succ _)) z, dne, hns⟩⟩
end
end OwnEplace
end PySem
namespace OwnE
open PySem PySem.Spec PyProof.Rows L2
section
variable {X : Cx} {pins : List (Addr × Obj)} {σ : L2.St} {x qn : Str} {C fI : Addr} {e : Expr} {te : TE} {ta : TA} {p kp pos : Pos} {k : Nat}
/-- a new error stands at a, its dict at d -/
def tMkplace (C : Addr) (ta : TA) : TE := fun σ H Q => ta σ H fun vs H1 => ∃ v, vs = [v] ∧ ∀ a d, H1 a = none → H1 d = none → d ≠ a → Q (.ref a) (upd (upd H1 d (exd d [("place", v)])) a (exo a C (some d)))
theorem relO_place {v : V} {u : Value} (r : RelV v u) (f : Str) : RelO (List.lookup f [(("place" : Str), v)]) (if f = "place" then some u else none) :=
  relO_put (fs := []) (mA := fun _ => none) r (fun _ => True.intro) f
theorem endplace {Q : VK} {H1 : Hp} {v : V} {u : Value} {hp h' : Heap} {g : Array GenState} {dr : Drawn} {tk tk' : Nat} {os : OsState} {a d : Addr} (I1 : L2.Inv X pins σ H1 ⟨hp, g, dr, tk, os⟩) (r : RelV v u) (M : OwnEplace.EMade hp h' a C d u)
    (q : ∀ a d, H1 a = none → H1 d = none → d ≠ a → Q (.ref a) (upd (upd H1 d (exd d [("place", v)])) a (exo a C (some d)))) : EP X pins σ Q (.ref a) ⟨h', g, dr, tk', os⟩ := by
  obtain ⟨t1, ho⟩ := M.obj
  have na : H1 a = none := I1.hok.fresh M.ebig
  have nd : H1 d = none := I1.hok.fresh M.dbig
  have K1 : L2.Inv X pins σ (upd H1 d (exd d [("place", v)])) ⟨h', g, dr, tk', os⟩ := I1.laid M.keep M.dbig (exd_ok M.ns fun f => relO_place r f)
  have na2 : upd H1 d (exd d [("place", v)]) a = none := by
    rw [upd_ne (Ne.symm M.dne)]
    exact na
  have U : Un X.fs [] H1 (upd (upd H1 d (exd d [("place", v)])) a (exo a C (some d))) hp h' := {
    keep := fun b o z _ _ _ => M.keep b o z
    slot := fun b o z _ _ _ => ⟨o.slots, M.keep b o z⟩
    free := fun b o z n _ => by
      have l := Heap.lt_size z
      rw [upd_ne (Nat.ne_of_lt (Nat.lt_of_lt_of_le l M.ebig)), upd_ne (Nat.ne_of_lt (Nat.lt_of_lt_of_le l M.dbig))]
      exact n
    there := fun b o z _ => ⟨o, M.keep b o z⟩
    tups := fun b xs z => by rw [upd_ne (ne_of_none z na), upd_ne (ne_of_none z nd)]; exact z
    frzs := fun b o w z => by rw [upd_ne (ne_of_none z na), upd_ne (ne_of_none z nd)]; exact z
    tbls := fun b ps z => ⟨#[], by rw [upd_ne (ne_of_none z na), upd_ne (ne_of_none z nd), z]; simp⟩ }
  have J : L2.Inv X pins σ (upd (upd H1 d (exd d [("place", v)])) a (exo a C (some d))) ⟨h', g, dr, tk', os⟩ := I1.un U fun b o z => by
    by_cases hb : b = a
    · subst hb
      rw [upd_same] at z
      cases z
      exact exo_ok ho
    · rw [upd_ne hb] at z
      exact (K1.hok b o z).stay (fun _ _ _ z => z) (fun c hc => by rw [upd_ne (ne_of_none hc na2)]; exact hc) fun c xs hc => by rw [upd_ne (ne_of_none hc na2)]; exact hc
  exact ⟨.ref a, _, J, rfl, q a d na nd M.dne⟩
theorem pe_mkplace (T : OwnEplace.EI X.K X.mg x qn C fI) (hr : Room k X.A) (ha : PA X [e] ta) (hg : Gl X x := by rfl) (hdb : (x == ("__debug__" : Str)) = false := by decide)
    (hs : starEach (e :: []) X.env = (false, eval e X.env) :: starEach [] X.env := by rfl) (hpl : (backTo pos (starEach [] X.env)).any (·.1) = false := by rfl) :
    PE X (.Call (.Name x p) [e] [] pos) (tMkplace C ta) := by
  refine ⟨fun pins s σ H Q I h => ?_⟩
  refine wpAny_Call_Name_kw (ld_glob I hg T.gC ?_ hdb)
  refine PySem.W.callWith_K (h₀ := X.base) I.ok.mod.kin T.kC (thn (ha.run pos pins s σ H _ I h) fun us s1 hh => ?_) hs hpl
  obtain ⟨vs, H1, I1, r1, q1⟩ := hh
  refine ⟨I1.kIn, ?_⟩
  obtain ⟨v, ev, q2⟩ := q1
  subst ev
  obtain ⟨u, rfl, ru⟩ := vals1 r1
  show wpAny _ _ (call (.ref C) [u]) _ _ _
  have hlim := I1.nolimit
  obtain ⟨hp, g, dr, tk, os⟩ := s1
  refine wpAny_call (PySem.OwnEplace.made_ok T I1.kIn hlim (by have := hr.dp; omega) (.inl ⟨rfl, rfl⟩) fun h' tk' e d M => ?_)
  exact endplace I1 ru M q2
theorem pe_kwplace (T : OwnEplace.EI X.K X.mg x qn C fI) (hr : Room k X.A) (ha : PK X [⟨some "place", e, kp⟩] ta) (hg : Gl X x := by rfl) (hdb : (x == ("__debug__" : Str)) = false := by decide)
    (hall : (backToKw pos (keywordEach [⟨some "place", e, kp⟩] X.env)).all (·.1.isSome) = true := by rfl) (hks : (backToKw pos (keywordEach [⟨some "place", e, kp⟩] X.env)).filterMap (·.1) = [("place" : Str)] := by rfl)
    (hpl : ((backTo pos (starEach [] X.env)).any (·.1) || (backToKw pos (keywordEach [⟨some "place", e, kp⟩] X.env)).any (·.1.isNone)) = false := by rfl) :
    PE X (.Call (.Name x p) [] [⟨some "place", e, kp⟩] pos) (tMkplace C ta) := by
  refine ⟨fun pins s σ H Q I h => ?_⟩
  refine wpAny_Call_Name_kw (ld_glob I hg T.gC ?_ hdb)
  refine PySem.W.callWith_KW0 (h₀ := X.base) I.ok.mod.kin T.kC hall ?_ hpl
  refine thn (ha.run pos pins s σ H _ I h) fun us s1 hh => ?_
  obtain ⟨vs, H1, I1, r1, q1⟩ := hh
  refine ⟨I1.kIn, ?_⟩
  rw [hks]
  obtain ⟨v, ev, q2⟩ := q1
  subst ev
  obtain ⟨u, rfl, ru⟩ := vals1 r1
  show wpAny _ _ (call (.ref C) [] [(("place" : Str), u)]) _ _ _
  have hlim := I1.nolimit
  obtain ⟨hp, g, dr, tk, os⟩ := s1
  refine wpAny_call (PySem.OwnEplace.made_ok T I1.kIn hlim (by have := hr.dp; omega) (.inr ⟨rfl, rfl⟩) fun h' tk' e d M => ?_)
  exact endplace I1 ru M q2
end
end OwnE

namespace OwnE
open PySem PySem.Spec PyProof.Rows L2
section
variable {X : Cx} {x : Str} {C : Addr} {p pos : Pos}
/-- C(), a class without own __init__ -/
def tMk0 (C : Addr) : TE := fun _ H Q => ∀ a, H a = none → Q (.ref a) (upd H a (exo a C none))
theorem pe_mk0 (T : EC X.K X.mg x C) (q : PySem.W.excIn X.K C He.veBase "ValueError.__new__" = true) (hg : Gl X x := by rfl) (hdb : (x == ("__debug__" : Str)) = false := by decide) :
    PE X (.Call (.Name x p) [] [] pos) (tMk0 C) := by
  refine ⟨fun pins s σ H Q I h => ?_⟩
  refine wpAny_Call_Name_kw (ld_glob I hg T.gC ?_ hdb)
  refine PySem.W.callWith_K0 I.kIn T.kC ?_
  show wpAny _ _ (call (.ref C) []) _ _ _
  obtain ⟨bm, N, nm, qn, bs, hdct, sn, sub, ab, col, dd, k0, k1, k2, k3, k5, mN, hC, hN, hni, T2⟩ := exc_obj I.kIn q
  refine wpAny_call_exc_subT PySem.F.excBase_ValueError T2 hC hN hni (fun h' a hm => ?_) (by show 0 ≤ sizeLine; omega)
  have hn : H a = none := I.hok.gone hm.new
  obtain ⟨t, ht, _, _⟩ := hm.there
  exact ⟨.ref a, upd H a (exo a C none), I.laidN hm.keeps hm.new hn (exo_ok ht), rfl, h a hn⟩
end
end OwnE

namespace GuL
open PySem PySem.Spec PyProof.Rows L2
/-! ### a def whose promise holds where no repr is under way -/
structure FnG (P : Program) (w : World) (K : PySem.W.Frag) (mg : Str → Option Value) (base : Heap) (CX : CXT) (k : Nat) (f : Addr) (fd : FuncData) (ps : List Str) (sp : Sp) : Prop where
  len : ∀ vs H Q E, sp vs H Q E → vs.length = ps.length
  go : ∀ (A : Around) (outer : List Env) (s : Shared) (H : Hp) (as : Args) (us : List Value) (vs : List V) (Q : VK) (E : XK), A.guards = some [] → Room k A → Env0 P w K mg base A outer s H → BindsTo s fd as (ps.zip us) →
    Vals vs us → sp vs H Q E → codeAny (model P w) A (.call (.ref f) as) (CR CX outer P w H s Q E) s
theorem FnG.of {P : Program} {w : World} {K : PySem.W.Frag} {mg : Str → Option Value} {base : Heap} {CX : CXT} {k : Nat} {f : Addr} {fd : FuncData} {ps : List Str} {sp : Sp} (F : FnOk P w K mg base CX k f fd ps sp) : FnG P w K mg base CX k f fd ps sp :=
  ⟨F.len, fun A outer s H as us vs Q E _ => F.run A outer s H as us vs Q E⟩
section
variable {X : Cx} {CX : CXT} {k : Nat} {f : Addr} {fd : FuncData} {ps : List Str} {sp : Sp} {dvs : List V} {ds : List Value} {E : XK} {x : Str} {p pos : Pos} {e : Expr} {es : List Expr} {t : TA}
theorem runG {pins : List (Addr × Obj)} {σ : L2.St} {H : Hp} {s : Shared} {Q : VK} {us : List Value} {vs : List V} (F : FnG X.prog X.w X.K X.mg X.base CX k f fd ps sp) (hA : X.A.guards = some []) (hr : Room k X.A) (hb : Binds X.K fd ps ds) (hd : Vals dvs ds) (hx : Passes CX X E)
    (I : L2.Inv X pins σ H s) (r : Vals vs us) (h : sp (vs ++ dvs) H Q E) : wpAny (model X.prog X.w) X.A (call (.ref f) us) (EP X pins σ Q) X.xe s := by
  have q2 : Vals (vs ++ dvs) (us ++ ds) := r.append hd
  have ql : (us ++ ds).length = ps.length := q2.length.symm.trans (F.len _ _ _ _ h)
  have go := F.go X.A X.stack s H ⟨us, []⟩ (us ++ ds) (vs ++ dvs) Q E hA hr I.env0 (hb s us I.kIn ql) q2 h
  refine wpAny_call (codeAny_mono go fun rr s' hq => ?_)
  match rr, hq with
  | .error e, hq => exact hx pins σ H s e s' I hq
  | .ok (.ret u), hq => exact I.after hq
theorem pe_callG (F : FnG X.prog X.w X.K X.mg X.base CX k f fd ps sp) (hA : X.A.guards = some []) (hr : Room k X.A) (hg : Gl X x) (hm : X.mg x = some (.ref f)) (hk : PySem.W.keepIn X.K (.ref f) = true) (hb : Binds X.K fd ps ds) (hd : Vals dvs ds) (hx : Passes CX X E) (ha : PA X (e :: es) t)
    (hdb : (x == ("__debug__" : Str)) = false := by decide) (he : starEach (e :: es) X.env = (false, eval e X.env) :: starEach es X.env := by rfl) (hpl : (backTo pos (starEach es X.env)).any (·.1) = false := by rfl) :
    PE X (.Call (.Name x p) (e :: es) [] pos) (tCall sp dvs E t) :=
  ⟨fun pins s σ H Q I h => wpAny_Call_Name_kw (ld_glob I hg hm (PySem.W.callWith_K (h₀ := X.base) I.ok.mod.kin hk (thn (ha.run pos pins s σ H _ I h) fun us s1 hh => by
    obtain ⟨vs, H1, I1, r, q⟩ := hh
    exact ⟨I1.kIn, runG F hA hr hb hd hx I1 r q⟩) he hpl) hdb)⟩
end
/-- the rule for such a def -/
theorem okG {P : Program} {w : World} {K : PySem.W.Frag} {mg : Str → Option Value} {base : Heap} {x qual : Str} {st : Stmt} {f : Addr} {fd : FuncData} {N ps : List Str} {k : Nat} {sp : Sp} (F : Fun K x qual st f fd) (S : FnScope N ps (defScope st)) (len : ∀ vs H Q E, sp vs H Q E → vs.length = ps.length)
    (body : ∀ (cdv : Value) (A : Around) (outer : List Env) (s : Shared) (H : Hp) (vs : List V) (Q : VK) (E : XK), A.guards = some [] → Room k (A.deeper (envOfC qual (defScope st) s.heap.objs.size f cdv)) → sp vs H Q E →
      ∃ t, PSs (cxOf CX0 P w K mg base N qual (defScope st) f cdv A outer s H E).nox (defBody st) t ∧ t { nx := fun _ H' => Q .non H', rt := Q } (start N vs) H) : FnG P w K mg base CX0 (k + 1) f fd ps sp := by
  obtain ⟨oc, od, kV, doc, pm, an, cdv, ct, osl, rfl, lk, hcd⟩ := F.ex
  constructor
  · exact len
  intro A outer s H as us vs Q E hA hr e0 hb r hsp
  have kin : K.In s.heap := e0.mod.kin.keeps fun b o e => (e0.bs b o e).1
  have noL : s.heap.NoLimit := e0.mod.nolimit.keeps fun b o e => (e0.bs b o e).1
  have kinds : ∀ y ∈ ps.zip us, (defScope st).names.lookup y.1 = some .local ∨ ((defScope st).names.lookup y.1 = some .cell ∧ ((cellsFrom (s.heap.objs.size + 1) (defScope st).names []).lookup y.1).isSome = true) := by
    rintro ⟨n, v⟩ hy
    cases S.par n (List.of_mem_zip hy).1 with
    | inl q => exact .inl q
    | inr q => exact .inr ⟨q, PySem.W.cellsFrom_some _ _ _ (.inl q)⟩
  refine codeAny_call_function hr.depth (kin _ _ lk) rfl S.co S.gen rfl (PySem.W.codeRec_of kin hcd) (hb _ _ _ _ (wpAny_newFunctionEnv_cells S.kind kinds fun env he s1 z => ?_))
  subst he
  refine ⟨noL.keeps z.toInCall.keep, codeAny_func ?_⟩
  obtain ⟨t, ht, hq⟩ := body cdv A outer s H vs Q E hA (hr.deeper _) hsp
  have J := inv_start (E := E) (CX := CX0) (P := P) (w := w) S hr.hd e0 (len _ _ _ _ hsp) r z
  refine wpAny_mono (ht.nox.run [] s1 (start N vs) H _ J hq) (fun fl s' hs => ?_) fun e s' hs => hs
  match fl, hs with
  | .ret u, hs =>
    obtain ⟨v, σ', H', J2, rv, q⟩ := hs
    exact ⟨v, H', J2.os, J2.bare, J2.base, J2.hok, rv, q⟩
  | .next, hs =>
    obtain ⟨σ', H', J2, q⟩ := hs
    exact ⟨.non, H', J2.os, J2.bare, J2.base, J2.hok, rfl, q⟩
  | .brk, hs =>
    obtain ⟨_, _, _, q⟩ := hs
    exact q.elim
  | .cont, hs =>
    obtain ⟨_, _, _, q⟩ := hs
    exact q.elim
/-! ### repr of data -/
/-- v is shown as z -/
inductive Shd (K : PySem.W.Frag) (H : Hp) : V → PyData → Prop where
  | dat {v : V} {d : PyData} (h : Dp K H v d) (n : d.hasDict = false) : Shd K H v d
  | emp {a : Addr} (h : H a = some (.dK [])) : Shd K H (.ref a) (.dict [])
def rRepr (K : PySem.W.Frag) : List V → Hp → VK → Prop := fun xs H Q => ∃ (v : V) (d : PyData), xs = [v] ∧ Shd K H v d ∧ d.showable = true ∧ d.depth ≤ 40 ∧ d.shown.length ≤ sizeLine ∧ Q (.str d.shown) H
theorem call_repr {X : Cx} (hA : X.A.guards = some []) (hu : X.A.units + 64 < cLine) : CallR X (.builtin "repr") (rRepr X.K) := by
  intro pins s σ H xs us Q I r h
  obtain ⟨v, d, rfl, hd, hs, hp, hz, q⟩ := h
  obtain ⟨u, rfl, ru⟩ := vals1 r
  have rd : ∃ as, Reads s.heap u d as ∧ (d.hasDict = true → sysModules ∉ as) := by
    cases hd with
    | dat h n =>
      obtain ⟨as, q⟩ := Dp.reads I d v u h ru
      exact ⟨as, q, fun e => by rw [n] at e; cases e⟩
    | @emp a h =>
      obtain rfl : u = Value.ref a := ru
      obtain ⟨_, hsys, vs, kv, o, es, ep, h1, h2, h3, h4⟩ := (show ObjOk X.prog X.w H s.heap a (.dK []) from I.hok a _ h)
      cases kv
      have he : es.toList = [] := by
        have h5 := h4.2.1
        revert h5
        generalize es.toList = l
        intro h5
        cases h5
        rfl
      refine ⟨a :: [] ++ [], Reads.dict h1 h2.1 h3 (by rw [he]; exact .nil) (by rw [he]; exact .nil), fun _ m => ?_⟩
      have e : sysModules = a := by simpa using m
      rw [e] at hsys
      simp at hsys
  obtain ⟨as, rd, hsm⟩ := rd
  cases v with
  | ref a =>
    obtain rfl : u = Value.ref a := ru
    exact repr_of_reads' rd hs hsm hA (by omega) (fun _ _ e => e) (fun h' u' tk k => ⟨.str d.shown, H, I.kept (t' := tk) k, ⟨u', rfl⟩, q⟩) hz
  | non =>
    obtain rfl : u = Value.none := ru
    cases rd
    exact PySem.P.repr_of_none ⟨.str _, H, I.tok _, ⟨_, rfl⟩, q⟩
  | bl b =>
    obtain rfl : u = Value.bool b := ru
    cases rd
    exact PySem.P.repr_of_bool ⟨.str _, H, I.tok _, ⟨_, rfl⟩, q⟩
  | int i =>
    obtain ⟨t, rfl⟩ := ru
    cases rd
    exact PySem.P.repr_of_int (of_decide_eq_true hs) ⟨.str _, H, I.tok _, ⟨_, rfl⟩, q⟩
  | str z =>
    obtain ⟨t, rfl⟩ := ru
    cases rd
    exact PySem.P.repr_of_str ⟨.str _, H, I.tok _, ⟨_, rfl⟩, q⟩ hz
  | byt b =>
    obtain ⟨t, rfl⟩ := ru
    cases rd
  | flt b =>
    obtain ⟨t, rfl⟩ := ru
    cases rd
  | ty n =>
    obtain rfl : u = Value.type n := ru
    cases rd
/-! ### the end of a law -/
section
variable {P : Program} {w : World} {K : PySem.W.Frag} {mg mb : Str → Option Value} {CX : CXT} {k : Nat} {fa a : Addr} {fd : FuncData} {x : Str} {sp : Sp} {s₁ : Shared} {vs : List Value} {ns : List Int}
/-- what a law's call leaves -/
abbrev Done (s₁ : Shared) (r : Result) (s' : Shared) : Prop := r = .ok (.ret (.bool true)) ∧ OldK s₁.heap s'.heap ∧ s'.os = s₁.os ∧ AllBare s'.gens
/-- the heap of what is tracked holds the script at a, or nothing -/
structure Scr (P : Program) (w : World) (K : PySem.W.Frag) (h : Heap) (a : Addr) (obj : Obj) (ns : List Int) (H : Hp) : Prop where
  only : Only H
  seq : SqL K H a (ns.map V.int)
  hok : HOk P w H h
  at_ : ∀ b, H b ≠ none → b = a
  nk : H a ≠ none → K.lookup a = none
theorem law_core {H : Hp} (KX : K.In s₁.heap) (hns : s₁.heap.Ns mainGlobals mg) (hb : s₁.heap.Ns builtinsNs mb) (hbb : ∀ x : Str, x ≠ "__name__" → mb x = bootBuiltins x) (hlim : s₁.heap.NoLimit) (hg : s₁.gens = #[])
    (ha : s₁.heap.get? a = some { cls := .type "list", data := .seq vs.toArray }) (hr : Room k callerA) (S : Scr P w K s₁.heap a { cls := .type "list", data := .seq vs.toArray } ns H)
    (F : ∀ base : Heap, K.In base → base.Ns mainGlobals mg → FnG P w K mg base CX k fa fd [x] sp) (hbind : ∀ (s : Shared) (u : Value), BindsTo s fd ⟨[u], []⟩ [(x, u)])
    (hsp : sp [.ref a] H (fun v _ => v = .bl true) fun _ _ _ => False) (hCX : ∀ e s', CX [] H s₁ (fun _ _ _ => False) e s' → False) :
    codeAny (model P w) callerA (.call (.ref fa) ⟨[.ref a], []⟩) (Done s₁) s₁ := by
  have free : ∀ {b : Addr} {o : Obj}, s₁.heap.get? b = some o → b ≠ a → H b = none := fun {b o} _ n => by
    by_cases z : H b = none
    · exact z
    · exact (n (S.at_ b z)).elim
  have hid : ∀ {b : Addr} {o : Obj}, s₁.heap.get? b = some o → H b = none → (hidT s₁.heap H).get? b = some o := hidT_get
  have dict : ∀ {b : Addr} {m : Str → Option Value}, s₁.heap.Ns b m → (hidT s₁.heap H).Ns b m := by
    rintro b m ⟨o, es, ep, e, dt, rr⟩
    refine ⟨o, es, ep, hid e (free e fun z => ?_), dt, rr⟩
    subst z
    rw [ha] at e
    cases e
    exact nomatch (show Data.seq vs.toArray _ = Data.dict es ep from dt)
  have kin : K.In (hidT s₁.heap H) := fun b o e => by
    refine hid (KX b o e) ?_
    by_cases z : H b = none
    · exact z
    · have eb := S.at_ b z
      subst eb
      have q := S.nk z
      rw [e] at q
      cases q
  have M : Mod K mg (hidT s₁.heap H) := by
    obtain ⟨mc, l1, l2⟩ := hlim
    exact ⟨kin, dict hns, ⟨mb, dict hb, hbb⟩, ⟨mc, dict l1, l2⟩⟩
  have none0 : ∀ b : Addr, b ∉ ([] : List Addr) := fun b z => nomatch z
  have e0 : Env0 P w K mg (hidT s₁.heap H) callerA [] s₁ H := ⟨rfl, M, fun b o e => of_hidT e, Nat.le_of_eq (hidT_size _ _), trivial, fun b z => (none0 b z).elim, S.hok, .of_eq hg⟩
  have go := (F _ kin (dict hns)).go callerA [] s₁ H ⟨[.ref a], []⟩ [.ref a] [.ref a] _ _ rfl hr e0 (hbind s₁ (.ref a)) (.cons rfl .nil) hsp
  refine codeAny_mono go fun r s' h => ?_
  match r, h with
  | .error e, h => exact (hCX e s' h).elim
  | .ok (.ret u), h =>
    obtain ⟨v, H', os, bare, un, hok', rv, q⟩ := h
    have ev : v = .bl true := q
    subst ev
    have eu : u = Value.bool true := rv
    subst eu
    refine ⟨rfl, OldK.of_keep fun b o e => ?_, os, bare⟩
    by_cases z : H b = none
    · exact un.keep b o e z (none0 b) (none0 b)
    · rcases S.only b with y | ⟨ob, xs, y⟩
      · exact (z y).elim
      · obtain ⟨e1, _⟩ := S.hok b _ y
        obtain ⟨e2, _⟩ := hok' b _ (un.frzs b ob _ y)
        rw [e] at e1
        cases e1
        exact e2
theorem law_callG (KX : K.In s₁.heap) (hns : s₁.heap.Ns mainGlobals mg) (hb : s₁.heap.Ns builtinsNs mb) (hbb : ∀ x : Str, x ≠ "__name__" → mb x = bootBuiltins x) (hlim : s₁.heap.NoLimit) (hg : s₁.gens = #[])
    (ha : s₁.heap.get? a = some { cls := .type "list", data := .seq vs.toArray }) (hi : IntsAre vs ns) (hl : ns.length ≤ sizeLine) (hr : Room k callerA)
    (F : ∀ base : Heap, K.In base → base.Ns mainGlobals mg → FnG P w K mg base CX k fa fd [x] sp) (hbind : ∀ (s : Shared) (u : Value), BindsTo s fd ⟨[u], []⟩ [(x, u)])
    (hsp : ∀ H : Hp, Only H → SqL K H a (ns.map V.int) → sp [.ref a] H (fun v _ => v = .bl true) fun _ _ _ => False)
    (hCX : ∀ H e s', CX [] H s₁ (fun _ _ _ => False) e s' → False) :
    codeAny (model P w) callerA (.call (.ref fa) ⟨[.ref a], []⟩) (Done s₁) s₁ := by
  have rv := vals_ints hi
  have lv := hi.length
  have key : ∃ H, Scr P w K s₁.heap a { cls := .type "list", data := .seq vs.toArray } ns H := by
    by_cases hk : K.lookup a = none
    · have at0 : ∀ {b : Addr} {u : HO}, (if b = a then some (HO.frz { cls := .type "list", data := .seq vs.toArray } (.lst (ns.map V.int))) else none) = some u → b = a ∧ u = HO.frz { cls := .type "list", data := .seq vs.toArray } (.lst (ns.map V.int)) := fun {b u} z => by
        by_cases e : b = a
        · rw [if_pos e] at z
          exact ⟨e, (Option.some.inj z).symm⟩
        · rw [if_neg e] at z
          cases z
      refine ⟨fun b => if b = a then some (.frz { cls := .type "list", data := .seq vs.toArray } (.lst (ns.map V.int))) else none, ⟨fun b => ?_, ?_, fun b u z => ?_, fun b z => ?_, fun _ => hk⟩⟩
      · by_cases e : b = a
        · right
          exact ⟨_, _, if_pos e⟩
        · left
          exact if_neg e
      · left
        right
        exact ⟨_, if_pos rfl⟩
      · obtain ⟨rfl, rfl⟩ := at0 z
        exact ⟨ha, by rw [List.length_map]; exact hl, vs, _, rv, ha⟩
      · by_cases e : b = a
        · exact e
        · exact (z (if_neg e)).elim
    · obtain ⟨o, ho⟩ := Option.ne_none_iff_exists'.mp hk
      have e := KX a o ho
      rw [ha] at e
      cases e
      refine ⟨fun _ => none, ⟨fun _ => .inl rfl, ?_, fun b u z => (nomatch z), fun b z => (z rfl).elim, fun z => (z rfl).elim⟩⟩
      right
      exact ⟨_, vs.toArray, _, ho, rfl, rfl, rfl, by rw [List.size_toArray, lv]; exact hl, by simpa using rv⟩
  obtain ⟨H, S⟩ := key
  exact law_core KX hns hb hbb hlim hg ha hr S F hbind (hsp H S.only S.seq) (hCX H)
end
theorem walkG {l : PySem.W.OpenLaw} {n k : Nat} {q : Program} {loose : List Str} {XP : (Str → Option Value) → Heap → Prop} {YP : World → Heap → Prop} {d : DefRec} {K : Params → PySem.W.Frag} {sp : PySem.W.Frag → Sp} {x : Str}
    (hn : l.most = some n) (hn2 : n ≤ sizeLine) (hdf : d.params.defaults = []) (hr : Room k callerA) (hY : ∀ (w : World) (h : Heap), YP w h → (K w.params).In h)
    (F : ∀ (w : World) (mg : Str → Option Value) (fa : Addr) (h : Heap), (K w.params).In h → h.Ns mainGlobals mg → mg d.name = some (.ref fa) →
      ∃ fd : FuncData, (∀ (s : Shared) (u : Value), BindsTo s fd ⟨[u], []⟩ [(x, u)]) ∧ ∀ base : Heap, (K w.params).In base → base.Ns mainGlobals mg → FnG l.prog w (K w.params) mg base CX0 k fa fd [x] (sp (K w.params)))
    (hsp : ∀ (K : PySem.W.Frag) (H : Hp) (a : Addr) (ns : List Int), ns.length ≤ n → Only H → SqL K H a (ns.map V.int) → sp K [.ref a] H (fun v _ => v = .bl true) fun _ _ _ => False) :
    PySem.W.WalkO q loose XP YP l.row.toRowW d [] (fun f vs => PySem.call f vs) := by
  refine Att.attach_call hn hdf fun w s₀ s₁ mg mb fa o pm cd doc a vs ns G Y ho hd hcd hmg hobj hints hlen hg => ?_
  obtain ⟨fd, hb, hF⟩ := F w mg fa _ (hY w _ Y) G.T.g hmg
  exact law_callG (hY w _ Y) G.T.g G.T.b G.T.builtins G.T.nolimit hg hobj hints (Nat.le_trans hlen hn2) hr hF hb (fun H h2 h3 => hsp _ H a ns hlen h2 h3) fun H e s' z => z
end GuL

namespace K1
open PySem PySem.Spec PyProof.Rows L2 GuL OwnE
/-! ### the text -/
def topS (i : Nat) : Stmt := PySem.Challenge.pw_switchstages_k01_errors_each_of_its_own.main.body.getD i (.Pass ⟨0, 0, 0, 0⟩)
abbrev sBowl : Stmt := topS 28
abbrev sDraw : Stmt := topS 29
abbrev sSome : Stmt := topS 30
abbrev sThing : Stmt := topS 31
structure Blt (mg : Str → Option Value) : Prop where
  int : mg "int" = none
  abs : mg "abs" = none
  len : mg "len" = none
  divmod : mg "divmod" = none
  range : mg "range" = none
  tuple : mg "tuple" = none
  isi : mg "isinstance" = none
  enum : mg "enumerate" = none
  repr : mg "repr" = none
  all : mg "all" = none
  max : mg "max" = none
  min : mg "min" = none
  ve : mg "ValueError" = none
  ex : mg "Exception" = none
  le : mg "LookupError" = none
  te : mg "TypeError" = none
  ae : mg "ArithmeticError" = none
  re : mg "RuntimeError" = none
  ate : mg "AttributeError" = none
/-! ### heaps -/
/-- all that was tracked is as it was, but b -/
def Exb (b : Addr) (H H' : Hp) : Prop := ∀ p u, p ≠ b → H p = some u → H' p = some u
theorem Exb.refl (b : Addr) (H : Hp) : Exb b H H := fun _ _ _ h => h
theorem Exb.trans {b : Addr} {H H1 H2 : Hp} (a : Exb b H H1) (c : Exb b H1 H2) : Exb b H H2 := fun p u n h => c p u n (a p u n h)
theorem Exb.of {b : Addr} {H H' : Hp} (a : Same H H') : Exb b H H' := fun p u _ h => a p u h
theorem Exb.put {b : Addr} {H : Hp} {o : HO} : Exb b H (upd H b o) := fun p u n h => by
  rw [upd_ne n]
  exact h
theorem Exb.fresh {b D : Addr} {H H' : Hp} (a : Exb b H H') (n : D ≠ b) (h : H' D = none) : H D = none := by
  cases q : H D with
  | none => rfl
  | some u =>
    rw [a D u n q] at h
    cases h
theorem Exb.mut {b D : Addr} {H H' : Hp} {o : HO} (a : Exb b H H') (h : H D = none) : Exb b H (upd H' D o) := fun p u n q => by
  rw [upd_ne (ne_of_none q h)]
  exact a p u n q
theorem same_new {H : Hp} {p : Addr} {o : HO} (h : H p = none) : Same H (upd H p o) := fun b x e => by
  rw [upd_ne (ne_of_none e h)]
  exact e
/-- the bowl -/
def bw (o m c : Int) : HO := .lst [.int o, .int m, .int c]
/-! ### the bowl -/
def spBowl (K : PySem.W.Frag) : Sp := fun vs H Q _ => ∃ (a : Addr) (ns : List Int) (t : Int), vs = [.ref a, .int t] ∧ SqL K H a (ns.map V.int) ∧ ns.length ≤ 63 ∧ 0 ≤ t ∧
  ∀ H' p o m, Same H H' → H p = none → H' p = some (bw o m 0) → 0 ≤ o → Q (.ref p) H'
theorem scBowl : FnScope ["_law_script", "_law_turn", "_law_mixed", "_law_cell", "_law_own"] ["_law_script", "_law_turn"] (defScope sBowl) := ⟨rfl, rfl, rfl, by decide +kernel, rfl, by decide +kernel, by decide +kernel⟩
theorem cutV_mem {xs : List V} {lo hi : Option Int} {x : V} (h : x ∈ cutV xs lo hi) : x ∈ xs := by
  unfold cutV at h
  exact List.mem_of_mem_drop (List.mem_of_mem_take h)
theorem int_of_mem {ns : List Int} {y : V} (h : y ∈ ns.map V.int) : ∃ z, y = V.int z := by
  obtain ⟨z, _, e⟩ := List.mem_map.mp h
  exact ⟨z, e.symm⟩
theorem getI {ns : List Int} {t : Int} (h0 : 0 ≤ t) (h1 : t < ((ns.map V.int).length : Int)) : ∃ z, atI (ns.map V.int) t = some (V.int z) := by
  obtain ⟨j, rfl⟩ := Int.eq_ofNat_of_zero_le h0
  have hj : j < ns.length := by
    rw [List.length_map] at h1
    omega
  refine ⟨ns[j], atI_nat ?_⟩
  rw [List.getElem?_map, List.getElem?_eq_getElem hj]
  rfl
section
variable {P : Program} {w : World} {K : PySem.W.Frag} {mg : Str → Option Value} {base : Heap}
theorem ok_bowl {f : Addr} {fd : FuncData} (F : Fun K "_law_bowl" "_law_bowl" sBowl f fd) (B : Blt mg) : FnOk P w K mg base CX0 1 f fd ["_law_script", "_law_turn"] (spBowl K) := by
  refine F.ok scBowl (fun vs H Q E h => ?_) (fun cdv A outer s H vs Q E hr h => ?_)
  · obtain ⟨a, ns, t, rfl, _⟩ := h
    rfl
  · obtain ⟨a, ns, t, rfl, hS, hlen, ht, k⟩ := h
    refine ⟨_, pss_cons (ps_set (i := 2) scBowl.nd rfl (.inl rfl) (pe_op op_add pe_int (pe_op op_mul pe_int (pv 1))))
      (pss_cons (ps_for PassesOwn.never rfl (pi_list (pe_slice sl_list (pv 0) po_none (po_some pe_int))) (pg_name (i := 3) scBowl.nd rfl (.inl rfl))
        (pss_one (ps_set (i := 2) scBowl.nd rfl (.inl rfl) (pe_op op_mod (pe_callTy call_int1 (by rfl) B.int (by decide +kernel) (pa_cons (pe_op op_add (pe_op op_add (pe_op op_mul (pv 2) pe_int) (pe_op op_mul (pe_op op_mod (pe_callTy call_int1 (by rfl) B.int (by decide +kernel) (pa_cons (pv 3) pa_nil)) pe_int) pe_int)) pe_int) pa_nil)) pe_int))))
      (Evl.pss_cut (ps_set (i := 4) scBowl.nd rfl (.inl rfl) (pe_ifExp (pt_cmpR op_lt (pv 1) (pe_callB call_len_seq (by rfl) B.len PySem.boot_len (pa_cons (pv 0) pa_nil)) (nomark _))
          (pe_callTy call_int1 (by rfl) B.int (by decide +kernel) (pa_cons (pe_ix ix_list (pv 0) (pv 1) (fun _ _ => rfl)) pa_nil)) pe_int))
      (pss_one (ps_ret (pe_lst (pa_cons (pe_ifExp (PW.pt (pw_or (pt_cmpR op_lt (pv 4) pe_int (nomark _)) (pw_or1 (pt_cmpR op_ge (pv 4) (pe_op op_pow pe_int pe_int) (nomark _)))))
          (pe_callB call_abs (by rfl) B.abs (by decide +kernel) (pa_cons (pv 4) pa_nil)) pe_int) (pa_cons (pv 2) (pa_cons pe_int pa_nil)))))))), ?_⟩
    refine ⟨_, rfl, _, _, rfl, rfl, .inl ⟨by decide, by decide⟩, _, _, rfl, rfl, ?_⟩
    refine ⟨_, rfl, 12, rfl, a, ns.map V.int, rfl, hS, fun c nc => ?_⟩
    have s1 : Same H (upd H c (.lst (cutV (ns.map V.int) none (some 12)))) := same_new nc
    refine ⟨c, rfl, ⟨_, SqL.of upd_same⟩, for_list (K := K) (a := c) (xs := cutV (ns.map V.int) none (some 12)) (fun i σ H' => ∃ (m : Int) (v : Option V), σ = [some (.ref a), some (.int t), some (.int m), v, none] ∧ Same H H' ∧ H' c = some (.lst (cutV (ns.map V.int) none (some 12))))
      ⟨_, none, rfl, s1, upd_same⟩ (fun i σ H' _ ⟨_, _, _, _, e⟩ => SqL.of e) ?_ ?_⟩
    · rintro i y σ H' hi ⟨m, v, rfl, s2, ec⟩
      obtain ⟨z, rfl⟩ := int_of_mem (cutV_mem (List.mem_of_getElem? hi))
      refine ⟨_, rfl, _, _, rfl, rfl, .inr ⟨by decide, by decide⟩, _, rfl, .inl ⟨_, rfl, _, _, rfl, rfl, (by show (0 : Int) < _; decide), _, _, rfl, rfl, .inr ⟨by decide, by decide⟩, _, _, rfl, rfl, _, _, rfl, rfl, .inl ⟨_, rfl, _, _, rfl, rfl, (by show (0 : Int) < _; decide), ?_⟩⟩⟩
      exact ⟨_, _, rfl, s2, ec⟩
    · rintro σ H' ⟨m, v, rfl, s2, ec⟩
      refine ⟨fun σ' H'' => ∃ z : Int, σ' = [some (.ref a), some (.int t), some (.int m), v, some (.int z)] ∧ H'' = H', ?_, ?_⟩
      · refine ⟨_, rfl, _, rfl, a, _, rfl, .inl (s2.seq hS), _, _, rfl, rfl, _, rfl, ite2 (fun c => ?_) (fun c => ?_)⟩
        · obtain ⟨z, hz⟩ := getI (ns := ns) ht (of_decide_eq_true c)
          exact ⟨_, rfl, _, rfl, a, _, t, _, rfl, rfl, s2.seq hS, hz, .inl ⟨_, rfl, ⟨_, rfl, rfl⟩⟩⟩
        · exact ⟨_, rfl, rfl⟩
      · rintro σ' H'' ⟨z, rfl, rfl⟩
        have fin : ∀ o : Int, 0 ≤ o → ∀ p, H'' p = none → Q (.ref p) (upd H'' p (bw o m 0)) := fun o ho p hp => k _ p o m (s2.trans (same_new hp)) (s2.free hp) upd_same ho
        refine ⟨_, rfl, _, _, rfl, rfl, _, rfl, ite2 (fun c => ?_) (fun c => ?_)⟩
        · refine ⟨_, rfl, z, rfl, _, rfl, by show 3 ≤ sizeLine; decide, fin _ ?_⟩
          split <;> omega
        · refine ⟨_, rfl, _, _, rfl, rfl, ⟨by decide, by decide, by decide⟩, _, _, rfl, rfl, _, rfl, ite2 (fun c => ?_) (fun c => ?_)⟩
          · refine ⟨_, rfl, z, rfl, _, rfl, by show 3 ≤ sizeLine; decide, fin _ ?_⟩
            split <;> omega
          · exact ⟨_, rfl, by show 3 ≤ sizeLine; decide, fin _ (by decide)⟩
/-! ### a draw -/
theorem scDraw : FnScope ["_law_bowl_here", "_law_top", "_law_figure", "_law_seed"] ["_law_bowl_here", "_law_top"] (defScope sDraw) := ⟨rfl, rfl, rfl, by decide +kernel, rfl, by decide +kernel, by decide +kernel⟩
def spDraw : Sp := fun vs H Q _ => ∃ (b : Addr) (t o m c : Int), vs = [.ref b, .int t] ∧ H b = some (bw o m c) ∧ 0 ≤ o ∧ 0 < t ∧ t < 100000 ∧
  ∀ H' r o' m' c', Exb b H H' → H' b = some (bw o' m' c') → 0 ≤ o' → 0 ≤ r → r < t → Q (.int r) H'
theorem ok_draw {f : Addr} {fd : FuncData} (F : Fun K "_law_draw" "_law_draw" sDraw f fd) (B : Blt mg) : FnOk P w K mg base CX0 1 f fd ["_law_bowl_here", "_law_top"] spDraw := by
  refine F.ok scDraw (fun vs H Q E h => ?_) (fun cdv A outer s H vs Q E hr h => ?_)
  · obtain ⟨b, t, o, m, c, rfl, _⟩ := h
    rfl
  · obtain ⟨b, t, o, m, c, rfl, hb, ho, ht, ht2, k⟩ := h
    refine ⟨_, pss_cons (ps_if (pt_cmpR op_gt (pe_ix ix_list (pv 0) pe_int (fun _ _ => rfl)) pe_int (nomark _))
        (pss_cons (ps_asg (pe_callB call_divmod (by rfl) B.divmod (by decide +kernel) (pa_cons (pe_ix ix_list (pv 0) pe_int (fun _ _ => rfl)) (pa_cons (pv 1) pa_nil)))
            (pg_tup (by rfl) (pgs_cons (pg_sub (pv 0) pe_int set_list) (pgs_cons (pg_name (i := 2) scDraw.nd rfl (.inl rfl)) pgs_nil))))
          (pss_one (ps_ret (pv 2)))) pss_nil)
      (pss_cons (ps_asg (pe_op op_add (pe_ix ix_list (pv 0) pe_int (fun _ _ => rfl)) pe_int) (pg_sub (pv 0) pe_int set_list))
      (pss_cons (ps_set (i := 3) scDraw.nd rfl (.inl rfl) (pe_op op_mod (pe_callTy call_int1 (by rfl) B.int (by decide +kernel) (pa_cons (pe_op op_add (pe_ix ix_list (pv 0) pe_int (fun _ _ => rfl)) (pe_op op_mul pe_int (pe_ix ix_list (pv 0) pe_int (fun _ _ => rfl)))) pa_nil)) pe_int))
      (pss_cons (ps_asg (pe_op op_mod (pe_callTy call_int1 (by rfl) B.int (by decide +kernel) (pa_cons (pe_op op_add (pe_op op_mul (pv 3) (pe_op op_add (pe_op op_mod (pe_callTy call_int1 (by rfl) B.int (by decide +kernel) (pa_cons (pv 3) pa_nil)) pe_int) pe_int))
            (pe_op op_mul pe_int (pe_ix ix_list (pv 0) pe_int (fun _ _ => rfl)))) pa_nil)) pe_int) (pg_sub (pv 0) pe_int set_list))
      (pss_one (ps_ret (pe_op op_mod (pe_callTy call_int1 (by rfl) B.int (by decide +kernel) (pa_cons (pe_op op_fdiv (pe_ix ix_list (pv 0) pe_int (fun _ _ => rfl)) pe_int) pa_nil)) (pv 1))))))), ?_⟩
    refine ⟨_, rfl, b, _, 0, _, rfl, rfl, SqL.of hb, atI_nat (j := 0) rfl, _, _, rfl, rfl, _, rfl, ite2 (fun c1 => ?_) (fun c1 => ?_)⟩
    · have o1 : 0 < o := of_decide_eq_true c1
      refine ⟨_, rfl, b, _, 0, _, rfl, rfl, SqL.of hb, atI_nat (j := 0) rfl, _, rfl, _, _, rfl, ⟨ht, by omega⟩, fun p hp => ?_⟩
      have npb : b ≠ p := ne_of_none hb hp
      refine ⟨p, _, rfl, SqT.of upd_same, rfl, _, _, rfl, _, rfl, b, _, 0, 0, rfl, rfl, (by rw [upd_ne npb]; exact hb), rfl, _, _, rfl, rfl, ?_⟩
      refine ⟨_, rfl, ?_⟩
      refine k _ _ _ _ _ ((Exb.of (same_new hp)).trans Exb.put) upd_same (Int.ediv_nonneg ho (Int.le_of_lt ht)) (Int.emod_nonneg _ (by omega)) (Int.emod_lt_of_pos _ ht)
    · refine ⟨_, rfl, b, _, 2, _, rfl, rfl, SqL.of hb, atI_nat (j := 2) rfl, _, _, rfl, rfl, _, rfl, b, _, 2, 2, rfl, rfl, hb, rfl, ?_⟩
      refine ⟨_, rfl, b, _, 1, _, rfl, rfl, SqL.of upd_same, atI_nat (j := 1) rfl, _, rfl, b, _, 2, _, rfl, rfl, SqL.of upd_same, atI_nat (j := 2) rfl, _, _, rfl, rfl, .inl ⟨by decide, by decide⟩, _, _, rfl, rfl, .inl ⟨_, rfl, _, _, rfl, rfl, (by show (0 : Int) < _; decide), ?_⟩⟩
      refine ⟨_, rfl, _, rfl, .inl ⟨_, rfl, _, _, rfl, rfl, (by show (0 : Int) < _; decide), _, _, rfl, rfl, _, _, rfl, rfl, .inl ?_, ?_⟩⟩
      · refine ⟨?_, ?_⟩
        · have := Int.emod_nonneg (m + 31607 * (c + 1)) (show (2147483549 : Int) ≠ 0 by decide)
          omega
        · have := Int.emod_lt_of_pos (m + 31607 * (c + 1)) (show (0 : Int) < 2147483549 by decide)
          omega
      · refine ⟨_, rfl, b, _, 2, _, rfl, rfl, SqL.of upd_same, atI_nat (j := 2) rfl, _, _, rfl, rfl, .inl ⟨by decide, by decide⟩, _, _, rfl, rfl, .inl ⟨_, rfl, _, _, rfl, rfl, (by show (0 : Int) < _; decide), ?_⟩⟩
        refine ⟨_, rfl, b, _, 1, 1, rfl, rfl, upd_same, rfl, ?_⟩
        refine ⟨_, rfl, b, _, 1, _, rfl, rfl, SqL.of upd_same, atI_nat (j := 1) rfl, _, _, rfl, rfl, ⟨by decide, by decide⟩, .inl ⟨_, rfl, _, rfl, _, _, rfl, rfl, ht, ?_⟩⟩
        exact k _ _ _ _ _ (Exb.put.trans Exb.put) upd_same ho (Int.emod_nonneg _ (by omega)) (Int.emod_lt_of_pos _ ht)
/-! ### one of a text's signs, of a tuple's items -/
theorem sqT_exb {b t : Addr} {H H' : Hp} {xs : List V} (e : Exb b H H') (n : t ≠ b) (h : SqT K H t xs) : SqT K H' t xs := by
  rcases h with (h | ⟨o, h⟩) | h
  · exact .inl (.inl (e _ _ n h))
  · exact .inl (.inr ⟨o, e _ _ n h⟩)
  · exact .inr h
theorem scSome : FnScope ["_law_bowl_here", "_law_row"] ["_law_bowl_here", "_law_row"] (defScope sSome) := ⟨rfl, rfl, rfl, by decide +kernel, rfl, by decide +kernel, by decide +kernel⟩
def spSome (K : PySem.W.Frag) : Sp := fun vs H Q _ => ∃ (b : Addr) (row : V) (o m c : Int), vs = [.ref b, row] ∧ H b = some (bw o m c) ∧ 0 ≤ o ∧
  ((∃ z : Str, row = .str z ∧ 0 < z.length ∧ z.length < 100000 ∧ ∀ H' x o' m' c', Exb b H H' → H' b = some (bw o' m' c') → 0 ≤ o' → x ∈ z.cps.toList → Q (.str ⟨#[x]⟩) H') ∨
    ∃ t xs, row = .ref t ∧ t ≠ b ∧ SqT K H t xs ∧ 0 < xs.length ∧ xs.length < 100000 ∧ ∀ H' v o' m' c', Exb b H H' → H' b = some (bw o' m' c') → 0 ≤ o' → v ∈ xs → Q v H')
theorem ok_some {f fD : Addr} {fd fdD : FuncData} (F : Fun K "_law_some" "_law_some" sSome f fd) (B : Blt mg) (FD : Fun K "_law_draw" "_law_draw" sDraw fD fdD) (bD : Binds K fdD ["_law_bowl_here", "_law_top"] []) (gD : mg "_law_draw" = some (.ref fD)) :
    FnOk P w K mg base CX0 2 f fd ["_law_bowl_here", "_law_row"] (spSome K) := by
  have GD : FnOk P w K mg base CX0 1 fD fdD ["_law_bowl_here", "_law_top"] spDraw := ok_draw FD B
  refine F.ok scSome (fun vs H Q E h => ?_) (fun cdv A outer s H vs Q E hr h => ?_)
  · obtain ⟨b, row, o, m, c, rfl, _⟩ := h
    rfl
  · obtain ⟨b, row, o, m, c, rfl, hb, ho, h⟩ := h
    refine ⟨_, pss_one (ps_ret (pe_ix ix_seq (pv 1) (pe_call GD hr (by rfl) gD FD.kp bD .nil pass0 (pa_cons (pv 0) (pa_cons (pe_callB call_len (by rfl) B.len PySem.boot_len (pa_cons (pv 1) pa_nil)) pa_nil))) (fun _ _ => rfl))), ?_⟩
    rcases h with ⟨z, rfl, z0, z1, k⟩ | ⟨t, xs, rfl, nt, ht, z0, z1, k⟩
    · refine ⟨_, rfl, _, rfl, _, rfl, _, z.length, rfl, ⟨Nat.le_of_lt (Nat.lt_of_lt_of_le z1 (by decide)), rfl⟩, b, _, o, m, c, rfl, hb, ho, by omega, by omega, fun H' r o' m' c' e eb ho' r0 r1 => ?_⟩
      obtain ⟨j, rfl⟩ := Int.eq_ofNat_of_zero_le r0
      have hj : j < z.cps.toList.length := by
        have e1 : z.cps.toList.length = z.length := by simp [Str.length]
        omega
      refine .inr (.inr ⟨z, _, z.cps.toList[j], rfl, rfl, Nat.le_of_lt (Nat.lt_of_lt_of_le z1 (by decide)), ?_, k _ _ _ _ _ e eb ho' (List.getElem_mem hj)⟩)
      exact atI_nat (List.getElem?_eq_getElem hj)
    · refine ⟨_, rfl, _, rfl, _, rfl, _, xs.length, rfl, .inr ⟨xs, ht, rfl⟩, b, _, o, m, c, rfl, hb, ho, by omega, by omega, fun H' r o' m' c' e eb ho' r0 r1 => ?_⟩
      obtain ⟨j, rfl⟩ := Int.eq_ofNat_of_zero_le r0
      have hj : j < xs.length := by omega
      exact .inr (.inl ⟨t, xs, _, xs[j], rfl, rfl, sqT_exb e nt ht, atI_nat (List.getElem?_eq_getElem hj), k _ _ _ _ _ e eb ho' (List.getElem_mem hj)⟩)
/-! ### a thing -/
structure Okd (d : PyData) : Prop where
  sh : d.showable = true
  dp : d.depth ≤ 40
  lv : d.leavesShort 13 = true
  wt : d.weight ≤ 2 ^ 20
theorem Okd.fits {d : PyData} (h : Okd d) : d.shown.length ≤ sizeLine := PyData.shown_fits (B := 13) (by decide) (by decide) h.lv h.wt
theorem log_small {n : Nat} (h : n < 2 ^ 40) : n.log2 < 40 := by
  by_cases z : n = 0
  · rw [z]; decide
  · exact (Nat.log2_lt z).mpr h
theorem okd_int {r : Int} (h0 : -100 ≤ r) (h1 : r < 5000000000) : Okd (.int r) := by
  have a : r.natAbs < 10 ^ 12 := by omega
  have l : r.natAbs.log2 < 40 := log_small (show r.natAbs < 2 ^ 40 by omega)
  refine ⟨?_, by simp [PyData.depth], ?_, ?_⟩
  · simp only [PyData.showable, decide_eq_true_eq]
    omega
  · simp only [PyData.leavesShort, decide_eq_true_eq]
    exact PyData.shown_int_le a
  · simp only [PyData.weight]
    split <;> omega
theorem okd_ints : ∀ {rs : List Int}, rs.length ≤ 100 → (∀ r ∈ rs, 0 ≤ r ∧ r < 5000000000) → Okd (.tuple (rs.map .int)) := fun {rs} hl h => by
  have key : ∀ l : List Int, (∀ r ∈ l, 0 ≤ r ∧ r < 5000000000) → PyData.showableAll (l.map .int) = true ∧ PyData.depthAll (l.map .int) = 0 ∧ PyData.leavesShortAll 13 (l.map .int) = true ∧ PyData.weightAll (l.map .int) ≤ 50 * l.length := by
    intro l
    induction l with
    | nil => intro _; exact ⟨rfl, rfl, rfl, Nat.le_refl _⟩
    | cons r l ih =>
      intro h
      obtain ⟨i1, i2, i3, i4⟩ := ih fun x hx => h x (List.mem_cons_of_mem _ hx)
      obtain ⟨r0, r1⟩ := h r List.mem_cons_self
      have o := okd_int (r := r) (by omega) r1
      have l40 : r.natAbs.log2 < 40 := log_small (show r.natAbs < 2 ^ 40 by omega)
      refine ⟨?_, ?_, ?_, ?_⟩
      · simp only [List.map_cons, PyData.showableAll, o.sh, i1, Bool.and_self]
      · simp only [List.map_cons, PyData.depthAll, i2, PyData.depth]
        rfl
      · simp only [List.map_cons, PyData.leavesShortAll, o.lv, i3, Bool.and_self]
      · have e : PyData.weight (.int r) ≤ 41 := by
          simp only [PyData.weight]
          split <;> omega
        simp only [List.map_cons, PyData.weightAll, List.length_cons]
        omega
  obtain ⟨i1, i2, i3, i4⟩ := key rs h
  exact ⟨by simp only [PyData.showable, i1], by simp only [PyData.depth, i2]; decide, by simp only [PyData.leavesShort, i3], by simp only [PyData.weight]; omega⟩
theorem okd_str {z : Str} (hl : z.length ≤ 1000) (h : ∀ c ∈ z.cps.toList, c < 16 ^ 8) : Okd (.str z) := by
  refine ⟨rfl, by simp [PyData.depth], ?_, ?_⟩
  · simp only [PyData.leavesShort, List.all_eq_true, decide_eq_true_eq]
    exact h
  · simp only [PyData.weight]
    have e : z.cps.size = z.length := rfl
    omega
theorem joinL_nil : ∀ ps : List (List Nat), TL.joinL [] ps = ps.flatten
  | [] => rfl
  | [p] => by simp [TL.joinL]
  | p :: q :: r => by
    show p ++ ([] ++ TL.joinL [] (q :: r)) = _
    rw [joinL_nil (q :: r)]
    simp
theorem join_signs {ys : List Str} (h : ∀ y ∈ ys, ∃ x, x < 16 ^ 8 ∧ y = ⟨#[x]⟩) : (Txt.join (Str.ofString "") ys).length = ys.length ∧ (∀ c ∈ (Txt.join (Str.ofString "") ys).cps.toList, c < 16 ^ 8) ∧ (ys.map (·.length)).sum = ys.length := by
  have e : (Txt.join (Str.ofString "") ys).cps.toList = (ys.map TL.tl).flatten := by
    have q := TL.tl_join (Str.ofString "") ys
    rw [← TL.join_eq] at q
    have e0 : TL.tl (Str.ofString "") = [] := by decide +kernel
    rw [e0, joinL_nil] at q
    exact q
  have el : ∀ l : List Str, (∀ y ∈ l, ∃ x, x < 16 ^ 8 ∧ y = ⟨#[x]⟩) → (l.map TL.tl).flatten.length = l.length ∧ (∀ c ∈ (l.map TL.tl).flatten, c < 16 ^ 8) ∧ (l.map (·.length)).sum = l.length := by
    intro l
    induction l with
    | nil => intro _; exact ⟨rfl, (fun c hc => nomatch (show c ∈ ([] : List Nat) from hc)), rfl⟩
    | cons y l ih =>
      intro h
      obtain ⟨x, hx, rfl⟩ := h y List.mem_cons_self
      obtain ⟨i1, i2, i3⟩ := ih fun z hz => h z (List.mem_cons_of_mem _ hz)
      refine ⟨?_, fun c hc => ?_, ?_⟩
      · rw [List.map_cons, List.flatten_cons, List.length_append, i1, List.length_cons]
        show 1 + l.length = l.length + 1
        omega
      · rw [List.map_cons, List.flatten_cons, List.mem_append] at hc
        rcases hc with hc | hc
        · have ex : c = x := by simpa [TL.tl] using hc
          rw [ex]
          exact hx
        · exact i2 c hc
      · rw [List.map_cons, List.sum_cons, i3, List.length_cons]
        show 1 + l.length = l.length + 1
        omega
  obtain ⟨i1, i2, i3⟩ := el ys h
  refine ⟨?_, fun c hc => i2 c (by rw [← e]; exact hc), i3⟩
  rw [TL.len_tl]
  show (Txt.join (Str.ofString "") ys).cps.toList.length = _
  rw [e, i1]
theorem dp_ints {K : PySem.W.Frag} {H : Hp} : ∀ ys : List Int, DpAll K H (ys.map V.int) (ys.map PyData.int)
  | [] => .nil
  | y :: ys => .cons (.int y) (dp_ints ys)
theorem scThing : FnScope ["_law_bowl_here", "_law_kind", "_law_letters", "_law_at"] ["_law_bowl_here"] (defScope sThing) := ⟨rfl, rfl, rfl, by decide +kernel, rfl, by decide +kernel, by decide +kernel⟩
def spThing (K : PySem.W.Frag) : Sp := fun vs H Q _ => ∃ (b : Addr) (o m c : Int), vs = [.ref b] ∧ H b = some (bw o m c) ∧ 0 ≤ o ∧
  ∀ H' v d o' m' c', Exb b H H' → H' b = some (bw o' m' c') → 0 ≤ o' → Shd K H' v d → Okd d → Q v H'
theorem letters_ok : ∀ c ∈ (Str.ofString "abcdefghijklmnopqrstuvwxyz 0123456789_").cps.toList, c < 16 ^ 8 := by decide +kernel
theorem ok_thing {f fD fS : Addr} {fd fdD fdS : FuncData} (F : Fun K "_law_thing" "_law_thing" sThing f fd) (B : Blt mg) (FD : Fun K "_law_draw" "_law_draw" sDraw fD fdD) (bD : Binds K fdD ["_law_bowl_here", "_law_top"] []) (gD : mg "_law_draw" = some (.ref fD))
    (FS : Fun K "_law_some" "_law_some" sSome fS fdS) (bS : Binds K fdS ["_law_bowl_here", "_law_row"] []) (gS : mg "_law_some" = some (.ref fS)) : FnOk P w K mg base CX0 3 f fd ["_law_bowl_here"] (spThing K) := by
  have GD : FnOk P w K mg base CX0 1 fD fdD ["_law_bowl_here", "_law_top"] spDraw := ok_draw FD B
  have GS : FnOk P w K mg base CX0 2 fS fdS ["_law_bowl_here", "_law_row"] (spSome K) := ok_some FS B FD bD gD
  refine F.ok scThing (fun vs H Q E h => ?_) (fun cdv A outer s H vs Q E hr h => ?_)
  · obtain ⟨b, o, m, c, rfl, _⟩ := h
    rfl
  · obtain ⟨b, o, m, c, rfl, hb, ho, k⟩ := h
    have hr1 : Room 1 _ := hr.mono (by decide)
    refine ⟨_, pss_cons (ps_set (i := 1) scThing.nd rfl (.inl rfl) (pe_call GD hr1 (by rfl) gD FD.kp bD .nil pass0 (pa_cons (pv 0) (pa_cons pe_int pa_nil))))
      (pss_cons (ps_if (pt_cmpR op_eq (pv 1) pe_int (nomark _)) (pss_one (ps_ret (pe_op op_sub (pe_call GD hr1 (by rfl) gD FD.kp bD .nil pass0 (pa_cons (pv 0) (pa_cons pe_int pa_nil))) pe_int))) pss_nil)
      (pss_cons (ps_if (pt_cmpR op_eq (pv 1) pe_int (nomark _)) (pss_cons (ps_set (i := 2) scThing.nd rfl (.inr rfl) pe_str)
        (pss_one (ps_ret (pe_bm PySem.F.plainAttrs_str PySem.F.slot_str_join PySem.F.type_str_join mt_join pe_str (pa_cons
          (pe_lc (own := [("_law_at", 3)]) (g := gName 3) (tt := tYes) rfl scThing.nd (pi_range1 (by rfl) B.range (pa_cons (pe_call GD hr1 (by rfl) gD FD.kp bD .nil pass0 (pa_cons (pv 0) (pa_cons pe_int pa_nil))) pa_nil))
            (blkOk_by (N := ["_law_bowl_here", "_law_kind", "_law_letters", "_law_at"]) (sc := defScope sThing) (by decide +kernel)) (fun _ _ _ _ _ => pg_name (i := 3) scThing.nd rfl (Or.inl rfl)) (fun _ _ _ _ _ => pts_nil)
            (fun _ _ _ _ _ => pe_call GS hr (by rfl) gS FS.kp bS .nil pass0 (pa_cons (pv 0) (pa_cons (pv 2) pa_nil)))) pa_nil))))) pss_nil)
      (pss_cons (ps_if (pt_cmpR op_eq (pv 1) pe_int (nomark _)) (pss_one (ps_ret (pe_callTy call_tuple_of (by rfl) B.tuple (by decide +kernel) (pa_cons
          (pe_lc (own := [("_law_at", 3)]) (g := gName 3) (tt := tYes) rfl scThing.nd (pi_range1 (by rfl) B.range (pa_cons (pe_call GD hr1 (by rfl) gD FD.kp bD .nil pass0 (pa_cons (pv 0) (pa_cons pe_int pa_nil))) pa_nil))
            (blkOk_by (N := ["_law_bowl_here", "_law_kind", "_law_letters", "_law_at"]) (sc := defScope sThing) (by decide +kernel)) (fun _ _ _ _ _ => pg_name (i := 3) scThing.nd rfl (Or.inl rfl)) (fun _ _ _ _ _ => pts_nil)
            (fun _ _ _ _ _ => pe_call GD hr1 (by rfl) gD FD.kp bD .nil pass0 (pa_cons (pv 0) (pa_cons pe_int pa_nil)))) pa_nil)))) pss_nil)
      (pss_one (ps_ret (pe_call GS hr (by rfl) gS FS.kp bS .nil pass0 (pa_cons (pv 0) (pa_cons
        (pe_tup (pa_cons pe_non (pa_cons pe_bl (pa_cons pe_bl (pa_cons (pe_un un_neg pe_int) (pa_cons pe_int (pa_cons pe_int (pa_cons pe_str (pa_cons (pe_tup pa_nil) (pa_cons (pe_lst pa_nil) (pa_cons pe_dnewK
          (pa_cons (pe_lst (pa_cons pe_int pa_nil)) (pa_cons (pe_tup (pa_cons pe_int pa_nil)) (pa_cons (pe_tup (pa_cons pe_str (pa_cons pe_str pa_nil))) (pa_cons pe_int (pa_cons (pe_tup (pa_cons (pe_tup pa_nil) pa_nil)) pa_nil)))))))))))))))) pa_nil)))))))), ?_⟩
    refine ⟨_, rfl, b, 5, o, m, c, rfl, hb, ho, by decide, by decide, fun H1 r o1 m1 c1 e1 hb1 ho1 r0 r1 => ?_⟩
    refine ⟨_, rfl, rfl, _, rfl, ite2 (fun z => ?_) (fun z => ?_)⟩
    · -- a number
      refine ⟨_, rfl, b, 5000, o1, m1, c1, rfl, hb1, ho1, by decide, by decide, fun H2 r2 o2 m2 c2 e2 hb2 ho2 r20 r21 => ?_⟩
      exact ⟨_, _, rfl, rfl, k _ _ _ _ _ _ (e1.trans e2) hb2 ho2 (.dat (.int _) rfl) (okd_int (by omega) (by omega))⟩
    refine ⟨_, rfl, rfl, _, rfl, ite2 (fun z => ?_) (fun z => ?_)⟩
    · -- a text
      refine ⟨?_, ?_⟩
      · first
          | exact ⟨_, rfl⟩
          | exact .inl ⟨_, rfl⟩
          | trivial
      refine ⟨_, rfl, b, 6, o1, m1, c1, rfl, hb1, ho1, by decide, by decide, fun H2 r2 o2 m2 c2 e2 hb2 ho2 r20 r21 => ?_⟩
      refine ⟨r2, rfl, by omega, by omega, fun D hD => ?_⟩
      have nDb : D ≠ b := fun z => by
        rw [z, hb2] at hD
        cases hD
      have nD0 : H D = none := (e1.trans e2).fresh nDb hD
      refine lc_range (lo := 0) (n := r2.toNat) (fun i H' => ∃ (ys : List Str) (o m c : Int), Exb b H H' ∧ H' b = some (bw o m c) ∧ 0 ≤ o ∧ H' D = some (.lst (ys.map V.str)) ∧ ys.length = i ∧ ∀ y ∈ ys, ∃ x, x < 16 ^ 8 ∧ y = (⟨#[x]⟩ : Str))
        ⟨[], o2, m2, c2, (e1.trans e2).trans (Exb.of (same_new hD)), by rw [upd_ne (Ne.symm nDb)]; exact hb2, ho2, upd_same, rfl, fun y hy => nomatch hy⟩ ?_ ?_
      · rintro i H' hi ⟨ys, o, m, c, e, eb, ho', eD, rfl, hys⟩
        refine ⟨rfl, _, rfl, _, rfl, b, _, o, m, c, rfl, eb, ho', .inl ⟨_, rfl, by decide +kernel, by decide +kernel, fun H4 x o4 m4 c4 e4 eb4 ho4 hx => ?_⟩⟩
        refine ⟨ys.map V.str, e4 _ _ nDb eD, ?_, ys ++ [⟨#[x]⟩], o4, m4, c4, (e.trans e4).mut nD0, by rw [upd_ne (Ne.symm nDb)]; exact eb4, ho4, by rw [upd_same, List.map_append]; rfl, by rw [List.length_append]; rfl, fun y hy => ?_⟩
        · rw [List.length_map]
          exact small1000 (by omega)
        · rcases List.mem_append.mp hy with hy | hy
          · exact hys y hy
          · rw [List.mem_singleton.mp hy]
            exact ⟨x, letters_ok x hx, rfl⟩
      · rintro H' ⟨ys, o, m, c, e, eb, ho', eD, hl, hys⟩
        obtain ⟨j1, j2, j3⟩ := join_signs hys
        refine ⟨_, D, ys, rfl, rfl, .inl (SqL.of eD), ?_, k _ _ _ _ _ _ e eb ho' (.dat (.str _) rfl) (okd_str (by omega) j2)⟩
        have e0 : (Str.ofString "").length = 0 := by decide +kernel
        rw [j3, e0]
        omega
    refine ⟨_, rfl, rfl, _, rfl, ite2 (fun z => ?_) (fun z => ?_)⟩
    · -- a tuple
      refine ⟨_, rfl, b, 4, o1, m1, c1, rfl, hb1, ho1, by decide, by decide, fun H2 r2 o2 m2 c2 e2 hb2 ho2 r20 r21 => ?_⟩
      refine ⟨r2, rfl, by omega, by omega, fun D hD => ?_⟩
      have nDb : D ≠ b := fun z => by
        rw [z, hb2] at hD
        cases hD
      have nD0 : H D = none := (e1.trans e2).fresh nDb hD
      refine lc_range (lo := 0) (n := r2.toNat) (fun i H' => ∃ (ys : List Int) (o m c : Int), Exb b H H' ∧ H' b = some (bw o m c) ∧ 0 ≤ o ∧ H' D = some (.lst (ys.map V.int)) ∧ ys.length = i ∧ ∀ y ∈ ys, 0 ≤ y ∧ y < 5000000000)
        ⟨[], o2, m2, c2, (e1.trans e2).trans (Exb.of (same_new hD)), by rw [upd_ne (Ne.symm nDb)]; exact hb2, ho2, upd_same, rfl, fun y hy => nomatch hy⟩ ?_ ?_
      · rintro i H' hi ⟨ys, o, m, c, e, eb, ho', eD, rfl, hys⟩
        refine ⟨rfl, _, rfl, b, 300, o, m, c, rfl, eb, ho', by decide, by decide, fun H4 x o4 m4 c4 e4 eb4 ho4 x0 x1 => ?_⟩
        refine ⟨ys.map V.int, e4 _ _ nDb eD, ?_, ys ++ [x], o4, m4, c4, (e.trans e4).mut nD0, by rw [upd_ne (Ne.symm nDb)]; exact eb4, ho4, by rw [upd_same, List.map_append]; rfl, by rw [List.length_append]; rfl, fun y hy => ?_⟩
        · rw [List.length_map]
          exact small1000 (by omega)
        · rcases List.mem_append.mp hy with hy | hy
          · exact hys y hy
          · rw [List.mem_singleton.mp hy]
            exact ⟨x0, by omega⟩
      · rintro H' ⟨ys, o, m, c, e, eb, ho', eD, hl, hys⟩
        refine ⟨D, _, rfl, .inl ⟨SqL.of eD, fun p hp => ?_⟩⟩
        have npb : b ≠ p := ne_of_none eb hp
        refine k _ _ (.tuple (ys.map .int)) o m c (e.trans (Exb.of (same_new hp))) (by rw [upd_ne npb]; exact eb) ho' (.dat (.tup (SqT.of upd_same) ?_) ?_) (okd_ints (by omega) hys)
        · exact dp_ints ys
        · simp only [PyData.hasDict]
          clear hl hys eD
          induction ys with
          | nil => rfl
          | cons y ys ih => simpa [PyData.hasDictAll, PyData.hasDict] using ih
    -- one of the written things
    refine ⟨_, rfl, 1, rfl, Nat.zero_le _, fun p1 q1 => ⟨Nat.zero_le _, fun p2 q2 => fun p3 q3 => ⟨(by show 1 ≤ sizeLine; decide), fun p4 q4 => ⟨(by show 1 ≤ sizeLine; decide), fun p5 q5 => ⟨(by show 2 ≤ sizeLine; decide), fun p6 q6 =>
      ⟨Nat.zero_le _, fun p7 q7 => ⟨(by show 1 ≤ sizeLine; decide), fun p8 q8 => ⟨(by show 15 ≤ sizeLine; decide), fun p9 q9 => ?_⟩⟩⟩⟩⟩⟩⟩⟩
    have s1 := same_new (o := .tup []) q1
    have s2 := same_new (o := .lst []) q2
    have s3 := same_new (o := .dK []) q3
    have s4 := same_new (o := .lst [.int 1]) q4
    have s5 := same_new (o := .tup [.int 0]) q5
    have s6 := same_new (o := .tup [.str "go", .str "a"]) q6
    have s7 := same_new (o := .tup []) q7
    have s8 := same_new (o := .tup [.ref p7]) q8
    have s9 := same_new (o := .tup [.non, .bl true, .bl false, .int (-1), .int 0, .int 1, .str "", .ref p1, .ref p2, .ref p3, .ref p4, .ref p5, .ref p6, .int 4294967296, .ref p8]) q9
    have t9 := s9
    have t8 := s8.trans t9
    have t7 := s7.trans t8
    have t6 := s6.trans t7
    have t5 := s5.trans t6
    have t4 := s4.trans t5
    have t3 := s3.trans t4
    have t2 := s2.trans t3
    have t1 := s1.trans t2
    have hb9 := t1 _ _ hb1
    have e9 : Exb b H _ := e1.trans (Exb.of t1)
    have n9 : p9 ≠ b := fun z => by
      have q := s9 _ _ (s8 _ _ (s7 _ _ (s6 _ _ (s5 _ _ (s4 _ _ (s3 _ _ (s2 _ _ (s1 _ _ hb1))))))))
      rw [← z, upd_same] at q
      cases q
    refine ⟨b, .ref p9, o1, m1, c1, rfl, hb9, ho1, .inr ⟨p9, _, rfl, n9, SqT.of upd_same, (by show 0 < 15; decide), (by show 15 < 100000; decide), fun H' v o' m' c' e eb ho' hv => ?_⟩⟩
    have at_ : ∀ {p : Addr} {u : HO}, (∀ x y z : V, u ≠ .lst [x, y, z]) → upd _ p9 (.tup [.non, .bl true, .bl false, .int (-1), .int 0, .int 1, .str "", .ref p1, .ref p2, .ref p3, .ref p4, .ref p5, .ref p6, .int 4294967296, .ref p8]) p = some u → H' p = some u :=
      fun {p u} n q => e _ _ (fun z => by
        rw [z, hb9] at q
        exact n _ _ _ (Option.some.inj q).symm) q
    have f1 : H' p1 = some (.tup []) := at_ (fun _ _ _ z => nomatch z) (t2 _ _ upd_same)
    have f2 : H' p2 = some (.lst []) := at_ (fun _ _ _ z => nomatch z) (t3 _ _ upd_same)
    have f3 : H' p3 = some (.dK []) := at_ (fun _ _ _ z => nomatch z) (t4 _ _ upd_same)
    have f4 : H' p4 = some (.lst [.int 1]) := at_ (fun _ _ _ z => nomatch z) (t5 _ _ upd_same)
    have f5 : H' p5 = some (.tup [.int 0]) := at_ (fun _ _ _ z => nomatch z) (t6 _ _ upd_same)
    have f6 : H' p6 = some (.tup [.str "go", .str "a"]) := at_ (fun _ _ _ z => nomatch z) (t7 _ _ upd_same)
    have f7 : H' p7 = some (.tup []) := at_ (fun _ _ _ z => nomatch z) (t8 _ _ upd_same)
    have f8 : H' p8 = some (.tup [.ref p7]) := at_ (fun _ _ _ z => nomatch z) (t9 _ _ upd_same)
    have fin : ∀ d, Shd K H' v d → Okd d → Q v H' := fun d h1 h2 => k _ _ _ _ _ _ (e9.trans e) eb ho' h1 h2
    simp only [List.mem_cons, List.not_mem_nil, or_false] at hv
    rcases hv with rfl | rfl | rfl | rfl | rfl | rfl | rfl | rfl | rfl | rfl | rfl | rfl | rfl | rfl | rfl
    · exact fin _ (.dat .non rfl) ⟨rfl, by decide, rfl, by decide⟩
    · exact fin _ (.dat (.bl _) rfl) ⟨rfl, by decide, rfl, by decide⟩
    · exact fin _ (.dat (.bl _) rfl) ⟨rfl, by decide, rfl, by decide⟩
    · exact fin _ (.dat (.int _) rfl) (okd_int (by decide) (by decide))
    · exact fin _ (.dat (.int _) rfl) (okd_int (by decide) (by decide))
    · exact fin _ (.dat (.int _) rfl) (okd_int (by decide) (by decide))
    · exact fin _ (.dat (.str _) rfl) (okd_str (by decide +kernel) (by decide +kernel))
    · exact fin (.tuple []) (.dat (.tup (SqT.of f1) .nil) rfl) ⟨rfl, by decide, rfl, by decide⟩
    · exact fin (.list []) (.dat (.lst (SqL.of f2) .nil) rfl) ⟨rfl, by decide, rfl, by decide⟩
    · exact fin (.dict []) (.emp f3) ⟨rfl, by decide, rfl, by decide⟩
    · exact fin (.list [.int 1]) (.dat (.lst (SqL.of f4) (.cons (.int _) .nil)) rfl) ⟨by decide +kernel, by decide, by decide +kernel, by decide +kernel⟩
    · exact fin (.tuple [.int 0]) (.dat (.tup (SqT.of f5) (.cons (.int _) .nil)) rfl) ⟨by decide +kernel, by decide, by decide +kernel, by decide +kernel⟩
    · exact fin (.tuple [.str "go", .str "a"]) (.dat (.tup (SqT.of f6) (.cons (.str _) (.cons (.str _) .nil))) rfl) ⟨by decide +kernel, by decide, by decide +kernel, by decide +kernel⟩
    · exact fin _ (.dat (.int _) rfl) (okd_int (by decide) (by decide))
    · exact fin (.tuple [.tuple []]) (.dat (.tup (SqT.of f8) (.cons (.tup (SqT.of f7) .nil) .nil)) rfl) ⟨by decide +kernel, by decide, by decide +kernel, by decide +kernel⟩
end
end K1

namespace K1
open PySem PySem.Spec PyProof.Rows L2 GuL OwnE
abbrev sGiven : Stmt := topS 32
abbrev sIndexed : Stmt := topS 33
abbrev sUnder : Stmt := topS 34
abbrev sStands : Stmt := topS 35
abbrev sIsBase : Stmt := topS 36
/-! ### the classes -/
def names : List Str := ["InvalidWord", "InvalidNumber", "InvalidHeaders", "InvalidFrame", "InvalidPacket", "InvalidFields", "InvalidRest", "InvalidWay", "InvalidProgram", "InvalidContents", "InvalidCells", "InvalidFilling", "InvalidKeys", "InvalidForm", "InvalidUnits", "InvalidLayout", "InvalidChip", "TooMany", "InvalidPackets", "InvalidEntries", "InvalidWords", "InvalidComing", "InvalidLines", "InvalidWriting", "NotShown", "StageError"]
def pairsB (K : PySem.W.Frag) : Bool := names.zipIdx.all fun p => names.zipIdx.all fun q => isPair K p.1 q.1 (decide (p.2 = q.2 ∨ q.2 = 25))
def typesB (K : PySem.W.Frag) : Bool := names.all fun x => isTy K x "ValueError" true && (isTy K x "Exception" true && (isTy K x "LookupError" false && (isTy K x "TypeError" false && (isTy K x "ArithmeticError" false && (isTy K x "RuntimeError" false && isTy K x "AttributeError" false)))))
structure Kit (K : PySem.W.Frag) (mg : Str → Option Value) : Prop where
  ec : ∀ x ∈ names, EC K mg x (He.ga K x)
  pr : ∀ (i j : Nat) (x y : Str), names[i]? = some x → names[j]? = some y → PySem.W.kitOne K (.ref (He.ga K x)) (.ref (He.ga K y)) = some (decide (i = j ∨ j = 25))
  t1 : ∀ x ∈ names, PySem.W.kitOne K (.ref (He.ga K x)) (.type "ValueError") = some true
  t2 : ∀ x ∈ names, PySem.W.kitOne K (.ref (He.ga K x)) (.type "Exception") = some true
  t3 : ∀ x ∈ names, PySem.W.kitOne K (.ref (He.ga K x)) (.type "LookupError") = some false
  t4 : ∀ x ∈ names, PySem.W.kitOne K (.ref (He.ga K x)) (.type "TypeError") = some false
  t5 : ∀ x ∈ names, PySem.W.kitOne K (.ref (He.ga K x)) (.type "ArithmeticError") = some false
  t6 : ∀ x ∈ names, PySem.W.kitOne K (.ref (He.ga K x)) (.type "RuntimeError") = some false
  t7 : ∀ x ∈ names, PySem.W.kitOne K (.ref (He.ga K x)) (.type "AttributeError") = some false
theorem zi {x : Str} {i : Nat} (h : names[i]? = some x) : (x, i) ∈ names.zipIdx := by
  rw [List.mem_zipIdx_iff_getElem?]
  exact h
theorem kit_of {K : PySem.W.Frag} {h : Heap} {mg : Str → Option Value} (X : K.In h) (G : h.Ns mainGlobals mg) (b : clsB K = true) (c : names.all (ecB K) = true) (p : pairsB K = true) (t : typesB K = true) : Kit K mg := by
  have tt : ∀ x ∈ names, _ := fun x hx => List.all_eq_true.mp t x hx
  refine ⟨fun x hx => ec_of X G b (List.all_eq_true.mp c x hx), fun i j x y hi hj => ?_, fun x hx => ?_, fun x hx => ?_, fun x hx => ?_, fun x hx => ?_, fun x hx => ?_, fun x hx => ?_, fun x hx => ?_⟩
  · have q := List.all_eq_true.mp (List.all_eq_true.mp p _ (zi hi)) _ (zi hj)
    exact of_decide_eq_true q
  all_goals
    obtain ⟨c1, c⟩ := He.ba (tt x hx)
    obtain ⟨c2, c⟩ := He.ba c
    obtain ⟨c3, c⟩ := He.ba c
    obtain ⟨c4, c⟩ := He.ba c
    obtain ⟨c5, c⟩ := He.ba c
    obtain ⟨c6, c7⟩ := He.ba c
    first | exact of_decide_eq_true c1 | exact of_decide_eq_true c2 | exact of_decide_eq_true c3 | exact of_decide_eq_true c4 | exact of_decide_eq_true c5 | exact of_decide_eq_true c6 | exact of_decide_eq_true c7
/-- an error of the class x stands at a -/
structure IsE (K : PySem.W.Frag) (H : Hp) (a : Addr) (x : Str) (od : Option Addr) : Prop where
  at_ : H a = some (exo a (He.ga K x) od)
  dct : ∀ d, od = some d → ∃ fs, H d = some (exd d fs)
theorem IsE.same {K : PySem.W.Frag} {H H' : Hp} {a : Addr} {x : Str} {od : Option Addr} (h : IsE K H a x od) (s : Same H H') : IsE K H' a x od :=
  ⟨s _ _ h.at_, fun d e => by
    obtain ⟨fs, q⟩ := h.dct d e
    exact ⟨fs, s _ _ q⟩⟩

section
variable {P : Program} {w : World} {K : PySem.W.Frag} {mg : Str → Option Value} {base : Heap}
theorem upd_at {H : Hp} {p : Addr} {o : HO} (_ : H p = none) : upd H p o p = some o := upd_same
/-- found = [..] -/
theorem lstStep {σ : L2.St} {H : Hp} {D : Ends} {ta : TA} {i : Nat} {L : List V} (ha : ∀ Q : List V → Hp → Prop, Q L H → ta σ H Q) (hz : L.length ≤ 1000) (k : ∀ p H', Same H H' → H' p = some (.lst L) → D.nx (σ.set i (some (.ref p))) H') :
    tAsg (tLst ta) (gName i) D σ H :=
  ha _ ⟨Nat.le_of_lt (small1000 hz), fun p hp => k p _ (same_new hp) upd_same⟩
/-- found = found + [..] -/
theorem catStep {σ : L2.St} {H : Hp} {D : Ends} {ta : TA} {i : Nat} {p : Addr} {L M : List V} (h1 : σ[i]? = some (some (.ref p))) (hp : H p = some (.lst L)) (ha : ∀ Q : List V → Hp → Prop, Q M H → ta σ H Q) (hz : L.length + M.length ≤ 1000)
    (k : ∀ q H', Same H H' → H' q = some (.lst (L ++ M)) → D.nx (σ.set i (some (.ref q))) H') :
    tAsg (tOp rCat (tVar i) (tLst ta)) (gName i) D σ H :=
  ⟨_, h1, ha _ ⟨Nat.le_of_lt (small1000 (Nat.le_trans (Nat.le_add_left _ _) hz)), fun r hr => ⟨p, r, L, M, rfl, rfl, same_new hr _ _ hp, upd_same, Nat.le_of_lt (small1000 hz), fun q hq => k q _ ((same_new hr).trans (same_new hq)) upd_same⟩⟩⟩
theorem tv_nil {σ : L2.St} {H : Hp} : ∀ Q : List V → Hp → Prop, Q [] H → tNil σ H Q := fun _ q => q
theorem tv_cons {σ : L2.St} {H : Hp} {te : TE} {ta : TA} {v : V} {L : List V} (h : ∀ Q : VK, Q v H → te σ H Q) (r : ∀ Q : List V → Hp → Prop, Q L H → ta σ H Q) : ∀ Q : List V → Hp → Prop, Q (v :: L) H → tCons te ta σ H Q :=
  fun Q q => h _ (r _ q)
theorem mem_of {x : Str} {i : Nat} (h : names[i]? = some x) : x ∈ names := List.mem_of_getElem? h
theorem isR {σ : L2.St} {H : Hp} {Q : VK} {a : Addr} {x y : Str} {i : Nat} {od : Option Addr} (k : Kit K mg) (j : Nat) (h0 : σ[0]? = some (some (.ref a))) (hi : names[i]? = some x) (hj : names[j]? = some y) (e : IsE K H a x od) (q : Q (.bl (decide (i = j ∨ j = 25))) H) :
    tCB (rIsX K) (tCons (tVar 0) (tCons (tC (.ref (He.ga K y))) tNil)) σ H Q :=
  ⟨_, h0, a, _, od, mg, x, _, _, _, rfl, .own _, k.ec x (mem_of hi), e.at_, e.dct, k.pr i j x y hi hj, q⟩
theorem isT {σ : L2.St} {H : Hp} {Q : VK} {a : Addr} {x : Str} {t : String} {b : Bool} {od : Option Addr} (k : Kit K mg) (h0 : σ[0]? = some (some (.ref a))) (hx : x ∈ names) (ht : PySem.W.kitOne K (.ref (He.ga K x)) (.type t) = some b) (e : IsE K H a x od) (q : Q (.bl b) H) :
    tCB (rIsX K) (tCons (tVar 0) (tCons (tC (.ty t)) tNil)) σ H Q :=
  ⟨_, h0, a, _, od, mg, x, _, _, _, rfl, .ty _, k.ec x hx, e.at_, e.dct, ht, q⟩
/-! ### under which classes -/
def und (i : Nat) : List Int := if i = 25 then [25] else [(i : Int), 25]
theorem und_eq : ∀ i, i < 26 → (((List.range 26).filter fun j => decide (i = j ∨ j = 25)).map fun (j : Nat) => (j : Int)) = und i := by decide
def spUnder (K : PySem.W.Frag) : Sp := fun vs H Q _ => ∃ (a : Addr) (i : Nat) (x : Str) (od : Option Addr), vs = [.ref a] ∧ names[i]? = some x ∧ IsE K H a x od ∧
  ∀ H' p, Same H H' → H' p = some (.lst ((und i).map V.int)) → Q (.ref p) H'
theorem fin_under {H HG : Hp} {D : Ends} {p a : Addr} {i : Nat} (i26 : i < 26) (S : Same H HG) (F : HG p = some (.lst ((List.range 26).map fun j => V.bl (decide (i = j ∨ j = 25)))))
    (k : ∀ H' q, Same H H' → H' q = some (.lst ((und i).map V.int)) → D.rt (.ref q) H') :
    tRet (tLc (iEnum K (tCons (tVar 1) tNil)) (gTup K 2 (gCons (gName 2) (gCons (gName 3) gNil))) (tTest (tVar 3)) (tVar 2) [2, 3]) D [some (.ref a), some (.ref p), none, none] HG := by
  refine ⟨_, rfl, p, _, rfl, SqL.of F, fun D hD => ?_⟩
  have sD := same_new (o := .lst []) hD
  have hDp : D ≠ p := fun z => by
    rw [z, F] at hD
    cases hD
  have hp0 : H D = none := by
    cases q : H D with
    | none => rfl
    | some u =>
      rw [S _ _ q] at hD
      cases hD
  refine lc_it (walk_enum (K := K) (a := p) (xs := (List.range 26).map fun j => V.bl (decide (i = j ∨ j = 25)))) (fun n H' => Same H H' ∧ H' p = some (.lst ((List.range 26).map fun j => V.bl (decide (i = j ∨ j = 25)))) ∧ H' D = some (.lst (((List.range n).filter fun j => decide (i = j ∨ j = 25)).map fun j => V.int (j : Nat))))
    ⟨S.trans sD, sD _ _ F, upd_same⟩ (fun n H' _ q => SqL.of q.2.1) ?_ ?_
  · rintro n v H1 H' hn ⟨t1, t2, t3⟩ ⟨T, y1, y2, rfl, hT, rfl, z1, z2⟩
    have hn' : n < 26 := by simpa using hn
    have w1 : y1 = .int (n : Nat) := (Option.some.inj z1).symm
    obtain ⟨bb, hbb⟩ : ∃ b, decide (i = n ∨ n = 25) = b := ⟨_, rfl⟩
    have w2 : y2 = .bl bb := by
      have q : ((List.range 26).map fun j => V.bl (decide (i = j ∨ j = 25)))[n]? = some (.bl bb) := by
        rw [List.getElem?_map, List.getElem?_range hn', ← hbb]
        rfl
      have z3 : ((List.range 26).map fun j => V.bl (decide (i = j ∨ j = 25)))[n]? = some y2 := z2
      rw [q] at z3
      exact (Option.some.inj z3).symm
    subst w1 w2
    have sT := same_new (o := .tup [.int (n : Nat), .bl bb]) hT
    refine ⟨T, _, rfl, SqT.of upd_same, rfl, _, _, rfl, _, _, rfl, ⟨rfl, rfl, _, rfl, _, rfl, ?_⟩⟩
    cases bb with
    | true =>
      refine iteT ⟨_, rfl, _, sT _ _ t3, ?_, fun b u e => ?_, ?_, ?_⟩
      · rw [List.length_map]
        exact small1000 (Nat.le_trans (List.length_filter_le _ _) (by rw [List.length_range]; exact Nat.le_of_lt (Nat.lt_trans hn' (by decide))))
      · rw [upd_ne (ne_of_none e hp0)]
        exact sT _ _ (t1 _ _ e)
      · rw [upd_ne (Ne.symm hDp)]
        exact sT _ _ t2
      · rw [upd_same, List.range_succ, List.filter_append, List.map_append, List.filter_cons, if_pos hbb]
        rfl
    | false =>
      refine iteF ⟨t1.trans sT, sT _ _ t2, ?_⟩
      rw [List.range_succ, List.filter_append, List.map_append, List.filter_cons, if_neg (by rw [hbb]; exact Bool.false_ne_true)]
      show _ = some (HO.lst (_ ++ []))
      rw [List.append_nil]
      exact sT _ _ t3
  · rintro H' ⟨t1, t2, t3⟩
    refine k H' D t1 ?_
    have e : ((List.range 26).filter fun j => decide (i = j ∨ j = 25)).map (fun j => V.int (j : Nat)) = (und i).map V.int := by
      rw [← und_eq i i26, List.map_map]
      rfl
    rw [← e]
    exact t3
theorem scUnder : FnScope ["_law_error", "_law_found", "_law_at", "_law_is_so"] ["_law_error"] (defScope sUnder) := ⟨rfl, rfl, rfl, by decide +kernel, rfl, by decide +kernel, by decide +kernel⟩
theorem ok_under {f : Addr} {fd : FuncData} (F : Fun K "_law_under" "_law_under" sUnder f fd) (B : Blt mg) (k26 : Kit K mg) : FnOk P w K mg base CX0 1 f fd ["_law_error"] (spUnder K) := by
  refine F.ok scUnder (fun vs H Q E h => ?_) (fun cdv A outer s H vs Q E hr h => ?_)
  · obtain ⟨a, i, x, od, rfl, _⟩ := h
    rfl
  · obtain ⟨a, i, x, od, rfl, hi, he, k⟩ := h
    have gl : ∀ y ∈ names, mg y = some (.ref (He.ga K y)) := fun y hy => (k26.ec y hy).gC
    have i26 : i < 26 := (List.getElem?_eq_some_iff.mp hi).1
    refine ⟨_, (pss_cons (ps_set (i := 1) scUnder.nd rfl (.inl rfl) (pe_lst (pa_cons (pe_callB call_isX (by rfl) B.isi (by decide +kernel) (pa_cons (pv 0) (pa_cons (pe_glob (v := .ref (He.ga K "InvalidWord")) (by rfl) (gl _ (mem_of (i := 0) rfl)) rfl) pa_nil))) (pa_cons (pe_callB call_isX (by rfl) B.isi (by decide +kernel) (pa_cons (pv 0) (pa_cons (pe_glob (v := .ref (He.ga K "InvalidNumber")) (by rfl) (gl _ (mem_of (i := 1) rfl)) rfl) pa_nil))) (pa_cons (pe_callB call_isX (by rfl) B.isi (by decide +kernel) (pa_cons (pv 0) (pa_cons (pe_glob (v := .ref (He.ga K "InvalidHeaders")) (by rfl) (gl _ (mem_of (i := 2) rfl)) rfl) pa_nil))) pa_nil)))))
      (pss_cons (ps_set (i := 1) scUnder.nd rfl (.inl rfl) (pe_op op_cat (pv 1) (pe_lst (pa_cons (pe_callB call_isX (by rfl) B.isi (by decide +kernel) (pa_cons (pv 0) (pa_cons (pe_glob (v := .ref (He.ga K "InvalidFrame")) (by rfl) (gl _ (mem_of (i := 3) rfl)) rfl) pa_nil))) (pa_cons (pe_callB call_isX (by rfl) B.isi (by decide +kernel) (pa_cons (pv 0) (pa_cons (pe_glob (v := .ref (He.ga K "InvalidPacket")) (by rfl) (gl _ (mem_of (i := 4) rfl)) rfl) pa_nil))) pa_nil)))))
      (pss_cons (ps_set (i := 1) scUnder.nd rfl (.inl rfl) (pe_op op_cat (pv 1) (pe_lst (pa_cons (pe_callB call_isX (by rfl) B.isi (by decide +kernel) (pa_cons (pv 0) (pa_cons (pe_glob (v := .ref (He.ga K "InvalidFields")) (by rfl) (gl _ (mem_of (i := 5) rfl)) rfl) pa_nil))) (pa_cons (pe_callB call_isX (by rfl) B.isi (by decide +kernel) (pa_cons (pv 0) (pa_cons (pe_glob (v := .ref (He.ga K "InvalidRest")) (by rfl) (gl _ (mem_of (i := 6) rfl)) rfl) pa_nil))) (pa_cons (pe_callB call_isX (by rfl) B.isi (by decide +kernel) (pa_cons (pv 0) (pa_cons (pe_glob (v := .ref (He.ga K "InvalidWay")) (by rfl) (gl _ (mem_of (i := 7) rfl)) rfl) pa_nil))) pa_nil))))))
      (pss_cons (ps_set (i := 1) scUnder.nd rfl (.inl rfl) (pe_op op_cat (pv 1) (pe_lst (pa_cons (pe_callB call_isX (by rfl) B.isi (by decide +kernel) (pa_cons (pv 0) (pa_cons (pe_glob (v := .ref (He.ga K "InvalidProgram")) (by rfl) (gl _ (mem_of (i := 8) rfl)) rfl) pa_nil))) (pa_cons (pe_callB call_isX (by rfl) B.isi (by decide +kernel) (pa_cons (pv 0) (pa_cons (pe_glob (v := .ref (He.ga K "InvalidContents")) (by rfl) (gl _ (mem_of (i := 9) rfl)) rfl) pa_nil))) pa_nil)))))
      (pss_cons (ps_set (i := 1) scUnder.nd rfl (.inl rfl) (pe_op op_cat (pv 1) (pe_lst (pa_cons (pe_callB call_isX (by rfl) B.isi (by decide +kernel) (pa_cons (pv 0) (pa_cons (pe_glob (v := .ref (He.ga K "InvalidCells")) (by rfl) (gl _ (mem_of (i := 10) rfl)) rfl) pa_nil))) (pa_cons (pe_callB call_isX (by rfl) B.isi (by decide +kernel) (pa_cons (pv 0) (pa_cons (pe_glob (v := .ref (He.ga K "InvalidFilling")) (by rfl) (gl _ (mem_of (i := 11) rfl)) rfl) pa_nil))) (pa_cons (pe_callB call_isX (by rfl) B.isi (by decide +kernel) (pa_cons (pv 0) (pa_cons (pe_glob (v := .ref (He.ga K "InvalidKeys")) (by rfl) (gl _ (mem_of (i := 12) rfl)) rfl) pa_nil))) pa_nil))))))
      (pss_cons (ps_set (i := 1) scUnder.nd rfl (.inl rfl) (pe_op op_cat (pv 1) (pe_lst (pa_cons (pe_callB call_isX (by rfl) B.isi (by decide +kernel) (pa_cons (pv 0) (pa_cons (pe_glob (v := .ref (He.ga K "InvalidForm")) (by rfl) (gl _ (mem_of (i := 13) rfl)) rfl) pa_nil))) (pa_cons (pe_callB call_isX (by rfl) B.isi (by decide +kernel) (pa_cons (pv 0) (pa_cons (pe_glob (v := .ref (He.ga K "InvalidUnits")) (by rfl) (gl _ (mem_of (i := 14) rfl)) rfl) pa_nil))) (pa_cons (pe_callB call_isX (by rfl) B.isi (by decide +kernel) (pa_cons (pv 0) (pa_cons (pe_glob (v := .ref (He.ga K "InvalidLayout")) (by rfl) (gl _ (mem_of (i := 15) rfl)) rfl) pa_nil))) pa_nil))))))
      (pss_cons (ps_set (i := 1) scUnder.nd rfl (.inl rfl) (pe_op op_cat (pv 1) (pe_lst (pa_cons (pe_callB call_isX (by rfl) B.isi (by decide +kernel) (pa_cons (pv 0) (pa_cons (pe_glob (v := .ref (He.ga K "InvalidChip")) (by rfl) (gl _ (mem_of (i := 16) rfl)) rfl) pa_nil))) (pa_cons (pe_callB call_isX (by rfl) B.isi (by decide +kernel) (pa_cons (pv 0) (pa_cons (pe_glob (v := .ref (He.ga K "TooMany")) (by rfl) (gl _ (mem_of (i := 17) rfl)) rfl) pa_nil))) pa_nil)))))
      (pss_cons (ps_set (i := 1) scUnder.nd rfl (.inl rfl) (pe_op op_cat (pv 1) (pe_lst (pa_cons (pe_callB call_isX (by rfl) B.isi (by decide +kernel) (pa_cons (pv 0) (pa_cons (pe_glob (v := .ref (He.ga K "InvalidPackets")) (by rfl) (gl _ (mem_of (i := 18) rfl)) rfl) pa_nil))) (pa_cons (pe_callB call_isX (by rfl) B.isi (by decide +kernel) (pa_cons (pv 0) (pa_cons (pe_glob (v := .ref (He.ga K "InvalidEntries")) (by rfl) (gl _ (mem_of (i := 19) rfl)) rfl) pa_nil))) pa_nil)))))
      (pss_cons (ps_set (i := 1) scUnder.nd rfl (.inl rfl) (pe_op op_cat (pv 1) (pe_lst (pa_cons (pe_callB call_isX (by rfl) B.isi (by decide +kernel) (pa_cons (pv 0) (pa_cons (pe_glob (v := .ref (He.ga K "InvalidWords")) (by rfl) (gl _ (mem_of (i := 20) rfl)) rfl) pa_nil))) (pa_cons (pe_callB call_isX (by rfl) B.isi (by decide +kernel) (pa_cons (pv 0) (pa_cons (pe_glob (v := .ref (He.ga K "InvalidComing")) (by rfl) (gl _ (mem_of (i := 21) rfl)) rfl) pa_nil))) (pa_cons (pe_callB call_isX (by rfl) B.isi (by decide +kernel) (pa_cons (pv 0) (pa_cons (pe_glob (v := .ref (He.ga K "InvalidLines")) (by rfl) (gl _ (mem_of (i := 22) rfl)) rfl) pa_nil))) pa_nil))))))
      (pss_cons (ps_set (i := 1) scUnder.nd rfl (.inl rfl) (pe_op op_cat (pv 1) (pe_lst (pa_cons (pe_callB call_isX (by rfl) B.isi (by decide +kernel) (pa_cons (pv 0) (pa_cons (pe_glob (v := .ref (He.ga K "InvalidWriting")) (by rfl) (gl _ (mem_of (i := 23) rfl)) rfl) pa_nil))) (pa_cons (pe_callB call_isX (by rfl) B.isi (by decide +kernel) (pa_cons (pv 0) (pa_cons (pe_glob (v := .ref (He.ga K "NotShown")) (by rfl) (gl _ (mem_of (i := 24) rfl)) rfl) pa_nil))) (pa_cons (pe_callB call_isX (by rfl) B.isi (by decide +kernel) (pa_cons (pv 0) (pa_cons (pe_glob (v := .ref (He.ga K "StageError")) (by rfl) (gl _ (mem_of (i := 25) rfl)) rfl) pa_nil))) pa_nil))))))
      (pss_one (ps_ret (pe_lc (own := [("_law_at", 2), ("_law_is_so", 3)]) (g := gTup K 2 (gCons (gName 2) (gCons (gName 3) gNil))) rfl scUnder.nd (pi_enum (by rfl) B.enum (pa_cons (pv 1) pa_nil))
        (blkOk_by (N := ["_law_error", "_law_found", "_law_at", "_law_is_so"]) (sc := defScope sUnder) (by decide +kernel)) (fun _ _ _ _ _ => pg_tup rfl (pgs_cons (pg_name (i := 2) scUnder.nd rfl (.inl rfl)) (pgs_cons (pg_name (i := 3) scUnder.nd rfl (.inl rfl)) pgs_nil)))
        (fun _ _ _ _ _ => pts_one (pt_val (pv 3))) (fun _ _ _ _ _ => pv 2)))))))))))))), ?_⟩
    have e0 := he
    refine lstStep (tv_cons (fun Q q => isR k26 0 rfl hi rfl e0 q) (tv_cons (fun Q q => isR k26 1 rfl hi rfl e0 q) (tv_cons (fun Q q => isR k26 2 rfl hi rfl e0 q) tv_nil))) (by show 3 ≤ 1000; decide) fun p1 H1 s1 f1 => ?_
    have e1 := e0.same s1
    refine catStep rfl f1 (tv_cons (fun Q q => isR k26 3 rfl hi rfl e1 q) (tv_cons (fun Q q => isR k26 4 rfl hi rfl e1 q) tv_nil)) (by show 3 + 2 ≤ 1000; decide) fun p2 H2 u2 f2 => ?_
    have s2 := s1.trans u2
    have e2 := e0.same s2
    refine catStep rfl f2 (tv_cons (fun Q q => isR k26 5 rfl hi rfl e2 q) (tv_cons (fun Q q => isR k26 6 rfl hi rfl e2 q) (tv_cons (fun Q q => isR k26 7 rfl hi rfl e2 q) tv_nil))) (by show 5 + 3 ≤ 1000; decide) fun p3 H3 u3 f3 => ?_
    have s3 := s2.trans u3
    have e3 := e0.same s3
    refine catStep rfl f3 (tv_cons (fun Q q => isR k26 8 rfl hi rfl e3 q) (tv_cons (fun Q q => isR k26 9 rfl hi rfl e3 q) tv_nil)) (by show 8 + 2 ≤ 1000; decide) fun p4 H4 u4 f4 => ?_
    have s4 := s3.trans u4
    have e4 := e0.same s4
    refine catStep rfl f4 (tv_cons (fun Q q => isR k26 10 rfl hi rfl e4 q) (tv_cons (fun Q q => isR k26 11 rfl hi rfl e4 q) (tv_cons (fun Q q => isR k26 12 rfl hi rfl e4 q) tv_nil))) (by show 10 + 3 ≤ 1000; decide) fun p5 H5 u5 f5 => ?_
    have s5 := s4.trans u5
    have e5 := e0.same s5
    refine catStep rfl f5 (tv_cons (fun Q q => isR k26 13 rfl hi rfl e5 q) (tv_cons (fun Q q => isR k26 14 rfl hi rfl e5 q) (tv_cons (fun Q q => isR k26 15 rfl hi rfl e5 q) tv_nil))) (by show 13 + 3 ≤ 1000; decide) fun p6 H6 u6 f6 => ?_
    have s6 := s5.trans u6
    have e6 := e0.same s6
    refine catStep rfl f6 (tv_cons (fun Q q => isR k26 16 rfl hi rfl e6 q) (tv_cons (fun Q q => isR k26 17 rfl hi rfl e6 q) tv_nil)) (by show 16 + 2 ≤ 1000; decide) fun p7 H7 u7 f7 => ?_
    have s7 := s6.trans u7
    have e7 := e0.same s7
    refine catStep rfl f7 (tv_cons (fun Q q => isR k26 18 rfl hi rfl e7 q) (tv_cons (fun Q q => isR k26 19 rfl hi rfl e7 q) tv_nil)) (by show 18 + 2 ≤ 1000; decide) fun p8 H8 u8 f8 => ?_
    have s8 := s7.trans u8
    have e8 := e0.same s8
    refine catStep rfl f8 (tv_cons (fun Q q => isR k26 20 rfl hi rfl e8 q) (tv_cons (fun Q q => isR k26 21 rfl hi rfl e8 q) (tv_cons (fun Q q => isR k26 22 rfl hi rfl e8 q) tv_nil))) (by show 20 + 3 ≤ 1000; decide) fun p9 H9 u9 f9 => ?_
    have s9 := s8.trans u9
    have e9 := e0.same s9
    refine catStep rfl f9 (tv_cons (fun Q q => isR k26 23 rfl hi rfl e9 q) (tv_cons (fun Q q => isR k26 24 rfl hi rfl e9 q) (tv_cons (fun Q q => isR k26 25 rfl hi rfl e9 q) tv_nil))) (by show 23 + 3 ≤ 1000; decide) fun p10 H10 u10 f10 => ?_
    have s10 := s9.trans u10
    have e10 := e0.same s10
    exact fin_under i26 s10 f10 fun H' q s z => k H' q s z
end
end K1

namespace K1
open PySem PySem.Spec PyProof.Rows L2 GuL OwnE
section
variable {P : Program} {w : World} {K : PySem.W.Frag} {mg : Str → Option Value} {base : Heap}
/-! ### stands under its two classes -/
theorem dpI {K : PySem.W.Frag} {H : Hp} {p : Addr} {is : List Int} (h : H p = some (.lst (is.map V.int))) : Dp K H (.ref p) (.list (is.map .int)) := .lst (SqL.of h) (dp_ints is)
theorem clI : ∀ is : List Int, PyData.canLayAll0 (is.map PyData.int) = true ∧ PyData.depthAll (is.map PyData.int) = 0
  | [] => ⟨rfl, rfl⟩
  | i :: is => by
    obtain ⟨h1, h2⟩ := clI is
    refine ⟨?_, ?_⟩
    · simp only [List.map_cons, PyData.canLayAll0, PyData.canLay0, h1, Bool.and_self]
    · simp only [List.map_cons, PyData.depthAll, PyData.depth, h2]
      rfl
theorem clL (is : List Int) : (PyData.list (is.map PyData.int)).canLay0 = true := by
  simp only [PyData.canLay0, (clI is).1]
theorem shI (is : List Int) : SeqAt.shaped (.list (is.map PyData.int)) = true := by
  unfold SeqAt.shaped
  simp only [clL, PyData.depth, (clI is).2]
  rfl
def spStands (K : PySem.W.Frag) : Sp := fun vs H Q _ => ∃ (a : Addr) (i : Nat) (x : Str) (od : Option Addr), vs = [.ref a, .int i] ∧ i < 25 ∧ names[i]? = some x ∧ IsE K H a x od ∧
  ∀ H', Same H H' → Q (.bl true) H'
theorem scStands : FnScope ["_law_error", "_law_number"] ["_law_error", "_law_number"] (defScope sStands) := ⟨rfl, rfl, rfl, by decide +kernel, rfl, by decide +kernel, by decide +kernel⟩
theorem ok_stands {f fU : Addr} {fd fdU : FuncData} (F : Fun K "_law_stands" "_law_stands" sStands f fd) (B : Blt mg) (k26 : Kit K mg) (FU : Fun K "_law_under" "_law_under" sUnder fU fdU) (bU : Binds K fdU ["_law_error"] []) (gU : mg "_law_under" = some (.ref fU)) :
    FnOk P w K mg base CX0 2 f fd ["_law_error", "_law_number"] (spStands K) := by
  have GU : FnOk P w K mg base CX0 1 fU fdU ["_law_error"] (spUnder K) := ok_under FU B k26
  refine F.ok scStands (fun vs H Q E h => ?_) (fun cdv A outer s H vs Q E hr h => ?_)
  · obtain ⟨a, i, x, od, rfl, _⟩ := h
    rfl
  · obtain ⟨a, i, x, od, rfl, hi, hx, he, k⟩ := h
    have hm := mem_of hx
    refine ⟨_, pss_cons (ps_if (PW.pt (pw_or (pt_cmpR (op_neD hr.units) (pe_call GU hr (by rfl) gU FU.kp bU .nil pass0 (pa_cons (pv 0) pa_nil)) (pe_lst (pa_cons (pv 1) (pa_cons pe_int pa_nil))) (nomark _))
        (pw_or (pt_not (pt_val (pe_callB call_isX (by rfl) B.isi (by decide +kernel) (pa_cons (pv 0) (pa_cons (pe_bltn (v := .ty "ValueError") (by rfl) B.ve (by decide +kernel) rfl) pa_nil))))) (pw_or1 (pt_not (pt_val (pe_callB call_isX (by rfl) B.isi (by decide +kernel) (pa_cons (pv 0) (pa_cons (pe_bltn (v := .ty "Exception") (by rfl) B.ex (by decide +kernel) rfl) pa_nil))))))))) (pss_one (ps_ret pe_bl)) pss_nil)
      (pss_cons (ps_if (PW.pt (pw_or (pt_val (pe_callB call_isX (by rfl) B.isi (by decide +kernel) (pa_cons (pv 0) (pa_cons (pe_bltn (v := .ty "LookupError") (by rfl) B.le (by decide +kernel) rfl) pa_nil)))) (pw_or (pt_val (pe_callB call_isX (by rfl) B.isi (by decide +kernel) (pa_cons (pv 0) (pa_cons (pe_bltn (v := .ty "TypeError") (by rfl) B.te (by decide +kernel) rfl) pa_nil)))) (pw_or1 (pt_val (pe_callB call_isX (by rfl) B.isi (by decide +kernel) (pa_cons (pv 0) (pa_cons (pe_bltn (v := .ty "ArithmeticError") (by rfl) B.ae (by decide +kernel) rfl) pa_nil)))))))) (pss_one (ps_ret pe_bl)) pss_nil)
      (pss_one (ps_ret (pe_and (pe_not (pe_callB call_isX (by rfl) B.isi (by decide +kernel) (pa_cons (pv 0) (pa_cons (pe_bltn (v := .ty "RuntimeError") (by rfl) B.re (by decide +kernel) rfl) pa_nil)))) (pe_one (pe_not (pe_callB call_isX (by rfl) B.isi (by decide +kernel) (pa_cons (pv 0) (pa_cons (pe_bltn (v := .ty "AttributeError") (by rfl) B.ate (by decide +kernel) rfl) pa_nil))))))))), ?_⟩
    refine ⟨_, rfl, a, i, x, od, rfl, hx, he, fun H1 p s1 hp => ?_⟩
    refine ⟨_, rfl, by show 2 ≤ sizeLine; decide, fun q hq => ?_⟩
    have s2 := same_new (o := .lst [.int i, .int 25]) hq
    have e2 := he.same (s1.trans s2)
    have ne : i ≠ 25 := by omega
    have hu : und i = [(i : Int), 25] := if_neg ne
    have d1 : Dp K (upd H1 q (.lst [.int i, .int 25])) (.ref p) (.list ((und i).map .int)) := dpI (s2 _ _ hp)
    have d2 : Dp K (upd H1 q (.lst [.int i, .int 25])) (.ref q) (.list ((und i).map .int)) := by
      rw [hu]
      exact dpI (is := [(i : Int), 25]) upd_same
    refine ⟨_, _, d1, d2, shI _, shI _, _, rfl, ?_⟩
    rw [SeqAt.eqv_refl _ (clL _)]
    refine iteF (isT k26 rfl hm (k26.t1 x hm) e2 ⟨_, rfl, iteF (isT k26 rfl hm (k26.t2 x hm) e2 ⟨_, rfl, iteF ?_⟩)⟩)
    refine isT k26 rfl hm (k26.t3 x hm) e2 ⟨_, rfl, iteF (isT k26 rfl hm (k26.t4 x hm) e2 ⟨_, rfl, iteF (isT k26 rfl hm (k26.t5 x hm) e2 ⟨_, rfl, iteF ?_⟩)⟩)⟩
    exact isT k26 rfl hm (k26.t6 x hm) e2 ⟨_, rfl, _, rfl, iteT (isT k26 rfl hm (k26.t7 x hm) e2 ⟨_, rfl, k _ (s1.trans s2)⟩)⟩
/-! ### the base -/
def spIsBase : Sp := fun vs H Q _ => vs = [] ∧ ∀ H', Same H H' → Q (.bl true) H'
theorem scIsBase : FnScope ["_law_base"] [] (defScope sIsBase) := ⟨rfl, rfl, rfl, by decide +kernel, rfl, by decide +kernel, by decide +kernel⟩
theorem ok_isbase {f fU : Addr} {fd fdU : FuncData} (F : Fun K "_law_is_base" "_law_is_base" sIsBase f fd) (B : Blt mg) (k26 : Kit K mg) (qS : PySem.W.excIn K (He.ga K "StageError") He.veBase "ValueError.__new__" = true)
    (FU : Fun K "_law_under" "_law_under" sUnder fU fdU) (bU : Binds K fdU ["_law_error"] []) (gU : mg "_law_under" = some (.ref fU)) : FnOk P w K mg base CX0 2 f fd [] spIsBase := by
  have GU : FnOk P w K mg base CX0 1 fU fdU ["_law_error"] (spUnder K) := ok_under FU B k26
  have hx : names[25]? = some ("StageError" : Str) := rfl
  have hm := mem_of hx
  refine F.ok scIsBase (fun vs H Q E h => ?_) (fun cdv A outer s H vs Q E hr h => ?_)
  · obtain ⟨rfl, _⟩ := h
    rfl
  · obtain ⟨rfl, k⟩ := h
    refine ⟨_, pss_cons (ps_set (i := 0) scIsBase.nd rfl (.inl rfl) (pe_mk0 (k26.ec _ hm) qS))
      (pss_cons (ps_if (PW.pt (pw_or (pt_cmpR (op_neD hr.units) (pe_call GU hr (by rfl) gU FU.kp bU .nil pass0 (pa_cons (pv 0) pa_nil)) (pe_lst (pa_cons pe_int pa_nil)) (nomark _)) (pw_or1 (pt_not (pt_val (pe_callB call_isX (by rfl) B.isi (by decide +kernel) (pa_cons (pv 0) (pa_cons (pe_bltn (v := .ty "ValueError") (by rfl) B.ve (by decide +kernel) rfl) pa_nil)))))))) (pss_one (ps_ret pe_bl)) pss_nil)
      (pss_one (ps_ret (pe_and (pe_not (pe_callB call_isX (by rfl) B.isi (by decide +kernel) (pa_cons (pv 0) (pa_cons (pe_bltn (v := .ty "LookupError") (by rfl) B.le (by decide +kernel) rfl) pa_nil)))) (pe_one (pe_not (pe_callB call_isX (by rfl) B.isi (by decide +kernel) (pa_cons (pv 0) (pa_cons (pe_bltn (v := .ty "TypeError") (by rfl) B.te (by decide +kernel) rfl) pa_nil))))))))), ?_⟩
    intro a ha
    have e0 : IsE K (upd H a (exo a (He.ga K "StageError") none)) a "StageError" none := ⟨upd_same, fun d z => nomatch z⟩
    refine ⟨_, rfl, a, 25, _, none, rfl, hx, e0, fun H1 p s1 hp => ?_⟩
    refine ⟨by show 1 ≤ sizeLine; decide, fun q hq => ?_⟩
    have s2 := same_new (o := .lst [.int 25]) hq
    have e2 := e0.same (s1.trans s2)
    have d1 : Dp K (upd H1 q (.lst [.int 25])) (.ref p) (.list ((und 25).map .int)) := dpI (s2 _ _ hp)
    have d2 : Dp K (upd H1 q (.lst [.int 25])) (.ref q) (.list ((und 25).map .int)) := dpI (is := [25]) upd_same
    refine ⟨_, _, d1, d2, shI _, shI _, _, rfl, ?_⟩
    rw [SeqAt.eqv_refl _ (clL _)]
    refine iteF (isT k26 rfl hm (k26.t1 _ hm) e2 ⟨_, rfl, iteF ?_⟩)
    exact isT k26 rfl hm (k26.t3 _ hm) e2 ⟨_, rfl, _, rfl, iteT (isT k26 rfl hm (k26.t4 _ hm) e2 ⟨_, rfl, k _ ((same_new ha).trans (s1.trans s2))⟩)⟩

end
end K1

namespace K1
open PySem PySem.Spec PyProof.Rows L2 GuL OwnE
section
variable {P : Program} {w : World} {K : PySem.W.Frag} {mg : Str → Option Value} {base : Heap}
/-! ### one of each -/
/-- an error of the class x with the field f = v stands at a -/
structure IsF (K : PySem.W.Frag) (H : Hp) (a : Addr) (x f : Str) (v : V) : Prop where
  ex : ∃ d, H a = some (exo a (He.ga K x) (some d)) ∧ H d = some (exd d [(f, v)])
theorem IsF.same {K : PySem.W.Frag} {H H' : Hp} {a : Addr} {x f : Str} {v : V} (h : IsF K H a x f v) (s : Same H H') : IsF K H' a x f v := by
  obtain ⟨d, h1, h2⟩ := h.ex
  exact ⟨d, s _ _ h1, s _ _ h2⟩
theorem IsF.isE {K : PySem.W.Frag} {H : Hp} {a : Addr} {x f : Str} {v : V} (h : IsF K H a x f v) : ∃ d, IsE K H a x (some d) := by
  obtain ⟨d, h1, h2⟩ := h.ex
  exact ⟨d, h1, fun e he => by
    cases he
    exact ⟨_, h2⟩⟩
/-- two of each class, one behind the other -/
def Twice (K : PySem.W.Frag) (H : Hp) (f : Str) (v : V) (xs : List Str) : List Addr → Prop
  | as => as.length = 2 * xs.length ∧ ∀ (j : Nat) (a : Addr), as[j]? = some a → ∃ x, xs[j / 2]? = some x ∧ IsF K H a x f v
/-- Addresses found so far, of the classes of cs -/
inductive Made (K : PySem.W.Frag) (H : Hp) (f : Str) (v : V) : List Addr → List Str → Prop
  | nil : Made K H f v [] []
  | cons {a : Addr} {x : Str} {as : List Addr} {xs : List Str} : IsF K H a x f v → Made K H f v as xs → Made K H f v (a :: as) (x :: xs)
theorem Made.same {K : PySem.W.Frag} {H H' : Hp} {f : Str} {v : V} (s : Same H H') : ∀ {as : List Addr} {xs : List Str}, Made K H f v as xs → Made K H' f v as xs
  | _, _, .nil => .nil
  | _, _, .cons h r => .cons (h.same s) (Made.same s r)
theorem Made.len {K : PySem.W.Frag} {H : Hp} {f : Str} {v : V} : ∀ {as : List Addr} {xs : List Str}, Made K H f v as xs → as.length = xs.length
  | _, _, .nil => rfl
  | _, _, .cons _ r => by rw [List.length_cons, List.length_cons, Made.len r]
theorem Made.get {K : PySem.W.Frag} {H : Hp} {f : Str} {v : V} : ∀ {as : List Addr} {xs : List Str} {j : Nat} {a : Addr}, Made K H f v as xs → as[j]? = some a → ∃ x, xs[j]? = some x ∧ IsF K H a x f v
  | _, _, 0, a, .cons h _, e => by
    simp at e
    subst e
    exact ⟨_, rfl, h⟩
  | _, _, j + 1, a, .cons _ r, e => by
    obtain ⟨x, q1, q2⟩ := Made.get (j := j) r (by simpa using e)
    exact ⟨x, by simpa using q1, q2⟩
/-- what an argument list of makings gives: a list of new errors of the classes xs, all that was tracked as it was -/
def Mks (K : PySem.W.Frag) (f : Str) (v : V) (xs : List Str) (σ : L2.St) (ta : TA) : Prop := ∀ (H : Hp) (Q : List V → Hp → Prop), (∀ as H', Same H H' → Made K H' f v as xs → Q (as.map V.ref) H') → ta σ H Q
theorem mks_nil {f : Str} {v : V} {σ : L2.St} : Mks K f v [] σ tNil := fun H Q q => q [] H (Same.refl H) .nil
theorem mks_given {x : Str} {xs : List Str} {v : V} {σ : L2.St} {ta : TA} (h0 : σ[0]? = some (some v)) (r : Mks K "given" v xs σ ta) : Mks K "given" v (x :: xs) σ (tCons (tMkgiven (He.ga K x) (tCons (tVar 0) tNil)) ta) := fun H Q q =>
  ⟨v, h0, v, rfl, fun a d na nd ne => by
    have s : Same H (upd (upd H d (exd d [("given", v)])) a (exo a (He.ga K x) (some d))) := fun b o e => by
      rw [upd_ne (ne_of_none e na), upd_ne (ne_of_none e nd)]
      exact e
    have m : IsF K (upd (upd H d (exd d [("given", v)])) a (exo a (He.ga K x) (some d))) a x "given" v := ⟨d, upd_same, by rw [upd_ne ne]; exact upd_same⟩
    exact r _ _ fun as H' s' mm => q (a :: as) H' (s.trans s') (.cons (m.same s') mm)⟩
theorem mks_index {x : Str} {xs : List Str} {v : V} {σ : L2.St} {ta : TA} (h0 : σ[0]? = some (some v)) (r : Mks K "index" v xs σ ta) : Mks K "index" v (x :: xs) σ (tCons (tMkindex (He.ga K x) (tCons (tVar 0) tNil)) ta) := fun H Q q =>
  ⟨v, h0, v, rfl, fun a d na nd ne => by
    have s : Same H (upd (upd H d (exd d [("index", v)])) a (exo a (He.ga K x) (some d))) := fun b o e => by
      rw [upd_ne (ne_of_none e na), upd_ne (ne_of_none e nd)]
      exact e
    have m : IsF K (upd (upd H d (exd d [("index", v)])) a (exo a (He.ga K x) (some d))) a x "index" v := ⟨d, upd_same, by rw [upd_ne ne]; exact upd_same⟩
    exact r _ _ fun as H' s' mm => q (a :: as) H' (s.trans s') (.cons (m.same s') mm)⟩
theorem mks_place {x : Str} {xs : List Str} {v : V} {σ : L2.St} {ta : TA} (h0 : σ[0]? = some (some v)) (r : Mks K "place" v xs σ ta) : Mks K "place" v (x :: xs) σ (tCons (tMkplace (He.ga K x) (tCons (tVar 0) tNil)) ta) := fun H Q q =>
  ⟨v, h0, v, rfl, fun a d na nd ne => by
    have s : Same H (upd (upd H d (exd d [("place", v)])) a (exo a (He.ga K x) (some d))) := fun b o e => by
      rw [upd_ne (ne_of_none e na), upd_ne (ne_of_none e nd)]
      exact e
    have m : IsF K (upd (upd H d (exd d [("place", v)])) a (exo a (He.ga K x) (some d))) a x "place" v := ⟨d, upd_same, by rw [upd_ne ne]; exact upd_same⟩
    exact r _ _ fun as H' s' mm => q (a :: as) H' (s.trans s') (.cons (m.same s') mm)⟩
theorem retLst {σ : L2.St} {H : Hp} {D : Ends} {ta : TA} (h : ta σ H fun xs H1 => xs.length ≤ sizeLine ∧ ∀ p, H1 p = none → D.rt (.ref p) (upd H1 p (.lst xs))) : tRet (tLst ta) D σ H := h
def gNames : List Str := ["InvalidWord", "InvalidNumber", "InvalidHeaders", "InvalidFrame", "InvalidPacket", "InvalidFields", "InvalidRest", "InvalidWay", "InvalidProgram", "InvalidContents", "InvalidCells", "InvalidFilling", "InvalidKeys", "InvalidForm", "InvalidUnits", "InvalidLayout", "InvalidChip", "TooMany"]
def iNames : List Str := ["InvalidPackets", "InvalidEntries", "InvalidWords", "InvalidComing", "InvalidLines"]
structure Inits (K : PySem.W.Frag) (mg : Str → Option Value) : Prop where
  g : ∀ x ∈ gNames, ∃ qn fI, PySem.OwnEgiven.EI K mg x qn (He.ga K x) fI
  i : ∀ x ∈ iNames, ∃ qn fI, PySem.OwnEindex.EI K mg x qn (He.ga K x) fI
  p : ∃ qn fI, PySem.OwnEplace.EI K mg "InvalidWriting" qn (He.ga K "InvalidWriting") fI
def dblGiven : List Str := "InvalidWord" :: "InvalidWord" :: "InvalidNumber" :: "InvalidNumber" :: "InvalidHeaders" :: "InvalidHeaders" :: "InvalidFrame" :: "InvalidFrame" :: "InvalidPacket" :: "InvalidPacket" :: "InvalidFields" :: "InvalidFields" :: "InvalidRest" :: "InvalidRest" :: "InvalidWay" :: "InvalidWay" :: "InvalidProgram" :: "InvalidProgram" :: "InvalidContents" :: "InvalidContents" :: "InvalidCells" :: "InvalidCells" :: "InvalidFilling" :: "InvalidFilling" :: "InvalidKeys" :: "InvalidKeys" :: "InvalidForm" :: "InvalidForm" :: "InvalidUnits" :: "InvalidUnits" :: "InvalidLayout" :: "InvalidLayout" :: "InvalidChip" :: "InvalidChip" :: "TooMany" :: "TooMany" :: []
def spGiven (K : PySem.W.Frag) : Sp := fun vs H Q _ => ∃ v : V, vs = [v] ∧ ∀ H' p as, Same H H' → H' p = some (.lst (as.map V.ref)) → Made K H' "given" v as dblGiven → Q (.ref p) H'
theorem scGiven : FnScope ["_law_thing_here"] ["_law_thing_here"] (defScope sGiven) := ⟨rfl, rfl, rfl, by decide +kernel, rfl, by decide +kernel, by decide +kernel⟩
theorem ok_given {f : Addr} {fd : FuncData} (F : Fun K "_law_given" "_law_given" sGiven f fd) (N : Inits K mg) : FnOk P w K mg base CX0 2 f fd ["_law_thing_here"] (spGiven K) := by
  refine F.ok scGiven (fun vs H Q E h => ?_) (fun cdv A outer s H vs Q E hr h => ?_)
  · obtain ⟨v, rfl, _⟩ := h
    rfl
  · obtain ⟨v, rfl, k⟩ := h
    obtain ⟨q0, f0, T0⟩ := N.g "InvalidWord" (List.mem_of_getElem? (i := 0) rfl)
    obtain ⟨q1, f1, T1⟩ := N.g "InvalidNumber" (List.mem_of_getElem? (i := 1) rfl)
    obtain ⟨q2, f2, T2⟩ := N.g "InvalidHeaders" (List.mem_of_getElem? (i := 2) rfl)
    obtain ⟨q3, f3, T3⟩ := N.g "InvalidFrame" (List.mem_of_getElem? (i := 3) rfl)
    obtain ⟨q4, f4, T4⟩ := N.g "InvalidPacket" (List.mem_of_getElem? (i := 4) rfl)
    obtain ⟨q5, f5, T5⟩ := N.g "InvalidFields" (List.mem_of_getElem? (i := 5) rfl)
    obtain ⟨q6, f6, T6⟩ := N.g "InvalidRest" (List.mem_of_getElem? (i := 6) rfl)
    obtain ⟨q7, f7, T7⟩ := N.g "InvalidWay" (List.mem_of_getElem? (i := 7) rfl)
    obtain ⟨q8, f8, T8⟩ := N.g "InvalidProgram" (List.mem_of_getElem? (i := 8) rfl)
    obtain ⟨q9, f9, T9⟩ := N.g "InvalidContents" (List.mem_of_getElem? (i := 9) rfl)
    obtain ⟨q10, f10, T10⟩ := N.g "InvalidCells" (List.mem_of_getElem? (i := 10) rfl)
    obtain ⟨q11, f11, T11⟩ := N.g "InvalidFilling" (List.mem_of_getElem? (i := 11) rfl)
    obtain ⟨q12, f12, T12⟩ := N.g "InvalidKeys" (List.mem_of_getElem? (i := 12) rfl)
    obtain ⟨q13, f13, T13⟩ := N.g "InvalidForm" (List.mem_of_getElem? (i := 13) rfl)
    obtain ⟨q14, f14, T14⟩ := N.g "InvalidUnits" (List.mem_of_getElem? (i := 14) rfl)
    obtain ⟨q15, f15, T15⟩ := N.g "InvalidLayout" (List.mem_of_getElem? (i := 15) rfl)
    obtain ⟨q16, f16, T16⟩ := N.g "InvalidChip" (List.mem_of_getElem? (i := 16) rfl)
    obtain ⟨q17, f17, T17⟩ := N.g "TooMany" (List.mem_of_getElem? (i := 17) rfl)
    refine ⟨_, pss_one (ps_ret (pe_lst (pa_cons (pe_mkgiven T0 hr (pa_cons (pv 0) pa_nil)) (pa_cons (pe_kwgiven T0 hr (pk_cons (pv 0) pk_nil)) (pa_cons (pe_mkgiven T1 hr (pa_cons (pv 0) pa_nil)) (pa_cons (pe_kwgiven T1 hr (pk_cons (pv 0) pk_nil)) (pa_cons (pe_mkgiven T2 hr (pa_cons (pv 0) pa_nil)) (pa_cons (pe_kwgiven T2 hr (pk_cons (pv 0) pk_nil)) (pa_cons (pe_mkgiven T3 hr (pa_cons (pv 0) pa_nil)) (pa_cons (pe_kwgiven T3 hr (pk_cons (pv 0) pk_nil)) (pa_cons (pe_mkgiven T4 hr (pa_cons (pv 0) pa_nil)) (pa_cons (pe_kwgiven T4 hr (pk_cons (pv 0) pk_nil)) (pa_cons (pe_mkgiven T5 hr (pa_cons (pv 0) pa_nil)) (pa_cons (pe_kwgiven T5 hr (pk_cons (pv 0) pk_nil)) (pa_cons (pe_mkgiven T6 hr (pa_cons (pv 0) pa_nil)) (pa_cons (pe_kwgiven T6 hr (pk_cons (pv 0) pk_nil)) (pa_cons (pe_mkgiven T7 hr (pa_cons (pv 0) pa_nil)) (pa_cons (pe_kwgiven T7 hr (pk_cons (pv 0) pk_nil)) (pa_cons (pe_mkgiven T8 hr (pa_cons (pv 0) pa_nil)) (pa_cons (pe_kwgiven T8 hr (pk_cons (pv 0) pk_nil)) (pa_cons (pe_mkgiven T9 hr (pa_cons (pv 0) pa_nil)) (pa_cons (pe_kwgiven T9 hr (pk_cons (pv 0) pk_nil)) (pa_cons (pe_mkgiven T10 hr (pa_cons (pv 0) pa_nil)) (pa_cons (pe_kwgiven T10 hr (pk_cons (pv 0) pk_nil)) (pa_cons (pe_mkgiven T11 hr (pa_cons (pv 0) pa_nil)) (pa_cons (pe_kwgiven T11 hr (pk_cons (pv 0) pk_nil)) (pa_cons (pe_mkgiven T12 hr (pa_cons (pv 0) pa_nil)) (pa_cons (pe_kwgiven T12 hr (pk_cons (pv 0) pk_nil)) (pa_cons (pe_mkgiven T13 hr (pa_cons (pv 0) pa_nil)) (pa_cons (pe_kwgiven T13 hr (pk_cons (pv 0) pk_nil)) (pa_cons (pe_mkgiven T14 hr (pa_cons (pv 0) pa_nil)) (pa_cons (pe_kwgiven T14 hr (pk_cons (pv 0) pk_nil)) (pa_cons (pe_mkgiven T15 hr (pa_cons (pv 0) pa_nil)) (pa_cons (pe_kwgiven T15 hr (pk_cons (pv 0) pk_nil)) (pa_cons (pe_mkgiven T16 hr (pa_cons (pv 0) pa_nil)) (pa_cons (pe_kwgiven T16 hr (pk_cons (pv 0) pk_nil)) (pa_cons (pe_mkgiven T17 hr (pa_cons (pv 0) pa_nil)) (pa_cons (pe_kwgiven T17 hr (pk_cons (pv 0) pk_nil)) pa_nil)))))))))))))))))))))))))))))))))))))), ?_⟩
    have M : Mks K "given" v dblGiven (start ["_law_thing_here"] [v]) _ := (mks_given rfl (mks_given rfl (mks_given rfl (mks_given rfl (mks_given rfl (mks_given rfl (mks_given rfl (mks_given rfl (mks_given rfl (mks_given rfl (mks_given rfl (mks_given rfl (mks_given rfl (mks_given rfl (mks_given rfl (mks_given rfl (mks_given rfl (mks_given rfl (mks_given rfl (mks_given rfl (mks_given rfl (mks_given rfl (mks_given rfl (mks_given rfl (mks_given rfl (mks_given rfl (mks_given rfl (mks_given rfl (mks_given rfl (mks_given rfl (mks_given rfl (mks_given rfl (mks_given rfl (mks_given rfl (mks_given rfl (mks_given rfl mks_nil))))))))))))))))))))))))))))))))))))
    refine retLst (M H _ fun as H1 s1 mm => ⟨?_, fun p hp => ?_⟩)
    · rw [List.length_map, mm.len]
      show 36 ≤ sizeLine
      decide
    · have sp := same_new (o := .lst (as.map V.ref)) hp
      exact k _ p as (s1.trans sp) upd_same (mm.same sp)
def dblIndexed : List Str := "InvalidPackets" :: "InvalidPackets" :: "InvalidEntries" :: "InvalidEntries" :: "InvalidWords" :: "InvalidWords" :: "InvalidComing" :: "InvalidComing" :: "InvalidLines" :: "InvalidLines" :: []
def spIndexed (K : PySem.W.Frag) : Sp := fun vs H Q _ => ∃ v : V, vs = [v] ∧ ∀ H' p as, Same H H' → H' p = some (.lst (as.map V.ref)) → Made K H' "index" v as dblIndexed → Q (.ref p) H'
theorem scIndexed : FnScope ["_law_thing_here"] ["_law_thing_here"] (defScope sIndexed) := ⟨rfl, rfl, rfl, by decide +kernel, rfl, by decide +kernel, by decide +kernel⟩
theorem ok_indexed {f : Addr} {fd : FuncData} (F : Fun K "_law_indexed" "_law_indexed" sIndexed f fd) (N : Inits K mg) : FnOk P w K mg base CX0 2 f fd ["_law_thing_here"] (spIndexed K) := by
  refine F.ok scIndexed (fun vs H Q E h => ?_) (fun cdv A outer s H vs Q E hr h => ?_)
  · obtain ⟨v, rfl, _⟩ := h
    rfl
  · obtain ⟨v, rfl, k⟩ := h
    obtain ⟨q0, f0, T0⟩ := N.i "InvalidPackets" (List.mem_of_getElem? (i := 0) rfl)
    obtain ⟨q1, f1, T1⟩ := N.i "InvalidEntries" (List.mem_of_getElem? (i := 1) rfl)
    obtain ⟨q2, f2, T2⟩ := N.i "InvalidWords" (List.mem_of_getElem? (i := 2) rfl)
    obtain ⟨q3, f3, T3⟩ := N.i "InvalidComing" (List.mem_of_getElem? (i := 3) rfl)
    obtain ⟨q4, f4, T4⟩ := N.i "InvalidLines" (List.mem_of_getElem? (i := 4) rfl)
    refine ⟨_, pss_one (ps_ret (pe_lst (pa_cons (pe_mkindex T0 hr (pa_cons (pv 0) pa_nil)) (pa_cons (pe_kwindex T0 hr (pk_cons (pv 0) pk_nil)) (pa_cons (pe_mkindex T1 hr (pa_cons (pv 0) pa_nil)) (pa_cons (pe_kwindex T1 hr (pk_cons (pv 0) pk_nil)) (pa_cons (pe_mkindex T2 hr (pa_cons (pv 0) pa_nil)) (pa_cons (pe_kwindex T2 hr (pk_cons (pv 0) pk_nil)) (pa_cons (pe_mkindex T3 hr (pa_cons (pv 0) pa_nil)) (pa_cons (pe_kwindex T3 hr (pk_cons (pv 0) pk_nil)) (pa_cons (pe_mkindex T4 hr (pa_cons (pv 0) pa_nil)) (pa_cons (pe_kwindex T4 hr (pk_cons (pv 0) pk_nil)) pa_nil)))))))))))), ?_⟩
    have M : Mks K "index" v dblIndexed (start ["_law_thing_here"] [v]) _ := (mks_index rfl (mks_index rfl (mks_index rfl (mks_index rfl (mks_index rfl (mks_index rfl (mks_index rfl (mks_index rfl (mks_index rfl (mks_index rfl mks_nil))))))))))
    refine retLst (M H _ fun as H1 s1 mm => ⟨?_, fun p hp => ?_⟩)
    · rw [List.length_map, mm.len]
      show 10 ≤ sizeLine
      decide
    · have sp := same_new (o := .lst (as.map V.ref)) hp
      exact k _ p as (s1.trans sp) upd_same (mm.same sp)
end
end K1

namespace K1
open PySem PySem.Spec PyProof.Rows L2 GuL OwnE
abbrev sRight : Stmt := topS 37
abbrev sLaw : Stmt := topS 38
theorem sameT {K : PySem.W.Frag} {H H' : Hp} {a : Addr} {xs : List V} (e : Same H H') (h : SqT K H a xs) : SqT K H' a xs := by
  rcases h with (h | ⟨o, h⟩) | h
  · exact .inl (.inl (e _ _ h))
  · exact .inl (.inr ⟨o, e _ _ h⟩)
  · exact .inr h
mutual
theorem dpSame {K : PySem.W.Frag} {H H' : Hp} (e : Same H H') : ∀ {v : V} {d : PyData}, Dp K H v d → Dp K H' v d
  | _, _, .non => .non
  | _, _, .bl b => .bl b
  | _, _, .int i => .int i
  | _, _, .str x => .str x
  | _, _, .lst h r => .lst (e.seq h) (dpSameAll e r)
  | _, _, .tup h r => .tup (sameT e h) (dpSameAll e r)
theorem dpSameAll {K : PySem.W.Frag} {H H' : Hp} (e : Same H H') : ∀ {vs : List V} {ds : List PyData}, DpAll K H vs ds → DpAll K H' vs ds
  | _, _, .nil => .nil
  | _, _, .cons h r => .cons (dpSame e h) (dpSameAll e r)
end
theorem shdSame {K : PySem.W.Frag} {H H' : Hp} (e : Same H H') {v : V} {d : PyData} : Shd K H v d → Shd K H' v d
  | .dat h n => .dat (dpSame e h) n
  | .emp h => .emp (e _ _ h)
section
variable {P : Program} {w : World} {K : PySem.W.Frag} {mg : Str → Option Value} {base : Heap}
theorem dblG : ∀ n, n < 36 → dblGiven[n]? = names[n / 2]? := by decide +kernel
theorem dblI : ∀ n, n < 10 → dblIndexed[n]? = names[18 + n / 2]? := by decide +kernel
theorem dblG_in : ∀ x ∈ dblGiven, x ∈ gNames := by decide +kernel
theorem dblI_in : ∀ x ∈ dblIndexed, x ∈ iNames := by decide +kernel
theorem same_new2 {K : PySem.W.Frag} {H : Hp} {a d : Addr} {x f : Str} {v : V} (na : H a = none) (nd : H d = none) : Same H (upd (upd H d (exd d [(f, v)])) a (exo a (He.ga K x) (some d))) := fun b o e => by
  rw [upd_ne (ne_of_none e na), upd_ne (ne_of_none e nd)]
  exact e
theorem isF_new {K : PySem.W.Frag} {H : Hp} {a d : Addr} {x f : Str} {v : V} (na : H a = none) (nd : H d = none) (ne : d ≠ a) : IsF K (upd (upd H d (exd d [(f, v)])) a (exo a (He.ga K x) (some d))) a x f v :=
  ⟨d, upd_same, by rw [upd_ne ne]; exact upd_same⟩
def spRight (K : PySem.W.Frag) : Sp := fun vs H Q _ => ∃ (b : Addr) (o m c : Int), vs = [.ref b] ∧ H b = some (bw o m c) ∧ 0 ≤ o ∧ ∀ H', Exb b H H' → Q (.bl true) H'
theorem scRight : FnScope ["_law_bowl_here", "_law_thing_here", "_law_due", "_law_at", "_law_error"] ["_law_bowl_here"] (defScope sRight) := ⟨rfl, rfl, rfl, by decide +kernel, rfl, by decide +kernel, by decide +kernel⟩
/-- what stands in a right answer's way: each def, where it stands -/
structure Fns (K : PySem.W.Frag) (mg : Str → Option Value) (fT fG fI fS fB : Addr) (fdT fdG fdI fdS fdB : FuncData) : Prop where
  FT : Fun K "_law_thing" "_law_thing" sThing fT fdT
  bT : Binds K fdT ["_law_bowl_here"] []
  gT : mg "_law_thing" = some (.ref fT)
  FG : Fun K "_law_given" "_law_given" sGiven fG fdG
  bG : Binds K fdG ["_law_thing_here"] []
  gG : mg "_law_given" = some (.ref fG)
  FI : Fun K "_law_indexed" "_law_indexed" sIndexed fI fdI
  bI : Binds K fdI ["_law_thing_here"] []
  gI : mg "_law_indexed" = some (.ref fI)
  FS : Fun K "_law_stands" "_law_stands" sStands fS fdS
  bS : Binds K fdS ["_law_error", "_law_number"] []
  gS : mg "_law_stands" = some (.ref fS)
  FB : Fun K "_law_is_base" "_law_is_base" sIsBase fB fdB
  bB : Binds K fdB [] []
  gB : mg "_law_is_base" = some (.ref fB)
theorem ok_right {f fT fG fI fS fB : Addr} {fd fdT fdG fdI fdS fdB : FuncData} (F : Fun K "_law_right" "_law_right" sRight f fd) (B : Blt mg) (k26 : Kit K mg) (N : Inits K mg) (qN : PySem.W.excIn K (He.ga K "NotShown") He.veBase "ValueError.__new__" = true) (Z : Fns K mg fT fG fI fS fB fdT fdG fdI fdS fdB)
    (GT : FnOk P w K mg base CX0 3 fT fdT ["_law_bowl_here"] (spThing K)) (GG : FnOk P w K mg base CX0 2 fG fdG ["_law_thing_here"] (spGiven K)) (GI : FnOk P w K mg base CX0 2 fI fdI ["_law_thing_here"] (spIndexed K))
    (GS : FnOk P w K mg base CX0 2 fS fdS ["_law_error", "_law_number"] (spStands K)) (GB : FnOk P w K mg base CX0 2 fB fdB [] spIsBase) : FnG P w K mg base CX0 4 f fd ["_law_bowl_here"] (spRight K) := by
  refine okG F scRight (fun vs H Q E h => ?_) (fun cdv A outer s H vs Q E hA hr h => ?_)
  · obtain ⟨b, o, m, c, rfl, _⟩ := h
    rfl
  · obtain ⟨b, o, m, c, rfl, hb, ho, k⟩ := h
    have hr2 : Room 2 _ := hr.mono (by decide)
    obtain ⟨qp, fp, TP⟩ := N.p
    refine ⟨_, pss_cons (ps_set (i := 1) scRight.nd rfl (.inl rfl) (pe_call GT hr (by rfl) Z.gT Z.FT.kp Z.bT .nil pass0 (pa_cons (pv 0) pa_nil)))
      (pss_cons (ps_set (i := 2) scRight.nd rfl (.inl rfl) (pe_callB (call_repr hA hr.units) (by rfl) B.repr (by decide +kernel) (pa_cons (pv 1) pa_nil)))
      (pss_cons (ps_for PassesOwn.never rfl (pi_enum (by rfl) B.enum (pa_cons (pe_call GG hr2 (by rfl) Z.gG Z.FG.kp Z.bG .nil pass0 (pa_cons (pv 1) pa_nil)) pa_nil)) (pg_tup rfl (pgs_cons (pg_name (i := 3) scRight.nd rfl (.inl rfl)) (pgs_cons (pg_name (i := 4) scRight.nd rfl (.inl rfl)) pgs_nil)))
        (pss_one (ps_if (PW.pt (pw_or (pt_not (pt_val (pe_call GS hr2 (by rfl) Z.gS Z.FS.kp Z.bS .nil pass0 (pa_cons (pv 4) (pa_cons (pe_op op_fdiv (pv 3) pe_int) pa_nil)))))
          (pw_or1 (pt_cmpR op_ne (pe_callB (call_repr hA hr.units) (by rfl) B.repr (by decide +kernel) (pa_cons (pe_exF (pv 4)) pa_nil)) (pv 2) (nomark _))))) (pss_one (ps_ret pe_bl)) pss_nil)))
      (pss_cons (ps_for PassesOwn.never rfl (pi_enum (by rfl) B.enum (pa_cons (pe_call GI hr2 (by rfl) Z.gI Z.FI.kp Z.bI .nil pass0 (pa_cons (pv 1) pa_nil)) pa_nil)) (pg_tup rfl (pgs_cons (pg_name (i := 3) scRight.nd rfl (.inl rfl)) (pgs_cons (pg_name (i := 4) scRight.nd rfl (.inl rfl)) pgs_nil)))
        (pss_one (ps_if (PW.pt (pw_or (pt_not (pt_val (pe_call GS hr2 (by rfl) Z.gS Z.FS.kp Z.bS .nil pass0 (pa_cons (pv 4) (pa_cons (pe_op op_add pe_int (pe_op op_fdiv (pv 3) pe_int)) pa_nil)))))
          (pw_or1 (pt_cmpR op_ne (pe_callB (call_repr hA hr.units) (by rfl) B.repr (by decide +kernel) (pa_cons (pe_exF (pv 4)) pa_nil)) (pv 2) (nomark _))))) (pss_one (ps_ret pe_bl)) pss_nil)))
      (pss_cons (ps_for PassesOwn.never rfl (pi_list (pe_lst (pa_cons (pe_mkplace TP hr (pa_cons (pv 1) pa_nil)) (pa_cons (pe_kwplace TP hr (pk_cons (pv 1) pk_nil)) pa_nil)))) (pg_name (i := 4) scRight.nd rfl (.inl rfl))
        (pss_one (ps_if (PW.pt (pw_or (pt_not (pt_val (pe_call GS hr2 (by rfl) Z.gS Z.FS.kp Z.bS .nil pass0 (pa_cons (pv 4) (pa_cons pe_int pa_nil)))))
          (pw_or1 (pt_cmpR op_ne (pe_callB (call_repr hA hr.units) (by rfl) B.repr (by decide +kernel) (pa_cons (pe_exF (pv 4)) pa_nil)) (pv 2) (nomark _))))) (pss_one (ps_ret pe_bl)) pss_nil)))
      (pss_one (ps_ret (pe_and (pe_call GS hr2 (by rfl) Z.gS Z.FS.kp Z.bS .nil pass0 (pa_cons (pe_mk0 (k26.ec _ (mem_of (i := 24) rfl)) qN) (pa_cons pe_int pa_nil))) (pe_one (pe_call0 GB hr2 (by rfl) Z.gB Z.FB.kp Z.bB .nil pass0))))))))), ?_⟩
    refine ⟨_, rfl, b, o, m, c, rfl, hb, ho, fun H1 v d o1 m1 c1 e1 hb1 ho1 hv hd => ?_⟩
    refine ⟨_, rfl, v, d, rfl, hv, hd.sh, hd.dp, hd.fits, ?_⟩
    refine ⟨_, rfl, v, rfl, fun HG pG asG sG hG mmG => ⟨pG, asG.map V.ref, rfl, SqL.of hG, for_it (walk_enum (K := K) (a := pG) (xs := asG.map V.ref))
      (fun n σ H' => ∃ y3 y4 : Option V, σ = [some (.ref b), some v, some (.str d.shown), y3, y4] ∧ Same HG H') ⟨_, _, rfl, Same.refl _⟩ (fun n σ H' _ ⟨_, _, _, q⟩ => SqL.of (q _ _ hG)) ?_ ?_⟩⟩
    · rintro n y σ H3 H4 hn ⟨y3, y4, rfl, q3⟩ ⟨T, z1, z2, rfl, hT, rfl, w1, w2⟩
      have w1' : z1 = .int (n : Nat) := (Option.some.inj w1).symm
      subst w1'
      obtain ⟨an, han, rfl⟩ : ∃ an, asG[n]? = some an ∧ z2 = .ref an := by
        have w3 : (asG.map V.ref)[n]? = some z2 := w2
        rw [List.getElem?_map] at w3
        obtain ⟨an, e1, e2⟩ := Option.map_eq_some_iff.mp w3
        exact ⟨an, e1, e2.symm⟩
      have n36 : n < 36 := by
        have e := mmG.len
        have e2 : dblGiven.length = 36 := by decide +kernel
        have e3 := (List.getElem?_eq_some_iff.mp han).1
        omega
      obtain ⟨x, hx, ix⟩ := mmG.get han
      have hx2 : names[(n / 2)]? = some x := (dblG n n36).symm.trans hx
      obtain ⟨qx, fx, Tx⟩ := N.g x (dblG_in x (List.mem_of_getElem? hx))
      have sT := same_new (o := .tup [.int (n : Nat), .ref an]) hT
      have ix4 := ix.same (q3.trans sT)
      obtain ⟨dd, ie⟩ := ix4.isE
      refine ⟨T, _, rfl, SqT.of upd_same, rfl, _, _, rfl, _, _, rfl, rfl, ?_⟩
      refine ⟨_, rfl, _, rfl, _, _, rfl, rfl, ⟨by decide, by decide⟩, an, (n / 2), x, some dd, ?_, by omega, hx2, ie, fun H5 s5 => ⟨true, rfl, iteF ?_⟩⟩
      · show [V.ref an, V.int ((n : Int) / 2)] = [V.ref an, V.int (((n / 2) : Nat) : Int)]
        have e : (((n / 2) : Nat) : Int) = (n : Int) / 2 := by omega
        rw [e]
      · obtain ⟨d5, i1, i2⟩ := (ix4.same s5).ex
        refine ⟨_, rfl, an, _, d5, mg, x, v, rfl, Tx.toEC, Tx.dct, Tx.no, i1, i2, v, d, rfl, shdSame (sG.trans (q3.trans (sT.trans s5))) hv, hd.sh, hd.dp, hd.fits, ?_⟩
        refine ⟨_, rfl, rfl, _, rfl, iteNS rfl ?_⟩
        exact ⟨_, _, rfl, q3.trans (sT.trans s5)⟩
    rintro σ HG' ⟨y3, y4, rfl, qHG⟩
    have tG := sG.trans qHG
    refine ⟨_, rfl, v, rfl, fun HI pI asI sI hI mmI => ⟨pI, asI.map V.ref, rfl, SqL.of hI, for_it (walk_enum (K := K) (a := pI) (xs := asI.map V.ref))
      (fun n σ H' => ∃ y3 y4 : Option V, σ = [some (.ref b), some v, some (.str d.shown), y3, y4] ∧ Same HI H') ⟨_, _, rfl, Same.refl _⟩ (fun n σ H' _ ⟨_, _, _, q⟩ => SqL.of (q _ _ hI)) ?_ ?_⟩⟩
    · rintro n y σ H3 H4 hn ⟨y3, y4, rfl, q3⟩ ⟨T, z1, z2, rfl, hT, rfl, w1, w2⟩
      have w1' : z1 = .int (n : Nat) := (Option.some.inj w1).symm
      subst w1'
      obtain ⟨an, han, rfl⟩ : ∃ an, asI[n]? = some an ∧ z2 = .ref an := by
        have w3 : (asI.map V.ref)[n]? = some z2 := w2
        rw [List.getElem?_map] at w3
        obtain ⟨an, e1, e2⟩ := Option.map_eq_some_iff.mp w3
        exact ⟨an, e1, e2.symm⟩
      have n10 : n < 10 := by
        have e := mmI.len
        have e2 : dblIndexed.length = 10 := by decide +kernel
        have e3 := (List.getElem?_eq_some_iff.mp han).1
        omega
      obtain ⟨x, hx, ix⟩ := mmI.get han
      have hx2 : names[(18 + n / 2)]? = some x := (dblI n n10).symm.trans hx
      obtain ⟨qx, fx, Tx⟩ := N.i x (dblI_in x (List.mem_of_getElem? hx))
      have sT := same_new (o := .tup [.int (n : Nat), .ref an]) hT
      have ix4 := ix.same (q3.trans sT)
      obtain ⟨dd, ie⟩ := ix4.isE
      refine ⟨T, _, rfl, SqT.of upd_same, rfl, _, _, rfl, _, _, rfl, rfl, ?_⟩
      refine ⟨_, rfl, _, rfl, _, _, rfl, rfl, ⟨by decide, by decide⟩, _, _, rfl, rfl, an, (18 + n / 2), x, some dd, ?_, by omega, hx2, ie, fun H5 s5 => ⟨true, rfl, iteF ?_⟩⟩
      · show [V.ref an, V.int (18 + (n : Int) / 2)] = [V.ref an, V.int (((18 + n / 2) : Nat) : Int)]
        have e : (((18 + n / 2) : Nat) : Int) = 18 + (n : Int) / 2 := by omega
        rw [e]
      · obtain ⟨d5, i1, i2⟩ := (ix4.same s5).ex
        refine ⟨_, rfl, an, _, d5, mg, x, v, rfl, Tx.toEC, Tx.dct, Tx.no, i1, i2, v, d, rfl, shdSame ((tG.trans sI).trans (q3.trans (sT.trans s5))) hv, hd.sh, hd.dp, hd.fits, ?_⟩
        refine ⟨_, rfl, rfl, _, rfl, iteNS rfl ?_⟩
        exact ⟨_, _, rfl, q3.trans (sT.trans s5)⟩
    rintro σ HI' ⟨y3, y4, rfl, qHI⟩
    have tI := (tG.trans sI).trans qHI
    refine ⟨v, rfl, v, rfl, fun a1 d1 na1 nd1 ne1 => ⟨v, rfl, v, rfl, fun a2 d2 na2 nd2 ne2 => ⟨(by show 2 ≤ sizeLine; decide), fun p hp => ?_⟩⟩⟩
    have m1 := isF_new (K := K) (x := "InvalidWriting") (f := "place") (v := v) na1 nd1 ne1
    have m2 := isF_new (K := K) (x := "InvalidWriting") (f := "place") (v := v) na2 nd2 ne2
    have j1 := same_new2 (K := K) (x := "InvalidWriting") (f := "place") (v := v) na1 nd1
    have j2 := same_new2 (K := K) (x := "InvalidWriting") (f := "place") (v := v) na2 nd2
    have jp := same_new (o := .lst [.ref a1, .ref a2]) hp
    have all2 := (show ∀ y ∈ [V.ref a1, V.ref a2], ∃ a, y = .ref a ∧ IsF K _ a "InvalidWriting" "place" v from fun y hy => by
      simp only [List.mem_cons, List.not_mem_nil, or_false] at hy
      rcases hy with rfl | rfl
      · exact ⟨a1, rfl, (m1.same j2).same jp⟩
      · exact ⟨a2, rfl, m2.same jp⟩)
    have tP := tI.trans (j1.trans (j2.trans jp))
    refine ⟨p, rfl, ⟨_, SqL.of upd_same⟩, for_list (K := K) (a := p) (xs := [.ref a1, .ref a2]) (fun n σ H' => ∃ y3 y4 : Option V, σ = [some (.ref b), some v, some (.str d.shown), y3, y4] ∧ Same _ H') ⟨_, _, rfl, Same.refl _⟩ (fun n σ H' _ ⟨_, _, _, q⟩ => SqL.of (q _ _ upd_same)) ?_ ?_⟩
    · rintro n y σ H3 hn ⟨y3, y4, rfl, q3⟩
      obtain ⟨an, rfl, ix⟩ := all2 y (List.mem_of_getElem? hn)
      have ix4 := ix.same q3
      obtain ⟨dd, ie⟩ := ix4.isE
      refine ⟨_, rfl, an, 23, "InvalidWriting", some dd, rfl, by decide, rfl, ie, fun H5 s5 => ⟨true, rfl, iteF ?_⟩⟩
      obtain ⟨d5, i1, i2⟩ := (ix4.same s5).ex
      refine ⟨_, rfl, an, _, d5, mg, _, v, rfl, TP.toEC, TP.dct, TP.no, i1, i2, v, d, rfl, shdSame (tP.trans (q3.trans s5)) hv, hd.sh, hd.dp, hd.fits, ?_⟩
      refine ⟨_, rfl, rfl, _, rfl, iteNS rfl ?_⟩
      exact ⟨_, _, rfl, q3.trans s5⟩
    rintro σ H6 ⟨y3, y4, rfl, q6⟩
    intro a ha
    have ea : IsE K (upd H6 a (exo a (He.ga K "NotShown") none)) a "NotShown" none := ⟨upd_same, fun d z => nomatch z⟩
    refine ⟨a, 24, "NotShown", none, rfl, by decide, rfl, ea, fun H7 s7 => ⟨true, rfl, iteT ⟨rfl, fun H8 s8 => k H8 ?_⟩⟩⟩
    exact e1.trans (Exb.of (tP.trans (q6.trans ((same_new ha).trans (s7.trans s8)))))
end
end K1

namespace K1
open PySem PySem.Spec PyProof.Rows L2 GuL OwnE
section
variable {P : Program} {w : World} {K : PySem.W.Frag} {mg : Str → Option Value} {base : Heap}
def spLaw (K : PySem.W.Frag) : Sp := fun vs H Q _ => ∃ (a : Addr) (ns : List Int), vs = [.ref a] ∧ SqL K H a (ns.map V.int) ∧ ns.length ≤ 63 ∧ ∀ H', Q (.bl true) H'
theorem scLaw : FnScope ["_law_script", "_law_turn"] ["_law_script"] (defScope sLaw) := ⟨rfl, rfl, rfl, by decide +kernel, rfl, by decide +kernel, by decide +kernel⟩
theorem same_exb {H H1 H2 : Hp} {p : Addr} (s : Same H H1) (n : H p = none) (e : Exb p H1 H2) : Same H H2 := fun b o h => e b o (ne_of_none h n) (s b o h)
theorem ok_law {f fR fB : Addr} {fd fdR fdB : FuncData} (F : Fun K "law" "law" sLaw f fd) (B : Blt mg) (FR : Fun K "_law_right" "_law_right" sRight fR fdR) (bR : Binds K fdR ["_law_bowl_here"] []) (gR : mg "_law_right" = some (.ref fR)) (GR : FnG P w K mg base CX0 4 fR fdR ["_law_bowl_here"] (spRight K))
    (FB : Fun K "_law_bowl" "_law_bowl" sBowl fB fdB) (bB : Binds K fdB ["_law_script", "_law_turn"] []) (gB : mg "_law_bowl" = some (.ref fB)) : FnG P w K mg base CX0 5 f fd ["_law_script"] (spLaw K) := by
  have GB : FnOk P w K mg base CX0 1 fB fdB ["_law_script", "_law_turn"] (spBowl K) := ok_bowl FB B
  refine okG F scLaw (fun vs H Q E h => ?_) (fun cdv A outer s H vs Q E hA hr h => ?_)
  · obtain ⟨a, ns, rfl, _⟩ := h
    rfl
  · obtain ⟨a, ns, rfl, hS, hlen, k⟩ := h
    have hr1 : Room 1 _ := hr.mono (by decide)
    refine ⟨_, pss_one (ps_ret (pe_callB (cr_all rfl) (by rfl) B.all (by decide +kernel) (pa_cons
      (pe_lc (own := [("_law_turn", 1)]) (g := gName 1) (tt := tYes) rfl scLaw.nd (pi_range1 (by rfl) B.range (pa_cons (pe_callB (call_max2 rfl) (by rfl) B.max (by decide +kernel) (pa_cons pe_int (pa_cons (pe_callB (call_min2 rfl) (by rfl) B.min (by decide +kernel)
          (pa_cons (pe_callB call_len_seq (by rfl) B.len PySem.boot_len (pa_cons (pv 0) pa_nil)) (pa_cons pe_int pa_nil))) pa_nil))) pa_nil))
        (blkOk_by (N := ["_law_script", "_law_turn"]) (sc := defScope sLaw) (by decide +kernel)) (fun _ _ _ _ _ => pg_name (i := 1) scLaw.nd rfl (Or.inl rfl)) (fun _ _ _ _ _ => pts_nil)
        (fun _ _ _ _ _ => pe_callG GR hA hr (by rfl) gR FR.kp bR .nil pass0 (pa_cons (pe_call GB hr1 (by rfl) gB FB.kp bB .nil pass0 (pa_cons (pv 0) (pa_cons (pv 1) pa_nil))) pa_nil))) pa_nil))), ?_⟩
    refine ⟨_, rfl, a, _, rfl, .inl hS, _, _, rfl, _, _, rfl, _, rfl, ?_, ?_, fun D hD => ?_⟩
    · split <;> split <;> omega
    · split <;> split <;> omega
    refine lc_range (lo := 0) (fun i H' => Same H H' ∧ H' D = some (.lst ((List.replicate i true).map V.bl))) ⟨same_new hD, upd_same⟩ ?_ ?_
    · rintro i H1 hi ⟨s1, f1⟩
      have i3 : i ≤ 1000 := by
        have : i < 1000 := by
          revert hi
          split <;> split <;> omega
        omega
      refine ⟨rfl, _, rfl, _, rfl, a, ns, _, rfl, s1.seq hS, hlen, by omega, fun H2 p o m s2 np fp ho => ?_⟩
      refine ⟨p, o, m, 0, rfl, fp, ho, fun H3 e3 => ?_⟩
      have nDp : D ≠ p := ne_of_none f1 np
      have np0 : H p = none := s1.free np
      have f3 : H3 D = some (.lst ((List.replicate i true).map V.bl)) := e3 _ _ nDp (s2 _ _ f1)
      refine ⟨_, f3, ?_, fun b u e => ?_, ?_⟩
      · rw [List.length_map, List.length_replicate]
        exact small1000 i3
      · rw [upd_ne (ne_of_none e hD)]
        exact same_exb (s1.trans s2) np0 e3 _ _ e
      · rw [upd_same, List.replicate_succ', List.map_append]
        rfl
    · rintro H1 ⟨s1, f1⟩
      refine ⟨D, _, rfl, SqL.of f1, ?_⟩
      have e : ∀ n : Nat, (List.replicate n true).all id = true := fun n => by simp
      rw [e]
      exact k _
/-! ### what the top has written -/
theorem ga_of {K : PySem.W.Frag} {x : Str} {C : Addr} (a : PySem.W.nsIn K mainGlobals x = some (some (.ref C))) : He.ga K x = C := by
  unfold He.ga
  rw [a]
def eiB (f : Str) (K : PySem.W.Frag) (x : Str) : Bool := PySem.W.excInitIn K (He.ga K x) He.veBase "ValueError.__new__" && ((PySem.W.clsIn K (He.ga K x)).any (fun cd => PySem.HandSPX.refsVE cd.mro && cd.hasDict) && (PySem.W.hasDictIn K (He.ga K x) &&
  (decide (PySem.W.findIn K (.ref (He.ga K x)) "__setattr__" = some (some (.builtin "object.__setattr__"))) && decide (PySem.W.findIn K (.ref (He.ga K x)) f = some none))))
theorem ei_given {h : Heap} {mg : Str → Option Value} (T : Kit K mg) {x qn : Str} {C fI : Addr} (hx : x ∈ names) (chk : eiB "given" K x = true) (a : PySem.W.nsIn K mainGlobals x = some (some (.ref C)))
    (i : PySem.W.findIn K (.ref C) "__init__" = some (some (.ref fI))) (t : PySem.W.typeIn K (.ref fI) = some (.type "function")) {oc doc pm cdv ct : Value} {od an : Option Addr} {osl : Array (Option Value)} {p1 p2 q1 q2 q3 q4 : Pos}
    (l : K.lookup fI = some ⟨oc, od, .func (PySem.W.fnOf "__init__" qn (PySem.OwnEgiven.aInit p1 p2) (PySem.OwnEgiven.bInit q1 q2 q3 q4) PySem.OwnEgiven.sInit .none .none doc pm an cdv ct), osl⟩) (c : PySem.W.codeIn K cdv qn = true) :
    ∃ qn fI, PySem.OwnEgiven.EI K mg x qn (He.ga K x) fI := by
  obtain ⟨c1, c5⟩ := He.ba chk
  obtain ⟨c2, c5⟩ := He.ba c5
  obtain ⟨c3, c5⟩ := He.ba c5
  obtain ⟨c4, c5⟩ := He.ba c5
  have e := ga_of a
  exact ⟨qn, fI, { T.ec x hx with mkr := c1, cd := c2, dct := c3, sa := of_decide_eq_true c4, no := of_decide_eq_true c5, iC := by rw [e]; exact i, tC := t, fn := ⟨oc, od, doc, pm, an, cdv, ct, osl, p1, p2, q1, q2, q3, q4, l, c⟩ }⟩
theorem ei_index {h : Heap} {mg : Str → Option Value} (T : Kit K mg) {x qn : Str} {C fI : Addr} (hx : x ∈ names) (chk : eiB "index" K x = true) (a : PySem.W.nsIn K mainGlobals x = some (some (.ref C)))
    (i : PySem.W.findIn K (.ref C) "__init__" = some (some (.ref fI))) (t : PySem.W.typeIn K (.ref fI) = some (.type "function")) {oc doc pm cdv ct : Value} {od an : Option Addr} {osl : Array (Option Value)} {p1 p2 q1 q2 q3 q4 : Pos}
    (l : K.lookup fI = some ⟨oc, od, .func (PySem.W.fnOf "__init__" qn (PySem.OwnEindex.aInit p1 p2) (PySem.OwnEindex.bInit q1 q2 q3 q4) PySem.OwnEindex.sInit .none .none doc pm an cdv ct), osl⟩) (c : PySem.W.codeIn K cdv qn = true) :
    ∃ qn fI, PySem.OwnEindex.EI K mg x qn (He.ga K x) fI := by
  obtain ⟨c1, c5⟩ := He.ba chk
  obtain ⟨c2, c5⟩ := He.ba c5
  obtain ⟨c3, c5⟩ := He.ba c5
  obtain ⟨c4, c5⟩ := He.ba c5
  have e := ga_of a
  exact ⟨qn, fI, { T.ec x hx with mkr := c1, cd := c2, dct := c3, sa := of_decide_eq_true c4, no := of_decide_eq_true c5, iC := by rw [e]; exact i, tC := t, fn := ⟨oc, od, doc, pm, an, cdv, ct, osl, p1, p2, q1, q2, q3, q4, l, c⟩ }⟩
theorem ei_place {h : Heap} {mg : Str → Option Value} (T : Kit K mg) {x qn : Str} {C fI : Addr} (hx : x ∈ names) (chk : eiB "place" K x = true) (a : PySem.W.nsIn K mainGlobals x = some (some (.ref C)))
    (i : PySem.W.findIn K (.ref C) "__init__" = some (some (.ref fI))) (t : PySem.W.typeIn K (.ref fI) = some (.type "function")) {oc doc pm cdv ct : Value} {od an : Option Addr} {osl : Array (Option Value)} {p1 p2 q1 q2 q3 q4 : Pos}
    (l : K.lookup fI = some ⟨oc, od, .func (PySem.W.fnOf "__init__" qn (PySem.OwnEplace.aInit p1 p2) (PySem.OwnEplace.bInit q1 q2 q3 q4) PySem.OwnEplace.sInit .none .none doc pm an cdv ct), osl⟩) (c : PySem.W.codeIn K cdv qn = true) :
    ∃ qn fI, PySem.OwnEplace.EI K mg x qn (He.ga K x) fI := by
  obtain ⟨c1, c5⟩ := He.ba chk
  obtain ⟨c2, c5⟩ := He.ba c5
  obtain ⟨c3, c5⟩ := He.ba c5
  obtain ⟨c4, c5⟩ := He.ba c5
  have e := ga_of a
  exact ⟨qn, fI, { T.ec x hx with mkr := c1, cd := c2, dct := c3, sa := of_decide_eq_true c4, no := of_decide_eq_true c5, iC := by rw [e]; exact i, tC := t, fn := ⟨oc, od, doc, pm, an, cdv, ct, osl, p1, p2, q1, q2, q3, q4, l, c⟩ }⟩
theorem all_mk {l : PySem.W.OpenLaw} {w : World} {h : Heap} {fa f0 f1 f2 f3 f4 f5 f6 f7 f8 f9 f10 : Addr} (X : K.In h) (G : h.Ns mainGlobals mg) (hfa : mg "law" = some (.ref fa))
    {od0 an0 od1 an1 od2 an2 od3 an3 od4 an4 od5 an5 od6 an6 od7 an7 od8 an8 od9 an9 od10 an10 : Option Addr} {sl0 sl1 sl2 sl3 sl4 sl5 sl6 sl7 sl8 sl9 sl10 : Array (Option Value)} {oc0 kV0 dc0 pm0 cd0 ct0 oc1 kV1 dc1 pm1 cd1 ct1 oc2 kV2 dc2 pm2 cd2 ct2 oc3 kV3 dc3 pm3 cd3 ct3 oc4 kV4 dc4 pm4 cd4 ct4 oc5 kV5 dc5 pm5 cd5 ct5 oc6 kV6 dc6 pm6 cd6 ct6 oc7 kV7 dc7 pm7 cd7 ct7 oc8 kV8 dc8 pm8 cd8 ct8 oc9 kV9 dc9 pm9 cd9 ct9 oc10 kV10 dc10 pm10 cd10 ct10 : Value}
    (a0 : PySem.W.nsIn K mainGlobals "_law_bowl" = some (some (.ref f0))) (l0 : K.lookup f0 = some ⟨oc0, od0, .func (PySem.W.fnOf "_law_bowl" "_law_bowl" (defArgs sBowl) (defBody sBowl) (defScope sBowl) .none kV0 dc0 pm0 an0 cd0 ct0), sl0⟩) (c0 : PySem.W.codeIn K cd0 "_law_bowl" = true) (k0 : PySem.W.keepIn K (.ref f0) = true)
    (a1 : PySem.W.nsIn K mainGlobals "_law_draw" = some (some (.ref f1))) (l1 : K.lookup f1 = some ⟨oc1, od1, .func (PySem.W.fnOf "_law_draw" "_law_draw" (defArgs sDraw) (defBody sDraw) (defScope sDraw) .none kV1 dc1 pm1 an1 cd1 ct1), sl1⟩) (c1 : PySem.W.codeIn K cd1 "_law_draw" = true) (k1 : PySem.W.keepIn K (.ref f1) = true)
    (a2 : PySem.W.nsIn K mainGlobals "_law_some" = some (some (.ref f2))) (l2 : K.lookup f2 = some ⟨oc2, od2, .func (PySem.W.fnOf "_law_some" "_law_some" (defArgs sSome) (defBody sSome) (defScope sSome) .none kV2 dc2 pm2 an2 cd2 ct2), sl2⟩) (c2 : PySem.W.codeIn K cd2 "_law_some" = true) (k2 : PySem.W.keepIn K (.ref f2) = true)
    (a3 : PySem.W.nsIn K mainGlobals "_law_thing" = some (some (.ref f3))) (l3 : K.lookup f3 = some ⟨oc3, od3, .func (PySem.W.fnOf "_law_thing" "_law_thing" (defArgs sThing) (defBody sThing) (defScope sThing) .none kV3 dc3 pm3 an3 cd3 ct3), sl3⟩) (c3 : PySem.W.codeIn K cd3 "_law_thing" = true) (k3 : PySem.W.keepIn K (.ref f3) = true)
    (a4 : PySem.W.nsIn K mainGlobals "_law_given" = some (some (.ref f4))) (l4 : K.lookup f4 = some ⟨oc4, od4, .func (PySem.W.fnOf "_law_given" "_law_given" (defArgs sGiven) (defBody sGiven) (defScope sGiven) .none kV4 dc4 pm4 an4 cd4 ct4), sl4⟩) (c4 : PySem.W.codeIn K cd4 "_law_given" = true) (k4 : PySem.W.keepIn K (.ref f4) = true)
    (a5 : PySem.W.nsIn K mainGlobals "_law_indexed" = some (some (.ref f5))) (l5 : K.lookup f5 = some ⟨oc5, od5, .func (PySem.W.fnOf "_law_indexed" "_law_indexed" (defArgs sIndexed) (defBody sIndexed) (defScope sIndexed) .none kV5 dc5 pm5 an5 cd5 ct5), sl5⟩) (c5 : PySem.W.codeIn K cd5 "_law_indexed" = true) (k5 : PySem.W.keepIn K (.ref f5) = true)
    (a6 : PySem.W.nsIn K mainGlobals "_law_under" = some (some (.ref f6))) (l6 : K.lookup f6 = some ⟨oc6, od6, .func (PySem.W.fnOf "_law_under" "_law_under" (defArgs sUnder) (defBody sUnder) (defScope sUnder) .none kV6 dc6 pm6 an6 cd6 ct6), sl6⟩) (c6 : PySem.W.codeIn K cd6 "_law_under" = true) (k6 : PySem.W.keepIn K (.ref f6) = true)
    (a7 : PySem.W.nsIn K mainGlobals "_law_stands" = some (some (.ref f7))) (l7 : K.lookup f7 = some ⟨oc7, od7, .func (PySem.W.fnOf "_law_stands" "_law_stands" (defArgs sStands) (defBody sStands) (defScope sStands) .none kV7 dc7 pm7 an7 cd7 ct7), sl7⟩) (c7 : PySem.W.codeIn K cd7 "_law_stands" = true) (k7 : PySem.W.keepIn K (.ref f7) = true)
    (a8 : PySem.W.nsIn K mainGlobals "_law_is_base" = some (some (.ref f8))) (l8 : K.lookup f8 = some ⟨oc8, od8, .func (PySem.W.fnOf "_law_is_base" "_law_is_base" (defArgs sIsBase) (defBody sIsBase) (defScope sIsBase) .none kV8 dc8 pm8 an8 cd8 ct8), sl8⟩) (c8 : PySem.W.codeIn K cd8 "_law_is_base" = true) (k8 : PySem.W.keepIn K (.ref f8) = true)
    (a9 : PySem.W.nsIn K mainGlobals "_law_right" = some (some (.ref f9))) (l9 : K.lookup f9 = some ⟨oc9, od9, .func (PySem.W.fnOf "_law_right" "_law_right" (defArgs sRight) (defBody sRight) (defScope sRight) .none kV9 dc9 pm9 an9 cd9 ct9), sl9⟩) (c9 : PySem.W.codeIn K cd9 "_law_right" = true) (k9 : PySem.W.keepIn K (.ref f9) = true)
    (a10 : PySem.W.nsIn K mainGlobals "law" = some (some (.ref f10))) (l10 : K.lookup f10 = some ⟨oc10, od10, .func (PySem.W.fnOf "law" "law" (defArgs sLaw) (defBody sLaw) (defScope sLaw) .none kV10 dc10 pm10 an10 cd10 ct10), sl10⟩) (c10 : PySem.W.codeIn K cd10 "law" = true) (k10 : PySem.W.keepIn K (.ref f10) = true)
    (z_int : PySem.W.nsIn K mainGlobals "int" = some none)
    (z_abs : PySem.W.nsIn K mainGlobals "abs" = some none)
    (z_len : PySem.W.nsIn K mainGlobals "len" = some none)
    (z_divmod : PySem.W.nsIn K mainGlobals "divmod" = some none)
    (z_range : PySem.W.nsIn K mainGlobals "range" = some none)
    (z_tuple : PySem.W.nsIn K mainGlobals "tuple" = some none)
    (z_isi : PySem.W.nsIn K mainGlobals "isinstance" = some none)
    (z_enum : PySem.W.nsIn K mainGlobals "enumerate" = some none)
    (z_repr : PySem.W.nsIn K mainGlobals "repr" = some none)
    (z_all : PySem.W.nsIn K mainGlobals "all" = some none)
    (z_max : PySem.W.nsIn K mainGlobals "max" = some none)
    (z_min : PySem.W.nsIn K mainGlobals "min" = some none)
    (z_ve : PySem.W.nsIn K mainGlobals "ValueError" = some none)
    (z_ex : PySem.W.nsIn K mainGlobals "Exception" = some none)
    (z_le : PySem.W.nsIn K mainGlobals "LookupError" = some none)
    (z_te : PySem.W.nsIn K mainGlobals "TypeError" = some none)
    (z_ae : PySem.W.nsIn K mainGlobals "ArithmeticError" = some none)
    (z_re : PySem.W.nsIn K mainGlobals "RuntimeError" = some none)
    (z_ate : PySem.W.nsIn K mainGlobals "AttributeError" = some none)
    (q1 : PySem.W.excIn K (He.ga K "StageError") He.veBase "ValueError.__new__" = true) (q2 : PySem.W.excIn K (He.ga K "NotShown") He.veBase "ValueError.__new__" = true) (T : Kit K mg) (N : Inits K mg) :
    ∃ fd : FuncData, (∀ (s : Shared) (v : Value), BindsTo s fd ⟨[v], []⟩ [("_law_script", v)]) ∧ ∀ base : Heap, K.In base → base.Ns mainGlobals mg → FnG l.prog w K mg base CX0 5 fa fd ["_law_script"] (spLaw K) := by
  have e := hfa.symm.trans (PySem.W.mg_of X G a10)
  cases e
  have F0 := fun_mk (st := sBowl) l0 c0 k0
  have g0 := PySem.W.mg_of X G a0
  have b0 := F0.binds (ps := ["_law_script", "_law_turn"]) fun _ _ _ _ _ _ us hl => match us, hl with | [_, _], _ => rfl
  have F1 := fun_mk (st := sDraw) l1 c1 k1
  have g1 := PySem.W.mg_of X G a1
  have b1 := F1.binds (ps := ["_law_bowl_here", "_law_top"]) fun _ _ _ _ _ _ us hl => match us, hl with | [_, _], _ => rfl
  have F2 := fun_mk (st := sSome) l2 c2 k2
  have g2 := PySem.W.mg_of X G a2
  have b2 := F2.binds (ps := ["_law_bowl_here", "_law_row"]) fun _ _ _ _ _ _ us hl => match us, hl with | [_, _], _ => rfl
  have F3 := fun_mk (st := sThing) l3 c3 k3
  have g3 := PySem.W.mg_of X G a3
  have b3 := F3.binds (ps := ["_law_bowl_here"]) fun _ _ _ _ _ _ us hl => match us, hl with | [_], _ => rfl
  have F4 := fun_mk (st := sGiven) l4 c4 k4
  have g4 := PySem.W.mg_of X G a4
  have b4 := F4.binds (ps := ["_law_thing_here"]) fun _ _ _ _ _ _ us hl => match us, hl with | [_], _ => rfl
  have F5 := fun_mk (st := sIndexed) l5 c5 k5
  have g5 := PySem.W.mg_of X G a5
  have b5 := F5.binds (ps := ["_law_thing_here"]) fun _ _ _ _ _ _ us hl => match us, hl with | [_], _ => rfl
  have F6 := fun_mk (st := sUnder) l6 c6 k6
  have g6 := PySem.W.mg_of X G a6
  have b6 := F6.binds (ps := ["_law_error"]) fun _ _ _ _ _ _ us hl => match us, hl with | [_], _ => rfl
  have F7 := fun_mk (st := sStands) l7 c7 k7
  have g7 := PySem.W.mg_of X G a7
  have b7 := F7.binds (ps := ["_law_error", "_law_number"]) fun _ _ _ _ _ _ us hl => match us, hl with | [_, _], _ => rfl
  have F8 := fun_mk (st := sIsBase) l8 c8 k8
  have g8 := PySem.W.mg_of X G a8
  have b8 := F8.binds (ps := []) fun _ _ _ _ _ _ us hl => match us, hl with | [], _ => rfl
  have F9 := fun_mk (st := sRight) l9 c9 k9
  have g9 := PySem.W.mg_of X G a9
  have b9 := F9.binds (ps := ["_law_bowl_here"]) fun _ _ _ _ _ _ us hl => match us, hl with | [_], _ => rfl
  have F10 := fun_mk (st := sLaw) l10 c10 k10
  have g10 := PySem.W.mg_of X G a10
  have B : Blt mg := ⟨PySem.W.mg_none_of X G z_int, PySem.W.mg_none_of X G z_abs, PySem.W.mg_none_of X G z_len, PySem.W.mg_none_of X G z_divmod, PySem.W.mg_none_of X G z_range, PySem.W.mg_none_of X G z_tuple, PySem.W.mg_none_of X G z_isi, PySem.W.mg_none_of X G z_enum, PySem.W.mg_none_of X G z_repr, PySem.W.mg_none_of X G z_all, PySem.W.mg_none_of X G z_max, PySem.W.mg_none_of X G z_min, PySem.W.mg_none_of X G z_ve, PySem.W.mg_none_of X G z_ex, PySem.W.mg_none_of X G z_le, PySem.W.mg_none_of X G z_te, PySem.W.mg_none_of X G z_ae, PySem.W.mg_none_of X G z_re, PySem.W.mg_none_of X G z_ate⟩
  refine ⟨PySem.W.fnOf "law" "law" (defArgs sLaw) (defBody sLaw) (defScope sLaw) .none kV10 dc10 pm10 an10 cd10 ct10, fun s v => .of_eq rfl, fun base _ _ => ?_⟩
  have GT := ok_thing (P := l.prog) (w := w) (base := base) F3 B F1 b1 g1 F2 b2 g2
  have GG := ok_given (P := l.prog) (w := w) (base := base) F4 N
  have GI := ok_indexed (P := l.prog) (w := w) (base := base) F5 N
  have GS := ok_stands (P := l.prog) (w := w) (base := base) F7 B T F6 b6 g6
  have GB := ok_isbase (P := l.prog) (w := w) (base := base) F8 B T q1 F6 b6 g6
  have GR := ok_right (P := l.prog) (w := w) (base := base) F9 B T N q2 ⟨F3, b3, g3, F4, b4, g4, F5, b5, g5, F7, b7, g7, F8, b8, g8⟩ GT GG GI GS GB
  exact ok_law F10 B F9 b9 g9 GR F0 b0 g0
end
end K1
open PySem PySem.W PyProof.Rows in
set_option maxRecDepth 100000 in
set_option maxHeartbeats 0 in
theorem PySem.Challenge.cw_switchstages_k01_errors_each_of_its_own_holds : PySem.Challenge.rw_switchstages_k01_errors_each_of_its_own.Holds := by
  w_on; o_law; k_head; (case hw => w_witness2)
  k_fill
  refine GuL.walkG (l := PySem.Challenge.rw_switchstages_k01_errors_each_of_its_own) (n := 63) (k := 5) (x := "_law_script") (sp := K1.spLaw) rfl (by decide) rfl ⟨rfl, by decide, by decide⟩ (fun w h Y => PySem.W.kIn_of Y) ?F (fun K H a ns hl _ hS => ⟨a, ns, rfl, hS, hl, fun _ => rfl⟩)
  case F =>
    intro w mg fa h KX G hmg
    have T := K1.kit_of KX G (by kernel_rfl) (by kernel_rfl) (by kernel_rfl) (by kernel_rfl)
    have I_InvalidWord := by
      refine' K1.ei_given (h := h) (x := "InvalidWord") T (List.mem_of_getElem? (i := 0) rfl) (by kernel_rfl) ?a ?i ?t ?l ?c
      (case a => k_is)
      (case i => k_is)
      (case t => k_is)
      (case l => k_is)
      (case c => k_is)
    have I_InvalidNumber := by
      refine' K1.ei_given (h := h) (x := "InvalidNumber") T (List.mem_of_getElem? (i := 1) rfl) (by kernel_rfl) ?a ?i ?t ?l ?c
      (case a => k_is)
      (case i => k_is)
      (case t => k_is)
      (case l => k_is)
      (case c => k_is)
    have I_InvalidHeaders := by
      refine' K1.ei_given (h := h) (x := "InvalidHeaders") T (List.mem_of_getElem? (i := 2) rfl) (by kernel_rfl) ?a ?i ?t ?l ?c
      (case a => k_is)
      (case i => k_is)
      (case t => k_is)
      (case l => k_is)
      (case c => k_is)
    have I_InvalidFrame := by
      refine' K1.ei_given (h := h) (x := "InvalidFrame") T (List.mem_of_getElem? (i := 3) rfl) (by kernel_rfl) ?a ?i ?t ?l ?c
      (case a => k_is)
      (case i => k_is)
      (case t => k_is)
      (case l => k_is)
      (case c => k_is)
    have I_InvalidPacket := by
      refine' K1.ei_given (h := h) (x := "InvalidPacket") T (List.mem_of_getElem? (i := 4) rfl) (by kernel_rfl) ?a ?i ?t ?l ?c
      (case a => k_is)
      (case i => k_is)
      (case t => k_is)
      (case l => k_is)
      (case c => k_is)
    have I_InvalidFields := by
      refine' K1.ei_given (h := h) (x := "InvalidFields") T (List.mem_of_getElem? (i := 5) rfl) (by kernel_rfl) ?a ?i ?t ?l ?c
      (case a => k_is)
      (case i => k_is)
      (case t => k_is)
      (case l => k_is)
      (case c => k_is)
    have I_InvalidRest := by
      refine' K1.ei_given (h := h) (x := "InvalidRest") T (List.mem_of_getElem? (i := 6) rfl) (by kernel_rfl) ?a ?i ?t ?l ?c
      (case a => k_is)
      (case i => k_is)
      (case t => k_is)
      (case l => k_is)
      (case c => k_is)
    have I_InvalidWay := by
      refine' K1.ei_given (h := h) (x := "InvalidWay") T (List.mem_of_getElem? (i := 7) rfl) (by kernel_rfl) ?a ?i ?t ?l ?c
      (case a => k_is)
      (case i => k_is)
      (case t => k_is)
      (case l => k_is)
      (case c => k_is)
    have I_InvalidProgram := by
      refine' K1.ei_given (h := h) (x := "InvalidProgram") T (List.mem_of_getElem? (i := 8) rfl) (by kernel_rfl) ?a ?i ?t ?l ?c
      (case a => k_is)
      (case i => k_is)
      (case t => k_is)
      (case l => k_is)
      (case c => k_is)
    have I_InvalidContents := by
      refine' K1.ei_given (h := h) (x := "InvalidContents") T (List.mem_of_getElem? (i := 9) rfl) (by kernel_rfl) ?a ?i ?t ?l ?c
      (case a => k_is)
      (case i => k_is)
      (case t => k_is)
      (case l => k_is)
      (case c => k_is)
    have I_InvalidCells := by
      refine' K1.ei_given (h := h) (x := "InvalidCells") T (List.mem_of_getElem? (i := 10) rfl) (by kernel_rfl) ?a ?i ?t ?l ?c
      (case a => k_is)
      (case i => k_is)
      (case t => k_is)
      (case l => k_is)
      (case c => k_is)
    have I_InvalidFilling := by
      refine' K1.ei_given (h := h) (x := "InvalidFilling") T (List.mem_of_getElem? (i := 11) rfl) (by kernel_rfl) ?a ?i ?t ?l ?c
      (case a => k_is)
      (case i => k_is)
      (case t => k_is)
      (case l => k_is)
      (case c => k_is)
    have I_InvalidKeys := by
      refine' K1.ei_given (h := h) (x := "InvalidKeys") T (List.mem_of_getElem? (i := 12) rfl) (by kernel_rfl) ?a ?i ?t ?l ?c
      (case a => k_is)
      (case i => k_is)
      (case t => k_is)
      (case l => k_is)
      (case c => k_is)
    have I_InvalidForm := by
      refine' K1.ei_given (h := h) (x := "InvalidForm") T (List.mem_of_getElem? (i := 13) rfl) (by kernel_rfl) ?a ?i ?t ?l ?c
      (case a => k_is)
      (case i => k_is)
      (case t => k_is)
      (case l => k_is)
      (case c => k_is)
    have I_InvalidUnits := by
      refine' K1.ei_given (h := h) (x := "InvalidUnits") T (List.mem_of_getElem? (i := 14) rfl) (by kernel_rfl) ?a ?i ?t ?l ?c
      (case a => k_is)
      (case i => k_is)
      (case t => k_is)
      (case l => k_is)
      (case c => k_is)
    have I_InvalidLayout := by
      refine' K1.ei_given (h := h) (x := "InvalidLayout") T (List.mem_of_getElem? (i := 15) rfl) (by kernel_rfl) ?a ?i ?t ?l ?c
      (case a => k_is)
      (case i => k_is)
      (case t => k_is)
      (case l => k_is)
      (case c => k_is)
    have I_InvalidChip := by
      refine' K1.ei_given (h := h) (x := "InvalidChip") T (List.mem_of_getElem? (i := 16) rfl) (by kernel_rfl) ?a ?i ?t ?l ?c
      (case a => k_is)
      (case i => k_is)
      (case t => k_is)
      (case l => k_is)
      (case c => k_is)
    have I_TooMany := by
      refine' K1.ei_given (h := h) (x := "TooMany") T (List.mem_of_getElem? (i := 17) rfl) (by kernel_rfl) ?a ?i ?t ?l ?c
      (case a => k_is)
      (case i => k_is)
      (case t => k_is)
      (case l => k_is)
      (case c => k_is)
    have I_InvalidPackets := by
      refine' K1.ei_index (h := h) (x := "InvalidPackets") T (List.mem_of_getElem? (i := 18) rfl) (by kernel_rfl) ?a ?i ?t ?l ?c
      (case a => k_is)
      (case i => k_is)
      (case t => k_is)
      (case l => k_is)
      (case c => k_is)
    have I_InvalidEntries := by
      refine' K1.ei_index (h := h) (x := "InvalidEntries") T (List.mem_of_getElem? (i := 19) rfl) (by kernel_rfl) ?a ?i ?t ?l ?c
      (case a => k_is)
      (case i => k_is)
      (case t => k_is)
      (case l => k_is)
      (case c => k_is)
    have I_InvalidWords := by
      refine' K1.ei_index (h := h) (x := "InvalidWords") T (List.mem_of_getElem? (i := 20) rfl) (by kernel_rfl) ?a ?i ?t ?l ?c
      (case a => k_is)
      (case i => k_is)
      (case t => k_is)
      (case l => k_is)
      (case c => k_is)
    have I_InvalidComing := by
      refine' K1.ei_index (h := h) (x := "InvalidComing") T (List.mem_of_getElem? (i := 21) rfl) (by kernel_rfl) ?a ?i ?t ?l ?c
      (case a => k_is)
      (case i => k_is)
      (case t => k_is)
      (case l => k_is)
      (case c => k_is)
    have I_InvalidLines := by
      refine' K1.ei_index (h := h) (x := "InvalidLines") T (List.mem_of_getElem? (i := 22) rfl) (by kernel_rfl) ?a ?i ?t ?l ?c
      (case a => k_is)
      (case i => k_is)
      (case t => k_is)
      (case l => k_is)
      (case c => k_is)
    have I_InvalidWriting := by
      refine' K1.ei_place (h := h) (x := "InvalidWriting") T (List.mem_of_getElem? (i := 23) rfl) (by kernel_rfl) ?a ?i ?t ?l ?c
      (case a => k_is)
      (case i => k_is)
      (case t => k_is)
      (case l => k_is)
      (case c => k_is)
    have Ng := show ∀ x ∈ K1.gNames, ∃ qn fI, PySem.OwnEgiven.EI _ mg x qn (He.ga _ x) fI from by
      intro x hx
      have hx' := hx
      simp only [K1.gNames, List.mem_cons, List.not_mem_nil, or_false] at hx'
      rcases hx' with rfl | rfl | rfl | rfl | rfl | rfl | rfl | rfl | rfl | rfl | rfl | rfl | rfl | rfl | rfl | rfl | rfl | rfl
      · exact I_InvalidWord
      · exact I_InvalidNumber
      · exact I_InvalidHeaders
      · exact I_InvalidFrame
      · exact I_InvalidPacket
      · exact I_InvalidFields
      · exact I_InvalidRest
      · exact I_InvalidWay
      · exact I_InvalidProgram
      · exact I_InvalidContents
      · exact I_InvalidCells
      · exact I_InvalidFilling
      · exact I_InvalidKeys
      · exact I_InvalidForm
      · exact I_InvalidUnits
      · exact I_InvalidLayout
      · exact I_InvalidChip
      · exact I_TooMany
    have Ni := show ∀ x ∈ K1.iNames, ∃ qn fI, PySem.OwnEindex.EI _ mg x qn (He.ga _ x) fI from by
      intro x hx
      have hx' := hx
      simp only [K1.iNames, List.mem_cons, List.not_mem_nil, or_false] at hx'
      rcases hx' with rfl | rfl | rfl | rfl | rfl
      · exact I_InvalidPackets
      · exact I_InvalidEntries
      · exact I_InvalidWords
      · exact I_InvalidComing
      · exact I_InvalidLines
    refine' K1.all_mk KX G hmg ?a0 ?l0 ?c0 ?k0 ?a1 ?l1 ?c1 ?k1 ?a2 ?l2 ?c2 ?k2 ?a3 ?l3 ?c3 ?k3 ?a4 ?l4 ?c4 ?k4 ?a5 ?l5 ?c5 ?k5 ?a6 ?l6 ?c6 ?k6 ?a7 ?l7 ?c7 ?k7 ?a8 ?l8 ?c8 ?k8 ?a9 ?l9 ?c9 ?k9 ?a10 ?l10 ?c10 ?k10 ?z_int ?z_abs ?z_len ?z_divmod ?z_range ?z_tuple ?z_isi ?z_enum ?z_repr ?z_all ?z_max ?z_min ?z_ve ?z_ex ?z_le ?z_te ?z_ae ?z_re ?z_ate (by kernel_rfl) (by kernel_rfl) T ⟨Ng, Ni, I_InvalidWriting⟩
    (case a0 => k_is)
    (case l0 => k_is)
    (case c0 => k_is)
    (case k0 => k_is)
    (case a1 => k_is)
    (case l1 => k_is)
    (case c1 => k_is)
    (case k1 => k_is)
    (case a2 => k_is)
    (case l2 => k_is)
    (case c2 => k_is)
    (case k2 => k_is)
    (case a3 => k_is)
    (case l3 => k_is)
    (case c3 => k_is)
    (case k3 => k_is)
    (case a4 => k_is)
    (case l4 => k_is)
    (case c4 => k_is)
    (case k4 => k_is)
    (case a5 => k_is)
    (case l5 => k_is)
    (case c5 => k_is)
    (case k5 => k_is)
    (case a6 => k_is)
    (case l6 => k_is)
    (case c6 => k_is)
    (case k6 => k_is)
    (case a7 => k_is)
    (case l7 => k_is)
    (case c7 => k_is)
    (case k7 => k_is)
    (case a8 => k_is)
    (case l8 => k_is)
    (case c8 => k_is)
    (case k8 => k_is)
    (case a9 => k_is)
    (case l9 => k_is)
    (case c9 => k_is)
    (case k9 => k_is)
    (case a10 => k_is)
    (case l10 => k_is)
    (case c10 => k_is)
    (case k10 => k_is)
    (case z_int => k_is)
    (case z_abs => k_is)
    (case z_len => k_is)
    (case z_divmod => k_is)
    (case z_range => k_is)
    (case z_tuple => k_is)
    (case z_isi => k_is)
    (case z_enum => k_is)
    (case z_repr => k_is)
    (case z_all => k_is)
    (case z_max => k_is)
    (case z_min => k_is)
    (case z_ve => k_is)
    (case z_ex => k_is)
    (case z_le => k_is)
    (case z_te => k_is)
    (case z_ae => k_is)
    (case z_re => k_is)
    (case z_ate => k_is)

