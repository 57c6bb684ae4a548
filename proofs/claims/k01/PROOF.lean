import PyProof.Rows.All
import Wide.All
import OpenK.AllK
import Wide.FinOn
import KE.KExcSuper
import KE.KExcMake
import KE.KExcIs
import KE.KSuper
import HandS.Base
import HandS.Call
import HandS.List
import HandS.Ends
import HandS.Exc
import HandS.ExcInit
import HandS.ExcOwn
import HandS.IsInst
import HandS.Words
import HandS.ExcValue
import HandS.WordsExc
import HandS.Defaults
import HandS.HotCalls
import PyProof.ReprRoads
import HandS.Dict
import HandS.ExcIs
import HandS.HeadHook1
import HandS.HeadHook2
import HandS.WordsList
import HandS.Comp
import HandS.TryOnly
import KE.KStateDown
import Lean
import HandS.More
import HandS.Head0
import HandS.Head1
import HandS.Head2
import HandS.HeadEnd
import PySem.Challenge.RW_endtellers_k01_errors_each_of_its_own
set_option Elab.async false
set_option linter.all false
set_option maxRecDepth 100000
set_option maxHeartbeats 4000000
namespace PySem
namespace ErrLow
open PySem.W
open PySem.Calls
open PyProof.Rows
open PySem.HandSPX
/-! ### an own class of errors is called, by position or by keyword
The library's rule for such a call takes positional arguments alone; here the keywords go through to `__init__`. -/
/-- the parts of a class of errors that its object holds -/
structure Kls where
  nm : Str
  qn : Str
  ns : Addr
  up : List Value
  mro : List Value
  dct : Bool
  slots : List Str
  subs : List Value
  abs : Bool
  col : Option Bool
  ddt : Option Addr
  p0 : Option Value
  p1 : Option Value
  p2 : Option Value
  p3 : Option Value
  p5 : Option Value
abbrev Kls.obj (c : Kls) (C : Addr) (mk : String) : Obj :=
  excClassObj c.nm c.qn C c.ns c.up c.mro c.dct c.slots c.subs c.abs c.col c.ddt c.p0 c.p1 c.p2 c.p3 c.p5 mk
/-- the heap once the arguments' tuple and the bare error lie on top -/
abbrev fresh (hp : Heap) (C : Addr) (us : List Value) : Heap :=
  (hp.push (W.kdv_tup us)).push (excO C hp.objs.size)
theorem fresh_old {hp : Heap} {C : Addr} {us : List Value} {a : Addr} {o : Obj} (z : hp.get? a = some o) : (fresh hp C us).get? a = some o :=
  Heap.get?_push_of_some _ (Heap.get?_push_of_some _ z)
theorem fresh_top {hp : Heap} {C : Addr} {us : List Value} : (fresh hp C us).get? (hp.objs.size + 1) = some (excO C hp.objs.size) := by
  heap_get
/-- like the base's own list, with the class itself before it -/
theorem Kls.sees {c : Kls} {C : Addr} {mB : List Value} (same : ∀ Y : String, c.mro.contains (.type Y) = mB.contains (.type Y)) (Y : String) :
    (Value.ref C :: c.mro).contains (.type Y) = mB.contains (.type Y) := by
  rw [List.contains_cons, same]
  rfl
section
variable {p : Program} {w : World} {A : Around} {R : Result → Shared → Prop}
variable {hp : Heap} {gs : Array GenState} {dr : Drawn} {tk : Nat} {os : OsState}
variable {c : Kls} {C fI : Addr} {B mk ini : String} {mB us : List Value} {kws : List (Str × Value)}
/-- object → class → `__new__`: a bare error lies on top -/
theorem newStep (F : ExcBaseFacts B mk ini mB) (same : ∀ Y : String, c.mro.contains (.type Y) = mB.contains (.type Y)) (at_ : hp.get? C = some (c.obj C mk)) (fit : us.length ≤ sizeLine)
    (fin : R (.ok (.ret (.ref (hp.objs.size + 1)))) ⟨fresh hp C us, gs, dr, tk, os⟩) :
    codeAny (model p w) A (.builtin mk ⟨.ref C :: us, kws⟩) R ⟨hp, gs, dr, tk, os⟩ := by
  have ends := F.ends
  have sB := (Kls.sees (C := C) same B).trans F.hasB
  have sA := (Kls.sees (C := C) same "AttributeError").trans F.noAttr
  have sN := (Kls.sees (C := C) same "NameError").trans F.noName
  apply codeAny_builtinAt F.entry
  delta Builtin.«BaseException.__new__»
  apply wpAt_bind
  refine wpAt_bind (wpAt_stack fun above more => ?_)
  apply wpAt_of_wpAny
  wp_walk
  apply wpAt_of_wpAny
  rw [F.owner]
  repeat (first
    | with_reducible refine wpAny_madeHere_exc F.canon at_ ?_
    | with_reducible refine wpAny_loadPart_at at_ ?_
    | (with_reducible refine wpAny_isSubtype_exc at_ ?_
       first | rw [sB] | rw [sA] | rw [sN])
    | wp_step)
  show R _ _
  rw [Heap.size_push]
  exact fin
/-- the whole call: what is left to show is `__init__` on the bare error -/
theorem callCls (F : ExcBaseFacts B mk ini mB) (same : ∀ Y : String, c.mro.contains (.type Y) = mB.contains (.type Y)) (at_ : hp.get? C = some (c.obj C mk)) (fit : us.length ≤ sizeLine)
    (li : W.Looks (model p w) hp (typeLookup (.ref C) "__init__") (some (.ref fI)))
    (lb : ∀ self, W.Looks (model p w) hp (bindSpecial (.ref fI) self) (.ref fI, [self]))
    (fin : codeAny (model p w) (A.under (.builtin "type.__call__" ⟨.ref C :: us, kws⟩)) (.call (.ref fI) ⟨.ref (hp.objs.size + 1) :: us, kws⟩)
      (W.InitBack (hp.objs.size + 1) R) ⟨fresh hp C us, gs, dr, tk, os⟩) :
    codeAny (model p w) A (.call (.ref C) ⟨us, kws⟩) R ⟨hp, gs, dr, tk, os⟩ := by
  have look := tc_lookup
  have bind := tc_bind (.ref C)
  have isTy : (⟨hp, gs, dr, tk, os⟩ : Shared).TypeIs (.ref C) "type" := ⟨_, at_, rfl⟩
  have sB := (Kls.sees (C := C) same B).trans F.hasB
  have later : ∀ a o, hp.get? a = some o → (fresh hp C us).get? a = some o := fun _ _ => fresh_old
  have at1 : (fresh hp C us).get? C = some (c.obj C mk) := later _ _ at_
  have own : (Value.ref C :: c.mro).contains (.ref C) = true := by rw [List.contains_cons, beq_self_eq_true, Bool.true_or]
  apply codeAny_of_tree
  change wpAny _ _ (callAny (Value.ref C) ⟨us, kws⟩) _ _ _
  repeat (any_goals (first
    | assumption
    | with_reducible refine wpAny_loadPart_at at_ ?_
    | wp_step))
  refine ⟨rfl, codeAny_call_builtin_at (Code.quiet_builtin _ (by decide +kernel)) entry_typeCall (wpAny_check_type_call_sub at_ ?_)⟩
  repeat (first
    | with_reducible refine wpAny_loadPart_at at_ ?_
    | with_reducible refine wpAny_madeBy_exc at_ ?_
    | with_reducible refine wpAny_staticBase_exc at_ ?_
    | (with_reducible refine wpAny_isSubtype_exc at_ ?_
       rw [sB])
    | simp only [bne_self_eq_false, Bool.false_eq_true, if_false]
    | wp_step)
  refine codeAny_call_builtin_code (Code.quiet_builtin _ F.quiet) ?_ 
  · have star := F.noStar
    simp only [checkBuiltinCall, F.newRow, F.newSplit, F.newKind]
    repeat (first
      | with_reducible refine wpAny_loadPart_at at_ ?_
      | with_reducible refine wpAny_madeBy_exc at_ ?_
      | with_reducible refine wpAny_staticBase_exc at_ ?_
      | (with_reducible refine wpAny_isSubtype_exc at_ ?_
         rw [sB])
      | simp only [bne_self_eq_false, Bool.false_eq_true, if_false]
      | wp_step)
    refine newStep F same at_ fit ?_
    change wpAny _ _ _ _ _ _
    delta isInstance
    repeat (first
      | with_reducible refine wpAny_loadPart_at fresh_top ?_
      | (refine wpAny_isSubtype_exc at1 ?_
         rw [own])
      | wp_step)
    change wpAny _ _ (typeLookup (Value.ref C) "__init__") _ _ _
    refine (li.keeps later).at (wpAny_holding (wpAny_bind (((lb _).keeps later).at (wpAny_bind (wpAny_call (codeAny_mono fin fun r s2 y => ?_))))))
    match r, y with
    | .error _, y => exact y
    | .ok (.ret _), ⟨e, y⟩ =>
      subst e
      first | exact wpAny_pure (wpAny_pure y) | (wp_walk; exact y)
end
end ErrLow
end PySem
set_option Elab.async false
set_option linter.all false
set_option maxRecDepth 100000
set_option maxHeartbeats 4000000
namespace PySem
namespace ErrLow
open PySem.W
open PySem.Calls
open PyProof.Rows
open PySem.HandSPX
/-! ### the text of an __init__ that says super().__init__(text) and stores its one attribute -/
def iA (f : Str) (p1 p2 : Pos) : Arguments := { posonlyargs := [], args := [{ arg := "self", annotation := none, pos := p1 }, { arg := f, annotation := none, pos := p2 }], vararg := none, kwonlyargs := [], kw_defaults := [], kwarg := none, defaults := [] }
def iB (f msg : Str) (a1 a2 a3 a4 a5 a6 b1 b2 b3 b4 : Pos) : List Stmt :=
  [.Expr (.Call (.Attribute (.Call (.Name "super" a1) [] [] a2) "__init__" a3) [.Constant (.str msg) 0 a4] [] a5) a6, .Assign [.Attribute (.Name "self" b1) f b2] (.Name f b3) b4]
def iS (f : Str) : Scope := { kind := .function, names := [(PySem.Str.ofString "self", .local), (f, .local), (PySem.Str.ofString "__class__", .free), (PySem.Str.ofString "super", .globalImplicit)], isGenerator := false, isCoroutine := false, more := [] }
/-- how super().__init__(text) runs (its places in the text are such that nothing is said of lines) -/
def MC (msg : Str) (a1 a2 a3 a4 a5 : Pos) : Prop := ∃ pl : Env → Sem Bool, ∀ env : Env, eval (.Call (.Attribute (.Call (.Name "super" a1) [] [] a2) "__init__" a3) [.Constant (.str msg) 0 a4] [] a5) env = (do
      let ov ← attributeBase (.Call (.Name "super" a1) [] [] a2) "__init__" env (eval (.Call (.Name "super" a1) [] [] a2) env)
      standAt a3.atName
      let (f, first) ← holding [ov] (getMethod ov "__init__" (pl env))
      callWith a5 f first (backTo a5 (starEach [.Constant (.str msg) 0 a4] env)) [])
/-- what the written part says of such a class at C, whose __init__ stands at fI -/
structure ErrI (prog : Program) (K : Frag) (C fI : Addr) (f : Str) : Prop where
  cls : ∃ nm q N bs bm sn sub ab col dd k0 k1 k2 k3 k5, K.lookup C = some (excClassObj nm q C N bs bm true sn sub ab col dd k0 k1 k2 k3 k5 "ValueError.__new__") ∧ refsVE bm = true ∧ alongIn K "__init__" bm = some (some (.builtin "ValueError.__init__"))
  sa : findIn K (.ref C) "__setattr__" = some (some (.builtin "object.__setattr__"))
  noN : findIn K (.ref C) f = some none
  iC : findIn K (.ref C) "__init__" = some (some (.ref fI))
  tC : typeIn K (.ref fI) = some (.type "function")
  kC : keepIn K (.ref C) = true
  opq : nsIn K cStatics "thirdparty.any" = some none
  fn : ∃ (msg qual : Str) (p1 p2 a1 a2 a3 a4 a5 a6 b1 b2 b3 b4 : Pos) (kV doc pm ct oc : Value) (an od : Option Addr) (osl : Array (Option Value)) (cc cda : Addr),
    K.lookup fI = some ⟨oc, od, .func (fnX "__init__" qual (iA f p1 p2) (iB f msg a1 a2 a3 a4 a5 a6 b1 b2 b3 b4) (iS f) [("__class__", cc)] .none kV doc pm an (.ref cda) ct), osl⟩ ∧ codeIn K (.ref cda) qual = true ∧
    MC msg a1 a2 a3 a4 a5 ∧ (∃ cl cld csl, K.lookup cc = some ⟨cl, cld, .cell (some (.ref C)), csl⟩) ∧
    ∃ (ccl : Value) (cdd : Option Addr) (ccs : Array (Option Value)) (vs : Array Value) (file : Str) (tf : Tok), K.lookup cda = some ⟨ccl, cdd, .fields vs, ccs⟩ ∧ vs[2]? = some (.str file tf) ∧ ((prog.main.file : Str) == file) = true
  top : (prog.main.scope.names.lookup ("super" : Str)).isSome = false

section
variable {p : Program} {w : World} {M : Model} {A : Around} {E : Value → Shared → Prop}
/-- the bound `__init__` of the base is called: the error keeps its place and has a new tuple of arguments -/
theorem call_mw {hp : Heap} {gs : Array GenState} {dr : Drawn} {tk : Nat} {os : OsState} {c : Kls} {C bd er told : Addr} {us : List Value} {Q : Value → Shared → Prop}
    (cls : hp.get? C = some (c.obj C "ValueError.__new__")) (obj : hp.get? er = some (HandSPX.excO C told))
    (mw : hp.get? bd = some (kxs_mw "ValueError.__init__" er)) (fit : us.length ≤ sizeLine)
    (fin : ∀ h2 tnew, (∀ b o, b ≠ er → hp.get? b = some o → h2.get? b = some o) →
      h2.get? er = some (HandSPX.excO C tnew) → Q .none ⟨h2, gs, dr, tk, os⟩) :
    wpAny (model p w) A (call (.ref bd) us) Q E ⟨hp, gs, dr, tk, os⟩ := by
  have B := F.excBase_ValueError
  have kind : (Value.type "method-wrapper" == Value.type "method" || Value.type "method-wrapper" == Value.type "builtin_function_or_method"
      || Value.type "method-wrapper" == Value.type "method-wrapper") = true := by decide
  apply wpAny_call
  apply codeAny_of_tree
  change wpAny _ A.in1 (callAny (.ref bd) ⟨us, _⟩) _ _ _
  unfold callAny
  apply wpAny_bind
  apply wpAny_load mw
  simp only [kxs_mw, kind, if_true]
  apply KFB.if_so (by decide)
  exact wpAny_bind (check_bound_init B.toExcCallFacts cls obj rfl (wpAny_bind (wpAny_pure (wpAny_pure ⟨plainId_quiet B.init.plain _, codeAny_builtin B.initEntry (exc_init_tree (cls := .ref C) (t0 := told) (dv := none) (c2 := .none) (c3 := .none) (b4 := .bool false) obj fit fun h2 k e2 _ => fin h2 _ k e2)⟩))))
/-- a name of the def's own is read -/
theorem ldL {s : Shared} {env : Env} {ms : Str → Option Value} {x : Str} {at_ : Pos} {u : Value} {Q : Value → Shared → Prop}
    (ns : s.heap.Ns env.locals ms) (has : ms x = some u) (fin : Q u s)
    (fk : env.scope.kind = .function := by rfl) (lo : env.kindOf x = some .local := by rfl)
    (nd : (x == ("__debug__" : Str)) = false := by decide) :
    wpAny M A (eval (.Name x at_) env) Q E s := by
  apply wpAny_Name _ nd
  exact wpAny_loadName_local fk lo ns has fin
end

section
variable {prog : Program} {w : World} {A : Around} {R : Result → Shared → Prop} {s : Shared} {K : Frag} {mg : Str → Option Value} {C fI : Addr} {f : Str}
/-- what __init__ leaves of a fresh error at x -/
structure InitEnd (h h' : Heap) (x C dx : Addr) (f : Str) (v : Value) : Prop where
  keep : ∀ b o, b ≠ x → h.get? b = some o → h'.get? b = some o
  obj : ∃ t1, h'.get? x = some { cls := .ref C, dict := some dx, data := .fields #[.ref t1, .none, .none, .none, .bool false, .none] }
  dbig : h.objs.size ≤ dx
  dne : dx ≠ x
  ns : h'.Ns1 dx (fun y => if y = f then some v else none)
theorem init_run_given (T : ErrI prog K C fI "given") {x t0 : Addr} {v : Value} {args : Args} (X : K.In s.heap) (G : s.heap.Ns mainGlobals mg) (hsup : mg "super" = none) (hB : ∃ mb, s.heap.Ns builtinsNs mb ∧ ∀ x : Str, x ≠ "__name__" → mb x = bootBuiltins x)
    (hlim : s.heap.NoLimit) (hx : s.heap.get? x = some (excO C t0)) (hnx : K.lookup x = none) (hroom : A.depth < recursionLimit) (ha : args = ⟨[.ref x, v], []⟩ ∨ args = ⟨[.ref x], [("given", v)]⟩)
    (hq : ∀ h' tk dx, InitEnd s.heap h' x C dx "given" v → R (.ok (.ret .none)) { s with heap := h', toks := tk }) :
    codeAny (model prog w) A (.call (.ref fI) args) R s := by
  obtain ⟨msg, qual, p1, p2, a1, a2, a3, a4, a5, a6, b1, b2, b3, b4, kV, doc, pm, ct, oc, an, od, osl, cc, cda, ho, hcd, ⟨pl, hmc⟩, ⟨cl, cld, csl, hcell⟩, ⟨ccl, cdd, ccs, vs, file, tf, hcode, hvs, hfile⟩⟩ := T.fn
  obtain ⟨nm, q, N, bs, bm, sn, sub, ab, col, dd, k0, k1, k2, k3, k5, hC, hbm, hal⟩ := T.cls
  have hcl : clsIn K C = some { name := nm, bases := bs, mro := .ref C :: bm, ns := N, qualname := q, hasDict := true, slotNames := sn, subclasses := sub, abstract := ab, collection := col, hasDel := false } := by unfold clsIn; rw [hC] <;> rfl
  have hsubR : subIn K (.ref C) (.ref C) = some true := by
    show mroIn K C (.ref C) = some true
    unfold mroIn
    rw [hcl, Option.bind_some, if_neg (by simp)]
    simp
  have hsub : subIn K (.ref C) (.type "ValueError") = some true := by
    show mroIn K C (.type "ValueError") = some true
    unfold mroIn
    rw [hcl, Option.bind_some, if_neg (by simp), List.contains_cons, refsVE_contains _ _ hbm]
    rfl
  have hxC : x ≠ C := fun z => by rw [z, X _ _ hC] at hx; cases hx
  have hbind : BindsTo s (fnX "__init__" qual (iA "given" p1 p2) (iB "given" msg a1 a2 a3 a4 a5 a6 b1 b2 b3 b4) (iS "given") [("__class__", cc)] .none kV doc pm an (.ref cda) ct) args [("self", .ref x), ("given", v)] := by
    rcases ha with rfl | rfl <;> exact BindsTo.of_eq (by first | rfl | with_unfolding_all rfl)
  refine ks_codeAny_call_defAt (binds := [("self", .ref x), ("given", v)]) hroom (X _ _ ho) rfl hlim (codeRec_of X hcd) rfl hbind (show ∀ x ∈ (iS "given").names, x.2 ≠ .cell by decide) (by intro y hy; simp only [List.mem_cons, List.not_mem_nil, or_false] at hy; rcases hy with rfl | rfl <;> rfl) (fun h₁ hns hk₁ => ?_) rfl rfl rfl
  have X₁ : K.In h₁ := X.keeps hk₁
  have hx₁ := hk₁ _ _ hx
  have hC₁ := X₁ _ _ hC
  obtain ⟨hh, gg, dd', tt, os⟩ := s
  dsimp only at *
  unfold iB
  refine ks_wpAt_execs_cons (ks_wpAt_Expr_any (ks_wpAt_MethodCall (he := hmc _) ?_))
  refine ks_wpAt_super_base (by rfl) (by rfl) (by decide) rfl (X₁ _ _ ho) rfl rfl rfl (X₁ _ _ hcode) rfl hvs hfile T.top ?_
  obtain ⟨mb, hB1, hB2⟩ := hB
  refine ks_loadName_global rfl (by rfl) (loadGlobal_builtin (G.keeps hk₁) hsup (hB1.keeps hk₁) ((hB2 _ (by decide +kernel)).trans (show bootBuiltins "super" = some (.type "super") by first | rfl | kernel_rfl)) ⟨rfl, ?_⟩)
  refine wpAny_loadName_free rfl (by rfl) rfl ⟨_, X₁ _ _ hcell, rfl⟩ ?_
  refine wpAny_loadName_local rfl (by rfl) hns (v := .ref x) (by rfl) ?_
  refine ks_wpAny_isType_cls hC₁ rfl ⟨rfl, ?_⟩
  refine ks_wpAny_call_super hC₁ rfl hx₁ rfl (fun c z => nomatch z) (looks_subIn X₁ hsubR) (fun h₂ e₂ k₂ => ?_)
  have X₂ : K.In h₂ := X₁.keeps k₂
  have hx₂ := k₂ _ _ hx₁
  have hns₂ := hns.keeps k₂
  have I₂ : InstAt h₂ x (excO C t0) C none := ⟨hx₂, rfl, rfl, trivial⟩
  refine kxs_getMethod kxs_ValueError e₂ (looks_opaque X₂ T.opq) (l₀ := .ref C :: bm) (fun A Q E s k q => wpAny_bind ((looks_clsIn X₂ hcl) A _ E s k (wpAny_pure q))) (l := bm) (by simp [List.dropWhile_cons]) X₂ hal (I₂.type.andThen (looks_subIn X₂ hsub)) hxC (by decide) ?_
  have k₃ : ∀ b o, h₂.get? b = some o → (h₂.push (kxs_mw "ValueError.__init__" x)).get? b = some o := fun b o e => Heap.get?_push_of_some _ e
  have hu₃ : (h₂.push (kxs_mw "ValueError.__init__" x)).get? h₂.objs.size = some (kxs_mw "ValueError.__init__" x) := Heap.get?_push_at rfl rfl
  refine kxs_callWith (i := "ValueError.__init__") (x := x) (by rfl) (evalArgs_plain (Calls.spliced_cons (Calls.Constant_str (k := 0) (pos := a4) (Calls.spliced_nil ?_)))) 
  refine ⟨hu₃, call_mw (c := ⟨nm, q, N, bs, bm, true, sn, sub, ab, col, dd, k0, k1, k2, k3, k5⟩) (X₂.keeps k₃ _ _ hC) (k₃ _ _ hx₂) hu₃ (by show 1 ≤ sizeLine; rw [sizeLine_eq]; omega) (fun h₄ t1 k₄ e₄ => ?_)⟩
  have kk : ∀ b o, b ≠ x → hh.get? b = some o → h₄.get? b = some o := fun b o hb e => k₄ b o hb (k₃ b o (k₂ b o (hk₁ b o e)))
  have X₄ : K.In h₄ := fun a o e => kk a o (fun z => by rw [z, hnx] at e; cases e) (X _ _ e)
  have hLx : hh.objs.size ≠ x := Nat.ne_of_gt (Heap.lt_size hx)
  have hns₄ : h₄.Ns hh.objs.size (fun y : Str => ([(("self" : Str), Value.ref x), ("given", v)] : List (Str × Value)).reverse.lookup y) := by
    obtain ⟨o, es, ep, e, r⟩ := hns₂
    exact ⟨o, es, ep, k₄ _ _ hLx (k₃ _ _ e), r⟩
  refine ks_wpAt_execs_cons (ks_wpAt_Assign_Attr (wpAt_of_wpAny (ldL hns₄ (u := v) (by rfl) (ldL hns₄ (u := .ref x) (by rfl) ?_))))
  refine set_plain X₄ (ox := excO C t1) (od := none) ⟨e₄, rfl, rfl, trivial⟩ T.sa ?_
  refine exc_osa X₄ e₄ hcl (show refsVE (.ref C :: bm) = true from hbm) rfl T.noN (fun h₅ tk₅ dx k₅ dn dne hx₅ hn₅ => ?_)
  have z4 : hh.objs.size ≤ h₄.objs.size := by
    obtain ⟨o, es, ep, e, r⟩ := hns₄
    exact Nat.le_of_lt (Heap.lt_size e)
  exact wpAt_of_wpAny (wpAny_execs_nil (hq h₅ tk₅ dx ⟨fun b o hb e => k₅ b o hb (kk b o hb e), ⟨_, hx₅⟩, Nat.le_trans z4 dn, dne, hn₅⟩))
theorem init_run_index (T : ErrI prog K C fI "index") {x t0 : Addr} {v : Value} {args : Args} (X : K.In s.heap) (G : s.heap.Ns mainGlobals mg) (hsup : mg "super" = none) (hB : ∃ mb, s.heap.Ns builtinsNs mb ∧ ∀ x : Str, x ≠ "__name__" → mb x = bootBuiltins x)
    (hlim : s.heap.NoLimit) (hx : s.heap.get? x = some (excO C t0)) (hnx : K.lookup x = none) (hroom : A.depth < recursionLimit) (ha : args = ⟨[.ref x, v], []⟩ ∨ args = ⟨[.ref x], [("index", v)]⟩)
    (hq : ∀ h' tk dx, InitEnd s.heap h' x C dx "index" v → R (.ok (.ret .none)) { s with heap := h', toks := tk }) :
    codeAny (model prog w) A (.call (.ref fI) args) R s := by
  obtain ⟨msg, qual, p1, p2, a1, a2, a3, a4, a5, a6, b1, b2, b3, b4, kV, doc, pm, ct, oc, an, od, osl, cc, cda, ho, hcd, ⟨pl, hmc⟩, ⟨cl, cld, csl, hcell⟩, ⟨ccl, cdd, ccs, vs, file, tf, hcode, hvs, hfile⟩⟩ := T.fn
  obtain ⟨nm, q, N, bs, bm, sn, sub, ab, col, dd, k0, k1, k2, k3, k5, hC, hbm, hal⟩ := T.cls
  have hcl : clsIn K C = some { name := nm, bases := bs, mro := .ref C :: bm, ns := N, qualname := q, hasDict := true, slotNames := sn, subclasses := sub, abstract := ab, collection := col, hasDel := false } := by unfold clsIn; rw [hC] <;> rfl
  have hsubR : subIn K (.ref C) (.ref C) = some true := by
    show mroIn K C (.ref C) = some true
    unfold mroIn
    rw [hcl, Option.bind_some, if_neg (by simp)]
    simp
  have hsub : subIn K (.ref C) (.type "ValueError") = some true := by
    show mroIn K C (.type "ValueError") = some true
    unfold mroIn
    rw [hcl, Option.bind_some, if_neg (by simp), List.contains_cons, refsVE_contains _ _ hbm]
    rfl
  have hxC : x ≠ C := fun z => by rw [z, X _ _ hC] at hx; cases hx
  have hbind : BindsTo s (fnX "__init__" qual (iA "index" p1 p2) (iB "index" msg a1 a2 a3 a4 a5 a6 b1 b2 b3 b4) (iS "index") [("__class__", cc)] .none kV doc pm an (.ref cda) ct) args [("self", .ref x), ("index", v)] := by
    rcases ha with rfl | rfl <;> exact BindsTo.of_eq (by first | rfl | with_unfolding_all rfl)
  refine ks_codeAny_call_defAt (binds := [("self", .ref x), ("index", v)]) hroom (X _ _ ho) rfl hlim (codeRec_of X hcd) rfl hbind (show ∀ x ∈ (iS "index").names, x.2 ≠ .cell by decide) (by intro y hy; simp only [List.mem_cons, List.not_mem_nil, or_false] at hy; rcases hy with rfl | rfl <;> rfl) (fun h₁ hns hk₁ => ?_) rfl rfl rfl
  have X₁ : K.In h₁ := X.keeps hk₁
  have hx₁ := hk₁ _ _ hx
  have hC₁ := X₁ _ _ hC
  obtain ⟨hh, gg, dd', tt, os⟩ := s
  dsimp only at *
  unfold iB
  refine ks_wpAt_execs_cons (ks_wpAt_Expr_any (ks_wpAt_MethodCall (he := hmc _) ?_))
  refine ks_wpAt_super_base (by rfl) (by rfl) (by decide) rfl (X₁ _ _ ho) rfl rfl rfl (X₁ _ _ hcode) rfl hvs hfile T.top ?_
  obtain ⟨mb, hB1, hB2⟩ := hB
  refine ks_loadName_global rfl (by rfl) (loadGlobal_builtin (G.keeps hk₁) hsup (hB1.keeps hk₁) ((hB2 _ (by decide +kernel)).trans (show bootBuiltins "super" = some (.type "super") by first | rfl | kernel_rfl)) ⟨rfl, ?_⟩)
  refine wpAny_loadName_free rfl (by rfl) rfl ⟨_, X₁ _ _ hcell, rfl⟩ ?_
  refine wpAny_loadName_local rfl (by rfl) hns (v := .ref x) (by rfl) ?_
  refine ks_wpAny_isType_cls hC₁ rfl ⟨rfl, ?_⟩
  refine ks_wpAny_call_super hC₁ rfl hx₁ rfl (fun c z => nomatch z) (looks_subIn X₁ hsubR) (fun h₂ e₂ k₂ => ?_)
  have X₂ : K.In h₂ := X₁.keeps k₂
  have hx₂ := k₂ _ _ hx₁
  have hns₂ := hns.keeps k₂
  have I₂ : InstAt h₂ x (excO C t0) C none := ⟨hx₂, rfl, rfl, trivial⟩
  refine kxs_getMethod kxs_ValueError e₂ (looks_opaque X₂ T.opq) (l₀ := .ref C :: bm) (fun A Q E s k q => wpAny_bind ((looks_clsIn X₂ hcl) A _ E s k (wpAny_pure q))) (l := bm) (by simp [List.dropWhile_cons]) X₂ hal (I₂.type.andThen (looks_subIn X₂ hsub)) hxC (by decide) ?_
  have k₃ : ∀ b o, h₂.get? b = some o → (h₂.push (kxs_mw "ValueError.__init__" x)).get? b = some o := fun b o e => Heap.get?_push_of_some _ e
  have hu₃ : (h₂.push (kxs_mw "ValueError.__init__" x)).get? h₂.objs.size = some (kxs_mw "ValueError.__init__" x) := Heap.get?_push_at rfl rfl
  refine kxs_callWith (i := "ValueError.__init__") (x := x) (by rfl) (evalArgs_plain (Calls.spliced_cons (Calls.Constant_str (k := 0) (pos := a4) (Calls.spliced_nil ?_)))) 
  refine ⟨hu₃, call_mw (c := ⟨nm, q, N, bs, bm, true, sn, sub, ab, col, dd, k0, k1, k2, k3, k5⟩) (X₂.keeps k₃ _ _ hC) (k₃ _ _ hx₂) hu₃ (by show 1 ≤ sizeLine; rw [sizeLine_eq]; omega) (fun h₄ t1 k₄ e₄ => ?_)⟩
  have kk : ∀ b o, b ≠ x → hh.get? b = some o → h₄.get? b = some o := fun b o hb e => k₄ b o hb (k₃ b o (k₂ b o (hk₁ b o e)))
  have X₄ : K.In h₄ := fun a o e => kk a o (fun z => by rw [z, hnx] at e; cases e) (X _ _ e)
  have hLx : hh.objs.size ≠ x := Nat.ne_of_gt (Heap.lt_size hx)
  have hns₄ : h₄.Ns hh.objs.size (fun y : Str => ([(("self" : Str), Value.ref x), ("index", v)] : List (Str × Value)).reverse.lookup y) := by
    obtain ⟨o, es, ep, e, r⟩ := hns₂
    exact ⟨o, es, ep, k₄ _ _ hLx (k₃ _ _ e), r⟩
  refine ks_wpAt_execs_cons (ks_wpAt_Assign_Attr (wpAt_of_wpAny (ldL hns₄ (u := v) (by rfl) (ldL hns₄ (u := .ref x) (by rfl) ?_))))
  refine set_plain X₄ (ox := excO C t1) (od := none) ⟨e₄, rfl, rfl, trivial⟩ T.sa ?_
  refine exc_osa X₄ e₄ hcl (show refsVE (.ref C :: bm) = true from hbm) rfl T.noN (fun h₅ tk₅ dx k₅ dn dne hx₅ hn₅ => ?_)
  have z4 : hh.objs.size ≤ h₄.objs.size := by
    obtain ⟨o, es, ep, e, r⟩ := hns₄
    exact Nat.le_of_lt (Heap.lt_size e)
  exact wpAt_of_wpAny (wpAny_execs_nil (hq h₅ tk₅ dx ⟨fun b o hb e => k₅ b o hb (kk b o hb e), ⟨_, hx₅⟩, Nat.le_trans z4 dn, dne, hn₅⟩))
end
end ErrLow
end PySem
set_option Elab.async false
set_option linter.all false
set_option maxRecDepth 100000
set_option maxHeartbeats 4000000
namespace PySem
namespace ErrLow
open PySem.W
open PySem.Calls
open PyProof.Rows
open PySem.HandSPX
/-- an error at e that was made: its own dict at d holds the attribute f alone -/
structure Made (h h' : Heap) (e C d : Addr) (f : Str) (v : Value) : Prop where
  keep : ∀ b o, h.get? b = some o → h'.get? b = some o
  newE : h.get? e = none
  newD : h.get? d = none
  obj : ∃ t1 : Addr, h'.get? e = some ({ cls := .ref C, dict := some d, data := .fields #[.ref t1, .none, .none, .none, .bool false, .none] } : Obj)
  ne : d ≠ e
  ns : h'.Ns1 d (fun y => if y = f then some v else none)
section
variable {prog : Program} {w : World} {A : Around} {R : Result → Shared → Prop} {s : Shared} {K : Frag} {mg : Str → Option Value} {C fI : Addr} {f : Str}
theorem made_run (T : ErrI prog K C fI f) (hf : f = "given" ∨ f = "index") {v : Value} {args : Args} (X : K.In s.heap) (G : s.heap.Ns mainGlobals mg) (hsup : mg "super" = none) (hB : ∃ mb, s.heap.Ns builtinsNs mb ∧ ∀ x : Str, x ≠ "__name__" → mb x = bootBuiltins x)
    (hlim : s.heap.NoLimit) (hroom : A.depth + 1 < recursionLimit) (ha : args = ⟨[v], []⟩ ∨ args = ⟨[], [(f, v)]⟩)
    (hq : ∀ h' tk e d, Made s.heap h' e C d f v → R (.ok (.ret (.ref e))) { s with heap := h', toks := tk }) :
    codeAny (model prog w) A (.call (.ref C) args) R s := by
  obtain ⟨nm, q, N, bs, bm, sn, sub, ab, col, dd, k0, k1, k2, k3, k5, hC, hbm, _⟩ := T.cls
  obtain ⟨rest, kw⟩ := args
  obtain ⟨hp, g, dr, tk, os⟩ := s
  dsimp only at *
  have hlen : rest.length ≤ sizeLine := by
    rw [sizeLine_eq]
    rcases ha with z | z <;> (cases z; simp)
  have k : ∀ b o, hp.get? b = some o → ((hp.push (kdv_tup rest)).push (excO C hp.objs.size)).get? b = some o := fun b o e => Heap.get?_push_of_some _ (Heap.get?_push_of_some _ e)
  have hget : ((hp.push (kdv_tup rest)).push (excO C hp.objs.size)).get? (hp.objs.size + 1) = some (excO C hp.objs.size) := by heap_get
  have big : ∀ a, hp.objs.size ≤ a → hp.get? a = none := fun a z => Heap.get?_none_of_le z
  have hnx : K.lookup (hp.objs.size + 1) = none := by
    cases e : K.lookup (hp.objs.size + 1) with
    | none => rfl
    | some o =>
      have z := X _ _ e
      rw [big _ (Nat.le_succ _)] at z
      cases z
  have fin : ∀ h' tk' dx, InitEnd ((hp.push (kdv_tup rest)).push (excO C hp.objs.size)) h' (hp.objs.size + 1) C dx f v →
      InitBack (hp.objs.size + 1) R (.ok (.ret .none)) ⟨h', g, dr, tk', os⟩ := fun h' tk' dx M => by
    have sz : hp.objs.size + 2 ≤ dx := by
      have z := M.dbig
      rw [Heap.size_push, Heap.size_push] at z
      exact z
    exact ⟨rfl, hq h' tk' _ dx ⟨fun b o e => M.keep b o (fun z => by rw [z, big _ (Nat.le_succ _)] at e; cases e) (k b o e), big _ (Nat.le_succ _), big _ (by omega), M.obj, M.dne, M.ns⟩⟩
  refine callCls (c := ⟨nm, q, N, bs, bm, true, sn, sub, ab, col, dd, k0, k1, k2, k3, k5⟩) F.excBase_ValueError (fun Y => refsVE_contains Y bm hbm) (X _ _ hC) hlen (looks_findIn X T.iC) (fun self => bind_fn X self T.tC) ?_
  obtain ⟨mb, hB1, hB2⟩ := hB
  rcases hf with rfl | rfl
  · refine init_run_given (s := ⟨(hp.push (kdv_tup rest)).push (excO C hp.objs.size), g, dr, tk, os⟩) (v := v) T (X.keeps k) (G.keeps k) hsup ⟨mb, hB1.keeps k, hB2⟩ (hlim.keeps k) hget hnx hroom ?_ fin
    rcases ha with z | z <;> cases z
    · exact .inl rfl
    · exact .inr rfl
  · refine init_run_index (s := ⟨(hp.push (kdv_tup rest)).push (excO C hp.objs.size), g, dr, tk, os⟩) (v := v) T (X.keeps k) (G.keeps k) hsup ⟨mb, hB1.keeps k, hB2⟩ (hlim.keeps k) hget hnx hroom ?_ fin
    rcases ha with z | z <;> cases z
    · exact .inl rfl
    · exact .inr rfl
end
end ErrLow
end PySem
namespace L2
open PySem PySem.Spec PyProof.Rows
/-! ### two new objects, laid at once -/
section
variable {X : Cx} {pins : List (Addr × Obj)} {σ : St} {H : Hp} {s : Shared} {h' : Heap} {a b : Addr} {oa ob : HO}
theorem Inv.laid2 {t' : Nat} (I : Inv X pins σ H s) (k : ∀ c u, s.heap.get? c = some u → h'.get? c = some u) (na : s.heap.get? a = none) (nb : s.heap.get? b = none) (ne : b ≠ a)
    (wa : ObjOk X.prog X.w (upd (upd H b ob) a oa) h' a oa) (wb : ObjOk X.prog X.w (upd (upd H b ob) a oa) h' b ob) : Inv X pins σ (upd (upd H b ob) a oa) { s with heap := h', toks := t' } := by
  have ha : H a = none := I.hok.gone na
  have hb : H b = none := I.hok.gone nb
  have fr : ∀ c u, s.heap.get? c = some u → c ≠ a ∧ c ≠ b := fun c u q => And.intro (fun z => by rw [z, na] at q; cases q) (fun z => by rw [z, nb] at q; cases q)
  have tr : ∀ c u, H c = some u → upd (upd H b ob) a oa c = some u := fun c u q => by rw [upd_ne (ne_of_none q ha), upd_ne (ne_of_none q hb)]; exact q
  refine I.un ⟨fun c u q _ _ _ => k c u q, fun c u q _ _ _ => ⟨u.slots, k c u q⟩, fun c u q n _ => by rw [upd_ne (fr c u q).1, upd_ne (fr c u q).2]; exact n, fun c u q _ => ⟨u, k c u q⟩, fun c xs q => tr c _ q, fun c o u q => tr c _ q, fun c ps q => ⟨#[], by rw [tr c _ q]; simp⟩⟩ fun c u q => ?_
  by_cases h1 : c = a
  · subst h1
    rw [upd_same] at q
    cases q
    exact wa
  · rw [upd_ne h1] at q
    by_cases h2 : c = b
    · subst h2
      rw [upd_same] at q
      cases q
      exact wb
    · rw [upd_ne h2] at q
      exact (I.hok c u q).stay (fun x v _ z => k x v z) (fun x z => tr x _ z) fun x xs z => tr x _ z
end
/-! ### rules: an error made as a value -/
/-- what is behind X(e): a new error of the class at C with the attribute f -/
def tErr (C : Addr) (f : Str) (ta : TA) : TE := fun σ H Q => ta σ H fun vs H1 => ∃ v, vs = [v] ∧ ∀ e d, H1 e = none → H1 d = none → d ≠ e → Q (.ref e) (upd (upd H1 d (.xd [(f, v)])) e (exo e C (some d)))
section
variable {X : Cx} {pins : List (Addr × Obj)} {σ : St} {H : Hp} {s : Shared} {C fI : Addr} {f x : Str} {a : Expr} {ta : TA} {p pos kpos : Pos} {k : Nat}
theorem err_val {Q : VK} {v : V} {u : Value} {args : Args} (T : PySem.ErrLow.ErrI X.prog X.K C fI f) (hf : f = "given" ∨ f = "index") (hs : X.mg "super" = none) (hr : Room k X.A) (I : Inv X pins σ H s) (r : RelV v u)
    (ha : args = ⟨[u], []⟩ ∨ args = ⟨[], [(f, u)]⟩)
    (q : ∀ e d, H e = none → H d = none → d ≠ e → Q (.ref e) (upd (upd H d (.xd [(f, v)])) e (exo e C (some d)))) :
    wpAny (model X.prog X.w) X.A (call (.ref C) args.pos args.kw) (EP X pins σ Q) X.xe s := by
  obtain ⟨mb, h1, h2⟩ := I.mod.blt
  refine wpAny_call (PySem.ErrLow.made_run T hf (v := u) I.kIn (I.mod.glob.keeps I.bk) hs ⟨mb, h1.keeps I.bk, h2⟩ I.nolimit (by have := hr.dp; omega) (by obtain ⟨_, _⟩ := args; exact ha) fun h' tk e d M => ?_)
  obtain ⟨t1, ho⟩ := M.obj
  refine ⟨.ref e, _, I.laid2 M.keep M.newE M.newD M.ne (ob := .xd [(f, v)]) (exo_ok ho) (show ∃ mA, h'.Ns1 d mA ∧ ∀ g, RelO (List.lookup g [(f, v)]) (mA g) from ⟨_, M.ns, relO_put (fs := []) r fun g => True.intro⟩), rfl, q e d (I.hok.gone M.newE) (I.hok.gone M.newD) M.ne⟩
theorem pe_err (T : PySem.ErrLow.ErrI X.prog X.K C fI f) (hf : f = "given" ∨ f = "index") (hs : X.mg "super" = none) (hr : Room k X.A) (hg : Gl X x) (hm : X.mg x = some (.ref C)) (ha : PA X [a] ta)
    (hdb : (x == ("__debug__" : Str)) = false := by decide) (he : starEach [a] X.env = (false, eval a X.env) :: starEach [] X.env := by rfl) : PE X (.Call (.Name x p) [a] [] pos) (tErr C f ta) := by
  refine ⟨fun pins s σ H Q I h => ?_⟩
  refine wpAny_Call_Name_kw (ld_glob I hg hm ?_ hdb)
  refine PySem.W.callWith_K (h₀ := X.base) I.ok.mod.kin T.kC (thn (ha.run pos pins s σ H _ I h) fun us s1 ⟨vs, H1, I1, r, v, ev, q⟩ => ⟨I1.kIn, ?_⟩) he (by rfl)
  subst ev
  cases r with
  | cons r1 r2 =>
    cases r2
    exact err_val (args := ⟨[_], []⟩) T hf hs hr I1 r1 (.inl rfl) q
theorem pe_errK (T : PySem.ErrLow.ErrI X.prog X.K C fI f) (hf : f = "given" ∨ f = "index") (hs : X.mg "super" = none) (hr : Room k X.A) (hg : Gl X x) (hm : X.mg x = some (.ref C)) (ha : PK X [⟨some f, a, kpos⟩] ta)
    (hdb : (x == ("__debug__" : Str)) = false := by decide) : PE X (.Call (.Name x p) [] [⟨some f, a, kpos⟩] pos) (tErr C f ta) := by
  refine ⟨fun pins s σ H Q I h => ?_⟩
  refine wpAny_Call_Name_kw (ld_glob I hg hm ?_ hdb)
  refine PySem.W.callWith_KW0 (h₀ := X.base) I.ok.mod.kin T.kC (by rfl) (thn (ha.run pos pins s σ H _ I h) fun us s1 ⟨vs, H1, I1, r, v, ev, q⟩ => ⟨I1.kIn, ?_⟩) (by rfl)
  subst ev
  cases r with
  | cons r1 r2 =>
    cases r2
    exact err_val (args := ⟨[], [(f, _)]⟩) T hf hs hr I1 r1 (.inr rfl) q
end
end L2
set_option Elab.async false
set_option linter.all false
set_option maxRecDepth 100000
set_option maxHeartbeats 4000000
namespace L2
open PySem PySem.Spec PyProof.Rows
/-! ### an own class of errors, its own classes above it -/
/-- a name looked up on the class at C is the built-in b -/
abbrev At0 (K : PySem.W.Frag) (C : Addr) (n : Str) (b : String) : Prop := PySem.W.findIn K (.ref C) n = some (some (.builtin b))
structure ErrK (K : PySem.W.Frag) (C : Addr) (up : List Addr) : Prop where
  cls : ∃ nm q N bs sn sub ab col dd k0 k1 k2 k3 k5, K.lookup C = some (excClassObj nm q C N bs (up.map Value.ref ++ PySem.HandSPX.veTail) true sn sub ab col dd k0 k1 k2 k3 k5 "ValueError.__new__")
  ga : At0 K C "__getattribute__" "BaseException.__getattribute__"
  gg : PySem.W.findIn K (.ref C) "__getattr__" = some none
  ca : At0 K C "__class__" "object.__class__"
  tyC : PySem.W.typeIn K (.ref C) = some (.type "type")
  kC : PySem.W.keepIn K (.ref C) = true
structure ErrG (K : PySem.W.Frag) : Prop where
  sp : PySem.W.specialIn K (.builtin "object.__class__") "__get__" = some (some (.builtin "getset_descriptor.__get__"))
  tk : PySem.W.takesIn K (.builtin "object.__class__") = some true
/-- the classes that an error of the class at C is of -/
def mroE (C : Addr) (up : List Addr) : List Value := .ref C :: (up.map Value.ref ++ PySem.HandSPX.veTail)
section
variable {K : PySem.W.Frag} {C : Addr} {up : List Addr}
theorem ErrK.clsIn (T : ErrK K C up) : ∃ cd, PySem.W.clsIn K C = some cd ∧ cd.mro = mroE C up ∧ cd.hasDict = true := by
  obtain ⟨nm, q, N, bs, sn, sub, ab, col, dd, k0, k1, k2, k3, k5, hC⟩ := T.cls
  exact ⟨{ name := nm, bases := bs, mro := mroE C up, ns := N, qualname := q, hasDict := true, slotNames := sn, subclasses := sub, abstract := ab, collection := col, hasDel := false }, by unfold PySem.W.clsIn; rw [hC] <;> rfl, rfl, rfl⟩
theorem ErrK.mro (T : ErrK K C up) (c : Value) : PySem.W.mroIn K C c = some ((mroE C up).contains c) := by
  obtain ⟨cd, h, hm, _⟩ := T.clsIn
  unfold PySem.W.mroIn
  rw [h, Option.bind_some, hm, if_neg (by simp [mroE])]
theorem mroE_ve (n : String) (h : PySem.HandSPX.veTail.contains (.type n) = true) : (mroE C up).contains (.type n) = true := by
  have e : (.type n) ∈ PySem.HandSPX.veTail := List.contains_iff_mem.mp h
  exact List.contains_iff_mem.mpr (List.mem_cons_of_mem _ (List.mem_append_right _ e))
/-- what isinstance may be asked of -/
def ClsOk (K : PySem.W.Frag) : Value → Prop
  | .ref D => (PySem.W.clsIn K D).isSome = true ∧ PySem.W.typeIn K (.ref D) = some (.type "type")
  | .type n => PySem.W.kitMeta n = true
  | _ => False
theorem ErrK.ok (T : ErrK K C up) : ClsOk K (.ref C) := by
  obtain ⟨cd, h, _⟩ := T.clsIn
  exact ⟨by rw [h]; rfl, T.tyC⟩
theorem ErrK.kit (T : ErrK K C up) {c : Value} (h : ClsOk K c) : PySem.W.kitOne K (.ref C) c = some ((mroE C up).contains c) := by
  unfold PySem.W.kitOne
  by_cases e : ((Value.ref C) == c) = true
  · rw [if_pos e, ← beq_iff_eq.mp e]
    simp [mroE]
  · rw [if_neg e]
    cases c with
    | ref D =>
      obtain ⟨h1, h2⟩ := h
      show (if ((PySem.W.clsIn K D).isSome && PySem.W.typeIn K (.ref D) == some (.type "type")) = true then _ else none) = _
      rw [h1, h2, if_pos (by decide)]
      exact T.mro _
    | type n =>
      have h' : PySem.W.kitMeta n = true := h
      show (if PySem.W.kitMeta n = true then _ else none) = _
      rw [if_pos h']
      exact T.mro _
    | _ => exact h.elim
end
/-! ### an error that was made: tracked, or the one that the suite holds -/
def MadeIn (X : Cx) (H : Hp) (a D : Addr) : Prop :=
  ∃ d : Option Addr, (∀ dx, d = some dx → ∃ fs, H dx = some (.xd fs)) ∧ (H a = some (exo a D d) ∨ ∃ oe : Obj, (a, oe) ∈ X.pn ∧ Zc (.ref D) d oe ∧ ∃ vs, oe.data = .fields vs)
theorem MadeIn.same {X : Cx} {H H' : Hp} {a D : Addr} (m : MadeIn X H a D) (k : Same H H') : MadeIn X H' a D := by
  obtain ⟨d, h1, h2⟩ := m
  refine ⟨d, fun dx e => ?_, ?_⟩
  · obtain ⟨fs, z⟩ := h1 dx e
    exact ⟨fs, k _ _ z⟩
  · rcases h2 with z | z
    · exact .inl (k _ _ z)
    · exact .inr z
theorem MadeIn.inst {X : Cx} {pins : List (Addr × Obj)} {σ : St} {H : Hp} {s : Shared} {a D : Addr} (I : Inv X pins σ H s) (m : MadeIn X H a D) : ∃ ox od, PySem.W.InstAt s.heap a ox D od := by
  obtain ⟨d, h1, h2⟩ := m
  rcases h2 with z | ⟨oe, z, ⟨zc, zd⟩, vs, ev⟩
  · obtain ⟨t1, e⟩ := exo_at I.hok z
    cases d with
    | none => exact ⟨_, none, ⟨e, rfl, rfl, True.intro⟩⟩
    | some dx =>
      obtain ⟨fs, z⟩ := h1 dx rfl
      obtain ⟨mA, ⟨o, es, ep, e2, _⟩, _⟩ := (show ObjOk X.prog X.w H s.heap dx (.xd fs) from I.hok dx _ z)
      exact ⟨_, some o, ⟨e, rfl, rfl, e2⟩⟩
  · obtain ⟨e, _⟩ := I.pin (a, oe) (List.mem_append_left _ z)
    have hn : PySem.W.notCls oe = true := by unfold PySem.W.notCls; rw [ev] <;> rfl
    cases d with
    | none => exact ⟨oe, none, ⟨e, zc, hn, by rw [zd]; exact True.intro⟩⟩
    | some dx =>
      obtain ⟨fs, z⟩ := h1 dx rfl
      obtain ⟨mA, ⟨o, es, ep, e2, _⟩, _⟩ := (show ObjOk X.prog X.w H s.heap dx (.xd fs) from I.hok dx _ z)
      exact ⟨oe, some o, ⟨e, zc, hn, by rw [zd]; exact e2⟩⟩
/-- isinstance(e, c) -/
def rIsX (X : Cx) : List V → Hp → VK → Prop := fun xs H Q => ∃ (a D : Addr) (up : List Addr) (c : V) (cv : Value), xs = [.ref a, c] ∧ ClsV c cv ∧ MadeIn X H a D ∧ ErrK X.K D up ∧ ClsOk X.K cv ∧ Q (.bl ((mroE D up).contains cv)) H
theorem call_isX {X : Cx} (G : ErrG X.K) : CallR X (.builtin "isinstance") (rIsX X) := by
  intro pins s σ H xs us Q I r h
  obtain ⟨a, D, up, c, cv, rfl, hcv, m, T, ok, q⟩ := h
  cases r with
  | cons rx rr =>
    cases rr with
    | cons rt rr =>
      cases rr
      cases (show _ = Value.ref a from rx)
      have ec := hcv.eq rt
      subst ec
      obtain ⟨ox, od, J⟩ := m.inst I
      obtain ⟨cd, hcd, _, _⟩ := T.clsIn
      exact PySem.W.kia_one (PySem.W.kitx_exc (by rw [hcd]; rfl) T.ga T.gg ((T.mro _).trans (congrArg some (mroE_ve _ (by decide)))) T.ca G.sp G.tk ((T.mro _).trans (congrArg some (mroE_ve _ (by decide))))) I.kIn J (T.kit ok) (fun z => nomatch z) fun tk => ⟨.bl _, H, I.kept (t' := tk) fun _ _ z => z, rfl, q⟩
/-! ### e.f of an error that was made -/
def tErrF (K : PySem.W.Frag) (te : TE) (f : Str) : TE := fun σ H Q => te σ H fun x H1 => ∃ (a D d : Addr) (up : List Addr) (fs : List (Str × V)) (v : V), x = .ref a ∧ H1 a = some (exo a D (some d)) ∧ H1 d = some (.xd fs) ∧ ErrK K D up ∧
  PySem.W.findIn K (.ref D) f = some none ∧ fs.lookup f = some v ∧ Q v H1
theorem pe_errF {X : Cx} {e : Expr} {te : TE} {pos : Pos} {n : Str} (he : PE X e te) (hb : attributeBase e n X.env (eval e X.env) = eval e X.env := by rfl) : PE X (.Attribute e n pos) (tErrF X.K te n) := by
  refine ⟨fun pins s σ H Q I h => ?_⟩
  refine attr_of hb (thn (he.run pins s σ H _ I h) fun u s1 hh => ?_)
  obtain ⟨x, H1, I1, rx, a, D, d, up, fs, v, ex, ha, hd, T, hno, l, q⟩ := hh
  subst ex
  obtain rfl : u = Value.ref a := rx
  obtain ⟨t1, ho⟩ := exo_at I1.hok ha
  obtain ⟨mA, hns, hr⟩ := (show ObjOk X.prog X.w H1 s1.heap d (.xd fs) from I1.hok d _ hd)
  obtain ⟨od, hod, hl⟩ := lookIn_ns hns
  obtain ⟨u, hu, ru⟩ := RelO.some_of (v := v) (o := mA n) (by rw [← l]; exact hr n)
  obtain ⟨cd, hcd, _, hh⟩ := T.clsIn
  have J : PySem.W.InstAt s1.heap a { cls := .ref D, dict := some d, data := .fields #[.ref t1, .none, .none, .none, .bool false, .none] } D (some od) := ⟨ho, rfl, rfl, hod⟩
  exact HandSPX.exc_get I1.kIn J T.ga T.gg ((T.mro _).trans (congrArg some (mroE_ve _ (by decide)))) (PySem.W.findObj_own (by unfold PySem.W.hasDictIn; rw [hcd]; exact hh) hno rfl (by rw [hl, hu])) (handed_of ru) ⟨v, H1, I1.tok _, ru, q⟩
theorem up_contains (Y : String) : ∀ l : List Addr, (l.map Value.ref ++ PySem.HandSPX.veTail).contains (.type Y) = PySem.HandSPX.veTail.contains (.type Y)
  | [] => rfl
  | b :: r => by
    rw [List.map_cons, List.cons_append, List.contains_cons, up_contains Y r]
    rfl
/-! ### X() of a class without an __init__ of its own -/
def tErr0 (C : Addr) : TE := fun σ H Q => ∀ e, H e = none → Q (.ref e) (upd H e (exo e C none))
theorem pe_err0 {X : Cx} {C : Addr} {up : List Addr} {x : Str} {p pos : Pos} (T : ErrK X.K C up) (hi : PySem.W.findIn X.K (.ref C) "__init__" = some (some (.builtin "ValueError.__init__"))) (hg : Gl X x) (hm : X.mg x = some (.ref C)) (hdb : (x == ("__debug__" : Str)) = false := by decide) :
    PE X (.Call (.Name x p) [] [] pos) (tErr0 C) := by
  refine ⟨fun pins s σ H Q I h => ?_⟩
  refine wpAny_Call_Name_kw (ld_glob I hg hm ?_ hdb)
  refine PySem.W.callWith_K0 I.kIn T.kC ?_
  obtain ⟨nm, q, N, bs, sn, sub, ab, col, dd, k0, k1, k2, k3, k5, hC⟩ := T.cls
  have II := I
  obtain ⟨hp, g, d, t, os⟩ := s
  refine PySem.W.call_B F.excBase_ValueError (fun Y => up_contains Y up) (I.kIn _ _ hC) (PySem.W.looks_findIn I.kIn hi) (by simp) fun h' k e' t' => ?_
  have na : hp.get? (hp.objs.size + 1) = none := Heap.get?_none_of_le (Nat.le_succ _)
  exact ⟨.ref (hp.objs.size + 1), _, II.laidN (h' := h') k na (II.hok.gone na) (exo_ok e'), rfl, h _ (II.hok.gone na)⟩
end L2
set_option Elab.async false
set_option linter.all false
set_option maxRecDepth 100000
set_option maxHeartbeats 4000000
namespace L2
open PySem PySem.Spec PyProof.Rows
/-! ### a def's body, run in a context that is known to stand -/
section
variable {P : Program} {w : World} {K : PySem.W.Frag} {mg : Str → Option Value} {base : Heap} {A : Around} {outer : List Env} {s : Shared} {H : Hp} {args : Args} {us : List Value} {vs : List V} {Q : VK} {E : XK} {f : Addr} {name qual : Str} {params : Arguments}
  {body : List Stmt} {scope : Scope} {dvs : List V} {kws : List (Str × V)} {fd : FuncData} {N ps : List Str}
theorem FunD.runs (F : FunD K name qual params body scope dvs kws f fd) (S : FnScope N ps scope) (hd : A.depth < recursionLimit) (e0 : Env0 P w K mg base A outer s H) (hb : BindsTo s fd args (ps.zip us)) (Y : Value → Cx)
    (hI : ∀ cd s1, InCallC s s.heap.objs.size (bindL (envOfC qual scope s.heap.objs.size f cd).kindOf (ps.zip us) fun _ => none) (cellsFrom (s.heap.objs.size + 1) scope.names []) (bindC (envOfC qual scope s.heap.objs.size f cd).kindOf (ps.zip us) fun _ => none) s1 →
      Inv (Y cd) [] (start N vs) H s1)
    (hY : ∀ cd, (Y cd).prog = P ∧ (Y cd).w = w ∧ (Y cd).A = A.deeper (envOfC qual scope s.heap.objs.size f cd) ∧ (Y cd).env = envOfC qual scope s.heap.objs.size f cd ∧ (Y cd).s_0 = s ∧ (Y cd).H_0 = H ∧ (Y cd).outer = outer ∧ (Y cd).ex = [])
    (hbody : ∀ cd, ∃ t, PSs (Y cd).nox body t ∧ t { nx := fun _ H' => Q .non H', rt := Q } (start N vs) H) :
    codeAny (model P w) A (.call (.ref f) args) (CR CX0 outer P w H s Q E) s := by
  obtain ⟨oc, od, dV, kV, doc, pm, an, cdv, ct, osl, rfl, lk, hcd, _, _⟩ := F.ex
  have old : ∀ b o, base.get? b = some o → s.heap.get? b = some o := fun b o e => (e0.bs b o e).1
  have KX : K.In s.heap := e0.mod.kin.keeps old
  refine codeAny_call_function hd (KX _ _ lk) rfl S.co S.gen rfl (PySem.W.codeRec_of KX hcd) (hb _ _ _ _ ?_)
  refine wpAny_newFunctionEnv_cells S.kind (fun y hy => ?_) fun env he s1 x => ?_
  · rcases S.par y.1 (List.of_mem_zip hy).1 with q | q
    · exact .inl q
    · exact .inr ⟨q, PySem.W.cellsFrom_some _ _ _ (.inl q)⟩
  subst he
  refine ⟨(e0.mod.nolimit.keeps old).keeps x.toInCall.keep, codeAny_func ?_⟩
  obtain ⟨t, ht, hq⟩ := hbody cdv
  obtain ⟨y1, y2, y3, y4, y5, y6, y7, y8⟩ := hY cdv
  have I := hI cdv s1 x
  have z := ht.run [] s1 (start N vs) H _ (I.wish _) hq
  have z' : wpAny (model (Y cdv).prog (Y cdv).w) (Y cdv).A (execs body (Y cdv).env) (SP (Y cdv).nox [] { nx := fun _ H' => Q .non H', rt := Q }) (fun _ _ => False) s1 := z
  rw [y1, y2, y3, y4] at z'
  refine wpAny_mono z' (fun fl s' hs => ?_) fun _ _ q => q.elim
  have fin : ∀ {σ' : St} {H' : Hp} {v : V} {u : Value}, Inv (Y cdv).nox [] σ' H' s' → RelV v u → Q v H' → CE outer P w H s Q u s' := fun {σ' H' v u} J rv q => by
    have b := J.base
    have hk := J.hok
    have ho := J.os
    have b2 : Un (frs (Y cdv).outer) (Y cdv).ex (Y cdv).H_0 H' (Y cdv).s_0.heap s'.heap := b
    have hk2 : HOk (Y cdv).prog (Y cdv).w H' s'.heap := hk
    have ho2 : s'.os = (Y cdv).s_0.os := ho
    rw [y7, y8, y6, y5] at b2
    rw [y1, y2] at hk2
    rw [y5] at ho2
    exact ⟨v, H', ho2, J.bare, b2, hk2, rv, q⟩
  cases fl with
  | ret u =>
    obtain ⟨v, σ', H', J, rv, q⟩ := hs
    exact fin J rv q
  | next =>
    obtain ⟨σ', H', J, q⟩ := hs
    exact fin (v := V.non) (u := Value.none) J rfl q
  | brk =>
    obtain ⟨_, _, _, q⟩ := hs
    exact q.elim
  | cont =>
    obtain ⟨_, _, _, q⟩ := hs
    exact q.elim
end
/-! ### a def that is called with the error that an except suite holds -/
structure FnP (P : Program) (w : World) (K : PySem.W.Frag) (mg : Str → Option Value) (base : Heap) (k : Nat) (f : Addr) (fd : FuncData) (ps : List Str) (sp : Addr × Obj → Sp) : Prop where
  len : ∀ p vs H Q E, sp p vs H Q E → vs.length = ps.length
  run : ∀ (A : Around) (outer : List Env) (s : Shared) (H : Hp) (args : Args) (us : List Value) (vs : List V) (Q : VK) (p : Addr × Obj), L2H.RoomH k A → L2H.PinOk outer H s p → Env0 P w K mg base A outer s H → BindsTo s fd args (ps.zip us) → Vals vs us → sp p vs H Q E0 →
    codeAny (model P w) A (.call (.ref f) args) (CR CX0 outer P w H s Q E0) s
section
variable {P : Program} {w : World} {K : PySem.W.Frag} {mg : Str → Option Value} {base : Heap} {f : Addr} {name qual : Str} {params : Arguments} {body : List Stmt} {scope : Scope} {dvs : List V} {kws : List (Str × V)} {fd : FuncData} {N ps : List Str} {k : Nat}
theorem FunD.okP {sp : Addr × Obj → Sp} (F : FunD K name qual params body scope dvs kws f fd) (S : FnScope N ps scope) (len : ∀ p vs H Q E, sp p vs H Q E → vs.length = ps.length)
    (hbody : ∀ (cd : Value) (A : Around) (outer : List Env) (s : Shared) (H : Hp) (vs : List V) (Q : VK) (p : Addr × Obj), L2H.RoomH k (A.deeper (envOfC qual scope s.heap.objs.size f cd)) → sp p vs H Q E0 →
      ∃ t, PSs (L2H.cxH CX0 P w K mg base N qual scope f cd A outer s H E0 p).nox body t ∧ t { nx := fun _ H' => Q .non H', rt := Q } (start N vs) H) : FnP P w K mg base (k + 1) f fd ps sp :=
  ⟨len, fun A outer s H args us vs Q p hr pin e0 hb r hsp => F.runs S hr.depth e0 hb (fun cd => L2H.cxH CX0 P w K mg base N qual scope f cd A outer s H E0 p) (fun cd s1 x => L2H.inv_startH S pin e0 (len _ _ _ _ _ hsp) r x)
    (fun cd => ⟨rfl, rfl, rfl, rfl, rfl, rfl, rfl, rfl⟩) fun cd => hbody cd A outer s H vs Q p (hr.deeper _) hsp⟩
end
/-- f(e, ..) in a suite that holds p -/
def tCallP (sp : Sp) (t : TA) : TE := fun σ H Q => t σ H fun vs H1 => sp vs H1 Q E0
theorem pe_callP {X : Cx} {k : Nat} {f : Addr} {fd : FuncData} {ps : List Str} {sp : Addr × Obj → Sp} {x : Str} {q pos : Pos} {e : Expr} {es : List Expr} {t : TA} {p : Addr × Obj} (F : FnP X.prog X.w X.K X.mg X.base k f fd ps sp) (hr : L2H.RoomH k X.A) (hp : p ∈ X.pn)
    (hg : Gl X x) (hm : X.mg x = some (.ref f)) (hk : PySem.W.keepIn X.K (.ref f) = true) (hb : Binds X.K fd ps [])
    (ha : PA X (e :: es) t) (hdb : (x == ("__debug__" : Str)) = false := by decide) (he : starEach (e :: es) X.env = (false, eval e X.env) :: starEach es X.env := by rfl) (hpl : (backTo pos (starEach es X.env)).any (·.1) = false := by rfl) :
    PE X (.Call (.Name x q) (e :: es) [] pos) (tCallP (sp p) t) := by
  refine ⟨fun pins s σ H Q I h => wpAny_Call_Name_kw (ld_glob I hg hm ?_ hdb)⟩
  refine PySem.W.callWith_K (h₀ := X.base) I.ok.mod.kin hk (thn (ha.run pos pins s σ H _ I h) fun us s1 ⟨vs, H1, I1, r, h1⟩ => ⟨I1.kIn, ?_⟩) he hpl
  obtain ⟨g1, g2, g3, g4, g5⟩ := I1.pin p (List.mem_append_left _ hp)
  have hl : (us ++ []).length = ps.length := by rw [List.append_nil, ← r.length]; exact F.len _ _ _ _ _ h1
  have b := hb s1 us I1.kIn hl
  rw [List.append_nil] at b
  refine wpAny_call (codeAny_mono (F.run X.A X.stack s1 H1 ⟨us, []⟩ us vs Q p hr ⟨g1, g2, fun z => (List.mem_cons.mp (I1.stkSub _ z)).elim g3 g4, g5⟩ I1.env0 b r h1) fun r' s' hq => ?_)
  cases r' with
  | error e => exact hq.elim
  | ok fl =>
    cases fl with
    | ret u => exact I1.after hq
    | next => exact hq.elim
    | brk => exact hq.elim
    | cont => exact hq.elim
/-! ### the law's own def: nothing guards above it -/
def LawOk (P : Program) (w : World) (K : PySem.W.Frag) (mg : Str → Option Value) (base : Heap) (f : Addr) (fd : FuncData) (x : Str) (sp : Sp) : Prop :=
  ∀ (s : Shared) (H : Hp) (a : Addr), Env0 P w K mg base callerA [] s H → BindsTo s fd ⟨[.ref a], []⟩ [(x, .ref a)] → sp [.ref a] H (fun v _ => v = .bl true) E0 →
    codeAny (model P w) callerA (.call (.ref f) ⟨[.ref a], []⟩) (CR CX0 [] P w H s (fun v _ => v = .bl true) E0) s
theorem FunD.okL {P : Program} {w : World} {K : PySem.W.Frag} {mg : Str → Option Value} {base : Heap} {f : Addr} {name qual x : Str} {params : Arguments} {body : List Stmt} {scope : Scope} {dvs : List V} {kws : List (Str × V)} {fd : FuncData} {N : List Str} {k : Nat} {sp : Sp}
    (F : FunD K name qual params body scope dvs kws f fd) (S : FnScope N [x] scope) (hr : Room (k + 1) callerA)
    (hbody : ∀ (cd : Value) (s : Shared) (H : Hp) (a : Addr), Room k (callerA.deeper (envOfC qual scope s.heap.objs.size f cd)) → sp [.ref a] H (fun v _ => v = .bl true) E0 →
      ∃ t, PSs (cxOf CX0 P w K mg base N qual scope f cd callerA [] s H E0).nox body t ∧ t { nx := fun _ H' => V.non = .bl true, rt := fun v _ => v = .bl true } (start N [.ref a]) H) : LawOk P w K mg base f fd x sp :=
  fun s H a e0 hb hsp => F.runs (us := [.ref a]) S hr.depth e0 hb (fun cd => cxOf CX0 P w K mg base N qual scope f cd callerA [] s H E0) (fun cd s1 z => inv_start (vs := [.ref a]) S hr.hd e0 rfl (.cons (show RelV (.ref a) (Value.ref a) from rfl) .nil) z)
    (fun cd => ⟨rfl, rfl, rfl, rfl, rfl, rfl, rfl, rfl⟩) fun cd => hbody cd s H a (hr.deeper _) hsp

/-- what stands of the heap while a list at a is told as xs: what the module's part leans on -/
theorem law_runs {P : Program} {w : World} {K : PySem.W.Frag} {mg mb : Str → Option Value} {f a : Addr} {fd : FuncData} {x : Str} {sp : Sp} {s : Shared} {vs : List Value} {ns : List Int}
    (KX : K.In s.heap) (hns : s.heap.Ns mainGlobals mg) (hb : s.heap.Ns builtinsNs mb) (hbb : ∀ x : Str, x ≠ "__name__" → mb x = bootBuiltins x) (hlim : s.heap.NoLimit) (hg : s.gens = #[])
    (ha : s.heap.get? a = some { cls := .type "list", data := .seq vs.toArray }) (hi : IntsAre vs ns) (hl : ns.length ≤ sizeLine)
    (F : ∀ base : Heap, K.In base → base.Ns mainGlobals mg → LawOk P w K mg base f fd x sp) (hbind : ∀ (s : Shared) (u : Value), BindsTo s fd ⟨[u], []⟩ [(x, u)])
    (hsp : ∀ H : Hp, Only H → SqL K H a (ns.map V.int) → sp [.ref a] H (fun v _ => v = .bl true) E0) :
    codeAny (model P w) callerA (.call (.ref f) ⟨[.ref a], []⟩) (fun r s' => r = .ok (.ret (.bool true)) ∧ OldK s.heap s'.heap ∧ s'.os = s.os ∧ AllBare s'.gens) s := by
  have rv := vals_ints hi
  -- H tracks nothing, or the script alone
  have key : ∀ H : Hp, Only H → (∀ b u, H b = some u → b = a) → HOk P w H s.heap → SqL K H a (ns.map V.int) → (∀ u, H a = some u → K.lookup a = none) →
      codeAny (model P w) callerA (.call (.ref f) ⟨[.ref a], []⟩) (fun r s' => r = .ok (.ret (.bool true)) ∧ OldK s.heap s'.heap ∧ s'.os = s.os ∧ AllBare s'.gens) s := fun H hO only hok hS hK => by
    have into : ∀ {b : Addr} {o : Obj}, s.heap.get? b = some o → H b = none → (hidT s.heap H).get? b = some o := fun e n => hidT_get e n
    have offD : ∀ {b : Addr} {o : Obj} {es : Array DictEntry} {n : Nat}, s.heap.get? b = some o → o.data = .dict es n → H b = none := fun {b o es n} e d => by
      cases q : H b with
      | none => rfl
      | some u =>
        have z := only b u q
        subst z
        rw [ha] at e
        cases e
        cases d
    have ns' : ∀ {b : Addr} {m : Str → Option Value}, s.heap.Ns b m → (hidT s.heap H).Ns b m := fun ⟨o, es, ep, e, d, r⟩ => ⟨o, es, ep, into e (offD e d), d, r⟩
    have kb : K.In (hidT s.heap H) := fun b o e => by
      refine into (KX b o e) ?_
      cases q : H b with
      | none => rfl
      | some u =>
        have z := only b u q
        subst z
        rw [hK u q] at e
        cases e
    obtain ⟨mc, hc1, hc2⟩ := hlim
    have e0 : Env0 P w K mg (hidT s.heap H) callerA [] s H := ⟨rfl, ⟨kb, ns' hns, ⟨mb, ns' hb, hbb⟩, ⟨mc, ns' hc1, hc2⟩⟩, fun b o e => of_hidT e, Nat.le_of_eq (hidT_size _ _), trivial, fun b z => absurd (show b ∈ ([] : List Addr) from z) (by simp), hok, AllBare.of_eq hg⟩
    refine codeAny_mono (F _ kb (ns' hns) s H a e0 (hbind s _) (hsp H hO hS)) fun r s' h => ?_
    cases r with
    | error e => exact h.elim
    | ok fl =>
      cases fl with
      | ret u =>
        obtain ⟨v, H', h1, h2, un, hok', h5, h6⟩ := h
        have h6' : v = .bl true := h6
        subst h6'
        cases (show u = Value.bool true from h5)
        refine ⟨rfl, OldK.of_keep fun b o e => ?_, h1, h2⟩
        cases q : H b with
        | none => exact un.keep b o e q (fun z => absurd (show b ∈ ([] : List Addr) from z) (by simp)) (by simp)
        | some u =>
          rcases hO b with z | ⟨ob, xs, z⟩
          · rw [q] at z
            cases z
          · have e1 := (hok b _ z).1
            rw [e] at e1
            cases e1
            exact (hok' b _ (un.frzs b _ _ z)).1
      | next => exact h.elim
      | brk => exact h.elim
      | cont => exact h.elim
  have hlen : (ns.map V.int).length ≤ sizeLine := by rw [List.length_map]; exact hl
  cases hk : K.lookup a with
  | some o =>
    have e := KX a o hk
    rw [ha] at e
    cases e
    refine key (fun _ => none) (fun _ => .inl rfl) (fun b u z => absurd (show (none : Option HO) = some u from z) (by simp)) (fun b u z => absurd (show (none : Option HO) = some u from z) (by simp)) (.inr ⟨_, vs.toArray, _, hk, rfl, rfl, rfl, ?_, by simpa using rv⟩) fun u z => absurd (show (none : Option HO) = some u from z) (by simp)
    rw [List.size_toArray, hi.length]
    exact hl
  | none =>
    have at_ : (upd (fun _ => none) a (.frz { cls := .type "list", data := .seq vs.toArray } (.lst (ns.map V.int))) : Hp) a = some _ := upd_same
    have off : ∀ b u, (upd (fun _ => none) a (.frz { cls := .type "list", data := .seq vs.toArray } (.lst (ns.map V.int))) : Hp) b = some u → b = a := fun b u z => by
      by_cases e : b = a
      · exact e
      · rw [upd_ne e] at z
        cases z
    refine key (upd (fun _ => none) a (.frz { cls := .type "list", data := .seq vs.toArray } (.lst (ns.map V.int)))) (fun b => ?_) off (fun b u z => ?_) (.inl (.inr ⟨_, at_⟩)) fun _ _ => hk
    · by_cases e : b = a
      · exact .inr ⟨_, _, by rw [e]; exact at_⟩
      · exact .inl (by rw [upd_ne e])
    · have e := off b u z
      subst e
      rw [upd_same] at z
      cases z
      exact ⟨ha, hlen, vs, _, rv, ha⟩
/-- the walk of a law's def whose parameter is x: what its top left is told once, the def's own reading by `LawOk` -/
theorem walk_ofL {l : PySem.W.OpenLaw} {most : Nat} {q : Program} {loose : List Str} {XP : (Str → Option Value) → Heap → Prop} {Top : World → Heap → Prop} {d : DefRec} {x : Str}
    (hm : l.most = some most) (small : most ≤ sizeLine) (nodef : d.params.defaults = [])
    (tells : ∀ (w : World) (mg : Str → Option Value) (at_ : Addr) (hp : Heap), Top w hp → hp.Ns mainGlobals mg →
      mg d.name = some (.ref at_) → ∃ (K : PySem.W.Frag) (fn : FuncData) (sp : Sp), K.In hp ∧
        (∀ (s : Shared) (u : Value), BindsTo s fn ⟨[u], []⟩ [(x, u)]) ∧
        (∀ (H : Hp) (a : Addr) (ks : List Int), ks.length ≤ most → Only H → SqL K H a (ks.map V.int) →
          sp [.ref a] H (fun v _ => v = .bl true) E0) ∧
        ∀ b : Heap, K.In b → b.Ns mainGlobals mg → LawOk l.prog w K mg b at_ fn x sp) :
    PySem.W.WalkO q loose XP Top l.row.toRowW d []
      (fun f vs => PySem.call f vs) := by
  refine Att.attach_call hm nodef fun w _ s1 mg mb at_ o pm cd doc a us ks G Y ho hd hcd hmg hobj nums fits hg => ?_
  rcases tells w mg at_ _ Y G.T.g hmg with ⟨K, fn, sp, inK, binds, said, ok⟩
  exact law_runs inK G.T.g G.T.b G.T.builtins G.T.nolimit hg hobj nums (Nat.le_trans fits small) ok binds fun H only sq => said H a ks fits only sq
end L2
set_option Elab.async false
set_option linter.all false
set_option maxRecDepth 100000
set_option maxHeartbeats 4000000
namespace L2
open PySem PySem.Spec PyProof.Rows
/-! ### data that are tracked, dicts of none or one text key among them; every object of them keeps N -/
mutual
inductive Dq (N : Addr → Prop) (H : Hp) : V → PyData → Prop
  | non : Dq N H .non .none
  | bl (b : Bool) : Dq N H (.bl b) (.bool b)
  | int (i : Int) : Dq N H (.int i) (.int i)
  | str (x : Str) : Dq N H (.str x) (.str x)
  | lst {a : Addr} {xs : List V} {ds : List PyData} : N a → H a = some (.lst xs) → a ≠ sysModules → DqAll N H xs ds → Dq N H (.ref a) (.list ds)
  | tup {a : Addr} {xs : List V} {ds : List PyData} : N a → H a = some (.tup xs) → DqAll N H xs ds → Dq N H (.ref a) (.tuple ds)
  | dk0 {a : Addr} : N a → H a = some (.dK []) → Dq N H (.ref a) (.dict [])
  | dk1 {a : Addr} {x : Str} {v : V} {d : PyData} : N a → H a = some (.dK [(.inr x, v)]) → Dq N H v d → Dq N H (.ref a) (.dict [(.str x, d)])
inductive DqAll (N : Addr → Prop) (H : Hp) : List V → List PyData → Prop
  | nil : DqAll N H [] []
  | cons {v : V} {vs : List V} {d : PyData} {ds : List PyData} : Dq N H v d → DqAll N H vs ds → DqAll N H (v :: vs) (d :: ds)
end
section
variable {N N' : Addr → Prop} {H H' : Hp}
mutual
/-- .. in another heap, by a wider word -/
theorem Dq.to (k : ∀ b o, N b → H b = some o → N' b ∧ H' b = some o) : ∀ {d : PyData} {v : V}, Dq N H v d → Dq N' H' v d
  | .none, _, h => by cases h; exact .non
  | .bool b, _, h => by cases h; exact .bl b
  | .int i, _, h => by cases h; exact .int i
  | .str x, _, h => by cases h; exact .str x
  | .list ds, _, h => by
    cases h with
    | lst n e m a => exact .lst (k _ _ n e).1 (k _ _ n e).2 m (DqAll.to k a)
  | .tuple ds, _, h => by
    cases h with
    | tup n e a => exact .tup (k _ _ n e).1 (k _ _ n e).2 (DqAll.to k a)
  | .dict kvs, _, h => by
    cases h with
    | dk0 n e => exact .dk0 (k _ _ n e).1 (k _ _ n e).2
    | dk1 n e a => exact .dk1 (k _ _ n e).1 (k _ _ n e).2 (Dq.to k a)
theorem DqAll.to (k : ∀ b o, N b → H b = some o → N' b ∧ H' b = some o) : ∀ {ds : List PyData} {vs : List V}, DqAll N H vs ds → DqAll N' H' vs ds
  | [], _, h => by cases h; exact .nil
  | d :: ds, _, h => by
    cases h with
    | cons a b => exact .cons (Dq.to k a) (DqAll.to k b)
end
theorem Dq.same (k : Same H H') {d : PyData} {v : V} (h : Dq N H v d) : Dq N H' v d := h.to fun b o n e => ⟨n, k b o e⟩
theorem DqAll.same (k : Same H H') {d : List PyData} {v : List V} (h : DqAll N H v d) : DqAll N H' v d := h.to fun b o n e => ⟨n, k b o e⟩
theorem DqAll.length : ∀ {ds : List PyData} {vs : List V}, DqAll N H vs ds → vs.length = ds.length
  | [], _, h => by cases h; rfl
  | d :: ds, _, h => by
    cases h with
    | cons a b => exact congrArg Nat.succ (DqAll.length b)
theorem DqAll.mem : ∀ {ds : List PyData} {vs : List V} {v : V}, DqAll N H vs ds → v ∈ vs → ∃ d, d ∈ ds ∧ Dq N H v d
  | [], _, v, h, e => by cases h; cases e
  | d :: ds, _, v, h, e => by
    cases h with
    | cons a b =>
      rcases List.mem_cons.mp e with z | z
      · rw [z]
        exact ⟨d, List.mem_cons_self, a⟩
      · obtain ⟨d', m, q⟩ := DqAll.mem b z
        exact ⟨d', List.mem_cons_of_mem _ m, q⟩
theorem DqAll.append : ∀ {ds es : List PyData} {vs us : List V}, DqAll N H vs ds → DqAll N H us es → DqAll N H (vs ++ us) (ds ++ es)
  | [], _, _, _, h, g => by cases h; exact g
  | d :: ds, _, _, _, h, g => by
    cases h with
    | cons a b => exact .cons a (DqAll.append b g)
end
section
variable {X : Cx} {pins : List (Addr × Obj)} {σ : St} {H : Hp} {s : Shared} {N : Addr → Prop}
mutual
theorem Dq.reads (I : Inv X pins σ H s) : ∀ (d : PyData) (v : V) (u : Value), Dq N H v d → RelV v u → ∃ as, Reads s.heap u d as ∧ sysModules ∉ as
  | .none, _, _, h, r => by
    cases h
    cases r
    exact ⟨_, .none, by simp⟩
  | .bool b, _, _, h, r => by
    cases h
    cases r
    exact ⟨_, .bool b, by simp⟩
  | .int i, _, _, h, r => by
    cases h
    obtain ⟨t, rfl⟩ := r
    exact ⟨_, .int i t, by simp⟩
  | .str x, _, _, h, r => by
    cases h
    obtain ⟨t, rfl⟩ := r
    exact ⟨_, .str x t, by simp⟩
  | .list ds, _, _, h, r => by
    cases h with
    | lst _ e ne ha =>
      cases r
      obtain ⟨its, rv, ⟨o, n, ho, hc, _, hd⟩, _⟩ := I.list (.of e)
      obtain ⟨as, hr, na⟩ := DqAll.reads I ds _ its ha rv
      exact ⟨_, .list ho hc hd hr, fun z => (List.mem_cons.mp z).elim (fun q => ne q.symm) na⟩
  | .tuple ds, _, _, h, r => by
    cases h with
    | tup _ e ha =>
      cases r
      obtain ⟨its, rv, ⟨o, ho, hc, n, hd⟩, _⟩ := I.tuple (.of e)
      obtain ⟨as, hr, na⟩ := DqAll.reads I ds _ its ha rv
      exact ⟨_, .tuple ho hc hd hr, na⟩
  | .dict kvs, v, _, h, r => by
    cases h with
    | dk0 _ e =>
      cases r
      obtain ⟨_, ne, vs, rv, o, es, ep, ho, ⟨hc, _⟩, hd, _, pr, _⟩ := (show ObjOk X.prog X.w H s.heap _ (.dK []) from I.hok _ _ e)
      cases rv
      have e0 : es.toList = [] := by cases he : es.toList with
        | nil => rfl
        | cons x l => rw [he] at pr; cases pr
      refine ⟨_, .dict (kvs := []) ho hc hd (by rw [e0]; exact .nil) (by rw [e0]; exact .nil), ?_⟩
      intro z
      simp at z
      rw [← z] at ne
      exact absurd ne (by decide)
    | @dk1 a0 x0 v0 d0 _ e ha =>
      cases r
      obtain ⟨_, ne, vs, rv, o, es, ep, ho, ⟨hc, _⟩, hd, _, pr, _⟩ := (show ObjOk X.prog X.w H s.heap _ (.dK [(_, _)]) from I.hok _ _ e)
      cases rv with
      | cons r1 r2 =>
        cases r2
        cases he : es.toList with
        | nil => rw [he] at pr; cases pr
        | cons en l =>
          rw [he] at pr
          cases pr with
          | cons p1 p2 p3 =>
            cases p3
            obtain ⟨q1, q2⟩ := r1
            have p1' : keyIs (.inr x0) en.key = true := by
              have z := p1
              rw [← q1] at z
              exact z
            obtain ⟨t, ek⟩ := Value.isStrOf_shape p1'
            obtain ⟨as, hr, na⟩ := Dq.reads I _ _ _ ha q2
            refine ⟨_, .dict (kvs := [(.str _, _)]) ho hc hd (by rw [he]; exact .cons (d := .str x0) (as := []) (bs := []) (by show Reads _ en.key _ _; rw [ek]; exact .str x0 t) .nil) (by rw [he]; exact .cons (d := d0) (as := as) (bs := []) (by show Reads _ en.val _ _; rw [p2]; exact hr) .nil), ?_⟩
            intro z
            simp at z
            rcases z with z | z
            · rw [← z] at ne
              exact absurd ne (by decide)
            · exact na z
theorem DqAll.reads (I : Inv X pins σ H s) : ∀ (ds : List PyData) (vs : List V) (us : List Value), DqAll N H vs ds → Vals vs us → ∃ as, ReadsAll s.heap us ds as ∧ sysModules ∉ as
  | [], _, _, h, r => by
    cases h
    cases r
    exact ⟨_, .nil, by simp⟩
  | d :: ds, _, _, h, r => by
    cases h with
    | cons h1 h2 =>
      cases r with
      | cons r1 r2 =>
        obtain ⟨as, q1, n1⟩ := Dq.reads I d _ _ h1 r1
        obtain ⟨bs, q2, n2⟩ := DqAll.reads I ds _ _ h2 r2
        exact ⟨_, .cons q1 q2, fun z => (List.mem_append.mp z).elim n1 n2⟩
end
end

/-! ### repr of such data, where nothing guards above -/
def rReprD : List V → Hp → VK → Prop := fun xs H Q => ∃ v d N, xs = [v] ∧ Dq N H v d ∧ d.showable = true ∧ d.depth ≤ 20 ∧ d.shown.length ≤ sizeLine ∧ Q (.str d.shown) H
theorem call_reprD {X : Cx} (hg : X.A.guards = some []) (hu : X.A.units + 64 < cLine) : CallR X (.builtin "repr") rReprD := by
  intro pins s σ H xs us Q I r h
  obtain ⟨v, d, N, rfl, hd, hs, hz, hl, q⟩ := h
  cases r with
  | cons rv rr =>
    cases rr
    cases v with
    | non =>
      cases rv
      cases hd
      exact PySem.P.repr_of_none ⟨.str _, H, I.tok _, ⟨_, rfl⟩, q⟩
    | bl b =>
      cases rv
      cases hd
      exact PySem.P.repr_of_bool ⟨.str _, H, I.tok _, ⟨_, rfl⟩, q⟩
    | int i =>
      obtain ⟨t, rfl⟩ := rv
      cases hd
      refine PySem.P.repr_of_int (by simpa [PyData.showable] using hs) ⟨.str _, H, I.tok _, ⟨_, rfl⟩, q⟩
    | str x =>
      obtain ⟨t, rfl⟩ := rv
      cases hd
      exact PySem.P.repr_of_str ⟨.str _, H, I.tok _, ⟨_, rfl⟩, q⟩ hl
    | byt b => cases hd
    | flt b => cases hd
    | ty n => cases hd
    | ref a =>
      cases rv
      obtain ⟨as, hr, na⟩ := Dq.reads I d _ _ hd rfl
      exact repr_of_reads' hr hs (fun _ => na) hg (by omega) (fun _ _ e => e) (fun h' u tk k => ⟨.str _, H, I.kept k, ⟨_, rfl⟩, q⟩) hl
/-! ### displays of data -/
/-- [..], told to stand apart from the table of modules -/
def tLstS (t : TA) : TE := fun σ H Q => t σ H fun xs H1 => xs.length ≤ sizeLine ∧ ∀ p, H1 p = none → p ≠ sysModules → Q (.ref p) (upd H1 p (.lst xs))
theorem pe_lstS {X : Cx} {es : List Expr} {t : TA} {pos : Pos} (h : PA X es t) : PE X (.List es pos) (tLstS t) := by
  refine ⟨fun pins s σ H Q I hq => ?_⟩
  refine wpAny_List_spliced (thn (h.run pos pins s σ H _ I hq) fun us s1 ⟨xs, H1, I1, r, z, q⟩ => ⟨by rw [← r.length]; exact z, ?_⟩)
  have hf := I1.hok.fresh (Nat.le_refl s1.heap.objs.size)
  exact ⟨.ref s1.heap.objs.size, upd H1 s1.heap.objs.size (.lst xs), I1.laid (t' := s1.toks) (fun b u e => Heap.get?_push_of_some _ e) (Nat.le_refl _) ⟨z, us, 0, r, Heap.get?_push_size _ rfl⟩, rfl, q _ hf (Nat.ne_of_gt I1.big)⟩
/-- all of it is new -/
abbrev Nw (H : Hp) : Addr → Prop := fun a => H a = none
def Shows (te : TE) (d : PyData) : Prop := ∀ (σ : St) (H : Hp) (Q : VK), (∀ v H', Same H H' → Dq (Nw H) H' v d → Q v H') → te σ H Q
def ShowsA (ta : TA) (ds : List PyData) : Prop := ∀ (σ : St) (H : Hp) (Q : List V → Hp → Prop), (∀ vs H', Same H H' → DqAll (Nw H) H' vs ds → Q vs H') → ta σ H Q
theorem same_new {H : Hp} {p : Addr} {o : HO} (h : H p = none) : Same H (upd H p o) := fun b u e => by
  rw [upd_ne (ne_of_none e h)]
  exact e
theorem sh_non : Shows (tC .non) .none := fun σ H Q h => h _ _ (Same.refl H) .non
theorem sh_bl {b : Bool} : Shows (tC (.bl b)) (.bool b) := fun σ H Q h => h _ _ (Same.refl H) (.bl b)
theorem sh_int {i : Int} : Shows (tC (.int i)) (.int i) := fun σ H Q h => h _ _ (Same.refl H) (.int i)
theorem sh_str {x : Str} : Shows (tC (.str x)) (.str x) := fun σ H Q h => h _ _ (Same.refl H) (.str x)
theorem sh_neg {i : Int} : Shows (tUn (rU fun i => .int (-i)) (tC (.int i))) (.int (-i)) := fun σ H Q h => ⟨i, rfl, h _ _ (Same.refl H) (.int _)⟩
theorem sh_pow {i j : Int} (c : CPow i j) : Shows (tOp (rI CPow fun i j => .int (i ^ j.toNat)) (tC (.int i)) (tC (.int j))) (.int (i ^ j.toNat)) := fun σ H Q h => ⟨i, j, rfl, rfl, c, h _ _ (Same.refl H) (.int _)⟩
theorem sh_nil : ShowsA tNil [] := fun σ H Q h => h _ _ (Same.refl H) .nil
theorem sh_cons {te : TE} {ta : TA} {d : PyData} {ds : List PyData} (a : Shows te d) (b : ShowsA ta ds) : ShowsA (tCons te ta) (d :: ds) := fun σ H Q h =>
  a σ H _ fun v H1 s1 q1 => b σ H1 _ fun vs H2 s2 q2 => h _ _ (s1.trans s2) (.cons (q1.same s2) (q2.to fun b o n e => ⟨s1.free n, e⟩))
theorem sh_tup {ta : TA} {ds : List PyData} (a : ShowsA ta ds) (hz : ds.length ≤ 1000 := by decide) : Shows (tTup ta) (.tuple ds) := fun σ H Q h =>
  a σ H _ fun vs H1 s1 q1 => ⟨by rw [q1.length, sizeLine_eq]; omega, fun p hp => h _ _ (s1.trans (same_new hp)) (.tup (s1.free hp) upd_same (q1.same (same_new hp)))⟩
theorem sh_lst {ta : TA} {ds : List PyData} (a : ShowsA ta ds) (hz : ds.length ≤ 1000 := by decide) : Shows (tLstS ta) (.list ds) := fun σ H Q h =>
  a σ H _ fun vs H1 s1 q1 => ⟨by rw [q1.length, sizeLine_eq]; omega, fun p hp hn => h _ _ (s1.trans (same_new hp)) (.lst (s1.free hp) upd_same hn (q1.same (same_new hp)))⟩
theorem sh_dk0 : Shows tDNewK (.dict []) := fun σ H Q h p hp => h _ _ (same_new hp) (.dk0 hp upd_same)
theorem sh_dk1 {x : Str} {te : TE} {d : PyData} (a : Shows te d) : Shows (tDisp [(tC (.str x), te)]) (.dict [(.str x, d)]) := fun σ H Q h p hp =>
  a σ (upd H p (.dK [])) _ fun v H1 s1 q1 => by
    have e1 : H1 p = some (.dK []) := s1 _ _ upd_same
    refine ⟨e1, [(.inr x, v)], rfl, (by show 1 ≤ 15; decide), h _ _ (fun b o e => ?_) (.dk1 (x := x) (v := v) hp upd_same (q1.to fun b o n e => ?_))⟩
    · rw [upd_ne (ne_of_none e hp)]
      exact s1 _ _ (by rw [upd_ne (ne_of_none e hp)]; exact e)
    · have z : b ≠ p := fun z => by
        have n' : upd H p (.dK []) b = none := n
        rw [z, upd_same] at n'
        cases n'
      exact ⟨(same_new hp).free n, by rw [upd_ne z]; exact e⟩
end L2
set_option Elab.async false
set_option linter.all false
set_option maxRecDepth 100000
set_option maxHeartbeats 4000000
namespace L2
open PySem PySem.Spec PyProof.Rows
theorem ErrK.raises {X : Cx} {C : Addr} {up : List Addr} (T : ErrK X.K C up) : Raises X (.ref C) := raises_own ((T.mro _).trans (congrArg some (mroE_ve _ (by decide)))) T.tyC
theorem ErrK.exm {K : PySem.W.Frag} {C D : Addr} {up upD : List Addr} (T : ErrK K C up) (U : ErrK K D upD) : PySem.W.exmOne K (.ref C) (.ref D) = some ((mroE C up).contains (.ref D)) :=
  PySem.W.exm_ref ((U.mro _).trans (congrArg some (mroE_ve _ (by decide)))) (by obtain ⟨cd, h, _, hh⟩ := U.clsIn; unfold PySem.W.hasDictIn; rw [h]; exact hh) U.tyC (T.mro _)
/-- an error that is made to be raised: what is tracked of it is its own dict -/
def tMkE (C : Addr) (f : Str) (ta : TA) : St → Hp → XK → Prop := fun σ H Q => ta σ H fun vs H1 => ∃ v, vs = [v] ∧ ∀ d, H1 d = none → Q (.ref C) (some d) (upd H1 d (.xd [(f, v)]))
section
variable {X : Cx} {pins : List (Addr × Obj)} {σ : St} {H : Hp} {s : Shared} {C fI : Addr} {up : List Addr} {f x : Str} {a : Expr} {ta : TA} {p pos kpos : Pos} {k : Nat}
theorem mk_err {Q : XK} {v : V} {u : Value} {args : Args} (T : PySem.ErrLow.ErrI X.prog X.K C fI f) (U : ErrK X.K C up) (hf : f = "given" ∨ f = "index") (hs : X.mg "super" = none) (hr : Room k X.A) (I : Inv X pins σ H s) (r : RelV v u)
    (ha : args = ⟨[u], []⟩ ∨ args = ⟨[], [(f, u)]⟩) (q : ∀ d, H d = none → Q (.ref C) (some d) (upd H d (.xd [(f, v)]))) :
    wpAny (model X.prog X.w) X.A (call (.ref C) args.pos args.kw) (MkP X pins σ Q) X.xe s := by
  obtain ⟨mb, h1, h2⟩ := I.mod.blt
  refine wpAny_call (PySem.ErrLow.made_run T hf (v := u) I.kIn (I.mod.glob.keeps I.bk) hs ⟨mb, h1.keeps I.bk, h2⟩ I.nolimit (by have := hr.dp; omega) (by obtain ⟨_, _⟩ := args; exact ha) fun h' tk e d M => ?_)
  obtain ⟨t1, ho⟩ := M.obj
  have he : H e = none := I.hok.gone M.newE
  have hd : H d = none := I.hok.gone M.newD
  -- the heap without the error itself
  obtain ⟨G, g1, g2⟩ := restrict h' fun b => decide (b ≠ e)
  have gk : ∀ b, b ≠ e → G.get? b = h'.get? b := fun b z => g1 b (decide_eq_true z)
  have ge : G.get? e = none := g2 e (by simp)
  have old : ∀ b o, s.heap.get? b = some o → G.get? b = some o := fun b o z => (gk b (fun y => by rw [y, M.newE] at z; cases z)).trans (M.keep b o z)
  have J := I.laidN (h' := G) (a := d) (o := .xd [(f, v)]) (t' := tk) old M.newD hd (show ∃ mA, G.Ns1 d mA ∧ ∀ g, RelO (List.lookup g [(f, v)]) (mA g) from ⟨_, M.ns.at fun o z => (gk d M.ne).trans z, relO_put (fs := []) r fun g => True.intro⟩)
  refine ⟨e, _, _, { s with heap := G, toks := tk }, upd H d (.xd [(f, v)]), .ref C, some d, rfl, J, fun b o z => ?_, ge, ho, ⟨rfl, rfl⟩, rfl, rfl, ?_, rfl, I.bare, U.raises, q d hd⟩
  · by_cases y : b = e
    · rw [y] at z
      exact absurd (ge.symm.trans z) (by simp)
    · exact (gk b y).symm.trans z
  · rw [upd_ne (Ne.symm M.ne)]
    exact he
theorem pmk_err (T : PySem.ErrLow.ErrI X.prog X.K C fI f) (U : ErrK X.K C up) (hf : f = "given" ∨ f = "index") (hs : X.mg "super" = none) (hr : Room k X.A) (hg : Gl X x) (hm : X.mg x = some (.ref C)) (ha : PA X [a] ta)
    (hdb : (x == ("__debug__" : Str)) = false := by decide) (he : starEach [a] X.env = (false, eval a X.env) :: starEach [] X.env := by rfl) : PMk X (.Call (.Name x p) [a] [] pos) (tMkE C f ta) := by
  intro pins s σ H Q I h
  refine wpAny_Call_Name_kw (ld_glob I hg hm ?_ hdb)
  refine PySem.W.callWith_K (h₀ := X.base) I.ok.mod.kin T.kC (thn (ha.run pos pins s σ H _ I h) fun us s1 ⟨vs, H1, I1, r, v, ev, q⟩ => ⟨I1.kIn, ?_⟩) he (by rfl)
  subst ev
  cases r with
  | cons r1 r2 =>
    cases r2
    exact mk_err (args := ⟨[_], []⟩) T U hf hs hr I1 r1 (.inl rfl) q
theorem pmk_errK (T : PySem.ErrLow.ErrI X.prog X.K C fI f) (U : ErrK X.K C up) (hf : f = "given" ∨ f = "index") (hs : X.mg "super" = none) (hr : Room k X.A) (hg : Gl X x) (hm : X.mg x = some (.ref C)) (ha : PK X [⟨some f, a, kpos⟩] ta)
    (hdb : (x == ("__debug__" : Str)) = false := by decide) : PMk X (.Call (.Name x p) [] [⟨some f, a, kpos⟩] pos) (tMkE C f ta) := by
  intro pins s σ H Q I h
  refine wpAny_Call_Name_kw (ld_glob I hg hm ?_ hdb)
  refine PySem.W.callWith_KW0 (h₀ := X.base) I.ok.mod.kin T.kC (by rfl) (thn (ha.run pos pins s σ H _ I h) fun us s1 ⟨vs, H1, I1, r, v, ev, q⟩ => ⟨I1.kIn, ?_⟩) (by rfl)
  subst ev
  cases r with
  | cons r1 r2 =>
    cases r2
    exact mk_err (args := ⟨[], [(f, _)]⟩) T U hf hs hr I1 r1 (.inr rfl) q
/-- X(), to be raised -/
def tMkE0 (C : Addr) : St → Hp → XK → Prop := fun σ H Q => Q (.ref C) none H
theorem pmk_err0 (U : ErrK X.K C up) (hi : PySem.W.findIn X.K (.ref C) "__init__" = some (some (.builtin "ValueError.__init__"))) (hg : Gl X x) (hm : X.mg x = some (.ref C)) (hdb : (x == ("__debug__" : Str)) = false := by decide) :
    PMk X (.Call (.Name x p) [] [] pos) (tMkE0 C) := by
  intro pins s σ H Q I h
  refine wpAny_Call_Name_kw (ld_glob I hg hm ?_ hdb)
  refine PySem.W.callWith_K0 I.kIn U.kC ?_
  obtain ⟨nm, q, N, bs, sn, sub, ab, col, dd, k0, k1, k2, k3, k5, hC⟩ := U.cls
  have II := I
  obtain ⟨hp, g, d, t, os⟩ := s
  refine PySem.W.call_B F.excBase_ValueError (fun Y => up_contains Y up) (I.kIn _ _ hC) (PySem.W.looks_findIn I.kIn hi) (by simp) fun h' k e' t' => ?_
  have na : hp.get? (hp.objs.size + 1) = none := Heap.get?_none_of_le (Nat.le_succ _)
  exact ⟨hp.objs.size + 1, _, _, ⟨hp, g, d, t, os⟩, H, .ref C, none, rfl, II, k, na, e', ⟨rfl, rfl⟩, rfl, rfl, II.hok.gone na, rfl, II.bare, U.raises, h⟩
end
end L2
set_option Elab.async false
set_option linter.all false
set_option maxRecDepth 100000
set_option maxHeartbeats 4000000
namespace ErrHead
open PySem PySem.Spec PyProof.Rows L2
abbrev veT : List Value := [.type "ValueError", .type "Exception", .type "BaseException", .type "object"]
/-- the class object -/
def objB (K : PySem.W.Frag) (C : Addr) (above : List Addr) : Bool := match K.lookup C with
  | some ⟨.type "type", _, .cls cd, sl⟩ => (match sl.toList with
    | [_, _, _, _, some (.builtin n), _] => decide (cd.mro = .ref C :: (above.map Value.ref ++ veT)) && (n == "ValueError.__new__" && (!cd.hasDel && cd.hasDict))
    | _ => false)
  | _ => false
def clsB (K : PySem.W.Frag) (C : Addr) (above : List Addr) : Bool := objB K C above &&
  (decide (PySem.W.findIn K (.ref C) "__getattribute__" = some (some (.builtin "BaseException.__getattribute__"))) &&
  (decide (PySem.W.findIn K (.ref C) "__getattr__" = some none) &&
  (decide (PySem.W.findIn K (.ref C) "__class__" = some (some (.builtin "object.__class__"))) &&
  (decide (PySem.W.typeIn K (.ref C) = some (.type "type")) && PySem.W.keepIn K (.ref C)))))
theorem ba {a b : Bool} (h : (a && b) = true) : a = true ∧ b = true := Bool.and_eq_true_iff.mp h
theorem obj_ok {K : PySem.W.Frag} {C : Addr} {above : List Addr} (h : objB K C above = true) :
    ∃ nm q N bs sn sub ab col dd k0 k1 k2 k3 k5, K.lookup C = some (excClassObj nm q C N bs (above.map Value.ref ++ veT) true sn sub ab col dd k0 k1 k2 k3 k5 "ValueError.__new__") := by
  unfold objB at h
  split at h
  · rename_i dd cd sl ho
    split at h
    · rename_i k0 k1 k2 k3 n k5 hs
      obtain ⟨h1, h2⟩ := ba h
      obtain ⟨h3, h4⟩ := ba h2
      obtain ⟨h5, h6⟩ := ba h4
      have h1' := of_decide_eq_true h1
      have h3' : n = "ValueError.__new__" := by simpa using h3
      have h5' : cd.hasDel = false := by simpa using h5
      obtain ⟨nm, bs, mro, ns, q, hd, sn, sub, ab, col, del⟩ := cd
      dsimp only at h1' h5' h6
      subst h1' h3' h5' h6
      have e : sl = #[k0, k1, k2, k3, some (.builtin "ValueError.__new__"), k5] := by
        obtain ⟨l⟩ := sl
        simp only at hs
        rw [hs]
      subst e
      exact ⟨nm, q, ns, bs, sn, sub, ab, col, dd, k0, k1, k2, k3, k5, ho⟩
    · cases h
  · cases h
theorem cls_ok {K : PySem.W.Frag} {C : Addr} {above : List Addr} (h : clsB K C above = true) : ErrK K C above := by
  obtain ⟨h1, h⟩ := ba h
  obtain ⟨h2, h⟩ := ba h
  obtain ⟨h3, h⟩ := ba h
  obtain ⟨h4, h⟩ := ba h
  obtain ⟨h5, h6⟩ := ba h
  exact ⟨obj_ok h1, of_decide_eq_true h2, of_decide_eq_true h3, of_decide_eq_true h4, of_decide_eq_true h5, h6⟩
/-- what is seen of an __init__ that closes over its class -/
abbrev IV : Type := Option (Str × Arguments × FuncBody × Scope × Addr × List Str × Value × Addr)
def initObs (K : PySem.W.Frag) (C : Addr) : IV := match K.lookup (He.ma K C "__init__") with
  | some ⟨_, _, .func fd, _⟩ => some (fd.name, fd.params, fd.body, fd.scope, fd.globals, fd.closure.map (·.1), fd.defaults, fd.builtins)
  | _ => none
def initVal (st : Stmt) : IV := some ("__init__", defArgs st, .stmts (defBody st), defScope st, mainGlobals, ["__class__"], .none, builtinsNs)
def cellB (K : PySem.W.Frag) (C : Addr) (cl : List (Str × Addr)) : Bool := match cl with
  | [(_, cc)] => (match K.lookup cc with
    | some ⟨_, _, .cell (some (.ref D)), _⟩ => decide (D = C)
    | _ => false)
  | _ => false
def fileB (K : PySem.W.Frag) (file : Str) (code : Value) : Bool := match code with
  | .ref cda => (match K.lookup cda with
    | some ⟨_, _, .fields vs, _⟩ => (match (vs[2]? : Option Value) with
      | some (Value.str x _) => file == x
      | _ => false)
    | _ => false)
  | _ => false
def runB (K : PySem.W.Frag) (file : Str) (C : Addr) : Bool := match K.lookup (He.ma K C "__init__") with
  | some ⟨_, _, .func fd, _⟩ => PySem.W.codeIn K fd.code fd.qualname && (cellB K C fd.closure && fileB K file fd.code)
  | _ => false
def initB (K : PySem.W.Frag) (file : Str) (C : Addr) (above : List Addr) (f : Str) : Bool := runB K file C &&
  (decide (PySem.W.findIn K (.ref C) "__setattr__" = some (some (.builtin "object.__setattr__"))) &&
  (decide (PySem.W.findIn K (.ref C) f = some none) &&
  (decide (PySem.W.findIn K (.ref C) "__init__" = some (some (.ref (He.ma K C "__init__")))) &&
  (decide (PySem.W.typeIn K (.ref (He.ma K C "__init__")) = some (.type "function")) &&
  decide (PySem.W.alongIn K "__init__" (above.map Value.ref ++ veT) = some (some (.builtin "ValueError.__init__")))))))
theorem cell_ok {K : PySem.W.Frag} {C : Addr} {cl : List (Str × Addr)} (h : cellB K C cl = true) : ∃ x cc a b c, cl = [(x, cc)] ∧ K.lookup cc = some ⟨a, b, .cell (some (.ref C)), c⟩ := by
  unfold cellB at h
  split at h
  · rename_i x cc
    split at h
    · rename_i a b D c ho
      have e : D = C := of_decide_eq_true h
      subst e
      exact ⟨x, cc, a, b, c, rfl, ho⟩
    · cases h
  · cases h
theorem file_ok {K : PySem.W.Frag} {file : Str} {code : Value} (h : fileB K file code = true) : ∃ cda a b vs c x t, code = .ref cda ∧ K.lookup cda = some ⟨a, b, .fields vs, c⟩ ∧ vs[2]? = some (.str x t) ∧ (file == x) = true := by
  unfold fileB at h
  split at h
  · rename_i cda
    split at h
    · rename_i a b vs c ho
      split at h
      · rename_i x t hv
        exact ⟨cda, a, b, vs, c, x, t, rfl, ho, hv, h⟩
      · cases h
    · cases h
  · cases h
theorem refs_up (l : List Addr) : PySem.HandSPX.refsVE (l.map Value.ref ++ veT) = true := by
  induction l with
  | nil => decide
  | cons a r ih => exact ih
theorem init_ok {prog : Program} {K : PySem.W.Frag} {C : Addr} {above : List Addr} {f msg : Str} {st : Stmt} {p1 p2 a1 a2 a3 a4 a5 a6 b1 b2 b3 b4 : Pos} (e : initObs K C = initVal st) (h : initB K prog.main.file C above f = true) (c : clsB K C above = true)
    (sh : defArgs st = PySem.ErrLow.iA f p1 p2 ∧ defBody st = PySem.ErrLow.iB f msg a1 a2 a3 a4 a5 a6 b1 b2 b3 b4 ∧ defScope st = PySem.ErrLow.iS f) (mc : PySem.ErrLow.MC msg a1 a2 a3 a4 a5) (opq : PySem.W.nsIn K cStatics "thirdparty.any" = some none)
    (top : (prog.main.scope.names.lookup ("super" : Str)).isSome = false) : PySem.ErrLow.ErrI prog K C (He.ma K C "__init__") f := by
  obtain ⟨h1, h⟩ := ba h
  obtain ⟨h2, h⟩ := ba h
  obtain ⟨h3, h⟩ := ba h
  obtain ⟨h4, h⟩ := ba h
  obtain ⟨h5, h6⟩ := ba h
  obtain ⟨c1, c⟩ := ba c
  obtain ⟨_, c⟩ := ba c
  obtain ⟨_, c⟩ := ba c
  obtain ⟨_, c⟩ := ba c
  obtain ⟨_, c6⟩ := ba c
  obtain ⟨nm, q, N, bs, sn, sub, ab, col, dd, k0, k1, k2, k3, k5, hC⟩ := obj_ok c1
  refine ⟨⟨nm, q, N, bs, _, sn, sub, ab, col, dd, k0, k1, k2, k3, k5, hC, refs_up above, of_decide_eq_true h6⟩, of_decide_eq_true h2, of_decide_eq_true h3, of_decide_eq_true h4, of_decide_eq_true h5, c6, opq, ?_, top⟩
  unfold initObs at e
  unfold runB at h1
  cases z : K.lookup (He.ma K C "__init__") with
  | none =>
    rw [z] at h1
    cases h1
  | some o =>
    obtain ⟨oc, od, dt, osl⟩ := o
    rw [z] at h1 e
    cases dt with
    | func fd =>
      obtain ⟨n1, n2, n3, n4, n5, n6, n7, n8, n9, n10, n11, n12, n13, n14, n15⟩ := fd
      have e2 : (some (n1, n3, n4, n5, n6, n7.map (·.1), n8, n15) : IV) = initVal st := e
      unfold initVal at e2
      simp only [Option.some.injEq, Prod.mk.injEq] at e2
      obtain ⟨g1, g2, g3, g4, g5, g6, g7, g8⟩ := e2
      obtain ⟨s1, s2, s3⟩ := sh
      rw [s1] at g2
      rw [s2] at g3
      rw [s3] at g4
      have h1' : (PySem.W.codeIn K n13 n2 && (cellB K C n7 && fileB K prog.main.file n13)) = true := h1
      obtain ⟨r1, r⟩ := ba h1'
      obtain ⟨r2, r3⟩ := ba r
      obtain ⟨x, cc, ca, cb, cd, rfl, hcc⟩ := cell_ok r2
      obtain ⟨cda, fa, fb, vs, fc, fx, ft, rfl, hcda, hvs, hfile⟩ := file_ok r3
      have gx : x = "__class__" := by simpa using g6
      subst g1 g2 g3 g4 g5 g7 g8 gx
      exact ⟨msg, n2, p1, p2, a1, a2, a3, a4, a5, a6, b1, b2, b3, b4, n9, n10, n11, n14, oc, n12, od, osl, cc, cda, rfl, r1, mc, ⟨ca, cb, cd, hcc⟩, fa, fb, fc, vs, fx, ft, hcda, hvs, hfile⟩
    | _ => cases h1
end ErrHead
set_option Elab.async false
set_option linter.all false
set_option maxRecDepth 100000
set_option maxHeartbeats 4000000
namespace K01
open PySem PySem.Spec PyProof.Rows L2
def top (i : Nat) : Stmt := PySem.Challenge.pw_endtellers_k01_errors_each_of_its_own.main.body.getD i (.Pass ⟨0, 0, 0, 0⟩)
abbrev sWell : Stmt := top 14
abbrev sDrop : Stmt := top 15
abbrev sPick : Stmt := top 16
abbrev sOdd : Stmt := top 17
abbrev sGiven : Stmt := top 18
abbrev sCounted : Stmt := top 19
abbrev sBare : Stmt := top 20
abbrev sClasses : Stmt := top 21
abbrev sStands : Stmt := top 22
abbrev sCaught : Stmt := top 23
abbrev sLaw : Stmt := top 24
/-- the j-th class's __init__ (classes 2 .. 10 of the top) -/
abbrev sInit (i : Nat) : Stmt := inClass (top i) 0
/-- a def of the module -/
abbrev FnD (K : PySem.W.Frag) (x : Str) (st : Stmt) (fd : FuncData) : Prop := FunD K x x (defArgs st) (defBody st) (defScope st) [] [] (He.ga K x) fd
def frees : List Str := ["int", "len", "abs", "range", "max", "min", "repr", "isinstance", "super", "ValueError", "LookupError", "ArithmeticError", "TypeError", "RuntimeError", "AttributeError"]
def own : List Str := ["InvalidPolynomial", "InvalidFraction", "InvalidTeller", "InvalidRow", "InvalidNumber", "InvalidNumbers", "InvalidKinds", "InvalidSteps", "InvalidWeights"]
def bare : List Str := ["NotFair", "NotTelling", "EndError"]
def defs : List Str := ["_law_well", "_law_drop", "_law_pick", "_law_odd", "_law_given", "_law_counted", "_law_bare", "_law_classes", "_law_stands", "_law_caught", "law"]
structure Names (K : PySem.W.Frag) (mg : Str → Option Value) : Prop where
  fr : ∀ x ∈ frees, mg x = none
  gl : ∀ x ∈ defs ++ (own ++ bare), mg x = some (.ref (He.ga K x))
/-! ### readings, by their first word -/
theorem rd_seq {t u : TS} {D : Ends} {σ : L2.St} {H : Hp} (h : t { D with nx := u D } σ H) : tSeq t u D σ H := h
theorem rd_set {te : TE} {i : Nat} {D : Ends} {σ : L2.St} {H : Hp} (h : te σ H fun x H1 => D.nx (σ.set i (some x)) H1) : tAsg te (gName i) D σ H := h
theorem rd_ret {te : TE} {D : Ends} {σ : L2.St} {H : Hp} (h : te σ H D.rt) : tRet te D σ H := h
theorem rd_op {r : R2} {ta tb : TE} {σ : L2.St} {H : Hp} {Q : VK} (h : ta σ H fun x H1 => tb σ H1 fun y H2 => r x y H2 Q) : tOp r ta tb σ H Q := h
theorem rd_var {i : Nat} {σ : L2.St} {H : Hp} {Q : VK} {v : V} (e : σ[i]? = some (some v)) (h : Q v H) : tVar i σ H Q := ⟨v, e, h⟩
/-! ### the well: three whole numbers -/
structure WellOk (g b c : Int) : Prop where
  g0 : 0 ≤ g
  b0 : 0 ≤ b
  b1 : b < 2147483587
  c0 : 0 ≤ c
  c1 : c < 65521
def wl (g b c : Int) : HO := .lst [.int g, .int b, .int c]
def WellAt (H : Hp) (w : Addr) : Prop := ∃ g b c, H w = some (wl g b c) ∧ WellOk g b c
theorem at3_0 {x y z : V} : atI [x, y, z] 0 = some x := atI_nat (xs := [x, y, z]) (j := 0) rfl
theorem at3_1 {x y z : V} : atI [x, y, z] 1 = some y := atI_nat (xs := [x, y, z]) (j := 1) rfl
theorem at3_2 {x y z : V} : atI [x, y, z] 2 = some z := atI_nat (xs := [x, y, z]) (j := 2) rfl
/-- _law_drop(well, width) -/
def spDrop : Sp := fun vs H Q _ => ∃ (w : Addr) (n : Int), vs = [.ref w, .int n] ∧ WellAt H w ∧ 0 < n ∧ n < 1000000000 ∧ ∀ d g b c, 0 ≤ d → d < n → WellOk g b c → Q (.int d) (upd H w (wl g b c))
/-- _law_pick(well, some) -/
def spPick : Sp := fun vs H Q _ => ∃ (w p : Addr) (xs : List V), vs = [.ref w, .ref p] ∧ WellAt H w ∧ H p = some (.lst xs) ∧ p ≠ w ∧ 0 < xs.length ∧ xs.length < 100000 ∧ ∀ v g b c, v ∈ xs → WellOk g b c → Q v (upd H w (wl g b c))
/-- _law_well(script, turn, salt) -/
def spWell (K : PySem.W.Frag) : Sp := fun vs H Q _ => ∃ (a : Addr) (turn salt : Int) (ns : List Int), vs = [.ref a, .int turn, .int salt] ∧ SqL K H a (ns.map V.int) ∧ 0 ≤ turn ∧ turn < 1000 ∧ 0 ≤ salt ∧ salt < 65521 ∧
  ∀ w H' g b c, Same H H' → H w = none → H' w = some (wl g b c) → WellOk g b c → Q (.ref w) H'
section
variable {P : Program} {w : World} {K : PySem.W.Frag} {mg : Str → Option Value} {base : Heap} {fd : FuncData}
theorem scDrop : FnScope ["well", "width", "digit"] ["well", "width"] (defScope sDrop) := ⟨rfl, rfl, rfl, by decide +kernel, rfl, by decide +kernel, by decide +kernel⟩
theorem ok_drop (F : FnD K "_law_drop" sDrop fd) (T : Names K mg) : FnOk P w K mg base CX0 1 (He.ga K "_law_drop") fd ["well", "width"] spDrop := by
  refine F.ok scDrop (fun vs H Q E h => ?_) (fun cdv A outer s H vs Q E hr h => ?_)
  · obtain ⟨_, _, rfl, _⟩ := h
    rfl
  have gi := T.fr "int" (by decide +kernel)
  refine ⟨_, PSs.nox (pss_cons (ps_if (pt_cmpR op_gt (pe_ix ix_list (pv 0) pe_int (fun _ _ => rfl)) pe_int (nomark _))
      (pss_cons (ps_set (i := 2) scDrop.nd rfl (Or.inl rfl) (pe_op op_mod (pe_callTy call_int1 (by rfl) gi (by decide +kernel) (pa_cons (pe_ix ix_list (pv 0) pe_int (fun _ _ => rfl)) pa_nil)) (pv 1)))
      (pss_cons (ps_asg (pe_op op_fdiv (pe_ix ix_list (pv 0) pe_int (fun _ _ => rfl)) (pv 1)) (pg_sub (pv 0) pe_int set_list))
      (pss_one (ps_ret (pv 2))))) pss_nil)
    (pss_cons (ps_asg (pe_op op_mod (pe_callTy call_int1 (by rfl) gi (by decide +kernel) (pa_cons (pe_op op_add (pe_op op_mul (pe_ix ix_list (pv 0) pe_int (fun _ _ => rfl)) pe_int) pe_int) pa_nil)) pe_int) (pg_sub (pv 0) pe_int set_list))
    (pss_cons (ps_asg (pe_op op_mod (pe_callTy call_int1 (by rfl) gi (by decide +kernel) (pa_cons (pe_op op_add (pe_op op_add (pe_op op_mul (pe_ix ix_list (pv 0) pe_int (fun _ _ => rfl)) (pe_op op_add (pe_op op_mod (pe_callTy call_int1 (by rfl) gi (by decide +kernel) (pa_cons (pe_ix ix_list (pv 0) pe_int (fun _ _ => rfl)) pa_nil)) pe_int) pe_int)) (pe_ix ix_list (pv 0) pe_int (fun _ _ => rfl))) pe_int) pa_nil)) pe_int) (pg_sub (pv 0) pe_int set_list))
    (pss_one (ps_ret (pe_op op_mod (pe_callTy call_int1 (by rfl) gi (by decide +kernel) (pa_cons (pe_op op_fdiv (pe_ix ix_list (pv 0) pe_int (fun _ _ => rfl)) pe_int) pa_nil)) (pv 1))))))), ?_⟩
  obtain ⟨w, n, rfl, ⟨g, b, c, hw, ok⟩, n0, n1, q⟩ := h
  obtain ⟨g0, b0, b1, c0, c1⟩ := ok
  refine ⟨_, rfl, w, _, 0, _, rfl, rfl, .of hw, at3_0, _, _, rfl, rfl, _, rfl, ?_⟩
  refine ite2 (fun hg => ?_) (fun hg => ?_)
  · -- the great number's digit
    have hg' : 0 < g := of_decide_eq_true hg
    refine ⟨_, rfl, w, _, 0, _, rfl, rfl, .of hw, at3_0, .inl ⟨_, rfl, _, rfl, _, _, rfl, rfl, n0, ?_⟩⟩
    refine ⟨_, rfl, w, _, 0, _, rfl, rfl, .of hw, at3_0, _, rfl, _, _, rfl, rfl, ⟨n0, by omega⟩, ?_⟩
    refine ⟨_, rfl, w, _, 0, 0, rfl, rfl, hw, rfl, ?_⟩
    exact ⟨_, rfl, q (g % n) (g / n) b c (Int.emod_nonneg _ (by omega)) (Int.emod_lt_of_pos _ n0) ⟨Int.ediv_nonneg g0 (by omega), b0, b1, c0, c1⟩⟩
  · refine ⟨_, rfl, w, _, 2, _, rfl, rfl, .of hw, at3_2, _, _, rfl, rfl, .inr ⟨by decide, by decide⟩, _, _, rfl, rfl, .inl ⟨_, rfl, _, _, rfl, rfl, (by show (0 : Int) < 65521; decide), ?_⟩⟩
    refine ⟨_, rfl, w, _, 2, 2, rfl, rfl, hw, rfl, ?_⟩
    have hw2 : upd H w (.lst ([V.int g, V.int b, V.int c].set 2 (V.int ((c * 9 + 5021) % 65521)))) w = some (wl g b ((c * 9 + 5021) % 65521)) := upd_same
    have m0 : (0 : Int) ≤ (c * 9 + 5021) % 65521 := Int.emod_nonneg _ (by decide)
    have m1 : (c * 9 + 5021) % 65521 < 65521 := Int.emod_lt_of_pos _ (by decide)
    have k0 : (0 : Int) ≤ b % 2039 := Int.emod_nonneg _ (by decide)
    have k1 : b % 2039 < 2039 := Int.emod_lt_of_pos _ (by decide)
    refine ⟨_, rfl, w, _, 1, _, rfl, rfl, .of hw2, at3_1, _, rfl, w, _, 1, _, rfl, rfl, .of hw2, at3_1, .inl ⟨_, rfl, _, _, rfl, rfl, (by show (0 : Int) < 2039; decide), _, _, rfl, rfl, _, _, rfl, rfl, .inl ⟨by omega, by omega⟩, ?_⟩⟩
    refine ⟨_, rfl, w, _, 2, _, rfl, rfl, .of hw2, at3_2, _, _, rfl, rfl, _, _, rfl, rfl, .inl ⟨_, rfl, _, _, rfl, rfl, (by show (0 : Int) < 2147483587; decide), ?_⟩⟩
    refine ⟨_, rfl, w, _, 1, 1, rfl, rfl, hw2, rfl, ?_⟩
    have m2 : (0 : Int) ≤ (b * (b % 2039 + 40009) + (c * 9 + 5021) % 65521 + 1) % 2147483587 := Int.emod_nonneg _ (by decide)
    have m3 : (b * (b % 2039 + 40009) + (c * 9 + 5021) % 65521 + 1) % 2147483587 < 2147483587 := Int.emod_lt_of_pos _ (by decide)
    refine ⟨_, rfl, w, _, 1, _, rfl, rfl, .of upd_same, at3_1, _, _, rfl, rfl, ⟨by decide, by decide⟩, .inl ⟨_, rfl, _, rfl, _, _, rfl, rfl, n0, ?_⟩⟩
    have hw3 := q ((b * (b % 2039 + 40009) + (c * 9 + 5021) % 65521 + 1) % 2147483587 / 1009 % n) g _ _ (Int.emod_nonneg _ (by omega)) (Int.emod_lt_of_pos _ n0) ⟨g0, m2, m3, m0, m1⟩
    rw [← upd_upd (H := H) (a := w) (o := .lst [V.int g, V.int b, V.int ((c * 9 + 5021) % 65521)])] at hw3
    exact hw3
theorem scPick : FnScope ["well", "some"] ["well", "some"] (defScope sPick) := ⟨rfl, rfl, rfl, by decide +kernel, rfl, by decide +kernel, by decide +kernel⟩
theorem ok_pick {fdD : FuncData} (F : FnD K "_law_pick" sPick fd) (T : Names K mg) (FD : FnD K "_law_drop" sDrop fdD) : FnOk P w K mg base CX0 2 (He.ga K "_law_pick") fd ["well", "some"] spPick := by
  refine F.ok scPick (fun vs H Q E h => ?_) (fun cdv A outer s H vs Q E hr h => ?_)
  · obtain ⟨_, _, _, rfl, _⟩ := h
    rfl
  have gD := T.gl "_law_drop" (by decide +kernel)
  have bD : Binds K fdD ["well", "width"] [] := FD.bindsN fun _ _ _ _ _ _ us hl => match us, hl with | [_, _], _ => rfl
  have GD : FnOk P w K mg base CX0 1 (He.ga K "_law_drop") fdD ["well", "width"] spDrop := ok_drop FD T
  refine ⟨_, PSs.nox (pss_one (ps_ret (pe_ix ix_list (pv 1) (pe_call GD hr rfl gD FD.kp bD .nil pass0 (pa_cons (pv 0) (pa_cons (pe_callB call_len_seq (by rfl) (T.fr "len" (by decide +kernel)) PySem.boot_len (pa_cons (pv 1) pa_nil)) pa_nil))) (fun _ _ => rfl)))), ?_⟩
  obtain ⟨w, p, xs, rfl, hw, hp, ne, l0, l1, q⟩ := h
  refine ⟨_, rfl, _, rfl, _, rfl, p, _, rfl, .inl (.of hp), ?_⟩
  refine ⟨w, _, rfl, hw, by omega, by omega, fun d g b c d0 d1 ok => ?_⟩
  obtain ⟨j, rfl⟩ : ∃ j : Nat, d = (j : Int) := ⟨d.toNat, by omega⟩
  have hj : j < xs.length := by omega
  refine ⟨p, xs, j, xs[j], rfl, rfl, .of (by rw [upd_ne ne]; exact hp), atI_nat (by simp [hj]), q _ g b c (List.getElem_mem hj) ok⟩
theorem cut_int {ns : List Int} {lo hi : Option Int} {i : Nat} {y : V} (h : (cutV (ns.map V.int) lo hi)[i]? = some y) : ∃ z, y = V.int z := by
  have m := List.mem_of_mem_drop (List.mem_of_mem_take (List.mem_of_getElem? h))
  obtain ⟨z, _, e⟩ := List.mem_map.mp m
  exact ⟨z, e.symm⟩
theorem scWell : FnScope ["script", "turn", "salt", "blend", "each", "great"] ["script", "turn", "salt"] (defScope sWell) := ⟨rfl, rfl, rfl, by decide +kernel, rfl, by decide +kernel, by decide +kernel⟩
theorem ok_well (F : FnD K "_law_well" sWell fd) (T : Names K mg) : FnOk P w K mg base CX0 1 (He.ga K "_law_well") fd ["script", "turn", "salt"] (spWell K) := by
  refine F.ok scWell (fun vs H Q E h => ?_) (fun cdv A outer s H vs Q E hr h => ?_)
  · obtain ⟨_, _, _, _, rfl, _⟩ := h
    rfl
  have gi := T.fr "int" (by decide +kernel)
  refine ⟨_, PSs.nox (pss_cons (ps_set (i := 3) scWell.nd rfl (Or.inl rfl) (pe_op op_add (pe_op op_add (pe_op op_mul (pv 2) pe_int) (pe_op op_mul pe_int (pv 1))) pe_int))
    (pss_cons (ps_for PassesOwn.never rfl (pi_list (pe_slice sl_list (pv 0) po_none (po_some pe_int))) (pg_name (i := 4) scWell.nd rfl (Or.inl rfl))
      (pss_one (ps_set (i := 3) scWell.nd rfl (Or.inl rfl) (pe_op op_mod (pe_callTy call_int1 (by rfl) gi (by decide +kernel) (pa_cons (pe_op op_add (pe_op op_add (pe_op op_mul (pv 3) pe_int) (pe_op op_mul (pe_op op_mod (pe_callTy call_int1 (by rfl) gi (by decide +kernel) (pa_cons (pv 4) pa_nil)) pe_int) pe_int)) pe_int) pa_nil)) pe_int))))
    (pss_cons (ps_set (i := 5) scWell.nd rfl (Or.inl rfl) (pe_ifExp (pt_cmpR op_lt (pv 1) (pe_callB call_len_seq (by rfl) (T.fr "len" (by decide +kernel)) PySem.boot_len (pa_cons (pv 0) pa_nil)) (nomark _))
      (pe_callB call_abs (by rfl) (T.fr "abs" (by decide +kernel)) (by decide +kernel) (pa_cons (pe_callTy call_int1 (by rfl) gi (by decide +kernel) (pa_cons (pe_ix ix_list (pv 0) (pv 1) (fun _ _ => rfl)) pa_nil)) pa_nil)) pe_int))
    (pss_one (ps_ret (pe_lst (pa_cons (pe_ifExp (pt_cmpR op_ge (pv 5) (pe_op op_pow pe_int pe_int) (nomark _)) (pv 5) pe_int) (pa_cons (pv 3) (pa_cons (pv 2) pa_nil))))))))), ?_⟩
  obtain ⟨a, turn, salt, ns, rfl, hS, t0, t1, s0, s1, q⟩ := h
  refine ⟨_, rfl, _, _, rfl, rfl, .inr ⟨by decide, by decide⟩, _, rfl, _, _, rfl, rfl, .inl ⟨by decide, by decide⟩, _, _, rfl, rfl, _, _, rfl, rfl, ?_⟩
  -- for each in script[:14]
  refine ⟨_, rfl, _, rfl, a, _, rfl, hS, fun p hp => ⟨p, rfl, ⟨_, .of upd_same⟩, ?_⟩⟩
  have bs : (0 : Int) ≤ salt * 37 + 88001 * turn + 411 := by omega
  have bb : salt * 37 + 88001 * turn + 411 < 2147483587 := by omega
  refine for_list (K := K) (a := p) (xs := cutV (ns.map V.int) none (some 14)) (fun i σ H' => H' = upd H p (.lst (cutV (ns.map V.int) none (some 14))) ∧ ∃ (bl : Int) (v : Option V), σ = [some (.ref a), some (.int turn), some (.int salt), some (.int bl), v, none] ∧ 0 ≤ bl ∧ bl < 2147483587)
    ⟨rfl, _, _, rfl, bs, bb⟩ (fun i σ H' _ ⟨e, _⟩ => by rw [e]; exact .of upd_same) ?_ ?_
  · rintro i y σ H' hi ⟨rfl, bl, v, rfl, l0, l1⟩
    obtain ⟨z, rfl⟩ := cut_int hi
    refine ⟨_, rfl, _, _, rfl, rfl, .inl ⟨by omega, by omega⟩, _, rfl, .inl ⟨_, rfl, ?_⟩⟩
    refine ⟨_, _, rfl, rfl, (by show (0 : Int) < 1000000087; decide), _, _, rfl, rfl, .inr ⟨by decide, by decide⟩, _, _, rfl, rfl, _, _, rfl, rfl, .inl ⟨_, rfl, _, _, rfl, rfl, (by show (0 : Int) < 2147483587; decide), ?_⟩⟩
    exact ⟨rfl, _, _, rfl, Int.emod_nonneg _ (by decide), Int.emod_lt_of_pos _ (by decide)⟩
  · rintro σ H' ⟨rfl, bl, v, rfl, l0, l1⟩
    have hS' : SqL K (upd H p (.lst (cutV (ns.map V.int) none (some 14)))) a (ns.map V.int) := (same_new hp).seq hS
    -- great, then the well
    have fin : ∀ gr : Int, 0 ≤ gr → (tRet (tLst (tCons (tIf (tTest (tOp (rI0 fun i j => .bl (decide (j ≤ i))) (tVar 5) (tOp (rI CPow fun i j => .int (i ^ j.toNat)) (tC (.int 10)) (tC (.int 18))))) (tVar 5) (tC (.int 0))) (tCons (tVar 3) (tCons (tVar 2) tNil)))))
        { nx := fun _ H' => Q .non H', rt := Q } [some (.ref a), some (.int turn), some (.int salt), some (.int bl), v, some (.int gr)] (upd H p (.lst (cutV (ns.map V.int) none (some 14)))) := fun gr g0 => by
      refine ⟨_, rfl, _, _, rfl, rfl, ⟨by decide, by decide, by decide⟩, _, _, rfl, rfl, _, rfl, ?_⟩
      have end_ : ∀ x : Int, 0 ≤ x → (fun xs H1 => xs.length ≤ sizeLine ∧ ∀ p, H1 p = none → Q (.ref p) (upd H1 p (.lst xs))) [V.int x, V.int bl, V.int salt] (upd H p (.lst (cutV (ns.map V.int) none (some 14)))) := fun x x0 =>
        ⟨by show 3 ≤ sizeLine; decide, fun r hr => q r _ x bl salt ((same_new hp).trans (same_new hr)) ((same_new hp).free hr) upd_same ⟨x0, l0, l1, s0, s1⟩⟩
      refine ite2 (fun _ => ?_) (fun _ => ?_)
      · exact ⟨_, rfl, _, rfl, _, rfl, end_ gr g0⟩
      · exact ⟨_, rfl, _, rfl, end_ 0 (by decide)⟩
    refine ⟨_, rfl, _, rfl, a, _, rfl, .inl hS', _, _, rfl, rfl, _, rfl, ?_⟩
    refine ite2 (fun hl => ?_) (fun hl => ?_)
    · have hl' : turn < ((ns.map V.int).length : Int) := of_decide_eq_true hl
      obtain ⟨j, rfl⟩ : ∃ j : Nat, turn = (j : Int) := ⟨turn.toNat, by omega⟩
      have hj : j < ns.length := by rw [List.length_map] at hl'; omega
      refine ⟨_, rfl, _, rfl, a, _, j, .int ns[j], rfl, rfl, hS', atI_nat (by simp [hj]), .inl ⟨_, rfl, _, rfl, ?_⟩⟩
      refine fin _ ?_
      by_cases z : ns[j] < 0
      · rw [if_pos z]; omega
      · rw [if_neg z]; omega
    · exact fin 0 (by decide)
end
end K01
set_option Elab.async false
set_option linter.all false
set_option maxRecDepth 100000
set_option maxHeartbeats 4000000
namespace K01
open PySem PySem.Spec PyProof.Rows L2

def dA : List PyData := [(.none), (.bool true), (.bool false), (.int 0), (.int 1), (.int (-2)), (.int 6), (.int (10 ^ (25 : Int).toNat)), (.str ""), (.str "z"), (.str "0"), (.tuple []), (.tuple [(.int 0)]), (.tuple [(.int 1), (.int 1)]), (.tuple [(.int 0), (.int 2)]), (.tuple [(.int 2), (.int 6)]), (.tuple [(.tuple [(.int 1), (.int 1)])])]
def dB : List PyData := [(.tuple [(.tuple [(.int 1), (.int 1)]), (.tuple [(.int 0), (.int 1)])]), (.tuple [(.tuple [(.int 1), (.int 2)]), (.tuple [(.int 1), (.int 1)])]), (.list []), (.list [(.tuple [(.int 1), (.int 1)])]), (.dict []), (.dict [(.str "z", .tuple [(.int 1), (.int 1)])]), (.tuple [(.none)]), (.tuple [(.tuple [])]), (.tuple [(.tuple [(.int 1), (.int (-2))])])]
def dC : List PyData := [(.tuple [(.tuple [(.tuple [(.int 1), (.int 1)])]), (.tuple [(.tuple [(.int 1), (.int 1)])])]), (.tuple [(.tuple [(.tuple [(.int 1), (.int 1)])]), (.tuple [(.tuple [(.int 0), (.int 1)]), (.tuple [(.int 1), (.int 1)])])]), (.tuple [(.tuple []), (.tuple [(.tuple [(.int 1), (.int 1)])])]), (.tuple [(.tuple [(.tuple [(.bool true), (.int 1)])]), (.tuple [(.tuple [(.int 1), (.int 1)])])])]
/-- fit to be shown beside itself in a list -/
def fine (d : PyData) : Bool := PyData.showable (.list [d, d]) && decide (PyData.depth (.list [d, d]) ≤ 20) && decide ((PyData.shown (.list [d, d])).length ≤ 1000)

theorem all_fine : (dA ++ dB ++ dC).all fine = true := by decide +kernel
theorem fine_of {d : PyData} (h : d ∈ dA ++ dB ++ dC) : fine d = true := List.all_eq_true.mp all_fine d h
/-- _law_odd(well): some value of the menu -/
def spOdd : Sp := fun vs H Q _ => ∃ w : Addr, vs = [.ref w] ∧ WellAt H w ∧ ∀ v H' d g b c, (∀ x o, x ≠ w → H x = some o → H' x = some o) → H' w = some (wl g b c) → WellOk g b c → Dq (Nw H) H' v d → fine d = true → Q v H'
section
variable {P : Program} {w : World} {K : PySem.W.Frag} {mg : Str → Option Value} {base : Heap} {fd : FuncData}
theorem scOdd : FnScope ["well", "some"] ["well"] (defScope sOdd) := ⟨rfl, rfl, rfl, by decide +kernel, rfl, by decide +kernel, by decide +kernel⟩
theorem ok_odd {fdD fdP : FuncData} (F : FnD K "_law_odd" sOdd fd) (T : Names K mg) (FD : FnD K "_law_drop" sDrop fdD) (FP : FnD K "_law_pick" sPick fdP) : FnOk P w K mg base CX0 3 (He.ga K "_law_odd") fd ["well"] spOdd := by
  refine F.ok scOdd (fun vs H Q E h => ?_) (fun cdv A outer s H vs Q E hr h => ?_)
  · obtain ⟨_, rfl, _⟩ := h
    rfl
  have gP := T.gl "_law_pick" (by decide +kernel)
  have bP : Binds K fdP ["well", "some"] [] := FP.bindsN fun _ _ _ _ _ _ us hl => match us, hl with | [_, _], _ => rfl
  have GP : FnOk P w K mg base CX0 2 (He.ga K "_law_pick") fdP ["well", "some"] spPick := ok_pick FP T FD
  refine ⟨_, PSs.nox (pss_cons (ps_set (i := 1) scOdd.nd rfl (Or.inl rfl) (pe_lstS (pa_cons pe_non (pa_cons pe_bl (pa_cons pe_bl (pa_cons pe_int (pa_cons pe_int (pa_cons (pe_un un_neg pe_int) (pa_cons pe_int (pa_cons (pe_op op_pow pe_int pe_int) (pa_cons pe_str (pa_cons pe_str (pa_cons pe_str (pa_cons (pe_tup pa_nil) (pa_cons (pe_tup (pa_cons pe_int pa_nil)) (pa_cons (pe_tup (pa_cons pe_int (pa_cons pe_int pa_nil))) (pa_cons (pe_tup (pa_cons pe_int (pa_cons pe_int pa_nil))) (pa_cons (pe_tup (pa_cons pe_int (pa_cons pe_int pa_nil))) (pa_cons (pe_tup (pa_cons (pe_tup (pa_cons pe_int (pa_cons pe_int pa_nil))) pa_nil)) pa_nil)))))))))))))))))))
    (pss_cons (ps_set (i := 1) scOdd.nd rfl (Or.inl rfl) (pe_op op_cat (pv 1) (pe_lstS (pa_cons (pe_tup (pa_cons (pe_tup (pa_cons pe_int (pa_cons pe_int pa_nil))) (pa_cons (pe_tup (pa_cons pe_int (pa_cons pe_int pa_nil))) pa_nil))) (pa_cons (pe_tup (pa_cons (pe_tup (pa_cons pe_int (pa_cons pe_int pa_nil))) (pa_cons (pe_tup (pa_cons pe_int (pa_cons pe_int pa_nil))) pa_nil))) (pa_cons (pe_lstS pa_nil) (pa_cons (pe_lstS (pa_cons (pe_tup (pa_cons pe_int (pa_cons pe_int pa_nil))) pa_nil)) (pa_cons pe_dnewK (pa_cons (pe_disp (pps_cons pe_str (pe_tup (pa_cons pe_int (pa_cons pe_int pa_nil))) pps_nil) (by rfl) (by rfl) (fun z => by cases z) (by decide)) (pa_cons (pe_tup (pa_cons pe_non pa_nil)) (pa_cons (pe_tup (pa_cons (pe_tup pa_nil) pa_nil)) (pa_cons (pe_tup (pa_cons (pe_tup (pa_cons pe_int (pa_cons (pe_un un_neg pe_int) pa_nil))) pa_nil)) pa_nil))))))))))))
    (pss_cons (ps_set (i := 1) scOdd.nd rfl (Or.inl rfl) (pe_op op_cat (pv 1) (pe_lstS (pa_cons (pe_tup (pa_cons (pe_tup (pa_cons (pe_tup (pa_cons pe_int (pa_cons pe_int pa_nil))) pa_nil)) (pa_cons (pe_tup (pa_cons (pe_tup (pa_cons pe_int (pa_cons pe_int pa_nil))) pa_nil)) pa_nil))) (pa_cons (pe_tup (pa_cons (pe_tup (pa_cons (pe_tup (pa_cons pe_int (pa_cons pe_int pa_nil))) pa_nil)) (pa_cons (pe_tup (pa_cons (pe_tup (pa_cons pe_int (pa_cons pe_int pa_nil))) (pa_cons (pe_tup (pa_cons pe_int (pa_cons pe_int pa_nil))) pa_nil))) pa_nil))) (pa_cons (pe_tup (pa_cons (pe_tup pa_nil) (pa_cons (pe_tup (pa_cons (pe_tup (pa_cons pe_int (pa_cons pe_int pa_nil))) pa_nil)) pa_nil))) (pa_cons (pe_tup (pa_cons (pe_tup (pa_cons (pe_tup (pa_cons pe_bl (pa_cons pe_int pa_nil))) pa_nil)) (pa_cons (pe_tup (pa_cons (pe_tup (pa_cons pe_int (pa_cons pe_int pa_nil))) pa_nil)) pa_nil))) pa_nil)))))))
    (pss_one (ps_ret (pe_call GP hr rfl gP FP.kp bP .nil pass0 (pa_cons (pv 0) (pa_cons (pv 1) pa_nil)))))))), ?_⟩
  obtain ⟨w, rfl, ⟨g, b, c, hw, ok⟩, q⟩ := h
  refine rd_seq (rd_set (((sh_lst (sh_cons sh_non (sh_cons sh_bl (sh_cons sh_bl (sh_cons sh_int (sh_cons sh_int (sh_cons sh_neg (sh_cons sh_int (sh_cons (sh_pow ⟨by decide, by decide, by decide⟩) (sh_cons sh_str (sh_cons sh_str (sh_cons sh_str (sh_cons (sh_tup sh_nil) (sh_cons (sh_tup (sh_cons sh_int sh_nil)) (sh_cons (sh_tup (sh_cons sh_int (sh_cons sh_int sh_nil))) (sh_cons (sh_tup (sh_cons sh_int (sh_cons sh_int sh_nil))) (sh_cons (sh_tup (sh_cons sh_int (sh_cons sh_int sh_nil))) (sh_cons (sh_tup (sh_cons (sh_tup (sh_cons sh_int (sh_cons sh_int sh_nil))) sh_nil)) sh_nil)))))))))))))))))) : Shows _ (.list dA)) _ _ _ fun v1 H1 s1 q1 => ?_))
  cases q1 with
  | @lst a1 xs1 ds1 n1 e1 m1 all1 =>
  have ne1 : a1 ≠ w := fun z => by
    rw [z] at n1
    exact absurd (n1.symm.trans hw) (by simp)
  refine rd_seq (rd_set (rd_op (rd_var rfl (((sh_lst (sh_cons (sh_tup (sh_cons (sh_tup (sh_cons sh_int (sh_cons sh_int sh_nil))) (sh_cons (sh_tup (sh_cons sh_int (sh_cons sh_int sh_nil))) sh_nil))) (sh_cons (sh_tup (sh_cons (sh_tup (sh_cons sh_int (sh_cons sh_int sh_nil))) (sh_cons (sh_tup (sh_cons sh_int (sh_cons sh_int sh_nil))) sh_nil))) (sh_cons (sh_lst sh_nil) (sh_cons (sh_lst (sh_cons (sh_tup (sh_cons sh_int (sh_cons sh_int sh_nil))) sh_nil)) (sh_cons sh_dk0 (sh_cons (sh_dk1 (sh_tup (sh_cons sh_int (sh_cons sh_int sh_nil)))) (sh_cons (sh_tup (sh_cons sh_non sh_nil)) (sh_cons (sh_tup (sh_cons (sh_tup sh_nil) sh_nil)) (sh_cons (sh_tup (sh_cons (sh_tup (sh_cons sh_int (sh_cons sh_neg sh_nil))) sh_nil)) sh_nil)))))))))) : Shows _ (.list dB)) _ _ _ fun v2 H2 s2 q2 => ?_))))
  cases q2 with
  | @lst a2 xs2 ds2 n2 e2 m2 all2 =>
  have l1 := all1.length
  have l2 := all2.length
  refine ⟨a1, a2, xs1, xs2, rfl, rfl, s2 _ _ e1, e2, by rw [l1, l2, sizeLine_eq]; decide, fun p3 hp3 => ?_⟩
  refine rd_seq (rd_set (rd_op (rd_var rfl (((sh_lst (sh_cons (sh_tup (sh_cons (sh_tup (sh_cons (sh_tup (sh_cons sh_int (sh_cons sh_int sh_nil))) sh_nil)) (sh_cons (sh_tup (sh_cons (sh_tup (sh_cons sh_int (sh_cons sh_int sh_nil))) sh_nil)) sh_nil))) (sh_cons (sh_tup (sh_cons (sh_tup (sh_cons (sh_tup (sh_cons sh_int (sh_cons sh_int sh_nil))) sh_nil)) (sh_cons (sh_tup (sh_cons (sh_tup (sh_cons sh_int (sh_cons sh_int sh_nil))) (sh_cons (sh_tup (sh_cons sh_int (sh_cons sh_int sh_nil))) sh_nil))) sh_nil))) (sh_cons (sh_tup (sh_cons (sh_tup sh_nil) (sh_cons (sh_tup (sh_cons (sh_tup (sh_cons sh_int (sh_cons sh_int sh_nil))) sh_nil)) sh_nil))) (sh_cons (sh_tup (sh_cons (sh_tup (sh_cons (sh_tup (sh_cons sh_bl (sh_cons sh_int sh_nil))) sh_nil)) (sh_cons (sh_tup (sh_cons (sh_tup (sh_cons sh_int (sh_cons sh_int sh_nil))) sh_nil)) sh_nil))) sh_nil))))) : Shows _ (.list dC)) _ _ _ fun v4 H4 s4 q4 => ?_))))
  cases q4 with
  | @lst a4 xs4 ds4 n4 e4 m4 all4 =>
  have l4 := all4.length
  refine ⟨p3, a4, xs1 ++ xs2, xs4, rfl, rfl, s4 _ _ upd_same, e4, by rw [List.length_append, l1, l2, l4, sizeLine_eq]; decide, fun p5 hp5 => ?_⟩
  have s3 : Same H2 (upd H2 p3 (.lst (xs1 ++ xs2))) := same_new hp3
  have s5 : Same H4 (upd H4 p5 (.lst (xs1 ++ xs2 ++ xs4))) := same_new hp5
  have sH2 : Same H H2 := s1.trans s2
  have sH4 : Same H H4 := (sH2.trans s3).trans s4
  have hw5 : upd H4 p5 (.lst (xs1 ++ xs2 ++ xs4)) w = some (wl g b c) := s5 _ _ (sH4 _ _ hw)
  have np : p5 ≠ w := fun z => by
    rw [z] at hp5
    rw [sH4 _ _ hw] at hp5
    cases hp5
  have all : DqAll (Nw H) (upd H4 p5 (.lst (xs1 ++ xs2 ++ xs4))) (xs1 ++ xs2 ++ xs4) (dA ++ dB ++ dC) := by
    have k3 : Same H1 (upd H4 p5 (.lst (xs1 ++ xs2 ++ xs4))) := ((s2.trans s3).trans s4).trans s5
    have k2 : Same H2 (upd H4 p5 (.lst (xs1 ++ xs2 ++ xs4))) := (s3.trans s4).trans s5
    refine DqAll.append (DqAll.append (all1.same k3) ?_) ?_
    · exact (all2.same k2).to fun x o n e => ⟨s1.free n, e⟩
    · exact (all4.same s5).to fun x o n e => ⟨sH2.free (s3.free n), e⟩
  refine ⟨_, rfl, _, rfl, ?_⟩
  refine ⟨w, p5, _, rfl, ⟨g, b, c, hw5, ok⟩, upd_same, np, by rw [all.length]; decide, by rw [all.length]; decide, fun v g' b' c' hv ok' => ?_⟩
  obtain ⟨d, hd, hq⟩ := all.mem hv
  refine q v _ d g' b' c' (fun x o nx e => ?_) upd_same ok' ?_ (fine_of hd)
  · rw [upd_ne nx]
    exact s5 _ _ (sH4 _ _ e)
  · refine hq.to fun x o n e => ⟨n, ?_⟩
    have nx : x ≠ w := fun z => by
      rw [z] at n
      have n' : H w = none := n
      rw [hw] at n'
      cases n'
    rw [upd_ne nx]
    exact e
end
end K01
set_option Elab.async false
set_option linter.all false
set_option maxRecDepth 100000
set_option maxHeartbeats 4000000
namespace K01
open PySem PySem.Spec PyProof.Rows L2
theorem rd_if {c : TT} {t u : TS} {D : Ends} {σ : L2.St} {H : Hp} (h : c σ H fun b H1 => if b = true then t D σ H1 else u D σ H1) : tIfS c t u D σ H := h
theorem rd_next {D : Ends} {σ : L2.St} {H : Hp} (q : D.nx σ H) : tNext D σ H := q
/-- the classes of errors, by their number -/
def nmE : List Str := own ++ bare
def ec (K : PySem.W.Frag) (j : Nat) : Addr := He.ga K (nmE.getD j "")
structure Errs (P : Program) (K : PySem.W.Frag) : Prop where
  gv : ∀ x ∈ own.take 5, PySem.ErrLow.ErrI P K (He.ga K x) (He.ma K (He.ga K x) "__init__") "given"
  ix : ∀ x ∈ own.drop 5, PySem.ErrLow.ErrI P K (He.ga K x) (He.ma K (He.ga K x) "__init__") "index"
  ek : ∀ x ∈ nmE.take 11, ErrK K (He.ga K x) [He.ga K "EndError"]
  e0 : ErrK K (He.ga K "EndError") []
  b0 : ∀ x ∈ bare, PySem.W.findIn K (.ref (He.ga K x)) "__init__" = some (some (.builtin "ValueError.__init__"))
  g0 : ErrG K
  no : ∀ x ∈ own.take 5, PySem.W.findIn K (.ref (He.ga K x)) "given" = some none
  no2 : ∀ x ∈ own.drop 5, PySem.W.findIn K (.ref (He.ga K x)) "index" = some none
  nd : (nmE.map (He.ga K)).Nodup
/-- _law_given(k, thing, is_named), _law_counted: an error of the k-th class (from lo on) with the attribute f -/
def spMk (K : PySem.W.Frag) (lo n : Nat) (f : Str) : Sp := fun vs H Q _ => ∃ (k : Int) (v : V) (nm : Bool), vs = [.int k, v, .bl nm] ∧ 0 ≤ k ∧ k < n ∧
  ∀ e d, H e = none → H d = none → d ≠ e → Q (.ref e) (upd (upd H d (.xd [(f, v)])) e (exo e (ec K (lo + k.toNat)) (some d)))
section
variable {P : Program} {w : World} {K : PySem.W.Frag} {mg : Str → Option Value} {base : Heap} {fd : FuncData}
theorem scGiven : FnScope ["k", "thing", "is_named"] ["k", "thing", "is_named"] (defScope sGiven) := ⟨rfl, rfl, rfl, by decide +kernel, rfl, by decide +kernel, by decide +kernel⟩
theorem ok_given (F : FnD K "_law_given" sGiven fd) (T : Names K mg) (Er : Errs P K) : FnOk P w K mg base CX0 2 (He.ga K "_law_given") fd ["k", "thing", "is_named"] (spMk K 0 5 "given") := by
  refine F.ok scGiven (fun vs H Q E h => ?_) (fun cdv A outer s H vs Q E hr h => ?_)
  · obtain ⟨_, _, _, rfl, _⟩ := h
    rfl
  have hs := T.fr "super" (by decide +kernel)
  refine ⟨_, PSs.nox (pss_cons (ps_if (pt_cmpR op_eq (pv 0) pe_int (nomark _)) (pss_one (ps_ret (pe_ifExp (pt_val (pv 2)) (pe_errK (Er.gv "InvalidPolynomial" (by decide +kernel)) (.inl rfl) hs hr rfl (T.gl "InvalidPolynomial" (by decide +kernel)) (pk_cons (pv 1) pk_nil)) (pe_err (Er.gv "InvalidPolynomial" (by decide +kernel)) (.inl rfl) hs hr rfl (T.gl "InvalidPolynomial" (by decide +kernel)) (pa_cons (pv 1) pa_nil))))) pss_nil)
      (pss_cons (ps_if (pt_cmpR op_eq (pv 0) pe_int (nomark _)) (pss_one (ps_ret (pe_ifExp (pt_val (pv 2)) (pe_errK (Er.gv "InvalidFraction" (by decide +kernel)) (.inl rfl) hs hr rfl (T.gl "InvalidFraction" (by decide +kernel)) (pk_cons (pv 1) pk_nil)) (pe_err (Er.gv "InvalidFraction" (by decide +kernel)) (.inl rfl) hs hr rfl (T.gl "InvalidFraction" (by decide +kernel)) (pa_cons (pv 1) pa_nil))))) pss_nil)
      (pss_cons (ps_if (pt_cmpR op_eq (pv 0) pe_int (nomark _)) (pss_one (ps_ret (pe_ifExp (pt_val (pv 2)) (pe_errK (Er.gv "InvalidTeller" (by decide +kernel)) (.inl rfl) hs hr rfl (T.gl "InvalidTeller" (by decide +kernel)) (pk_cons (pv 1) pk_nil)) (pe_err (Er.gv "InvalidTeller" (by decide +kernel)) (.inl rfl) hs hr rfl (T.gl "InvalidTeller" (by decide +kernel)) (pa_cons (pv 1) pa_nil))))) pss_nil)
      (pss_cons (ps_if (pt_cmpR op_eq (pv 0) pe_int (nomark _)) (pss_one (ps_ret (pe_ifExp (pt_val (pv 2)) (pe_errK (Er.gv "InvalidRow" (by decide +kernel)) (.inl rfl) hs hr rfl (T.gl "InvalidRow" (by decide +kernel)) (pk_cons (pv 1) pk_nil)) (pe_err (Er.gv "InvalidRow" (by decide +kernel)) (.inl rfl) hs hr rfl (T.gl "InvalidRow" (by decide +kernel)) (pa_cons (pv 1) pa_nil))))) pss_nil)
      (pss_one (ps_ret (pe_ifExp (pt_val (pv 2)) (pe_errK (Er.gv "InvalidNumber" (by decide +kernel)) (.inl rfl) hs hr rfl (T.gl "InvalidNumber" (by decide +kernel)) (pk_cons (pv 1) pk_nil)) (pe_err (Er.gv "InvalidNumber" (by decide +kernel)) (.inl rfl) hs hr rfl (T.gl "InvalidNumber" (by decide +kernel)) (pa_cons (pv 1) pa_nil))))))))), ?_⟩
  obtain ⟨k, v, nm, rfl, k0, k1, q⟩ := h
  refine rd_seq (rd_if ⟨_, rfl, rfl, _, rfl, ?_⟩)
  refine ite2 (fun h => ?_) (fun h => ?_)
  · obtain rfl : k = 0 := by simpa using h
    refine rd_ret ⟨_, rfl, _, rfl, ?_⟩
    cases nm with
    | true => exact iteT ⟨_, rfl, _, rfl, fun e d h1 h2 ne => q e d h1 h2 ne⟩
    | false => exact iteF ⟨_, rfl, _, rfl, fun e d h1 h2 ne => q e d h1 h2 ne⟩
  have n0 : k ≠ 0 := by simpa using h
  refine rd_next ?_
  dsimp only
  refine rd_seq (rd_if ⟨_, rfl, rfl, _, rfl, ?_⟩)
  refine ite2 (fun h => ?_) (fun h => ?_)
  · obtain rfl : k = 1 := by simpa using h
    refine rd_ret ⟨_, rfl, _, rfl, ?_⟩
    cases nm with
    | true => exact iteT ⟨_, rfl, _, rfl, fun e d h1 h2 ne => q e d h1 h2 ne⟩
    | false => exact iteF ⟨_, rfl, _, rfl, fun e d h1 h2 ne => q e d h1 h2 ne⟩
  have n1 : k ≠ 1 := by simpa using h
  refine rd_next ?_
  dsimp only
  refine rd_seq (rd_if ⟨_, rfl, rfl, _, rfl, ?_⟩)
  refine ite2 (fun h => ?_) (fun h => ?_)
  · obtain rfl : k = 2 := by simpa using h
    refine rd_ret ⟨_, rfl, _, rfl, ?_⟩
    cases nm with
    | true => exact iteT ⟨_, rfl, _, rfl, fun e d h1 h2 ne => q e d h1 h2 ne⟩
    | false => exact iteF ⟨_, rfl, _, rfl, fun e d h1 h2 ne => q e d h1 h2 ne⟩
  have n2 : k ≠ 2 := by simpa using h
  refine rd_next ?_
  dsimp only
  refine rd_seq (rd_if ⟨_, rfl, rfl, _, rfl, ?_⟩)
  refine ite2 (fun h => ?_) (fun h => ?_)
  · obtain rfl : k = 3 := by simpa using h
    refine rd_ret ⟨_, rfl, _, rfl, ?_⟩
    cases nm with
    | true => exact iteT ⟨_, rfl, _, rfl, fun e d h1 h2 ne => q e d h1 h2 ne⟩
    | false => exact iteF ⟨_, rfl, _, rfl, fun e d h1 h2 ne => q e d h1 h2 ne⟩
  have n3 : k ≠ 3 := by simpa using h
  refine rd_next ?_
  dsimp only
  obtain rfl : k = 4 := by omega
  refine rd_ret ⟨_, rfl, _, rfl, ?_⟩
  cases nm with
  | true => exact iteT ⟨_, rfl, _, rfl, fun e d h1 h2 ne => q e d h1 h2 ne⟩
  | false => exact iteF ⟨_, rfl, _, rfl, fun e d h1 h2 ne => q e d h1 h2 ne⟩

theorem scCounted : FnScope ["k", "thing", "is_named"] ["k", "thing", "is_named"] (defScope sCounted) := ⟨rfl, rfl, rfl, by decide +kernel, rfl, by decide +kernel, by decide +kernel⟩
theorem ok_counted (F : FnD K "_law_counted" sCounted fd) (T : Names K mg) (Er : Errs P K) : FnOk P w K mg base CX0 2 (He.ga K "_law_counted") fd ["k", "thing", "is_named"] (spMk K 5 4 "index") := by
  refine F.ok scCounted (fun vs H Q E h => ?_) (fun cdv A outer s H vs Q E hr h => ?_)
  · obtain ⟨_, _, _, rfl, _⟩ := h
    rfl
  have hs := T.fr "super" (by decide +kernel)
  refine ⟨_, PSs.nox (pss_cons (ps_if (pt_cmpR op_eq (pv 0) pe_int (nomark _)) (pss_one (ps_ret (pe_ifExp (pt_val (pv 2)) (pe_errK (Er.ix "InvalidNumbers" (by decide +kernel)) (.inr rfl) hs hr rfl (T.gl "InvalidNumbers" (by decide +kernel)) (pk_cons (pv 1) pk_nil)) (pe_err (Er.ix "InvalidNumbers" (by decide +kernel)) (.inr rfl) hs hr rfl (T.gl "InvalidNumbers" (by decide +kernel)) (pa_cons (pv 1) pa_nil))))) pss_nil)
      (pss_cons (ps_if (pt_cmpR op_eq (pv 0) pe_int (nomark _)) (pss_one (ps_ret (pe_ifExp (pt_val (pv 2)) (pe_errK (Er.ix "InvalidKinds" (by decide +kernel)) (.inr rfl) hs hr rfl (T.gl "InvalidKinds" (by decide +kernel)) (pk_cons (pv 1) pk_nil)) (pe_err (Er.ix "InvalidKinds" (by decide +kernel)) (.inr rfl) hs hr rfl (T.gl "InvalidKinds" (by decide +kernel)) (pa_cons (pv 1) pa_nil))))) pss_nil)
      (pss_cons (ps_if (pt_cmpR op_eq (pv 0) pe_int (nomark _)) (pss_one (ps_ret (pe_ifExp (pt_val (pv 2)) (pe_errK (Er.ix "InvalidSteps" (by decide +kernel)) (.inr rfl) hs hr rfl (T.gl "InvalidSteps" (by decide +kernel)) (pk_cons (pv 1) pk_nil)) (pe_err (Er.ix "InvalidSteps" (by decide +kernel)) (.inr rfl) hs hr rfl (T.gl "InvalidSteps" (by decide +kernel)) (pa_cons (pv 1) pa_nil))))) pss_nil)
      (pss_one (ps_ret (pe_ifExp (pt_val (pv 2)) (pe_errK (Er.ix "InvalidWeights" (by decide +kernel)) (.inr rfl) hs hr rfl (T.gl "InvalidWeights" (by decide +kernel)) (pk_cons (pv 1) pk_nil)) (pe_err (Er.ix "InvalidWeights" (by decide +kernel)) (.inr rfl) hs hr rfl (T.gl "InvalidWeights" (by decide +kernel)) (pa_cons (pv 1) pa_nil)))))))), ?_⟩
  obtain ⟨k, v, nm, rfl, k0, k1, q⟩ := h
  refine rd_seq (rd_if ⟨_, rfl, rfl, _, rfl, ?_⟩)
  refine ite2 (fun h => ?_) (fun h => ?_)
  · obtain rfl : k = 0 := by simpa using h
    refine rd_ret ⟨_, rfl, _, rfl, ?_⟩
    cases nm with
    | true => exact iteT ⟨_, rfl, _, rfl, fun e d h1 h2 ne => q e d h1 h2 ne⟩
    | false => exact iteF ⟨_, rfl, _, rfl, fun e d h1 h2 ne => q e d h1 h2 ne⟩
  have n0 : k ≠ 0 := by simpa using h
  refine rd_next ?_
  dsimp only
  refine rd_seq (rd_if ⟨_, rfl, rfl, _, rfl, ?_⟩)
  refine ite2 (fun h => ?_) (fun h => ?_)
  · obtain rfl : k = 1 := by simpa using h
    refine rd_ret ⟨_, rfl, _, rfl, ?_⟩
    cases nm with
    | true => exact iteT ⟨_, rfl, _, rfl, fun e d h1 h2 ne => q e d h1 h2 ne⟩
    | false => exact iteF ⟨_, rfl, _, rfl, fun e d h1 h2 ne => q e d h1 h2 ne⟩
  have n1 : k ≠ 1 := by simpa using h
  refine rd_next ?_
  dsimp only
  refine rd_seq (rd_if ⟨_, rfl, rfl, _, rfl, ?_⟩)
  refine ite2 (fun h => ?_) (fun h => ?_)
  · obtain rfl : k = 2 := by simpa using h
    refine rd_ret ⟨_, rfl, _, rfl, ?_⟩
    cases nm with
    | true => exact iteT ⟨_, rfl, _, rfl, fun e d h1 h2 ne => q e d h1 h2 ne⟩
    | false => exact iteF ⟨_, rfl, _, rfl, fun e d h1 h2 ne => q e d h1 h2 ne⟩
  have n2 : k ≠ 2 := by simpa using h
  refine rd_next ?_
  dsimp only
  obtain rfl : k = 3 := by omega
  refine rd_ret ⟨_, rfl, _, rfl, ?_⟩
  cases nm with
  | true => exact iteT ⟨_, rfl, _, rfl, fun e d h1 h2 ne => q e d h1 h2 ne⟩
  | false => exact iteF ⟨_, rfl, _, rfl, fun e d h1 h2 ne => q e d h1 h2 ne⟩

/-- _law_bare(k): NotFair(), NotTelling(), EndError() -/
def spBare (K : PySem.W.Frag) : Sp := fun vs H Q _ => ∃ k : Int, vs = [.int k] ∧ 0 ≤ k ∧ k < 3 ∧ ∀ e, H e = none → Q (.ref e) (upd H e (exo e (ec K (9 + k.toNat)) none))
theorem scBare : FnScope ["k"] ["k"] (defScope sBare) := ⟨rfl, rfl, rfl, by decide +kernel, rfl, by decide +kernel, by decide +kernel⟩
theorem ok_bare (F : FnD K "_law_bare" sBare fd) (T : Names K mg) (Er : Errs P K) : FnOk P w K mg base CX0 2 (He.ga K "_law_bare") fd ["k"] (spBare K) := by
  refine F.ok scBare (fun vs H Q E h => ?_) (fun cdv A outer s H vs Q E hr h => ?_)
  · obtain ⟨_, rfl, _⟩ := h
    rfl
  refine ⟨_, PSs.nox (pss_cons (ps_if (pt_cmpR op_eq (pv 0) pe_int (nomark _)) (pss_one (ps_ret (pe_err0 (Er.ek "NotFair" (by decide +kernel)) (Er.b0 "NotFair" (by decide +kernel)) rfl (T.gl "NotFair" (by decide +kernel))))) pss_nil)
    (pss_one (ps_ret (pe_ifExp (pt_cmpR op_eq (pv 0) pe_int (nomark _)) (pe_err0 (Er.ek "NotTelling" (by decide +kernel)) (Er.b0 "NotTelling" (by decide +kernel)) rfl (T.gl "NotTelling" (by decide +kernel))) (pe_err0 Er.e0 (Er.b0 "EndError" (by decide +kernel)) rfl (T.gl "EndError" (by decide +kernel))))))), ?_⟩
  obtain ⟨k, rfl, k0, k1, q⟩ := h
  refine rd_seq (rd_if ⟨_, rfl, rfl, _, rfl, ?_⟩)
  refine ite2 (fun h => ?_) (fun h => ?_)
  · obtain rfl : k = 0 := by simpa using h
    exact rd_ret fun e he => q e he
  have n0 : k ≠ 0 := by simpa using h
  refine rd_next ?_
  dsimp only
  refine rd_ret ⟨_, rfl, rfl, _, rfl, ?_⟩
  refine ite2 (fun h => ?_) (fun h => ?_)
  · obtain rfl : k = 1 := by simpa using h
    exact fun e he => q e he
  have n1 : k ≠ 1 := by simpa using h
  obtain rfl : k = 2 := by omega
  exact fun e he => q e he
end
end K01
set_option Elab.async false
set_option linter.all false
set_option maxRecDepth 100000
set_option maxHeartbeats 4000000
namespace K01
open PySem PySem.Spec PyProof.Rows L2
theorem rd_ss {te : TE} {i : Nat} {u : TS} {D : Ends} {σ : L2.St} {H : Hp} (h : te σ H fun x H1 => u D (σ.set i (some x)) H1) : tSeq (tAsg te (gName i)) u D σ H := h
/-- the answers to «is it of the j-th class?» -/
def bj (K : PySem.W.Frag) (D : Addr) (up : List Addr) (j : Nat) : V := .bl ((mroE D up).contains (.ref (ec K j)))
def cls11 (K : PySem.W.Frag) (D : Addr) (up : List Addr) : List V := (List.range 11).map (bj K D up)
def isx (X : Cx) (K : PySem.W.Frag) (j : Nat) : TE := tCB (rIsX X) (tCons (tVar 0) (tCons (tC (.ref (ec K j))) tNil))
def t_classes (X : Cx) (K : PySem.W.Frag) : TS := tSeq (tAsg (tLst (tCons (isx X K 0) (tCons (isx X K 1) (tCons (isx X K 2) tNil)))) (gName 1)) (tSeq (tAsg (tOp rCat (tVar 1) (tLst (tCons (isx X K 3) (tCons (isx X K 4) (tCons (isx X K 5) tNil))))) (gName 1)) (tSeq (tAsg (tOp rCat (tVar 1) (tLst (tCons (isx X K 6) (tCons (isx X K 7) (tCons (isx X K 8) tNil))))) (gName 1)) (tRet (tOp rCat (tVar 1) (tLst (tCons (isx X K 9) (tCons (isx X K 10) tNil)))))))
theorem isx_rd {X : Cx} {K : PySem.W.Frag} {j : Nat} {σ : L2.St} {H : Hp} {Q : VK} {a D : Addr} {up : List Addr} (hK : X.K = K) (e : σ[0]? = some (some (.ref a))) (m : MadeIn X H a D) (U : ErrK K D up) (ok : ClsOk K (.ref (ec K j))) (q : Q (bj K D up j) H) : isx X K j σ H Q :=
  ⟨_, e, a, D, up, _, _, rfl, .own _, m, by rw [hK]; exact U, by rw [hK]; exact ok, q⟩
theorem Errs.okc {P : Program} {K : PySem.W.Frag} (Er : Errs P K) (j : Nat) (hj : j < 11) : ClsOk K (.ref (ec K j)) := by
  have h : nmE.getD j "" ∈ nmE.take 11 := by
    have : ∀ j, j < 11 → nmE.getD j "" ∈ nmE.take 11 := by decide +kernel
    exact this j hj
  exact (Er.ek _ h).ok
section
variable {P : Program} {w : World} {K : PySem.W.Frag} {mg : Str → Option Value} {base : Heap} {fd : FuncData}
theorem pure_classes {X : Cx} (hK : X.K = K) (Er : Errs P K) {H : Hp} {Q : VK} {D0 : Ends} {a D : Addr} {up : List Addr} (m : MadeIn X H a D) (U : ErrK K D up) (hr : D0.rt = Q)
    (q : ∀ p H', Same H H' → H p = none → H' p = some (.lst (cls11 K D up)) → Q (.ref p) H') : t_classes X K D0 (start ["made", "some"] [.ref a]) H := by
  have o := Er.okc
  subst hr
  have z3 : 3 ≤ sizeLine := by rw [sizeLine_eq]; decide
  have z2 : 2 ≤ sizeLine := by rw [sizeLine_eq]; decide
  refine rd_ss ((isx_rd hK rfl m U (o 0 (by decide)) (isx_rd hK rfl m U (o 1 (by decide)) (isx_rd hK rfl m U (o 2 (by decide)) ⟨z3, fun p1 h1 => ?_⟩))))
  have s1 : Same H (upd H p1 (.lst [bj K D up 0, bj K D up 1, bj K D up 2])) := same_new h1
  have m1 := m.same s1
  refine rd_ss ((rd_op (rd_var rfl (isx_rd hK rfl m1 U (o 3 (by decide)) (isx_rd hK rfl m1 U (o 4 (by decide)) (isx_rd hK rfl m1 U (o 5 (by decide)) ⟨z3, fun p2 h2 => ?_⟩))))))
  have s2 : Same _ (upd (upd H p1 (.lst [bj K D up 0, bj K D up 1, bj K D up 2])) p2 (.lst [bj K D up 3, bj K D up 4, bj K D up 5])) := same_new h2
  refine ⟨p1, p2, _, _, rfl, rfl, s2 _ _ upd_same, upd_same, (by rw [sizeLine_eq]; show 6 ≤ 16777216; decide), fun p3 h3 => ?_⟩
  have s3 := same_new (o := .lst ([bj K D up 0, bj K D up 1, bj K D up 2] ++ [bj K D up 3, bj K D up 4, bj K D up 5])) h3
  have m3 := m.same ((s1.trans s2).trans s3)
  refine rd_ss ((rd_op (rd_var rfl (isx_rd hK rfl m3 U (o 6 (by decide)) (isx_rd hK rfl m3 U (o 7 (by decide)) (isx_rd hK rfl m3 U (o 8 (by decide)) ⟨z3, fun p4 h4 => ?_⟩))))))
  have s4 := same_new (o := .lst [bj K D up 6, bj K D up 7, bj K D up 8]) h4
  refine ⟨p3, p4, _, _, rfl, rfl, s4 _ _ upd_same, upd_same, (by rw [sizeLine_eq]; show 9 ≤ 16777216; decide), fun p5 h5 => ?_⟩
  have s5 := same_new (o := .lst ([bj K D up 0, bj K D up 1, bj K D up 2] ++ [bj K D up 3, bj K D up 4, bj K D up 5] ++ [bj K D up 6, bj K D up 7, bj K D up 8])) h5
  have m5 := m.same ((((s1.trans s2).trans s3).trans s4).trans s5)
  refine rd_ret (rd_op (rd_var rfl (isx_rd hK rfl m5 U (o 9 (by decide)) (isx_rd hK rfl m5 U (o 10 (by decide)) ⟨z2, fun p6 h6 => ?_⟩))))
  have s6 := same_new (o := .lst [bj K D up 9, bj K D up 10]) h6
  refine ⟨p5, p6, _, _, rfl, rfl, s6 _ _ upd_same, upd_same, (by rw [sizeLine_eq]; show 11 ≤ 16777216; decide), fun p7 h7 => ?_⟩
  have s7 := same_new (o := .lst ([bj K D up 0, bj K D up 1, bj K D up 2] ++ [bj K D up 3, bj K D up 4, bj K D up 5] ++ [bj K D up 6, bj K D up 7, bj K D up 8] ++ [bj K D up 9, bj K D up 10])) h7
  have sA := (((((s1.trans s2).trans s3).trans s4).trans s5).trans s6)
  exact q p7 _ (sA.trans s7) (sA.free h7) upd_same
/-- _law_classes(made), made a new error -/
def spClasses (K : PySem.W.Frag) : Sp := fun vs H Q _ => ∃ (a D : Addr) (d : Option Addr) (up : List Addr), vs = [.ref a] ∧ H a = some (exo a D d) ∧ (∀ dx, d = some dx → ∃ fs, H dx = some (.xd fs)) ∧ ErrK K D up ∧
  ∀ p H', Same H H' → H p = none → H' p = some (.lst (cls11 K D up)) → Q (.ref p) H'
/-- .. made the error that a suite holds -/
def spClassesP (K : PySem.W.Frag) : Addr × Obj → Sp := fun p vs H Q _ => ∃ (D : Addr) (d : Option Addr) (up : List Addr), vs = [.ref p.1] ∧ Zc (.ref D) d p.2 ∧ (∃ fv, p.2.data = .fields fv) ∧ (∀ dx, d = some dx → ∃ fs, H dx = some (.xd fs)) ∧ ErrK K D up ∧
  ∀ p H', Same H H' → H p = none → H' p = some (.lst (cls11 K D up)) → Q (.ref p) H'
theorem scClasses : FnScope ["made", "some"] ["made"] (defScope sClasses) := ⟨rfl, rfl, rfl, by decide +kernel, rfl, by decide +kernel, by decide +kernel⟩
theorem ok_classes (F : FnD K "_law_classes" sClasses fd) (T : Names K mg) (Er : Errs P K) : FnOk P w K mg base CX0 1 (He.ga K "_law_classes") fd ["made"] (spClasses K) := by
  refine F.ok scClasses (fun vs H Q E h => ?_) (fun cdv A outer s H vs Q E hr h => ?_)
  · obtain ⟨_, _, _, _, rfl, _⟩ := h
    rfl
  obtain ⟨a, D, d, up, rfl, ha, hd, U, q⟩ := h
  refine ⟨t_classes (cxOf CX0 P w K mg base ["made", "some"] "_law_classes" (defScope sClasses) (He.ga K "_law_classes") cdv A outer s H E).nox K, PSs.nox (pss_cons (ps_set (i := 1) scClasses.nd rfl (Or.inl rfl) (pe_lst (pa_cons (pe_callB (call_isX Er.g0) (by rfl) (T.fr "isinstance" (by decide +kernel)) (by decide +kernel) (pa_cons (pv 0) (pa_cons (pe_glob rfl (T.gl "InvalidPolynomial" (by decide +kernel)) rfl) pa_nil))) (pa_cons (pe_callB (call_isX Er.g0) (by rfl) (T.fr "isinstance" (by decide +kernel)) (by decide +kernel) (pa_cons (pv 0) (pa_cons (pe_glob rfl (T.gl "InvalidFraction" (by decide +kernel)) rfl) pa_nil))) (pa_cons (pe_callB (call_isX Er.g0) (by rfl) (T.fr "isinstance" (by decide +kernel)) (by decide +kernel) (pa_cons (pv 0) (pa_cons (pe_glob rfl (T.gl "InvalidTeller" (by decide +kernel)) rfl) pa_nil))) pa_nil)))))
    (pss_cons (ps_set (i := 1) scClasses.nd rfl (Or.inl rfl) (pe_op op_cat (pv 1) (pe_lst (pa_cons (pe_callB (call_isX Er.g0) (by rfl) (T.fr "isinstance" (by decide +kernel)) (by decide +kernel) (pa_cons (pv 0) (pa_cons (pe_glob rfl (T.gl "InvalidRow" (by decide +kernel)) rfl) pa_nil))) (pa_cons (pe_callB (call_isX Er.g0) (by rfl) (T.fr "isinstance" (by decide +kernel)) (by decide +kernel) (pa_cons (pv 0) (pa_cons (pe_glob rfl (T.gl "InvalidNumber" (by decide +kernel)) rfl) pa_nil))) (pa_cons (pe_callB (call_isX Er.g0) (by rfl) (T.fr "isinstance" (by decide +kernel)) (by decide +kernel) (pa_cons (pv 0) (pa_cons (pe_glob rfl (T.gl "InvalidNumbers" (by decide +kernel)) rfl) pa_nil))) pa_nil))))))
    (pss_cons (ps_set (i := 1) scClasses.nd rfl (Or.inl rfl) (pe_op op_cat (pv 1) (pe_lst (pa_cons (pe_callB (call_isX Er.g0) (by rfl) (T.fr "isinstance" (by decide +kernel)) (by decide +kernel) (pa_cons (pv 0) (pa_cons (pe_glob rfl (T.gl "InvalidKinds" (by decide +kernel)) rfl) pa_nil))) (pa_cons (pe_callB (call_isX Er.g0) (by rfl) (T.fr "isinstance" (by decide +kernel)) (by decide +kernel) (pa_cons (pv 0) (pa_cons (pe_glob rfl (T.gl "InvalidSteps" (by decide +kernel)) rfl) pa_nil))) (pa_cons (pe_callB (call_isX Er.g0) (by rfl) (T.fr "isinstance" (by decide +kernel)) (by decide +kernel) (pa_cons (pv 0) (pa_cons (pe_glob rfl (T.gl "InvalidWeights" (by decide +kernel)) rfl) pa_nil))) pa_nil))))))
    (pss_one (ps_ret (pe_op op_cat (pv 1) (pe_lst (pa_cons (pe_callB (call_isX Er.g0) (by rfl) (T.fr "isinstance" (by decide +kernel)) (by decide +kernel) (pa_cons (pv 0) (pa_cons (pe_glob rfl (T.gl "NotFair" (by decide +kernel)) rfl) pa_nil))) (pa_cons (pe_callB (call_isX Er.g0) (by rfl) (T.fr "isinstance" (by decide +kernel)) (by decide +kernel) (pa_cons (pv 0) (pa_cons (pe_glob rfl (T.gl "NotTelling" (by decide +kernel)) rfl) pa_nil))) pa_nil))))))))), ?_⟩
  exact pure_classes rfl Er ⟨d, hd, .inl ha⟩ U rfl q
theorem okP_classes (F : FnD K "_law_classes" sClasses fd) (T : Names K mg) (Er : Errs P K) : FnP P w K mg base 1 (He.ga K "_law_classes") fd ["made"] (spClassesP K) := by
  refine F.okP scClasses (fun p vs H Q E h => ?_) (fun cdv A outer s H vs Q p hr h => ?_)
  · obtain ⟨_, _, _, rfl, _⟩ := h
    rfl
  obtain ⟨D, d, up, rfl, hz, hf, hd, U, q⟩ := h
  refine ⟨t_classes (L2H.cxH CX0 P w K mg base ["made", "some"] "_law_classes" (defScope sClasses) (He.ga K "_law_classes") cdv A outer s H E0 p).nox K, (pss_cons (ps_set (i := 1) scClasses.nd rfl (Or.inl rfl) (pe_lst (pa_cons (pe_callB (call_isX Er.g0) (by rfl) (T.fr "isinstance" (by decide +kernel)) (by decide +kernel) (pa_cons (pv 0) (pa_cons (pe_glob rfl (T.gl "InvalidPolynomial" (by decide +kernel)) rfl) pa_nil))) (pa_cons (pe_callB (call_isX Er.g0) (by rfl) (T.fr "isinstance" (by decide +kernel)) (by decide +kernel) (pa_cons (pv 0) (pa_cons (pe_glob rfl (T.gl "InvalidFraction" (by decide +kernel)) rfl) pa_nil))) (pa_cons (pe_callB (call_isX Er.g0) (by rfl) (T.fr "isinstance" (by decide +kernel)) (by decide +kernel) (pa_cons (pv 0) (pa_cons (pe_glob rfl (T.gl "InvalidTeller" (by decide +kernel)) rfl) pa_nil))) pa_nil)))))
    (pss_cons (ps_set (i := 1) scClasses.nd rfl (Or.inl rfl) (pe_op op_cat (pv 1) (pe_lst (pa_cons (pe_callB (call_isX Er.g0) (by rfl) (T.fr "isinstance" (by decide +kernel)) (by decide +kernel) (pa_cons (pv 0) (pa_cons (pe_glob rfl (T.gl "InvalidRow" (by decide +kernel)) rfl) pa_nil))) (pa_cons (pe_callB (call_isX Er.g0) (by rfl) (T.fr "isinstance" (by decide +kernel)) (by decide +kernel) (pa_cons (pv 0) (pa_cons (pe_glob rfl (T.gl "InvalidNumber" (by decide +kernel)) rfl) pa_nil))) (pa_cons (pe_callB (call_isX Er.g0) (by rfl) (T.fr "isinstance" (by decide +kernel)) (by decide +kernel) (pa_cons (pv 0) (pa_cons (pe_glob rfl (T.gl "InvalidNumbers" (by decide +kernel)) rfl) pa_nil))) pa_nil))))))
    (pss_cons (ps_set (i := 1) scClasses.nd rfl (Or.inl rfl) (pe_op op_cat (pv 1) (pe_lst (pa_cons (pe_callB (call_isX Er.g0) (by rfl) (T.fr "isinstance" (by decide +kernel)) (by decide +kernel) (pa_cons (pv 0) (pa_cons (pe_glob rfl (T.gl "InvalidKinds" (by decide +kernel)) rfl) pa_nil))) (pa_cons (pe_callB (call_isX Er.g0) (by rfl) (T.fr "isinstance" (by decide +kernel)) (by decide +kernel) (pa_cons (pv 0) (pa_cons (pe_glob rfl (T.gl "InvalidSteps" (by decide +kernel)) rfl) pa_nil))) (pa_cons (pe_callB (call_isX Er.g0) (by rfl) (T.fr "isinstance" (by decide +kernel)) (by decide +kernel) (pa_cons (pv 0) (pa_cons (pe_glob rfl (T.gl "InvalidWeights" (by decide +kernel)) rfl) pa_nil))) pa_nil))))))
    (pss_one (ps_ret (pe_op op_cat (pv 1) (pe_lst (pa_cons (pe_callB (call_isX Er.g0) (by rfl) (T.fr "isinstance" (by decide +kernel)) (by decide +kernel) (pa_cons (pv 0) (pa_cons (pe_glob rfl (T.gl "NotFair" (by decide +kernel)) rfl) pa_nil))) (pa_cons (pe_callB (call_isX Er.g0) (by rfl) (T.fr "isinstance" (by decide +kernel)) (by decide +kernel) (pa_cons (pv 0) (pa_cons (pe_glob rfl (T.gl "NotTelling" (by decide +kernel)) rfl) pa_nil))) pa_nil))))))))), ?_⟩
  exact pure_classes rfl Er ⟨d, hd, .inr ⟨p.2, by show (p.1, p.2) ∈ [p]; simp, hz, hf⟩⟩ U rfl q
end
end K01
set_option Elab.async false
set_option linter.all false
set_option maxRecDepth 100000
set_option maxHeartbeats 4000000
namespace K01
open PySem PySem.Spec PyProof.Rows L2
theorem rd_yes {σ : L2.St} {H : Hp} {Q : Bool → Hp → Prop} (h : Q true H) : tYes σ H Q := h
def upE (K : PySem.W.Frag) (j : Nat) : List Addr := if j < 11 then [He.ga K "EndError"] else []
theorem Errs.at {P : Program} {K : PySem.W.Frag} (Er : Errs P K) {j : Nat} (hj : j < 12) : ErrK K (ec K j) (upE K j) := by
  by_cases h : j < 11
  · have m : ∀ j, j < 11 → nmE.getD j "" ∈ nmE.take 11 := by decide +kernel
    have e : upE K j = [He.ga K "EndError"] := if_pos h
    rw [e]
    exact Er.ek _ (m j h)
  · obtain rfl : j = 11 := by omega
    exact Er.e0
theorem ec_at {K : PySem.W.Frag} {j : Nat} (hj : j < 12) : (nmE.map (He.ga K))[j]? = some (ec K j) := by
  have l : nmE.length = 12 := by decide +kernel
  rw [List.getElem?_map, List.getElem?_eq_getElem (by omega)]
  show some (He.ga K nmE[j]) = some (He.ga K (nmE.getD j ""))
  rw [List.getD_eq_getElem?_getD, List.getElem?_eq_getElem (by omega)]
  rfl
theorem Errs.inj {P : Program} {K : PySem.W.Frag} (Er : Errs P K) {i j : Nat} (hi : i < 12) (hj : j < 12) (e : ec K i = ec K j) : i = j :=
  L2.nd_ix Er.nd (ec_at hi) (by rw [e]; exact ec_at hj)
theorem Errs.is {P : Program} {K : PySem.W.Frag} (Er : Errs P K) {i j : Nat} (hi : i < 11) (hj : j < 12) : (mroE (ec K j) (upE K j)).contains (.ref (ec K i)) = decide (i = j) := by
  by_cases z : i = j
  · subst z
    rw [decide_eq_true rfl]
    simp [mroE]
  · rw [decide_eq_false z]
    refine Bool.eq_false_iff.mpr fun h => ?_
    have m := List.contains_iff_mem.mp h
    unfold mroE at m
    rcases List.mem_cons.mp m with q | q
    · exact z (Er.inj (by omega) hj (Value.ref.inj q))
    · rcases List.mem_append.mp q with q | q
      · obtain ⟨x, hx, e⟩ := List.mem_map.mp q
        unfold upE at hx
        split at hx
        · have hx' : x = He.ga K "EndError" := by simpa using hx
          have := Er.inj (i := i) (j := 11) (by omega) (by decide) (show ec K i = ec K 11 from (Value.ref.inj e).symm.trans hx')
          omega
        · cases hx
      · simp at q
theorem mroE_end {P : Program} {K : PySem.W.Frag} {j : Nat} : (mroE (ec K j) (upE K j)).contains (.ref (He.ga K "EndError")) = true ∨ 12 ≤ j := by
  by_cases h : j < 11
  · left
    unfold upE
    rw [if_pos h]
    simp [mroE]
  · by_cases h2 : j = 11
    · left
      subst h2
      have e : ec K 11 = He.ga K "EndError" := rfl
      simp [mroE, e]
    · right
      omega
theorem mroE_ty {C : Addr} {up : List Addr} {n : String} : (mroE C up).contains (.type n) = PySem.HandSPX.veTail.contains (.type n) := by
  unfold mroE
  rw [List.contains_cons, up_contains n up]
  rfl
/-- the truth list of a number -/
def one11 (j : Nat) : List PyData := (List.range 11).map fun i => .bool (decide (i = j))
theorem dp_bools {K : PySem.W.Frag} {H : Hp} (f : Nat → Bool) : ∀ l : List Nat, DpAll K H (l.map fun i => .bl (f i)) (l.map fun i => .bool (f i))
  | [] => .nil
  | a :: l => .cons (.bl _) (dp_bools f l)
/-- _law_stands(made, k) -/
def spStands (K : PySem.W.Frag) : Sp := fun vs H Q _ => ∃ (a : Addr) (j : Nat) (d : Option Addr), vs = [.ref a, .int j] ∧ j < 12 ∧ H a = some (exo a (ec K j) d) ∧ (∀ dx, d = some dx → ∃ fs, H dx = some (.xd fs)) ∧ ∀ H', Same H H' → Q (.bl true) H'
section
variable {P : Program} {w : World} {K : PySem.W.Frag} {mg : Str → Option Value} {base : Heap} {fd : FuncData}
theorem scStands : FnScope ["made", "k", "j"] ["made", "k"] (defScope sStands) := ⟨rfl, rfl, rfl, by decide +kernel, rfl, by decide +kernel, by decide +kernel⟩
theorem ok_stands {fdC : FuncData} (F : FnD K "_law_stands" sStands fd) (T : Names K mg) (Er : Errs P K) (FC : FnD K "_law_classes" sClasses fdC) : FnOk P w K mg base CX0 2 (He.ga K "_law_stands") fd ["made", "k"] (spStands K) := by
  refine F.ok scStands (fun vs H Q E h => ?_) (fun cdv A outer s H vs Q E hr h => ?_)
  · obtain ⟨_, _, _, rfl, _⟩ := h
    rfl
  have gC := T.gl "_law_classes" (by decide +kernel)
  have bC : Binds K fdC ["made"] [] := FC.bindsN fun _ _ _ _ _ _ us hl => match us, hl with | [_], _ => rfl
  have GC : FnOk P w K mg base CX0 1 (He.ga K "_law_classes") fdC ["made"] (spClasses K) := ok_classes FC T Er
  refine ⟨_, PSs.nox (pss_cons (ps_if (pt_cmpR (op_neD hr.units) (pe_call GC hr rfl gC FC.kp bC .nil pass0 (pa_cons (pv 0) pa_nil)) (pe_lc (own := [("j", 2)]) (g := gName 2) (tt := tYes) (by rfl) scStands.nd (pi_range1 rfl (T.fr "range" (by decide +kernel)) (pa_cons pe_int pa_nil)) (blkOk_by (own := [("j", 2)]) (N := ["made", "k", "j"]) (sc := defScope sStands) (by decide +kernel)) (fun _ _ _ _ _ => pg_name (i := 2) scStands.nd rfl (Or.inl rfl)) (fun _ _ _ _ _ => pts_nil) (fun _ _ _ _ _ => pe_cmpR op_eq (pv 2) (pv 1) (nomark _))) (nomark _)) (pss_one (ps_ret pe_bl)) pss_nil)
    (pss_cons (ps_if (PW.pt (pw_or (pt_not (pt_val (pe_callB (call_isX Er.g0) (by rfl) (T.fr "isinstance" (by decide +kernel)) (by decide +kernel) (pa_cons (pv 0) (pa_cons (pe_glob (v := .ref (He.ga K "EndError")) rfl (T.gl "EndError" (by decide +kernel)) rfl) pa_nil))))) (pw_or1 (pt_not (pt_val (pe_callB (call_isX Er.g0) (by rfl) (T.fr "isinstance" (by decide +kernel)) (by decide +kernel) (pa_cons (pv 0) (pa_cons (pe_bltn (v := .ty "ValueError") (by rfl) (T.fr "ValueError" (by decide +kernel)) (by decide +kernel) rfl) pa_nil)))))))) (pss_one (ps_ret pe_bl)) pss_nil)
    (pss_cons (ps_if (PW.pt (pw_or (pt_val (pe_callB (call_isX Er.g0) (by rfl) (T.fr "isinstance" (by decide +kernel)) (by decide +kernel) (pa_cons (pv 0) (pa_cons (pe_bltn (v := .ty "LookupError") (by rfl) (T.fr "LookupError" (by decide +kernel)) (by decide +kernel) rfl) pa_nil)))) (pw_or (pt_val (pe_callB (call_isX Er.g0) (by rfl) (T.fr "isinstance" (by decide +kernel)) (by decide +kernel) (pa_cons (pv 0) (pa_cons (pe_bltn (v := .ty "ArithmeticError") (by rfl) (T.fr "ArithmeticError" (by decide +kernel)) (by decide +kernel) rfl) pa_nil)))) (pw_or1 (pt_val (pe_callB (call_isX Er.g0) (by rfl) (T.fr "isinstance" (by decide +kernel)) (by decide +kernel) (pa_cons (pv 0) (pa_cons (pe_bltn (v := .ty "TypeError") (by rfl) (T.fr "TypeError" (by decide +kernel)) (by decide +kernel) rfl) pa_nil)))))))) (pss_one (ps_ret pe_bl)) pss_nil)
    (pss_one (ps_ret (pe_and (pe_not (pe_callB (call_isX Er.g0) (by rfl) (T.fr "isinstance" (by decide +kernel)) (by decide +kernel) (pa_cons (pv 0) (pa_cons (pe_bltn (v := .ty "RuntimeError") (by rfl) (T.fr "RuntimeError" (by decide +kernel)) (by decide +kernel) rfl) pa_nil)))) (pe_one (pe_not (pe_callB (call_isX Er.g0) (by rfl) (T.fr "isinstance" (by decide +kernel)) (by decide +kernel) (pa_cons (pv 0) (pa_cons (pe_bltn (v := .ty "AttributeError") (by rfl) (T.fr "AttributeError" (by decide +kernel)) (by decide +kernel) rfl) pa_nil))))))))))), ?_⟩
  obtain ⟨a, j, d, rfl, hj, ha, hd, q⟩ := h
  have U := Er.at hj
  refine rd_seq (rd_if ⟨_, rfl, ?_⟩)
  refine ⟨a, ec K j, d, upE K j, rfl, ha, hd, U, fun p1 H1 s1 n1 e1 => ?_⟩
  -- [j == k for j in range(11)]
  let fj : Nat → Bool := fun i => decide (V.int (0 + (i : Int)) = V.int (j : Int))
  have fjs : ∀ i, fj i = decide (i = j) := fun i => by
    show decide (V.int (0 + (i : Int)) = V.int (j : Int)) = decide (i = j)
    by_cases z : i = j
    · rw [decide_eq_true z, decide_eq_true (by rw [z]; simp)]
    · rw [decide_eq_false z, decide_eq_false (fun y => z (by have := V.int.inj y; omega))]
  refine ⟨11, rfl, by decide, by decide, fun L hL => lc_range (lo := 0) (n := 11) (fun i H' => H' = upd H1 L (.lst ((List.range i).map fun m => .bl (fj m)))) rfl ?_ ?_⟩
  · rintro i H' hi rfl
    refine ⟨rfl, rd_yes ?_⟩
    rw [if_pos rfl]
    refine ⟨_, rfl, _, rfl, rfl, _, upd_same, ?_, ?_⟩
    · rw [List.length_map, List.length_range, sizeLine_eq]
      omega
    · show upd (upd H1 L _) L _ = _
      rw [upd_upd, List.range_succ, List.map_append]
      rfl
  rintro H2 rfl
  have s2 : Same H1 (upd H1 L (.lst ((List.range 11).map fun m => .bl (fj m)))) := same_new hL
  have sS : Same H (upd H1 L (.lst ((List.range 11).map fun m => .bl (fj m)))) := s1.trans s2
  have m : MadeIn (cxOf CX0 P w K mg base ["made", "k", "j"] "_law_stands" (defScope sStands) (He.ga K "_law_stands") cdv A outer s H E).nox (upd H1 L (.lst ((List.range 11).map fun m => .bl (fj m)))) a (ec K j) := MadeIn.same ⟨d, hd, .inl ha⟩ sS
  have q' := q _ sS
  have v1 : Dp K (upd H1 L (.lst ((List.range 11).map fun m => .bl (fj m)))) (.ref p1) (.list (one11 j)) := by
    have e : one11 j = (List.range 11).map fun i => PyData.bool ((mroE (ec K j) (upE K j)).contains (.ref (ec K i))) := List.map_congr_left fun i hi => by rw [Er.is (List.mem_range.mp hi) hj]
    rw [e]
    exact .lst (.of (s2 _ _ e1)) (dp_bools _ _)
  have v2 : Dp K (upd H1 L (.lst ((List.range 11).map fun m => .bl (fj m)))) (.ref L) (.list (one11 j)) := by
    have e : one11 j = (List.range 11).map fun i => PyData.bool (fj i) := List.map_congr_left fun i hi => by rw [fjs]
    rw [e]
    exact .lst (.of upd_same) (dp_bools _ _)
  have sh : SeqAt.shaped (.list (one11 j)) = true := (show ∀ j, j < 12 → SeqAt.shaped (.list (one11 j)) = true by decide +kernel) j hj
  refine ⟨_, _, v1, v2, sh, sh, _, rfl, ?_⟩
  rw [SeqAt.eqv_refl _ (SeqAt.canLay_of_shaped sh)]
  refine iteF (rd_next ?_)
  dsimp only
  have TI : ∀ n : String, PySem.W.kitMeta n = true → ClsOk K (.type n) := fun n h => h
  have cE : ClsOk K (.ref (He.ga K "EndError")) := Er.e0.ok
  have tE : (mroE (ec K j) (upE K j)).contains (.ref (He.ga K "EndError")) = true := (mroE_end (P := P)).resolve_right (by omega)
  -- not isinstance(made, EndError) or not isinstance(made, ValueError)
  refine rd_seq (rd_if ⟨_, rfl, a, _, _, _, _, rfl, .own _, m, U, cE, _, rfl, ?_⟩)
  rw [tE]
  refine iteF ⟨_, rfl, a, _, _, _, _, rfl, .ty _, m, U, TI _ (by decide +kernel), _, rfl, ?_⟩
  rw [mroE_ty]
  refine iteF (rd_next ?_)
  dsimp only
  refine rd_seq (rd_if ⟨_, rfl, a, _, _, _, _, rfl, .ty _, m, U, TI _ (by decide +kernel), _, rfl, ?_⟩)
  rw [mroE_ty]
  refine iteF ⟨_, rfl, a, _, _, _, _, rfl, .ty _, m, U, TI _ (by decide +kernel), _, rfl, ?_⟩
  rw [mroE_ty]
  refine iteF ⟨_, rfl, a, _, _, _, _, rfl, .ty _, m, U, TI _ (by decide +kernel), _, rfl, ?_⟩
  rw [mroE_ty]
  refine iteF (rd_next ?_)
  dsimp only
  refine rd_ret ⟨_, rfl, a, _, _, _, _, rfl, .ty _, m, U, TI _ (by decide +kernel), _, rfl, ?_⟩
  rw [mroE_ty]
  refine ⟨_, rfl, iteT ⟨_, rfl, a, _, _, _, _, rfl, .ty _, m, U, TI _ (by decide +kernel), _, rfl, ?_⟩⟩
  rw [mroE_ty]
  exact q'
end
end K01
set_option Elab.async false
set_option linter.all false
set_option maxRecDepth 100000
set_option maxHeartbeats 4000000
namespace K01
open PySem PySem.Spec PyProof.Rows L2
theorem pe_imp {X : Cx} {e : Expr} {t t' : TE} (h : PE X e t) (i : ∀ σ H Q, t' σ H Q → t σ H Q) : PE X e t' := ⟨fun pins s σ H Q I q => h.run pins s σ H Q I (i σ H Q q)⟩
/-- which class the k-th error is of -/
def placeOf (k : Int) : Nat := if k < 5 then 0 else if k < 8 then 8 else (k + 1).toNat
def spCaught (K : PySem.W.Frag) : Sp := fun vs H Q _ => ∃ (k : Int) (v : V), vs = [.int k, v] ∧ 0 ≤ k ∧ k < 10 ∧ ∀ p H', Same H H' → H' p = some (.lst (cls11 K (ec K (placeOf k)) (upE K (placeOf k)))) → Q (.ref p) H'
/-- _law_classes(e) in the suite -/
def tSuite (K : PySem.W.Frag) : Addr → Value → Option Addr → TS := fun a cls d => tRet fun σ H Q => σ[2]? = some (some (.ref a)) ∧ ∃ (D : Addr) (up : List Addr), cls = .ref D ∧ (∀ dx, d = some dx → ∃ fs, H dx = some (.xd fs)) ∧ ErrK K D up ∧
  ∀ p H', Same H H' → H p = none → H' p = some (.lst (cls11 K D up)) → Q (.ref p) H'
def tRs (C : Addr) (f : Str) (W : WX) : TS := fun _ σ H => tMkE C f (tCons (tVar 1) tNil) σ H fun cls d H' => W cls d σ H'
def tRs0 (C : Addr) (W : WX) : TS := fun _ σ H => tMkE0 C σ H fun cls d H' => W cls d σ H'
def tBody (K : PySem.W.Frag) (W : WX) : TS :=
  tSeq (tIfS (tTest (tOp (rI0 fun i j => .bl (decide (i < j))) (tVar 0) (tC (.int 5)))) (tRs (He.ga K "InvalidPolynomial") "given" W) tNext)
  (tSeq (tIfS (tTest (tOp (rI0 fun i j => .bl (decide (i < j))) (tVar 0) (tC (.int 8)))) (tRs (He.ga K "InvalidWeights") "index" W) tNext)
  (tSeq (tIfS (tTest (tOp rEq (tVar 0) (tC (.int 8)))) (tRs0 (He.ga K "NotFair") W) tNext) (tRs0 (He.ga K "NotTelling") W)))
section
variable {P : Program} {w : World} {K : PySem.W.Frag} {mg : Str → Option Value} {base : Heap} {fd : FuncData}
theorem scCaught : FnScope ["k", "thing", "e"] ["k", "thing"] (defScope sCaught) := ⟨rfl, rfl, rfl, by decide +kernel, rfl, by decide +kernel, by decide +kernel⟩
theorem ok_caught {fdC : FuncData} (F : FnD K "_law_caught" sCaught fd) (T : Names K mg) (Er : Errs P K) (FC : FnD K "_law_classes" sClasses fdC) : FnOk P w K mg base CX0 2 (He.ga K "_law_caught") fd ["k", "thing"] (spCaught K) := by
  refine F.ok scCaught (fun vs H Q E h => ?_) (fun cdv A outer s H vs Q E hr h => ?_)
  · obtain ⟨_, _, rfl, _⟩ := h
    rfl
  have gC := T.gl "_law_classes" (by decide +kernel)
  have gE := T.gl "EndError" (by decide +kernel)
  have hs := T.fr "super" (by decide +kernel)
  have bC : Binds K fdC ["made"] [] := FC.bindsN fun _ _ _ _ _ _ us hl => match us, hl with | [_], _ => rfl
  have GC : FnP P w K mg base 1 (He.ga K "_law_classes") fdC ["made"] (spClassesP K) := okP_classes FC T Er
  have eP := Er.ek "InvalidPolynomial" (by decide +kernel)
  have eW := Er.ek "InvalidWeights" (by decide +kernel)
  have eF := Er.ek "NotFair" (by decide +kernel)
  have eT := Er.ek "NotTelling" (by decide +kernel)
  refine ⟨_, PSs.nox (pss_one (ps_try_as (i := 2) (tb := tBody K) (ts := tSuite K) (Wout := fun _ _ _ _ => False) rfl rfl scCaught.nd rfl rfl ⟨rfl, by decide, Or.inl gE⟩ takes0
    (fun W pn xe tk _ => pss_cons (ps_if (pt_cmpR op_lt (pv 0) pe_int (nomark _)) (pss_one (ps_raise rfl tk (pmk_err (Er.gv "InvalidPolynomial" (by decide +kernel)) eP (.inl rfl) hs hr rfl (T.gl "InvalidPolynomial" (by decide +kernel)) (pa_cons (pv 1) pa_nil)))) pss_nil)
      (pss_cons (ps_if (pt_cmpR op_lt (pv 0) pe_int (nomark _)) (pss_one (ps_raise rfl tk (pmk_errK (Er.ix "InvalidWeights" (by decide +kernel)) eW (.inr rfl) hs hr rfl (T.gl "InvalidWeights" (by decide +kernel)) (pk_cons (pv 1) pk_nil)))) pss_nil)
      (pss_cons (ps_if (pt_cmpR op_eq (pv 0) pe_int (nomark _)) (pss_one (ps_raise rfl tk (pmk_err0 eF (Er.b0 "NotFair" (by decide +kernel)) rfl (T.gl "NotFair" (by decide +kernel))))) pss_nil)
      (pss_one (ps_raise rfl tk (pmk_err0 eT (Er.b0 "NotTelling" (by decide +kernel)) rfl (T.gl "NotTelling" (by decide +kernel))))))))
    (fun a oe cls d pn hz hf => pss_one (ps_ret (pe_imp (pe_callP (p := (a, oe)) GC ⟨hr.dp, hr.un⟩ List.mem_cons_self rfl gC FC.kp bC (pa_cons (pv 2) pa_nil)) ?_))))), ?_⟩
  · rintro σ H Q ⟨e, D, up, rfl, hd, U, q⟩
    exact ⟨_, e, D, d, up, rfl, hz, hf, hd, U, q⟩
  obtain ⟨k, v, rfl, k0, k1, q⟩ := h
  have fin : ∀ (j : Nat) (d : Option Addr) (H' : Hp) (D : Ends), j < 11 → j = placeOf k → Same H H' → (∀ dx, d = some dx → ∃ fs, H' dx = some (.xd fs)) → D.rt = Q →
      wAs K (.ref (He.ga K "EndError")) 2 (tSuite K) (fun _ _ _ _ => False) D (.ref (ec K j)) d [some (.int k), some v, none] H' := fun j d H' D hj ej s1 hd er => by
    have U := Er.at (j := j) (by omega)
    have tE : (mroE (ec K j) (upE K j)).contains (.ref (He.ga K "EndError")) = true := (mroE_end (P := P)).resolve_right (by omega)
    refine ⟨true, by rw [U.exm Er.e0, tE], fun _ a na => ?_, fun z => by cases z⟩
    refine rd_ret ⟨rfl, ec K j, upE K j, rfl, hd, U, fun p H2 s2 _ e2 => ?_⟩
    show D.rt _ _
    rw [er]
    refine q p H2 (s1.trans s2) ?_
    rw [← ej]
    exact e2
  have dx1 : ∀ {H : Hp} {d : Addr} {f : Str}, ∀ dx, some d = some dx → ∃ fs, upd H d (.xd [(f, v)]) dx = some (.xd fs) := fun {H d f} dx e => by
    cases e
    exact ⟨_, upd_same⟩
  show tBody K _ _ _ _
  unfold tBody
  refine rd_seq (rd_if ⟨_, rfl, _, _, rfl, rfl, _, rfl, ?_⟩)
  refine ite2 (fun h => ?_) (fun h => ?_)
  · have h' : k < 5 := of_decide_eq_true h
    exact ⟨_, rfl, _, rfl, fun d hd => fin 0 (some d) _ _ (by decide) (by unfold placeOf; rw [if_pos h']) (same_new hd) dx1 rfl⟩
  have h5 : ¬ k < 5 := fun z => h (decide_eq_true z)
  refine rd_next ?_
  dsimp only
  refine rd_seq (rd_if ⟨_, rfl, _, _, rfl, rfl, _, rfl, ?_⟩)
  refine ite2 (fun h => ?_) (fun h => ?_)
  · have h' : k < 8 := of_decide_eq_true h
    exact ⟨_, rfl, _, rfl, fun d hd => fin 8 (some d) _ _ (by decide) (by unfold placeOf; rw [if_neg h5, if_pos h']) (same_new hd) dx1 rfl⟩
  have h8 : ¬ k < 8 := fun z => h (decide_eq_true z)
  refine rd_next ?_
  dsimp only
  refine rd_seq (rd_if ⟨_, rfl, rfl, _, rfl, ?_⟩)
  refine ite2 (fun h => ?_) (fun h => ?_)
  · obtain rfl : k = 8 := by simpa using h
    exact fin 9 none _ _ (by decide) (by decide) (Same.refl H) (fun dx z => by cases z) rfl
  have n8 : k ≠ 8 := by simpa using h
  obtain rfl : k = 9 := by omega
  refine rd_next ?_
  dsimp only
  exact fin 10 none _ _ (by decide) (by decide) (Same.refl H) (fun dx z => by cases z) rfl
end
end K01
set_option Elab.async false
set_option linter.all false
set_option maxRecDepth 100000
set_option maxHeartbeats 8000000
namespace K01
open PySem PySem.Spec PyProof.Rows L2
theorem rd_gn {i : Nat} {v : V} {σ : L2.St} {H : Hp} {Q : L2.St → Hp → Prop} (h : Q (σ.set i (some v)) H) : gName i v σ H Q := h
/-- one, two = (make(k, thing, False), make(k, thing, True)); if not stands(one, kk) or not stands(two, kk) or repr([one.f, two.f]) != due: return False -/
abbrev tMk2 (K : PySem.W.Frag) (lo n : Nat) (f : Str) (kk : TE) : TS :=
  tSeq (tPar 6 7 (tCons (tCall (spMk K lo n f) [] E0 (tCons (tVar 5) (tCons (tVar 3) (tCons (tC (.bl false)) tNil)))) (tCons (tCall (spMk K lo n f) [] E0 (tCons (tVar 5) (tCons (tVar 3) (tCons (tC (.bl true)) tNil)))) tNil)))
    (tIfS (tOr (tNot (tB (tCall (spStands K) [] E0 (tCons (tVar 6) (tCons kk tNil))))) (tOr (tNot (tB (tCall (spStands K) [] E0 (tCons (tVar 7) (tCons kk tNil))))) (tTest (tOp rNe (tCB rReprD (tCons (tLstS (tCons (tErrF K (tVar 6) f) (tCons (tErrF K (tVar 7) f) tNil))) tNil)) (tVar 4)))))
      (tRet (tC (.bl false))) tNext)
theorem fine_parts {d : PyData} (h : fine d = true) : PyData.showable (.list [d, d]) = true ∧ PyData.depth (.list [d, d]) ≤ 20 ∧ (PyData.shown (.list [d, d])).length ≤ 1000 := by
  unfold fine at h
  rw [Bool.and_eq_true, Bool.and_eq_true] at h
  exact ⟨h.1.1, of_decide_eq_true h.1.2, of_decide_eq_true h.2⟩
section
variable {P : Program} {K : PySem.W.Frag}
theorem in_ok (Er : Errs P K) {lo n : Nat} {f : Str} {kk : TE} {D : Ends} {H : Hp} {o0 o1 o2 o5 o6 o7 o8 o9 o10 : Option V} {v : V} {d : PyData} {N : Addr → Prop} (hv : Dq N H v d) (hf : fine d = true) (hl : lo + n ≤ 11) (hn : n < 100)
    (hkk : ∀ (i : Nat) (σ : L2.St) (H : Hp) (Q : VK), i < n → σ[5]? = some (some (.int (0 + (i : Int)))) → Q (.int ((lo + i : Nat) : Int)) H → kk σ H Q)
    (hno : ∀ i, i < n → PySem.W.findIn K (.ref (ec K (lo + i))) f = some none)
    (q : ∀ x5 x6 x7 H', Same H H' → D.nx [o0, o1, o2, some v, some (.str (PyData.shown (.list [d, d]))), x5, x6, x7, o8, o9, o10] H') :
    tFor (iRng1 (tCons (tC (.int (n : Int))) tNil)) (gName 5) (tMk2 K lo n f kk) D [o0, o1, o2, some v, some (.str (PyData.shown (.list [d, d]))), o5, o6, o7, o8, o9, o10] H := by
  obtain ⟨f1, f2, f3⟩ := fine_parts hf
  refine ⟨(n : Int), rfl, by omega, by omega, ?_⟩
  rw [Int.toNat_natCast]
  refine for_range (lo := 0) (n := n) (fun i σ H' => Same H H' ∧ ∃ x5 x6 x7, σ = [o0, o1, o2, some v, some (.str (PyData.shown (.list [d, d]))), x5, x6, x7, o8, o9, o10]) ⟨Same.refl H, _, _, _, rfl⟩ ?_ ?_
  · rintro i σ H1 hi ⟨s1, x5, x6, x7, rfl⟩
    have ei : ((0 : Int) + (i : Int)).toNat = i := by omega
    have U := Er.at (j := lo + i) (by omega)
    refine rd_gn (rd_seq ⟨_, rfl, _, rfl, 0 + (i : Int), v, false, rfl, by omega, by omega, fun e1 d1 h1 h2 ne1 => ?_⟩)
    have sa : Same H1 (upd (upd H1 d1 (.xd [(f, v)])) e1 (exo e1 (ec K (lo + ((0 : Int) + (i : Int)).toNat)) (some d1))) := (same_new h2).trans (same_new (by rw [upd_ne ne1.symm]; exact h1))
    have xa : upd (upd H1 d1 (.xd [(f, v)])) e1 (exo e1 (ec K (lo + ((0 : Int) + (i : Int)).toNat)) (some d1)) e1 = some (exo e1 (ec K (lo + i)) (some d1)) := by rw [upd_same, ei]
    have da : upd (upd H1 d1 (.xd [(f, v)])) e1 (exo e1 (ec K (lo + ((0 : Int) + (i : Int)).toNat)) (some d1)) d1 = some (.xd [(f, v)]) := by rw [upd_ne ne1, upd_same]
    generalize upd (upd H1 d1 (.xd [(f, v)])) e1 (exo e1 (ec K (lo + ((0 : Int) + (i : Int)).toNat)) (some d1)) = H2 at sa xa da ⊢
    refine ⟨_, rfl, _, rfl, 0 + (i : Int), v, true, rfl, by omega, by omega, fun e2 d2 h3 h4 ne2 => ?_⟩
    have sb : Same H2 (upd (upd H2 d2 (.xd [(f, v)])) e2 (exo e2 (ec K (lo + ((0 : Int) + (i : Int)).toNat)) (some d2))) := (same_new h4).trans (same_new (by rw [upd_ne ne2.symm]; exact h3))
    have xb : upd (upd H2 d2 (.xd [(f, v)])) e2 (exo e2 (ec K (lo + ((0 : Int) + (i : Int)).toNat)) (some d2)) e2 = some (exo e2 (ec K (lo + i)) (some d2)) := by rw [upd_same, ei]
    have db : upd (upd H2 d2 (.xd [(f, v)])) e2 (exo e2 (ec K (lo + ((0 : Int) + (i : Int)).toNat)) (some d2)) d2 = some (.xd [(f, v)]) := by rw [upd_ne ne2, upd_same]
    generalize upd (upd H2 d2 (.xd [(f, v)])) e2 (exo e2 (ec K (lo + ((0 : Int) + (i : Int)).toNat)) (some d2)) = H3 at sb xb db ⊢
    refine ⟨_, _, rfl, ?_⟩
    dsimp only
    have dx : ∀ {H : Hp} {dd : Addr}, H dd = some (.xd [(f, v)]) → ∀ dx, some dd = some dx → ∃ fs, H dx = some (.xd fs) := fun {H dd} h dx e => by
      cases e
      exact ⟨_, h⟩
    refine rd_if ⟨_, rfl, hkk i _ _ _ hi rfl ⟨e1, lo + i, some d1, rfl, by omega, sb _ _ xa, dx (sb _ _ da), fun H4 s4 => ?_⟩⟩
    refine ⟨_, rfl, iteF ?_⟩
    refine ⟨_, rfl, hkk i _ _ _ hi rfl ⟨e2, lo + i, some d2, rfl, by omega, s4 _ _ xb, dx (s4 _ _ db), fun H5 s5 => ?_⟩⟩
    refine ⟨_, rfl, iteF ?_⟩
    have lk : List.lookup f [(f, v)] = some v := by simp [List.lookup]
    have s35 : Same H3 H5 := s4.trans s5
    refine ⟨_, rfl, e1, _, d1, _, _, v, rfl, s35 _ _ (sb _ _ xa), s35 _ _ (sb _ _ da), U, hno i hi, lk, ?_⟩
    refine ⟨_, rfl, e2, _, d2, _, _, v, rfl, s35 _ _ xb, s35 _ _ db, U, hno i hi, lk, ?_⟩
    refine ⟨by rw [sizeLine_eq]; show 2 ≤ 16777216; decide, fun p hp np => ?_⟩
    have s05 : Same H H5 := s1.trans (sa.trans (sb.trans s35))
    have hv5 : Dq (fun _ => True) (upd H5 p (.lst [v, v])) v d := (hv.same (s05.trans (same_new hp))).to fun b o _ e => ⟨True.intro, e⟩
    refine ⟨.ref p, .list [d, d], fun _ => True, rfl, .lst True.intro upd_same np (.cons hv5 (.cons hv5 .nil)), f1, f2, by rw [sizeLine_eq]; omega, ?_⟩
    refine ⟨_, rfl, rfl, _, rfl, ?_⟩
    rw [decide_eq_true rfl]
    refine iteF (rd_next ⟨s05.trans (same_new hp), _, _, _, rfl⟩)
  · rintro σ H1 ⟨s1, x5, x6, x7, rfl⟩
    exact q x5 x6 x7 H1 s1
end
end K01
set_option Elab.async false
set_option linter.all false
set_option maxRecDepth 100000
set_option maxHeartbeats 8000000
namespace K01
open PySem PySem.Spec PyProof.Rows L2
abbrev tPlace : TE := tIf (tTest (tOp (rI0 fun i j => .bl (decide (i < j))) (tVar 8) (tC (.int 5)))) (tC (.int 0)) (tIf (tTest (tOp (rI0 fun i j => .bl (decide (i < j))) (tVar 8) (tC (.int 8)))) (tC (.int 8)) (tOp (rI0 fun i j => .int (i + j)) (tVar 8) (tC (.int 1))))
theorem place_rd {σ : L2.St} {H : Hp} {Q : VK} {g : Int} (e : σ[8]? = some (some (.int g))) (h0 : 0 ≤ g) (h : Q (.int ((placeOf g : Nat) : Int)) H) : tPlace σ H Q := by
  refine ⟨_, e, _, _, rfl, rfl, _, rfl, ite2 (fun z => ?_) (fun z => ⟨_, e, _, _, rfl, rfl, _, rfl, ite2 (fun y => ?_) (fun y => ⟨_, e, _, _, rfl, rfl, ?_⟩)⟩)⟩
  · have z' : g < 5 := of_decide_eq_true z
    unfold placeOf at h
    rw [if_pos z'] at h
    exact h
  · have z' : ¬ g < 5 := fun k => z (decide_eq_true k)
    have y' : g < 8 := of_decide_eq_true y
    unfold placeOf at h
    rw [if_neg z', if_pos y'] at h
    exact h
  · have z' : ¬ g < 5 := fun k => z (decide_eq_true k)
    have y' : ¬ g < 8 := fun k => y (decide_eq_true k)
    unfold placeOf at h
    rw [if_neg z', if_neg y', Int.toNat_of_nonneg (by omega)] at h
    exact h
theorem place_lt {g : Int} (h : g < 10) : placeOf g < 12 := by
  unfold placeOf
  split
  · omega
  · split <;> omega
def spLaw (K : PySem.W.Frag) : Sp := fun vs H Q _ => ∃ (a : Addr) (ns : List Int), vs = [.ref a] ∧ SqL K H a (ns.map V.int) ∧ ∀ H', Q (.bl true) H'
section
variable {P : Program} {w : World} {K : PySem.W.Frag} {mg : Str → Option Value} {base : Heap} {fd : FuncData}
theorem scLaw : FnScope ["script", "turn", "well", "thing", "due", "k", "one", "two", "spot", "place", "j"] ["script"] (defScope sLaw) := ⟨rfl, rfl, rfl, by decide +kernel, rfl, by decide +kernel, by decide +kernel⟩
theorem ok_law {fdW fdD fdP fdO fdG fdN fdB fdCl fdS fdC : FuncData} (F : FnD K "law" sLaw fd) (T : Names K mg) (Er : Errs P K) (FW : FnD K "_law_well" sWell fdW) (FD : FnD K "_law_drop" sDrop fdD) (FP : FnD K "_law_pick" sPick fdP) (FO : FnD K "_law_odd" sOdd fdO)
    (FG : FnD K "_law_given" sGiven fdG) (FN : FnD K "_law_counted" sCounted fdN) (FB : FnD K "_law_bare" sBare fdB) (FCl : FnD K "_law_classes" sClasses fdCl) (FS : FnD K "_law_stands" sStands fdS) (FC : FnD K "_law_caught" sCaught fdC) :
    LawOk P w K mg base (He.ga K "law") fd "script" (spLaw K) := by
  refine F.okL (k := 3) scLaw ⟨rfl, by decide, by decide⟩ (fun cdv s H a hr h => ?_)
  have hu : (callerA.deeper (envOfC "law" (defScope sLaw) s.heap.objs.size (He.ga K "law") cdv)).units + 64 < cLine := hr.units
  have GW : FnOk P w K mg base CX0 1 (He.ga K "_law_well") fdW ["script", "turn", "salt"] (spWell K) := ok_well FW T
  have GO : FnOk P w K mg base CX0 3 (He.ga K "_law_odd") fdO ["well"] spOdd := ok_odd FO T FD FP
  have GG : FnOk P w K mg base CX0 2 (He.ga K "_law_given") fdG ["k", "thing", "is_named"] (spMk K 0 5 "given") := ok_given FG T Er
  have GN : FnOk P w K mg base CX0 2 (He.ga K "_law_counted") fdN ["k", "thing", "is_named"] (spMk K 5 4 "index") := ok_counted FN T Er
  have GB : FnOk P w K mg base CX0 2 (He.ga K "_law_bare") fdB ["k"] (spBare K) := ok_bare FB T Er
  have GS : FnOk P w K mg base CX0 2 (He.ga K "_law_stands") fdS ["made", "k"] (spStands K) := ok_stands FS T Er FCl
  have GD : FnOk P w K mg base CX0 1 (He.ga K "_law_drop") fdD ["well", "width"] spDrop := ok_drop FD T
  have GC : FnOk P w K mg base CX0 2 (He.ga K "_law_caught") fdC ["k", "thing"] (spCaught K) := ok_caught FC T Er FCl
  have bW : Binds K fdW ["script", "turn", "salt"] [] := FW.bindsN fun _ _ _ _ _ _ us hl => match us, hl with | [_, _, _], _ => rfl
  have bO : Binds K fdO ["well"] [] := FO.bindsN fun _ _ _ _ _ _ us hl => match us, hl with | [_], _ => rfl
  have bG : Binds K fdG ["k", "thing", "is_named"] [] := FG.bindsN fun _ _ _ _ _ _ us hl => match us, hl with | [_, _, _], _ => rfl
  have bN : Binds K fdN ["k", "thing", "is_named"] [] := FN.bindsN fun _ _ _ _ _ _ us hl => match us, hl with | [_, _, _], _ => rfl
  have bB : Binds K fdB ["k"] [] := FB.bindsN fun _ _ _ _ _ _ us hl => match us, hl with | [_], _ => rfl
  have bS : Binds K fdS ["made", "k"] [] := FS.bindsN fun _ _ _ _ _ _ us hl => match us, hl with | [_, _], _ => rfl
  have bD : Binds K fdD ["well", "width"] [] := FD.bindsN fun _ _ _ _ _ _ us hl => match us, hl with | [_, _], _ => rfl
  have bC : Binds K fdC ["k", "thing"] [] := FC.bindsN fun _ _ _ _ _ _ us hl => match us, hl with | [_, _], _ => rfl
  refine ⟨_, (pss_cons (ps_for PassesOwn.never rfl (pi_range1 rfl (T.fr "range" (by decide +kernel)) (pa_cons (pe_callB (call_max2 rfl) (by rfl) (T.fr "max" (by decide +kernel)) (by decide +kernel) (pa_cons pe_int (pa_cons (pe_callB (call_min2 rfl) (by rfl) (T.fr "min" (by decide +kernel)) (by decide +kernel) (pa_cons (pe_callB call_len_seq (by rfl) (T.fr "len" (by decide +kernel)) PySem.boot_len (pa_cons (pv 0) pa_nil)) (pa_cons pe_int pa_nil))) pa_nil))) pa_nil)) (pg_name (i := 1) scLaw.nd rfl (Or.inl rfl)) (pss_cons (ps_set (i := 2) scLaw.nd rfl (Or.inl rfl) (pe_call GW (hr.mono (by decide : 1 ≤ 3)) rfl (T.gl "_law_well" (by decide +kernel)) FW.kp bW .nil pass0 (pa_cons (pv 0) (pa_cons (pv 1) (pa_cons pe_int pa_nil))))) (pss_cons (ps_set (i := 3) scLaw.nd rfl (Or.inl rfl) (pe_call GO (hr.mono (by decide : 3 ≤ 3)) rfl (T.gl "_law_odd" (by decide +kernel)) FO.kp bO .nil pass0 (pa_cons (pv 2) pa_nil))) (pss_cons (ps_set (i := 4) scLaw.nd rfl (Or.inl rfl) (pe_callB (call_reprD rfl hu) (by rfl) (T.fr "repr" (by decide +kernel)) (by decide +kernel) (pa_cons (pe_lstS (pa_cons (pv 3) (pa_cons (pv 3) pa_nil))) pa_nil))) (pss_cons (ps_for PassesOwn.never rfl (pi_range1 rfl (T.fr "range" (by decide +kernel)) (pa_cons pe_int pa_nil)) (pg_name (i := 5) scLaw.nd rfl (Or.inl rfl)) (pss_cons (ps_par (i := 6) (j := 7) (by rfl) scLaw.nd rfl rfl (by decide) rfl rfl (pa_cons (pe_call GG (hr.mono (by decide : 2 ≤ 3)) rfl (T.gl "_law_given" (by decide +kernel)) FG.kp bG .nil pass0 (pa_cons (pv 5) (pa_cons (pv 3) (pa_cons pe_bl pa_nil)))) (pa_cons (pe_call GG (hr.mono (by decide : 2 ≤ 3)) rfl (T.gl "_law_given" (by decide +kernel)) FG.kp bG .nil pass0 (pa_cons (pv 5) (pa_cons (pv 3) (pa_cons pe_bl pa_nil)))) pa_nil)) (by rfl)) (pss_one (ps_if (PW.pt (pw_or (pt_not (pt_val (pe_call GS (hr.mono (by decide : 2 ≤ 3)) rfl (T.gl "_law_stands" (by decide +kernel)) FS.kp bS .nil pass0 (pa_cons (pv 6) (pa_cons (pv 5) pa_nil))))) (pw_or (pt_not (pt_val (pe_call GS (hr.mono (by decide : 2 ≤ 3)) rfl (T.gl "_law_stands" (by decide +kernel)) FS.kp bS .nil pass0 (pa_cons (pv 7) (pa_cons (pv 5) pa_nil))))) (pw_or1 (pt_cmpR op_ne (pe_callB (call_reprD rfl hu) (by rfl) (T.fr "repr" (by decide +kernel)) (by decide +kernel) (pa_cons (pe_lstS (pa_cons (pe_errF (pv 6)) (pa_cons (pe_errF (pv 7)) pa_nil))) pa_nil)) (pv 4) (nomark _)))))) (pss_one (ps_ret pe_bl)) pss_nil)))) (pss_cons (ps_for PassesOwn.never rfl (pi_range1 rfl (T.fr "range" (by decide +kernel)) (pa_cons pe_int pa_nil)) (pg_name (i := 5) scLaw.nd rfl (Or.inl rfl)) (pss_cons (ps_par (i := 6) (j := 7) (by rfl) scLaw.nd rfl rfl (by decide) rfl rfl (pa_cons (pe_call GN (hr.mono (by decide : 2 ≤ 3)) rfl (T.gl "_law_counted" (by decide +kernel)) FN.kp bN .nil pass0 (pa_cons (pv 5) (pa_cons (pv 3) (pa_cons pe_bl pa_nil)))) (pa_cons (pe_call GN (hr.mono (by decide : 2 ≤ 3)) rfl (T.gl "_law_counted" (by decide +kernel)) FN.kp bN .nil pass0 (pa_cons (pv 5) (pa_cons (pv 3) (pa_cons pe_bl pa_nil)))) pa_nil)) (by rfl)) (pss_one (ps_if (PW.pt (pw_or (pt_not (pt_val (pe_call GS (hr.mono (by decide : 2 ≤ 3)) rfl (T.gl "_law_stands" (by decide +kernel)) FS.kp bS .nil pass0 (pa_cons (pv 6) (pa_cons (pe_op op_add pe_int (pv 5)) pa_nil))))) (pw_or (pt_not (pt_val (pe_call GS (hr.mono (by decide : 2 ≤ 3)) rfl (T.gl "_law_stands" (by decide +kernel)) FS.kp bS .nil pass0 (pa_cons (pv 7) (pa_cons (pe_op op_add pe_int (pv 5)) pa_nil))))) (pw_or1 (pt_cmpR op_ne (pe_callB (call_reprD rfl hu) (by rfl) (T.fr "repr" (by decide +kernel)) (by decide +kernel) (pa_cons (pe_lstS (pa_cons (pe_errF (pv 6)) (pa_cons (pe_errF (pv 7)) pa_nil))) pa_nil)) (pv 4) (nomark _)))))) (pss_one (ps_ret pe_bl)) pss_nil)))) (pss_cons (ps_for PassesOwn.never rfl (pi_range1 rfl (T.fr "range" (by decide +kernel)) (pa_cons pe_int pa_nil)) (pg_name (i := 5) scLaw.nd rfl (Or.inl rfl)) (pss_one (ps_if (pt_not (pt_val (pe_call GS (hr.mono (by decide : 2 ≤ 3)) rfl (T.gl "_law_stands" (by decide +kernel)) FS.kp bS .nil pass0 (pa_cons (pe_call GB (hr.mono (by decide : 2 ≤ 3)) rfl (T.gl "_law_bare" (by decide +kernel)) FB.kp bB .nil pass0 (pa_cons (pv 5) pa_nil)) (pa_cons (pe_op op_add pe_int (pv 5)) pa_nil))))) (pss_one (ps_ret pe_bl)) pss_nil))) (pss_cons (ps_set (i := 8) scLaw.nd rfl (Or.inl rfl) (pe_call GD (hr.mono (by decide : 1 ≤ 3)) rfl (T.gl "_law_drop" (by decide +kernel)) FD.kp bD .nil pass0 (pa_cons (pv 2) (pa_cons pe_int pa_nil)))) (pss_cons (ps_set (i := 9) scLaw.nd rfl (Or.inr rfl) (pe_ifExp (pt_cmpR op_lt (pv 8) pe_int (nomark _)) pe_int (pe_ifExp (pt_cmpR op_lt (pv 8) pe_int (nomark _)) pe_int (pe_op op_add (pv 8) pe_int)))) (pss_one (ps_if (pt_cmpR (op_neD hr.units) (pe_call GC (hr.mono (by decide : 2 ≤ 3)) rfl (T.gl "_law_caught" (by decide +kernel)) FC.kp bC .nil pass0 (pa_cons (pv 8) (pa_cons (pv 3) pa_nil))) (pe_lc (own := [("j", 10)]) (g := gName 10) (tt := tYes) (by rfl) scLaw.nd (pi_range1 rfl (T.fr "range" (by decide +kernel)) (pa_cons pe_int pa_nil)) (blkOk_by (own := [("j", 10)]) (N := ["script", "turn", "well", "thing", "due", "k", "one", "two", "spot", "place", "j"]) (sc := defScope sLaw) (by decide +kernel)) (fun _ _ _ _ _ => pg_name (i := 10) scLaw.nd rfl (Or.inl rfl)) (fun _ _ _ _ _ => pts_nil) (fun _ _ _ _ _ => pe_cmpR op_eq (pv 10) (pv 9) (nomark _))) (nomark _)) (pss_one (ps_ret pe_bl)) pss_nil))))))))))) (pss_one (ps_ret pe_bl))), ?_⟩
  obtain ⟨a', ns, ea, hS, q⟩ := h
  cases ea
  have hm : ∀ L : Int, (if (if (3 : Int) < L then 3 else L) > 1 then (if (3 : Int) < L then 3 else L) else 1) ≤ 3 := fun L => by split <;> split <;> omega
  have hm1 : ∀ L : Int, 1 ≤ (if (if (3 : Int) < L then 3 else L) > 1 then (if (3 : Int) < L then 3 else L) else 1) := fun L => by split <;> omega
  refine rd_seq ⟨_, rfl, a, _, rfl, .inl hS, _, _, rfl, _, _, rfl, _, rfl, by have := hm1 ((ns.map V.int).length : Int); omega, by have := hm ((ns.map V.int).length : Int); omega, ?_⟩
  have hj := hm ((ns.map V.int).length : Int)
  generalize (if (if (3 : Int) < ((ns.map V.int).length : Int) then 3 else ((ns.map V.int).length : Int)) > 1 then (if (3 : Int) < ((ns.map V.int).length : Int) then 3 else ((ns.map V.int).length : Int)) else 1) = j at hj ⊢
  refine for_range (lo := 0) (n := j.toNat) (fun i σ H' => Same H H' ∧ ∃ y1 y2 y3 y4 y5 y6 y7 y8 y9 y10 : Option V, σ = [some (.ref a), y1, y2, y3, y4, y5, y6, y7, y8, y9, y10]) ⟨Same.refl H, _, _, _, _, _, _, _, _, _, _, rfl⟩ ?_ ?_
  · rintro i σ H1 hi ⟨s1, y1, y2, y3, y4, y5, y6, y7, y8, y9, y10, rfl⟩
    have hi3 : i < 3 := by omega
    refine rd_gn (rd_ss ⟨_, rfl, _, rfl, a, 0 + (i : Int), 1301, ns, rfl, s1.seq hS, by omega, by omega, by decide, by decide, fun w Hw g b c sw nw ew okw => ?_⟩)
    refine rd_ss ⟨_, rfl, w, rfl, ⟨g, b, c, ew, okw⟩, fun v Ho d g2 b2 c2 so eo ok2 hd hf => ?_⟩
    have so1 : Same H1 Ho := fun x o e => so x o (fun z => by rw [z, nw] at e; cases e) (sw x o e)
    have s2 : Same H Ho := s1.trans so1
    obtain ⟨f1, f2, f3⟩ := fine_parts hf
    refine rd_ss ⟨_, rfl, _, rfl, by rw [sizeLine_eq]; show 2 ≤ 16777216; decide, fun p hp np => ?_⟩
    have hdp : Dq (fun _ => True) (upd Ho p (.lst [v, v])) v d := (hd.same (same_new hp)).to fun b o _ e => ⟨True.intro, e⟩
    refine ⟨.ref p, .list [d, d], fun _ => True, rfl, .lst True.intro upd_same np (.cons hdp (.cons hdp .nil)), f1, f2, by rw [sizeLine_eq]; omega, ?_⟩
    have s3 : Same H (upd Ho p (.lst [v, v])) := s2.trans (same_new hp)
    have e3 : upd Ho p (.lst [v, v]) w = some (wl g2 b2 c2) := same_new hp _ _ eo
    generalize upd Ho p (.lst [v, v]) = H3 at hdp s3 e3 ⊢
    have ng : ∀ i, i < 5 → PySem.W.findIn K (.ref (ec K (0 + i))) "given" = some none := fun i hi => Er.no _ ((show ∀ i, i < 5 → nmE.getD (0 + i) "" ∈ own.take 5 by decide +kernel) i hi)
    have nx : ∀ i, i < 4 → PySem.W.findIn K (.ref (ec K (5 + i))) "index" = some none := fun i hi => Er.no2 _ ((show ∀ i, i < 4 → nmE.getD (5 + i) "" ∈ own.drop 5 by decide +kernel) i hi)
    refine rd_seq (in_ok (lo := 0) (n := 5) (f := "given") (kk := tVar 5) Er hdp hf (by decide) (by decide) (fun i σ H Q hi e h => ⟨_, e, by
      have z : ((0 : Int) + (i : Int)) = ((0 + i : Nat) : Int) := by omega
      rw [z]
      exact h⟩) ng (fun x5 x6 x7 H4 s4 => ?_))
    dsimp only
    refine rd_seq (in_ok (lo := 5) (n := 4) (f := "index") (kk := tOp (rI0 fun i j => .int (i + j)) (tC (.int 5)) (tVar 5)) Er (hdp.same s4) hf (by decide) (by decide) (fun i σ H Q hi e h => ⟨_, e, _, _, rfl, rfl, by
      have z : ((5 : Int) + (0 + (i : Int))) = ((5 + i : Nat) : Int) := by omega
      show Q (.int ((5 : Int) + (0 + (i : Int)))) H
      rw [z]
      exact h⟩) nx (fun z5 z6 z7 H5 s5 => ?_))
    dsimp only
    have s35 : Same H3 H5 := s4.trans s5
    -- the classes without attributes
    refine rd_seq ⟨_, rfl, by decide, by decide, for_range (lo := 0) (n := 3) (fun m σ H' => Same H5 H' ∧ ∃ u5 : Option V, σ = [some (.ref a), some (.int (0 + (i : Int))), some (.ref w), some v, some (.str (PyData.shown (.list [d, d]))), u5, z6, z7, y8, y9, y10]) ⟨Same.refl H5, _, rfl⟩ ?_ ?_⟩
    · rintro m σ H6 hm' ⟨s6, u5, rfl⟩
      have em : ((0 : Int) + (m : Int)).toNat = m := by omega
      refine rd_gn (rd_if ⟨_, rfl, 0 + (m : Int), rfl, by omega, by omega, fun e1 h1 => ?_⟩)
      refine ⟨_, rfl, _, _, rfl, rfl, e1, 9 + m, none, ?_, by omega, by rw [upd_same, em], fun dx z => (by cases z), fun H7 s7 => ?_⟩
      · show [V.ref e1, V.int (9 + (0 + (m : Int)))] = [V.ref e1, V.int ((9 + m : Nat) : Int)]
        have z : ((9 : Int) + (0 + (m : Int))) = ((9 + m : Nat) : Int) := by omega
        rw [z]
      · exact ⟨_, rfl, iteF (rd_next ⟨s6.trans ((same_new h1).trans s7), _, rfl⟩)⟩
    rintro σ H6 ⟨s6, u5, rfl⟩
    have s36 : Same H3 H6 := s35.trans s6
    -- spot, place
    dsimp only
    refine rd_ss ⟨_, rfl, w, 10, rfl, ⟨g2, b2, c2, s36 _ _ e3, ok2⟩, by decide, by decide, fun dg g' b' c' d0 d1 ok' => ?_⟩
    have hw0 : H w = none := s1.free nw
    have s7 : Same H (upd H6 w (wl g' b' c')) := fun x o e => by
      rw [upd_ne (ne_of_none e hw0)]
      exact (s3.trans s36) x o e
    generalize upd H6 w (wl g' b' c') = H7 at s7 ⊢
    refine rd_ss (place_rd rfl d0 ?_)
    have hp12 := place_lt d1
    refine rd_if ⟨_, rfl, _, rfl, dg, v, rfl, d0, d1, fun p1 H8 s8 e8 => ?_⟩
    let fj : Nat → Bool := fun m => decide (V.int (0 + (m : Int)) = V.int ((placeOf dg : Nat) : Int))
    have fjs : ∀ m, fj m = decide (m = placeOf dg) := fun m => by
      show decide (V.int (0 + (m : Int)) = V.int ((placeOf dg : Nat) : Int)) = decide (m = placeOf dg)
      by_cases z : m = placeOf dg
      · rw [decide_eq_true z, decide_eq_true (by rw [← z]; simp)]
      · rw [decide_eq_false z, decide_eq_false (fun y => z (by have := V.int.inj y; omega))]
    refine ⟨11, rfl, by decide, by decide, fun L hL => lc_range (lo := 0) (n := 11) (fun m H' => H' = upd H8 L (.lst ((List.range m).map fun m => .bl (fj m)))) rfl ?_ ?_⟩
    · rintro m H' hm' rfl
      refine ⟨rfl, rd_yes ?_⟩
      rw [if_pos rfl]
      refine ⟨_, rfl, _, rfl, rfl, _, upd_same, ?_, ?_⟩
      · rw [List.length_map, List.length_range, sizeLine_eq]
        omega
      · show upd (upd H8 L _) L _ = _
        rw [upd_upd, List.range_succ, List.map_append]
        rfl
    rintro H9 rfl
    have s9 : Same H8 (upd H8 L (.lst ((List.range 11).map fun m => .bl (fj m)))) := same_new hL
    have v1 : Dp K (upd H8 L (.lst ((List.range 11).map fun m => .bl (fj m)))) (.ref p1) (.list (one11 (placeOf dg))) := by
      have e : one11 (placeOf dg) = (List.range 11).map fun i => PyData.bool ((mroE (ec K (placeOf dg)) (upE K (placeOf dg))).contains (.ref (ec K i))) := List.map_congr_left fun i hi => by rw [Er.is (List.mem_range.mp hi) hp12]
      rw [e]
      exact .lst (.of (s9 _ _ e8)) (dp_bools _ _)
    have v2 : Dp K (upd H8 L (.lst ((List.range 11).map fun m => .bl (fj m)))) (.ref L) (.list (one11 (placeOf dg))) := by
      have e : one11 (placeOf dg) = (List.range 11).map fun i => PyData.bool (fj i) := List.map_congr_left fun i hi => by rw [fjs]
      rw [e]
      exact .lst (.of upd_same) (dp_bools _ _)
    have sh : SeqAt.shaped (.list (one11 (placeOf dg))) = true := (show ∀ j, j < 12 → SeqAt.shaped (.list (one11 j)) = true by decide +kernel) _ hp12
    refine ⟨_, _, v1, v2, sh, sh, _, rfl, ?_⟩
    rw [SeqAt.eqv_refl _ (SeqAt.canLay_of_shaped sh)]
    exact iteF (rd_next ⟨s7.trans (s8.trans s9), _, _, _, _, _, _, _, _, _, _, rfl⟩)
  · rintro σ H1 ⟨s1, y1, y2, y3, y4, y5, y6, y7, y8, y9, y10, rfl⟩
    show V.bl true = V.bl true
    rfl
end
end K01
set_option Elab.async false
set_option linter.all false
set_option maxRecDepth 100000
set_option maxHeartbeats 0
namespace K01
open PySem PySem.Spec PyProof.Rows L2
theorem shape0 : defArgs (sInit 2) = PySem.ErrLow.iA "given" ⟨6, 17, 6, 21⟩ ⟨6, 23, 6, 28⟩ ∧ defBody (sInit 2) = PySem.ErrLow.iB "given" "no polynomial as asked" ⟨7, 8, 7, 13⟩ ⟨7, 8, 7, 15⟩ ⟨7, 8, 7, 24⟩ ⟨7, 25, 7, 49⟩ ⟨7, 8, 7, 50⟩ ⟨7, 8, 7, 50⟩ ⟨8, 8, 8, 12⟩ ⟨8, 8, 8, 18⟩ ⟨8, 21, 8, 26⟩ ⟨8, 8, 8, 26⟩ ∧ defScope (sInit 2) = PySem.ErrLow.iS "given" := ⟨rfl, rfl, rfl⟩
theorem mc0 : PySem.ErrLow.MC "no polynomial as asked" ⟨7, 8, 7, 13⟩ ⟨7, 8, 7, 15⟩ ⟨7, 8, 7, 24⟩ ⟨7, 25, 7, 49⟩ ⟨7, 8, 7, 50⟩ := ⟨_, fun env => by rfl⟩
theorem shape1 : defArgs (sInit 3) = PySem.ErrLow.iA "given" ⟨11, 17, 11, 21⟩ ⟨11, 23, 11, 28⟩ ∧ defBody (sInit 3) = PySem.ErrLow.iB "given" "no fraction as asked" ⟨12, 8, 12, 13⟩ ⟨12, 8, 12, 15⟩ ⟨12, 8, 12, 24⟩ ⟨12, 25, 12, 47⟩ ⟨12, 8, 12, 48⟩ ⟨12, 8, 12, 48⟩ ⟨13, 8, 13, 12⟩ ⟨13, 8, 13, 18⟩ ⟨13, 21, 13, 26⟩ ⟨13, 8, 13, 26⟩ ∧ defScope (sInit 3) = PySem.ErrLow.iS "given" := ⟨rfl, rfl, rfl⟩
theorem mc1 : PySem.ErrLow.MC "no fraction as asked" ⟨12, 8, 12, 13⟩ ⟨12, 8, 12, 15⟩ ⟨12, 8, 12, 24⟩ ⟨12, 25, 12, 47⟩ ⟨12, 8, 12, 48⟩ := ⟨_, fun env => by rfl⟩
theorem shape2 : defArgs (sInit 4) = PySem.ErrLow.iA "given" ⟨16, 17, 16, 21⟩ ⟨16, 23, 16, 28⟩ ∧ defBody (sInit 4) = PySem.ErrLow.iB "given" "no teller as asked" ⟨17, 8, 17, 13⟩ ⟨17, 8, 17, 15⟩ ⟨17, 8, 17, 24⟩ ⟨17, 25, 17, 45⟩ ⟨17, 8, 17, 46⟩ ⟨17, 8, 17, 46⟩ ⟨18, 8, 18, 12⟩ ⟨18, 8, 18, 18⟩ ⟨18, 21, 18, 26⟩ ⟨18, 8, 18, 26⟩ ∧ defScope (sInit 4) = PySem.ErrLow.iS "given" := ⟨rfl, rfl, rfl⟩
theorem mc2 : PySem.ErrLow.MC "no teller as asked" ⟨17, 8, 17, 13⟩ ⟨17, 8, 17, 15⟩ ⟨17, 8, 17, 24⟩ ⟨17, 25, 17, 45⟩ ⟨17, 8, 17, 46⟩ := ⟨_, fun env => by rfl⟩
theorem shape3 : defArgs (sInit 5) = PySem.ErrLow.iA "given" ⟨21, 17, 21, 21⟩ ⟨21, 23, 21, 28⟩ ∧ defBody (sInit 5) = PySem.ErrLow.iB "given" "no row as asked" ⟨22, 8, 22, 13⟩ ⟨22, 8, 22, 15⟩ ⟨22, 8, 22, 24⟩ ⟨22, 25, 22, 42⟩ ⟨22, 8, 22, 43⟩ ⟨22, 8, 22, 43⟩ ⟨23, 8, 23, 12⟩ ⟨23, 8, 23, 18⟩ ⟨23, 21, 23, 26⟩ ⟨23, 8, 23, 26⟩ ∧ defScope (sInit 5) = PySem.ErrLow.iS "given" := ⟨rfl, rfl, rfl⟩
theorem mc3 : PySem.ErrLow.MC "no row as asked" ⟨22, 8, 22, 13⟩ ⟨22, 8, 22, 15⟩ ⟨22, 8, 22, 24⟩ ⟨22, 25, 22, 42⟩ ⟨22, 8, 22, 43⟩ := ⟨_, fun env => by rfl⟩
theorem shape4 : defArgs (sInit 6) = PySem.ErrLow.iA "given" ⟨26, 17, 26, 21⟩ ⟨26, 23, 26, 28⟩ ∧ defBody (sInit 6) = PySem.ErrLow.iB "given" "no whole number as asked" ⟨27, 8, 27, 13⟩ ⟨27, 8, 27, 15⟩ ⟨27, 8, 27, 24⟩ ⟨27, 25, 27, 51⟩ ⟨27, 8, 27, 52⟩ ⟨27, 8, 27, 52⟩ ⟨28, 8, 28, 12⟩ ⟨28, 8, 28, 18⟩ ⟨28, 21, 28, 26⟩ ⟨28, 8, 28, 26⟩ ∧ defScope (sInit 6) = PySem.ErrLow.iS "given" := ⟨rfl, rfl, rfl⟩
theorem mc4 : PySem.ErrLow.MC "no whole number as asked" ⟨27, 8, 27, 13⟩ ⟨27, 8, 27, 15⟩ ⟨27, 8, 27, 24⟩ ⟨27, 25, 27, 51⟩ ⟨27, 8, 27, 52⟩ := ⟨_, fun env => by rfl⟩
theorem shape5 : defArgs (sInit 7) = PySem.ErrLow.iA "index" ⟨31, 17, 31, 21⟩ ⟨31, 23, 31, 28⟩ ∧ defBody (sInit 7) = PySem.ErrLow.iB "index" "no numbers as asked" ⟨32, 8, 32, 13⟩ ⟨32, 8, 32, 15⟩ ⟨32, 8, 32, 24⟩ ⟨32, 25, 32, 46⟩ ⟨32, 8, 32, 47⟩ ⟨32, 8, 32, 47⟩ ⟨33, 8, 33, 12⟩ ⟨33, 8, 33, 18⟩ ⟨33, 21, 33, 26⟩ ⟨33, 8, 33, 26⟩ ∧ defScope (sInit 7) = PySem.ErrLow.iS "index" := ⟨rfl, rfl, rfl⟩
theorem mc5 : PySem.ErrLow.MC "no numbers as asked" ⟨32, 8, 32, 13⟩ ⟨32, 8, 32, 15⟩ ⟨32, 8, 32, 24⟩ ⟨32, 25, 32, 46⟩ ⟨32, 8, 32, 47⟩ := ⟨_, fun env => by rfl⟩
theorem shape6 : defArgs (sInit 8) = PySem.ErrLow.iA "index" ⟨36, 17, 36, 21⟩ ⟨36, 23, 36, 28⟩ ∧ defBody (sInit 8) = PySem.ErrLow.iB "index" "no kinds as asked" ⟨37, 8, 37, 13⟩ ⟨37, 8, 37, 15⟩ ⟨37, 8, 37, 24⟩ ⟨37, 25, 37, 44⟩ ⟨37, 8, 37, 45⟩ ⟨37, 8, 37, 45⟩ ⟨38, 8, 38, 12⟩ ⟨38, 8, 38, 18⟩ ⟨38, 21, 38, 26⟩ ⟨38, 8, 38, 26⟩ ∧ defScope (sInit 8) = PySem.ErrLow.iS "index" := ⟨rfl, rfl, rfl⟩
theorem mc6 : PySem.ErrLow.MC "no kinds as asked" ⟨37, 8, 37, 13⟩ ⟨37, 8, 37, 15⟩ ⟨37, 8, 37, 24⟩ ⟨37, 25, 37, 44⟩ ⟨37, 8, 37, 45⟩ := ⟨_, fun env => by rfl⟩
theorem shape7 : defArgs (sInit 9) = PySem.ErrLow.iA "index" ⟨41, 17, 41, 21⟩ ⟨41, 23, 41, 28⟩ ∧ defBody (sInit 9) = PySem.ErrLow.iB "index" "no steps as asked" ⟨42, 8, 42, 13⟩ ⟨42, 8, 42, 15⟩ ⟨42, 8, 42, 24⟩ ⟨42, 25, 42, 44⟩ ⟨42, 8, 42, 45⟩ ⟨42, 8, 42, 45⟩ ⟨43, 8, 43, 12⟩ ⟨43, 8, 43, 18⟩ ⟨43, 21, 43, 26⟩ ⟨43, 8, 43, 26⟩ ∧ defScope (sInit 9) = PySem.ErrLow.iS "index" := ⟨rfl, rfl, rfl⟩
theorem mc7 : PySem.ErrLow.MC "no steps as asked" ⟨42, 8, 42, 13⟩ ⟨42, 8, 42, 15⟩ ⟨42, 8, 42, 24⟩ ⟨42, 25, 42, 44⟩ ⟨42, 8, 42, 45⟩ := ⟨_, fun env => by rfl⟩
theorem shape8 : defArgs (sInit 10) = PySem.ErrLow.iA "index" ⟨46, 17, 46, 21⟩ ⟨46, 23, 46, 28⟩ ∧ defBody (sInit 10) = PySem.ErrLow.iB "index" "no weights as asked" ⟨47, 8, 47, 13⟩ ⟨47, 8, 47, 15⟩ ⟨47, 8, 47, 24⟩ ⟨47, 25, 47, 46⟩ ⟨47, 8, 47, 47⟩ ⟨47, 8, 47, 47⟩ ⟨48, 8, 48, 12⟩ ⟨48, 8, 48, 18⟩ ⟨48, 21, 48, 26⟩ ⟨48, 8, 48, 26⟩ ∧ defScope (sInit 10) = PySem.ErrLow.iS "index" := ⟨rfl, rfl, rfl⟩
theorem mc8 : PySem.ErrLow.MC "no weights as asked" ⟨47, 8, 47, 13⟩ ⟨47, 8, 47, 15⟩ ⟨47, 8, 47, 24⟩ ⟨47, 25, 47, 46⟩ ⟨47, 8, 47, 47⟩ := ⟨_, fun env => by rfl⟩

end K01
set_option Elab.async false
set_option linter.all false
set_option maxRecDepth 100000
set_option maxHeartbeats 0
namespace K01
open PySem PySem.Spec PyProof.Rows L2 ErrHead
abbrev R : PySem.W.OpenRow := PySem.W.OpenLaw.row PySem.Challenge.rw_endtellers_k01_errors_each_of_its_own
abbrev file : Str := PySem.Challenge.pw_endtellers_k01_errors_each_of_its_own.main.file
def gdef (x : Str) (st : Stmt) : He.DefD := ⟨(x, none), x, x, defArgs st, defBody st, defScope st, [], []⟩
def fn : List He.DefD := [gdef "_law_well" sWell, gdef "_law_drop" sDrop, gdef "_law_pick" sPick, gdef "_law_odd" sOdd, gdef "_law_given" sGiven, gdef "_law_counted" sCounted, gdef "_law_bare" sBare, gdef "_law_classes" sClasses, gdef "_law_stands" sStands, gdef "_law_caught" sCaught, gdef "law" sLaw]
def inits : List (Str × Stmt) := [("InvalidPolynomial", sInit 2), ("InvalidFraction", sInit 3), ("InvalidTeller", sInit 4), ("InvalidRow", sInit 5), ("InvalidNumber", sInit 6), ("InvalidNumbers", sInit 7), ("InvalidKinds", sInit 8), ("InvalidSteps", sInit 9), ("InvalidWeights", sInit 10)]
def fa : List He.Fa := (defs ++ (own ++ bare)).map He.Fa.glo ++ frees.map He.Fa.free
def attr (i : Nat) : Str := if i < 5 then "given" else "index"
def more (K : PySem.W.Frag) : Bool :=
  ((nmE.take 11).all fun x => clsB K (He.ga K x) [He.ga K "EndError"]) && (clsB K (He.ga K "EndError") [] &&
  (((own.take 5).all fun x => initB K file (He.ga K x) [He.ga K "EndError"] "given") && (((own.drop 5).all fun x => initB K file (He.ga K x) [He.ga K "EndError"] "index") &&
  ((bare.all fun x => decide (PySem.W.findIn K (.ref (He.ga K x)) "__init__" = some (some (.builtin "ValueError.__init__")))) &&
  (decide (PySem.W.specialIn K (.builtin "object.__class__") "__get__" = some (some (.builtin "getset_descriptor.__get__"))) &&
  (decide (PySem.W.takesIn K (.builtin "object.__class__") = some true) && (decide (nmE.map (He.ga K)).Nodup &&
  decide (PySem.W.nsIn K cStatics "thirdparty.any" = some none))))))))
abbrev Al : Type := He.AlD × (Bool × List IV)
def asX (g : Addr → Option Obj) (n : Nat) : List Addr := cStatics :: He.asD g n
def seen (K : PySem.W.Frag) : Al := (He.obsD fa fn K, more K, inits.map fun p => initObs K (He.ga K p.1))
def wanted : Al := (He.valD fn, true, inits.map fun p => initVal p.2)
def hk : PySem.W.Hook where
  α := Al
  obs := fun s => seen (He.frG s.heap.get? (asX s.heap.get? 5))
  val := fun _ => wanted
  says := fun _ h => ∃ K : PySem.W.Frag, K.In h ∧ seen K = wanted
  of := fun _ _ e => ⟨_, He.frG_in, e⟩
  keeps := fun _ _ _ ⟨K, hK, c⟩ k => ⟨K, PySem.W.Frag.In.keeps hK k, c⟩
def ob (s : PySem.W.SharedT) : Al := seen (He.frG (HandSHeadRun.getT s) (asX (HandSHeadRun.getT s) 5))
theorem ob_eq (s : PySem.W.SharedT) : ob s = hk.obs s.abs := by
  have e : HandSHeadRun.getT s = s.abs.heap.get? := funext (HandSHeadRun.getT_eq s)
  unfold ob
  rw [e] <;> rfl
def loose : List Str := ["EndError", "InvalidPolynomial", "InvalidFraction", "InvalidTeller", "InvalidRow", "InvalidNumber", "InvalidNumbers", "InvalidKinds", "InvalidSteps", "InvalidWeights", "NotFair", "NotTelling", "_law_well", "_law_drop", "_law_pick", "_law_odd", "_law_given", "_law_counted", "_law_bare", "_law_classes", "_law_stands", "_law_caught"]
theorem run (w : World) : HandSHeadRun.RunEq R (PySem.W.view R.prog [24]) hk ob 4000 loose w := by
  intro os
  kernel_rfl
theorem errs {K : PySem.W.Frag} (c : seen K = wanted) : Errs R.prog K := by
  have m : more K = true := congrArg (fun z : Al => z.2.1) c
  have o : inits.map (fun p => initObs K (He.ga K p.1)) = inits.map fun p => initVal p.2 := congrArg (fun z : Al => z.2.2) c
  have oi : ∀ (i : Nat) (x : Str) (st : Stmt), inits[i]? = some (x, st) → initObs K (He.ga K x) = initVal st := fun i x st e => by
    have z : (inits.map (fun p => initObs K (He.ga K p.1)))[i]? = (inits.map fun p => initVal p.2)[i]? := by rw [o]
    rw [List.getElem?_map, List.getElem?_map, e] at z
    exact Option.some.inj z
  obtain ⟨m1, m⟩ := ErrHead.ba m
  obtain ⟨m2, m⟩ := ErrHead.ba m
  obtain ⟨m3, m⟩ := ErrHead.ba m
  obtain ⟨m4, m⟩ := ErrHead.ba m
  obtain ⟨m5, m⟩ := ErrHead.ba m
  obtain ⟨m6, m⟩ := ErrHead.ba m
  obtain ⟨m7, m⟩ := ErrHead.ba m
  obtain ⟨m8, m9⟩ := ErrHead.ba m
  have top : (R.prog.main.scope.names.lookup ("super" : Str)).isSome = false := by decide +kernel
  have opq := of_decide_eq_true m9
  have cl : ∀ x ∈ nmE.take 11, clsB K (He.ga K x) [He.ga K "EndError"] = true := fun x hx => List.all_eq_true.mp m1 x hx
  have inq : ∀ {x : Str} {st : Stmt} {msg : Str} {p1 p2 a1 a2 a3 a4 a5 a6 b1 b2 b3 b4 : Pos} (i : Nat), inits[i]? = some (x, st) → (defArgs st = PySem.ErrLow.iA "given" p1 p2 ∧ defBody st = PySem.ErrLow.iB "given" msg a1 a2 a3 a4 a5 a6 b1 b2 b3 b4 ∧ defScope st = PySem.ErrLow.iS "given") →
      PySem.ErrLow.MC msg a1 a2 a3 a4 a5 → (x ∈ own.take 5 ∧ x ∈ nmE.take 11) → PySem.ErrLow.ErrI R.prog K (He.ga K x) (He.ma K (He.ga K x) "__init__") "given" := fun i e sh mc hx =>
    ErrHead.init_ok (oi i _ _ e) (List.all_eq_true.mp m3 _ hx.1) (cl _ hx.2) sh mc opq top
  have inr : ∀ {x : Str} {st : Stmt} {msg : Str} {p1 p2 a1 a2 a3 a4 a5 a6 b1 b2 b3 b4 : Pos} (i : Nat), inits[i]? = some (x, st) → (defArgs st = PySem.ErrLow.iA "index" p1 p2 ∧ defBody st = PySem.ErrLow.iB "index" msg a1 a2 a3 a4 a5 a6 b1 b2 b3 b4 ∧ defScope st = PySem.ErrLow.iS "index") →
      PySem.ErrLow.MC msg a1 a2 a3 a4 a5 → (x ∈ own.drop 5 ∧ x ∈ nmE.take 11) → PySem.ErrLow.ErrI R.prog K (He.ga K x) (He.ma K (He.ga K x) "__init__") "index" := fun i e sh mc hx =>
    ErrHead.init_ok (oi i _ _ e) (List.all_eq_true.mp m4 _ hx.1) (cl _ hx.2) sh mc opq top
  have gv : ∀ x ∈ own.take 5, PySem.ErrLow.ErrI R.prog K (He.ga K x) (He.ma K (He.ga K x) "__init__") "given" := fun x hx => by
    have hx : x ∈ (["InvalidPolynomial", "InvalidFraction", "InvalidTeller", "InvalidRow", "InvalidNumber"] : List Str) := hx
    rcases List.mem_cons.mp hx with e | hx
    · rw [e]
      exact inq 0 rfl shape0 mc0 (by decide +kernel)
    rcases List.mem_cons.mp hx with e | hx
    · rw [e]
      exact inq 1 rfl shape1 mc1 (by decide +kernel)
    rcases List.mem_cons.mp hx with e | hx
    · rw [e]
      exact inq 2 rfl shape2 mc2 (by decide +kernel)
    rcases List.mem_cons.mp hx with e | hx
    · rw [e]
      exact inq 3 rfl shape3 mc3 (by decide +kernel)
    rcases List.mem_cons.mp hx with e | hx
    · rw [e]
      exact inq 4 rfl shape4 mc4 (by decide +kernel)
    cases hx
  have ix : ∀ x ∈ own.drop 5, PySem.ErrLow.ErrI R.prog K (He.ga K x) (He.ma K (He.ga K x) "__init__") "index" := fun x hx => by
    have hx : x ∈ (["InvalidNumbers", "InvalidKinds", "InvalidSteps", "InvalidWeights"] : List Str) := hx
    rcases List.mem_cons.mp hx with e | hx
    · rw [e]
      exact inr 5 rfl shape5 mc5 (by decide +kernel)
    rcases List.mem_cons.mp hx with e | hx
    · rw [e]
      exact inr 6 rfl shape6 mc6 (by decide +kernel)
    rcases List.mem_cons.mp hx with e | hx
    · rw [e]
      exact inr 7 rfl shape7 mc7 (by decide +kernel)
    rcases List.mem_cons.mp hx with e | hx
    · rw [e]
      exact inr 8 rfl shape8 mc8 (by decide +kernel)
    cases hx
  exact ⟨gv, ix, fun x hx => ErrHead.cls_ok (cl x hx), ErrHead.cls_ok m2, fun x hx => of_decide_eq_true (List.all_eq_true.mp m5 x hx), ⟨of_decide_eq_true m6, of_decide_eq_true m7⟩, fun x hx => (gv x hx).noN, fun x hx => (ix x hx).noN, of_decide_eq_true m8⟩
theorem facts {w : World} {K : PySem.W.Frag} {h : Heap} {mg : Str → Option Value} {f : Addr} (X : K.In h) (G : h.Ns mainGlobals mg) (hfa : mg ("law" : Str) = some (.ref f)) (c0 : seen K = wanted) :
    ∃ fd : FuncData, (∀ (s : Shared) (v : Value), BindsTo s fd ⟨[v], []⟩ [("script", v)]) ∧ ∀ base : Heap, K.In base → base.Ns mainGlobals mg → LawOk R.prog w K mg base f fd "script" (spLaw K) := by
  have c : He.SaysD fa fn K := congrArg (fun z : Al => z.1) c0
  have Er := errs c0
  obtain ⟨fd0, F0⟩ := c.def_ 0 (d := gdef "_law_well" sWell) rfl
  obtain ⟨fd1, F1⟩ := c.def_ 1 (d := gdef "_law_drop" sDrop) rfl
  obtain ⟨fd2, F2⟩ := c.def_ 2 (d := gdef "_law_pick" sPick) rfl
  obtain ⟨fd3, F3⟩ := c.def_ 3 (d := gdef "_law_odd" sOdd) rfl
  obtain ⟨fd4, F4⟩ := c.def_ 4 (d := gdef "_law_given" sGiven) rfl
  obtain ⟨fd5, F5⟩ := c.def_ 5 (d := gdef "_law_counted" sCounted) rfl
  obtain ⟨fd6, F6⟩ := c.def_ 6 (d := gdef "_law_bare" sBare) rfl
  obtain ⟨fd7, F7⟩ := c.def_ 7 (d := gdef "_law_classes" sClasses) rfl
  obtain ⟨fd8, F8⟩ := c.def_ 8 (d := gdef "_law_stands" sStands) rfl
  obtain ⟨fd9, F9⟩ := c.def_ 9 (d := gdef "_law_caught" sCaught) rfl
  obtain ⟨fd10, F10⟩ := c.def_ 10 (d := gdef "law" sLaw) rfl
  have all : ∀ x ∈ fa, x.ok K = true := fun x hx => by
    obtain ⟨i, hi, e⟩ := List.mem_iff_getElem.mp hx
    exact c.fact i (f := x) (by rw [List.getElem?_eq_getElem hi, e])
  have T : Names K mg := ⟨fun x hx => He.free_ok X G (all (.free x) (List.mem_append_right _ (List.mem_map_of_mem hx))), fun x hx => He.glo_ok X G (all (.glo x) (List.mem_append_left _ (List.mem_map_of_mem hx)))⟩
  have e := hfa.symm.trans (T.gl "law" (by decide +kernel))
  cases e
  have b := FunD.bindsA (ps := ["script"]) F10 fun _ _ _ _ _ _ us hl => match us, hl with | [_], _ => rfl
  exact ⟨fd10, fun s v => b s [v] rfl, fun base _ _ => ok_law F10 T Er F0 F1 F2 F3 F4 F5 F6 F7 F8 F9⟩
end K01
open PySem PySem.W PySem.Calls PyProof.Rows
set_option maxRecDepth 100000 in
set_option maxHeartbeats 0 in
theorem PySem.Challenge.cw_endtellers_k01_errors_each_of_its_own_holds : PySem.Challenge.rw_endtellers_k01_errors_each_of_its_own.Holds := by
  w_on; o_law
  refine HandSHeadRun.head_any (r := OpenLaw.row PySem.Challenge.rw_endtellers_k01_errors_each_of_its_own) (q := view (OpenLaw.row PySem.Challenge.rw_endtellers_k01_errors_each_of_its_own).prog [24]) (H := K01.hk) (ob := K01.ob) (M := 4000) (loose := K01.loose) (d := HandSHeadRun.topDef (OpenLaw.row PySem.Challenge.rw_endtellers_k01_errors_each_of_its_own).prog 24) (kwd := []) K01.ob_eq
    (by kernel_rfl) (fun s => by kernel_rfl) K01.run (by kernel_rfl) (by kernel_rfl) (by kernel_rfl) (by rfl) (by first | assumption | decide +kernel) (by decide +kernel) ⟨rfl, rfl, rfl, rfl, rfl, by decide +kernel⟩ ?hw ?hc
  case hw => w_witness2
  case hc =>
    refine L2.walk_ofL (l := PySem.Challenge.rw_endtellers_k01_errors_each_of_its_own) (most := 63) (x := "script") rfl (by decide) (by kernel_rfl) ?F
    intro w mg fa h Y G hmg0
    obtain ⟨K, KX, c⟩ := Y
    have hmg : mg ("law" : PySem.Str) = some (.ref fa) := by
      have e : (HandSHeadRun.topDef (OpenLaw.row PySem.Challenge.rw_endtellers_k01_errors_each_of_its_own).prog 24).name = ("law" : PySem.Str) := by kernel_rfl
      rw [← e]
      exact hmg0
    obtain ⟨fd, hb, hF⟩ := K01.facts (w := w) KX G hmg c
    exact ⟨K, fd, K01.spLaw K, KX, hb, fun H a ns hl _ hS => ⟨a, ns, rfl, hS, fun _ => rfl⟩, hF⟩
