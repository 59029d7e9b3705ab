import PyProof.Rows.All
import Wide.All
import OpenK.AllK
import Wide.FinOn
import PyProof.EqAt
import PyProof.EqKinds
import PyProof.TupleCall
import PyProof.FString
import PyProof.FString4
import KE.KExcSuper
import HandS.Base
import HandS.Call
import HandS.Exc
import HandS.ExcInit
import HandS.ForMost
import HandS.ExcOwn
import HandS.WordsExc
import HandS.IsInst
import HandS.TupAny
import HandS.List
import HandS.Comp
import HandS.Iter
import HandS.Style
import HandS.Zip
import HandS.Walk
import HandS.Evl
import HandS.RevRange
import HandS.WideBits
import PyProof.EnumStmt
import PyProof.EnumMake
import PyProof.Draws
import KE.GoesMore
import HandS.Zip0
import HandS.DictComp
import PyProof.ListStr
import PyProof.ListIndex
import HandS.Text
import HandS.More
import PyProof.Rows.SortStr
import PyProof.Rows.SortKeyStr
import HandS.SortInts
import HandS.SortKw
import HandS.Sort
import HandS.SortOrd
import HandS.SortRule
import HandS.TupSets
import HandS.TupMul
import HandS.OwnEq
import PyProof.InstNe
import HandS.Steps
import PyProof.ZipIter
import PyProof.ListNew
import PyProof.WalkInts
import KE.KTupSum
import PyProof.SumAny
import PyProof.MinMaxWalk
import HandS.Dict
import HandS.Small
import PyProof.DictMoreH
import HandS.Codes
import HandS.Deep
import HandS.Lambda
import HandS.Nested
import HandS.TryOnly
import HandS.Property
import HandS.Wide
import HandS.Defaults
import HandS.SetBool
import HandS.Strs
import HandS.SetKeys
import HandS.Conv
import KE.KNest
import HandS.EndTab
import KE.GoesEnum
import PyProof.DictFindH
import HandS.TupLen
import KE.KeyNested
import HandS.DictTup
import KE.KDictList
import KE.GoesNew
import PySem.Challenge.RW_surelabels_k06_patterns_apart
set_option Elab.async false
set_option linter.all false
set_option maxRecDepth 100000
set_option maxHeartbeats 4000000
/-! An own error class whose __init__ says super().__init__(message) and keeps one field: made, raised, caught, its field read. -/
namespace PySem
namespace SLX
open PySem.W PySem.Calls PyProof.Rows PySem.HandSPX
/-- the message, evaluated where the one parameter stands: nothing but tokens changes -/
def MsgOk (prog : Program) (w : World) (sc : Scope) (par : Str) (msg : Expr) (okv : Value → Prop) : Prop :=
  ∀ (A : Around) (E : Value → Shared → Prop) (s : Shared) (env : Env) (m : Str → Option Value) (v : Value) (Q : Value → Shared → Prop), env.scope = sc → s.heap.Ns env.locals m → m par = some v → okv v → (∀ u t, Q u { s with toks := t }) →
    wpAny (model prog w) A (eval msg env) Q E s
theorem msg_const {prog : Program} {w : World} {sc : Scope} {par x : Str} {j : Nat} {p : Pos} {okv : Value → Prop} : MsgOk prog w sc par (.Constant (.str x) j p) okv :=
  fun A E s env m v Q _ _ _ _ h => Calls.Constant_str (h _ _)
/-- f'..{part!r}' -/
theorem msg_repr {prog : Program} {w : World} {sc : Scope} {par x : Str} {j : Nat} {p1 p2 p3 p4 : Pos} (hk : sc.kind = .function) (hl : sc.names.lookup par = some .local) (hd : (par == ("__debug__" : Str)) = false) (hx : x.length ≤ 1000) :
    MsgOk prog w sc par (.JoinedStr [.Constant (.str x) j p1, .FormattedValue (.Name par p2) 114 none p3] p4) (fun v => ∃ (y : Str) (t : Tok), v = .str y t ∧ (reprText y).length ≤ 1000) := by
  intro A E s env m v Q hs hn hv ho h
  obtain ⟨y, t, rfl, hy⟩ := ho
  subst hs
  have z1 : (1000 : Nat) ≤ sizeLine := by rw [sizeLine_eq]; decide
  have z2 : (2000 : Nat) ≤ sizeLine := by rw [sizeLine_eq]; decide
  have hyl : (reprText y).length ≤ sizeLine := Nat.le_trans hy z1
  have app : ∀ a b : Str, (a ++ b).length = a.length + b.length := fun a b => by
    show (a.cps ++ b.cps).size = a.cps.size + b.cps.size
    exact Array.size_append
  have e0 : (Str.empty : Str).length = 0 := rfl
  refine wpAny_JoinedStr ?_
  show wpAny _ _ (eval (.Constant (.str x) j p1) env) _ _ _
  refine Calls.Constant_str ?_
  refine ⟨x, s.toks, rfl, by rw [app, e0]; omega, ?_⟩
  show wpAny _ _ (eval (.FormattedValue (.Name par p2) 114 none p3) env) _ _ _
  refine wpAny_FormattedValue_repr ?_
  refine wpAny_Name (wpAny_loadName_local hk hl hn hv ?_) hd
  refine pyReprObj_str ?_ hyl
  refine wpAny_formatField_str ?_ ?_ hyl
  · refine ⟨reprText y, _, rfl, by rw [app, app, e0]; omega, ?_⟩
    exact ⟨by rw [app, app, e0]; omega, h _ _⟩
  · refine ⟨reprText y, _, rfl, by rw [app, app, e0]; omega, ?_⟩
    exact ⟨by rw [app, app, e0]; omega, h _ _⟩

/-! ### the text of __init__ -/
def iP (par : Str) (p1 p2 : Pos) : Arguments := { posonlyargs := [], args := [{ arg := "self", annotation := none, pos := p1 }, { arg := par, annotation := none, pos := p2 }], vararg := none, kwonlyargs := [], kw_defaults := [], kwarg := none, defaults := [] }
def iB (fld par : Str) (msg : Expr) (q1 q2 q3 q4 q5 q6 q7 q8 q9 : Pos) : List Stmt :=
  [.Expr (.Call (.Attribute (.Call (.Name "super" q1) [] [] q2) "__init__" q3) [msg] [] q4) q5, .Assign [.Attribute (.Name "self" q6) fld q7] (.Name par q8) q9]
def iS (par : Str) : Scope := { kind := .function, names := [(PySem.Str.ofString "self", .local), (par, .local), (PySem.Str.ofString "__class__", .free), (PySem.Str.ofString "super", .globalImplicit)], isGenerator := false, isCoroutine := false, more := [] }
/-- super().__init__(msg), as the evaluator takes it -/
def CallForm (msg : Expr) (q1 q2 q3 q4 : Pos) : Prop := ∀ env : Env, ∃ pl : Sem Bool, eval (.Call (.Attribute (.Call (.Name "super" q1) [] [] q2) "__init__" q3) [msg] [] q4) env = (do
  let ov ← attributeBase (.Call (.Name "super" q1) [] [] q2) "__init__" env (eval (.Call (.Name "super" q1) [] [] q2) env)
  standAt q3.atName
  let (f, first) ← holding [ov] (getMethod ov "__init__" pl)
  callWith q4 f first (backTo q4 (starEach [msg] env)) [])
/-- what the written part says of the class cn, at C, and of its __init__, at fI; vok: the values that its message can show -/
structure ExTxt (K : Frag) (mg : Str → Option Value) (prog : Program) (w : World) (cn fld par : Str) (vok : Value → Prop) (C fI : Addr) : Prop where
  gC : mg cn = some (.ref C)
  cls : ∃ nm q N bs bm sn sub ab col dd k0 k1 k2 k3 k5, K.lookup C = some (excClassObj nm q C N bs bm true sn sub ab col dd k0 k1 k2 k3 k5 "ValueError.__new__") ∧ refsVE bm = true ∧ alongIn K "__init__" bm = some (some (.builtin "ValueError.__init__"))
  sa : findIn K (.ref C) "__setattr__" = some (some (.builtin "object.__setattr__"))
  ga : findIn K (.ref C) "__getattribute__" = some (some (.builtin "BaseException.__getattribute__"))
  gg : findIn K (.ref C) "__getattr__" = some none
  noN : findIn K (.ref C) fld = some none
  iC : findIn K (.ref C) "__init__" = some (some (.ref fI))
  tC : typeIn K (.ref fI) = some (.type "function")
  kC : keepIn K (.ref C) = true
  exC : subIn K (.ref C) (.type "BaseException") = some true
  veC : subIn K (.ref C) (.type "ValueError") = some true
  tyC : typeIn K (.ref C) = some (.type "type")
  hdC : hasDictIn K C = true
  selfC : mroIn K C (.ref C) = some true
  opq : nsIn K cStatics "thirdparty.any" = some none
  sup : mg "super" = none
  fn : ∃ (oc : Value) (od : Option Addr) (qual : Str) (kV doc pm : Value) (an : Option Addr) (ct : Value) (osl : Array (Option Value)) (cc cda : Addr) (msg : Expr) (p1 p2 q1 q2 q3 q4 q5 q6 q7 q8 q9 : Pos) (cl ccl : Value) (cld cdd : Option Addr) (csl ccs : Array (Option Value)) (vs : Array Value) (file : Str) (tf : Tok),
    K.lookup fI = some ⟨oc, od, .func (ksFn "__init__" qual (iP par p1 p2) (iB fld par msg q1 q2 q3 q4 q5 q6 q7 q8 q9) (iS par) .none kV doc pm an (.ref cda) ct cc), osl⟩ ∧ codeIn K (.ref cda) qual = true ∧
    K.lookup cc = some ⟨cl, cld, .cell (some (.ref C)), csl⟩ ∧ K.lookup cda = some ⟨ccl, cdd, .fields vs, ccs⟩ ∧ vs[2]? = some (.str file tf) ∧ ((prog.main.file : Str) == file) = true ∧ MsgOk prog w (iS par) par msg vok ∧
    (∀ env, starEach [msg] env = (false, eval msg env) :: starEach [] env) ∧ CallForm msg q1 q2 q3 q4 ∧ ∀ a b : Value, bindArgs (ksFn "__init__" qual (iP par p1 p2) (iB fld par msg q1 q2 q3 q4 q5 q6 q7 q8 q9) (iS par) .none kV doc pm an (.ref cda) ct cc) ⟨[a, b], []⟩ = pure [(PySem.Str.ofString "self", a), (par, b)]
  okN : par ≠ ("self" : Str) ∧ par ≠ ("__class__" : Str) ∧ par ≠ ("super" : Str) ∧ (par == ("__debug__" : Str)) = false
  top : (prog.main.scope.names.lookup ("super" : Str)).isSome = false
theorem one_size (v : Value) : [v].length ≤ sizeLine := by
  rw [sizeLine_eq]
  exact (by decide : 1 ≤ 16777216)
/-- what __init__ leaves of a fresh exception at x -/
structure InitEnd (h h' : Heap) (x C dx t1 : Addr) (fld : Str) (v : Value) : Prop where
  keep : ∀ b o, b ≠ x → h.get? b = some o → h'.get? b = some o
  obj : h'.get? x = some { cls := .ref C, dict := some dx, data := .fields #[.ref t1, .none, .none, .none, .bool false, .none] }
  dbig : h.objs.size ≤ dx
  dne : dx ≠ x
  ns : h'.Ns1 dx (fun y => if y = fld then some v else none)
theorem kept_but {K : Frag} {h h' : Heap} {x : Addr} (X : K.In h) (hx : K.lookup x = none) (k : ∀ b o, b ≠ x → h.get? b = some o → h'.get? b = some o) : K.In h' := fun a o e =>
  k a o (fun z => by rw [z, hx] at e; cases e) (X a o e)
section
variable {prog : Program} {w : World} {A : Around} {E : Value → Shared → Prop} {R : Result → Shared → Prop} {s : Shared} {K : Frag} {mg mb : Str → Option Value} {cn fld par : Str} {vok : Value → Prop} {C fI : Addr}
/-- the wrapper called: the exception's args are laid anew -/
theorem call_mw {h : Heap} {g : Array GenState} {d : Drawn} {t : Nat} {os : OsState} {nm q : Str} {N : Addr} {bs bm : List Value} {sn : List Str} {sub : List Value} {ab : Bool} {col : Option Bool} {dd : Option Addr} {k0 k1 k2 k3 k5 : Option Value}
    {u x t0 : Addr} {rest : List Value} {Q : Value → Shared → Prop} (hC : h.get? C = some (excClassObj nm q C N bs bm true sn sub ab col dd k0 k1 k2 k3 k5 "ValueError.__new__")) (hbm : refsVE bm = true) (he : h.get? x = some (excO C t0))
    (hu : h.get? u = some (kxs_mw "ValueError.__init__" x)) (hz : rest.length ≤ sizeLine)
    (hq : ∀ h' t1, (∀ b o, b ≠ x → h.get? b = some o → h'.get? b = some o) → h'.get? x = some (excO C t1) → Q .none ⟨h', g, d, t, os⟩) :
    wpAny (model prog w) A (call (.ref u) rest) Q E ⟨h, g, d, t, os⟩ := by
  refine wpAny_call (codeAny_of_tree ?_)
  show wpAny _ A.in1 (callAny (.ref u) ⟨rest, []⟩) _ _ _
  simp only [callAny]
  refine wpAny_bind (wpAny_load hu ?_)
  simp only [kxs_mw, show (Value.type "method-wrapper" == Value.type "method" || Value.type "method-wrapper" == Value.type "builtin_function_or_method" || Value.type "method-wrapper" == Value.type "method-wrapper") = true by decide, if_true]
  refine KFB.if_so (by decide) ?_
  refine wpAny_bind (check_bound_init F.excBase_ValueError.toExcCallFacts hC he rfl ?_)
  refine wpAny_bind (wpAny_pure (wpAny_pure ?_))
  refine ⟨plainId_quiet F.excBase_ValueError.init.plain _, codeAny_builtin F.excBase_ValueError.initEntry ?_⟩
  exact exc_init_tree (cls := .ref C) (t0 := t0) (dv := none) (c2 := .none) (c3 := .none) (b4 := .bool false) he hz fun h' k e' _ => hq h' _ k e'

theorem own_init (T : ExTxt K mg prog w cn fld par vok C fI) {x t0 : Addr} {v : Value} (hvok : vok v) (X : K.In s.heap) (hlim : s.heap.NoLimit) (hg : s.heap.Ns mainGlobals mg) (hb : s.heap.Ns builtinsNs mb) (hbb : ∀ y : Str, y ≠ "__name__" → mb y = bootBuiltins y)
    (hx : s.heap.get? x = some (excO C t0)) (hnx : K.lookup x = none) (hroom : A.depth < recursionLimit)
    (hq : ∀ h' tk dx t1, InitEnd s.heap h' x C dx t1 fld v → R (.ok (.ret .none)) { s with heap := h', toks := tk }) :
    codeAny (model prog w) A (.call (.ref fI) ⟨[.ref x, v], []⟩) R s := by
  obtain ⟨oc, od, qual, kV, doc, pm, an, ct, osl, cc, cda, msg, p1, p2, q1, q2, q3, q4, q5, q6, q7, q8, q9, cl, ccl, cld, cdd, csl, ccs, vs, file, tf, ho, hcd, hcc, hcda, hvs, hfile, hmsg, hstar, hform, hbd⟩ := T.fn
  obtain ⟨nm, q, N, bs, bm, sn, sub, ab, col, dd, k0, k1, k2, k3, k5, hC, hbm, hal⟩ := T.cls
  obtain ⟨n1, n2, n3, n4⟩ := T.okN
  have hcl : clsIn K C = some { name := nm, bases := bs, mro := .ref C :: bm, ns := N, qualname := q, hasDict := true, slotNames := sn, subclasses := sub, abstract := ab, collection := col, hasDel := false } := by unfold clsIn; rw [hC] <;> rfl
  have hxs : s.heap.objs.size ≠ x := Nat.ne_of_gt (Heap.lt_size hx)
  have par1 : List.lookup par (iS par).names = some .local := by
    show List.lookup par [(PySem.Str.ofString "self", _), (par, _), _, _] = _
    have e : (par == ("self" : Str)) = false := by simpa using n1
    simp [List.lookup, e]
  have cls1 : List.lookup ("__class__" : Str) (iS par).names = some .free := by
    show List.lookup ("__class__" : Str) [(PySem.Str.ofString "self", _), (par, _), (PySem.Str.ofString "__class__", _), _] = _
    have e1 : (("__class__" : Str) == ("self" : Str)) = false := by decide
    have e2 : (("__class__" : Str) == par) = false := by simpa using Ne.symm n2
    simp [List.lookup, e1, e2]
  have sup1 : List.lookup ("super" : Str) (iS par).names = some .globalImplicit := by
    show List.lookup ("super" : Str) [(PySem.Str.ofString "self", _), (par, _), (PySem.Str.ofString "__class__", _), (PySem.Str.ofString "super", _)] = _
    have e1 : (("super" : Str) == ("self" : Str)) = false := by decide
    have e2 : (("super" : Str) == par) = false := by simpa using Ne.symm n3
    have e3 : (("super" : Str) == ("__class__" : Str)) = false := by decide
    simp [List.lookup, e1, e2, e3]
  have hbind : BindsTo s (ksFn "__init__" qual (iP par p1 p2) (iB fld par msg q1 q2 q3 q4 q5 q6 q7 q8 q9) (iS par) .none kV doc pm an (.ref cda) ct cc) ⟨[.ref x, v], []⟩ [("self", .ref x), (par, v)] := BindsTo.of_eq (hbd _ _)
  refine ks_codeAny_call_defAt (binds := [("self", .ref x), (par, v)]) hroom (X _ _ ho) rfl hlim (codeRec_of X hcd) rfl hbind (fun y hy => ?_) (fun y hy => ?_) (fun h₀ hns hk => ?_) rfl rfl rfl
  · have hy' : y ∈ [(PySem.Str.ofString "self", NameKind.local), (par, .local), (PySem.Str.ofString "__class__", .free), (PySem.Str.ofString "super", .globalImplicit)] := hy
    simp only [List.mem_cons, List.not_mem_nil, or_false] at hy'
    rcases hy' with rfl | rfl | rfl | rfl <;> exact fun z => nomatch z
  · simp only [List.mem_cons, List.not_mem_nil, or_false] at hy
    rcases hy with rfl | rfl
    · rfl
    · exact par1
  have hlook : List.lookup par [(par, v), (("self" : Str), Value.ref x)] = some v := by simp [List.lookup]
  have hlookS : List.lookup ("self" : Str) [(par, v), (("self" : Str), Value.ref x)] = some (.ref x) := by
    have e : ((("self" : Str) : Str) == par) = false := by simpa using Ne.symm n1
    simp [List.lookup, e]
  have X0 : K.In h₀ := X.keeps hk
  have hx0 := hk _ _ hx
  show wpAt (model prog w) _ _ (execs (iB fld par msg q1 q2 q3 q4 q5 q6 q7 q8 q9) _) _ _ _
  refine ks_wpAt_execs_cons ?_
  refine ks_wpAt_Expr_any ?_
  obtain ⟨pl, hpl⟩ := hform (callEnv (ksFn "__init__" qual (iP par p1 p2) (iB fld par msg q1 q2 q3 q4 q5 q6 q7 q8 q9) (iS par) .none kV doc pm an (.ref cda) ct cc) s.heap.objs.size fI)
  refine ks_wpAt_MethodCall (pl := pl) ?_ hpl
  refine ks_wpAt_super_base (f := fI) (cc := cda) sup1 cls1 (by decide) rfl (X0 _ _ ho) rfl rfl rfl (X0 _ _ hcda) rfl hvs hfile T.top ?_
  refine ks_loadName_global rfl sup1 (loadGlobal_builtin (mg := mg) (mb := mb) (hg.keeps hk) T.sup (hb.keeps hk) ((hbb "super" (by decide)).trans PyProof.Rows.Boot.«super») ⟨rfl, ?_⟩)
  refine wpAny_loadName_free rfl cls1 (c := cc) rfl ⟨_, X0 _ _ hcc, rfl⟩ ?_
  refine wpAny_loadName_local rfl rfl hns hlookS ?_
  refine ks_wpAny_isType_cls (X0 _ _ hC) rfl ⟨rfl, ?_⟩
  refine ks_wpAny_call_super (X0 _ _ hC) rfl hx0 rfl (fun c z => nomatch z) (looks_mroIn X0 T.selfC) (fun h1 e1 k1 => ?_)
  have X1 : K.In h1 := X0.keeps k1
  have hx1 := k1 _ _ hx0
  have hxC : x ≠ C := fun z => by
    rw [z] at hnx
    have hC' : List.lookup C K = none := hnx
    rw [hC] at hC'
    cases hC'
  have I1 : InstAt h1 x (excO C t0) C none := ⟨hx1, rfl, rfl, trivial⟩
  have hI : Looks (model prog w) h1 (isInstance (.ref x) (.type "ValueError")) true := I1.type.andThen (looks_subIn X1 T.veC)
  refine kxs_getMethod kxs_ValueError (l₀ := .ref C :: bm) (l := bm) e1 (looks_opaque X1 T.opq) ((looks_clsIn X1 hcl).andThen .now) (by simp [List.dropWhile_cons]) X1 hal hI hxC (by decide) ?_
  show wpAny (model prog w) _ (callWith q4 (.ref h1.objs.size) [] (backTo q4 (starEach [msg] _)) []) _ _ _
  have kp : ∀ b o, h1.get? b = some o → (h1.push (kxs_mw "ValueError.__init__" x)).get? b = some o := fun b o e => Heap.get?_push_of_some _ e
  have hup : (h1.push (kxs_mw "ValueError.__init__" x)).get? h1.objs.size = some (kxs_mw "ValueError.__init__" x) := Heap.get?_push_at rfl rfl
  refine kxs_callWith (i := "ValueError.__init__") (x := x) (by rw [hstar]; rfl) ?_
  rw [hstar]
  refine evalArgs_plain ?_
  refine Calls.spliced_cons (hmsg _ _ _ _ _ v _ rfl ((hns.keeps k1).keeps kp) hlook hvok fun u tk => ?_)
  refine Calls.spliced_nil ⟨hup, ?_⟩
  refine call_mw (kp _ _ (X1 _ _ hC)) hbm (kp _ _ hx1) hup (one_size _) fun h2 t1 k2 e2 => ?_
  have X2 : K.In h2 := kept_but (X1.keeps kp) hnx k2
  have hL : s.heap.objs.size ≠ x := hxs
  have hn2 : h2.Ns s.heap.objs.size (fun y => List.lookup y ([("self", Value.ref x), (par, v)] : List (Str × Value)).reverse) := by
    obtain ⟨oL, es, ep, hLo, r⟩ := (hns.keeps k1).keeps kp
    exact ⟨oL, es, ep, k2 _ _ hL hLo, r⟩
  show wpAt (model prog w) _ _ (execs _ _) _ _ _
  refine wpAt_of_wpAny (wpAny_execs_cons (plainObj_wpAny_Assign_Attribute ?_))
  refine wpAny_Name (wpAny_loadName_local rfl par1 hn2 hlook ?_) n4
  refine wpAny_Name (wpAny_loadName_local rfl rfl hn2 hlookS ?_) (by decide)
  refine set_plain X2 (ox := excO C t1) (od := none) ⟨e2, rfl, rfl, trivial⟩ T.sa ?_
  refine exc_osa X2 e2 hcl (show refsVE (.ref C :: bm) = true from hbm) rfl T.noN (fun h3 tk3 dx k3 dn dne hx3 hn3 => ?_)
  have old : ∀ b o, b ≠ x → s.heap.get? b = some o → h2.get? b = some o := fun b o hbx e => k2 b o hbx (kp _ _ (k1 _ _ (hk _ _ e)))
  have z : s.heap.objs.size ≤ h2.objs.size := Nat.le_of_lt hn2.lt
  exact wpAny_execs_nil (hq h3 tk3 dx t1 ⟨fun b o hbx e => k3 b o hbx (old b o hbx e), hx3, Nat.le_trans z dn, dne, hn3⟩)

/-- a made error -/
structure OwnMade (h h' : Heap) (e C d : Addr) (fld : Str) (v : Value) : Prop where
  keep : ∀ b o, h.get? b = some o → h'.get? b = some o
  new : h.objs.size ≤ e
  obj : ∃ oe vs, h'.get? e = some oe ∧ oe.cls = .ref C ∧ oe.dict = some d ∧ oe.data = .fields vs ∧ vs[1]? = some .none
  dbig : h.objs.size ≤ d
  dne : d ≠ e
  ns : h'.Ns1 d (fun y => if y = fld then some v else none)
theorem own_made (T : ExTxt K mg prog w cn fld par vok C fI) {v : Value} (hvok : vok v) (X : K.In s.heap) (hlim : s.heap.NoLimit) (hg : s.heap.Ns mainGlobals mg) (hb : s.heap.Ns builtinsNs mb) (hbb : ∀ y : Str, y ≠ "__name__" → mb y = bootBuiltins y)
    (hroom : A.depth + 1 < recursionLimit) (hq : ∀ h' tk e d, OwnMade s.heap h' e C d fld v → R (.ok (.ret (.ref e))) { s with heap := h', toks := tk }) :
    codeAny (model prog w) A (.call (.ref C) ⟨[v], []⟩) R s := by
  obtain ⟨nm, q, N, bs, bm, sn, sub, ab, col, dd, k0, k1, k2, k3, k5, hC, hbm, _⟩ := T.cls
  obtain ⟨hp, g, dr, tk, os⟩ := s
  have k : ∀ b o, hp.get? b = some o → ((hp.push (kdv_tup [v])).push (excO C hp.objs.size)).get? b = some o := fun b o e => Heap.get?_push_of_some _ (Heap.get?_push_of_some _ e)
  have hget : ((hp.push (kdv_tup [v])).push (excO C hp.objs.size)).get? (hp.objs.size + 1) = some (excO C hp.objs.size) := by heap_get
  have hnx : K.lookup (hp.objs.size + 1) = none := by
    cases e : K.lookup (hp.objs.size + 1) with
    | none => rfl
    | some o =>
      have z : hp.get? (hp.objs.size + 1) = some o := X _ _ e
      exact absurd (Nat.lt_of_succ_lt (Heap.lt_size z)) (Nat.lt_irrefl _)
  refine call_own F.excBase_ValueError (fun Y => refsVE_contains Y bm hbm) (X _ _ hC) (looks_findIn X T.iC) (fun self => bind_fn X self T.tC) (one_size v) ?_
  refine own_init (s := ⟨(hp.push (kdv_tup [v])).push (excO C hp.objs.size), g, dr, tk, os⟩) T hvok (X.keeps k) (hlim.keeps k) (hg.keeps k) (hb.keeps k) hbb hget hnx ?_ fun h' tk' dx t1 ⟨k', hx, dn, dne, hns⟩ => ?_
  · show A.depth + 1 < recursionLimit
    exact hroom
  · have old : ∀ b o, hp.get? b = some o → h'.get? b = some o := fun b o e => k' b o (Nat.ne_of_lt (Nat.lt_succ_of_lt (Heap.lt_size e))) (k b o e)
    have z : hp.objs.size + 1 + 1 ≤ dx := by
      first
        | (simpa only [Heap.size_push] using dn)
        | exact dn
        | (have q := dn; rw [Heap.size_push, Heap.size_push] at q; exact q)
    exact ⟨rfl, hq h' tk' (hp.objs.size + 1) dx ⟨old, Nat.le_succ _, ⟨_, _, hx, rfl, rfl, rfl, rfl⟩, Nat.le_trans (Nat.le_trans (Nat.le_succ _) (Nat.le_succ _)) z, dne, hns⟩⟩
end
end SLX
end PySem
namespace L2
open PySem PySem.Spec PyProof.Rows
theorem relO_one {v : V} {v' : Value} {fld : Str} (r : RelV v v') (f : Str) : RelO (List.lookup f [(fld, v)]) (if f = fld then some v' else none) := by
  by_cases hw : f = fld
  · subst hw
    rw [if_pos rfl]
    have q : List.lookup f [(f, v)] = some v := by simp [List.lookup]
    rw [q]
    exact r
  · rw [if_neg hw]
    have qw : (f == fld) = false := by simpa using hw
    have q2 : List.lookup f [(fld, v)] = none := by simp [List.lookup, qw]
    rw [q2]
    trivial
section
variable {X : Cx} {C fI : Addr} {cn fld par : Str} {vok : Value → Prop}
/-- C(e), the error's own dict d new -/
def tMkEx (C : Addr) (fld : Str) (vok : Value → Prop) (ta : TA) : St → Hp → XK → Prop := fun σ H Q => ta σ H fun vs H1 => ∃ v, vs = [v] ∧ (∀ u, RelV v u → vok u) ∧ ∀ d, H1 d = none → Q (.ref C) (some d) (upd H1 d (.xd [(fld, v)]))
theorem pmk_ex {a : Expr} {ta : TA} {p pos : Pos} {k : Nat} (T : PySem.SLX.ExTxt X.K X.mg X.prog X.w cn fld par vok C fI) (hr : Room k X.A) (ha : PA X [a] ta) (hg : Gl X cn := by rfl) (hdb : (cn == ("__debug__" : Str)) = false := by decide)
    (he : starEach (a :: []) X.env = (false, eval a X.env) :: starEach [] X.env := by rfl) (hpl : (backTo pos (starEach [] X.env)).any (·.1) = false := by rfl) :
    PMk X (.Call (.Name cn p) [a] [] pos) (tMkEx C fld vok ta) := by
  intro pins s σ H Q I h
  refine wpAny_Call_Name_kw (ld_glob I hg T.gC ?_ hdb)
  refine PySem.W.callWith_K (h₀ := X.base) I.ok.mod.kin T.kC (thn (ha.run pos pins s σ H _ I h) fun us s1 hh => ?_) he hpl
  obtain ⟨vs, H1, I1, r1, v, ev, hv, q1⟩ := hh
  subst ev
  refine ⟨I1.kIn, ?_⟩
  cases r1 with
  | cons rv rn =>
    rename_i v' us'
    cases rn
    show wpAny _ _ (call (.ref C) [v']) _ _ _
    have hlim := I1.nolimit
    have hmg := I1.ok.mod.glob.keeps I1.bk
    obtain ⟨mb, hmb, hbb⟩ := I1.ok.mod.blt
    have hmb' := hmb.keeps I1.bk
    obtain ⟨hp, g, dr, tk, os⟩ := s1
    refine wpAny_call (PySem.SLX.own_made T (hv _ rv) I1.kIn hlim hmg hmb' hbb (by have := hr.dp; omega) fun h' tk' e d M => ?_)
    show MkP X pins σ Q (.ref e) ⟨h', g, dr, tk', os⟩
    obtain ⟨oe, fv, hoe, hc, hd, hdat, h1⟩ := M.obj
    have hns := M.ns
    obtain ⟨G', g1, g2⟩ := restrict h' fun b => decide (b ≠ e)
    have gk : ∀ b, b ≠ e → G'.get? b = h'.get? b := fun b hb => g1 b (decide_eq_true hb)
    have ge : G'.get? e = none := g2 e (by simp)
    have old : ∀ b o, hp.get? b = some o → G'.get? b = some o := fun b o q => (gk b (Nat.ne_of_lt (Nat.lt_of_lt_of_le (Heap.lt_size q) M.new))).trans (M.keep b o q)
    have ob : ObjOk X.prog X.w (upd H1 d (.xd [(fld, v)])) G' d (.xd [(fld, v)]) :=
      ⟨_, hns.at (fun o q => (gk d M.dne).trans q), fun f => relO_one rv f⟩
    have J : Inv X pins σ (upd H1 d (.xd [(fld, v)])) ⟨G', g, dr, tk', os⟩ := I1.laid (t' := tk') old M.dbig ob
    refine ⟨e, oe, fv, ⟨G', g, dr, tk', os⟩, _, .ref C, some d, rfl, J, fun b o q => ?_, ge, hoe, ⟨hc, hd⟩, hdat, h1, ?_, rfl, I1.bare, raises_own T.exC T.tyC, q1 d (I1.hok.fresh M.dbig)⟩
    · by_cases hb : b = e
      · have q' : G'.get? b = some o := q
        rw [hb, ge] at q'; cases q'
      · exact (gk b hb).symm.trans q
    · rw [upd_ne (Ne.symm M.dne)]
      exact I1.hok.fresh M.new
/-- raise C(e) -/
theorem ps_raiseEx {a : Expr} {ta : TA} {W : WX} {p pos pos2 : Pos} {k : Nat} (hc : X.calm = true) (T : PySem.SLX.ExTxt X.K X.mg X.prog X.w cn fld par vok C fI) (hr : Room k X.A) (tk : Takes X W) (ha : PA X [a] ta) (hg : Gl X cn := by rfl) (hdb : (cn == ("__debug__" : Str)) = false := by decide)
    (he : starEach (a :: []) X.env = (false, eval a X.env) :: starEach [] X.env := by rfl) (hpl : (backTo pos (starEach [] X.env)).any (·.1) = false := by rfl) :
    PS X (.Raise (some (.Call (.Name cn p) [a] [] pos)) none pos2) (fun _ σ H => tMkEx C fld vok ta σ H fun cls d H' => W cls d σ H') := ps_raise hc tk (pmk_ex T hr ha hg hdb he hpl)
/-- e.fld, e the error that the suite holds (at a; its class cls, its dict d) -/
def tExF (C : Addr) (fld : Str) (a : Addr) (cls : Value) (d : Option Addr) (te : TE) : TE := fun σ H Q => te σ H fun x H1 => x = .ref a ∧ cls = .ref C ∧ ∃ (dd : Addr) (v : V), d = some dd ∧ H1 dd = some (.xd [(fld, v)]) ∧ Q v H1
theorem pe_exf {a : Addr} {oe : Obj} {cls : Value} {d : Option Addr} {pn : List (Addr × Obj)} {e : Expr} {te : TE} {pos : Pos} (T : PySem.SLX.ExTxt X.K X.mg X.prog X.w cn fld par vok C fI) (hz : Zc cls d oe) (hf : ∃ vs, oe.data = .fields vs) (he : PE (X.suite a ((a, oe) :: pn)) e te)
    (hb : attributeBase e fld X.env (eval e X.env) = eval e X.env := by rfl) :
    PE (X.suite a ((a, oe) :: pn)) (.Attribute e fld pos) (tExF C fld a cls d te) := by
  refine ⟨fun pins s σ H Q I h => ?_⟩
  refine attr_of hb (thn (he.run pins s σ H _ I h) fun u s1 hh => ?_)
  obtain ⟨x, H1, I1, rx, ex, ec, dd, v, ed, ea, q⟩ := hh
  subst ex
  obtain rfl : u = Value.ref a := rx
  subst ec
  subst ed
  obtain ⟨ha, _⟩ := I1.pin (a, oe) (List.mem_append_left _ List.mem_cons_self)
  obtain ⟨vs, hd⟩ := hf
  have hx : ObjOk X.prog X.w H1 s1.heap dd (.xd [(fld, v)]) := I1.hok dd _ ea
  obtain ⟨mA, hns, hr⟩ := hx
  obtain ⟨od, ho, hl⟩ := lookIn_ns hns
  have l : List.lookup fld [(fld, v)] = some v := by simp [List.lookup]
  obtain ⟨u, hu, ru⟩ := RelO.some_of (v := v) (o := mA fld) (by rw [← l]; exact hr fld)
  have J : PySem.W.InstAt s1.heap a oe C (some od) := ⟨ha, hz.1, by unfold PySem.W.notCls; rw [hd] <;> rfl, by rw [hz.2]; exact ho⟩
  exact HandSPX.exc_get I1.kIn J T.ga T.gg T.exC (PySem.W.findObj_own T.hdC T.noN rfl (by rw [hl, hu])) (handed_of ru) ⟨v, H1, I1.tok _, ru, q⟩
end

/-! ### several except clauses, some with a name -/
abbrev Clause := Value × Option Nat × (Addr → Value → Option Addr → TS)
def unnamed (i : Nat) (D : Ends) : Ends := { nx := fun σ' H' => D.nx (σ'.set i none) H', rt := D.rt, bk := fun σ' H' => D.bk (σ'.set i none) H', ct := fun σ' H' => D.ct (σ'.set i none) H' }
/-- what the clauses wish of an exception of the body, one after the other -/
def wClauses (K : PySem.W.Frag) (Wout : WX) (D : Ends) : List Clause → WX
  | [] => Wout
  | (c, none, ts) :: r => fun cls d σ H => ∃ b, PySem.W.exmOne K cls c = some b ∧ (b = true → ∀ a, H a = none → ts a cls d D σ H) ∧ (b = false → wClauses K Wout D r cls d σ H)
  | (c, some i, ts) :: r => fun cls d σ H => ∃ b, PySem.W.exmOne K cls c = some b ∧ (b = true → ∀ a, H a = none → ts a cls d (unnamed i D) (σ.set i (some (.ref a))) H) ∧ (b = false → wClauses K Wout D r cls d σ H)
inductive ClausesOk (X : Cx) : List ExceptHandler → List Clause → Prop
  | nil : ClausesOk X [] []
  | only {x : Str} {c : Value} {ts : Addr → Value → Option Addr → TS} {b₀ : Stmt} {suite : List Stmt} {np pos' : Pos} {hds : List ExceptHandler} {l : List Clause} (hc : Names X x c)
      (hsu : ∀ (a : Addr) (oe : Obj) (cls : Value) (d : Option Addr) (pn : List (Addr × Obj)), Zc cls d oe → (∃ vs, oe.data = .fields vs) → PSs (X.suite a ((a, oe) :: pn)) (b₀ :: suite) (ts a cls d)) (r : ClausesOk X hds l) :
      ClausesOk X (.ExceptHandler (some (.Name x np)) none (b₀ :: suite) pos' :: hds) ((c, none, ts) :: l)
  | named {x n : Str} {i : Nat} {c : Value} {ts : Addr → Value → Option Addr → TS} {b₀ : Stmt} {suite : List Stmt} {np pos' : Pos} {hds : List ExceptHandler} {l : List Clause} (hi : X.N[i]? = some n) (hln : X.env.kindOf n = some .local) (hc : Names X x c)
      (hsu : ∀ (a : Addr) (oe : Obj) (cls : Value) (d : Option Addr) (pn : List (Addr × Obj)), Zc cls d oe → (∃ vs, oe.data = .fields vs) → PSs (X.suite a ((a, oe) :: pn)) (b₀ :: suite) (ts a cls d)) (r : ClausesOk X hds l) :
      ClausesOk X (.ExceptHandler (some (.Name x np)) (some n) (b₀ :: suite) pos' :: hds) ((c, some i, ts) :: l)
section
variable {X : Cx} {body : List Stmt} {h₀ : ExceptHandler} {hds : List ExceptHandler} {l : List Clause} {pos : Pos} {tb : WX → TS} {Wout : WX}
/-- how a suite's end is an end of the statement, where no name is to be undone -/
theorem suite_end {pins : List (Addr × Obj)} {D : Ends} {a : Addr} {q : Addr × Obj} {f : Flow} {s : Shared} (ok : X.Ok) (h : SP (X.suite a (q :: (X.pn ++ pins))) [] D f s) : SP X pins D f s := by
  cases f with
  | ret u =>
    obtain ⟨v, σ', H', S, r, g⟩ := h
    exact ⟨v, σ', H', S.unsuite ok, r, g⟩
  | next =>
    obtain ⟨σ', H', S, g⟩ := h
    exact ⟨σ', H', S.unsuite ok, g⟩
  | brk =>
    obtain ⟨σ', H', S, g⟩ := h
    exact ⟨σ', H', S.unsuite ok, g⟩
  | cont =>
    obtain ⟨σ', H', S, g⟩ := h
    exact ⟨σ', H', S.unsuite ok, g⟩
theorem try_end {pins pn' : List (Addr × Obj)} {D : Ends} {xe : Value → Shared → Prop} {f : Flow} {s : Shared} (ok : X.Ok) (h : SP (X.tr (X.pn ++ pins) xe) pn' D f s) : SP X pins D f s := by
  cases f with
  | ret u =>
    obtain ⟨v, σ', H', S, r, g⟩ := h
    exact ⟨v, σ', H', S.ofTry ok, r, g⟩
  | next =>
    obtain ⟨σ', H', S, g⟩ := h
    exact ⟨σ', H', S.ofTry ok, g⟩
  | brk =>
    obtain ⟨σ', H', S, g⟩ := h
    exact ⟨σ', H', S.ofTry ok, g⟩
  | cont =>
    obtain ⟨σ', H', S, g⟩ := h
    exact ⟨σ', H', S.ofTry ok, g⟩
/-- the statement: X is a def's own frame -/
theorem ps_clauses (hs : X.stack = X.env :: X.outer) (hf : X.env.frame = some X.env.locals) (hN : X.N.Nodup) (tk : Takes X Wout)
    (hb : ∀ (W : WX) (pn : List (Addr × Obj)) (xe : Value → Shared → Prop), Takes (X.tr pn xe) W → PassesOwn (model X.prog X.w) X.A X.env xe → PSs (X.tr pn xe) body (tb W))
    (hh : ClausesOk X (h₀ :: hds) l) : PS X (.Try body (h₀ :: hds) [] [] pos) (fun D σ H => tb (wClauses X.K Wout D l) D σ H) := by
  refine ⟨fun pins s σ H D I h => ?_⟩
  have ok := I.ok
  have hfr : X.A.frames = some (X.env :: X.outer) := by rw [ok.frames, hs]
  have body_run := (hb (wClauses X.K Wout D l) (X.pn ++ pins) (fun e s₁ => wpAny (model X.prog X.w) X.A (noteFrame e X.env) (fun _ s₂ => wpAny (model X.prog X.w) X.A (setFlight e none) (fun _ s₃ => wpAny (model X.prog X.w) X.A (handleBy e X.env (h₀ :: hds)) (SP X pins D) X.xe s₃) X.xe s₂) X.xe s₁)
    (fun u s' air => ?_) PassesOwn.looking).run [] s σ H D (I.toTry _) h
  · refine wpAny_Try_except (wpAny_mono body_run (fun f s1 hsp => ?_) fun e s1 he => he)
    have z := try_end ok hsp
    cases f with
    | next =>
      obtain ⟨σ', H', J, q⟩ := z
      exact wpAny_execs_nil ⟨σ', H', J, q⟩
    | brk => exact z
    | cont => exact z
    | ret u => exact z
  · obtain ⟨a, B, sI, pins', σ', H', cls, d, rfl, J', nb, up, sky, na, os, ag, wish⟩ := air
    have J : Inv X pins σ' H' sI := J'.ofTry ok
    rw [show (X.tr (X.pn ++ pins) _).stack = X.env :: X.outer from hs] at sky
    refine Sky.land Zc.steady hfr hf sky fun h3 fl3 up3 => ?_
    have J3 : Inv X pins σ' H' { s' with heap := h3 } := J.landed nb fl3.1 (up.trans up3) os ag
    obtain ⟨oe3, vs3, he3, hz3, hd3⟩ := fl3.there
    have out : a ∉ frs (X.env :: X.outer) := fun hm => by
      obtain ⟨_, o', e', hnf⟩ := fl3.2.2.1.mem hm
      rw [he3] at e'
      cases e'
      exact hnf _ hd3
    have nL : a ≠ X.env.locals := fun z => out (List.mem_filterMap.mpr ⟨X.env, List.mem_cons_self, by rw [hf, z]⟩)
    have nF : a ∉ X.fs := fun hm => by
      obtain ⟨e, he, q⟩ := List.mem_filterMap.mp hm
      exact out (List.mem_filterMap.mpr ⟨e, List.mem_cons_of_mem _ he, q⟩)
    have S3 := J3.suite he3 hd3 na nL nF
    have LT : PySem.W.Looks (model X.prog X.w) h3 (typeOf (.ref a)) cls := fun A Q E s k q => wpAny_typeOf_ref (k _ _ he3) (by rw [hz3.1]; exact q)
    have name : ∀ {x : Str} {c : Value} {np : Pos} {Q E : Value → Shared → Prop}, Names X x c → Q c { s' with heap := h3 } → wpAny (model X.prog X.w) (X.A.mark (some (.ref a))) (eval (.Name x np) X.env) Q E { s' with heap := h3 } := fun {x c np Q E} hc q => by
      obtain ⟨hg, hdbg, hm | ⟨hm, hv, hnn⟩⟩ := hc
      · exact ld_glob (X := X.suite a ((a, oe3) :: (X.pn ++ pins))) S3 hg hm q hdbg
      · exact ld_blt (X := X.suite a ((a, oe3) :: (X.pn ++ pins))) S3 hg hm hv q hnn hdbg
    have go : ∀ {hds' : List ExceptHandler} {l' : List Clause}, ClausesOk X hds' l' → wClauses X.K Wout D l' cls d σ' H' → wpAny (model X.prog X.w) X.A (handleBy (.ref a) X.env hds') (SP X pins D) X.xe { s' with heap := h3 } := by
      intro hds' l' hk
      induction hk with
      | nil =>
        intro wsh
        have w0 : Wout cls d σ' H' := wsh
        refine wpAny_handleBy_nil ?_
        obtain ⟨k1, k2, k3, oe, vs, T, oT, ts', he, hz, hd, h1, hr⟩ := id fl3
        have fin : wpAny (model X.prog X.w) X.A (setFlight (.ref a) X.env.frame) (fun _ s4 => wpAny (model X.prog X.w) X.A (throw (.ref a) : Sem Flow) (SP X pins D) X.xe s4) X.xe { s' with heap := h3 } := by
          rw [hf]
          refine HandSPX.setFlight_upZ fl3 fun h4 hh4 up4 => wpAny_throw (tk _ _ ⟨a, B, sI, pins, σ', H', cls, d, rfl, J, nb, (up.trans up3).trans up4, .inr (.inr (by rw [hs]; exact hh4)), na, os, ag, w0⟩)
        unfold PySem.passOn
        refine wpAny_bind (wpAny_field he hd h1 ?_)
        rw [if_neg (show ¬ ((Value.ref T == Value.none) = true) from by simp)]
        first
          | exact wpAny_bind (wpAny_pure (wpAny_bind fin))
          | exact wpAny_bind fin
      | only hc hsu r ih =>
        rintro ⟨b, hb1, hyes, hno⟩
        refine wpAny_handleBy_cons (codeAny_handlers_test (name hc ((PySem.W.exm_one (M := model X.prog X.w) J3.kIn LT hb1).here ?_))) (by intro q; cases q)
        cases b with
        | false => exact ih (hno rfl)
        | true =>
          refine codeAny_handlers_suite (HandSPX.lands_againZ fl3 fun h4 fl4 up4 => ?_)
          have J4 : Inv X pins σ' H' { s' with heap := h4 } := J.landed nb fl4.1 ((up.trans up3).trans up4) os ag
          obtain ⟨oe4, vs4, he4, hz4, hd4⟩ := fl4.there
          exact wpAny_mono ((hsu a oe4 cls d (X.pn ++ pins) hz4 ⟨_, hd4⟩).run [] _ _ H' _ (J4.suite he4 hd4 na nL nF) (hyes rfl a na)) (fun f s6 hsp => suite_end ok hsp) fun _ _ z => False.elim z
      | @named x n i c ts b₀ suite np pos' hds2 l2 hi hln hc hsu r ih =>
        rintro ⟨b, hb1, hyes, hno⟩
        refine wpAny_handleBy_cons (codeAny_handlers_test (name hc ((PySem.W.exm_one (M := model X.prog X.w) J3.kIn LT hb1).here ?_))) (by intro q; cases q)
        cases b with
        | false => exact ih (hno rfl)
        | true =>
          refine codeAny_handlers_suite_as (HandSPX.lands_againZ fl3 fun h4 fl4 up4 => ?_)
          have J4 : Inv X pins σ' H' { s' with heap := h4 } := J.landed nb fl4.1 ((up.trans up3).trans up4) os ag
          obtain ⟨oe4, vs4, he4, hz4, hd4⟩ := fl4.there
          refine store_ok (X := X.suite a ((a, oe4) :: (X.pn ++ pins))) (v := .ref a) (J4.suite he4 hd4 na nL nF) hN hi (.inl hln) rfl (fun s5 S5 => ?_) (.inr hln)
          refine wpAny_mono ((hsu a oe4 cls d (X.pn ++ pins) hz4 ⟨_, hd4⟩).run [] s5 _ H' _ S5 (hyes rfl a na)) (fun f s6 hsp => ?_) fun _ _ z => False.elim z
          have undo : ∀ {σ6 : St} {H6 : Hp} {Q : Shared → Prop}, Inv (X.suite a ((a, oe4) :: (X.pn ++ pins))) [] σ6 H6 s6 → (∀ s7, Inv X pins (σ6.set i none) H6 s7 → Q s7) →
            wpAny (model X.prog X.w) X.A (do bindName X.env n .none; unbindBehindTheSuite X.env n pos') (fun _ s7 => Q s7) X.xe s6 := fun {σ6 H6 Q} S6 hq => gone_ok (S6.unsuite ok) hN hi hln hq
          cases f with
          | ret u =>
            obtain ⟨v6, σ6, H6, S6, r6, q6⟩ := hsp
            exact undo S6 fun s7 J7 => ⟨_, _, _, J7, r6, q6⟩
          | next =>
            obtain ⟨σ6, H6, S6, q6⟩ := hsp
            exact undo S6 fun s7 J7 => ⟨_, _, J7, q6⟩
          | brk =>
            obtain ⟨σ6, H6, S6, q6⟩ := hsp
            exact undo S6 fun s7 J7 => ⟨_, _, J7, q6⟩
          | cont =>
            obtain ⟨σ6, H6, S6, q6⟩ := hsp
            exact undo S6 fun s7 J7 => ⟨_, _, J7, q6⟩
    exact go hh wish
end
end L2
/-! What the laws of this program share: kinds of values, heaps, calls of a def by its name. -/
namespace SL
open PySem PySem.Spec PyProof.Rows L2
/-! ### kinds -/
inductive Knw (K : PySem.W.Frag) (H : Hp) : V → String → Prop
  | non : Knw K H .non "NoneType"
  | bl (b : Bool) : Knw K H (.bl b) "bool"
  | int (i : Int) : Knw K H (.int i) "int"
  | str (x : Str) : Knw K H (.str x) "str"
  | lst {a : Addr} {xs : List V} (h : SqL K H a xs) : Knw K H (.ref a) "list"
  | tup {a : Addr} {xs : List V} (h : SqT K H a xs) : Knw K H (.ref a) "tuple"
  | dic {a : Addr} {kvs : List (Key × V)} (h : H a = some (.dK kvs)) : Knw K H (.ref a) "dict"
theorem Same.seqT {K : PySem.W.Frag} {H H' : Hp} {a : Addr} {xs : List V} (e : Same H H') (h : SqT K H a xs) : SqT K H' a xs := by
  rcases h with (h | ⟨o, h⟩) | h
  · exact .inl (.inl (e _ _ h))
  · exact .inl (.inr ⟨o, e _ _ h⟩)
  · exact .inr h
section
variable {K : PySem.W.Frag} {H H' : Hp} {x : V} {T : String}
theorem Knw.ty (h : Knw K H x T) : TyX K H x (.type T) := by
  cases h with
  | non => exact .base .non
  | bl b => exact .base (.bl b)
  | int i => exact .base (.int i)
  | str s => exact .base (.str s)
  | lst h =>
    rcases h with (h | ⟨o, h⟩) | ⟨o, its, n, h, c, _⟩
    · exact .base (.lst h)
    · exact .base (.frz h)
    · exact .kList h c
  | tup h =>
    rcases h with (h | ⟨o, h⟩) | ⟨o, its, n, h, c, _⟩
    · exact .base (.tup h)
    · exact .fTuple h
    · exact .kTuple h c
  | dic h => exact .base (.dK h)
theorem Knw.same (s : Same H H') (h : Knw K H x T) : Knw K H' x T := by
  cases h with
  | non => exact .non
  | bl b => exact .bl b
  | int i => exact .int i
  | str z => exact .str z
  | lst h => exact .lst (s.seq h)
  | tup h => exact .tup (Same.seqT s h)
  | dic h => exact .dic (s _ _ h)
end
theorem kit_is {K : PySem.W.Frag} {a b : String} {r : Bool} (h : kitB a b = some r) : PySem.W.kitOne K (.type a) (.type b) = some r := kit_ty h
/-- isinstance against int, bool, list, tuple, str: of the seven kinds -/
def kinds : List String := ["NoneType", "bool", "int", "str", "list", "tuple", "dict"]
theorem Knw.mem {K : PySem.W.Frag} {H : Hp} {x : V} {T : String} (h : Knw K H x T) : T ∈ kinds := by cases h <;> decide
theorem kit_int {K : PySem.W.Frag} {T : String} (h : T ∈ kinds) : PySem.W.kitOne K (.type T) (.type "int") = some (decide (T = "int" ∨ T = "bool")) := by
  simp only [kinds, List.mem_cons, List.not_mem_nil, or_false] at h
  rcases h with rfl | rfl | rfl | rfl | rfl | rfl | rfl <;> exact kit_ty (by decide +kernel)
theorem kit_bool {K : PySem.W.Frag} {T : String} (h : T ∈ kinds) : PySem.W.kitOne K (.type T) (.type "bool") = some (decide (T = "bool")) := by
  simp only [kinds, List.mem_cons, List.not_mem_nil, or_false] at h
  rcases h with rfl | rfl | rfl | rfl | rfl | rfl | rfl <;> exact kit_ty (by decide +kernel)
theorem kit_str {K : PySem.W.Frag} {T : String} (h : T ∈ kinds) : PySem.W.kitOne K (.type T) (.type "str") = some (decide (T = "str")) := by
  simp only [kinds, List.mem_cons, List.not_mem_nil, or_false] at h
  rcases h with rfl | rfl | rfl | rfl | rfl | rfl | rfl <;> exact kit_ty (by decide +kernel)
theorem kit_list {K : PySem.W.Frag} {T : String} (h : T ∈ kinds) : PySem.W.kitOne K (.type T) (.type "list") = some (decide (T = "list")) := by
  simp only [kinds, List.mem_cons, List.not_mem_nil, or_false] at h
  rcases h with rfl | rfl | rfl | rfl | rfl | rfl | rfl <;> exact kit_ty (by decide +kernel)
theorem kit_tuple {K : PySem.W.Frag} {T : String} (h : T ∈ kinds) : PySem.W.kitOne K (.type T) (.type "tuple") = some (decide (T = "tuple")) := by
  simp only [kinds, List.mem_cons, List.not_mem_nil, or_false] at h
  rcases h with rfl | rfl | rfl | rfl | rfl | rfl | rfl <;> exact kit_ty (by decide +kernel)
theorem lineN {n : Nat} (h : n ≤ 100000) : n < sizeLine := Nat.lt_of_le_of_lt h (by rw [sizeLine_eq]; decide)
theorem few {n : Nat} (h : n ≤ 1000) : n ≤ sizeLine := Nat.le_trans h (by rw [sizeLine_eq]; decide)
theorem pos_i {n : Int} (h : decide (0 < n) = true) : 0 < n := of_decide_eq_true h
theorem iteV {A B : Prop} {x y : V} (h : x ≠ y) (k : B) : if decide (x = y) = true then A else B := by rw [decide_eq_false h]; exact iteF k
theorem iteS {A B : Prop} {x y : String} (h : decide (x = y) = false) (k : B) : if decide (x = y) = true then A else B := by rw [h]; exact iteF k
theorem iteU {A B : Prop} {c : Prop} [Decidable c] (h : c) (k : A) : if decide c = true then A else B := by rw [decide_eq_true h]; exact iteT k
theorem iteW {A B : Prop} {c : Prop} [Decidable c] (h : ¬ c) (k : B) : if decide c = true then A else B := by rw [decide_eq_false h]; exact iteF k
theorem lc_yes {A B : Hp → Prop} {σ : L2.St} {H : Hp} (h : A H) : tYes σ H (fun b H3 => if b = true then A H3 else B H3) := (iteT h : if true = true then A H else B H)
/-! ### the rules with the written part told (for blocks) -/
section
variable {X : Cx}
theorem sl_tupK (K : PySem.W.Frag) (h : X.K = K := by rfl) : SlR X (rSlA K) := by subst h; exact sl_tupA
theorem sl_listK (K : PySem.W.Frag) (h : X.K = K := by rfl) : SlR X (rSlL K) := by subst h; exact sl_list
theorem ix_listK (K : PySem.W.Frag) (h : X.K = K := by rfl) : IxR X (rIxL K) := by subst h; exact ix_list
theorem ix_tupK (K : PySem.W.Frag) (h : X.K = K := by rfl) : IxR X (rIxT K) := by subst h; exact ix_tup
theorem ix_seqK (K : PySem.W.Frag) (h : X.K = K := by rfl) : IxR X (rIx K) := by subst h; exact ix_seq
theorem call_isiK' (K : PySem.W.Frag) (h : X.K = K := by rfl) : CallR X (.builtin "isinstance") (rIsi K) := by subst h; exact call_isi
theorem call_lenK (K : PySem.W.Frag) (h : X.K = K := by rfl) : CallR X (.builtin "len") (fun xs H Q => ∃ p ys, xs = [.ref p] ∧ (SqL K H p ys ∨ SqT K H p ys) ∧ Q (.int ys.length) H) := by subst h; exact call_len_seq
theorem call_tupleK (K : PySem.W.Frag) (h : X.K = K := by rfl) : CallR X (.type "tuple") (fun xs H Q => ∃ p ys, xs = [.ref p] ∧ ((SqL K H p ys ∧ ∀ l, H l = none → Q (.ref l) (upd H l (.tup ys))) ∨ (SqT K H p ys ∧ Q (.ref p) H))) := by subst h; exact call_tuple_of
theorem op_catK (K : PySem.W.Frag) (h : X.K = K := by rfl) : OpR X (binaryOp .Add) (rCatA K) := by subst h; exact op_catA
end
/-! ### heaps -/
theorem same_upd {H : Hp} {p : Addr} {o : HO} (h : H p = none) : Same H (upd H p o) := fun b x e => by
  rw [upd_ne (ne_of_none e h)]
  exact e
/-- the heap without what stands at p -/
def off (H : Hp) (p : Addr) : Hp := fun b => if b = p then none else H b
theorem off_same (H : Hp) (p : Addr) : Same (off H p) H := fun b o e => by
  unfold off at e
  split at e
  · cases e
  · exact e
theorem off_at {H : Hp} {p : Addr} : off H p p = none := if_pos rfl
theorem off_ne {H : Hp} {p b : Addr} (h : b ≠ p) : off H p b = H b := if_neg h
theorem off_mono {H H' : Hp} {p : Addr} (s : Same H H') : Same (off H p) (off H' p) := fun b o e => by
  unfold off at e ⊢
  split at e
  · cases e
  · rename_i h
    rw [if_neg h]
    exact s _ _ e
theorem off_upd {H : Hp} {p : Addr} {o : HO} : Same (off H p) (off (upd H p o) p) := fun b u e => by
  unfold off at e ⊢
  split at e
  · cases e
  · rename_i h
    rw [if_neg h, upd_ne h]
    exact e
/-- what was said of the rest stays true whatever is stored at p -/
theorem off_put {H : Hp} {p : Addr} {o : HO} : Same (off H p) (upd H p o) := fun b u e => by
  unfold off at e
  split at e
  · cases e
  · rename_i h
    rw [upd_ne h]
    exact e
theorem off_of {H H' : Hp} {p : Addr} (s : Same H H') (n : H p = none) : Same H (off H' p) := fun b o e => by
  rw [off_ne (ne_of_none e n)]
  exact s _ _ e
/-- what stood at b stands there, if b is not p -/
theorem off_get {H H' : Hp} {p b : Addr} {o : HO} (s : Same (off H p) (off H' p)) (n : b ≠ p) (e : H b = some o) : H' b = some o := by
  have z := s b o (by rw [off_ne n]; exact e)
  rw [off_ne n] at z
  exact z
/-! ### sums and slices of tuples, whatever they reuse -/
section
variable {X : Cx}
def rCatU (K : PySem.W.Frag) : R2 := fun x y H Q => ∃ a b xs ys, x = .ref a ∧ y = .ref b ∧ SqT K H a xs ∧ SqT K H b ys ∧ xs.length + ys.length ≤ 100000 ∧ ∀ c H', Same H H' → SqT K H' c (xs ++ ys) → Q (.ref c) H'
theorem op_catU (K : PySem.W.Frag) (h : X.K = K := by rfl) : OpR X (binaryOp .Add) (rCatU K) := by
  subst h
  intro pins s σ H x y v u Q I rx ry z
  obtain ⟨a, b, xs, ys, e1, e2, ha, hb, hz, q⟩ := z
  refine op_catA pins s σ H x y v u Q I rx ry ⟨a, b, xs, ys, e1, e2, ha, hb, Nat.le_of_lt (lineN hz), fun e => ?_, fun _ e => ?_, fun _ _ p np => ?_⟩
  · subst e
    exact q b H (Same.refl H) hb
  · subst e
    exact q a H (Same.refl H) (by rw [List.append_nil]; exact ha)
  · exact q p _ (same_upd np) (SqT.of upd_same)
def rSlU (K : PySem.W.Frag) : V → Option Int → Option Int → Hp → VK → Prop := fun x lo hi H Q => ∃ a xs, x = .ref a ∧ SqT K H a xs ∧ ∀ c H', Same H H' → SqT K H' c (cutV xs lo hi) → Q (.ref c) H'
theorem sl_tupU (K : PySem.W.Frag) (h : X.K = K := by rfl) : SlR X (rSlU K) := by
  subst h
  intro pins s σ H x v vl vu lo hi sl Q I rx hs pl pu z
  obtain ⟨a, xs, e, hx, q⟩ := z
  refine sl_tupA pins s σ H x v vl vu lo hi sl Q I rx hs pl pu ⟨a, xs, e, hx, fun w => q a H (Same.refl H) ?_, fun _ p np => q p _ (same_upd np) (SqT.of upd_same)⟩
  unfold cutV
  rw [w.1, w.2, List.drop_zero, Nat.sub_zero, List.take_length]
  exact hx
end
theorem Tups.get {K : PySem.W.Frag} {H : Hp} : ∀ {vs : List V} {cs : List (List V)} {i : Nat} {v : V}, Paired (fun v c => ∃ a, v = V.ref a ∧ SqT K H a c) vs cs → vs[i]? = some v → ∃ c b, cs[i]? = some c ∧ v = .ref b ∧ SqT K H b c
  | _, _, _, _, .nil, h => by simp at h
  | _, _, 0, v, .cons (b := c) h _, e => by
    simp at e
    subst e
    obtain ⟨b, e1, e2⟩ := h
    exact ⟨c, b, rfl, e1, e2⟩
  | _, _, i + 1, v, .cons _ t, e => by
    obtain ⟨c, b, h1, h2, h3⟩ := Tups.get (i := i) t (by simpa using e)
    exact ⟨c, b, by simpa using h1, h2, h3⟩
/-! ### data -/
mutual
theorem Dp.same {K : PySem.W.Frag} {H H' : Hp} (s : Same H H') : ∀ {v : V} {d : PyData}, Dp K H v d → Dp K H' v d
  | _, _, .non => .non
  | _, _, .bl b => .bl b
  | _, _, .int i => .int i
  | _, _, .str x => .str x
  | _, _, .lst h a => .lst (s.seq h) (DpAll.same s a)
  | _, _, .tup h a => .tup (Same.seqT s h) (DpAll.same s a)
theorem DpAll.same {K : PySem.W.Frag} {H H' : Hp} (s : Same H H') : ∀ {vs : List V} {ds : List PyData}, DpAll K H vs ds → DpAll K H' vs ds
  | _, _, .nil => .nil
  | _, _, .cons h t => .cons (Dp.same s h) (DpAll.same s t)
end
theorem DpAll.ints {K : PySem.W.Frag} {H : Hp} : ∀ ns : List Int, DpAll K H (ns.map V.int) (ns.map PyData.int)
  | [] => .nil
  | n :: r => .cons (.int n) (DpAll.ints r)
theorem DpAll.length {K : PySem.W.Frag} {H : Hp} : ∀ {vs : List V} {ds : List PyData}, DpAll K H vs ds → vs.length = ds.length
  | _, _, .nil => rfl
  | _, _, .cons _ t => congrArg (· + 1) (DpAll.length t)
theorem DpAll.get {K : PySem.W.Frag} {H : Hp} : ∀ {vs : List V} {ds : List PyData} {i : Nat} {d : PyData}, DpAll K H vs ds → ds[i]? = some d → ∃ v, vs[i]? = some v ∧ Dp K H v d
  | _, _, _, _, .nil, h => by simp at h
  | _, _, 0, _, .cons h _, e => by
    simp at e
    subst e
    exact ⟨_, rfl, h⟩
  | _, _, i + 1, _, .cons _ t, e => by
    obtain ⟨v, h1, h2⟩ := DpAll.get (i := i) t (by simpa using e)
    exact ⟨v, by simpa using h1, h2⟩
theorem DpAll.append {K : PySem.W.Frag} {H : Hp} {ws : List V} {es : List PyData} (b : DpAll K H ws es) : ∀ {vs : List V} {ds : List PyData}, DpAll K H vs ds → DpAll K H (vs ++ ws) (ds ++ es)
  | _, _, .nil => b
  | _, _, .cons h t => .cons h (DpAll.append b t)
mutual
/-- no dict in it, not too deep -/
def plainD : Nat → PyData → Bool
  | _, .none => true
  | _, .bool _ => true
  | _, .int _ => true
  | _, .str _ => true
  | 0, .list _ => false
  | 0, .tuple _ => false
  | n + 1, .list ds => decide (ds.length ≤ 100000) && plainDs n ds
  | n + 1, .tuple ds => decide (ds.length ≤ 100000) && plainDs n ds
  | _, .dict _ => false
def plainDs : Nat → List PyData → Bool
  | _, [] => true
  | n, d :: ds => plainD n d && plainDs n ds
end
theorem plainDs_get : ∀ {n : Nat} {ds : List PyData} {i : Nat} {d : PyData}, plainDs n ds = true → ds[i]? = some d → plainD n d = true
  | _, [], _, _, _, h => by simp at h
  | n, e :: r, 0, d, h, q => by
    simp at q
    subst q
    have h' : (plainD n e && plainDs n r) = true := by simpa [plainDs] using h
    exact (Bool.and_eq_true_iff.mp h').1
  | n, e :: r, i + 1, d, h, q => by
    have h' : (plainD n e && plainDs n r) = true := by simpa [plainDs] using h
    exact plainDs_get (i := i) (Bool.and_eq_true_iff.mp h').2 (by simpa using q)
theorem plainDs_all {n : Nat} : ∀ {ds : List PyData}, (∀ d ∈ ds, plainD n d = true) → plainDs n ds = true
  | [], _ => by simp [plainDs]
  | d :: r, h => by
    have h1 := h d (List.mem_cons_self ..)
    have h2 := plainDs_all (ds := r) fun e he => h e (List.mem_cons_of_mem _ he)
    simp [plainDs, h1, h2]
theorem Dp.boxlst {K : PySem.W.Frag} {H H' : Hp} {a : Addr} {xs : List V} (s : Same H H') (h : SqL K H a xs) : SqL K H' a xs := s.seq h
theorem Dp.boxtup {K : PySem.W.Frag} {H H' : Hp} {a : Addr} {xs : List V} (s : Same H H') (h : SqT K H a xs) : SqT K H' a xs := Same.seqT s h
/-- the kind of a value that stands for such data -/
theorem Dp.knw {K : PySem.W.Frag} {H : Hp} {v : V} {d : PyData} (h : Dp K H v d) : ∃ T, Knw K H v T := by
  cases h with
  | non => exact ⟨_, .non⟩
  | bl b => exact ⟨_, .bl b⟩
  | int i => exact ⟨_, .int i⟩
  | str x => exact ⟨_, .str x⟩
  | lst h _ => exact ⟨_, .lst h⟩
  | tup h _ => exact ⟨_, .tup h⟩
/-! ### ranges with a step, chunks -/
theorem rgc_chunks {n w : Nat} (h1 : 1 ≤ w) (h6 : w ≤ 6) (hn : n * w ≤ 100000) : RgC 0 ((n * w : Nat) : Int) (w : Int) n := by
  have c : w = 1 ∨ w = 2 ∨ w = 3 ∨ w = 4 ∨ w = 5 ∨ w = 6 := by omega
  have size : Builtin.Range.rangeSize 0 ((n * w : Nat) : Int) (w : Int) = (n : Int) := by
    unfold Builtin.Range.rangeSize
    rcases c with rfl | rfl | rfl | rfl | rfl | rfl <;> (rw [if_pos (by decide)]; split <;> omega)
  have fit : ∀ x : Int, -1000000 ≤ x → x ≤ 1000000 → Builtin.Range.rangeFitsLong x = true := fun x l u => by
    unfold Builtin.Range.rangeFitsLong
    rw [decide_eq_true (by omega : (-2 ^ 63 : Int) ≤ x), decide_eq_true (by omega : x < 2 ^ 63)]
    rfl
  have big : n ≤ n * w := Nat.le_mul_of_pos_right n (by omega)
  refine ⟨by omega, by omega, ?_, size⟩
  unfold Builtin.Range.small
  rw [size, if_pos (by omega : (w : Int) > 0), fit 0 (by omega) (by omega), fit ((n * w : Nat) : Int) (by omega) (by omega), fit (w : Int) (by omega) (by omega), fit (n : Int) (by omega) (by omega), fit (((n * w : Nat) : Int) + ((w : Int) - 1)) (by omega) (by omega), Bool.or_true]
  rfl
/-- a comprehension over a range with a step -/
theorem lc_rangeC {lo c : Int} {n : Nat} {g : TG} {tt : TT} {te : TE} {vs : List Nat} {σ : L2.St} {H1 : Hp} {D : Addr} {Qd : Hp → Prop} (Pv : Nat → Hp → Prop) (h0 : Pv 0 (upd H1 D (.lst [])))
    (hs : ∀ i H, i < n → Pv i H → g (.int (lo + (i : Nat) * c)) (wipe σ vs) H fun σ2 H2 => wipe σ2 vs = wipe σ vs ∧ tt σ2 H2 fun b H3 => if b = true then te σ2 H3 fun y H4 => ∃ acc, H4 D = some (.lst acc) ∧ acc.length < sizeLine ∧ Pv (i + 1) (upd H4 D (.lst (acc ++ [y]))) else Pv (i + 1) H3)
    (hd : ∀ H, Pv n H → Qd H) : ∃ W : Nat → Nat → Hp → Prop, (∃ m, W 0 m (upd H1 D (.lst []))) ∧ ∀ i m H, W i m H → ((Itc lo c n).stop i H ∧ Qd H) ∨ ((Itc lo c n).go i H ∧ ∃ Nx : Hp → Prop, (∀ H', Nx H' → ∃ m', m' < m ∧ W (i + 1) m' H') ∧
      ∀ x H', (Itc lo c n).yld i H x H' → g x (wipe σ vs) H' fun σ2 H2 => wipe σ2 vs = wipe σ vs ∧ tt σ2 H2 fun b H3 => if b = true then te σ2 H3 fun y H4 => ∃ acc, H4 D = some (.lst acc) ∧ acc.length < sizeLine ∧ Nx (upd H4 D (.lst (acc ++ [y]))) else Nx H3) := by
  refine ⟨fun i m H => m = n - i ∧ i ≤ n ∧ Pv i H, ⟨n, rfl, Nat.zero_le _, h0⟩, fun i m H hW => ?_⟩
  obtain ⟨e, hi, p⟩ := hW
  rcases Nat.lt_or_ge i n with hlt | hge
  · refine .inr ⟨hlt, Pv (i + 1), fun H' p' => ⟨n - (i + 1), by omega, rfl, hlt, p'⟩, fun x H' y => ?_⟩
    obtain ⟨y1, y2⟩ := y
    rw [y1, y2]
    exact hs i H hlt p
  · have q : i = n := by omega
    rw [q] at p
    exact .inl ⟨hge, hd H p⟩
/-- the i-th of the parts of w items -/
def part (w : Nat) (xs : List V) (i : Nat) : List V := (xs.drop (i * w)).take w
def parts (w : Nat) (xs : List V) (n : Nat) : List (List V) := (List.range n).map (part w xs)
theorem parts_take {w : Nat} {xs : List V} {n i : Nat} (h : i < n) : (parts w xs n).take (i + 1) = (parts w xs n).take i ++ [part w xs i] := by
  have e : (parts w xs n)[i]? = some (part w xs i) := by
    unfold parts
    rw [List.getElem?_map, List.getElem?_range h]
    rfl
  rw [List.take_add_one, e]
  rfl
theorem parts_len (w : Nat) (xs : List V) (n : Nat) : (parts w xs n).length = n := by simp [parts]
theorem cut_part {w : Nat} {xs : List V} {n i : Nat} (hx : xs.length = n * w) (hi : i < n) : cutV xs (some ((i * w : Nat) : Int)) (some ((i * w + w : Nat) : Int)) = part w xs i := by
  have h1 : i * w + w ≤ n * w := by
    have := Nat.mul_le_mul_right w (show i + 1 ≤ n from hi)
    rw [Nat.add_mul, Nat.one_mul] at this
    exact this
  unfold cutV part
  rw [show HT.sIx xs.length 0 (some ((i * w : Nat) : Int)) = min (i * w) xs.length from HT.sIx_nat _ _ _, show HT.sIx xs.length xs.length (some ((i * w + w : Nat) : Int)) = min (i * w + w) xs.length from HT.sIx_nat _ _ _]
  rw [show min (i * w) xs.length = i * w by omega, show min (i * w + w) xs.length = i * w + w by omega, Nat.add_sub_cancel_left]
/-- the whole of it is the one part -/
theorem whole_part {w : Nat} {xs : List V} {n i : Nat} (hx : xs.length = n * w) (hi : i < n) (h : HT.sIx xs.length 0 (some ((i * w : Nat) : Int)) = 0 ∧ HT.sIx xs.length xs.length (some ((i * w + w : Nat) : Int)) = xs.length) : part w xs i = xs := by
  rw [← cut_part hx hi]
  unfold cutV
  rw [h.1, h.2, List.drop_zero, Nat.sub_zero, List.take_length]
/-- values that are tuples -/
abbrev Tups (K : PySem.W.Frag) (H : Hp) : List V → List (List V) → Prop := Paired fun v c => ∃ a, v = V.ref a ∧ SqT K H a c
theorem Tups.same {K : PySem.W.Frag} {H H' : Hp} (s : Same H H') {vs : List V} {cs : List (List V)} (h : Tups K H vs cs) : Tups K H' vs cs := Paired.mapP h fun v c ⟨a, e, q⟩ => ⟨a, e, Same.seqT s q⟩
theorem Tups.snoc {K : PySem.W.Frag} {H : Hp} {a : Addr} {c : List V} (h : SqT K H a c) : ∀ {vs : List V} {cs : List (List V)}, Tups K H vs cs → Tups K H (vs ++ [V.ref a]) (cs ++ [c])
  | _, _, .nil => .cons ⟨a, rfl, h⟩ .nil
  | _, _, .cons q t => .cons q (Tups.snoc h t)
/-! ### a def, by its name -/
structure FnC (P : Program) (w : World) (K : PySem.W.Frag) (mg : Str → Option Value) (base : Heap) (CX : CXT) (k : Nat) (x : Str) (ps : List Str) (sp : Sp) : Prop where
  ex : ∃ (f : Addr) (fd : FuncData), FnOk P w K mg base CX k f fd ps sp ∧ mg x = some (.ref f) ∧ PySem.W.keepIn K (.ref f) = true ∧ Binds K fd ps []
section
variable {X : Cx} {CX : CXT} {k j : Nat} {x : Str} {ps : List Str} {sp : Sp} {e : Expr} {es : List Expr} {t : TA} {p pos : Pos}
theorem pe_f {E : XK} (c : FnC X.prog X.w X.K X.mg X.base CX k x ps sp) (hr : Room j X.A) (hk : k ≤ j) (hx : Passes CX X E) (ha : PA X (e :: es) t) (hg : Gl X x := by rfl) (hdb : (x == ("__debug__" : Str)) = false := by decide)
    (he : starEach (e :: es) X.env = (false, eval e X.env) :: starEach es X.env := by rfl) (hpl : (backTo pos (starEach es X.env)).any (·.1) = false := by rfl) : PE X (.Call (.Name x p) (e :: es) [] pos) (tCall sp [] E t) := by
  obtain ⟨f, fd, F, hm, hkp, hb⟩ := c.ex
  exact pe_call F (hr.mono hk) hg hm hkp hb .nil hx ha hdb he hpl
theorem pe_fS {E : L2.St → XK} (c : FnC X.prog X.w X.K X.mg X.base CX k x ps sp) (hr : Room j X.A) (hk : k ≤ j) (hx : ∀ σ, PassesAt CX X σ (E σ)) (ha : PA X (e :: es) t) (hg : Gl X x := by rfl) (hdb : (x == ("__debug__" : Str)) = false := by decide)
    (he : starEach (e :: es) X.env = (false, eval e X.env) :: starEach es X.env := by rfl) (hpl : (backTo pos (starEach es X.env)).any (·.1) = false := by rfl) : PE X (.Call (.Name x p) (e :: es) [] pos) (tCallS sp E t) := by
  obtain ⟨f, fd, F, hm, hkp, hb⟩ := c.ex
  exact pe_callS F (hr.mono hk) hg hm hkp hb hx ha hdb he hpl
end
end SL
/-! t[::-1] of a tuple; a walk over the zip of two tuples. -/
namespace SL
open PySem PySem.Spec PyProof.Rows L2 HT
theorem fm_congr {α β : Type} {f g : α → Option β} : ∀ l : List α, (∀ k ∈ l, f k = g k) → l.filterMap f = l.filterMap g
  | [], _ => rfl
  | k :: r, h => by rw [List.filterMap_cons, List.filterMap_cons, h k (List.mem_cons_self ..), fm_congr r fun j hj => h j (List.mem_cons_of_mem _ hj)]
theorem rev_pick (xs : Array Value) : ((List.range xs.size).filterMap fun (k : Nat) => xs[(((xs.size : Int) - 1) + (k : Int) * (-1)).toNat]?).toArray = xs.toList.reverse.toArray := by
  have e : (List.range xs.size).filterMap (fun (k : Nat) => xs[(((xs.size : Int) - 1) + (k : Int) * (-1)).toNat]?) = ((List.range xs.size).map fun k => xs.size - 1 - k).filterMap (xs[·]?) := by
    rw [List.filterMap_map]
    refine fm_congr _ fun k hk => ?_
    have := List.mem_range.mp hk
    show xs[_]? = xs[xs.size - 1 - k]?
    rw [show (((xs.size : Int) - 1) + (k : Int) * (-1)).toNat = xs.size - 1 - k by omega]
  rw [e, PySem.W.krv_range, List.filterMap_reverse, PySem.W.krv_all]
section
variable {prog : Program} {w : World} {A : Around} {E : Value → Shared → Prop} {s : Shared}
theorem adjust_rev (n : Nat) : Builtin.Slice.sliceAdjust none none (-1) (n : Int) = ((n : Int) - 1, -1) := by
  unfold Builtin.Slice.sliceAdjust
  simp
theorem places_rev (n : Nat) : Builtin.Slice.slicePlaces ((n : Int) - 1) (-1) (-1) = n := by
  unfold Builtin.Slice.slicePlaces
  have h1 : ¬ ((-1 : Int) > 0) := by decide
  simp only [h1, if_false]
  rw [show (- -1 : Int) = 1 by decide, Int.ediv_one]
  split <;> omega
theorem sliceApplied_rev {sl : Addr} {vl vu vs : Value} {n : Nat} {Q : Int × Int × Nat → Shared → Prop} (hs : s.heap.IsSliceOf sl vl vu vs) (pl : IsPart vl none) (pu : IsPart vu none) (ps : IsPart vs (some (-1)))
    (h : Q ((n : Int) - 1, -1, n) s) : wpAny (model prog w) A (Builtin.Slice.sliceApplied (.ref sl) (pure (n : Int))) Q E s := by
  obtain ⟨os, hos, hcs, hds⟩ := id hs
  unfold Builtin.Slice.sliceApplied Builtin.Slice.sliceFields
  refine wpAny_bind (wpAny_bind (wpAny_field hos hds (x := vl) rfl (wpAny_bind (wpAny_field hos hds (x := vu) rfl (wpAny_bind (wpAny_field hos hds (x := vs) rfl (wpAny_pure ?_)))))))
  refine wpAny_bind (slicePart_ ps ?_)
  show wpAny _ _ (if ((-1 : Int) == 0) = true then _ else _) _ _ s
  rw [if_neg (by decide)]
  refine wpAny_bind (slicePart_ pl (wpAny_bind (slicePart_ pu (wpAny_bind (wpAny_pure ?_)))))
  show wpAny _ _ (match Builtin.Slice.sliceAdjust none none (-1) (n : Int) with | (lo, hi) => pure (lo, (-1 : Int), Builtin.Slice.slicePlaces lo hi (-1))) _ _ s
  rw [adjust_rev n]
  show wpAny _ _ (pure ((n : Int) - 1, (-1 : Int), Builtin.Slice.slicePlaces ((n : Int) - 1) (-1) (-1))) _ _ s
  rw [places_rev]
  exact wpAny_pure h
theorem getItem_tuple_rev {t sl : Addr} {items : Array Value} {vl vu vs : Value} {Q : Value → Shared → Prop} (ht : IsTup s.heap t items) (hs : s.heap.IsSliceOf sl vl vu vs) (pl : IsPart vl none) (pu : IsPart vu none) (ps : IsPart vs (some (-1)))
    (h : Q (.ref s.heap.objs.size) { s with heap := s.heap.push { cls := .type "tuple", data := .seq items.toList.reverse.toArray } })
    (hsz : items.size ≤ sizeLine) : wpAny (model prog w) A (getItem (.ref t) (.ref sl)) Q E s := by
  have htake : sizeOk (.seq items.toList.reverse.toArray) := by
    show items.toList.reverse.toArray.size ≤ sizeLine
    rw [List.size_toArray, List.length_reverse, Array.length_toList]
    exact hsz
  obtain ⟨os, hos, hcs, hds⟩ := id hs
  have hTs : s.TypeIs (.ref sl) "slice" := ⟨os, hos, hcs⟩
  unfold getItem
  try with_reducible refine wpAny_holding ?_
  first | refine wpAny_bind (wpAny_pure ?_) | skip
  refine wpAny_bind (wpAny_sequenceKey ht.typeIs (by decide) ?_)
  refine wpAny_bind (wpAny_callSpecial?_slot (name := Str.ofString "__getitem__") ht.typeIs PyProof.Rows.slot_tuple_getitem
    (wpAny_call_entry PyProof.Rows.slot_tuple_getitem ht.typeIs entry_tuple_getitem ?_ (args_tuple_getitem _ _)))
  show wpAny _ _ (Builtin.Tuple.tupleItemsOf (.ref t) >>= _) _ _ s
  refine wpAny_bind (tupleItemsOf_ ht ?_)
  refine wpAny_bind (wpAny_typeOf hTs ?_)
  rw [if_pos (by decide)]
  refine wpAny_bind (sliceApplied_rev hs pl pu ps ?_)
  have hno : ¬ ((((items.size : Int) - 1 == 0) && (-1 : Int) == 1 && items.size == items.size) = true) := by
    rw [show ((-1 : Int) == 1) = false from by decide, Bool.and_false, Bool.false_and]
    exact Bool.false_ne_true
  show wpAny _ _ (if (((items.size : Int) - 1 == 0) && (-1 : Int) == 1 && items.size == items.size) = true then _ else _) _ _ s
  rw [if_neg hno, rev_pick]
  first
    | exact wpAny_bind (m := Builtin.Tuple.tupleExact _) (wpAny_newObj_type (wpAny_pure ⟨_, rfl, wpAny_pure h⟩) htake)
    | exact wpAny_bind (m := Builtin.Tuple.tupleExact _) (wpAny_newObj_type (wpAny_bind (wpAny_pure (wpAny_pure ⟨_, rfl, wpAny_pure h⟩))) htake)
    | exact wpAny_bind (wpAny_bind (m := Builtin.Tuple.tupleExact _) (wpAny_newObj_type (wpAny_pure (wpAny_pure ⟨_, rfl, wpAny_pure h⟩)) htake))
    | exact wpAny_bind (wpAny_bind (m := Builtin.Tuple.tupleExact _) (wpAny_newObj_type (wpAny_pure ⟨_, rfl, wpAny_pure h⟩) htake))
end
section
variable {X : Cx}
def tRevT (K : PySem.W.Frag) (te : TE) : TE := fun σ H Q => te σ H fun x H1 => ∃ a xs, x = .ref a ∧ SqT K H1 a xs ∧ ∀ p, H1 p = none → Q (.ref p) (upd H1 p (.tup xs.reverse))
theorem pe_revT {e : Expr} {te : TE} {k : Nat} {p1 p2 p3 pos : Pos} (he : PE X e te) : PE X (.Subscript e (.Slice none none (some (.UnaryOp .USub (.Constant (.int 1) k p1) p2)) p3) pos) (tRevT X.K te) := by
  refine ⟨fun pins s σ H Q I h => ?_⟩
  refine Subscript_ (thn (he.run pins s σ H _ I h) fun v s1 ⟨x, H1, I1, r1, q1⟩ => ?_)
  obtain ⟨a, xs, ex, hx, q⟩ := q1
  subst ex
  cases r1
  have hst : PO X (some (.UnaryOp .USub (.Constant (.int 1) k p1) p2)) (tPart (tUn (rU fun i => .int (-i)) (tC (.int 1)))) := po_some (pe_un un_neg pe_int)
  refine wpAny_Slice (thn (po_none.run pins s1 σ H1 (fun o H2 => o = none ∧ H2 = H1) I1 ⟨rfl, rfl⟩) fun vl s2 ⟨l, H2, I2, pl, el, e2⟩ => ?_)
  subst el e2
  refine thn (po_none.run pins s2 σ H2 (fun o H3 => o = none ∧ H3 = H2) I2 ⟨rfl, rfl⟩) fun vu s3 ⟨u, H3, I3, pu, eu, e3⟩ => ?_
  subst eu e3
  refine thn (hst.run pins s3 σ H3 (fun o H4 => o = some (-1) ∧ H4 = H3) I3 ⟨1, rfl, -1, rfl, rfl, rfl⟩) fun vs s4 ⟨o, H4, I4, ps, eo, e4⟩ => ?_
  subst eo e4
  have I5 : Inv X pins σ H4 { s4 with heap := s4.heap.push { cls := .type "slice", data := .fields #[vl, vu, vs] } } := I4.kept (t' := s4.toks) fun b ob q => Heap.get?_push_of_some _ q
  obtain ⟨its, r, ht, hz⟩ := I5.tuple hx
  have hlen := r.length
  show wpAny (model X.prog X.w) X.A (subscriptTail e (.Slice none none (some (.UnaryOp .USub (.Constant (.int 1) k p1) p2)) p3) (.ref a) (.ref s4.heap.objs.size)) (EP X pins σ Q) X.xe { s4 with heap := s4.heap.push { cls := .type "slice", data := .fields #[vl, vu, vs] } }
  refine tail_any (ops := [.ref a, .ref s4.heap.objs.size]) ht.typeIs (PyProof.Rows.slot_tuple_getitem.lookup) ?_ (by with_unfolding_all rfl)
  refine getItem_tuple_rev ht (Heap.IsSliceOf.new _ vl vu vs) pl pu ps ?_ (by rw [List.size_toArray]; omega)
  refine ⟨.ref _, _, I5.laid (t' := s4.toks) (o := .tup xs.reverse) (fun b ob q => Heap.get?_push_of_some _ q) (Nat.le_refl _) ?_, rfl, q _ (I5.hok.fresh (Nat.le_refl _))⟩
  exact ⟨by rw [List.length_reverse]; exact hz, _, r.reverse, IsTup.new _ _⟩
end
theorem walk_zipT {K : PySem.W.Frag} {a b : Addr} {xs ys : List V} {n : Nat} (hn : n = min xs.length ys.length) : Walk (RZ.ItzT K a b) n (fun H => SqT K H a xs ∧ SqT K H b ys) (YPair (fun i => xs[i]?) (fun i => ys[i]?)) := by
  subst hn
  refine ⟨fun i _ hi q => ?_, fun _ q => ⟨xs, ys, q.1, q.2, by omega⟩, fun i H v H' _ q y => ?_⟩
  · have h1 : i < xs.length := by omega
    have h2 : i < ys.length := by omega
    exact ⟨xs, ys, xs[i], ys[i], q.1, q.2, by simp [h1], by simp [h2]⟩
  · obtain ⟨T, x, z, h1, h2, h3, h4, h5⟩ := y
    exact ⟨T, x, z, h1, h2, h3, h4 xs q.1, h5 ys q.2⟩
section
variable {X : Cx}
theorem pg_tupK {pos : Pos} {es : List Expr} {k : Nat} {t : TGs} {n : Nat} (K : PySem.W.Frag) (hc : X.calm = true) (h : PGs X es t) (e : X.K = K := by rfl)
    (hn : (assignEach es X.env).length = n := by rfl) (hst : (assignEach es X.env).findIdx? (·.1) = none := by rfl) : PG X (.Tuple es k pos) (gTup K n t) := by
  subst e
  exact pg_tup hc h hn hst
theorem pe_f0 {CX : CXT} {k j : Nat} {x : Str} {sp : Sp} {p pos : Pos} {E : XK} (c : FnC X.prog X.w X.K X.mg X.base CX k x [] sp) (hr : Room j X.A) (hk : k ≤ j) (hx : Passes CX X E) (hg : Gl X x := by rfl) (hdb : (x == ("__debug__" : Str)) = false := by decide) :
    PE X (.Call (.Name x p) [] [] pos) (tCall sp [] E tNil) := by
  obtain ⟨f, fd, F, hm, hkp, hb⟩ := c.ex
  exact pe_call0 F (hr.mono hk) hg hm hkp hb .nil hx hdb
end
end SL
/-! enumerate of a tuple, of a text. -/
namespace PySem
theorem sl_enum_newT (l : Addr) (xs : Array Value) :
    Meets (Builtin.«enumerate.__new__» ⟨[.type "enumerate", .ref l], []⟩) (fun _ R s => s.heap.IsTuple l xs ∧
      R (.ok (.ret (.ref (s.heap.push { cls := .type "tuple_iterator", data := .fields #[.ref l, .int 0 0] }).objs.size)))
        { s with heap := (s.heap.push { cls := .type "tuple_iterator", data := .fields #[.ref l, .int 0 0] }).push { cls := .type "enumerate", data := .fields #[.none, .bool false, .ref s.heap.objs.size, rawInt 0, .none, .none] } }) :=
  .of_wp fun prog w A R s h => by
    obtain ⟨hp, g, d, tk, os⟩ := s
    obtain ⟨hl, h⟩ := h
    have hsub := sub_enumerate
    have hL : Heap.IsTuple (Shared.heap ⟨hp, g, d, tk, os⟩) l xs := hl
    wp_walk
    refine wpAny_stack_any fun st => wpAny_pure ?_
    split
    · rename_i c _ _ _ _ _
      cases (c == Value.type "enumerate") <;> (wp_walk using wpAny_pyIter_tuple hL; exact ⟨_, rfl, h⟩)
    · wp_walk using wpAny_pyIter_tuple hL
      exact ⟨_, rfl, h⟩
theorem sl_call_enumT {prog : Program} {w : World} {A : Around} {E : Value → Shared → Prop} {s : Shared} {l : Addr} {xs : Array Value} {Q : Value → Shared → Prop} (hL : s.heap.IsTuple l xs)
    (h : ∀ h', IsEnum h' (s.heap.objs.size + 1) s.heap.objs.size 0 .none → h'.IsTupleIter s.heap.objs.size l 0 → h'.objs.size = s.heap.objs.size + 2 →
      (∀ b o, s.heap.get? b = some o → h'.get? b = some o) → Q (.ref (s.heap.objs.size + 1)) { s with heap := h' }) :
    wpAny (model prog w) A (call (.type "enumerate") [.ref l]) Q E s := by
  refine callType_new F.called_enumerate (by decide) (F.typeCall_enumerate_1 _) (F.newCall_enumerate_1 _) (fun obj => F.args_object_init_2 obj _) F.entry_enumerate_new (sl_enum_newT l xs) ⟨hL, ?_⟩
  have hz : (s.heap.push { cls := .type "tuple_iterator", data := .fields #[.ref l, .int 0 0] }).objs.size = s.heap.objs.size + 1 := Heap.size_push ..
  show _ ∧ _
  rw [hz]
  have he : IsEnum ((s.heap.push { cls := .type "tuple_iterator", data := .fields #[.ref l, .int 0 0] }).push
      { cls := .type "enumerate", data := .fields #[.none, .bool false, .ref s.heap.objs.size, rawInt 0, .none, .none] }) (s.heap.objs.size + 1) s.heap.objs.size 0 .none := by
    have q := Heap.get?_push_size (s.heap.push { cls := .type "tuple_iterator", data := .fields #[.ref l, .int 0 0] })
      (o := { cls := .type "enumerate", data := .fields #[.none, .bool false, .ref s.heap.objs.size, rawInt 0, .none, .none] }) rfl
    rw [hz] at q
    exact q
  exact ⟨⟨_, he, rfl⟩, h _ he ⟨_, Heap.get?_push_of_some _ (Heap.get?_push_size _ rfl), rfl, rfl⟩ (by rw [Heap.size_push, hz]) fun b o x => Heap.get?_push_of_some _ (Heap.get?_push_of_some _ x)⟩
end PySem
namespace SL
open PySem PySem.Spec PyProof.Rows L2
def IteT (K : PySem.W.Frag) (a : Addr) : It :=
  ⟨fun i H => ∃ (xs : List V) (x : V), SqT K H a xs ∧ xs[i]? = some x, fun i H v H' => ∃ T x, v = .ref T ∧ H T = none ∧ H' = upd H T (.tup [.int (i : Nat), x]) ∧ ∀ xs, SqT K H a xs → xs[i]? = some x, fun i H => ∃ xs : List V, SqT K H a xs ∧ xs.length ≤ i⟩
theorem turn_enumT {P : Program} {w : World} {K : PySem.W.Frag} {elts : List Expr} {kk : Nat} {tpos : Pos} (a e it : Addr) (hae : a ≠ e) (hai : a ≠ it) :
    Turn P w K (.Tuple elts kk tpos) (IteT K a) [e, it] e (fun i h => (∃ old, IsEnum h e it ((i : Nat) : Int) old) ∧ h.IsTupleIter it a i ∧ e ≠ it) where
  mem := by simp
  obj := fun i h st b hb => by
    obtain ⟨⟨old, he⟩, ⟨o, ho, hc, hd⟩, _⟩ := st
    have e' : b = e ∨ b = it := by simpa using hb
    rcases e' with rfl | rfl
    · exact ⟨_, he, fun v q => nomatch q⟩
    · exact ⟨o, ho, fun v q => by rw [hd] at q; cases q⟩
  keep := fun i h h' st k => let ⟨⟨old, he⟩, hi, hne⟩ := st; ⟨⟨old, k e (by simp) _ he⟩, hi.at fun o q => k it (by simp) o q, hne⟩
  item := by
    intro X hP hw hK hc i pins s σ H E I hf st hg
    subst hP hw hK
    obtain ⟨⟨old, he⟩, hit, hne⟩ := st
    obtain ⟨xs, x, hq, hx⟩ := hg
    obtain ⟨its, rv, p, hz⟩ := I.tuple hq
    obtain ⟨u, hu, ru⟩ := rv.get hx
    have hel : e < s.heap.objs.size := Heap.lt_size he
    have hil : it < s.heap.objs.size := by obtain ⟨_, q, _⟩ := hit; exact Heap.lt_size q
    have hlt : i < its.toArray.size := by
      have := (List.getElem?_eq_some_iff.mp hu).1
      simpa using this
    refine wpAny_pyNext_enum_itemD (Draws.tuple (by rw [show X.A.in1.handled = X.A.handled from rfl]; exact I.ok.hd hc) it a hai its.toArray) he ⟨hit, p⟩ hlt hne (by simp [hne, Ne.symm hae]) fun v h' tk hv ho hit' hT hsz hk => ?_
    obtain rfl : v = u := by
      have e1 : its.toArray[i]? = some u := by simpa using hu
      rw [e1] at hv
      exact (Option.some.inj hv).symm
    refine ⟨_, rfl, wpAny_letOwnedTupleGo_enum (s := { s with heap := h', toks := tk + 1 }) ho fun h'' he' sb => ?_⟩
    have hT2 := (sb.2 _ (Nat.ne_of_gt hel)).trans hT
    have new : ObjOk X.prog X.w (upd H s.heap.objs.size (.tup [.int (i : Nat), x])) h'' s.heap.objs.size (.tup [.int (i : Nat), x]) :=
      ⟨by show 2 ≤ sizeLine; decide, _, .cons ⟨_, rfl⟩ (.cons ru .nil), ⟨_, hT2, rfl, _, rfl⟩⟩
    have I1 : Inv X pins σ (upd H s.heap.objs.size (.tup [.int (i : Nat), x])) { s with heap := h'', toks := tk + 1 } :=
      I.turnedNew (ch := [e, it]) (fun b ob hb q => (sb.2 b (fun z => hb (by simp [z]))).trans (hk b ob (fun z => hb (by simp [z])) (fun z => hb (by simp [z])) q)) hf (Nat.le_refl _) new
    refine ⟨.ref s.heap.objs.size, _, I1, rfl, ⟨_, x, rfl, I.hok.fresh (Nat.le_refl _), rfl, fun ys hy => by rw [I.tuple_inj hy hq]; exact hx⟩, ⟨⟨v, ?_⟩, hit'.1.at fun o q => (sb.2 it (Ne.symm hne)).trans q, hne⟩, fun b hb => ?_⟩
    · rw [show ((i + 1 : Nat) : Int) = (i : Int) + 1 by omega]
      exact he'
    · have hb' : b < s.heap.objs.size := by
        have e' : b = e ∨ b = it := by simpa using hb
        rcases e' with z | z <;> (rw [z]; assumption)
      rw [upd_ne (Nat.ne_of_lt hb')]
      exact (hf b hb).1
  done := by
    intro X hP hw hK hc i pins s σ H E I hf st hg
    subst hP hw hK
    obtain ⟨⟨old, he⟩, hit, hne⟩ := st
    obtain ⟨xs, hq, hx⟩ := hg
    obtain ⟨its, rv, p, hz⟩ := I.tuple hq
    obtain ⟨f0, f1, f2, f3, f4, f5⟩ := hf it (by simp)
    have hl := rv.length
    have hT : s.TypeIs (.ref e) "enumerate" := ⟨_, he, rfl⟩
    unfold pyNext
    refine wpAny_bind (wpAny_attempt (wpAny_callSpecial?_slot (name := Str.ofString "__next__") hT F.slot_enumerate_next (wpAny_call_entry F.slot_enumerate_next hT F.entry_enumerate_next ?_ (F.args_enumerate_next_1 _))))
    show wpAny _ _ (field (.ref e) 2 >>= _) _ _ _
    refine wpAny_bind (wpAny_field he rfl (x := .ref it) rfl ?_)
    refine wpAny_bind (RZ.nextOf_tuple_end (by rw [show X.A.in1.in1.handled = X.A.handled from rfl]; exact I.ok.hd hc) hit p (by simp; omega) fun h' x he' hx' => ?_)
    obtain ⟨o, ho, hcl⟩ := hx'
    refine wpAny_bind (wpAny_isInstance (T := "StopIteration") (b := true) ⟨o, ho, hcl⟩ isSubtype_stop ?_)
    exact wpAny_pure ⟨rfl, I.turned (t' := s.toks) (fun b o hb q => he' b o hb q) f0 f1 f3 f4 f5⟩
  self := fun A i s Q E st h => let ⟨⟨_, he⟩, _⟩ := st; wpAny_pyIter_enum he h
def iEnumT (K : PySem.W.Frag) (ta : TA) : TI := fun σ H R => ta σ H fun vs H1 => ∃ a xs, vs = [.ref a] ∧ SqT K H1 a xs ∧ R (IteT K a) H1
theorem pi_enumT {X : Cx} {e : Expr} {ta : TA} {p pos tpos : Pos} {elts : List Expr} {kk : Nat} (hg : Gl X "enumerate") (hm : X.mg "enumerate" = none) (ha : PA X [e] ta) (hs : starEach [e] X.env = [(false, eval e X.env)] := by rfl) :
    PI X (.Tuple elts kk tpos) (.Call (.Name "enumerate" p) [e] [] pos) (iEnumT X.K ta) := by
  refine ⟨fun pins s σ H R I h => ?_⟩
  refine Call_ (ld_blt I hg hm boot_enumerate (PyProof.Rows.callWith_type1 (thn (ha.run pos pins s σ H _ I h) fun us s1 ⟨vs, H1, I1, r1, q1⟩ => ?_) hs rfl))
  obtain ⟨a, xs, ex, hq, q⟩ := q1
  subst ex
  cases r1 with
  | cons r rr =>
    cases rr
    cases r
    obtain ⟨its, rv, p', hz⟩ := I1.tuple hq
    have hla : a < s1.heap.objs.size := by
      obtain ⟨o, ho, _⟩ := p'
      exact Heap.lt_size ho
    refine sl_call_enumT p' fun h' he hit hsz hk => wpAny_pyIter_enum he ?_
    have I2 : Inv X pins σ H1 { s1 with heap := h' } := I1.kept (t' := s1.toks) hk
    refine ⟨s1.heap.objs.size + 1, [s1.heap.objs.size + 1, s1.heap.objs.size], _, _, H1, rfl, I2, turn_enumT a (s1.heap.objs.size + 1) s1.heap.objs.size (Nat.ne_of_lt (Nat.lt_succ_of_lt hla)) (Nat.ne_of_lt hla), ⟨⟨.none, he⟩, hit, Nat.succ_ne_self _⟩, fun b hb => ?_, q⟩
    have hle : s1.heap.objs.size ≤ b := by
      have e' : b = s1.heap.objs.size + 1 ∨ b = s1.heap.objs.size := by simpa using hb
      rcases e' with z | z
      · rw [z]
        exact Nat.le_add_right _ _
      · rw [z]
        exact Nat.le_refl _
    exact I1.fpOk hle (I1.hok.fresh hle)
theorem walk_enumT {K : PySem.W.Frag} {a : Addr} {xs : List V} : Walk (IteT K a) xs.length (fun H => SqT K H a xs) (YPair (fun i => some (.int (i : Nat))) (fun i => xs[i]?)) := by
  refine ⟨fun i _ hi q => ⟨xs, xs[i], q, by simp [hi]⟩, fun _ q => ⟨xs, q, Nat.le_refl _⟩, fun i H v H' _ q y => ?_⟩
  obtain ⟨T, x, h1, h2, h3, h4⟩ := y
  exact ⟨T, .int (i : Nat), x, h1, h2, h3, rfl, h4 xs q⟩
/-! ### of a text -/
def IteS (z : Str) : It :=
  ⟨fun i _ => i < z.cps.size, fun i H v H' => ∃ T c, v = .ref T ∧ H T = none ∧ H' = upd H T (.tup [.int (i : Nat), .str ⟨#[c]⟩]) ∧ z.cps[i]? = some c, fun i _ => z.cps.size ≤ i⟩
theorem turn_enumS {P : Program} {w : World} {K : PySem.W.Frag} {elts : List Expr} {kk : Nat} {tpos : Pos} (z : Str) (t : Tok) (e it : Addr) :
    Turn P w K (.Tuple elts kk tpos) (IteS z) [e, it] e (fun i h => (∃ old, IsEnum h e it ((i : Nat) : Int) old) ∧ h.IsStrIter it (strIterType z) z t i ∧ e ≠ it) where
  mem := by simp
  obj := fun i h st b hb => by
    obtain ⟨⟨old, he⟩, ⟨o, ho, hc, hd⟩, _⟩ := st
    have e' : b = e ∨ b = it := by simpa using hb
    rcases e' with rfl | rfl
    · exact ⟨_, he, fun v q => nomatch q⟩
    · exact ⟨o, ho, fun v q => by rw [hd] at q; cases q⟩
  keep := fun i h h' st k => let ⟨⟨old, he⟩, ⟨o, ho, r⟩, hne⟩ := st; ⟨⟨old, k e (by simp) _ he⟩, ⟨o, k it (by simp) o ho, r⟩, hne⟩
  item := by
    intro X hP hw hK hc i pins s σ H E I hf st hg
    subst hP hw hK
    obtain ⟨⟨old, he⟩, hit, hne⟩ := st
    have hel : e < s.heap.objs.size := Heap.lt_size he
    have hil : it < s.heap.objs.size := by obtain ⟨_, q, _⟩ := hit; exact Heap.lt_size q
    refine wpAny_pyNext_enum_itemD (Draws.text (by rw [show X.A.in1.handled = X.A.handled from rfl]; exact I.ok.hd hc) it z t) he hit hg hne (by simp [hne]) fun v h' tk hv ho hit' hT hsz hk => ?_
    obtain ⟨c, u, hcx, rfl⟩ := hv
    refine ⟨_, rfl, wpAny_letOwnedTupleGo_enum (s := { s with heap := h', toks := tk + 1 }) ho fun h'' he' sb => ?_⟩
    have hT2 := (sb.2 _ (Nat.ne_of_gt hel)).trans hT
    have new : ObjOk X.prog X.w (upd H s.heap.objs.size (.tup [.int (i : Nat), .str ⟨#[c]⟩])) h'' s.heap.objs.size (.tup [.int (i : Nat), .str ⟨#[c]⟩]) :=
      ⟨by show 2 ≤ sizeLine; decide, _, .cons ⟨_, rfl⟩ (.cons ⟨_, rfl⟩ .nil), ⟨_, hT2, rfl, _, rfl⟩⟩
    have I1 : Inv X pins σ (upd H s.heap.objs.size (.tup [.int (i : Nat), .str ⟨#[c]⟩])) { s with heap := h'', toks := tk + 1 } :=
      I.turnedNew (ch := [e, it]) (fun b ob hb q => (sb.2 b (fun z => hb (by simp [z]))).trans (hk b ob (fun z => hb (by simp [z])) (fun z => hb (by simp [z])) q)) hf (Nat.le_refl _) new
    refine ⟨.ref s.heap.objs.size, _, I1, rfl, ⟨_, c, rfl, I.hok.fresh (Nat.le_refl _), rfl, hcx⟩, ⟨⟨.str ⟨#[c]⟩ u, ?_⟩, ?_, hne⟩, fun b hb => ?_⟩
    · rw [show ((i + 1 : Nat) : Int) = (i : Int) + 1 by omega]
      exact he'
    · obtain ⟨o, q, r⟩ := hit'
      exact ⟨o, (sb.2 it (Ne.symm hne)).trans q, r⟩
    · have hb' : b < s.heap.objs.size := by
        have e' : b = e ∨ b = it := by simpa using hb
        rcases e' with z | z <;> (rw [z]; assumption)
      rw [upd_ne (Nat.ne_of_lt hb')]
      exact (hf b hb).1
  done := by
    intro X hP hw hK hc i pins s σ H E I hf st hg
    subst hP hw hK
    obtain ⟨⟨old, he⟩, hit, hne⟩ := st
    obtain ⟨f0, f1, f2, f3, f4, f5⟩ := hf it (by simp)
    have hx : z.cps[i]? = none := Array.getElem?_eq_none hg
    have hT : s.TypeIs (.ref e) "enumerate" := ⟨_, he, rfl⟩
    unfold pyNext
    refine wpAny_bind (wpAny_attempt (wpAny_callSpecial?_slot (name := Str.ofString "__next__") hT F.slot_enumerate_next (wpAny_call_entry F.slot_enumerate_next hT F.entry_enumerate_next ?_ (F.args_enumerate_next_1 _))))
    show wpAny _ _ (field (.ref e) 2 >>= _) _ _ _
    refine wpAny_bind (wpAny_field he rfl (x := .ref it) rfl ?_)
    have hh : X.A.in1.in1.handled = none := by rw [show X.A.in1.in1.handled = X.A.handled from rfl]; exact I.ok.hd hc
    cases ha : z.cps.all (· < 128)
    · have hit2 : s.heap.IsStrIter it "str_iterator" z t i := by simpa [strIterType, ha] using hit
      refine wpAny_bind (wpAny_nextOf_wide_end hh hit2 hx fun h' x he' hx' => ?_)
      obtain ⟨o, ho, hcl⟩ := hx'
      refine wpAny_bind (wpAny_isInstance (T := "StopIteration") (b := true) ⟨o, ho, hcl⟩ isSubtype_stop ?_)
      exact wpAny_pure ⟨rfl, I.turned (t' := s.toks) (fun b o hb q => he' b o hb q) f0 f1 f3 f4 f5⟩
    · have hit2 : s.heap.IsStrIter it "str_ascii_iterator" z t i := by simpa [strIterType, ha] using hit
      refine wpAny_bind (wpAny_nextOf_ascii_end hh hit2 hx fun h' x he' hx' => ?_)
      obtain ⟨o, ho, hcl⟩ := hx'
      refine wpAny_bind (wpAny_isInstance (T := "StopIteration") (b := true) ⟨o, ho, hcl⟩ isSubtype_stop ?_)
      exact wpAny_pure ⟨rfl, I.turned (t' := s.toks) (fun b o hb q => he' b o hb q) f0 f1 f3 f4 f5⟩
  self := fun A i s Q E st h => let ⟨⟨_, he⟩, _⟩ := st; wpAny_pyIter_enum he h
def iEnumS (ta : TA) : TI := fun σ H R => ta σ H fun vs H1 => ∃ z, vs = [.str z] ∧ R (IteS z) H1
theorem pi_enumS {X : Cx} {e : Expr} {ta : TA} {p pos tpos : Pos} {elts : List Expr} {kk : Nat} (hg : Gl X "enumerate") (hm : X.mg "enumerate" = none) (ha : PA X [e] ta) (hs : starEach [e] X.env = [(false, eval e X.env)] := by rfl) :
    PI X (.Tuple elts kk tpos) (.Call (.Name "enumerate" p) [e] [] pos) (iEnumS ta) := by
  refine ⟨fun pins s σ H R I h => ?_⟩
  refine Call_ (ld_blt I hg hm boot_enumerate (PyProof.Rows.callWith_type1 (thn (ha.run pos pins s σ H _ I h) fun us s1 ⟨vs, H1, I1, r1, q1⟩ => ?_) hs rfl))
  obtain ⟨z, ex, q⟩ := q1
  subst ex
  cases r1 with
  | cons r rr =>
    cases rr
    obtain ⟨t, rfl⟩ := r
    refine call_enumerate_str fun h' he hit hsz hk => wpAny_pyIter_enum he ?_
    have I2 : Inv X pins σ H1 { s1 with heap := h' } := I1.kept (t' := s1.toks) hk
    refine ⟨s1.heap.objs.size + 1, [s1.heap.objs.size + 1, s1.heap.objs.size], _, _, H1, rfl, I2, turn_enumS z t (s1.heap.objs.size + 1) s1.heap.objs.size, ⟨⟨.none, he⟩, hit, Nat.succ_ne_self _⟩, fun b hb => ?_, q⟩
    have hle : s1.heap.objs.size ≤ b := by
      have e' : b = s1.heap.objs.size + 1 ∨ b = s1.heap.objs.size := by simpa using hb
      rcases e' with z | z
      · rw [z]
        exact Nat.le_add_right _ _
      · rw [z]
        exact Nat.le_refl _
    exact I1.fpOk hle (I1.hok.fresh hle)
theorem walk_enumS {z : Str} : Walk (IteS z) z.cps.size (fun _ => True) (YPair (fun i => some (.int (i : Nat))) (fun i => z.cps[i]?.map fun c => V.str ⟨#[c]⟩)) := by
  refine ⟨fun i _ hi _ => hi, fun _ _ => Nat.le_refl _, fun i H v H' _ _ y => ?_⟩
  obtain ⟨T, c, h1, h2, h3, h4⟩ := y
  exact ⟨T, .int (i : Nat), .str ⟨#[c]⟩, h1, h2, h3, rfl, by show Option.map _ (z.cps[i]?) = _; rw [h4]; rfl⟩
end SL
/-! Data of any kind, and what the program and a law ask of it. -/
namespace SL
open PySem PySem.Spec PyProof.Rows L2
inductive D where
  | non
  | bl (b : Bool)
  | int (i : Int)
  | str (s : Str)
  | lst (ds : List D)
  | tup (ds : List D)
  | dic
mutual
inductive Dt (K : PySem.W.Frag) (H : Hp) : V → D → Prop
  | non : Dt K H .non .non
  | bl (b : Bool) : Dt K H (.bl b) (.bl b)
  | int (i : Int) : Dt K H (.int i) (.int i)
  | str (s : Str) (z : s.length ≤ 100000) : Dt K H (.str s) (.str s)
  | lst {a : Addr} {vs : List V} {ds : List D} (h : SqL K H a vs) (k : DtAll K H vs ds) (z : ds.length ≤ 100000) : Dt K H (.ref a) (.lst ds)
  | tup {a : Addr} {vs : List V} {ds : List D} (h : SqT K H a vs) (k : DtAll K H vs ds) (z : ds.length ≤ 100000) : Dt K H (.ref a) (.tup ds)
  | dic {a : Addr} {kvs : List (Key × V)} (h : H a = some (.dK kvs)) : Dt K H (.ref a) .dic
inductive DtAll (K : PySem.W.Frag) (H : Hp) : List V → List D → Prop
  | nil : DtAll K H [] []
  | cons {v : V} {d : D} {vs : List V} {ds : List D} (h : Dt K H v d) (t : DtAll K H vs ds) : DtAll K H (v :: vs) (d :: ds)
end
def tyD : D → String
  | .non => "NoneType"
  | .bl _ => "bool"
  | .int _ => "int"
  | .str _ => "str"
  | .lst _ => "list"
  | .tup _ => "tuple"
  | .dic => "dict"
section
variable {K : PySem.W.Frag} {H H' : Hp}
mutual
theorem Dt.same (s : Same H H') : ∀ {v : V} {d : D}, Dt K H v d → Dt K H' v d
  | _, _, .non => .non
  | _, _, .bl b => .bl b
  | _, _, .int i => .int i
  | _, _, .str x z => .str x z
  | _, _, .lst h a z => .lst (s.seq h) (DtAll.same s a) z
  | _, _, .tup h a z => .tup (Same.seqT s h) (DtAll.same s a) z
  | _, _, .dic h => .dic (s _ _ h)
theorem DtAll.same (s : Same H H') : ∀ {vs : List V} {ds : List D}, DtAll K H vs ds → DtAll K H' vs ds
  | _, _, .nil => .nil
  | _, _, .cons h t => .cons (Dt.same s h) (DtAll.same s t)
end
theorem Dt.knw {v : V} {d : D} (h : Dt K H v d) : Knw K H v (tyD d) := by
  cases h with
  | non => exact .non
  | bl b => exact .bl b
  | int i => exact .int i
  | str s _ => exact .str s
  | lst h _ _ => exact .lst h
  | tup h _ _ => exact .tup h
  | dic h => exact .dic h
theorem DtAll.length : ∀ {vs : List V} {ds : List D}, DtAll K H vs ds → vs.length = ds.length
  | _, _, .nil => rfl
  | _, _, .cons _ t => congrArg (· + 1) (DtAll.length t)
theorem DtAll.get : ∀ {vs : List V} {ds : List D} {i : Nat} {v : V}, DtAll K H vs ds → vs[i]? = some v → ∃ d, ds[i]? = some d ∧ Dt K H v d
  | _, _, _, _, .nil, h => by simp at h
  | _, _, 0, _, .cons h _, e => by
    simp at e
    subst e
    exact ⟨_, rfl, h⟩
  | _, _, i + 1, _, .cons _ t, e => by
    obtain ⟨d, h1, h2⟩ := DtAll.get (i := i) t (by simpa using e)
    exact ⟨d, by simpa using h1, h2⟩
theorem DtAll.got : ∀ {vs : List V} {ds : List D} {i : Nat} {d : D}, DtAll K H vs ds → ds[i]? = some d → ∃ v, vs[i]? = some v ∧ Dt K H v d
  | _, _, _, _, .nil, h => by simp at h
  | _, _, 0, _, .cons h _, e => by
    simp at e
    subst e
    exact ⟨_, rfl, h⟩
  | _, _, i + 1, _, .cons _ t, e => by
    obtain ⟨v, h1, h2⟩ := DtAll.got (i := i) t (by simpa using e)
    exact ⟨v, by simpa using h1, h2⟩
theorem DtAll.append {ws : List V} {es : List D} (b : DtAll K H ws es) : ∀ {vs : List V} {ds : List D}, DtAll K H vs ds → DtAll K H (vs ++ ws) (ds ++ es)
  | _, _, .nil => b
  | _, _, .cons h t => .cons h (DtAll.append b t)
theorem DtAll.snoc {v : V} {d : D} (h : Dt K H v d) {vs : List V} {ds : List D} (t : DtAll K H vs ds) : DtAll K H (vs ++ [v]) (ds ++ [d]) := DtAll.append (.cons h .nil) t
theorem DtAll.drop : ∀ {vs : List V} {ds : List D} (n : Nat), DtAll K H vs ds → DtAll K H (vs.drop n) (ds.drop n)
  | _, _, 0, h => h
  | _, _, _ + 1, .nil => .nil
  | _, _, n + 1, .cons _ t => DtAll.drop n t
theorem DtAll.take : ∀ {vs : List V} {ds : List D} (n : Nat), DtAll K H vs ds → DtAll K H (vs.take n) (ds.take n)
  | _, _, 0, _ => .nil
  | _, _, _ + 1, .nil => .nil
  | _, _, n + 1, .cons h t => .cons h (DtAll.take n t)
end
/-! ### what is asked -/
def itemsD : D → Option (List D)
  | .lst ds => some ds
  | .tup ds => some ds
  | _ => none
def withinD (lo hi : Int) : D → Bool
  | .int i => decide (lo ≤ i) && decide (i ≤ hi)
  | _ => false
/-- s stands in S -/
def inS (S s : Str) : Bool := !(Builtin.Str.occurrences S s 0 S.length 1).isEmpty
def signD (S : Str) : D → Bool
  | .str s => decide (s.length = 1) && inS S s
  | _ => false
def ltD : D → D → Bool
  | .int i, .int j => decide (i < j)
  | .str s, .str t => decide (s.cps.toList < t.cps.toList)
  | _, _ => false
def isIntD : D → Bool
  | .int _ => true
  | _ => false
def isStrD : D → Bool
  | .str _ => true
  | _ => false
def homog (ds : List D) : Bool := ds.all isIntD || ds.all isStrD
/-- the answers of x < y for neighbours -/
def steps : List D → List Bool
  | x :: y :: r => ltD x y :: steps (y :: r)
  | _ => []
def rising (ds : List D) : Bool := (steps ds).all id
def signsOk (S : Str) (d : D) : Bool := match itemsD d with
  | none => false
  | some ds => decide (1 ≤ ds.length) && decide (ds.length ≤ 10) && ds.all (signD S) && rising ds
def statesOk (many : Int) (ds : List D) : Bool := ds.all (withinD 0 (many - 1))
def lineOk (width : Nat) (many : Int) (d : D) : Bool := match itemsD d with
  | none => false
  | some rs => decide (rs.length = width) && statesOk many rs
def movesOk (width : Nat) (d : D) : Bool := match itemsD d with
  | none => false
  | some ds => decide (1 ≤ ds.length) && decide (ds.length ≤ 40) && ds.all (lineOk width ds.length)
def goodOk (many : Int) (d : D) : Bool := match itemsD d with
  | none => false
  | some ds => statesOk many ds && rising ds
theorem signD_str {S : Str} {ds : List D} (h : ds.all (signD S) = true) : homog ds = true := by
  unfold homog
  have : ds.all isStrD = true := by
    rw [List.all_eq_true] at h ⊢
    intro d hd
    have := h d hd
    cases d <;> first | rfl | cases this
  rw [this, Bool.or_true]
theorem states_int {m : Int} {ds : List D} (h : statesOk m ds = true) : homog ds = true := by
  unfold homog
  unfold statesOk at h
  have : ds.all isIntD = true := by
    rw [List.all_eq_true] at h ⊢
    intro d hd
    have := h d hd
    cases d <;> first | rfl | cases this
  rw [this, Bool.true_or]
theorem steps_get : ∀ {ds : List D} {i : Nat} {x y : D}, ds[i]? = some x → ds[i + 1]? = some y → (steps ds)[i]? = some (ltD x y)
  | [], _, _, _, h, _ => by simp at h
  | [_], 0, _, _, _, h => by simp at h
  | [_], _ + 1, _, _, h, _ => by simp at h
  | a :: b :: r, 0, x, y, h1, h2 => by
    simp at h1 h2
    subst h1 h2
    rfl
  | a :: b :: r, i + 1, x, y, h1, h2 => by
    have h1' : (b :: r)[i]? = some x := by simpa using h1
    have h2' : (b :: r)[i + 1]? = some y := by simpa using h2
    have := steps_get (ds := b :: r) (i := i) h1' h2'
    simpa [steps] using this
theorem steps_len : ∀ ds : List D, (steps ds).length = ds.length - 1
  | [] => rfl
  | [_] => rfl
  | a :: b :: r => by
    have := steps_len (b :: r)
    simp only [steps, List.length_cons] at this ⊢
    omega
/-! ### x < y of two ints or two texts; the any-of of list and tuple -/
section
variable {X : Cx}
def rLtD : R2 := fun x y H Q => (∃ i j, x = .int i ∧ y = .int j ∧ Q (.bl (decide (i < j))) H) ∨ ∃ i j, x = .str i ∧ y = .str j ∧ Q (.bl (decide (i.cps.toList < j.cps.toList))) H
theorem op_ltD : OpR X (compareOp .Lt) rLtD := by
  intro pins s σ H x y v u Q I rx ry h
  rcases h with ⟨i, j, h1, h2, q⟩ | ⟨i, j, h1, h2, q⟩
  · exact op_lt pins s σ H x y v u Q I rx ry ⟨i, j, h1, h2, q⟩
  · exact op_lt_str pins s σ H x y v u Q I rx ry ⟨i, j, h1, h2, q⟩
end
theorem kitAny_two {K : PySem.W.Frag} {T A B : String} {a b : Bool} (h1 : PySem.W.kitOne K (.type T) (.type A) = some a) (h2 : PySem.W.kitOne K (.type T) (.type B) = some b) : PySem.W.kitAny K (.type T) [.type A, .type B] = some (a || b) := by
  cases a with
  | true => exact kitAny_cons h1 (fun z => nomatch z) fun _ => rfl
  | false =>
    refine kitAny_cons h1 (fun _ => ?_) fun z => nomatch z
    cases b with
    | true => exact kitAny_cons h2 (fun z => nomatch z) fun _ => rfl
    | false => exact kitAny_cons h2 (fun _ => kitAny_nil) fun z => nomatch z
/-- a dict's comprehension over any walk -/
theorem dc_it {J : It} {n : Nat} {G : Hp → Prop} {Y : Nat → Hp → V → Hp → Prop} (w : Walk J n G Y) {g : TG} {tt : TT} {tk tv : TE} {vs : List Nat} {σ : L2.St} {H1 : Hp} {D : Addr} {Qd : Hp → Prop} (Pv : Nat → Hp → Prop) (h0 : Pv 0 (upd H1 D (.dK []))) (hG : ∀ i H, i ≤ n → Pv i H → G H)
    (hs : ∀ i x H H', i < n → Pv i H → Y i H x H' → g x (wipe σ vs) H' fun σ2 H2 => wipe σ2 vs = wipe σ vs ∧ tt σ2 H2 fun b H3 =>
      if b = true then tk σ2 H3 fun y H4 => tv σ2 H4 fun z H5 => ∃ kvs k, y = kV k ∧ H5 D = some (.dK kvs) ∧ kvs.length < sizeLine ∧ Pv (i + 1) (upd H5 D (.dK (putK kvs k z))) else Pv (i + 1) H3) (hd : ∀ H, Pv n H → Qd H) :
    ∃ W : Nat → Nat → Hp → Prop, (∃ m, W 0 m (upd H1 D (.dK []))) ∧ ∀ i m H, W i m H →
      (J.stop i H ∧ Qd H) ∨ (J.go i H ∧ ∃ Nx : Hp → Prop, (∀ H', Nx H' → ∃ m', m' < m ∧ W (i + 1) m' H') ∧ ∀ x H', J.yld i H x H' → g x (wipe σ vs) H' fun σ2 H2 => wipe σ2 vs = wipe σ vs ∧ tt σ2 H2 fun b H3 =>
        if b = true then tk σ2 H3 fun y H4 => tv σ2 H4 fun z H5 => ∃ kvs k, y = kV k ∧ H5 D = some (.dK kvs) ∧ kvs.length < sizeLine ∧ Nx (upd H5 D (.dK (putK kvs k z))) else Nx H3) := by
  refine ⟨fun i m H => m = n - i ∧ i ≤ n ∧ Pv i H, ⟨n, rfl, Nat.zero_le _, h0⟩, fun i m H hW => ?_⟩
  obtain ⟨rfl, hi, p⟩ := hW
  have q := hG i H hi p
  rcases Nat.lt_or_ge i n with hlt | hge
  · exact .inr ⟨w.goes i H hlt q, Pv (i + 1), fun H' p' => ⟨n - (i + 1), by omega, rfl, hlt, p'⟩, fun x H' y => hs i x H H' hlt p (w.yields i H x H' hlt q y)⟩
  · have e : i = n := by omega
    subst e
    exact .inl ⟨w.stops H q, hd H p⟩
/-- t[1:] -/
theorem cut_one (xs : List V) : cutV xs (some 1) none = xs.drop 1 := by
  unfold cutV
  rw [HT.sIx_none, show HT.sIx xs.length 0 (some 1) = min 1 xs.length from HT.sIx_nat _ _ 1]
  by_cases h : xs.length = 0
  · rw [List.eq_nil_of_length_eq_zero h]
    rfl
  · rw [show min 1 xs.length = 1 by omega, List.take_of_length_le (by rw [List.length_drop]; exact Nat.le_refl _)]
theorem lt_of {K : PySem.W.Frag} {H : Hp} {x y : V} {c d : D} {Q : VK} (h1 : Dt K H x c) (h2 : Dt K H y d) (h : (isIntD c && isIntD d || isStrD c && isStrD d) = true) (q : Q (.bl (ltD c d)) H) : rLtD x y H Q := by
  cases h1 <;> cases h2 <;> first | cases h | skip
  · exact .inl ⟨_, _, rfl, rfl, q⟩
  · exact .inr ⟨_, _, rfl, rfl, q⟩
theorem homog_two {ds : List D} {i j : Nat} {c d : D} (h : homog ds = true) (h1 : ds[i]? = some c) (h2 : ds[j]? = some d) : (isIntD c && isIntD d || isStrD c && isStrD d) = true := by
  unfold homog at h
  rw [Bool.or_eq_true, List.all_eq_true, List.all_eq_true] at h
  rcases h with h | h
  · rw [h c (List.mem_of_getElem? h1), h d (List.mem_of_getElem? h2)]
    rfl
  · rw [h c (List.mem_of_getElem? h1), h d (List.mem_of_getElem? h2), Bool.and_self, Bool.or_true]
end SL
/-! C(..) in the body of a try: what __init__ raises goes to the clauses. -/
namespace SL
open PySem PySem.Spec PyProof.Rows L2
section
variable {X : Cx} {CX : CXT} {k j : Nat} {f C : Addr} {fd : FuncData} {ps : List Str} {sp : Sp} {E : L2.St → XK} {x : Str} {p pos : Pos} {e : Expr} {es : List Expr} {t : TA}
theorem made_runs {pins : List (Addr × Obj)} {σ : L2.St} {H : Hp} {s : Shared} {Q : VK} {us : List Value} {vs : List V} (M : Mk X.K C f) (F : FnOk X.prog X.w X.K X.mg X.base CX k f fd ps sp) (hr : Room (k + 1) X.A) (hb : Binds X.K fd ps []) (hx : PassesAt CX X σ (E σ)) (I : Inv X pins σ H s) (r : Vals vs us)
    (h : ∀ o dx, H o = none → H dx = none → dx ≠ o → sp (.ref o :: vs) (upd (upd H dx (.own o)) o (.ins C dx [])) (fun v H2 => v = .non ∧ Q (.ref o) H2) (E σ)) : wpAny (model X.prog X.w) X.A (call (.ref C) us) (EP X pins σ Q) X.xe s := by
  have q0 := h (s.heap.objs.size + 1) s.heap.objs.size (I.hok.fresh (Nat.le_succ _)) (I.hok.fresh (Nat.le_refl _)) (Nat.ne_of_lt (Nat.lt_succ_self _))
  have J := Inv.made (C := C) I
  have rr : Vals (V.ref (s.heap.objs.size + 1) :: vs) (Value.ref (s.heap.objs.size + 1) :: us) := .cons rfl r
  have lens : (Value.ref (s.heap.objs.size + 1) :: us ++ []).length = ps.length := by
    rw [List.append_nil, ← rr.length]
    exact F.len _ _ _ _ q0
  have bd := hb _ (Value.ref (s.heap.objs.size + 1) :: us) J.kIn lens
  rw [List.append_nil] at bd
  refine wpAny_call (make_map (f := f) I.kIn M.makes M.init (beq_iff_eq.mp M.fn) (codeAny_mono (F.run _ X.stack _ _ ⟨Value.ref (s.heap.objs.size + 1) :: us, []⟩ _ _ _ (E σ) (hr.make C us []) (J.env0.make C us []) bd rr q0) fun o s' ho => ?_))
  cases o with
  | error z => exact hx pins _ _ z s' J ho
  | ok fl =>
    cases fl with
    | ret u =>
      obtain ⟨v, H', I3, rv, ev, q3⟩ := J.after ho
      subst ev
      exact ⟨rv, ⟨V.ref (s.heap.objs.size + 1), H', I3, rfl, q3⟩⟩
    | next => exact False.elim ho
    | brk => exact False.elim ho
    | cont => exact False.elim ho
def tMakeS (C : Addr) (sp : Sp) (E : L2.St → XK) (t : TA) : TE := fun σ H Q => t σ H fun vs H1 => ∀ o dx, H1 o = none → H1 dx = none → dx ≠ o → sp (.ref o :: vs) (upd (upd H1 dx (.own o)) o (.ins C dx [])) (fun v H2 => v = .non ∧ Q (.ref o) H2) (E σ)
theorem pe_makeS (M : Mk X.K C f) (F : FnOk X.prog X.w X.K X.mg X.base CX k f fd ps sp) (hr : Room (k + 1) X.A) (hg : Gl X x) (hm : X.mg x = some (.ref C)) (hb : Binds X.K fd ps []) (hx : ∀ σ, PassesAt CX X σ (E σ)) (ha : PA X (e :: es) t) (hdb : (x == ("__debug__" : Str)) = false := by decide)
    (he : starEach (e :: es) X.env = (false, eval e X.env) :: starEach es X.env := by rfl) (hpl : (backTo pos (starEach es X.env)).any (·.1) = false := by rfl) : PE X (.Call (.Name x p) (e :: es) [] pos) (tMakeS C sp E t) := by
  refine ⟨fun pins s σ H Q I h => ?_⟩
  refine wpAny_Call_Name_kw (ld_glob I hg hm ?_ hdb)
  exact PySem.W.callWith_K (h₀ := X.base) I.ok.mod.kin M.kp (thn (ha.run pos pins s σ H _ I h) fun us s1 ⟨vs, H1, I1, r, q⟩ => ⟨I1.kIn, made_runs M F hr hb (hx σ) I1 r q⟩) he hpl
end
section
variable {X : Cx} {tg : Expr}
/-- over a list or a tuple, whichever it is -/
def iAny (K : PySem.W.Frag) (tl : TE) : TI := fun σ H R => tl σ H fun x H1 => ∃ a xs, x = .ref a ∧ (SqL K H1 a xs ∨ SqT K H1 a xs) ∧ ∀ J G, Walk J xs.length G (YAt xs) → (∀ H', Same H1 H' → G H') → R J H1
theorem pi_any {l : Expr} {tl : TE} (hl : PE X l tl) : PI X tg l (iAny X.K tl) := by
  refine ⟨fun pins s σ H R I h => thn (hl.run pins s σ H _ I h) fun v s1 hv => ?_⟩
  obtain ⟨_, H1, I1, r1, a, xs, rfl, hs, q⟩ := hv
  cases r1
  have fp : ∀ b, b ∈ [s1.heap.objs.size] → FpOk X pins H1 b := fun b hb => by
    rw [List.mem_singleton.mp hb]
    exact I1.fpOk (Nat.le_refl _) (I1.hok.fresh (Nat.le_refl _))
  have up : ∀ o : Obj, Inv X pins σ H1 { s1 with heap := s1.heap.push o } := fun o => I1.kept (t' := s1.toks) fun b z e => Heap.get?_push_of_some _ e
  rcases hs with hq | hq
  · obtain ⟨its, _, p, _⟩ := I1.list hq
    exact wpAny_pyIter_list p.isList ⟨_, _, _, _, H1, rfl, up _, turn_list a _, ⟨_, Heap.get?_push_size _ rfl, rfl, rfl⟩, fp, q _ _ walk_list fun H' s => s.seq hq⟩
  · obtain ⟨its, _, p, _⟩ := I1.tuple hq
    exact wpAny_pyIter_tuple (show s1.heap.IsTuple a its.toArray from p) ⟨_, _, _, _, H1, rfl, up _, turn_tuple a _, ⟨_, Heap.get?_push_size _ rfl, rfl, rfl⟩, fp, q _ _ walk_tup fun H' s => Same.seqT s hq⟩
end
section
variable {X : Cx} {tg : Expr}
theorem call_listOfK (K : PySem.W.Frag) (h : X.K = K := by rfl) : CallR X (.type "list") (fun xs H Q => ∃ p ys, xs = [.ref p] ∧ (SqL K H p ys ∨ SqT K H p ys) ∧ ∀ l, H l = none → Q (.ref l) (upd H l (.lst ys))) := by
  subst h
  exact call_list_of
theorem pi_listK {l : Expr} {tl : TE} (K : PySem.W.Frag) (hl : PE X l tl) (h : X.K = K := by rfl) : PI X tg l (iList K tl) := by
  subst h
  exact pi_list hl
end
/-- the scope of the comprehension that the j-th statement assigns -/
def asgScope (s : Stmt) (j : Nat) : Scope := match (defBody s).getD j (.Pass ⟨0, 0, 0, 0⟩) with
  | .Assign _ (.ListComp _ _ sc _) _ => sc
  | _ => { kind := .function, names := [], isGenerator := false, isCoroutine := false }
end SL
/-! list(text); texts of one sign, drawn and sorted. -/
namespace SL
open PySem PySem.Spec PyProof.Rows L2
/-- the text of one sign -/
abbrev ch (c : Nat) : Str := ⟨#[c]⟩
abbrev chV (c : Nat) : V := .str (ch c)
theorem vals_at : ∀ {vs : List V} {us : List Value}, vs.length = us.length → (∀ (i : Nat) (v : V) (u : Value), vs[i]? = some v → us[i]? = some u → RelV v u) → Vals vs us
  | [], [], _, _ => .nil
  | [], _ :: _, e, _ => by cases e
  | _ :: _, [], e, _ => by cases e
  | v :: vs, u :: us, e, h => .cons (h 0 v u rfl rfl) (vals_at (by simpa using e) fun i x y hx hy => h (i + 1) x y (by simpa using hx) (by simpa using hy))
section
variable {X : Cx}
theorem call_list_txt (hc : X.calm = true) : CallR X (.type "list") (fun xs H Q => ∃ z : Str, xs = [.str z] ∧ z.cps.size ≤ 100000 ∧ ∀ l, H l = none → Q (.ref l) (upd H l (.lst (z.cps.toList.map chV)))) := by
  intro pins s σ H xs us Q I r h
  obtain ⟨z, rfl, hz, q⟩ := h
  obtain ⟨u, rfl, t, rfl⟩ := vals1 r
  have hz' : z.cps.size ≤ sizeLine := Nat.le_of_lt (lineN hz)
  refine call_list_str (I.ok.hd hc) z t (fun h' tk acc c' hk hl hi => ?_) hz'
  have hs := hi.1
  refine ⟨.ref _, _, I.laid (t' := tk) (o := .lst (z.cps.toList.map chV)) hk (Nat.le_refl _) ?_, rfl, q _ (I.hok.fresh (Nat.le_refl _))⟩
  refine ⟨by rw [List.length_map, Array.length_toList]; exact hz', acc.toList, c', vals_at (by rw [List.length_map, Array.length_toList, Array.length_toList, hs]) fun i v u hv hu => ?_, hl⟩
  rw [List.getElem?_map, Array.getElem?_toList] at hv
  rw [Array.getElem?_toList] at hu
  obtain ⟨c, t', hc', rfl⟩ := hi.2 i u hu
  rw [hc'] at hv
  cases hv
  exact ⟨t', rfl⟩
end
theorem ch_inj {a b : Nat} (h : ch a = ch b) : a = b := by
  have : (ch a).cps.toList = (ch b).cps.toList := by rw [h]
  simpa using this
theorem perm_ch {cs : List Nat} {ys : List Str} (h : ys.Perm (cs.map ch)) : ∃ ds : List Nat, ds.Perm cs ∧ ys = ds.map ch := by
  refine ⟨ys.map fun s => s.cps.toList.headD 0, ?_, ?_⟩
  · have := h.map fun s => s.cps.toList.headD 0
    rw [List.map_map] at this
    have e : (fun s : Str => s.cps.toList.headD 0) ∘ ch = id := by funext c; rfl
    rw [e, List.map_id] at this
    exact this
  · rw [List.map_map]
    have : ∀ y ∈ ys, (ch ∘ fun s : Str => s.cps.toList.headD 0) y = id y := fun y hy => by
      obtain ⟨c, _, rfl⟩ := List.mem_map.mp (h.mem_iff.mp hy)
      rfl
    rw [List.map_congr_left this, List.map_id]
theorem one_lt {a b : Nat} : ([a] < [b]) ↔ a < b := by simp [List.cons_lt_cons_iff]
theorem sorted_up : ∀ {cs : List Nat}, cs.Nodup → PyProof.Rows.sortedS (cs.map ch) = true → rising (cs.map fun c => D.str (ch c)) = true
  | [], _, _ => rfl
  | [_], _, _ => rfl
  | a :: b :: r, nd, h => by
    have h' : (!PySem.Spec.ltCps [b] [a] && PyProof.Rows.sortedS ((b :: r).map ch)) = true := h
    rw [Bool.and_eq_true, PyProof.Rows.ltCps_eq, Bool.not_eq_true', decide_eq_false_iff_not, one_lt] at h'
    have ih := sorted_up (cs := b :: r) (List.nodup_cons.mp nd).2 h'.2
    have ne : a ≠ b := fun e => (List.nodup_cons.mp nd).1 (by rw [e]; exact List.mem_cons_self ..)
    have lt : ltD (.str (ch a)) (.str (ch b)) = true := decide_eq_true (one_lt.mpr (by omega))
    unfold rising at ih ⊢
    show (ltD (.str (ch a)) (.str (ch b)) :: steps ((b :: r).map fun c => D.str (ch c))).all id = true
    rw [List.all_cons, ih, lt]
    rfl
theorem sign_ch {S : Str} {c : Nat} (h : c ∈ S.cps.toList) : signD S (.str (ch c)) = true := by
  show (decide ((ch c).length = 1) && inS S (ch c)) = true
  have e : inS S (ch c) = decide (c ∈ S.cps.toList) := PySem.StrLaws.found_one S c
  rw [e, decide_eq_true h]
  rfl
theorem signs_ch {S : Str} {cs : List Nat} (h : ∀ c ∈ cs, c ∈ S.cps.toList) : (cs.map fun c => D.str (ch c)).all (signD S) = true := by
  rw [List.all_eq_true]
  intro d hd
  obtain ⟨c, hc, rfl⟩ := List.mem_map.mp hd
  exact sign_ch (h c hc)
theorem dts_ch {K : PySem.W.Frag} {H : Hp} : ∀ cs : List Nat, DtAll K H (cs.map chV) (cs.map fun c => D.str (ch c))
  | [] => .nil
  | c :: r => .cons (.str _ (show 1 ≤ 100000 by decide)) (dts_ch r)
theorem map_erase {α β : Type} (f : α → β) : ∀ (l : List α) (k : Nat), (l.map f).eraseIdx k = (l.eraseIdx k).map f
  | [], _ => rfl
  | _ :: _, 0 => rfl
  | x :: r, k + 1 => congrArg (f x :: ·) (map_erase f r k)
theorem erase_perm {α : Type} : ∀ {l : List α} {k : Nat} {y : α}, l[k]? = some y → (y :: l.eraseIdx k).Perm l
  | [], _, _, h => by simp at h
  | x :: r, 0, y, h => by
    simp at h
    subst h
    exact List.Perm.refl _
  | x :: r, k + 1, y, h => by
    have ih := erase_perm (l := r) (k := k) (y := y) (by simpa using h)
    show (y :: x :: r.eraseIdx k).Perm (x :: r)
    exact (List.Perm.swap x y _).trans (ih.cons x)
end SL
/-! sorted(texts, reverse=..), any number of them. -/
namespace SL
open PySem PySem.Spec PyProof.Rows L2 SrtO Srt
def sv : Value → List Nat
  | .str s _ => s.cps.toList
  | _ => []
def ltSv (v u : Value) : Bool := decide (sv v < sv u)
theorem swo_sv : Swo ltSv := by
  refine ⟨fun x y h => ?_, fun x y z h1 h2 => ?_⟩
  · have a := of_decide_eq_true (p := sv x < sv y) h
    exact decide_eq_false (p := sv y < sv x) (List.lt_asymm a)
  · have a : sv x ≤ sv y := of_decide_eq_false (p := sv y < sv x) h1
    have b : sv y ≤ sv z := of_decide_eq_false (p := sv z < sv y) h2
    exact decide_eq_false (p := sv z < sv x) (List.le_trans a b)
theorem strs_mem : ∀ {vs : List Value} {ss : List Str}, StrsAre vs ss → ∀ v ∈ vs, ∃ i t, v = Value.str i t
  | _, _, .nil, v, h => absurd h (by simp)
  | _, _, .cons n t r, v, h => by
    rcases List.mem_cons.mp h with e | h
    · exact ⟨n, t, e⟩
    · exact strs_mem r v h
section
variable {prog : Program} {w : World} {A : Around} {E : Value → Shared → Prop} {s : Shared}
theorem strs_cmp {vs : List Value} {ss : List Str} (hI : StrsAre vs ss) : Cmp prog w A s oneType' (fun p => p.1 ∈ vs) (lt2 ltSv) := by
  intro p q hm hm'
  obtain ⟨a, t, e⟩ := strs_mem hI _ hm
  obtain ⟨b, u, e'⟩ := strs_mem hI _ hm'
  show wpAny (model prog w) A (keyLt' oneType' p.1 q.1) (fun r s' => s' = s ∧ r = ltSv p.1 q.1) (fun _ _ => False) s
  rw [e, e', keyLt'_oneType]
  exact oneLt_str ⟨rfl, rfl⟩
theorem strs_sortable {a : Addr} {vs : List Value} {ss : List Str} (hI : StrsAre vs ss) (h2 : 2 ≤ vs.length) : SortableO prog w A s a vs ltSv := by
  intro h' _
  refine ⟨oneType', fun Q E hq => ?_, strs_cmp hI⟩
  match vs, hI, h2 with
  | v1 :: v2 :: rest, hI, _ =>
    rw [keyKind_strs hI]
    exact wpAny_pure hq
  | [], _, h => exact absurd h (by decide)
  | [v], _, h => exact absurd h (by simp)
end
def sOf : Value → Str
  | .str s _ => s
  | _ => Str.empty
theorem strs_of : ∀ {vs : List Value}, (∀ v ∈ vs, ∃ i t, v = Value.str i t) → Vals ((vs.map sOf).map V.str) vs
  | [], _ => .nil
  | v :: vs, h => by
    obtain ⟨i, t, e⟩ := h v List.mem_cons_self
    subst e
    exact .cons ⟨t, rfl⟩ (strs_of fun u hu => h u (List.mem_cons_of_mem _ hu))
theorem sOf_strs : ∀ {vs : List Value} {ss : List Str}, StrsAre vs ss → vs.map sOf = ss
  | _, _, .nil => rfl
  | _, _, .cons n t r => congrArg (n :: ·) (sOf_strs r)
section
variable {X : Cx}
/-- sorted(texts, reverse=True): the same texts, none behind a lesser one -/
theorem cr_sortedRevS : CallRK X (.builtin "sorted") [Str.ofString "reverse"] (fun vs zs H Q => ∃ (a : Addr) (xs : List Str), vs = [V.ref a] ∧ zs = [.bl true] ∧ SqL X.K H a (xs.map V.str) ∧
    ∀ (ys : List Str) (p : Addr), ys.Perm xs → ys.Pairwise (fun x y => ¬ x.cps.toList < y.cps.toList) → H p = none → Q (.ref p) (upd H p (.lst (ys.map V.str)))) := by
  intro pins s σ H vs zs us ws Q I r rz h
  obtain ⟨a, xs, rfl, rfl, hs, q⟩ := h
  obtain rfl := Vals.ref1 r
  obtain ⟨w1, rfl, e1⟩ := vals1 rz
  obtain rfl : w1 = Value.bool true := e1
  obtain ⟨its, rv, hl, hz⟩ := I.list hs
  have hi := rv.strs
  refine SrtR.sorted_ordK (b := true) (fun _ => rfl) (PyProof.Rows.args_sorted_rev _ _) (fun _ => PyProof.Rows.args_list_sort_rev _ _) swo_sv hl.isList (by rw [← rv.length]; exact hz) (fun h2 h₁ a' _ _ => strs_sortable hi h2) fun out h1 h2 => ?_
  have pm : out.Perm its := (h2.perm).trans (List.reverse_perm _)
  have all : ∀ v ∈ out.reverse, ∃ i t, v = Value.str i t := fun v hv => strs_mem hi v (pm.mem_iff.mp (List.mem_reverse.mp hv))
  obtain ⟨ep, he'⟩ := PyProof.Rows.sortedAll_at s.heap its (if true = true then out.toArray.reverse else out.toArray)
  have e0 : (if true = true then out.toArray.reverse else out.toArray) = out.reverse.toArray := by simp
  have len : ((out.reverse.map sOf).map V.str).length ≤ sizeLine := by
    rw [List.length_map, List.length_map, List.length_reverse, pm.length_eq, ← rv.length]
    exact hz
  have pw : (out.reverse.map sOf).Pairwise (fun x y => ¬ x.cps.toList < y.cps.toList) := by
    rw [List.map_reverse, List.pairwise_reverse, List.pairwise_map]
    refine List.Pairwise.imp_of_mem (fun {x y} hx hy h => ?_) h1
    obtain ⟨i, t, rfl⟩ := strs_mem hi x (pm.mem_iff.mp hx)
    obtain ⟨j, u, rfl⟩ := strs_mem hi y (pm.mem_iff.mp hy)
    exact of_decide_eq_false (p := j.cps.toList < i.cps.toList) h
  have pr : (out.reverse.map sOf).Perm xs := by
    have z := ((List.reverse_perm out).trans pm).map sOf
    rw [sOf_strs hi] at z
    exact z
  rw [e0] at he' ⊢
  exact ⟨.ref _, upd H (s.heap.objs.size + 1) (.lst ((out.reverse.map sOf).map V.str)), I.laid (t' := s.toks) (fun _ _ => PyProof.Rows.sortedAll_old) (Nat.le_succ _) ⟨len, _, ep, strs_of all, he'⟩, rfl, q _ _ pr pw (I.hok.fresh (Nat.le_succ _))⟩
end
end SL
/-! sorted(tuples of ints), any number of them; t * n of a tuple; == by an own __eq__, true or not. -/
namespace SL
open PySem PySem.Spec PyProof.Rows L2
section
variable {prog : Program} {w : World} {A : Around} {E : Value → Shared → Prop} {s : Shared}
theorem swo_int (k : Value → Int) : SrtO.Swo fun v u => decide (k v < k u) := by
  refine ⟨fun x y h => ?_, fun x y z h1 h2 => ?_⟩
  · have := of_decide_eq_true h
    exact decide_eq_false (by omega)
  · have := of_decide_eq_false h1
    have := of_decide_eq_false h2
    exact decide_eq_false (by omega)
theorem tup_cmp {d : Nat} {B : Int} {vs : List Value} {k : Value → Int} (x : TS.TupsOk s.heap d B vs) (hr : ∀ v, v ∈ vs → ∀ ns, TS.TupInts s.heap v ns → k v = TS.code B ns) :
    SrtO.Cmp prog w A s (tuples' true) (fun p => p.1 ∈ vs) (SrtO.lt2 fun v u => decide (k v < k u)) := by
  intro p q hp hq
  obtain ⟨ns, tp, lp, bp⟩ := x _ hp
  obtain ⟨ms, tq, lq, bq⟩ := x _ hq
  have ep := hr _ hp _ tp
  have eq2 := hr _ hq _ tq
  show wpAny (model prog w) A (keyLt' (tuples' true) p.1 q.1) (fun r s' => s' = s ∧ r = decide (k p.1 < k q.1)) (fun _ _ => False) s
  rw [ep, eq2]
  obtain ⟨a, xs, e1, ⟨o, ho, hc, n, hdt⟩, i⟩ := tp
  obtain ⟨a', ys, e2, ⟨o', ho', hc', n', hdt'⟩, i'⟩ := tq
  rw [e1, e2]
  refine PySem.W.kat_lt ho hdt ho' hdt' ?_
  have sz : decide (xs.size < ys.size) = false := by
    have l1 := i.length
    have l2 := i'.length
    rw [Array.length_toList] at l1 l2
    exact decide_eq_false (by omega)
  rw [sz]
  exact TS.lex_ints 0 i i' (by omega) bp bq ⟨rfl, rfl⟩
theorem tups_sortable {a : Addr} {d : Nat} {B : Int} {vs : List Value} {k : Value → Int} (hd : 1 ≤ d) (h2 : 2 ≤ vs.length) (x : TS.TupsOk s.heap d B vs) (hr : ∀ v, v ∈ vs → ∀ ns, TS.TupInts s.heap v ns → k v = TS.code B ns)
    (ha : ∀ o, s.heap.get? a = some o → o.cls ≠ .type "tuple") : SrtO.SortableO prog w A s a vs fun v u => decide (k v < k u) := by
  intro h' keep
  have kp : ∀ b o, s.heap.get? b = some o → o.cls = .type "tuple" → h'.get? b = some o := fun b o e c => keep b o (fun z => by subst z; exact ha o e c) e
  have x' : TS.TupsOk h' d B vs := x.keeps kp
  have hr' : ∀ v, v ∈ vs → ∀ ns, TS.TupInts h' v ns → k v = TS.code B ns := fun v hv ns t => by
    obtain ⟨ns0, t0, _⟩ := x v hv
    have e : ns = ns0 := t.ints.symm.trans (t0.keeps kp).ints
    rw [e]
    exact hr v hv ns0 t0
  obtain ⟨fs, kk, hl, hi⟩ := TS.firsts_of hd vs x'
  refine ⟨tuples' true, fun Q E hq => ?_, tup_cmp (s := { s with heap := h' }) x' hr'⟩
  refine PySem.W.kat_kind (T := Value.type "int") kk (by omega) (fun f hf => ?_) rfl ?_
  · obtain ⟨n, t, rfl⟩ := hi f hf
    exact PySem.W.Looks.of_pure rfl
  · have e : (Value.type "int" != Value.type "tuple") = true := by first | decide +kernel | rfl | decide
    rw [e]
    exact hq
theorem sorted_tupsO {l : Addr} {vs : List Value} {d : Nat} {B : Int} {Q : Value → Shared → Prop} (hl : s.heap.IsList l vs.toArray) (hz : vs.length ≤ sizeLine) (hd : 2 ≤ vs.length → 1 ≤ d) (x : TS.TupsOk s.heap d B vs)
    (h : ∀ (h' : Heap) (d : Addr) (out : List Value), out.Perm vs → out.Pairwise (fun u v => TS.code B (TS.intsOf s.heap u) ≤ TS.code B (TS.intsOf s.heap v)) → (∀ b o, s.heap.get? b = some o → h'.get? b = some o) → s.heap.objs.size ≤ d → (∃ n, h'.get? d = some (seqObj "list" out.toArray n)) → Q (.ref d) { s with heap := h' }) :
    wpAny (model prog w) A (call (.builtin "sorted") [.ref l]) Q E s := by
  refine SrtO.sorted_ord (swo_int fun v => TS.code B (TS.intsOf s.heap v)) hl hz (fun h2 h₁ a ha kk => ?_) fun out hs hb => ?_
  · have kp : ∀ b o, s.heap.get? b = some o → o.cls = .type "tuple" → h₁.get? b = some o := fun b o e _ => (kk b o e).2
    refine tups_sortable (s := { s with heap := h₁ }) (hd h2) h2 (x.keeps kp) (fun v hv ns t => ?_) fun o e => ?_
    · obtain ⟨ns0, t0, _⟩ := x v hv
      have e : ns = ns0 := t.ints.symm.trans (t0.keeps kp).ints
      show TS.code B (TS.intsOf s.heap v) = _
      rw [e, t0.ints]
    · have e' : some o = some (seqObj "list" vs.toArray 0) := e.symm.trans ha
      cases e'
      intro c
      exact absurd (Value.type.inj c) (by decide)
  · refine h _ _ out hb.perm (List.Pairwise.imp (fun {u v} q => ?_) hs) (fun b o e => PyProof.Rows.sortedAll_old e) (Nat.le_succ _) (PyProof.Rows.sortedAll_at s.heap vs out.toArray)
    have := of_decide_eq_false q
    omega
end
/-- sorted(xs), xs a list of tuples of d ints in [0, B), any number of them -/
def rSortTA (K : PySem.W.Frag) : List V → Hp → VK → Prop := fun vs H Q => ∃ (a : Addr) (xs : List V) (d : Nat) (B : Int), vs = [V.ref a] ∧ SqL K H a xs ∧ (2 ≤ xs.length → 1 ≤ d) ∧ (∀ x ∈ xs, ∃ ns, TupI K H x ns ∧ ns.length = d ∧ TS.Bd B ns) ∧
  ∀ (ys : List V) (p : Addr), ys.Perm xs → ys.Pairwise (fun x y => ∀ n m, TupI K H x n → TupI K H y m → TS.code B n ≤ TS.code B m) → H p = none → Q (.ref p) (upd H p (.lst ys))
section
variable {X : Cx}
theorem cr_sortTA : CallR X (.builtin "sorted") (rSortTA X.K) := by
  intro pins s σ H vs us Q I r h
  obtain ⟨a, xs, d, B, rfl, hs, hd, hx, q⟩ := h
  obtain ⟨its, rv, hl, hz⟩ := I.list hs
  rw [Vals.ref1 r]
  obtain ⟨e1, e2⟩ := bkV_refs rv fun x m => by
    obtain ⟨ns, ⟨t, e, _⟩, _⟩ := hx x m
    exact ⟨t, e⟩
  refine sorted_tupsO (d := d) (B := B) hl.isList (by rw [← rv.length]; exact hz) (fun z => hd (by rw [rv.length]; exact z)) (fun v hv => ?_) fun h' p out h1 h2 kp hp hn => ?_
  · obtain ⟨t, rfl⟩ := e2 v hv
    have hm : V.ref t ∈ xs := by
      rw [e1]
      exact List.mem_map.mpr ⟨_, hv, rfl⟩
    obtain ⟨ns, ⟨t', e, ht⟩, hn, hb⟩ := hx _ hm
    cases e
    exact ⟨ns, tupI_raw I ht, hn, hb⟩
  · have h3 : ∀ u ∈ out, ∃ a, u = Value.ref a := fun u hu => e2 u (h1.mem_iff.mp hu)
    have hpm : (out.map bkV).Perm xs := by
      rw [e1]
      exact h1.map bkV
    obtain ⟨n, hn⟩ := hn
    refine ⟨.ref p, upd H p (.lst (out.map bkV)), I.laid (t' := s.toks) kp hp ⟨by rw [hpm.length_eq]; exact hz, out, n, bkV_vals h3, hn⟩, rfl, q _ p hpm ?_ (I.hok.fresh hp)⟩
    rw [List.pairwise_map]
    refine List.Pairwise.imp (fun {u v} huv n m hn hm => ?_) h2
    obtain ⟨t, et, ht⟩ := hn
    obtain ⟨t', et', ht'⟩ := hm
    have eu := bkV_ref et
    have ev := bkV_ref et'
    have i1 : TS.intsOf s.heap u = n := by
      rw [eu]
      exact (tupI_raw I ht).ints
    have i2 : TS.intsOf s.heap v = m := by
      rw [ev]
      exact (tupI_raw I ht').ints
    rw [← i1, ← i2]
    exact huv
/-! ### == by an own __eq__ -/
def rOwnEq (C : Addr) (sp : Sp) (E : XK) : R2 := fun x y H Q => ∃ a b dx fs dy gs, x = .ref a ∧ y = .ref b ∧ H a = some (.ins C dx fs) ∧ H b = some (.ins C dy gs) ∧ sp [.ref a, .ref b] H (fun v H' => ∃ r, v = .bl r ∧ Q v H') E
theorem op_ownEq {CX : CXT} {C f : Addr} {fd : FuncData} {ps : List Str} {sp : Sp} {E : XK} {n : Nat} (F : FnOk X.prog X.w X.K X.mg X.base CX n f fd ps sp) (hr : Room n X.A)
    (hs : PySem.W.findIn X.K (.ref C) "__eq__" = some (some (.ref f))) (hf : PySem.W.isFn X.K (.ref f) = true) (hb : Binds X.K fd ps []) (hx : Passes CX X E) : OpR X (compareOp .Eq) (rOwnEq C sp E) := by
  intro pins s σ H x y v u Q I rx ry hq
  obtain ⟨a, b, dx, fs, dy, gs, rfl, rfl, ha, hb', hsp⟩ := hq
  obtain ⟨m0, hF⟩ := I.fr
  cases rx
  cases ry
  show wpAny (model X.prog X.w) X.A (richCompare .Eq (.ref a) (.ref b)) (EP X pins σ Q) X.xe s
  obtain ⟨mA, J, _⟩ := ins_get I.hok ha
  obtain ⟨mB, J', _⟩ := ins_get I.hok hb'
  obtain ⟨od, J, _⟩ := J.look
  obtain ⟨od', J', _⟩ := J'.look
  refine PySem.W.cmp_K (op := .Eq) (tb := .ref C) hr.units0 hF I.ok.mod.kin J J'.type (by simp [PySem.W.notFirst]) hs hf ?_
  have e0 : Env0 X.prog X.w X.K X.mg X.base X.A X.stack s H := I.env0
  have hl := F.len _ _ _ _ hsp
  have r2 : Vals [V.ref a, V.ref b] [Value.ref a, Value.ref b] := .cons rfl (.cons rfl .nil)
  refine wpAny_call (codeAny_mono (F.run X.A X.stack s H ⟨[.ref a, .ref b], []⟩ [.ref a, .ref b] [.ref a, .ref b] _ E hr e0 (by
    have := hb s [.ref a, .ref b] I.kIn (by simpa using hl)
    simpa using this) r2 hsp) fun r s' hq => ?_)
  cases r with
  | error e => exact hx pins σ H s e s' I hq
  | ok fl =>
    cases fl with
    | ret w =>
      obtain ⟨z, H', I', rz, r, rfl, q⟩ := I.after hq
      cases rz
      exact ⟨.bl r, H', I', rfl, q⟩
    | next => exact False.elim hq
    | brk => exact False.elim hq
    | cont => exact False.elim hq
end

/-! ### t * n of a tuple -/
theorem tuple_mul0 (l : Addr) (items : Array Value) (n : Nat) (dd : Option Addr) (sl : Array (Option Value)) (u : Tok) (c1 : items.isEmpty = false) :
    Meets (Builtin.«tuple.__mul__» ⟨[.ref l, .int 0 u], []⟩) (fun _ R s => s.heap.get? l = some { cls := .type "tuple", dict := dd, data := .seq items n, slots := sl } ∧
      R (.ok (.ret (Value.ref s.heap.objs.size))) { s with heap := s.heap.push { cls := Value.type "tuple", data := Data.seq #[] }, toks := s.toks }) :=
  .of_wp fun prog w A R s h => by
    obtain ⟨hp, g, d, tk, os⟩ := s
    obtain ⟨hl, h⟩ := h
    have f1 := AutoSeq1.idx_int
    wp_walk using wpAny_loadPart' hl
    exact ⟨_, rfl, h⟩
theorem tuple_mul1 (l : Addr) (items : Array Value) (n : Nat) (dd : Option Addr) (sl : Array (Option Value)) (u : Tok) (c1 : items.isEmpty = false) :
    Meets (Builtin.«tuple.__mul__» ⟨[.ref l, .int 1 u], []⟩) (fun _ R s => s.heap.get? l = some { cls := .type "tuple", dict := dd, data := .seq items n, slots := sl } ∧
      R (.ok (.ret (Value.ref l))) s) :=
  .of_wp fun prog w A R s h => by
    obtain ⟨hp, g, d, tk, os⟩ := s
    obtain ⟨hl, h⟩ := h
    have f1 := AutoSeq1.idx_int
    wp_walk using wpAny_loadPart' hl
    exact ⟨_, rfl, h⟩

def rRepA (K : PySem.W.Frag) : R2 := fun x y H Q => ∃ (l : Addr) (k : Nat) (xs : List V), x = .ref l ∧ y = .int (k : Int) ∧ SqT K H l xs ∧ xs ≠ [] ∧ k ≤ 1000 ∧ xs.length ≤ 1000 ∧ ∀ p H', Same H H' → SqT K H' p (List.replicate k xs).flatten → Q (.ref p) H'
theorem op_repA {X : Cx} : OpR X (binaryOp .Mult) (rRepA X.K) := by
  intro pins s σ H x y v u Q I rx ry h
  obtain ⟨l, k, xs, rfl, rfl, hT, hne, hk, hz, q⟩ := h
  by_cases k2 : 2 ≤ k
  · refine op_repT pins s σ H _ _ v u Q I rx ry ⟨l, k, xs, rfl, rfl, hT, hne, by omega, by omega, hz, fun p np => ?_⟩
    have e : ((k : Int)).toNat = k := by omega
    rw [e]
    exact q p _ (same_upd np) (SqT.of upd_same)
  · cases rx
    obtain ⟨t, rfl⟩ := ry
    have hT' := hT
    obtain ⟨its, r, ⟨⟨cls, dd, data, sl⟩, ho, hc, n, hd⟩, hs⟩ := I.tuple hT
    simp only at hc hd
    subst hc hd
    have hle : its.length = xs.length := r.length.symm
    have hi : its.toArray.isEmpty = false := by
      cases its with
      | nil =>
        refine absurd (List.eq_nil_of_length_eq_zero ?_) hne
        rw [← hle]
        rfl
      | cons a b => rfl
    have go : ∀ (R : Result → Shared → Prop), True := fun _ => trivial
    by_cases k1 : k = 1
    · subst k1
      refine wpAny_binaryOp_repeat_ref (T := "tuple") (U := "int") (by decide) ⟨_, ho, rfl⟩ (fun s' => typeIs_int s' _ t) noFill_tuple_mul F.fills_int_mul F.slot_int_rmul repeat_tuple F.slot_int_index.lookup
        (call_meets F.slot_int_rmul (typeIs_int s _ t) F.entry_int_rmul (F.args_int_rmul_2 _ _) (int_rmul_tuple _ t l its.toArray n dd sl)
          ⟨ho, rfl, ⟨_, ho, rfl⟩, call_meets F.slot_tuple_mul ⟨_, ho, rfl⟩ F.entry_tuple_mul (F.args_tuple_mul_2 _ _) (tuple_mul1 l its.toArray n dd sl t hi) ⟨ho, ?_⟩⟩)
      refine ⟨.ref l, H, I, rfl, q l H (Same.refl H) ?_⟩
      rw [show (List.replicate 1 xs).flatten = xs by simp]
      exact hT'
    · have k0 : k = 0 := by omega
      subst k0
      refine wpAny_binaryOp_repeat_ref (T := "tuple") (U := "int") (by decide) ⟨_, ho, rfl⟩ (fun s' => typeIs_int s' _ t) noFill_tuple_mul F.fills_int_mul F.slot_int_rmul repeat_tuple F.slot_int_index.lookup
        (call_meets F.slot_int_rmul (typeIs_int s _ t) F.entry_int_rmul (F.args_int_rmul_2 _ _) (int_rmul_tuple _ t l its.toArray n dd sl)
          ⟨ho, rfl, ⟨_, ho, rfl⟩, call_meets F.slot_tuple_mul ⟨_, ho, rfl⟩ F.entry_tuple_mul (F.args_tuple_mul_2 _ _) (tuple_mul0 l its.toArray n dd sl t hi) ⟨ho, ?_⟩⟩)
      refine ⟨.ref s.heap.objs.size, _, I.laid (t' := s.toks) (o := .tup []) (fun b ob q => Heap.get?_push_of_some _ q) (Nat.le_refl _) ⟨Nat.zero_le _, _, .nil, IsTup.new _ _⟩, rfl, q _ _ (same_upd (I.hok.fresh (Nat.le_refl _))) (SqT.of upd_same)⟩
theorem pe_fldK {X : Cx} {e : Expr} {ta : TE} {f : Str} {pos : Pos} (K : PySem.W.Frag) (he : PE X e ta) (hb : attributeBase e f X.env (eval e X.env) = eval e X.env) (h : X.K = K := by rfl) : PE X (.Attribute e f pos) (tFld K ta f) := by
  subst h
  exact pe_fld he hb

/-! ### sum of a tuple of ints -/
section
variable {prog : Program} {w : World} {A : Around} {E : Value → Shared → Prop} {s : Shared} {l : Addr} {its : List Value} {ns : List Int} {Q : Value → Shared → Prop}
theorem sum_rawT (hh : A.handled = none) (hl : s.heap.IsTuple l its.toArray) (hi : IntsAre its ns)
    (h : ∀ h' tk t', (∀ b o, s.heap.get? b = some o → h'.get? b = some o) → Q (.int ns.sum t') { s with heap := h', toks := tk }) : wpAny (model prog w) A (call (.builtin "sum") [.ref l]) Q E s := by
  obtain ⟨xs, e⟩ := hi.allInts.items
  have hn : numsOf (intItems xs).toList = ns := by rw [← e]; exact hi.numsOf
  rw [nums_intItems] at hn
  rw [e] at hl
  refine PySem.W.ktm_sumG hh hl fun h' tk t' hk => ?_
  have := h h' tk t' hk
  rw [preSum_eq, List.take_of_length_le (by simp), hn]; exact this
end
def rSumT (K : PySem.W.Frag) : List V → Hp → VK → Prop := fun vs H Q => ∃ (a : Addr) (ns : List Int), vs = [V.ref a] ∧ SqT K H a (ns.map V.int) ∧ Q (.int ns.sum) H
theorem cr_sumT {X : Cx} (K : PySem.W.Frag) (hc : X.calm = true) (hK : X.K = K := by rfl) : CallR X (.builtin "sum") (rSumT K) := by
  subst hK
  intro pins s σ H vs us Q I r h
  obtain ⟨a, ns, rfl, hs, q⟩ := h
  obtain ⟨its, rv, hl, _⟩ := I.tuple hs
  rw [Vals.ref1 r]
  exact sum_rawT (I.ok.hd hc) hl rv.ints fun h' tk t' hk => ⟨.int _, H, I.kept hk, ⟨_, rfl⟩, q⟩
end SL
/-! != by object's __ne__ over an own __eq__. -/
namespace SL
open PySem PySem.Spec PyProof.Rows L2
open PySem (Builtin.«object.__ne__»)
section
variable {M : Model} {prog : Program} {w : World} {A : Around} {E : Value → Shared → Prop} {s : Shared} {K : PySem.W.Frag} {x y C f : Addr} {ox : Obj} {od : Option Obj}
theorem ifBound_objNe {args : List Value} {Q : Option Value → Shared → Prop} (X : K.In s.heap) (I : PySem.W.InstAt s.heap x ox C od) (hs : PySem.W.findIn K (.ref C) "__ne__" = some (some (.builtin "object.__ne__")))
    (h : wpAny M A (call (.builtin "object.__ne__") (.ref x :: args)) (fun v => Q (some v)) E s) : wpAny M A (callSpecialIfBound? (.ref x) "__ne__" args) Q E s := by
  simp only [callSpecialIfBound?, bindSpecialIfBound?]
  refine wpAny_holding (wpAny_bind (wpAny_bind (wpAny_bind (I.type.here ((PySem.W.looks_findIn X hs).here ?_)))))
  refine wpAny_bind (wpAny_askSetting (wpAny_ite ?_))
  have fin : wpAny M A (call (.builtin "object.__ne__") ([.ref x] ++ args) >>= fun v => pure (some v)) Q E s := wpAny_bind (wpAny_mono h (fun v s' h' => wpAny_pure h') fun _ _ h' => h')
  split
  · exact wpAny_bind (wpAny_of_eq (F.cmp_object.ne.bind _) (wpAny_pure (by exact fin)))
  · exact wpAny_tryCatch (wpAny_bind (wpAny_of_eq (F.cmp_object.ne.bind _) (wpAny_pure (by exact fin))))
theorem objNe_own {Q : Fin → Shared → Prop} (X : K.In s.heap) (I : PySem.W.InstAt s.heap x ox C od) (hs : PySem.W.findIn K (.ref C) "__eq__" = some (some (.ref f))) (hf : PySem.W.isFn K (.ref f) = true) (hu : A.units < cLine)
    (hcall : wpAny (model prog w) A (call (.ref f) [.ref x, .ref y]) (fun v s' => ∃ b, v = .bool b ∧ Q (.done (.ret (.bool (!b)))) s') E s) :
    wpAny (model prog w) A (Builtin.«object.__ne__» ⟨[.ref x, .ref y], []⟩) Q E s := by
  unfold Builtin.«object.__ne__»
  repeat (first
    | with_reducible refine wpAny_cRoomFor hu ?_
    | (refine wpAny_bind (m := callSpecialIfBound? (.ref x) (Str.ofString "__eq__") [.ref y])
        (PySem.W.ifBound_K X I hs hf (wpAny_mono hcall (fun v s' hr => by
          obtain ⟨b, rfl, hq⟩ := hr
          repeat (first | exact hq | exact wpAny_pure hq | exact wpAny_truthy_bool hq | (refine wpAny_bind (m := truthy (.bool _)) (wpAny_truthy_bool ?_)) | wp_step)) fun _ _ e => e)))
    | wp_step)
theorem ne_own {Q : Value → Shared → Prop} {tb : Value} {h₀ : Heap} {L : Addr} {m : Str → Option Value} (hu : A.units + 1 < cLine) (F : Fr h₀ L s.heap m) (X₀ : K.In h₀) (I : PySem.W.InstAt s.heap x ox C od) (hb : PySem.W.Looks (model prog w) s.heap (typeOf (.ref y)) tb) (hn : PySem.W.notFirst K C tb = true)
    (hN : PySem.W.findIn K (.ref C) "__ne__" = some (some (.builtin "object.__ne__"))) (hm : PySem.W.mroIn K C (.type "object") = some true) (hs : PySem.W.findIn K (.ref C) "__eq__" = some (some (.ref f))) (hf : PySem.W.isFn K (.ref f) = true)
    (hcall : wpAny (model prog w) A.in1 (call (.ref f) [.ref x, .ref y]) (fun v s' => ∃ b, v = .bool b ∧ Q (.bool (!b)) s') E s) : wpAny (model prog w) A (richCompare .NotEq (.ref x) (.ref y)) Q E s := by
  have X := X₀.keeps F.keep
  have one : wpAny (model prog w) A (tryCompare (.ref x) "__ne__" (.ref y)) (fun r s' => ∃ v, r = some v ∧ Q v s') E s := by
    unfold tryCompare
    refine wpAny_bind (ifBound_objNe X I hN (wpAny_call (codeAny_call_builtin PySem.F.cmp_object.ne.plain PySem.F.cmpEntry_ne
      (PySem.W.check_slot PySem.F.cmpKind_ne PySem.F.cmpSplit_ne (I.type.andThen (PySem.W.looks_mroIn X hm)) (PySem.F.cmpArgs_ne _ _) (objNe_own (A := A.in1) X I hs hf hu (wpAny_mono hcall (fun v s' hv => ?_) fun _ _ e => e))))))
    obtain ⟨b, rfl, hq⟩ := hv
    first | exact ⟨b, rfl, wpAny_pure ⟨_, rfl, hq⟩⟩ | exact ⟨b, rfl, wpAny_pure (wpAny_pure ⟨_, rfl, hq⟩)⟩
  unfold richCompare
  simp only [oneThing_ref]
  refine wpAny_holding (wpAny_bind (wpAny_cRoomFor (by omega) ?_))
  refine wpAny_bind (I.type.here (wpAny_bind (hb.here ?_)))
  split
  · rename_i q
    have e : PySem.W.subIn K tb (.ref C) = some false := by
      rcases Bool.or_eq_true_iff.mp hn with e | e
      · rw [beq_iff_eq.mp e] at q; simp at q
      · exact beq_iff_eq.mp e
    refine wpAny_bind ((PySem.W.looks_subIn X e).here ?_)
    simp only [Bool.false_eq_true, if_false]
    refine wpAny_bind (wpAny_mono one (fun r s' z => ?_) fun _ _ e => e)
    obtain ⟨v, rfl, hq⟩ := z
    exact wpAny_pure hq
  · refine wpAny_bind (wpAny_pure ?_)
    simp only [Bool.false_eq_true, if_false]
    refine wpAny_bind (wpAny_mono one (fun r s' z => ?_) fun _ _ e => e)
    obtain ⟨v, rfl, hq⟩ := z
    exact wpAny_pure hq
end
/-- != by an own __eq__ -/
def rOwnNe (C : Addr) (sp : Sp) (E : XK) : R2 := fun x y H Q => ∃ a b dx fs dy gs, x = .ref a ∧ y = .ref b ∧ H a = some (.ins C dx fs) ∧ H b = some (.ins C dy gs) ∧ sp [.ref a, .ref b] H (fun v H' => ∃ r : Bool, v = .bl r ∧ Q (.bl (!r)) H') E
section
variable {X : Cx}
theorem op_ownNe {CX : CXT} {C f : Addr} {fd : FuncData} {ps : List Str} {sp : Sp} {E : XK} {n : Nat} (F : FnOk X.prog X.w X.K X.mg X.base CX n f fd ps sp) (hr : Room (n + 1) X.A) (hN : PySem.W.findIn X.K (.ref C) "__ne__" = some (some (.builtin "object.__ne__"))) (hm : PySem.W.mroIn X.K C (.type "object") = some true)
    (hs : PySem.W.findIn X.K (.ref C) "__eq__" = some (some (.ref f))) (hf : PySem.W.isFn X.K (.ref f) = true) (hb : Binds X.K fd ps []) (hx : Passes CX X E) : OpR X (compareOp .NotEq) (rOwnNe C sp E) := by
  intro pins s σ H x y v u Q I rx ry hq
  obtain ⟨a, b, dx, fs, dy, gs, rfl, rfl, ha, hb', hsp⟩ := hq
  obtain ⟨m0, hF⟩ := I.fr
  cases rx
  cases ry
  show wpAny (model X.prog X.w) X.A (richCompare .NotEq (.ref a) (.ref b)) (EP X pins σ Q) X.xe s
  obtain ⟨mA, J, _⟩ := ins_get I.hok ha
  obtain ⟨mB, J', _⟩ := ins_get I.hok hb'
  obtain ⟨od, J, _⟩ := J.look
  obtain ⟨od', J', _⟩ := J'.look
  have hu := hr.units
  refine ne_own (tb := .ref C) (by omega) hF I.ok.mod.kin J J'.type (by simp [PySem.W.notFirst]) hN hm hs hf ?_
  have e0' : Env0 X.prog X.w X.K X.mg X.base X.A X.stack s H := I.env0
  have e0 : Env0 X.prog X.w X.K X.mg X.base X.A.in1 X.stack s H := ⟨e0'.frames, e0'.mod, e0'.bs, e0'.bsz, e0'.funs, e0'.frf, e0'.hok, e0'.bare⟩
  have hl := F.len _ _ _ _ hsp
  have r2 : Vals [V.ref a, V.ref b] [Value.ref a, Value.ref b] := .cons rfl (.cons rfl .nil)
  refine wpAny_call (codeAny_mono (F.run X.A.in1 X.stack s H ⟨[.ref a, .ref b], []⟩ [.ref a, .ref b] [.ref a, .ref b] _ E hr.in1 e0 (by
    have := hb s [.ref a, .ref b] I.kIn (by simpa using hl)
    simpa using this) r2 hsp) fun r s' hq => ?_)
  cases r with
  | error e => exact hx pins σ H s e s' I hq
  | ok fl =>
    cases fl with
    | ret w =>
      obtain ⟨z, H', I', rz, r, rfl, q⟩ := I.after hq
      cases rz
      exact ⟨r, rfl, .bl (!r), H', I', rfl, q⟩
    | next => exact False.elim hq
    | brk => exact False.elim hq
    | cont => exact False.elim hq
end
end SL
namespace SL
open PySem PySem.Spec PyProof.Rows L2
/-- a row that is never come to -/
theorem ps_dead {X : Cx} {st : Stmt} : PS X st (fun _ _ _ => False) := ⟨fun _ _ _ _ _ _ h => h.elim⟩
theorem list_extendT (l : Addr) (items : Array Value) (n : Nat) (b : Addr) (items2 : Array Value) (n2 : Nat) (dd : Option Addr) (sl : Array (Option Value)) (hs0 : ¬(!items.isEmpty && Builtin.List.listTooLong (items.size + items2.size)) = true) (hs1 : items.size ≤ sizeLine) (hs2 : items.size + items2.size ≤ sizeLine + 1) :
    Meets (Builtin.«list.extend» ⟨[.ref l, .ref b], []⟩) (fun _ R s => s.heap.get? l = some { cls := .type "list", dict := none, data := .seq items n, slots := #[] } ∧ s.heap.get? b = some { cls := .type "tuple", dict := dd, data := .seq items2 n2, slots := sl } ∧ R (.ok (.ret Value.none)) { s with heap := s.heap.update l (Obj.mapSeq fun x => x ++ items2), toks := s.toks }) :=
  .of_wp fun prog w A R s h => by
    obtain ⟨hp, g, d, tk, os⟩ := s; obtain ⟨hl, hb, h⟩ := h; have f1 := AutoSeq1.idx_int; have f2 := AutoSeq1.sub_tuple_tuple; have f3 := AutoSeq1.sub_list_list; have f4 := AutoSeq1.sub_tuple_list; have f5 := AutoSeq1.sub_list_tuple;
    have hz' : (items ++ items2).size ≤ sizeLine + 1 := by rw [Array.size_append]; exact hs2
    wp_walk using (wpAny_updateSeq hl rfl (hz := hs1) (_hz' := hz')), wpAny_loadPart' hl, wpAny_loadPart' hb; exact ⟨_, rfl, h⟩
def rExtendT (K : PySem.W.Frag) : V → List V → Hp → VK → Prop := fun x vs H Q => ∃ l b xs zs, x = .ref l ∧ vs = [.ref b] ∧ H l = some (.lst xs) ∧ SqT K H b zs ∧ xs.length + zs.length ≤ sizeLine ∧ Q .non (upd H l (.lst (xs ++ zs)))
/-- xs.extend(t), t a tuple -/
theorem mt_extendT {X : Cx} : MtM X "list.extend" (rExtendT X.K) := by
  intro pins s σ H x vs v us Q I rx rv h
  obtain ⟨l, b, xs, zs, rfl, rfl, hH, hB, hz, q⟩ := h
  cases rx
  obtain ⟨u, rfl, ru⟩ := rv.one
  cases ru
  obtain ⟨z, its, n, r, hl, e⟩ := I.lstM hH
  obtain ⟨its2, r2, ⟨⟨cls, dd, data, sl⟩, ho, hc, n2, hd⟩, hs⟩ := I.tuple hB
  simp only at hc hd
  subst hc hd
  have e1 := r.length
  have e2 := r2.length
  have hsz : its.toArray.size + its2.toArray.size ≤ sizeLine := by rw [List.size_toArray, List.size_toArray]; omega
  have hlong : ¬ (!its.toArray.isEmpty && Builtin.List.listTooLong (its.toArray.size + its2.toArray.size)) = true := by
    rw [notLongL hsz, Bool.and_false]
    exact Bool.false_ne_true
  refine call_meets F.slot_list_extend ⟨_, e, rfl⟩ F.entry_list_extend (F.args_list_extend_2 _ _)
    (list_extendT l its.toArray n b its2.toArray n2 dd sl hlong (by rw [List.size_toArray]; omega) (by omega)) ⟨e, ho, ?_⟩
  refine ⟨.non, _, I.lset (its' := its ++ its2) hH e (by simp) (r.append r2) ?_, rfl, q⟩
  rw [List.length_append]
  omega
end SL
/-! list(zip(t, u)) of two tuples of one length. -/
namespace SL
open PySem PySem.Spec PyProof.Rows L2 RZ
namespace ZF
theorem zip_no_len : typeLookup (.type "zip") "__len__" = pure none := by rw [typeLookup_type, builtinLookup_eq_fast]; kernel_rfl
theorem zip_no_hint : typeLookup (.type "zip") "__length_hint__" = pure none := by rw [typeLookup_type, builtinLookup_eq_fast]; kernel_rfl
end ZF
section
variable {prog : Program} {w : World} {A : Around} {E : Value → Shared → Prop} {s : Shared}
abbrev HeldZip (h : Heap) (z TI TO T : Addr) (b : Bool) : Prop :=
  h.get? z = some { cls := .type "zip", dict := none, data := .fields #[rawInt T, .bool b, .bool false, .ref TI, .ref TO], slots := #[] }
theorem wpAny_alive {M : Model} {a : Addr} {Q : Option Obj → Shared → Prop} (h : Q (s.heap.get? a) s) : wpAny M A (loadIfAlive a) Q E s := fun _ _ _ => h
theorem owned_held {z TI TO T0 : Addr} {b : Bool} {u v : Value} {Q : Bool → Shared → Prop} (hz : HeldZip s.heap z TI TO T0 b) (hT0 : IsPair s.heap T0 u v)
    (hQ : ∀ h', HeldZip h' z TI TO T0 true → (∀ c o, c ≠ z → s.heap.get? c = some o → h'.get? c = some o) → h'.objs.size = s.heap.objs.size → Q false { s with heap := h' }) :
    wpAny (model prog w) A (Builtin.SmallTypes.ownedTupleIsFree (.ref z)) Q E s := by
  unfold Builtin.SmallTypes.ownedTupleIsFree
  refine wpAny_bind (wpAny_field hz rfl (x := rawInt T0) rfl ?_)
  show wpAny _ _ (loadIfAlive ((T0 : Int)).toNat >>= _) _ _ _
  refine wpAny_bind (wpAny_alive ?_)
  rw [show ((T0 : Int)).toNat = T0 from rfl, hT0]
  show wpAny _ _ (field (.ref z) 1 >>= _) _ _ _
  refine wpAny_bind (wpAny_field hz rfl (x := .bool b) rfl ?_)
  cases b with
  | true =>
    refine wpAny_pure ?_
    exact hQ s.heap hz (fun _ _ _ e => e) rfl
  | false =>
    show wpAny _ _ (setField (.ref z) 1 (.bool true) >>= _) _ _ _
    refine wpAny_bind (wpAny_setField_rec hz (by simp) fun h' hz' hs' => wpAny_pure (hQ h' hz' (fun c o c1 e => hs'.extBut _ _ c1 e) hs'.1))
theorem held_item {z TI TO T0 i1 i2 l1 l2 : Addr} {b : Bool} {k1 k2 : Nat} {xs ys : Array Value} {x y u v : Value} {Q : Value → Shared → Prop} (D : ZipApart z TI TO i1 i2 l1 l2)
    (hz : HeldZip s.heap z TI TO T0 b) (hT0 : IsPair s.heap T0 u v) (hTI : IsPair s.heap TI (.ref i1) (.ref i2))
    (h1 : s.heap.IsTupleIter i1 l1 k1) (h2 : s.heap.IsTupleIter i2 l2 k2) (hl1 : s.heap.IsTuple l1 xs) (hl2 : s.heap.IsTuple l2 ys) (hx : xs[k1]? = some x) (hy : ys[k2]? = some y)
    (hQ : ∀ h', HeldZip h' z TI TO T0 true → h'.IsTupleIter i1 l1 (k1 + 1) → h'.IsTupleIter i2 l2 (k2 + 1) → IsPair h' s.heap.objs.size x y → h'.objs.size = s.heap.objs.size + 1 →
      (∀ c o, c ≠ z → c ≠ i1 → c ≠ i2 → s.heap.get? c = some o → h'.get? c = some o) → Q (.ref s.heap.objs.size) { s with heap := h' }) :
    wpAny (model prog w) A (Builtin.«zip.__next__» ⟨[.ref z], []⟩) (fun fin s' => ∃ v, fin = .done (.ret v) ∧ Q v s') E s := by
  show wpAny _ _ (field (.ref z) 2 >>= _) _ _ _
  refine wpAny_bind (wpAny_field hz rfl (x := .bool false) rfl ?_)
  show wpAny _ _ (field (.ref z) 3 >>= _) _ _ _
  refine wpAny_bind (wpAny_field hz rfl (x := .ref TI) rfl ?_)
  refine wpAny_bind (wpAny_seqItems hTI rfl ?_)
  show wpAny _ _ (Builtin.SmallTypes.ownedTupleIsFree (.ref z) >>= _) _ _ _
  refine wpAny_bind (owned_held hz hT0 fun h₁ hz₁ hk₁ hs₁ => ?_)
  simp only [Bool.false_eq_true, if_false, ← Array.forIn_toList, List.forIn_cons, List.forIn_nil]
  have h1₁ : h₁.IsTupleIter i1 l1 k1 := h1.at fun o e => hk₁ _ o D.i1z e
  have h2₁ : h₁.IsTupleIter i2 l2 k2 := h2.at fun o e => hk₁ _ o D.i2z e
  have hl1₁ : h₁.IsTuple l1 xs := by obtain ⟨o, e, r⟩ := hl1; exact ⟨o, hk₁ _ _ D.l1z e, r⟩
  have hl2₁ : h₁.IsTuple l2 ys := by obtain ⟨o, e, r⟩ := hl2; exact ⟨o, hk₁ _ _ D.l2z e, r⟩
  refine wpAny_bind (wpAny_bind (wpAny_bind (wpAny_holding ?_)))
  show wpAny _ _ (Builtin.SmallTypes.nextOf (.ref i1) >>= _) _ _ _
  refine wpAny_bind (nextOf_tuple_item (s := { s with heap := h₁ }) h1₁ hl1₁ hx fun h₂ h1₂ hs₂ => wpAny_pure (wpAny_pure ?_))
  refine wpAny_bind (wpAny_bind (wpAny_holding ?_))
  show wpAny _ _ (Builtin.SmallTypes.nextOf (.ref i2) >>= _) _ _ _
  refine wpAny_bind (nextOf_tuple_item (s := { s with heap := h₂ }) (h2₁.extBut hs₂.extBut D.i12.symm) (hl2₁.extBut hs₂.extBut D.l2i1) hy fun h₃ h2₃ hs₃ => wpAny_pure (wpAny_pure (wpAny_pure ?_)))
  show wpAny _ _ (newTuple [x, y] >>= _) _ _ _
  refine wpAny_bind (wpAny_newTuple (wpAny_pure ⟨_, rfl, ?_⟩))
  have hs1 : h₃.objs.size = s.heap.objs.size := by rw [hs₃.1, hs₂.1]; exact hs₁
  have up : ∀ c o, c ≠ i1 → c ≠ i2 → h₁.get? c = some o → (h₃.push { cls := .type "tuple", data := .seq #[x, y] }).get? c = some o := fun c o c1 c2 e => Heap.get?_push_of_some _ (hs₃.extBut _ _ c2 (hs₂.extBut _ _ c1 e))
  show Q (.ref h₃.objs.size) _
  rw [hs1]
  refine hQ _ (up _ _ D.i1z.symm D.i2z.symm hz₁) ?_ ?_ ?_ ?_ fun c o c1 c2 c3 e => up c o c2 c3 (hk₁ c o c1 e)
  · exact (h1₂.extBut hs₃.extBut D.i12).at fun o e => Heap.get?_push_of_some _ e
  · exact h2₃.at fun o e => Heap.get?_push_of_some _ e
  · rw [← hs1]
    exact Heap.get?_push_size _ rfl
  · rw [Heap.size_push, hs1]
theorem held_end {z TI TO T0 i1 i2 l1 l2 : Addr} {b : Bool} {k1 : Nat} {xs : Array Value} {u v : Value} {Q : Fin → Shared → Prop} (hh : A.handled = none) (D : ZipApart z TI TO i1 i2 l1 l2)
    (hz : HeldZip s.heap z TI TO T0 b) (hT0 : IsPair s.heap T0 u v) (hTI : IsPair s.heap TI (.ref i1) (.ref i2))
    (h1 : s.heap.IsTupleIter i1 l1 k1) (hl1 : s.heap.IsTuple l1 xs) (hend : xs[k1]? = none)
    (hE : ∀ h' e, (∀ c o, c ≠ z → c ≠ i1 → s.heap.get? c = some o → h'.get? c = some o) → (∃ o, h'.get? e = some o ∧ o.cls = .type "StopIteration") → E (.ref e) { s with heap := h' }) :
    wpAny (model prog w) A (Builtin.«zip.__next__» ⟨[.ref z], []⟩) Q E s := by
  show wpAny _ _ (field (.ref z) 2 >>= _) _ _ _
  refine wpAny_bind (wpAny_field hz rfl (x := .bool false) rfl ?_)
  show wpAny _ _ (field (.ref z) 3 >>= _) _ _ _
  refine wpAny_bind (wpAny_field hz rfl (x := .ref TI) rfl ?_)
  refine wpAny_bind (wpAny_seqItems hTI rfl ?_)
  show wpAny _ _ (Builtin.SmallTypes.ownedTupleIsFree (.ref z) >>= _) _ _ _
  refine wpAny_bind (owned_held hz hT0 fun h₁ hz₁ hk₁ hs₁ => ?_)
  simp only [Bool.false_eq_true, if_false, ← Array.forIn_toList, List.forIn_cons, List.forIn_nil]
  have h1₁ : h₁.IsTupleIter i1 l1 k1 := h1.at fun o e => hk₁ _ o D.i1z e
  have hl1₁ : h₁.IsTuple l1 xs := by obtain ⟨o, e, r⟩ := hl1; exact ⟨o, hk₁ _ _ D.l1z e, r⟩
  refine wpAny_bind (wpAny_bind (wpAny_bind (wpAny_holding ?_)))
  show wpAny _ _ (Builtin.SmallTypes.nextOf (.ref i1) >>= _) _ _ _
  refine wpAny_bind (nextOf_tuple_end (s := { s with heap := h₁ }) hh h1₁ hl1₁ hend fun h₂ e hs₂ he => ?_)
  exact hE h₂ e (fun c o c1 c2 q => hs₂ _ _ c2 (hk₁ c o c1 q)) he
/-- the state of a zip whose tuples are kept, at turn i -/
structure ZS (h : Heap) (S z TI TO i1 i2 l1 l2 : Addr) (xs ys : Array Value) (i : Nat) : Prop where
  st : IsZip h z TI TO .none ∨ ∃ T0 b u v, HeldZip h z TI TO T0 b ∧ IsPair h T0 u v ∧ T0 ≠ z ∧ T0 ≠ i1 ∧ T0 ≠ i2 ∧ T0 ≠ S
  tI : IsPair h TI (.ref i1) (.ref i2)
  tO : ∃ a b, IsPair h TO a b
  j1 : h.IsTupleIter i1 l1 i
  j2 : h.IsTupleIter i2 l2 i
  t1 : h.IsTuple l1 xs
  t2 : h.IsTuple l2 ys
theorem ZS.at {h h' : Heap} {S z TI TO i1 i2 l1 l2 : Addr} {xs ys : Array Value} {i : Nat} (Z : ZS h S z TI TO i1 i2 l1 l2 xs ys i) (k : ∀ c o, c ≠ S → h.get? c = some o → h'.get? c = some o)
    (n : z ≠ S ∧ TI ≠ S ∧ TO ≠ S ∧ i1 ≠ S ∧ i2 ≠ S ∧ l1 ≠ S ∧ l2 ≠ S) : ZS h' S z TI TO i1 i2 l1 l2 xs ys i := by
  obtain ⟨n1, n2, n3, n4, n5, n6, n7⟩ := n
  refine ⟨?_, k _ _ n2 Z.tI, Z.tO.elim fun a ⟨b, e⟩ => ⟨a, b, k _ _ n3 e⟩, Z.j1.at fun o e => k _ o n4 e, Z.j2.at fun o e => k _ o n5 e, ?_, ?_⟩
  · rcases Z.st with e | ⟨T0, b, u, v, e, p, q1, q2, q3, q4⟩
    · exact .inl (k _ _ n1 e)
    · exact .inr ⟨T0, b, u, v, k _ _ n1 e, k _ _ q4 p, q1, q2, q3, q4⟩
  · obtain ⟨o, e, r⟩ := Z.t1
    exact ⟨o, k _ _ n6 e, r⟩
  · obtain ⟨o, e, r⟩ := Z.t2
    exact ⟨o, k _ _ n7 e, r⟩
theorem pyNext_kept {S z TI TO i1 i2 l1 l2 : Addr} {i : Nat} {xs ys : Array Value} {x y : Value} {Q : Option Value → Shared → Prop} (D : ZipApart z TI TO i1 i2 l1 l2) (Z : ZS s.heap S z TI TO i1 i2 l1 l2 xs ys i)
    (hS : S < s.heap.objs.size) (hx : xs[i]? = some x) (hy : ys[i]? = some y)
    (hQ : ∀ h', ZS h' S z TI TO i1 i2 l1 l2 xs ys (i + 1) → IsPair h' s.heap.objs.size x y → h'.objs.size = s.heap.objs.size + 1 →
      (∀ c o, c ≠ z → c ≠ TO → c ≠ i1 → c ≠ i2 → s.heap.get? c = some o → h'.get? c = some o) → Q (some (.ref s.heap.objs.size)) { s with heap := h' }) :
    wpAny (model prog w) A (pyNext (.ref z)) Q E s := by
  have tup : ∀ {l : Addr} {ws : Array Value} {h' : Heap}, s.heap.IsTuple l ws → (∀ o, s.heap.get? l = some o → h'.get? l = some o) → h'.IsTuple l ws := fun q k => by
    obtain ⟨o, e, r⟩ := q
    exact ⟨o, k _ e, r⟩
  rcases Z.st with hz | ⟨T0, b, u, v, hz, hT0, n1, n2, n3, n4⟩
  · obtain ⟨a, b, hTO⟩ := Z.tO
    have lt : ∀ {c o}, s.heap.get? c = some o → s.heap.objs.size ≠ c := fun e => Nat.ne_of_gt (Heap.lt_size e)
    refine pyNext_zipT_item D hz Z.tI hTO Z.j1 Z.j2 Z.t1 Z.t2 hx hy fun h' a1 a2 a3 a4 a5 a6 hk => ?_
    refine hQ h' ⟨.inr ⟨_, false, _, _, a1, a5, lt hz, ?_, ?_, Nat.ne_of_gt hS⟩, hk _ _ D.TIz D.TITO D.TIi1 D.TIi2 Z.tI, ⟨_, _, a2⟩, a3, a4, tup Z.t1 fun o e => hk _ o D.l1z D.l1TO D.l1i1 D.l1i2 e, tup Z.t2 fun o e => hk _ o D.l2z D.l2TO D.l2i1 D.l2i2 e⟩ a5 a6 hk
    · obtain ⟨_, e, _⟩ := Z.j1
      exact lt e
    · obtain ⟨_, e, _⟩ := Z.j2
      exact lt e
  · have hT : s.TypeIs (.ref z) "zip" := ⟨_, hz, rfl⟩
    unfold pyNext
    refine wpAny_bind (wpAny_attempt (wpAny_callSpecial?_slot (name := Str.ofString "__next__") hT F.slot_zip_next
      (wpAny_call_entry F.slot_zip_next hT F.entry_zip_next (held_item D hz hT0 Z.tI Z.j1 Z.j2 Z.t1 Z.t2 hx hy fun h' a1 a3 a4 a5 a6 hk => wpAny_pure ?_) (F.args_zip_next_1 _))))
    refine hQ h' ⟨.inr ⟨T0, true, u, v, a1, hk _ _ n1 n2 n3 hT0, n1, n2, n3, n4⟩, hk _ _ D.TIz D.TIi1 D.TIi2 Z.tI, ?_, a3, a4, tup Z.t1 fun o e => hk _ o D.l1z D.l1i1 D.l1i2 e, tup Z.t2 fun o e => hk _ o D.l2z D.l2i1 D.l2i2 e⟩ a5 a6 (fun c o c1 c2 c3 c4 e => hk c o c1 c3 c4 e)
    obtain ⟨a, b, hTO⟩ := Z.tO
    exact ⟨a, b, hk _ _ D.TOz D.TOi1 D.TOi2 hTO⟩
theorem pyNext_kept_end {S z TI TO i1 i2 l1 l2 : Addr} {i : Nat} {xs ys : Array Value} {Q : Option Value → Shared → Prop} (hh : A.handled = none) (D : ZipApart z TI TO i1 i2 l1 l2) (Z : ZS s.heap S z TI TO i1 i2 l1 l2 xs ys i)
    (hend : xs[i]? = none) (hQ : ∀ h', (∀ c o, c ≠ z → c ≠ TO → c ≠ i1 → c ≠ i2 → s.heap.get? c = some o → h'.get? c = some o) → Q none { s with heap := h' }) :
    wpAny (model prog w) A (pyNext (.ref z)) Q E s := by
  rcases Z.st with hz | ⟨T0, b, u, v, hz, hT0, n1, n2, n3, n4⟩
  · obtain ⟨a, b, hTO⟩ := Z.tO
    exact pyNext_zipT_end hh D hz Z.tI hTO Z.j1 Z.j2 Z.t1 Z.t2 (.inl hend) hQ
  · have hT : s.TypeIs (.ref z) "zip" := ⟨_, hz, rfl⟩
    unfold pyNext
    refine wpAny_bind (wpAny_attempt (wpAny_callSpecial?_slot (name := Str.ofString "__next__") hT F.slot_zip_next
      (wpAny_call_entry F.slot_zip_next hT F.entry_zip_next (held_end hh D hz hT0 Z.tI Z.j1 Z.t1 hend fun h' e hk he => ?_) (F.args_zip_next_1 _))))
    obtain ⟨o, ho, hc⟩ := he
    refine wpAny_bind (wpAny_isInstance (T := "StopIteration") (b := true) ⟨o, ho, hc⟩ isSubtype_stop ?_)
    exact wpAny_pure (hQ _ fun c o c1 _ c3 _ e => hk c o c1 c3 e)
/-- what the list holds: the pairs at base, base + 1, .. -/
def PairsAt (h : Heap) (base : Nat) (xs ys : Array Value) (acc : Array Value) (i : Nat) : Prop :=
  acc.size = i ∧ ∀ j, j < i → acc[j]? = some (.ref (base + j)) ∧ ∃ x y, xs[j]? = some x ∧ ys[j]? = some y ∧ IsPair h (base + j) x y
theorem zip_loop {R : Result → Shared → Prop} {N S z TI TO i1 i2 l1 l2 : Addr} {xs ys : Array Value} {base : Nat} {res : Value} (hh : A.handled = none) (D : ZipApart z TI TO i1 i2 l1 l2) (hl : xs.size = ys.size) (hn : xs.size ≤ sizeLine)
    (nS : z ≠ S ∧ TI ≠ S ∧ TO ≠ S ∧ i1 ≠ S ∧ i2 ≠ S ∧ l1 ≠ S ∧ l2 ≠ S) (nw : N ≤ z ∧ N ≤ TO ∧ N ≤ i1 ∧ N ≤ i2 ∧ N ≤ S) (lw : z < base ∧ TO < base ∧ i1 < base ∧ i2 < base ∧ S < base) :
    ∀ (k i : Nat) (s : Shared) (acc : Array Value) (c : Nat), xs.size - i = k → i ≤ xs.size → ZS s.heap S z TI TO i1 i2 l1 l2 xs ys i → s.heap.objs.size = base + i → s.heap.get? S = some { cls := .type "list", dict := none, data := .seq acc c, slots := #[] } → PairsAt s.heap base xs ys acc i →
    (∀ h' acc' c', (∀ b o, b < N → s.heap.get? b = some o → h'.get? b = some o) → h'.get? S = some { cls := .type "list", dict := none, data := .seq acc' c', slots := #[] } → PairsAt h' base xs ys acc' xs.size → R (.ok (.ret res)) { s with heap := h' }) →
    codeAny (model prog w) A (.builtin "list.extend.loop" ⟨[.ref S, .ref z, res], []⟩) R s := by
  obtain ⟨w1, w2, w3, w4, w5⟩ := nw
  obtain ⟨b1, b2, b3, b4, b5⟩ := lw
  have lo : ∀ {a c : Addr}, N ≤ a → c < N → c ≠ a := fun w lc => Nat.ne_of_lt (Nat.lt_of_lt_of_le lc w)
  have up : ∀ {a : Addr} (j : Nat), a < base → base + j ≠ a := fun j b => Nat.ne_of_gt (Nat.lt_of_lt_of_le b (Nat.le_add_right ..))
  have old : ∀ {h h' : Heap}, (∀ c o, c ≠ z → c ≠ TO → c ≠ i1 → c ≠ i2 → h.get? c = some o → h'.get? c = some o) → ∀ c o, c < N → h.get? c = some o → h'.get? c = some o := fun q c o lc e => q c o (lo w1 lc) (lo w2 lc) (lo w3 lc) (lo w4 lc) e
  intro k
  induction k with
  | zero =>
    intro i s acc c hk hi Z hsz hS hacc hR
    have hin : i = xs.size := by omega
    subst hin
    refine codeAny_builtin F.entry_extend_loop ?_
    rw [Around.under_plainId F.plain_extend_loop _]
    show wpAny _ A.in1 (pyNext (.ref z) >>= _) _ _ s
    refine wpAny_bind (pyNext_kept_end (A := A.in1) hh D Z (by simp) fun h' hk' => ?_)
    refine wpAny_pure (hR h' acc c (old hk') (hk' _ _ nS.1.symm nS.2.2.1.symm nS.2.2.2.1.symm nS.2.2.2.2.1.symm hS) ⟨hacc.1, fun j hj => ?_⟩)
    obtain ⟨e1, x, y, e2, e3, p⟩ := hacc.2 j hj
    exact ⟨e1, x, y, e2, e3, hk' _ _ (up j b1) (up j b2) (up j b3) (up j b4) p⟩
  | succ k ih =>
    intro i s acc c hk hi Z hsz hS hacc hR
    have hlt : i < xs.size := by omega
    have hx : xs[i]? = some xs[i] := Array.getElem?_eq_getElem hlt
    have hy : ys[i]? = some (ys[i]'(by omega)) := Array.getElem?_eq_getElem (by omega)
    refine codeAny_builtin F.entry_extend_loop ?_
    rw [Around.under_plainId F.plain_extend_loop _]
    show wpAny _ A.in1 (pyNext (.ref z) >>= _) _ _ s
    refine wpAny_bind (pyNext_kept D Z (Heap.lt_size hS) hx hy fun h' Z' p' hsz' hk' => ?_)
    have hS' := hk' _ _ nS.1.symm nS.2.2.1.symm nS.2.2.2.1.symm nS.2.2.2.2.1.symm hS
    rw [hsz] at p' hsz' ⊢
    show wpAny _ A.in1 (updateSeq S (·.push (.ref (base + i))) >>= _) _ _ _
    refine wpAny_bind ?_
    have keep : ∀ b o, b ≠ S → h'.get? b = some o → (h'.update S (Obj.mapSeq (·.push (.ref (base + i))))).get? b = some o := fun b o hb e => (Heap.get?_update_other _ _ (Ne.symm hb)).trans e
    refine wpAny_updateSeq hS' rfl (wpAny_pure ⟨plainId_quiet F.plain_extend_loop _, ih (i + 1) _ (acc.push _) _ (by omega) hlt (Z'.at keep nS) ?_ (Heap.get?_update_self _ hS' rfl) ⟨by rw [Array.size_push, hacc.1], fun j hj => ?_⟩ fun h2 acc' c' q1 q2 q3 => hR h2 acc' c' (fun b o lb e => q1 b o lb (keep b o (lo w5 lb) (old hk' b o lb e))) q2 q3⟩)
      (by rw [hacc.1]; omega) (by show (acc.push _).size ≤ sizeLine + 1; rw [Array.size_push, hacc.1]; omega)
    · show (h'.update S _).objs.size = base + (i + 1)
      rw [Heap.size_update, hsz']
      omega
    · by_cases hji : j = i
      · subst hji
        refine ⟨?_, _, _, hx, hy, keep _ _ (up _ b5) p'⟩
        rw [Array.getElem?_push, hacc.1, if_pos rfl]
      · obtain ⟨e1, x, y, e2, e3, p⟩ := hacc.2 j (by omega)
        refine ⟨?_, x, y, e2, e3, keep _ _ (up j b5) (hk' _ _ (up j b1) (up j b2) (up j b3) (up j b4) p)⟩
        rw [Array.getElem?_push, hacc.1, if_neg hji]
        exact e1
theorem call_list_zipT {N z TI TO i1 i2 l1 l2 : Addr} {xs ys : Array Value} {Q : Value → Shared → Prop} (hh : A.handled = none) (D : ZipApart z TI TO i1 i2 l1 l2) (hl : xs.size = ys.size) (hn : xs.size ≤ sizeLine)
    (nw : N ≤ z ∧ N ≤ TO ∧ N ≤ i1 ∧ N ≤ i2) (lw : z < s.heap.objs.size ∧ TI < s.heap.objs.size ∧ TO < s.heap.objs.size ∧ i1 < s.heap.objs.size ∧ i2 < s.heap.objs.size ∧ l1 < s.heap.objs.size ∧ l2 < s.heap.objs.size) (hN : N ≤ s.heap.objs.size)
    (hz : IsZip s.heap z TI TO .none) (hTI : IsPair s.heap TI (.ref i1) (.ref i2)) (hTO : ∃ a b, IsPair s.heap TO a b) (h1 : s.heap.IsTupleIter i1 l1 0) (h2 : s.heap.IsTupleIter i2 l2 0) (hl1 : s.heap.IsTuple l1 xs) (hl2 : s.heap.IsTuple l2 ys)
    (hQ : ∀ h' acc' c', (∀ b o, b < N → s.heap.get? b = some o → h'.get? b = some o) → h'.get? s.heap.objs.size = some { cls := .type "list", dict := none, data := .seq acc' c', slots := #[] } → PairsAt h' (s.heap.objs.size + 1) xs ys acc' xs.size → Q (.ref s.heap.objs.size) { s with heap := h' }) :
    wpAny (model prog w) A (call (.type "list") [.ref z]) Q E s := by
  obtain ⟨w1, w2, w3, w4⟩ := nw
  obtain ⟨b1, b2, b3, b4, b5, b6, b7⟩ := lw
  have Z0 : ZS s.heap s.heap.objs.size z TI TO i1 i2 l1 l2 xs ys 0 := ⟨.inl hz, hTI, hTO, h1, h2, hl1, hl2⟩
  have nS : z ≠ s.heap.objs.size ∧ TI ≠ s.heap.objs.size ∧ TO ≠ s.heap.objs.size ∧ i1 ≠ s.heap.objs.size ∧ i2 ≠ s.heap.objs.size ∧ l1 ≠ s.heap.objs.size ∧ l2 ≠ s.heap.objs.size := ⟨Nat.ne_of_lt b1, Nat.ne_of_lt b2, Nat.ne_of_lt b3, Nat.ne_of_lt b4, Nat.ne_of_lt b5, Nat.ne_of_lt b6, Nat.ne_of_lt b7⟩
  refine callType_codes (Q₁ := fun obj s₁ => obj = .ref s.heap.objs.size ∧ s₁ = { s with heap := s.heap.push { cls := .type "list", data := .seq #[] } }) F.called_list (F.typeCall_list_1 _) F.entry_list_init
    (code_list_new _ ⟨rfl, rfl⟩) fun obj s₁ h₁ => ?_
  obtain ⟨rfl, rfl⟩ := h₁
  have hS : (s.heap.push { cls := .type "list", data := .seq #[] }).get? s.heap.objs.size = some { cls := .type "list", data := .seq #[] } := Heap.get?_push_size _ rfl
  refine ⟨⟨_, hS, rfl⟩, F.args_list_init_2 _ _, ?_⟩
  show wpAny _ A.in1.in1 (do let old ← Builtin.List.listItems (.ref s.heap.objs.size); Builtin.List.listUpdate (.ref s.heap.objs.size) (fun _ => #[]); letGo old.toList.reverse; Builtin.List.listExtendWith (.ref s.heap.objs.size) (.ref z) .none) _ _ _
  refine wpAny_bind ?_
  unfold Builtin.List.listItems
  refine wpAny_bind (wpAny_seqItems hS rfl (wpAny_pure ?_))
  show wpAny _ A.in1.in1 (updateSeq s.heap.objs.size (fun _ => #[]) >>= fun _ => letGo (#[] : Array Value).toList.reverse >>= fun _ => Builtin.List.listExtendWith (.ref s.heap.objs.size) (.ref z) .none) _ _ _
  refine wpAny_bind (wpAny_updateSeq hS rfl ?_)
  have hS2 := Heap.get?_update_self (Obj.mapSeq (fun _ => (#[] : Array Value))) hS rfl
  refine wpAny_bind (wpAny_letGo ?_)
  unfold Builtin.List.listExtendWith
  have up : ∀ (h : Heap) (f : Obj → Obj), (∀ b o, b ≠ s.heap.objs.size → s.heap.get? b = some o → h.get? b = some o) → ∀ b o, b ≠ s.heap.objs.size → s.heap.get? b = some o → (h.update s.heap.objs.size f).get? b = some o := fun h f q b o n e =>
    (Heap.get?_update_other _ _ (Ne.symm n)).trans (q b o n e)
  have k1 : ∀ b o, b ≠ s.heap.objs.size → s.heap.get? b = some o → (s.heap.push { cls := .type "list", data := .seq #[] }).get? b = some o := fun b o _ e => Heap.get?_push_of_some _ e
  have k2 := up _ (Obj.mapSeq (fun _ => (#[] : Array Value))) k1
  refine wpAny_bind (wpAny_typeOf (T := "zip") ⟨_, k2 _ _ nS.1 hz, rfl⟩ ?_)
  have h1' : Builtin.List.listSameRef (.ref s.heap.objs.size) (.ref z) = false := by simp [Builtin.List.listSameRef, Ne.symm nS.1]
  have h2' : (Value.type "zip" == Value.type "list") = false := by decide
  have h3' : (Value.type "zip" == Value.type "tuple") = false := by decide
  simp only [h1', h2', h3', Bool.or_false, Bool.false_eq_true, if_false]
  refine wpAny_bind (wpAny_pyIter_zip (s := { s with heap := _ }) (k2 _ _ nS.1 hz) ?_)
  refine wpAny_bind (wpAny_holding ?_)
  unfold Builtin.List.listLengthHint
  refine wpAny_bind (wpAny_specialOf (T := "zip") ⟨_, k2 _ _ nS.1 hz, rfl⟩ ZF.zip_no_len ?_)
  show wpAny _ A.in1.in1 (specialOf (Value.ref z) (Str.ofString "__length_hint__") >>= _) _ _ _
  refine wpAny_bind (wpAny_specialOf (T := "zip") ⟨_, k2 _ _ nS.1 hz, rfl⟩ ZF.zip_no_hint ?_)
  refine wpAny_pure ?_
  show wpAny _ A.in1.in1 (rule "list.extend.makes-room" >>= fun _ => Builtin.List.listTouch (.ref s.heap.objs.size) >>= fun _ =>
    again (.builtin "list.extend.loop" ⟨[.ref s.heap.objs.size, .ref z, .none], []⟩)) _ _ _
  refine wpAny_bind (wpAny_rule ?_)
  refine wpAny_bind ?_
  show wpAny _ A.in1.in1 (updateSeq s.heap.objs.size (·.push .none) >>= fun _ => updateSeq s.heap.objs.size (·.pop)) _ _ _
  refine wpAny_bind (wpAny_updateSeq hS2 rfl ?_)
  have hS3 := Heap.get?_update_self (Obj.mapSeq (·.push Value.none)) hS2 rfl
  refine wpAny_updateSeq (hz := by seq_fits) hS3 rfl ?_
  have hS4 := Heap.get?_update_self (Obj.mapSeq (·.pop)) hS3 rfl
  have k4 := up _ (Obj.mapSeq (·.pop)) (up _ (Obj.mapSeq (·.push Value.none)) k2)
  refine wpAny_pure ⟨plainId_quiet F.plain_extend_loop _, ?_⟩
  refine zip_loop (N := N) (A := A.in1) (base := s.heap.objs.size + 1) hh D hl hn nS ⟨w1, w2, w3, w4, hN⟩ ⟨Nat.lt_succ_of_lt b1, Nat.lt_succ_of_lt b3, Nat.lt_succ_of_lt b4, Nat.lt_succ_of_lt b5, Nat.lt_succ_self _⟩ (xs.size - 0) 0 _ #[] _ rfl (Nat.zero_le _) (Z0.at k4 nS) ?_ hS4 ⟨rfl, fun j hj => absurd hj (Nat.not_lt_zero j)⟩ fun h' acc' c' q1 q2 q3 => ⟨rfl, hQ h' acc' c' (fun b o lb e => q1 b o lb (k4 b o (Nat.ne_of_lt (Nat.lt_of_lt_of_le lb hN)) e)) q2 q3⟩
  show (((((s.heap.push _).update _ _).update _ _).update _ _)).objs.size = _
  rw [Heap.size_update, Heap.size_update, Heap.size_update, Heap.size_push]
end
/-- each is a new tuple -/
def NewTups (H1 H2 : Hp) : List V → List (List V) → Prop := Paired fun p c => ∃ a, p = V.ref a ∧ H1 a = none ∧ H2 a = some (.tup c)
theorem newTups_of {H1 H2 : Hp} : ∀ {ps : List V} {cs : List (List V)}, ps.length = cs.length → (∀ (j : Nat) (p : V) (c : List V), ps[j]? = some p → cs[j]? = some c → ∃ a, p = V.ref a ∧ H1 a = none ∧ H2 a = some (.tup c)) → NewTups H1 H2 ps cs
  | [], [], _, _ => .nil
  | [], _ :: _, e, _ => by cases e
  | _ :: _, [], e, _ => by cases e
  | p :: ps, c :: cs, e, h => .cons (h 0 p c rfl rfl) (newTups_of (by simpa using e) fun j x y hx hy => h (j + 1) x y (by simpa using hx) (by simpa using hy))
/-- list(zip(t, u)) -/
def tListZip (K : PySem.W.Frag) (ta : TA) : TE := fun σ H Q => ta σ H fun vs H1 => ∃ a b xs ys, vs = [.ref a, .ref b] ∧ SqT K H1 a xs ∧ SqT K H1 b ys ∧ xs.length = ys.length ∧ xs.length ≤ 100000 ∧
  ∀ H2 l ps, Same H1 H2 → H1 l = none → H2 l = some (.lst ps) → Tups K H2 ps ((xs.zip ys).map fun p => [p.1, p.2]) → NewTups H1 H2 ps ((xs.zip ys).map fun p => [p.1, p.2]) → Q (.ref l) H2
theorem tups_of {K : PySem.W.Frag} {H : Hp} : ∀ {ps : List V} {cs : List (List V)}, ps.length = cs.length → (∀ (j : Nat) (p : V) (c : List V), ps[j]? = some p → cs[j]? = some c → ∃ a, p = V.ref a ∧ SqT K H a c) → Tups K H ps cs
  | [], [], _, _ => .nil
  | [], _ :: _, e, _ => by cases e
  | _ :: _, [], e, _ => by cases e
  | p :: ps, c :: cs, e, h => .cons (h 0 p c rfl rfl) (tups_of (by simpa using e) fun j x y hx hy => h (j + 1) x y (by simpa using hx) (by simpa using hy))
theorem vals_atZ : ∀ {vs : List V} {us : List Value}, vs.length = us.length → (∀ (i : Nat) (v : V) (u : Value), vs[i]? = some v → us[i]? = some u → RelV v u) → Vals vs us
  | [], [], _, _ => .nil
  | [], _ :: _, e, _ => by cases e
  | _ :: _, [], e, _ => by cases e
  | v :: vs, u :: us, e, h => .cons (h 0 v u rfl rfl) (vals_atZ (by simpa using e) fun i x y hx hy => h (i + 1) x y (by simpa using hx) (by simpa using hy))
/-- the heap with the list and the pairs -/
theorem fin_zip {N : Nat} {xs ys : List V} {H1 : Hp} {G : Prop} (fr : ∀ b, N ≤ b → H1 b = none) (hl : xs.length = ys.length)
    (k : ∀ H2 : Hp, (∀ b, b < N → H2 b = H1 b) → H2 (N + 5) = some (.lst ((List.range xs.length).map fun j => V.ref (N + 6 + j))) →
      (∀ b u, N ≤ b → H2 b = some u → (b = N + 5 ∧ u = .lst ((List.range xs.length).map fun j => V.ref (N + 6 + j))) ∨ ∃ j x y, b = N + 6 + j ∧ xs[j]? = some x ∧ ys[j]? = some y ∧ u = .tup [x, y]) →
      (∀ j x y, xs[j]? = some x → ys[j]? = some y → H2 (N + 6 + j) = some (.tup [x, y])) → G) : G := by
  refine k (fun b => if N + 6 ≤ b then (match xs[b - (N + 6)]?, ys[b - (N + 6)]? with | some x, some y => some (.tup [x, y]) | _, _ => none) else if b = N + 5 then some (.lst ((List.range xs.length).map fun j => V.ref (N + 6 + j))) else H1 b) (fun b hb => ?_) ?_ (fun b u hb e => ?_) (fun j x y hx hy => ?_)
  · show (if N + 6 ≤ b then _ else _) = _
    rw [if_neg (by omega), if_neg (Nat.ne_of_lt (Nat.lt_of_lt_of_le hb (Nat.le_add_right _ _)))]
  · show (if N + 6 ≤ N + 5 then _ else _) = _
    rw [if_neg (by omega), if_pos rfl]
  · have e' : (if N + 6 ≤ b then (match xs[b - (N + 6)]?, ys[b - (N + 6)]? with | some x, some y => some (HO.tup [x, y]) | _, _ => none) else if b = N + 5 then some (.lst ((List.range xs.length).map fun j => V.ref (N + 6 + j))) else H1 b) = some u := e
    by_cases h1 : N + 6 ≤ b
    · rw [if_pos h1] at e'
      cases hx : xs[b - (N + 6)]? with
      | none =>
        rw [hx] at e'
        cases e'
      | some x =>
        cases hy : ys[b - (N + 6)]? with
        | none =>
          rw [hx, hy] at e'
          cases e'
        | some y =>
          rw [hx, hy] at e'
          cases e'
          exact .inr ⟨b - (N + 6), x, y, (Nat.add_sub_cancel' h1).symm, hx, hy, rfl⟩
    · rw [if_neg h1] at e'
      by_cases h2 : b = N + 5
      · rw [if_pos h2] at e'
        cases e'
        exact .inl ⟨h2, rfl⟩
      · rw [if_neg h2, fr b hb] at e'
        cases e'
  · show (if N + 6 ≤ N + 6 + j then _ else _) = _
    rw [if_pos (by omega), show N + 6 + j - (N + 6) = j by omega, hx, hy]
theorem pe_listZip {X : Cx} {e e2 : Expr} {ta : TA} {p p2 pos pos2 : Pos} (K : PySem.W.Frag) (hc : X.calm = true) (hg1 : Gl X "list") (hm1 : X.mg "list" = none) (hg : Gl X "zip") (hm : X.mg "zip" = none) (ha : PA X [e, e2] ta) (hK : X.K = K := by rfl)
    (hs : starEach [e, e2] X.env = (false, eval e X.env) :: starEach [e2] X.env := by rfl) (hpl : (backTo pos2 (starEach [e2] X.env)).any (·.1) = false := by rfl)
    (hs1 : starEach [.Call (.Name "zip" p2) [e, e2] [] pos2] X.env = (false, eval (.Call (.Name "zip" p2) [e, e2] [] pos2) X.env) :: starEach [] X.env := by rfl) (hpl1 : (backTo pos (starEach [] X.env)).any (·.1) = false := by rfl) :
    PE X (.Call (.Name "list" p) [.Call (.Name "zip" p2) [e, e2] [] pos2] [] pos) (tListZip K ta) := by
  subst hK
  refine ⟨fun pins s σ H Q I h => ?_⟩
  refine Call_ (ld_blt I hg1 hm1 (u := .type "list") (by decide +kernel) (PyProof.Rows.callWith_type1 ?_ hs1 hpl1))
  rw [hs1]
  refine Calls.spliced_cons ?_
  refine Call_ (ld_blt I hg hm PyProof.Rows.boot_zip (PyProof.Rows.callWith_type1 (thn (ha.run pos2 pins s σ H _ I h) fun us s1 ⟨vs, H1, I1, r1, q1⟩ => ?_) hs hpl))
  obtain ⟨a, b, xs, ys, ex, hqx, hqy, hl, hz, q⟩ := q1
  subst ex
  cases r1 with
  | cons r rr =>
    cases rr with
    | cons r' rr =>
      cases rr
      cases r
      cases r'
      obtain ⟨its, rv, p1, _⟩ := I1.tuple hqx
      obtain ⟨its2, rv2, p2, _⟩ := I1.tuple hqy
      have l1 := rv.length
      have l2 := rv2.length
      obtain ⟨o1, ho1, _⟩ := id p1
      obtain ⟨o2, ho2, _⟩ := id p2
      have la : a < s1.heap.objs.size := Heap.lt_size ho1
      have lb : b < s1.heap.objs.size := Heap.lt_size ho2
      refine call_zipT (show s1.heap.IsTuple a its.toArray from p1) (show s1.heap.IsTuple b its2.toArray from p2) fun h' hz' hTI hTO h1 h2 hsz hk => Calls.spliced_nil ?_
      have hz5 : its.toArray.size ≤ sizeLine := by
        rw [List.size_toArray, ← l1]
        exact Nat.le_of_lt (lineN hz)
      have tup : ∀ {l : Addr} {ws : Array Value}, s1.heap.IsTuple l ws → h'.IsTuple l ws := fun q => by
        obtain ⟨o, e, r⟩ := q
        exact ⟨o, hk _ _ e, r⟩
      refine call_list_zipT (s := { s1 with heap := h' }) (N := s1.heap.objs.size) (I.ok.hd hc) (PySem.W.ktu_apart s1.heap.objs.size a b la lb) (by rw [List.size_toArray, List.size_toArray, ← l1, ← l2]; exact hl) hz5
        ⟨Nat.le_add_right _ _, Nat.le_add_right _ _, Nat.le_refl _, Nat.le_add_right _ _⟩ (by rw [hsz]; exact ⟨Nat.add_lt_add_left (by decide) _, Nat.add_lt_add_left (by decide) _, Nat.add_lt_add_left (by decide) _, Nat.lt_add_of_pos_right (by decide), Nat.add_lt_add_left (by decide) _, Nat.lt_of_lt_of_le la (Nat.le_add_right _ _), Nat.lt_of_lt_of_le lb (Nat.le_add_right _ _)⟩) (by rw [hsz]; exact Nat.le_add_right _ _) hz' hTI ⟨_, _, hTO⟩ h1 h2 (tup p1) (tup p2) fun h2' acc' c' k1 hS hP => ?_
      have kold : ∀ c o, s1.heap.get? c = some o → h2'.get? c = some o := fun c o e => k1 c o (Heap.lt_size e) (hk c o e)
      have hSz : h'.objs.size = s1.heap.objs.size + 5 := hsz
      have hS' : h2'.get? (s1.heap.objs.size + 5) = some { cls := .type "list", dict := none, data := .seq acc' c', slots := #[] } := by
        rw [← hSz]
        exact hS
      have hP' : PairsAt h2' (s1.heap.objs.size + 6) its.toArray its2.toArray acc' its.toArray.size := by
        have z := hP
        rw [show ({ s1 with heap := h' } : Shared).heap.objs.size + 1 = s1.heap.objs.size + 6 by show h'.objs.size + 1 = _; rw [hSz]] at z
        exact z
      generalize hN : s1.heap.objs.size = N at *
      have hlN : ∀ b u, H1 b = some u → b < N := fun b u e => by
        rw [← hN]
        exact (I1.hok b u e).lt
      have hfr : ∀ b, N ≤ b → H1 b = none := fun b e => I1.hok.fresh (by rw [hN]; exact e)
      refine fin_zip (N := N) (xs := xs) (ys := ys) (H1 := H1) (fun b e => hfr b e) hl (fun H2 hlo hS2 hT2 hT3 => ?_)
      have un : Un X.fs [] H1 H2 s1.heap h2' := ⟨fun b o q n _ _ => kold b o q, fun b o q n _ _ => ⟨o.slots, kold b o q⟩, fun b o q n _ => by rw [hlo b (by rw [← hN]; exact Heap.lt_size q)]; exact n, fun b o q _ => ⟨o, kold b o q⟩,
        fun b us q => by rw [hlo b (hlN _ _ q)]; exact q, fun b o u q => by rw [hlo b (hlN _ _ q)]; exact q, fun b qs q => ⟨#[], by rw [hlo b (hlN _ _ q), q]; simp⟩⟩
      have hok : HOk X.prog X.w H2 h2' := fun b u e => by
        by_cases hb : b < N
        · rw [hlo b hb] at e
          refine (I1.hok b u e).stay (fun c v _ z => kold c v z) (fun d z => by rw [hlo d (hlN _ _ z)]; exact z) fun d us z => by rw [hlo d (hlN _ _ z)]; exact z
        · rcases hT2 b u (Nat.le_of_not_lt hb) e with ⟨rfl, rfl⟩ | ⟨j, x, y, rfl, hx, hy, rfl⟩
          · refine ⟨by rw [List.length_map, List.length_range]; exact Nat.le_of_lt (lineN hz), acc'.toList, c', vals_atZ ?_ fun i v u hv hu => ?_, by rw [hS']⟩
            · have z := hP'.1
              rw [List.size_toArray] at z
              rw [List.length_map, List.length_range]
              exact l1.trans z.symm
            · rw [List.getElem?_map] at hv
              by_cases hi : i < xs.length
              · rw [List.getElem?_range hi] at hv
                cases hv
                have z := (hP'.2 i (by rw [List.size_toArray, ← l1]; exact hi)).1
                rw [Array.getElem?_toList, z] at hu
                cases hu
                rfl
              · rw [List.getElem?_eq_none (by rw [List.length_range]; omega)] at hv
                cases hv
          · obtain ⟨u1, hu1, ru1⟩ := rv.get hx
            obtain ⟨u2, hu2, ru2⟩ := rv2.get hy
            obtain ⟨_, x', y', ex, ey, p⟩ := hP'.2 j (by rw [List.size_toArray, ← l1]; exact (List.getElem?_eq_some_iff.mp hx).1)
            rw [List.getElem?_toArray, hu1] at ex
            rw [List.getElem?_toArray, hu2] at ey
            cases ex
            cases ey
            exact ⟨by show 2 ≤ sizeLine; decide, [u1, u2], .cons ru1 (.cons ru2 .nil), ⟨_, p, rfl, _, rfl⟩⟩
      refine ⟨.ref _, H2, I1.un (t' := s1.toks) un hok, rfl, ?_⟩
      rw [show ({ s1 with heap := h' } : Shared).heap.objs.size = N + 5 from hSz]
      have sm : Same H1 H2 := fun b o e => by
        rw [hlo b (hlN _ _ e)]
        exact e
      have at_ : ∀ (j : Nat) (p : V) (c : List V), ((List.range xs.length).map fun j => V.ref (N + 6 + j))[j]? = some p → ((xs.zip ys).map fun p => [p.1, p.2])[j]? = some c → ∃ a, p = V.ref a ∧ H1 a = none ∧ H2 a = some (.tup c) := fun j p c hp hc => by
        rw [List.getElem?_map] at hp hc
        by_cases hj : j < xs.length
        · have hx : xs[j]? = some xs[j] := List.getElem?_eq_getElem hj
          have hy : ys[j]? = some (ys[j]'(by omega)) := List.getElem?_eq_getElem (by omega)
          rw [List.getElem?_range hj] at hp
          cases hp
          have hzz : (xs.zip ys)[j]? = some (xs[j], ys[j]'(by omega)) := by
            rw [List.getElem?_zip_eq_some]
            exact ⟨hx, hy⟩
          rw [hzz] at hc
          cases hc
          exact ⟨_, rfl, hfr _ (Nat.le_trans (Nat.le_add_right _ 6) (Nat.le_add_right _ _)), hT3 j _ _ hx hy⟩
        · rw [List.getElem?_eq_none (by rw [List.length_range]; omega)] at hp
          cases hp
      have ll : ((List.range xs.length).map fun j => V.ref (N + 6 + j)).length = ((xs.zip ys).map fun p => [p.1, p.2]).length := by rw [List.length_map, List.length_map, List.length_range, List.length_zip]; omega
      exact q H2 _ _ sm (hfr _ (Nat.le_add_right _ _)) hS2 (tups_of ll fun j p c hp hc => let ⟨a, e, _, h⟩ := at_ j p c hp hc; ⟨a, e, SqT.of h⟩) (newTups_of ll at_)
end SL
/-! max and min of a tuple of ints. -/
namespace SL
open PySem PySem.Spec PyProof.Rows L2
section
variable {prog : Program} {w : World} {A : Around} {E : Value → Shared → Prop} {s : Shared} {l : Addr} {its : List Value} {ns : List Int} {Q : Value → Shared → Prop}
theorem iter_intTup {xs : Array (Int × Tok)} (hl : s.heap.IsTuple l (intItems xs))
    (h : ∀ s₂ : Shared, s₂ = { s with heap := s.heap.push { cls := .type "tuple_iterator", data := .fields #[.ref l, .int 0 0] } } →
      (s₂.heap.IsTupleIter s.heap.objs.size l 0 ∧ s₂.heap.IsTuple l (intItems xs)) → (∀ b ∈ [s.heap.objs.size, l], b < s₂.heap.objs.size) → l ≠ s.heap.objs.size → Q (.ref s.heap.objs.size) s₂) :
    wpAny (model prog w) A (pyIter (.ref l)) Q E s := by
  have hlt : l < s.heap.objs.size := by obtain ⟨_, e, _⟩ := hl; exact Heap.lt_size e
  refine wpAny_pyIter_tuple hl (h _ rfl ⟨⟨_, Heap.get?_push_size _ rfl, rfl, rfl⟩, hl.push _⟩ (fun b hb => ?_) (Nat.ne_of_lt hlt))
  show b < (s.heap.push _).objs.size
  rw [Heap.size_push]
  rcases List.mem_cons.mp hb with rfl | hb
  · exact Nat.lt_succ_self _
  · rcases List.mem_cons.mp hb with rfl | hb
    · exact Nat.lt_succ_of_lt hlt
    · cases hb
theorem max_rawT (hh : A.handled = none) (hl : s.heap.IsTuple l its.toArray) (hi : IntsAre its ns) (hne : 0 < ns.length)
    (h : ∀ h' tk M t', (∀ b o, s.heap.get? b = some o → h'.get? b = some o) → M ∈ ns → (∀ a, a ∈ ns → a ≤ M) → Q (.int M t') { s with heap := h', toks := tk }) : wpAny (model prog w) A (call (.builtin "max") [.ref l]) Q E s := by
  obtain ⟨xs, e⟩ := hi.allInts.items
  have hn : numsOf (intItems xs).toList = ns := by rw [← e]; exact hi.numsOf
  rw [nums_intItems] at hn
  subst hn
  rw [e] at hl
  have hsz : 0 < xs.size := by simpa using hne
  have key : ∀ v h' tk, (intItems xs)[argBest (fun i j => decide (numAt xs i > numAt xs j)) (xs.size - 1)]? = some v → (∀ b o, s.heap.get? b = some o → h'.get? b = some o) → Q v { s with heap := h', toks := tk } := fun v h' tk hv hk => by
    obtain ⟨t, rfl⟩ := intItems_at hv
    obtain ⟨h1, h2⟩ := argBest_gt (numAt xs) (xs.size - 1)
    refine h h' tk _ t hk ?_ fun a ha => ?_
    · rw [numAt_eq]; exact PySem.getD_mem (by rw [List.length_map, Array.length_toList]; omega)
    · obtain ⟨j, hj, rfl⟩ := mem_getD ha
      rw [List.length_map, Array.length_toList] at hj
      rw [← numAt_eq]; exact h2 j (by omega)
  refine call_max_walk (iter_intTup hl fun s₂ e st hfp hlI => ?_)
  subst e
  refine ⟨_, _, _, _, _, _, _, rfl, Walks.tuple (A := A.in1) hh _ l hlI (intItems xs), st, hfp, by simpa [intItems] using hsz, CmpOf.ints_gt (numAt xs) (fun _ _ => intItems_at), fun v h' tk hP hk => ?_⟩
  exact key v h' tk (by simpa [intItems] using hP) fun b o e => hk b o (fun hb => absurd (Heap.lt_size e) ((List.mem_singleton.mp hb) ▸ Nat.lt_irrefl _)) (Heap.get?_push_of_some _ e)
theorem min_rawT (hh : A.handled = none) (hl : s.heap.IsTuple l its.toArray) (hi : IntsAre its ns) (hne : 0 < ns.length)
    (h : ∀ h' tk M t', (∀ b o, s.heap.get? b = some o → h'.get? b = some o) → M ∈ ns → (∀ a, a ∈ ns → M ≤ a) → Q (.int M t') { s with heap := h', toks := tk }) : wpAny (model prog w) A (call (.builtin "min") [.ref l]) Q E s := by
  obtain ⟨xs, e⟩ := hi.allInts.items
  have hn : numsOf (intItems xs).toList = ns := by rw [← e]; exact hi.numsOf
  rw [nums_intItems] at hn
  subst hn
  rw [e] at hl
  have hsz : 0 < xs.size := by simpa using hne
  have key : ∀ v h' tk, (intItems xs)[argBest (fun i j => decide (numAt xs i < numAt xs j)) (xs.size - 1)]? = some v → (∀ b o, s.heap.get? b = some o → h'.get? b = some o) → Q v { s with heap := h', toks := tk } := fun v h' tk hv hk => by
    obtain ⟨t, rfl⟩ := intItems_at hv
    obtain ⟨h1, h2⟩ := argBest_lt (numAt xs) (xs.size - 1)
    refine h h' tk _ t hk ?_ fun a ha => ?_
    · rw [numAt_eq]; exact PySem.getD_mem (by rw [List.length_map, Array.length_toList]; omega)
    · obtain ⟨j, hj, rfl⟩ := mem_getD ha
      rw [List.length_map, Array.length_toList] at hj
      rw [← numAt_eq]; exact h2 j (by omega)
  refine call_min_walk (iter_intTup hl fun s₂ e st hfp hlI => ?_)
  subst e
  refine ⟨_, _, _, _, _, _, _, rfl, Walks.tuple (A := A.in1) hh _ l hlI (intItems xs), st, hfp, by simpa [intItems] using hsz, CmpOf.ints_lt (numAt xs) (fun _ _ => intItems_at), fun v h' tk hP hk => ?_⟩
  exact key v h' tk (by simpa [intItems] using hP) fun b o e => hk b o (fun hb => absurd (Heap.lt_size e) ((List.mem_singleton.mp hb) ▸ Nat.lt_irrefl _)) (Heap.get?_push_of_some _ e)
end
def rMaxT (K : PySem.W.Frag) : List V → Hp → VK → Prop := fun vs H Q => ∃ (a : Addr) (ns : List Int), vs = [V.ref a] ∧ SqT K H a (ns.map V.int) ∧ 0 < ns.length ∧ ∀ m, m ∈ ns → (∀ y, y ∈ ns → y ≤ m) → Q (.int m) H
def rMinT (K : PySem.W.Frag) : List V → Hp → VK → Prop := fun vs H Q => ∃ (a : Addr) (ns : List Int), vs = [V.ref a] ∧ SqT K H a (ns.map V.int) ∧ 0 < ns.length ∧ ∀ m, m ∈ ns → (∀ y, y ∈ ns → m ≤ y) → Q (.int m) H
theorem cr_maxT {X : Cx} (K : PySem.W.Frag) (hc : X.calm = true) (hK : X.K = K := by rfl) : CallR X (.builtin "max") (rMaxT K) := by
  subst hK
  intro pins s σ H vs us Q I r h
  obtain ⟨a, ns, rfl, hs, hne, q⟩ := h
  obtain ⟨its, rv, hl, _⟩ := I.tuple hs
  rw [Vals.ref1 r]
  exact max_rawT (I.ok.hd hc) hl rv.ints hne fun h' tk m t' hk h1 h2 => ⟨.int _, H, I.kept hk, ⟨_, rfl⟩, q m h1 h2⟩
theorem cr_minT {X : Cx} (K : PySem.W.Frag) (hc : X.calm = true) (hK : X.K = K := by rfl) : CallR X (.builtin "min") (rMinT K) := by
  subst hK
  intro pins s σ H vs us Q I r h
  obtain ⟨a, ns, rfl, hs, hne, q⟩ := h
  obtain ⟨its, rv, hl, _⟩ := I.tuple hs
  rw [Vals.ref1 r]
  exact min_rawT (I.ok.hd hc) hl rv.ints hne fun h' tk m t' hk h1 h2 => ⟨.int _, H, I.kept hk, ⟨_, rfl⟩, q m h1 h2⟩
end SL
/-! comprehensions with two fors: the outer over a range, the inner over a list. -/
namespace SL
open PySem PySem.Spec PyProof.Rows L2
theorem o_range {lo : Int} {n : Nat} {g : TG} {tt : TT} {vs : List Nat} {σ : L2.St} {H1 : Hp} {D : Addr} {Qd : Hp → Prop} {B : L2.St → Hp → (Hp → Prop) → Prop} (Pv : Nat → Hp → Prop) (h0 : Pv 0 (upd H1 D (.lst [])))
    (hs : ∀ i H, i < n → Pv i H → g (.int (lo + i)) (wipe σ vs) H fun σ2 H2 => wipe σ2 vs = wipe σ vs ∧ tt σ2 H2 fun b H3 => if b = true then B σ2 H3 (Pv (i + 1)) else Pv (i + 1) H3) (hd : ∀ H, Pv n H → Qd H) :
    ∃ W : Nat → Nat → Hp → Prop, (∃ m, W 0 m (upd H1 D (.lst []))) ∧ ∀ i m H, W i m H →
      ((Itr lo n).stop i H ∧ Qd H) ∨ ((Itr lo n).go i H ∧ ∃ Nx : Hp → Prop, (∀ H', Nx H' → ∃ m', m' < m ∧ W (i + 1) m' H') ∧ ∀ x H', (Itr lo n).yld i H x H' → g x (wipe σ vs) H' fun σ2 H2 => wipe σ2 vs = wipe σ vs ∧ tt σ2 H2 fun b H3 =>
        if b = true then B σ2 H3 Nx else Nx H3) := by
  refine ⟨fun i m H => m = n - i ∧ i ≤ n ∧ Pv i H, ⟨n, by simp, Nat.zero_le _, h0⟩, ?_⟩
  rintro i m H ⟨rfl, hi, p⟩
  by_cases hlt : i < n
  · refine .inr ⟨hlt, Pv (i + 1), fun H' p' => ⟨n - (i + 1), by omega, rfl, hlt, p'⟩, fun x H' y => ?_⟩
    obtain ⟨e, y⟩ := y
    subst e y
    exact hs i _ hlt p
  · have e : i = n := by omega
    subst e
    exact .inl ⟨Nat.le_refl _, hd H p⟩
theorem i_list {K : PySem.W.Frag} {a : Addr} {xs : List V} {g : TG} {tt : TT} {te : TE} {vs : List Nat} {σ : L2.St} {H1 : Hp} {D : Addr} {Nx : Hp → Prop} (Pv : Nat → Hp → Prop) (h0 : Pv 0 H1) (hl : ∀ i H, i ≤ xs.length → Pv i H → SqL K H a xs)
    (hs : ∀ i x H, xs[i]? = some x → Pv i H → g x (wipe σ vs) H fun σ2 H2 => wipe σ2 vs = wipe σ vs ∧ tt σ2 H2 fun b H3 =>
      if b = true then te σ2 H3 fun y H4 => ∃ acc, H4 D = some (.lst acc) ∧ acc.length < sizeLine ∧ Pv (i + 1) (upd H4 D (.lst (acc ++ [y]))) else Pv (i + 1) H3) (hd : ∀ H, Pv xs.length H → Nx H) :
    ∃ W : Nat → Nat → Hp → Prop, (∃ m, W 0 m H1) ∧ ∀ i m H, W i m H →
      ((Itl K a).stop i H ∧ Nx H) ∨ ((Itl K a).go i H ∧ ∃ Nx1 : Hp → Prop, (∀ H', Nx1 H' → ∃ m', m' < m ∧ W (i + 1) m' H') ∧ ∀ x H', (Itl K a).yld i H x H' → g x (wipe σ vs) H' fun σ2 H2 => wipe σ2 vs = wipe σ vs ∧ tt σ2 H2 fun b H3 =>
        if b = true then te σ2 H3 fun y H4 => ∃ acc, H4 D = some (.lst acc) ∧ acc.length < sizeLine ∧ Nx1 (upd H4 D (.lst (acc ++ [y]))) else Nx1 H3) := by
  refine ⟨fun i m H => m = xs.length - i ∧ i ≤ xs.length ∧ Pv i H, ⟨xs.length, by simp, Nat.zero_le _, h0⟩, ?_⟩
  rintro i m H ⟨rfl, hi, p⟩
  have q := hl i H hi p
  by_cases hlt : i < xs.length
  · refine .inr ⟨⟨xs, xs[i], q, by simp [hlt]⟩, Pv (i + 1), fun H' p' => ⟨xs.length - (i + 1), by omega, rfl, hlt, p'⟩, fun x H' y => ?_⟩
    obtain ⟨e, y⟩ := y
    subst e
    exact hs i x _ (y xs q) p
  · have e : i = xs.length := by omega
    subst e
    exact .inl ⟨⟨xs, q, Nat.le_refl _⟩, hd H p⟩
theorem units65 {k : Nat} {A : Around} (r : Room k A) : A.units + 65 < cLine := by have := r.un; omega
end SL
/-! sums and slices of tuples that the heap tracks: the result is tracked, too. -/
namespace SL
open PySem PySem.Spec PyProof.Rows L2
section
variable {X : Cx}
def rCatX : R2 := fun x y H Q => ∃ a b xs ys, x = .ref a ∧ y = .ref b ∧ H a = some (.tup xs) ∧ H b = some (.tup ys) ∧ xs.length + ys.length ≤ 100000 ∧ ∀ c H', Same H H' → H' c = some (.tup (xs ++ ys)) → Q (.ref c) H'
theorem op_catX (K : PySem.W.Frag) (h : X.K = K := by rfl) : OpR X (binaryOp .Add) rCatX := by
  subst h
  intro pins s σ H x y v u Q I rx ry z
  obtain ⟨a, b, xs, ys, e1, e2, ha, hb, hz, q⟩ := z
  refine op_catA pins s σ H x y v u Q I rx ry ⟨a, b, xs, ys, e1, e2, SqT.of ha, SqT.of hb, Nat.le_of_lt (lineN hz), fun e => ?_, fun _ e => ?_, fun _ _ p np => ?_⟩
  · subst e
    exact q b H (Same.refl H) hb
  · subst e
    exact q a H (Same.refl H) (by rw [List.append_nil]; exact ha)
  · exact q p _ (same_upd np) upd_same
def rSlX : V → Option Int → Option Int → Hp → VK → Prop := fun x lo hi H Q => ∃ a xs, x = .ref a ∧ H a = some (.tup xs) ∧ ∀ c H', Same H H' → H' c = some (.tup (cutV xs lo hi)) → Q (.ref c) H'
theorem sl_tupX (K : PySem.W.Frag) (h : X.K = K := by rfl) : SlR X rSlX := by
  subst h
  intro pins s σ H x v vl vu lo hi sl Q I rx hs pl pu z
  obtain ⟨a, xs, e, hx, q⟩ := z
  refine sl_tupA pins s σ H x v vl vu lo hi sl Q I rx hs pl pu ⟨a, xs, e, SqT.of hx, fun w => q a H (Same.refl H) ?_, fun _ p np => q p _ (same_upd np) upd_same⟩
  unfold cutV
  rw [w.1, w.2, List.drop_zero, Nat.sub_zero, List.take_length]
  exact hx
end
end SL
/-! sum(d.values()) of a dict with int values. -/
namespace SL
open PySem PySem.Spec PyProof.Rows L2
def tSumVals (td : TE) : TE := fun σ H Q => td σ H fun x H1 => ∃ (a : Addr) (kvs : List (Key × V)) (is : List Int), x = V.ref a ∧ H1 a = some (.dK kvs) ∧ kvs.map (·.2) = is.map V.int ∧ Q (.int is.sum) H1
section
variable {X : Cx} {o : Expr} {p pos apos mpos : Pos} {td : TE}
theorem pre_getD (is : List Int) : ∀ j, j ≤ is.length → preSum (fun i => is.getD i 0) j = (is.take j).sum
  | 0, _ => by simp [preSum]
  | j + 1, h => by
    have e : is[j]? = some (is[j]'(by omega)) := List.getElem?_eq_getElem (by omega)
    rw [preSum, pre_getD is j (by omega), List.take_add_one, e, List.sum_append, List.getD_eq_getElem?_getD, e]
    simp
theorem sum_getD (is : List Int) : preSum (fun i => is.getD i 0) is.length = is.sum := by
  rw [pre_getD is _ (Nat.le_refl _), List.take_length]
theorem pe_sumVals (hc : X.calm = true) (hg : Gl X "sum") (hm : X.mg "sum" = none) (hd : PE X o td) (hbase : attributeBase o "values" X.env (eval o X.env) = eval o X.env := by rfl) (hline : (apos.endLine == mpos.line) = true := by rfl)
    (hse : starEach [Expr.Call (.Attribute o "values" apos) [] [] mpos] X.env = [(false, eval (Expr.Call (.Attribute o "values" apos) [] [] mpos) X.env)] := by rfl) :
    PE X (.Call (.Name "sum" p) [.Call (.Attribute o "values" apos) [] [] mpos] [] pos) (tSumVals td) := by
  refine ⟨fun pins s σ H Q I h => ?_⟩
  refine wpAny_Call_Name_kw (ld_blt I hg hm (u := .builtin "sum") (by first | rfl | decide +kernel) ?_ (by first | decide +kernel | decide) (by first | decide +kernel | decide))
  rw [hse]
  refine PySem.callWith_builtin1 (wpAny_Call_method0_late hbase hline (thn (hd.run pins s σ H _ I h) fun v s1 ⟨x, H1, I1, r1, a, kvs, is, ex, ha, hv, q⟩ => ?_))
  subst ex
  obtain rfl : v = Value.ref a := r1
  obtain ⟨_, hsys, vs, rel, dof⟩ := dk_of I1.hok ha
  obtain ⟨ep, dat⟩ := dof.dictAt
  obtain ⟨ob, es, ho, ex, _⟩ := id dat
  refine ⟨"dict", "dict.values", F.plainAttrs_dict, F.slot_dict_values, F.type_dict_values, ⟨ob, ho, ex.1⟩, fun b e => ?_, Calls.callWith_builtin rfl (PySem.evalArgs_none ?_)⟩
  · cases e
    exact ⟨ob, ho, ex.2.1⟩
  refine call_meetsIn F.slot_dict_values ⟨ob, ho, ex.1⟩ F.entry_dict_values (F.args_dict_values_1 _) (meets_dict_values (mixKind X.prog X.w) a hsys) ⟨⟨vs, dof⟩, ?_⟩
  have k1 : ∀ b u, s1.heap.get? b = some u → (s1.heap.push { cls := .type "dict_values", data := .fields #[.ref a] }).get? b = some u := fun b u e => Heap.get?_push_of_some _ e
  have dat1 : (s1.heap.push { cls := .type "dict_values", data := .fields #[.ref a] }).DictAt (mixKind X.prog X.w) a vs ep := dat.keep k1
  have hlv : vs.length = is.length := by
    have e1 := congrArg List.length hv
    rw [List.length_map, List.length_map] at e1
    rw [← e1]
    exact (KV.length rel).symm
  have hval : ∀ (i : Nat) (v : Value), (∃ k, vs[i]? = some (k, v)) → ∃ t, v = Value.int (is.getD i 0) t := fun i v ⟨k, hk⟩ => by
    obtain ⟨x, h1, h2⟩ := KV.at' rel hk
    have e1 : (kvs.map (·.2))[i]? = some x := by rw [List.getElem?_map, h1] <;> rfl
    rw [hv, List.getElem?_map] at e1
    obtain ⟨j, hj, e2⟩ := Option.map_eq_some_iff.mp e1
    subst e2
    obtain ⟨t, e3⟩ := h2
    refine ⟨t, ?_⟩
    rw [e3, List.getD_eq_getElem?_getD, hj] <;> rfl
  refine call_sum_walkAnyS (wpAny_pyIter_values (v := s1.heap.objs.size) (d := a) ⟨_, Heap.get?_push_size _ rfl, rfl, rfl⟩ dat1 ?_)
  have hlt : a < s1.heap.objs.size := Heap.lt_size ho
  have hsz : (s1.heap.push { cls := .type "dict_values", data := .fields #[.ref a] }).objs.size = s1.heap.objs.size + 1 := Heap.size_push _ _
  refine ⟨_, _, _, _, _, _, _, fun i => is.getD i 0, rfl, (Walks.dictValues (knd := mixKind X.prog X.w) (A := X.A.in1) (I.ok.hd hc) (s1.heap.push { cls := .type "dict_values", data := .fields #[.ref a] }).objs.size a (by rw [hsz]; exact Nat.ne_of_lt (Nat.lt_succ_of_lt hlt)) vs ep).toS,
    ⟨⟨_, Heap.get?_push_size _ rfl, rfl, rfl⟩, dat1.keep fun b u e => Heap.get?_push_of_some _ e⟩, fun b hb => ?_, hval, fun s' t' hm' => ?_⟩
  · show b < ((s1.heap.push _).push _).objs.size
    rw [Heap.size_push, Heap.size_push]
    rw [hsz] at hb
    rcases List.mem_cons.mp hb with e | hb
    · rw [e]
      exact Nat.lt_succ_self _
    · have e : b = a := List.mem_singleton.mp hb
      rw [e]
      exact Nat.lt_succ_of_lt (Nat.lt_succ_of_lt hlt)
  · obtain ⟨h', g', d', tk', os'⟩ := s'
    have e1 : g' = s1.gens := hm'.gens
    have e2 : d' = s1.drawn := hm'.drawn
    have e3 : os' = s1.os := hm'.os
    subst e1 e2 e3
    rw [hlv, sum_getD]
    refine ⟨.int _, H1, I1.kept (t' := tk') fun b u e => hm'.heap b u (fun hmem => ?_) (Heap.get?_push_of_some _ (k1 b u e)), ⟨_, rfl⟩, q⟩
    have e1 : b = (s1.heap.push { cls := .type "dict_values", data := .fields #[.ref a] }).objs.size := List.mem_singleton.mp hmem
    have e2 := Heap.lt_size e
    rw [hsz] at e1
    rw [e1] at e2
    exact absurd e2 (Nat.not_lt.mpr (Nat.le_succ _))
end
end SL
/-! min(d.values(), default=x) of a dict with int values. -/
namespace SL
open PySem PySem.Spec PyProof.Rows L2
section
variable {prog : Program} {w : World} {A : Around} {R : Result → Shared → Prop} {I : Addr} {fp wr : List Addr} {n : Nat} {P : Nat → Value → Prop} {St : Nat → Heap → Prop}
theorem min_bp (d : Value) : Builtin.Builtins.bindParams "min" ["key", "default"] 0 ⟨[], [(Str.ofString "default", d)]⟩ = pure [none, some d] := by
  rfl
theorem min_args (v d : Value) : argsOk "min" ⟨[v], [(Str.ofString "default", d)]⟩ := by
  rfl
theorem min_loopD {d : Value} (W : Walks prog w A.in1 I fp wr n P St) (bt : Nat → Nat → Bool) (hc : CmpOf prog w A.in1 CmpOp.Lt P bt) (S : Addr) (nS : ¬ S ∈ fp) :
    ∀ (k j : Nat) (s : Shared) (vb : Value) (c : Nat), n - (j + 1) = k → j + 1 ≤ n → St (j + 1) s.heap → P (argBest bt j) vb → s.heap.get? S = some { cls := .type "list", data := .seq #[vb, vb] c } →
      (∀ (v : Value) (h' : Heap) (tk : Nat), P (argBest bt (n - 1)) v → (∀ b o, ¬ b ∈ wr → b ≠ S → s.heap.get? b = some o → h'.get? b = some o) → R (.ok (.ret v)) { s with heap := h', toks := tk }) →
      codeAny (model prog w) A (.builtin "min.loop" ⟨[.ref I, .none, .ref S], [(Str.ofString "default", d)]⟩) R s := by
  have nSw : ¬ S ∈ wr := fun z => nS (W.sub _ z)
  intro k
  induction k with
  | zero =>
    intro j s vb c hk hj hst hP hS hR
    have hn : n = j + 1 := by omega
    subst hn
    refine codeAny_builtin F.entry_min_loop ?_
    rw [Around.under_plainId F.plain_min_loop _]
    show wpAny _ A.in1 (seqItems? (.ref S) >>= _) _ _ s
    refine wpAny_bind (wpAny_seqItems hS rfl ?_)
    show wpAny _ A.in1 (tryCatch (pyNext (.ref I)) _ >>= _) _ _ s
    refine wpAny_bind (wpAny_tryCatch (W.done s _ _ hst fun h' tk hk' => ?_))
    have hS' := hk' _ _ nSw hS
    show wpAny _ A.in1 (updateSeq S (fun _ => #[]) >>= fun _ => letGo [vb] [vb] >>= fun _ => ret vb) _ _ _
    refine wpAny_bind (wpAny_updateSeq hS' rfl (wpAny_bind (wpAny_letGo (wpAny_pure ?_))) (by show 2 ≤ sizeLine; decide) (by show 0 ≤ sizeLine + 1; exact Nat.zero_le _))
    refine hR vb _ tk hP fun b o hb hbS e => ?_
    exact (Heap.get?_update_other _ _ (Ne.symm hbS)).trans (hk' _ _ hb e)
  | succ k ih =>
    intro j s vb c hk hj hst hP hS hR
    refine codeAny_builtin F.entry_min_loop ?_
    rw [Around.under_plainId F.plain_min_loop _]
    show wpAny _ A.in1 (seqItems? (.ref S) >>= _) _ _ s
    refine wpAny_bind (wpAny_seqItems hS rfl ?_)
    show wpAny _ A.in1 (tryCatch (pyNext (.ref I)) _ >>= _) _ _ s
    refine wpAny_bind (wpAny_tryCatch (W.item (j + 1) s _ _ (by omega) hst fun v h' tk hv hst' hk' => ?_))
    have hS' := hk' _ _ nSw hS
    show wpAny _ A.in1 (tryCatch (holding [v, v] (richCompare CmpOp.Lt v vb >>= fun answer => holding [answer] (truthy answer) >>= fun yes => letGo [answer] >>= fun _ => pure yes)) _ >>= _) _ _ _
    refine wpAny_bind (wpAny_tryCatch (wpAny_holding (wpAny_bind (hc _ _ _ _ _ _ _ hv hP (wpAny_bind (wpAny_holding (wpAny_truthy_bool (wpAny_bind (wpAny_letGo (wpAny_pure ?_))))))))))
    have sub : ∀ b o, ¬ b ∈ wr → b ≠ S → s.heap.get? b = some o → (h'.update S (Obj.mapSeq fun _ => #[v, v])).get? b = some o := fun b o hb hbS e => (Heap.get?_update_other _ _ (Ne.symm hbS)).trans (hk' _ _ hb e)
    cases hb : bt (j + 1) (argBest bt j) with
    | true =>
      show wpAny _ A.in1 (updateSeq S (fun _ => #[v, v]) >>= fun _ => letGo [vb, vb] >>= fun _ => again (.builtin "min.loop" ⟨[.ref I, .none, .ref S], [(Str.ofString "default", d)]⟩)) _ _ _
      refine wpAny_bind (wpAny_updateSeq hS' rfl (wpAny_bind (wpAny_letGo (wpAny_pure ⟨plainId_quiet F.plain_min_loop _, ?_⟩))) (by show 2 ≤ sizeLine; decide) (by show 2 ≤ sizeLine + 1; decide))
      refine ih (j + 1) _ v _ (by omega) (by omega) (W.frame _ _ _ hst' fun b hb o e => (Heap.get?_update_other _ _ (fun z => nS (by rw [z]; exact hb))).trans e) ?_ (Heap.get?_update_self _ hS' rfl) fun u h2 tk2 h1 h3 => hR u h2 tk2 h1 fun b o q1 q2 e => h3 b o q1 q2 (sub b o q1 q2 e)
      rw [show argBest bt (j + 1) = j + 1 from if_pos hb]
      exact hv
    | false =>
      show wpAny _ A.in1 (letGo [v, v] >>= fun _ => again (.builtin "min.loop" ⟨[.ref I, .none, .ref S], [(Str.ofString "default", d)]⟩)) _ _ _
      refine wpAny_bind (wpAny_letGo (wpAny_pure ⟨plainId_quiet F.plain_min_loop _, ?_⟩))
      refine ih (j + 1) _ vb _ (by omega) (by omega) hst' ?_ hS' fun u h2 tk2 h1 h3 => hR u h2 tk2 h1 fun b o q1 q2 e => h3 b o q1 q2 (hk' _ _ q1 e)
      rw [show argBest bt (j + 1) = argBest bt j from if_neg (by rw [hb]; decide)]
      exact hP
theorem min_firstD {d : Value} (W : Walks prog w A.in1 I fp wr n P St) (bt : Nat → Nat → Bool) (hc : CmpOf prog w A.in1 CmpOp.Lt P bt) (S : Addr) (nS : ¬ S ∈ fp) {s : Shared} {c : Nat} (hst : St 0 s.heap)
    (hS : s.heap.get? S = some { cls := .type "list", data := .seq #[] c })
    (hR : ∀ (v : Value) (h' : Heap) (tk : Nat), (0 < n → P (argBest bt (n - 1)) v) → (n = 0 → v = d) → (∀ b o, ¬ b ∈ wr → b ≠ S → s.heap.get? b = some o → h'.get? b = some o) → R (.ok (.ret v)) { s with heap := h', toks := tk }) :
    codeAny (model prog w) A (.builtin "min.loop" ⟨[.ref I, .none, .ref S], [(Str.ofString "default", d)]⟩) R s := by
  have nSw : ¬ S ∈ wr := fun z => nS (W.sub _ z)
  refine codeAny_builtin F.entry_min_loop ?_
  rw [Around.under_plainId F.plain_min_loop _]
  show wpAny _ A.in1 (seqItems? (.ref S) >>= _) _ _ s
  refine wpAny_bind (wpAny_seqItems hS rfl ?_)
  show wpAny _ A.in1 (tryCatch (pyNext (.ref I)) _ >>= _) _ _ s
  by_cases hn : n = 0
  · subst hn
    refine wpAny_bind (wpAny_tryCatch (W.done s _ _ hst fun h' tk hk' => ?_))
    show wpAny _ A.in1 (rule "min.default" >>= fun _ => ret d) _ _ _
    exact wpAny_bind (wpAny_rule (wpAny_pure (hR d h' tk (fun z => absurd z (Nat.lt_irrefl _)) (fun _ => rfl) fun b o hb _ e => hk' b o hb e)))
  · refine wpAny_bind (wpAny_tryCatch (W.item 0 s _ _ (by omega) hst fun v h' tk hv hst' hk' => ?_))
    have hS' := hk' _ _ nSw hS
    show wpAny _ A.in1 (updateSeq S (fun _ => #[v, v]) >>= fun _ => again (.builtin "min.loop" ⟨[.ref I, .none, .ref S], [(Str.ofString "default", d)]⟩)) _ _ _
    refine wpAny_bind (wpAny_updateSeq hS' rfl (wpAny_pure ⟨plainId_quiet F.plain_min_loop _, ?_⟩) (by show 0 ≤ sizeLine; exact Nat.zero_le _) (by show 2 ≤ sizeLine + 1; decide))
    refine min_loopD W bt hc S nS (n - 1) 0 _ v _ (by omega) (by omega) (W.frame _ _ _ hst' fun b hb o e => (Heap.get?_update_other _ _ (fun z => nS (by rw [z]; exact hb))).trans e) hv (Heap.get?_update_self _ hS' rfl) fun u h2 tk2 h1 h3 => hR u h2 tk2 (fun _ => h1) (fun z => absurd z hn) fun b o q1 q2 e => h3 b o q1 q2 ((Heap.get?_update_other _ _ (Ne.symm q2)).trans (hk' _ _ q1 e))
theorem call_minD {s : Shared} {E : Value → Shared → Prop} {x d : Value} {Q : Value → Shared → Prop}
    (h : wpAny (model prog w) A.in1 (pyIter x) (fun it s₂ => ∃ I fp wr n P St bt, it = .ref I ∧ Walks prog w A.in1 I fp wr n P St ∧ St 0 s₂.heap ∧ (∀ b ∈ fp, b < s₂.heap.objs.size) ∧ CmpOf prog w A.in1 CmpOp.Lt P bt ∧
      ∀ (v : Value) (h' : Heap) (tk : Nat), (0 < n → P (argBest bt (n - 1)) v) → (n = 0 → v = d) → (∀ b o, ¬ b ∈ wr → s₂.heap.get? b = some o → h'.get? b = some o) → Q v { s₂ with heap := h', toks := tk }) E s) :
    wpAny (model prog w) A (call (.builtin "min") [x] [(Str.ofString "default", d)]) Q E s := by
  refine wpAny_call (codeAny_call_builtin F.plain_min F.entry_min ?_)
  show wpAny _ A.in1 (checkBuiltinCall "min" ⟨[x], [(Str.ofString "default", d)]⟩) _ _ _
  rw [show checkBuiltinCall "min" ⟨[x], [(Str.ofString "default", d)]⟩ = pure () from rfl]
  refine wpAny_pure ?_
  show wpAny _ A.in1 (Builtin.Builtins.bindParams "min" ["key", "default"] 0 ⟨[], [(Str.ofString "default", d)]⟩ >>= _) _ _ _
  rw [min_bp]
  show wpAny _ A.in1 (pyIter x >>= fun it => newList [] >>= fun S => again (.builtin "min.loop" ⟨[it, .none, S], [(Str.ofString "default", d)]⟩)) _ _ _
  refine wpAny_bind (wpAny_mono h (fun it s₂ q => ?_) fun e s' q => q)
  obtain ⟨I, fp, wr, n, P, St, bt, rfl, W, st, lt, hc, q⟩ := q
  refine wpAny_bind (wpAny_newList (wpAny_pure ⟨plainId_quiet F.plain_min_loop _, ?_⟩) (by show 0 ≤ sizeLine; exact Nat.zero_le _))
  have lt' : ∀ b o, s₂.heap.get? b = some o → b ≠ s₂.heap.objs.size := fun b o e => Nat.ne_of_lt (Heap.lt_size e)
  refine min_firstD W bt hc _ (fun z => Nat.lt_irrefl _ (lt _ z)) (W.frame _ _ _ st fun b hb o e => Heap.get?_push_of_some _ e) (Heap.get?_push_size _ rfl) fun v h' tk h1 h2 h3 => ?_
  exact q v h' tk h1 h2 fun b o hb e => h3 b o hb (lt' b o e) (Heap.get?_push_of_some _ e)
end
def tMinValsD (td : TE) : TE := fun σ H Q => td σ H fun x H1 => ∃ (a : Addr) (kvs : List (Key × V)) (is : List Int), x = V.ref a ∧ Rd H1 a (.dK kvs) ∧ kvs.map (·.2) = is.map V.int ∧ (is = [] → Q .non H1) ∧ ∀ m, m ∈ is → (∀ j ∈ is, m ≤ j) → Q (.int m) H1
section
variable {X : Cx} {o : Expr} {p pos apos mpos kpos kp : Pos} {k : Nat} {td : TE}
theorem pe_minValsD (hc : X.calm = true) (hg : Gl X "min") (hm : X.mg "min" = none) (hd : PE X o td) (hbase : attributeBase o "values" X.env (eval o X.env) = eval o X.env := by rfl) (hline : (apos.endLine == mpos.line) = true := by rfl)
    (hse : backTo pos (starEach [Expr.Call (.Attribute o "values" apos) [] [] mpos] X.env) = [(false, eval (Expr.Call (.Attribute o "values" apos) [] [] mpos) X.env)] := by rfl) :
    PE X (.Call (.Name "min" p) [.Call (.Attribute o "values" apos) [] [] mpos] [⟨some "default", .Constant .none k kp, kpos⟩] pos) (tMinValsD td) := by
  refine ⟨fun pins s σ H Q I h => ?_⟩
  refine wpAny_Call_Name_kw (ld_blt I hg hm (u := .builtin "min") (by first | rfl | decide +kernel) ?_ (by first | decide +kernel | decide) (by first | decide +kernel | decide))
  rw [hse]
  refine W.callWith_of (P := fun _ => True) rfl (fun h _ => ⟨.machine, Or.inr (Or.inl rfl), fun A Q E s _ q => wpAny_pure q⟩) (evalArgs_kw rfl (Calls.spliced_cons ?_))
  refine wpAny_Call_method0_late hbase hline (thn (hd.run pins s σ H _ I h) fun v s1 ⟨x, H1, I1, r1, a, kvs, is, ex, ha, hv, q0, q⟩ => ?_)
  subst ex
  obtain rfl : v = Value.ref a := r1
  obtain ⟨_, hsys, vs, rel, dof⟩ := dk_rd I1.hok ha
  obtain ⟨ep, dat⟩ := dof.dictAt
  obtain ⟨ob, es, ho, ex, _⟩ := id dat
  refine ⟨"dict", "dict.values", F.plainAttrs_dict, F.slot_dict_values, F.type_dict_values, ⟨ob, ho, ex.1⟩, fun b e => ?_, Calls.callWith_builtin rfl (PySem.evalArgs_none ?_)⟩
  · cases e
    exact ⟨ob, ho, ex.2.1⟩
  refine call_meetsIn F.slot_dict_values ⟨ob, ho, ex.1⟩ F.entry_dict_values (F.args_dict_values_1 _) (meets_dict_values (mixKind X.prog X.w) a hsys) ⟨⟨vs, dof⟩, ?_⟩
  refine Calls.spliced_nil (wpAny_evalAll_cons ?_)
  show wpAny _ _ (eval (.Constant .none k kp) X.env >>= fun v => standAt pos >>= fun _ => pure v) _ _ _
  refine wpAny_bind (wpAny_Constant_none (wpAny_bind (wpAny_standAt (wpAny_pure (wpAny_evalAll_nil ⟨trivial, ?_⟩)))))
  show wpAny _ _ (call (.builtin "min") [_] [(Str.ofString "default", Value.none)]) _ _ _
  have k1 : ∀ b u, s1.heap.get? b = some u → (s1.heap.push { cls := .type "dict_values", data := .fields #[.ref a] }).get? b = some u := fun b u e => Heap.get?_push_of_some _ e
  have dat1 : (s1.heap.push { cls := .type "dict_values", data := .fields #[.ref a] }).DictAt (mixKind X.prog X.w) a vs ep := dat.keep k1
  have hlv : vs.length = is.length := by
    have e1 := congrArg List.length hv
    rw [List.length_map, List.length_map] at e1
    rw [← e1]
    exact (KV.length rel).symm
  have hval : ∀ (i : Nat) (v : Value), (∃ k, vs[i]? = some (k, v)) → ∃ t, v = Value.int (is.getD i 0) t := fun i v ⟨k, hk⟩ => by
    obtain ⟨x, h1, h2⟩ := KV.at' rel hk
    have e1 : (kvs.map (·.2))[i]? = some x := by rw [List.getElem?_map, h1] <;> rfl
    rw [hv, List.getElem?_map] at e1
    obtain ⟨j, hj, e2⟩ := Option.map_eq_some_iff.mp e1
    subst e2
    obtain ⟨t, e3⟩ := h2
    refine ⟨t, ?_⟩
    rw [e3, List.getD_eq_getElem?_getD, hj] <;> rfl
  have hlt : a < s1.heap.objs.size := Heap.lt_size ho
  have hsz : (s1.heap.push { cls := .type "dict_values", data := .fields #[.ref a] }).objs.size = s1.heap.objs.size + 1 := Heap.size_push _ _
  refine call_minD (wpAny_pyIter_values (v := s1.heap.objs.size) (d := a) ⟨_, Heap.get?_push_size _ rfl, rfl, rfl⟩ dat1 ?_)
  refine ⟨_, _, _, _, _, _, _, rfl, Walks.dictValues (knd := mixKind X.prog X.w) (A := X.A.in1) (I.ok.hd hc) (s1.heap.push { cls := .type "dict_values", data := .fields #[.ref a] }).objs.size a (by rw [hsz]; exact Nat.ne_of_lt (Nat.lt_succ_of_lt hlt)) vs ep,
    ⟨⟨_, Heap.get?_push_size _ rfl, rfl, rfl⟩, dat1.keep fun b u e => Heap.get?_push_of_some _ e⟩, fun b hb => ?_, CmpOf.ints_lt (fun i => is.getD i 0) hval, fun u h' tk' h1 h0 hm' => ?_⟩
  · show b < ((s1.heap.push _).push _).objs.size
    rw [Heap.size_push, Heap.size_push]
    rw [hsz] at hb
    rcases List.mem_cons.mp hb with e | hb
    · rw [e]
      exact Nat.lt_succ_self _
    · have e : b = a := List.mem_singleton.mp hb
      rw [e]
      exact Nat.lt_succ_of_lt (Nat.lt_succ_of_lt hlt)
  · have kk : ∀ b u, s1.heap.get? b = some u → h'.get? b = some u := fun b u e => hm' b u (fun hmem => by
      have e1 : b = (s1.heap.push { cls := .type "dict_values", data := .fields #[.ref a] }).objs.size := List.mem_singleton.mp hmem
      have e2 := Heap.lt_size e
      rw [hsz] at e1
      rw [e1] at e2
      exact absurd e2 (Nat.not_lt.mpr (Nat.le_succ _))) (Heap.get?_push_of_some _ (k1 b u e))
    by_cases hz : vs.length = 0
    · rw [h0 hz]
      exact ⟨.non, H1, I1.kept (t' := tk') kk, rfl, q0 (List.eq_nil_of_length_eq_zero (by omega))⟩
    · obtain ⟨t, e⟩ := hval _ _ (h1 (by omega))
      obtain ⟨b1, b2⟩ := argBest_lt (fun i => is.getD i 0) (vs.length - 1)
      rw [e]
      refine ⟨.int _, H1, I1.kept (t' := tk') kk, ⟨_, rfl⟩, q _ ?_ fun j hj => ?_⟩
      · rw [List.getD_eq_getElem?_getD, List.getElem?_eq_getElem (by omega)]
        exact List.getElem_mem (by omega)
      · obtain ⟨i, hi, rfl⟩ := List.mem_iff_getElem.mp hj
        have := b2 i (by omega)
        rw [show is.getD i 0 = is[i] by rw [List.getD_eq_getElem?_getD, List.getElem?_eq_getElem hi]; rfl] at this
        exact this
end
end SL
/-! d.setdefault(t, x) of a dict whose keys are tuples. -/
namespace SL
open PySem PySem.Spec PyProof.Rows L2
def tDSetT (td ty tx : TE) : TE := fun σ H Q => td σ H fun x H1 => ∃ a, x = .ref a ∧ (∃ kvs, H1 a = some (.dT kvs)) ∧ ty σ H1 fun y H2 => tx σ H2 fun z H3 => ∃ (kvs : List (List Key × V)) (k : List Key) (b : Addr), H3 a = some (.dT kvs) ∧ y = .ref b ∧ H3 b = some (.tup (k.map kV)) ∧ kvs.length < sizeLine ∧
  (∀ v, valV kvs k = some v → Q v H3) ∧ (valV kvs k = none → Q z (upd H3 a (.dT (putK kvs k z))))
section
variable {X : Cx} {o e f : Expr} {apos cpos : Pos} {td ty tx : TE}
theorem obj_dT {P : Program} {w : World} {H : Hp} {h : Heap} {a : Addr} {kvs : List (List Key × V)} (h1 : kvs.length ≤ sizeLine) (h2 : (a == sysModules) = false) (h3 : ∃ xs, KT H kvs xs ∧ Heap.DictOfH (tupleKind (mixKind P w)) h a xs) : ObjOk P w H h a (.dT kvs) := by
  obtain ⟨xs, k, d⟩ := h3
  unfold ObjOk
  refine ⟨h1, h2, xs, k, ?_⟩
  obtain ⟨o, es, ep, a1, a2, a3, a4, _, a5⟩ := d
  exact ⟨o, es, ep, a1, a2, a3, a4, a5⟩
theorem putK_len {kvs : List (List Key × V)} {k : List Key} {z : V} : (putK kvs k z).length ≤ kvs.length + 1 := by
  unfold putK
  split
  · rw [List.length_map]
    exact Nat.le_succ _
  · rw [List.length_append]
    exact Nat.le_refl _
theorem pe_dsetT (hu : X.A.units + 1 < cLine) (hd : PE X o td) (he : PE X e ty) (hf : PE X f tx) (m : M2 X o "setdefault" apos e f cpos) : PE X (.Call (.Attribute o "setdefault" apos) [e, f] [] cpos) (tDSetT td ty tx) := by
  refine ⟨fun pins s σ H Q I h => ?_⟩
  refine wpAny_Call_method2_late m.base m.line m.trees (thn (hd.run pins s σ H _ I h) fun v s1 ⟨x, H1, I1, r1, a, ex, ⟨kvs1, ha1⟩, q1⟩ => ?_)
  subst ex
  obtain rfl : v = Value.ref a := r1
  obtain ⟨_, hsys, xs1, rel1, dof1⟩ := dt_of I1.hok ha1
  obtain ⟨ob, es, ep, ho, xd, dd, _⟩ := dof1
  refine ⟨"dict", "dict.setdefault", F.plainAttrs_dict, F.slot_dict_setdefault, F.type_dict_setdefault, ⟨ob, ho, xd.1⟩, fun b e => ?_, Calls.callWith_builtin rfl (Calls.evalArgs_plain (Calls.spliced_cons (thn (he.run pins s1 σ H1 _ I1 q1) fun v2 s2 ⟨y, H2, I2, r2, q2⟩ => Calls.spliced_cons (thn (hf.run pins s2 σ H2 _ I2 q2) fun v3 s3 ⟨z, H3, I3, r3, q3⟩ => Calls.spliced_nil ?_))))⟩
  · cases e
    exact ⟨ob, ho, xd.2.1⟩
  obtain ⟨kvs, k, b, ha, rfl, hb, hl, qa, qb⟩ := q3
  obtain rfl : v2 = Value.ref b := r2
  obtain ⟨hlen, _, xs, rel, dof⟩ := dt_of I3.hok ha
  have hk := key_of I3.hok hb
  have hv := KT.val rel k
  have hab : a ≠ b := fun z => by rw [z, hb] at ha; cases ha
  show wpAny _ _ (call (.builtin "dict.setdefault") [.ref a, .ref b, v3]) _ _ _
  refine call_setdefault_heap (knd := tupleKind (mixKind X.prog X.w)) (k := k) (xs := xs) ?_ hk hsys dof (fun p hp => ?_) (fun hn h' dof' sb => ?_) ?_
  · exact hu
  · rw [hp] at hv
    cases hv2 : valV kvs k with
    | none =>
      rw [hv2] at hv
      exact hv.elim
    | some u =>
      rw [hv2] at hv
      exact ⟨u, H3, I3.kept fun _ _ e => e, hv, qa u hv2⟩
  · have hv2 : valV kvs k = none := by
      rw [hn] at hv
      cases hv2 : valV kvs k with
      | none => rfl
      | some u =>
        rw [hv2] at hv
        exact hv.elim
    obtain ⟨ob2, es2, ep2, ho2, _⟩ := id dof'
    refine ⟨z, _, d_write I3 (by rw [ha]; trivial) sb ⟨_, ho2⟩ (obj_dT (Nat.le_trans putK_len hl) hsys ⟨storedH xs k b v3, KT.keeps (KT.put rel k hb r3) fun c ys e => ?_, dof'⟩), r3, qb hv2⟩
    rw [upd_ne fun z => by rw [z, ha] at e; cases e]
    exact e
  · rw [← Paired.length rel]
    exact hlen
end
end SL
/-! The value layer: what a reading asks, told of values without a heap. -/
namespace SV
open PySem PySem.Spec PyProof.Rows L2 SL
inductive U where
  | non
  | bl (b : Bool)
  | int (i : Int)
  | str (s : Str)
  | lst (us : List U)
  | tup (us : List U)
  | dic (kvs : List (Key × U))
  | dit (kvs : List (List Key × U))
  | ins (C : Addr) (fs : List (Str × U))
  | pool
  | ty (n : String)
mutual
inductive Rp (pp : Addr) (G : Hp) : V → U → Prop
  | non : Rp pp G .non .non
  | bl (b : Bool) : Rp pp G (.bl b) (.bl b)
  | int (i : Int) : Rp pp G (.int i) (.int i)
  | str (s : Str) (z : s.length ≤ 100000) : Rp pp G (.str s) (.str s)
  | lst {a : Addr} {vs : List V} {us : List U} (h : G a = some (.lst vs)) (k : RpL pp G vs us) (z : us.length ≤ 100000) : Rp pp G (.ref a) (.lst us)
  | tup {a : Addr} {vs : List V} {us : List U} (h : G a = some (.tup vs)) (k : RpL pp G vs us) (z : us.length ≤ 100000) : Rp pp G (.ref a) (.tup us)
  | dic {a : Addr} {kvs : List (Key × V)} {kus : List (Key × U)} (h : G a = some (.dK kvs)) (k : RpD pp G kvs kus) (z : kus.length ≤ 100000) : Rp pp G (.ref a) (.dic kus)
  | dit {a : Addr} {kvs : List (List Key × V)} {kus : List (List Key × U)} (h : G a = some (.dT kvs)) (k : RpT pp G kvs kus) (z : kus.length ≤ 100000) : Rp pp G (.ref a) (.dit kus)
  | ins {a C dx : Addr} {fs : List (Str × V)} {gs : List (Str × U)} (h : G a = some (.ins C dx fs)) (k : RpF pp G fs gs) : Rp pp G (.ref a) (.ins C gs)
  | pool : Rp pp G (.ref pp) .pool
  | ty (n : String) : Rp pp G (.ty n) (.ty n)
inductive RpL (pp : Addr) (G : Hp) : List V → List U → Prop
  | nil : RpL pp G [] []
  | cons {v : V} {u : U} {vs : List V} {us : List U} (h : Rp pp G v u) (t : RpL pp G vs us) : RpL pp G (v :: vs) (u :: us)
inductive RpD (pp : Addr) (G : Hp) : List (Key × V) → List (Key × U) → Prop
  | nil : RpD pp G [] []
  | cons {k : Key} {v : V} {u : U} {vs : List (Key × V)} {us : List (Key × U)} (h : Rp pp G v u) (t : RpD pp G vs us) : RpD pp G ((k, v) :: vs) ((k, u) :: us)
inductive RpT (pp : Addr) (G : Hp) : List (List Key × V) → List (List Key × U) → Prop
  | nil : RpT pp G [] []
  | cons {k : List Key} {v : V} {u : U} {vs : List (List Key × V)} {us : List (List Key × U)} (h : Rp pp G v u) (t : RpT pp G vs us) : RpT pp G ((k, v) :: vs) ((k, u) :: us)
inductive RpF (pp : Addr) (G : Hp) : List (Str × V) → List (Str × U) → Prop
  | nil : RpF pp G [] []
  | cons {k : Str} {v : V} {u : U} {vs : List (Str × V)} {us : List (Str × U)} (h : Rp pp G v u) (t : RpF pp G vs us) : RpF pp G ((k, v) :: vs) ((k, u) :: us)
end
section
variable {pp : Addr} {G G' H H' : Hp}
mutual
theorem Rp.same (s : Same G G') : ∀ {v : V} {u : U}, Rp pp G v u → Rp pp G' v u
  | _, _, .non => .non
  | _, _, .bl b => .bl b
  | _, _, .int i => .int i
  | _, _, .str x z => .str x z
  | _, _, .lst h k z => .lst (s _ _ h) (RpL.same s k) z
  | _, _, .tup h k z => .tup (s _ _ h) (RpL.same s k) z
  | _, _, .dic h k z => .dic (s _ _ h) (RpD.same s k) z
  | _, _, .dit h k z => .dit (s _ _ h) (RpT.same s k) z
  | _, _, .ins h k => .ins (s _ _ h) (RpF.same s k)
  | _, _, .pool => .pool
  | _, _, .ty n => .ty n
theorem RpL.same (s : Same G G') : ∀ {vs : List V} {us : List U}, RpL pp G vs us → RpL pp G' vs us
  | _, _, .nil => .nil
  | _, _, .cons h t => .cons (Rp.same s h) (RpL.same s t)
theorem RpD.same (s : Same G G') : ∀ {vs : List (Key × V)} {us : List (Key × U)}, RpD pp G vs us → RpD pp G' vs us
  | _, _, .nil => .nil
  | _, _, .cons h t => .cons (Rp.same s h) (RpD.same s t)
theorem RpT.same (s : Same G G') : ∀ {vs : List (List Key × V)} {us : List (List Key × U)}, RpT pp G vs us → RpT pp G' vs us
  | _, _, .nil => .nil
  | _, _, .cons h t => .cons (Rp.same s h) (RpT.same s t)
theorem RpF.same (s : Same G G') : ∀ {vs : List (Str × V)} {us : List (Str × U)}, RpF pp G vs us → RpF pp G' vs us
  | _, _, .nil => .nil
  | _, _, .cons h t => .cons (Rp.same s h) (RpF.same s t)
end
theorem RpL.length : ∀ {vs : List V} {us : List U}, RpL pp G vs us → vs.length = us.length
  | _, _, .nil => rfl
  | _, _, .cons _ t => congrArg (· + 1) (RpL.length t)
theorem RpL.get : ∀ {vs : List V} {us : List U} {i : Nat} {v : V}, RpL pp G vs us → vs[i]? = some v → ∃ u, us[i]? = some u ∧ Rp pp G v u
  | _, _, _, _, .nil, h => by simp at h
  | _, _, 0, _, .cons h _, e => by
    simp at e
    subst e
    exact ⟨_, rfl, h⟩
  | _, _, i + 1, _, .cons _ t, e => by
    obtain ⟨d, h1, h2⟩ := RpL.get (i := i) t (by simpa using e)
    exact ⟨d, by simpa using h1, h2⟩
theorem RpL.got : ∀ {vs : List V} {us : List U} {i : Nat} {u : U}, RpL pp G vs us → us[i]? = some u → ∃ v, vs[i]? = some v ∧ Rp pp G v u
  | _, _, _, _, .nil, h => by simp at h
  | _, _, 0, _, .cons h _, e => by
    simp at e
    subst e
    exact ⟨_, rfl, h⟩
  | _, _, i + 1, _, .cons _ t, e => by
    obtain ⟨v, h1, h2⟩ := RpL.got (i := i) t (by simpa using e)
    exact ⟨v, by simpa using h1, h2⟩
theorem RpL.append {ws : List V} {es : List U} (b : RpL pp G ws es) : ∀ {vs : List V} {us : List U}, RpL pp G vs us → RpL pp G (vs ++ ws) (us ++ es)
  | _, _, .nil => b
  | _, _, .cons h t => .cons h (RpL.append b t)
theorem RpL.snoc {v : V} {u : U} (h : Rp pp G v u) {vs : List V} {us : List U} (t : RpL pp G vs us) : RpL pp G (vs ++ [v]) (us ++ [u]) := RpL.append (.cons h .nil) t
theorem RpL.drop : ∀ {vs : List V} {us : List U} (n : Nat), RpL pp G vs us → RpL pp G (vs.drop n) (us.drop n)
  | _, _, 0, h => h
  | _, _, _ + 1, .nil => .nil
  | _, _, n + 1, .cons _ t => RpL.drop n t
theorem RpL.take : ∀ {vs : List V} {us : List U} (n : Nat), RpL pp G vs us → RpL pp G (vs.take n) (us.take n)
  | _, _, 0, _ => .nil
  | _, _, _ + 1, .nil => .nil
  | _, _, n + 1, .cons h t => .cons h (RpL.take n t)
theorem RpL.set {v : V} {u : U} (h : Rp pp G v u) : ∀ {vs : List V} {us : List U} (i : Nat), RpL pp G vs us → RpL pp G (vs.set i v) (us.set i u)
  | _, _, _, .nil => .nil
  | _, _, 0, .cons _ t => .cons h t
  | _, _, i + 1, .cons q t => .cons q (RpL.set h i t)
theorem RpL.rev : ∀ {vs : List V} {us : List U}, RpL pp G vs us → RpL pp G vs.reverse us.reverse
  | _, _, .nil => .nil
  | _, _, .cons h t => by
    rw [List.reverse_cons, List.reverse_cons]
    exact RpL.snoc h (RpL.rev t)
theorem RpF.get : ∀ {vs : List (Str × V)} {us : List (Str × U)} {f : Str} {u : U}, RpF pp G vs us → us.lookup f = some u → ∃ v, vs.lookup f = some v ∧ Rp pp G v u
  | _, _, _, _, .nil, h => by simp at h
  | _, _, f, u, .cons (k := k) h t, e => by
    by_cases c : (f == k) = true
    · simp only [List.lookup, c] at e ⊢
      cases e
      exact ⟨_, rfl, h⟩
    · have c' : (f == k) = false := by simpa using c
      simp only [List.lookup, c'] at e ⊢
      exact RpF.get t e
theorem RpD.length : ∀ {vs : List (Key × V)} {us : List (Key × U)}, RpD pp G vs us → vs.length = us.length
  | _, _, .nil => rfl
  | _, _, .cons _ t => congrArg (· + 1) (RpD.length t)
theorem RpT.length : ∀ {vs : List (List Key × V)} {us : List (List Key × U)}, RpT pp G vs us → vs.length = us.length
  | _, _, .nil => rfl
  | _, _, .cons _ t => congrArg (· + 1) (RpT.length t)
/-! ### heaps: what is frozen (G) in what is there (H) -/
def isD : HO → Bool
  | .dK _ => true
  | .dT _ => true
  | _ => false
def Vw (G H : Hp) : Prop := ∀ a o, G a = some o → H a = some o ∨ (isD o = true ∧ ∃ ob, H a = some (.frz ob o))
theorem Vw.rd (w : Vw G H) {a : Addr} {o : HO} (h : G a = some o) : Rd H a o := by
  rcases w a o h with e | ⟨_, e⟩
  · exact .inl e
  · exact .inr e
theorem Vw.lst (w : Vw G H) {a : Addr} {vs : List V} (h : G a = some (.lst vs)) : H a = some (.lst vs) := by
  rcases w a _ h with e | ⟨e, _⟩
  · exact e
  · cases e
theorem Vw.tup (w : Vw G H) {a : Addr} {vs : List V} (h : G a = some (.tup vs)) : H a = some (.tup vs) := by
  rcases w a _ h with e | ⟨e, _⟩
  · exact e
  · cases e
theorem Vw.ins (w : Vw G H) {a C dx : Addr} {fs : List (Str × V)} (h : G a = some (.ins C dx fs)) : H a = some (.ins C dx fs) := by
  rcases w a _ h with e | ⟨e, _⟩
  · exact e
  · cases e
theorem Vw.free (w : Vw G H) {a : Addr} (h : H a = none) : G a = none := by
  cases e : G a with
  | none => rfl
  | some o =>
    rcases w a o e with q | ⟨_, ob, q⟩ <;> rw [h] at q <;> cases q
theorem Vw.of (s : Same G H) : Vw G H := fun a o e => .inl (s a o e)
theorem Vw.refl : Vw G G := Vw.of (Same.refl G)
/-- a pool of numbers to draw from -/
def PoolAt (H : Hp) (p q : Addr) : Prop := ∃ (ms : List Int) (c u d e : Int), H p = some (.lst [.ref q, .int c, .int u, .int d, .int e]) ∧ H q = some (.lst (ms.map V.int)) ∧ p ≠ q ∧ 0 ≤ c ∧ 0 ≤ u ∧ 0 ≤ d ∧ 0 ≤ e ∧ e < 2147483629
theorem PoolAt.keep {p q : Addr} (h : PoolAt H p q) (h1 : H' p = H p) (h2 : H' q = H q) : PoolAt H' p q := by
  obtain ⟨ms, c, u, d, e, k1, k2, k3⟩ := h
  exact ⟨ms, c, u, d, e, h1.trans k1, h2.trans k2, k3⟩
/-- which part of the heap a def may change beside its own: a pool of numbers, tables of code objects -/
structure PT where
  b : Bool
  T : List (Addr × Str)
instance : Coe Bool PT := ⟨fun b => ⟨b, []⟩⟩
def Off (b : PT) (pp a : Addr) : Prop := (b.b = true → a ≠ pp) ∧ ∀ t ∈ b.T, a ≠ t.1
def Pl (b : PT) (pp q : Addr) (G H : Hp) : Prop := (b.b = true → PoolAt H pp q ∧ G pp = none ∧ G q = none) ∧ ∀ t ∈ b.T, LamX.TabS H t.1 t.2 ∧ G t.1 = none
theorem Pl.putG' {b : PT} {pp q : Addr} {G H : Hp} {a : Addr} {o x : HO} (p : Pl b pp q G (upd H a x)) (n : H a = none) (hp : Pl b pp q G H := by assumption) : Pl b pp q (upd G a o) (upd H a x) :=
  ⟨fun z => let ⟨P, n1, n2⟩ := p.1 z; let ⟨⟨_, _, _, _, _, k1, k2, _⟩, _⟩ := hp.1 z; ⟨P, by rw [upd_ne (ne_of_none k1 n)]; exact n1, by rw [upd_ne (ne_of_none k2 n)]; exact n2⟩,
   fun t ht => ⟨(p.2 t ht).1, by
    obtain ⟨⟨ps, k1, _⟩, g⟩ := hp.2 t ht
    rw [upd_ne (ne_of_none k1 n)]
    exact g⟩⟩
theorem Pl.same {b : PT} {pp q : Addr} {G H G' H' : Hp} (p : Pl b pp q G H) (s : Same H H') (hg : ∀ a, G' a = G a ∨ H a = none) : Pl b pp q G' H' := by
  refine ⟨fun z => ?_, fun t ht => ?_⟩
  · obtain ⟨P, n1, n2⟩ := p.1 z
    obtain ⟨ms, c', u, d, e', k1, k2, k3⟩ := id P
    refine ⟨P.keep ((s _ _ k1).trans k1.symm) ((s _ _ k2).trans k2.symm), ?_, ?_⟩
    · rcases hg pp with h | h
      · rw [h]; exact n1
      · rw [k1] at h; cases h
    · rcases hg q with h | h
      · rw [h]; exact n2
      · rw [k2] at h; cases h
  · obtain ⟨T, g⟩ := p.2 t ht
    refine ⟨T.ext s, ?_⟩
    obtain ⟨ps, k1, _⟩ := T
    rcases hg t.1 with h | h
    · rw [h]; exact g
    · rw [k1] at h; cases h
theorem off_none {b : PT} {pp q : Addr} {G H : Hp} (p : Pl b pp q G H) {a : Addr} (n : H a = none) : Off b pp a := by
  refine ⟨fun z e => ?_, fun t ht e => ?_⟩
  · obtain ⟨⟨ms, c, u, d, e', k1, _⟩, _⟩ := p.1 z
    rw [← e, n] at k1
    cases k1
  · obtain ⟨⟨ps, k1, _⟩, _⟩ := p.2 t ht
    rw [← e, n] at k1
    cases k1
/-- what is changed is no code object and no table -/
theorem tab_upd {H : Hp} {P : Addr} {q : Str} (t : LamX.TabS H P q) {a : Addr} {o : HO} (n : ∀ x, H a = some x → (∀ ps, x ≠ .tbl ps) ∧ ∀ φ, x ≠ .ext φ) : LamX.TabS (upd H a o) P q := by
  obtain ⟨ps, k1, k2, k3⟩ := t
  refine ⟨ps, by rw [upd_ne (fun e => (n _ (by rw [← e]; exact k1)).1 ps rfl)]; exact k1, k2, fun pos cv hc => ?_⟩
  obtain ⟨c, e1, e2⟩ := k3 pos cv hc
  refine ⟨c, e1, ?_⟩
  rw [upd_ne (fun e => (n _ (by rw [← e]; exact e2)).2 _ rfl)]
  exact e2
theorem Pl.put {b : PT} {pp q : Addr} {G H : Hp} (p : Pl b pp q G H) {a : Addr} {o : HO} (n : ∀ x, H a = some x → (∀ ps, x ≠ .tbl ps) ∧ ∀ φ, x ≠ .ext φ) (h1 : b.b = true → pp ≠ a) (h2 : b.b = true → q ≠ a) : Pl b pp q G (upd H a o) :=
  ⟨fun z => let ⟨P, n1, n2⟩ := p.1 z; ⟨P.keep (upd_ne (h1 z)) (upd_ne (h2 z)), n1, n2⟩, fun t ht => ⟨tab_upd (p.2 t ht).1 n, (p.2 t ht).2⟩⟩
theorem Pl.putN {b : PT} {pp q : Addr} {G H : Hp} (p : Pl b pp q G H) {a : Addr} {o : HO} (n : H a = none) : Pl b pp q G (upd H a o) :=
  p.put (fun x e => by rw [n] at e; cases e) (fun z => let ⟨⟨_, _, _, _, _, k1, _⟩, _⟩ := p.1 z; ne_of_none k1 n) (fun z => let ⟨⟨_, _, _, _, _, _, k2, _⟩, _⟩ := p.1 z; ne_of_none k2 n)
theorem Pl.putG {b : PT} {pp q : Addr} {G H : Hp} (p : Pl b pp q G H) {a : Addr} {o : HO} (n : ∀ x, H a = some x → ∀ ps, x ≠ .tbl ps) (h1 : b.b = true → pp ≠ a) (h2 : b.b = true → q ≠ a) : Pl b pp q (upd G a o) H :=
  ⟨fun z => let ⟨P, n1, n2⟩ := p.1 z; ⟨P, by rw [upd_ne (h1 z)]; exact n1, by rw [upd_ne (h2 z)]; exact n2⟩, fun t ht => ⟨(p.2 t ht).1, by
    obtain ⟨⟨ps, k1, _⟩, g⟩ := p.2 t ht
    rw [upd_ne (fun e => n _ (by rw [← e]; exact k1) ps rfl)]
    exact g⟩⟩
def isTp : HO → Bool
  | .tup _ => true
  | _ => false
/-- one step: G and H grow to G' and H'; what is not frozen stays as it is, the pool aside -/
structure Gr0 (b : PT) (pp q : Addr) (G H G' H' : Hp) : Prop where
  gg : Same G G'
  vw : Vw G' H'
  fr0 : ∀ a o, Off b pp a → H a = some o → G a = none → (isTp o = false → G' a = none) ∧ H' a = some o
  pl : Pl b pp q G' H'
/-- what is frozen is as it was, or a lock was laid on it -/
def Lk (H H' : Hp) (a : Addr) (o : HO) : Prop := H' a = H a ∨ (H a = some o ∧ isD o = true ∧ ∃ ob, H' a = some (.frz ob o))
theorem Lk.trans {H H1 H2 : Hp} {a : Addr} {o : HO} (x : Lk H H1 a o) (y : Lk H1 H2 a o) : Lk H H2 a o := by
  rcases x with x | ⟨x1, x2, ob, x3⟩
  · rcases y with y | ⟨y1, y2, ob, y3⟩
    · exact .inl (y.trans x)
    · exact .inr ⟨x.symm.trans y1, y2, ob, y3⟩
  · rcases y with y | ⟨y1, y2, ob', y3⟩
    · exact .inr ⟨x1, x2, ob, y.trans x3⟩
    · rw [x3] at y1
      cases y1
structure Gr (b : PT) (pp q : Addr) (G H G' H' : Hp) : Prop extends Gr0 b pp q G H G' H' where
  ge : ∀ a o, G a = some o → Lk H H' a o
variable {b : PT} {q : Addr} {G1 H1 G2 H2 : Hp}
theorem Gr.refl (w : Vw G H) (h : Pl b pp q G H) : Gr b pp q G H G H := ⟨⟨Same.refl _, w, fun _ _ _ e n => ⟨fun _ => n, e⟩, h⟩, fun _ _ _ => .inl rfl⟩
theorem Gr0.fr (x : Gr0 b pp q G H G1 H1) (a : Addr) (o : HO) (n : Off b pp a) (e : H a = some o) (g : G a = none) (nt : isTp o = false) : G1 a = none ∧ H1 a = some o := let ⟨h1, h2⟩ := x.fr0 a o n e g; ⟨h1 nt, h2⟩
theorem Gr.trans (x : Gr b pp q G H G1 H1) (y : Gr b pp q G1 H1 G2 H2) : Gr b pp q G H G2 H2 := by
  refine ⟨⟨x.gg.trans y.gg, y.vw, fun a o n e g => ?_, y.pl⟩, fun a o e => (x.ge a o e).trans (y.ge a o (x.gg a o e))⟩
  obtain ⟨g1, e1⟩ := x.fr0 a o n e g
  cases eg : G1 a with
  | none =>
    obtain ⟨g2, e2⟩ := y.fr0 a o n e1 eg
    exact ⟨g2, e2⟩
  | some o1 =>
    have nt : isTp o = true := by
      cases q : isTp o with
      | true => rfl
      | false => rw [g1 q] at eg; cases eg
    refine ⟨fun z => (by rw [nt] at z; cases z), ?_⟩
    have eo : o1 = o := by
      rcases x.vw a o1 eg with k | ⟨i, ob, k⟩
      · rw [e1] at k
        exact (Option.some.inj k).symm
      · rw [e1] at k
        rw [Option.some.inj k] at nt
        cases nt
    rcases y.ge a o1 eg with k | ⟨k, i, ob, k2⟩
    · exact k.trans e1
    · rw [eo] at i
      cases o <;> first | (cases nt; done) | (cases i; done)
/-- a new object, frozen at once -/
theorem Gr.new (w : Vw G H) (h : Pl b pp q G H) {p : Addr} {o : HO} (np : H p = none) : Gr b pp q G H (upd G p o) (upd H p o) := by
  have gp := w.free np
  refine ⟨⟨same_upd gp, fun a u e => ?_, fun a u n e g => ?_, (h.putN np).putG' np⟩, fun a u e => .inl (upd_ne (ne_of_none e gp))⟩
  · by_cases c : a = p
    · subst c
      rw [upd_same] at e
      cases e
      exact .inl upd_same
    · rw [upd_ne c] at e ⊢
      exact w a u e
  · have c : a ≠ p := ne_of_none e np
    rw [upd_ne c, upd_ne c]
    exact ⟨fun _ => g, e⟩
/-- a new object of one's own -/
theorem Gr.newH (w : Vw G H) (h : Pl b pp q G H) {p : Addr} {o : HO} (np : H p = none) : Gr b pp q G H G (upd H p o) := by
  have gp := w.free np
  refine ⟨⟨Same.refl _, fun a u e => ?_, fun a u n e g => ?_, h.putN np⟩, fun a u e => .inl (upd_ne (ne_of_none e gp))⟩
  · have c : a ≠ p := ne_of_none e gp
    rw [upd_ne c]
    exact w a u e
  · have c : a ≠ p := ne_of_none e np
    rw [upd_ne c]
    exact ⟨fun _ => g, e⟩
/-- what is new (behind G, H) is frozen -/
theorem Gr0.freeze (x : Gr0 b pp q G H G1 H1) {p : Addr} {o : HO} (np : H p = none) (g1 : G1 p = none) (e : H1 p = some o) (hp : Pl b pp q G H) : Gr0 b pp q G H (upd G1 p o) H1 := by
  refine ⟨x.gg.trans (same_upd g1), fun a u ea => ?_, fun a u n ea g => ?_, fun z => ?_, fun t ht => ?_⟩
  · by_cases c : a = p
    · subst c
      rw [upd_same] at ea
      cases ea
      exact .inl e
    · rw [upd_ne c] at ea
      exact x.vw a u ea
  · have c : a ≠ p := ne_of_none ea np
    rw [upd_ne c]
    exact x.fr0 a u n ea g
  · obtain ⟨P, n1, n2⟩ := x.pl.1 z
    obtain ⟨⟨ms, c, u, d, e, k1, k2, k3⟩, _⟩ := hp.1 z
    exact ⟨P, by rw [upd_ne (ne_of_none k1 np)]; exact n1, by rw [upd_ne (ne_of_none k2 np)]; exact n2⟩
  · obtain ⟨T, g⟩ := x.pl.2 t ht
    obtain ⟨⟨ps, k1, _⟩, _⟩ := hp.2 t ht
    exact ⟨T, by rw [upd_ne (ne_of_none k1 np)]; exact g⟩
theorem Gr.freeze (x : Gr b pp q G H G1 H1) {p : Addr} {o : HO} (np : H p = none) (g1 : G1 p = none) (e : H1 p = some o) (hp : Pl b pp q G H) : Gr b pp q G H (upd G1 p o) H1 := ⟨x.toGr0.freeze np g1 e hp, x.ge⟩
/-- a table that a step leaves alone -/
theorem Gr.tab {b0 : PT} {p0 q0 : Addr} (x : Gr b0 p0 q0 G H G1 H1) (hb : b0 = ⟨false, []⟩) {P : Addr} {nm : Str} (t : LamX.TabS H P nm) (g : G P = none) : LamX.TabS H1 P nm ∧ G1 P = none := by
  subst hb
  have off : ∀ a, Off ⟨false, []⟩ p0 a := fun a => ⟨(fun z => nomatch z), (fun _ z => nomatch z)⟩
  obtain ⟨ps, k1, k2, k3⟩ := t
  obtain ⟨g1, h1⟩ := x.fr P _ (off P) k1 g rfl
  refine ⟨⟨ps, h1, k2, fun pos cv hc => ?_⟩, g1⟩
  obtain ⟨c, e1, e2⟩ := k3 pos cv hc
  refine ⟨c, e1, ?_⟩
  cases e : G c with
  | none => exact (x.fr0 c _ (off c) e2 e).2
  | some o =>
    rcases x.ge c o e with h | ⟨h, i, _⟩
    · exact h.trans e2
    · rw [e2] at h
      cases h
      cases i
/-- which steps may be seen as which -/
def PLe (b c : PT) : Prop := (b.b = true → c.b = true) ∧ (b.T = [] ∨ b.T = c.T)
theorem noT {b : Bool} {c : PT} (h : c = (b : PT)) : c.T = [] := by rw [h]
theorem ple0 {c : PT} : PLe ⟨false, []⟩ c := ⟨(fun z => nomatch z), .inl rfl⟩
theorem ple1 {c : PT} (h : c.b = true) : PLe ⟨true, []⟩ c := ⟨fun _ => h, .inl rfl⟩
theorem pleT {T : List (Addr × Str)} {c : PT} (h : c.T = T) : PLe ⟨false, T⟩ c := ⟨(fun z => nomatch z), .inr h.symm⟩
theorem pleTT {T : List (Addr × Str)} {c : PT} (h : c = ⟨true, T⟩) : PLe ⟨true, T⟩ c := by rw [h]; exact ⟨id, .inr rfl⟩
theorem PLe.refl (b : PT) : PLe b b := ⟨id, .inr rfl⟩
theorem Pl.le {b c : PT} (h : PLe b c) {pp q : Addr} {G H : Hp} (p : Pl c pp q G H) : Pl b pp q G H := ⟨fun z => p.1 (h.1 z), fun t ht => by
  rcases h.2 with e | e
  · rw [e] at ht
    cases ht
  · rw [e] at ht
    exact p.2 t ht⟩
/-- a step of a def that may change less -/
theorem Gr.le {b c : PT} (h : PLe b c) (x : Gr b pp q G H G1 H1) (p : Pl c pp q G H) : Gr c pp q G H G1 H1 := by
  have offT : ∀ a, Off c pp a → (b.b = true → a ≠ pp) ∧ ∀ t ∈ b.T, a ≠ t.1 := fun a n => ⟨fun z => n.1 (h.1 z), fun t ht => by
    rcases h.2 with e | e
    · rw [e] at ht
      cases ht
    · rw [e] at ht
      exact n.2 t ht⟩
  -- what is no table of b's and no pool
  have keep : ∀ a o, Off b pp a → H a = some o → H1 a = some o ∨ ∃ o2, G a = some o2 ∧ isD o2 = true ∧ H a = some o2 := fun a o n e => by
    cases g : G a with
    | none => exact .inl (x.fr0 a o n e g).2
    | some o2 =>
      rcases x.ge a o2 g with k | ⟨k, i, _⟩
      · exact .inl (k.trans e)
      · exact .inr ⟨o2, rfl, i, k⟩
  refine ⟨⟨x.gg, x.vw, fun a o n e g => x.fr0 a o (offT a n) e g, fun z => ?_, fun t ht => ?_⟩, x.ge⟩
  · cases hb : b.b with
    | true => exact x.pl.1 hb
    | false =>
      obtain ⟨P, n1, n2⟩ := p.1 z
      obtain ⟨ms, c', u, d, e, k1, k2, k3⟩ := id P
      have o1 : Off b pp pp := ⟨(fun w => by rw [hb] at w; cases w), fun t ht => by
        rcases h.2 with e | e
        · rw [e] at ht
          cases ht
        · rw [e] at ht
          obtain ⟨⟨ps, t1, _⟩, _⟩ := p.2 t ht
          exact ne_of k1 t1 (fun z => nomatch z)⟩
      have o2 : Off b pp q := ⟨(fun w => by rw [hb] at w; cases w), fun t ht => by
        rcases h.2 with e | e
        · rw [e] at ht
          cases ht
        · rw [e] at ht
          obtain ⟨⟨ps, t1, _⟩, _⟩ := p.2 t ht
          exact ne_of k2 t1 (fun z => nomatch z)⟩
      obtain ⟨g1, h1⟩ := x.fr pp _ o1 k1 n1 rfl
      obtain ⟨g2, h2⟩ := x.fr q _ o2 k2 n2 rfl
      exact ⟨P.keep (h1.trans k1.symm) (h2.trans k2.symm), g1, g2⟩
  · rcases h.2 with e | e
    · obtain ⟨⟨ps, k1, k2, k3⟩, g⟩ := p.2 t ht
      have off : ∀ a o, H a = some o → (∀ xs, o ≠ .lst xs) → Off b pp a := fun a o ha nl => ⟨fun z w => by
        obtain ⟨⟨ms, c', u, d, e', k1, _⟩, _⟩ := p.1 (h.1 z)
        rw [w, k1] at ha
        cases ha
        exact nl _ rfl, fun t ht => by rw [e] at ht; cases ht⟩
      obtain ⟨g1, h1⟩ := x.fr t.1 _ (off _ _ k1 fun _ z => nomatch z) k1 g rfl
      refine ⟨⟨ps, h1, k2, fun pos cv hc => ?_⟩, g1⟩
      obtain ⟨cc, e1, e2⟩ := k3 pos cv hc
      refine ⟨cc, e1, ?_⟩
      rcases keep cc _ (off _ _ e2 fun _ z => nomatch z) e2 with k | ⟨o2, _, i, k⟩
      · exact k
      · rw [e2] at k
        cases k
        cases i
    · rw [← e] at ht
      exact x.pl.2 t ht
/-- what was frozen is as it was -/
structure Ex (G H G' H' : Hp) : Prop where
  gg : Same G G'
  ge : ∀ a o, G a = some o → Lk H H' a o
theorem Ex.refl : Ex G H G H := ⟨Same.refl _, fun _ _ _ => .inl rfl⟩
theorem Ex.trans (x : Ex G H G1 H1) (y : Ex G1 H1 G2 H2) : Ex G H G2 H2 := ⟨x.gg.trans y.gg, fun a o e => (x.ge a o e).trans (y.ge a o (x.gg a o e))⟩
theorem Gr.ex (x : Gr b pp q G H G1 H1) : Ex G H G1 H1 := ⟨x.gg, x.ge⟩
end
/-- one's own object: its parts are frozen -/
inductive Ow (pp : Addr) (G : Hp) : HO → U → Prop
  | lst {vs : List V} {us : List U} (k : RpL pp G vs us) (z : us.length ≤ 100000) : Ow pp G (.lst vs) (.lst us)
  | dic {kvs : List (Key × V)} {kus : List (Key × U)} (k : RpD pp G kvs kus) (z : kus.length ≤ 100000) : Ow pp G (.dK kvs) (.dic kus)
  | dit {kvs : List (List Key × V)} {kus : List (List Key × U)} (k : RpT pp G kvs kus) (z : kus.length ≤ 100000) : Ow pp G (.dT kvs) (.dit kus)
  | ins {C dx : Addr} {fs : List (Str × V)} {gs : List (Str × U)} (k : RpF pp G fs gs) : Ow pp G (.ins C dx fs) (.ins C gs)
theorem Ow.same {pp : Addr} {G G' : Hp} (s : Same G G') {o : HO} {u : U} (h : Ow pp G o u) : Ow pp G' o u := by
  cases h with
  | lst k z => exact .lst (k.same s) z
  | dic k z => exact .dic (k.same s) z
  | dit k z => exact .dit (k.same s) z
  | ins k => exact .ins (k.same s)
theorem Ow.no {pp : Addr} {G : Hp} {o : HO} {u : U} (h : Ow pp G o u) : (∀ ps, o ≠ .tbl ps) ∧ ∀ φ, o ≠ .ext φ := by
  cases h <;> exact ⟨(fun _ z => nomatch z), (fun _ z => nomatch z)⟩
theorem Ow.ntp {pp : Addr} {G : Hp} {o : HO} {u : U} (h : Ow pp G o u) : isTp o = false := by cases h <;> rfl
theorem Ow.rp {pp p : Addr} {G : Hp} {o : HO} {u : U} (h : Ow pp G o u) (g : G p = none) : Rp pp (upd G p o) (.ref p) u := by
  have s : Same G (upd G p o) := same_upd g
  cases h with
  | lst k z => exact .lst upd_same (k.same s) z
  | dic k z => exact .dic upd_same (k.same s) z
  | dit k z => exact .dit upd_same (k.same s) z
  | ins k => exact .ins upd_same (k.same s)
/-- a slot: nothing that is known, a frozen value, an object of one's own -/
inductive Cell where
  | no
  | fz (u : U)
  | ow (u : U)

abbrev EW := Addr → List (Str × U) → Prop
/-- a def that runs: how it began, what is wanted of what it raises -/
structure Zc where
  b : PT
  pp : Addr
  q : Addr
  G0 : Hp
  H0 : Hp
  E : XK
  ew : EW
  n : Nat
  me : Nat → Option V := fun _ => none
  pin : Hp := fun _ => none
/-- the slot may be stored (one that is held, as self, may not) -/
def Zc.may (Z : Zc) (i : Nat) : Prop := Z.me i = none
def Zc.mays (Z : Zc) (ok : Nat → Bool) : Prop := ∀ i, ok i = true → Z.me i = none
theorem Zc.may_of {Z : Zc} {ok : Nat → Bool} (h : Z.mays ok) {i : Nat} (e : ok i = true) : Z.may i := h i e
theorem Zc.mayL_of {Z : Zc} {ok : Nat → Bool} (h : Z.mays ok) {vs : List Nat} (e : vs.all ok = true) : ∀ v ∈ vs, Z.may v := fun v m => h v (List.all_eq_true.mp e v m)
abbrev Zc.gr (Z : Zc) (G H G' H' : Hp) : Prop := Gr Z.b Z.pp Z.q G H G' H'
abbrev Zc.gr0 (Z : Zc) (G H G' H' : Hp) : Prop := Gr Z.b Z.pp Z.q G H G' H'
/-- where an error keeps its fields -/
def XdAt (H : Hp) (od : Option Addr) (fs : List (Str × V)) : Prop := (∃ d, od = some d ∧ H d = some (.xd fs)) ∨ (od = none ∧ fs = [])
def isOw (ρ : List Cell) (i : Nat) : Prop := ∃ u, ρ[i]? = some (.ow u)
structure Sv (Z : Zc) (σ : L2.St) (ρ : List Cell) (G H : Hp) : Prop where
  gr : Z.gr0 Z.G0 Z.H0 G H
  w0 : Vw Z.G0 Z.H0
  p0 : Pl Z.b Z.pp Z.q Z.G0 Z.H0
  ex : ∀ C fs us od G' H', Z.ew C us → Z.gr0 Z.G0 Z.H0 G' H' → XdAt G' od fs → RpF Z.pp G' fs us → Z.E (.ref C) od H'
  ln : σ.length = Z.n ∧ ρ.length = Z.n
  fz : ∀ (i : Nat) (u : U), ρ[i]? = some (.fz u) → ∃ v, σ[i]? = some (some v) ∧ Rp Z.pp G v u
  ow : ∀ (i : Nat) (u : U), ρ[i]? = some (.ow u) → ∃ a o, σ[i]? = some (some (.ref a)) ∧ H a = some o ∧ G a = none ∧ Z.H0 a = none ∧ Ow Z.pp G o u
  me : ∀ i v, Z.me i = some v → σ[i]? = some (some v)
  pn : Same Z.pin G
  dis : ∀ (i j : Nat) (a : Addr), i ≠ j → isOw ρ i → isOw ρ j → σ[i]? = some (some (.ref a)) → σ[j]? ≠ some (some (.ref a))
section
variable {Z : Zc} {σ : L2.St} {ρ : List Cell} {G H G' H' : Hp}
theorem Sv.len (S : Sv Z σ ρ G H) : σ.length = ρ.length := S.ln.1.trans S.ln.2.symm
theorem Sv.vw (S : Sv Z σ ρ G H) : Vw G H := S.gr.vw
theorem Sv.pl (S : Sv Z σ ρ G H) : Pl Z.b Z.pp Z.q G H := S.gr.pl
theorem Sv.new0 (S : Sv Z σ ρ G H) {p : Addr} (n : H p = none) : Z.H0 p = none := by
  cases e : Z.H0 p with
  | none => rfl
  | some o =>
    have off : Off Z.b Z.pp p := off_none S.gr.pl n
    cases g : Z.G0 p with
    | none =>
      have := (S.gr.fr0 p o off e g).2
      rw [n] at this
      cases this
    | some o2 =>
      have := S.vw.free n
      rw [S.gr.gg _ _ g] at this
      cases this
theorem Sv.notPool (S : Sv Z σ ρ G H) {a : Addr} (n : Z.H0 a = none) : Off Z.b Z.pp a := off_none S.p0 n
theorem Sv.step (S : Sv Z σ ρ G H) (g : Z.gr G H G' H') : Sv Z σ ρ G' H' :=
  ⟨S.gr.trans g, S.w0, S.p0, S.ex, S.ln, fun i u e => let ⟨v, h1, h2⟩ := S.fz i u e; ⟨v, h1, h2.same g.gg⟩,
   fun i u e => by
    obtain ⟨a, o, h1, h2, h3, h4, h5⟩ := S.ow i u e
    obtain ⟨k1, k2⟩ := g.fr a o (S.notPool h4) h2 h3 h5.ntp
    exact ⟨a, o, h1, k2, k1, h4, h5.same g.gg⟩, S.me, S.pn.trans g.gg, S.dis⟩
/-- other slots: the same heap -/
theorem set_get {α : Type} {l : List α} {i j : Nat} {x y : α} (h : (l.set i x)[j]? = some y) : (j = i ∧ x = y) ∨ (j ≠ i ∧ l[j]? = some y) := by
  by_cases c : j = i
  · subst c
    by_cases hl : j < l.length
    · rw [List.getElem?_set_self hl] at h
      exact .inl ⟨rfl, Option.some.inj h⟩
    · rw [List.getElem?_eq_none (by simpa using hl)] at h
      cases h
  · rw [List.getElem?_set_ne (Ne.symm c)] at h
    exact .inr ⟨c, h⟩
theorem me_set {Z : Zc} {σ : L2.St} {i : Nat} {x : Option V} (hi : Z.may i) (h : ∀ j v, Z.me j = some v → σ[j]? = some (some v)) : ∀ j v, Z.me j = some v → (σ.set i x)[j]? = some (some v) := fun j v e => by
  have c : i ≠ j := fun z => by rw [← z, show Z.me i = none from hi] at e; cases e
  rw [List.getElem?_set_ne c]
  exact h j v e
theorem Sv.set (S : Sv Z σ ρ G H) {i : Nat} (hi : Z.may i) {v : V} {u : U} (h : Rp Z.pp G v u) : Sv Z (σ.set i (some v)) (ρ.set i (.fz u)) G H := by
  refine ⟨S.gr, S.w0, S.p0, S.ex, by simpa using S.ln, fun j u' e => ?_, fun j u' e => ?_, me_set hi S.me, S.pn, fun j k a n h1 h2 e => ?_⟩
  · rcases set_get e with ⟨rfl, e2⟩ | ⟨n, e⟩
    · have : j < ρ.length := by
        have := (List.getElem?_eq_some_iff.mp e).1
        simpa using this
      cases e2
      exact ⟨v, by rw [List.getElem?_set_self (by rw [S.len]; exact this)], h⟩
    · rw [List.getElem?_set_ne (Ne.symm n)]
      exact S.fz j u' e
  · rcases set_get e with ⟨rfl, e2⟩ | ⟨n, e⟩
    · cases e2
    · rw [List.getElem?_set_ne (Ne.symm n)]
      exact S.ow j u' e
  · obtain ⟨u1, e1⟩ := h1
    obtain ⟨u2, e2⟩ := h2
    rcases set_get e1 with ⟨_, z⟩ | ⟨n1, e1⟩
    · cases z
    rcases set_get e2 with ⟨_, z⟩ | ⟨n2, e2⟩
    · cases z
    rw [List.getElem?_set_ne (Ne.symm n1)] at e
    rw [List.getElem?_set_ne (Ne.symm n2)]
    exact S.dis j k a n ⟨_, e1⟩ ⟨_, e2⟩ e
theorem Sv.setO (S : Sv Z σ ρ G H) {i : Nat} (hi : Z.may i) {p : Addr} {o : HO} {u : U} (hp : H p = some o) (gp : G p = none) (n0 : Z.H0 p = none) (ho : Ow Z.pp G o u) (fr : ∀ (j : Nat), j ≠ i → isOw ρ j → σ[j]? ≠ some (some (.ref p))) : Sv Z (σ.set i (some (.ref p))) (ρ.set i (.ow u)) G H := by
  refine ⟨S.gr, S.w0, S.p0, S.ex, by simpa using S.ln, fun j u' e => ?_, fun j u' e => ?_, me_set hi S.me, S.pn, fun j k a n h1 h2 e => ?_⟩
  · rcases set_get e with ⟨rfl, e2⟩ | ⟨n, e⟩
    · cases e2
    · rw [List.getElem?_set_ne (Ne.symm n)]
      exact S.fz j u' e
  · rcases set_get e with ⟨rfl, e'⟩ | ⟨n, e⟩
    · have : j < ρ.length := by
        have := (List.getElem?_eq_some_iff.mp e).1
        simpa using this
      cases e'
      exact ⟨p, o, by rw [List.getElem?_set_self (by rw [S.len]; exact this)], hp, gp, n0, ho⟩
    · rw [List.getElem?_set_ne (Ne.symm n)]
      exact S.ow j u' e
  · obtain ⟨u1, e1⟩ := h1
    obtain ⟨u2, e2⟩ := h2
    rcases set_get e1 with ⟨rfl, z1⟩ | ⟨n1, e1'⟩
    · have jl : j < σ.length := by
        have := (List.getElem?_eq_some_iff.mp e1).1
        rw [S.len]
        simpa using this
      rw [List.getElem?_set_self jl] at e
      cases e
      rcases set_get e2 with ⟨rfl, z⟩ | ⟨n2, e2⟩
      · exact absurd rfl n
      · rw [List.getElem?_set_ne (Ne.symm n2)]
        exact fr k (Ne.symm n) ⟨_, e2⟩
    · rw [List.getElem?_set_ne (Ne.symm n1)] at e
      rcases set_get e2 with ⟨rfl, z⟩ | ⟨n2, e2'⟩
      · have kl : k < σ.length := by
          have := (List.getElem?_eq_some_iff.mp e2).1
          rw [S.len]
          simpa using this
        rw [List.getElem?_set_self kl]
        intro z
        cases z
        exact fr j n ⟨_, e1'⟩ e
      · rw [List.getElem?_set_ne (Ne.symm n2)]
        exact S.dis j k a n ⟨_, e1'⟩ ⟨_, e2'⟩ e
/-- one's own object is changed -/
theorem Sv.put (S : Sv Z σ ρ G H) {i : Nat} {a : Addr} {o' : HO} {u u' : U} (hi : ρ[i]? = some (.ow u)) (ha : σ[i]? = some (some (.ref a))) (ho : Ow Z.pp G o' u') : Sv Z σ (ρ.set i (.ow u')) G (upd H a o') := by
  obtain ⟨a1, o1, q1, h1, g1, z1, w1⟩ := S.ow i u hi
  rw [ha] at q1
  cases q1
  have il : i < ρ.length := (List.getElem?_eq_some_iff.mp hi).1
  have neG : ∀ c y, G c = some y → c ≠ a := fun c y e => ne_of_none e g1
  have ne0 : ∀ c y, Z.H0 c = some y → c ≠ a := fun c y e => ne_of_none e z1
  refine ⟨⟨⟨S.gr.gg, fun c y e => ?_, fun c y n e g => ?_, S.gr.pl.put (fun x e => by rw [h1] at e; cases e; exact w1.no) (fun z => let ⟨⟨_, _, _, _, _, k1, _⟩, _⟩ := S.p0.1 z; ne0 _ _ k1) (fun z => let ⟨⟨_, _, _, _, _, _, k2, _⟩, _⟩ := S.p0.1 z; ne0 _ _ k2)⟩, fun c y e => ?_⟩, S.w0, S.p0, S.ex, by simpa using S.ln, fun j u2 e => ?_, fun j u2 e => ?_, S.me, S.pn, fun j k c n h1 h2 e => ?_⟩
  · rw [upd_ne (neG c y e)]
    exact S.vw c y e
  · rw [upd_ne (ne0 c y e)]
    exact S.gr.fr0 c y n e g
  · have := S.gr.ge c y e
    unfold Lk at this ⊢
    rw [upd_ne (neG c y (S.gr.gg c y e))]
    exact this
  · rcases set_get e with ⟨_, z⟩ | ⟨_, e⟩
    · cases z
    · exact S.fz j u2 e
  · rcases set_get e with ⟨rfl, z⟩ | ⟨n, e⟩
    · cases z
      exact ⟨a, o', ha, upd_same, g1, z1, ho⟩
    · obtain ⟨a2, o2, q2, h2, g2, z2, w2⟩ := S.ow j u2 e
      have : a2 ≠ a := fun z => by
        subst z
        exact S.dis i j a2 (Ne.symm n) ⟨_, hi⟩ ⟨_, e⟩ ha q2
      exact ⟨a2, o2, q2, by rw [upd_ne this]; exact h2, g2, z2, w2⟩
  · have f : ∀ j, isOw (ρ.set i (.ow u')) j → isOw ρ j := fun j ⟨y, e⟩ => by
      rcases set_get e with ⟨rfl, _⟩ | ⟨_, e⟩
      · exact ⟨_, hi⟩
      · exact ⟨_, e⟩
    exact S.dis j k c n (f j h1) (f k h2) e
/-- one's own object is frozen -/
theorem Sv.frz (S : Sv Z σ ρ G H) {i : Nat} {u : U} (hi : ρ[i]? = some (.ow u)) : ∃ G', Same G G' ∧ Sv Z σ (ρ.set i (.fz u)) G' H := by
  obtain ⟨a, o, ha, h1, g1, z1, w1⟩ := S.ow i u hi
  have s : Same G (upd G a o) := same_upd g1
  have gr : Z.gr0 Z.G0 Z.H0 (upd G a o) H := S.gr.freeze z1 g1 h1 S.p0
  refine ⟨upd G a o, s, ⟨gr, S.w0, S.p0, S.ex, by simpa using S.ln, fun j u2 e => ?_, fun j u2 e => ?_, S.me, S.pn.trans s, fun j k c n h1 h2 e => ?_⟩⟩
  · rcases set_get e with ⟨rfl, z⟩ | ⟨_, e⟩
    · cases z
      exact ⟨_, ha, w1.rp g1⟩
    · obtain ⟨v, k1, k2⟩ := S.fz j u2 e
      exact ⟨v, k1, k2.same s⟩
  · rcases set_get e with ⟨rfl, z⟩ | ⟨n, e⟩
    · cases z
    · obtain ⟨a2, o2, q2, h2, g2, z2, w2⟩ := S.ow j u2 e
      have : a2 ≠ a := fun z => by
        subst z
        exact S.dis i j a2 (Ne.symm n) ⟨_, hi⟩ ⟨_, e⟩ ha q2
      exact ⟨a2, o2, q2, h2, by rw [upd_ne this]; exact g2, z2, w2.same s⟩
  · have f : ∀ j, isOw (ρ.set i (.fz u)) j → isOw ρ j := fun j ⟨y, e⟩ => by
      rcases set_get e with ⟨_, z⟩ | ⟨_, e⟩
      · cases z
      · exact ⟨_, e⟩
    exact S.dis j k c n (f j h1) (f k h2) e
end
end SV
/-! The value layer's judgements: expressions, arguments, tests, statements. -/
namespace SV
open PySem PySem.Spec PyProof.Rows L2 SL
/-- a value that is looked at: its own object may be one's own, its parts are frozen -/
inductive Bp (pp : Addr) (G H : Hp) : V → U → Prop
  | non : Bp pp G H .non .non
  | bl (b : Bool) : Bp pp G H (.bl b) (.bl b)
  | int (i : Int) : Bp pp G H (.int i) (.int i)
  | str (s : Str) (z : s.length ≤ 100000) : Bp pp G H (.str s) (.str s)
  | lst {a : Addr} {vs : List V} {us : List U} (h : H a = some (.lst vs)) (k : RpL pp G vs us) (z : us.length ≤ 100000) : Bp pp G H (.ref a) (.lst us)
  | tup {a : Addr} {vs : List V} {us : List U} (h : G a = some (.tup vs)) (k : RpL pp G vs us) (z : us.length ≤ 100000) : Bp pp G H (.ref a) (.tup us)
  | dic {a : Addr} {kvs : List (Key × V)} {kus : List (Key × U)} (h : Rd H a (.dK kvs)) (k : RpD pp G kvs kus) (z : kus.length ≤ 100000) : Bp pp G H (.ref a) (.dic kus)
  | dit {a : Addr} {kvs : List (List Key × V)} {kus : List (List Key × U)} (h : Rd H a (.dT kvs)) (k : RpT pp G kvs kus) (z : kus.length ≤ 100000) : Bp pp G H (.ref a) (.dit kus)
  | ins {a C dx : Addr} {fs : List (Str × V)} {gs : List (Str × U)} (h : H a = some (.ins C dx fs)) (k : RpF pp G fs gs) : Bp pp G H (.ref a) (.ins C gs)
  | pool : Bp pp G H (.ref pp) .pool
  | ty (n : String) : Bp pp G H (.ty n) (.ty n)
theorem Rp.bp {pp : Addr} {G H : Hp} (w : Vw G H) {v : V} {u : U} (h : Rp pp G v u) : Bp pp G H v u := by
  cases h with
  | non => exact .non
  | bl b => exact .bl b
  | int i => exact .int i
  | str s z => exact .str s z
  | lst h k z => exact .lst (w.lst h) k z
  | tup h k z => exact .tup h k z
  | dic h k z => exact .dic (w.rd h) k z
  | dit h k z => exact .dit (w.rd h) k z
  | ins h k => exact .ins (w.ins h) k
  | pool => exact .pool
  | ty n => exact .ty n
theorem Ow.bp {pp p : Addr} {G H : Hp} {o : HO} {u : U} (h : Ow pp G o u) (e : H p = some o) : Bp pp G H (.ref p) u := by
  cases h with
  | lst k z => exact .lst e k z
  | dic k z => exact .dic (.inl e) k z
  | dit k z => exact .dit (.inl e) k z
  | ins k => exact .ins e k
theorem keepO {b : PT} {pp q : Addr} {G H G' H' : Hp} (g : Gr b pp q G H G' H') (w : Vw G H) {a : Addr} {o : HO} (n : Off b pp a) (h : H a = some o) (nf : ∀ x y, o ≠ .frz x y) (nd : isD o = false) : H' a = some o := by
  cases e : G a with
  | none => exact (g.fr0 a o n h e).2
  | some o2 =>
    rcases w a o2 e with k | ⟨_, ob, k⟩
    · rw [h] at k
      cases k
      rcases g.vw a _ (g.gg a _ e) with k | ⟨k, _⟩
      · exact k
      · rw [nd] at k
        cases k
    · rw [h] at k
      cases k
      exact absurd rfl (nf _ _)
theorem keepD {b : PT} {pp q : Addr} {G H G' H' : Hp} (g : Gr b pp q G H G' H') (w : Vw G H) {a : Addr} {o : HO} (n : Off b pp a) (h : Rd H a o) (nf : ∀ x y, o ≠ .frz x y) : Rd H' a o := by
  cases e : G a with
  | none =>
    rcases h with h | ⟨ob, h⟩
    · exact .inl (g.fr0 a o n h e).2
    · exact .inr ⟨ob, (g.fr0 a _ n h e).2⟩
  | some o2 =>
    have k2 := g.vw.rd (g.gg a _ e)
    rcases w a o2 e with k | ⟨_, ob, k⟩
    · rcases h with h | ⟨ob, h⟩
      · rw [h] at k
        cases k
        exact k2
      · rw [h] at k
        cases k
        rcases g.vw a _ (g.gg a _ e) with k | ⟨k, _⟩
        · exact .inr ⟨_, k⟩
        · cases k
    · rcases h with h | ⟨ob, h⟩
      · rw [h] at k
        cases k
        exact absurd rfl (nf _ _)
      · rw [h] at k
        cases k
        exact k2
/-- the pool's list is none of data -/
theorem pool_no {b : PT} {pp q : Addr} {G H : Hp} {a : Addr} {vs : List V} {us : List U} (hp : Pl b pp q G H) (h : H a = some (.lst vs)) (k : RpL pp G vs us) : Off b pp a := by
  refine ⟨fun z e => ?_, fun t ht => ?_⟩
  · subst e
    obtain ⟨⟨ms, c, u, d, e, k1, _, k3, _⟩, n1, n2⟩ := hp.1 z
    rw [h] at k1
    cases k1
    cases k with
    | cons h t =>
      cases h with
      | lst h _ _ => rw [n2] at h; cases h
      | tup h _ _ => rw [n2] at h; cases h
      | dic h _ _ => rw [n2] at h; cases h
      | dit h _ _ => rw [n2] at h; cases h
      | ins h _ => rw [n2] at h; cases h
      | pool => exact k3 rfl
  · obtain ⟨⟨ps, k1, _⟩, _⟩ := hp.2 t ht
    exact ne_of h k1 fun z => nomatch z
theorem pool_nd {b : PT} {pp q : Addr} {G H : Hp} {o : HO} (hp : Pl b pp q G H) {a : Addr} (h : Rd H a o) (nl : ∀ vs, o ≠ .lst vs) (nt : ∀ ps, o ≠ .tbl ps := by exact fun _ e => nomatch e) : Off b pp a := by
  refine ⟨fun z e => ?_, fun t ht e => ?_⟩
  · obtain ⟨⟨ms, c, u, d, e', k1, _⟩, _⟩ := hp.1 z
    subst e
    rcases h with h | ⟨ob, h⟩
    · rw [h] at k1
      cases k1
      exact nl _ rfl
    · rw [h] at k1
      cases k1
  · obtain ⟨⟨ps, k1, _⟩, _⟩ := hp.2 t ht
    rw [← e] at k1
    rcases h with h | ⟨ob, h⟩
    · rw [h] at k1
      cases k1
      exact nt _ rfl
    · rw [h] at k1
      cases k1
theorem Bp.step {b : PT} {pp q : Addr} {G H G' H' : Hp} (g : Gr b pp q G H G' H') (w : Vw G H) (hp : Pl b pp q G H) {v : V} {u : U} (h : Bp pp G H v u) : Bp pp G' H' v u := by
  cases h with
  | non => exact .non
  | bl b => exact .bl b
  | int i => exact .int i
  | str s z => exact .str s z
  | lst h k z => exact .lst (keepO g w (pool_no hp h k) h (fun _ _ e => nomatch e) rfl) (k.same g.gg) z
  | tup h k z => exact .tup (g.gg _ _ h) (k.same g.gg) z
  | dic h k z => exact .dic (keepD g w (pool_nd hp h fun _ e => nomatch e) h (fun _ _ e => nomatch e)) (k.same g.gg) z
  | dit h k z => exact .dit (keepD g w (pool_nd hp h fun _ e => nomatch e) h (fun _ _ e => nomatch e)) (k.same g.gg) z
  | ins h k => exact .ins (keepO g w (pool_nd hp (.inl h) fun _ e => nomatch e) h (fun _ _ e => nomatch e) rfl) (k.same g.gg)
  | pool => exact .pool
  | ty n => exact .ty n
/-! ### the judgements -/
abbrev WE := List Cell → (U → Prop) → Prop
abbrev WA := List Cell → (List U → Prop) → Prop
abbrev WT := List Cell → (Bool → Prop) → Prop
structure V3 where
  nx : List Cell → Prop
  rt : U → Prop
  bk : List Cell → Prop := fun _ => False
  ct : List Cell → Prop := fun _ => False
abbrev WS := V3 → List Cell → Prop
def TrE (Z : Zc) (t : TE) (w : WE) : Prop := ∀ σ ρ G H (post : U → Prop) (Q : VK), Sv Z σ ρ G H → w ρ post → (∀ v u G' H', post u → Z.gr G H G' H' → Rp Z.pp G' v u → Q v H') → t σ H Q
def TrF (Z : Zc) (t : TE) (w : WE) : Prop := ∀ σ ρ G H (post : U → Prop) (Q : VK), Sv Z σ ρ G H → w ρ post → (∀ p o u G' H', post u → Z.gr G H G' H' → H p = none → G' p = none → H' p = some o → Ow Z.pp G' o u → Q (.ref p) H') → t σ H Q
def TrB (Z : Zc) (t : TE) (w : WE) : Prop := ∀ σ ρ G H (post : U → Prop) (Q : VK), Sv Z σ ρ G H → w ρ post → (∀ v u G' H', post u → Z.gr G H G' H' → Bp Z.pp G' H' v u → Q v H') → t σ H Q
def TrA (Z : Zc) (t : TA) (w : WA) : Prop := ∀ σ ρ G H (post : List U → Prop) (Q : List V → Hp → Prop), Sv Z σ ρ G H → w ρ post → (∀ vs us G' H', post us → Z.gr G H G' H' → RpL Z.pp G' vs us → Q vs H') → t σ H Q
def TrT (Z : Zc) (t : TT) (w : WT) : Prop := ∀ σ ρ G H (post : Bool → Prop) (Q : Bool → Hp → Prop), Sv Z σ ρ G H → w ρ post → (∀ c G' H', post c → Z.gr G H G' H' → Q c H') → t σ H Q
structure Br (Z : Zc) (V : V3) (D : Ends) (Gs Hs : Hp) : Prop where
  nx : ∀ σ ρ G H, Sv Z σ ρ G H → Ex Gs Hs G H → V.nx ρ → D.nx σ H
  rt : ∀ v u G H, Z.gr0 Z.G0 Z.H0 G H → Ex Gs Hs G H → Rp Z.pp G v u → V.rt u → D.rt v H
  bk : ∀ σ ρ G H, Sv Z σ ρ G H → Ex Gs Hs G H → V.bk ρ → D.bk σ H
  ct : ∀ σ ρ G H, Sv Z σ ρ G H → Ex Gs Hs G H → V.ct ρ → D.ct σ H
theorem Br.to {Z : Zc} {V : V3} {D : Ends} {G H G' H' : Hp} (B : Br Z V D G H) (e : Ex G H G' H') : Br Z V D G' H' :=
  ⟨fun σ ρ G1 H1 S x => B.nx σ ρ G1 H1 S (e.trans x), fun v u G1 H1 g x => B.rt v u G1 H1 g (e.trans x), fun σ ρ G1 H1 S x => B.bk σ ρ G1 H1 S (e.trans x), fun σ ρ G1 H1 S x => B.ct σ ρ G1 H1 S (e.trans x)⟩
def TrS (Z : Zc) (t : TS) (w : WS) : Prop := ∀ V D σ ρ G H, Sv Z σ ρ G H → w V ρ → Br Z V D G H → t D σ H
section
variable {Z : Zc} {t : TE} {w : WE}
theorem TrF.e (h : TrF Z t w) : TrE Z t w := fun σ ρ G H post Q S hw q => h σ ρ G H post Q S hw fun p o u G' H' pu g np gp hp ho =>
  q _ u (upd G' p o) H' pu (g.freeze np gp hp S.pl) (ho.rp gp)
theorem TrE.b (h : TrE Z t w) : TrB Z t w := fun σ ρ G H post Q S hw q => h σ ρ G H post Q S hw fun v u G' H' pu g hv => q v u G' H' pu g (hv.bp g.vw)
theorem TrF.b (h : TrF Z t w) : TrB Z t w := fun σ ρ G H post Q S hw q => h σ ρ G H post Q S hw fun p o u G' H' pu g np gp hp ho => q _ u G' H' pu g (ho.bp hp)
def wVar (i : Nat) : WE := fun ρ post => ∃ u, ρ[i]? = some (.fz u) ∧ post u
def wOwn (i : Nat) : WE := fun ρ post => ∃ u, ρ[i]? = some (.ow u) ∧ post u
def wC (u : U) : WE := fun _ post => post u
theorem v_var {i : Nat} : TrE Z (tVar i) (wVar i) := fun σ ρ G H post Q S hw q => by
  obtain ⟨u, e, p⟩ := hw
  obtain ⟨v, e1, hv⟩ := S.fz i u e
  exact ⟨v, e1, q v u G H p (Gr.refl S.vw S.pl) hv⟩
theorem v_own {i : Nat} : TrB Z (tVar i) (wOwn i) := fun σ ρ G H post Q S hw q => by
  obtain ⟨u, e, p⟩ := hw
  obtain ⟨a, o, e1, h1, g1, _, ho⟩ := S.ow i u e
  exact ⟨_, e1, q _ u G H p (Gr.refl S.vw S.pl) (ho.bp h1)⟩
theorem v_int {i : Int} : TrE Z (tC (.int i)) (wC (.int i)) := fun σ ρ G H post Q S hw q => q _ _ G H hw (Gr.refl S.vw S.pl) (.int i)
theorem v_bl {i : Bool} : TrE Z (tC (.bl i)) (wC (.bl i)) := fun σ ρ G H post Q S hw q => q _ _ G H hw (Gr.refl S.vw S.pl) (.bl i)
theorem v_non : TrE Z (tC .non) (wC .non) := fun σ ρ G H post Q S hw q => q _ _ G H hw (Gr.refl S.vw S.pl) .non
theorem v_str {x : Str} (z : x.length ≤ 100000 := by decide) : TrE Z (tC (.str x)) (wC (.str x)) := fun σ ρ G H post Q S hw q => q _ _ G H hw (Gr.refl S.vw S.pl) (.str x z)
theorem v_ty {n : String} : TrE Z (tC (.ty n)) (wC (.ty n)) := fun σ ρ G H post Q S hw q => q _ _ G H hw (Gr.refl S.vw S.pl) (.ty n)
/-! ### operators -/
variable {ta tb : TE} {wa wb : WE}
/-- what an operator's rule asks, by values -/
def OpOk (r : R2) (f : U → U → Option U) : Prop := ∀ {b : PT} {pp q : Addr} {G H : Hp} {v1 v2 : V} {x y u : U} {Q : VK}, Vw G H → (Pl b pp q G H) → Bp pp G H v1 x → Bp pp G H v2 y → f x y = some u →
  (∀ v G' H', Gr b pp q G H G' H' → Rp pp G' v u → Q v H') → r v1 v2 H Q
def OpOkF (r : R2) (f : U → U → Option U) : Prop := ∀ {b : PT} {pp q : Addr} {G H : Hp} {v1 v2 : V} {x y u : U} {Q : VK}, Vw G H → (Pl b pp q G H) → Bp pp G H v1 x → Bp pp G H v2 y → f x y = some u →
  (∀ p o H', Gr b pp q G H G H' → H p = none → G p = none → H' p = some o → Ow pp G o u → Q (.ref p) H') → r v1 v2 H Q
def wOp (f : U → U → Option U) (wa wb : WE) : WE := fun ρ post => wa ρ fun x => wb ρ fun y => ∃ u, f x y = some u ∧ post u
theorem v_op {r : R2} {f : U → U → Option U} (o : OpOk r f) (ha : TrB Z ta wa) (hb : TrB Z tb wb) : TrE Z (tOp r ta tb) (wOp f wa wb) := fun σ ρ G H post Q S hw q =>
  ha σ ρ G H _ _ S hw fun v1 x G1 H1 w1 g1 b1 => hb σ ρ G1 H1 _ _ (S.step g1) w1 fun v2 y G2 H2 w2 g2 b2 => by
    obtain ⟨u, e, p⟩ := w2
    have S2 := (S.step g1).step g2
    exact o S2.vw S2.pl (b1.step g2 (S.step g1).vw (S.step g1).pl) b2 e fun v G' H' g hv => q v u G' H' p ((g1.trans g2).trans g) hv
theorem v_opF {r : R2} {f : U → U → Option U} (o : OpOkF r f) (ha : TrB Z ta wa) (hb : TrB Z tb wb) : TrF Z (tOp r ta tb) (wOp f wa wb) := fun σ ρ G H post Q S hw q =>
  ha σ ρ G H _ _ S hw fun v1 x G1 H1 w1 g1 b1 => hb σ ρ G1 H1 _ _ (S.step g1) w1 fun v2 y G2 H2 w2 g2 b2 => by
    obtain ⟨u, e, p⟩ := w2
    have S2 := (S.step g1).step g2
    refine o S2.vw S2.pl (b1.step g2 (S.step g1).vw (S.step g1).pl) b2 e fun p' o' H' g np gp hp ho => ?_
    have np0 : H p' = none := by
      cases e0 : H p' with
      | none => rfl
      | some o0 =>
        have off : Off Z.b Z.pp p' := off_none S2.pl np
        cases g0 : G p' with
        | none =>
          have := ((g1.trans g2).fr0 p' o0 off e0 g0).2
          rw [np] at this
          cases this
        | some o2 =>
          rw [(g1.trans g2).gg _ _ g0] at gp
          cases gp
    exact q p' o' u G2 H' p ((g1.trans g2).trans g) np0 gp hp ho
def wUn (f : U → Option U) (wa : WE) : WE := fun ρ post => wa ρ fun x => ∃ u, f x = some u ∧ post u
/-! ### arguments -/
def wNil : WA := fun _ post => post []
def wCons (w : WE) (wr : WA) : WA := fun ρ post => w ρ fun x => wr ρ fun xs => post (x :: xs)
theorem v_nil : TrA Z tNil wNil := fun σ ρ G H post Q S hw q => q [] [] G H hw (Gr.refl S.vw S.pl) .nil
theorem v_cons {tr : TA} {wr : WA} (ha : TrE Z ta wa) (hr : TrA Z tr wr) : TrA Z (tCons ta tr) (wCons wa wr) := fun σ ρ G H post Q S hw q =>
  ha σ ρ G H _ _ S hw fun v x G1 H1 w1 g1 h1 => hr σ ρ G1 H1 _ _ (S.step g1) w1 fun vs us G2 H2 w2 g2 h2 => q _ _ G2 H2 w2 (g1.trans g2) (.cons (h1.same g2.gg) h2)
variable {tA : TA} {wA : WA}
def wTup (wA : WA) : WE := fun ρ post => wA ρ fun us => us.length ≤ 100000 ∧ post (.tup us)
def wLst (wA : WA) : WE := fun ρ post => wA ρ fun us => us.length ≤ 100000 ∧ post (.lst us)
theorem v_tup (h : TrA Z tA wA) : TrE Z (tTup tA) (wTup wA) := fun σ ρ G H post Q S hw q =>
  h σ ρ G H _ _ S hw fun vs us G1 H1 w1 g1 h1 => ⟨Nat.le_of_lt (lineN (by rw [h1.length]; exact w1.1)), fun p np => by
    have S1 := S.step g1
    exact q _ _ (upd G1 p (.tup vs)) _ w1.2 (g1.trans (Gr.new S1.vw S1.pl np)) (.tup upd_same (h1.same (same_upd (S1.vw.free np))) w1.1)⟩
theorem free_back {Z : Zc} {σ : L2.St} {ρ : List Cell} {G H G1 H1 : Hp} (S : Sv Z σ ρ G H) (g1 : Z.gr G H G1 H1) {p : Addr} (np : H1 p = none) : H p = none := by
  have S1 := S.step g1
  cases e0 : H p with
  | none => rfl
  | some o0 =>
    have off : Off Z.b Z.pp p := off_none S1.pl np
    cases g0 : G p with
    | none =>
      have := (g1.fr0 p o0 off e0 g0).2
      rw [np] at this
      cases this
    | some o2 =>
      have := S1.vw.free np
      rw [g1.gg _ _ g0] at this
      cases this
/-- a new object is changed -/
theorem gr_own {Z : Zc} {G1 H1 G2 H2 : Hp} (gt : Z.gr G1 H1 G2 H2) (w1 : Vw G1 H1) (pl : Pl Z.b Z.pp Z.q G1 H1) {D : Addr} (nD : H1 D = none) (gD : G2 D = none) (o : HO) (no : Z.b.T = [] ∨ ∀ x, H2 D = some x → (∀ ps, x ≠ .tbl ps) ∧ ∀ φ, x ≠ .ext φ) : Z.gr G1 H1 G2 (upd H2 D o) := by
  refine ⟨⟨gt.gg, fun a x e => ?_, fun a x n e g => ?_, ?_⟩, fun a x e => ?_⟩
  · rw [upd_ne (ne_of_none e gD)]
    exact gt.vw a x e
  · obtain ⟨z1, z2⟩ := gt.fr0 a x n e g
    exact ⟨z1, by rw [upd_ne (ne_of_none e nD)]; exact z2⟩
  · refine ⟨fun z => ?_, fun t ht => ?_⟩
    · obtain ⟨P, n1, n2⟩ := gt.pl.1 z
      obtain ⟨⟨ms, c', u', d', e', k1, k2, k3⟩, _⟩ := pl.1 z
      exact ⟨P.keep (upd_ne (ne_of_none k1 nD)) (upd_ne (ne_of_none k2 nD)), n1, n2⟩
    · rcases no with no | no
      · rw [no] at ht
        cases ht
      · exact ⟨tab_upd (gt.pl.2 t ht).1 no, (gt.pl.2 t ht).2⟩
  · have := gt.ge a x e
    unfold Lk at this ⊢
    rw [upd_ne (ne_of_none e (w1.free nD))]
    exact this
theorem lst_no {H : Hp} {D : Addr} {vs : List V} (e : H D = some (.lst vs)) : ∀ x, H D = some x → (∀ ps, x ≠ .tbl ps) ∧ ∀ φ, x ≠ .ext φ := fun x h => by
  rw [e] at h
  cases h
  exact ⟨(fun _ z => nomatch z), (fun _ z => nomatch z)⟩
theorem dic_no {H : Hp} {D : Addr} {kvs : List (Key × V)} (e : H D = some (.dK kvs)) : ∀ x, H D = some x → (∀ ps, x ≠ .tbl ps) ∧ ∀ φ, x ≠ .ext φ := fun x h => by
  rw [e] at h
  cases h
  exact ⟨(fun _ z => nomatch z), (fun _ z => nomatch z)⟩
theorem v_lst (h : TrA Z tA wA) : TrF Z (tLst tA) (wLst wA) := fun σ ρ G H post Q S hw q =>
  h σ ρ G H _ _ S hw fun vs us G1 H1 w1 g1 h1 => ⟨Nat.le_of_lt (lineN (by rw [h1.length]; exact w1.1)), fun p np => by
    have S1 := S.step g1
    exact q p _ _ G1 _ w1.2 (g1.trans (Gr.newH S1.vw S1.pl np)) (free_back S g1 np) (S1.vw.free np) upd_same (.lst h1 w1.1)⟩
/-! ### tests, and, or -/
variable {tA' tB' : TT} {wA' wB' : WT}
def wTest (w : WE) : WT := fun ρ post => w ρ fun x => ∃ c, x = .bl c ∧ post c
theorem v_test (h : TrE Z t w) : TrT Z (tTest t) (wTest w) := fun σ ρ G H post Q S hw q => h σ ρ G H _ _ S hw fun v x G1 H1 w1 g1 h1 => by
  obtain ⟨c, rfl, p⟩ := w1
  cases h1
  exact ⟨c, rfl, q c G1 H1 p g1⟩
theorem v_tB (h : TrE Z t w) : TrT Z (tB t) (wTest w) := v_test h
def wAnd (a b : WT) : WT := fun ρ post => a ρ fun c => if c = true then b ρ post else post false
def wOr (a b : WT) : WT := fun ρ post => a ρ fun c => if c = true then post true else b ρ post
def wNot (a : WT) : WT := fun ρ post => a ρ fun c => post (!c)
theorem v_and (ha : TrT Z tA' wA') (hb : TrT Z tB' wB') : TrT Z (tAnd tA' tB') (wAnd wA' wB') := fun σ ρ G H post Q S hw q => ha σ ρ G H _ _ S hw fun c G1 H1 w1 g1 => by
  cases c with
  | true => exact iteT (hb σ ρ G1 H1 _ _ (S.step g1) w1 fun c' G2 H2 p g2 => q c' G2 H2 p (g1.trans g2))
  | false => exact iteF (q false G1 H1 w1 g1)
theorem v_or (ha : TrT Z tA' wA') (hb : TrT Z tB' wB') : TrT Z (tOr tA' tB') (wOr wA' wB') := fun σ ρ G H post Q S hw q => ha σ ρ G H _ _ S hw fun c G1 H1 w1 g1 => by
  cases c with
  | true => exact iteT (q true G1 H1 w1 g1)
  | false => exact iteF (hb σ ρ G1 H1 _ _ (S.step g1) w1 fun c' G2 H2 p g2 => q c' G2 H2 p (g1.trans g2))
theorem v_not (ha : TrT Z tA' wA') : TrT Z (tNot tA') (wNot wA') := fun σ ρ G H post Q S hw q => ha σ ρ G H _ _ S hw fun c G1 H1 w1 g1 => q (!c) G1 H1 w1 g1
def wAndV (a b : WE) : WE := fun ρ post => a ρ fun x => ∃ c, x = .bl c ∧ if c = true then b ρ post else post (.bl false)
def wOrV (a b : WE) : WE := fun ρ post => a ρ fun x => ∃ c, x = .bl c ∧ if c = true then post (.bl true) else b ρ post
def wNotV (a : WE) : WE := fun ρ post => a ρ fun x => ∃ c, x = .bl c ∧ post (.bl (!c))
theorem v_andV (ha : TrE Z ta wa) (hb : TrE Z tb wb) : TrE Z (tAndV ta tb) (wAndV wa wb) := fun σ ρ G H post Q S hw q => ha σ ρ G H _ _ S hw fun v x G1 H1 w1 g1 h1 => by
  obtain ⟨c, rfl, p⟩ := w1
  cases h1
  refine ⟨c, rfl, ?_⟩
  cases c with
  | true => exact iteT (hb σ ρ G1 H1 _ _ (S.step g1) p fun v' u G2 H2 p g2 => q v' u G2 H2 p (g1.trans g2))
  | false => exact iteF (q _ _ G1 H1 p g1 (.bl false))
theorem v_orV (ha : TrE Z ta wa) (hb : TrE Z tb wb) : TrE Z (tOrV ta tb) (wOrV wa wb) := fun σ ρ G H post Q S hw q => ha σ ρ G H _ _ S hw fun v x G1 H1 w1 g1 h1 => by
  obtain ⟨c, rfl, p⟩ := w1
  cases h1
  refine ⟨c, rfl, ?_⟩
  cases c with
  | true => exact iteT (q _ _ G1 H1 p g1 (.bl true))
  | false => exact iteF (hb σ ρ G1 H1 _ _ (S.step g1) p fun v' u G2 H2 p g2 => q v' u G2 H2 p (g1.trans g2))
theorem v_notV (ha : TrE Z ta wa) : TrE Z (tNotV ta) (wNotV wa) := fun σ ρ G H post Q S hw q => ha σ ρ G H _ _ S hw fun v x G1 H1 w1 g1 h1 => by
  obtain ⟨c, rfl, p⟩ := w1
  cases h1
  exact ⟨c, rfl, q _ _ G1 H1 p g1 (.bl _)⟩
def wIf (c : WT) (a b : WE) : WE := fun ρ post => c ρ fun k => if k = true then a ρ post else b ρ post
theorem v_if (hc : TrT Z tA' wA') (ha : TrE Z ta wa) (hb : TrE Z tb wb) : TrE Z (tIf tA' ta tb) (wIf wA' wa wb) := fun σ ρ G H post Q S hw q => hc σ ρ G H _ _ S hw fun c G1 H1 w1 g1 => by
  cases c with
  | true => exact iteT (ha σ ρ G1 H1 _ _ (S.step g1) w1 fun v' u G2 H2 p g2 h => q v' u G2 H2 p (g1.trans g2) h)
  | false => exact iteF (hb σ ρ G1 H1 _ _ (S.step g1) w1 fun v' u G2 H2 p g2 h => q v' u G2 H2 p (g1.trans g2) h)
def wChain (f g : U → U → Option U) (wa wb wc : WE) : WE := fun ρ post => wa ρ fun x => wb ρ fun y => ∃ z, f x y = some z ∧ ∃ k, z = .bl k ∧ if k = true then wc ρ fun u => ∃ r, g y u = some r ∧ post r else post (.bl false)
theorem v_chain {r r' : R2} {f g : U → U → Option U} {tc : TE} {wc : WE} (o : OpOk r f) (o' : OpOk r' g) (ha : TrB Z ta wa) (hb : TrB Z tb wb) (hc : TrB Z tc wc) : TrE Z (tChain r r' ta tb tc) (wChain f g wa wb wc) := fun σ ρ G H post Q S hw q =>
  ha σ ρ G H _ _ S hw fun v1 x G1 H1 w1 g1 b1 => hb σ ρ G1 H1 _ _ (S.step g1) w1 fun v2 y G2 H2 w2 g2 b2 => by
    obtain ⟨u, e, k, rfl, p⟩ := w2
    have S1 := S.step g1
    have S2 := S1.step g2
    refine o S2.vw S2.pl (b1.step g2 S1.vw S1.pl) b2 e fun v G3 H3 g3 hv => ?_
    cases hv
    have S3 := S2.step g3
    refine ⟨k, rfl, ?_⟩
    cases k with
    | true =>
      refine iteT (hc σ ρ G3 H3 _ _ S3 p fun v3 z G4 H4 w4 g4 b4 => ?_)
      obtain ⟨r, e4, p4⟩ := w4
      have S4 := S3.step g4
      exact o' S4.vw S4.pl ((b2.step g3 S2.vw S2.pl).step g4 S3.vw S3.pl) b4 e4 fun v G' H' g hv => q v r G' H' p4 ((((g1.trans g2).trans g3).trans g4).trans g) hv
    | false => exact iteF (q _ _ G3 H3 p ((g1.trans g2).trans g3) (.bl false))
end
/-! ### statements -/
section
variable {Z : Zc} {t u : TS} {w x : WS} {te : TE} {we : WE} {tt : TT} {wt : WT}
def wNext : WS := fun V ρ => V.nx ρ
def wSeq (w x : WS) : WS := fun V ρ => w { V with nx := x V } ρ
theorem s_nil : TrS Z tNext wNext := fun V D σ ρ G H S hw B => B.nx σ ρ G H S Ex.refl hw
theorem s_seq (h : TrS Z t w) (k : TrS Z u x) : TrS Z (tSeq t u) (wSeq w x) := fun V D σ ρ G H S hw B =>
  h _ _ σ ρ G H S hw ⟨fun σ' ρ' G' H' S' x p => k V D σ' ρ' G' H' S' p (B.to x), B.rt, B.bk, B.ct⟩
/-- what is known between two statements is named -/
def wCut (w x : WS) : WS := fun V ρ => ∃ Mid : List Cell → Prop, w { V with nx := Mid } ρ ∧ ∀ ρ', Mid ρ' → x V ρ'
theorem s_cut (h : TrS Z t w) (k : TrS Z u x) : TrS Z (tSeq t u) (wCut w x) := fun V D σ ρ G H S hw B => by
  obtain ⟨Mid, h1, h2⟩ := hw
  exact h _ _ σ ρ G H S h1 ⟨fun σ' ρ' G' H' S' x p => k V D σ' ρ' G' H' S' (h2 ρ' p) (B.to x), B.rt, B.bk, B.ct⟩
def wBreak : WS := fun V ρ => V.bk ρ
def wCont : WS := fun V ρ => V.ct ρ
theorem s_break : TrS Z tBreak wBreak := fun V D σ ρ G H S hw B => B.bk σ ρ G H S Ex.refl hw
theorem s_cont : TrS Z tCont wCont := fun V D σ ρ G H S hw B => B.ct σ ρ G H S Ex.refl hw
def wDrop (we : WE) : WS := fun V ρ => we ρ fun _ => V.nx ρ
theorem s_drop (h : TrB Z te we) : TrS Z (tDrop te) (wDrop we) := fun V D σ ρ G H S hw B => h σ ρ G H _ _ S hw fun v u G1 H1 p g _ => B.nx σ ρ G1 H1 (S.step g) g.ex p
def wRet (we : WE) : WS := fun V ρ => we ρ V.rt
theorem s_ret (h : TrE Z te we) : TrS Z (tRet te) (wRet we) := fun V D σ ρ G H S hw B => h σ ρ G H _ _ S hw fun v u G1 H1 p g hv => B.rt v u G1 H1 (S.step g).gr g.ex hv p
def wRetN : WS := fun V _ => V.rt .non
theorem s_retN : TrS Z tRetN wRetN := fun V D σ ρ G H S hw B => B.rt _ _ G H S.gr Ex.refl .non hw
def wIfS (c : WT) (a b : WS) : WS := fun V ρ => c ρ fun k => if k = true then a V ρ else b V ρ
theorem s_if (hc : TrT Z tt wt) (ha : TrS Z t w) (hb : TrS Z u x) : TrS Z (tIfS tt t u) (wIfS wt w x) := fun V D σ ρ G H S hw B => hc σ ρ G H _ _ S hw fun c G1 H1 p g => by
  cases c with
  | true => exact iteT (ha V D σ ρ G1 H1 (S.step g) p (B.to g.ex))
  | false => exact iteF (hb V D σ ρ G1 H1 (S.step g) p (B.to g.ex))
def wNever : WS := fun _ _ => False
theorem s_dead {t : TS} : TrS Z t wNever := fun V D σ ρ G H S hw B => hw.elim
/-- name = value -/
def wSet (i : Nat) (we : WE) : WS := fun V ρ => we ρ fun u => V.nx (ρ.set i (.fz u))
theorem s_set {i : Nat} (h : TrE Z te we) (hi : Z.may i := by exact Zc.may_of (by assumption) (by decide)) : TrS Z (tAsg te (gName i)) (wSet i we) := fun V D σ ρ G H S hw B => h σ ρ G H _ _ S hw fun v u G1 H1 p g hv => B.nx _ _ G1 H1 ((S.step g).set hi hv) g.ex p
/-- name = a new object, one's own -/
def wSetO (i : Nat) (we : WE) : WS := fun V ρ => we ρ fun u => V.nx (ρ.set i (.ow u))
theorem s_setO {i : Nat} (h : TrF Z te we) (hi : Z.may i := by exact Zc.may_of (by assumption) (by decide)) : TrS Z (tAsg te (gName i)) (wSetO i we) := fun V D σ ρ G H S hw B => h σ ρ G H _ _ S hw fun p o u G1 H1 pu g np gp hp ho => by
  have S1 := S.step g
  refine B.nx _ _ G1 H1 (S1.setO hi hp gp (S.new0 np) ho fun j _ hj e => ?_) g.ex pu
  obtain ⟨u2, e2⟩ := hj
  obtain ⟨a, o2, k1, k2, _⟩ := S.ow j u2 e2
  rw [e] at k1
  cases k1
  rw [np] at k2
  cases k2
/-- from here on one's own object stays as it is -/
def wFrz (i : Nat) (w : WS) : WS := fun V ρ => ∃ u, ρ[i]? = some (.ow u) ∧ w V (ρ.set i (.fz u))
theorem s_frz {i : Nat} (h : TrS Z t w) : TrS Z t (wFrz i w) := fun V D σ ρ G H S hw B => by
  obtain ⟨u, e, p⟩ := hw
  obtain ⟨G', s, S'⟩ := S.frz e
  exact h V D σ _ G' H S' p (B.to ⟨s, fun _ _ _ => .inl rfl⟩)
end
end SV
/-! The value layer: operators, calls, walks. -/
namespace SV
open PySem PySem.Spec PyProof.Rows L2 SL
/-! ### data of the library -/
mutual
def toPy : U → Option PyData
  | .non => some .none
  | .bl b => some (.bool b)
  | .int i => some (.int i)
  | .str s => some (.str s)
  | .lst us => (toPys us).map .list
  | .tup us => (toPys us).map .tuple
  | .dic _ => none
  | .dit _ => none
  | .ins _ _ => none
  | .pool => none
  | .ty _ => none
def toPys : List U → Option (List PyData)
  | [] => some []
  | u :: us => match toPy u, toPys us with
    | some d, some ds => some (d :: ds)
    | _, _ => none
end
section
variable {K : PySem.W.Frag} {pp : Addr} {G H : Hp}
mutual
theorem Rp.dp (w : Vw G H) : ∀ {v : V} {u : U} {d : PyData}, Rp pp G v u → toPy u = some d → Dp K H v d
  | _, _, _, .non, e => by simp only [toPy, Option.some.injEq] at e; subst e; exact .non
  | _, _, _, .bl b, e => by simp only [toPy, Option.some.injEq] at e; subst e; exact .bl b
  | _, _, _, .int i, e => by simp only [toPy, Option.some.injEq] at e; subst e; exact .int i
  | _, _, _, .str s _, e => by simp only [toPy, Option.some.injEq] at e; subst e; exact .str s
  | _, _, _, .lst (us := us) h k _, e => by
    cases q : toPys us with
    | none => simp [toPy, q] at e
    | some ds => simp only [toPy, q, Option.map_some, Option.some.injEq] at e; subst e; exact .lst (SqL.of (w.lst h)) (RpL.dp w k q)
  | _, _, _, .tup (us := us) h k _, e => by
    cases q : toPys us with
    | none => simp [toPy, q] at e
    | some ds => simp only [toPy, q, Option.map_some, Option.some.injEq] at e; subst e; exact .tup (SqT.of (w.tup h)) (RpL.dp w k q)
  | _, _, _, .dic _ _ _, e => by simp [toPy] at e
  | _, _, _, .dit _ _ _, e => by simp [toPy] at e
  | _, _, _, .ins _ _, e => by simp [toPy] at e
  | _, _, _, .pool, e => by simp [toPy] at e
  | _, _, _, .ty _, e => by simp [toPy] at e
theorem RpL.dp (w : Vw G H) : ∀ {vs : List V} {us : List U} {ds : List PyData}, RpL pp G vs us → toPys us = some ds → DpAll K H vs ds
  | _, _, _, .nil, e => by simp only [toPys, Option.some.injEq] at e; subst e; exact .nil
  | _, _, _, .cons (u := u) (us := us) h t, e => by
    cases q : toPy u with
    | none => simp [toPys, q] at e
    | some d =>
      cases r : toPys us with
      | none => simp [toPys, q, r] at e
      | some ds => simp only [toPys, q, r, Option.some.injEq] at e; subst e; exact .cons (Rp.dp w h q) (RpL.dp w t r)
end
theorem Bp.dp (w : Vw G H) {v : V} {u : U} {d : PyData} (h : Bp pp G H v u) (e : toPy u = some d) : Dp K H v d := by
  cases h with
  | lst h k z =>
    rename_i a vs us
    cases q : toPys us with
    | none => simp [toPy, q] at e
    | some ds => simp only [toPy, q, Option.map_some, Option.some.injEq] at e; subst e; exact .lst (SqL.of h) (k.dp w q)
  | tup h k z => exact (Rp.tup h k z).dp w e
  | non => exact Rp.dp w (pp := pp) .non e
  | bl b => exact Rp.dp w (pp := pp) (.bl b) e
  | int b => exact Rp.dp w (pp := pp) (.int b) e
  | str b z => exact Rp.dp w (pp := pp) (.str b z) e
  | dic _ _ _ => simp [toPy] at e
  | dit _ _ _ => simp [toPy] at e
  | ins _ _ => simp [toPy] at e
  | pool => simp [toPy] at e
  | ty _ => simp [toPy] at e
end
def eqU (x y : U) : Option Bool := match toPy x, toPy y with
  | some d, some e => if SeqAt.shaped d && SeqAt.shaped e then some (PyData.eqv d e) else none
  | _, _ => none
theorem eqU_get {x y : U} {c : Bool} (h : eqU x y = some c) : ∃ d e, toPy x = some d ∧ toPy y = some e ∧ SeqAt.shaped d = true ∧ SeqAt.shaped e = true ∧ PyData.eqv d e = c := by
  unfold eqU at h
  cases e1 : toPy x with
  | none => rw [e1] at h; cases h
  | some d =>
    cases e2 : toPy y with
    | none => rw [e1, e2] at h; cases h
    | some e =>
      simp only [e1, e2] at h
      by_cases c : (SeqAt.shaped d && SeqAt.shaped e) = true
      · rw [if_pos c] at h
        rw [Bool.and_eq_true] at c
        exact ⟨d, e, rfl, rfl, c.1, c.2, Option.some.inj h⟩
      · rw [if_neg c] at h
        cases h
/-! ### operators -/
def fII (g : Int → Int → U) : U → U → Option U
  | .int i, .int j => some (g i j)
  | _, _ => none
def fIIc (C : Int → Int → Bool) (g : Int → Int → U) : U → U → Option U
  | .int i, .int j => if C i j then some (g i j) else none
  | _, _ => none
theorem o_II {g : Int → Int → Int} : OpOk (rI0 fun i j => .int (g i j)) (fII fun i j => .int (g i j)) := by
  intro b pp q G H v1 v2 x y u Q w p h1 h2 e k
  cases h1 <;> first | cases e | skip
  cases h2 <;> first | cases e | skip
  exact ⟨_, _, rfl, rfl, k _ G H (Gr.refl w p) (.int _)⟩
theorem o_IB {g : Int → Int → Bool} : OpOk (rI0 fun i j => .bl (g i j)) (fII fun i j => .bl (g i j)) := by
  intro b pp q G H v1 v2 x y u Q w p h1 h2 e k
  cases h1 <;> first | cases e | skip
  cases h2 <;> first | cases e | skip
  exact ⟨_, _, rfl, rfl, k _ G H (Gr.refl w p) (.bl _)⟩
theorem o_IIc {C : Int → Int → Prop} {c : Int → Int → Bool} {g : Int → Int → Int} (hc : ∀ i j, c i j = true → C i j) : OpOk (rI C fun i j => .int (g i j)) (fIIc c fun i j => .int (g i j)) := by
  intro b pp q G H v1 v2 x y u Q w p h1 h2 e k
  cases h1 <;> first | cases e | skip
  cases h2 <;> first | cases e | skip
  rename_i i j
  have e' : (if c i j then some (U.int (g i j)) else none) = some u := e
  by_cases z : c i j = true
  · rw [if_pos z] at e'
    cases e'
    exact ⟨_, _, rfl, rfl, hc _ _ z, k _ G H (Gr.refl w p) (.int _)⟩
  · rw [if_neg z] at e'
    cases e'
def cMul (i j : Int) : Bool := decide (-(2 ^ 64) < i ∧ i < 2 ^ 64) || decide (-(2 ^ 64) < j ∧ j < 2 ^ 64)
theorem cMul_ok (i j : Int) (h : cMul i j = true) : CMul i j := by
  unfold cMul at h
  rw [Bool.or_eq_true, decide_eq_true_eq, decide_eq_true_eq] at h
  exact h
abbrev fMul : U → U → Option U := fIIc cMul fun i j => .int (i * j)
theorem o_mul : OpOk (rI CMul fun i j => .int (i * j)) fMul := o_IIc cMul_ok
theorem o_mod : OpOk (rI (fun _ j => 0 < j) fun i j => .int (i % j)) (fIIc (fun _ j => decide (0 < j)) fun i j => .int (i % j)) := o_IIc fun _ _ h => of_decide_eq_true h
theorem o_fdiv : OpOk (rI CDiv fun i j => .int (i / j)) (fIIc (fun _ j => decide (0 < j ∧ j < 1073741824)) fun i j => .int (i / j)) := o_IIc fun _ _ h => of_decide_eq_true h
theorem o_shl : OpOk (rI CPow fun i j => .int (i * 2 ^ j.toNat)) (fIIc (fun i j => decide (0 ≤ j ∧ j ≤ 1000000 ∧ i.natAbs < 2 ^ 64)) fun i j => .int (i * 2 ^ j.toNat)) := o_IIc fun _ _ h => of_decide_eq_true h
theorem o_pow : OpOk (rI CPow fun i j => .int (i ^ j.toNat)) (fIIc (fun i j => decide (0 ≤ j ∧ j ≤ 1000000 ∧ i.natAbs < 2 ^ 64)) fun i j => .int (i ^ j.toNat)) := o_IIc fun _ _ h => of_decide_eq_true h
theorem o_shr : OpOk (rI (fun _ j => 0 ≤ j) fun i j => .int (i / 2 ^ j.toNat)) (fIIc (fun _ j => decide (0 ≤ j)) fun i j => .int (i / 2 ^ j.toNat)) := o_IIc fun _ _ h => of_decide_eq_true h
def fEq : U → U → Option U := fun x y => (eqU x y).map .bl
def fNe : U → U → Option U := fun x y => (eqU x y).map fun c => .bl (!c)
theorem o_eq {K : PySem.W.Frag} : OpOk (rEqD K) fEq := by
  intro b pp q G H v1 v2 x y u Q w p h1 h2 e k
  unfold fEq at e
  cases c : eqU x y with
  | none => rw [c] at e; cases e
  | some c0 =>
    rw [c] at e
    cases e
    obtain ⟨d, d', e1, e2, s1, s2, rfl⟩ := eqU_get c
    exact ⟨d, d', h1.dp w e1, h2.dp w e2, s1, s2, k _ G H (Gr.refl w p) (.bl _)⟩
theorem o_ne {K : PySem.W.Frag} : OpOk (rNeD K) fNe := by
  intro b pp q G H v1 v2 x y u Q w p h1 h2 e k
  unfold fNe at e
  cases c : eqU x y with
  | none => rw [c] at e; cases e
  | some c0 =>
    rw [c] at e
    cases e
    obtain ⟨d, d', e1, e2, s1, s2, rfl⟩ := eqU_get c
    exact ⟨d, d', h1.dp w e1, h2.dp w e2, s1, s2, k _ G H (Gr.refl w p) (.bl _)⟩
theorem op_eqV {X : Cx} (K : PySem.W.Frag) (hu : X.A.units + 64 < cLine) (h : X.K = K := by rfl) : OpR X (compareOp .Eq) (rEqD K) := by subst h; exact op_eqD hu
theorem op_neV {X : Cx} (K : PySem.W.Frag) (hu : X.A.units + 64 < cLine) (h : X.K = K := by rfl) : OpR X (compareOp .NotEq) (rNeD K) := by subst h; exact op_neD hu
def isNon : U → Bool
  | .non => true
  | _ => false
def fIsN : U → U → Option U
  | x, .non => some (.bl (isNon x))
  | _, _ => none
def fNotN : U → U → Option U
  | x, .non => some (.bl (!isNon x))
  | _, _ => none
theorem isNon_bp {pp : Addr} {G H : Hp} {v : V} {x : U} (h : Bp pp G H v x) : decide (v = .non) = isNon x := by
  cases h <;> rfl
theorem o_isN : OpOk (fun x y H Q => y = .non ∧ Q (.bl (decide (x = .non))) H) fIsN := by
  intro b pp q G H v1 v2 x y u Q w p h1 h2 e k
  cases h2 <;> first | (cases x <;> cases e <;> done) | skip
  have e' : some (U.bl (isNon x)) = some u := by cases x <;> exact e
  cases e'
  exact ⟨rfl, k _ G H (Gr.refl w p) (by rw [isNon_bp h1]; exact .bl _)⟩
theorem o_notN : OpOk (fun x y H Q => y = .non ∧ Q (.bl (!decide (x = .non))) H) fNotN := by
  intro b pp q G H v1 v2 x y u Q w p h1 h2 e k
  cases h2 <;> first | (cases x <;> cases e <;> done) | skip
  have e' : some (U.bl (!isNon x)) = some u := by cases x <;> exact e
  cases e'
  exact ⟨rfl, k _ G H (Gr.refl w p) (by rw [isNon_bp h1]; exact .bl _)⟩
/-- + of ints, tuples, texts -/
def rCatV : R2 := fun x y H Q => ∃ a b xs ys, x = .ref a ∧ y = .ref b ∧ H a = some (.tup xs) ∧ H b = some (.tup ys) ∧ xs.length + ys.length ≤ 100000 ∧ ∀ c H', Same H H' → H' c = some (.tup (xs ++ ys)) → (H c = none ∨ (c = a ∧ ys = []) ∨ (c = b ∧ xs = [])) → Q (.ref c) H'
theorem op_catV {X : Cx} (K : PySem.W.Frag) (h : X.K = K := by rfl) : OpR X (binaryOp .Add) rCatV := by
  subst h
  intro pins s σ H x y v u Q I rx ry z
  obtain ⟨a, b, xs, ys, e1, e2, ha, hb, hz, q⟩ := z
  refine op_catA pins s σ H x y v u Q I rx ry ⟨a, b, xs, ys, e1, e2, SqT.of ha, SqT.of hb, Nat.le_of_lt (lineN hz), fun e => ?_, fun _ e => ?_, fun _ _ p np => ?_⟩
  · subst e
    exact q b H (Same.refl H) hb (.inr (.inr ⟨rfl, rfl⟩))
  · subst e
    exact q a H (Same.refl H) (by rw [List.append_nil]; exact ha) (.inr (.inl ⟨rfl, rfl⟩))
  · exact q p _ (same_upd np) upd_same (.inl np)
def rSlV : V → Option Int → Option Int → Hp → VK → Prop := fun x lo hi H Q => ∃ a xs, x = .ref a ∧ H a = some (.tup xs) ∧ ∀ c H', Same H H' → H' c = some (.tup (cutV xs lo hi)) → (H c = none ∨ (c = a ∧ cutV xs lo hi = xs)) → Q (.ref c) H'
theorem sl_tupV {X : Cx} (K : PySem.W.Frag) (h : X.K = K := by rfl) : SlR X rSlV := by
  subst h
  intro pins s σ H x v vl vu lo hi sl Q I rx hs pl pu z
  obtain ⟨a, xs, e, hx, q⟩ := z
  refine sl_tupA pins s σ H x v vl vu lo hi sl Q I rx hs pl pu ⟨a, xs, e, SqT.of hx, fun w => ?_, fun _ p np => q p _ (same_upd np) upd_same (.inl np)⟩
  have z : cutV xs lo hi = xs := by
    unfold cutV
    rw [w.1, w.2, List.drop_zero, Nat.sub_zero, List.take_length]
  exact q a H (Same.refl H) (by rw [z]; exact hx) (.inr ⟨rfl, z⟩)
def rAddU : R2 := fun x y H Q => rI0 (fun i j => .int (i + j)) x y H Q ∨ rCatV x y H Q ∨ (∃ i j, x = .str i ∧ y = .str j ∧ i.length + j.length ≤ sizeLine ∧ Q (.str (i ++ j)) H)
theorem op_addU {X : Cx} (K : PySem.W.Frag) (h : X.K = K := by rfl) : OpR X (binaryOp .Add) rAddU := op_add.or ((op_catV K h).or op_add_str)
def fAdd : U → U → Option U
  | .int i, .int j => some (.int (i + j))
  | .tup xs, .tup ys => if xs.length + ys.length ≤ 100000 then some (.tup (xs ++ ys)) else none
  | .str s, .str t => if s.length + t.length ≤ 100000 then some (.str (s ++ t)) else none
  | _, _ => none
theorem str_app_len (a b : Str) : (a ++ b).length = a.length + b.length := by
  show (a.cps ++ b.cps).size = a.cps.size + b.cps.size
  exact Array.size_append
/-- a step of L2 that lays new objects alone, one of them the answer -/
theorem grow {b : PT} {pp q : Addr} {G H H' : Hp} (w : Vw G H) (p : Pl b pp q G H) (s : Same H H') {c : Addr} {o : HO} (e : H' c = some o) (hn : H c = none ∨ G c = some o) : ∃ G', Gr b pp q G H G' H' ∧ G' c = some o ∧ Same G G' := by
  have pl : ∀ G' : Hp, (∀ a, G' a = G a ∨ (a = c ∧ H c = none)) → Pl b pp q G' H' := fun G' hg => p.same s fun a => (hg a).imp id fun h => by rw [h.1]; exact h.2
  rcases hn with hn | hn
  · have gn := w.free hn
    refine ⟨upd G c o, ⟨⟨same_upd gn, fun a u ea => ?_, fun a u _ ea g => ?_, pl _ fun a => ?_⟩, fun a u ea => ?_⟩, upd_same, same_upd gn⟩
    · by_cases h : a = c
      · subst h
        rw [upd_same] at ea
        cases ea
        exact .inl e
      · rw [upd_ne h] at ea
        rcases w a u ea with k | ⟨k1, ob, k⟩
        · exact .inl (s _ _ k)
        · exact .inr ⟨k1, ob, s _ _ k⟩
    · have h : a ≠ c := ne_of_none ea hn
      rw [upd_ne h]
      exact ⟨fun _ => g, s _ _ ea⟩
    · by_cases h : a = c
      · exact .inr ⟨h, hn⟩
      · exact .inl (upd_ne h)
    · rcases w a u ea with k | ⟨k1, ob, k⟩
      · exact .inl ((s _ _ k).trans k.symm)
      · exact .inl ((s _ _ k).trans k.symm)
  · refine ⟨G, ⟨⟨Same.refl _, fun a u ea => ?_, fun a u _ ea g => ⟨fun _ => g, s _ _ ea⟩, pl _ fun a => .inl rfl⟩, fun a u ea => ?_⟩, hn, Same.refl _⟩
    · rcases w a u ea with k | ⟨k1, ob, k⟩
      · exact .inl (s _ _ k)
      · exact .inr ⟨k1, ob, s _ _ k⟩
    · rcases w a u ea with k | ⟨k1, ob, k⟩
      · exact .inl ((s _ _ k).trans k.symm)
      · exact .inl ((s _ _ k).trans k.symm)
theorem o_add : OpOk rAddU fAdd := by
  intro b pp q G H v1 v2 x y u Q w p h1 h2 e k
  cases h1 <;> first | cases e | skip
  · cases h2 <;> first | cases e | skip
    exact .inl ⟨_, _, rfl, rfl, k _ G H (Gr.refl w p) (.int _)⟩
  · rename_i s zs
    cases h2 <;> first | cases e | skip
    rename_i t zt
    by_cases c : s.length + t.length ≤ 100000
    · have e' : (if s.length + t.length ≤ 100000 then some (U.str (s ++ t)) else none) = some u := e
      rw [if_pos c] at e'
      cases e'
      exact .inr (.inr ⟨_, _, rfl, rfl, Nat.le_of_lt (lineN c), k _ G H (Gr.refl w p) (.str _ (by rw [str_app_len]; exact c))⟩)
    · have e' : (if s.length + t.length ≤ 100000 then some (U.str (s ++ t)) else none) = some u := e
      rw [if_neg c] at e'
      cases e'
  · rename_i a vs us h kk z
    cases h2 <;> first | cases e | skip
    rename_i a2 vs2 us2 h' k' z'
    by_cases c : us.length + us2.length ≤ 100000
    · have e' : (if us.length + us2.length ≤ 100000 then some (U.tup (us ++ us2)) else none) = some u := e
      rw [if_pos c] at e'
      cases e'
      refine .inr (.inl ⟨a, a2, vs, vs2, rfl, rfl, w.tup h, w.tup h', by rw [kk.length, k'.length]; exact c, fun d H' s ed hn => ?_⟩)
      have hn' : H d = none ∨ G d = some (.tup (vs ++ vs2)) := by
        rcases hn with hn | ⟨rfl, rfl⟩ | ⟨rfl, rfl⟩
        · exact .inl hn
        · exact .inr (by rw [List.append_nil]; exact h)
        · exact .inr h'
      obtain ⟨G', g, gd, sg⟩ := grow w p s ed hn'
      exact k _ G' H' g (.tup gd ((k'.same sg).append (kk.same sg)) (by rw [List.length_append]; exact c))
    · have e' : (if us.length + us2.length ≤ 100000 then some (U.tup (us ++ us2)) else none) = some u := e
      rw [if_neg c] at e'
      cases e'
/-- + of lists: a new one -/
def fCatL : U → U → Option U
  | .lst xs, .lst ys => if xs.length + ys.length ≤ 100000 then some (.lst (xs ++ ys)) else none
  | _, _ => none
theorem o_catL : OpOkF rCat fCatL := by
  intro b pp q G H v1 v2 x y u Q w p h1 h2 e k
  cases h1 <;> first | cases e | skip
  rename_i a vs us h kk z
  cases h2 <;> first | cases e | skip
  rename_i a2 vs2 us2 h' k' z'
  by_cases c : us.length + us2.length ≤ 100000
  · have e' : (if us.length + us2.length ≤ 100000 then some (U.lst (us ++ us2)) else none) = some u := e
    rw [if_pos c] at e'
    cases e'
    refine ⟨a, a2, vs, vs2, rfl, rfl, h, h', by rw [kk.length, k'.length]; exact Nat.le_of_lt (lineN c), fun d nd => ?_⟩
    exact k d _ _ (Gr.newH w p nd) nd (w.free nd) upd_same (.lst (k'.append kk) (by rw [List.length_append]; exact c))
  · have e' : (if us.length + us2.length ≤ 100000 then some (U.lst (us ++ us2)) else none) = some u := e
    rw [if_neg c] at e'
    cases e'
/-! ### subscripts, slices -/
theorem RpL.atI {pp : Addr} {G : Hp} {vs : List V} {us : List U} {i : Int} {u : U} (k : RpL pp G vs us) (e : L2.atI us i = some u) : ∃ v, L2.atI vs i = some v ∧ Rp pp G v u := by
  unfold L2.atI at e ⊢
  rw [k.length]
  cases c : ixN us.length i with
  | none => rw [c] at e; cases e
  | some j =>
    rw [c] at e
    exact k.got e
def fIx : U → U → Option U
  | .lst us, .int i => L2.atI us i
  | .tup us, .int i => L2.atI us i
  | .str z, .int i => (L2.atI z.cps.toList i).map fun c => .str ⟨#[c]⟩
  | _, _ => none
theorem o_ix {K : PySem.W.Frag} : OpOk (rIx K) fIx := by
  intro b pp q G H v1 v2 x y u Q w p h1 h2 e k
  cases h1 <;> first | cases e | skip
  · rename_i s z
    cases h2 <;> first | cases e | skip
    rename_i i
    have e' : ((L2.atI s.cps.toList i).map fun c => U.str ⟨#[c]⟩) = some u := e
    cases c : L2.atI s.cps.toList i with
    | none => rw [c] at e'; cases e'
    | some c0 =>
      rw [c] at e'
      cases e'
      exact .inr (.inr ⟨s, i, c0, rfl, rfl, Nat.le_of_lt (lineN z), c, k _ G H (Gr.refl w p) (.str _ (by show (1 : Nat) ≤ 100000; decide))⟩)
  · rename_i a vs us h kk z
    cases h2 <;> first | cases e | skip
    obtain ⟨v, e1, hv⟩ := kk.atI e
    exact .inl ⟨_, _, _, _, rfl, rfl, SqL.of h, e1, k _ G H (Gr.refl w p) hv⟩
  · rename_i a vs us h kk z
    cases h2 <;> first | cases e | skip
    obtain ⟨v, e1, hv⟩ := kk.atI e
    exact .inr (.inl ⟨_, _, _, _, rfl, rfl, SqT.of (w.tup h), e1, k _ G H (Gr.refl w p) hv⟩)
/-- xs[lo:hi] of values -/
def cutU (us : List U) (lo hi : Option Int) : List U := (us.drop (HT.sIx us.length 0 lo)).take (HT.sIx us.length us.length hi - HT.sIx us.length 0 lo)
theorem RpL.cut {pp : Addr} {G : Hp} {vs : List V} {us : List U} (k : RpL pp G vs us) (lo hi : Option Int) : RpL pp G (cutV vs lo hi) (cutU us lo hi) := by
  unfold cutV cutU
  rw [k.length]
  exact (k.drop _).take _
theorem cutU_le (us : List U) (lo hi : Option Int) : (cutU us lo hi).length ≤ us.length := by
  unfold cutU
  rw [List.length_take, List.length_drop]
  omega
section
variable {Z : Zc} {te : TE} {we : WE}
abbrev WO := List Cell → (Option Int → Prop) → Prop
def TrO (Z : Zc) (t : TO) (w : WO) : Prop := ∀ σ ρ G H (post : Option Int → Prop) (Q : Option Int → Hp → Prop), Sv Z σ ρ G H → w ρ post → (∀ o G' H', post o → Z.gr G H G' H' → Q o H') → t σ H Q
def wNoPart : WO := fun _ post => post none
def wPart (we : WE) : WO := fun ρ post => we ρ fun x => ∃ i, x = .int i ∧ post (some i)
theorem v_noPart : TrO Z tNoPart wNoPart := fun σ ρ G H post Q S hw q => q none G H hw (Gr.refl S.vw S.pl)
theorem v_part (h : TrE Z te we) : TrO Z (tPart te) (wPart we) := fun σ ρ G H post Q S hw q => h σ ρ G H _ _ S hw fun v x G1 H1 w1 g1 h1 => by
  obtain ⟨i, rfl, p⟩ := w1
  cases h1
  exact ⟨i, rfl, q _ G1 H1 p g1⟩
def wSl (f : U → Option Int → Option Int → Option U) (we : WE) (wl wh : WO) : WE := fun ρ post => we ρ fun x => wl ρ fun lo => wh ρ fun hi => ∃ u, f x lo hi = some u ∧ post u
def fSlT : U → Option Int → Option Int → Option U
  | .tup us, lo, hi => some (.tup (cutU us lo hi))
  | _, _, _ => none
def fSlL : U → Option Int → Option Int → Option U
  | .lst us, lo, hi => some (.lst (cutU us lo hi))
  | _, _, _ => none
def fSlS : U → Option Int → Option Int → Option U
  | .str s, lo, hi => some (.str (cutS s lo hi))
  | _, _, _ => none
variable {tl th : TO} {wl wh : WO}
theorem v_slT (h : TrE Z te we) (hl : TrO Z tl wl) (hh : TrO Z th wh) : TrE Z (tSl rSlV te tl th) (wSl fSlT we wl wh) := fun σ ρ G H post Q S hw q =>
  h σ ρ G H _ _ S hw fun v x G1 H1 w1 g1 h1 => hl σ ρ G1 H1 _ _ (S.step g1) w1 fun lo G2 H2 w2 g2 => hh σ ρ G2 H2 _ _ ((S.step g1).step g2) w2 fun hi G3 H3 w3 g3 => by
    obtain ⟨u, e, p⟩ := w3
    have S3 := ((S.step g1).step g2).step g3
    have h3 := h1.same (g2.gg.trans g3.gg)
    cases h3 <;> first | cases e | skip
    rename_i a vs us hh' kk z
    refine ⟨a, vs, rfl, S3.vw.tup hh', fun c H' s ec hn => ?_⟩
    have hn' : H3 c = none ∨ G3 c = some (.tup (cutV vs lo hi)) := by
      rcases hn with hn | ⟨rfl, e2⟩
      · exact .inl hn
      · exact .inr (by rw [e2]; exact hh')
    obtain ⟨G', g, gd, sg⟩ := grow S3.vw S3.pl s ec hn'
    exact q _ _ G' H' p (((g1.trans g2).trans g3).trans g) (.tup gd ((kk.cut lo hi).same sg) (Nat.le_trans (cutU_le _ _ _) z))
theorem v_slL {K : PySem.W.Frag} (h : TrB Z te we) (hl : TrO Z tl wl) (hh : TrO Z th wh) : TrF Z (tSl (rSlL K) te tl th) (wSl fSlL we wl wh) := fun σ ρ G H post Q S hw q =>
  h σ ρ G H _ _ S hw fun v x G1 H1 w1 g1 h1 => hl σ ρ G1 H1 _ _ (S.step g1) w1 fun lo G2 H2 w2 g2 => hh σ ρ G2 H2 _ _ ((S.step g1).step g2) w2 fun hi G3 H3 w3 g3 => by
    obtain ⟨u, e, p⟩ := w3
    have S1 := S.step g1
    have S2 := S1.step g2
    have S3 := S2.step g3
    have h3 := (h1.step g2 S1.vw S1.pl).step g3 S2.vw S2.pl
    cases h3 <;> first | cases e | skip
    rename_i a vs us hh' kk z
    refine ⟨a, vs, rfl, SqL.of hh', fun c nc => ?_⟩
    exact q c _ _ G3 _ p (((g1.trans g2).trans g3).trans (Gr.newH S3.vw S3.pl nc)) (free_back S ((g1.trans g2).trans g3) nc) (S3.vw.free nc) upd_same (.lst (kk.cut lo hi) (Nat.le_trans (cutU_le _ _ _) z))
theorem cutS_len (s : Str) (lo hi : Option Int) : (cutS s lo hi).length ≤ s.length := by
  show (Array.size _) ≤ s.cps.size
  unfold cutS
  simp only [List.size_toArray, List.length_take, List.length_drop, Array.length_toList]
  omega
theorem v_slS (h : TrE Z te we) (hl : TrO Z tl wl) (hh : TrO Z th wh) : TrE Z (tSl rSlS te tl th) (wSl fSlS we wl wh) := fun σ ρ G H post Q S hw q =>
  h σ ρ G H _ _ S hw fun v x G1 H1 w1 g1 h1 => hl σ ρ G1 H1 _ _ (S.step g1) w1 fun lo G2 H2 w2 g2 => hh σ ρ G2 H2 _ _ ((S.step g1).step g2) w2 fun hi G3 H3 w3 g3 => by
    obtain ⟨u, e, p⟩ := w3
    cases h1 <;> first | cases e | skip
    rename_i s z
    exact ⟨s, rfl, Nat.le_of_lt (lineN z), q _ _ G3 H3 p ((g1.trans g2).trans g3) (.str _ (Nat.le_trans (cutS_len _ _ _) z))⟩
end
end SV
/-! The value layer: defs called and proved, targets, loops, comprehensions. -/
namespace SV
open PySem PySem.Spec PyProof.Rows L2 SL
/-! ### a def's promise by values -/
abbrev Wf := List U → (U → Prop) → EW → Prop
def spV (b : PT) (n : Nat) (W : Wf) : Sp := fun vs H Q E => ∃ us pp q G post ew, RpL pp G vs us ∧ us.length = n ∧ Vw G H ∧ (Pl b pp q G H) ∧ W us post ew ∧
  (∀ v u G' H', post u → Gr b pp q G H G' H' → Rp pp G' v u → Q v H') ∧ (∀ C fs gs od G' H', ew C gs → Gr b pp q G H G' H' → XdAt G' od fs → RpF pp G' fs gs → E (.ref C) od H')
theorem spV_len {b : PT} {n : Nat} {W : Wf} {vs : List V} {H : Hp} {Q : VK} {E : XK} (h : spV b n W vs H Q E) : vs.length = n := by
  obtain ⟨us, pp, q, G, post, ew, k, l, _⟩ := h
  rw [k.length, l]
theorem start_get {N : List Str} {vs : List V} {us : List U} {pp : Addr} {G : Hp} (k : RpL pp G vs us) {i : Nat} {u : U} (e : (us.map Cell.fz ++ List.replicate (N.length - us.length) Cell.no)[i]? = some (.fz u)) : ∃ v, (L2.start N vs)[i]? = some (some v) ∧ Rp pp G v u := by
  by_cases c : i < us.length
  · rw [List.getElem?_append_left (by rw [List.length_map]; exact c), List.getElem?_map, List.getElem?_eq_getElem c] at e
    have e' : us[i] = u := by simpa using e
    obtain ⟨v, e1, hv⟩ := k.got (i := i) (u := u) (by rw [List.getElem?_eq_getElem c, e'])
    refine ⟨v, ?_, hv⟩
    unfold L2.start
    rw [List.getElem?_append_left (by rw [List.length_map, k.length]; exact c), List.getElem?_map, e1]
    rfl
  · rw [List.getElem?_append_right (by rw [List.length_map]; omega)] at e
    have := List.mem_of_getElem? e
    rw [List.mem_replicate] at this
    exact nomatch this.2
theorem start_ow {N : List Str} {us : List U} {i : Nat} {u : U} (e : (us.map Cell.fz ++ List.replicate (N.length - us.length) Cell.no)[i]? = some (.ow u)) : False := by
  have := List.mem_of_getElem? e
  rw [List.mem_append, List.mem_map, List.mem_replicate] at this
  rcases this with ⟨a, _, z⟩ | ⟨_, z⟩ <;> cases z
section
variable {P : Program} {w : World} {K : PySem.W.Frag} {mg : Str → Option Value} {base : Heap}
theorem body_of {b : PT} {n : Nat} {W : Wf} {N : List Str} {t : TS} {E : XK} (hN : n ≤ N.length)
    (tr : ∀ Z : Zc, Z.b = b → Z.E = E → Z.mays (fun _ => true) → ∃ w, TrS Z t w ∧ ∀ us post, us.length = n → W us post Z.ew → w { nx := fun _ => post .non, rt := post } (us.map Cell.fz ++ List.replicate (N.length - us.length) Cell.no))
    {vs : List V} {H : Hp} {Q : VK} (h : spV b n W vs H Q E) : t { nx := fun _ H' => Q .non H', rt := Q } (L2.start N vs) H := by
  obtain ⟨us, pp, q, G, post, ew, k, l, vw, pl, hw, hq, he⟩ := h
  obtain ⟨w, T, hb⟩ := tr ⟨b, pp, q, G, H, E, ew, N.length, fun _ => none, fun _ => none⟩ rfl rfl fun _ _ => rfl
  have g0 : Gr b pp q G H G H := Gr.refl vw pl
  refine T _ _ (L2.start N vs) _ G H ⟨g0, vw, pl, fun C fs us od G' H' a g x r => he C fs us od G' H' a g x r, ⟨?_, ?_⟩, fun i u e => start_get k e, fun i u e => (start_ow e).elim, (fun _ _ e => nomatch e), (fun _ _ e => nomatch e), fun i j a _ h1 _ => by obtain ⟨u, e⟩ := h1; exact (start_ow e).elim⟩ (hb us post l hw)
    ⟨fun σ ρ G' H' S x p => hq .non .non G' H' p S.gr .non, fun v u G' H' g x r p => hq v u G' H' p g r, fun _ _ _ _ _ _ z => z.elim, fun _ _ _ _ _ _ z => z.elim⟩
  · unfold L2.start
    rw [List.length_append, List.length_map, List.length_replicate, k.length, l]
    show n + (N.length - n) = N.length
    omega
  · rw [List.length_append, List.length_map, List.length_replicate, l]
    show n + (N.length - n) = N.length
    omega
/-- a def that raises nothing -/
theorem okV {b : PT} {n : Nat} {W : Wf} {x qual : Str} {st : Stmt} {f : Addr} {fd : FuncData} {N ps : List Str} {k : Nat} (F : Fun K x qual st f fd) (S : FnScope N ps (defScope st)) (hn : ps.length = n) (hN : n ≤ N.length)
    (hbody : ∀ (cdv : Value) (A : Around) (outer : List Env) (s : Shared) (H : Hp) (E : XK), Room k (A.deeper (envOfC qual (defScope st) s.heap.objs.size f cdv)) →
      ∃ t, PSs (cxOf CX0 P w K mg base N qual (defScope st) f cdv A outer s H E).nox (defBody st) t ∧ ∀ Z : Zc, Z.b = b → Z.E = E → Z.mays (fun _ => true) → ∃ w, TrS Z t w ∧ ∀ us post, us.length = n → W us post Z.ew → w { nx := fun _ => post .non, rt := post } (us.map Cell.fz ++ List.replicate (N.length - us.length) Cell.no)) :
    FnOk P w K mg base CX0 (k + 1) f fd ps (spV b n W) :=
  F.ok S (fun vs H Q E h => (spV_len h).trans hn.symm) fun cdv A outer s H vs Q E hr h =>
    let ⟨t, ht, tr⟩ := hbody cdv A outer s H E hr
    ⟨t, ht, body_of hN tr h⟩
/-- a def that may raise -/
theorem okVX {b : PT} {n : Nat} {W : Wf} {x qual : Str} {st : Stmt} {f : Addr} {fd : FuncData} {N ps : List Str} {k : Nat} (F : Fun K x qual st f fd) (S : FnScope N ps (defScope st)) (hn : ps.length = n) (hN : n ≤ N.length)
    (hbody : ∀ (cdv : Value) (A : Around) (outer : List Env) (s : Shared) (H : Hp) (E : XK), Room k (A.deeper (envOfC qual (defScope st) s.heap.objs.size f cdv)) →
      ∃ t, PSs (cxOf (L2.CX P w) P w K mg base N qual (defScope st) f cdv A outer s H E) (defBody st) t ∧ ∀ Z : Zc, Z.b = b → Z.E = E → Z.mays (fun _ => true) → ∃ w, TrS Z t w ∧ ∀ us post, us.length = n → W us post Z.ew → w { nx := fun _ => post .non, rt := post } (us.map Cell.fz ++ List.replicate (N.length - us.length) Cell.no)) :
    FnOk P w K mg base (L2.CX P w) (k + 1) f fd ps (spV b n W) :=
  F.okX S (fun vs H Q E h => (spV_len h).trans hn.symm) fun cdv A outer s H vs Q E hr h =>
    let ⟨t, ht, tr⟩ := hbody cdv A outer s H E hr
    ⟨t, ht, body_of hN tr h⟩
end
section
variable {Z : Zc} {tA : TA} {wA : WA}
def wCall (n : Nat) (W : Wf) (ew : EW) (wA : WA) : WE := fun ρ post => wA ρ fun us => us.length = n ∧ W us post ew
theorem call_run {b : PT} {n : Nat} {W : Wf} {E : XK} {ew : EW} (hb : PLe b Z.b) (hE : ∀ σ ρ G H, Sv Z σ ρ G H → ∀ C fs gs od G' H', ew C gs → Z.gr0 G H G' H' → XdAt G' od fs → RpF Z.pp G' fs gs → E (.ref C) od H') (h : TrA Z tA wA) :
    TrE Z (tCall (spV b n W) [] E tA) (wCall n W ew wA) := fun σ ρ G H post Q S hw q => h σ ρ G H _ _ S hw fun vs us G1 H1 w1 g1 h1 => by
  obtain ⟨l, w2⟩ := w1
  have S1 := S.step g1
  have up : ∀ {G' H'}, Gr b Z.pp Z.q G1 H1 G' H' → Z.gr G1 H1 G' H' := fun {G' H'} g => g.le hb S1.pl
  show spV b n W (vs ++ []) H1 Q E
  rw [List.append_nil]
  exact ⟨us, Z.pp, Z.q, G1, post, ew, h1, l, S1.vw, S1.pl.le hb, w2, fun v u G' H' p g r => q v u G' H' p (g1.trans (up g)) r, fun C fs gs od G' H' a g x r => hE σ ρ G1 H1 S1 C fs gs od G' H' a (up g) x r⟩
/-- a call that raises nothing -/
theorem v_call {b : PT} {n : Nat} {W : Wf} (hb : PLe b Z.b) (h : TrA Z tA wA) : TrE Z (tCall (spV b n W) [] E0 tA) (wCall n W (fun _ _ => False) wA) := call_run hb (fun _ _ _ _ _ _ _ _ _ _ _ a => a.elim) h
/-- a call that may raise, in a def that may -/
theorem v_callX {b : PT} {n : Nat} {W : Wf} {E : XK} (hE : Z.E = E) (hb : PLe b Z.b) (h : TrA Z tA wA) : TrE Z (tCall (spV b n W) [] E tA) (wCall n W Z.ew wA) :=
  call_run hb (fun σ ρ G H S C fs gs od G' H' a g x r => by rw [← hE]; exact S.ex C fs gs od G' H' a (S.gr.trans g) x r) h
/-! ### targets -/
abbrev WG := U → List Cell → (List Cell → Prop) → Prop
abbrev WGs := List U → List Cell → (List Cell → Prop) → Prop
theorem wipe_at : ∀ (vs : List Nat) (σ : L2.St) (j : Nat), (wipe σ vs)[j]? = if j ∈ vs then (if j < σ.length then some none else none) else σ[j]?
  | [], σ, j => by simp [wipe]
  | v :: vs, σ, j => by
    unfold wipe
    by_cases c : v = j
    · subst c
      rw [if_pos (List.mem_cons_self ..)]
      by_cases l : v < σ.length
      · rw [if_pos l, List.getElem?_set_self (by rw [wipe_length]; exact l)]
      · rw [if_neg l, List.getElem?_eq_none (by rw [List.length_set, wipe_length]; omega)]
    · rw [List.getElem?_set_ne c, wipe_at vs σ j]
      by_cases m : j ∈ vs
      · rw [if_pos m, if_pos (List.mem_cons_of_mem _ m)]
      · rw [if_neg m, if_neg fun z => by rcases List.mem_cons.mp z with h | h; exact c h.symm; exact m h]
theorem wipe_set {vs : List Nat} {σ : L2.St} {i : Nat} {x : Option V} (h : i ∈ vs) : wipe (σ.set i x) vs = wipe σ vs := by
  refine List.ext_getElem? fun j => ?_
  rw [wipe_at, wipe_at, List.length_set]
  by_cases m : j ∈ vs
  · rw [if_pos m, if_pos m]
  · rw [if_neg m, if_neg m, List.getElem?_set_ne fun z => m (by rw [← z]; exact h)]
def TrG (Z : Zc) (g : TG) (w : WG) (vs : List Nat) : Prop := ∀ v u σ ρ G H (post : List Cell → Prop) (Q : L2.St → Hp → Prop), Sv Z σ ρ G H → Rp Z.pp G v u → w u ρ post → (∀ σ' ρ', Sv Z σ' ρ' G H → wipe σ' vs = wipe σ vs → post ρ' → Q σ' H) → g v σ H Q
def TrGs (Z : Zc) (g : TGs) (w : WGs) (vs : List Nat) : Prop := ∀ xs us σ ρ G H (post : List Cell → Prop) (Q : L2.St → Hp → Prop), Sv Z σ ρ G H → RpL Z.pp G xs us → w us ρ post → (∀ σ' ρ', Sv Z σ' ρ' G H → wipe σ' vs = wipe σ vs → post ρ' → Q σ' H) → g xs σ H Q
def wgName (i : Nat) : WG := fun u ρ post => post (ρ.set i (.fz u))
theorem g_name {i : Nat} {vs : List Nat} (h : i ∈ vs) (hi : Z.may i := by exact Zc.may_of (by assumption) (by decide)) : TrG Z (gName i) (wgName i) vs := fun v u σ ρ G H post Q S r hw q => q _ _ (S.set hi r) (wipe_set h) hw
def wgNil : WGs := fun us ρ post => us = [] ∧ post ρ
def wgCons (w : WG) (ws : WGs) : WGs := fun us ρ post => ∃ u r, us = u :: r ∧ w u ρ fun ρ' => ws r ρ' post
theorem gs_nil {vs : List Nat} : TrGs Z gNil wgNil vs := fun xs us σ ρ G H post Q S r hw q => by
  obtain ⟨rfl, p⟩ := hw
  cases r
  exact ⟨rfl, q σ ρ S rfl p⟩
theorem gs_cons {g : TG} {gs : TGs} {w : WG} {ws : WGs} {vs : List Nat} (h : TrG Z g w vs) (hs : TrGs Z gs ws vs) : TrGs Z (gCons g gs) (wgCons w ws) vs := fun xs us σ ρ G H post Q S r hw q => by
  obtain ⟨u, us', rfl, p⟩ := hw
  cases r with
  | cons r1 r2 => exact ⟨_, _, rfl, h _ u σ ρ G H _ _ S r1 p fun σ' ρ' S' e p' => hs _ us' σ' ρ' G H _ _ S' r2 p' fun σ2 ρ2 S2 e2 p2 => q σ2 ρ2 S2 (e2.trans e) p2⟩
def wgTup (n : Nat) (ws : WGs) : WG := fun u ρ post => ∃ us, u = .tup us ∧ us.length = n ∧ ws us ρ post
theorem g_tup {K : PySem.W.Frag} {n : Nat} {gs : TGs} {ws : WGs} {vs : List Nat} (hs : TrGs Z gs ws vs) : TrG Z (gTup K n gs) (wgTup n ws) vs := fun v u σ ρ G H post Q S r hw q => by
  obtain ⟨us, rfl, l, p⟩ := hw
  cases r with
  | tup h k z => exact ⟨_, _, rfl, SqT.of (S.vw.tup h), by rw [k.length, l], hs _ us σ ρ G H _ _ S k p q⟩
def wAsg (we : WE) (wg : WG) : WS := fun V ρ => we ρ fun u => wg u ρ V.nx
theorem s_asg {te : TE} {we : WE} {g : TG} {wg : WG} {vs : List Nat} (h : TrE Z te we) (hg : TrG Z g wg vs) : TrS Z (tAsg te g) (wAsg we wg) := fun V D σ ρ G H S hw B => h σ ρ G H _ _ S hw fun v u G1 H1 p g1 r =>
  hg v u σ ρ G1 H1 _ _ (S.step g1) r p fun σ' ρ' S' _ p' => B.nx σ' ρ' G1 H1 S' g1.ex p'
/-! ### what is walked -/
def TrIat (Z : Zc) (σ : L2.St) (ρ : List Cell) (G H : Hp) (ti : TI) (w : WA) : Prop := ∀ (post : List U → Prop) (R : It → Hp → Prop), w ρ post →
  (∀ J n Gd Y us G1 H1, post us → Z.gr G H G1 H1 → us.length = n → n ≤ 100000 → Walk J n Gd Y → (∀ G' H', Ex G1 H1 G' H' → Vw G' H' → Gd H') →
    (∀ i x G' H' H'', i < n → Ex G1 H1 G' H' → Vw G' H' → (Pl Z.b Z.pp Z.q G' H') → Y i H' x H'' → ∃ u G'', us[i]? = some u ∧ Z.gr G' H' G'' H'' ∧ Rp Z.pp G'' x u) → R J H1) → ti σ H R
def TrI (Z : Zc) (ti : TI) (w : WA) : Prop := ∀ σ ρ G H, Sv Z σ ρ G H → TrIat Z σ ρ G H ti w
def wFor (wi : WA) (wg : WG) (wb : WS) : WS := fun V ρ => wi ρ fun us => ∃ Iv : Nat → List Cell → Prop, Iv 0 ρ ∧
  (∀ (i : Nat) u ρ', us[i]? = some u → Iv i ρ' → wg u ρ' fun ρ2 => wb { V with nx := Iv (i + 1), ct := Iv (i + 1), bk := V.nx } ρ2) ∧ ∀ ρ', Iv us.length ρ' → V.nx ρ'
theorem for_at {ti : TI} {g : TG} {tb : TS} {wi : WA} {wg : WG} {wb : WS} {vs : List Nat} (hg : TrG Z g wg vs) (hb : TrS Z tb wb) {V : V3} {D : Ends} {σ : L2.St} {ρ : List Cell} {G H : Hp} (S : Sv Z σ ρ G H) (hi : TrIat Z σ ρ G H ti wi) (hw : wFor wi wg wb V ρ) (B : Br Z V D G H) : tFor ti g tb D σ H :=
  hi _ _ hw fun J n Gd Y us G1 H1 p g1 hl hz wk hG hY => by
    obtain ⟨Iv, i0, is, ie⟩ := p
    refine for_it wk (fun i σ' H' => ∃ ρ' G', Sv Z σ' ρ' G' H' ∧ Ex G1 H1 G' H' ∧ Iv i ρ') ⟨ρ, G1, S.step g1, Ex.refl, i0⟩ (fun i σ' H' _ ⟨ρ', G', S', x, _⟩ => hG G' H' x S'.vw) (fun i x σ' H' H'' hlt ⟨ρ', G', S', e, iv⟩ y => ?_) (fun σ' H' ⟨ρ', G', S', e, iv⟩ => ?_)
    · obtain ⟨u, G'', eu, g2, r⟩ := hY i x G' H' H'' hlt e S'.vw S'.pl y
      have S2 := S'.step g2
      refine hg x u σ' ρ' G'' H'' _ _ S2 r (is i u ρ' eu iv) fun σ2 ρ2 S3 _ p2 => ?_
      have e2 : Ex G1 H1 G'' H'' := e.trans g2.ex
      exact hb _ _ σ2 ρ2 G'' H'' S3 p2 ⟨fun σ3 ρ3 G3 H3 S4 x3 p3 => ⟨ρ3, G3, S4, e2.trans x3, p3⟩, fun v u G3 H3 g3 x3 => B.rt v u G3 H3 g3 ((g1.ex.trans e2).trans x3), fun σ3 ρ3 G3 H3 S4 x3 p3 => B.nx σ3 ρ3 G3 H3 S4 ((g1.ex.trans e2).trans x3) p3, fun σ3 ρ3 G3 H3 S4 x3 p3 => ⟨ρ3, G3, S4, e2.trans x3, p3⟩⟩
    · rw [← hl] at iv
      exact B.nx σ' ρ' G' H' S' (g1.ex.trans e) (ie ρ' iv)
theorem s_for {ti : TI} {g : TG} {tb : TS} {wi : WA} {wg : WG} {wb : WS} {vs : List Nat} (hi : TrI Z ti wi) (hg : TrG Z g wg vs) (hb : TrS Z tb wb) : TrS Z (tFor ti g tb) (wFor wi wg wb) := fun V D σ ρ G H S hw B => for_at hg hb S (hi σ ρ G H S) hw B
/-! ### comprehensions -/
def wipeR (ρ : List Cell) : List Nat → List Cell
  | [] => ρ
  | v :: vs => (wipeR ρ vs).set v .no
theorem Sv.no {σ : L2.St} {ρ : List Cell} {G H : Hp} (S : Sv Z σ ρ G H) (i : Nat) (hi : Z.may i) : Sv Z (σ.set i none) (ρ.set i .no) G H := by
  have f : ∀ {j : Nat} {c : Cell}, (ρ.set i .no)[j]? = some c → c ≠ .no → j ≠ i ∧ ρ[j]? = some c := fun {j c} e n => by
    rcases set_get e with ⟨_, z⟩ | ⟨h, e⟩
    · exact absurd z.symm n
    · exact ⟨h, e⟩
  refine ⟨S.gr, S.w0, S.p0, S.ex, by simpa using S.ln, fun j u e => ?_, fun j u e => ?_, me_set hi S.me, S.pn, fun j k a n h1 h2 e => ?_⟩
  · obtain ⟨h, e⟩ := f e (fun z => nomatch z)
    rw [List.getElem?_set_ne (Ne.symm h)]
    exact S.fz j u e
  · obtain ⟨h, e⟩ := f e (fun z => nomatch z)
    rw [List.getElem?_set_ne (Ne.symm h)]
    exact S.ow j u e
  · obtain ⟨u1, e1⟩ := h1
    obtain ⟨u2, e2⟩ := h2
    obtain ⟨h1, e1⟩ := f e1 (fun z => nomatch z)
    obtain ⟨h2, e2⟩ := f e2 (fun z => nomatch z)
    rw [List.getElem?_set_ne (Ne.symm h1)] at e
    rw [List.getElem?_set_ne (Ne.symm h2)]
    exact S.dis j k a n ⟨_, e1⟩ ⟨_, e2⟩ e
theorem Sv.wipe {σ : L2.St} {ρ : List Cell} {G H : Hp} (S : Sv Z σ ρ G H) : ∀ vs : List Nat, (∀ v ∈ vs, Z.may v) → Sv Z (L2.wipe σ vs) (wipeR ρ vs) G H
  | [], _ => S
  | v :: vs, h => (Sv.wipe S vs fun u m => h u (List.mem_cons_of_mem _ m)).no v (h v List.mem_cons_self)
def TrTs := TrT
def wYes : WT := fun _ post => post true
theorem v_yes : TrT Z tYes wYes := fun σ ρ G H post Q S hw q => q true G H hw (Gr.refl S.vw S.pl)
def wLc (wi : WA) (wg : WG) (wt : WT) (we : WE) (vs : List Nat) : WE := fun ρ post => wi ρ fun us => ∃ Iv : Nat → List U → Prop, Iv 0 [] ∧
  (∀ (i : Nat) u acc, us[i]? = some u → Iv i acc → wg u (wipeR ρ vs) fun ρ2 => wt ρ2 fun c => if c = true then we ρ2 fun y => Iv (i + 1) (acc ++ [y]) else Iv (i + 1) acc) ∧ ∀ acc, Iv us.length acc → post (.lst acc)
theorem lc_at {ti : TI} {g : TG} {tt : TT} {te : TE} {wi : WA} {wg : WG} {wt : WT} {we : WE} {vs : List Nat} (hg : TrG Z g wg vs) (ht : TrT Z tt wt) (he : TrE Z te we) (h0 : ∀ v ∈ vs, Z.may v) {σ : L2.St} {ρ : List Cell} {G H : Hp} {post : U → Prop} {Q : VK} (S : Sv Z σ ρ G H) (hi : TrIat Z σ ρ G H ti wi) (hw : wLc wi wg wt we vs ρ post)
    (q : ∀ p o u G' H', post u → Z.gr G H G' H' → H p = none → G' p = none → H' p = some o → Ow Z.pp G' o u → Q (.ref p) H') : tLc ti g tt te vs σ H Q :=
  hi _ _ hw fun J n Gd Y us G1 H1 p g1 hl hz wk hG hY D nD => by
    obtain ⟨Iv, i0, is, ie⟩ := p
    have S1 := S.step g1
    have gN := Gr.newH (o := .lst []) S1.vw S1.pl nD
    refine lc_it wk (fun i H' => ∃ G' acc us', Z.gr G1 H1 G' H' ∧ H' D = some (.lst acc) ∧ G' D = none ∧ RpL Z.pp G' acc us' ∧ us'.length ≤ i ∧ Iv i us') ⟨G1, [], [], gN, upd_same, S1.vw.free nD, .nil, Nat.zero_le _, i0⟩ (fun i H' _ ⟨G', acc, us', g', _⟩ => hG G' H' g'.ex g'.vw) (fun i x H' H'' hlt ⟨G', acc, us', g', eD, gD, kA, lA, iv⟩ y => ?_) (fun H' ⟨G', acc, us', g', eD, gD, kA, lA, iv⟩ => ?_)
    · have S' := S1.step g'
      obtain ⟨u, G'', eu, g2, r⟩ := hY i x G' H' H'' hlt g'.ex S'.vw S'.pl y
      have Sw := (S'.step g2).wipe vs h0
      have nDp : Off Z.b Z.pp D := off_none S1.pl nD
      refine hg x u _ _ G'' H'' _ _ Sw r (is i u us' eu iv) fun σ2 ρ2 S3 ew p2 => ⟨ew.trans ?_, ?_⟩
      · refine List.ext_getElem? fun j => ?_
        rw [wipe_at, wipe_at, wipe_length]
        by_cases m : j ∈ vs
        · rw [if_pos m, if_pos m]
        · rw [if_neg m, if_neg m]
      refine ht σ2 ρ2 G'' H'' _ _ S3 p2 fun c G3 H3 p3 g3 => ?_
      obtain ⟨gD2, eD2⟩ := g2.fr D _ nDp eD gD rfl
      obtain ⟨gD3, eD3⟩ := g3.fr D _ nDp eD2 gD2 rfl
      cases c with
      | false => exact iteF ⟨G3, acc, us', (g'.trans g2).trans g3, eD3, gD3, (kA.same g2.gg).same g3.gg, Nat.le_succ_of_le lA, p3⟩
      | true =>
        refine iteT (he σ2 ρ2 G3 H3 _ _ (S3.step g3) p3 fun v yv G4 H4 p4 g4 r4 => ?_)
        obtain ⟨gD4, eD4⟩ := g4.fr D _ nDp eD3 gD3 rfl
        have kA4 := ((kA.same g2.gg).same g3.gg).same g4.gg
        have gt := ((g'.trans g2).trans g3).trans g4
        exact ⟨acc, eD4, lineN (by rw [kA4.length]; omega), G4, acc ++ [v], us' ++ [yv], gr_own gt S1.vw S1.pl nD gD4 _ (.inr (lst_no eD4)), upd_same, gD4, kA4.snoc r4, by rw [List.length_append]; exact Nat.succ_le_succ lA, p4⟩
    · rw [← hl] at iv
      exact q D _ _ G' H' (ie us' iv) (g1.trans g') (free_back S g1 nD) gD eD (.lst kA (Nat.le_trans lA (by omega)))
theorem v_lc {ti : TI} {g : TG} {tt : TT} {te : TE} {wi : WA} {wg : WG} {wt : WT} {we : WE} {vs : List Nat} (hi : TrI Z ti wi) (hg : TrG Z g wg vs) (ht : TrT Z tt wt) (he : TrE Z te we) (h0 : ∀ v ∈ vs, Z.may v := by exact Zc.mayL_of (by assumption) (by decide)) : TrF Z (tLc ti g tt te vs) (wLc wi wg wt we vs) := fun σ ρ G H post Q S hw q => lc_at hg ht he h0 S (hi σ ρ G H S) hw q
end
/-- a comprehension without an if -/
theorem lcI {wg : WG} {u : U} {ρ : List Cell} {A B : List Cell → Prop} (h : wg u ρ A) : wg u ρ fun ρ2 => wYes ρ2 fun c => if c = true then A ρ2 else B ρ2 := by
  have e : (fun ρ2 => wYes ρ2 fun c => if c = true then A ρ2 else B ρ2) = A := funext fun ρ2 => by
    show (if true = true then A ρ2 else B ρ2) = A ρ2
    exact if_pos rfl
  rw [e]
  exact h
theorem take_more {α : Type} {l : List α} {i : Nat} {x : α} (h : l[i]? = some x) : l.take (i + 1) = l.take i ++ [x] := by rw [List.take_add_one, h]; rfl
theorem map_more {α β : Type} (f : α → β) {l : List α} {i : Nat} {x : α} (h : l[i]? = some x) : (l.take (i + 1)).map f = (l.take i).map f ++ [f x] := by rw [take_more h, List.map_append]; rfl
theorem map_step {α β : Type} (f : α → β) {l : List α} {i : Nat} {x : α} {acc : List β} (h : acc = (l.take i).map f) (e : l[i]? = some x) : acc ++ [f x] = (l.take (i + 1)).map f := by rw [h, map_more f e]
theorem map_end {α β : Type} {f : α → β} {l : List α} {acc : List β} (h : acc = (l.take l.length).map f) : acc = l.map f := by rw [h, List.take_length]
theorem fm_more {α β : Type} (f : α → Option β) {l : List α} {i : Nat} {x : α} (h : l[i]? = some x) : (l.take (i + 1)).filterMap f = (l.take i).filterMap f ++ (f x).toList := by
  rw [take_more h, List.filterMap_append, List.filterMap_cons]
  cases f x <;> rfl
theorem fm_step {α β : Type} (f : α → Option β) {l : List α} {i : Nat} {x : α} {y : β} {acc : List β} (h : acc = (l.take i).filterMap f) (e : l[i]? = some x) (q : f x = some y) : acc ++ [y] = (l.take (i + 1)).filterMap f := by rw [h, fm_more f e, q]; rfl
theorem fm_skip {α β : Type} (f : α → Option β) {l : List α} {i : Nat} {x : α} {acc : List β} (h : acc = (l.take i).filterMap f) (e : l[i]? = some x) (q : f x = none) : acc = (l.take (i + 1)).filterMap f := by rw [h, fm_more f e, q]; simp
theorem fm_end {α β : Type} {f : α → Option β} {l : List α} {acc : List β} (h : acc = (l.take l.length).filterMap f) : acc = l.filterMap f := by rw [h, List.take_length]
end SV
/-! The value layer: what is walked, built-in functions, dicts, lists of one's own. -/
namespace SV
open PySem PySem.Spec PyProof.Rows L2 SL
/-! ### over a list, a tuple or a text -/
def iSeq (K : PySem.W.Frag) (tl : TE) : TI := fun σ H R => tl σ H fun x H1 => (∃ a xs, x = .ref a ∧ SqL K H1 a xs ∧ R (Itl K a) H1) ∨ (∃ a xs, x = .ref a ∧ SqT K H1 a xs ∧ R (Itt K a) H1) ∨ ∃ z, x = .str z ∧ R (Its z) H1
theorem pi_seq {X : Cx} {tg l : Expr} {tl : TE} (K : PySem.W.Frag) (hl : PE X l tl) (hK : X.K = K := by rfl) : PI X tg l (iSeq K tl) := by
  subst hK
  refine ⟨fun pins s σ H R I h => thn (hl.run pins s σ H _ I h) fun v s1 hv => ?_⟩
  obtain ⟨_, H1, I1, r1, q⟩ := hv
  have fp : ∀ b, b ∈ [s1.heap.objs.size] → FpOk X pins H1 b := fun b hb => by
    rw [List.mem_singleton.mp hb]
    exact I1.fpOk (Nat.le_refl _) (I1.hok.fresh (Nat.le_refl _))
  have up : ∀ o : Obj, Inv X pins σ H1 { s1 with heap := s1.heap.push o } := fun o => I1.kept (t' := s1.toks) fun b z e => Heap.get?_push_of_some _ e
  rcases q with ⟨a, xs, rfl, hq, q⟩ | ⟨a, xs, rfl, hq, q⟩ | ⟨x, rfl, q⟩
  · cases r1
    obtain ⟨its, _, p, _⟩ := I1.list hq
    exact wpAny_pyIter_list p.isList ⟨_, _, _, _, H1, rfl, up _, turn_list a _, ⟨_, Heap.get?_push_size _ rfl, rfl, rfl⟩, fp, q⟩
  · cases r1
    obtain ⟨its, _, p, _⟩ := I1.tuple hq
    exact wpAny_pyIter_tuple (show s1.heap.IsTuple a its.toArray from p) ⟨_, _, _, _, H1, rfl, up _, turn_tuple a _, ⟨_, Heap.get?_push_size _ rfl, rfl, rfl⟩, fp, q⟩
  · obtain ⟨t, rfl⟩ := r1
    cases ha : x.cps.all (· < 128)
    · exact wpAny_pyIter_wide ha (pi_one (tk := s1.toks) I1 _ (turn_str _ x t "str_iterator" (.inr rfl)) ⟨_, Heap.get?_push_size _ rfl, rfl, rfl⟩ q)
    · exact wpAny_pyIter_ascii ha (pi_one (tk := s1.toks) I1 _ (turn_str _ x t "str_ascii_iterator" (.inl rfl)) ⟨_, Heap.get?_push_size _ rfl, rfl, rfl⟩ q)
def chU (c : Nat) : U := .str ⟨#[c]⟩
/-- the things of a list, a tuple, a text -/
def seqU : U → Option (List U)
  | .lst us => some us
  | .tup us => some us
  | .str s => some (s.cps.toList.map chU)
  | _ => none
section
variable {Z : Zc} {te : TE} {we : WE} {tA : TA} {wA : WA}
def wSeqI (we : WE) : WA := fun ρ post => we ρ fun x => ∃ us, seqU x = some us ∧ post us
theorem i_seq {K : PySem.W.Frag} (h : TrE Z te we) : TrI Z (iSeq K te) (wSeqI we) := fun σ ρ G H S post R hw q => h σ ρ G H _ _ S hw fun v x G1 H1 w1 g1 h1 => by
  obtain ⟨us, e, p⟩ := w1
  cases h1 <;> first | cases e | skip
  · rename_i s z
    refine .inr (.inr ⟨s, rfl, q _ _ _ _ _ G1 H1 p g1 (by rw [List.length_map]; rfl) z walk_str (fun _ _ _ _ => trivial) fun i x G' H' H'' hi s' w' pl y => ?_⟩)
    obtain ⟨rfl, c, ec, rfl⟩ := y
    refine ⟨chU c, G', ?_, Gr.refl w' pl, .str _ (by show (1 : Nat) ≤ 100000; decide)⟩
    rw [List.getElem?_map, Array.getElem?_toList, ec]
    rfl
  · rename_i a vs hh kk z
    refine .inl ⟨a, vs, rfl, SqL.of ((S.step g1).vw.lst hh), q _ _ _ _ _ G1 H1 p g1 kk.length.symm (by rw [kk.length]; exact z) walk_list (fun G' H' s' w' => SqL.of (w'.lst (s'.gg _ _ hh))) fun i x G' H' H'' hi s' w' pl y => ?_⟩
    obtain ⟨rfl, ex⟩ := y
    obtain ⟨u, eu, r⟩ := kk.get ex
    exact ⟨u, G', eu, Gr.refl w' pl, r.same s'.gg⟩
  · rename_i a vs hh kk z
    refine .inr (.inl ⟨a, vs, rfl, SqT.of ((S.step g1).vw.tup hh), q _ _ _ _ _ G1 H1 p g1 kk.length.symm (by rw [kk.length]; exact z) walk_tup (fun G' H' s' w' => SqT.of (w'.tup (s'.gg _ _ hh))) fun i x G' H' H'' hi s' w' pl y => ?_⟩)
    obtain ⟨rfl, ex⟩ := y
    obtain ⟨u, eu, r⟩ := kk.get ex
    exact ⟨u, G', eu, Gr.refl w' pl, r.same s'.gg⟩
/-! ### ranges -/
def upto (lo : Int) (n : Nat) : List U := (List.range n).map fun (k : Nat) => U.int (lo + (k : Int))
theorem upto_len (lo : Int) (n : Nat) : (upto lo n).length = n := by simp [upto]
theorem upto_get {lo : Int} {n i : Nat} (h : i < n) : (upto lo n)[i]? = some (.int (lo + (i : Int))) := by
  unfold upto
  rw [List.getElem?_map, List.getElem?_range h]
  rfl
def wRng1 (wA : WA) : WA := fun ρ post => wA ρ fun us => ∃ j : Int, us = [.int j] ∧ j ≤ 100000 ∧ -(2 ^ 62) ≤ j ∧ post (upto 0 j.toNat)
def wRng2 (wA : WA) : WA := fun ρ post => wA ρ fun us => ∃ i j : Int, us = [.int i, .int j] ∧ (-100000 ≤ i ∧ i ≤ 100000 ∧ -100000 ≤ j ∧ j ≤ 100000 ∧ j - i ≤ 100000) ∧ post (upto i (j - i).toNat)
theorem i_rng1 (h : TrA Z tA wA) : TrI Z (iRng1 tA) (wRng1 wA) := fun σ ρ G H S post R hw q => h σ ρ G H _ _ S hw fun vs us G1 H1 w1 g1 h1 => by
  obtain ⟨j, rfl, hj, hl, p⟩ := w1
  cases h1 with
  | cons r t =>
    cases t
    cases r
    refine ⟨j, rfl, hl, by omega, q _ _ _ _ _ G1 H1 p g1 (upto_len 0 _) (by omega) walk_range (fun _ _ _ _ => trivial) fun i x G' H' H'' hi s' w' pl y => ?_⟩
    obtain ⟨rfl, rfl⟩ := y
    exact ⟨_, G', upto_get hi, Gr.refl w' pl, .int _⟩
theorem i_rng2 (h : TrA Z tA wA) : TrI Z (iRng2 tA) (wRng2 wA) := fun σ ρ G H S post R hw q => h σ ρ G H _ _ S hw fun vs us G1 H1 w1 g1 h1 => by
  obtain ⟨i, j, rfl, ⟨a1, a2, a3, a4, a5⟩, p⟩ := w1
  cases h1 with
  | cons r t =>
    cases t with
    | cons r2 t =>
      cases t
      cases r
      cases r2
      refine ⟨i, j, rfl, ⟨by omega, by omega, by omega, by omega⟩, q _ _ _ _ _ G1 H1 p g1 (upto_len i _) (by omega) walk_range (fun _ _ _ _ => trivial) fun k x G' H' H'' hi s' w' pl y => ?_⟩
      obtain ⟨rfl, rfl⟩ := y
      exact ⟨_, G', upto_get hi, Gr.refl w' pl, .int _⟩
/-! ### pairs: enumerate, zip -/
theorem pair_new {b : PT} {pp q : Addr} {G H : Hp} {T : Addr} {x y : V} {c d : U} (w : Vw G H) (p : Pl b pp q G H) (nT : H T = none) (hx : Rp pp G x c) (hy : Rp pp G y d) :
    ∃ G'', Gr b pp q G H G'' (upd H T (.tup [x, y])) ∧ Rp pp G'' (.ref T) (.tup [c, d]) :=
  ⟨upd G T (.tup [x, y]), Gr.new w p nT, .tup upd_same (.cons (hx.same (same_upd (w.free nT))) (.cons (hy.same (same_upd (w.free nT))) .nil)) (by show 2 ≤ 100000; decide)⟩
def numd : List U → Nat → List U
  | [], _ => []
  | u :: us, k => .tup [.int (k : Int), u] :: numd us (k + 1)
theorem numd_len : ∀ (us : List U) (k : Nat), (numd us k).length = us.length
  | [], _ => rfl
  | _ :: us, k => congrArg (· + 1) (numd_len us (k + 1))
theorem numd_get : ∀ {us : List U} {i k : Nat} {u : U}, us[i]? = some u → (numd us k)[i]? = some (.tup [.int ((k + i : Nat) : Int), u])
  | [], _, _, _, h => by simp at h
  | a :: us, 0, k, u, h => by
    simp at h
    subst h
    rfl
  | a :: us, i + 1, k, u, h => by
    have := numd_get (k := k + 1) (i := i) (by simpa using h : us[i]? = some u)
    rw [show k + (i + 1) = k + 1 + i by omega]
    simpa [numd] using this
def wEnumL (we : WE) : WA := fun ρ post => we ρ fun x => ∃ xs, x = .lst xs ∧ post (numd xs 0)
def wEnumT (we : WE) : WA := fun ρ post => we ρ fun x => ∃ xs, x = .tup xs ∧ post (numd xs 0)
def wEnumS (we : WE) : WA := fun ρ post => we ρ fun x => ∃ s, x = .str s ∧ post (numd (s.cps.toList.map chU) 0)
theorem i_enumL {K : PySem.W.Frag} (h : TrE Z te we) : TrI Z (iEnum K (tCons te tNil)) (wEnumL we) := fun σ ρ G H S post R hw q => h σ ρ G H _ _ S hw fun v x G1 H1 w1 g1 h1 => by
  obtain ⟨xs, rfl, p⟩ := w1
  cases h1 with
  | lst hh kk z =>
    refine ⟨_, _, rfl, SqL.of ((S.step g1).vw.lst hh), q _ _ _ _ _ G1 H1 p g1 (by rw [numd_len, kk.length]) (by rw [kk.length]; exact z) walk_enum (fun G' H' s' w' => SqL.of (w'.lst (s'.gg _ _ hh))) fun i x G' H' H'' hi s' w' pl y => ?_⟩
    obtain ⟨T, u1, u2, rfl, nT, rfl, y1, y2⟩ := y
    cases y1
    obtain ⟨u, eu, r⟩ := kk.get y2
    obtain ⟨G'', g, r'⟩ := pair_new w' pl nT (.int _) (r.same s'.gg)
    exact ⟨_, G'', numd_get eu, g, by rw [Nat.zero_add]; exact r'⟩
theorem i_enumT {K : PySem.W.Frag} (h : TrE Z te we) : TrI Z (iEnumT K (tCons te tNil)) (wEnumT we) := fun σ ρ G H S post R hw q => h σ ρ G H _ _ S hw fun v x G1 H1 w1 g1 h1 => by
  obtain ⟨xs, rfl, p⟩ := w1
  cases h1 with
  | tup hh kk z =>
    refine ⟨_, _, rfl, SqT.of ((S.step g1).vw.tup hh), q _ _ _ _ _ G1 H1 p g1 (by rw [numd_len, kk.length]) (by rw [kk.length]; exact z) walk_enumT (fun G' H' s' w' => SqT.of (w'.tup (s'.gg _ _ hh))) fun i x G' H' H'' hi s' w' pl y => ?_⟩
    obtain ⟨T, u1, u2, rfl, nT, rfl, y1, y2⟩ := y
    cases y1
    obtain ⟨u, eu, r⟩ := kk.get y2
    obtain ⟨G'', g, r'⟩ := pair_new w' pl nT (.int _) (r.same s'.gg)
    exact ⟨_, G'', numd_get eu, g, by rw [Nat.zero_add]; exact r'⟩
theorem i_enumS (h : TrE Z te we) : TrI Z (iEnumS (tCons te tNil)) (wEnumS we) := fun σ ρ G H S post R hw q => h σ ρ G H _ _ S hw fun v x G1 H1 w1 g1 h1 => by
  obtain ⟨s, rfl, p⟩ := w1
  cases h1 with
  | str _ z =>
    refine ⟨s, rfl, q _ _ _ _ _ G1 H1 p g1 (by rw [numd_len, List.length_map]; rfl) z walk_enumS (fun _ _ _ _ => trivial) fun i x G' H' H'' hi s' w' pl y => ?_⟩
    obtain ⟨T, u1, u2, rfl, nT, rfl, y1, y2⟩ := y
    cases y1
    have y2 : (s.cps[i]?.map fun c => V.str ⟨#[c]⟩) = some u2 := y2
    cases ec : s.cps[i]? with
    | none => rw [ec] at y2; cases y2
    | some c =>
      rw [ec] at y2
      cases y2
      obtain ⟨G'', g, r'⟩ := pair_new w' pl nT (.int _) (Rp.str (pp := Z.pp) (G := G') ⟨#[c]⟩ (by show (1 : Nat) ≤ 100000; decide))
      refine ⟨_, G'', numd_get (u := chU c) ?_, g, by rw [Nat.zero_add]; exact r'⟩
      rw [List.getElem?_map, Array.getElem?_toList, ec]
      rfl
def zipU (xs ys : List U) : List U := (xs.zip ys).map fun p => .tup [p.1, p.2]
/-- both lists, or both tuples -/
def wZip (wA : WA) : WA := fun ρ post => wA ρ fun us => ∃ xs ys, (us = [.lst xs, .lst ys] ∨ us = [.tup xs, .tup ys]) ∧ post (zipU xs ys)
theorem zipU_len (xs ys : List U) : (zipU xs ys).length = min xs.length ys.length := by simp [zipU]
theorem zipU_get {xs ys : List U} {i : Nat} {x y : U} (h1 : xs[i]? = some x) (h2 : ys[i]? = some y) : (zipU xs ys)[i]? = some (.tup [x, y]) := by
  unfold zipU
  rw [List.getElem?_map, (List.getElem?_zip_eq_some (z := (x, y))).mpr ⟨h1, h2⟩]
  rfl
theorem i_zip {K : PySem.W.Frag} (h : TrA Z tA wA) : TrI Z (RZ.iZipA K tA) (wZip wA) := fun σ ρ G H S post R hw q => h σ ρ G H _ _ S hw fun vs us G1 H1 w1 g1 h1 => by
  obtain ⟨xs, ys, e, p⟩ := w1
  have S1 := S.step g1
  rcases e with rfl | rfl
  · cases h1 with
    | cons r t =>
      cases t with
      | cons r2 t =>
        cases t
        cases r with
        | lst h1 k1 z1 =>
          cases r2 with
          | lst h2 k2 z2 =>
            rename_i a vs b ws
            refine ⟨a, b, _, _, rfl, .inl ⟨SqL.of (S1.vw.lst h1), SqL.of (S1.vw.lst h2), q _ _ _ _ _ G1 H1 p g1 (zipU_len _ _) (by omega) (walk_zip (by rw [k1.length, k2.length])) (fun G' H' s' w' => ⟨SqL.of (w'.lst (s'.gg _ _ h1)), SqL.of (w'.lst (s'.gg _ _ h2))⟩) fun i x G' H' H'' hi s' w' pl y => ?_⟩⟩
            obtain ⟨T, u1, u2, rfl, nT, rfl, y1, y2⟩ := y
            obtain ⟨c1, e1, r1⟩ := k1.get y1
            obtain ⟨c2, e2, r2⟩ := k2.get y2
            obtain ⟨G'', g, r'⟩ := pair_new w' pl nT (r1.same s'.gg) (r2.same s'.gg)
            exact ⟨_, G'', zipU_get e1 e2, g, r'⟩
  · cases h1 with
    | cons r t =>
      cases t with
      | cons r2 t =>
        cases t
        cases r with
        | tup h1 k1 z1 =>
          cases r2 with
          | tup h2 k2 z2 =>
            rename_i a vs b ws
            refine ⟨a, b, _, _, rfl, .inr ⟨SqT.of (S1.vw.tup h1), SqT.of (S1.vw.tup h2), q _ _ _ _ _ G1 H1 p g1 (zipU_len _ _) (by omega) (walk_zipT (by rw [k1.length, k2.length])) (fun G' H' s' w' => ⟨SqT.of (w'.tup (s'.gg _ _ h1)), SqT.of (w'.tup (s'.gg _ _ h2))⟩) fun i x G' H' H'' hi s' w' pl y => ?_⟩⟩
            obtain ⟨T, u1, u2, rfl, nT, rfl, y1, y2⟩ := y
            obtain ⟨c1, e1, r1⟩ := k1.get y1
            obtain ⟨c2, e2, r2⟩ := k2.get y2
            obtain ⟨G'', g, r'⟩ := pair_new w' pl nT (r1.same s'.gg) (r2.same s'.gg)
            exact ⟨_, G'', zipU_get e1 e2, g, r'⟩
/-! ### built-in functions -/
def TrAB (Z : Zc) (t : TA) (w : WA) : Prop := ∀ σ ρ G H (post : List U → Prop) (Q : List V → Hp → Prop), Sv Z σ ρ G H → w ρ post → (∀ vs us G' H', post us → Z.gr G H G' H' → Paired (Bp Z.pp G' H') vs us → Q vs H') → t σ H Q
theorem v_nilB : TrAB Z tNil wNil := fun σ ρ G H post Q S hw q => q [] [] G H hw (Gr.refl S.vw S.pl) .nil
theorem v_consB {ta : TE} {wa : WE} {tr : TA} {wr : WA} (ha : TrB Z ta wa) (hr : TrAB Z tr wr) : TrAB Z (tCons ta tr) (wCons wa wr) := fun σ ρ G H post Q S hw q =>
  ha σ ρ G H _ _ S hw fun v x G1 H1 w1 g1 h1 => hr σ ρ G1 H1 _ _ (S.step g1) w1 fun vs us G2 H2 w2 g2 h2 => q _ _ G2 H2 w2 (g1.trans g2) (.cons (h1.step g2 (S.step g1).vw (S.step g1).pl) h2)
abbrev FB := List U → (U → Prop) → Prop
def CallOk (r : List V → Hp → VK → Prop) (F : FB) : Prop := ∀ (b : PT) (pp q : Addr) (G H : Hp) (vs : List V) (us : List U) (Q : VK) (post : U → Prop), Vw G H → (Pl b pp q G H) → Paired (Bp pp G H) vs us → F us post →
  (∀ v u G' H', post u → Gr b pp q G H G' H' → Rp pp G' v u → Q v H') → r vs H Q
def CallOkF (r : List V → Hp → VK → Prop) (F : FB) : Prop := ∀ (b : PT) (pp q : Addr) (G H : Hp) (vs : List V) (us : List U) (Q : VK) (post : U → Prop), Vw G H → (Pl b pp q G H) → Paired (Bp pp G H) vs us → F us post →
  (∀ p o u H', post u → Gr b pp q G H G H' → H p = none → G p = none → H' p = some o → Ow pp G o u → Q (.ref p) H') → r vs H Q
def wCB (F : FB) (wA : WA) : WE := fun ρ post => wA ρ fun us => F us post
theorem v_cb {r : List V → Hp → VK → Prop} {F : FB} (o : CallOk r F) (h : TrAB Z tA wA) : TrE Z (tCB r tA) (wCB F wA) := fun σ ρ G H post Q S hw q => h σ ρ G H _ _ S hw fun vs us G1 H1 w1 g1 h1 =>
  o Z.b Z.pp Z.q G1 H1 vs us Q post (S.step g1).vw (S.step g1).pl h1 w1 fun v u G' H' p g r => q v u G' H' p (g1.trans g) r
theorem v_cbF {r : List V → Hp → VK → Prop} {F : FB} (o : CallOkF r F) (h : TrAB Z tA wA) : TrF Z (tCB r tA) (wCB F wA) := fun σ ρ G H post Q S hw q => h σ ρ G H _ _ S hw fun vs us G1 H1 w1 g1 h1 =>
  o Z.b Z.pp Z.q G1 H1 vs us Q post (S.step g1).vw (S.step g1).pl h1 w1 fun p o' u H' pu g np gp hp ho => q p o' u G1 H' pu (g1.trans g) (free_back S g1 np) gp hp ho
end
end SV
/-! The value layer: built-in functions, dicts, lists of one's own. -/
namespace SV
open PySem PySem.Spec PyProof.Rows L2 SL
/-! ### calls of built-in functions -/
section
variable {X : Cx}
theorem CallR.or {f : Value} {r r' : List V → Hp → VK → Prop} (h : CallR X f r) (h' : CallR X f r') : CallR X f (fun xs H Q => r xs H Q ∨ r' xs H Q) := by
  intro pins s σ H xs us Q I rv z
  rcases z with z | z
  · exact h pins s σ H xs us Q I rv z
  · exact h' pins s σ H xs us Q I rv z
def rLenV (K : PySem.W.Frag) : List V → Hp → VK → Prop := fun xs H Q => (∃ x n, xs = [x] ∧ LenV K x H n ∧ Q (.int n) H) ∨ ∃ a kvs, xs = [V.ref a] ∧ Rd H a (.dK kvs) ∧ Q (.int kvs.length) H
theorem call_lenDR : CallR X (.builtin "len") (fun xs H Q => ∃ a kvs, xs = [V.ref a] ∧ Rd H a (.dK kvs) ∧ Q (.int kvs.length) H) := by
  intro pins s σ H xs us Q I r h
  obtain ⟨a, kvs, rfl, ha, q⟩ := h
  obtain ⟨u, rfl, ru⟩ := vals1 r
  cases ru
  exact d_len I ha fun t s' I' => ⟨.int kvs.length, H, I', ⟨t, rfl⟩, q⟩
theorem call_lenV (K : PySem.W.Frag) (h : X.K = K := by rfl) : CallR X (.builtin "len") (rLenV K) := by subst h; exact CallR.or call_len call_lenDR
theorem cr_sumK (K : PySem.W.Frag) (hc : X.calm = true) (h : X.K = K := by rfl) : CallR X (.builtin "sum") (rSum K) := by subst h; exact cr_sum hc
theorem cr_allK (K : PySem.W.Frag) (hc : X.calm = true) (h : X.K = K := by rfl) : CallR X (.builtin "all") (rAll K) := by subst h; exact cr_all hc
theorem cr_anyK (K : PySem.W.Frag) (hc : X.calm = true) (h : X.K = K := by rfl) : CallR X (.builtin "any") (rAny K) := by subst h; exact cr_any hc
theorem cr_maxK (K : PySem.W.Frag) (hc : X.calm = true) (h : X.K = K := by rfl) : CallR X (.builtin "max") (rMax K) := by subst h; exact cr_max hc
theorem cr_minK (K : PySem.W.Frag) (hc : X.calm = true) (h : X.K = K := by rfl) : CallR X (.builtin "min") (rMin K) := by subst h; exact cr_min hc
theorem cr_sortIK (K : PySem.W.Frag) (h : X.K = K := by rfl) : CallR X (.builtin "sorted") (rSortedI K) := by subst h; exact cr_sortedI
theorem cr_sortSK (K : PySem.W.Frag) (h : X.K = K := by rfl) : CallR X (.builtin "sorted") (rSortedS K) := by subst h; exact cr_sortedS
end
def lenU : U → Option Nat
  | .lst us => some us.length
  | .tup us => some us.length
  | .str s => some s.length
  | .dic kvs => some kvs.length
  | _ => none
def bLen : FB := fun us post => ∃ x n, us = [x] ∧ lenU x = some n ∧ post (.int (n : Int))
theorem b_len {K : PySem.W.Frag} : CallOk (rLenV K) bLen := by
  intro b pp q G H vs us Q post w p hv hF k
  obtain ⟨x, n, rfl, e, hp⟩ := hF
  cases hv with
  | cons r t =>
    cases t
    cases r <;> first | cases e | skip
    · rename_i s z
      exact .inl ⟨_, _, rfl, ⟨Nat.le_of_lt (lineN z), rfl⟩, k _ _ G H hp (Gr.refl w p) (.int _)⟩
    · rename_i a vs us h kk z
      refine .inl ⟨_, _, rfl, .inl ⟨_, SqL.of h, kk.length.symm⟩, k _ _ G H hp (Gr.refl w p) (.int _)⟩
    · rename_i a vs us h kk z
      refine .inl ⟨_, _, rfl, .inr ⟨_, SqT.of (w.tup h), kk.length.symm⟩, k _ _ G H hp (Gr.refl w p) (.int _)⟩
    · rename_i a kvs kus h kk z
      refine .inr ⟨a, kvs, rfl, h, ?_⟩
      rw [kk.length]
      exact k _ _ G H hp (Gr.refl w p) (.int _)
/-! ### isinstance -/
structure KindC (K : PySem.W.Frag) (C : Addr) : Prop where
  ic : C8.InsC K C
  no : ∀ T ∈ ["int", "bool", "str", "list", "tuple", "dict"], PySem.W.kitOne K (.ref C) (.type T) = some false
/-- whether a thing is of the built-in class -/
def isK (T : String) : U → Bool
  | .non => false
  | .bl _ => T == "bool" || T == "int"
  | .int _ => T == "int"
  | .str _ => T == "str"
  | .lst _ => T == "list"
  | .tup _ => T == "tuple"
  | .dic _ => T == "dict"
  | .dit _ => T == "dict"
  | _ => false
/-- what isinstance may be asked of -/
def asks (cs : List Addr) : U → Prop
  | .ins C _ => C ∈ cs
  | .pool => False
  | .ty _ => False
  | .dit _ => False
  | _ => True
theorem isK_kit {K : PySem.W.Frag} {cs : List Addr} (hc : ∀ C ∈ cs, KindC K C) {pp : Addr} {G H : Hp} {v : V} {x : U} (r : Bp pp G H v x) (w : Vw G H) (ha : asks cs x) : ∃ t, TyX K H v t ∧ ∀ T ∈ ["int", "bool", "str", "list", "tuple", "dict"], PySem.W.kitOne K t (.type T) = some (isK T x) := by
  have six : ∀ {n : String} {f : String → Bool}, (∀ T ∈ ["int", "bool", "str", "list", "tuple", "dict"], kitB n T = some (f T)) → ∀ T ∈ ["int", "bool", "str", "list", "tuple", "dict"], PySem.W.kitOne K (.type n) (.type T) = some (f T) := fun h T hT => kit_ty (h T hT)
  cases r with
  | non => exact ⟨_, .base .non, six (by decide +kernel)⟩
  | bl b => exact ⟨_, .base (.bl b), six (f := fun T => T == "bool" || T == "int") (by decide +kernel)⟩
  | int i => exact ⟨_, .base (.int i), six (f := fun T => T == "int") (by decide +kernel)⟩
  | str s _ => exact ⟨_, .base (.str s), six (f := fun T => T == "str") (by decide +kernel)⟩
  | lst h _ _ => exact ⟨_, .base (.lst h), six (f := fun T => T == "list") (by decide +kernel)⟩
  | tup h _ _ => exact ⟨_, .base (.tup (w.tup h)), six (f := fun T => T == "tuple") (by decide +kernel)⟩
  | dic h _ _ =>
    refine ⟨.type "dict", ?_, six (f := fun T => T == "dict") (by decide +kernel)⟩
    rcases h with h | ⟨ob, h⟩
    · exact .base (.dK h)
    · exact .fDict h
  | dit _ _ _ => exact ha.elim
  | ins h _ =>
    have c := hc _ ha
    exact ⟨_, .base (.ins h c.ic.cl c.ic.ha c.ic.hn c.ic.htk c.ic.hm), c.no⟩
  | pool => exact ha.elim
  | ty _ => exact ha.elim
def bIsi (cs : List Addr) (T : String) : FB := fun us post => ∃ x, us = [x, .ty T] ∧ asks cs x ∧ post (.bl (isK T x))
theorem b_isi {K : PySem.W.Frag} {T : String} (hT : T ∈ ["int", "bool", "str", "list", "tuple", "dict"] := by decide) (cs : List Addr := []) (hc : ∀ C ∈ cs, KindC K C := by exact fun _ z => nomatch z) : CallOk (rIsi K) (bIsi cs T) := by
  intro b pp q G H vs us Q post w p hv hF k
  obtain ⟨x, rfl, ha, hp⟩ := hF
  cases hv with
  | cons r t =>
    cases t with
    | cons r2 t =>
      cases t
      cases r2
      obtain ⟨ty, h1, h2⟩ := isK_kit hc r w ha
      exact ⟨_, _, ty, _, _, rfl, .ty _, h1, h2 T hT, k _ _ G H hp (Gr.refl w p) (.bl _)⟩
theorem Paired.two {α β : Type} {F : α → β → Prop} {xs : List α} {y1 y2 : β} (h : Paired F xs [y1, y2]) : ∃ x1 x2, xs = [x1, x2] ∧ F x1 y1 ∧ F x2 y2 := by
  cases h with
  | cons a t => cases t with
    | cons b t => cases t; exact ⟨_, _, rfl, a, b⟩
def bIsi2 (cs : List Addr) (T1 T2 : String) : FB := fun us post => ∃ x, us = [x, .tup [.ty T1, .ty T2]] ∧ asks cs x ∧ post (.bl (isK T1 x || isK T2 x))
theorem b_isi2 {K : PySem.W.Frag} {T1 T2 : String} (h1 : T1 ∈ ["int", "bool", "str", "list", "tuple", "dict"] := by decide) (h2 : T2 ∈ ["int", "bool", "str", "list", "tuple", "dict"] := by decide) (cs : List Addr := []) (hc : ∀ C ∈ cs, KindC K C := by exact fun _ z => nomatch z) : CallOk (rIsiT K) (bIsi2 cs T1 T2) := by
  intro b pp q G H vs us Q post w p hv hF k
  obtain ⟨x, rfl, ha, hp⟩ := hF
  obtain ⟨x1, x2, rfl, r, r2⟩ := Paired.two hv
  cases r2 with
  | tup h kk z =>
    cases kk with
    | cons a1 kk =>
      cases kk with
      | cons a2 kk =>
        cases kk
        cases a1
        cases a2
        obtain ⟨ty, z1, z2⟩ := isK_kit hc r w ha
        have any : ∀ {t : Value} {A B : String} {a b : Bool}, PySem.W.kitOne K t (.type A) = some a → PySem.W.kitOne K t (.type B) = some b → PySem.W.kitAny K t [.type A, .type B] = some (a || b) := fun {t A B a b} h1 h2 => by
          cases a with
          | true => exact kitAny_cons h1 (fun z => nomatch z) fun _ => rfl
          | false =>
            refine kitAny_cons h1 (fun _ => ?_) fun z => nomatch z
            cases b with
            | true => exact kitAny_cons h2 (fun z => nomatch z) fun _ => rfl
            | false => exact kitAny_cons h2 (fun _ => kitAny_nil) fun z => nomatch z
        exact ⟨_, _, _, ty, _, _, rfl, w.tup h, .cons (.ty _) (.cons (.ty _) .nil), z1, any (z2 T1 h1) (z2 T2 h2), k _ _ G H hp (Gr.refl w p) (.bl _)⟩
/-! ### tuple, list, int, sum, all, any, min, max, sorted -/
abbrev rTupleOf (K : PySem.W.Frag) : List V → Hp → VK → Prop := fun xs H Q => ∃ p ys, xs = [.ref p] ∧ ((SqL K H p ys ∧ ∀ l, H l = none → Q (.ref l) (upd H l (.tup ys))) ∨ (SqT K H p ys ∧ Q (.ref p) H))
def bTuple : FB := fun us post => ∃ xs, (us = [.lst xs] ∨ us = [.tup xs]) ∧ post (.tup xs)
theorem b_tuple {K : PySem.W.Frag} : CallOk (rTupleOf K) bTuple := by
  intro b pp q G H vs us Q post w p hv hF k
  obtain ⟨xs, e, hp⟩ := hF
  rcases e with rfl | rfl
  · cases hv with
    | cons r t =>
      cases t
      cases r with
      | lst h kk z => exact ⟨_, _, rfl, .inl ⟨SqL.of h, fun l nl => k _ _ _ _ hp (Gr.new w p nl) (.tup upd_same (kk.same (same_upd (w.free nl))) z)⟩⟩
  · cases hv with
    | cons r t =>
      cases t
      cases r with
      | tup h kk z => exact ⟨_, _, rfl, .inr ⟨SqT.of (w.tup h), k _ _ G H hp (Gr.refl w p) (.tup h kk z)⟩⟩
abbrev rListOf (K : PySem.W.Frag) : List V → Hp → VK → Prop := fun xs H Q => ∃ p ys, xs = [.ref p] ∧ (SqL K H p ys ∨ SqT K H p ys) ∧ ∀ l, H l = none → Q (.ref l) (upd H l (.lst ys))
def bList : FB := fun us post => ∃ xs, (us = [.lst xs] ∨ us = [.tup xs]) ∧ post (.lst xs)
theorem b_list {K : PySem.W.Frag} : CallOkF (rListOf K) bList := by
  intro b pp q G H vs us Q post w p hv hF k
  obtain ⟨xs, e, hp⟩ := hF
  rcases e with rfl | rfl
  · cases hv with
    | cons r t =>
      cases t
      cases r with
      | lst h kk z => exact ⟨_, _, rfl, .inl (SqL.of h), fun l nl => k _ _ _ _ hp (Gr.newH w p nl) nl (w.free nl) upd_same (.lst kk z)⟩
  · cases hv with
    | cons r t =>
      cases t
      cases r with
      | tup h kk z => exact ⟨_, _, rfl, .inr (SqT.of (w.tup h)), fun l nl => k _ _ _ _ hp (Gr.newH w p nl) nl (w.free nl) upd_same (.lst kk z)⟩
theorem RpL.ints {pp : Addr} {G : Hp} : ∀ {vs : List V} {ns : List Int}, RpL pp G vs (ns.map U.int) → vs = ns.map V.int
  | _, [], h => by cases h; rfl
  | _, n :: ns, h => by
    cases h with
    | cons a t =>
      cases a
      rw [RpL.ints t]
      rfl
theorem RpL.toInts {pp : Addr} {G : Hp} : ∀ ns : List Int, RpL pp G (ns.map V.int) (ns.map U.int)
  | [] => .nil
  | n :: ns => .cons (.int n) (RpL.toInts ns)
theorem RpL.bls {pp : Addr} {G : Hp} : ∀ {vs : List V} {ns : List Bool}, RpL pp G vs (ns.map U.bl) → vs = ns.map V.bl
  | _, [], h => by cases h; rfl
  | _, n :: ns, h => by
    cases h with
    | cons a t =>
      cases a
      rw [RpL.bls t]
      rfl
theorem RpL.strs' {pp : Addr} {G : Hp} : ∀ {vs : List V} {ns : List Str}, RpL pp G vs (ns.map U.str) → vs = ns.map V.str ∧ ∀ x ∈ ns, x.length ≤ 100000
  | _, [], h => by cases h; exact ⟨rfl, fun _ z => nomatch z⟩
  | _, n :: ns, h => by
    cases h with
    | cons a t =>
      cases a with
      | str _ z =>
        obtain ⟨h1, h2⟩ := RpL.strs' t
        rw [h1]
        exact ⟨rfl, fun x hx => by rcases List.mem_cons.mp hx with rfl | hx; exact z; exact h2 x hx⟩
theorem RpL.toStrs {pp : Addr} {G : Hp} : ∀ {ns : List Str}, (∀ x ∈ ns, x.length ≤ 100000) → RpL pp G (ns.map V.str) (ns.map U.str)
  | [], _ => .nil
  | n :: ns, h => .cons (.str n (h n (List.mem_cons_self ..))) (RpL.toStrs fun x hx => h x (List.mem_cons_of_mem _ hx))
def bSum : FB := fun us post => ∃ ns : List Int, us = [.lst (ns.map U.int)] ∧ post (.int ns.sum)
theorem b_sum {K : PySem.W.Frag} : CallOk (rSum K) bSum := by
  intro b pp q G H vs us Q post w p hv hF k
  obtain ⟨ns, rfl, hp⟩ := hF
  cases hv with
  | cons r t =>
    cases t
    cases r with
    | lst h kk z =>
      obtain rfl := kk.ints
      exact ⟨_, ns, rfl, SqL.of h, k _ _ G H hp (Gr.refl w p) (.int _)⟩
def bAll : FB := fun us post => ∃ ns : List Bool, us = [.lst (ns.map U.bl)] ∧ post (.bl (ns.all id))
theorem b_all {K : PySem.W.Frag} : CallOk (rAll K) bAll := by
  intro b pp q G H vs us Q post w p hv hF k
  obtain ⟨ns, rfl, hp⟩ := hF
  cases hv with
  | cons r t =>
    cases t
    cases r with
    | lst h kk z =>
      obtain rfl := kk.bls
      exact ⟨_, ns, rfl, SqL.of h, k _ _ G H hp (Gr.refl w p) (.bl _)⟩
def bAny : FB := fun us post => ∃ ns : List Bool, us = [.lst (ns.map U.bl)] ∧ post (.bl (ns.any id))
theorem b_any {K : PySem.W.Frag} : CallOk (rAny K) bAny := by
  intro b pp q G H vs us Q post w p hv hF k
  obtain ⟨ns, rfl, hp⟩ := hF
  cases hv with
  | cons r t =>
    cases t
    cases r with
    | lst h kk z =>
      obtain rfl := kk.bls
      exact ⟨_, ns, rfl, SqL.of h, k _ _ G H hp (Gr.refl w p) (.bl _)⟩
def bMaxL : FB := fun us post => ∃ ns : List Int, us = [.lst (ns.map U.int)] ∧ 0 < ns.length ∧ ∀ m, m ∈ ns → (∀ y ∈ ns, y ≤ m) → post (.int m)
theorem b_maxL {K : PySem.W.Frag} : CallOk (rMax K) bMaxL := by
  intro b pp q G H vs us Q post w p hv hF k
  obtain ⟨ns, rfl, hl, hp⟩ := hF
  cases hv with
  | cons r t =>
    cases t
    cases r with
    | lst h kk z =>
      obtain rfl := kk.ints
      exact ⟨_, ns, rfl, SqL.of h, hl, fun m h1 h2 => k _ _ G H (hp m h1 h2) (Gr.refl w p) (.int _)⟩
def bMinL : FB := fun us post => ∃ ns : List Int, us = [.lst (ns.map U.int)] ∧ 0 < ns.length ∧ ∀ m, m ∈ ns → (∀ y ∈ ns, m ≤ y) → post (.int m)
theorem b_minL {K : PySem.W.Frag} : CallOk (rMin K) bMinL := by
  intro b pp q G H vs us Q post w p hv hF k
  obtain ⟨ns, rfl, hl, hp⟩ := hF
  cases hv with
  | cons r t =>
    cases t
    cases r with
    | lst h kk z =>
      obtain rfl := kk.ints
      exact ⟨_, ns, rfl, SqL.of h, hl, fun m h1 h2 => k _ _ G H (hp m h1 h2) (Gr.refl w p) (.int _)⟩
def bMin2 : FB := fun us post => ∃ i j, us = [.int i, .int j] ∧ post (.int (if j < i then j else i))
theorem b_min2 : CallOk (fun xs H Q => ∃ i j, xs = [.int i, .int j] ∧ Q (.int (if j < i then j else i)) H) bMin2 := by
  intro b pp q G H vs us Q post w p hv hF k
  obtain ⟨i, j, rfl, hp⟩ := hF
  obtain ⟨x1, x2, rfl, r, r2⟩ := Paired.two hv
  cases r
  cases r2
  exact ⟨i, j, rfl, k _ _ G H hp (Gr.refl w p) (.int _)⟩
def bMax2 : FB := fun us post => ∃ i j, us = [.int i, .int j] ∧ post (.int (if j > i then j else i))
theorem b_max2 : CallOk (fun xs H Q => ∃ i j, xs = [.int i, .int j] ∧ Q (.int (if j > i then j else i)) H) bMax2 := by
  intro b pp q G H vs us Q post w p hv hF k
  obtain ⟨i, j, rfl, hp⟩ := hF
  obtain ⟨x1, x2, rfl, r, r2⟩ := Paired.two hv
  cases r
  cases r2
  exact ⟨i, j, rfl, k _ _ G H hp (Gr.refl w p) (.int _)⟩
def bInt1 : FB := fun us post => (∃ i, us = [.int i] ∧ post (.int i)) ∨ ∃ k, us = [.bl k] ∧ post (.int (if k then 1 else 0))
theorem b_int1 : CallOk (fun xs H Q => (∃ i, xs = [.int i] ∧ Q (.int i) H) ∨ ∃ k, xs = [.bl k] ∧ Q (.int (if k then 1 else 0)) H) bInt1 := by
  intro b pp q G H vs us Q post w p hv hF k
  rcases hF with ⟨i, rfl, hp⟩ | ⟨i, rfl, hp⟩
  · cases hv with
    | cons r t =>
      cases t
      cases r
      exact .inl ⟨i, rfl, k _ _ G H hp (Gr.refl w p) (.int _)⟩
  · cases hv with
    | cons r t =>
      cases t
      cases r
      exact .inr ⟨i, rfl, k _ _ G H hp (Gr.refl w p) (.int _)⟩
def bSortI : FB := fun us post => ∃ ns : List Int, us = [.lst (ns.map U.int)] ∧ ∀ ms : List Int, ms.Perm ns → ms.Pairwise (· ≤ ·) → post (.lst (ms.map U.int))
theorem b_sortI {K : PySem.W.Frag} : CallOkF (rSortedI K) bSortI := by
  intro b pp q G H vs us Q post w p hv hF k
  obtain ⟨ns, rfl, hp⟩ := hF
  cases hv with
  | cons r t =>
    cases t
    cases r with
    | lst h kk z =>
      obtain rfl := kk.ints
      refine ⟨_, ns, rfl, SqL.of h, fun ms d pm pw nd => k d _ _ _ (hp ms pm pw) (Gr.newH w p nd) nd (w.free nd) upd_same (.lst (RpL.toInts ms) ?_)⟩
      rw [List.length_map, pm.length_eq]
      rw [List.length_map] at z
      exact z
def bSortS : FB := fun us post => ∃ ns : List Str, us = [.lst (ns.map U.str)] ∧ ns.length < 64 ∧ ∀ ms : List Str, ms.Perm ns → sortedS ms = true → post (.lst (ms.map U.str))
theorem b_sortS {K : PySem.W.Frag} : CallOkF (rSortedS K) bSortS := by
  intro b pp q G H vs us Q post w p hv hF k
  obtain ⟨ns, rfl, hl, hp⟩ := hF
  cases hv with
  | cons r t =>
    cases t
    cases r with
    | lst h kk z =>
      obtain ⟨rfl, hz⟩ := kk.strs'
      refine ⟨_, ns, rfl, SqL.of h, hl, fun ms d pm pw nd => k d _ _ _ (hp ms pm pw) (Gr.newH w p nd) nd (w.free nd) upd_same (.lst (RpL.toStrs fun x hx => hz x (pm.mem_iff.mp hx)) ?_)⟩
      rw [List.length_map, pm.length_eq]
      rw [List.length_map] at z
      exact z
/-! ### lists of one's own -/
section
variable {Z : Zc} {tA : TA} {wA : WA} {te : TE} {we : WE}
theorem ow_lst {Z : Zc} {σ : L2.St} {ρ : List Cell} {G H : Hp} (S : Sv Z σ ρ G H) {i : Nat} {us : List U} (e : ρ[i]? = some (.ow (.lst us))) : ∃ a vs, σ[i]? = some (some (.ref a)) ∧ H a = some (.lst vs) ∧ RpL Z.pp G vs us ∧ us.length ≤ 100000 := by
  obtain ⟨a, o, e1, h1, g1, z1, ho⟩ := S.ow i _ e
  cases ho with
  | lst k z => exact ⟨a, _, e1, h1, k, z⟩
theorem ow_ex {Z : Zc} {σ : L2.St} {ρ : List Cell} {G H : Hp} (S : Sv Z σ ρ G H) {i : Nat} {u : U} {a : Addr} {o : HO} (e : ρ[i]? = some (.ow u)) (ha : σ[i]? = some (some (.ref a))) : Ex G H G (upd H a o) := by
  obtain ⟨a1, o1, q1, h1, g1, z1, w1⟩ := S.ow i u e
  rw [ha] at q1
  cases q1
  exact ⟨Same.refl _, fun b x e => .inl (upd_ne (ne_of_none e g1))⟩
/-- xs.append(e) -/
def wAppend (i : Nat) (we : WE) : WS := fun V ρ => ∃ us, ρ[i]? = some (.ow (.lst us)) ∧ us.length < 100000 ∧ we ρ fun u => V.nx (ρ.set i (.ow (.lst (us ++ [u]))))
theorem s_append {K : PySem.W.Frag} {i : Nat} (h : TrE Z te we) : TrS Z (tDrop (tBM K "list" rAppend (tVar i) (tCons te tNil))) (wAppend i we) := fun V D σ ρ G H S hw B => by
  obtain ⟨us, e, hl, p⟩ := hw
  obtain ⟨a, vs, e1, h1, _, _⟩ := ow_lst S e
  refine ⟨_, e1, .inl ⟨rfl, vs, SqL.of h1⟩, h σ ρ G H _ _ S p fun v u G1 H1 p1 g1 r1 => ?_⟩
  have S1 := S.step g1
  obtain ⟨a', vs', e1', h1', k', z'⟩ := ow_lst S1 e
  rw [e1] at e1'
  cases e1'
  refine ⟨a, vs', v, rfl, rfl, h1', lineN (by rw [k'.length]; omega), ?_⟩
  exact B.nx _ _ G1 _ (S1.put e e1 (.lst (k'.snoc r1) (by rw [List.length_append]; exact hl))) (g1.ex.trans (ow_ex S1 e e1)) p1
/-- xs[i] = e -/
def wSetIx (i : Nat) (wi we : WE) : WS := fun V ρ => ∃ us, ρ[i]? = some (.ow (.lst us)) ∧ we ρ fun u => wi ρ fun x => ∃ n j, x = .int n ∧ ixN us.length n = some j ∧ V.nx (ρ.set i (.ow (.lst (us.set j u))))
theorem s_setIx {i : Nat} {ti : TE} {wi : WE} (h : TrE Z te we) (hi : TrE Z ti wi) : TrS Z (tAsg te (gSub (tVar i) ti rSetL)) (wSetIx i wi we) := fun V D σ ρ G H S hw B => by
  obtain ⟨us, e, p⟩ := hw
  obtain ⟨a, vs, e1, h1, _, _⟩ := ow_lst S e
  refine h σ ρ G H _ _ S p fun v u G1 H1 p1 g1 r1 => ⟨_, e1, hi σ ρ G1 H1 _ _ (S.step g1) p1 fun iv x G2 H2 p2 g2 r2 => ?_⟩
  obtain ⟨n, j, rfl, hj, p3⟩ := p2
  cases r2
  have S2 := (S.step g1).step g2
  obtain ⟨a', vs', e1', h1', k', z'⟩ := ow_lst S2 e
  rw [e1] at e1'
  cases e1'
  refine ⟨a, vs', n, j, rfl, rfl, h1', by rw [k'.length]; exact hj, ?_⟩
  exact B.nx _ _ G2 _ (S2.put e e1 (.lst (k'.set (r1.same g2.gg) j) (by rw [List.length_set]; exact z'))) ((g1.ex.trans g2.ex).trans (ow_ex S2 e e1)) p3
/-- xs.insert(i, e) -/
abbrev rInsert : V → List V → Hp → VK → Prop := fun x vs H Q => ∃ (l : Addr) (xs : List V) (i : Int) (y : V), x = .ref l ∧ vs = [.int i, y] ∧ H l = some (.lst xs) ∧ xs.length < sizeLine ∧ 0 ≤ i ∧ i < 2 ^ 63 ∧ Q .non (upd H l (.lst (xs.take i.toNat ++ [y] ++ xs.drop i.toNat)))
def wInsert (i : Nat) (wi we : WE) : WS := fun V ρ => ∃ us, ρ[i]? = some (.ow (.lst us)) ∧ us.length < 100000 ∧ wi ρ fun x => we ρ fun u => ∃ n : Int, x = .int n ∧ 0 ≤ n ∧ n ≤ 100000 ∧ V.nx (ρ.set i (.ow (.lst (us.take n.toNat ++ [u] ++ us.drop n.toNat))))
theorem s_insert {K : PySem.W.Frag} {i : Nat} {ti : TE} {wi : WE} (hi : TrE Z ti wi) (h : TrE Z te we) : TrS Z (tDrop (tBM K "list" rInsert (tVar i) (tCons ti (tCons te tNil)))) (wInsert i wi we) := fun V D σ ρ G H S hw B => by
  obtain ⟨us, e, hl, p⟩ := hw
  obtain ⟨a, vs, e1, h1, _, _⟩ := ow_lst S e
  refine ⟨_, e1, .inl ⟨rfl, vs, SqL.of h1⟩, hi σ ρ G H _ _ S p fun iv x G1 H1 p1 g1 r1 => h σ ρ G1 H1 _ _ (S.step g1) p1 fun v u G2 H2 p2 g2 r2 => ?_⟩
  obtain ⟨n, rfl, n0, n1, p3⟩ := p2
  cases r1
  have S2 := (S.step g1).step g2
  obtain ⟨a', vs', e1', h1', k', z'⟩ := ow_lst S2 e
  rw [e1] at e1'
  cases e1'
  refine ⟨a, vs', n, v, rfl, rfl, h1', lineN (by rw [k'.length]; omega), n0, by omega, ?_⟩
  refine B.nx _ _ G2 _ (S2.put e e1 (.lst (((k'.drop _)).append ((k'.take _).snoc r2)) ?_)) ((g1.ex.trans g2.ex).trans (ow_ex S2 e e1)) p3
  rw [List.length_append, List.length_append, List.length_take, List.length_drop]
  show min n.toNat us.length + 1 + (us.length - n.toNat) ≤ 100000
  omega
/-- y = xs.pop(k), of a list of one's own; y in slot j -/
def wPopAt (j i : Nat) (we : WE) : WS := fun V ρ => ∃ us, ρ[i]? = some (.ow (.lst us)) ∧ i ≠ j ∧ we ρ fun x => ∃ n k u, x = .int n ∧ seqIndex? n us.length = some k ∧ us.length ≤ 100000 ∧ us[k]? = some u ∧ V.nx ((ρ.set i (.ow (.lst (us.eraseIdx k)))).set j (.fz u))
end
end SV
/-! The value layer: x op= e, while, raise, fields, own classes, dicts. -/
namespace SV
open PySem PySem.Spec PyProof.Rows L2 SL
section
variable {Z : Zc} {tA : TA} {wA : WA} {te : TE} {we : WE} {t u : TS} {w x : WS} {tt : TT} {wt : WT}
def wAug (i : Nat) (f : Int → Int → Int) (we : WE) : WS := fun V ρ => ∃ n, ρ[i]? = some (.fz (.int n)) ∧ we ρ fun y => ∃ m, y = .int m ∧ V.nx (ρ.set i (.fz (.int (f n m))))
theorem s_aug {i : Nat} {f : Int → Int → Int} (h : TrE Z te we) (hi : Z.may i := by exact Zc.may_of (by assumption) (by decide)) : TrS Z (tAug i te (ipI f)) (wAug i f we) := fun V D σ ρ G H S hw B => by
  obtain ⟨n, e, p⟩ := hw
  obtain ⟨v, e1, r⟩ := S.fz i _ e
  cases r
  refine ⟨_, e1, h σ ρ G H _ _ S p fun v y G1 H1 p1 g1 r1 => ?_⟩
  obtain ⟨m, rfl, p2⟩ := p1
  cases r1
  exact ⟨n, m, rfl, rfl, B.nx _ _ G1 H1 ((S.step g1).set hi (.int _)) g1.ex p2⟩
def wWhile (c : WT) (b : WS) : WS := fun V ρ => ∃ Iv : Nat → List Cell → Prop, (∃ m, Iv m ρ) ∧ ∀ m ρ', Iv m ρ' → c ρ' fun k => if k = true then b { V with nx := fun ρ2 => ∃ m', m' < m ∧ Iv m' ρ2, ct := fun ρ2 => ∃ m', m' < m ∧ Iv m' ρ2, bk := V.nx } ρ' else V.nx ρ'
theorem s_while (hc : TrT Z tt wt) (hb : TrS Z t w) : TrS Z (tWhile tt t) (wWhile wt w) := fun V D σ ρ G H S hw B => by
  obtain ⟨Iv, ⟨m0, i0⟩, is⟩ := hw
  refine ⟨fun m σ' H' => ∃ ρ' G', Sv Z σ' ρ' G' H' ∧ Ex G H G' H' ∧ Iv m ρ', ⟨m0, ρ, G, S, Ex.refl, i0⟩, fun m σ' H' ⟨ρ', G', S', e, iv⟩ => hc σ' ρ' G' H' _ _ S' (is m ρ' iv) fun c G1 H1 p1 g1 => ?_⟩
  have e1 := e.trans g1.ex
  cases c with
  | true =>
    refine iteT ⟨fun σ2 H2 => ∃ m', m' < m ∧ ∃ ρ2 G2, Sv Z σ2 ρ2 G2 H2 ∧ Ex G H G2 H2 ∧ Iv m' ρ2, fun _ _ z => z, hb _ _ σ' ρ' G1 H1 (S'.step g1) p1 ⟨fun σ2 ρ2 G2 H2 S2 x2 ⟨m', l, iv2⟩ => ⟨m', l, ρ2, G2, S2, e1.trans x2, iv2⟩, fun v u G2 H2 g2 x2 => B.rt v u G2 H2 g2 (e1.trans x2), fun σ2 ρ2 G2 H2 S2 x2 p2 => B.nx σ2 ρ2 G2 H2 S2 (e1.trans x2) p2, fun σ2 ρ2 G2 H2 S2 x2 ⟨m', l, iv2⟩ => ⟨m', l, ρ2, G2, S2, e1.trans x2, iv2⟩⟩⟩
  | false => exact iteF (B.nx σ' ρ' G1 H1 (S'.step g1) e1 p1)
/-! ### raise -/
/-- the values whose text an error's message can show -/
def okMsg (vok : Value → Prop) (u : U) : Prop := ∀ (v : V) (pp : Addr) (G : Hp) (val : Value), Rp pp G v u → RelV v val → vok val
theorem okMsg_str {s : Str} (h : (reprText s).length ≤ 1000 := by decide +kernel) : okMsg (fun v => ∃ (y : Str) (t : Tok), v = .str y t ∧ (reprText y).length ≤ 1000) (.str s) := fun v pp G val r e => by
  cases r
  obtain ⟨t, rfl⟩ := e
  exact ⟨_, _, rfl, h⟩
def wRaise (C : Addr) (fld : Str) (vok : Value → Prop) (ew : EW) (wA : WA) : WS := fun _ ρ => wA ρ fun us => ∃ u, us = [u] ∧ okMsg vok u ∧ ew C [(fld, u)]
theorem s_raise {C : Addr} {fld : Str} {vok : Value → Prop} {E : XK} (hE : Z.E = E) (h : TrA Z tA wA) : TrS Z (fun _ σ H => tMkEx C fld vok tA σ H fun cls d H' => E cls d H') (wRaise C fld vok Z.ew wA) := fun V D σ ρ G H S hw B => h σ ρ G H _ _ S hw fun vs us G1 H1 p1 g1 r1 => by
  obtain ⟨u, rfl, ok, p2⟩ := p1
  cases r1 with
  | @cons v0 _ _ _ r t =>
    cases t
    refine ⟨_, rfl, fun val rv => ok _ _ _ val r rv, fun d nd => ?_⟩
    have S1 := S.step g1
    have g2 := Gr.new (b := Z.b) (o := .xd [(fld, v0)]) S1.vw S1.pl nd
    subst hE
    exact S.ex C [(fld, _)] [(fld, u)] (some d) _ _ p2 (S.gr.trans (g1.trans g2)) (.inl ⟨d, rfl, upd_same⟩) (.cons (r.same (same_upd (S1.vw.free nd))) .nil)
/-! ### fields -/
def wFld (K : PySem.W.Frag) (f : Str) (we : WE) : WE := fun ρ post => we ρ fun x => ∃ C gs u, x = .ins C gs ∧ Cls K C ∧ NoAttr K C f ∧ gs.lookup f = some u ∧ post u
theorem v_fld {K : PySem.W.Frag} {f : Str} (h : TrB Z te we) : TrE Z (tFld K te f) (wFld K f we) := fun σ ρ G H post Q S hw q => h σ ρ G H _ _ S hw fun v x G1 H1 p1 g1 r1 => by
  obtain ⟨C, gs, u, rfl, c, n, e, p⟩ := p1
  cases r1 with
  | ins h k =>
    obtain ⟨y, e1, r⟩ := k.get e
    exact ⟨_, C, _, _, y, rfl, h, c, n, e1, q y u G1 H1 p g1 r⟩
def putFU (f : Str) (u : U) : List (Str × U) → List (Str × U)
  | [] => [(f, u)]
  | (g, x) :: r => if g = f then (g, u) :: r else (g, x) :: putFU f u r
theorem RpF.put {pp : Addr} {G : Hp} {f : Str} {v : V} {u : U} (h : Rp pp G v u) : ∀ {vs : List (Str × V)} {us : List (Str × U)}, RpF pp G vs us → RpF pp G (putF f v vs) (putFU f u us)
  | _, _, .nil => .cons h .nil
  | _, _, .cons (k := k) r t => by
    unfold putF putFU
    by_cases c : k = f
    · rw [if_pos c, if_pos c]
      exact .cons h t
    · rw [if_neg c, if_neg c]
      exact .cons r (RpF.put h t)
theorem RpF.length {pp : Addr} {G : Hp} : ∀ {vs : List (Str × V)} {us : List (Str × U)}, RpF pp G vs us → vs.length = us.length
  | _, _, .nil => rfl
  | _, _, .cons _ t => congrArg (· + 1) (RpF.length t)
/-- o.f = e, o one's own (an __init__'s self) -/
def wFldSet (K : PySem.W.Frag) (i : Nat) (f : Str) (we : WE) : WS := fun V ρ => ∃ C gs, ρ[i]? = some (.ow (.ins C gs)) ∧ Cls K C ∧ NoAttr K C f ∧ gs.length < 1000 ∧ we ρ fun u => V.nx (ρ.set i (.ow (.ins C (putFU f u gs))))
theorem s_fld {K : PySem.W.Frag} {i : Nat} {f : Str} (h : TrE Z te we) : TrS Z (sFld K (tVar i) te f) (wFldSet K i f we) := fun V D σ ρ G H S hw B => by
  obtain ⟨C, gs, e, c, n, l, p⟩ := hw
  refine h σ ρ G H _ _ S p fun v u G1 H1 p1 g1 r1 => ?_
  have S1 := S.step g1
  obtain ⟨a, o, e1, h1, _, _, ho⟩ := S1.ow i _ e
  cases ho with
  | ins k =>
    rename_i dx fs
    refine ⟨_, e1, a, C, dx, fs, rfl, h1, c, n, by rw [k.length]; exact l, ?_⟩
    exact B.nx _ _ G1 _ (S1.put e e1 (.ins (k.put r1))) (g1.ex.trans (ow_ex S1 e e1)) p1
/-! ### methods -/
def wMeth (C : Addr) (m : Str) (n : Nat) (W : Wf) (ew : EW) (wo : WE) (wA : WA) : WE := fun ρ post => wo ρ fun x => ∃ gs, x = .ins C gs ∧ gs.lookup m = none ∧ wA ρ fun us => (x :: us).length = n ∧ W (x :: us) post ew
theorem RpF.none {pp : Addr} {G : Hp} {f : Str} : ∀ {vs : List (Str × V)} {us : List (Str × U)}, RpF pp G vs us → us.lookup f = none → vs.lookup f = none
  | _, _, .nil, _ => rfl
  | _, _, .cons (k := k) h t, e => by
    by_cases c : (f == k) = true
    · simp only [List.lookup, c] at e
      cases e
    · have c' : (f == k) = false := by simpa using c
      simp only [List.lookup, c'] at e ⊢
      exact RpF.none t e
theorem spV_of {b : PT} {n : Nat} {W : Wf} {E : XK} {ew : EW} {σ : L2.St} {ρ : List Cell} {G H : Hp} (S : Sv Z σ ρ G H) (hb : PLe b Z.b) (hE : ∀ C fs gs od G' H', ew C gs → Z.gr0 G H G' H' → XdAt G' od fs → RpF Z.pp G' fs gs → E (.ref C) od H') {vs : List V} {us : List U} {post : U → Prop} {Q : VK}
    (h1 : RpL Z.pp G vs us) (l : us.length = n) (w2 : W us post ew) (q : ∀ v u G' H', post u → Z.gr G H G' H' → Rp Z.pp G' v u → Q v H') : spV b n W vs H Q E := by
  have up : ∀ {G' H'}, Gr b Z.pp Z.q G H G' H' → Z.gr G H G' H' := fun {G' H'} g => g.le hb S.pl
  have up0 : ∀ {G' H'}, Gr b Z.pp Z.q G H G' H' → Z.gr0 G H G' H' := fun {G' H'} g => g.le hb S.pl
  exact ⟨us, Z.pp, Z.q, G, post, ew, h1, l, S.vw, S.pl.le hb, w2, fun v u G' H' p g r => q v u G' H' p (up g) r, fun C fs gs od G' H' a g x r => hE C fs gs od G' H' a (up0 g) x r⟩
theorem meth_run {b : PT} {n : Nat} {W : Wf} {C : Addr} {m : Str} {E : XK} {ew : EW} {to : TE} {wo : WE} (hb : PLe b Z.b) (hE : ∀ σ ρ G H, Sv Z σ ρ G H → ∀ C fs gs od G' H', ew C gs → Z.gr0 G H G' H' → XdAt G' od fs → RpF Z.pp G' fs gs → E (.ref C) od H') (ho : TrE Z to wo) (h : TrA Z tA wA) :
    TrE Z (tMeth C m (spV b n W) [] E to tA) (wMeth C m n W ew wo wA) := fun σ ρ G H post Q S hw q => ho σ ρ G H _ _ S hw fun v x G1 H1 p1 g1 r1 => by
  obtain ⟨gs, rfl, nm, p2⟩ := p1
  have S1 := S.step g1
  cases r1 with
  | ins hh k =>
    refine ⟨_, _, _, rfl, S1.vw.ins hh, k.none nm, h σ ρ G1 H1 _ _ S1 p2 fun vs us G2 H2 p3 g2 r2 => ?_⟩
    have S2 := S1.step g2
    show spV b n W (_ :: (vs ++ [])) H2 Q E
    rw [List.append_nil]
    exact spV_of S2 hb (hE σ ρ G2 H2 S2) (.cons ((Rp.ins hh k).same g2.gg) r2) p3.1 p3.2 fun v u G' H' p g r => q v u G' H' p ((g1.trans g2).trans g) r
theorem v_meth {b : PT} {n : Nat} {W : Wf} {C : Addr} {m : Str} {to : TE} {wo : WE} (hb : PLe b Z.b) (ho : TrE Z to wo) (h : TrA Z tA wA) : TrE Z (tMeth C m (spV b n W) [] E0 to tA) (wMeth C m n W (fun _ _ => False) wo wA) := meth_run hb (fun _ _ _ _ _ _ _ _ _ _ _ a => a.elim) ho h
theorem v_methX {b : PT} {n : Nat} {W : Wf} {C : Addr} {m : Str} {E : XK} {to : TE} {wo : WE} (hE : Z.E = E) (hb : PLe b Z.b) (ho : TrE Z to wo) (h : TrA Z tA wA) : TrE Z (tMeth C m (spV b n W) [] E to tA) (wMeth C m n W Z.ew wo wA) :=
  meth_run hb (fun σ ρ G H S C fs gs od G' H' a g x r => by rw [← hE]; exact S.ex C fs gs od G' H' a (S.gr.trans g) x r) ho h
/-! ### C(..) -/
/-- __init__'s promise: what is made of the arguments -/
def spI (C : Addr) (b : PT) (n : Nat) (W : Wf) : Sp := fun vs H Q E => ∃ x dx H1 ws us pp q G post ew, vs = .ref x :: ws ∧ H = upd (upd H1 dx (.own x)) x (.ins C dx []) ∧ H1 x = none ∧ H1 dx = none ∧ dx ≠ x ∧ RpL pp G ws us ∧ us.length = n ∧ Vw G H1 ∧ (Pl b pp q G H1) ∧ W us post ew ∧
  (∀ u G' H', post u → Gr b pp q G H1 G' H' → Rp pp G' (.ref x) u → Q .non H') ∧ (∀ C fs gs od G' H', ew C gs → Gr b pp q G H1 G' H' → XdAt G' od fs → RpF pp G' fs gs → E (.ref C) od H')
theorem make_run {C : Addr} {b : PT} {n : Nat} {W : Wf} {E : XK} {ew : EW} (hb : PLe b Z.b) (hE : ∀ σ ρ G H, Sv Z σ ρ G H → ∀ C fs gs od G' H', ew C gs → Z.gr0 G H G' H' → XdAt G' od fs → RpF Z.pp G' fs gs → E (.ref C) od H') (h : TrA Z tA wA) :
    TrE Z (tMake C (spI C b n W) [] E tA) (wCall n W ew wA) := fun σ ρ G H post Q S hw q => h σ ρ G H _ _ S hw fun vs us G1 H1 p1 g1 r1 x dx nx ndx ne => by
  obtain ⟨l, w2⟩ := p1
  have S1 := S.step g1
  have up : ∀ {G' H'}, Gr b Z.pp Z.q G1 H1 G' H' → Z.gr G1 H1 G' H' := fun {G' H'} g => g.le hb S1.pl
  have up0 : ∀ {G' H'}, Gr b Z.pp Z.q G1 H1 G' H' → Z.gr0 G1 H1 G' H' := fun {G' H'} g => g.le hb S1.pl
  rw [List.append_nil]
  exact ⟨x, dx, H1, vs, us, Z.pp, Z.q, G1, post, ew, rfl, rfl, nx, ndx, ne, r1, l, S1.vw, S1.pl.le hb, w2, fun u G' H' p g r => ⟨rfl, q _ u G' H' p (g1.trans (up g)) r⟩, fun C fs gs od G' H' a g y r => hE σ ρ G1 H1 S1 C fs gs od G' H' a (up0 g) y r⟩
theorem v_make {C : Addr} {b : PT} {n : Nat} {W : Wf} (hb : PLe b Z.b) (h : TrA Z tA wA) : TrE Z (tMake C (spI C b n W) [] E0 tA) (wCall n W (fun _ _ => False) wA) := make_run hb (fun _ _ _ _ _ _ _ _ _ _ _ a => a.elim) h
theorem v_makeX {C : Addr} {b : PT} {n : Nat} {W : Wf} {E : XK} (hE : Z.E = E) (hb : PLe b Z.b) (h : TrA Z tA wA) : TrE Z (tMake C (spI C b n W) [] E tA) (wCall n W Z.ew wA) :=
  make_run hb (fun σ ρ G H S C fs gs od G' H' a g x r => by rw [← hE]; exact S.ex C fs gs od G' H' a (S.gr.trans g) x r) h
end
/-- __init__ itself: self is one's own at the start, and is frozen at the end -/
theorem init_of {C : Addr} {b : PT} {n : Nat} {W : Wf} {N : List Str} {t : TS} {E : XK} (hN : n + 1 ≤ N.length)
    (tr : ∀ Z : Zc, Z.b = b → Z.E = E → Z.mays (fun i => i != 0) → ∃ w, TrS Z t w ∧ ∀ us post, us.length = n → W us post Z.ew → w { nx := fun ρ => ∃ gs, ρ[0]? = some (.ow (.ins C gs)) ∧ post (.ins C gs), rt := fun _ => False } (.ow (.ins C []) :: (us.map Cell.fz ++ List.replicate (N.length - (us.length + 1)) Cell.no)))
    {vs : List V} {H : Hp} {Q : VK} (h : spI C b n W vs H Q E) : t { nx := fun _ H' => Q .non H', rt := Q } (L2.start N vs) H := by
  obtain ⟨x, dx, H1, ws, us, pp, q, G, post, ew, rfl, rfl, nx, ndx, ne, k, l, vw, pl, hw, hq, he⟩ := h
  obtain ⟨w, T, hb⟩ := tr ⟨b, pp, q, G, H1, E, ew, N.length, fun i => if i = 0 then some (.ref x) else none, fun _ => none⟩ rfl rfl fun i e => if_neg (by simpa using e)
  have g1 : Gr b pp q G H1 G (upd H1 dx (.own x)) := Gr.newH vw pl ndx
  have nx1 : (upd H1 dx (.own x)) x = none := by rw [upd_ne (Ne.symm ne)]; exact nx
  have g2 : Gr b pp q G H1 G (upd (upd H1 dx (.own x)) x (.ins C dx [])) := g1.trans (Gr.newH g1.vw g1.pl nx1)
  have hx : (upd (upd H1 dx (.own x)) x (.ins C dx [])) x = some (.ins C dx []) := upd_same
  have gx : G x = none := vw.free nx
  have sw : L2.start N (.ref x :: ws) = some (.ref x) :: (ws.map some ++ List.replicate (N.length - (ws.length + 1)) none) := by
    unfold L2.start
    rfl
  have low : ∀ {i : Nat} {u : U}, (Cell.ow (.ins C []) :: (us.map Cell.fz ++ List.replicate (N.length - (us.length + 1)) Cell.no))[i]? = some (.ow u) → i = 0 ∧ u = .ins C [] := fun {i u} e => by
    cases i with
    | zero => simp at e; exact ⟨rfl, e.symm⟩
    | succ i =>
      rw [List.getElem?_cons_succ] at e
      have := List.mem_of_getElem? e
      rw [List.mem_append, List.mem_map, List.mem_replicate] at this
      rcases this with ⟨a, _, z⟩ | ⟨_, z⟩ <;> cases z
  refine T _ _ _ _ G _ ⟨g2, vw, pl, fun C fs us od G' H' a g x r => he C fs us od G' H' a g x r, ⟨?_, ?_⟩, fun i u e => ?_, fun i u e => ?_, (fun i v e => ?_), (fun _ _ e => nomatch e), fun i j a hij h1 h2 => ?_⟩ (hb us post l hw) ⟨fun σ ρ G' H' S y p => ?_, fun _ _ _ _ _ _ _ z => z.elim, fun _ _ _ _ _ _ z => z.elim, fun _ _ _ _ _ _ z => z.elim⟩
  · rw [sw, List.length_cons, List.length_append, List.length_map, List.length_replicate, k.length, l]
    show n + (N.length - (n + 1)) + 1 = N.length
    omega
  · rw [List.length_cons, List.length_append, List.length_map, List.length_replicate, l]
    show n + (N.length - (n + 1)) + 1 = N.length
    omega
  · rw [sw]
    cases i with
    | zero => simp at e
    | succ i =>
      rw [List.getElem?_cons_succ] at e ⊢
      by_cases c : i < us.length
      · rw [List.getElem?_append_left (by rw [List.length_map]; exact c), List.getElem?_map, List.getElem?_eq_getElem c] at e
        have e' : us[i] = u := by simpa using e
        obtain ⟨v, e1, hv⟩ := k.got (i := i) (u := u) (by rw [List.getElem?_eq_getElem c, e'])
        refine ⟨v, ?_, hv⟩
        rw [List.getElem?_append_left (by rw [List.length_map, k.length]; exact c), List.getElem?_map, e1]
        rfl
      · rw [List.getElem?_append_right (by rw [List.length_map]; omega)] at e
        have := List.mem_of_getElem? e
        rw [List.mem_replicate] at this
        exact nomatch this.2
  · obtain ⟨rfl, rfl⟩ := low e
    exact ⟨x, _, by rw [sw]; rfl, hx, gx, nx, .ins .nil⟩
  · by_cases c : i = 0
    · subst c
      cases e
      rw [sw]
      rfl
    · have e' : (if i = 0 then some (V.ref x) else none) = some v := e
      rw [if_neg c] at e'
      cases e'
  · obtain ⟨u1, e1⟩ := h1
    obtain ⟨u2, e2⟩ := h2
    exact absurd ((low e1).1.trans (low e2).1.symm) hij
  · obtain ⟨gs, e, p'⟩ := p
    obtain ⟨a, o, e1, h1, ga, z1, ho⟩ := S.ow 0 _ e
    have e2 := S.me 0 (.ref x) rfl
    rw [e1] at e2
    cases e2
    exact hq _ (upd G' x o) H' p' (S.gr.freeze z1 ga h1 pl) (ho.rp ga)
section
variable {P : Program} {w : World} {K : PySem.W.Frag} {mg : Str → Option Value} {base : Heap}
theorem spI_len {C : Addr} {b : PT} {n : Nat} {W : Wf} {vs : List V} {H : Hp} {Q : VK} {E : XK} (h : spI C b n W vs H Q E) : vs.length = n + 1 := by
  obtain ⟨x, dx, H1, ws, us, pp, q, G, post, ew, rfl, _, _, _, _, k, l, _⟩ := h
  rw [List.length_cons, k.length, l]
/-- an __init__ that raises nothing -/
theorem okI {C : Addr} {b : PT} {n : Nat} {W : Wf} {x qual : Str} {st : Stmt} {f : Addr} {fd : FuncData} {N ps : List Str} {k : Nat} (F : Fun K x qual st f fd) (S : FnScope N ps (defScope st)) (hn : ps.length = n + 1) (hN : n + 1 ≤ N.length)
    (hbody : ∀ (cdv : Value) (A : Around) (outer : List Env) (s : Shared) (H : Hp) (E : XK), Room k (A.deeper (envOfC qual (defScope st) s.heap.objs.size f cdv)) →
      ∃ t, PSs (cxOf CX0 P w K mg base N qual (defScope st) f cdv A outer s H E).nox (defBody st) t ∧ ∀ Z : Zc, Z.b = b → Z.E = E → Z.mays (fun i => i != 0) → ∃ w, TrS Z t w ∧ ∀ us post, us.length = n → W us post Z.ew → w { nx := fun ρ => ∃ gs, ρ[0]? = some (.ow (.ins C gs)) ∧ post (.ins C gs), rt := fun _ => False } (.ow (.ins C []) :: (us.map Cell.fz ++ List.replicate (N.length - (us.length + 1)) Cell.no))) :
    FnOk P w K mg base CX0 (k + 1) f fd ps (spI C b n W) :=
  F.ok S (fun vs H Q E h => (spI_len h).trans hn.symm) fun cdv A outer s H vs Q E hr h =>
    let ⟨t, ht, tr⟩ := hbody cdv A outer s H E hr
    ⟨t, ht, init_of hN tr h⟩
/-- an __init__ that may raise -/
theorem okIX {C : Addr} {b : PT} {n : Nat} {W : Wf} {x qual : Str} {st : Stmt} {f : Addr} {fd : FuncData} {N ps : List Str} {k : Nat} (F : Fun K x qual st f fd) (S : FnScope N ps (defScope st)) (hn : ps.length = n + 1) (hN : n + 1 ≤ N.length)
    (hbody : ∀ (cdv : Value) (A : Around) (outer : List Env) (s : Shared) (H : Hp) (E : XK), Room k (A.deeper (envOfC qual (defScope st) s.heap.objs.size f cdv)) →
      ∃ t, PSs (cxOf (L2.CX P w) P w K mg base N qual (defScope st) f cdv A outer s H E) (defBody st) t ∧ ∀ Z : Zc, Z.b = b → Z.E = E → Z.mays (fun i => i != 0) → ∃ w, TrS Z t w ∧ ∀ us post, us.length = n → W us post Z.ew → w { nx := fun ρ => ∃ gs, ρ[0]? = some (.ow (.ins C gs)) ∧ post (.ins C gs), rt := fun _ => False } (.ow (.ins C []) :: (us.map Cell.fz ++ List.replicate (N.length - (us.length + 1)) Cell.no))) :
    FnOk P w K mg base (L2.CX P w) (k + 1) f fd ps (spI C b n W) :=
  F.okX S (fun vs H Q E h => (spI_len h).trans hn.symm) fun cdv A outer s H vs Q E hr h =>
    let ⟨t, ht, tr⟩ := hbody cdv A outer s H E hr
    ⟨t, ht, init_of hN tr h⟩
end
end SV
/-! The value layer: dicts. -/
namespace SV
open PySem PySem.Spec PyProof.Rows L2 SL
/-! ### dicts of values -/
section
variable {κ : Type} [DecidableEq κ]
def valU {α : Type} (kvs : List (κ × α)) (k : κ) : Option α := (kvs.find? fun kv => decide (kv.1 = k)).map (·.2)
def putU {α : Type} (kvs : List (κ × α)) (k : κ) (v : α) : List (κ × α) :=
  if (kvs.any fun kv => decide (kv.1 = k)) = true then kvs.map (fun kv => if kv.1 = k then (kv.1, v) else kv) else kvs ++ [(k, v)]
variable {α : Type}
theorem valU_nil {k : κ} : valU ([] : List (κ × α)) k = none := rfl
theorem valU_pos {p : κ × α} {r : List (κ × α)} {k : κ} (e : p.1 = k) : valU (p :: r) k = some p.2 := by simp [valU, List.find?_cons, e]
theorem valU_neg {p : κ × α} {r : List (κ × α)} {k : κ} (e : ¬ p.1 = k) : valU (p :: r) k = valU r k := by simp [valU, List.find?_cons, e]
theorem valU_any (k : κ) : ∀ kvs : List (κ × α), (kvs.any fun kv => decide (kv.1 = k)) = (valU kvs k).isSome
  | [] => rfl
  | p :: r => by
    by_cases e : p.1 = k
    · rw [valU_pos e]; simp [e]
    · rw [valU_neg e, ← valU_any k r]; simp [e]
theorem valU_map (k j : κ) (y : α) : ∀ kvs : List (κ × α), valU (kvs.map fun kv => if kv.1 = k then (kv.1, y) else kv) j = (valU kvs j).map fun x => if j = k then y else x
  | [] => rfl
  | p :: r => by
    rw [List.map_cons]
    by_cases e : p.1 = j
    · rw [valU_pos (p := p) e]
      by_cases c : p.1 = k
      · rw [if_pos c, valU_pos (by exact e)]
        simp [e ▸ c]
      · rw [if_neg c, valU_pos e]
        have : ¬ j = k := fun z => c (e.trans z)
        simp [this]
    · rw [valU_neg (p := p) e, ← valU_map k j y r]
      by_cases c : p.1 = k
      · rw [if_pos c, valU_neg (by exact e)]
      · rw [if_neg c, valU_neg e]
theorem valU_snoc (k j : κ) (y : α) : ∀ kvs : List (κ × α), valU (kvs ++ [(k, y)]) j = (valU kvs j).or (if j = k then some y else none)
  | [] => by
    by_cases c : j = k
    · subst c; simp [valU]
    · have : ¬ k = j := fun z => c z.symm
      simp [valU, this, c]
  | p :: r => by
    rw [List.cons_append]
    by_cases e : p.1 = j
    · rw [valU_pos e, valU_pos e]; rfl
    · rw [valU_neg e, valU_neg e, valU_snoc k j y r]
theorem valU_put (kvs : List (κ × α)) (k j : κ) (y : α) : valU (putU kvs k y) j = if j = k then some y else valU kvs j := by
  unfold putU
  rw [valU_any]
  cases c : valU kvs k with
  | none =>
    rw [if_neg (by simp), valU_snoc]
    by_cases e : j = k
    · subst e; rw [c, if_pos rfl]; simp
    · rw [if_neg e, if_neg e, Option.or_none]
  | some v =>
    rw [if_pos (by simp), valU_map]
    by_cases e : j = k
    · subst e; rw [c, if_pos rfl]; simp
    · simp [e]
theorem putU_len (kvs : List (κ × α)) (k : κ) (v : α) : (putU kvs k v).length ≤ kvs.length + 1 := by
  unfold putU
  split
  · rw [List.length_map]; omega
  · rw [List.length_append]; exact Nat.le_refl _
/-- the keys in their order -/
def keysOf (kvs : List (κ × α)) : List κ := kvs.map (·.1)
theorem keys_put (kvs : List (κ × α)) (k : κ) (v : α) : keysOf (putU kvs k v) = if k ∈ keysOf kvs then keysOf kvs else keysOf kvs ++ [k] := by
  have h : (kvs.any fun kv => decide (kv.1 = k)) = decide (k ∈ keysOf kvs) := by
    unfold keysOf
    rw [Bool.eq_iff_iff, List.any_eq_true, decide_eq_true_eq, List.mem_map]
    exact ⟨fun ⟨x, h1, h2⟩ => ⟨x, h1, of_decide_eq_true h2⟩, fun ⟨x, h1, h2⟩ => ⟨x, h1, decide_eq_true h2⟩⟩
  unfold putU
  rw [h]
  by_cases c : k ∈ keysOf kvs
  · rw [if_pos (decide_eq_true c), if_pos c]
    unfold keysOf
    rw [List.map_map]
    refine List.map_congr_left fun x _ => ?_
    show (if x.1 = k then (x.1, v) else x).1 = x.1
    by_cases e : x.1 = k
    · rw [if_pos e]
    · rw [if_neg e]
  · rw [if_neg (by simpa using c), if_neg c]
    unfold keysOf
    rw [List.map_append]
    rfl
theorem val_mem {kvs : List (κ × α)} {k : κ} {v : α} (h : valU kvs k = some v) : (k, v) ∈ kvs := by
  unfold valU at h
  cases c : kvs.find? fun kv => decide (kv.1 = k) with
  | none => rw [c] at h; cases h
  | some p =>
    rw [c] at h
    cases h
    have h1 := List.find?_some c
    have h2 := List.mem_of_find?_eq_some c
    have : p.1 = k := of_decide_eq_true h1
    rw [← this]
    exact h2
theorem val_none {kvs : List (κ × α)} {k : κ} : valU kvs k = none ↔ k ∉ keysOf kvs := by
  unfold valU keysOf
  rw [Option.map_eq_none_iff, List.find?_eq_none, List.mem_map]
  refine ⟨fun h ⟨x, h1, h2⟩ => h x h1 (decide_eq_true h2), fun h x h1 h2 => h ⟨x, h1, of_decide_eq_true h2⟩⟩
theorem val_at {kvs : List (κ × α)} (nd : (keysOf kvs).Nodup) {i : Nat} {k : κ} {v : α} (h : kvs[i]? = some (k, v)) : valU kvs k = some v := by
  induction kvs generalizing i with
  | nil => simp at h
  | cons p r ih =>
    have nd' : p.1 ∉ keysOf r ∧ (keysOf r).Nodup := List.nodup_cons.mp nd
    cases i with
    | zero =>
      simp at h
      subst h
      exact valU_pos rfl
    | succ i =>
      have h' : r[i]? = some (k, v) := by simpa using h
      have : p.1 ≠ k := fun e => nd'.1 (by rw [e]; exact List.mem_map.mpr ⟨_, List.mem_of_getElem? h', rfl⟩)
      rw [valU_neg this]
      exact ih nd'.2 h'
end
def keyU : U → Option Key
  | .int i => some (.inl i)
  | .str s => some (.inr s)
  | _ => none
def uKey : Key → U
  | .inl i => .int i
  | .inr s => .str s
def keysU : List U → Option (List Key)
  | [] => some []
  | u :: us => match keyU u, keysU us with
    | some k, some ks => some (k :: ks)
    | _, _ => none
section
variable {pp : Addr} {G H : Hp}
theorem Rp.key {v : V} {u : U} {k : Key} (h : Rp pp G v u) (e : keyU u = some k) : v = kV k := by
  cases h <;> first | cases e | skip
  · rfl
  · rfl
theorem RpL.keys : ∀ {vs : List V} {us : List U} {ks : List Key}, RpL pp G vs us → keysU us = some ks → vs = ks.map kV
  | _, _, ks, .nil, e => by
    simp only [keysU, Option.some.injEq] at e
    subst e
    rfl
  | _, _, ks, .cons (u := u) (us := us) h t, e => by
    cases c : keyU u with
    | none => simp [keysU, c] at e
    | some k =>
      cases d : keysU us with
      | none => simp [keysU, c, d] at e
      | some ks' =>
        simp only [keysU, c, d, Option.some.injEq] at e
        subst e
        rw [h.key c, RpL.keys t d]
        rfl
theorem Rp.uKey (k : Key) (h : ∀ s, k = .inr s → s.length ≤ 100000) : Rp pp G (kV k) (uKey k) := by
  cases k with
  | inl i => exact .int i
  | inr s => exact .str s (h s rfl)
theorem RpD.val : ∀ {kvs : List (Key × V)} {kus : List (Key × U)}, RpD pp G kvs kus → ∀ k, (valV kvs k = none ∧ valU kus k = none) ∨ ∃ v u, valV kvs k = some v ∧ valU kus k = some u ∧ Rp pp G v u
  | _, _, .nil, k => .inl ⟨rfl, rfl⟩
  | _, _, .cons (k := j) h t, k => by
    by_cases c : j = k
    · rw [valV_pos (by exact c), valU_pos (by exact c)]
      exact .inr ⟨_, _, rfl, rfl, h⟩
    · rw [valV_neg (by exact c), valU_neg (by exact c)]
      exact RpD.val t k
theorem RpT.val : ∀ {kvs : List (List Key × V)} {kus : List (List Key × U)}, RpT pp G kvs kus → ∀ k, (valV kvs k = none ∧ valU kus k = none) ∨ ∃ v u, valV kvs k = some v ∧ valU kus k = some u ∧ Rp pp G v u
  | _, _, .nil, k => .inl ⟨rfl, rfl⟩
  | _, _, .cons (k := j) h t, k => by
    by_cases c : j = k
    · rw [valV_pos (by exact c), valU_pos (by exact c)]
      exact .inr ⟨_, _, rfl, rfl, h⟩
    · rw [valV_neg (by exact c), valU_neg (by exact c)]
      exact RpT.val t k
theorem RpD.any : ∀ {kvs : List (Key × V)} {kus : List (Key × U)}, RpD pp G kvs kus → ∀ k, (kvs.any fun kv => decide (kv.1 = k)) = kus.any fun kv => decide (kv.1 = k)
  | _, _, .nil, k => rfl
  | _, _, .cons h t, k => by rw [List.any_cons, List.any_cons, RpD.any t k]
theorem RpD.map {v : V} {u : U} (h : Rp pp G v u) (k : Key) : ∀ {kvs : List (Key × V)} {kus : List (Key × U)}, RpD pp G kvs kus → RpD pp G (kvs.map fun kv => if kv.1 = k then (kv.1, v) else kv) (kus.map fun kv => if kv.1 = k then (kv.1, u) else kv)
  | _, _, .nil => .nil
  | _, _, .cons (k := j) r t => by
    rw [List.map_cons, List.map_cons]
    by_cases c : j = k
    · rw [if_pos (by exact c), if_pos (by exact c)]
      exact .cons h (RpD.map h k t)
    · rw [if_neg (by exact c), if_neg (by exact c)]
      exact .cons r (RpD.map h k t)
theorem RpD.snoc {k : Key} {v : V} {u : U} (h : Rp pp G v u) : ∀ {kvs : List (Key × V)} {kus : List (Key × U)}, RpD pp G kvs kus → RpD pp G (kvs ++ [(k, v)]) (kus ++ [(k, u)])
  | _, _, .nil => .cons h .nil
  | _, _, .cons r t => .cons r (RpD.snoc h t)
theorem RpD.put {k : Key} {v : V} {u : U} (h : Rp pp G v u) {kvs : List (Key × V)} {kus : List (Key × U)} (r : RpD pp G kvs kus) : RpD pp G (putK kvs k v) (putU kus k u) := by
  unfold putK putU
  rw [r.any k]
  by_cases c : (kus.any fun kv => decide (kv.1 = k)) = true
  · rw [if_pos c, if_pos c]
    exact r.map h k
  · rw [if_neg c, if_neg c]
    exact r.snoc h
theorem RpT.any : ∀ {kvs : List (List Key × V)} {kus : List (List Key × U)}, RpT pp G kvs kus → ∀ k, (kvs.any fun kv => decide (kv.1 = k)) = kus.any fun kv => decide (kv.1 = k)
  | _, _, .nil, k => rfl
  | _, _, .cons h t, k => by rw [List.any_cons, List.any_cons, RpT.any t k]
theorem RpT.map {v : V} {u : U} (h : Rp pp G v u) (k : List Key) : ∀ {kvs : List (List Key × V)} {kus : List (List Key × U)}, RpT pp G kvs kus → RpT pp G (kvs.map fun kv => if kv.1 = k then (kv.1, v) else kv) (kus.map fun kv => if kv.1 = k then (kv.1, u) else kv)
  | _, _, .nil => .nil
  | _, _, .cons (k := j) r t => by
    rw [List.map_cons, List.map_cons]
    by_cases c : j = k
    · rw [if_pos (by exact c), if_pos (by exact c)]
      exact .cons h (RpT.map h k t)
    · rw [if_neg (by exact c), if_neg (by exact c)]
      exact .cons r (RpT.map h k t)
theorem RpT.snoc {k : List Key} {v : V} {u : U} (h : Rp pp G v u) : ∀ {kvs : List (List Key × V)} {kus : List (List Key × U)}, RpT pp G kvs kus → RpT pp G (kvs ++ [(k, v)]) (kus ++ [(k, u)])
  | _, _, .nil => .cons h .nil
  | _, _, .cons r t => .cons r (RpT.snoc h t)
theorem RpT.put {k : List Key} {v : V} {u : U} (h : Rp pp G v u) {kvs : List (List Key × V)} {kus : List (List Key × U)} (r : RpT pp G kvs kus) : RpT pp G (putK kvs k v) (putU kus k u) := by
  unfold putK putU
  rw [r.any k]
  by_cases c : (kus.any fun kv => decide (kv.1 = k)) = true
  · rw [if_pos c, if_pos c]
    exact r.map h k
  · rw [if_neg c, if_neg c]
    exact r.snoc h
theorem RpD.get : ∀ {kvs : List (Key × V)} {kus : List (Key × U)} {i : Nat} {k : Key} {v : V}, RpD pp G kvs kus → kvs[i]? = some (k, v) → ∃ u, kus[i]? = some (k, u) ∧ Rp pp G v u
  | _, _, _, _, _, .nil, h => by simp at h
  | _, _, 0, _, _, .cons h _, e => by
    simp at e
    obtain ⟨rfl, rfl⟩ := e
    exact ⟨_, rfl, h⟩
  | _, _, i + 1, _, _, .cons _ t, e => by
    obtain ⟨u, h1, h2⟩ := RpD.get (i := i) t (by simpa using e)
    exact ⟨u, by simpa using h1, h2⟩
end
/-- d looked up at y: none where it is no key of such a dict -/
def lookU : U → U → Option (Option U)
  | .dic kus, y => (keyU y).map (valU kus)
  | .dit kus, .tup us => (keysU us).map (valU kus)
  | _, _ => none
theorem look_get {pp : Addr} {G H : Hp} (w : Vw G H) {v1 v2 : V} {x y : U} {o : Option U} (h1 : Bp pp G H v1 x) (h2 : Rp pp G v2 y) (e : lookU x y = some o) : ∃ a r, v1 = .ref a ∧ IsD H a ∧ DGet H a v2 r ∧ ((r = none ∧ o = none) ∨ ∃ v u, r = some v ∧ o = some u ∧ Rp pp G v u) := by
  cases h1 <;> first | cases e | skip
  · rename_i a kvs kus h k z
    have e' : (keyU y).map (valU kus) = some o := e
    cases c : keyU y with
    | none => rw [c] at e'; cases e'
    | some kk =>
      rw [c] at e'
      cases e'
      refine ⟨a, _, rfl, .inl ⟨_, h⟩, .inl ⟨kvs, kk, h, h2.key c, rfl⟩, ?_⟩
      rcases k.val kk with ⟨q1, q2⟩ | ⟨v, u, q1, q2, r⟩
      · exact .inl ⟨q1, q2⟩
      · exact .inr ⟨v, u, q1, q2, r⟩
  · rename_i a kvs kus h k z
    cases h2 <;> first | cases e | skip
    rename_i b vs us hh kk z2
    have e' : (keysU us).map (valU kus) = some o := e
    cases c : keysU us with
    | none => rw [c] at e'; cases e'
    | some ks =>
      rw [c] at e'
      cases e'
      refine ⟨a, _, rfl, .inr ⟨_, h⟩, .inr ⟨kvs, ks, b, h, rfl, by rw [w.tup hh, kk.keys c], rfl⟩, ?_⟩
      rcases k.val ks with ⟨q1, q2⟩ | ⟨v, u, q1, q2, r⟩
      · exact .inl ⟨q1, q2⟩
      · exact .inr ⟨v, u, q1, q2, r⟩
section
variable {Z : Zc} {ta tb tc : TE} {wa wb wc : WE}
def wDGet (wa wb : WE) : WE := fun ρ post => wa ρ fun x => wb ρ fun y => ∃ u, lookU x y = some (some u) ∧ post u
theorem v_dget (ha : TrB Z ta wa) (hb : TrE Z tb wb) : TrE Z (tDGet ta tb) (wDGet wa wb) := fun σ ρ G H post Q S hw q =>
  ha σ ρ G H _ _ S hw fun v1 x G1 H1 w1 g1 b1 => hb σ ρ G1 H1 _ _ (S.step g1) w1 fun v2 y G2 H2 w2 g2 r2 => by
    obtain ⟨u, e, p⟩ := w2
    have S1 := S.step g1
    have S2 := S1.step g2
    obtain ⟨a, r, rfl, _, dg, c⟩ := look_get S2.vw (b1.step g2 S1.vw S1.pl) r2 e
    rcases c with ⟨_, z⟩ | ⟨v, u', rfl, z, r⟩
    · cases z
    · cases z
      exact ⟨a, v, rfl, dg, q v u G2 H2 p (g1.trans g2) r⟩
def isDic : U → Prop
  | .dic _ => True
  | .dit _ => True
  | _ => False
theorem isDic_bp {pp : Addr} {G H : Hp} {v : V} {x : U} (h : isDic x) (b : Bp pp G H v x) : ∃ a, v = .ref a ∧ IsD H a := by
  cases b <;> first | exact h.elim | skip
  · rename_i a kvs kus hh k z
    exact ⟨a, rfl, .inl ⟨_, hh⟩⟩
  · rename_i a kvs kus hh k z
    exact ⟨a, rfl, .inr ⟨_, hh⟩⟩
def wDGet2 (wa wb wc : WE) : WE := fun ρ post => wa ρ fun x => isDic x ∧ wb ρ fun y => wc ρ fun z => ∃ o, lookU x y = some o ∧ post (o.getD z)
theorem v_dget2 (ha : TrB Z ta wa) (hb : TrE Z tb wb) (hc : TrE Z tc wc) : TrE Z (tDGet2 ta tb tc) (wDGet2 wa wb wc) := fun σ ρ G H post Q S hw q =>
  ha σ ρ G H _ _ S hw fun v1 x G1 H1 w1 g1 b1 => by
    have S1 := S.step g1
    obtain ⟨d, w1⟩ := w1
    obtain ⟨a, rfl, isd⟩ := isDic_bp d b1
    refine ⟨a, rfl, isd, hb σ ρ G1 H1 _ _ S1 w1 fun v2 y G2 H2 w2 g2 r2 => hc σ ρ G2 H2 _ _ (S1.step g2) w2 fun v3 z G3 H3 w3 g3 r3 => ?_⟩
    obtain ⟨o, e, p⟩ := w3
    have S2 := S1.step g2
    have S3 := S2.step g3
    obtain ⟨a', r, ea, _, dg, c⟩ := look_get S3.vw ((b1.step g2 S1.vw S1.pl).step g3 S2.vw S2.pl) (r2.same g3.gg) e
    cases ea
    refine ⟨r, dg, ?_⟩
    rcases c with ⟨rfl, rfl⟩ | ⟨v, u', rfl, rfl, r⟩
    · exact q _ _ G3 H3 p ((g1.trans g2).trans g3) r3
    · exact q _ _ G3 H3 p ((g1.trans g2).trans g3) r
def wDGet1 (wa wb : WE) : WE := fun ρ post => wa ρ fun x => isDic x ∧ wb ρ fun y => ∃ o, lookU x y = some o ∧ post (o.getD .non)
theorem v_dget1 (ha : TrB Z ta wa) (hb : TrE Z tb wb) : TrE Z (tDGet1 ta tb) (wDGet1 wa wb) := fun σ ρ G H post Q S hw q =>
  ha σ ρ G H _ _ S hw fun v1 x G1 H1 w1 g1 b1 => by
    have S1 := S.step g1
    obtain ⟨d, w1⟩ := w1
    obtain ⟨a, rfl, isd⟩ := isDic_bp d b1
    refine ⟨a, rfl, isd, hb σ ρ G1 H1 _ _ S1 w1 fun v2 y G2 H2 w2 g2 r2 => ?_⟩
    obtain ⟨o, e, p⟩ := w2
    have S2 := S1.step g2
    obtain ⟨a', r, ea, _, dg, c⟩ := look_get S2.vw (b1.step g2 S1.vw S1.pl) r2 e
    cases ea
    refine ⟨r, dg, ?_⟩
    rcases c with ⟨rfl, rfl⟩ | ⟨v, u', rfl, rfl, r⟩
    · exact q _ _ G2 H2 p (g1.trans g2) .non
    · exact q _ _ G2 H2 p (g1.trans g2) r
/-- k in d -/
def wDIn (wb wa : WE) : WE := fun ρ post => wb ρ fun y => wa ρ fun x => ∃ o, lookU x y = some o ∧ post (.bl o.isSome)
def wDNotIn (wb wa : WE) : WE := fun ρ post => wb ρ fun y => wa ρ fun x => ∃ o, lookU x y = some o ∧ post (.bl (!o.isSome))
theorem v_din (hb : TrE Z tb wb) (ha : TrB Z ta wa) : TrE Z (tDIn tb ta) (wDIn wb wa) := fun σ ρ G H post Q S hw q =>
  hb σ ρ G H _ _ S hw fun v2 y G1 H1 w1 g1 r1 => ha σ ρ G1 H1 _ _ (S.step g1) w1 fun v1 x G2 H2 w2 g2 b2 => by
    obtain ⟨o, e, p⟩ := w2
    obtain ⟨a, r, rfl, _, dg, c⟩ := look_get ((S.step g1).step g2).vw b2 (r1.same g2.gg) e
    refine ⟨a, r, rfl, dg, ?_⟩
    rcases c with ⟨rfl, rfl⟩ | ⟨v, u', rfl, rfl, r⟩
    · exact q _ _ G2 H2 p (g1.trans g2) (.bl _)
    · exact q _ _ G2 H2 p (g1.trans g2) (.bl _)
theorem v_dnotin (hb : TrE Z tb wb) (ha : TrB Z ta wa) : TrE Z (tDNotIn tb ta) (wDNotIn wb wa) := fun σ ρ G H post Q S hw q =>
  hb σ ρ G H _ _ S hw fun v2 y G1 H1 w1 g1 r1 => ha σ ρ G1 H1 _ _ (S.step g1) w1 fun v1 x G2 H2 w2 g2 b2 => by
    obtain ⟨o, e, p⟩ := w2
    obtain ⟨a, r, rfl, _, dg, c⟩ := look_get ((S.step g1).step g2).vw b2 (r1.same g2.gg) e
    refine ⟨a, r, rfl, dg, ?_⟩
    rcases c with ⟨rfl, rfl⟩ | ⟨v, u', rfl, rfl, r⟩
    · exact q _ _ G2 H2 p (g1.trans g2) (.bl _)
    · exact q _ _ G2 H2 p (g1.trans g2) (.bl _)
/-! ### new dicts, d[k] = v -/
theorem v_dnew : TrF Z tDNewK (wC (.dic [])) := fun σ ρ G H post Q S hw q p np => q p _ _ G _ hw (Gr.newH S.vw S.pl np) np (S.vw.free np) upd_same (.dic .nil (Nat.zero_le _))
theorem v_dnewT : TrF Z tDNewT (wC (.dit [])) := fun σ ρ G H post Q S hw q p np => q p _ _ G _ hw (Gr.newH S.vw S.pl np) np (S.vw.free np) upd_same (.dit .nil (Nat.zero_le _))
def wDPut (i : Nat) (wk we : WE) : WS := fun V ρ => ∃ d, ρ[i]? = some (.ow d) ∧ isDic d ∧ we ρ fun u => wk ρ fun y =>
  (∃ kus k, d = .dic kus ∧ keyU y = some k ∧ kus.length < 100000 ∧ V.nx (ρ.set i (.ow (.dic (putU kus k u))))) ∨ ∃ kus us ks, d = .dit kus ∧ y = .tup us ∧ keysU us = some ks ∧ kus.length < 100000 ∧ V.nx (ρ.set i (.ow (.dit (putU kus ks u))))
theorem s_dput {i : Nat} {tk te : TE} {wk we : WE} (h : TrE Z te we) (hk : TrE Z tk wk) : TrS Z (tAsg te (gSub (tVar i) tk rSetD)) (wDPut i wk we) := fun V D σ ρ G H S hw B => by
  obtain ⟨d, e, _, p⟩ := hw
  obtain ⟨a, o, e1, _⟩ := S.ow i _ e
  refine h σ ρ G H _ _ S p fun v u G1 H1 p1 g1 r1 => ⟨_, e1, hk σ ρ G1 H1 _ _ (S.step g1) p1 fun kv y G2 H2 p2 g2 r2 => ?_⟩
  have S2 := (S.step g1).step g2
  obtain ⟨a', o', e1', h1, ga, z1, ho⟩ := S2.ow i _ e
  rw [e1] at e1'
  cases e1'
  rcases p2 with ⟨kus, k, rfl, ek, l, p3⟩ | ⟨kus, us, ks, rfl, rfl, ek, l, p3⟩
  · cases ho with
    | dic kk z =>
      rename_i kvs
      refine ⟨a, _, rfl, .inl ⟨kvs, k, h1, r2.key ek, lineN (by rw [kk.length]; omega), rfl⟩, ?_⟩
      exact B.nx _ _ G2 _ (S2.put e e1 (.dic (kk.put (r1.same g2.gg)) (Nat.le_trans (putU_len _ _ _) l))) ((g1.ex.trans g2.ex).trans (ow_ex S2 e e1)) p3
  · cases ho with
    | dit kk z =>
      rename_i kvs
      cases r2 with
      | tup hh kl zl =>
        refine ⟨a, _, rfl, .inr ⟨kvs, ks, _, h1, rfl, by rw [S2.vw.tup hh, kl.keys ek], lineN (by rw [kk.length]; omega), rfl⟩, ?_⟩
        exact B.nx _ _ G2 _ (S2.put e e1 (.dit (kk.put (r1.same g2.gg)) (Nat.le_trans (putU_len _ _ _) l))) ((g1.ex.trans g2.ex).trans (ow_ex S2 e e1)) p3
/-! ### {k: v, ..} -/
abbrev WP := List Cell → (List (Key × U) → Prop) → Prop
def TrP (Z : Zc) (trs : List (TE × TE)) (w : WP) : Prop := ∀ σ ρ G H (post : List (Key × U) → Prop) (Q : List (V × V) → Hp → Prop), Sv Z σ ρ G H → w ρ post → (∀ kvs kus G' H', post kus → Z.gr G H G' H' → RpD Z.pp G' kvs kus → Q (kvs.map fun kv => (kV kv.1, kv.2)) H') → tPairs trs σ H Q
def wPNil : WP := fun _ post => post []
def wPCons (wk wv : WE) (wr : WP) : WP := fun ρ post => wk ρ fun y => wv ρ fun u => wr ρ fun kus => ∃ k, keyU y = some k ∧ post ((k, u) :: kus)
theorem v_pnil : TrP Z [] wPNil := fun σ ρ G H post Q S hw q => q [] [] G H hw (Gr.refl S.vw S.pl) .nil
theorem v_pcons {tk tv : TE} {wk wv : WE} {trs : List (TE × TE)} {wr : WP} (hk : TrE Z tk wk) (hv : TrE Z tv wv) (hr : TrP Z trs wr) : TrP Z ((tk, tv) :: trs) (wPCons wk wv wr) := fun σ ρ G H post Q S hw q =>
  hk σ ρ G H _ _ S hw fun kv y G1 H1 w1 g1 r1 => hv σ ρ G1 H1 _ _ (S.step g1) w1 fun v u G2 H2 w2 g2 r2 => hr σ ρ G2 H2 _ _ ((S.step g1).step g2) w2 fun kvs kus G3 H3 w3 g3 r3 => by
    obtain ⟨k, ek, p⟩ := w3
    rw [r1.key ek]
    exact q ((k, v) :: kvs) _ G3 H3 p ((g1.trans g2).trans g3) (.cons (r2.same g3.gg) r3)
def mergeU (kus more : List (Key × U)) : List (Key × U) := more.foldl (fun acc kv => putU acc kv.1 kv.2) kus
theorem RpD.merge {pp : Addr} {G : Hp} : ∀ {more : List (Key × V)} {mus : List (Key × U)}, RpD pp G more mus → ∀ {kvs : List (Key × V)} {kus : List (Key × U)}, RpD pp G kvs kus → RpD pp G (mergeK kvs more) (mergeU kus mus)
  | _, _, .nil, _, _, r => r
  | _, _, .cons h t, _, _, r => RpD.merge t (r.put h)
theorem mergeU_len : ∀ (more kus : List (Key × U)), (mergeU kus more).length ≤ kus.length + more.length
  | [], kus => Nat.le_refl _
  | p :: r, kus => by
    have h1 := mergeU_len r (putU kus p.1 p.2)
    have h2 := putU_len kus p.1 p.2
    show (mergeU (putU kus p.1 p.2) r).length ≤ kus.length + (r.length + 1)
    omega
def wDisp (wp : WP) : WE := fun ρ post => wp ρ fun kus => kus.length ≤ 15 ∧ post (.dic (mergeU [] kus))
theorem v_disp {trs : List (TE × TE)} {wp : WP} (h : TrP Z trs wp) : TrF Z (tDisp trs) (wDisp wp) := fun σ ρ G H post Q S hw q p np => by
  have gN := Gr.newH (b := Z.b) (o := .dK []) S.vw S.pl np
  have S1 := S.step gN
  refine h σ ρ G _ _ _ S1 hw fun kvs kus G2 H2 w2 g2 r2 => ?_
  have nDp : Off Z.b Z.pp p := off_none S.pl np
  obtain ⟨gp, hp⟩ := g2.fr p _ nDp upd_same (S.vw.free np) rfl
  refine ⟨hp, kvs, rfl, by rw [r2.length]; exact w2.1, ?_⟩
  refine q p _ _ G2 _ w2.2 ?_ np gp upd_same (.dic (r2.merge .nil) ?_)
  · exact gr_own (gN.trans g2) S.vw S.pl np gp _ (.inr (dic_no hp))
  · have := mergeU_len kus []
    have := w2.1
    show (mergeU [] kus).length ≤ 100000
    simp only [List.length_nil] at *
    omega
/-! ### {k: v for ..} -/
def wDc (wi : WA) (wg : WG) (wt : WT) (wk wv : WE) (vs : List Nat) : WE := fun ρ post => wi ρ fun us => ∃ Iv : Nat → List (Key × U) → Prop, Iv 0 [] ∧
  (∀ (i : Nat) u acc, us[i]? = some u → Iv i acc → wg u (wipeR ρ vs) fun ρ2 => wt ρ2 fun c => if c = true then wk ρ2 fun y => wv ρ2 fun z => ∃ k, keyU y = some k ∧ Iv (i + 1) (putU acc k z) else Iv (i + 1) acc) ∧ ∀ acc, Iv us.length acc → post (.dic acc)
theorem dc_at {ti : TI} {g : TG} {tt : TT} {tk tv : TE} {wi : WA} {wg : WG} {wt : WT} {wk wv : WE} {vs : List Nat} (hg : TrG Z g wg vs) (ht : TrT Z tt wt) (hk : TrE Z tk wk) (he : TrE Z tv wv) (h0 : ∀ v ∈ vs, Z.may v) {σ : L2.St} {ρ : List Cell} {G H : Hp} {post : U → Prop} {Q : VK} (S : Sv Z σ ρ G H) (hi : TrIat Z σ ρ G H ti wi) (hw : wDc wi wg wt wk wv vs ρ post)
    (q : ∀ p o u G' H', post u → Z.gr G H G' H' → H p = none → G' p = none → H' p = some o → Ow Z.pp G' o u → Q (.ref p) H') : tDc ti g tt tk tv vs σ H Q :=
  hi _ _ hw fun J n Gd Y us G1 H1 p g1 hl hz wk' hG hY D nD => by
    obtain ⟨Iv, i0, is, ie⟩ := p
    have S1 := S.step g1
    have gN := Gr.newH (b := Z.b) (o := .dK []) S1.vw S1.pl nD
    refine dc_it wk' (fun i H' => ∃ G' acc us', Z.gr G1 H1 G' H' ∧ H' D = some (.dK acc) ∧ G' D = none ∧ RpD Z.pp G' acc us' ∧ us'.length ≤ i ∧ Iv i us') ⟨G1, [], [], gN, upd_same, S1.vw.free nD, .nil, Nat.zero_le _, i0⟩ (fun i H' _ ⟨G', acc, us', g', _⟩ => hG G' H' g'.ex g'.vw) (fun i x H' H'' hlt ⟨G', acc, us', g', eD, gD, kA, lA, iv⟩ y => ?_) (fun H' ⟨G', acc, us', g', eD, gD, kA, lA, iv⟩ => ?_)
    · have S' := S1.step g'
      obtain ⟨u, G'', eu, g2, r⟩ := hY i x G' H' H'' hlt g'.ex S'.vw S'.pl y
      have Sw := (S'.step g2).wipe vs h0
      have nDp : Off Z.b Z.pp D := off_none S1.pl nD
      refine hg x u _ _ G'' H'' _ _ Sw r (is i u us' eu iv) fun σ2 ρ2 S3 ew p2 => ⟨ew.trans ?_, ?_⟩
      · refine List.ext_getElem? fun j => ?_
        rw [wipe_at, wipe_at, wipe_length]
        by_cases m : j ∈ vs
        · rw [if_pos m, if_pos m]
        · rw [if_neg m, if_neg m]
      refine ht σ2 ρ2 G'' H'' _ _ S3 p2 fun c G3 H3 p3 g3 => ?_
      obtain ⟨gD2, eD2⟩ := g2.fr D _ nDp eD gD rfl
      obtain ⟨gD3, eD3⟩ := g3.fr D _ nDp eD2 gD2 rfl
      cases c with
      | false => exact iteF ⟨G3, acc, us', (g'.trans g2).trans g3, eD3, gD3, (kA.same g2.gg).same g3.gg, Nat.le_succ_of_le lA, p3⟩
      | true =>
        refine iteT (hk σ2 ρ2 G3 H3 _ _ (S3.step g3) p3 fun kv ky G4 H4 p4 g4 r4 => he σ2 ρ2 G4 H4 _ _ ((S3.step g3).step g4) p4 fun v yv G5 H5 p5 g5 r5 => ?_)
        obtain ⟨k, ek, p6⟩ := p5
        obtain ⟨gD4, eD4⟩ := g4.fr D _ nDp eD3 gD3 rfl
        obtain ⟨gD5, eD5⟩ := g5.fr D _ nDp eD4 gD4 rfl
        have kA5 := (((kA.same g2.gg).same g3.gg).same g4.gg).same g5.gg
        refine ⟨acc, k, r4.key ek, eD5, lineN (by rw [kA5.length]; omega), G5, putK acc k v, putU us' k yv, gr_own ((((g'.trans g2).trans g3).trans g4).trans g5) S1.vw S1.pl nD gD5 _ (.inr (dic_no eD5)), upd_same, gD5, kA5.put r5, Nat.le_trans (putU_len _ _ _) (Nat.succ_le_succ lA), p6⟩
    · rw [← hl] at iv
      exact q D _ _ G' H' (ie us' iv) (g1.trans g') (free_back S g1 nD) gD eD (.dic kA (Nat.le_trans lA (by omega)))
theorem v_dc {ti : TI} {g : TG} {tt : TT} {tk tv : TE} {wi : WA} {wg : WG} {wt : WT} {wk wv : WE} {vs : List Nat} (hi : TrI Z ti wi) (hg : TrG Z g wg vs) (ht : TrT Z tt wt) (hk : TrE Z tk wk) (he : TrE Z tv wv) (h0 : ∀ v ∈ vs, Z.may v := by exact Zc.mayL_of (by assumption) (by decide)) : TrF Z (tDc ti g tt tk tv vs) (wDc wi wg wt wk wv vs) := fun σ ρ G H post Q S hw q => dc_at hg ht hk he h0 S (hi σ ρ G H S) hw q
/-! ### a dict walked by its keys -/
theorem isD_no {u : HO} (i : isD u = true) : (∀ ps, u ≠ .tbl ps) ∧ ∀ φ, u ≠ .ext φ := by
  cases u with
  | dK k => exact ⟨(fun _ z => nomatch z), (fun _ z => nomatch z)⟩
  | dT k => exact ⟨(fun _ z => nomatch z), (fun _ z => nomatch z)⟩
  | _ => cases i
theorem gr_lock {b : PT} {pp q : Addr} {G0 H0 G H : Hp} (g : Gr b pp q G0 H0 G H) {d : Addr} {u : HO} {od : Obj} (hd : G d = some u) (iu : isD u = true) (hu : H d = some u) : Gr b pp q G0 H0 G (upd H d (.frz od u)) := by
  have ne : ∀ {a : Addr}, G a = none → a ≠ d := fun {a} n e => by rw [e, hd] at n; cases n
  refine ⟨⟨g.gg, fun a o e => ?_, fun a o n e g' => ?_, g.pl.put (fun x e => by rw [hu] at e; cases e; exact isD_no iu) (fun z => let ⟨_, n1, _⟩ := g.pl.1 z; ne n1) (fun z => let ⟨_, _, n2⟩ := g.pl.1 z; ne n2)⟩, fun a o e => ?_⟩
  · by_cases c : a = d
    · subst c
      rw [hd] at e
      cases e
      exact .inr ⟨iu, od, upd_same⟩
    · rw [upd_ne c]
      exact g.vw a o e
  · obtain ⟨z1, z2⟩ := g.fr0 a o n e g'
    have ne2 : a ≠ d := fun ea => by
      subst ea
      cases q : isTp o with
      | false => rw [z1 q] at hd; cases hd
      | true =>
        rcases g.vw a u hd with k | ⟨_, ob, k⟩
        · rw [z2] at k
          cases k
          cases u <;> first | (cases iu; done) | (cases q; done)
        · rw [z2] at k
          cases k
          cases q
    exact ⟨z1, by rw [upd_ne ne2]; exact z2⟩
  · by_cases c : a = d
    · subst c
      have e2 := g.gg _ _ e
      rw [hd] at e2
      cases e2
      rcases g.ge a _ e with k | ⟨_, _, ob, k⟩
      · exact .inr ⟨k.symm.trans hu, iu, od, upd_same⟩
      · rw [hu] at k
        cases k
    · have := g.ge a o e
      unfold Lk at this ⊢
      rw [upd_ne c]
      exact this
theorem Sv.lock {σ : L2.St} {ρ : List Cell} {G H : Hp} (S : Sv Z σ ρ G H) {d : Addr} {u : HO} {od : Obj} (hd : G d = some u) (iu : isD u = true) (hu : H d = some u) : Sv Z σ ρ G (upd H d (.frz od u)) := by
  have ne : ∀ {a : Addr}, G a = none → a ≠ d := fun {a} n e => by rw [e, hd] at n; cases n
  refine ⟨gr_lock S.gr hd iu hu, S.w0, S.p0, S.ex, S.ln, S.fz, fun i w e => ?_, S.me, S.pn, S.dis⟩
  obtain ⟨a, o, h1, h2, h3, h4, h5⟩ := S.ow i w e
  exact ⟨a, o, h1, by rw [upd_ne (ne h3)]; exact h2, h3, h4, h5⟩
/-- the lock is taken away again: H1 was there ahead of it -/
theorem gr_unlock {b : PT} {pp q : Addr} {G0 H0 G1 H1 G H : Hp} (g0 : Gr b pp q G0 H0 G1 H1) (g : Gr b pp q G0 H0 G H) {d : Addr} {u : HO} (hd : G d = some u) (hd1 : G1 d = some u) (iu : isD u = true) (hu : H1 d = some u) : Gr b pp q G0 H0 G (upd H d u) := by
  have ne : ∀ {a : Addr}, G a = none → a ≠ d := fun {a} n e => by rw [e, hd] at n; cases n
  refine ⟨⟨g.gg, fun a o e => ?_, fun a o n e g' => ?_, g.pl.put (fun x e => by
    rcases g.vw d u hd with k | ⟨_, ob, k⟩
    · rw [k] at e; cases e; exact isD_no iu
    · rw [k] at e; cases e; exact ⟨(fun _ z => nomatch z), (fun _ z => nomatch z)⟩) (fun z => let ⟨_, n1, _⟩ := g.pl.1 z; ne n1) (fun z => let ⟨_, _, n2⟩ := g.pl.1 z; ne n2)⟩, fun a o e => ?_⟩
  · by_cases c : a = d
    · subst c
      rw [hd] at e
      cases e
      exact .inl upd_same
    · rw [upd_ne c]
      exact g.vw a o e
  · obtain ⟨z1, z2⟩ := g.fr0 a o n e g'
    have ne2 : a ≠ d := fun ea => by
      subst ea
      cases q : isTp o with
      | false => rw [z1 q] at hd; cases hd
      | true =>
        rcases g.vw a u hd with k | ⟨_, ob, k⟩
        · rw [z2] at k
          cases k
          cases u <;> first | (cases iu; done) | (cases q; done)
        · rw [z2] at k
          cases k
          cases q
    exact ⟨z1, by rw [upd_ne ne2]; exact z2⟩
  · by_cases c : a = d
    · subst c
      rcases g0.ge a o e with k | ⟨_, _, ob, k⟩
      · exact .inl (upd_same.trans (hu.symm.trans k))
      · rw [hu] at k
        cases k
        cases iu
    · have := g.ge a o e
      unfold Lk at this ⊢
      rw [upd_ne c]
      exact this
theorem Sv.unlock {σ σ1 : L2.St} {ρ ρ1 : List Cell} {G H G1 H1 : Hp} (S1 : Sv Z σ1 ρ1 G1 H1) (S : Sv Z σ ρ G H) {d : Addr} {u : HO} (hd : G d = some u) (hd1 : G1 d = some u) (iu : isD u = true) (hu : H1 d = some u) : Sv Z σ ρ G (upd H d u) := by
  have ne : ∀ {a : Addr}, G a = none → a ≠ d := fun {a} n e => by rw [e, hd] at n; cases n
  refine ⟨gr_unlock S1.gr S.gr hd hd1 iu hu, S.w0, S.p0, S.ex, S.ln, S.fz, fun i w e => ?_, S.me, S.pn, S.dis⟩
  obtain ⟨a, o, h1, h2, h3, h4, h5⟩ := S.ow i w e
  exact ⟨a, o, h1, by rw [upd_ne (ne h3)]; exact h2, h3, h4, h5⟩
theorem ex_unlock {G H G' H' : Hp} {d : Addr} {u : HO} {od : Obj} (hd : G d = some u) (hu : H d = some u) (x : Ex G (upd H d (.frz od u)) G' H') : H' d = some (.frz od u) ∧ Ex G H G' (upd H' d u) := by
  refine ⟨?_, x.gg, fun a o e => ?_⟩
  · rcases x.ge d u hd with k | ⟨k, iu, _⟩
    · exact k.trans upd_same
    · rw [upd_same] at k
      cases k
  by_cases c : a = d
  · subst c
    exact .inl (upd_same.trans hu.symm)
  · have := x.ge a o e
    unfold Lk at this ⊢
    rw [upd_ne c] at this
    rw [upd_ne c]
    exact this
/-- a lock that was there stays -/
theorem ex_locked {G H G' H' : Hp} {d : Addr} {u : HO} {ob : Obj} (hd : G d = some u) (hl : H d = some (.frz ob u)) (x : Ex G H G' H') : H' d = some (.frz ob u) := by
  rcases x.ge d u hd with k | ⟨k, iu, _⟩
  · exact k.trans hl
  · rw [hl] at k
    cases k
def tLockU (t : TS) : TS := fun D σ H => tLock t D σ H ∨ t D σ H
theorem ps_lockU {X : Cx} {st : Stmt} {t : TS} (h : PS X st t) : PS X st (tLockU t) := by
  refine ⟨fun pins s σ H D I hw => ?_⟩
  rcases hw with hw | hw
  · exact (ps_lock h).run pins s σ H D I hw
  · exact h.run pins s σ H D I hw
def tLockEU (t : TE) : TE := fun σ H Q => tLockE t σ H Q ∨ t σ H Q
theorem pe_lockU {X : Cx} {e : Expr} {t : TE} (h : PE X e t) : PE X e (tLockEU t) := by
  refine ⟨fun pins s σ H Q I hw => ?_⟩
  rcases hw with hw | hw
  · exact (pe_lock h).run pins s σ H Q I hw
  · exact h.run pins s σ H Q I hw
def wKeys (i : Nat) : WA := fun ρ post => ∃ kus, ρ[i]? = some (.fz (.dic kus)) ∧ (∀ s, Sum.inr s ∈ keysOf kus → s.length ≤ 100000) ∧ post ((keysOf kus).map uKey)
theorem i_keys_at {i : Nat} {σ : L2.St} {ρ : List Cell} {G H : Hp} (S : Sv Z σ ρ G H) (lk : ∀ d kvs, σ[i]? = some (some (.ref d)) → G d = some (.dK kvs) → ∃ ob, H d = some (.frz ob (.dK kvs))) : TrIat Z σ ρ G H (iKeys (tVar i)) (wKeys i) := fun post R hw q => by
  obtain ⟨kus, e, hs, p⟩ := hw
  obtain ⟨v, e1, r⟩ := S.fz i _ e
  cases r with
  | @dic d kvs _ hd k z =>
    obtain ⟨ob, hl⟩ := lk d kvs e1 hd
    refine ⟨_, e1, d, ob, rfl, .inl ⟨kvs, hl, q _ _ _ _ _ G H p (Gr.refl S.vw S.pl) (by rw [List.length_map]; unfold keysOf; rw [List.length_map, k.length]) (by rw [k.length]; exact z) walk_keys (fun G' H' x _ => ex_locked hd hl x) fun j x G' H' H'' hj x' w' pl y => ?_⟩⟩
    obtain ⟨rfl, kk, vv, ek, rfl⟩ := y
    obtain ⟨u, eu, _⟩ := k.get ek
    have ej : (keysOf kus)[j]? = some kk := by unfold keysOf; rw [List.getElem?_map, eu]; rfl
    refine ⟨uKey kk, G', by rw [List.getElem?_map, ej]; rfl, Gr.refl w' pl, Rp.uKey kk fun s es => hs s (es ▸ List.mem_of_getElem? ej)⟩
theorem s_keys {i : Nat} {g : TG} {tb : TS} {wg : WG} {wb : WS} {vs : List Nat} (hg : TrG Z g wg vs) (hb : TrS Z tb wb) : TrS Z (tLockU (tFor (iKeys (tVar i)) g tb)) (wFor (wKeys i) wg wb) := fun V D σ ρ G H S hw B => by
  have hw' := hw
  obtain ⟨kus, e, _⟩ := hw
  obtain ⟨v, e1, r⟩ := S.fz i _ e
  cases r with
  | @dic d kvs _ hd k z =>
    rcases S.vw d _ hd with h | ⟨_, ob, h⟩
    · refine .inl ⟨d, .dK kvs, h, trivial, fun od => ?_⟩
      have SL := S.lock (od := od) hd rfl h
      refine for_at hg hb SL (i_keys_at SL fun d' kvs' e2 hd' => ?_) hw' ⟨fun σ' ρ' G' H' S' x p => ?_, fun v u G' H' g' x r p => ?_, fun σ' ρ' G' H' S' x p => ?_, fun σ' ρ' G' H' S' x p => ?_⟩
      · rw [e1] at e2
        cases e2
        rw [hd] at hd'
        cases hd'
        exact ⟨od, upd_same⟩
      · obtain ⟨hl, x'⟩ := ex_unlock hd h x
        exact ⟨hl, B.nx σ' ρ' G' _ (Sv.unlock S S' (x.gg _ _ hd) hd rfl h) x' p⟩
      · obtain ⟨hl, x'⟩ := ex_unlock hd h x
        exact ⟨hl, B.rt v u G' _ (gr_unlock S.gr g' (x.gg _ _ hd) hd rfl h) x' r p⟩
      · obtain ⟨hl, x'⟩ := ex_unlock hd h x
        exact ⟨hl, B.bk σ' ρ' G' _ (Sv.unlock S S' (x.gg _ _ hd) hd rfl h) x' p⟩
      · obtain ⟨hl, x'⟩ := ex_unlock hd h x
        exact ⟨hl, B.ct σ' ρ' G' _ (Sv.unlock S S' (x.gg _ _ hd) hd rfl h) x' p⟩
    · refine .inr (for_at hg hb S (i_keys_at S fun d' kvs' e2 hd' => ?_) hw' B)
      rw [e1] at e2
      cases e2
      rw [hd] at hd'
      cases hd'
      exact ⟨ob, h⟩
theorem v_lcKeys {i : Nat} {g : TG} {tt : TT} {te : TE} {wg : WG} {wt : WT} {we : WE} {vs : List Nat} (hg : TrG Z g wg vs) (ht : TrT Z tt wt) (he : TrE Z te we) (h0 : ∀ v ∈ vs, Z.may v := by exact Zc.mayL_of (by assumption) (by decide)) : TrF Z (tLockEU (tLc (iKeys (tVar i)) g tt te vs)) (wLc (wKeys i) wg wt we vs) := fun σ ρ G H post Q S hw q => by
  have hw' := hw
  obtain ⟨kus, e, _⟩ := hw
  obtain ⟨v, e1, r⟩ := S.fz i _ e
  cases r with
  | @dic d kvs _ hd k z =>
    rcases S.vw d _ hd with h | ⟨_, ob, h⟩
    · refine .inl ⟨d, .dK kvs, h, trivial, fun od => ?_⟩
      have SL := S.lock (od := od) hd rfl h
      refine lc_at hg ht he h0 SL (i_keys_at SL fun d' kvs' e2 hd' => ?_) hw' fun p o u G' H' pu g' np gp hp ho => ?_
      · rw [e1] at e2
        cases e2
        rw [hd] at hd'
        cases hd'
        exact ⟨od, upd_same⟩
      · obtain ⟨hl, x'⟩ := ex_unlock hd h g'.ex
        have hd' := g'.gg _ _ hd
        have nd : p ≠ d := fun z => by rw [z, hd'] at gp; cases gp
        refine ⟨hl, q p o u G' _ pu (gr_unlock (Gr.refl S.vw S.pl) ⟨⟨g'.gg, g'.vw, fun a o' n ea ga => ?_, g'.pl⟩, fun a o' ea => ?_⟩ hd' hd rfl h) (by rw [upd_ne nd] at np; exact np) gp (by rw [upd_ne nd]; exact hp) ho⟩
        · have na : a ≠ d := fun z => by rw [z, hd] at ga; cases ga
          exact g'.fr0 a o' n (by rw [upd_ne na]; exact ea) ga
        · by_cases c : a = d
          · subst c
            rw [hd] at ea
            cases ea
            exact .inr ⟨h, rfl, od, hl⟩
          · have := g'.ge a o' ea
            unfold Lk at this ⊢
            rw [upd_ne c] at this
            exact this
    · refine .inr (lc_at hg ht he h0 S (i_keys_at S fun d' kvs' e2 hd' => ?_) hw' q)
      rw [e1] at e2
      cases e2
      rw [hd] at hd'
      cases hd'
      exact ⟨ob, h⟩
end
end SV
/-! The value layer: the rest. -/
namespace SV
open PySem PySem.Spec PyProof.Rows L2 SL
section
variable {X : Cx}
theorem call_isiTK (K : PySem.W.Frag) (h : X.K = K := by rfl) : CallR X (.builtin "isinstance") (rIsiT K) := by subst h; exact call_isiT
/-- isinstance(x, C), C an own class: of data and of own objects -/
def rIsCV (K : PySem.W.Frag) (C : Addr) : List V → Hp → VK → Prop := fun xs H Q => ∃ (x : V) (t : Value) (b : Bool), xs = [x, .ref C] ∧ TyX K H x t ∧ PySem.W.kitOne K t (.ref C) = some b ∧ Q (.bl b) H
end
section
variable {Z : Zc} {te : TE} {we : WE} {tA : TA} {wA : WA}
def fNeg : U → Option U
  | .int i => some (.int (-i))
  | _ => none
theorem v_neg (h : TrB Z te we) : TrE Z (tUn (rU fun i => .int (-i)) te) (wUn fNeg we) := fun σ ρ G H post Q S hw q => h σ ρ G H _ _ S hw fun v x G1 H1 w1 g1 b1 => by
  obtain ⟨u, e, p⟩ := w1
  cases b1 <;> first | cases e | skip
  exact ⟨_, rfl, q _ _ G1 H1 p g1 (.int _)⟩
/-- t[::-1] -/
def fRevT : U → Option U
  | .tup us => some (.tup us.reverse)
  | _ => none
theorem v_revT {K : PySem.W.Frag} (h : TrE Z te we) : TrE Z (tRevT K te) (wUn fRevT we) := fun σ ρ G H post Q S hw q => h σ ρ G H _ _ S hw fun v x G1 H1 w1 g1 r1 => by
  obtain ⟨u, e, p⟩ := w1
  have S1 := S.step g1
  cases r1 <;> first | cases e | skip
  rename_i a vs us h k z
  exact ⟨a, vs, rfl, SqT.of (S1.vw.tup h), fun c nc => q _ _ _ _ p (g1.trans (Gr.new S1.vw S1.pl nc)) (.tup upd_same (k.rev.same (same_upd (S1.vw.free nc))) (by rw [List.length_reverse]; exact z))⟩
/-- the truth of a value -/
def truU : U → Option Bool
  | .non => some false
  | .bl b => some b
  | .int i => some (i != 0)
  | .str s => some ((s.length : Int) != 0)
  | .lst us => some (!us.isEmpty)
  | .tup us => some (!us.isEmpty)
  | _ => none
theorem RpL.isEmpty {pp : Addr} {G : Hp} {vs : List V} {us : List U} (h : RpL pp G vs us) : vs.isEmpty = us.isEmpty := by
  cases h <;> rfl
theorem RpD.ints {pp : Addr} {G : Hp} : ∀ {kvs : List (Key × V)} {kus : List (Key × U)} {is : List Int}, RpD pp G kvs kus → kus.map (·.2) = is.map U.int → kvs.map (·.2) = is.map V.int
  | _, _, [], .nil, _ => rfl
  | _, _, _ :: _, .nil, e => nomatch e
  | _, _, [], .cons _ _, e => nomatch e
  | _, _, i :: is, .cons (u := u) h t, e => by
    have e1 : u = U.int i := (List.cons.inj e).1
    subst e1
    cases h
    rw [List.map_cons, RpD.ints t (List.cons.inj e).2]
    rfl
def wMinVals (we : WE) : WE := fun ρ post => we ρ fun x => ∃ kus is, x = .dic kus ∧ kus.map (·.2) = is.map U.int ∧ (is = [] → post .non) ∧ ∀ m, m ∈ is → (∀ j ∈ is, m ≤ j) → post (.int m)
theorem v_minVals (h : TrB Z te we) : TrE Z (tMinValsD te) (wMinVals we) := fun σ ρ G H post Q S hw q => h σ ρ G H _ _ S hw fun v x G1 H1 w1 g1 b1 => by
  obtain ⟨kus, is, rfl, e, p0, p1⟩ := w1
  cases b1 with
  | dic hh k z => exact ⟨_, _, is, rfl, hh, k.ints e, fun e0 => q _ _ G1 H1 (p0 e0) g1 .non, fun m h1 h2 => q _ _ G1 H1 (p1 m h1 h2) g1 (.int m)⟩
end
end SV
/-! The value layer: try with except clauses; calls, makings in its body; an error's field. -/
namespace SV
open PySem PySem.Spec PyProof.Rows L2 SL
/-- the slots that are held, as they are held -/
def Zc.keeps (Z : Zc) (σ : L2.St) : Prop := (∀ i v, Z.me i = some v → σ[i]? = some (some v)) ∧ σ.length = Z.n
/-- what the landed error holds -/
def ErrAt (Z : Zc) (od : Option Addr) (us : List (Str × U)) : Prop := ∃ fs, XdAt Z.pin od fs ∧ RpF Z.pp Z.pin fs us
section
variable {Z : Zc} {tA : TA} {wA : WA}
theorem errS {σ : L2.St} {ρ : List Cell} {G H : Hp} (S : Sv Z σ ρ G H) {W : WX} {ew : EW} (hE : Z.E = fun c od H' => ∀ σ', Z.keeps σ' → W c od σ' H') (he : Z.ew = ew) : ∀ C fs gs od G' H', ew C gs → Z.gr0 G H G' H' → XdAt G' od fs → RpF Z.pp G' fs gs → W (.ref C) od σ H' := fun C fs gs od G' H' a g x r => by
  subst he
  have e := S.ex C fs gs od G' H' a (S.gr.trans g) x r
  rw [hE] at e
  exact e σ ⟨S.me, S.ln.1⟩
/-- a call in a try's body -/
theorem v_callS {b : PT} {n : Nat} {W0 : Wf} {W : WX} {ew : EW} (hE : Z.E = fun c od H' => ∀ σ', Z.keeps σ' → W c od σ' H') (he : Z.ew = ew) (hb : PLe b Z.b) (h : TrA Z tA wA) : TrE Z (tCallS (spV b n W0) (L2.WE W) tA) (wCall n W0 ew wA) := fun σ ρ G H post Q S hw q =>
  h σ ρ G H _ _ S hw fun vs us G1 H1 p1 g1 r1 => spV_of (S.step g1) hb (errS (S.step g1) hE he) r1 p1.1 p1.2 fun v u G' H' p g r => q v u G' H' p (g1.trans g) r
theorem v_makeS {C : Addr} {b : PT} {n : Nat} {W0 : Wf} {W : WX} {ew : EW} (hE : Z.E = fun c od H' => ∀ σ', Z.keeps σ' → W c od σ' H') (he : Z.ew = ew) (hb : PLe b Z.b) (h : TrA Z tA wA) : TrE Z (tMakeS C (spI C b n W0) (L2.WE W) tA) (wCall n W0 ew wA) := fun σ ρ G H post Q S hw q =>
  h σ ρ G H _ _ S hw fun vs us G1 H1 p1 g1 r1 x dx nx ndx ne => by
    have S1 := S.step g1
    have up : ∀ {G' H'}, Gr b Z.pp Z.q G1 H1 G' H' → Z.gr G1 H1 G' H' := fun {G' H'} g => g.le hb S1.pl
    exact ⟨x, dx, H1, vs, us, Z.pp, Z.q, G1, post, ew, rfl, rfl, nx, ndx, ne, r1, p1.1, S1.vw, S1.pl.le hb, p1.2, fun u G' H' p g r => ⟨rfl, q _ u G' H' p (g1.trans (up g)) r⟩, fun C fs gs od G' H' a g y r => errS S1 hE he C fs gs od G' H' a (up g) y r⟩
/-- e.fld of the landed error -/
def wExF (C0 : Addr) (fld : Str) (C : Addr) (us : List (Str × U)) : WE := fun _ post => C = C0 ∧ ∃ u, us = [(fld, u)] ∧ post u
theorem v_exf {C0 a : Addr} {fld : Str} {C : Addr} {od : Option Addr} {us : List (Str × U)} {i : Nat} (hx : ErrAt Z od us) (hm : Z.me i = some (.ref a)) : TrE Z (tExF C0 fld a (.ref C) od (tVar i)) (wExF C0 fld C us) := fun σ ρ G H post Q S hw q => by
  obtain ⟨rfl, u, rfl, p⟩ := hw
  obtain ⟨fs, x, r⟩ := hx
  cases r with
  | @cons k v _ _ _ h t =>
    cases t
    rcases x with ⟨d, rfl, hd⟩ | ⟨_, z⟩
    · refine ⟨_, S.me i _ hm, rfl, rfl, d, v, rfl, ?_, q v u G H p (Gr.refl S.vw S.pl) (h.same S.pn)⟩
      rcases S.vw d _ (S.pn d _ hd) with k | ⟨k, _⟩
      · exact k
      · cases k
    · cases z
end
/-! ### try -/
structure WC where
  c : Value
  i : Option Nat
  w : Addr → List (Str × U) → WS
/-- what the clauses wish of an error, one behind the other -/
def wHandle (K : PySem.W.Frag) (Eo : EW) (V : V3) (ρ : List Cell) : List WC → EW
  | [] => Eo
  | ⟨c, none, w⟩ :: r => fun C us => ∃ b, PySem.W.exmOne K (.ref C) c = some b ∧ (b = true → w C us V ρ) ∧ (b = false → wHandle K Eo V ρ r C us)
  | ⟨c, some i, w⟩ :: r => fun C us => ∃ b, PySem.W.exmOne K (.ref C) c = some b ∧ (b = true → w C us { nx := fun ρ' => V.nx (ρ'.set i .no), rt := V.rt, bk := fun ρ' => V.bk (ρ'.set i .no), ct := fun ρ' => V.ct (ρ'.set i .no) } (ρ.set i .no)) ∧ (b = false → wHandle K Eo V ρ r C us)
def hideO : List Cell → List Cell
  | [] => []
  | .ow _ :: r => .no :: hideO r
  | c :: r => c :: hideO r
theorem hideO_len : ∀ ρ : List Cell, (hideO ρ).length = ρ.length
  | [] => rfl
  | .ow _ :: r => congrArg (· + 1) (hideO_len r)
  | .no :: r => congrArg (· + 1) (hideO_len r)
  | .fz _ :: r => congrArg (· + 1) (hideO_len r)
theorem hideO_fz : ∀ {ρ : List Cell} {i : Nat} {u : U}, (hideO ρ)[i]? = some (.fz u) → ρ[i]? = some (.fz u)
  | [], _, _, h => by simp [hideO] at h
  | .ow _ :: r, 0, _, h => by simp [hideO] at h
  | .ow _ :: r, i + 1, _, h => by
    rw [List.getElem?_cons_succ]
    exact hideO_fz (by simpa [hideO] using h)
  | .no :: r, 0, _, h => by simp [hideO] at h
  | .no :: r, i + 1, _, h => by
    rw [List.getElem?_cons_succ]
    exact hideO_fz (by simpa [hideO] using h)
  | .fz _ :: r, 0, _, h => by simpa [hideO] using h
  | .fz _ :: r, i + 1, _, h => by
    rw [List.getElem?_cons_succ]
    exact hideO_fz (by simpa [hideO] using h)
theorem hideO_ow : ∀ {ρ : List Cell} {i : Nat} {u : U}, (hideO ρ)[i]? = some (.ow u) → False
  | [], _, _, h => by simp [hideO] at h
  | .ow _ :: r, 0, _, h => by simp [hideO] at h
  | .ow _ :: r, i + 1, _, h => hideO_ow (ρ := r) (i := i) (by simpa [hideO] using h)
  | .no :: r, 0, _, h => by simp [hideO] at h
  | .no :: r, i + 1, _, h => hideO_ow (ρ := r) (i := i) (by simpa [hideO] using h)
  | .fz _ :: r, 0, _, h => by simp [hideO] at h
  | .fz _ :: r, i + 1, _, h => hideO_ow (ρ := r) (i := i) (by simpa [hideO] using h)
theorem wipeR_at : ∀ (vs : List Nat) (ρ : List Cell) {i : Nat} {c : Cell}, (wipeR ρ vs)[i]? = some c → c ≠ .no → i ∉ vs ∧ ρ[i]? = some c
  | [], ρ, i, c, h, _ => ⟨List.not_mem_nil, h⟩
  | v :: vs, ρ, i, c, h, n => by
    rcases set_get h with ⟨_, z⟩ | ⟨ne, h⟩
    · exact absurd z.symm n
    · obtain ⟨a, b⟩ := wipeR_at vs ρ h n
      exact ⟨fun m => (List.mem_cons.mp m).elim ne a, b⟩
theorem wipeR_len : ∀ (vs : List Nat) (ρ : List Cell), (wipeR ρ vs).length = ρ.length
  | [], _ => rfl
  | v :: vs, ρ => by
    unfold wipeR
    rw [List.length_set, wipeR_len vs]
/-- what is raised and not caught -/
def OutOk (Z : Zc) (Wo : WX) (Eo : EW) : Prop := ∀ σ ρ G H, Sv Z σ ρ G H → ∀ C us od fs, Eo C us → XdAt G od fs → RpF Z.pp G fs us → Wo (.ref C) od σ H
theorem out0 {Z : Zc} : OutOk Z (fun _ _ _ _ => False) (fun _ _ => False) := fun _ _ _ _ _ _ _ _ _ z _ _ => z
theorem outX {Z : Zc} {E : XK} (hE : Z.E = E) : OutOk Z (fun cls d _ H => E cls d H) Z.ew := fun σ ρ G H S C us od fs a x r => by
  subst hE
  exact S.ex C fs us od G H a S.gr x r
inductive TrC (Z : Zc) (ok : Nat → Bool) : List Clause → List WC → Prop
  | nil : TrC Z ok [] []
  | only {c : Value} {ts : Addr → Value → Option Addr → TS} {w : Addr → List (Str × U) → WS} {l : List Clause} {ws : List WC} (h : ∀ (a C : Addr) (od : Option Addr) (us : List (Str × U)) (Z' : Zc), Z'.b = Z.b → ErrAt Z' od us → Z'.mays ok → TrS Z' (ts a (.ref C) od) (w C us)) (r : TrC Z ok l ws) : TrC Z ok ((c, none, ts) :: l) (⟨c, none, w⟩ :: ws)
  | named {c : Value} {i : Nat} {ts : Addr → Value → Option Addr → TS} {w : Addr → List (Str × U) → WS} {l : List Clause} {ws : List WC} (hi : ok i = true) (h : ∀ (a C : Addr) (od : Option Addr) (us : List (Str × U)) (Z' : Zc), Z'.b = Z.b → ErrAt Z' od us → Z'.me i = some (.ref a) → Z'.mays (fun j => j != i && ok j) → TrS Z' (ts a (.ref C) od) (w C us)) (r : TrC Z ok l ws) : TrC Z ok ((c, some i, ts) :: l) (⟨c, some i, w⟩ :: ws)
section
variable {Z : Zc}
/-- the same def, with more that is held -/
theorem Sv.hold {σ : L2.St} {ρ : List Cell} {G H : Hp} (S : Sv Z σ ρ G H) {me : Nat → Option V} (hm : ∀ i v, me i = some v → σ[i]? = some (some v)) : Sv { Z with me := me, pin := G } σ ρ G H :=
  ⟨S.gr, S.w0, S.p0, S.ex, S.ln, S.fz, S.ow, hm, Same.refl _, S.dis⟩
theorem Sv.unhold {σ : L2.St} {ρ : List Cell} {G H G1 : Hp} {me : Nat → Option V} (hp : Same Z.pin G1) (S : Sv { Z with me := me, pin := G1 } σ ρ G H) (hm : ∀ i v, Z.me i = some v → σ[i]? = some (some v)) : Sv Z σ ρ G H :=
  ⟨S.gr, S.w0, S.p0, S.ex, S.ln, S.fz, S.ow, hm, hp.trans S.pn, S.dis⟩
def inR (n : Nat) : List WC → Bool
  | [] => true
  | ⟨_, none, _⟩ :: r => inR n r
  | ⟨_, some i, _⟩ :: r => decide (i < n) && inR n r
theorem handle_ok {K : PySem.W.Frag} {Wo : WX} {Eo : EW} {ok : Nat → Bool} (hs : Z.mays ok) (ho : OutOk Z Wo Eo) {VV : V3} {D : Ends} {σ : L2.St} {ρ : List Cell} {G H : Hp} (S : Sv Z σ ρ G H) (B : Br Z VV D G H) {C : Addr} {us : List (Str × U)} {od : Option Addr} {fs : List (Str × V)} (x : XdAt G od fs) (r : RpF Z.pp G fs us) :
    ∀ {l : List Clause} {ws : List WC}, TrC Z ok l ws → inR ρ.length ws = true → wHandle K Eo VV ρ ws C us → wClauses K Wo D l (.ref C) od σ H := by
  intro l ws hc hr
  induction hc with
  | nil => intro hw; exact ho σ ρ G H S C us od fs hw x r
  | only h _ ih =>
    have ih := ih hr
    rintro ⟨b, e, hy, hn⟩
    refine ⟨b, e, fun hb a _ => ?_, fun hb => ih (hn hb)⟩
    have S2 := S.hold S.me
    exact h a C od us { Z with pin := G } rfl ⟨fs, x, r⟩ hs VV D σ ρ G H S2 (hy hb) ⟨fun σ' ρ' G' H' S' e p => B.nx σ' ρ' G' H' (Sv.unhold S.pn S' S'.me) e p, fun v u G' H' g e r p => B.rt v u G' H' g e r p, fun σ' ρ' G' H' S' e p => B.bk σ' ρ' G' H' (Sv.unhold S.pn S' S'.me) e p, fun σ' ρ' G' H' S' e p => B.ct σ' ρ' G' H' (Sv.unhold S.pn S' S'.me) e p⟩
  | @named c i ts w l ws hi h _ ih =>
    have hr' : decide (i < ρ.length) = true ∧ inR ρ.length ws = true := (Bool.and_eq_true _ _).mp hr
    have ih := ih hr'.2
    have il : i < σ.length := by rw [S.len]; exact of_decide_eq_true hr'.1
    rintro ⟨b, e, hy, hn⟩
    refine ⟨b, e, fun hb a _ => ?_, fun hb => ih (hn hb)⟩
    have hi' : Z.may i := hs i hi
    have ml : ∀ (x : Option V), (σ.set i x).length = Z.n := fun x => by rw [List.length_set]; exact S.ln.1
    have S1 : Sv Z (σ.set i (some (.ref a))) (ρ.set i .no) G H := by
      have S0 := S.no i hi'
      refine ⟨S0.gr, S0.w0, S0.p0, S0.ex, ⟨ml _, S0.ln.2⟩, fun j u e => ?_, fun j u e => ?_, me_set hi' S.me, S0.pn, fun j k a n h1 h2 e => ?_⟩
      · have c : i ≠ j := fun z => by
          subst z
          rcases set_get e with ⟨_, z⟩ | ⟨z, _⟩
          · cases z
          · exact z rfl
        obtain ⟨v, e1, hv⟩ := S0.fz j u e
        rw [List.getElem?_set_ne c] at e1 ⊢
        exact ⟨v, e1, hv⟩
      · have c : i ≠ j := fun z => by
          subst z
          rcases set_get e with ⟨_, z⟩ | ⟨z, _⟩
          · cases z
          · exact z rfl
        obtain ⟨a, o, e1, hv⟩ := S0.ow j u e
        rw [List.getElem?_set_ne c] at e1 ⊢
        exact ⟨a, o, e1, hv⟩
      · have f : ∀ {j : Nat}, isOw (ρ.set i .no) j → i ≠ j := fun {j} ⟨u, e⟩ z => by
          subst z
          rcases set_get e with ⟨_, z⟩ | ⟨z, _⟩
          · cases z
          · exact z rfl
        have d := S0.dis j k a n h1 h2
        rw [List.getElem?_set_ne (f h1)] at d e
        rw [List.getElem?_set_ne (f h2)] at d ⊢
        exact d e
    have S2 : Sv { Z with me := fun j => if j = i then some (.ref a) else Z.me j, pin := G } (σ.set i (some (.ref a))) (ρ.set i .no) G H := S1.hold fun j v e => by
      have e' : (if j = i then some (V.ref a) else Z.me j) = some v := e
      by_cases c : j = i
      · rw [if_pos c] at e'
        cases e'
        rw [c, List.getElem?_set_self il]
      · rw [if_neg c] at e'
        exact S1.me j v e'
    have fin : ∀ {σ' : L2.St} {ρ' : List Cell} {G' H' : Hp}, Sv { Z with me := fun j => if j = i then some (.ref a) else Z.me j, pin := G } σ' ρ' G' H' → Sv Z (σ'.set i none) (ρ'.set i .no) G' H' := fun {σ' ρ' G' H'} S' => by
      refine (Sv.unhold S.pn S' fun j v e => ?_).no i hi'
      have c : ¬ (j = i) := fun z => by
        rw [z, show Z.me i = none from hi'] at e
        cases e
      exact S'.me j v (show (if j = i then some (V.ref a) else Z.me j) = some v by rw [if_neg c]; exact e)
    exact h a C od us { Z with me := fun j => if j = i then some (.ref a) else Z.me j, pin := G } rfl ⟨fs, x, r⟩ (if_pos rfl) (fun j e => by
        have e' : j ≠ i ∧ ok j = true := by simpa using e
        show (if j = i then some (V.ref a) else Z.me j) = none
        rw [if_neg e'.1]
        exact hs j e'.2) _ _ _ _ G H S2 (hy hb) ⟨fun σ' ρ' G' H' S' e p => B.nx _ _ G' H' (fin S') e p, fun v u G' H' g e r p => B.rt v u G' H' g e r p, fun σ' ρ' G' H' S' e p => B.bk _ _ G' H' (fin S') e p, fun σ' ρ' G' H' S' e p => B.ct _ _ G' H' (fin S') e p⟩
def wTry (K : PySem.W.Frag) (vs : List Nat) (Eo : EW) (ws : List WC) (wb : EW → WS) : WS := fun V ρ => inR ρ.length ws = true ∧ wb (wHandle K Eo V (wipeR (hideO ρ) vs) ws) V (hideO ρ)
/-- try, told in one word -/
def tTry (K : PySem.W.Frag) (Wo : WX) (l : List Clause) (tb : WX → TS) : TS := fun D σ H => tb (wClauses K Wo D l) D σ H
theorem ps_tryU {X : Cx} {body : List Stmt} {h₀ : ExceptHandler} {hds : List ExceptHandler} {l : List Clause} {pos : Pos} {tb : WX → TS} {Wout : WX} (hs : X.stack = X.env :: X.outer) (hf : X.env.frame = some X.env.locals) (hN : X.N.Nodup) (tk : Takes X Wout)
    (hb : ∀ (W : WX) (pn : List (Addr × Obj)) (xe : Value → Shared → Prop), Takes (X.tr pn xe) W → PassesOwn (model X.prog X.w) X.A X.env xe → PSs (X.tr pn xe) body (tb W))
    (hh : ClausesOk X (h₀ :: hds) l) : PS X (.Try body (h₀ :: hds) [] [] pos) (tTry X.K Wout l tb) := ps_clauses hs hf hN tk hb hh
theorem s_try {K : PySem.W.Frag} {tb : WX → TS} {Wo : WX} {Eo : EW} {l : List Clause} {ws : List WC} {wb : EW → WS} {ok : Nat → Bool} (vs : List Nat) (hs : Z.mays ok) (ho : OutOk Z Wo Eo)
    (hb : ∀ (W : WX) (ew : EW) (Z' : Zc), Z'.ew = ew → Z'.b = Z.b → (Z'.E = fun c od H' => ∀ σ', Z'.keeps σ' → W c od σ' H') → Z'.mays (fun i => vs.contains i) → TrS Z' (tb W) (wb ew))
    (hc : TrC Z ok l ws) (hv : vs.all ok = true := by decide) : TrS Z (tTry K Wo l tb) (wTry K vs Eo ws wb) := fun V D σ ρ G H S hw B => by
  obtain ⟨hr, hw⟩ := hw
  show tb (wClauses K Wo D l) D σ H
  generalize eW : wClauses K Wo D l = W
  generalize eE : wHandle K Eo V (wipeR (hideO ρ) vs) ws = ew at hw
  generalize eM : (fun i => if vs.contains i then none else (σ[i]?).join : Nat → Option L2.V) = me
  have hme : ∀ i v, me i = some v → i ∉ vs ∧ σ[i]? = some (some v) := fun i v e => by
    subst eM
    have e' : (if vs.contains i then none else (σ[i]?).join) = some v := e
    by_cases c : vs.contains i = true
    · rw [if_pos c] at e'
      cases e'
    · rw [if_neg c] at e'
      exact ⟨fun m => c (List.contains_iff_mem.mpr m), by
        cases q : σ[i]? with
        | none => rw [q] at e'; cases e'
        | some y => rw [q] at e'; exact congrArg some e'⟩
  have hme2 : ∀ i v, i ∉ vs → σ[i]? = some (some v) → me i = some v := fun i v n e => by
    subst eM
    show (if vs.contains i then none else (σ[i]?).join) = some v
    rw [if_neg fun c => n (List.contains_iff_mem.mp c), e]
    rfl
  let Z' : Zc := ⟨Z.b, Z.pp, Z.q, G, H, fun c od H' => ∀ σ', ((∀ i v, me i = some v → σ'[i]? = some (some v)) ∧ σ'.length = Z.n) → W c od σ' H', ew, Z.n, me, Z.pin⟩
  have zme : ∀ {i : Nat} {v : L2.V}, Z.me i = some v → i ∉ vs := fun {i v} e m => by
    rw [hs i (List.all_eq_true.mp hv i m)] at e
    cases e
  have S' : Sv Z' σ (hideO ρ) G H := by
    refine ⟨Gr.refl S.vw S.pl, S.vw, S.pl, fun C us fs od G1 H1 a g x r σ' kp => ?_, ⟨S.ln.1, (hideO_len ρ).trans S.ln.2⟩, fun i u e => S.fz i u (hideO_fz e), fun i u e => (hideO_ow e).elim, fun i v e => (hme i v e).2, S.pn, fun i j a _ h1 _ => by obtain ⟨u, e⟩ := h1; exact (hideO_ow e).elim⟩
    have g' : Z.gr G H G1 H1 := g
    subst eW
    subst eE
    have S1 : Sv Z σ' (wipeR (hideO ρ) vs) G1 H1 := by
      refine ⟨S.gr.trans g', S.w0, S.p0, S.ex, ⟨kp.2, by rw [wipeR_len, hideO_len]; exact S.ln.2⟩, fun i u e => ?_, fun i u e => ?_, fun i v e => ?_, S.pn.trans g'.gg, fun i j a _ h1 _ => ?_⟩
      · obtain ⟨n, e2⟩ := wipeR_at vs _ e (fun z => nomatch z)
        obtain ⟨v, e3, hv⟩ := S.fz i u (hideO_fz e2)
        exact ⟨v, kp.1 i v (hme2 i v n e3), hv.same g'.gg⟩
      · exact (hideO_ow (wipeR_at vs _ e (fun z => nomatch z)).2).elim
      · exact kp.1 i v (hme2 i v (zme e) (S.me i v e))
      · obtain ⟨u, e⟩ := h1
        exact (hideO_ow (wipeR_at vs _ e (fun z => nomatch z)).2).elim
    exact handle_ok hs ho S1 (B.to g'.ex) x r hc (by rw [wipeR_len, hideO_len]; exact hr) a
  have back : ∀ {σ2 : L2.St} {ρ2 : List Cell} {G2 H2 : Hp}, Sv Z' σ2 ρ2 G2 H2 → Sv Z σ2 ρ2 G2 H2 := fun {σ2 ρ2 G2 H2} S2 =>
    ⟨S.gr.trans S2.gr, S.w0, S.p0, S.ex, S2.ln, S2.fz, fun i u e => let ⟨a, o, h1, h2, h3, h4, h5⟩ := S2.ow i u e; ⟨a, o, h1, h2, h3, S.new0 h4, h5⟩, fun i v e => S2.me i v (hme2 i v (zme e) (S.me i v e)), S2.pn, S2.dis⟩
  exact hb W ew Z' rfl rfl rfl (fun i e => by
    subst eM
    exact if_pos e) V D σ (hideO ρ) G H S' hw ⟨fun σ2 ρ2 G2 H2 S2 x p => B.nx σ2 ρ2 G2 H2 (back S2) x p, fun v u G2 H2 g x r p => B.rt v u G2 H2 (S.gr.trans g) x r p, fun σ2 ρ2 G2 H2 S2 x p => B.bk σ2 ρ2 G2 H2 (back S2) x p, fun σ2 ρ2 G2 H2 S2 x p => B.ct σ2 ρ2 G2 H2 (back S2) x p⟩
end
end SV
/-! A law's body behind its first statement: nothing is frozen yet, the pool is there. -/
namespace SV
open PySem PySem.Spec PyProof.Rows L2 SL
theorem pool_runT {T : List (Addr × Str)} {t : TS} {n : Nat} {x : Option V} {p q : Addr} {H : Hp} {D : Ends} {post : U → Prop} (P : PoolAt H p q) (hT : ∀ x ∈ T, LamX.TabS H x.1 x.2) (hq : ∀ v u G' H', post u → Rp p G' v u → D.rt v H')
    (tr : ∀ Z : Zc, Z.b = ⟨true, T⟩ → Z.mays (fun _ => true) → ∃ w, TrS Z t w ∧ w { nx := fun _ => False, rt := post } (.no :: .fz .pool :: List.replicate n .no)) :
    t D (x :: some (.ref p) :: List.replicate n none) H := by
  obtain ⟨w, tR, hw⟩ := tr ⟨⟨true, T⟩, p, q, fun _ => none, H, fun _ _ _ => False, fun _ _ => False, n + 2, fun _ => none, fun _ => none⟩ rfl (fun _ _ => rfl)
  have vw : Vw (fun _ => none) H := fun _ _ e => nomatch e
  have P2 : Pl ⟨true, T⟩ p q (fun _ => none) H := ⟨fun _ => ⟨P, rfl, rfl⟩, fun x hx => ⟨hT x hx, rfl⟩⟩
  refine tR _ D _ _ (fun _ => none) H ⟨Gr.refl vw P2, vw, P2, fun _ _ _ _ _ _ z => z.elim, ⟨by simp, by simp⟩, fun i u e => ?_, fun i u e => ?_, (fun _ _ e => nomatch e), (fun _ _ e => nomatch e), fun i j a _ h1 _ => ?_⟩ hw ⟨fun _ _ _ _ _ _ z => z.elim, fun v u G' H' _ _ r pu => hq v u G' H' pu r, fun _ _ _ _ _ _ z => z.elim, fun _ _ _ _ _ _ z => z.elim⟩
  · match i with
    | 0 => cases e
    | 1 => cases e; exact ⟨_, rfl, .pool⟩
    | i + 2 =>
      have e' : (List.replicate n Cell.no)[i]? = some (.fz u) := e
      have := List.mem_of_getElem? e'
      rw [List.mem_replicate] at this
      cases this.2
  · match i with
    | 0 => cases e
    | 1 => cases e
    | i + 2 =>
      have e' : (List.replicate n Cell.no)[i]? = some (.ow u) := e
      have := List.mem_of_getElem? e'
      rw [List.mem_replicate] at this
      cases this.2
  · obtain ⟨u, e⟩ := h1
    match i with
    | 0 => cases e
    | 1 => cases e
    | i + 2 =>
      have e' : (List.replicate n Cell.no)[i]? = some (.ow u) := e
      have := List.mem_of_getElem? e'
      rw [List.mem_replicate] at this
      cases this.2
theorem pool_run {t : TS} {n : Nat} {x : Option V} {p q : Addr} {H : Hp} {D : Ends} {post : U → Prop} (P : PoolAt H p q) (hq : ∀ v u G' H', post u → Rp p G' v u → D.rt v H')
    (tr : ∀ Z : Zc, Z.b = (true : Bool) → Z.mays (fun _ => true) → ∃ w, TrS Z t w ∧ w { nx := fun _ => False, rt := post } (.no :: .fz .pool :: List.replicate n .no)) :
    t D (x :: some (.ref p) :: List.replicate n none) H := pool_runT (T := []) P (fun _ z => nomatch z) hq tr
theorem pool_runN {t : TS} {n : Nat} {x : Option V} {p q : Addr} {H : Hp} {D : Ends} {rt : VK} {bk ct : L2.St → Hp → Prop} {post : U → Prop} (P : PoolAt H p q) (hq : ∀ v u G' H', post u → Rp p G' v u → D.rt v H')
    (tr : ∀ Z : Zc, Z.b = (true : Bool) → Z.mays (fun _ => true) → ∃ w, TrS Z t w ∧ w { nx := fun _ => False, rt := post } (.no :: .fz .pool :: List.replicate n .no)) :
    (Ends.mk (t D) rt bk ct).nx (x :: some (.ref p) :: List.replicate n none) H := pool_run (t := t) (D := D) P hq tr
theorem pool_runNT {T : List (Addr × Str)} {t : TS} {n : Nat} {x : Option V} {p q : Addr} {H : Hp} {D : Ends} {rt : VK} {bk ct : L2.St → Hp → Prop} {post : U → Prop} (P : PoolAt H p q) (hT : ∀ x ∈ T, LamX.TabS H x.1 x.2) (hq : ∀ v u G' H', post u → Rp p G' v u → D.rt v H')
    (tr : ∀ Z : Zc, Z.b = ⟨true, T⟩ → Z.mays (fun _ => true) → ∃ w, TrS Z t w ∧ w { nx := fun _ => False, rt := post } (.no :: .fz .pool :: List.replicate n .no)) :
    (Ends.mk (t D) rt bk ct).nx (x :: some (.ref p) :: List.replicate n none) H := pool_runT (t := t) (D := D) P hT hq tr
end SV
/-! What this program's checks tell of values. -/
namespace SV
open PySem PySem.Spec PyProof.Rows L2 SL
def wholeU : U → Bool
  | .int _ => true
  | _ => false
def withinU (lo hi : Int) : U → Bool
  | .int i => decide (lo ≤ i) && decide (i ≤ hi)
  | _ => false
def fromU (lo : Int) : U → Bool
  | .int i => decide (lo ≤ i)
  | _ => false
def itemsU : U → Option (List U)
  | .lst us => some us
  | .tup us => some us
  | _ => none
def optU : Option (List U) → U
  | some us => .tup us
  | none => .non
def isTup : U → Bool
  | .tup _ => true
  | _ => false
def rowU : U → Bool
  | .tup us => us.all (withinU 0 1)
  | _ => false
/-- the value of a row of cells -/
abbrev rowV (cs : List Int) : U := .tup (cs.map U.int)
def WWhole (cs : List Addr) : Wf := fun us post _ => ∃ x, us = [x] ∧ asks cs x ∧ post (.bl (wholeU x))
def WWithin (cs : List Addr) : Wf := fun us post _ => ∃ x lo hi, us = [x, .int lo, .int hi] ∧ asks cs x ∧ post (.bl (withinU lo hi x))
def WFrom (cs : List Addr) : Wf := fun us post _ => ∃ x lo, us = [x, .int lo] ∧ asks cs x ∧ post (.bl (fromU lo x))
def WItems (cs : List Addr) : Wf := fun us post _ => ∃ x, us = [x] ∧ asks cs x ∧ post (optU (itemsU x))
/-- whatever is asked of the parts, too -/
def asksT (cs : List Addr) : U → Prop
  | .tup us => ∀ u ∈ us, asks cs u
  | _ => True
def WIsRow (cs : List Addr) : Wf := fun us post _ => ∃ x, us = [x] ∧ asks cs x ∧ asksT cs x ∧ post (.bl (rowU x))
def WCheckRow (cs : List Addr) (cR : Addr) : Wf := fun us post ew => ∃ x s, us = [x, .str s] ∧ asks cs x ∧ asksT cs x ∧ (reprText s).length ≤ 1000 ∧ (rowU x = true → post .non) ∧ (rowU x = false → ew cR [("part", .str s)])
def bits (ns : List Int) : Prop := ∀ c ∈ ns, c = 0 ∨ c = 1
theorem asks_int {cs : List Addr} (i : Int) : asks cs (.int i) := trivial
theorem rowU_ints {cs : List Int} : rowU (rowV cs) = cs.all fun c => decide (0 ≤ c) && decide (c ≤ 1) := by
  show (cs.map U.int).all (withinU 0 1) = _
  rw [List.all_map]
  rfl
theorem row_ints {us : List U} (h : us.all (withinU 0 1) = true) : ∃ cs : List Int, us = cs.map U.int ∧ bits cs := by
  induction us with
  | nil => exact ⟨[], rfl, fun _ z => nomatch z⟩
  | cons u r ih =>
    rw [List.all_cons, Bool.and_eq_true] at h
    obtain ⟨cs, rfl, hb⟩ := ih h.2
    cases u <;> first | cases h.1 | skip
    rename_i i
    have h1 : (decide (0 ≤ i) && decide (i ≤ 1)) = true := h.1
    rw [Bool.and_eq_true, decide_eq_true_eq, decide_eq_true_eq] at h1
    refine ⟨i :: cs, rfl, fun c hc => ?_⟩
    rcases List.mem_cons.mp hc with rfl | hc
    · omega
    · exact hb c hc
def WDraw : Wf := fun us post _ => ∃ m : Int, us = [.pool, .int m] ∧ 0 < m ∧ m < 1073741824 ∧ ∀ d : Int, 0 ≤ d → d < m → post (.int d)
/-- a row of drawn cells -/
def WRowD : Wf := fun us post _ => ∃ n : Nat, us = [.pool, .int (n : Int)] ∧ n ≤ 100000 ∧ ∀ cs : List Int, cs.length = n → bits cs → post (rowV cs)
theorem bits_snoc' {ts : List Int} {b : Int} (h : bits ts) (h0 : 0 ≤ b) (h2 : b < 2) : bits (ts ++ [b]) := fun c hc => by
  rcases List.mem_append.mp hc with hc | hc
  · exact h c hc
  · rw [List.mem_singleton.mp hc]; omega
end SV
/-! Wear, by values: moves, prices. -/
namespace SV
open PySem PySem.Spec PyProof.Rows L2 SL
structure Mv where
  c : Int
  w : Int
  p : Int
  n : Int
  deriving DecidableEq
def mvL (m : Mv) : List U := [.int m.c, .int m.w, .int m.p, .int m.n]
def mvU (m : Mv) : U := .tup (mvL m)
def lineU (l : List Mv) : U := .tup (l.map mvU)
def movesU (ms : List (List Mv)) : U := .tup (ms.map lineU)
/-- the four numbers of what is like a move -/
def mvOf (x : U) : Option Mv := match itemsU x with
  | some [.int a, .int b, .int p, .int n] => some ⟨a, b, p, n⟩
  | _ => none
theorem mvOf_items {x : U} {m : Mv} (h : mvOf x = some m) : itemsU x = some (mvL m) := by
  unfold mvOf at h
  split at h
  · rename_i a b p n e
    cases h
    exact e
  · cases h
theorem mvOf_U (m : Mv) : mvOf (mvU m) = some m := rfl
structure MvOk (many : Int) (m : Mv) : Prop where
  c : m.c = 0 ∨ m.c = 1
  w : m.w = 0 ∨ m.w = 1
  p : 0 ≤ m.p
  n0 : 0 ≤ m.n
  n1 : m.n < many
structure WearOk (ms : List (List Mv)) : Prop where
  lo : 1 ≤ ms.length
  hi : ms.length ≤ 6
  mv : ∀ l ∈ ms, ∀ m ∈ l, MvOk ms.length m
  stay : ∀ l ∈ ms, ∀ c : Int, c = 0 ∨ c = 1 → ∃ m ∈ l, m.c = c ∧ m.w = c ∧ m.p = 0
/-! ### dicts of numbers by numbers -/
def pd (P : List (Int × Int)) : List (Key × U) := P.map fun kv => (Sum.inl kv.1, U.int kv.2)
theorem pd_val (P : List (Int × Int)) (s : Int) : valU (pd P) (Sum.inl s) = (valU P s).map U.int := by
  induction P with
  | nil => rfl
  | cons p r ih =>
    show valU ((Sum.inl p.1, U.int p.2) :: pd r) (Sum.inl s) = _
    by_cases c : p.1 = s
    · rw [valU_pos (by show (Sum.inl p.1 : Key) = _; rw [c]), valU_pos c]
      rfl
    · rw [valU_neg (by show ¬ (Sum.inl p.1 : Key) = _; exact fun z => c (Sum.inl.inj z)), valU_neg c, ih]
theorem pd_any (P : List (Int × Int)) (s : Int) : ((pd P).any fun kv => decide (kv.1 = Sum.inl s)) = P.any fun kv => decide (kv.1 = s) := by
  induction P with
  | nil => rfl
  | cons p r ih =>
    show (decide ((Sum.inl p.1 : Key) = Sum.inl s) || (pd r).any _) = (decide (p.1 = s) || r.any _)
    rw [ih, key_ll]
    rw [Bool.beq_eq_decide_eq]
theorem pd_put (P : List (Int × Int)) (s v : Int) : putU (pd P) (Sum.inl s) (.int v) = pd (putU P s v) := by
  unfold putU
  rw [pd_any]
  by_cases c : (P.any fun kv => decide (kv.1 = s)) = true
  · rw [if_pos c, if_pos c]
    unfold pd
    rw [List.map_map, List.map_map]
    refine List.map_congr_left fun p _ => ?_
    show (if (Sum.inl p.1 : Key) = Sum.inl s then ((Sum.inl p.1 : Key), U.int v) else _) = _
    by_cases e : p.1 = s
    · rw [if_pos (by rw [e])]
      show _ = ((fun kv : Int × Int => ((Sum.inl kv.1 : Key), U.int kv.2)) (if p.1 = s then (p.1, v) else p))
      rw [if_pos e]
    · rw [if_neg fun z => e (Sum.inl.inj z)]
      show _ = ((fun kv : Int × Int => ((Sum.inl kv.1 : Key), U.int kv.2)) (if p.1 = s then (p.1, v) else p))
      rw [if_neg e]
  · rw [if_neg c, if_neg c]
    unfold pd
    rw [List.map_append]
    rfl
theorem pd_keys (P : List (Int × Int)) : keysOf (pd P) = (keysOf P).map Sum.inl := by
  unfold keysOf pd
  rw [List.map_map, List.map_map]
  rfl
theorem nodup_put {κ α : Type} [DecidableEq κ] {P : List (κ × α)} (h : (keysOf P).Nodup) (k : κ) (v : α) : (keysOf (putU P k v)).Nodup := by
  rw [keys_put]
  by_cases c : k ∈ keysOf P
  · rw [if_pos c]; exact h
  · rw [if_neg c]
    refine List.nodup_append.mpr ⟨h, by simp, fun a ha b hb e => c ?_⟩
    rw [List.mem_singleton] at hb
    rw [← hb, ← e]
    exact ha
/-! ### the least of what can be -/
/-- o is the least number of S, or S is empty -/
def IsMin (S : Int → Prop) : Option Int → Prop
  | none => ∀ x, ¬ S x
  | some v => S v ∧ ∀ x, S x → v ≤ x
theorem IsMin.uniq {S : Int → Prop} {o o' : Option Int} (h : IsMin S o) (h' : IsMin S o') : o = o' := by
  cases o with
  | none =>
    cases o' with
    | none => rfl
    | some v => exact absurd h'.1 (h v)
  | some v =>
    cases o' with
    | none => exact absurd h.1 (h' v)
    | some v' => exact congrArg some (Int.le_antisymm (h.2 v' h'.1) (h'.2 v h.1))
theorem IsMin.congr {S T : Int → Prop} {o : Option Int} (h : IsMin S o) (e : ∀ x, S x ↔ T x) : IsMin T o := by
  cases o with
  | none => exact fun x t => h x ((e x).mpr t)
  | some v => exact ⟨(e v).mp h.1, fun x t => h.2 x ((e x).mpr t)⟩
/-- one more is met -/
theorem IsMin.meet {S : Int → Prop} {o : Option Int} (h : IsMin S o) (x : Int) : IsMin (fun y => S y ∨ y = x) (some (if o.getD x < x then o.getD x else x)) := by
  cases o with
  | none =>
    show IsMin _ (some (if x < x then x else x))
    rw [if_neg (Int.lt_irrefl x)]
    exact ⟨.inr rfl, fun y q => by rcases q with q | q; exact absurd q (h y); omega⟩
  | some v =>
    show IsMin _ (some (if v < x then v else x))
    by_cases c : v < x
    · rw [if_pos c]
      exact ⟨.inl h.1, fun y q => by rcases q with q | q; exact h.2 y q; omega⟩
    · rw [if_neg c]
      exact ⟨.inr rfl, fun y q => by rcases q with q | q; have := h.2 y q; omega; omega⟩
/-- which sums moves can have: to the standing place a, behind a row that becomes worn -/
inductive Cost (ms : List (List Mv)) : List (Int × Int) → Int → Int → Prop
  | nil : Cost ms [] 0 0
  | snoc {ps : List (Int × Int)} {s v : Int} {c w : Int} {line : List Mv} {m : Mv} (h : Cost ms ps s v) (hl : ms[s.toNat]? = some line) (hs : 0 ≤ s) (hm : m ∈ line) (hc : m.c = c) (hw : m.w = w) : Cost ms (ps ++ [(c, w)]) m.n (v + m.p)
theorem Cost.place {ms : List (List Mv)} (ok : WearOk ms) {ps : List (Int × Int)} {s v : Int} (h : Cost ms ps s v) : 0 ≤ s ∧ s < ms.length ∧ 0 ≤ v := by
  induction h with
  | nil => exact ⟨Int.le_refl _, by have := ok.lo; omega, Int.le_refl _⟩
  | snoc h hl hs hm hc hw ih =>
    have := ok.mv _ (List.mem_of_getElem? hl) _ hm
    exact ⟨this.n0, this.n1, by have := this.p; omega⟩
theorem cost_snoc {ms : List (List Mv)} {ps : List (Int × Int)} {c w a x : Int} : Cost ms (ps ++ [(c, w)]) a x ↔ ∃ s v line m, Cost ms ps s v ∧ 0 ≤ s ∧ ms[s.toNat]? = some line ∧ m ∈ line ∧ m.c = c ∧ m.w = w ∧ m.n = a ∧ x = v + m.p := by
  constructor
  · intro h
    generalize e : ps ++ [(c, w)] = qs at h
    cases h with
    | nil => exact absurd e (by simp)
    | snoc h hl hs hm hc hw =>
      obtain ⟨e1, e2⟩ := List.append_inj' e rfl
      subst e1
      simp only [List.cons.injEq, Prod.mk.injEq, and_true] at e2
      exact ⟨_, _, _, _, h, hs, hl, hm, hc.trans e2.1.symm, hw.trans e2.2.symm, rfl, rfl⟩
  · rintro ⟨s, v, line, m, h, hs, hl, hm, hc, hw, rfl, rfl⟩
    exact .snoc h hl hs hm hc hw
theorem cost_nil {ms : List (List Mv)} {a x : Int} : Cost ms [] a x ↔ a = 0 ∧ x = 0 := by
  constructor
  · intro h
    generalize e : ([] : List (Int × Int)) = qs at h
    cases h with
    | nil => exact ⟨rfl, rfl⟩
    | snoc => exact absurd e (by simp)
  · rintro ⟨rfl, rfl⟩
    exact .nil
/-- a dict of the least sums by standing places -/
structure Front (ms : List (List Mv)) (ps : List (Int × Int)) (P : List (Int × Int)) : Prop where
  nd : (keysOf P).Nodup
  least : ∀ a, IsMin (Cost ms ps a) (valU P a)
theorem Front.key {ms : List (List Mv)} (ok : WearOk ms) {ps P : List (Int × Int)} (h : Front ms ps P) {s : Int} (hs : s ∈ keysOf P) : ∃ v, valU P s = some v ∧ Cost ms ps s v ∧ 0 ≤ s ∧ s < ms.length := by
  cases e : valU P s with
  | none => exact absurd hs (val_none.mp e)
  | some v =>
    have := h.least s
    rw [e] at this
    have z := this.1.place ok
    exact ⟨v, rfl, this.1, z.1, z.2.1⟩
theorem Front.nil (ms : List (List Mv)) : Front ms [] [(0, 0)] := by
  refine ⟨by simp [keysOf], fun a => ?_⟩
  by_cases c : 0 = a
  · rw [valU_pos (by exact c)]
    exact ⟨cost_nil.mpr ⟨c.symm, rfl⟩, fun x h => by have := (cost_nil.mp h).2; show (0 : Int) ≤ x; omega⟩
  · rw [valU_neg (by exact c)]
    exact fun x h => c (cost_nil.mp h).1.symm
/-- all sums, to whatever place -/
def Total (ms : List (List Mv)) (ps : List (Int × Int)) (x : Int) : Prop := ∃ a, Cost ms ps a x
/-- the least of the values -/
theorem Front.total {ms : List (List Mv)} {ps P : List (Int × Int)} (h : Front ms ps P) {o : Option Int} (ho : IsMin (fun x => x ∈ P.map (·.2)) o) : IsMin (Total ms ps) o := by
  have mem : ∀ x, x ∈ P.map (·.2) ↔ ∃ a, valU P a = some x := fun x => by
    rw [List.mem_map]
    constructor
    · rintro ⟨⟨a, y⟩, hp, rfl⟩
      obtain ⟨i, hi, e⟩ := List.mem_iff_getElem.mp hp
      exact ⟨a, val_at h.nd (i := i) (by rw [List.getElem?_eq_getElem hi, e])⟩
    · rintro ⟨a, e⟩
      exact ⟨(a, x), val_mem e, rfl⟩
  cases o with
  | none =>
    rintro x ⟨a, hx⟩
    have := h.least a
    cases e : valU P a with
    | none => rw [e] at this; exact this x hx
    | some v => exact ho v ((mem v).mpr ⟨a, e⟩)
  | some v =>
    obtain ⟨a, e⟩ := (mem v).mp ho.1
    have ha := h.least a
    rw [e] at ha
    refine ⟨⟨a, ha.1⟩, ?_⟩
    rintro x ⟨b, hx⟩
    have hb := h.least b
    cases e2 : valU P b with
    | none => rw [e2] at hb; exact absurd hx (hb x)
    | some u =>
      rw [e2] at hb
      have h1 := hb.2 x hx
      have h2 := ho.2 u ((mem u).mpr ⟨b, e2⟩)
      omega
def oU : Option Int → U
  | none => .non
  | some v => .int v
end SV
namespace SV
open PySem PySem.Spec PyProof.Rows L2 SL
/-! ### a def proved by hand: what is new is frozen at its end -/
open Classical in
noncomputable def landG (G H H' : Hp) (S : Addr → Prop) : Hp := fun b => if H b = none ∧ S b then H' b else G b
theorem landG_new {G H H' : Hp} {S : Addr → Prop} {b : Addr} (n : H b = none) (s : S b) : landG G H H' S b = H' b := if_pos ⟨n, s⟩
theorem landG_old {G H H' : Hp} {S : Addr → Prop} {b : Addr} {o : HO} (h : H b = some o) : landG G H H' S b = G b := if_neg fun z => by rw [h] at z; cases z.1
theorem landG_same {G H H' : Hp} {S : Addr → Prop} (w : Vw G H) : Same G (landG G H H' S) := fun b o e => by
  cases h : H b with
  | none => rw [w.free h] at e; cases e
  | some x => rw [landG_old h]; exact e
theorem land {b : PT} {pp q : Addr} {G H H' : Hp} (w : Vw G H) (p : Pl b pp q G H) (s : Same H H') (S : Addr → Prop) : Gr b pp q G H (landG G H H' S) H' := by
  refine ⟨⟨landG_same w, fun a o e => ?_, fun a o _ e g => ⟨fun _ => by rw [landG_old e]; exact g, s _ _ e⟩, p.same s fun a => ?_⟩, fun a o e => ?_⟩
  · cases h : H a with
    | none =>
      unfold landG at e
      split at e
      · exact .inl e
      · rw [w.free h] at e; cases e
    | some x =>
      rw [landG_old h] at e
      rcases w a o e with k | ⟨k1, ob, k⟩
      · exact .inl (s _ _ k)
      · exact .inr ⟨k1, ob, s _ _ k⟩
  · cases e : H a with
    | none => exact .inr rfl
    | some x => exact .inl (landG_old e)
  · rcases w a o e with k | ⟨k1, ob, k⟩
    · exact .inl ((s _ _ k).trans k.symm)
    · exact .inl ((s _ _ k).trans k.symm)
/-! ### the ways of one standing place -/
def wKey (m : Mv) : List Key := [.inl m.c, .inl m.w]
def waysStep (acc : List (List Key × List (Int × Int))) (m : Mv) : List (List Key × List (Int × Int)) :=
  let ps := (valU acc (wKey m)).getD []
  let g := (valU ps m.n).getD m.p
  putU acc (wKey m) (putU ps m.n (if g < m.p then g else m.p))
def waysL (l : List Mv) : List (List Key × List (Int × Int)) := l.foldl waysStep []
def waysU (l : List Mv) : U := .dit ((waysL l).map fun kv => (kv.1, .dic (pd kv.2)))
theorem waysL_snoc (l : List Mv) (m : Mv) : waysL (l ++ [m]) = waysStep (waysL l) m := by
  unfold waysL
  rw [List.foldl_append]
  rfl
/-- the prices from one cell to another, by the next standing place -/
def Ways (l : List Mv) (c w a x : Int) : Prop := ∃ m ∈ l, m.c = c ∧ m.w = w ∧ m.n = a ∧ x = m.p
theorem waysStep_val (acc : List (List Key × List (Int × Int))) (m : Mv) (k : List Key) : valU (waysStep acc m) k = if k = wKey m then some (putU ((valU acc (wKey m)).getD []) m.n (if ((valU ((valU acc (wKey m)).getD []) m.n).getD m.p) < m.p then ((valU ((valU acc (wKey m)).getD []) m.n).getD m.p) else m.p)) else valU acc k := valU_put _ _ _ _
theorem rev_ind {α : Type} {p : List α → Prop} (h0 : p []) (h1 : ∀ l x, p l → p (l ++ [x])) (l : List α) : p l := by
  rw [← List.reverse_reverse l]
  generalize l.reverse = r
  induction r with
  | nil => exact h0
  | cons x r ih =>
    rw [List.reverse_cons]
    exact h1 _ _ ih
theorem ways_ok (l : List Mv) (c w : Int) : (keysOf ((valU (waysL l) [.inl c, .inl w]).getD [])).Nodup ∧ ∀ a, IsMin (Ways l c w a) (valU ((valU (waysL l) [.inl c, .inl w]).getD []) a) := by
  revert l
  refine rev_ind ?_ fun l m ih => ?_
  · exact ⟨List.nodup_nil, fun a x h => by obtain ⟨m, hm, _⟩ := h; cases hm⟩
  · rw [waysL_snoc, waysStep_val]
    by_cases e : ([.inl c, .inl w] : List Key) = wKey m
    · have ec : c = m.c := Sum.inl.inj (List.cons.inj e).1
      have ew : w = m.w := Sum.inl.inj (List.cons.inj (List.cons.inj e).2).1
      rw [if_pos e, ← e]
      obtain ⟨h1, h2⟩ := ih
      refine ⟨nodup_put h1 _ _, fun a => ?_⟩
      show IsMin _ (valU (putU _ _ _) a)
      rw [valU_put]
      by_cases ea : a = m.n
      · subst ea
        rw [if_pos rfl]
        refine ((h2 m.n).meet m.p).congr fun x => ?_
        constructor
        · rintro (⟨m', hm, q⟩ | rfl)
          · exact ⟨m', List.mem_append_left _ hm, q⟩
          · exact ⟨m, List.mem_append_right _ (List.mem_singleton.mpr rfl), ec.symm, ew.symm, rfl, rfl⟩
        · rintro ⟨m', hm, q⟩
          rcases List.mem_append.mp hm with hm | hm
          · exact .inl ⟨m', hm, q⟩
          · rw [List.mem_singleton.mp hm] at q
            exact .inr q.2.2.2
      · rw [if_neg ea]
        refine (h2 a).congr fun x => ⟨fun ⟨m', hm, q⟩ => ⟨m', List.mem_append_left _ hm, q⟩, fun ⟨m', hm, q⟩ => ?_⟩
        rcases List.mem_append.mp hm with hm | hm
        · exact ⟨m', hm, q⟩
        · rw [List.mem_singleton.mp hm] at q
          exact absurd q.2.2.1.symm ea
    · rw [if_neg e]
      refine ⟨ih.1, fun a => (ih.2 a).congr fun x => ⟨fun ⟨m', hm, q⟩ => ⟨m', List.mem_append_left _ hm, q⟩, fun ⟨m', hm, q⟩ => ?_⟩⟩
      rcases List.mem_append.mp hm with hm | hm
      · exact ⟨m', hm, q⟩
      · rw [List.mem_singleton.mp hm] at q
        exact absurd (by unfold wKey; rw [q.1, q.2.1]) e
theorem map_put {κ α β : Type} [DecidableEq κ] (f : α → β) (P : List (κ × α)) (k : κ) (v : α) : (putU P k v).map (fun kv => (kv.1, f kv.2)) = putU (P.map fun kv => (kv.1, f kv.2)) k (f v) := by
  unfold putU
  rw [List.any_map]
  by_cases c : (P.any fun kv => decide (kv.1 = k)) = true
  · rw [if_pos c, if_pos (by exact c), List.map_map, List.map_map]
    refine List.map_congr_left fun x _ => ?_
    show (fun kv : κ × α => (kv.1, f kv.2)) (if x.1 = k then (x.1, v) else x) = if x.1 = k then (x.1, f v) else (x.1, f x.2)
    by_cases e : x.1 = k
    · rw [if_pos e, if_pos e]
    · rw [if_neg e, if_neg e]
  · rw [if_neg c, if_neg (by exact c), List.map_append]
    rfl
theorem map_val {κ α β : Type} [DecidableEq κ] (f : α → β) (P : List (κ × α)) (k : κ) : valU (P.map fun kv => (kv.1, f kv.2)) k = (valU P k).map f := by
  induction P with
  | nil => rfl
  | cons p r ih =>
    rw [List.map_cons]
    by_cases c : p.1 = k
    · rw [valU_pos (by exact c), valU_pos c]; rfl
    · rw [valU_neg (by exact c), valU_neg c, ih]
/-- a dict of numbers, by L2's values -/
def pdV (P : List (Int × Int)) : List (Key × V) := P.map fun kv => (Sum.inl kv.1, V.int kv.2)
theorem pdV_rp {pp : Addr} {G : Hp} : ∀ P : List (Int × Int), RpD pp G (pdV P) (pd P)
  | [] => .nil
  | _ :: r => .cons (.int _) (pdV_rp r)
theorem valV_eq {κ : Type} [DecidableEq κ] (kvs : List (κ × V)) (k : κ) : valV kvs k = valU kvs k := rfl
theorem putK_eq {κ : Type} [DecidableEq κ] (kvs : List (κ × V)) (k : κ) (v : V) : putK kvs k v = putU kvs k v := rfl
theorem pdV_val (P : List (Int × Int)) (s : Int) : valV (pdV P) (Sum.inl s) = (valU P s).map V.int := by
  induction P with
  | nil => rfl
  | cons p r ih =>
    show valV ((Sum.inl p.1, V.int p.2) :: pdV r) (Sum.inl s) = _
    by_cases c : p.1 = s
    · rw [valV_pos (by show (Sum.inl p.1 : Key) = _; rw [c]), valU_pos c]
      rfl
    · rw [valV_neg (by show ¬ (Sum.inl p.1 : Key) = _; exact fun z => c (Sum.inl.inj z)), valU_neg c, ih]
theorem pdV_put (P : List (Int × Int)) (s v : Int) : putK (pdV P) (Sum.inl s) (.int v) = pdV (putU P s v) := by
  have an : ∀ Q : List (Int × Int), ((pdV Q).any fun kv => decide (kv.1 = Sum.inl s)) = Q.any fun kv => decide (kv.1 = s) := fun Q => by
    induction Q with
    | nil => rfl
    | cons p r ih =>
      show (decide ((Sum.inl p.1 : Key) = Sum.inl s) || (pdV r).any _) = (decide (p.1 = s) || r.any _)
      rw [ih, key_ll, Bool.beq_eq_decide_eq]
  unfold putK putU
  rw [an]
  by_cases c : (P.any fun kv => decide (kv.1 = s)) = true
  · rw [if_pos c, if_pos c]
    unfold pdV
    rw [List.map_map, List.map_map]
    refine List.map_congr_left fun p _ => ?_
    show (if (Sum.inl p.1 : Key) = Sum.inl s then ((Sum.inl p.1 : Key), V.int v) else _) = ((fun kv : Int × Int => ((Sum.inl kv.1 : Key), V.int kv.2)) (if p.1 = s then (p.1, v) else p))
    by_cases e : p.1 = s
    · rw [if_pos (by rw [e]), if_pos e]
    · rw [if_neg fun z => e (Sum.inl.inj z), if_neg e]
  · rw [if_neg c, if_neg c]
    unfold pdV
    rw [List.map_append]
    rfl
theorem pdV_len (P : List (Int × Int)) : (pdV P).length = P.length := by unfold pdV; rw [List.length_map]
theorem atI_int {α : Type} {xs : List α} {s : Int} {x : α} (h : 0 ≤ s) (e : xs[s.toNat]? = some x) : L2.atI xs s = some x := by
  have l := (List.getElem?_eq_some_iff.mp e).1
  unfold L2.atI ixN
  rw [if_pos h, if_pos (by omega)]
  exact e
theorem nodup_le : ∀ (n : Nat) (l : List Int), l.Nodup → (∀ x ∈ l, 0 ≤ x ∧ x < n) → l.length ≤ n
  | 0, l, _, h => by
    cases l with
    | nil => exact Nat.le_refl _
    | cons x r => have := h x (List.mem_cons_self ..); omega
  | n + 1, l, nd, h => by
    by_cases c : (n : Int) ∈ l
    · have e := List.length_erase_of_mem c
      have ih := nodup_le n (l.erase (n : Int)) (nd.erase _) fun x hx => by
        have hx' := (nd.mem_erase_iff).mp hx
        have := h x hx'.2
        have := hx'.1
        omega
      omega
    · have ih := nodup_le n l nd fun x hx => by
        have := h x hx
        have : x ≠ n := fun e => c (e ▸ hx)
        omega
      omega
theorem val_key {κ α : Type} [DecidableEq κ] {P : List (κ × α)} {k : κ} {v : α} (h : valU P k = some v) : k ∈ keysOf P := Classical.byContradiction fun z => by rw [val_none.mpr z] at h; cases h
/-- only the least of W is met, each a little later -/
theorem IsMin.swap {S W : Int → Prop} {o m : Option Int} {v : Int} (hm : IsMin W m) (h : IsMin (fun x => S x ∨ ∃ y, m = some y ∧ x = v + y) o) : IsMin (fun x => S x ∨ ∃ y, W y ∧ x = v + y) o := by
  cases o with
  | none =>
    rintro x (hx | ⟨y, hy, _⟩)
    · exact h x (.inl hx)
    · cases m with
      | none => exact hm y hy
      | some y0 => exact h (v + y0) (.inr ⟨y0, rfl, rfl⟩)
  | some v0 =>
    refine ⟨?_, ?_⟩
    · rcases h.1 with hx | ⟨y, rfl, e⟩
      · exact .inl hx
      · exact .inr ⟨y, hm.1, e⟩
    · rintro x (hx | ⟨y, hy, rfl⟩)
      · exact h.2 x (.inl hx)
      · cases m with
        | none => exact absurd hy (hm y)
        | some y0 =>
          have h1 := h.2 (v + y0) (.inr ⟨y0, rfl, rfl⟩)
          have h2 := hm.2 y hy
          omega
end SV
/-! Short facts of values: ints compared, rows, ranges. -/
namespace SV
open PySem PySem.Spec PyProof.Rows L2 SL
theorem fEq_int (a b : Int) : fEq (.int a) (.int b) = some (.bl (decide (a = b))) := by
  rfl
theorem fNe_int (a b : Int) : fNe (.int a) (.int b) = some (.bl (!decide (a = b))) := by
  rfl
theorem rowIx {r : List Int} {i : Nat} {c : Int} (e : r[i]? = some c) : fIx (rowV r) (.int (i : Int)) = some (.int c) :=
  atI_int (xs := r.map U.int) (by omega) (by rw [List.getElem?_map, Int.toNat_natCast, e]; rfl)
theorem lstIx {us : List U} {i : Nat} {u : U} (e : us[i]? = some u) : fIx (.lst us) (.int (i : Int)) = some u :=
  atI_int (by omega) (by rw [Int.toNat_natCast]; exact e)
theorem upto_at {lo : Int} {n i : Nat} {u : U} (h : (upto lo n)[i]? = some u) : i < n ∧ u = .int (lo + (i : Int)) := by
  have l : i < n := by
    have := (List.getElem?_eq_some_iff.mp h).1
    rwa [upto_len] at this
  rw [upto_get l] at h
  cases h
  exact ⟨l, rfl⟩
theorem upto_at0 {n i : Nat} {u : U} (h : (upto 0 n)[i]? = some u) : i < n ∧ u = .int (i : Int) := by
  obtain ⟨a, b⟩ := upto_at h
  rw [Int.zero_add] at b
  exact ⟨a, b⟩
theorem rowV_inj {r s : List Int} (h : rowV r = rowV s) : r = s := by
  have h' : r.map U.int = s.map U.int := U.tup.inj h
  exact List.map_inj_right (fun _ _ e => U.int.inj e) |>.mp h'
theorem rowV_asks {cs : List Addr} (r : List Int) : asksT cs (rowV r) := fun u hu => by
  obtain ⟨i, _, rfl⟩ := List.mem_map.mp hu
  trivial
theorem rowV_row {r : List Int} (h : bits r) : rowU (rowV r) = true := by
  rw [rowU_ints]
  refine List.all_eq_true.mpr fun c hc => ?_
  rcases h c hc with rfl | rfl <;> rfl
theorem fNe_of {x y : U} (h : eqU x y = some true) : fNe x y = some (.bl false) := by
  unfold fNe
  rw [h]
  rfl
theorem fEq_of {x y : U} (h : eqU x y = some true) : fEq x y = some (.bl true) := by
  unfold fEq
  rw [h]
  rfl
theorem lineIx {us : List U} {i : Nat} {u : U} (e : us[i]? = some u) : fIx (.tup us) (.int (i : Int)) = some u :=
  atI_int (by omega) (by rw [Int.toNat_natCast]; exact e)
def bMinT : FB := fun us post => ∃ ns : List Int, us = [.tup (ns.map U.int)] ∧ 0 < ns.length ∧ ∀ m, m ∈ ns → (∀ y ∈ ns, m ≤ y) → post (.int m)
theorem b_minT {K : PySem.W.Frag} : CallOk (rMinT K) bMinT := by
  intro b pp q G H vs us Q post w p hv hF k
  obtain ⟨ns, rfl, hl, hp⟩ := hF
  cases hv with
  | cons r t =>
    cases t
    cases r with
    | tup h kk z =>
      obtain rfl := kk.ints
      exact ⟨_, ns, rfl, SqT.of (w.tup h), hl, fun m h1 h2 => k _ _ G H (hp m h1 h2) (Gr.refl w p) (.int _)⟩
def bMaxT : FB := fun us post => ∃ ns : List Int, us = [.tup (ns.map U.int)] ∧ 0 < ns.length ∧ ∀ m, m ∈ ns → (∀ y ∈ ns, y ≤ m) → post (.int m)
theorem b_maxT {K : PySem.W.Frag} : CallOk (rMaxT K) bMaxT := by
  intro b pp q G H vs us Q post w p hv hF k
  obtain ⟨ns, rfl, hl, hp⟩ := hF
  cases hv with
  | cons r t =>
    cases t
    cases r with
    | tup h kk z =>
      obtain rfl := kk.ints
      exact ⟨_, ns, rfl, SqT.of (w.tup h), hl, fun m h1 h2 => k _ _ G H (hp m h1 h2) (Gr.refl w p) (.int _)⟩
/-- a part of a row -/
theorem rowCut {r : List Int} {lo hi : Nat} (h1 : lo ≤ hi) (h2 : hi ≤ r.length) : fSlT (rowV r) (some (lo : Int)) (some (hi : Int)) = some (rowV ((r.drop lo).take (hi - lo))) := by
  show some (U.tup (cutU (r.map U.int) (some (lo : Int)) (some (hi : Int)))) = _
  unfold cutU
  rw [HT.sIx_nat, HT.sIx_nat, List.length_map, Nat.min_eq_left h2, Nat.min_eq_left (Nat.le_trans h1 h2), ← List.map_drop, ← List.map_take]
end SV
/-! The value layer: x in y, of texts and of lists and tuples of short things; texts ordered. -/
namespace SV
open PySem PySem.Spec PyProof.Rows L2 SL
def strIn (i j : Str) : Bool := !(Builtin.Str.occurrences j i 0 j.length 1).isEmpty
def rInV (K : PySem.W.Frag) (neg : Bool) : R2 := fun x y H Q => (∃ i j, x = .str i ∧ y = .str j ∧ Q (.bl (if neg then !strIn i j else strIn i j)) H) ∨ rIn K neg x y H Q
theorem op_inV {X : Cx} (K : PySem.W.Frag) (hK : X.K = K := by rfl) : OpR X (compareOp .In) (rInV K false) := by
  subst hK
  intro pins s σ H x y v u Q I rx ry h
  rcases h with ⟨i, j, e1, e2, q⟩ | h
  · exact op_in_str pins s σ H x y v u Q I rx ry ⟨i, j, e1, e2, q⟩
  · exact op_in_seq pins s σ H x y v u Q I rx ry h
theorem op_notInV {X : Cx} (K : PySem.W.Frag) (hK : X.K = K := by rfl) : OpR X (compareOp .NotIn) (rInV K true) := by
  subst hK
  intro pins s σ H x y v u Q I rx ry h
  rcases h with ⟨i, j, e1, e2, q⟩ | h
  · exact op_notin_str pins s σ H x y v u Q I rx ry ⟨i, j, e1, e2, q⟩
  · exact op_notIn_seq pins s σ H x y v u Q I rx ry h
/-- a short thing, as the heap has it -/
def flatU : U → Option V
  | .non => some .non
  | .bl b => some (.bl b)
  | .int i => some (.int i)
  | .str s => some (.str s)
  | _ => none
def flatsU : List U → Option (List V)
  | [] => some []
  | u :: us => match flatU u, flatsU us with
    | some v, some vs => some (v :: vs)
    | _, _ => none
theorem flat_rp {pp : Addr} {G : Hp} {v v' : V} {u : U} (h : Rp pp G v u) (e : flatU u = some v') : v = v' ∧ flatV v = true := by
  cases h <;> cases e <;> exact ⟨rfl, rfl⟩
theorem flat_bp {pp : Addr} {G H : Hp} {v v' : V} {u : U} (h : Bp pp G H v u) (e : flatU u = some v') : v = v' ∧ flatV v = true := by
  cases h <;> cases e <;> exact ⟨rfl, rfl⟩
theorem flats_rp {pp : Addr} {G : Hp} : ∀ {vs vs' : List V} {us : List U}, RpL pp G vs us → flatsU us = some vs' → vs = vs' ∧ vs.all flatV = true
  | _, _, _, .nil, e => by cases e; exact ⟨rfl, rfl⟩
  | _, _, _, .cons (u := u) (us := us) h t, e => by
    unfold flatsU at e
    cases q1 : flatU u with
    | none => rw [q1] at e; cases e
    | some v =>
      cases q2 : flatsU us with
      | none => rw [q1, q2] at e; cases e
      | some vs =>
        rw [q1, q2] at e
        cases e
        obtain ⟨rfl, f1⟩ := flat_rp h q1
        obtain ⟨rfl, f2⟩ := flats_rp t q2
        exact ⟨rfl, by rw [List.all_cons, f1, f2]; rfl⟩
def seqIn (neg : Bool) (x : U) (us : List U) : Option U := match flatU x, flatsU us with
  | some v, some vs => some (.bl (if neg then !inV v vs else inV v vs))
  | _, _ => none
def fIn (neg : Bool) : U → U → Option U
  | .str i, .str j => some (.bl (if neg then !strIn i j else strIn i j))
  | x, .lst us => seqIn neg x us
  | x, .tup us => seqIn neg x us
  | _, _ => none
theorem in_run {K : PySem.W.Frag} {neg : Bool} : OpOk (rInV K neg) (fIn neg) := by
  intro b pp q G H v1 v2 x y u Q w p h1 h2 e k
  have seq : ∀ {a : Addr} {vs : List V} {us : List U}, (SqL K H a vs ∨ SqT K H a vs) → RpL pp G vs us → seqIn neg x us = some u → v2 = .ref a → rInV K neg v1 v2 H Q := fun {a vs us} hs kk e e2 => by
    unfold seqIn at e
    cases q1 : flatU x with
    | none => rw [q1] at e; cases e
    | some v =>
      cases q2 : flatsU us with
      | none => rw [q1, q2] at e; cases e
      | some vs' =>
        rw [q1, q2] at e
        cases e
        obtain ⟨rfl, f1⟩ := flat_bp h1 q1
        obtain ⟨rfl, f2⟩ := flats_rp kk q2
        exact .inr ⟨a, vs, e2, hs, f1, f2, k _ G H (Gr.refl w p) (.bl _)⟩
  cases h2 with
  | @lst a vs us h kk z =>
    have e' : seqIn neg x us = some u := by cases x <;> exact e
    exact seq (.inl (SqL.of h)) kk e' rfl
  | @tup a vs us h kk z =>
    have e' : seqIn neg x us = some u := by cases x <;> exact e
    exact seq (.inr (SqT.of (w.tup h))) kk e' rfl
  | str s z =>
    cases x with
    | str i =>
      cases e
      cases h1
      exact .inl ⟨_, _, rfl, rfl, k _ G H (Gr.refl w p) (.bl _)⟩
    | _ => cases e
  | _ => cases x <;> cases e
theorem o_in {K : PySem.W.Frag} : OpOk (rInV K false) (fIn false) := in_run
theorem o_notIn {K : PySem.W.Frag} : OpOk (rInV K true) (fIn true) := in_run
theorem flats_int (ns : List Int) : flatsU (ns.map U.int) = some (ns.map V.int) := by
  induction ns with
  | nil => rfl
  | cons n ns ih =>
    show (match flatU (.int n), flatsU (ns.map U.int) with | some v, some vs => some (v :: vs) | _, _ => none) = _
    rw [ih]
    rfl
theorem flats_str (ns : List Str) : flatsU (ns.map U.str) = some (ns.map V.str) := by
  induction ns with
  | nil => rfl
  | cons n ns ih =>
    show (match flatU (.str n), flatsU (ns.map U.str) with | some v, some vs => some (v :: vs) | _, _ => none) = _
    rw [ih]
    rfl
theorem inV_int (i : Int) (ns : List Int) : inV (.int i) (ns.map V.int) = decide (i ∈ ns) := by
  unfold inV
  rw [List.any_map, Bool.eq_iff_iff, decide_eq_true_eq, List.any_eq_true]
  refine ⟨fun ⟨y, hy, e⟩ => ?_, fun h => ⟨i, h, beq_self_eq_true i⟩⟩
  have e' : (y == i) = true := e
  rw [← eq_of_beq e']
  exact hy
theorem inV_str (i : Str) (ns : List Str) : inV (.str i) (ns.map V.str) = decide (i ∈ ns) := by
  unfold inV
  rw [List.any_map, Bool.eq_iff_iff, decide_eq_true_eq, List.any_eq_true]
  refine ⟨fun ⟨y, hy, e⟩ => ?_, fun h => ⟨i, h, beq_self_eq_true i⟩⟩
  have e' : (y == i) = true := e
  rw [← eq_of_beq e']
  exact hy
theorem in_ints (i : Int) (ns : List Int) : fIn false (.int i) (.tup (ns.map U.int)) = some (.bl (decide (i ∈ ns))) := by
  show seqIn false (.int i) (ns.map U.int) = _
  unfold seqIn
  rw [flats_int]
  show some (U.bl (inV (.int i) (ns.map V.int))) = _
  rw [inV_int]
theorem in_strs (i : Str) (ns : List Str) : fIn false (.str i) (.tup (ns.map U.str)) = some (.bl (decide (i ∈ ns))) := by
  show seqIn false (.str i) (ns.map U.str) = _
  unfold seqIn
  rw [flats_str]
  show some (U.bl (inV (.str i) (ns.map V.str))) = _
  rw [inV_str]
theorem notin_strs (i : Str) (ns : List Str) : fIn true (.str i) (.tup (ns.map U.str)) = some (.bl (!decide (i ∈ ns))) := by
  show seqIn true (.str i) (ns.map U.str) = _
  unfold seqIn
  rw [flats_str]
  show some (U.bl (!inV (.str i) (ns.map V.str))) = _
  rw [inV_str]
end SV
namespace SV
open PySem PySem.Spec PyProof.Rows L2 SL
abbrev SG : Str := "0123456789abcdefghijklmnopqrstuvwxyz"
/-- < of two ints or two texts -/
def ltU : U → U → Option Bool
  | .int i, .int j => some (decide (i < j))
  | .str s, .str t => some (decide (s.cps.toList < t.cps.toList))
  | _, _ => none
def fLtD : U → U → Option U := fun x y => (ltU x y).map .bl
theorem o_ltD : OpOk rLtD fLtD := by
  intro b pp q G H v1 v2 x y u Q w p h1 h2 e k
  unfold fLtD at e
  cases h1 with
  | int i =>
    cases h2 with
    | int j =>
      cases e
      exact .inl ⟨_, _, rfl, rfl, k _ G H (Gr.refl w p) (.bl _)⟩
    | _ => cases e
  | str s z =>
    cases h2 with
    | str t z2 =>
      cases e
      exact .inr ⟨_, _, rfl, rfl, k _ G H (Gr.refl w p) (.bl _)⟩
    | _ => cases e
  | _ => cases h2 <;> cases e
/-- each lies below the next -/
def risU (xs : List U) : Bool := (xs.zip (xs.drop 1)).all fun p => (ltU p.1 p.2).getD false
/-- one sign of the alphabet -/
def signU : U → Bool
  | .str s => decide (s.length = 1) && strIn s SG
  | _ => false
theorem tailU (us : List U) : fSlT (.tup us) (some 1) none = some (.tup (us.drop 1)) := by
  show some (U.tup (cutU us (some 1) none)) = _
  unfold cutU
  rw [show HT.sIx us.length us.length none = us.length from rfl, show HT.sIx us.length 0 (some 1) = min 1 us.length from HT.sIx_nat _ _ 1, List.take_of_length_le (by rw [List.length_drop]; exact Nat.le_refl _)]
  cases us <;> rfl
/-- len of a text -/
def bLenS : FB := fun us post => ∃ s : Str, us = [.str s] ∧ post (.int (s.length : Int))
end SV
namespace SV
open PySem PySem.Spec PyProof.Rows L2 SL
/-- products and quotients of great numbers -/
theorem o_mulW : OpOk (rI CMulW fun i j => .int (i * j)) (fIIc (fun i j => decide (i.natAbs.log2 + j.natAbs.log2 < 1000000)) fun i j => .int (i * j)) := o_IIc fun _ _ h => of_decide_eq_true h
theorem o_fdivW : OpOk (rI CDivW fun i j => .int (i / j)) (fIIc (fun _ j => decide (0 < j ∧ j.natAbs.log2 < 9000)) fun i j => .int (i / j)) := o_IIc fun _ _ h => of_decide_eq_true h
end SV
/-! The value layer: xs.append(ys.pop(e)), both one's own. -/
namespace SV
open PySem PySem.Spec PyProof.Rows L2 SL
theorem RpL.erase {pp : Addr} {G : Hp} {vs : List V} {us : List U} (k : RpL pp G vs us) (i : Nat) : RpL pp G (vs.eraseIdx i) (us.eraseIdx i) := by
  rw [List.eraseIdx_eq_take_drop_succ, List.eraseIdx_eq_take_drop_succ]
  exact (k.drop _).append (k.take _)
theorem seqIx {n : Int} {l : Nat} (h0 : 0 ≤ n) (h1 : n < l) : seqIndex? n l = some n.toNat := by
  have e : (if n < 0 then n + (l : Int) else n) = n := if_neg (by omega)
  show (if (decide (0 ≤ (if n < 0 then n + (l : Int) else n)) && decide ((if n < 0 then n + (l : Int) else n) < (l : Int))) = true then some (if n < 0 then n + (l : Int) else n).toNat else none) = _
  rw [e, decide_eq_true h0, decide_eq_true h1]
  rfl
section
variable {Z : Zc} {te : TE} {we : WE}
def wAppPop (i j : Nat) (we : WE) : WS := fun V ρ => i ≠ j ∧ ∃ xs ys, ρ[i]? = some (.ow (.lst xs)) ∧ xs.length < 100000 ∧ ρ[j]? = some (.ow (.lst ys)) ∧ we ρ fun x => ∃ (n : Int) (u : U), x = .int n ∧ 0 ≤ n ∧ n ≤ 100000 ∧ ys[n.toNat]? = some u ∧ V.nx ((ρ.set j (.ow (.lst (ys.eraseIdx n.toNat)))).set i (.ow (.lst (xs ++ [u]))))
theorem s_appPop {K : PySem.W.Frag} {i j : Nat} (h : TrE Z te we) : TrS Z (tDrop (tBM K "list" rAppend (tVar i) (tCons (tBM K "list" rPopAt (tVar j) (tCons te tNil)) tNil))) (wAppPop i j we) := fun V D σ ρ G H S hw B => by
  obtain ⟨ij, xs, ys, ei, lx, ej, p⟩ := hw
  obtain ⟨a, vs, e1, h1, _, _⟩ := ow_lst S ei
  obtain ⟨b, ws, e2, h2, _, _⟩ := ow_lst S ej
  refine ⟨_, e1, .inl ⟨rfl, vs, SqL.of h1⟩, _, e2, .inl ⟨rfl, ws, SqL.of h2⟩, h σ ρ G H _ _ S p fun iv x G1 H1 p1 g1 r1 => ?_⟩
  obtain ⟨n, u, rfl, n0, n1, eu, p3⟩ := p1
  cases r1
  have S1 := S.step g1
  obtain ⟨b', ws', e2', h2', k2, z2⟩ := ow_lst S1 ej
  rw [e2] at e2'
  cases e2'
  obtain ⟨y, ey, ry⟩ := k2.got eu
  have ln : n.toNat < ys.length := (List.getElem?_eq_some_iff.mp eu).1
  have lw : ws'.length = ys.length := k2.length
  refine ⟨b, ws', n, n.toNat, y, rfl, rfl, h2', by omega, by omega, seqIx n0 (by omega), ey, ?_⟩
  have S2 := S1.put ej e2 (.lst (k2.erase n.toNat) (by have := List.length_eraseIdx_le ys n.toNat; omega))
  have ei2 : (ρ.set j (.ow (.lst (ys.eraseIdx n.toNat))))[i]? = some (.ow (.lst xs)) := by
    rw [List.getElem?_set_ne (Ne.symm ij)]
    exact ei
  obtain ⟨a', vs', e1', h1', k1, z1⟩ := ow_lst S2 ei2
  rw [e1] at e1'
  cases e1'
  refine ⟨a, vs', y, rfl, rfl, h1', lineN (by rw [k1.length]; omega), ?_⟩
  exact B.nx _ _ G1 _ (S2.put ei2 e1 (.lst (k1.snoc ry) (by rw [List.length_append]; exact lx))) ((g1.ex.trans (ow_ex S1 ej e2)).trans (ow_ex S2 ei2 e1)) p3
end
end SV
namespace SV
open PySem PySem.Spec PyProof.Rows L2 SL
def bListS : FB := fun us post => ∃ s : Str, us = [.str s] ∧ post (.lst (s.cps.toList.map chU))
theorem chs_rp {pp : Addr} {G : Hp} : ∀ cs : List Nat, RpL pp G (cs.map chV) (cs.map chU)
  | [] => .nil
  | c :: cs => .cons (.str ⟨#[c]⟩ (by show 1 ≤ 100000; decide)) (chs_rp cs)
theorem b_listS : CallOkF (fun xs H Q => ∃ z : Str, xs = [.str z] ∧ z.cps.size ≤ 100000 ∧ ∀ l, H l = none → Q (.ref l) (upd H l (.lst (z.cps.toList.map chV)))) bListS := by
  intro b pp q G H vs us Q post w p hv hF k
  obtain ⟨s, rfl, hp⟩ := hF
  cases hv with
  | cons r t =>
    cases t
    cases r with
    | str _ z =>
      refine ⟨s, rfl, z, fun l nl => ?_⟩
      exact k l _ _ _ hp (Gr.newH w p nl) nl (w.free nl) upd_same (.lst (chs_rp _) (by rw [List.length_map]; exact z))
end SV
namespace SV
open PySem PySem.Spec PyProof.Rows L2 SL
section
variable {Z : Zc} {to te : TE} {wo we : WE}
/-- a.join(ys) -/
def wJoin (wo we : WE) : WE := fun ρ post => wo ρ fun x => (∃ a : Str, x = .str a) ∧ we ρ fun y => ∃ (a : Str) (ys : List Str), x = .str a ∧ (y = .lst (ys.map U.str) ∨ y = .tup (ys.map U.str)) ∧ (ys.map (·.length)).sum + ys.length * a.length ≤ 16777216 ∧ (Txt.join a ys).length ≤ 100000 ∧ post (.str (Txt.join a ys))
theorem v_join {K : PySem.W.Frag} (ho : TrE Z to wo) (he : TrB Z te we) : TrE Z (tM1 (fun x xs H Q => ∃ a p, ∃ ys : List Str, x = .str a ∧ xs = [.ref p] ∧ (SqL K H p (ys.map V.str) ∨ SqT K H p (ys.map V.str)) ∧ (ys.map (·.length)).sum + ys.length * a.length ≤ 16777216 ∧ Q (.str (Txt.join a ys)) H) to te) (wJoin wo we) := fun σ ρ G H post Q S hw q =>
  ho σ ρ G H _ _ S hw fun v x G1 H1 w1 g1 r1 => by
    obtain ⟨⟨a, rfl⟩, w1⟩ := w1
    cases r1
    refine ⟨⟨a, rfl⟩, he σ ρ G1 H1 _ _ (S.step g1) w1 fun u y G2 H2 w2 g2 r2 => ?_⟩
    obtain ⟨a', ys, e, hy, h1, h2, p⟩ := w2
    cases e
    have vw := ((S.step g1).step g2).vw
    rcases hy with rfl | rfl
    · cases r2 with
      | lst h k z =>
        obtain ⟨rfl, _⟩ := k.strs'
        exact ⟨a, _, ys, rfl, rfl, .inl (SqL.of h), h1, q _ _ G2 H2 p (g1.trans g2) (.str _ h2)⟩
    · cases r2 with
      | tup h k z =>
        obtain ⟨rfl, _⟩ := k.strs'
        exact ⟨a, _, ys, rfl, rfl, .inr (SqT.of (vw.tup h)), h1, q _ _ G2 H2 p (g1.trans g2) (.str _ h2)⟩
/-- xs.index(e), of short things -/
def wIndex (wo we : WE) : WE := fun ρ post => wo ρ fun x => ∃ us vs, x = .lst us ∧ flatsU us = some vs ∧ we ρ fun y => ∃ (w : V) (j : Nat) (z : V), flatU y = some w ∧ vs[j]? = some z ∧ eqV z w = true ∧ (∀ (m : Nat) (z' : V), m < j → vs[m]? = some z' → eqV z' w = false) ∧ post (.int (j : Nat))
theorem v_index {K : PySem.W.Frag} (ho : TrE Z to wo) (he : TrE Z te we) : TrE Z (tBM K "list" (rIndex K) to (tCons te tNil)) (wIndex wo we) := fun σ ρ G H post Q S hw q =>
  ho σ ρ G H _ _ S hw fun v x G1 H1 w1 g1 r1 => by
    obtain ⟨us, vs, rfl, fe, w1⟩ := w1
    have S1 := S.step g1
    cases r1 with
    | @lst a vs' _ h k zz =>
      obtain ⟨rfl, fl⟩ := flats_rp k fe
      refine ⟨.inl ⟨rfl, _, SqL.of (S1.vw.lst h)⟩, he σ ρ G1 H1 _ _ S1 w1 fun u y G2 H2 w2 g2 r2 => ?_⟩
      obtain ⟨w, j, z, f2, e1, e2, e3, p⟩ := w2
      obtain ⟨rfl, ff⟩ := flat_rp r2 f2
      exact ⟨a, _, u, j, z, rfl, rfl, SqL.of ((S1.step g2).vw.lst (g2.gg _ _ h)), ff, fl, e1, e2, e3, q _ _ G2 H2 p (g1.trans g2) (.int _)⟩
end
end SV
namespace SV
open PySem PySem.Spec PyProof.Rows L2 SL
/-- a def called with its last arguments left out -/
structure FnD (P : Program) (w : World) (K : PySem.W.Frag) (mg : Str → Option Value) (base : Heap) (CX : CXT) (k : Nat) (x : Str) (ps : List Str) (ds : List Value) (sp : Sp) : Prop where
  ex : ∃ (f : Addr) (fd : FuncData), FnOk P w K mg base CX k f fd ps sp ∧ mg x = some (.ref f) ∧ PySem.W.keepIn K (.ref f) = true ∧ L2.Binds K fd ps ds
section
variable {X : Cx} {CX : CXT} {k j : Nat} {x : Str} {ps : List Str} {ds : List Value} {dvs : List V} {sp : Sp} {e : Expr} {es : List Expr} {t : TA} {p pos : Pos}
theorem pe_fD {E : XK} (c : FnD X.prog X.w X.K X.mg X.base CX k x ps ds sp) (hd : Vals dvs ds) (hr : Room j X.A) (hk : k ≤ j) (hx : Passes CX X E) (ha : PA X (e :: es) t) (hg : Gl X x := by rfl) (hdb : (x == ("__debug__" : Str)) = false := by decide)
    (he : starEach (e :: es) X.env = (false, eval e X.env) :: starEach es X.env := by rfl) (hpl : (backTo pos (starEach es X.env)).any (·.1) = false := by rfl) : PE X (.Call (.Name x p) (e :: es) [] pos) (tCall sp dvs E t) := by
  obtain ⟨f, fd, F, hm, hkp, hb⟩ := c.ex
  exact pe_call F (hr.mono hk) hg hm hkp hb hd hx ha hdb he hpl
end
section
variable {Z : Zc} {tA : TA} {wA : WA}
def wCallD (n : Nat) (W : Wf) (ew : EW) (dus : List U) (wA : WA) : WE := fun ρ post => wA ρ fun us => (us ++ dus).length = n ∧ W (us ++ dus) post ew
theorem v_callD {b : PT} {n : Nat} {W : Wf} {dvs : List V} {dus : List U} (hd : ∀ pp G, RpL pp G dvs dus) (hb : PLe b Z.b) (h : TrA Z tA wA) : TrE Z (tCall (spV b n W) dvs E0 tA) (wCallD n W (fun _ _ => False) dus wA) := fun σ ρ G H post Q S hw q =>
  h σ ρ G H _ _ S hw fun vs us G1 H1 p1 g1 r1 => spV_of (S.step g1) hb (fun _ _ _ _ _ _ a => a.elim) (RpL.append (hd _ _) r1) p1.1 p1.2 fun v u G' H' p g r => q v u G' H' p (g1.trans g) r
end
end SV
/-! The value layer: defs with defaults. -/
namespace SV
open PySem PySem.Spec PyProof.Rows L2 SL
abbrev FunV (K : PySem.W.Frag) (x qual : Str) (st : Stmt) (dvs : List V) (f : Addr) (fd : FuncData) : Prop := FunD K x qual (defArgs st) (defBody st) (defScope st) dvs [] f fd
section
variable {P : Program} {w : World} {K : PySem.W.Frag} {mg : Str → Option Value} {base : Heap}
theorem funv_mk {x qual : Str} {st : Stmt} {f T : Addr} {oc ocT : Value} {od an odT : Option Addr} {osl slT : Array (Option Value)} {kV doc pm cdv ct : Value} {its : List Value} {n : Nat} {dvs : List V} (l : K.lookup f = some ⟨oc, od, .func (PySem.W.fnOf x qual (defArgs st) (defBody st) (defScope st) (.ref T) kV doc pm an cdv ct), osl⟩)
    (c : PySem.W.codeIn K cdv qual = true) (k : PySem.W.keepIn K (.ref f) = true) (hd : dvs ≠ []) (lT : K.lookup T = some ⟨ocT, odT, .seq its.toArray n, slT⟩) (r : Vals dvs its) : FunV K x qual st dvs f (PySem.W.fnOf x qual (defArgs st) (defBody st) (defScope st) (.ref T) kV doc pm an cdv ct) :=
  ⟨⟨oc, od, _, kV, doc, pm, an, cdv, ct, osl, rfl, l, c, .inr ⟨hd, T, _, its, n, rfl, lT, rfl, r⟩, .inl rfl⟩, k⟩
/-- a def with defaults that raises nothing -/
theorem okVD {b : PT} {n : Nat} {W : Wf} {x qual : Str} {st : Stmt} {f : Addr} {fd : FuncData} {N ps : List Str} {k : Nat} {dvs : List V} (F : FunV K x qual st dvs f fd) (S : FnScope N ps (defScope st)) (hn : ps.length = n) (hN : n ≤ N.length)
    (hbody : ∀ (cdv : Value) (A : Around) (outer : List Env) (s : Shared) (H : Hp) (E : XK), Room k (A.deeper (envOfC qual (defScope st) s.heap.objs.size f cdv)) →
      ∃ t, PSs (cxOf CX0 P w K mg base N qual (defScope st) f cdv A outer s H E).nox (defBody st) t ∧ ∀ Z : Zc, Z.b = b → Z.E = E → Z.mays (fun _ => true) → ∃ w, TrS Z t w ∧ ∀ us post, us.length = n → W us post Z.ew → w { nx := fun _ => post .non, rt := post } (us.map Cell.fz ++ List.replicate (N.length - us.length) Cell.no)) :
    FnOk P w K mg base CX0 (k + 1) f fd ps (spV b n W) :=
  FunD.ok F S (fun vs H Q E h => (spV_len h).trans hn.symm) fun cdv A outer s H vs Q E hr h =>
    let ⟨t, ht, tr⟩ := hbody cdv A outer s H E hr
    ⟨t, ht.nox, body_of hN tr h⟩
/-- a def with defaults that may raise -/
theorem okVXD {b : PT} {n : Nat} {W : Wf} {x qual : Str} {st : Stmt} {f : Addr} {fd : FuncData} {N ps : List Str} {k : Nat} {dvs : List V} (F : FunV K x qual st dvs f fd) (S : FnScope N ps (defScope st)) (hn : ps.length = n) (hN : n ≤ N.length)
    (hbody : ∀ (cdv : Value) (A : Around) (outer : List Env) (s : Shared) (H : Hp) (E : XK), Room k (A.deeper (envOfC qual (defScope st) s.heap.objs.size f cdv)) →
      ∃ t, PSs (cxOf (L2.CX P w) P w K mg base N qual (defScope st) f cdv A outer s H E) (defBody st) t ∧ ∀ Z : Zc, Z.b = b → Z.E = E → Z.mays (fun _ => true) → ∃ w, TrS Z t w ∧ ∀ us post, us.length = n → W us post Z.ew → w { nx := fun _ => post .non, rt := post } (us.map Cell.fz ++ List.replicate (N.length - us.length) Cell.no)) :
    FnOk P w K mg base (L2.CX P w) (k + 1) f fd ps (spV b n W) :=
  FunD.ok F S (fun vs H Q E h => (spV_len h).trans hn.symm) fun cdv A outer s H vs Q E hr h =>
    let ⟨t, ht, tr⟩ := hbody cdv A outer s H E hr
    ⟨t, ht, body_of hN tr h⟩
theorem vals0 {ds : List Value} (h : Vals [] ds) : ds = [] := by cases h; rfl
end
end SV
/-! set comprehensions over any rule of set.add. -/
namespace SL
open PySem PySem.Spec PyProof.Rows L2 PpSet
/-- the reading: S0 tells the empty set at D, r what an add asks -/
def tScG (S0 : Addr → HO) (r : V → List V → Hp → VK → Prop) (wi : TI) (g : TG) (tt : TT) (te : TE) (vs : List Nat) : TE := fun σ H Q =>
  wi σ H fun J H1 => ∀ D, H1 D = none → ∃ W : Nat → Nat → Hp → Prop, (∃ m, W 0 m (upd H1 D (S0 D))) ∧
    ∀ i m H', W i m H' → (J.stop i H' ∧ Q (.ref D) H') ∨
      (J.go i H' ∧ ∃ Nx : Hp → Prop, (∀ H2, Nx H2 → ∃ k, k < m ∧ W (i + 1) k H2) ∧
        ∀ x H2, J.yld i H' x H2 → g x (wipe σ vs) H2 fun σ2 H3 => wipe σ2 vs = wipe σ vs ∧
          tt σ2 H3 fun b H4 => if b = true then te σ2 H4 fun y H5 => r (.ref D) [y] H5 fun _ H6 => Nx H6 else Nx H4)
section
variable {X : Cx}
abbrev freshSet (w : World) : Obj := { cls := .type "set", dict := none, data := .set #[] 0 (.fresh 0 0 (!w.params.followText "set-order")) }
theorem scG_core {S0 : Addr → HO} {r : V → List V → Hp → VK → Prop} (hnew : ∀ (H : Hp) (h : Heap), ObjOk X.prog X.w H (h.push (freshSet X.w)) h.objs.size (S0 h.objs.size))
    (hadd : ∀ Y : Cx, Y.prog = X.prog → Y.w = X.w → Y.K = X.K → Y.A = X.A → MtR Y "set.add" r)
    {pins : List (Addr × Obj)} {s : Shared} {σ : L2.St} {H : Hp} {Q : VK} {elt tg iter : Expr} {ifs : List Expr} {scope : Scope} {own : List (PySem.Str × Nat)} {pos pos' : Pos} {wi : TI} {g : TG} {tt : TT} {te : TE} {use : Option (Value → Sem Unit)} {Qf : Value → Shared → Prop}
    (calm : X.calm = true) (ndN : X.N.Nodup) (I0 : Inv X pins σ H s) (hi : PI X tg iter wi) (bk : BlkOk X.N X.env.scope scope own)
    (rg : ∀ (s : Shared) (H : Hp) (C : Addr) (cl : List (PySem.Str × Addr)) (fp : List Addr), PG (X.blk s H scope (compEnvC scope cl C X.env) fp) tg g)
    (rt : ∀ (s : Shared) (H : Hp) (C : Addr) (cl : List (PySem.Str × Addr)) (fp : List Addr), PTs (X.blk s H scope (compEnvC scope cl C X.env) fp) ifs tt)
    (re : ∀ (s : Shared) (H : Hp) (C : Addr) (cl : List (PySem.Str × Addr)) (fp : List Addr), PE (X.blk s H scope (compEnvC scope cl C X.env) fp) elt te)
    (fold : ∀ x, foldedSetIterable iter X.env x = pure x) (hq : tScG S0 r wi g tt te (own.map (·.2)) σ H Q)
    (fin : ∀ D C s' m H', Inv X pins σ H' s' → Q (.ref D) H' → s'.heap.Ns C m → FpOk X pins H' C → compPost (model X.prog X.w) X.A X.xe use Qf (.ref D) C (.ok .next) s') :
    wpAny (model X.prog X.w) X.A (comprehension (.SetComp elt [⟨tg, iter, ifs, 0⟩] scope pos) scope X.env pos' (newSet (.type "set")) false (eval iter X.env) use) Qf X.xe s := by
  have hasFree : ∀ y ∈ scope.names, y.2 = .free → ∃ c, X.env.cells.lookup y.1 = some c := by
    intro y hy e
    exact (bk.free y hy e).elim (fun z => I0.ok.has _ (.inl z)) (fun z => I0.ok.has _ (.inr z))
  refine wpAny_comprehension_free (use := use) rfl fold (closure_ok hasFree) bk.kind (fun y hy e => by rw [bk.uniq y hy, e]) ?_
  refine thn (hi.run pins s σ H _ I0 hq) fun itV sA hA => thn hA fun itW sB hB => ?_
  obtain ⟨it, fp, tn, J, HB, eIt, IB, T, stB, fB, qq⟩ := hB
  subst eIt
  refine newSet_ok (newEnv_comp ?_)
  -- D: where the set is laid
  obtain ⟨D, hD⟩ : ∃ D, sB.heap.objs.size = D := ⟨_, rfl⟩
  rw [hD]
  have freeD : HB D = none := IB.hok.fresh (by rw [hD]; exact Nat.le_refl _)
  obtain ⟨W, ⟨m0, w0⟩, turn⟩ := qq D freeD
  obtain ⟨sC, hC⟩ : ∃ sC : Shared, ({ sB with heap := sB.heap.push (freshSet X.w) } : Shared) = sC := ⟨_, rfl⟩
  have heapC : sC.heap = sB.heap.push (freshSet X.w) := by rw [← hC]
  have IC : Inv X pins σ (upd HB D (S0 D)) sC := by
    rw [← hC, ← hD]
    exact IB.laid (t' := sB.toks) (fun b o e => Heap.get?_push_of_some _ e) (Nat.le_refl _) (hnew _ _)
  have fC : ∀ b ∈ fp, FpOk X pins (upd HB D (S0 D)) b ∧ b < sC.heap.objs.size := by
    intro b hb
    obtain ⟨o, e, _⟩ := T.obj _ _ stB b hb
    have lt := Heap.lt_size e
    have neD : b ≠ D := fun z => by rw [z, ← hD] at lt; exact Nat.lt_irrefl _ lt
    exact ⟨⟨(upd_ne neD).trans (fB b hb).1, (fB b hb).2⟩, by rw [heapC, Heap.size_push]; exact Nat.lt_succ_of_lt lt⟩
  have stC : tn 0 sC.heap := T.keep _ _ _ stB fun b _ o e => by rw [heapC]; exact Heap.get?_push_of_some _ e
  have ID := block_start IC bk ndN fC
  have pg := rg sC (upd HB D (S0 D)) sC.heap.objs.size (cellsFrom (sC.heap.objs.size + 1) scope.names (cloFrom X.env.cells scope.names [])) fp
  have pt := rt sC (upd HB D (S0 D)) sC.heap.objs.size (cellsFrom (sC.heap.objs.size + 1) scope.names (cloFrom X.env.cells scope.names [])) fp
  have pe := re sC (upd HB D (S0 D)) sC.heap.objs.size (cellsFrom (sC.heap.objs.size + 1) scope.names (cloFrom X.env.cells scope.names [])) fp
  have goal : codeAny (model X.prog X.w) X.A (.compStart (.SetComp elt [⟨tg, iter, ifs, 0⟩] scope pos) 0 (.ref it) (.ref D) (compEnvC scope (cellsFrom (sC.heap.objs.size + 1) scope.names (cloFrom X.env.cells scope.names [])) sC.heap.objs.size X.env))
      (compPost (model X.prog X.w) X.A X.xe use Qf (.ref D) sC.heap.objs.size) { sC with heap := pushCells (sC.heap.push { cls := .type "dict", data := .dict #[] }) scope.names } := by
    have empty : ∀ b ∈ fp, (upd HB D (S0 D)) b = none := fun b hb => (fC b hb).1.1
    generalize hE : compEnvC scope (cellsFrom (sC.heap.objs.size + 1) scope.names (cloFrom X.env.cells scope.names [])) sC.heap.objs.size X.env = ev at ID pg pt pe ⊢
    have evL : ev.locals = sC.heap.objs.size := by rw [← hE]; rfl
    generalize upd HB D (S0 D) = HC at IC ID pg pt pe w0 empty fC
    generalize hS : ({ sC with heap := pushCells (sC.heap.push { cls := .type "dict", data := .dict #[] }) scope.names } : Shared) = sD at ID ⊢
    have stD : tn 0 sD.heap := T.keep _ _ _ stC fun b _ o e => by rw [← hS]; exact pushCells_keeps _ _ _ _ (Heap.get?_push_of_some _ e)
    -- the walk's own objects, within the block
    have inBlk : ∀ {σ' : L2.St} {H' : Hp} {s' : Shared}, Inv (X.blk sC HC scope ev fp) [] σ' H' s' → (∀ b ∈ fp, H' b = none) → ∀ b ∈ fp, FpOk (X.blk sC HC scope ev fp) [] H' b := by
      intro σ' H' s' J' hn b hb
      refine ⟨hn b hb, (J'.ok.exf b hb).1, J'.ok.exfs b hb, .inl hb, fun x c e => (J'.ok.exf b hb).2 x c e, fun p hp => ?_⟩
      exact nomatch (show p ∈ ([] : List (Addr × Obj)) ++ [] from hp)
    have loop : codeAny (model X.prog X.w) X.A (.compLoop (.SetComp elt [⟨tg, iter, ifs, 0⟩] scope pos) 0 (.ref it) (.ref D) ev) (compPost (model X.prog X.w) X.A X.xe use Qf (.ref D) sC.heap.objs.size) sD := by
      refine compLoopS_any (fun n s' => ∃ i H', Inv (X.blk sC HC scope ev fp) [] (wipe σ (own.map (·.2))) H' s' ∧ tn i s'.heap ∧ (∀ b ∈ fp, H' b = none) ∧ W i n H') (fun n sE hn => ?_) m0 ⟨0, HC, ID, stD, empty, w0⟩
      obtain ⟨i, HE, IE, stE, nE, wE⟩ := hn
      rcases turn i n HE wE with ⟨stop, done⟩ | ⟨go, Nx, less, step⟩
      · refine thnF (T.done (X.blk sC HC scope ev fp) rfl rfl rfl calm i [] sE _ HE (fun _ _ => False) IE (inBlk IE nE) stE stop) fun res sF hF => ?_
        obtain ⟨rfl, IF⟩ := hF
        have back : Inv X pins σ HE sF := IC.call' (ch := fp) IF.os IF.base IF.hok IF.bare fun b hb =>
          let z := (fC b hb).1.2
          ⟨z.2.2.1, z.1, z.2.2.2.1, z.2.2.2.2⟩
        have freeL : HE sC.heap.objs.size = none := by
          rw [← evL]
          exact IF.free
        obtain ⟨m, hns, _⟩ := IF.loc
        exact fin D _ sF m HE back done (by rw [← evL]; exact hns) (IC.fpOk (Nat.le_refl _) freeL)
      · refine thnF (T.item (X.blk sC HC scope ev fp) rfl rfl rfl calm i [] sE _ HE (fun _ _ => False) IE (inBlk IE nE) stE go) fun res sF hF => ?_
        obtain ⟨u, rfl, hu⟩ := hF
        refine thnF hu fun _ sG hG => ?_
        obtain ⟨x, HG, IG, rx, yx, stG, nG⟩ := hG
        have IG' := IG.pinned (inBlk IG nG) (T.obj _ _ stG)
        refine thnF (pg.run _ sG _ HG x u _ IG' rx (step x HG yx)) fun _ sH hH => ?_
        obtain ⟨σH, HH, IH, wH, qH⟩ := hH
        refine thnF (pt.run _ sH σH HH _ IH qH) fun b sK hK => ?_
        obtain ⟨HK, IK, qK⟩ := hK
        have next : ∀ {s' : Shared} {H' : Hp}, Inv (X.blk sC HC scope ev fp) ([] ++ pinsAt fp sG.heap) σH H' s' → Nx H' →
            ∃ m, m < n ∧ ∃ i H', Inv (X.blk sC HC scope ev fp) [] (wipe σ (own.map (·.2))) H' s' ∧ tn i s'.heap ∧ (∀ b ∈ fp, H' b = none) ∧ W i m H' := by
          intro s' H' J' nx
          obtain ⟨m', lt', w'⟩ := less H' nx
          have pinned : ∀ b ∈ fp, ∀ o, sG.heap.get? b = some o → s'.heap.get? b = some o ∧ H' b = none := by
            intro b hb o e
            have z := J'.pin (b, o) (List.mem_append_right _ (List.mem_append_right _ (mem_pinsAt hb e)))
            exact ⟨z.1, z.2.1⟩
          refine ⟨m', lt', i + 1, H', (J'.unpinned (pins := [])).weak ?_ ?_, ?_, ?_, w'⟩
          · rw [← wH, wipe_length]
          · intro j v e
            rw [← wH] at e
            exact (wipe_some e).1
          · exact T.keep _ _ _ stG fun b hb o e => (pinned b hb o e).1
          · intro b hb
            obtain ⟨o, e, _⟩ := T.obj _ _ stG b hb
            exact (pinned b hb o e).2
        cases b with
        | false => exact next IK qK
        | true =>
          refine thnF (pe.run _ sK σH HK _ IK qK) fun z sL hL => ?_
          obtain ⟨y, HL, IL, ry, qL⟩ := hL
          refine thnF (hadd (X.blk sC HC scope ev fp) rfl rfl rfl rfl _ sL σH HL (.ref D) [y] (.ref D) [z] _ IL rfl (.cons ry .nil) qL) fun v sM hM => ?_
          obtain ⟨_, HM, IM, _, nx⟩ := hM
          exact next IM nx
    exact codeAny_compStart_set loop (T.self X.A 0 _ _ _ stD loop)
  subst hC
  exact goal
/-- as a value -/
theorem pe_scG {S0 : Addr → HO} {r : V → List V → Hp → VK → Prop} (hnew : ∀ (H : Hp) (h : Heap), ObjOk X.prog X.w H (h.push (freshSet X.w)) h.objs.size (S0 h.objs.size))
    (hadd : ∀ Y : Cx, Y.prog = X.prog → Y.w = X.w → Y.K = X.K → Y.A = X.A → MtR Y "set.add" r)
    {elt tg iter : Expr} {ifs : List Expr} {scope : Scope} {own : List (PySem.Str × Nat)} {pos : Pos} {wi : TI} {g : TG} {tt : TT} {te : TE} (calm : X.calm = true) (ndN : X.N.Nodup) (hi : PI X tg iter wi) (bk : BlkOk X.N X.env.scope scope own)
    (rg : ∀ (s : Shared) (H : Hp) (C : Addr) (cl : List (PySem.Str × Addr)) (fp : List Addr), PG (X.blk s H scope (compEnvC scope cl C X.env) fp) tg g)
    (rt : ∀ (s : Shared) (H : Hp) (C : Addr) (cl : List (PySem.Str × Addr)) (fp : List Addr), PTs (X.blk s H scope (compEnvC scope cl C X.env) fp) ifs tt)
    (re : ∀ (s : Shared) (H : Hp) (C : Addr) (cl : List (PySem.Str × Addr)) (fp : List Addr), PE (X.blk s H scope (compEnvC scope cl C X.env) fp) elt te)
    (fold : ∀ x, foldedSetIterable iter X.env x = pure x := by intro _; rfl) : PE X (.SetComp elt [⟨tg, iter, ifs, 0⟩] scope pos) (tScG S0 r wi g tt te (own.map (·.2))) := by
  refine ⟨fun pins s σ H Q I h => ?_⟩
  rw [eval_SetComp]
  refine scG_core hnew hadd calm ndN I hi bk rg rt re fold h fun D C s' m H' J' q hn f => ⟨m, hn, fun h2 sb => ?_⟩
  obtain ⟨a1, a2, a3, a4, a5, a6⟩ := f
  exact ⟨.ref D, H', J'.turned (t' := s'.toks) (fun b o hb e => (sb.2 b hb).trans e) a1 a2 a4 a5 a6, rfl, q⟩
end
end SL
namespace SL
open PySem PySem.Spec PyProof.Rows L2 PpSet
/-! ### sets of ints -/
section
variable {X : Cx}
theorem new_ints (P : Program) (w : World) (H : Hp) (h : Heap) : ObjOk P w H (h.push (freshSet w)) h.objs.size (SetO w h.objs.size (fun _ => false) 0) := setO_new (setR_fresh w)
theorem add_ints (Y : Cx) (_ : Y.prog = X.prog) (e : Y.w = X.w) (_ : Y.K = X.K) (_ : Y.A = X.A) : MtR Y "set.add" (rSAdd X.w) := by
  rw [← e]
  exact mt_sadd
/-! ### sets of ints and texts -/
theorem new_keys (P : Program) (w : World) (H : Hp) (h : Heap) : ObjOk P w H (h.push (freshSet w)) h.objs.size (SetK P w h.objs.size (fun _ => false) 0) :=
  setK_new ⟨_, #[], 0, _, Heap.get?_push_size _ rfl, ⟨rfl, rfl, rfl⟩, rfl, fun e z => by simp at z, fun k => by simp, by decide, rfl, rfl⟩
theorem add_keys (Y : Cx) (e1 : Y.prog = X.prog) (e : Y.w = X.w) (_ : Y.K = X.K) (_ : Y.A = X.A) : MtR Y "set.add" (rSAddK X.prog X.w) := by
  rw [← e, ← e1]
  exact mt_saddK
/-! ### sets of tuples of ints -/
theorem new_tups (P : Program) (w : World) (H : Hp) (h : Heap) : ObjOk P w H (h.push (freshSet w)) h.objs.size (SetTO P w h.objs.size []) := setTO_new (setTR_fresh (Heap.get?_push_size _ rfl)).t0
def rSAddT (K : PySem.W.Frag) (P : Program) (w : World) : V → List V → Hp → VK → Prop := fun x xs H Q => ∃ (a p : Addr) (k : List Int) (L : List (Addr × List Int)), x = V.ref a ∧ xs = [V.ref p] ∧ H a = some (SetTO P w a L) ∧
  SqT K H p (k.map V.int) ∧ (∀ q ∈ L, SqT K H q.1 (q.2.map V.int)) ∧ L.length + 1 < 64 ∧ ∀ L', (k ∈ L.map (·.2) → L' = L) → (k ∉ L.map (·.2) → L'.Perm ((p, k) :: L)) → Q .non (upd H a (SetTO P w a L'))
theorem mt_saddT (hu0 : X.A.units + 64 < cLine) : MtR X "set.add" (rSAddT X.K X.prog X.w) := by
  have hu : X.A.in1.units < cLine := by
    rw [Around.in1_units]
    omega
  intro pins s σ H x xs v us Q I rx rxs h
  obtain ⟨a, p, k, L, rfl, rfl, ha, hp, hL, few, q⟩ := h
  cases rx
  cases rxs with
  | cons r1 r2 =>
    cases r2
    cases r1
    have R0 : SetT0 X.prog X.w s.heap a L := (I.hok a _ ha).1
    obtain ⟨es, ep, t, R⟩ := R0.full fun q hq => I.isT (hL q hq)
    obtain ⟨o, ho, hex, hd⟩ := R.ob
    have ip := I.isT hp
    have ty : s.TypeIs (.ref a) "set" := ⟨o, ho, hex.1⟩
    refine wpAny_call_entry F.slot_set_add ty F.entry_set_add ?_ (F.args_set_add_2 _ _)
    unfold Builtin.«set.add» Builtin.Frozenset.oneOther
    simp only [List.isEmpty_nil, bind_assoc]
    unfold Builtin.Frozenset.addrOf setAdd
    refine wpAny_bind (wpAny_pure ?_)
    try dsimp only
    refine wpAny_bind (wpAny_pure ?_)
    try dsimp only
    refine wpAny_bind ?_
    refine wpAny_holding ?_
    refine wpAny_bind (wpAny_pyHash_tuple hu ip ?_)
    refine add_at (A := X.A.in1) (s := { s with toks := s.toks + (k.length + 1) }) R ip hu few fun b h' L' es' ep' t' sb R' c1 c2 => ?_
    show wpAny _ _ (ret Value.none) _ _ _
    refine wpAny_pure ⟨_, rfl, .non, upd H a (SetTO X.prog X.w a L'), I.write (e := a) (t' := s.toks + (k.length + 1)) (by rw [ha]; trivial) (.inl rfl) (fun b u hb hu => (sb.2 b hb).trans hu) ?_ (setTO_new R'.t0), rfl, q L' c1 c2⟩
    obtain ⟨o2, ho2, _⟩ := R'.ob
    exact ⟨o2, ho2⟩
theorem add_tups (hu : X.A.units + 64 < cLine) (Y : Cx) (e1 : Y.prog = X.prog) (e : Y.w = X.w) (e2 : Y.K = X.K) (e3 : Y.A = X.A) : MtR Y "set.add" (rSAddT X.K X.prog X.w) := by
  rw [← e, ← e1, ← e2]
  exact mt_saddT (by rw [e3]; exact hu)
/-- len of such a set -/
def rLenT (P : Program) (w : World) (K : PySem.W.Frag) : List V → Hp → VK → Prop := fun xs H Q => ∃ (a : Addr) (L : List (Addr × List Int)), xs = [.ref a] ∧ H a = some (SetTO P w a L) ∧ (∀ q ∈ L, SqT K H q.1 (q.2.map V.int)) ∧ ((L.map (·.2)).Nodup → Q (.int (L.length : Nat)) H)
theorem cr_lenT : CallR X (.builtin "len") (rLenT X.prog X.w X.K) := by
  intro pins s σ H xs us Q I r h
  obtain ⟨a, L, rfl, ha, hL, q⟩ := h
  rw [Vals.ref1 r]
  have R0 : SetT0 X.prog X.w s.heap a L := (I.hok a _ ha).1
  obtain ⟨es, ep, t, R⟩ := R0.full fun q hq => I.isT (hL q hq)
  obtain ⟨o, ho, hex, hd⟩ := R.ob
  have sz := R.size
  have few := R.few
  refine call_len_set ho hex hd R.fits (by rw [sz]; omega) ⟨.int (L.length : Nat), H, I.tok _, ⟨_, by rw [sz]⟩, q R.nd⟩
end
end SL
/-! The value layer: set comprehensions, sorted and len of them, len(set(..)). -/
namespace SV
open PySem PySem.Spec PyProof.Rows L2 SL
/-- what a set object tells of what was added -/
structure SetFam (pp : Addr) (r : V → List V → Hp → VK → Prop) (S0 : Addr → HO) {κ : Type} (conv : U → κ → Prop) where
  At : Addr → Hp → List κ → HO → Prop
  zero : ∀ D G, At D G [] (S0 D)
  mono : ∀ {D G G' acc o}, Same G G' → At D G acc o → At D G' acc o
  ntp : ∀ {D G acc o}, At D G acc o → isTp o = false
  step : ∀ {D : Addr} {G H : Hp} {acc : List κ} {o : HO} {v : V} {u : U} {k : κ} {Q : VK}, Vw G H → H D = some o → At D G acc o → Rp pp G v u → conv u k → acc.length < 60 → (∀ o', At D G (acc ++ [k]) o' → Q .non (upd H D o')) → r (.ref D) [v] H Q
def wSc {κ : Type} (conv : U → κ → Prop) (wi : WA) (wg : WG) (wt : WT) (we : WE) (vs : List Nat) : List Cell → (List κ → Prop) → Prop := fun ρ post => wi ρ fun us => us.length ≤ 60 ∧ ∃ Iv : Nat → List κ → Prop, Iv 0 [] ∧
  (∀ (i : Nat) u acc, us[i]? = some u → Iv i acc → wg u (wipeR ρ vs) fun ρ2 => wt ρ2 fun c => if c = true then we ρ2 fun y => ∃ k, conv y k ∧ Iv (i + 1) (acc ++ [k]) else Iv (i + 1) acc) ∧ ∀ acc, Iv us.length acc → post acc
section
variable {Z : Zc} {κ : Type} {conv : U → κ → Prop} {r : V → List V → Hp → VK → Prop} {S0 : Addr → HO}
theorem sc_at (hT : Z.b.T = []) (F : SetFam Z.pp r S0 conv) {ti : TI} {g : TG} {tt : TT} {te : TE} {wi : WA} {wg : WG} {wt : WT} {we : WE} {vs : List Nat} (hg : TrG Z g wg vs) (ht : TrT Z tt wt) (he : TrE Z te we) (h0 : ∀ v ∈ vs, Z.may v) {σ : L2.St} {ρ : List Cell} {G H : Hp} {post : List κ → Prop} {Q : VK} (S : Sv Z σ ρ G H) (hi : TrIat Z σ ρ G H ti wi) (hw : wSc conv wi wg wt we vs ρ post)
    (q : ∀ D o acc G' H', post acc → acc.length ≤ 60 → Z.gr G H G' H' → H D = none → G' D = none → H' D = some o → F.At D G' acc o → Q (.ref D) H') : tScG S0 r ti g tt te vs σ H Q :=
  hi _ _ hw fun J n Gd Y us G1 H1 p g1 hl hz wk hG hY D nD => by
    obtain ⟨l60, Iv, i0, is, ie⟩ := p
    have S1 := S.step g1
    have gN := Gr.newH (o := S0 D) S1.vw S1.pl nD
    let Pv : Nat → Hp → Prop := fun i H' => ∃ G' acc o, Z.gr G1 H1 G' H' ∧ H' D = some o ∧ G' D = none ∧ F.At D G' acc o ∧ acc.length ≤ i ∧ Iv i acc
    refine ⟨fun i m H' => m = n - i ∧ i ≤ n ∧ Pv i H', ⟨n, by simp, Nat.zero_le _, G1, [], S0 D, gN, upd_same, S1.vw.free nD, F.zero D G1, Nat.zero_le _, i0⟩, ?_⟩
    rintro i m H' ⟨rfl, hin, G', acc, o, g', eD, gD, aD, lA, iv⟩
    by_cases hlt : i < n
    · refine .inr ⟨wk.goes i H' hlt (hG G' H' g'.ex g'.vw), Pv (i + 1), fun H2 p' => ⟨n - (i + 1), by omega, rfl, hlt, p'⟩, fun x H'' y => ?_⟩
      have S' := S1.step g'
      obtain ⟨u, G'', eu, g2, rx⟩ := hY i x G' H' H'' hlt g'.ex S'.vw S'.pl (wk.yields i H' x H'' hlt (hG G' H' g'.ex g'.vw) y)
      have Sw := (S'.step g2).wipe vs h0
      have nDp : Off Z.b Z.pp D := off_none S1.pl nD
      refine hg x u _ _ G'' H'' _ _ Sw rx (is i u acc eu iv) fun σ2 ρ2 S3 ew p2 => ⟨ew.trans ?_, ?_⟩
      · refine List.ext_getElem? fun j => ?_
        rw [wipe_at, wipe_at, wipe_length]
        by_cases m : j ∈ vs
        · rw [if_pos m, if_pos m]
        · rw [if_neg m, if_neg m]
      refine ht σ2 ρ2 G'' H'' _ _ S3 p2 fun c G3 H3 p3 g3 => ?_
      obtain ⟨gD2, eD2⟩ := g2.fr D _ nDp eD gD (F.ntp aD)
      obtain ⟨gD3, eD3⟩ := g3.fr D _ nDp eD2 gD2 (F.ntp aD)
      cases c with
      | false => exact iteF ⟨G3, acc, o, (g'.trans g2).trans g3, eD3, gD3, F.mono (g2.gg.trans g3.gg) aD, Nat.le_succ_of_le lA, p3⟩
      | true =>
        refine iteT (he σ2 ρ2 G3 H3 _ _ (S3.step g3) p3 fun v yv G4 H4 p4 g4 r4 => ?_)
        obtain ⟨gD4, eD4⟩ := g4.fr D _ nDp eD3 gD3 (F.ntp aD)
        obtain ⟨k, ck, ik⟩ := p4
        have gt := ((g'.trans g2).trans g3).trans g4
        refine F.step gt.vw eD4 (F.mono ((g2.gg.trans g3.gg).trans g4.gg) aD) r4 ck (by omega) fun o' a' => ?_
        exact ⟨G4, acc ++ [k], o', gr_own gt S1.vw S1.pl nD gD4 o' (.inl hT), upd_same, gD4, a', by rw [List.length_append]; exact Nat.succ_le_succ lA, ik⟩
    · have e : i = n := by omega
      subst e
      refine .inl ⟨wk.stops H' (hG G' H' g'.ex g'.vw), ?_⟩
      rw [← hl] at iv
      exact q D o acc G' H' (ie acc iv) (by omega) (g1.trans g') (free_back S g1 nD) gD eD aD
end
/-! ### sets of ints, sorted -/
def convI : U → Int → Prop := fun u k => u = .int k
def famI (pp : Addr) (w : World) : SetFam pp (rSAdd w) (fun a => SetO w a (fun _ => false) 0) convI where
  At D _ acc o := ∃ S n, o = SetO w D S n ∧ (∀ k, S k = true ↔ k ∈ acc) ∧ n ≤ acc.length
  zero D G := ⟨_, _, rfl, fun k => by simp, Nat.le_refl _⟩
  mono _ h := h
  ntp h := by
    obtain ⟨S, n, rfl, _⟩ := h
    rfl
  step := fun {D G H acc o v u k Q} w hD hA hv hc hl hq => by
    obtain ⟨S, n, rfl, hS, hn⟩ := hA
    cases hc
    cases hv
    refine ⟨D, k, S, n, rfl, rfl, hD, by unfold scanBound; omega, hq _ ⟨_, _, rfl, fun j => ?_, ?_⟩⟩
    · rw [Bool.or_eq_true, decide_eq_true_eq, hS j, List.mem_append, List.mem_singleton]
    · rw [List.length_append, List.length_singleton]
      split <;> omega
def wSortSc (wi : WA) (wg : WG) (wt : WT) (we : WE) (vs : List Nat) : WE := fun ρ post => wSc convI wi wg wt we vs ρ fun acc => ∀ ns : List Int, ns.Pairwise (· < ·) → (∀ k, k ∈ ns ↔ k ∈ acc) → post (.lst (ns.map U.int))
section
variable {Z : Zc}
theorem v_sortSc {w : World} {ti : TI} {g : TG} {tt : TT} {te : TE} {wi : WA} {wg : WG} {wt : WT} {we : WE} {vs : List Nat} (hi : TrI Z ti wi) (hg : TrG Z g wg vs) (ht : TrT Z tt wt) (he : TrE Z te we) (h0 : ∀ v ∈ vs, Z.may v := by exact Zc.mayL_of (by assumption) (by decide)) (hT : Z.b.T = [] := by exact noT (by assumption)) :
    TrF Z (tCB (rSortedSet w) (tCons (tScG (fun a => SetO w a (fun _ => false) 0) (rSAdd w) ti g tt te vs) tNil)) (wSortSc wi wg wt we vs) := fun σ ρ G H post Q S hw q => by
  refine sc_at hT (Q := fun v H1 => rSortedSet w [v] H1 Q) (famI Z.pp w) hg ht he h0 S (hi σ ρ G H S) hw fun D o acc G' H' p l60 g nD gD eD ⟨Sf, n, eo, hS, hn⟩ => ?_
  subst eo
  refine ⟨D, Sf, n, rfl, eD, by omega, fun ns a up mem ln na => ?_⟩
  have S' := S.step g
  have gN := Gr.newH (o := .lst (ns.map V.int)) S'.vw S'.pl na
  exact q a _ _ G' _ (p ns up fun k => (mem k).trans (hS k)) (g.trans gN) (free_back S g na) (S'.vw.free na) upd_same (.lst (RpL.toInts ns) (by rw [List.length_map]; omega))
end
/-! ### sets of tuples of ints -/
def convT : U → List Int → Prop := fun u k => u = rowV k
def famT (pp : Addr) (K : PySem.W.Frag) (P : Program) (w : World) : SetFam pp (rSAddT K P w) (fun a => SetTO P w a []) convT where
  At D G acc o := ∃ L, o = SetTO P w D L ∧ (∀ q ∈ L, G q.1 = some (.tup (q.2.map V.int))) ∧ (∀ k, k ∈ L.map (·.2) ↔ k ∈ acc) ∧ L.length ≤ acc.length
  zero D G := ⟨[], rfl, fun q z => (by cases z), fun k => by simp, Nat.le_refl _⟩
  mono s h := by
    obtain ⟨L, e, a, b, c⟩ := h
    exact ⟨L, e, fun q hq => s _ _ (a q hq), b, c⟩
  ntp h := by
    obtain ⟨L, rfl, _⟩ := h
    rfl
  step := fun {D G H acc o v u k Q} w hD hA hv hc hl hq => by
    obtain ⟨L, rfl, hL, hm, hn⟩ := hA
    cases hc
    cases hv with
    | tup ha kk z =>
      rename_i a vs
      cases kk.ints
      refine ⟨D, a, k, L, rfl, rfl, hD, SqT.of (w.tup ha), fun q hq => SqT.of (w.tup (hL q hq)), by omega, fun L' c1 c2 => hq _ ⟨L', rfl, ?_⟩⟩
      by_cases c : k ∈ L.map (·.2)
      · rw [c1 c]
        refine ⟨hL, fun j => ?_, by rw [List.length_append]; omega⟩
        rw [List.mem_append, List.mem_singleton, ← hm j]
        exact ⟨.inl, fun z => z.elim id fun e => by rw [e]; exact c⟩
      · have pm := c2 c
        refine ⟨fun q hq => ?_, fun j => ?_, by rw [pm.length_eq, List.length_append, List.length_singleton, List.length_cons]; omega⟩
        · rcases List.mem_cons.mp (pm.mem_iff.mp hq) with rfl | h
          · exact ha
          · exact hL q h
        · rw [(pm.map (·.2)).mem_iff, List.map_cons, List.mem_cons, List.mem_append, List.mem_singleton, hm j]
          exact Or.comm
def wLenSc (wi : WA) (wg : WG) (wt : WT) (we : WE) (vs : List Nat) : WE := fun ρ post => wSc convT wi wg wt we vs ρ fun acc => ∀ L : List (List Int), L.Nodup → (∀ k, k ∈ L ↔ k ∈ acc) → post (.int (L.length : Nat))
def wLenSet (we : WE) : WE := fun ρ post => we ρ fun x => ∃ ks : List (List Int), x = .lst (ks.map rowV) ∧ ks.length < 64 ∧ ∀ L : List (List Int), L.Nodup → (∀ k, k ∈ L ↔ k ∈ ks) → post (.int (L.length : Nat))
section
variable {Z : Zc}
theorem v_lenSc {P : Program} {w : World} {K : PySem.W.Frag} {ti : TI} {g : TG} {tt : TT} {te : TE} {wi : WA} {wg : WG} {wt : WT} {we : WE} {vs : List Nat} (hi : TrI Z ti wi) (hg : TrG Z g wg vs) (ht : TrT Z tt wt) (he : TrE Z te we) (h0 : ∀ v ∈ vs, Z.may v := by exact Zc.mayL_of (by assumption) (by decide)) (hT : Z.b.T = [] := by exact noT (by assumption)) :
    TrE Z (tCB (rLenT P w K) (tCons (tScG (fun a => SetTO P w a []) (rSAddT K P w) ti g tt te vs) tNil)) (wLenSc wi wg wt we vs) := fun σ ρ G H post Q S hw q => by
  refine sc_at hT (Q := fun v H1 => rLenT P w K [v] H1 Q) (famT Z.pp K P w) hg ht he h0 S (hi σ ρ G H S) hw fun D o acc G' H' p l60 g nD gD eD ⟨L, eo, hL, hm, hn⟩ => ?_
  subst eo
  refine ⟨D, L, rfl, eD, fun x hx => SqT.of (g.vw.tup (hL x hx)), fun nd => ?_⟩
  have := p (L.map (·.2)) nd hm
  rw [List.length_map] at this
  exact q _ _ G' H' this g (.int _)
theorem rows_at {pp : Addr} {G : Hp} : ∀ {vs : List V} {ks : List (List Int)}, RpL pp G vs (ks.map rowV) → ∃ ps : List (Addr × List Int), vs = (ps.map fun p => V.ref p.1) ∧ ps.map (·.2) = ks ∧ ∀ p ∈ ps, G p.1 = some (.tup (p.2.map V.int))
  | _, [], .nil => ⟨[], rfl, rfl, fun _ z => nomatch z⟩
  | _, k :: ks, .cons (v := v) h t => by
    obtain ⟨ps, rfl, e2, hp⟩ := rows_at t
    cases h with
    | tup ha kk z =>
      rename_i a ws
      cases kk.ints
      exact ⟨(a, k) :: ps, rfl, by rw [List.map_cons, e2], fun p hq => by rcases List.mem_cons.mp hq with rfl | h; exact ha; exact hp p h⟩
theorem v_lenSet {P : Program} {w : World} {K : PySem.W.Frag} {te : TE} {we : WE} (he : TrB Z te we) :
    TrE Z (tCB (rLenT P w K) (tCons (tCB (rSetOfT K P w) (tCons te tNil)) tNil)) (wLenSet we) := fun σ ρ G H post Q S hw q =>
  he σ ρ G H _ _ S hw fun v x G1 H1 p g b => by
    obtain ⟨ks, rfl, few, p⟩ := p
    cases b with
    | lst h k z =>
      rename_i a vs
      obtain ⟨ps, rfl, e2, hp⟩ := rows_at k
      have l2 : ps.length = ks.length := by rw [← e2, List.length_map]
      refine ⟨a, ps, rfl, SqL.of h, fun y hy => SqT.of (g.vw.tup (hp y hy)), by omega, fun D L nD hL1 hL2 => ?_⟩
      have S1 := S.step g
      have gN := Gr.newH (o := SetTO P w D L) S1.vw S1.pl nD
      refine ⟨D, L, rfl, upd_same, fun y hy => SqT.of (gN.vw.tup (hp y (hL1 y hy))), fun nd => ?_⟩
      have := p (L.map (·.2)) nd fun k' => by
        rw [← e2]
        refine ⟨fun hk => ?_, fun hk => ?_⟩
        · obtain ⟨y, hy, rfl⟩ := List.mem_map.mp hk
          exact List.mem_map.mpr ⟨y, hL1 y hy, rfl⟩
        · obtain ⟨y, hy, rfl⟩ := List.mem_map.mp hk
          exact hL2 y hy
      rw [List.length_map] at this
      exact q _ _ G1 _ this (g.trans gN) (.int _)
end
section
variable {X : Cx}
theorem cr_lenTK (K : PySem.W.Frag) (h : X.K = K := by rfl) : CallR X (.builtin "len") (rLenT X.prog X.w K) := by subst h; exact cr_lenT
theorem cr_setOfTK (K : PySem.W.Frag) (hu : X.A.units + 64 < cLine) (hc : X.calm = true := by rfl) (h : X.K = K := by rfl) : CallR X (.type "set") (rSetOfT K X.prog X.w) := by subst h; exact cr_setOfT hc hu
theorem pe_scI {elt tg iter : Expr} {ifs : List Expr} {scope : Scope} {own : List (PySem.Str × Nat)} {pos : Pos} {wi : TI} {g : TG} {tt : TT} {te : TE} (calm : X.calm = true) (ndN : X.N.Nodup) (hi : PI X tg iter wi) (bk : BlkOk X.N X.env.scope scope own)
    (rg : ∀ (s : Shared) (H : Hp) (C : Addr) (cl : List (PySem.Str × Addr)) (fp : List Addr), PG (X.blk s H scope (compEnvC scope cl C X.env) fp) tg g)
    (rt : ∀ (s : Shared) (H : Hp) (C : Addr) (cl : List (PySem.Str × Addr)) (fp : List Addr), PTs (X.blk s H scope (compEnvC scope cl C X.env) fp) ifs tt)
    (re : ∀ (s : Shared) (H : Hp) (C : Addr) (cl : List (PySem.Str × Addr)) (fp : List Addr), PE (X.blk s H scope (compEnvC scope cl C X.env) fp) elt te)
    (fold : ∀ x, foldedSetIterable iter X.env x = pure x := by intro _; rfl) : PE X (.SetComp elt [⟨tg, iter, ifs, 0⟩] scope pos) (tScG (fun a => SetO X.w a (fun _ => false) 0) (rSAdd X.w) wi g tt te (own.map (·.2))) :=
  pe_scG (fun H h => new_ints X.prog X.w H h) (fun Y e1 e2 e3 e4 => add_ints Y e1 e2 e3 e4) calm ndN hi bk rg rt re fold
theorem pe_scT (K : PySem.W.Frag) (hu : X.A.units + 64 < cLine) {elt tg iter : Expr} {ifs : List Expr} {scope : Scope} {own : List (PySem.Str × Nat)} {pos : Pos} {wi : TI} {g : TG} {tt : TT} {te : TE} (calm : X.calm = true) (ndN : X.N.Nodup) (hi : PI X tg iter wi) (bk : BlkOk X.N X.env.scope scope own)
    (rg : ∀ (s : Shared) (H : Hp) (C : Addr) (cl : List (PySem.Str × Addr)) (fp : List Addr), PG (X.blk s H scope (compEnvC scope cl C X.env) fp) tg g)
    (rt : ∀ (s : Shared) (H : Hp) (C : Addr) (cl : List (PySem.Str × Addr)) (fp : List Addr), PTs (X.blk s H scope (compEnvC scope cl C X.env) fp) ifs tt)
    (re : ∀ (s : Shared) (H : Hp) (C : Addr) (cl : List (PySem.Str × Addr)) (fp : List Addr), PE (X.blk s H scope (compEnvC scope cl C X.env) fp) elt te)
    (fold : ∀ x, foldedSetIterable iter X.env x = pure x := by intro _; rfl) (hK : X.K = K := by rfl) : PE X (.SetComp elt [⟨tg, iter, ifs, 0⟩] scope pos) (tScG (fun a => SetTO X.prog X.w a []) (rSAddT K X.prog X.w) wi g tt te (own.map (·.2))) := by
  subst hK
  exact pe_scG (fun H h => new_tups X.prog X.w H h) (fun Y e1 e2 e3 e4 => add_tups hu Y e1 e2 e3 e4) calm ndN hi bk rg rt re fold
end
end SV
/-! A lambda with parameters: made, handed to a def with what it captured, run there. -/
namespace SL
open PySem PySem.Spec PyProof.Rows L2 LamX NdefX
/-- a lambda's words -/
structure LamD where
  qual : Str
  prm : Arguments
  body : Expr
  scope : Scope
def LamD.of (q : Str) (e : Expr) : LamD := match e with
  | .Lambda p b sc _ => ⟨q, p, b, sc⟩
  | e => ⟨q, { posonlyargs := [], args := [], vararg := none, kwonlyargs := [], kw_defaults := [], kwarg := none, defaults := [] }, e, { kind := .function, names := [], isGenerator := false, isCoroutine := false }⟩
/-- places in the text -/
def sExpr : Stmt → Expr
  | .Return (some e) _ => e
  | .Assign _ e _ => e
  | .Expr e _ => e
  | _ => .Constant .none 0 ⟨0, 0, 0, 0⟩
def eArg (i : Nat) (e : Expr) : Expr := match e with
  | .Call _ as _ _ => as.getD i e
  | e => e
abbrev LamD.nf (D : LamD) (cl : List (Str × Addr)) (c : Addr) : NF := ⟨"<lambda>", D.qual, D.prm, [], D.scope, cl, c⟩
/-- what stands at f is the lambda D; cl: the cells that it captured; c: its code object -/
def LamO (f : Addr) (D : LamD) (cl : List (Str × Addr)) (c : Addr) : HO := .ext fun h => ∃ pm ctv, h.get? f = some (PySem.W.kla_obj "<lambda>" D.qual D.prm D.body D.scope cl pm c ctv)
theorem lamO_ext (f : Addr) (D : LamD) (cl : List (Str × Addr)) (c : Addr) : ∃ φ, LamO f D cl c = .ext φ := ⟨_, rfl⟩
section
variable {X : Cx} {pins : List (Addr × Obj)} {σ : L2.St} {H : Hp} {s : Shared}
/-- the new object is known from now on -/
theorem lam_lay {D : LamD} {cl : List (Str × Addr)} {c : Addr} {pm ctv : Value} {t' : Nat} (I : Inv X pins σ H s) :
    Inv X pins σ (upd H s.heap.objs.size (LamO s.heap.objs.size D cl c)) { s with heap := s.heap.push (PySem.W.kla_obj "<lambda>" D.qual D.prm D.body D.scope cl pm c ctv), toks := t' } := by
  have there : (s.heap.push (PySem.W.kla_obj "<lambda>" D.qual D.prm D.body D.scope cl pm c ctv)).get? s.heap.objs.size = some (PySem.W.kla_obj "<lambda>" D.qual D.prm D.body D.scope cl pm c ctv) := Heap.get?_push_size _ rfl
  exact I.laid (a := s.heap.objs.size) (fun _ _ q => Heap.get?_push_of_some _ q) (Nat.le_refl _) ⟨⟨pm, ctv, there⟩, ⟨_, there⟩, fun _ _ ⟨pm, ctv, z⟩ st => ⟨pm, ctv, st _ z⟩⟩
/-- a table that tells one more -/
theorem tabs_more {T : List (Addr × Str)} {P c : Addr} {q : Str} {ps : Array Value} {pos : Pos} (hT : Tabs T H) (hP : H P = some (.tbl ps)) (nc : H c = none) (ht : TriplesOk ps.toList) (hu : ∀ p ∈ T, p.1 = P → p.2 = q) :
    Tabs T (upd (upd H P (.tbl (ps ++ #[rawInt pos.line, rawInt pos.col, .ref c]))) c (CodeO c q)) := by
  intro p hp
  obtain ⟨ps2, a1, a2, a3⟩ := hT p hp
  have stay : ∀ d w, H d = some (CodeO d w) → upd (upd H P (.tbl (ps ++ #[rawInt pos.line, rawInt pos.col, .ref c]))) c (CodeO c q) d = some (CodeO d w) := fun d w e => by
    have n1 : d ≠ c := ne_of_none e nc
    have n2 : d ≠ P := fun z => by
      rw [z, hP] at e
      exact codeO_ne ps (Option.some.inj e).symm
    rw [upd_ne n1, upd_ne n2]
    exact e
  by_cases eq : p.1 = P
  · rw [eq, hP] at a1
    cases a1
    refine ⟨ps ++ #[rawInt pos.line, rawInt pos.col, .ref c], ?_, ?_, fun pos2 cv k => ?_⟩
    · rw [eq, upd_ne (ne_of_none hP nc), upd_same]
    · rw [Array.toList_append]
      exact PySem.TriplesOk_snoc _ _ _ _ ht
    · rw [Array.toList_append] at k
      rcases among_app _ ht k with k | rfl
      · obtain ⟨d, e1, e2⟩ := a3 pos2 cv k
        exact ⟨d, e1, stay d _ e2⟩
      · refine ⟨c, rfl, ?_⟩
        rw [hu p hp eq, upd_same]
  · refine ⟨ps2, ?_, a2, fun pos2 cv k => ?_⟩
    · rw [upd_ne (ne_of_none a1 nc), upd_ne eq]
      exact a1
    · obtain ⟨d, e1, e2⟩ := a3 pos2 cv k
      exact ⟨d, e1, stay d _ e2⟩
/-- what the making of D asks; P: the table of the def that makes it -/
structure Maker (X : Cx) (T : List (Addr × Str)) (P : Addr) (D : LamD) : Prop where
  tab : ∃ c, TabB X.base X.mg c P ∧ X.env.code = .ref c
  qual : D.qual = X.env.qual ++ "<lambda>"
  mem : (P, D.qual) ∈ T
  one : ∀ p ∈ T, p.1 = P → p.2 = D.qual
/-- .. told of the def that makes it -/
structure MakerAt (base : Heap) (mg : Str → Option Value) (T : List (Addr × Str)) (c P : Addr) (q : Str) : Prop where
  tb : TabB base mg c P
  mem : (P, q) ∈ T
  one : ∀ p ∈ T, p.1 = P → p.2 = q
theorem mk_of {X : Cx} {T : List (Addr × Str)} {P c : Addr} {D : LamD} {q : Str} (m : MakerAt X.base X.mg T c P q) (hc : X.env.code = .ref c) (hq : D.qual = q) (hx : q = X.env.qual ++ "<lambda>") : Maker X T P D := ⟨⟨c, m.tb, hc⟩, hq.trans hx, by rw [hq]; exact m.mem, by rw [hq]; exact m.one⟩
/-- the reading of an argument that is a lambda, the last one -/
def tLamA (T : List (Addr × Str)) (P : Addr) (D : LamD) (cl : List (Str × Addr)) : TA := fun _ H Q => Tabs T H ∧ ∀ f c H1, (∀ b o, H b = some o → b ≠ P → H1 b = some o) → Tabs T H1 → H f = none → H1 f = some (LamO f D cl c) → H1 c = some (CodeO c D.qual) → Q [.ref f] H1
theorem lam_new {T : List (Addr × Str)} {P : Addr} {D : LamD} {pos : Pos} {E : Value → Shared → Prop} {Q : Value → Shared → Prop} (m : Maker X T P D) (I : Inv X pins σ H s) (hT : Tabs T H) (hdef : defaultsOf D.prm X.env = ([], [])) (hfree : ∀ y ∈ D.scope.names, y.2 = .free → ∃ c, X.env.cells.lookup y.1 = some c)
    (h : ∀ f c H1 s', Inv X pins σ H1 s' → (∀ b o, H b = some o → b ≠ P → H1 b = some o) → Tabs T H1 → H f = none → H1 f = some (LamO f D (cloFrom X.env.cells D.scope.names []) c) → H1 c = some (CodeO c D.qual) → Q (.ref f) s') :
    wpAny (model X.prog X.w) X.A (eval (.Lambda D.prm D.body D.scope pos) X.env) Q E s := by
  obtain ⟨c0, TB, hcode⟩ := m.tab
  have hq := m.qual
  obtain ⟨ps, hP, ht, ha⟩ := hT _ m.mem
  have hP : H P = some (.tbl ps) := hP
  have inHeap : s.heap.get? P = some { cls := .none, data := .fields ps } := I.hok P _ hP
  refine PySem.W.kla_eval hdef ?_
  rw [← hq]
  cases hc : codeAmong pos ps.toList with
  | some cv =>
    obtain ⟨c, rfl, hco⟩ := ha pos cv hc
    refine PySem.W.kla_makeFunctionHit (mg := X.mg) (c := c0) (P := P) (ps := ps) (closure_ok hfree) I.ok.glob (I.mod.glob.keeps I.bk) hcode (TB.code.keeps I.bk) inHeap ht hc (TB.bm.keeps I.bk) fun ctv h' tk k _ => ?_
    have J : Inv X pins σ H { s with heap := h', toks := tk } := I.kept k
    have nf := J.hok.fresh (Nat.le_refl _)
    have up : ∀ b o, H b = some o → upd H h'.objs.size (LamO h'.objs.size D (cloFrom X.env.cells D.scope.names []) c) b = some o := fun b o e => by
      rw [upd_ne (ne_of_none e nf)]
      exact e
    exact h h'.objs.size c _ _ (lam_lay (t' := tk) J) (fun b o e _ => up b o e) (hT.ext up) nf upd_same (up _ _ hco)
  | none =>
    refine PySem.W.kla_makeFunction (mg := X.mg) (c := c0) (P := P) (ps := ps) (closure_ok hfree) I.ok.glob (I.mod.glob.keeps I.bk) hcode (TB.code.keeps I.bk) inHeap ht hc TB.gP (TB.bm.keeps I.bk) fun c ctv h' tk k hge hlt rec htb => ?_
    obtain ⟨c2, oc, vs, t, e2, hoc, hd, hv⟩ := rec
    cases e2
    have nc : H c = none := I.hok.fresh hge
    have J : Inv X pins σ (upd (upd H P (.tbl (ps ++ #[rawInt pos.line, rawInt pos.col, .ref c]))) c (CodeO c D.qual)) { s with heap := h', toks := tk } := inv_table I hP k htb hge ⟨oc, vs, t, hoc, hd, hv⟩
    have T1 := tabs_more (pos := pos) hT hP nc ht m.one
    have nf := J.hok.fresh (Nat.le_refl _)
    have up : ∀ b o, upd (upd H P (.tbl (ps ++ #[rawInt pos.line, rawInt pos.col, .ref c]))) c (CodeO c D.qual) b = some o → upd (upd (upd H P (.tbl (ps ++ #[rawInt pos.line, rawInt pos.col, .ref c]))) c (CodeO c D.qual)) h'.objs.size (LamO h'.objs.size D (cloFrom X.env.cells D.scope.names []) c) b = some o := fun b o e => by
      rw [upd_ne (ne_of_none e nf)]
      exact e
    exact h h'.objs.size c _ _ (lam_lay (t' := tk) J) (fun b o e n => up b o (by rw [upd_ne (ne_of_none e nc), upd_ne n]; exact e)) (T1.ext up) (I.hok.fresh (Nat.le_trans hge (Nat.le_of_lt hlt))) upd_same (up _ _ upd_same)
theorem pa_lam {T : List (Addr × Str)} {P : Addr} {D : LamD} {ps : Arguments} {body : Expr} {scope : Scope} {pos : Pos} (m : Maker X T P D) (hD : D.prm = ps ∧ D.body = body ∧ D.scope = scope) (hdef : defaultsOf ps X.env = ([], []))
    (hfree : ∀ y ∈ scope.names, y.2 = .free → X.env.scope.names.lookup y.1 = some .cell ∨ X.env.scope.names.lookup y.1 = some .free) : PA X [.Lambda ps body scope pos] (tLamA T P D (cloFrom X.env.cells scope.names [])) := by
  obtain ⟨rfl, rfl, rfl⟩ := hD
  refine ⟨fun pos pins s σ H Q I h => ?_⟩
  obtain ⟨hT, k⟩ := h
  have hfr : ∀ y ∈ D.scope.names, y.2 = .free → ∃ c, X.env.cells.lookup y.1 = some c := fun y hy e => (hfree y hy e).elim (fun z => I.ok.has _ (.inl z)) fun z => I.ok.has _ (.inr z)
  refine Calls.spliced_cons (lam_new m I hT hdef hfr fun f c H1 s1 I1 e1 e2 e3 e4 e5 => ?_)
  exact Calls.spliced_nil ⟨[.ref f], H1, I1, .cons rfl .nil, k f c H1 e1 e2 e3 e4 e5⟩
end
/-! ### the captured cells -/
def inCl (cl : List (Str × Addr)) (b : Addr) : Prop := ∃ y, cl.lookup y = some b
open Classical in
/-- the heap without the cells -/
noncomputable def dropC (cl : List (Str × Addr)) (H : Hp) : Hp := fun b => if inCl cl b then none else H b
open Classical in
/-- the heap with the cells as they are in H0 -/
noncomputable def backC (cl : List (Str × Addr)) (H0 H : Hp) : Hp := fun b => if inCl cl b then H0 b else H b
section
variable {cl : List (Str × Addr)} {H H0 : Hp} {b : Addr} {o : HO}
theorem dropC_in (h : inCl cl b) : dropC cl H b = none := if_pos h
theorem dropC_out (h : ¬ inCl cl b) : dropC cl H b = H b := if_neg h
theorem backC_in (h : inCl cl b) : backC cl H0 H b = H0 b := if_pos h
theorem backC_out (h : ¬ inCl cl b) : backC cl H0 H b = H b := if_neg h
end
/-- H knows the cells of cl; at the names fr they hold the values ws -/
structure CellsT (H : Hp) (cl : List (Str × Addr)) (fr : List Str) (ws : List V) : Prop where
  len : ws.length = fr.length
  all : ∀ y c, cl.lookup y = some c → ∃ o v, H c = some (.frz o (.own c)) ∧ o.data = .cell v
  inj : ∀ x y c, cl.lookup x = some c → cl.lookup y = some c → x = y
  has : ∀ (i : Nat) (y : Str) (v : V), fr[i]? = some y → ws[i]? = some v → ∃ c o u, cl.lookup y = some c ∧ H c = some (.frz o (.own c)) ∧ o.data = .cell (some u) ∧ L2.RelV v u
theorem CellsT.at_ {H : Hp} {cl : List (Str × Addr)} {fr : List Str} {ws : List V} (C : CellsT H cl fr ws) {b : Addr} (h : inCl cl b) : ∃ o v, H b = some (.frz o (.own b)) ∧ o.data = .cell v := let ⟨y, e⟩ := h; C.all y b e
theorem CellsT.not {H : Hp} {cl : List (Str × Addr)} {fr : List Str} {ws : List V} (C : CellsT H cl fr ws) {b : Addr} {o : HO} (e : H b = some o) (n : ∀ ob, o ≠ .frz ob (.own b)) : ¬ inCl cl b := fun z => by
  obtain ⟨ob, v, h, _⟩ := C.at_ z
  rw [h] at e
  cases e
  exact n ob rfl
theorem CellsT.keep {H H' : Hp} {cl : List (Str × Addr)} {fr : List Str} {ws : List V} (C : CellsT H cl fr ws) (k : ∀ c ob, H c = some (.frz ob (.own c)) → inCl cl c → H' c = some (.frz ob (.own c))) : CellsT H' cl fr ws :=
  ⟨C.len, fun y c e => let ⟨o, v, h1, h2⟩ := C.all y c e; ⟨o, v, k c o h1 ⟨y, e⟩, h2⟩, C.inj, fun i y v e1 e2 => let ⟨c, o, u, h1, h2, h3, h4⟩ := C.has i y v e1 e2; ⟨c, o, u, h1, k c o h2 ⟨y, h1⟩, h3, h4⟩⟩
section
variable {P : Program} {w : World} {H : Hp} {h : Heap} {cl : List (Str × Addr)} {fr : List Str} {ws : List V}
theorem hok_drop (C : CellsT H cl fr ws) (k : HOk P w H h) : HOk P w (dropC cl H) h := fun a o e => by
  have na : ¬ inCl cl a := fun z => by rw [dropC_in z] at e; cases e
  rw [dropC_out na] at e
  refine (k a o e).stay (fun _ _ _ q => q) (fun b q => ?_) fun b xs q => ?_
  · rw [dropC_out (C.not q fun _ z => nomatch z)]
    exact q
  · rw [dropC_out (C.not q fun _ z => nomatch z)]
    exact q
theorem cellsAt_of (C : CellsT H cl fr ws) (k : HOk P w H h) : CellsAt cl fr (ws.map some) h (dropC cl H) := by
  have cell : ∀ c o v, H c = some (.frz o (.own c)) → o.data = .cell v → h.IsCell c v := fun c o v e d => by
    obtain ⟨q, _⟩ := k c _ e
    exact ⟨o, q, d⟩
  refine ⟨by rw [List.length_map]; exact C.len, fun y c e => ?_, C.inj, fun i y e => ?_⟩
  · obtain ⟨o, v, h1, h2⟩ := C.all y c e
    exact ⟨dropC_in ⟨y, e⟩, v, cell c o v h1 h2⟩
  · obtain ⟨v, ev⟩ : ∃ v, ws[i]? = some v := by
      have := (List.getElem?_eq_some_iff.mp e).1
      exact ⟨ws[i]'(by rw [C.len]; exact this), List.getElem?_eq_getElem _⟩
    obtain ⟨c, o, u, h1, h2, h3, h4⟩ := C.has i y v e ev
    refine ⟨c, h1, fun v2 e2 => ?_⟩
    rw [List.getElem?_map, ev] at e2
    cases e2
    exact ⟨u, h4, cell c o _ h2 h3⟩
end
/-- the cells are lent: Hc is H with them -/
structure Lent (H Hc : Hp) (cl : List (Str × Addr)) : Prop where
  out : ∀ b, ¬ inCl cl b → Hc b = H b
  new : ∀ b, inCl cl b → H b = none
section
variable {X : Cx} {pins : List (Addr × Obj)} {σ : L2.St} {H : Hp} {s : Shared} {cl : List (Str × Addr)} {fr : List Str} {js : List Nat} {ws : List V}
open Classical in
/-- what a def that gets the lambda may know of the heap -/
theorem lend (I : Inv X pins σ H s) (C : Caps X cl fr js) (hw : js.map (slotAt σ) = ws.map some) : ∃ Hc, Lent H Hc cl ∧ CellsT Hc cl fr ws ∧ HOk X.prog X.w Hc s.heap := by
  have A := cells_of I C
  have obj : ∀ b, inCl cl b → ∃ o v, s.heap.get? b = some o ∧ o.data = .cell v := fun b ⟨y, e⟩ => by
    obtain ⟨_, v, o, h1, h2⟩ := A.all y b e
    exact ⟨o, v, h1, h2⟩
  let Hc : Hp := fun b => if inCl cl b then (s.heap.get? b).map fun o => .frz o (.own b) else H b
  have hin : ∀ b o, inCl cl b → s.heap.get? b = some o → Hc b = some (.frz o (.own b)) := fun b o z e => by
    show (if inCl cl b then (s.heap.get? b).map (fun o => HO.frz o (.own b)) else H b) = _
    rw [if_pos z, e]
    rfl
  have hout : ∀ b, ¬ inCl cl b → Hc b = H b := fun b z => if_neg z
  have new : ∀ b, inCl cl b → H b = none := fun b ⟨y, e⟩ => (A.all y b e).1
  refine ⟨Hc, ⟨hout, new⟩, ⟨?_, fun y c e => ?_, A.inj, fun i y v e1 e2 => ?_⟩, fun a o e => ?_⟩
  · have := A.len
    rw [hw, List.length_map] at this
    exact this
  · obtain ⟨o, v, h1, h2⟩ := obj c ⟨y, e⟩
    exact ⟨o, v, hin c o ⟨y, e⟩ h1, h2⟩
  · obtain ⟨c, h1, h2⟩ := A.has i y e1
    obtain ⟨u, r, o, h3, h4⟩ := h2 v (by rw [hw, List.getElem?_map, e2]; rfl)
    exact ⟨c, o, u, h1, hin c o ⟨y, h1⟩ h3, h4, r⟩
  · by_cases z : inCl cl a
    · obtain ⟨ob, v, h1, _⟩ := obj a z
      rw [hin a ob z h1] at e
      cases e
      exact ⟨h1, _, h1⟩
    · rw [hout a z] at e
      have nin : ∀ b x, H b = some x → ¬ inCl cl b := fun b x q z => by rw [new b z] at q; cases q
      refine (I.hok a o e).stay (fun _ _ _ q => q) (fun b q => ?_) fun b xs q => ?_
      · rw [hout b (nin b _ q)]
        exact q
      · rw [hout b (nin b _ q)]
        exact q
end
section
variable {P : Program} {w : World} {outer : List Env} {H Hc : Hp} {s s' : Shared} {cl : List (Str × Addr)} {fr : List Str} {ws : List V}
theorem drop_un {fs : List Addr} {H2 : Hp} (L : Lent H Hc cl) (C : CellsT Hc cl fr ws) (k : HOk P w Hc s.heap) (k2 : HOk P w H2 s'.heap) (u : Un fs [] Hc H2 s.heap s'.heap) : Un fs [] H (dropC cl H2) s.heap s'.heap := by
  have inH : ∀ b x, H b = some x → ¬ inCl cl b := fun b x q z => by rw [L.new b z] at q; cases q
  have same : ∀ b, inCl cl b → ∀ o, s.heap.get? b = some o → s'.heap.get? b = some o := fun b z o e => by
    obtain ⟨ob, v, h1, _⟩ := C.at_ z
    obtain ⟨q1, _⟩ := k b _ h1
    obtain ⟨q2, _⟩ := k2 b _ (u.frzs b ob _ h1)
    rw [e] at q1
    cases q1
    exact q2
  refine ⟨fun b o e n hb hx => ?_, fun b o e n hb hx => ?_, fun b o e n hx => ?_, u.there, fun b xs e => ?_, fun b o x e => ?_, fun b ps e => ?_⟩
  · by_cases z : inCl cl b
    · exact same b z o e
    · exact u.keep b o e (by rw [L.out b z]; exact n) hb hx
  · by_cases z : inCl cl b
    · exact ⟨o.slots, same b z o e⟩
    · exact u.slot b o e (by rw [L.out b z]; exact n) hb hx
  · by_cases z : inCl cl b
    · exact dropC_in z
    · rw [dropC_out z]
      exact u.free b o e (by rw [L.out b z]; exact n) hx
  · have z := inH b _ e
    rw [dropC_out z]
    exact u.tups b xs (by rw [L.out b z]; exact e)
  · have z := inH b _ e
    rw [dropC_out z]
    exact u.frzs b o x (by rw [L.out b z]; exact e)
  · have z := inH b _ e
    rw [dropC_out z]
    exact u.tbls b ps (by rw [L.out b z]; exact e)
/-- the cells as a call left them: as they were -/
theorem cells_kept {fs : List Addr} {H2 : Hp} {h h' : Heap} (C : CellsT Hc cl fr ws) (u : Un fs [] Hc H2 h h') : CellsT H2 cl fr ws := C.keep fun c ob e _ => u.frzs c ob _ e
end
section
variable {P : Program} {w : World} {outer : List Env} {H Hc : Hp} {s s' : Shared} {cl : List (Str × Addr)} {fr : List Str} {ws : List V}
theorem drop_ub {fs : List Addr} {H2 : Hp} {B h' : Heap} (L : Lent H Hc cl) (C : CellsT Hc cl fr ws) (k : HOk P w Hc s.heap) (k2 : HOk P w H2 B) (u : UB fs Hc H2 s.heap B h') : UB fs H (dropC cl H2) s.heap B h' := by
  have inH : ∀ b x, H b = some x → ¬ inCl cl b := fun b x q z => by rw [L.new b z] at q; cases q
  refine ⟨fun b o e n hb => ?_, u.slot, fun b o e n => ?_, u.there, fun b xs e => ?_, fun b o x e => ?_, fun b ps e => ?_⟩
  · by_cases z : inCl cl b
    · obtain ⟨ob, v, h1, _⟩ := C.at_ z
      obtain ⟨q1, _⟩ := k b _ h1
      obtain ⟨q2, _⟩ := k2 b _ (u.frzs b ob _ h1)
      rw [e] at q1
      cases q1
      exact q2
    · exact u.keep b o e (by rw [L.out b z]; exact n) hb
  · by_cases z : inCl cl b
    · exact dropC_in z
    · rw [dropC_out z]
      exact u.free b o e (by rw [L.out b z]; exact n)
  · have z := inH b _ e
    rw [dropC_out z]
    exact u.tups b xs (by rw [L.out b z]; exact e)
  · have z := inH b _ e
    rw [dropC_out z]
    exact u.frzs b o x (by rw [L.out b z]; exact e)
  · have z := inH b _ e
    rw [dropC_out z]
    exact u.tbls b ps (by rw [L.out b z]; exact e)
/-- how an exception behind a call with lent cells is seen without them -/
def DropX (CX : CXT) (P : Program) (w : World) : Prop := ∀ (outer : List Env) (H Hc : Hp) (s : Shared) (cl : List (Str × Addr)) (fr : List Str) (ws : List V) (E : XK) (e : Value) (s' : Shared), Lent H Hc cl → CellsT Hc cl fr ws → HOk P w Hc s.heap →
  CX outer Hc s (fun C d H2 => CellsT H2 cl fr ws → E C d (dropC cl H2)) e s' → CX outer H s E e s'
theorem dropX0 : DropX CX0 P w := fun _ _ _ _ _ _ _ _ _ _ _ _ _ h => h
theorem dropX : DropX (L2.CX P w) P w := fun outer H Hc s cl fr ws E e s' L C k h => by
  obtain ⟨a, B, H2, cls, d, e1, e2, e3, e4, e5, e6, e7, e8⟩ := h
  have C2 : CellsT H2 cl fr ws := C.keep fun c ob q _ => e4.frzs c ob _ q
  refine ⟨a, B, dropC cl H2, cls, d, e1, e2, hok_drop C2 e3, drop_ub L C k e3 e4, ?_, e6, e7, e8 C2⟩
  by_cases z : inCl cl a
  · exact dropC_in z
  · rw [dropC_out z]
    exact e5
theorem ce_drop {Q : VK} {u : Value} (L : Lent H Hc cl) (C : CellsT Hc cl fr ws) (k : HOk P w Hc s.heap) (h : CE outer P w Hc s (fun v H2 => CellsT H2 cl fr ws → Q v (dropC cl H2)) u s') : CE outer P w H s Q u s' := by
  obtain ⟨v, H2, e1, e2, e3, e4, e5, e6⟩ := h
  have C2 := cells_kept C e3
  exact ⟨v, dropC cl H2, e1, e2, drop_un L C k e4 e3, hok_drop C2 e4, e5, e6 C2⟩
/-- behind a call that ran without the cells -/
theorem ce_back {Q : VK} {u : Value} (C : CellsT H cl fr ws) (k : HOk P w H s.heap) (nf : ∀ b ∈ frs outer, H b = none) (h : CE outer P w (dropC cl H) s (fun v H2 => (∀ b, inCl cl b → H2 b = none) → Q v (backC cl H H2)) u s') : CE outer P w H s Q u s' := by
  obtain ⟨v, H2, e1, e2, un, hok, r, q⟩ := h
  have obj : ∀ b, inCl cl b → ∃ o, H b = some (.frz o (.own b)) ∧ s.heap.get? b = some o ∧ s'.heap.get? b = some o := fun b z => by
    obtain ⟨o, v, h1, _⟩ := C.at_ z
    obtain ⟨h2, _⟩ := k b _ h1
    exact ⟨o, h1, h2, un.keep b o h2 (dropC_in z) (fun y => by rw [nf b y] at h1; cases h1) (by simp)⟩
  have gone : ∀ b, inCl cl b → H2 b = none := fun b z => by
    obtain ⟨o, _, h2, _⟩ := obj b z
    exact un.free b o h2 (dropC_in z) (by simp)
  have away : ∀ b, H b = none → ¬ inCl cl b := fun b e z => by
    obtain ⟨o, h1, _⟩ := obj b z
    rw [e] at h1
    cases h1
  have out2 : ∀ b x, H2 b = some x → backC cl H H2 b = some x := fun b x e => by
    rw [backC_out fun z => by rw [gone b z] at e; cases e]
    exact e
  refine ⟨v, backC cl H H2, e1, e2, ⟨fun b o e n hb hx => ?_, fun b o e n hb hx => ?_, fun b o e n hx => ?_, un.there, fun b xs e => ?_, fun b o x e => ?_, fun b ps e => ?_⟩, fun a o e => ?_, r, q gone⟩
  · exact un.keep b o e (by rw [dropC_out (away b n)]; exact n) hb hx
  · exact un.slot b o e (by rw [dropC_out (away b n)]; exact n) hb hx
  · rw [backC_out (away b n)]
    exact un.free b o e (by rw [dropC_out (away b n)]; exact n) hx
  · exact out2 b _ (un.tups b xs (by rw [dropC_out (C.not e fun _ z => nomatch z)]; exact e))
  · by_cases z : inCl cl b
    · rw [backC_in z]
      exact e
    · exact out2 b _ (un.frzs b o x (by rw [dropC_out z]; exact e))
  · obtain ⟨more, h1⟩ := un.tbls b ps (by rw [dropC_out (C.not e fun _ z => nomatch z)]; exact e)
    exact ⟨more, out2 b _ h1⟩
  · by_cases z : inCl cl a
    · obtain ⟨ob, h1, _, h3⟩ := obj a z
      rw [backC_in z, h1] at e
      cases e
      exact ⟨h3, _, h3⟩
    · rw [backC_out z] at e
      exact (hok a o e).stay (fun _ _ _ q => q) (fun b q => out2 b _ q) fun b xs q => out2 b _ q
end
/-! ### a def that gets a lambda -/
/-- f(.., lambda ..): js: the captured names' slots -/
def tCallL (sp : Sp) (E : XK) (fr : List Str) (js : List Nat) (cl : List (Str × Addr)) (t : TA) : TE := fun σ H Q => t σ H fun vs H1 => ∃ ws : List V, js.map (slotAt σ) = ws.map some ∧
  ∀ Hc, Lent H1 Hc cl → CellsT Hc cl fr ws → sp vs Hc (fun v H2 => CellsT H2 cl fr ws → Q v (dropC cl H2)) fun C d H2 => CellsT H2 cl fr ws → E C d (dropC cl H2)
section
variable {X : Cx} {CX : CXT} {k j : Nat} {x : Str} {ps : List Str} {sp : Sp} {e : Expr} {es : List Expr} {t : TA} {p pos : Pos}
theorem pe_fL {E : XK} {scope : Scope} {fr : List Str} {js : List Nat} (c : FnC X.prog X.w X.K X.mg X.base CX k x ps sp) (hr : Room j X.A) (hk : k ≤ j) (hx : Passes CX X E) (hc : DropX CX X.prog X.w) (hfn : ∀ y, X.fn y = true)
    (hfree : ∀ y ∈ scope.names, y.2 = .free → X.env.scope.names.lookup y.1 = some .cell ∨ X.env.scope.names.lookup y.1 = some .free) (hfr : ∀ y ∈ fr, (y, NameKind.free) ∈ scope.names) (hjs : js.map (fun j => X.N[j]?) = fr.map some)
    (ha : PA X (e :: es) t) (hg : Gl X x := by rfl) (hdb : (x == ("__debug__" : Str)) = false := by decide)
    (he : starEach (e :: es) X.env = (false, eval e X.env) :: starEach es X.env := by rfl) (hpl : (backTo pos (starEach es X.env)).any (·.1) = false := by rfl) : PE X (.Call (.Name x p) (e :: es) [] pos) (tCallL sp E fr js (cloFrom X.env.cells scope.names []) t) := by
  obtain ⟨f, fd, F, hm, hkp, hb⟩ := c.ex
  refine ⟨fun pins s σ H Q I h => ?_⟩
  refine wpAny_Call_Name_kw (ld_glob I hg hm ?_ hdb)
  refine PySem.W.callWith_K (h₀ := X.base) I.ok.mod.kin hkp (thn (ha.run pos pins s σ H _ I h) fun us s1 ⟨vs, H1, I1, r, ws, hw, q⟩ => ⟨I1.kIn, ?_⟩) he hpl
  have cp := Caps.made I1.ok hfree hfr hjs
  obtain ⟨Hc, L, C, hok⟩ := lend I1 cp hw
  have q := q Hc L C
  have e0 := I1.env0
  have late : ∀ b, inCl (cloFrom X.env.cells scope.names []) b → X.s_0.heap.objs.size ≤ b := fun b ⟨y, e⟩ => I1.ok.cab y b (hfn y) (cp.sub y b e)
  have nbase : ∀ b o, X.base.get? b = some o → ¬ inCl (cloFrom X.env.cells scope.names []) b := fun b o e z => absurd (Nat.lt_of_lt_of_le (Nat.lt_of_lt_of_le (Heap.lt_size e) I1.ok.bsz) (late b z)) (Nat.lt_irrefl _)
  have nfr : ∀ b ∈ frs X.stack, ¬ inCl (cloFrom X.env.cells scope.names []) b := fun b hb z => by
    rcases List.mem_cons.mp (I1.stkSub b hb) with rfl | hb
    · obtain ⟨y, e⟩ := z
      exact I1.cne y _ (cp.sub y _ e) rfl
    · obtain ⟨_, o, ho, _⟩ := I1.ok.funs.mem hb
      exact absurd (Nat.lt_of_lt_of_le (Heap.lt_size ho) (late b z)) (Nat.lt_irrefl _)
  have e1 : Env0 X.prog X.w X.K X.mg X.base X.A X.stack s1 Hc := ⟨e0.frames, e0.mod, fun b o e => ⟨(e0.bs b o e).1, by rw [L.out b (nbase b o e)]; exact (e0.bs b o e).2⟩, e0.bsz, e0.funs, fun b hb => by rw [L.out b (nfr b hb)]; exact e0.frf b hb, hok, e0.bare⟩
  have hl : us.length = ps.length := by rw [← r.length]; exact F.len _ _ _ _ q
  have bind := hb s1 us I1.kIn (by rw [List.append_nil]; exact hl)
  rw [List.append_nil] at bind
  refine wpAny_call (codeAny_mono (F.run X.A X.stack s1 Hc ⟨us, []⟩ us vs _ _ (hr.mono hk) e1 bind r q) fun r s' hq => ?_)
  cases r with
  | error e => exact hx pins σ H1 s1 e s' I1 (hc _ _ _ _ _ _ _ _ _ _ L C hok hq)
  | ok fl =>
    cases fl with
    | ret u => exact I1.after (ce_drop L C hok hq)
    | next => exact False.elim hq
    | brk => exact False.elim hq
    | cont => exact False.elim hq
end
/-! ### the lambda runs -/
/-- what the lambda D promises; its parameters' values, then those of what it captured -/
structure LamC (P : Program) (w : World) (K : PySem.W.Frag) (mg : Str → Option Value) (base : Heap) (k : Nat) (D : LamD) (ps fr : List Str) (sp : Sp) : Prop where
  len : ∀ vs H Q E, sp vs H Q E → vs.length = ps.length + fr.length
  run : ∀ (A : Around) (outer : List Env) (s : Shared) (H : Hp) (f c : Addr) (cl : List (Str × Addr)) (pm ctv : Value) (us : List Value) (vs ws : List V) (Q : VK), Room k A → Env0 P w K mg base A outer s H →
    s.heap.get? f = some (PySem.W.kla_obj "<lambda>" D.qual D.prm D.body D.scope cl pm c ctv) → s.heap.CodeRec (.ref c) D.qual → CellsAt cl fr (ws.map some) s.heap H → Vals vs us → vs.length = ps.length → sp (vs ++ ws) H Q E0 →
    codeAny (model P w) A (.call (.ref f) ⟨us, []⟩) (CR CX0 outer P w H s Q E0) s
theorem startF_eq {N : List Str} {vs ws : List V} : startF N vs (ws.map some) = L2.start N (vs ++ ws) := by
  unfold startF L2.start
  rw [List.map_append, List.append_assoc, List.length_map, List.length_append, Nat.sub_sub]
section
variable {P : Program} {w : World} {K : PySem.W.Frag} {mg : Str → Option Value} {base : Heap} {k : Nat} {D : LamD} {N ps fr : List Str} {sp : Sp}
theorem LamC.mono {j : Nat} (o : LamC P w K mg base j D ps fr sp) (h : j ≤ k) : LamC P w K mg base k D ps fr sp := ⟨o.len, fun A outer s H f c cl pm ctv us vs ws Q hr => o.run A outer s H f c cl pm ctv us vs ws Q (hr.mono h)⟩
theorem LamC.imp {sp' : Sp} (o : LamC P w K mg base k D ps fr sp) (h : ∀ vs H Q E, sp' vs H Q E → sp vs H Q E) : LamC P w K mg base k D ps fr sp' :=
  ⟨fun vs H Q E q => o.len vs H Q E (h _ _ _ _ q), fun A outer s H f c cl pm ctv us vs ws Q hr e0 hf hc C r l q => o.run A outer s H f c cl pm ctv us vs ws Q hr e0 hf hc C r l (h _ _ _ _ q)⟩
theorem lamC_of (S : NScope N ps fr D.scope) (co : D.scope.isCoroutine = false) (hb : ∀ (cl : List (Str × Addr)) (c : Addr) (pm ctv : Value) (us : List Value), us.length = ps.length → bindArgs (PySem.W.kla_fn "<lambda>" D.qual D.prm D.body D.scope cl pm (.ref c) ctv) ⟨us, []⟩ = pure (ps.zip us)) (len : ∀ vs H Q E, sp vs H Q E → vs.length = ps.length + fr.length)
    (hbody : ∀ (A : Around) (outer : List Env) (s : Shared) (H : Hp) (f c : Addr) (cl : List (Str × Addr)) (vs : List V) (Q : VK), Room k (A.deeper (envF (D.nf cl c) f s.heap.objs.size)) → sp vs H Q E0 →
      ∃ t, PE (ncx CX0 P w K mg base N (D.nf cl c) f A outer s H E0).nox D.body t ∧ t (L2.start N vs) H Q) : LamC P w K mg base (k + 1) D ps fr sp := by
  refine ⟨len, fun A outer s H f c cl pm ctv us vs ws Q hr e0 hf hc C r hl hsp => ?_⟩
  have lim : s.heap.NoLimit := e0.mod.nolimit.keeps fun b o e => (e0.bs b o e).1
  refine PySem.W.kla_callFunE hr.depth hf rfl S.co S.gen rfl hc ?_
  rw [hb cl c pm ctv us (by rw [← r.length]; exact hl)]
  refine wpAny_pure (wpAny_newFunctionEnv S.nocell (fun ⟨n, _⟩ hy => S.par n (List.of_mem_zip hy).1) (fun h₁ hns hsb => ⟨lim.fresh _ hsb, ?_⟩) S.kind)
  show codeAny _ _ (.expr D.body (envF (D.nf cl c) f s.heap.objs.size)) _ _
  have kp : ∀ b o, s.heap.get? b = some o → h₁.get? b = some o := fun b o e => hsb.extBut b o (Nat.ne_of_lt (Heap.lt_size e)) (Heap.get?_push_of_some _ e)
  obtain ⟨t, ht, hq⟩ := hbody A outer s H f c cl (vs ++ ws) Q (hr.deeper _) hsp
  have I : Inv (ncx CX0 P w K mg base N (D.nf cl c) f A outer s H E0) [] (startF N vs (ws.map some)) H { s with heap := h₁, toks := s.toks + (ps.zip us).length } := inv_startN (F := D.nf cl c) S hr.hd e0 hl r C hns kp
  rw [startF_eq] at I
  refine PySem.W.kla_codeExpr (wpAny_mono (ht.nox.run [] _ _ H _ I hq) (fun v s' hs => ?_) fun e s' hs => hs)
  obtain ⟨v2, H2, J, rv, q⟩ := hs
  exact ⟨v2, H2, J.os, J.bare, J.base, J.hok, rv, q⟩
end
/-- g(..), g a slot that holds the lambda D -/
def tCallH (i n : Nat) (D : LamD) (fr : List Str) (sp : Sp) (t : TA) : TE := fun σ H Q => ∃ f cl c ws, σ[i]? = some (some (.ref f)) ∧ H f = some (LamO f D cl c) ∧
  t σ H fun vs H1 => H1 f = some (LamO f D cl c) ∧ H1 c = some (CodeO c D.qual) ∧ CellsT H1 cl fr ws ∧ vs.length = n ∧ sp (vs ++ ws) (dropC cl H1) (fun v H2 => (∀ b, inCl cl b → H2 b = none) → Q v (backC cl H1 H2)) E0
section
variable {X : Cx} {k j i n : Nat} {x : Str} {D : LamD} {ps fr : List Str} {sp : Sp} {e : Expr} {es : List Expr} {t : TA} {p pos : Pos}
theorem lamO_at {pins : List (Addr × Obj)} {σ : L2.St} {H : Hp} {s : Shared} {f c : Addr} {cl : List (Str × Addr)} (I : Inv X pins σ H s) (e : H f = some (LamO f D cl c)) : ∃ pm ctv, s.heap.get? f = some (PySem.W.kla_obj "<lambda>" D.qual D.prm D.body D.scope cl pm c ctv) := (I.hok f _ e).1
theorem pe_lamG (c : LamC X.prog X.w X.K X.mg X.base k D ps fr sp) (hr : Room j X.A) (hk : k ≤ j) (hn : ps.length = n) (hN : X.N[i]? = some x) (hv : Vis X.env.scope x) (ha : PA X (e :: es) t) (hd : (x == ("__debug__" : Str)) = false := by decide) (hcd : (x == ("__classdict__" : Str)) = false := by decide)
    (he : starEach (e :: es) X.env = (false, eval e X.env) :: starEach es X.env := by rfl) (hpl : (backTo pos (starEach es X.env)).any (·.1) = false := by rfl) : PE X (.Call (.Name x p) (e :: es) [] pos) (tCallH i n D fr sp t) := by
  refine ⟨fun pins s σ H Q I h => ?_⟩
  obtain ⟨f, cl, cc, ws, hs, hf, ht⟩ := h
  refine wpAny_Call_Name_kw (thn ((pe_var (pos := p) hN hv hd hcd).run pins s σ H (fun v H1 => v = .ref f ∧ H1 = H) I ⟨.ref f, hs, rfl, rfl⟩) fun u s1 ⟨v, H1, I1, r1, q1⟩ => ?_)
  obtain ⟨rfl, rfl⟩ := q1
  obtain rfl : u = Value.ref f := r1
  have fa : ∀ {H : Hp} {s : Shared}, Inv X pins σ H s → H f = some (LamO f D cl cc) → PySem.W.FnAt f s.heap := fun {H s} I e => let ⟨pm, ctv, ho⟩ := lamO_at I e; ⟨_, _, _, _, ho⟩
  refine PySem.W.callWith_F (first := []) (fa I1 hf) (thn (ha.run pos pins s1 σ _ _ I1 ht) fun us s2 ⟨vs, H2, I2, r, h1, h2, C, hl, q⟩ => ⟨fa I2 h1, ?_⟩) he hpl
  show wpAny _ _ (call (.ref f) us) _ _ _
  obtain ⟨pm, ctv, ho⟩ := lamO_at I2 h1
  have e0 := I2.env0
  have sub : ∀ b, H2 b = none → dropC cl H2 b = none := fun b e => by
    by_cases z : inCl cl b
    · exact dropC_in z
    · rw [dropC_out z]
      exact e
  have e1 : Env0 X.prog X.w X.K X.mg X.base X.A X.stack s2 (dropC cl H2) := ⟨e0.frames, e0.mod, fun b o e => ⟨(e0.bs b o e).1, sub b (e0.bs b o e).2⟩, e0.bsz, e0.funs, fun b hb => sub b (e0.frf b hb), hok_drop C I2.hok, e0.bare⟩
  refine wpAny_call (codeAny_mono (c.run X.A X.stack s2 _ f cc cl pm ctv us vs ws _ (hr.mono hk) e1 ho (codeO_at I2.hok h2) (cellsAt_of C I2.hok) r (hl.trans hn.symm) q) fun r s' hq => ?_)
  cases r with
  | error e => exact False.elim hq
  | ok fl =>
    cases fl with
    | ret u => exact I2.after (ce_back C I2.hok e0.frf hq)
    | next => exact False.elim hq
    | brk => exact False.elim hq
    | cont => exact False.elim hq
end
end SL
/-! sorted(t), t a tuple of ints. -/
namespace SL
open PySem PySem.Spec PyProof.Rows L2
section
variable {prog : Program} {w : World} {A : Around} {E : Value → Shared → Prop} {s : Shared}
/-- the items of a tuple, gathered -/
theorem gather_tuple {t : Addr} {ys : List Value} {Q : List Value → Shared → Prop} (ht : s.heap.IsTuple t ys.toArray) (hz : ys.length ≤ sizeLine)
    (k : Q ys { s with heap := (s.heap.push (seqObj "list" #[] 0)).update s.heap.objs.size (Obj.mapSeq (· ++ ys.toArray)) }) : wpAny (model prog w) A (collect (.ref t)) Q E s := by
  obtain ⟨ob, hob, hcls, m, hdat⟩ := id ht
  have keep : (s.heap.push (seqObj "list" #[] 0)).get? t = some ob := Heap.get?_push_of_some _ hob
  have there : (s.heap.push (seqObj "list" #[] 0)).get? s.heap.objs.size = some (seqObj "list" #[] 0) := Heap.get?_push_size _ rfl
  have small : ((#[] : Array Value) ++ ys.toArray).size ≤ sizeLine + 1 := by
    rw [Array.size_append, List.size_toArray]
    show 0 + ys.length ≤ _
    omega
  have all : ((#[] : Array Value) ++ ys.toArray).toList = ys := by simp
  unfold collect
  refine wpAny_bind (m := runValue _) (wpAny_runValue (codeAny_builtin entry_proto_collect' ?_))
  show wpAny _ _ (newList [] >>= fun l => again (.builtin "list.__iadd__" ⟨[l, .ref t], []⟩)) _ _ s
  refine wpAny_bind (m := newList []) (wpAny_newList (wpAny_pure ⟨Code.quiet_builtin _ (by decide +kernel), codeAny_builtin entry_list_iadd' ?_⟩))
  show wpAny _ _ (Builtin.List.listExtendWith (.ref s.heap.objs.size) (.ref t) (.ref s.heap.objs.size)) _ _ ⟨s.heap.push (seqObj "list" #[] 0), s.gens, s.drawn, s.toks, s.os⟩
  unfold Builtin.List.listExtendWith
  refine wpAny_bind (m := typeOf _) (wpAny_typeOf (T := "tuple") ⟨ob, keep, hcls⟩ ?_)
  rw [if_pos (show _ = true by rw [show (Value.type "tuple" == Value.type "tuple") = true from rfl, Bool.or_true])]
  refine wpAny_bind (listItems_at keep hdat ?_)
  refine wpAny_bind (listItems_at (xs := #[]) (n := 0) there rfl ?_)
  rw [if_neg (show ¬ _ by simp)]
  refine wpAny_bind (listUpdate_at (xs := #[]) (n := 0) there rfl ?_ (Nat.zero_le _) small)
  refine wpAny_pure ?_
  show wpAny (model prog w) A (load s.heap.objs.size >>= fun o => match o.data with
      | .seq xs _ => pure xs.toList
      | _ => unsupported "internal:collect") Q E _
  refine wpAny_bind (m := load _) (wpAny_load (get?_update_seq there _) ?_)
  show wpAny _ _ (pure ((#[] : Array Value) ++ ys.toArray).toList) Q E _
  rw [all]
  exact wpAny_pure k
theorem size_grown (h : Heap) (ys : List Value) : ((h.push (seqObj "list" #[] 0)).update h.objs.size (Obj.mapSeq (· ++ ys.toArray))).objs.size = h.objs.size + 1 := by rw [Heap.size_update, size_push']
open SrtO in
/-- .. sorted: two new lists, the second one is the answer -/
theorem sorted_tuple {t : Addr} {ys : List Value} {lt : Value → Value → Bool} {Q : Value → Shared → Prop} (O : Swo lt) (ht : s.heap.IsTuple t ys.toArray) (hz : ys.length ≤ sizeLine)
    (can : 2 ≤ ys.length → ∀ (g : Heap) (a : Addr), g.get? a = some (seqObj "list" ys.toArray 0) → SortableO prog w A.in1.in1 { s with heap := g } a ys lt)
    (k : ∀ out : List Value, Srtd lt out → Stb lt out ys → Q (.ref (s.heap.objs.size + 1)) { s with heap := PyProof.Rows.sortedAll s.heap ys out.toArray }) : wpAny (model prog w) A (call (.builtin "sorted") [.ref t]) Q E s := by
  have e1 := size_grown s.heap ys
  have at1 : (((s.heap.push (seqObj "list" #[] 0)).update s.heap.objs.size (Obj.mapSeq (· ++ ys.toArray))).push (seqObj "list" ys.toArray 0)).get? (s.heap.objs.size + 1) = some (seqObj "list" ys.toArray 0) := by
    rw [← e1]
    exact Heap.get?_push_size _ rfl
  refine Calls.call_function_entry (by exact kind_sorted) (by exact plain_sorted) (by exact entry_sorted) (by exact args_sorted1 _) ?_
  unfold Builtin.«sorted»
  refine wpAny_bind (m := checkCount "sorted" 1 1 _) (wpAny_pure (wpAny_bind (m := collect (.ref t)) (gather_tuple ht hz ?_)))
  refine wpAny_bind (m := newList ys) (wpAny_newList ?_ hz)
  show wpAny _ _ _ _ _ ⟨((s.heap.push (seqObj "list" #[] 0)).update s.heap.objs.size (Obj.mapSeq (· ++ ys.toArray))).push (seqObj "list" ys.toArray 0), s.gens, s.drawn, s.toks, s.os⟩
  rw [e1]
  refine wpAny_bind (m := holding _ _) (wpAny_holding (wpAny_call_entry (by exact slot_list_sort) ⟨_, at1, rfl⟩ (by exact entry_list_sort) (list_sort_ord O at1 hz (fun h2 => can h2 _ _ at1) fun out a b => ⟨_, rfl, ?_⟩) (args_list_sort _)))
  exact wpAny_pure ⟨_, rfl, k out a b⟩
end
def rSortTI (K : PySem.W.Frag) : List V → Hp → VK → Prop := fun vs H Q => ∃ (a : Addr) (ns : List Int), vs = [V.ref a] ∧ SqT K H a (ns.map V.int) ∧ ∀ (ms : List Int) (p : Addr), ms.Perm ns → ms.Pairwise (· ≤ ·) → H p = none → Q (.ref p) (upd H p (.lst (ms.map V.int)))
theorem cr_sortTI {X : Cx} (K : PySem.W.Frag) (hK : X.K = K := by rfl) : CallR X (.builtin "sorted") (rSortTI K) := by
  subst hK
  intro pins s σ H vs us Q I r h
  obtain ⟨a, ns, rfl, hs, q⟩ := h
  obtain ⟨its, rv, hl, hz⟩ := I.tuple hs
  rw [Vals.ref1 r]
  have ri := rv.ints
  have lz : its.length ≤ sizeLine := by rw [← rv.length]; exact hz
  refine sorted_tuple SrtO.swo_int hl lz (fun h2 g a2 _ => SrtO.ints_sortable ri h2) fun out o1 o2 => ?_
  obtain ⟨k1, k2, k3⟩ := SrtO.ints_out ri o1 o2
  obtain ⟨ep, there⟩ := PyProof.Rows.sortedAll_at s.heap its out.toArray
  have lo : ((out.map SrtO.iv).map V.int).length ≤ sizeLine := by
    rw [List.length_map, k2.length_eq]
    rw [List.length_map] at hz
    exact hz
  have J : Inv X pins σ (upd H (s.heap.objs.size + 1) (.lst ((out.map SrtO.iv).map V.int))) { s with heap := PyProof.Rows.sortedAll s.heap its out.toArray, toks := s.toks } :=
    I.laid (t' := s.toks) (fun _ _ => PyProof.Rows.sortedAll_old) (Nat.le_succ _) ⟨lo, out, ep, vals_of_ints k1, there⟩
  exact ⟨.ref _, _, J, rfl, q _ _ k2 k3 (I.hok.fresh (Nat.le_succ _))⟩
end SL
/-! The value layer: lambdas that are handed to a def, and run there. -/
namespace SV
open PySem PySem.Spec PyProof.Rows L2 SL LamX NdefX
section
variable {b : PT} {pp q : Addr} {G H Hc G' H2 : Hp} {cl : List (Str × Addr)} {fr : List Str} {ws : List V}
theorem off_obj (p : Pl b pp q G H) {a : Addr} {o : HO} (e : H a = some o) (n1 : ∀ xs, o ≠ .lst xs) (n2 : ∀ ps, o ≠ .tbl ps) : Off b pp a := by
  refine ⟨fun z w => ?_, fun t ht w => ?_⟩
  · obtain ⟨⟨ms, c, u, d, e', k1, _⟩, _⟩ := p.1 z
    rw [w, k1] at e
    cases e
    exact n1 _ rfl
  · obtain ⟨⟨ps, k1, _⟩, _⟩ := p.2 t ht
    rw [w, k1] at e
    cases e
    exact n2 _ rfl
/-- a pool and tables stay what they are where what they lean on does -/
theorem Pl.move {H' : Hp} (p : Pl b pp q G H) (k : ∀ a o, H a = some o → (∀ ob, o ≠ .frz ob (.own a)) → H' a = some o) : Pl b pp q G H' := by
  refine ⟨fun z => ?_, fun t ht => ?_⟩
  · obtain ⟨P, n1, n2⟩ := p.1 z
    obtain ⟨ms, c, u, d, e, k1, k2, k3⟩ := id P
    exact ⟨P.keep ((k _ _ k1 fun _ z => nomatch z).trans k1.symm) ((k _ _ k2 fun _ z => nomatch z).trans k2.symm), n1, n2⟩
  · obtain ⟨⟨ps, k1, k2, k3⟩, g⟩ := p.2 t ht
    refine ⟨⟨ps, k _ _ k1 (fun _ z => nomatch z), k2, fun pos cv hc => ?_⟩, g⟩
    obtain ⟨c, e1, e2⟩ := k3 pos cv hc
    exact ⟨c, e1, k _ _ e2 fun ob z => by unfold CodeO at z; cases z⟩
theorem vw_drop (w : Vw G H) (gn : ∀ a, inCl cl a → G a = none) : Vw G (dropC cl H) := fun a o e => by
  rw [dropC_out fun z => by rw [gn a z] at e; cases e]
  exact w a o e
theorem gr_drop (L : Lent H Hc cl) (C : CellsT Hc cl fr ws) (gn : ∀ a, inCl cl a → G a = none) (p : Pl b pp q G Hc) (C2 : CellsT H2 cl fr ws) (g : Gr b pp q G Hc G' H2) : Gr b pp q G H G' (dropC cl H2) := by
  have gn2 : ∀ a, inCl cl a → G' a = none := fun a z => by
    obtain ⟨o, v, h1, _⟩ := C.at_ z
    exact (g.fr a _ (off_obj p h1 (fun _ z => nomatch z) fun _ z => nomatch z) h1 (gn a z) rfl).1
  refine ⟨⟨g.gg, vw_drop g.vw gn2, fun a o n e g1 => ?_, g.pl.move fun a o e n => ?_⟩, fun a o e => ?_⟩
  · have z : ¬ inCl cl a := fun z => by rw [L.new a z] at e; cases e
    obtain ⟨k1, k2⟩ := g.fr0 a o n (by rw [L.out a z]; exact e) g1
    exact ⟨k1, by rw [dropC_out z]; exact k2⟩
  · rw [dropC_out (C2.not e n)]
    exact e
  · have z : ¬ inCl cl a := fun z => by rw [gn a z] at e; cases e
    have := g.ge a o e
    unfold Lk at this ⊢
    rw [dropC_out z, ← L.out a z]
    exact this
theorem gr_back (C : CellsT H cl fr ws) (gn : ∀ a, inCl cl a → G a = none) (p : Pl b pp q G H) (g : Gr b pp q G (dropC cl H) G' H2) (n2 : ∀ a, inCl cl a → H2 a = none) : Gr b pp q G H G' (backC cl H H2) := by
  have out2 : ∀ a o, H2 a = some o → backC cl H H2 a = some o := fun a o e => by
    rw [backC_out fun z => by rw [n2 a z] at e; cases e]
    exact e
  refine ⟨⟨g.gg, fun a o e => ?_, fun a o n e g1 => ?_, g.pl.move fun a o e _ => out2 a o e⟩, fun a o e => ?_⟩
  · rcases g.vw a o e with k | ⟨k, ob, k2⟩
    · exact .inl (out2 a o k)
    · exact .inr ⟨k, ob, out2 a _ k2⟩
  · by_cases z : inCl cl a
    · rw [backC_in z]
      exact ⟨fun _ => g.vw.free (n2 a z), e⟩
    · obtain ⟨k1, k2⟩ := g.fr0 a o n (by rw [dropC_out z]; exact e) g1
      exact ⟨k1, out2 a o k2⟩
  · have z : ¬ inCl cl a := fun z => by rw [gn a z] at e; cases e
    have := g.ge a o e
    unfold Lk at this ⊢
    rw [backC_out z, ← dropC_out (cl := cl) (H := H) z]
    exact this
end
/-- the lambda D at f, as a def that gets it knows it -/
structure LamIn (pp : Addr) (G H : Hp) (f : Addr) (D : LamD) (fr : List Str) (cl : List (Str × Addr)) (c : Addr) (ws : List V) (caps : List U) : Prop where
  ob : H f = some (LamO f D cl c)
  gf : G f = none
  co : H c = some (CodeO c D.qual)
  ce : CellsT H cl fr ws
  gc : ∀ a, inCl cl a → G a = none
  rp : RpL pp G ws caps
/-- the slot i holds the lambda D; caps: what it captured -/
def Held (Z : Zc) (i : Nat) (D : LamD) (fr : List Str) (caps : List U) : Prop := ∃ f cl c ws, Z.me i = some (.ref f) ∧ LamIn Z.pp Z.G0 Z.H0 f D fr cl c ws caps
theorem LamIn.step {b : PT} {pp q : Addr} {G H G' H' : Hp} {f c : Addr} {D : LamD} {fr : List Str} {cl : List (Str × Addr)} {ws : List V} {caps : List U} (L : LamIn pp G H f D fr cl c ws caps) (p : Pl b pp q G H) (g : Gr b pp q G H G' H') : LamIn pp G' H' f D fr cl c ws caps := by
  have own : ∀ a o, H a = some o → G a = none → (∀ xs, o ≠ .lst xs) → (∀ ps, o ≠ .tbl ps) → isTp o = false → G' a = none ∧ H' a = some o := fun a o e n n1 n2 nt => g.fr a o (off_obj p e n1 n2) e n nt
  obtain ⟨h1, h2⟩ := own f _ L.ob L.gf (fun _ z => by unfold LamO at z; cases z) (fun _ z => by unfold LamO at z; cases z) rfl
  have cell : ∀ a, inCl cl a → ∀ o, H a = some (.frz o (.own a)) → G' a = none ∧ H' a = some (.frz o (.own a)) := fun a z o e => own a _ e (L.gc a z) (fun _ z => nomatch z) (fun _ z => nomatch z) rfl
  refine ⟨h2, h1, ?_, L.ce.keep fun a o e z => (cell a z o e).2, fun a z => ?_, L.rp.same g.gg⟩
  · cases e : G c with
    | none => exact (own c _ L.co e (fun _ z => by unfold CodeO at z; cases z) codeO_ne rfl).2
    | some o =>
      rcases g.ge c o e with k | ⟨k, i, _⟩
      · exact k.trans L.co
      · rw [L.co] at k
        cases k
        cases i
  · obtain ⟨o, v, h1, _⟩ := L.ce.at_ z
    exact (cell a z o h1).1
/-! ### a def whose last parameter is a lambda -/
def spL (b : PT) (n : Nat) (D : LamD) (fr : List Str) (W : Wf) : Sp := fun vs H Q E => ∃ vs1 f cl c ws caps us pp q G post ew, vs = vs1 ++ [.ref f] ∧ LamIn pp G H f D fr cl c ws caps ∧ RpL pp G vs1 us ∧ us.length = n ∧ Vw G H ∧ Pl b pp q G H ∧ W (us ++ caps) post ew ∧
  (∀ v u G' H', post u → Gr b pp q G H G' H' → Rp pp G' v u → Q v H') ∧ (∀ C fs gs od G' H', ew C gs → Gr b pp q G H G' H' → XdAt G' od fs → RpF pp G' fs gs → E (.ref C) od H')
theorem spL_len {b : PT} {n : Nat} {D : LamD} {fr : List Str} {W : Wf} {vs : List V} {H : Hp} {Q : VK} {E : XK} (h : spL b n D fr W vs H Q E) : vs.length = n + 1 := by
  obtain ⟨vs1, f, cl, c, ws, caps, us, pp, q, G, post, ew, rfl, _, k, l, _⟩ := h
  rw [List.length_append, k.length, l]
  rfl
section
variable {P : Program} {w : World} {K : PySem.W.Frag} {mg : Str → Option Value} {base : Heap}
theorem bodyL_of {b : PT} {n : Nat} {D : LamD} {fr : List Str} {W : Wf} {N : List Str} {t : TS} {E : XK} (hN : n + 1 ≤ N.length)
    (tr : ∀ Z : Zc, Z.b = b → Z.E = E → Z.mays (fun i => i != n) → ∀ caps, Held Z n D fr caps → ∃ w, TrS Z t w ∧ ∀ us post, us.length = n → W (us ++ caps) post Z.ew → w { nx := fun _ => post .non, rt := post } (us.map Cell.fz ++ List.replicate (N.length - us.length) Cell.no))
    {vs : List V} {H : Hp} {Q : VK} (h : spL b n D fr W vs H Q E) : t { nx := fun _ H' => Q .non H', rt := Q } (L2.start N vs) H := by
  obtain ⟨vs1, f, cl, c, ws, caps, us, pp, q, G, post, ew, rfl, L, k, l, vw, pl, hw, hq, he⟩ := h
  have lv : vs1.length = n := by rw [k.length, l]
  obtain ⟨w, T, hb⟩ := tr ⟨b, pp, q, G, H, E, ew, N.length, fun i => if i = n then some (.ref f) else none, fun _ => none⟩ rfl rfl (fun i e => if_neg (by simpa using e)) caps ⟨f, cl, c, ws, if_pos rfl, L⟩
  have g0 : Gr b pp q G H G H := Gr.refl vw pl
  have st : L2.start N (vs1 ++ [.ref f]) = vs1.map some ++ (some (.ref f) :: List.replicate (N.length - (n + 1)) none) := by
    unfold L2.start
    rw [List.map_append, List.length_append, lv, List.append_assoc]
    rfl
  have atn : (L2.start N (vs1 ++ [.ref f]))[n]? = some (some (.ref f)) := by
    rw [st, List.getElem?_append_right (by rw [List.length_map, lv]; exact Nat.le_refl _), List.length_map, lv, Nat.sub_self]
    rfl
  refine T _ _ _ _ G H ⟨g0, vw, pl, fun C fs us od G' H' a g x r => he C fs us od G' H' a g x r, ⟨?_, ?_⟩, fun i u e => ?_, fun i u e => (start_ow e).elim, fun i v e => ?_, (fun _ _ e => nomatch e), fun i j a _ h1 _ => by obtain ⟨u, e⟩ := h1; exact (start_ow e).elim⟩ (hb us post l hw)
    ⟨fun σ ρ G' H' S x p => hq .non .non G' H' p S.gr .non, fun v u G' H' g x r p => hq v u G' H' p g r, fun _ _ _ _ _ _ z => z.elim, fun _ _ _ _ _ _ z => z.elim⟩
  · rw [st, List.length_append, List.length_map, List.length_cons, List.length_replicate, lv]
    show n + (N.length - (n + 1) + 1) = N.length
    omega
  · rw [List.length_append, List.length_map, List.length_replicate, l]
    show n + (N.length - n) = N.length
    omega
  · obtain ⟨v, e1, r⟩ := start_get k e
    refine ⟨v, ?_, r⟩
    have il : i < vs1.length := by
      have : i < us.length := by
        rcases Nat.lt_or_ge i us.length with h | h
        · exact h
        · rw [List.getElem?_append_right (by rw [List.length_map]; exact h)] at e
          have := List.mem_of_getElem? e
          rw [List.mem_replicate] at this
          exact nomatch this.2
      rw [k.length]
      exact this
    unfold L2.start at e1
    rw [List.getElem?_append_left (by rw [List.length_map]; exact il)] at e1
    rw [st, List.getElem?_append_left (by rw [List.length_map]; exact il)]
    exact e1
  · have e' : (if i = n then some (V.ref f) else none) = some v := e
    by_cases z : i = n
    · rw [if_pos z] at e'
      cases e'
      rw [z]
      exact atn
    · rw [if_neg z] at e'
      cases e'
/-- a def that gets a lambda; it raises nothing -/
theorem okL {b : PT} {n : Nat} {D : LamD} {fr : List Str} {W : Wf} {x qual : Str} {st : Stmt} {f : Addr} {fd : FuncData} {N ps : List Str} {k : Nat} (F : Fun K x qual st f fd) (S : FnScope N ps (defScope st)) (hn : ps.length = n + 1) (hN : n + 1 ≤ N.length)
    (hbody : ∀ (cdv : Value) (A : Around) (outer : List Env) (s : Shared) (H : Hp) (E : XK), Room k (A.deeper (envOfC qual (defScope st) s.heap.objs.size f cdv)) →
      ∃ t, PSs (cxOf CX0 P w K mg base N qual (defScope st) f cdv A outer s H E).nox (defBody st) t ∧ ∀ Z : Zc, Z.b = b → Z.E = E → Z.mays (fun i => i != n) → ∀ caps, Held Z n D fr caps → ∃ w, TrS Z t w ∧ ∀ us post, us.length = n → W (us ++ caps) post Z.ew → w { nx := fun _ => post .non, rt := post } (us.map Cell.fz ++ List.replicate (N.length - us.length) Cell.no)) :
    FnOk P w K mg base CX0 (k + 1) f fd ps (spL b n D fr W) :=
  F.ok S (fun vs H Q E h => (spL_len h).trans hn.symm) fun cdv A outer s H vs Q E hr h =>
    let ⟨t, ht, tr⟩ := hbody cdv A outer s H E hr
    ⟨t, ht, bodyL_of hN tr h⟩
/-- .. that may raise -/
theorem okLX {b : PT} {n : Nat} {D : LamD} {fr : List Str} {W : Wf} {x qual : Str} {st : Stmt} {f : Addr} {fd : FuncData} {N ps : List Str} {k : Nat} (F : Fun K x qual st f fd) (S : FnScope N ps (defScope st)) (hn : ps.length = n + 1) (hN : n + 1 ≤ N.length)
    (hbody : ∀ (cdv : Value) (A : Around) (outer : List Env) (s : Shared) (H : Hp) (E : XK), Room k (A.deeper (envOfC qual (defScope st) s.heap.objs.size f cdv)) →
      ∃ t, PSs (cxOf (L2.CX P w) P w K mg base N qual (defScope st) f cdv A outer s H E) (defBody st) t ∧ ∀ Z : Zc, Z.b = b → Z.E = E → Z.mays (fun i => i != n) → ∀ caps, Held Z n D fr caps → ∃ w, TrS Z t w ∧ ∀ us post, us.length = n → W (us ++ caps) post Z.ew → w { nx := fun _ => post .non, rt := post } (us.map Cell.fz ++ List.replicate (N.length - us.length) Cell.no)) :
    FnOk P w K mg base (L2.CX P w) (k + 1) f fd ps (spL b n D fr W) :=
  F.okX S (fun vs H Q E h => (spL_len h).trans hn.symm) fun cdv A outer s H vs Q E hr h =>
    let ⟨t, ht, tr⟩ := hbody cdv A outer s H E hr
    ⟨t, ht, bodyL_of hN tr h⟩
/-- the lambda itself -/
theorem okLam {b : PT} {n k : Nat} {D : LamD} {N ps fr : List Str} {W : Wf} (S : NScope N ps fr D.scope) (hb : ∀ (cl : List (Str × Addr)) (c : Addr) (pm ctv : Value) (us : List Value), us.length = ps.length → bindArgs (PySem.W.kla_fn "<lambda>" D.qual D.prm D.body D.scope cl pm (.ref c) ctv) ⟨us, []⟩ = pure (ps.zip us)) (hn : ps.length + fr.length = n) (hN : n ≤ N.length)
    (hbody : ∀ (A : Around) (outer : List Env) (s : Shared) (H : Hp) (f c : Addr) (cl : List (Str × Addr)), Room k (A.deeper (envF (D.nf cl c) f s.heap.objs.size)) →
      ∃ t, PE (ncx CX0 P w K mg base N (D.nf cl c) f A outer s H E0).nox D.body t ∧ ∀ Z : Zc, Z.b = b → Z.mays (fun _ => true) → ∃ w, TrE Z t w ∧ ∀ us post, us.length = n → W us post Z.ew → w (us.map Cell.fz ++ List.replicate (N.length - us.length) Cell.no) post) : LamC P w K mg base (k + 1) D ps fr (spV b n W) :=
  lamC_of S S.co hb (fun vs H Q E h => (spV_len h).trans hn.symm) fun A outer s H f c cl vs Q hr h => by
    obtain ⟨t, ht, tr⟩ := hbody A outer s H f c cl hr
    refine ⟨t, ht, ?_⟩
    obtain ⟨us, pp, q, G, post, ew, k, l, vw, pl, hw, hq, he⟩ := h
    obtain ⟨w, T, hb⟩ := tr ⟨b, pp, q, G, H, E0, ew, N.length, fun _ => none, fun _ => none⟩ rfl fun _ _ => rfl
    have g0 : Gr b pp q G H G H := Gr.refl vw pl
    refine T (L2.start N vs) _ G H post Q ⟨g0, vw, pl, fun C fs us od G' H' a g x r => he C fs us od G' H' a g x r, ⟨?_, ?_⟩, fun i u e => start_get k e, fun i u e => (start_ow e).elim, (fun _ _ e => nomatch e), (fun _ _ e => nomatch e), fun i j a _ h1 _ => by obtain ⟨u, e⟩ := h1; exact (start_ow e).elim⟩ (hb us post l hw)
      fun v u G' H' p g r => hq v u G' H' p g r
    · unfold L2.start
      rw [List.length_append, List.length_map, List.length_replicate, k.length, l]
      show n + (N.length - n) = N.length
      omega
    · rw [List.length_append, List.length_map, List.length_replicate, l]
      show n + (N.length - n) = N.length
      omega
end
section
variable {Z : Zc} {tA : TA} {wA : WA}
/-! ### the held lambda is called -/
def wCallG (n : Nat) (caps : List U) (W : Wf) (wA : WA) : WE := fun ρ post => wA ρ fun us => us.length = n ∧ W (us ++ caps) post fun _ _ => False
theorem v_callG {b : PT} {i n m : Nat} {D : LamD} {fr : List Str} {caps : List U} {W : Wf} (hl : Held Z i D fr caps) (hb : PLe b Z.b) (hm : n + fr.length = m) (h : TrA Z tA wA) : TrE Z (tCallH i n D fr (spV b m W) tA) (wCallG n caps W wA) := fun σ ρ G H post Q S hw q => by
  obtain ⟨f, cl, c, ws, e1, L0⟩ := hl
  have L1 := L0.step S.p0 S.gr
  refine ⟨f, cl, c, ws, S.me i _ e1, L1.ob, h σ ρ G H _ _ S hw fun vs us G1 H1 w1 g1 h1 => ?_⟩
  obtain ⟨l, w2⟩ := w1
  have S1 := S.step g1
  have L2 := L1.step S.pl g1
  have pd : Pl Z.b Z.pp Z.q G1 (dropC cl H1) := S1.pl.move fun a o e n => by rw [dropC_out (L2.ce.not e n)]; exact e
  have vd : Vw G1 (dropC cl H1) := vw_drop S1.vw L2.gc
  refine ⟨L2.ob, L2.co, L2.ce, by rw [h1.length, l], us ++ caps, Z.pp, Z.q, G1, post, fun _ _ => False, L2.rp.append h1, ?_, vd, pd.le hb, w2, fun v u G' H' p g r n2 => ?_, fun _ _ _ _ _ _ z => z.elim⟩
  · rw [List.length_append, l, ← L2.rp.length, L2.ce.len]
    exact hm
  · exact q v u G' _ p (g1.trans (gr_back L2.ce L2.gc S1.pl (g.le hb pd) n2)) r
/-! ### a lambda is made and handed on -/
/-- arguments, the last one a lambda -/
def TrAL (Z : Zc) (D : LamD) (cl : List (Str × Addr)) (t : TA) (w : WA) : Prop := ∀ σ ρ G H (post : List U → Prop) (Q : List V → Hp → Prop), Sv Z σ ρ G H → w ρ post →
  (∀ vs us f c G' H', post us → Z.gr G H G' H' → RpL Z.pp G' vs us → H' f = some (LamO f D cl c) → G' f = none → H' c = some (CodeO c D.qual) → Q (vs ++ [.ref f]) H') → t σ H Q
theorem v_lam {T : List (Addr × Str)} {P : Addr} {D : LamD} {cl : List (Str × Addr)} (hT : Z.b.T = T) (hP : (P, D.qual) ∈ T) : TrAL Z D cl (tLamA T P D cl) wNil := fun σ ρ G H post Q S hw q => by
  subst hT
  refine ⟨fun t ht => (S.pl.2 t ht).1, fun f c H1 k T1 nf e1 e2 => ?_⟩
  obtain ⟨⟨ps, tP, _⟩, gP⟩ := S.pl.2 _ hP
  have neP : ∀ a o, G a = some o → a ≠ P := fun a o e z => by
    rw [z] at e
    rw [show G P = none from gP] at e
    cases e
  refine q [] [] f c G H1 hw ⟨⟨Same.refl _, fun a o e => ?_, fun a o n e g => ⟨fun _ => g, k a o e (n.2 _ hP)⟩, fun z => ?_, fun t ht => ⟨T1 t ht, (S.pl.2 t ht).2⟩⟩, fun a o e => ?_⟩ .nil e1 (S.vw.free nf) e2
  · rcases S.vw a o e with h | ⟨h, ob, h2⟩
    · exact .inl (k a o h (neP a o e))
    · exact .inr ⟨h, ob, k a _ h2 (neP a o e)⟩
  · obtain ⟨Pp, n1, n2⟩ := S.pl.1 z
    obtain ⟨ms, c', u, d, e', k1, k2, _⟩ := id Pp
    have away : ∀ a xs, H a = some (.lst xs) → a ≠ P := fun a xs e z => by
      rw [z, show H P = some (.tbl ps) from tP] at e
      cases e
    exact ⟨Pp.keep ((k _ _ k1 (away _ _ k1)).trans k1.symm) ((k _ _ k2 (away _ _ k2)).trans k2.symm), n1, n2⟩
  · left
    rcases S.vw a o e with h | ⟨h, ob, h2⟩
    · exact (k a o h (neP a o e)).trans h.symm
    · exact (k a _ h2 (neP a o e)).trans h2.symm
theorem v_consL {D : LamD} {cl : List (Str × Addr)} {ta : TE} {wa : WE} {tr : TA} {wr : WA} (ha : TrE Z ta wa) (hr : TrAL Z D cl tr wr) : TrAL Z D cl (tCons ta tr) (wCons wa wr) := fun σ ρ G H post Q S hw q =>
  ha σ ρ G H _ _ S hw fun v u G1 H1 p1 g1 r1 => hr σ ρ G1 H1 _ _ (S.step g1) p1 fun vs us f c G2 H2 p2 g2 r2 h1 h2 h3 => q (v :: vs) (u :: us) f c G2 H2 p2 (g1.trans g2) (.cons (r1.same g2.gg) r2) h1 h2 h3
/-- the frozen values in some slots -/
def capsAt (ρ : List Cell) : List Nat → Option (List U)
  | [] => some []
  | j :: js => match ρ[j]? with
    | some (.fz u) => (capsAt ρ js).map (u :: ·)
    | _ => none
theorem caps_get {σ : L2.St} {ρ : List Cell} {G H : Hp} (S : Sv Z σ ρ G H) : ∀ {js : List Nat} {caps : List U}, capsAt ρ js = some caps → ∃ ws : List V, js.map (slotAt σ) = ws.map some ∧ RpL Z.pp G ws caps
  | [], caps, h => by
    cases h
    exact ⟨[], rfl, .nil⟩
  | j :: js, caps, h => by
    unfold capsAt at h
    split at h
    · rename_i u e
      cases e2 : capsAt ρ js with
      | none => rw [e2] at h; cases h
      | some cs =>
        rw [e2] at h
        cases h
        obtain ⟨ws, h1, h2⟩ := caps_get S e2
        obtain ⟨v, h3, h4⟩ := S.fz j u e
        refine ⟨v :: ws, ?_, .cons h4 h2⟩
        rw [List.map_cons, List.map_cons, h1, slotAt_of h3]
    · cases h
def wCallL (n : Nat) (js : List Nat) (W : Wf) (ew : EW) (wA : WA) : WE := fun ρ post => wA ρ fun us => us.length = n ∧ ∃ caps, capsAt ρ js = some caps ∧ W (us ++ caps) post ew
theorem callL_run {b : PT} {n : Nat} {D : LamD} {fr : List Str} {js : List Nat} {cl : List (Str × Addr)} {W : Wf} {E : XK} {ew : EW} (hb : PLe b Z.b) (hE : ∀ σ ρ G H, Sv Z σ ρ G H → ∀ C fs gs od G' H', ew C gs → Z.gr0 G H G' H' → XdAt G' od fs → RpF Z.pp G' fs gs → E (.ref C) od H') (h : TrAL Z D cl tA wA) :
    TrE Z (tCallL (spL b n D fr W) E fr js cl tA) (wCallL n js W ew wA) := fun σ ρ G H post Q S hw q => h σ ρ G H _ _ S hw fun vs us f c G1 H1 w1 g1 h1 e1 e2 e3 => by
  obtain ⟨l, caps, ec, w2⟩ := w1
  have S1 := S.step g1
  obtain ⟨ws, hws, hr⟩ := caps_get S1 ec
  refine ⟨ws, hws, fun Hc L C => ?_⟩
  have gn : ∀ a, inCl cl a → G1 a = none := fun a z => S1.vw.free (L.new a z)
  have up : ∀ a o, H1 a = some o → Hc a = some o := fun a o e => by
    rw [L.out a fun z => by rw [L.new a z] at e; cases e]
    exact e
  have vc : Vw G1 Hc := fun a o e => by
    rcases S1.vw a o e with k | ⟨k, ob, k2⟩
    · exact .inl (up a o k)
    · exact .inr ⟨k, ob, up a _ k2⟩
  have pc : Pl Z.b Z.pp Z.q G1 Hc := S1.pl.move fun a o e _ => up a o e
  exact ⟨vs, f, cl, c, ws, caps, us, Z.pp, Z.q, G1, post, ew, rfl, ⟨up _ _ e1, e2, up _ _ e3, C, gn, hr⟩, h1, l, vc, pc.le hb, w2, fun v u G' H' p g r C2 => q v u G' _ p (g1.trans (gr_drop L C gn pc C2 (g.le hb pc))) r,
    fun X fs gs od G' H' a g x r C2 => hE σ ρ G1 H1 S1 X fs gs od G' _ a (gr_drop L C gn pc C2 (g.le hb pc)) x r⟩
theorem v_callL {b : PT} {n : Nat} {D : LamD} {fr : List Str} {js : List Nat} {cl : List (Str × Addr)} {W : Wf} (hb : PLe b Z.b) (h : TrAL Z D cl tA wA) : TrE Z (tCallL (spL b n D fr W) E0 fr js cl tA) (wCallL n js W (fun _ _ => False) wA) := callL_run hb (fun _ _ _ _ _ _ _ _ _ _ _ a => a.elim) h
theorem v_callLX {b : PT} {n : Nat} {D : LamD} {fr : List Str} {js : List Nat} {cl : List (Str × Addr)} {W : Wf} {E : XK} (hE : Z.E = E) (hb : PLe b Z.b) (h : TrAL Z D cl tA wA) : TrE Z (tCallL (spL b n D fr W) E fr js cl tA) (wCallL n js W Z.ew wA) :=
  callL_run hb (fun σ ρ G H S C fs gs od G' H' a g x r => by rw [← hE]; exact S.ex C fs gs od G' H' a (S.gr.trans g) x r) h
end
end SV
/-! The value layer: defs that make lambdas (their code object is told). -/
namespace SV
open PySem PySem.Spec PyProof.Rows L2 SL LamX NdefX
section
variable {P : Program} {w : World} {K : PySem.W.Frag} {mg : Str → Option Value} {base : Heap}
theorem okC {b : PT} {n : Nat} {W : Wf} {x qual : Str} {st : Stmt} {f c : Addr} {fd : FuncData} {N ps : List Str} {k : Nat} (hc : fd.code = .ref c) (F : Fun K x qual st f fd) (S : FnScope N ps (defScope st)) (hn : ps.length = n) (hN : n ≤ N.length)
    (hbody : ∀ (A : Around) (outer : List Env) (s : Shared) (H : Hp) (E : XK), Room k (A.deeper (envOfC qual (defScope st) s.heap.objs.size f (.ref c))) →
      ∃ t, PSs (cxOf CX0 P w K mg base N qual (defScope st) f (.ref c) A outer s H E).nox (defBody st) t ∧ ∀ Z : Zc, Z.b = b → Z.E = E → Z.mays (fun _ => true) → ∃ w, TrS Z t w ∧ ∀ us post, us.length = n → W us post Z.ew → w { nx := fun _ => post .non, rt := post } (us.map Cell.fz ++ List.replicate (N.length - us.length) Cell.no)) :
    FnOk P w K mg base CX0 (k + 1) f fd ps (spV b n W) := by
  obtain ⟨oc, od, kV, doc, pm, an, cdv, ct, osl, rfl, lk, hcd⟩ := F.ex
  obtain rfl : cdv = .ref c := hc
  refine fn_of lk hcd S (fun vs H Q E h => (spV_len h).trans hn.symm) fun A outer s H vs Q E hr h => ?_
  obtain ⟨t, ht, tr⟩ := hbody A outer s H E hr
  exact ⟨t, ht.nox, body_of hN tr h⟩
theorem okCX {b : PT} {n : Nat} {W : Wf} {x qual : Str} {st : Stmt} {f c : Addr} {fd : FuncData} {N ps : List Str} {k : Nat} (hc : fd.code = .ref c) (F : Fun K x qual st f fd) (S : FnScope N ps (defScope st)) (hn : ps.length = n) (hN : n ≤ N.length)
    (hbody : ∀ (A : Around) (outer : List Env) (s : Shared) (H : Hp) (E : XK), Room k (A.deeper (envOfC qual (defScope st) s.heap.objs.size f (.ref c))) →
      ∃ t, PSs (cxOf (L2.CX P w) P w K mg base N qual (defScope st) f (.ref c) A outer s H E) (defBody st) t ∧ ∀ Z : Zc, Z.b = b → Z.E = E → Z.mays (fun _ => true) → ∃ w, TrS Z t w ∧ ∀ us post, us.length = n → W us post Z.ew → w { nx := fun _ => post .non, rt := post } (us.map Cell.fz ++ List.replicate (N.length - us.length) Cell.no)) :
    FnOk P w K mg base (L2.CX P w) (k + 1) f fd ps (spV b n W) := by
  obtain ⟨oc, od, kV, doc, pm, an, cdv, ct, osl, rfl, lk, hcd⟩ := F.ex
  obtain rfl : cdv = .ref c := hc
  refine fn_of lk hcd S (fun vs H Q E h => (spV_len h).trans hn.symm) fun A outer s H vs Q E hr h => ?_
  obtain ⟨t, ht, tr⟩ := hbody A outer s H E hr
  exact ⟨t, ht, body_of hN tr h⟩
end
end SV
/-! Messages that show a number. -/
namespace PySem
namespace SLX
open PySem.W PySem.Calls PyProof.Rows PySem.HandSPX
def okInt (v : Value) : Prop := ∃ (n : Int) (t : Tok), v = .int n t ∧ n.natAbs.log2 < 1000 ∧ (Str.ofString (toString n)).length ≤ 1000
/-- f'..{part!r}', part an int -/
theorem msg_int {prog : Program} {w : World} {sc : Scope} {par x : Str} {j : Nat} {p1 p2 p3 p4 : Pos} (hk : sc.kind = .function) (hl : sc.names.lookup par = some .local) (hd : (par == ("__debug__" : Str)) = false) (hx : x.length ≤ 1000) :
    MsgOk prog w sc par (.JoinedStr [.Constant (.str x) j p1, .FormattedValue (.Name par p2) 114 none p3] p4) okInt := by
  intro A E s env m v Q hs hn hv ho h
  obtain ⟨n, t, rfl, hb, hz⟩ := ho
  subst hs
  have app : ∀ a b : Str, (a ++ b).length = a.length + b.length := fun a b => by
    show (a.cps ++ b.cps).size = a.cps.size + b.cps.size
    exact Array.size_append
  have e0 : (Str.empty : Str).length = 0 := rfl
  have big : (2000 : Nat) ≤ sizeLine := by rw [sizeLine_eq]; decide
  have hzl : (Str.ofString (toString n)).length ≤ sizeLine := by omega
  refine wpAny_JoinedStr ?_
  show wpAny _ _ (eval (.Constant (.str x) j p1) env) _ _ _
  refine Calls.Constant_str ⟨x, s.toks, rfl, by rw [app, e0]; omega, ?_⟩
  show wpAny _ _ (eval (.FormattedValue (.Name par p2) 114 none p3) env) _ _ _
  refine wpAny_FormattedValue_repr (wpAny_Name (wpAny_loadName_local hk hl hn hv ?_) hd)
  refine pyReprObj_int (by omega) ?_
  refine wpAny_formatField_str ?_ ?_ hzl
  · exact ⟨Str.ofString (toString n), _, rfl, by rw [app, app, e0]; omega, by rw [app, app, e0]; omega, h _ _⟩
  · exact ⟨Str.ofString (toString n), _, rfl, by rw [app, app, e0]; omega, by rw [app, app, e0]; omega, h _ _⟩
end SLX
end PySem
/-! t * n of a tuple that is known. -/
namespace SL
open PySem PySem.Spec PyProof.Rows L2
def rRepV : R2 := fun x y H Q => ∃ (l : Addr) (k : Nat) (xs : List V), x = .ref l ∧ y = .int (k : Int) ∧ H l = some (.tup xs) ∧ xs ≠ [] ∧ k ≤ 1000 ∧ xs.length ≤ 1000 ∧ ∀ p H', Same H H' → H' p = some (.tup (List.replicate k xs).flatten) → (H p = none ∨ (p = l ∧ (List.replicate k xs).flatten = xs)) → Q (.ref p) H'
theorem op_repV {X : Cx} : OpR X (binaryOp .Mult) rRepV := by
  intro pins s σ H x y v u Q I rx ry h
  obtain ⟨l, k, xs, rfl, rfl, hH, hne, hk, hz, q⟩ := h
  have hT : SqT X.K H l xs := SqT.of hH
  by_cases k2 : 2 ≤ k
  · refine op_repT pins s σ H _ _ v u Q I rx ry ⟨l, k, xs, rfl, rfl, hT, hne, by omega, by omega, hz, fun p np => ?_⟩
    have e : ((k : Int)).toNat = k := by omega
    rw [e]
    exact q p _ (same_upd np) upd_same (.inl np)
  · cases rx
    obtain ⟨t, rfl⟩ := ry
    have hT' := hT
    obtain ⟨its, r, ⟨⟨cls, dd, data, sl⟩, ho, hc, n, hd⟩, hs⟩ := I.tuple hT
    simp only at hc hd
    subst hc hd
    have hle : its.length = xs.length := r.length.symm
    have hi : its.toArray.isEmpty = false := by
      cases its with
      | nil =>
        refine absurd (List.eq_nil_of_length_eq_zero ?_) hne
        rw [← hle]
        rfl
      | cons a b => rfl
    have go : ∀ (R : Result → Shared → Prop), True := fun _ => trivial
    by_cases k1 : k = 1
    · subst k1
      refine wpAny_binaryOp_repeat_ref (T := "tuple") (U := "int") (by decide) ⟨_, ho, rfl⟩ (fun s' => typeIs_int s' _ t) noFill_tuple_mul F.fills_int_mul F.slot_int_rmul repeat_tuple F.slot_int_index.lookup
        (call_meets F.slot_int_rmul (typeIs_int s _ t) F.entry_int_rmul (F.args_int_rmul_2 _ _) (int_rmul_tuple _ t l its.toArray n dd sl)
          ⟨ho, rfl, ⟨_, ho, rfl⟩, call_meets F.slot_tuple_mul ⟨_, ho, rfl⟩ F.entry_tuple_mul (F.args_tuple_mul_2 _ _) (tuple_mul1 l its.toArray n dd sl t hi) ⟨ho, ?_⟩⟩)
      have e1 : (List.replicate 1 xs).flatten = xs := by simp
      exact ⟨.ref l, H, I, rfl, q l H (Same.refl H) (by rw [e1]; exact hH) (.inr ⟨rfl, e1⟩)⟩
    · have k0 : k = 0 := by omega
      subst k0
      refine wpAny_binaryOp_repeat_ref (T := "tuple") (U := "int") (by decide) ⟨_, ho, rfl⟩ (fun s' => typeIs_int s' _ t) noFill_tuple_mul F.fills_int_mul F.slot_int_rmul repeat_tuple F.slot_int_index.lookup
        (call_meets F.slot_int_rmul (typeIs_int s _ t) F.entry_int_rmul (F.args_int_rmul_2 _ _) (int_rmul_tuple _ t l its.toArray n dd sl)
          ⟨ho, rfl, ⟨_, ho, rfl⟩, call_meets F.slot_tuple_mul ⟨_, ho, rfl⟩ F.entry_tuple_mul (F.args_tuple_mul_2 _ _) (tuple_mul0 l its.toArray n dd sl t hi) ⟨ho, ?_⟩⟩)
      refine ⟨.ref s.heap.objs.size, _, I.laid (t' := s.toks) (o := .tup []) (fun b ob q => Heap.get?_push_of_some _ q) (Nat.le_refl _) ⟨Nat.zero_le _, _, .nil, IsTup.new _ _⟩, rfl, q _ _ (same_upd (I.hok.fresh (Nat.le_refl _))) upd_same (.inl (I.hok.fresh (Nat.le_refl _)))⟩
end SL
/-! Rows of cells and windows, without heaps. -/
namespace SV
open PySem PySem.Spec PyProof.Rows L2 SL
theorem bits.nil : bits [] := fun _ h => nomatch h
theorem bits.cons {c : Int} {ns : List Int} (h : c = 0 ∨ c = 1) (t : bits ns) : bits (c :: ns) := fun x hx => by
  rcases List.mem_cons.mp hx with rfl | hx
  · exact h
  · exact t x hx
theorem bits.app {ms ns : List Int} (h : bits ms) (t : bits ns) : bits (ms ++ ns) := fun x hx => (List.mem_append.mp hx).elim (h x) (t x)
def numOf (ns : List Int) : Int := ns.foldl (fun n c => 2 * n + c) 0
def digits (N W : Nat) : List Int := (List.range W).map fun i => ((N / 2 ^ (W - 1 - i) % 2 : Nat) : Int)
theorem pow_cast (k : Nat) : ((2 ^ k : Nat) : Int) = 2 ^ k := by rw [Int.natCast_pow]; rfl
theorem numOf_le (ns : List Int) : ∀ (h : bits ns) (n0 : Int) (k : Nat), 0 ≤ n0 → n0 < 2 ^ k → 0 ≤ ns.foldl (fun n c => 2 * n + c) n0 ∧ ns.foldl (fun n c => 2 * n + c) n0 < 2 ^ (k + ns.length) := by
  induction ns with
  | nil => exact fun _ n0 k h1 h2 => ⟨h1, h2⟩
  | cons c r ih =>
    intro h n0 k h1 h2
    have hc := h c (List.mem_cons_self ..)
    have hr : bits r := fun x hx => h x (List.mem_cons_of_mem _ hx)
    have p : (2 : Int) ^ (k + 1) = 2 ^ k * 2 := Int.pow_succ ..
    have := ih hr (2 * n0 + c) (k + 1) (by omega) (by omega)
    rw [List.foldl_cons, List.length_cons, show k + (r.length + 1) = k + 1 + r.length by omega]
    exact this
theorem numOf_at {ns : List Int} (h : bits ns) : 0 ≤ numOf ns ∧ numOf ns < 2 ^ ns.length := by
  have := numOf_le ns h 0 0 (by decide) (by decide)
  rw [Nat.zero_add] at this
  exact this
theorem bits_take {ns : List Int} (h : bits ns) (k : Nat) : bits (ns.take k) := fun x hx => h x (List.mem_of_mem_take hx)
theorem bits_drop {ns : List Int} (h : bits ns) (k : Nat) : bits (ns.drop k) := fun x hx => h x (List.mem_of_mem_drop hx)
def cellAt (r : Nat) (ts cs : List Int) (i : Nat) : Int := ts.getD (numOf ((cs.drop i).take (2 * r + 1))).toNat 0
def sweepOf (r : Nat) (ts cs : List Int) : List Int := (List.range (cs.length - 2 * r)).map (cellAt r ts cs)
theorem cellAt_bit {r : Nat} {ts cs : List Int} {i : Nat} (hb : bits ts) : cellAt r ts cs i = 0 ∨ cellAt r ts cs i = 1 := by
  unfold cellAt
  rw [List.getD_eq_getElem?_getD]
  cases e : ts[(numOf ((cs.drop i).take (2 * r + 1))).toNat]? with
  | none => exact .inl rfl
  | some c => exact hb c (List.mem_of_getElem? e)
theorem sweep_bits {r : Nat} {ts cs : List Int} (hb : bits ts) : bits (sweepOf r ts cs) := fun c hc => by
  obtain ⟨i, _, rfl⟩ := List.mem_map.mp hc
  exact cellAt_bit hb
theorem sweep_len (r : Nat) (ts cs : List Int) : (sweepOf r ts cs).length = cs.length - 2 * r := by
  unfold sweepOf
  rw [List.length_map, List.length_range]
theorem map_range_more {α : Type} (g : Nat → α) (i : Nat) : (List.range (i + 1)).map g = (List.range i).map g ++ [g i] := by
  rw [List.range_succ, List.map_append]
  rfl
def zeros (r : Nat) : List Int := List.replicate r 0
theorem zeros_bits (r : Nat) : bits (zeros r) := fun c hc => .inl (List.eq_of_mem_replicate hc)
def sweptOf (r : Nat) (ts cs : List Int) : List Int := sweepOf r ts (zeros r ++ cs ++ zeros r)
theorem swept_len (r : Nat) (ts cs : List Int) : (sweptOf r ts cs).length = cs.length := by
  unfold sweptOf zeros
  rw [sweep_len, List.length_append, List.length_append, List.length_replicate]
  omega
/-! ### rows of cells swept once and again -/
theorem digits_succ (N k : Nat) : digits N (k + 1) = ((N / 2 ^ k % 2 : Nat) : Int) :: digits N k := by
  unfold digits
  rw [List.range_succ_eq_map, List.map_cons, List.map_map]
  have a : ((N / 2 ^ (k + 1 - 1 - 0) % 2 : Nat) : Int) = ((N / 2 ^ k % 2 : Nat) : Int) := by rw [show k + 1 - 1 - 0 = k by omega]
  have b : (List.range k).map ((fun i => ((N / 2 ^ (k + 1 - 1 - i) % 2 : Nat) : Int)) ∘ Nat.succ) = (List.range k).map fun i => ((N / 2 ^ (k - 1 - i) % 2 : Nat) : Int) := List.map_congr_left fun i hi => by
    show ((N / 2 ^ (k + 1 - 1 - (i + 1)) % 2 : Nat) : Int) = _
    rw [show k + 1 - 1 - (i + 1) = k - 1 - i by omega]
  rw [a, b]
theorem digits_len (N k : Nat) : (digits N k).length = k := by
  unfold digits
  rw [List.length_map, List.length_range]
theorem digits_bits (N k : Nat) : bits (digits N k) := fun c hc => by
  unfold digits at hc
  obtain ⟨i, _, rfl⟩ := List.mem_map.mp hc
  omega
theorem numOf_app (a b : List Int) : numOf (a ++ b) = numOf a * 2 ^ b.length + numOf b := by
  have key : ∀ (b : List Int) (n : Int), b.foldl (fun n c => 2 * n + c) n = n * 2 ^ b.length + b.foldl (fun n c => 2 * n + c) 0 := by
    intro b
    induction b with
    | nil => intro n; simp
    | cons c r ih =>
      intro n
      rw [List.foldl_cons, List.foldl_cons, ih (2 * n + c), ih (2 * 0 + c), List.length_cons]
      have e : (2 : Int) ^ (r.length + 1) = 2 * 2 ^ r.length := by rw [Int.pow_succ, Int.mul_comm]
      rw [e]
      generalize (2 : Int) ^ r.length = z
      generalize List.foldl (fun n c => 2 * n + c) 0 r = y
      rw [Int.add_mul, Int.mul_zero, Int.zero_add, Int.mul_comm 2 n, Int.mul_assoc n 2 z]
      omega
  unfold numOf
  rw [List.foldl_append]
  exact key b _
theorem numOf_one (c : Int) : numOf [c] = c := by
  unfold numOf
  simp
theorem numOf_cons (c : Int) (r : List Int) : numOf (c :: r) = c * 2 ^ r.length + numOf r := by
  rw [show c :: r = [c] ++ r from rfl, numOf_app, numOf_one]
theorem numOf_digits (N : Nat) : ∀ W : Nat, numOf (digits N W) = ((N % 2 ^ W : Nat) : Int)
  | 0 => by
    rw [Nat.pow_zero, Nat.mod_one]
    rfl
  | k + 1 => by
    rw [digits_succ, numOf_cons, numOf_digits N k, digits_len, Nat.mod_pow_succ, Int.natCast_add, Int.natCast_mul, Int.natCast_pow]
    rw [Int.mul_comm, Int.add_comm]
    rfl
theorem numOf_inj : ∀ {a b : List Int}, bits a → bits b → a.length = b.length → numOf a = numOf b → a = b
  | [], [], _, _, _, _ => rfl
  | [], _ :: _, _, _, h, _ => by cases h
  | _ :: _, [], _, _, h, _ => by cases h
  | c :: r, d :: t, ha, hb, h, e => by
    have hr : bits r := fun x hx => ha x (List.mem_cons_of_mem _ hx)
    have ht : bits t := fun x hx => hb x (List.mem_cons_of_mem _ hx)
    have hl : r.length = t.length := by simpa using h
    rw [numOf_cons, numOf_cons, hl] at e
    have n1 := numOf_at hr
    have n2 := numOf_at ht
    rw [hl] at n1
    have hc := ha c (List.mem_cons_self ..)
    have hd := hb d (List.mem_cons_self ..)
    have p0 : (0 : Int) < 2 ^ t.length := Int.pow_pos (by decide)
    generalize (2 : Int) ^ t.length = z at e n1 n2 p0
    have cd : c = d := by
      rcases hc with rfl | rfl <;> rcases hd with rfl | rfl <;> first | rfl | (exfalso; omega)
    subst cd
    rw [numOf_inj hr ht hl (by omega)]
theorem digits_num {ns : List Int} (h : bits ns) : digits (numOf ns).toNat ns.length = ns := by
  have n := numOf_at h
  refine numOf_inj (digits_bits _ _) h (digits_len _ _) ?_
  rw [numOf_digits, Nat.mod_eq_of_lt]
  · omega
  · rw [← pow_cast] at n
    omega
theorem sweep_get {r : Nat} {ts cs : List Int} {i : Nat} (h : i < cs.length - 2 * r) : (sweepOf r ts cs)[i]? = some (cellAt r ts cs i) := by
  unfold sweepOf
  rw [List.getElem?_map, List.getElem?_range h]
  rfl
theorem list_same {α : Type} {a b : List α} {n : Nat} (ha : a.length = n) (hb : b.length = n) (h : ∀ i, i < n → a[i]? = b[i]?) : a = b := by
  refine List.ext_getElem? fun i => ?_
  by_cases c : i < n
  · exact h i c
  · rw [List.getElem?_eq_none (by omega), List.getElem?_eq_none (by omega)]
theorem win_cut {cs : List Int} {i j m k : Nat} (h : j + k ≤ m) : ((((cs.drop i).take m).drop j).take k) = (cs.drop (i + j)).take k := by
  rw [List.drop_take, List.take_take, List.drop_drop, Nat.min_eq_left (by omega)]
theorem cell_cut {r : Nat} {ts cs : List Int} {i j m : Nat} (h : j + (2 * r + 1) ≤ m) : cellAt r ts ((cs.drop i).take m) j = cellAt r ts cs (i + j) := by
  unfold cellAt
  rw [win_cut h]
theorem sweep_cut {r : Nat} {ts cs : List Int} {i m : Nat} (h : i + m + 2 * r ≤ cs.length) : ((sweepOf r ts cs).drop i).take m = sweepOf r ts ((cs.drop i).take (m + 2 * r)) := by
  have l1 : ((cs.drop i).take (m + 2 * r)).length = m + 2 * r := by
    rw [List.length_take, List.length_drop]
    omega
  refine list_same (n := m) ?_ ?_ fun j hj => ?_
  · rw [List.length_take, List.length_drop, sweep_len]
    omega
  · rw [sweep_len, l1]
    omega
  · rw [List.getElem?_take_of_lt hj, List.getElem?_drop, sweep_get (by omega), sweep_get (by rw [l1]; omega), cell_cut (by omega)]
def g2 (r : Nat) (ts : List Int) (s : Nat) (us cs : List Int) : Int := (sweepOf s us (sweepOf r ts cs)).getD 0 0
def behindT (r : Nat) (ts : List Int) (s : Nat) (us : List Int) : List Int := (List.range (2 ^ (2 * (r + s) + 1))).map fun n => g2 r ts s us (digits n (2 * (r + s) + 1))
theorem behind_len (r : Nat) (ts : List Int) (s : Nat) (us : List Int) : (behindT r ts s us).length = 2 ^ (2 * (r + s) + 1) := by
  unfold behindT
  rw [List.length_map, List.length_range]
theorem g2_bit {r : Nat} {ts : List Int} {s : Nat} {us cs : List Int} (h : bits us) : g2 r ts s us cs = 0 ∨ g2 r ts s us cs = 1 := by
  unfold g2
  rw [List.getD_eq_getElem?_getD]
  cases e : (sweepOf s us (sweepOf r ts cs))[0]? with
  | none => exact .inl rfl
  | some c => exact sweep_bits h c (List.mem_of_getElem? e)
theorem behind_bits {r : Nat} {ts : List Int} {s : Nat} {us : List Int} (h : bits us) : bits (behindT r ts s us) := fun c hc => by
  obtain ⟨n, _, rfl⟩ := List.mem_map.mp hc
  exact g2_bit h
theorem getD_of {ts : List Int} {i : Nat} {c : Int} (h : ts[i]? = some c) : ts.getD i 0 = c := by
  rw [List.getD_eq_getElem?_getD, h]
  rfl
theorem g2_one {r : Nat} {ts : List Int} {s : Nat} {us cs : List Int} (h : cs.length = 2 * (r + s) + 1) : sweepOf s us (sweepOf r ts cs) = [g2 r ts s us cs] := by
  have l1 : (sweepOf s us (sweepOf r ts cs)).length = 1 := by
    rw [sweep_len, sweep_len]
    omega
  unfold g2
  match h : sweepOf s us (sweepOf r ts cs), l1 with
  | [c], _ => rfl
theorem sweep_sweep {r : Nat} {ts : List Int} {s : Nat} {us cs : List Int} (hb : bits cs) : sweepOf (r + s) (behindT r ts s us) cs = sweepOf s us (sweepOf r ts cs) := by
  refine list_same (n := cs.length - 2 * (r + s)) (sweep_len ..) (by rw [sweep_len, sweep_len]; omega) fun i hi => ?_
  rw [sweep_get hi, sweep_get (by rw [sweep_len]; omega)]
  refine congrArg some ?_
  have lw : ((cs.drop i).take (2 * (r + s) + 1)).length = 2 * (r + s) + 1 := by
    rw [List.length_take, List.length_drop]
    omega
  have hw := bits_take (bits_drop hb i) (2 * (r + s) + 1)
  have e1 : cellAt (r + s) (behindT r ts s us) cs i = g2 r ts s us ((cs.drop i).take (2 * (r + s) + 1)) := by
    have nl := numOf_at hw
    have dn := digits_num hw
    rw [lw, ← pow_cast] at nl
    rw [lw] at dn
    unfold cellAt
    refine getD_of ?_
    unfold behindT
    rw [List.getElem?_map, List.getElem?_range (by omega)]
    show some (g2 r ts s us (digits _ _)) = _
    rw [dn]
  rw [e1]
  unfold g2
  refine getD_of ?_
  rw [sweep_get (by rw [sweep_len, lw]; omega)]
  refine congrArg some ?_
  have e2 : sweepOf r ts ((cs.drop i).take (2 * (r + s) + 1)) = ((sweepOf r ts cs).drop i).take (2 * s + 1) := by
    rw [sweep_cut (by omega), show 2 * s + 1 + 2 * r = 2 * (r + s) + 1 by omega]
  rw [e2, cell_cut (by omega), Nat.add_zero]
theorem behind_assoc {r s u : Nat} {ts us vs : List Int} (ht : bits ts) : behindT (r + s) (behindT r ts s us) u vs = behindT r ts (s + u) (behindT s us u vs) := by
  unfold behindT
  rw [Nat.add_assoc]
  refine List.map_congr_left fun n _ => ?_
  show g2 (r + s) (behindT r ts s us) u vs _ = g2 r ts (s + u) (behindT s us u vs) _
  unfold g2
  rw [sweep_sweep (digits_bits _ _), sweep_sweep (sweep_bits ht)]
theorem sweep_same {cs : List Int} (hb : bits cs) : sweepOf 0 [0, 1] cs = cs := by
  refine list_same (n := cs.length) (sweep_len ..) rfl fun i hi => ?_
  rw [sweep_get (by omega), List.getElem?_eq_getElem hi]
  refine congrArg some ?_
  unfold cellAt
  rw [show (cs.drop i).take (2 * 0 + 1) = [cs[i]] by rw [List.drop_eq_getElem_cons hi]; rfl, numOf_one]
  rcases hb _ (List.getElem_mem hi) with e | e <;> rw [e] <;> rfl
theorem digit_cell {r : Nat} {ts : List Int} {n : Nat} (h : n < 2 ^ (2 * r + 1)) : (sweepOf r ts (digits n (2 * r + 1))).getD 0 0 = ts.getD n 0 := by
  refine getD_of ?_
  rw [sweep_get (by rw [digits_len]; omega)]
  refine congrArg some ?_
  unfold cellAt
  rw [List.drop_zero, List.take_of_length_le (by rw [digits_len]; exact Nat.le_refl _), numOf_digits, Nat.mod_eq_of_lt h]
  rfl
theorem tab_back {r : Nat} {ts : List Int} (lt : ts.length = 2 ^ (2 * r + 1)) : (List.range (2 ^ (2 * r + 1))).map (fun n => ts.getD n 0) = ts := by
  refine list_same (n := 2 ^ (2 * r + 1)) (by rw [List.length_map, List.length_range]) lt fun i hi => ?_
  rw [List.getElem?_map, List.getElem?_range hi, List.getElem?_eq_getElem (by omega)]
  show some (ts.getD i 0) = _
  rw [List.getD_eq_getElem?_getD, List.getElem?_eq_getElem (by omega)]
  rfl
theorem behind_same {r : Nat} {ts : List Int} (lt : ts.length = 2 ^ (2 * r + 1)) (ht : bits ts) : behindT r ts 0 [0, 1] = ts := by
  refine Eq.trans ?_ (tab_back lt)
  unfold behindT
  rw [Nat.add_zero]
  refine List.map_congr_left fun n hn => ?_
  unfold g2
  rw [sweep_same (sweep_bits ht)]
  exact digit_cell (List.mem_range.mp hn)
theorem same_behind {r : Nat} {ts : List Int} (lt : ts.length = 2 ^ (2 * r + 1)) : behindT 0 [0, 1] r ts = ts := by
  refine Eq.trans ?_ (tab_back lt)
  unfold behindT
  rw [Nat.zero_add]
  refine List.map_congr_left fun n hn => ?_
  unfold g2
  rw [sweep_same (digits_bits _ _)]
  exact digit_cell (List.mem_range.mp hn)
/-! ### light cells around -/
def pad (a b : Nat) (cs : List Int) : List Int := zeros a ++ cs ++ zeros b
theorem pad_len (a b : Nat) (cs : List Int) : (pad a b cs).length = a + cs.length + b := by
  unfold pad zeros
  rw [List.length_append, List.length_append, List.length_replicate, List.length_replicate]
theorem zeros_add (a b : Nat) : zeros (a + b) = zeros a ++ zeros b := by
  unfold zeros
  rw [List.replicate_append_replicate]
theorem pad_drop (k a b : Nat) (cs : List Int) : (pad (k + a) b cs).drop k = pad a b cs := by
  unfold pad
  rw [zeros_add, List.append_assoc, List.append_assoc, List.drop_append_of_le_length (by unfold zeros; rw [List.length_replicate]; exact Nat.le_refl _), List.drop_of_length_le (by unfold zeros; rw [List.length_replicate]; exact Nat.le_refl _), List.nil_append, List.append_assoc]
theorem pad_take {a b k m : Nat} {cs : List Int} (h : m ≤ a + cs.length + b) : (pad a (b + k) cs).take m = (pad a b cs).take m := by
  have e : pad a (b + k) cs = pad a b cs ++ zeros k := by
    unfold pad
    rw [zeros_add]
    simp only [List.append_assoc]
  rw [e, List.take_append_of_le_length (by rw [pad_len]; exact h)]
theorem pad_pad (a b c d : Nat) (cs : List Int) : pad a b (pad c d cs) = pad (a + c) (d + b) cs := by
  unfold pad
  rw [zeros_add, zeros_add]
  simp only [List.append_assoc]
theorem pad_bits {a b : Nat} {cs : List Int} (h : bits cs) : bits (pad a b cs) := ((zeros_bits a).app h).app (zeros_bits b)
theorem mid_cut {S : List Int} {s i m : Nat} (h1 : s ≤ i) (h2 : i - s + m ≤ S.length) : ((pad s s S).drop i).take m = (S.drop (i - s)).take m := by
  rw [show i = s + (i - s) by omega, ← List.drop_drop, show pad s s S = pad (s + 0) s S by rw [Nat.add_zero], pad_drop, show s + (i - s) - s = i - s by omega]
  unfold pad
  rw [show zeros 0 = [] from rfl, List.nil_append, List.drop_append_of_le_length (by omega), List.take_append_of_le_length (by rw [List.length_drop]; omega)]
theorem swept_pad (r : Nat) (ts cs : List Int) : sweptOf r ts cs = sweepOf r ts (pad r r cs) := rfl
theorem two_same {r s : Nat} {ts us cs : List Int} (hs : s ≤ 8) (hb : bits cs) : ((sweptOf s us (sweptOf r ts (zeros 8 ++ cs ++ zeros 8))).drop 8).take cs.length = sweptOf (r + s) (behindT r ts s us) cs := by
  rw [swept_pad (r + s), sweep_sweep (pad_bits hb)]
  show ((sweepOf s us (pad s s (sweepOf r ts (pad r r (pad 8 8 cs))))).drop 8).take cs.length = _
  rw [pad_pad]
  have lA : (sweepOf r ts (pad (r + 8) (8 + r) cs)).length = cs.length + 16 := by
    rw [sweep_len, pad_len]
    omega
  rw [sweep_cut (by rw [pad_len, lA]; omega), mid_cut hs (by rw [lA]; omega), sweep_cut (by rw [pad_len]; omega)]
  have e : ((pad (r + 8) (8 + r) cs).drop (8 - s)).take (cs.length + 2 * s + 2 * r) = pad (r + s) (r + s) cs := by
    rw [show r + 8 = (8 - s) + (r + s) by omega, pad_drop, show 8 + r = (r + s) + (8 - s) by omega, pad_take (by omega), List.take_of_length_le]
    rw [pad_len]
    omega
  rw [e]
theorem plain_same {r s : Nat} {ts us cs : List Int} {i : Nat} (hb : bits cs) (h1 : s ≤ i) (h2 : i + s < cs.length) : (sweptOf s us (sweptOf r ts cs))[i]? = (sweptOf (r + s) (behindT r ts s us) cs)[i]? := by
  rw [swept_pad (r + s), sweep_sweep (pad_bits hb)]
  show (sweepOf s us (pad s s (sweepOf r ts (pad r r cs))))[i]? = _
  have lA : (sweepOf r ts (pad r r cs)).length = cs.length := by
    rw [sweep_len, pad_len]
    omega
  rw [sweep_get (by rw [pad_len, lA]; omega), sweep_get (by rw [sweep_len, pad_len]; omega)]
  refine congrArg some ?_
  unfold cellAt
  rw [mid_cut h1 (by rw [lA]; omega), sweep_cut (by rw [pad_len]; omega), sweep_cut (by rw [pad_len]; omega)]
  have e : ((pad r r cs).drop (i - s)).take (2 * s + 1 + 2 * r) = ((pad (r + s) (r + s) cs).drop i).take (2 * s + 1 + 2 * r) := by
    rw [show i = s + (i - s) by omega, show r + s = s + r by omega, ← List.drop_drop, pad_drop, show s + (i - s) - s = i - s by omega]
    have t1 : ∀ (l : List Int) (a b : Nat), (l.drop a).take b = (l.take (a + b)).drop a := fun l a b => by rw [List.drop_take]; congr 1; omega
    rw [t1, t1, show s + r = r + s by omega, pad_take (by omega)]
  rw [e]

def genRows : Nat → List (List Int)
  | 0 => [[]]
  | n + 1 => (genRows n).map (· ++ [0]) ++ (genRows n).map (· ++ [1])
theorem gen_len : ∀ n, (genRows n).length = 2 ^ n
  | 0 => rfl
  | n + 1 => by
    show ((genRows n).map (· ++ [0]) ++ (genRows n).map (· ++ [1])).length = _
    rw [List.length_append, List.length_map, List.length_map, gen_len n, Nat.pow_succ]
    omega
theorem gen_row : ∀ {n : Nat} {r : List Int}, r ∈ genRows n → r.length = n ∧ bits r
  | 0, r, h => by
    rw [List.mem_singleton.mp h]
    exact ⟨rfl, bits.nil⟩
  | n + 1, r, h => by
    rcases List.mem_append.mp h with h | h
    · obtain ⟨s, hs, rfl⟩ := List.mem_map.mp h
      obtain ⟨l, b⟩ := gen_row hs
      exact ⟨by rw [List.length_append, l]; rfl, b.app (bits.cons (.inl rfl) bits.nil)⟩
    · obtain ⟨s, hs, rfl⟩ := List.mem_map.mp h
      obtain ⟨l, b⟩ := gen_row hs
      exact ⟨by rw [List.length_append, l]; rfl, b.app (bits.cons (.inr rfl) bits.nil)⟩
theorem pow_small {n : Nat} (h : n ≤ 13) : 2 ^ n ≤ 8192 := Nat.le_trans (Nat.pow_le_pow_right (by decide) h) (by decide)
def rowsN (L : Nat) : List (List Int) := (List.range (2 ^ L)).map fun n => digits n L
theorem rowsN_len (L : Nat) : (rowsN L).length = 2 ^ L := by
  unfold rowsN
  rw [List.length_map, List.length_range]
theorem rowsN_get {L n : Nat} (h : n < 2 ^ L) : (rowsN L)[n]? = some (digits n L) := by
  unfold rowsN
  rw [List.getElem?_map, List.getElem?_range h]
  rfl
theorem rowsN_row {L : Nat} {r : List Int} (h : r ∈ rowsN L) : r.length = L ∧ bits r := by
  obtain ⟨n, _, rfl⟩ := List.mem_map.mp h
  exact ⟨digits_len _ _, digits_bits _ _⟩
theorem num_lt {r : List Int} (h : bits r) : (numOf r).toNat < 2 ^ r.length := by
  obtain ⟨h0, h1⟩ := numOf_at h
  rw [← pow_cast] at h1
  omega
theorem rowsN_mem {L : Nat} {r : List Int} (l : r.length = L) (b : bits r) : r ∈ rowsN L := by
  subst l
  exact List.mem_map.mpr ⟨(numOf r).toNat, List.mem_range.mpr (num_lt b), digits_num b⟩
theorem num_digits {n L : Nat} (h : n < 2 ^ L) : numOf (digits n L) = (n : Int) := by
  rw [numOf_digits, Nat.mod_eq_of_lt h]
theorem code_num : ∀ r : List Int, TS.code 2 r = numOf r
  | [] => rfl
  | c :: r => by
    show c * 2 ^ r.length + TS.code 2 r = _
    rw [code_num r, numOf_cons]
theorem rowsN_up (L : Nat) : (rowsN L).Pairwise (fun a b => TS.code 2 a < TS.code 2 b) := by
  unfold rowsN
  rw [List.pairwise_map]
  refine List.Pairwise.imp_of_mem ?_ List.pairwise_lt_range
  intro a b ha hb lt
  rw [code_num, code_num, num_digits (List.mem_range.mp ha), num_digits (List.mem_range.mp hb)]
  omega
theorem gen_nodup : ∀ n, (genRows n).Nodup
  | 0 => by simp [genRows]
  | n + 1 => by
    show ((genRows n).map (· ++ [0]) ++ (genRows n).map (· ++ [1])).Nodup
    have one : ∀ c : Int, ((genRows n).map (· ++ [c])).Nodup := fun c => by
      show List.Pairwise _ _
      rw [List.pairwise_map]
      exact (gen_nodup n).imp fun {a b} ne e => ne (List.append_cancel_right e)
    rw [List.nodup_append]
    refine ⟨one 0, one 1, fun a ha b hb e => ?_⟩
    obtain ⟨x, _, rfl⟩ := List.mem_map.mp ha
    obtain ⟨y, _, rfl⟩ := List.mem_map.mp hb
    have z := (List.append_inj' e rfl).2
    cases z
theorem gen_mem : ∀ {n : Nat} {r : List Int}, r.length = n → bits r → r ∈ genRows n
  | 0, r, l, _ => by
    rw [List.eq_nil_of_length_eq_zero l]
    exact List.mem_singleton.mpr rfl
  | n + 1, r, l, b => by
    have ne : r ≠ [] := fun z => by rw [z] at l; cases l
    have e := List.dropLast_concat_getLast ne
    have ih := gen_mem (n := n) (r := r.dropLast) (by rw [List.length_dropLast]; omega) fun x hx => b x (List.mem_of_mem_take (by rw [List.dropLast_eq_take] at hx; exact hx))
    show r ∈ (genRows n).map (· ++ [0]) ++ (genRows n).map (· ++ [1])
    rcases b _ (List.getLast_mem ne) with q | q
    · exact List.mem_append.mpr (.inl (List.mem_map.mpr ⟨_, ih, by rw [← q]; exact e⟩))
    · exact List.mem_append.mpr (.inr (List.mem_map.mpr ⟨_, ih, by rw [← q]; exact e⟩))
theorem rows_eq {n : Nat} {rs : List (List Int)} (pm : rs.Perm (genRows n)) (pw : rs.Pairwise (fun a b => TS.code 2 a ≤ TS.code 2 b)) : rs = rowsN n := by
  have nd : (rowsN n).Nodup := (rowsN_up n).imp fun {a b} lt e => by rw [e] at lt; omega
  have p2 : (genRows n).Perm (rowsN n) := (List.perm_ext_iff_of_nodup (gen_nodup n) nd).mpr fun r => ⟨fun h => rowsN_mem (gen_row h).1 (gen_row h).2, fun h => gen_mem (rowsN_row h).1 (rowsN_row h).2⟩
  refine List.Perm.eq_of_pairwise (le := fun a b => TS.code 2 a ≤ TS.code 2 b) (fun a b ha hb h1 h2 => ?_) pw ((rowsN_up n).imp fun {a b} lt => Int.le_of_lt lt) (pm.trans p2)
  obtain ⟨l1, b1⟩ := gen_row (pm.mem_iff.mp ha)
  obtain ⟨l2, b2⟩ := rowsN_row hb
  rw [code_num, code_num] at h1 h2
  exact numOf_inj b1 b2 (by omega) (by omega)
def rowsTill (m : Nat) : List (List Int) := (List.range m).flatMap rowsN
theorem rowsTill_succ (m : Nat) : rowsTill (m + 1) = rowsTill m ++ rowsN m := by
  unfold rowsTill
  rw [List.range_succ, List.flatMap_append]
  simp
theorem rowsTill_len : ∀ m, (rowsTill m).length + 1 = 2 ^ m
  | 0 => rfl
  | m + 1 => by
    have ih := rowsTill_len m
    rw [rowsTill_succ, List.length_append, rowsN_len, Nat.pow_succ]
    omega
theorem rowsTill_row {m : Nat} {r : List Int} (h : r ∈ rowsTill m) : r.length < m ∧ bits r := by
  obtain ⟨L, hL, hr⟩ := List.mem_flatMap.mp h
  obtain ⟨l, b⟩ := rowsN_row hr
  have := List.mem_range.mp hL
  exact ⟨by omega, b⟩
theorem len256 {m : Nat} (h : m ≤ 8) : 2 ^ m ≤ 256 := Nat.le_trans (Nat.pow_le_pow_right (by decide) h) (by decide)
theorem numOf_snoc (a : List Int) (c : Int) : numOf (a ++ [c]) = 2 * numOf a + c := by
  unfold numOf
  rw [List.foldl_append]
  rfl
end SV
/-! The value layer: rows of cells sorted, xs.extend(t), sums of tuples. -/
namespace SV
open PySem PySem.Spec PyProof.Rows L2 SL
theorem paired_perm {α β : Type} {F : α → β → Prop} {ys vs : List α} (p : ys.Perm vs) : ∀ {rs : List β}, Paired F vs rs → ∃ rs', rs'.Perm rs ∧ Paired F ys rs' := by
  induction p with
  | nil => exact fun h => ⟨_, List.Perm.refl _, h⟩
  | cons x _ ih =>
    intro rs h
    cases h with
    | cons a t =>
      obtain ⟨r, h1, h2⟩ := ih t
      exact ⟨_ :: r, h1.cons _, .cons a h2⟩
  | swap x y l =>
    intro rs h
    cases h with
    | cons a t =>
      cases t with
      | cons b t => exact ⟨_ :: _ :: _, List.Perm.swap _ _ _, .cons b (.cons a t)⟩
  | trans _ _ i1 i2 =>
    intro rs h
    obtain ⟨r1, h1, h2⟩ := i2 h
    obtain ⟨r2, h3, h4⟩ := i1 h2
    exact ⟨r2, h3.trans h1, h4⟩
/-- rows at their addresses -/
abbrev RowsAt (G : Hp) : List V → List (List Int) → Prop := Paired fun v r => ∃ a, v = V.ref a ∧ G a = some (.tup (r.map V.int)) ∧ r.length ≤ 100000
theorem RpL.rows {pp : Addr} {G : Hp} : ∀ {rs : List (List Int)} {vs : List V}, RpL pp G vs (rs.map rowV) → RowsAt G vs rs
  | [], _, h => by
    cases h
    exact .nil
  | r :: rs, _, h => by
    cases h with
    | cons a t =>
      cases a with
      | tup h k z =>
        obtain rfl := k.ints
        rw [List.length_map] at z
        exact .cons ⟨_, rfl, h, z⟩ (RpL.rows t)
theorem RowsAt.rp {pp : Addr} {G : Hp} : ∀ {rs : List (List Int)} {vs : List V}, RowsAt G vs rs → RpL pp G vs (rs.map rowV)
  | _, _, .nil => .nil
  | r :: _, _, .cons ⟨a, e, h, z⟩ t => by
    rw [e]
    exact .cons (.tup h (RpL.toInts r) (by rw [List.length_map]; exact z)) (RowsAt.rp t)
theorem RowsAt.pw {K : PySem.W.Frag} {G H : Hp} (w : Vw G H) {R : List Int → List Int → Prop} : ∀ {vs : List V} {rs : List (List Int)}, RowsAt G vs rs → vs.Pairwise (fun x y => ∀ n m, TupI K H x n → TupI K H y m → R n m) → rs.Pairwise R
  | _, _, .nil, _ => List.Pairwise.nil
  | _, _, .cons (l₁ := vs) (l₂ := rs) ⟨a, e, h, _⟩ t, p => by
    subst e
    have p' := List.pairwise_cons.mp p
    refine List.pairwise_cons.mpr ⟨fun r hr => ?_, RowsAt.pw w t p'.2⟩
    have key : ∀ {vs : List V} {rs : List (List Int)}, RowsAt G vs rs → ∀ r ∈ rs, ∃ v ∈ vs, TupI K H v r := by
      intro vs rs t
      induction t with
      | nil => exact fun _ z => nomatch z
      | cons x t ih =>
        intro r hr
        obtain ⟨b, rfl, hb, _⟩ := x
        rcases List.mem_cons.mp hr with rfl | hr
        · exact ⟨_, List.mem_cons_self, b, rfl, SqT.of (w.tup hb)⟩
        · obtain ⟨v, h1, h2⟩ := ih r hr
          exact ⟨v, List.mem_cons_of_mem _ h1, h2⟩
    obtain ⟨v, h1, h2⟩ := key t r hr
    exact p'.1 v h1 _ _ ⟨a, rfl, SqT.of (w.tup h)⟩ h2
theorem cr_sortRK {X : Cx} (K : PySem.W.Frag) (h : X.K = K := by rfl) : CallR X (.builtin "sorted") (rSortTA K) := by subst h; exact cr_sortTA
/-- sorted(rows): rows of cells, all of one length -/
def bSortR : FB := fun us post => ∃ (rs : List (List Int)) (d : Nat), us = [.lst (rs.map rowV)] ∧ (2 ≤ rs.length → 1 ≤ d) ∧ (∀ r ∈ rs, r.length = d ∧ bits r) ∧ ∀ rs' : List (List Int), rs'.Perm rs → rs'.Pairwise (fun a b => TS.code 2 a ≤ TS.code 2 b) → post (.lst (rs'.map rowV))
theorem b_sortR {K : PySem.W.Frag} : CallOkF (rSortTA K) bSortR := by
  intro b pp q G H vs us Q post w p hv hF k
  obtain ⟨rs, d, rfl, hd, hr, hp⟩ := hF
  cases hv with
  | cons r t =>
    cases t
    cases r with
    | lst h kk z =>
      have ra := kk.rows
      refine ⟨_, _, d, 2, rfl, SqL.of h, fun l => hd (by rw [kk.length, List.length_map] at l; exact l), fun x hx => ?_, fun ys l pm pw nl => ?_⟩
      · obtain ⟨i, e⟩ := List.mem_iff_getElem?.mp hx
        obtain ⟨u, eu, hu⟩ := kk.get e
        rw [List.getElem?_map] at eu
        cases er : rs[i]? with
        | none => rw [er] at eu; cases eu
        | some r =>
          rw [er] at eu
          cases eu
          obtain ⟨l1, b1⟩ := hr r (List.mem_of_getElem? er)
          cases hu with
          | tup h2 k2 z2 =>
            obtain rfl := k2.ints
            refine ⟨r, ⟨_, rfl, SqT.of (w.tup h2)⟩, l1, fun c hc => ?_⟩
            rcases b1 c hc with rfl | rfl <;> decide
      · obtain ⟨rs', h1, h2⟩ := paired_perm pm ra
        refine k l _ _ _ (hp rs' h1 (RowsAt.pw w h2 pw)) (Gr.newH w p nl) nl (w.free nl) upd_same (.lst (RowsAt.rp h2) ?_)
        rw [List.length_map, h1.length_eq]
        rw [List.length_map] at z
        exact z
def bSortT : FB := fun us post => ∃ ns : List Int, us = [.tup (ns.map U.int)] ∧ ∀ ms : List Int, ms.Perm ns → ms.Pairwise (· ≤ ·) → post (.lst (ms.map U.int))
theorem b_sortT {K : PySem.W.Frag} : CallOkF (rSortTI K) bSortT := by
  intro b pp q G H vs us Q post w p hv hF k
  obtain ⟨ns, rfl, hp⟩ := hF
  cases hv with
  | cons r t =>
    cases t
    cases r with
    | tup h kk z =>
      obtain rfl := kk.ints
      refine ⟨_, ns, rfl, SqT.of (w.tup h), fun ms d pm pw nd => k d _ _ _ (hp ms pm pw) (Gr.newH w p nd) nd (w.free nd) upd_same (.lst (RpL.toInts ms) ?_)⟩
      rw [List.length_map, pm.length_eq]
      rw [List.length_map] at z
      exact z
def bSumT : FB := fun us post => ∃ ns : List Int, us = [.tup (ns.map U.int)] ∧ post (.int ns.sum)
theorem b_sumT {K : PySem.W.Frag} : CallOk (rSumT K) bSumT := by
  intro b pp q G H vs us Q post w p hv hF k
  obtain ⟨ns, rfl, hp⟩ := hF
  cases hv with
  | cons r t =>
    cases t
    cases r with
    | tup h kk z =>
      obtain rfl := kk.ints
      exact ⟨_, ns, rfl, SqT.of (w.tup h), k _ _ G H hp (Gr.refl w p) (.int _)⟩
section
variable {Z : Zc} {te : TE} {we : WE}
/-- xs.extend(t), t a tuple -/
def wExtendT (i : Nat) (we : WE) : WS := fun V ρ => ∃ us, ρ[i]? = some (.ow (.lst us)) ∧ we ρ fun x => ∃ ws, x = .tup ws ∧ us.length + ws.length ≤ 100000 ∧ V.nx (ρ.set i (.ow (.lst (us ++ ws))))
theorem s_extendT {K : PySem.W.Frag} {i : Nat} (h : TrE Z te we) : TrS Z (tDrop (tBM K "list" (rExtendT K) (tVar i) (tCons te tNil))) (wExtendT i we) := fun V D σ ρ G H S hw B => by
  obtain ⟨us, e, p⟩ := hw
  obtain ⟨a, vs, e1, h1, _, _⟩ := ow_lst S e
  refine ⟨_, e1, .inl ⟨rfl, vs, SqL.of h1⟩, h σ ρ G H _ _ S p fun v u G1 H1 p1 g1 r1 => ?_⟩
  obtain ⟨ws, rfl, hl, p2⟩ := p1
  have S1 := S.step g1
  obtain ⟨a', vs', e1', h1', k', z'⟩ := ow_lst S1 e
  rw [e1] at e1'
  cases e1'
  cases r1 with
  | tup h2 k2 z2 =>
    refine ⟨a, _, vs', _, rfl, rfl, h1', SqT.of (S1.vw.tup h2), Nat.le_of_lt (lineN (by rw [k'.length, k2.length]; exact hl)), ?_⟩
    exact B.nx _ _ G1 _ (S1.put e e1 (.lst (RpL.append k2 k') (by rw [List.length_append]; exact hl))) (g1.ex.trans (ow_ex S1 e e1)) p2
end
/-- reversed(range(n)) -/
def downto (n : Nat) : List U := (List.range n).map fun (k : Nat) => U.int ((n : Int) - 1 - (k : Int))
theorem downto_len (n : Nat) : (downto n).length = n := by simp [downto]
theorem downto_get {n i : Nat} (h : i < n) : (downto n)[i]? = some (.int ((n : Int) - 1 - (i : Int))) := by
  unfold downto
  rw [List.getElem?_map, List.getElem?_range h]
  rfl
theorem downto_at {n i : Nat} {u : U} (h : (downto n)[i]? = some u) : i < n ∧ u = .int ((n - 1 - i : Nat) : Int) := by
  have l : i < n := by
    have := (List.getElem?_eq_some_iff.mp h).1
    rwa [downto_len] at this
  rw [downto_get l] at h
  cases h
  exact ⟨l, congrArg U.int (by omega)⟩
section
variable {Z : Zc} {te : TE} {we : WE}
def wRevR (we : WE) : WA := fun ρ post => we ρ fun x => ∃ n : Nat, x = .int (n : Int) ∧ n ≤ 100000 ∧ post (downto n)
theorem i_revR (h : TrE Z te we) : TrI Z (iRevR (tRg1 te)) (wRevR we) := fun σ ρ G H S post R hw q => h σ ρ G H _ _ S hw fun v x G1 H1 w1 g1 h1 => by
  obtain ⟨n, rfl, hn, p⟩ := w1
  cases h1
  have e1 : ((n : Int) - 0).toNat = n := by omega
  have e2 : (0 : Int) + (n : Int) - 1 = (n : Int) - 1 := by omega
  refine ⟨(n : Int), rfl, by omega, by omega, by omega, by omega, ?_⟩
  rw [e1, e2]
  refine q _ _ _ _ _ G1 H1 p g1 (downto_len n) hn walk_rangeC (fun _ _ _ _ => trivial) fun i x G' H' H'' hi s' w' pl y => ?_
  obtain ⟨rfl, rfl⟩ := y
  refine ⟨_, G', downto_get hi, Gr.refl w' pl, ?_⟩
  show Rp Z.pp G' (V.int ((n : Int) - 1 + (i : Nat) * -1)) _
  rw [show (n : Int) - 1 + (i : Nat) * -1 = (n : Int) - 1 - (i : Nat) by omega]
  exact .int _
end
theorem okMsg_int {n : Int} (h : n.natAbs.log2 < 1000 := by decide) (h2 : (Str.ofString (toString n)).length ≤ 1000 := by decide +kernel) : okMsg PySem.SLX.okInt (.int n) := fun v pp G val r e => by
  cases r
  obtain ⟨t, rfl⟩ := e
  exact ⟨_, _, rfl, h, h2⟩
theorem fadd_row {r s : List Int} (h : r.length + s.length ≤ 100000) : fAdd (rowV r) (rowV s) = some (rowV (r ++ s)) := by
  show (if (r.map U.int).length + (s.map U.int).length ≤ 100000 then some (U.tup (r.map U.int ++ s.map U.int)) else none) = _
  rw [if_pos (by rw [List.length_map, List.length_map]; exact h), ← List.map_append]
/-- a thing picked from a menu -/
theorem pickU (P : U → Prop) {us : List U} {n : Nat} {post : U → Prop} {d : Int} (d0 : 0 ≤ d) (d1 : d < n) (hl : us.length = n) (h : ∀ u ∈ us, P u) (k : ∀ u, P u → post u) : ∃ u, fIx (.lst us) (.int d) = some u ∧ post u := by
  obtain ⟨u, hu⟩ : ∃ u, us[d.toNat]? = some u := ⟨_, List.getElem?_eq_getElem (by omega)⟩
  exact ⟨u, atI_int d0 hu, k u (h u (List.mem_of_getElem? hu))⟩
/-! ### a list taken apart -/
theorem pg_lstK {X : Cx} {pos : Pos} {es : List Expr} {k : Nat} {t : TGs} {n : Nat} (K : PySem.W.Frag) (hc : X.calm = true) (h : PGs X es t) (e : X.K = K := by rfl) (hn : (assignEach es X.env).length = n := by rfl) (hst : (assignEach es X.env).findIdx? (·.1) = none := by rfl) : PG X (.Tuple es k pos) (gLst K n t) := by
  subst e
  exact pg_lst hc h hn hst
section
variable {Z : Zc}
def wgLst (n : Nat) (ws : WGs) : WG := fun u ρ post => ∃ us, u = .lst us ∧ us.length = n ∧ ws us ρ post
theorem g_lst {K : PySem.W.Frag} {n : Nat} {gs : TGs} {ws : WGs} {vs : List Nat} (hs : TrGs Z gs ws vs) : TrG Z (gLst K n gs) (wgLst n ws) vs := fun v u σ ρ G H post Q S r hw q => by
  obtain ⟨us, rfl, l, p⟩ := hw
  cases r with
  | lst h k z => exact ⟨_, _, rfl, SqL.of (S.vw.lst h), by rw [k.length, l], hs _ us σ ρ G H _ _ S k p q⟩
end
/-! ### a list, a tuple some times -/
def repU (us : List U) : Nat → List U
  | 0 => []
  | k + 1 => us ++ repU us k
theorem repU_len (us : List U) : ∀ k, (repU us k).length = k * us.length
  | 0 => by rw [Nat.zero_mul]; rfl
  | k + 1 => by
    show (us ++ repU us k).length = _
    rw [List.length_append, repU_len us k, Nat.succ_mul, Nat.add_comm]
theorem RpL.rep {pp : Addr} {G : Hp} {vs : List V} {us : List U} (h : RpL pp G vs us) : ∀ k, RpL pp G (List.replicate k vs).flatten (repU us k)
  | 0 => .nil
  | k + 1 => by
    rw [List.replicate_succ, List.flatten_cons]
    exact RpL.append (RpL.rep h k) h
def fRepL : U → U → Option U
  | .lst us, .int k => if 0 ≤ k ∧ k ≤ 1000 ∧ us.length ≤ 100 then some (.lst (repU us k.toNat)) else none
  | _, _ => none
theorem rep_small {n k : Nat} (h1 : n ≤ 100) (h2 : k ≤ 1000) : k * n ≤ 100000 := Nat.mul_le_mul h2 h1
theorem o_repL : OpOkF rRep fRepL := by
  intro b pp q G H v1 v2 x y u Q w p h1 h2 e k
  cases h1 <;> first | cases e | skip
  rename_i a vs us h kk z
  cases h2 <;> first | cases e | skip
  rename_i n
  have e' : (if 0 ≤ n ∧ n ≤ 1000 ∧ us.length ≤ 100 then some (U.lst (repU us n.toNat)) else none) = some u := e
  by_cases c : 0 ≤ n ∧ n ≤ 1000 ∧ us.length ≤ 100
  · rw [if_pos c] at e'
    cases e'
    have sm : n.toNat * us.length ≤ 100000 := rep_small c.2.2 (by omega)
    exact ⟨a, n, vs, rfl, rfl, h, by omega, by omega, by rw [kk.length, Nat.mul_comm]; exact Nat.le_of_lt (lineN sm), fun d nd => k d _ _ (Gr.newH w p nd) nd (w.free nd) upd_same (.lst (RpL.rep kk _) (by rw [repU_len]; exact sm))⟩
  · rw [if_neg c] at e'
    cases e'
def fRepT : U → U → Option U
  | .tup us, .int k => if 0 ≤ k ∧ k ≤ 1000 ∧ us.length ≤ 100 ∧ us ≠ [] then some (.tup (repU us k.toNat)) else none
  | _, _ => none
theorem o_repT : OpOk rRepV fRepT := by
  intro b pp q G H v1 v2 x y u Q w p h1 h2 e k
  cases h1 <;> first | cases e | skip
  rename_i a vs us h kk z
  cases h2 <;> first | cases e | skip
  rename_i n
  have e' : (if 0 ≤ n ∧ n ≤ 1000 ∧ us.length ≤ 100 ∧ us ≠ [] then some (U.tup (repU us n.toNat)) else none) = some u := e
  by_cases c : 0 ≤ n ∧ n ≤ 1000 ∧ us.length ≤ 100 ∧ us ≠ []
  · rw [if_pos c] at e'
    cases e'
    have sm : n.toNat * us.length ≤ 100000 := rep_small c.2.2.1 (by omega)
    have ne : vs ≠ [] := fun z => by
      subst z
      cases kk
      exact c.2.2.2 rfl
    refine ⟨a, n.toNat, vs, rfl, congrArg V.int (by omega), w.tup h, ne, by omega, by rw [kk.length]; omega, fun d H' s ed hn => ?_⟩
    have hn' : H d = none ∨ G d = some (.tup (List.replicate n.toNat vs).flatten) := by
      rcases hn with hn | ⟨rfl, er⟩
      · exact .inl hn
      · exact .inr (by rw [er]; exact h)
    obtain ⟨G', g, gd, sg⟩ := grow w p s ed hn'
    exact k _ G' H' g (.tup gd (RpL.rep (kk.same sg) _) (by rw [repU_len]; exact sm))
  · rw [if_neg c] at e'
    cases e'
/-! ### numbers, short -/
theorem shl_one {k : Nat} (h : k ≤ 1000000) : fIIc (fun i j => decide (0 ≤ j ∧ j ≤ 1000000 ∧ i.natAbs < 2 ^ 64)) (fun i j => U.int (i * 2 ^ j.toNat)) (.int 1) (.int (k : Int)) = some (.int ((2 ^ k : Nat) : Int)) := by
  show (if decide ((0 : Int) ≤ (k : Int) ∧ (k : Int) ≤ 1000000 ∧ (1 : Int).natAbs < 2 ^ 64) = true then some (U.int (1 * 2 ^ (k : Int).toNat)) else none) = _
  rw [if_pos (decide_eq_true ⟨Int.natCast_nonneg k, by omega, by decide⟩), Int.one_mul, Int.toNat_natCast, pow_cast]
theorem shl_of {z : Int} {k : Nat} (e : z = (k : Int)) (h : k ≤ 1000000) : fIIc (fun i j => decide (0 ≤ j ∧ j ≤ 1000000 ∧ i.natAbs < 2 ^ 64)) (fun i j => U.int (i * 2 ^ j.toNat)) (.int 1) (.int z) = some (.int ((2 ^ k : Nat) : Int)) := by
  rw [e]
  exact shl_one h
theorem shr_nat (n k : Nat) : fIIc (fun _ j => decide (0 ≤ j)) (fun i j => U.int (i / 2 ^ j.toNat)) (.int (n : Int)) (.int (k : Int)) = some (.int ((n / 2 ^ k : Nat) : Int)) := by
  show (if decide ((0 : Int) ≤ (k : Int)) = true then some (U.int ((n : Int) / 2 ^ (k : Int).toNat)) else none) = _
  rw [if_pos (decide_eq_true (Int.natCast_nonneg k)), Int.toNat_natCast, ← pow_cast, ← Int.natCast_ediv]
theorem one_bit (n : Nat) : Builtin.bitAnd (n : Int) 1 = ((n % 2 : Nat) : Int) := by
  rw [bitAnd_m1]
  omega
/-- a digit of a number -/
theorem digit_at {N W i : Nat} (h : i < W) : (digits N W)[i]? = some ((N / 2 ^ (W - 1 - i) % 2 : Nat) : Int) := by
  unfold digits
  rw [List.getElem?_map, List.getElem?_range h]
  rfl
theorem within_nat {hi : Int} {x : U} (h : withinU 0 hi x = true) : ∃ n : Nat, x = .int (n : Int) ∧ (n : Int) ≤ hi := by
  cases x <;> first | cases h | skip
  rename_i i
  have h' : (decide (0 ≤ i) && decide (i ≤ hi)) = true := h
  rw [Bool.and_eq_true, decide_eq_true_eq, decide_eq_true_eq] at h'
  exact ⟨i.toNat, congrArg U.int (by omega), by omega⟩
theorem withinI {lo hi i : Int} (h1 : lo ≤ i) (h2 : i ≤ hi) : withinU lo hi (.int i) = true := by
  show (decide (lo ≤ i) && decide (i ≤ hi)) = true
  rw [decide_eq_true h1, decide_eq_true h2]
  rfl
theorem mt_extendTK {X : Cx} (K : PySem.W.Frag) (h : X.K = K := by rfl) : MtM X "list.extend" (rExtendT K) := by subst h; exact mt_extendT
end SV
/-! The end of a law whose defs make code objects: the tables are read off the top. -/
namespace SLEnd
open PySem PySem.Spec PyProof.Rows L2 LamX
theorem walk_tab {l : PySem.W.OpenLaw} {n k : Nat} {q : Program} {loose : List Str} {XP : (Str → Option Value) → Heap → Prop} {YP : World → Heap → Prop} {d : DefRec} {K : Params → PySem.W.Frag} {CX : World → CXT} {x : Str}
    (hn : l.most = some n) (hn2 : n ≤ sizeLine) (hdf : d.params.defaults = []) (hr : Room k callerA) (hY : ∀ (w : World) (h : Heap), YP w h → (K w.params).In h)
    (F : ∀ (w : World) (mg : Str → Option Value) (fa : Addr) (h : Heap), (K w.params).In h → (∃ lo me mb, Top q lo me mg mb h) → h.Ns mainGlobals mg → mg d.name = some (.ref fa) → LawAtS l w (K w.params) (CX w) k n x mg fa h)
    (hCX : ∀ (w : World) (H : Hp) (s : Shared) (e : Value) (s' : Shared), CX w [] H s (fun _ _ _ => False) e s' → False) :
    PySem.W.WalkO q loose XP YP l.row.toRowW d [] (fun f vs => PySem.call f vs) := by
  refine Att.attach_callB hn hdf fun w s₀ s₁ mg mb fa o pm cd doc a vs ns G Y ho hd hcd hmg hobj hints hlen hbits hg => ?_
  have KX := hY w _ Y
  obtain ⟨fd, cs, sp, hT, nT, C, hb, hsp, hF⟩ := F w mg fa _ KX ⟨_, _, _, G.T⟩ G.T.g hmg
  exact law_callTs KX G.T.g G.T.b G.T.builtins G.T.nolimit hg hT nT C G.T.bmain hobj hints (Nat.le_trans hlen hn2) hr hF hb (fun H hH hS => hsp H a ns hlen hbits hH hS) fun H e s' => hCX w H s₁ e s'
theorem tab_at {q : Program} {mg : Str → Option Value} {h : Heap} {K : PySem.W.Frag} {x : Str} {d : DefRec} {f c P : Addr} {oc c2 : Value} {od cl2 : Option Addr} {fd : FuncData} {sl s2 : Array (Option Value)} {vs : Array Value}
    (T : ∃ lo me mb, Top q lo me mg mb h) (X : K.In h) (hr : (recsOf q).find? (fun e => e.name == x) = some d) (hx : PySem.W.nsIn K mainGlobals x = some (some (.ref f))) (hl : K.lookup f = some ⟨oc, od, .func fd, sl⟩) (hc : fd.code = .ref c)
    (hv : K.lookup c = some ⟨c2, cl2, .fields vs, s2⟩) (h11 : vs[11]? = some (.ref P)) : PySem.W.CodeHd h c P ∧ h.get? P = some { cls := .none, data := .fields #[] } := by
  obtain ⟨lo, me, mb, T⟩ := T
  refine PySem.W.tab_of T X hr ?_
  unfold PySem.W.tabIn
  rw [hx]
  show (match K.lookup f with
    | some ⟨_, _, .func fd, _⟩ => (match fd.code with
      | .ref c => (match K.lookup c with
        | some ⟨_, _, .fields vs, _⟩ => (match (vs[11]? : Option Value) with
          | some (.ref P) => some (c, P)
          | _ => none)
        | _ => none)
      | _ => none)
    | _ => none) = some (c, P)
  rw [hl]
  show (match fd.code with
      | .ref c => (match K.lookup c with
        | some ⟨_, _, .fields vs, _⟩ => (match (vs[11]? : Option Value) with
          | some (.ref P) => some (c, P)
          | _ => none)
        | _ => none)
      | _ => none) = some (c, P)
  rw [hc]
  show (match K.lookup c with
        | some ⟨_, _, .fields vs, _⟩ => (match (vs[11]? : Option Value) with
          | some (.ref P) => some (c, P)
          | _ => none)
        | _ => none) = some (c, P)
  rw [hv]
  show (match (vs[11]? : Option Value) with
          | some (.ref P) => some (c, P)
          | _ => none) = some (c, P)
  rw [h11]
end SLEnd
/-! enumerate of a dict (its keys), the dict locked. -/
namespace SL
open PySem PySem.Spec PyProof.Rows L2
section
variable {prog : Program} {w : World} {A : Around} {E : Value → Shared → Prop} {s : Shared} {it d : Addr} {i n ep : Nat} {od : Obj} {es : Array DictEntry}
local macro_rules | `(tactic| ac_rfl) => `(tactic| (first | refine wpAny_bind (wpAny_typeNameOfWhole_keyiter (by assumption) (wpAny_pure ?_)) | refine wpAny_bind (wpAny_typeNameOf_keyiter (by assumption) (wpAny_pure ?_))))
theorem keyNext_item {en : DictEntry} {Q : Value → Shared → Prop} (hit : s.heap.IsKeyIter it d i n ep) (hod : s.heap.get? d = some od) (hdd : od.data = .dict es ep) (hsz : es.size = n) (hx : es[i]? = some en)
    (hQ : ∀ h', h'.IsKeyIter it d (i + 1) n ep → Heap.SameBut it s.heap h' → Q en.key { s with heap := h' }) : wpAny (model prog w) A (Builtin.SmallTypes.nextOf (.ref it)) Q E s := by
  have ty := hit.typeIs
  obtain ⟨o, ho, hc, hd⟩ := id hit
  unfold Builtin.SmallTypes.nextOf
  refine wpAny_bind (wpAny_callSpecial?_slot (name := Str.ofString "__next__") ty F.slot_dict_keyiterator_next (wpAny_call_entry F.slot_dict_keyiterator_next ty F.entry_dict_keyiterator_next ?_ (F.args_dict_keyiterator_next_1 _)))
  refine wpAny_bind (wpAny_pure ?_); refine wpAny_bind ?_; refine wpAny_bind ?_; ac_rfl
  refine wpAny_bind (wpAny_fieldsOf ho hd ?_); simp only [show Builtin.Dict_items.ownsTuple "dict_keyiterator" = false by decide, Bool.false_eq_true, if_false]
  have nn : ¬ ((Value.ref d == Value.none) = true) := Bool.false_ne_true
  show wpAny _ _ (if (Value.ref d == Value.none) = true then _ else _) _ _ s; rw [if_neg nn]
  refine wpAny_bind (wpAny_pure ?_); refine wpAny_bind (wpAny_dictEntries hod hdd ?_); rw [if_neg (by rw [hsz]; simp)]
  refine wpAny_bind (wpAny_pure ?_); refine wpAny_bind (wpAny_dictEpoch hod hdd ?_); rw [if_neg (by simp)]; refine wpAny_pure ?_
  obtain ⟨hlt, hen⟩ := Array.getElem?_eq_some_iff.mp hx
  have i0 : ¬ ((i : Int) < 0) := by omega
  simp only [i0, if_false, Int.toNat_natCast, Array.getElem?_eq_getElem hlt]; refine wpAny_bind ?_; ac_rfl; refine wpAny_bind (wpAny_isOneOf_keyiter ty ?_)
  show wpAny _ _ (setField (.ref it) 1 (rawInt ((i : Int) + 1)) >>= _) _ _ s; refine wpAny_bind (wpAny_setField ho hd (by simp) ?_)
  have next : (s.heap.update it (Obj.mapFields (·.setIfInBounds 1 (rawInt ((i : Int) + 1))))).IsKeyIter it d (i + 1) n ep := ⟨_, Heap.get?_update_self _ ho (Obj.isFreed_of_fields (Obj.data_mapFields hd _)), (Obj.cls_mapFields ..).trans hc, by rw [Obj.data_mapFields hd]; simp [rawInt]⟩
  refine wpAny_bind (wpAny_holding ?_)
  refine wpAny_bind (wpAny_isOneOf_keyiter (s := { s with heap := s.heap.update it (Obj.mapFields (·.setIfInBounds 1 (rawInt ((i : Int) + 1)))) }) next.typeIs ?_); show wpAny _ _ (pure es[i].key) _ _ _; rw [hen]
  exact wpAny_pure (wpAny_pure ⟨_, rfl, wpAny_pure (hQ _ next (Heap.SameBut.update ..))⟩)
theorem keyNext_end {Q : Value → Shared → Prop} (hh : A.handled = none) (hit : s.heap.IsKeyIter it d i n ep) (hod : s.heap.get? d = some od) (hdd : od.data = .dict es ep) (hsz : es.size = n) (hge : n ≤ i)
    (hE : ∀ h' e, Heap.ExtBut it s.heap h' → (∃ o, h'.get? e = some o ∧ o.cls = .type "StopIteration") → E (.ref e) { s with heap := h' }) : wpAny (model prog w) A (Builtin.SmallTypes.nextOf (.ref it)) Q E s := by
  have ty := hit.typeIs
  obtain ⟨o, ho, hc, hd⟩ := id hit
  unfold Builtin.SmallTypes.nextOf
  refine wpAny_bind (wpAny_callSpecial?_slot (name := Str.ofString "__next__") ty F.slot_dict_keyiterator_next (wpAny_call_entry F.slot_dict_keyiterator_next ty F.entry_dict_keyiterator_next ?_ (F.args_dict_keyiterator_next_1 _)))
  refine wpAny_bind (wpAny_pure ?_); refine wpAny_bind ?_; refine wpAny_bind ?_; ac_rfl
  refine wpAny_bind (wpAny_fieldsOf ho hd ?_); simp only [show Builtin.Dict_items.ownsTuple "dict_keyiterator" = false by decide, Bool.false_eq_true, if_false]
  have nn : ¬ ((Value.ref d == Value.none) = true) := Bool.false_ne_true
  show wpAny _ _ (if (Value.ref d == Value.none) = true then _ else _) _ _ s; rw [if_neg nn]
  refine wpAny_bind (wpAny_pure ?_); refine wpAny_bind (wpAny_dictEntries hod hdd ?_); rw [if_neg (by rw [hsz]; simp)]
  refine wpAny_bind (wpAny_pure ?_); refine wpAny_bind (wpAny_dictEpoch hod hdd ?_); rw [if_neg (by simp)]; refine wpAny_pure ?_
  have i0 : ¬ ((i : Int) < 0) := by omega
  have past : es.size ≤ i := by omega
  simp only [i0, if_false, Int.toNat_natCast, Array.getElem?_eq_none past]; refine wpAny_bind ?_; ac_rfl
  show wpAny _ _ (setField (.ref it) 0 .none >>= _) _ _ s; refine wpAny_bind (wpAny_setField ho hd (by simp) ?_)
  show wpAny _ _ (newExc (.type "StopIteration") [] >>= _) _ _ _; refine wpAny_bind ?_; simp only [newExc, newTuple]; refine wpAny_bind (wpAny_newObj_type ?_ (by size_fits))
  refine wpAny_bind (m := firstArgMember _ _) (wpAny_of_eq (a := Value.none) (by first | rfl | (simp only [firstArgMember]; rfl)) ?_); refine wpAny_newObj_type ?_ (by size_fits)
  simp only [raiseNew]; refine wpAny_bind (wpAny_handled ?_); rw [show A.in1.handled = none from hh]; refine wpAny_bind (wpAny_pure (wpAny_throw ?_))
  exact hE _ _ (((Heap.SameBut.update ..).extBut.push _).push _) ⟨_, Heap.get?_push_size _ rfl, rfl⟩
end

theorem drawsKeys {prog : Program} {w : World} {A : Around} {it d : Addr} {od : Obj} {es : Array DictEntry} {ep : Nat} (hh : A.handled = none) (hne : d ≠ it) (hdd : od.data = .dict es ep) :
    Draws prog w A it [it, d] es.size (fun i v => ∃ en : DictEntry, es[i]? = some en ∧ v = en.key) (fun i h => h.IsKeyIter it d i es.size ep ∧ h.get? d = some od) where
  live := fun i h st => let ⟨o, e, _⟩ := st.1; ⟨o, e⟩
  frame := fun i h h' st k => ⟨st.1.at fun ob e => k it (by simp) ob e, k d (by simp) _ st.2⟩
  item := fun i s Q E hi st hQ => by
    have hx : es[i]? = some es[i] := Array.getElem?_eq_getElem hi
    exact keyNext_item st.1 st.2 hdd rfl hx fun h' st' sb => hQ _ h' s.toks ⟨_, hx, rfl⟩ ⟨st', (sb.2 d hne).trans st.2⟩ sb
  done := fun s Q E st hE => keyNext_end hh st.1 st.2 hdd rfl (Nat.le_refl _) hE
theorem enumK_new {d : Addr} {od : Obj} {es : Array DictEntry} {ep : Nat} (lo : (d == sysModules) = false) (hx : od.ExactDict) (hdd : od.data = .dict es ep) :
    Meets (Builtin.«enumerate.__new__» ⟨[.type "enumerate", .ref d], []⟩) (fun _ R s => s.heap.get? d = some od ∧
      R (.ok (.ret (.ref (s.heap.push { cls := .type "dict_keyiterator", data := .fields #[.ref d, .int 0 0, .int es.size 0, .int ep 0] }).objs.size)))
        { s with heap := (s.heap.push { cls := .type "dict_keyiterator", data := .fields #[.ref d, .int 0 0, .int es.size 0, .int ep 0] }).push { cls := .type "enumerate", data := .fields #[.none, .bool false, .ref s.heap.objs.size, rawInt 0, .none, .none] } }) :=
  .of_wp fun prog w A R s h => by
    obtain ⟨hp, g, dr, tk, os⟩ := s
    obtain ⟨hl, h⟩ := h
    have hsub := sub_enumerate
    have hL : Heap.get? (Shared.heap ⟨hp, g, dr, tk, os⟩) d = some od := hl
    have q1 : ∀ {A' : Around} {E : Value → Shared → Prop} {Q : Value → Shared → Prop}, Q (.ref hp.objs.size) ⟨hp.push { cls := .type "dict_keyiterator", data := .fields #[.ref d, .int 0 0, .int es.size 0, .int ep 0] }, g, dr, tk, os⟩ → wpAny (model prog w) A' (pyIter (.ref d)) Q E ⟨hp, g, dr, tk, os⟩ :=
      fun q => iter_keys lo hL hx hdd q
    wp_walk
    refine wpAny_stack_any fun st => wpAny_pure ?_
    split
    · rename_i c _ _ _ _ _
      cases (c == Value.type "enumerate") <;> (wp_walk using q1; exact ⟨_, rfl, h⟩)
    · wp_walk using q1
      exact ⟨_, rfl, h⟩
theorem call_enumK {prog : Program} {w : World} {A : Around} {E : Value → Shared → Prop} {s : Shared} {d : Addr} {od : Obj} {es : Array DictEntry} {ep : Nat} {Q : Value → Shared → Prop} (lo : (d == sysModules) = false) (hx : od.ExactDict) (hdd : od.data = .dict es ep) (hL : s.heap.get? d = some od)
    (h : ∀ h', IsEnum h' (s.heap.objs.size + 1) s.heap.objs.size 0 .none → h'.IsKeyIter s.heap.objs.size d 0 es.size ep → h'.objs.size = s.heap.objs.size + 2 →
      (∀ b o, s.heap.get? b = some o → h'.get? b = some o) → Q (.ref (s.heap.objs.size + 1)) { s with heap := h' }) :
    wpAny (model prog w) A (call (.type "enumerate") [.ref d]) Q E s := by
  refine callType_new F.called_enumerate (by decide) (F.typeCall_enumerate_1 _) (F.newCall_enumerate_1 _) (fun obj => F.args_object_init_2 obj _) F.entry_enumerate_new (enumK_new lo hx hdd) ⟨hL, ?_⟩
  have hz : (s.heap.push { cls := .type "dict_keyiterator", data := .fields #[.ref d, .int 0 0, .int es.size 0, .int ep 0] }).objs.size = s.heap.objs.size + 1 := Heap.size_push ..
  show _ ∧ _; rw [hz]
  have he : IsEnum ((s.heap.push { cls := .type "dict_keyiterator", data := .fields #[.ref d, .int 0 0, .int es.size 0, .int ep 0] }).push
      { cls := .type "enumerate", data := .fields #[.none, .bool false, .ref s.heap.objs.size, rawInt 0, .none, .none] }) (s.heap.objs.size + 1) s.heap.objs.size 0 .none := by
    have q := Heap.get?_push_size (s.heap.push { cls := .type "dict_keyiterator", data := .fields #[.ref d, .int 0 0, .int es.size 0, .int ep 0] })
      (o := { cls := .type "enumerate", data := .fields #[.none, .bool false, .ref s.heap.objs.size, rawInt 0, .none, .none] }) rfl
    rw [hz] at q; exact q
  exact ⟨⟨_, he, rfl⟩, h _ he ⟨_, Heap.get?_push_of_some _ (Heap.get?_push_size _ rfl), rfl, rfl⟩ (by rw [Heap.size_push, hz]) fun b o x => Heap.get?_push_of_some _ (Heap.get?_push_of_some _ x)⟩
/-- index and key of a locked dict, the keys tuples -/
def IteD (d : Addr) (o : Obj) (kvs : List (List Key × V)) : It :=
  ⟨fun i H => H d = some (.frz o (.dT kvs)) ∧ i < kvs.length, fun i H x H' => ∃ T k v q, kvs[i]? = some (k, v) ∧ x = .ref T ∧ H T = none ∧ H q = some (.tup (k.map kV)) ∧ H' = upd H T (.tup [.int (i : Nat), .ref q]), fun i H => H d = some (.frz o (.dT kvs)) ∧ kvs.length ≤ i⟩
theorem turn_enumD {P : Program} {w : World} {K : PySem.W.Frag} {elts : List Expr} {kk : Nat} {tpos : Pos} {d : Addr} {o : Obj} {kvs : List (List Key × V)} {es : Array DictEntry} {ep : Nat} (e it : Addr) (hde : d ≠ e) (hdi : d ≠ it) (hod : o.data = .dict es ep) :
    Turn P w K (.Tuple elts kk tpos) (IteD d o kvs) [e, it] e (fun i h => (∃ old, IsEnum h e it ((i : Nat) : Int) old) ∧ h.IsKeyIter it d i kvs.length ep ∧ e ≠ it) where
  mem := by simp
  obj := fun i h st b hb => by
    obtain ⟨⟨old, he⟩, ⟨oi, ho, hc, hd⟩, _⟩ := st
    have e' : b = e ∨ b = it := by simpa using hb
    rcases e' with rfl | rfl
    · exact ⟨_, he, fun v q => nomatch q⟩
    · exact ⟨oi, ho, fun v q => by rw [hd] at q; cases q⟩
  keep := fun i h h' st k => let ⟨⟨old, he⟩, hi, hne⟩ := st; ⟨⟨old, k e (by simp) _ he⟩, hi.at fun o q => k it (by simp) o q, hne⟩
  item := by
    intro X hP hw hK hc i pins s σ H E I hf st hg
    subst hP hw hK
    obtain ⟨⟨old, he⟩, hit, hne⟩ := st
    obtain ⟨hd, hi⟩ := hg
    obtain ⟨hs, hgd, hx, es', ep', hdt, hsz, ent⟩ := I.frzT hd
    obtain ⟨rfl, rfl⟩ := dict_ep hod hdt
    obtain ⟨⟨k, v⟩, hkv⟩ : ∃ p, kvs[i]? = some p := ⟨kvs[i], List.getElem?_eq_getElem hi⟩
    obtain ⟨en, q, hen, hkey, hq⟩ := ent i k v hkv
    have hel : e < s.heap.objs.size := Heap.lt_size he
    have hil : it < s.heap.objs.size := by obtain ⟨_, q, _⟩ := hit; exact Heap.lt_size q
    have D := drawsKeys (prog := X.prog) (w := X.w) (A := X.A.in1) (it := it) (by rw [show X.A.in1.handled = X.A.handled from rfl]; exact I.ok.hd hc) hdi hdt
    rw [hsz] at D
    refine wpAny_pyNext_enum_itemD D he ⟨hit, hgd⟩ hi hne (by simp [hne, Ne.symm hde]) fun u h' tk hv ho hit' hT hsz' hk => ?_
    obtain ⟨en', hen', rfl⟩ := hv
    obtain rfl : en' = en := by rw [hen] at hen'; exact (Option.some.inj hen').symm
    refine ⟨_, rfl, wpAny_letOwnedTupleGo_enum (s := { s with heap := h', toks := tk + 1 }) ho fun h'' he' sb => ?_⟩
    have hT2 := (sb.2 _ (Nat.ne_of_gt hel)).trans hT
    have new : ObjOk X.prog X.w (upd H s.heap.objs.size (.tup [.int (i : Nat), .ref q])) h'' s.heap.objs.size (.tup [.int (i : Nat), .ref q]) :=
      ⟨by show 2 ≤ sizeLine; decide, _, .cons ⟨_, rfl⟩ (.cons hkey .nil), ⟨_, hT2, rfl, _, rfl⟩⟩
    have I1 : Inv X pins σ (upd H s.heap.objs.size (.tup [.int (i : Nat), .ref q])) { s with heap := h'', toks := tk + 1 } :=
      I.turnedNew (ch := [e, it]) (fun b ob hb q => (sb.2 b (fun z => hb (by simp [z]))).trans (hk b ob (fun z => hb (by simp [z])) (fun z => hb (by simp [z])) q)) hf (Nat.le_refl _) new
    refine ⟨.ref s.heap.objs.size, _, I1, rfl, ⟨_, k, v, q, hkv, rfl, I.hok.fresh (Nat.le_refl _), hq, rfl⟩, ⟨⟨en'.key, ?_⟩, hit'.1.at fun o q => (sb.2 it (Ne.symm hne)).trans q, hne⟩, fun b hb => ?_⟩
    · rw [show ((i + 1 : Nat) : Int) = (i : Int) + 1 by omega]; exact he'
    · have hb' : b < s.heap.objs.size := by
        have e' : b = e ∨ b = it := by simpa using hb
        rcases e' with z | z <;> (rw [z]; assumption)
      rw [upd_ne (Nat.ne_of_lt hb')]; exact (hf b hb).1
  done := by
    intro X hP hw hK hc i pins s σ H E I hf st hg
    subst hP hw hK
    obtain ⟨⟨old, he⟩, hit, hne⟩ := st
    obtain ⟨hd, hi⟩ := hg
    obtain ⟨hs, hgd, hx, es', ep', hdt, hsz, ent⟩ := I.frzT hd
    obtain ⟨rfl, rfl⟩ := dict_ep hod hdt
    obtain ⟨f0, f1, f2, f3, f4, f5⟩ := hf it (by simp)
    have hT : s.TypeIs (.ref e) "enumerate" := ⟨_, he, rfl⟩
    unfold pyNext
    refine wpAny_bind (wpAny_attempt (wpAny_callSpecial?_slot (name := Str.ofString "__next__") hT F.slot_enumerate_next (wpAny_call_entry F.slot_enumerate_next hT F.entry_enumerate_next ?_ (F.args_enumerate_next_1 _)))); show wpAny _ _ (field (.ref e) 2 >>= _) _ _ _
    refine wpAny_bind (wpAny_field he rfl (x := .ref it) rfl ?_)
    refine wpAny_bind (keyNext_end (by rw [show X.A.in1.in1.handled = X.A.handled from rfl]; exact I.ok.hd hc) hit hgd hdt hsz hi fun h' x he' hx' => ?_)
    obtain ⟨o, ho, hcl⟩ := hx'
    refine wpAny_bind (wpAny_isInstance (T := "StopIteration") (b := true) ⟨o, ho, hcl⟩ isSubtype_stop ?_)
    exact wpAny_pure ⟨rfl, I.turned (t' := s.toks) (fun b o hb q => he' b o hb q) f0 f1 f3 f4 f5⟩
  self := fun A i s Q E st h => let ⟨⟨_, he⟩, _⟩ := st; wpAny_pyIter_enum he h
def iEnumD (ta : TA) : TI := fun σ H R => ta σ H fun vs H1 => ∃ d o kvs, vs = [.ref d] ∧ H1 d = some (.frz o (.dT kvs)) ∧ R (IteD d o kvs) H1
theorem pi_enumD {X : Cx} {e : Expr} {ta : TA} {p pos tpos : Pos} {elts : List Expr} {kk : Nat} (hg : Gl X "enumerate") (hm : X.mg "enumerate" = none) (ha : PA X [e] ta) (hs : starEach [e] X.env = [(false, eval e X.env)] := by rfl) :
    PI X (.Tuple elts kk tpos) (.Call (.Name "enumerate" p) [e] [] pos) (iEnumD ta) := by
  refine ⟨fun pins s σ H R I h => ?_⟩
  refine Call_ (ld_blt I hg hm boot_enumerate (PyProof.Rows.callWith_type1 (thn (ha.run pos pins s σ H _ I h) fun us s1 ⟨vs, H1, I1, r1, q1⟩ => ?_) hs rfl))
  obtain ⟨d, o, kvs, ex, hq, q⟩ := q1
  subst ex
  cases r1 with
  | cons r rr =>
    cases rr
    cases r
    obtain ⟨lo, hgd, hx, es, ep, hdt, hsz, ent⟩ := I1.frzT hq
    have hla : d < s1.heap.objs.size := Heap.lt_size hgd
    refine call_enumK lo hx hdt hgd fun h' he hit hsz' hk => wpAny_pyIter_enum he ?_
    have I2 : Inv X pins σ H1 { s1 with heap := h' } := I1.kept (t' := s1.toks) hk
    refine ⟨s1.heap.objs.size + 1, [s1.heap.objs.size + 1, s1.heap.objs.size], _, _, H1, rfl, I2, turn_enumD (s1.heap.objs.size + 1) s1.heap.objs.size (Nat.ne_of_lt (Nat.lt_succ_of_lt hla)) (Nat.ne_of_lt hla) hdt, ⟨⟨.none, he⟩, by rw [← hsz]; exact hit, Nat.succ_ne_self _⟩, fun b hb => ?_, q⟩
    have hle : s1.heap.objs.size ≤ b := by
      have e' : b = s1.heap.objs.size + 1 ∨ b = s1.heap.objs.size := by simpa using hb
      rcases e' with z | z
      · rw [z]; exact Nat.le_add_right _ _
      · rw [z]; exact Nat.le_refl _
    exact I1.fpOk hle (I1.hok.fresh hle)
theorem walk_enumD {d : Addr} {o : Obj} {kvs : List (List Key × V)} : Walk (IteD d o kvs) kvs.length (fun H => H d = some (.frz o (.dT kvs))) (fun i H x H' => ∃ T k v q, kvs[i]? = some (k, v) ∧ x = .ref T ∧ H T = none ∧ H q = some (.tup (k.map kV)) ∧ H' = upd H T (.tup [.int (i : Nat), .ref q])) :=
  ⟨fun i _ hi q => ⟨q, hi⟩, fun _ q => ⟨q, Nat.le_refl _⟩, fun i H v H' _ q y => y⟩
end SL
/-! {k: v for .. in ..}, the keys tuples of ints and texts. -/
namespace SL
open PySem PySem.Spec PyProof.Rows L2
theorem dT_set {X : Cx} {pins : List (Addr × Obj)} {σ : L2.St} {H : Hp} {s : Shared} {E : Value → Shared → Prop} {D b : Addr} {kvs : List (List Key × V)} {k : List Key} {v : V} {r : Value} {Q : Unit → Shared → Prop} (hu : X.A.units < cLine) (I : Inv X pins σ H s) (hD : H D = some (.dT kvs)) (hz : kvs.length < sizeLine)
    (eb : H b = some (.tup (k.map kV))) (rv : RelV v r) (h : ∀ s', Inv X pins σ (upd H D (.dT (putK kvs k v))) s' → Q () s') : wpAny (model X.prog X.w) X.A (dictSet D (.ref b) r) Q E s := by
  obtain ⟨z, hd, xs, rel, dd⟩ := dt_of I.hok hD
  have hx : xs.length ≤ sizeLine := by rw [← Paired.length rel]; exact z
  have lp := length_putK kvs k v
  refine wpAny_dictSet_heap (hsz := hx) (by first | exact tupleKind_room hu | exact hu) (key_of I.hok eb) dd fun h' dd' hs => h _ ?_
  obtain ⟨q, es, ep, hq, h2, h3, h4, _, h5⟩ := dd'
  refine d_write I (by rw [hD]; exact True.intro) hs ⟨q, hq⟩ ⟨by omega, hd, _, (rel.put k eb rv).keeps fun c ys ec => ?_, q, es, ep, hq, h2, h3, h4, h5⟩
  rw [upd_ne (ne_of ec hD (fun z => nomatch z))]; exact ec
/-- the reading: D the new dict, its keys tuples -/
def tDcT (wi : TI) (g : TG) (tt : TT) (tk tv : TE) (vs : List Nat) : TE := fun σ H Q => wi σ H fun J H1 => ∀ D, H1 D = none → ∃ W : Nat → Nat → Hp → Prop, (∃ m, W 0 m (upd H1 D (.dT []))) ∧ ∀ i m H, W i m H →
  (J.stop i H ∧ Q (.ref D) H) ∨ (J.go i H ∧ ∃ Nx : Hp → Prop, (∀ H', Nx H' → ∃ m', m' < m ∧ W (i + 1) m' H') ∧ ∀ x H', J.yld i H x H' → g x (wipe σ vs) H' fun σ2 H2 => wipe σ2 vs = wipe σ vs ∧ tt σ2 H2 fun b H3 =>
    if b = true then tk σ2 H3 fun y H4 => tv σ2 H4 fun z H5 => ∃ kvs k a, y = .ref a ∧ H5 a = some (.tup (k.map kV)) ∧ H5 D = some (.dT kvs) ∧ kvs.length < sizeLine ∧ Nx (upd H5 D (.dT (putK kvs k z))) else Nx H3)
section
variable {X : Cx}
theorem dcT_core {pins : List (Addr × Obj)} {s : Shared} {σ : L2.St} {H : Hp} {Q : VK} (hu : X.A.units + 64 < cLine) {kx vx tg iter : Expr} {ifs : List Expr} {scope : Scope} {own : List (Str × Nat)} {pos pos' : Pos} {wi : TI} {g : TG} {tt : TT} {tk tv : TE} {use : Option (Value → Sem Unit)} {Qf : Value → Shared → Prop}
    (hc : X.calm = true) (hN : X.N.Nodup) (I : Inv X pins σ H s) (hi : PI X tg iter wi) (ok : BlkOk X.N X.env.scope scope own)
    (hg : ∀ (s : Shared) (H : Hp) (C : Addr) (cl : List (Str × Addr)) (fp : List Addr), PG (X.blk s H scope (compEnvC scope cl C X.env) fp) tg g)
    (ht : ∀ (s : Shared) (H : Hp) (C : Addr) (cl : List (Str × Addr)) (fp : List Addr), PTs (X.blk s H scope (compEnvC scope cl C X.env) fp) ifs tt)
    (hk : ∀ (s : Shared) (H : Hp) (C : Addr) (cl : List (Str × Addr)) (fp : List Addr), PE (X.blk s H scope (compEnvC scope cl C X.env) fp) kx tk) (he : ∀ (s : Shared) (H : Hp) (C : Addr) (cl : List (Str × Addr)) (fp : List Addr), PE (X.blk s H scope (compEnvC scope cl C X.env) fp) vx tv)
    (hs : ∀ x, foldedSetIterable iter X.env x = pure x) (h : tDcT wi g tt tk tv (own.map (·.2)) σ H Q)
    (hRR : ∀ D C t m G, Inv X pins σ G t → Q (.ref D) G → t.heap.Ns C m → FpOk X pins G C → compPost (model X.prog X.w) X.A X.xe use Qf (.ref D) C (.ok .next) t) :
    wpAny (model X.prog X.w) X.A (comprehension (.DictComp kx vx [⟨tg, iter, ifs, 0⟩] scope pos) scope X.env pos' newDict false (eval iter X.env) use) Qf X.xe s := by
  have caught : ∀ y ∈ scope.names, y.2 = .free → ∃ c, X.env.cells.lookup y.1 = some c := fun y hy e => (ok.free y hy e).elim (fun k => I.ok.has _ (.inl k)) fun k => I.ok.has _ (.inr k)
  refine wpAny_comprehension_free (use := use) rfl hs (closure_ok caught) ok.kind (fun y hy e => by rw [ok.uniq y hy, e]) (thn (hi.run pins s σ H _ I h) fun _ _ h1 => thn h1 fun _ t h2 => ?_)
  obtain ⟨it, fp, tn, J, G, rfl, IG, T, stG, fG, q⟩ := h2
  refine wpAny_newObj_type (newEnv_comp ?_)
  generalize eD : t.heap.objs.size = D
  have nD : G D = none := IG.hok.fresh (Nat.le_of_eq eD)
  obtain ⟨W, ⟨m0, w0⟩, turn⟩ := q D nD
  generalize et : ({ t with heap := t.heap.push { cls := .type "dict", data := .dict #[] } } : Shared) = t1
  have ht1 : t1.heap = t.heap.push { cls := .type "dict", data := .dict #[] } := by rw [← et]
  have I1 : Inv X pins σ (upd G D (.dT [])) t1 := by rw [← et]; exact IG.laid (t' := t.toks) (fun b o e => Heap.get?_push_of_some _ e) (Nat.le_of_eq eD) (by rw [← eD]; exact dt_empty t.heap IG.big)
  have below : ∀ b ∈ fp, b < t.heap.objs.size := fun b hb => let ⟨o, e, _⟩ := T.obj _ _ stG b hb; Heap.lt_size e
  have f1 : ∀ b ∈ fp, FpOk X pins (upd G D (.dT [])) b ∧ b < t1.heap.objs.size := fun b hb =>
    ⟨⟨by rw [upd_ne (by rw [← eD]; exact Nat.ne_of_lt (below b hb))]; exact (fG b hb).1, (fG b hb).2⟩, by rw [ht1, Heap.size_push]; exact Nat.lt_succ_of_lt (below b hb)⟩
  have st1 : tn 0 t1.heap := T.keep _ _ _ stG fun b _ o e => by rw [ht1]; exact Heap.get?_push_of_some _ e
  have I2 := block_start I1 ok hN f1
  have pg := hg t1 (upd G D (.dT [])) t1.heap.objs.size (cellsFrom (t1.heap.objs.size + 1) scope.names (cloFrom X.env.cells scope.names [])) fp; have pt := ht t1 (upd G D (.dT [])) t1.heap.objs.size (cellsFrom (t1.heap.objs.size + 1) scope.names (cloFrom X.env.cells scope.names [])) fp
  have pk := hk t1 (upd G D (.dT [])) t1.heap.objs.size (cellsFrom (t1.heap.objs.size + 1) scope.names (cloFrom X.env.cells scope.names [])) fp; have pe := he t1 (upd G D (.dT [])) t1.heap.objs.size (cellsFrom (t1.heap.objs.size + 1) scope.names (cloFrom X.env.cells scope.names [])) fp
  suffices loop : codeAny (model X.prog X.w) X.A (.compLoop (.DictComp kx vx [⟨tg, iter, ifs, 0⟩] scope pos) 0 (.ref it) (.ref D) (compEnvC scope (cellsFrom (t1.heap.objs.size + 1) scope.names (cloFrom X.env.cells scope.names [])) t1.heap.objs.size X.env)) (compPost (model X.prog X.w) X.A X.xe use Qf (.ref D) t1.heap.objs.size) { t1 with heap := pushCells (t1.heap.push { cls := .type "dict", data := .dict #[] }) scope.names } from
    codeAny_compStart_dict loop (T.self X.A 0 _ _ _ (T.keep _ _ _ st1 fun b _ o e => pushCells_keeps _ _ _ _ (Heap.get?_push_of_some _ e)) loop)
  have hidden : ∀ b ∈ fp, (upd G D (.dT [])) b = none := fun b hb => (f1 b hb).1.1
  have st2 : tn 0 (pushCells (t1.heap.push { cls := .type "dict", data := .dict #[] }) scope.names) := T.keep _ _ _ st1 fun b _ o e => pushCells_keeps _ _ _ _ (Heap.get?_push_of_some _ e)
  generalize ece : compEnvC scope (cellsFrom (t1.heap.objs.size + 1) scope.names (cloFrom X.env.cells scope.names [])) t1.heap.objs.size X.env = ce at I2 pg pt pk pe ⊢
  have lce : ce.locals = t1.heap.objs.size := by subst ece; rfl
  generalize eG : upd G D (.dT []) = G1 at I1 I2 pg pt pk pe w0 hidden f1
  generalize es2 : ({ t1 with heap := pushCells (t1.heap.push { cls := .type "dict", data := .dict #[] }) scope.names } : Shared) = t2 at I2 ⊢
  have st2 : tn 0 t2.heap := by rw [← es2]; exact st2
  have foot : ∀ {σ' : L2.St} {H' : Hp} {s' : Shared}, Inv (X.blk t1 G1 scope ce fp) [] σ' H' s' → (∀ b ∈ fp, H' b = none) → ∀ b ∈ fp, FpOk (X.blk t1 G1 scope ce fp) [] H' b := fun {σ' H' s'} J' hn b hb =>
    ⟨hn b hb, (J'.ok.exf b hb).1, J'.ok.exfs b hb, .inl hb, fun x c e => (J'.ok.exf b hb).2 x c e, fun p hp => absurd (show p ∈ ([] : List (Addr × Obj)) ++ [] from hp) (by simp)⟩
  refine compLoop_anyD (fun n s' => ∃ i H', Inv (X.blk t1 G1 scope ce fp) [] (wipe σ (own.map (·.2))) H' s' ∧ tn i s'.heap ∧ (∀ b ∈ fp, H' b = none) ∧ W i n H') ?_ m0 ⟨0, G1, I2, st2, hidden, w0⟩
  rintro n t3 ⟨i, G3, I3, st3, n3, w3⟩
  rcases turn i n G3 w3 with ⟨stop, fin⟩ | ⟨go, Nx, dec, step⟩
  · refine thnF (T.done (X.blk t1 G1 scope ce fp) rfl rfl rfl hc i [] t3 _ G3 (fun _ _ => False) I3 (foot I3 n3) st3 stop) fun r t4 ⟨hr, I4⟩ => ?_
    subst hr
    have back : Inv X pins σ G3 t4 := I1.call' (ch := fp) I4.os I4.base I4.hok I4.bare fun b hb => let ⟨⟨_, z2, _, z4, z5, z6⟩, _⟩ := f1 b hb; ⟨z4, z2, z5, z6⟩
    have nL : G3 ce.locals = none := I4.free
    obtain ⟨m, hn, _⟩ := I4.loc
    have hn : t4.heap.Ns ce.locals m := hn
    rw [lce] at nL hn
    exact hRR D t1.heap.objs.size t4 m G3 back fin hn (I1.fpOk (Nat.le_refl _) nL)
  · refine thnF (T.item (X.blk t1 G1 scope ce fp) rfl rfl rfl hc i [] t3 _ G3 (fun _ _ => False) I3 (foot I3 n3) st3 go) fun r t4 ⟨u, hr, h4⟩ => ?_
    subst hr
    refine thnF h4 fun _ t5 ⟨x, G5, I5, r5, y5, st5, n5⟩ => ?_
    have I5p := I5.pinned (foot I5 n5) (T.obj _ _ st5)
    refine thnF (pg.run _ t5 _ G5 x u _ I5p r5 (step x G5 y5)) fun _ t6 ⟨σ6, G6, I6, ew, h6⟩ => thnF (pt.run _ t6 σ6 G6 _ I6 h6) fun b t7 ⟨G7, I7, h7⟩ => ?_
    have again : ∀ {s' : Shared} {H' : Hp}, Inv (X.blk t1 G1 scope ce fp) ([] ++ pinsAt fp t5.heap) σ6 H' s' → Nx H' → ∃ m, m < n ∧ ∃ i H', Inv (X.blk t1 G1 scope ce fp) [] (wipe σ (own.map (·.2))) H' s' ∧ tn i s'.heap ∧ (∀ b ∈ fp, H' b = none) ∧ W i m H' := fun {s' H'} J' nx => by
      obtain ⟨m', lt, w'⟩ := dec H' nx
      have stays : ∀ b ∈ fp, ∀ o, t5.heap.get? b = some o → s'.heap.get? b = some o ∧ H' b = none := fun b hb o e => let z := J'.pin (b, o) (List.mem_append_right _ (List.mem_append_right _ (mem_pinsAt hb e))); ⟨z.1, z.2.1⟩
      refine ⟨m', lt, i + 1, H', (J'.unpinned (pins := [])).weak (by rw [← ew, wipe_length]) (fun j v e => ?_), T.keep _ _ _ st5 fun b hb o e => (stays b hb o e).1, fun b hb => let ⟨o, e, _⟩ := T.obj _ _ st5 b hb; (stays b hb o e).2, w'⟩
      rw [← ew] at e; exact (wipe_some e).1
    cases b with
    | false => exact again I7 h7
    | true =>
      refine thnF (pk.run _ t7 σ6 G7 _ I7 h7) fun _ t8 ⟨yk, G8, I8, r8, h8⟩ => thnF (pe.run _ t8 σ6 G8 _ I8 h8) fun _ t9 ⟨yv, G9, I9, r9, kvs, k, a, ek, ha, hD, hz, nx⟩ => ?_
      subst ek
      cases r8
      exact dT_set (X := X.blk t1 G1 scope ce fp) (by have : (X.blk t1 G1 scope ce fp).A.units = X.A.units := rfl; omega) I9 hD hz ha r9 fun t10 I10 => again I10 nx
theorem pe_dcT (hu : X.A.units + 64 < cLine) {kx vx tg iter : Expr} {ifs : List Expr} {scope : Scope} {own : List (Str × Nat)} {pos : Pos} {wi : TI} {g : TG} {tt : TT} {tk tv : TE} (hc : X.calm = true) (hN : X.N.Nodup) (hi : PI X tg iter wi) (ok : BlkOk X.N X.env.scope scope own)
    (hg : ∀ (s : Shared) (H : Hp) (C : Addr) (cl : List (Str × Addr)) (fp : List Addr), PG (X.blk s H scope (compEnvC scope cl C X.env) fp) tg g)
    (ht : ∀ (s : Shared) (H : Hp) (C : Addr) (cl : List (Str × Addr)) (fp : List Addr), PTs (X.blk s H scope (compEnvC scope cl C X.env) fp) ifs tt)
    (hk : ∀ (s : Shared) (H : Hp) (C : Addr) (cl : List (Str × Addr)) (fp : List Addr), PE (X.blk s H scope (compEnvC scope cl C X.env) fp) kx tk) (he : ∀ (s : Shared) (H : Hp) (C : Addr) (cl : List (Str × Addr)) (fp : List Addr), PE (X.blk s H scope (compEnvC scope cl C X.env) fp) vx tv)
    (hs : ∀ x, foldedSetIterable iter X.env x = pure x := by intro _; rfl) : PE X (.DictComp kx vx [⟨tg, iter, ifs, 0⟩] scope pos) (tDcT wi g tt tk tv (own.map (·.2))) := by
  refine ⟨fun pins s σ H Q I h => ?_⟩
  rw [arm_eval_DictComp]
  refine dcT_core hu hc hN I hi ok hg ht hk he hs h fun D C t m G J q hn f => ⟨m, hn, fun h' sb => ?_⟩
  obtain ⟨f0, g1, _, g3, g4, g5⟩ := f
  exact ⟨.ref D, G, J.turned (t' := t.toks) (fun b o hb e => (sb.2 b hb).trans e) f0 g1 g3 g4 g5, rfl, q⟩
theorem sw_trueD {kx vx : Expr} {gs : List Comprehension} {scope : Scope} {pos py : Pos} {y : Str} {l : Nat} {env : Env} (hk : env.scope.kind = .function) (hy : env.scope.names.lookup y = some .local) (hl : (py.line == pos.line) = true)
    (ha : (scope.names.any fun (n, k) => n == y && (k == .local || k == .cell)) = false) : swapsWith (.DictComp kx vx gs scope pos) (some (.Name y py)) l env = pure true := by
  have ky : env.kindOf y = some .local := hy
  unfold swapsWith; simp only [show env.blockKind = .function from by unfold Env.blockKind; rw [hk]; rfl, ky, ha, Expr.pos, hl]; rfl
/-- as a name's new value -/
theorem ps_setDcT {i : Nat} {y : Str} {py spos : Pos} (hy : X.N[i]? = some y) (hyl : X.env.scope.names.lookup y = some .local) (hu : X.A.units + 64 < cLine) {kx vx tg iter : Expr} {ifs : List Expr} {scope : Scope} {own : List (Str × Nat)} {pos : Pos} {wi : TI} {g : TG} {tt : TT} {tk tv : TE} (hc : X.calm = true) (hN : X.N.Nodup) (hsw : swapsWith (.DictComp kx vx [⟨tg, iter, ifs, 0⟩] scope pos) (some (.Name y py)) spos.line X.env = pure true) (hi : PI X tg iter wi) (ok : BlkOk X.N X.env.scope scope own)
    (hg : ∀ (s : Shared) (H : Hp) (C : Addr) (cl : List (Str × Addr)) (fp : List Addr), PG (X.blk s H scope (compEnvC scope cl C X.env) fp) tg g)
    (ht : ∀ (s : Shared) (H : Hp) (C : Addr) (cl : List (Str × Addr)) (fp : List Addr), PTs (X.blk s H scope (compEnvC scope cl C X.env) fp) ifs tt)
    (hk : ∀ (s : Shared) (H : Hp) (C : Addr) (cl : List (Str × Addr)) (fp : List Addr), PE (X.blk s H scope (compEnvC scope cl C X.env) fp) kx tk) (he : ∀ (s : Shared) (H : Hp) (C : Addr) (cl : List (Str × Addr)) (fp : List Addr), PE (X.blk s H scope (compEnvC scope cl C X.env) fp) vx tv)
    (hs : ∀ x, foldedSetIterable iter X.env x = pure x := by intro _; rfl) : PS X (.Assign [.Name y py] (.DictComp kx vx [⟨tg, iter, ifs, 0⟩] scope pos) spos) (tAsg (tDcT wi g tt tk tv (own.map (·.2))) (gName i)) := by
  refine ⟨fun pins s σ H D I h => ?_⟩
  rw [exec_Assign_Name_used _ _ _ _ hsw]; refine wpAny_bind (wpAny_standAt (wpAny_bind ?_))
  have h : tDcT wi g tt tk tv (own.map (·.2)) σ H (fun x H1 => gName i x σ H1 D.nx) := h
  refine wpAny_bind (thn (dcT_core (Qf := fun _ t => SP X pins D .next t) hu hc hN I hi ok hg ht hk he hs h fun L C t m G J q hn f => ?_) fun _ t hq => wpAny_pure (wpAny_pure hq))
  show wpAny _ _ (assign (.Name y py) X.env (.ref L)) _ _ _; refine wpAny_assign_Name (store_ok2 (v := V.ref L) J hN hy (.inl hyl) rfl (fun s2 I2 ⟨a, sb, ha⟩ => ?_) (.inr hyl))
  obtain ⟨f0, f1, _, f3, f4, f5⟩ := f
  have apart : C ≠ a := ha.elim (fun z => by rw [z]; exact f1) fun z e => f4 y a z e.symm
  exact ⟨m, hn.sameBut sb apart, fun h3 sb3 => ⟨_, G, I2.turned (t' := s2.toks) (fun b o hb e => (sb3.2 b hb).trans e) f0 f1 f3 f4 f5, q⟩⟩
end
end SL
/-! A dict comprehension with keys of ints and texts as a name's new value. -/
namespace SL
open PySem PySem.Spec PyProof.Rows L2
section
variable {X : Cx}
/-- as a name's new value -/
theorem ps_setDcK {i : Nat} {y : Str} {py spos : Pos} (hy : X.N[i]? = some y) (hyl : X.env.scope.names.lookup y = some .local) {kx vx tg iter : Expr} {ifs : List Expr} {scope : Scope} {own : List (Str × Nat)} {pos : Pos} {wi : TI} {g : TG} {tt : TT} {tk tv : TE} (hc : X.calm = true) (hN : X.N.Nodup) (hsw : swapsWith (.DictComp kx vx [⟨tg, iter, ifs, 0⟩] scope pos) (some (.Name y py)) spos.line X.env = pure true) (hi : PI X tg iter wi) (ok : BlkOk X.N X.env.scope scope own)
    (hg : ∀ (s : Shared) (H : Hp) (C : Addr) (cl : List (Str × Addr)) (fp : List Addr), PG (X.blk s H scope (compEnvC scope cl C X.env) fp) tg g)
    (ht : ∀ (s : Shared) (H : Hp) (C : Addr) (cl : List (Str × Addr)) (fp : List Addr), PTs (X.blk s H scope (compEnvC scope cl C X.env) fp) ifs tt)
    (hk : ∀ (s : Shared) (H : Hp) (C : Addr) (cl : List (Str × Addr)) (fp : List Addr), PE (X.blk s H scope (compEnvC scope cl C X.env) fp) kx tk) (he : ∀ (s : Shared) (H : Hp) (C : Addr) (cl : List (Str × Addr)) (fp : List Addr), PE (X.blk s H scope (compEnvC scope cl C X.env) fp) vx tv)
    (hs : ∀ x, foldedSetIterable iter X.env x = pure x := by intro _; rfl) : PS X (.Assign [.Name y py] (.DictComp kx vx [⟨tg, iter, ifs, 0⟩] scope pos) spos) (tAsg (tDc wi g tt tk tv (own.map (·.2))) (gName i)) := by
  refine ⟨fun pins s σ H D I h => ?_⟩
  rw [exec_Assign_Name_used _ _ _ _ hsw]; refine wpAny_bind (wpAny_standAt (wpAny_bind ?_))
  have h : tDc wi g tt tk tv (own.map (·.2)) σ H (fun x H1 => gName i x σ H1 D.nx) := h
  refine wpAny_bind (thn (dc_core (Qf := fun _ t => SP X pins D .next t) hc hN I hi ok hg ht hk he hs h fun L C t m G J q hn f => ?_) fun _ t hq => wpAny_pure (wpAny_pure hq))
  show wpAny _ _ (assign (.Name y py) X.env (.ref L)) _ _ _; refine wpAny_assign_Name (store_ok2 (v := V.ref L) J hN hy (.inl hyl) rfl (fun s2 I2 ⟨a, sb, ha⟩ => ?_) (.inr hyl))
  obtain ⟨f0, f1, _, f3, f4, f5⟩ := f
  have apart : C ≠ a := ha.elim (fun z => by rw [z]; exact f1) fun z e => f4 y a z e.symm
  exact ⟨m, hn.sameBut sb apart, fun h3 sb3 => ⟨_, G, I2.turned (t' := s2.toks) (fun b o hb e => (sb3.2 b hb).trans e) f0 f1 f3 f4 f5, q⟩⟩
end
end SL
/-! The value layer: dicts by tuples walked, told as lists, made by a comprehension; `in` and index over nested things; list(zip(t, u)); an error class without fields; a def that gets a lambda and makes one. -/
namespace SV
open PySem PySem.Spec PyProof.Rows L2 SL LamX NdefX
section
variable {b : PT} {pp q : Addr} {G H G' H' : Hp}
/-- a tuple that is there may be frozen -/
theorem gr_frzT (w : Vw G H) (p : Pl b pp q G H) {a : Addr} {vs : List V} (e : H a = some (.tup vs)) : ∃ G', Gr b pp q G H G' H ∧ G' a = some (.tup vs) := by
  cases g : G a with
  | some o =>
    rcases w a o g with k | ⟨_, ob, k⟩
    · rw [e] at k
      cases k
      exact ⟨G, Gr.refl w p, g⟩
    · rw [e] at k
      cases k
  | none =>
    refine ⟨upd G a (.tup vs), ⟨⟨same_upd g, fun c o ec => ?_, fun c o _ ec gc => ⟨fun nt => ?_, ec⟩, p.putG (fun x ex => by rw [e] at ex; cases ex; exact fun _ z => nomatch z) (fun z => ?_) (fun z => ?_)⟩, fun c o _ => .inl rfl⟩, upd_same⟩
    · by_cases z : c = a
      · subst z
        rw [upd_same] at ec
        cases ec
        exact .inl e
      · rw [upd_ne z] at ec
        exact w c o ec
    · by_cases z : c = a
      · subst z
        rw [e] at ec
        cases ec
        cases nt
      · rw [upd_ne z]
        exact gc
    · obtain ⟨⟨_, _, _, _, _, k1, _⟩, _⟩ := p.1 z
      exact ne_of k1 e fun z => nomatch z
    · obtain ⟨⟨_, _, _, _, _, _, k2, _⟩, _⟩ := p.1 z
      exact ne_of k2 e fun z => nomatch z
/-! ### keys that are tuples -/
def tKey (k : List Key) : U := .tup (k.map uKey)
def okKey (k : List Key) : Prop := k.length ≤ 100000 ∧ ∀ s : Str, Sum.inr s ∈ k → s.length ≤ 100000
theorem rpL_key : ∀ {k : List Key}, (∀ s : Str, Sum.inr s ∈ k → s.length ≤ 100000) → RpL pp G (k.map kV) (k.map uKey)
  | [], _ => .nil
  | x :: r, h => .cons (Rp.uKey x fun s e => h s (e ▸ List.mem_cons_self)) (rpL_key fun s hs => h s (List.mem_cons_of_mem _ hs))
theorem rp_key {a : Addr} {k : List Key} (ok : okKey k) (e : G a = some (.tup (k.map kV))) : Rp pp G (.ref a) (tKey k) := .tup e (rpL_key ok.2) (by rw [List.length_map]; exact ok.1)
theorem RpT.get : ∀ {kvs : List (List Key × V)} {kus : List (List Key × U)} {i : Nat} {k : List Key} {v : V}, RpT pp G kvs kus → kvs[i]? = some (k, v) → ∃ u, kus[i]? = some (k, u) ∧ Rp pp G v u
  | _, _, _, _, _, .nil, h => by simp at h
  | _, _, 0, _, _, .cons h _, e => by
    cases e
    exact ⟨_, rfl, h⟩
  | _, _, i + 1, _, _, .cons _ t, e => RpT.get t (i := i) e
theorem freezeKeys (w : Vw G H) : ∀ {kvs : List (List Key × V)} {bs : List Addr} {G0 : Hp}, Pl b pp q G0 H → Vw G0 H → IsKeys H kvs bs → (∀ k ∈ keysOf kvs, okKey k) → ∃ G', Gr b pp q G0 H G' H ∧ RpL pp G' (bs.map V.ref) ((keysOf kvs).map tKey)
  | [], [], G0, p, w0, _, _ => ⟨G0, Gr.refl w0 p, .nil⟩
  | [], _ :: _, _, _, _, h, _ => nomatch h
  | _ :: _, [], _, _, _, h, _ => nomatch h
  | (k, v) :: r, a :: bs, G0, p, w0, .cons h t, ok => by
    obtain ⟨G1, g1, e1⟩ := gr_frzT w0 p h
    obtain ⟨G2, g2, k2⟩ := freezeKeys w (kvs := r) (bs := bs) g1.pl g1.vw t fun k hk => ok k (List.mem_cons_of_mem _ hk)
    exact ⟨G2, g1.trans g2, .cons (rp_key (ok k List.mem_cons_self) (g2.gg _ _ e1)) k2⟩
end
section
variable {Z : Zc}
/-! ### a dict by tuples walked -/
def wKeysT (i : Nat) : WA := fun ρ post => ∃ kus, ρ[i]? = some (.fz (.dit kus)) ∧ (∀ k ∈ keysOf kus, okKey k) ∧ post ((keysOf kus).map tKey)
def LockedT (σ : L2.St) (G H : Hp) (i : Nat) : Prop := ∀ d kvs, σ[i]? = some (some (.ref d)) → G d = some (.dT kvs) → ∃ ob, H d = some (.frz ob (.dT kvs))
theorem keysOf_rp {pp : Addr} {G : Hp} : ∀ {kvs : List (List Key × V)} {kus : List (List Key × U)}, RpT pp G kvs kus → keysOf kvs = keysOf kus
  | _, _, .nil => rfl
  | _, _, .cons _ t => congrArg (_ :: ·) (keysOf_rp t)
theorem i_keysT_at {i : Nat} {σ : L2.St} {ρ : List Cell} {G H : Hp} (S : Sv Z σ ρ G H) (lk : LockedT σ G H i) : TrIat Z σ ρ G H (iKeys (tVar i)) (wKeysT i) := fun post R hw q => by
  obtain ⟨kus, e, hs, p⟩ := hw
  obtain ⟨v, e1, r⟩ := S.fz i _ e
  cases r with
  | @dit d kvs _ hd k z =>
    obtain ⟨ob, hl⟩ := lk d kvs e1 hd
    refine ⟨_, e1, d, ob, rfl, .inr ⟨kvs, hl, q _ _ _ _ _ G H p (Gr.refl S.vw S.pl) (by rw [List.length_map]; unfold keysOf; rw [List.length_map, k.length]) (by rw [k.length]; exact z) walk_keysT (fun G' H' x _ => ex_locked hd hl x) fun j x G' H' H'' hj x' w' pl y => ?_⟩⟩
    obtain ⟨rfl, kk, vv, a, ek, rfl, ea⟩ := y
    obtain ⟨u, eu, _⟩ := k.get ek
    have ej : (keysOf kus)[j]? = some kk := by unfold keysOf; rw [List.getElem?_map, eu]; rfl
    obtain ⟨G1, g1, e1⟩ := gr_frzT w' pl ea
    exact ⟨tKey kk, G1, by rw [List.getElem?_map, ej]; rfl, g1, rp_key (hs kk (List.mem_of_getElem? ej)) e1⟩
/-- an expression that walks the dict in slot i, which is locked -/
def TrFL (Z : Zc) (i : Nat) (t : TE) (w : WE) : Prop := ∀ σ ρ G H (post : U → Prop) (Q : VK), Sv Z σ ρ G H → LockedT σ G H i → w ρ post → (∀ p o u G' H', post u → Z.gr G H G' H' → H p = none → G' p = none → H' p = some o → Ow Z.pp G' o u → Q (.ref p) H') → t σ H Q
theorem lock_S {t : TS} {w : WS} {i : Nat} (hd : ∀ V ρ, w V ρ → ∃ kus, ρ[i]? = some (.fz (.dit kus))) (run : ∀ V D σ ρ G H, Sv Z σ ρ G H → LockedT σ G H i → w V ρ → Br Z V D G H → t D σ H) : TrS Z (tLockU t) w := fun V D σ ρ G H S hw B => by
  obtain ⟨kus, e⟩ := hd _ _ hw
  obtain ⟨v, e1, r⟩ := S.fz i _ e
  cases r with
  | @dit d kvs _ hd k z =>
    rcases S.vw d _ hd with h | ⟨_, ob, h⟩
    · refine .inl ⟨d, .dT kvs, h, trivial, fun od => ?_⟩
      have SL := S.lock (od := od) hd rfl h
      refine run V _ σ ρ G _ SL (fun d' kvs' e2 hd' => ?_) hw ⟨fun σ' ρ' G' H' S' x p => ?_, fun v u G' H' g' x r p => ?_, fun σ' ρ' G' H' S' x p => ?_, fun σ' ρ' G' H' S' x p => ?_⟩
      · rw [e1] at e2
        cases e2
        rw [hd] at hd'
        cases hd'
        exact ⟨od, upd_same⟩
      · obtain ⟨hl, x'⟩ := ex_unlock hd h x
        exact ⟨hl, B.nx σ' ρ' G' _ (Sv.unlock S S' (x.gg _ _ hd) hd rfl h) x' p⟩
      · obtain ⟨hl, x'⟩ := ex_unlock hd h x
        exact ⟨hl, B.rt v u G' _ (gr_unlock S.gr g' (x.gg _ _ hd) hd rfl h) x' r p⟩
      · obtain ⟨hl, x'⟩ := ex_unlock hd h x
        exact ⟨hl, B.bk σ' ρ' G' _ (Sv.unlock S S' (x.gg _ _ hd) hd rfl h) x' p⟩
      · obtain ⟨hl, x'⟩ := ex_unlock hd h x
        exact ⟨hl, B.ct σ' ρ' G' _ (Sv.unlock S S' (x.gg _ _ hd) hd rfl h) x' p⟩
    · refine .inr (run V D σ ρ G H S (fun d' kvs' e2 hd' => ?_) hw B)
      rw [e1] at e2
      cases e2
      rw [hd] at hd'
      cases hd'
      exact ⟨ob, h⟩
theorem lock_T {t : TE} {w : WE} {i : Nat} (hd : ∀ ρ post, w ρ post → ∃ kus, ρ[i]? = some (.fz (.dit kus)))
    (run : TrFL Z i t w) : TrF Z (tLockEU t) w := fun σ ρ G H post Q S hw q => by
  obtain ⟨kus, e⟩ := hd _ _ hw
  obtain ⟨v, e1, r⟩ := S.fz i _ e
  cases r with
  | @dit d kvs _ hd k z =>
    rcases S.vw d _ hd with h | ⟨_, ob, h⟩
    · refine .inl ⟨d, .dT kvs, h, trivial, fun od => ?_⟩
      have SL := S.lock (od := od) hd rfl h
      refine run σ ρ G _ post _ SL (fun d' kvs' e2 hd' => ?_) hw fun p o u G' H' pu g' np gp hp ho => ?_
      · rw [e1] at e2
        cases e2
        rw [hd] at hd'
        cases hd'
        exact ⟨od, upd_same⟩
      · obtain ⟨hl, x'⟩ := ex_unlock hd h g'.ex
        have hd' := g'.gg _ _ hd
        have nd : p ≠ d := fun z => by rw [z, hd'] at gp; cases gp
        refine ⟨hl, q p o u G' _ pu (gr_unlock (Gr.refl S.vw S.pl) ⟨⟨g'.gg, g'.vw, fun a o' n ea ga => ?_, g'.pl⟩, fun a o' ea => ?_⟩ hd' hd rfl h) (by rw [upd_ne nd] at np; exact np) gp (by rw [upd_ne nd]; exact hp) ho⟩
        · have na : a ≠ d := fun z => by rw [z, hd] at ga; cases ga
          exact g'.fr0 a o' n (by rw [upd_ne na]; exact ea) ga
        · by_cases c : a = d
          · subst c
            rw [hd] at ea
            cases ea
            exact .inr ⟨h, rfl, od, hl⟩
          · have := g'.ge a o' ea
            unfold Lk at this ⊢
            rw [upd_ne c] at this
            exact this
    · refine run σ ρ G H post Q S (fun d' kvs' e2 hd' => ?_) hw q |> .inr
      rw [e1] at e2
      cases e2
      rw [hd] at hd'
      cases hd'
      exact ⟨ob, h⟩
/-- .. as a name's new value -/
theorem s_setL {te : TE} {we : WE} {i j : Nat} (hd : ∀ ρ post, we ρ post → ∃ kus, ρ[i]? = some (.fz (.dit kus))) (h : TrFL Z i te we) (hi : Z.may j := by exact Zc.may_of (by assumption) (by decide)) : TrS Z (tLockU (tAsg te (gName j))) (wSet j we) :=
  lock_S (i := i) (fun V ρ hw => hd ρ _ hw) fun V D σ ρ G H S lk hw B => h σ ρ G H _ _ S lk hw fun p o u G1 H1 pu g np gp hp ho => by
    have g1 := g.freeze np gp hp S.pl
    exact B.nx _ _ _ H1 ((S.step g1).set hi (ho.rp gp)) g1.ex pu
theorem l_lcKeysT {i : Nat} {g : TG} {tt : TT} {te : TE} {wg : WG} {wt : WT} {we : WE} {vs : List Nat} (hg : TrG Z g wg vs) (ht : TrT Z tt wt) (he : TrE Z te we) (h0 : ∀ v ∈ vs, Z.may v := by exact Zc.mayL_of (by assumption) (by decide)) : TrFL Z i (tLc (iKeys (tVar i)) g tt te vs) (wLc (wKeysT i) wg wt we vs) :=
  fun σ ρ G H post Q S lk hw q => lc_at hg ht he h0 S (i_keysT_at S lk) hw q
theorem d_keysT {i : Nat} {wg : WG} {wt : WT} {we : WE} {vs : List Nat} : ∀ ρ post, wLc (wKeysT i) wg wt we vs ρ post → ∃ kus, ρ[i]? = some (.fz (.dit kus)) := fun _ _ ⟨kus, e, _⟩ => ⟨kus, e⟩
theorem v_lcKeysT {i : Nat} {g : TG} {tt : TT} {te : TE} {wg : WG} {wt : WT} {we : WE} {vs : List Nat} (hg : TrG Z g wg vs) (ht : TrT Z tt wt) (he : TrE Z te we) (h0 : ∀ v ∈ vs, Z.may v := by exact Zc.mayL_of (by assumption) (by decide)) : TrF Z (tLockEU (tLc (iKeys (tVar i)) g tt te vs)) (wLc (wKeysT i) wg wt we vs) := lock_T d_keysT (l_lcKeysT hg ht he h0)
theorem s_keysT {i : Nat} {g : TG} {tb : TS} {wg : WG} {wb : WS} {vs : List Nat} (hg : TrG Z g wg vs) (hb : TrS Z tb wb) : TrS Z (tLockU (tFor (iKeys (tVar i)) g tb)) (wFor (wKeysT i) wg wb) := fun V D σ ρ G H S hw B => by
  have hw' := hw
  obtain ⟨kus, e, _⟩ := hw
  obtain ⟨v, e1, r⟩ := S.fz i _ e
  cases r with
  | @dit d kvs _ hd k z =>
    rcases S.vw d _ hd with h | ⟨_, ob, h⟩
    · refine .inl ⟨d, .dT kvs, h, trivial, fun od => ?_⟩
      have SL := S.lock (od := od) hd rfl h
      refine for_at hg hb SL (i_keysT_at SL fun d' kvs' e2 hd' => ?_) hw' ⟨fun σ' ρ' G' H' S' x p => ?_, fun v u G' H' g' x r p => ?_, fun σ' ρ' G' H' S' x p => ?_, fun σ' ρ' G' H' S' x p => ?_⟩
      · rw [e1] at e2
        cases e2
        rw [hd] at hd'
        cases hd'
        exact ⟨od, upd_same⟩
      · obtain ⟨hl, x'⟩ := ex_unlock hd h x
        exact ⟨hl, B.nx σ' ρ' G' _ (Sv.unlock S S' (x.gg _ _ hd) hd rfl h) x' p⟩
      · obtain ⟨hl, x'⟩ := ex_unlock hd h x
        exact ⟨hl, B.rt v u G' _ (gr_unlock S.gr g' (x.gg _ _ hd) hd rfl h) x' r p⟩
      · obtain ⟨hl, x'⟩ := ex_unlock hd h x
        exact ⟨hl, B.bk σ' ρ' G' _ (Sv.unlock S S' (x.gg _ _ hd) hd rfl h) x' p⟩
      · obtain ⟨hl, x'⟩ := ex_unlock hd h x
        exact ⟨hl, B.ct σ' ρ' G' _ (Sv.unlock S S' (x.gg _ _ hd) hd rfl h) x' p⟩
    · refine .inr (for_at hg hb S (i_keysT_at S fun d' kvs' e2 hd' => ?_) hw' B)
      rw [e1] at e2
      cases e2
      rw [hd] at hd'
      cases hd'
      exact ⟨ob, h⟩
/-! ### enumerate of such a dict -/
def wEnumD (i : Nat) : WA := fun ρ post => ∃ kus, ρ[i]? = some (.fz (.dit kus)) ∧ (∀ k ∈ keysOf kus, okKey k) ∧ post (numd ((keysOf kus).map tKey) 0)
theorem i_enumD_at {i : Nat} {σ : L2.St} {ρ : List Cell} {G H : Hp} (S : Sv Z σ ρ G H) (lk : LockedT σ G H i) : TrIat Z σ ρ G H (iEnumD (tCons (tVar i) tNil)) (wEnumD i) := fun post R hw q => by
  obtain ⟨kus, e, hs, p⟩ := hw
  obtain ⟨v, e1, r⟩ := S.fz i _ e
  cases r with
  | @dit d kvs _ hd k z =>
    obtain ⟨ob, hl⟩ := lk d kvs e1 hd
    refine ⟨_, e1, d, ob, kvs, rfl, hl, q _ _ _ _ _ G H p (Gr.refl S.vw S.pl) (by rw [numd_len, List.length_map]; unfold keysOf; rw [List.length_map, k.length]) (by rw [k.length]; exact z) walk_enumD (fun G' H' x _ => ex_locked hd hl x) fun j x G' H' H'' hj x' w' pl y => ?_⟩
    obtain ⟨T, kk, vv, a, ek, rfl, nT, ea, rfl⟩ := y
    obtain ⟨u, eu, _⟩ := k.get ek
    have ej : ((keysOf kus).map tKey)[j]? = some (tKey kk) := by rw [List.getElem?_map]; unfold keysOf; rw [List.getElem?_map, eu]; rfl
    have mk : kk ∈ keysOf kus := by
      unfold keysOf
      exact List.mem_map.mpr ⟨_, List.mem_of_getElem? eu, rfl⟩
    obtain ⟨G1, g1, e1⟩ := gr_frzT w' pl ea
    obtain ⟨G2, g2, r2⟩ := pair_new (x := .int (j : Int)) (c := .int (j : Int)) g1.vw g1.pl nT (.int _) (rp_key (hs kk mk) e1)
    exact ⟨_, _, by rw [numd_get (k := 0) ej, Nat.zero_add], g1.trans g2, r2⟩
/-! ### {k: v for ..}, the keys tuples -/
def wDcT (wi : WA) (wg : WG) (wt : WT) (wk wv : WE) (vs : List Nat) : WE := fun ρ post => wi ρ fun us => ∃ Iv : Nat → List (List Key × U) → Prop, Iv 0 [] ∧
  (∀ (i : Nat) u acc, us[i]? = some u → Iv i acc → wg u (wipeR ρ vs) fun ρ2 => wt ρ2 fun c => if c = true then wk ρ2 fun y => wv ρ2 fun z => ∃ k, y = tKey k ∧ Iv (i + 1) (putU acc k z) else Iv (i + 1) acc) ∧ ∀ acc, Iv us.length acc → post (.dit acc)
theorem key_back {pp : Addr} {G : Hp} : ∀ {k : List Key} {vs : List V}, RpL pp G vs (k.map uKey) → vs = k.map kV
  | [], _, .nil => rfl
  | x :: r, _, .cons h t => by
    have e : (x :: r).map kV = kV x :: r.map kV := rfl
    rw [e, ← key_back t]
    congr 1
    cases x with
    | inl n => cases h; rfl
    | inr n => cases h; rfl
theorem dcT_it {J : It} {n : Nat} {Gd : Hp → Prop} {Y : Nat → Hp → V → Hp → Prop} {g : TG} {tt : TT} {tk tv : TE} {vs : List Nat} {σ : L2.St} {H1 : Hp} {D : Addr} {Qd : Hp → Prop} (wk : Walk J n Gd Y) (Pv : Nat → Hp → Prop) (h0 : Pv 0 (upd H1 D (.dT []))) (hl : ∀ i H, i ≤ n → Pv i H → Gd H)
    (hs : ∀ i x H H', i < n → Pv i H → Y i H x H' → g x (wipe σ vs) H' fun σ2 H2 => wipe σ2 vs = wipe σ vs ∧ tt σ2 H2 fun b H3 => if b = true then tk σ2 H3 fun y H4 => tv σ2 H4 fun z H5 => ∃ kvs k a, y = .ref a ∧ H5 a = some (.tup (k.map kV)) ∧ H5 D = some (.dT kvs) ∧ kvs.length < sizeLine ∧ Pv (i + 1) (upd H5 D (.dT (putK kvs k z))) else Pv (i + 1) H3)
    (hd : ∀ H, Pv n H → Qd H) : ∃ W : Nat → Nat → Hp → Prop, (∃ m, W 0 m (upd H1 D (.dT []))) ∧ ∀ i m H, W i m H → (J.stop i H ∧ Qd H) ∨ (J.go i H ∧ ∃ Nx : Hp → Prop, (∀ H', Nx H' → ∃ m', m' < m ∧ W (i + 1) m' H') ∧ ∀ x H', J.yld i H x H' → g x (wipe σ vs) H' fun σ2 H2 => wipe σ2 vs = wipe σ vs ∧ tt σ2 H2 fun b H3 =>
        if b = true then tk σ2 H3 fun y H4 => tv σ2 H4 fun z H5 => ∃ kvs k a, y = .ref a ∧ H5 a = some (.tup (k.map kV)) ∧ H5 D = some (.dT kvs) ∧ kvs.length < sizeLine ∧ Nx (upd H5 D (.dT (putK kvs k z))) else Nx H3) := by
  refine ⟨fun i m H => m = n - i ∧ i ≤ n ∧ Pv i H, ⟨n, by simp, Nat.zero_le _, h0⟩, ?_⟩
  rintro i m H ⟨rfl, hi, p⟩
  by_cases hlt : i < n
  · exact .inr ⟨wk.goes i H hlt (hl i H hi p), Pv (i + 1), fun H' p' => ⟨n - (i + 1), by omega, rfl, hlt, p'⟩, fun x H' y => hs i x H H' hlt p (wk.yields i H x H' hlt (hl i H hi p) y)⟩
  · obtain rfl : i = n := by omega
    exact .inl ⟨wk.stops H (hl _ H hi p), hd H p⟩
theorem dcT_at {ti : TI} {g : TG} {tt : TT} {tk tv : TE} {wi : WA} {wg : WG} {wt : WT} {wk wv : WE} {vs : List Nat} (hg : TrG Z g wg vs) (ht : TrT Z tt wt) (hk : TrE Z tk wk) (he : TrE Z tv wv) (h0 : ∀ v ∈ vs, Z.may v) {σ : L2.St} {ρ : List Cell} {G H : Hp} {post : U → Prop} {Q : VK} (S : Sv Z σ ρ G H) (hi : TrIat Z σ ρ G H ti wi) (hw : wDcT wi wg wt wk wv vs ρ post)
    (q : ∀ p o u G' H', post u → Z.gr G H G' H' → H p = none → G' p = none → H' p = some o → Ow Z.pp G' o u → Q (.ref p) H') : tDcT ti g tt tk tv vs σ H Q :=
  hi _ _ hw fun J n Gd Y us G1 H1 p g1 hl hz wk' hG hY D nD => by
    obtain ⟨Iv, i0, is, ie⟩ := p
    have S1 := S.step g1
    have gN := Gr.newH (b := Z.b) (o := .dT []) S1.vw S1.pl nD
    refine dcT_it wk' (fun i H' => ∃ G' acc us', Z.gr G1 H1 G' H' ∧ H' D = some (.dT acc) ∧ G' D = none ∧ RpT Z.pp G' acc us' ∧ us'.length ≤ i ∧ Iv i us') ⟨G1, [], [], gN, upd_same, S1.vw.free nD, .nil, Nat.zero_le _, i0⟩ (fun i H' _ ⟨G', acc, us', g', _⟩ => hG G' H' g'.ex g'.vw) (fun i x H' H'' hlt ⟨G', acc, us', g', eD, gD, kA, lA, iv⟩ y => ?_) (fun H' ⟨G', acc, us', g', eD, gD, kA, lA, iv⟩ => ?_)
    · have S' := S1.step g'
      obtain ⟨u, G'', eu, g2, r⟩ := hY i x G' H' H'' hlt g'.ex S'.vw S'.pl y
      have Sw := (S'.step g2).wipe vs h0
      have nDp : Off Z.b Z.pp D := off_none S1.pl nD
      refine hg x u _ _ G'' H'' _ _ Sw r (is i u us' eu iv) fun σ2 ρ2 S3 ew p2 => ⟨ew.trans ?_, ?_⟩
      · refine List.ext_getElem? fun j => ?_
        rw [wipe_at, wipe_at, wipe_length]
        by_cases m : j ∈ vs
        · rw [if_pos m, if_pos m]
        · rw [if_neg m, if_neg m]
      refine ht σ2 ρ2 G'' H'' _ _ S3 p2 fun c G3 H3 p3 g3 => ?_
      obtain ⟨gD2, eD2⟩ := g2.fr D _ nDp eD gD rfl
      obtain ⟨gD3, eD3⟩ := g3.fr D _ nDp eD2 gD2 rfl
      cases c with
      | false => exact iteF ⟨G3, acc, us', (g'.trans g2).trans g3, eD3, gD3, (kA.same g2.gg).same g3.gg, Nat.le_succ_of_le lA, p3⟩
      | true =>
        refine iteT (hk σ2 ρ2 G3 H3 _ _ (S3.step g3) p3 fun kv ky G4 H4 p4 g4 r4 => he σ2 ρ2 G4 H4 _ _ ((S3.step g3).step g4) p4 fun v yv G5 H5 p5 g5 r5 => ?_)
        obtain ⟨k, rfl, p6⟩ := p5
        obtain ⟨gD4, eD4⟩ := g4.fr D _ nDp eD3 gD3 rfl
        obtain ⟨gD5, eD5⟩ := g5.fr D _ nDp eD4 gD4 rfl
        have kA5 := (((kA.same g2.gg).same g3.gg).same g4.gg).same g5.gg
        have lk : acc.length = us'.length := kA5.length
        have r4' := r4.same g5.gg
        unfold tKey at r4'
        cases r4' with
        | @tup ak vsk _ hk' kk _ =>
          cases key_back kk
          exact ⟨acc, k, ak, rfl, g5.vw.tup hk', eD5, lineN (by omega), G5, putK acc k v, putU us' k yv, gr_own ((((g'.trans g2).trans g3).trans g4).trans g5) S1.vw S1.pl nD gD5 _ (.inr fun x ex => (by rw [eD5] at ex; cases ex; exact ⟨(fun _ z => nomatch z), (fun _ z => nomatch z)⟩)), upd_same, gD5, kA5.put r5, Nat.le_trans (putU_len _ _ _) (Nat.succ_le_succ lA), p6⟩
    · rw [← hl] at iv
      exact q D _ _ G' H' (ie us' iv) (g1.trans g') (free_back S g1 nD) gD eD (.dit kA (Nat.le_trans lA (by omega)))
theorem v_dcT {ti : TI} {g : TG} {tt : TT} {tk tv : TE} {wi : WA} {wg : WG} {wt : WT} {wk wv : WE} {vs : List Nat} (hi : TrI Z ti wi) (hg : TrG Z g wg vs) (ht : TrT Z tt wt) (hk : TrE Z tk wk) (he : TrE Z tv wv) (h0 : ∀ v ∈ vs, Z.may v := by exact Zc.mayL_of (by assumption) (by decide)) : TrF Z (tDcT ti g tt tk tv vs) (wDcT wi wg wt wk wv vs) :=
  fun σ ρ G H post Q S hw q => dcT_at hg ht hk he h0 S (hi σ ρ G H S) hw q
/-- .. over enumerate(a dict by tuples) -/
theorem l_dcEnumD {i : Nat} {g : TG} {tt : TT} {tk tv : TE} {wg : WG} {wt : WT} {wk wv : WE} {vs : List Nat} (hg : TrG Z g wg vs) (ht : TrT Z tt wt) (hk : TrE Z tk wk) (he : TrE Z tv wv) (h0 : ∀ v ∈ vs, Z.may v := by exact Zc.mayL_of (by assumption) (by decide)) : TrFL Z i (tDcT (iEnumD (tCons (tVar i) tNil)) g tt tk tv vs) (wDcT (wEnumD i) wg wt wk wv vs) :=
  fun σ ρ G H post Q S lk hw q => dcT_at hg ht hk he h0 S (i_enumD_at S lk) hw q
theorem d_enumD {i : Nat} {wg : WG} {wt : WT} {wk wv : WE} {vs : List Nat} : ∀ ρ post, wDcT (wEnumD i) wg wt wk wv vs ρ post → ∃ kus, ρ[i]? = some (.fz (.dit kus)) := fun _ _ ⟨kus, e, _⟩ => ⟨kus, e⟩
/-! ### list(d), len(d) -/
def rListDT : List V → Hp → VK → Prop := fun xs H Q => ∃ d kvs, xs = [V.ref d] ∧ Rd H d (.dT kvs) ∧ ∀ p bs, H p = none → IsKeys H kvs bs → Q (.ref p) (upd H p (.lst (bs.map V.ref)))
def wListD (wA : WA) : WE := fun ρ post => wA ρ fun us => ∃ kus, us = [.dit kus] ∧ (∀ k ∈ keysOf kus, okKey k) ∧ post (.lst ((keysOf kus).map tKey))
theorem v_listD {tA : TA} {wA : WA} (h : TrAB Z tA wA) : TrF Z (tCB rListDT tA) (wListD wA) := fun σ ρ G H post Q S hw q => h σ ρ G H _ _ S hw fun vs us G1 H1 w1 g1 h1 => by
  obtain ⟨kus, rfl, ok, hp⟩ := w1
  cases h1 with
  | cons r t =>
    cases t
    cases r with
    | @dit a kvs _ hd k z =>
      have S1 := S.step g1
      refine ⟨a, kvs, rfl, hd, fun p bs np hk => ?_⟩
      obtain ⟨G2, g2, r2⟩ := freezeKeys (G := G1) S1.vw S1.pl S1.vw hk (by rw [keysOf_rp k]; exact ok)
      rw [keysOf_rp k] at r2
      have z2 : ((keysOf kus).map tKey).length ≤ 100000 := by rw [List.length_map]; unfold keysOf; rw [List.length_map]; exact z
      exact q p _ _ G2 _ hp ((g1.trans g2).trans (Gr.newH g2.vw g2.pl np)) (free_back S g1 np) (g2.vw.free np) upd_same (.lst r2 z2)
end
def rLenW (K : PySem.W.Frag) : List V → Hp → VK → Prop := fun xs H Q => rLenV K xs H Q ∨ ∃ a kvs, xs = [V.ref a] ∧ Rd H a (.dT kvs) ∧ Q (.int kvs.length) H
theorem call_lenDTR {X : Cx} : CallR X (.builtin "len") (fun xs H Q => ∃ a kvs, xs = [V.ref a] ∧ Rd H a (.dT kvs) ∧ Q (.int kvs.length) H) := by
  intro pins s σ H xs us Q I r h
  obtain ⟨p, kvs, rfl, hp, q⟩ := h
  obtain ⟨u, rfl, rx⟩ := vals1 r
  obtain rfl : u = .ref p := rx
  obtain ⟨z, hd, ys, rel, dd⟩ := dt_rd I.hok hp
  have hl : kvs.length = ys.length := Paired.length rel
  refine call_len_dictH hd dd (by rw [← hl]; rw [sizeLine_eq] at z; omega) ?_
  rw [← hl]
  exact ⟨.int ((kvs.length : Nat) : Int), H, I.tok _, ⟨_, rfl⟩, q⟩
theorem call_lenW {X : Cx} (K : PySem.W.Frag) (h : X.K = K := by rfl) : CallR X (.builtin "len") (rLenW K) := by subst h; exact CallR.or (call_lenV X.K) call_lenDTR
def bLenW : FB := fun us post => bLen us post ∨ ∃ kus, us = [.dit kus] ∧ post (.int (kus.length : Nat))
theorem b_lenW {K : PySem.W.Frag} : CallOk (rLenW K) bLenW := by
  intro b pp q G H vs us Q post w p hv hF k
  rcases hF with hF | ⟨kus, rfl, hp⟩
  · exact .inl (b_len b pp q G H vs us Q post w p hv hF k)
  · cases hv with
    | cons r t =>
      cases t
      cases r with
      | @dit a kvs _ h kk z =>
        refine .inr ⟨a, kvs, rfl, h, ?_⟩
        rw [kk.length]
        exact k _ _ G H hp (Gr.refl w p) (.int _)
/-! ### `in` and index over nested things -/
def inD (neg : Bool) (x : U) (us : List U) : Option U := match toPy x, toPys us with
  | some d, some ds => if SeqAt.shaped d && SeqAt.shaped (.list ds) then some (.bl (let c := ds.any fun z => PyData.eqv z d; if neg then !c else c)) else none
  | _, _ => none
def fInD (neg : Bool) : U → U → Option U := fun x y => match y with
  | .lst us => inD neg x us
  | _ => none
def rInDV (K : PySem.W.Frag) (neg : Bool) : R2 := if neg then rNotInD K else rInD K
theorem op_inDV {X : Cx} (K : PySem.W.Frag) (hu : X.A.units + 128 < cLine) (h : X.K = K := by rfl) : OpR X (compareOp .In) (rInDV K false) := by subst h; exact op_inD (by omega)
theorem op_notInDV {X : Cx} (K : PySem.W.Frag) (hu : X.A.units + 128 < cLine) (h : X.K = K := by rfl) : OpR X (compareOp .NotIn) (rInDV K true) := by subst h; exact op_notInD (by omega)
theorem o_inD {K : PySem.W.Frag} {neg : Bool} : OpOk (rInDV K neg) (fInD neg) := by
  intro b pp q G H v1 v2 x y u Q w p h1 h2 e k
  unfold fInD at e
  split at e
  · rename_i us
    unfold inD at e
    split at e
    · rename_i d ds e1 e2
      split at e
      · rename_i sh
        obtain ⟨s1, s2⟩ := Bool.and_eq_true_iff.mp sh
        cases e
        have dy : Dp K H v2 (.list ds) := h2.dp w (by unfold toPy; rw [e2]; rfl)
        cases neg with
        | true => exact ⟨d, ds, h1.dp w e1, dy, s1, s2, k _ G H (Gr.refl w p) (.bl _)⟩
        | false => exact ⟨d, ds, h1.dp w e1, dy, s1, s2, k _ G H (Gr.refl w p) (.bl _)⟩
      · cases e
    · cases e
  · cases e
end SV
/-! The value layer: index over nested things, list(zip(t, u)), an error class without fields, a def that gets a lambda and makes one. -/
namespace SV
open PySem PySem.Spec PyProof.Rows L2 SL LamX NdefX
section
variable {Z : Zc} {to te : TE} {wo we : WE}
/-- xs.index(e), of things of any depth -/
def wIndexD (wo we : WE) : WE := fun ρ post => wo ρ fun x => ∃ us ds, x = .lst us ∧ toPys us = some ds ∧ SeqAt.shaped (.list ds) = true ∧ we ρ fun y => ∃ (d : PyData) (j : Nat) (z : PyData), toPy y = some d ∧ SeqAt.shaped d = true ∧ ds[j]? = some z ∧ PyData.eqv z d = true ∧ (∀ (m : Nat) (z' : PyData), m < j → ds[m]? = some z' → PyData.eqv z' d = false) ∧ post (.int (j : Nat))
theorem v_indexD {K : PySem.W.Frag} (ho : TrB Z to wo) (he : TrE Z te we) : TrE Z (tBM K "list" (rIndexD K) to (tCons te tNil)) (wIndexD wo we) := fun σ ρ G H post Q S hw q =>
  ho σ ρ G H _ _ S hw fun v x G1 H1 w1 g1 r1 => by
    obtain ⟨us, ds, rfl, fe, sh, w1⟩ := w1
    have S1 := S.step g1
    have r1' := r1
    cases r1 with
    | @lst a vs' _ h k zz =>
      refine ⟨.inl ⟨rfl, _, SqL.of h⟩, he σ ρ G1 H1 _ _ S1 w1 fun u y G2 H2 w2 g2 r2 => ?_⟩
      obtain ⟨d, j, z, f2, sd, e1, e2, e3, p⟩ := w2
      have S2 := S1.step g2
      have r3 := r1'.step g2 S1.vw S1.pl
      exact ⟨a, u, d, ds, j, z, rfl, rfl, r3.dp S2.vw (by unfold toPy; rw [fe]; rfl), r2.dp S2.vw f2, sh, sd, e1, e2, e3, q _ _ G2 H2 p (g1.trans g2) (.int _)⟩
theorem mt_indexDK {X : Cx} (K : PySem.W.Frag) (hu : X.A.units + 128 < cLine) (h : X.K = K := by rfl) : MtR X "list.index" (rIndexD K) := by subst h; exact mt_indexD (by omega)
theorem room128 {k : Nat} {A : Around} (r : Room k A) : A.units + 128 < cLine := by have := r.un; omega
/-! ### list(zip(t, u)) -/
def wListZip (wA : WA) : WE := fun ρ post => wA ρ fun us => ∃ xs ys : List U, us = [.tup xs, .tup ys] ∧ xs.length = ys.length ∧ post (.lst (zipU xs ys))
theorem zip_rp {pp : Addr} {G : Hp} : ∀ {vs ws : List V} {xs ys : List U} {ps : List V}, RpL pp G vs xs → RpL pp G ws ys → Paired (fun p (c : List V) => ∃ a, p = V.ref a ∧ G a = some (.tup c)) ps ((vs.zip ws).map fun p => [p.1, p.2]) → RpL pp G ps (zipU xs ys)
  | _, _, _, _, _, .nil, _, h => by
    cases h
    exact .nil
  | _, _, _, _, _, .cons _ _, .nil, h => by
    cases h
    exact .nil
  | _, _, _, _, _, .cons h1 t1, .cons h2 t2, h => by
    cases h with
    | cons h t =>
      obtain ⟨a, rfl, e⟩ := h
      exact .cons (.tup e (.cons h1 (.cons h2 .nil)) (by show 2 ≤ 100000; decide)) (zip_rp t1 t2 t)
theorem paired_imp {α β : Type} {F F' : α → β → Prop} (f : ∀ x y, F x y → F' x y) : ∀ {xs : List α} {ys : List β}, Paired F xs ys → Paired F' xs ys
  | _, _, .nil => .nil
  | _, _, .cons h t => .cons (f _ _ h) (paired_imp f t)
theorem paired_mem {α β : Type} {F : α → β → Prop} : ∀ {xs : List α} {ys : List β}, Paired F xs ys → Paired (fun x y => F x y ∧ x ∈ xs) xs ys
  | _, _, .nil => .nil
  | _, _, .cons h t => .cons ⟨h, List.mem_cons_self⟩ (paired_imp (fun x y z => ⟨z.1, List.mem_cons_of_mem _ z.2⟩) (paired_mem t))
theorem paired_at {α β : Type} {F : α → β → Prop} {x : α} : ∀ {xs : List α} {ys : List β}, Paired F xs ys → x ∈ xs → ∃ y, F x y
  | _, _, .nil, h => nomatch h
  | _, _, .cons h t, m => by
    rcases List.mem_cons.mp m with rfl | m
    · exact ⟨_, h⟩
    · exact paired_at t m
theorem v_listZip {K : PySem.W.Frag} {tA : TA} {wA : WA} (h : TrA Z tA wA) : TrF Z (tListZip K tA) (wListZip wA) := fun σ ρ G H post Q S hw q => h σ ρ G H _ _ S hw fun vs us G1 H1 w1 g1 h1 => by
  obtain ⟨xs, ys, rfl, l, hp⟩ := w1
  have S1 := S.step g1
  cases h1 with
  | cons r t =>
    cases t with
    | cons r2 t =>
      cases t
      cases r with
      | @tup a vx _ ha ka za =>
        cases r2 with
        | @tup b vy _ hb kb zb =>
          have lx : vx.length = vy.length := by rw [ka.length, kb.length, l]
          refine ⟨a, b, vx, vy, rfl, SqT.of (S1.vw.tup ha), SqT.of (S1.vw.tup hb), lx, by rw [ka.length]; exact za, fun H2 l' ps s nl el _ nt => ?_⟩
          have g2 := land (pp := Z.pp) (q := Z.q) S1.vw S1.pl s (fun c => V.ref c ∈ ps)
          have nin : V.ref l' ∉ ps := fun m => by
            obtain ⟨c, a', e1, _, e2⟩ := paired_at nt m
            cases e1
            rw [el] at e2
            cases e2
          have gl : landG G1 H1 H2 (fun c => V.ref c ∈ ps) l' = none := by
            unfold landG
            rw [if_neg fun z => nin z.2]
            exact S1.vw.free nl
          have rz := zip_rp (ka.same g2.gg) (kb.same g2.gg) (ps := ps) (paired_imp (fun p c z => by
            obtain ⟨⟨a', rfl, n1, e1⟩, m⟩ := z
            exact ⟨a', rfl, by rw [landG_new n1 m]; exact e1⟩) (paired_mem nt))
          exact q l' _ _ _ H2 hp (g1.trans g2) (free_back S g1 nl) gl el (.lst rz (by rw [zipU_len]; omega))
/-! ### raise C(), C an own error class without __init__ -/
theorem pmk_own0 {X : Cx} {C : Addr} {bmB : List Value} {B newId initId : String} {x : Str} {p pos : Pos} (F : ExcBaseFacts B newId initId bmB) (q : PySem.W.excIn X.K C bmB newId = true) (gC : X.mg x = some (.ref C)) (kC : PySem.W.keepIn X.K (.ref C) = true) (r : Raises X (.ref C)) (hg : Gl X x := by rfl)
    (hdb : (x == ("__debug__" : Str)) = false := by decide) : PMk X (.Call (.Name x p) [] [] pos) (fun _ H Q => Q (.ref C) none H) := by
  intro pins s σ H Q I h
  refine wpAny_Call_Name_kw (ld_glob I hg gC ?_ hdb)
  refine PySem.W.callWith_K0 I.kIn kC ?_
  show wpAny _ _ (call (.ref C) []) _ _ _
  obtain ⟨bm, N, nm, qn, bs, hdct, sn, sub, ab, col, dd, k0, k1, k2, k3, k5, mN, hC, hN, hni, T⟩ := exc_obj I.kIn q
  refine wpAny_call_exc_subT F T hC hN hni (fun h' e hm => ?_) (Nat.zero_le _)
  exact mk_of I hm r h (I.hok.gone hm.new)
def wRaise0 (C : Addr) (ew : EW) : WS := fun _ _ => ew C []
theorem s_raise0 {C : Addr} {E : XK} (hE : Z.E = E) : TrS Z (fun _ _ H => E (.ref C) none H) (wRaise0 C Z.ew) := fun V D σ ρ G H S hw B => by
  subst hE
  exact S.ex C [] [] none _ _ hw S.gr (.inr ⟨rfl, rfl⟩) .nil
end
section
variable {Z : Zc} {ta tb : TE} {wa wb : WE}
/-! ### == by an own __eq__; is True -/
def wOwnEq (C : Addr) (W : Wf) (wa wb : WE) : WE := fun ρ post => wa ρ fun x => wb ρ fun y => ∃ fs gs, x = .ins C fs ∧ y = .ins C gs ∧ W [x, y] (fun u => ∃ r, u = .bl r ∧ post u) fun _ _ => False
theorem v_ownEq {b : PT} {C : Addr} {W : Wf} (hp : PLe b Z.b) (ha : TrE Z ta wa) (hb : TrE Z tb wb) : TrE Z (tOp (rOwnEq C (spV b 2 W) E0) ta tb) (wOwnEq C W wa wb) := fun σ ρ G H post Q S hw q =>
  ha σ ρ G H _ _ S hw fun v x G1 H1 w1 g1 r1 => hb σ ρ G1 H1 _ _ (S.step g1) w1 fun u y G2 H2 w2 g2 r2 => by
    obtain ⟨fs, gs, rfl, rfl, hW⟩ := w2
    have S2 := (S.step g1).step g2
    have r1' := r1.same g2.gg
    have k1 := r1'
    have k2 := r2
    cases r1' with
    | ins h1 _ =>
      cases r2 with
      | ins h2 _ =>
        refine ⟨_, _, _, _, _, _, rfl, rfl, S2.vw.ins h1, S2.vw.ins h2, _, Z.pp, Z.q, G2, _, fun _ _ => False, .cons k1 (.cons k2 .nil), rfl, S2.vw, S2.pl.le hp, hW, fun v u G' H' p g r => ?_, fun _ _ _ _ _ _ z => z.elim⟩
        obtain ⟨c, rfl, p⟩ := p
        cases r
        exact ⟨c, rfl, q _ _ G' H' p ((g1.trans g2).trans (g.le hp S2.pl)) (.bl c)⟩
def rIsC (C : Addr) : List V → Hp → VK → Prop := fun xs H Q => ∃ a dx fs, xs = [.ref a, .ref C] ∧ H a = some (.ins C dx fs) ∧ Q (.bl true) H
theorem call_isCK {X : Cx} {C : Addr} (K : PySem.W.Frag) (c : C8.InsC K C) (h : X.K = K := by rfl) : CallR X (.builtin "isinstance") (rIsC C) := by subst h; exact C8.call_isC c
def wIsC (C : Addr) (wa : WE) : WE := fun ρ post => wa ρ fun x => ∃ fs, x = .ins C fs ∧ post (.bl true)
theorem v_isC {C : Addr} (ha : TrB Z ta wa) : TrE Z (tCB (rIsC C) (tCons ta (tCons (tC (.ref C)) tNil))) (wIsC C wa) := fun σ ρ G H post Q S hw q => ha σ ρ G H _ _ S hw fun v x G1 H1 w1 g1 r1 => by
  obtain ⟨fs, rfl, p⟩ := w1
  cases r1 with
  | ins h k => exact ⟨_, _, _, rfl, h, q _ _ G1 H1 p g1 (.bl true)⟩
def fIsB : U → U → Option U
  | .bl a, .bl b => some (.bl (decide (a = b)))
  | _, _ => none
theorem o_isB : OpOk rIsB fIsB := by
  intro b pp q G H v1 v2 x y u Q w p h1 h2 e k
  unfold fIsB at e
  split at e
  · cases e
    cases h1
    cases h2
    exact ⟨_, _, rfl, rfl, k _ G H (Gr.refl w p) (.bl _)⟩
  · cases e
end
section
variable {P : Program} {w : World} {K : PySem.W.Frag} {mg : Str → Option Value} {base : Heap}
/-! ### a def that gets a lambda and makes one -/
theorem okLC {b : PT} {n : Nat} {D : LamD} {fr : List Str} {W : Wf} {x qual : Str} {st : Stmt} {f c : Addr} {fd : FuncData} {N ps : List Str} {k : Nat} (hc : fd.code = .ref c) (F : Fun K x qual st f fd) (S : FnScope N ps (defScope st)) (hn : ps.length = n + 1) (hN : n + 1 ≤ N.length)
    (hbody : ∀ (A : Around) (outer : List Env) (s : Shared) (H : Hp) (E : XK), Room k (A.deeper (envOfC qual (defScope st) s.heap.objs.size f (.ref c))) →
      ∃ t, PSs (cxOf CX0 P w K mg base N qual (defScope st) f (.ref c) A outer s H E).nox (defBody st) t ∧ ∀ Z : Zc, Z.b = b → Z.E = E → Z.mays (fun i => i != n) → ∀ caps, Held Z n D fr caps → ∃ w, TrS Z t w ∧ ∀ us post, us.length = n → W (us ++ caps) post Z.ew → w { nx := fun _ => post .non, rt := post } (us.map Cell.fz ++ List.replicate (N.length - us.length) Cell.no)) :
    FnOk P w K mg base CX0 (k + 1) f fd ps (spL b n D fr W) := by
  obtain ⟨oc, od, kV, doc, pm, an, cdv, ct, osl, rfl, lk, hcd⟩ := F.ex
  obtain rfl : cdv = .ref c := hc
  refine fn_of lk hcd S (fun vs H Q E h => (spL_len h).trans hn.symm) fun A outer s H vs Q E hr h => ?_
  obtain ⟨t, ht, tr⟩ := hbody A outer s H E hr
  exact ⟨t, ht.nox, bodyL_of hN tr h⟩
theorem okLCX {b : PT} {n : Nat} {D : LamD} {fr : List Str} {W : Wf} {x qual : Str} {st : Stmt} {f c : Addr} {fd : FuncData} {N ps : List Str} {k : Nat} (hc : fd.code = .ref c) (F : Fun K x qual st f fd) (S : FnScope N ps (defScope st)) (hn : ps.length = n + 1) (hN : n + 1 ≤ N.length)
    (hbody : ∀ (A : Around) (outer : List Env) (s : Shared) (H : Hp) (E : XK), Room k (A.deeper (envOfC qual (defScope st) s.heap.objs.size f (.ref c))) →
      ∃ t, PSs (cxOf (L2.CX P w) P w K mg base N qual (defScope st) f (.ref c) A outer s H E) (defBody st) t ∧ ∀ Z : Zc, Z.b = b → Z.E = E → Z.mays (fun i => i != n) → ∀ caps, Held Z n D fr caps → ∃ w, TrS Z t w ∧ ∀ us post, us.length = n → W (us ++ caps) post Z.ew → w { nx := fun _ => post .non, rt := post } (us.map Cell.fz ++ List.replicate (N.length - us.length) Cell.no)) :
    FnOk P w K mg base (L2.CX P w) (k + 1) f fd ps (spL b n D fr W) := by
  obtain ⟨oc, od, kV, doc, pm, an, cdv, ct, osl, rfl, lk, hcd⟩ := F.ex
  obtain rfl : cdv = .ref c := hc
  refine fn_of lk hcd S (fun vs H Q E h => (spL_len h).trans hn.symm) fun A outer s H vs Q E hr h => ?_
  obtain ⟨t, ht, tr⟩ := hbody A outer s H E hr
  exact ⟨t, ht, bodyL_of hN tr h⟩
end
end SV
/-! What is met from some first things on, in the order of the meeting; dicts of what was met. -/
namespace SV
open PySem PySem.Spec PyProof.Rows L2 SL
section
variable {α : Type} [DecidableEq α]
def addOne (m : List α) (x : α) : List α := if x ∈ m then m else m ++ [x]
def addNew (m f : List α) : List α := f.foldl addOne m
theorem addNew_nil (m : List α) : addNew m [] = m := rfl
theorem addNew_cons (m : List α) (x : α) (f : List α) : addNew m (x :: f) = addNew (addOne m x) f := rfl
theorem addNew_snoc (m f : List α) (x : α) : addNew m (f ++ [x]) = addOne (addNew m f) x := by
  unfold addNew
  rw [List.foldl_append]
  rfl
theorem addOne_pre (m : List α) (x : α) : m <+: addOne m x := by
  unfold addOne
  split
  · exact List.prefix_refl m
  · exact List.prefix_append m [x]
theorem addNew_pre : ∀ (f m : List α), m <+: addNew m f
  | [], m => List.prefix_refl m
  | x :: f, m => (addOne_pre m x).trans (addNew_pre f (addOne m x))
theorem mem_addOne {m : List α} {x y : α} : y ∈ addOne m x ↔ y ∈ m ∨ y = x := by
  unfold addOne
  split
  · rename_i h
    exact ⟨.inl, fun z => z.elim id fun e => e ▸ h⟩
  · rw [List.mem_append, List.mem_singleton]
theorem mem_addNew : ∀ {f m : List α} {y : α}, y ∈ addNew m f ↔ y ∈ m ∨ y ∈ f
  | [], m, y => by
    rw [addNew_nil]
    simp
  | x :: f, m, y => by
    rw [addNew_cons, mem_addNew, mem_addOne, List.mem_cons]
    constructor
    · rintro ((h | h) | h)
      · exact .inl h
      · exact .inr (.inl h)
      · exact .inr (.inr h)
    · rintro (h | h | h)
      · exact .inl (.inl h)
      · exact .inl (.inr h)
      · exact .inr h
theorem addOne_nd {m : List α} (h : m.Nodup) (x : α) : (addOne m x).Nodup := by
  unfold addOne
  split
  · exact h
  · rename_i n
    rw [List.nodup_append]
    refine ⟨h, by simp, fun a ha b hb e => n ?_⟩
    rw [List.mem_singleton.mp hb] at e
    rw [← e]
    exact ha
theorem addNew_nd : ∀ {f m : List α}, m.Nodup → (addNew m f).Nodup
  | [], _, h => h
  | x :: f, m, h => addNew_nd (f := f) (addOne_nd h x)
theorem addNew_of_nd : ∀ {f m : List α}, f.Nodup → (∀ x ∈ f, x ∉ m) → addNew m f = m ++ f
  | [], m, _, _ => by rw [addNew_nil, List.append_nil]
  | x :: f, m, nd, h => by
    obtain ⟨h1, h2⟩ := List.nodup_cons.mp nd
    rw [addNew_cons, show addOne m x = m ++ [x] from if_neg (h x List.mem_cons_self), addNew_of_nd h2 fun y hy hm => ?_]
    · rw [List.append_assoc]
      rfl
    · rcases List.mem_append.mp hm with hm | hm
      · exact h y (List.mem_cons_of_mem _ hy) hm
      · rw [List.mem_singleton.mp hm] at hy
        exact h1 hy
/-- i of what was met are done; at most n more are -/
def metN (g : α → List α) : Nat → Nat → List α → List α
  | 0, _, m => m
  | n + 1, i, m => match m[i]? with
    | some x => metN g n (i + 1) (addNew m (g x))
    | none => m
theorem metN_pre (g : α → List α) : ∀ (n i : Nat) (m : List α), m <+: metN g n i m
  | 0, _, m => List.prefix_refl m
  | n + 1, i, m => by
    unfold metN
    split
    · exact (addNew_pre _ m).trans (metN_pre g n (i + 1) _)
    · exact List.prefix_refl m
theorem metN_nd {g : α → List α} : ∀ {n i : Nat} {m : List α}, m.Nodup → (metN g n i m).Nodup
  | 0, _, _, h => h
  | n + 1, i, m, h => by
    unfold metN
    split
    · exact metN_nd (addNew_nd h)
    · exact h
theorem metN_sub {g : α → List α} {D : List α} (cl : ∀ x ∈ D, ∀ y ∈ g x, y ∈ D) : ∀ {n i : Nat} {m : List α}, (∀ x ∈ m, x ∈ D) → ∀ x ∈ metN g n i m, x ∈ D
  | 0, _, _, h => h
  | n + 1, i, m, h => by
    unfold metN
    split
    · rename_i x e
      exact metN_sub cl fun y hy => (mem_addNew.mp hy).elim (h y) (cl x (h x (List.mem_of_getElem? e)) y)
    · exact h
theorem nd_len {D m : List α} (nd : m.Nodup) (h : ∀ x ∈ m, x ∈ D) : m.length ≤ D.length := by
  induction m generalizing D with
  | nil => exact Nat.zero_le _
  | cons x r ih =>
    obtain ⟨n1, n2⟩ := List.nodup_cons.mp nd
    have hx := h x List.mem_cons_self
    have := ih (D := D.erase x) n2 fun y hy => (List.mem_erase_of_ne (fun e => n1 (by rw [← e]; exact hy))).mpr (h y (List.mem_cons_of_mem _ hy))
    rw [List.length_erase_of_mem hx] at this
    have pos : 0 < D.length := List.length_pos_of_mem hx
    show r.length + 1 ≤ D.length
    omega
/-- what is met is closed once enough are done -/
theorem metN_closed {g : α → List α} {D : List α} (cl : ∀ x ∈ D, ∀ y ∈ g x, y ∈ D) : ∀ {n i : Nat} {m : List α}, m.Nodup → (∀ x ∈ m, x ∈ D) → i ≤ m.length → D.length ≤ i + n → (∀ j x, j < i → m[j]? = some x → ∀ y ∈ g x, y ∈ m) → ∀ x ∈ metN g n i m, ∀ y ∈ g x, y ∈ metN g n i m
  | 0, i, m, nd, sub, hi, hn, done => fun x hx y hy => by
    have hx : x ∈ m := hx
    obtain ⟨j, hj⟩ := List.mem_iff_getElem?.mp hx
    have := nd_len nd sub
    have jl := (List.getElem?_eq_some_iff.mp hj).1
    exact done j x (by omega) hj y hy
  | n + 1, i, m, nd, sub, hi, hn, done => by
    unfold metN
    split
    · rename_i x e
      have il := (List.getElem?_eq_some_iff.mp e).1
      have pre := addNew_pre (g x) m
      refine metN_closed cl (addNew_nd nd) (fun y hy => (mem_addNew.mp hy).elim (sub y) (cl x (sub x (List.mem_of_getElem? e)) y)) (Nat.le_trans il pre.length_le) (by omega) fun j y hj hy z hz => ?_
      have jl : j < m.length := by omega
      have ej : m[j]? = some y := by
        obtain ⟨t, ht⟩ := pre
        rw [← ht, List.getElem?_append_left jl] at hy
        exact hy
      rw [mem_addNew]
      by_cases c : j = i
      · subst c
        rw [e] at ej
        cases ej
        exact .inr hz
      · exact .inl (done j y (by omega) ej z hz)
    · rename_i e
      have := List.getElem?_eq_none_iff.mp e
      intro x hx y hy
      obtain ⟨j, hj⟩ := List.mem_iff_getElem?.mp hx
      have jl := (List.getElem?_eq_some_iff.mp hj).1
      exact done j x (by omega) hj y hy
/-! ### dicts of what was met -/
variable {κ : Type} [DecidableEq κ] {pk : α → κ}
theorem keys_map {β : Type} (pk : α → κ) (f : α → β) (m : List α) : keysOf (m.map fun x => (pk x, f x)) = m.map pk := by
  unfold keysOf
  rw [List.map_map]
  rfl
theorem val_map {β : Type} (inj : ∀ x y : α, pk x = pk y → x = y) (f : α → β) : ∀ (m : List α) (x : α), valU (m.map fun x => (pk x, f x)) (pk x) = if x ∈ m then some (f x) else none
  | [], x => by
    rw [if_neg (fun h => nomatch h)]
    rfl
  | y :: m, x => by
    rw [List.map_cons]
    by_cases c : y = x
    · subst c
      rw [valU_pos rfl, if_pos List.mem_cons_self]
    · rw [valU_neg fun e => c (inj _ _ e), val_map inj f m x]
      by_cases h : x ∈ m
      · rw [if_pos h, if_pos (List.mem_cons_of_mem _ h)]
      · rw [if_neg h, if_neg fun z => (List.mem_cons.mp z).elim (fun e => c e.symm) h]
theorem put_new {β : Type} {kvs : List (κ × β)} {k : κ} {v : β} (h : k ∉ keysOf kvs) : putU kvs k v = kvs ++ [(k, v)] := by
  unfold putU
  rw [valU_any, val_none.mpr h]
  rfl
theorem put_map {β : Type} (inj : ∀ x y : α, pk x = pk y → x = y) (f : α → β) {m : List α} {x : α} (h : x ∉ m) : putU (m.map fun x => (pk x, f x)) (pk x) (f x) = (m ++ [x]).map fun x => (pk x, f x) := by
  rw [put_new, List.map_append]
  · rfl
  · rw [keys_map]
    intro z
    obtain ⟨y, hy, e⟩ := List.mem_map.mp z
    rw [inj _ _ e] at hy
    exact h hy
/-- a dict comprehension over things that may come twice -/
theorem put_one {β : Type} (inj : ∀ x y : α, pk x = pk y → x = y) (v : β) (m : List α) (x : α) : putU (m.map fun x => (pk x, v)) (pk x) v = (addOne m x).map fun x => (pk x, v) := by
  unfold addOne
  by_cases h : x ∈ m
  · rw [if_pos h]
    unfold putU
    rw [valU_any, val_map inj (fun _ => v), if_pos h]
    rw [if_pos (show (some v).isSome = true from rfl), List.map_map]
    refine List.map_congr_left fun y _ => ?_
    show (if pk y = pk x then (pk y, v) else (pk y, v)) = _
    split <;> rfl
  · rw [if_neg h]
    exact put_map inj (fun _ => v) h
end
/-! ### pairs of whole numbers -/
abbrev IP := Int × Int
def ipU (p : IP) : U := .tup [.int p.1, .int p.2]
def ipK (p : IP) : List Key := [.inl p.1, .inl p.2]
theorem ipK_inj (p q : IP) (h : ipK p = ipK q) : p = q := by
  obtain ⟨a, b⟩ := p
  obtain ⟨c, d⟩ := q
  unfold ipK at h
  injection h with h1 h2
  injection h2 with h2 h3
  injection h1 with h1
  injection h2 with h2
  simp only at h1 h2
  rw [h1, h2]
theorem ipU_key (p : IP) : ipU p = tKey (ipK p) := rfl
theorem ipK_ok (p : IP) : okKey (ipK p) := ⟨by show 2 ≤ 100000; decide, fun s h => by
  unfold ipK at h
  rcases List.mem_cons.mp h with h | h
  · cases h
  · rcases List.mem_cons.mp h with h | h
    · cases h
    · cases h⟩
theorem ip_look (kus : List (List Key × U)) (p : IP) : lookU (.dit kus) (ipU p) = some (valU kus (ipK p)) := rfl
/-! ### equality of nested things -/
def niceU : Nat → U → Bool
  | _, .non => true
  | _, .int _ => true
  | _, .str s => PyData.strOk s
  | n + 1, .lst us => us.all (niceU n)
  | n + 1, .tup us => us.all (niceU n)
  | _, _ => false
theorem nice_list {n : Nat} (ih : ∀ u, niceU n u = true → ∃ d, toPy u = some d ∧ d.canLay0 = true ∧ d.depth ≤ n ∧ ∀ m v e, niceU m v = true → toPy v = some e → (PyData.eqv d e = true ↔ u = v)) : ∀ us : List U, us.all (niceU n) = true →
    ∃ ds, toPys us = some ds ∧ PyData.canLayAll0 ds = true ∧ PyData.depthAll ds ≤ n ∧ ∀ m (vs : List U) es, vs.all (niceU m) = true → toPys vs = some es → (PyData.eqvAll ds es = true ↔ us = vs)
  | [], _ => by
    refine ⟨[], rfl, by simp only [PyData.canLayAll0], by simp only [PyData.depthAll]; exact Nat.zero_le _, fun m vs es _ he => ?_⟩
    cases vs with
    | nil => cases he; simp only [PyData.eqvAll]
    | cons v vs =>
      unfold toPys at he
      split at he
      · cases he
        simp only [PyData.eqvAll]
        exact ⟨fun z => (nomatch z), fun z => (nomatch z)⟩
      · cases he
  | u :: us, h => by
    rw [List.all_cons, Bool.and_eq_true] at h
    obtain ⟨d, d1, d2, d3, d4⟩ := ih u h.1
    obtain ⟨ds, e1, e2, e3, e4⟩ := nice_list ih us h.2
    refine ⟨d :: ds, by unfold toPys; rw [d1, e1], by simp only [PyData.canLayAll0, d2, e2]; rfl, by simp only [PyData.depthAll]; omega, fun m vs es hv he => ?_⟩
    cases vs with
    | nil =>
      cases he
      simp only [PyData.eqvAll]
      exact ⟨fun z => (nomatch z), fun z => (nomatch z)⟩
    | cons v vs =>
      rw [List.all_cons, Bool.and_eq_true] at hv
      unfold toPys at he
      split at he
      · rename_i e es' q1 q2
        cases he
        simp only [PyData.eqvAll, Bool.and_eq_true]
        rw [d4 m v e hv.1 q1, e4 m vs es' hv.2 q2, List.cons.injEq]
      · cases he
theorem nice_py : ∀ (n : Nat) (u : U), niceU n u = true → ∃ d, toPy u = some d ∧ d.canLay0 = true ∧ d.depth ≤ n ∧ ∀ m v e, niceU m v = true → toPy v = some e → (PyData.eqv d e = true ↔ u = v) := by
  have other : ∀ {d : PyData} {u : U}, (∀ v e, toPy v = some e → (PyData.eqv d e = true ↔ u = v)) → ∀ (m : Nat) v e, niceU m v = true → toPy v = some e → (PyData.eqv d e = true ↔ u = v) := fun h m v e _ q => h v e q
  have flat : ∀ (n : Nat) (u : U), (u = .non ∨ (∃ i, u = .int i) ∨ ∃ s, u = .str s) → niceU n u = true → ∃ d, toPy u = some d ∧ d.canLay0 = true ∧ d.depth ≤ n ∧ ∀ m v e, niceU m v = true → toPy v = some e → (PyData.eqv d e = true ↔ u = v) := by
    intro n u hu h
    rcases hu with rfl | ⟨i, rfl⟩ | ⟨s, rfl⟩
    · refine ⟨.none, rfl, by simp only [PyData.canLay0], by simp only [PyData.depth]; exact Nat.zero_le _, fun m v e hv q => ?_⟩
      cases v with
      | non => cases q; simp only [PyData.eqv]
      | bl b => cases m <;> cases hv
      | int j => cases q; simp only [PyData.eqv]; exact ⟨fun z => (nomatch z), fun z => (nomatch z)⟩
      | str t => cases q; simp only [PyData.eqv]; exact ⟨fun z => (nomatch z), fun z => (nomatch z)⟩
      | lst vs => unfold toPy at q; cases w : toPys vs <;> rw [w] at q <;> cases q; simp only [PyData.eqv]; exact ⟨fun z => (nomatch z), fun z => (nomatch z)⟩
      | tup vs => unfold toPy at q; cases w : toPys vs <;> rw [w] at q <;> cases q; simp only [PyData.eqv]; exact ⟨fun z => (nomatch z), fun z => (nomatch z)⟩
      | _ => cases q
    · refine ⟨.int i, rfl, by simp only [PyData.canLay0], by simp only [PyData.depth]; exact Nat.zero_le _, fun m v e hv q => ?_⟩
      cases v with
      | non => cases q; simp only [PyData.eqv]; exact ⟨fun z => (nomatch z), fun z => (nomatch z)⟩
      | bl b => cases m <;> cases hv
      | int j => cases q; simp only [PyData.eqv]; rw [beq_iff_eq]; exact ⟨fun z => by rw [z], fun z => U.int.inj z⟩
      | str t => cases q; simp only [PyData.eqv]; exact ⟨fun z => (nomatch z), fun z => (nomatch z)⟩
      | lst vs => unfold toPy at q; cases w : toPys vs <;> rw [w] at q <;> cases q; simp only [PyData.eqv]; exact ⟨fun z => (nomatch z), fun z => (nomatch z)⟩
      | tup vs => unfold toPy at q; cases w : toPys vs <;> rw [w] at q <;> cases q; simp only [PyData.eqv]; exact ⟨fun z => (nomatch z), fun z => (nomatch z)⟩
      | _ => cases q
    · refine ⟨.str s, rfl, by simp only [PyData.canLay0]; cases n <;> exact h, by simp only [PyData.depth]; exact Nat.zero_le _, fun m v e hv q => ?_⟩
      cases v with
      | non => cases q; simp only [PyData.eqv]; exact ⟨fun z => (nomatch z), fun z => (nomatch z)⟩
      | bl b => cases m <;> cases hv
      | int j => cases q; simp only [PyData.eqv]; exact ⟨fun z => (nomatch z), fun z => (nomatch z)⟩
      | str t => cases q; simp only [PyData.eqv]; rw [beq_iff_eq]; exact ⟨fun z => by rw [z], fun z => U.str.inj z⟩
      | lst vs => unfold toPy at q; cases w : toPys vs <;> rw [w] at q <;> cases q; simp only [PyData.eqv]; exact ⟨fun z => (nomatch z), fun z => (nomatch z)⟩
      | tup vs => unfold toPy at q; cases w : toPys vs <;> rw [w] at q <;> cases q; simp only [PyData.eqv]; exact ⟨fun z => (nomatch z), fun z => (nomatch z)⟩
      | _ => cases q
  intro n
  induction n with
  | zero =>
    intro u h
    cases u with
    | non => exact flat 0 _ (.inl rfl) h
    | int i => exact flat 0 _ (.inr (.inl ⟨_, rfl⟩)) h
    | str s => exact flat 0 _ (.inr (.inr ⟨_, rfl⟩)) h
    | _ => cases h
  | succ n ih =>
    intro u h
    cases u with
    | non => exact flat _ _ (.inl rfl) h
    | int i => exact flat _ _ (.inr (.inl ⟨_, rfl⟩)) h
    | str s => exact flat _ _ (.inr (.inr ⟨_, rfl⟩)) h
    | lst us =>
      obtain ⟨ds, e1, e2, e3, e4⟩ := nice_list ih us h
      refine ⟨.list ds, by unfold toPy; rw [e1]; rfl, by simp only [PyData.canLay0, e2], by simp only [PyData.depth]; omega, fun m v e hv q => ?_⟩
      cases v with
      | lst vs =>
        cases m with
        | zero => cases hv
        | succ m =>
          unfold toPy at q
          cases w : toPys vs with
          | none => rw [w] at q; cases q
          | some es =>
            rw [w] at q
            cases q
            simp only [PyData.eqv]
            rw [e4 m vs es hv w]
            exact ⟨fun z => by rw [z], fun z => U.lst.inj z⟩
      | bl b => cases m <;> cases hv
      | tup vs => unfold toPy at q; cases w : toPys vs <;> rw [w] at q <;> cases q; simp only [PyData.eqv]; exact ⟨fun z => (nomatch z), fun z => (nomatch z)⟩
      | non => cases q; simp only [PyData.eqv]; exact ⟨fun z => (nomatch z), fun z => (nomatch z)⟩
      | int j => cases q; simp only [PyData.eqv]; exact ⟨fun z => (nomatch z), fun z => (nomatch z)⟩
      | str j => cases q; simp only [PyData.eqv]; exact ⟨fun z => (nomatch z), fun z => (nomatch z)⟩
      | _ => cases q
    | tup us =>
      obtain ⟨ds, e1, e2, e3, e4⟩ := nice_list ih us h
      refine ⟨.tuple ds, by unfold toPy; rw [e1]; rfl, by simp only [PyData.canLay0, e2], by simp only [PyData.depth]; omega, fun m v e hv q => ?_⟩
      cases v with
      | tup vs =>
        cases m with
        | zero => cases hv
        | succ m =>
          unfold toPy at q
          cases w : toPys vs with
          | none => rw [w] at q; cases q
          | some es =>
            rw [w] at q
            cases q
            simp only [PyData.eqv]
            rw [e4 m vs es hv w]
            exact ⟨fun z => by rw [z], fun z => U.tup.inj z⟩
      | bl b => cases m <;> cases hv
      | lst vs => unfold toPy at q; cases w : toPys vs <;> rw [w] at q <;> cases q; simp only [PyData.eqv]; exact ⟨fun z => (nomatch z), fun z => (nomatch z)⟩
      | non => cases q; simp only [PyData.eqv]; exact ⟨fun z => (nomatch z), fun z => (nomatch z)⟩
      | int j => cases q; simp only [PyData.eqv]; exact ⟨fun z => (nomatch z), fun z => (nomatch z)⟩
      | str j => cases q; simp only [PyData.eqv]; exact ⟨fun z => (nomatch z), fun z => (nomatch z)⟩
      | _ => cases q
    | _ => cases h
/-- nested things are equal as they look -/
theorem eqU_nice {n m : Nat} {x y : U} (hn : n ≤ 60) (hm : m ≤ 60) (hx : niceU n x = true) (hy : niceU m y = true) : ∃ c, eqU x y = some c ∧ (c = true ↔ x = y) := by
  obtain ⟨d, d1, d2, d3, d4⟩ := nice_py n x hx
  obtain ⟨e, e1, e2, e3, _⟩ := nice_py m y hy
  refine ⟨PyData.eqv d e, ?_, d4 m y e hy e1⟩
  unfold eqU
  rw [d1, e1]
  show (if SeqAt.shaped d && SeqAt.shaped e then some (PyData.eqv d e) else none) = _
  unfold SeqAt.shaped
  rw [d2, e2, decide_eq_true (by omega), decide_eq_true (by omega)]
  rfl
theorem eqU_niceD {n m : Nat} {x y : U} (hn : n ≤ 60) (hm : m ≤ 60) (hx : niceU n x = true) (hy : niceU m y = true) [Decidable (x = y)] : eqU x y = some (decide (x = y)) := by
  obtain ⟨c, e, h⟩ := eqU_nice hn hm hx hy
  rw [e]
  congr 1
  rw [Bool.eq_iff_iff, decide_eq_true_eq]
  exact h
theorem toPys_nice {n : Nat} {us : List U} (hn : n ≤ 60) (h : us.all (niceU n) = true) : ∃ ds, toPys us = some ds ∧ SeqAt.shaped (.list ds) = true ∧ ∀ m (vs : List U) es, vs.all (niceU m) = true → toPys vs = some es → (PyData.eqvAll ds es = true ↔ us = vs) := by
  obtain ⟨ds, e1, e2, e3, e4⟩ := nice_list (nice_py n) us h
  refine ⟨ds, e1, ?_, e4⟩
  have q : (PyData.list ds).depth ≤ 64 := by simp only [PyData.depth]; omega
  have c : (PyData.list ds).canLay0 = true := by simp only [PyData.canLay0, e2]
  show ((PyData.list ds).canLay0 && decide _) = true
  rw [decide_eq_true q, c]
  rfl
theorem nice_ints {n : Nat} (ns : List Int) : (ns.map U.int).all (niceU n) = true := List.all_eq_true.mpr fun u hu => by
  obtain ⟨i, _, rfl⟩ := List.mem_map.mp hu
  cases n <;> rfl
theorem nice_row {n : Nat} (ns : List Int) : niceU (n + 1) (rowV ns) = true := nice_ints ns
theorem nice_ip {n : Nat} (p : IP) : niceU (n + 1) (ipU p) = true := by
  show [U.int p.1, U.int p.2].all (niceU n) = true
  cases n <;> rfl
theorem nice_ips {n : Nat} (ps : List IP) : (ps.map ipU).all (niceU (n + 1)) = true := List.all_eq_true.mpr fun u hu => by
  obtain ⟨p, _, rfl⟩ := List.mem_map.mp hu
  exact nice_ip p
theorem ipU_inj {p q : IP} (h : ipU p = ipU q) : p = q := by
  obtain ⟨a, b⟩ := p
  obtain ⟨c, d⟩ := q
  unfold ipU at h
  injection h with h
  injection h with h1 h2
  injection h2 with h2 _
  injection h1 with h1
  injection h2 with h2
  simp only at h1 h2
  rw [h1, h2]
/-- a pair in a list of pairs -/
theorem in_ips (neg : Bool) (p : IP) (ps : List IP) : fInD neg (ipU p) (.lst (ps.map ipU)) = some (.bl (if neg then !decide (p ∈ ps) else decide (p ∈ ps))) := by
  obtain ⟨ds, e1, sh, _⟩ := toPys_nice (n := 1) (by decide) (nice_ips (n := 0) ps)
  have key : ∀ (ps : List IP) (ds : List PyData), toPys (ps.map ipU) = some ds → (ds.any fun z => PyData.eqv z (.tuple [.int p.1, .int p.2])) = decide (p ∈ ps) := by
    intro ps
    induction ps with
    | nil =>
      intro ds h
      cases h
      rfl
    | cons x r ih =>
      intro ds h
      cases w : toPys (r.map ipU) with
      | none =>
        have : toPys (ipU x :: r.map ipU) = none := by unfold toPys; rw [w]; cases toPy (ipU x) <;> rfl
        rw [List.map_cons, this] at h
        cases h
      | some es =>
        have : toPys (ipU x :: r.map ipU) = some (.tuple [.int x.1, .int x.2] :: es) := by unfold toPys; rw [w]; rfl
        rw [List.map_cons, this] at h
        cases h
        rw [List.any_cons, ih es w, Bool.eq_iff_iff, Bool.or_eq_true, decide_eq_true_eq, decide_eq_true_eq, List.mem_cons]
        have q : PyData.eqv (.tuple [.int x.1, .int x.2]) (.tuple [.int p.1, .int p.2]) = true ↔ p = x := by
          simp only [PyData.eqv, PyData.eqvAll, Bool.and_true, Bool.and_eq_true, beq_iff_eq]
          constructor
          · rintro ⟨a, b⟩
            exact Prod.ext a.symm b.symm
          · rintro rfl
            exact ⟨rfl, rfl⟩
        rw [q]
  have st : SeqAt.shaped (PyData.tuple [.int p.1, .int p.2]) = true := by
    unfold SeqAt.shaped
    simp only [PyData.canLay0, PyData.canLayAll0, PyData.depth, PyData.depthAll]
    rfl
  show inD neg (ipU p) (ps.map ipU) = _
  unfold inD
  rw [e1, show toPy (ipU p) = some (.tuple [.int p.1, .int p.2]) from rfl]
  show (if SeqAt.shaped (PyData.tuple [.int p.1, .int p.2]) && SeqAt.shaped (.list ds) then some (U.bl (if neg then !(ds.any fun z => PyData.eqv z (.tuple [.int p.1, .int p.2])) else ds.any fun z => PyData.eqv z (.tuple [.int p.1, .int p.2]))) else none) = _
  rw [key ps ds e1, st, sh]
  rfl
def ipP (p : IP) : PyData := .tuple [.int p.1, .int p.2]
theorem toPys_ips : ∀ ps : List IP, toPys (ps.map ipU) = some (ps.map ipP)
  | [] => rfl
  | p :: ps => by
    rw [List.map_cons]
    unfold toPys
    rw [toPys_ips ps]
    rfl
theorem eqv_ip (a b : IP) : PyData.eqv (ipP a) (ipP b) = decide (a = b) := by
  unfold ipP
  simp only [PyData.eqv, PyData.eqvAll, Bool.and_true]
  rw [Bool.eq_iff_iff, Bool.and_eq_true, beq_iff_eq, beq_iff_eq, decide_eq_true_eq]
  exact ⟨fun ⟨h1, h2⟩ => Prod.ext h1 h2, fun h => by rw [h]; exact ⟨rfl, rfl⟩⟩
theorem shaped_ip (p : IP) : SeqAt.shaped (ipP p) = true := by
  unfold SeqAt.shaped ipP
  simp only [PyData.canLay0, PyData.canLayAll0, PyData.depth, PyData.depthAll]
  rfl
/-- index of a pair in a list of pairs -/
theorem idx_ips {ps : List IP} {x : IP} (h : x ∈ ps) {post : U → Prop} (p : post (.int ((ps.idxOf x : Nat) : Int))) : ∃ us ds, U.lst (ps.map ipU) = .lst us ∧ toPys us = some ds ∧ SeqAt.shaped (.list ds) = true ∧
    ∃ (d : PyData) (j : Nat) (z : PyData), toPy (ipU x) = some d ∧ SeqAt.shaped d = true ∧ ds[j]? = some z ∧ PyData.eqv z d = true ∧ (∀ (m : Nat) (z' : PyData), m < j → ds[m]? = some z' → PyData.eqv z' d = false) ∧ post (.int (j : Nat)) := by
  obtain ⟨ds, e1, sh, _⟩ := toPys_nice (n := 1) (by decide) (nice_ips (n := 0) ps)
  rw [toPys_ips] at e1
  cases e1
  have jl := List.idxOf_lt_length_iff.mpr h
  refine ⟨_, _, rfl, toPys_ips ps, sh, ipP x, ps.idxOf x, ipP x, rfl, shaped_ip x, ?_, ?_, fun m z' hm hz => ?_, p⟩
  · rw [List.getElem?_map, List.getElem?_eq_getElem jl, List.getElem_idxOf]
    rfl
  · rw [eqv_ip, decide_eq_true rfl]
  · rw [List.getElem?_map] at hz
    cases q : ps[m]? with
    | none => rw [q] at hz; cases hz
    | some y =>
      rw [q] at hz
      cases hz
      rw [eqv_ip, decide_eq_false]
      intro e
      subst e
      have := List.not_of_lt_findIdx (p := (· == y)) (xs := ps) (i := m) hm
      obtain ⟨hl, hy⟩ := List.getElem?_eq_some_iff.mp q
      rw [hy] at this
      exact absurd (beq_self_eq_true y) (by simpa using this)
end SV
/-! Dicts whose keys are nested tuples: an object of the hand layer by what is true of it (HO.ext). -/
namespace NKD
open PySem PySem.W PySem.Calls PyProof.Rows PyProof.V PySem.Spec L2
mutual
/-- v is the key k, by what is tracked -/
inductive NkIs (H : Hp) : NestedKey → V → Prop
  | none : NkIs H .none .non
  | int (i : Int) : NkIs H (.num i) (.int i)
  | text (x : Str) : NkIs H (.text x) (.str x)
  | tup {a : Addr} {xs : List V} {ks : List NestedKey} : H a = some (.tup xs) → NkAll H ks xs → NkIs H (.tup ks) (.ref a)
inductive NkAll (H : Hp) : List NestedKey → List V → Prop
  | nil : NkAll H [] []
  | cons {k : NestedKey} {v : V} {ks : List NestedKey} {vs : List V} : NkIs H k v → NkAll H ks vs → NkAll H (k :: ks) (v :: vs)
end
section
variable {P : Program} {w : World} {H H' : Hp} {h h' : Heap}
mutual
theorem nk_is (ok : HOk P w H h) : ∀ {k : NestedKey} {v : V} {u : Value}, NkIs H k v → RelV v u → NestedIs h k u
  | _, _, _, .none, r => by
    cases (show _ = Value.none from r)
    exact .none
  | _, _, _, .int i, r => by
    obtain ⟨t, rfl⟩ := r
    exact .int i t
  | _, _, _, .text x, r => by
    obtain ⟨t, rfl⟩ := r
    exact .text x t
  | _, _, _, .tup (a := a) (xs := xs) e al, r => by
    cases (show _ = Value.ref a from r)
    obtain ⟨z, its, rv, o, ho, hc, n, hd⟩ := (show ObjOk P w H h a (.tup xs) from ok a _ e)
    exact .tup ho hc hd (nk_all ok al rv)
theorem nk_all (ok : HOk P w H h) : ∀ {ks : List NestedKey} {vs : List V} {us : List Value}, NkAll H ks vs → Vals vs us → NestedAll h ks us
  | _, _, _, .nil, r => by
    cases r
    exact .nil
  | _, _, _, .cons q t, r => by
    cases r with
    | cons r1 r2 => exact .cons (nk_is ok q r1) (nk_all ok t r2)
end
mutual
theorem NkIs.mono (s : ∀ b xs, H b = some (.tup xs) → H' b = some (.tup xs)) : ∀ {k : NestedKey} {v : V}, NkIs H k v → NkIs H' k v
  | _, _, .none => .none
  | _, _, .int i => .int i
  | _, _, .text x => .text x
  | _, _, .tup e al => .tup (s _ _ e) (NkAll.mono s al)
theorem NkAll.mono (s : ∀ b xs, H b = some (.tup xs) → H' b = some (.tup xs)) : ∀ {ks : List NestedKey} {vs : List V}, NkAll H ks vs → NkAll H' ks vs
  | _, _, .nil => .nil
  | _, _, .cons q t => .cons (NkIs.mono s q) (NkAll.mono s t)
end
abbrev KVs := List (NestedKey × Addr × V)
def NP (p : NestedKey × Addr × V) (q : NestedKey × Addr × Value) : Prop := p.1 = q.1 ∧ p.2.1 = q.2.1 ∧ RelV p.2.2 q.2.2
def nEnt (w : World) (x : NestedKey × Addr × Value) : DictEntry := ⟨x.1.hash w, .ref x.2.1, x.2.2⟩
def NDict (w : World) (d : Addr) (kvs : KVs) (h : Heap) : Prop := kvs.length ≤ sizeLine ∧ (d == sysModules) = false ∧ ∃ xs : List (NestedKey × Addr × Value), Paired NP kvs xs ∧
  ∃ o es ep, h.get? d = some o ∧ o.ExactDict ∧ o.data = .dict es ep ∧ es.toList = xs.map (nEnt w) ∧ (xs.map (·.1)).Nodup
/-- a dict at d whose keys are nested tuples -/
def nO (w : World) (d : Addr) (kvs : KVs) : HO := .ext (NDict w d kvs)
/-- its keys are what is tracked -/
def Keys (H : Hp) (kvs : KVs) : Prop := ∀ p ∈ kvs, NkIs H p.1 (.ref p.2.1) ∧ p.1.depth ≤ 8
theorem Keys.mono {kvs : KVs} (k : Keys H kvs) (s : ∀ b xs, H b = some (.tup xs) → H' b = some (.tup xs)) : Keys H' kvs := fun p hp => ⟨(k p hp).1.mono s, (k p hp).2⟩
theorem n_obj {w' : World} {d : Addr} {kvs : KVs} (x : NDict w d kvs h) : ObjOk P w' H h d (nO w d kvs) := by
  refine ⟨x, ?_, fun h1 h2 y k => ?_⟩
  · obtain ⟨_, _, _, _, o, es, ep, e, _⟩ := x
    exact ⟨o, e⟩
  · obtain ⟨z, hd, xs, r, o, es, ep, e, q⟩ := y
    exact ⟨z, hd, xs, r, o, es, ep, k _ e, q⟩
theorem n_of (ok : HOk P w H h) {d : Addr} {kvs : KVs} (e : H d = some (nO w d kvs)) (ks : Keys H kvs) : kvs.length ≤ sizeLine ∧ (d == sysModules) = false ∧ ∃ xs, Paired NP kvs xs ∧ h.DictOfH (nestedKind P w) d xs := by
  obtain ⟨z, hd, xs, r, o, es, ep, ho, hx, hdat, hes, hn⟩ := (show ObjOk P w H h d (nO w d kvs) from ok d _ e).1
  refine ⟨z, hd, xs, r, o, es, ep, ho, hx, hdat, hes, ?_, hn⟩
  have all : ∀ {kvs : KVs} {xs : List (NestedKey × Addr × Value)}, Paired NP kvs xs → Keys H kvs → ∀ x ∈ xs, (nestedKind P w).is h x.1 x.2.1 := by
    intro kvs xs r
    induction r with
    | nil => exact fun _ x hx => nomatch hx
    | cons q _ ih =>
      intro k x hx
      rcases List.mem_cons.mp hx with e | hx
      · subst e
        obtain ⟨k1, k2⟩ := k _ (List.mem_cons_self ..)
        obtain ⟨q1, q2, _⟩ := q
        rw [q1, q2] at k1
        rw [q1] at k2
        exact ⟨nk_is ok k1 rfl, k2⟩
      · exact ih (fun p hp => k p (List.mem_cons_of_mem _ hp)) x hx
  exact all r ks
/-- back from the kit's reading -/
theorem n_back {d : Addr} {kvs : KVs} {xs : List (NestedKey × Addr × Value)} (z : kvs.length ≤ sizeLine) (hd : (d == sysModules) = false) (r : Paired NP kvs xs) (dd : h.DictOfH (nestedKind P w) d xs) : NDict w d kvs h := by
  obtain ⟨o, es, ep, ho, hx, hdat, hes, _, hn⟩ := dd
  exact ⟨z, hd, xs, r, o, es, ep, ho, hx, hdat, hes, hn⟩
def valN (kvs : KVs) (k : NestedKey) : Option V := (kvs.find? fun x => decide (x.1 = k)).map (·.2.2)
theorem np_val {kvs : KVs} {xs : List (NestedKey × Addr × Value)} (r : Paired NP kvs xs) (k : NestedKey) : RelO (valN kvs k) ((atKey xs k).map (·.2)) := by
  unfold valN atKey
  induction r with
  | nil => exact True.intro
  | cons q t ih =>
    rename_i p x ps ys
    rw [List.find?_cons, List.find?_cons, q.1]
    cases c : decide (x.1 = k) with
    | true => exact q.2.2
    | false => exact ih
def putN (kvs : KVs) (k : NestedKey) (b : Addr) (v : V) : KVs := if (valN kvs k).isSome then kvs.map fun x => if x.1 = k then (x.1, x.2.1, v) else x else kvs ++ [(k, b, v)]
theorem np_map {kvs : KVs} {xs : List (NestedKey × Addr × Value)} (r : Paired NP kvs xs) (k : NestedKey) {v : V} {u : Value} (rv : RelV v u) : Paired NP (kvs.map fun x => if x.1 = k then (x.1, x.2.1, v) else x) (xs.map (putAt k u)) := by
  induction r with
  | nil => exact .nil
  | cons q t ih =>
    rename_i p x ps ys
    refine .cons ?_ ih
    unfold putAt
    show NP (if p.1 = k then (p.1, p.2.1, v) else p) _
    rw [q.1]
    by_cases c : x.1 = k
    · rw [if_pos c, if_pos c]
      exact ⟨rfl, q.2.1, rv⟩
    · rw [if_neg c, if_neg c]
      exact q
theorem np_append {kvs : KVs} {xs : List (NestedKey × Addr × Value)} (r : Paired NP kvs xs) {p : NestedKey × Addr × V} {q : NestedKey × Addr × Value} (n : NP p q) : Paired NP (kvs ++ [p]) (xs ++ [q]) := by
  induction r with
  | nil => exact .cons n .nil
  | cons a t ih => exact .cons a ih
theorem np_put {kvs : KVs} {xs : List (NestedKey × Addr × Value)} (r : Paired NP kvs xs) (k : NestedKey) (b : Addr) {v : V} {u : Value} (rv : RelV v u) : Paired NP (putN kvs k b v) (storedH xs k b u) := by
  have e := np_val r k
  unfold putN
  cases hv : valN kvs k with
  | none =>
    rw [hv] at e
    have hn : atKey xs k = none := by
      cases ha : atKey xs k with
      | none => rfl
      | some p => rw [ha] at e; exact e.elim
    rw [storedH_new hn, if_neg (by simp)]
    exact np_append r ⟨rfl, rfl, rv⟩
  | some v0 =>
    rw [hv] at e
    obtain ⟨p, hp⟩ : ∃ p, atKey xs k = some p := by
      cases ha : atKey xs k with
      | none => rw [ha] at e; exact e.elim
      | some p => exact ⟨p, rfl⟩
    rw [storedH_old hp, if_pos (show (some v0).isSome = true from rfl)]
    exact np_map r k rv
theorem len_putN (kvs : KVs) (k : NestedKey) (b : Addr) (v : V) : (putN kvs k b v).length ≤ kvs.length + 1 := by
  unfold putN
  split
  · rw [List.length_map]
    omega
  · rw [List.length_append]
    exact Nat.le_refl _
theorem n_empty {w' : World} (h : Heap) (hb : sysModules < h.objs.size) : ObjOk P w' H (h.push { cls := .type "dict", data := .dict #[] }) h.objs.size (nO w h.objs.size []) :=
  n_obj ⟨Nat.zero_le _, beq_eq_false_iff_ne.mpr (Ne.symm (Nat.ne_of_lt hb)), [], .nil, _, #[], 0, Heap.get?_push_size _ rfl, ⟨rfl, rfl, rfl⟩, rfl, rfl, List.nodup_nil⟩
end
section
variable {X : Cx}
/-- {}, to be a dict by nested tuples -/
def tDNewN (w : World) : TE := fun _ H Q => ∀ p, H p = none → Q (.ref p) (upd H p (nO w p []))
theorem pe_dnewN {pos : Pos} (w : World) (hw : X.w = w := by rfl) : PE X (.Dict [] [] pos) (tDNewN w) := ⟨fun pins s σ H Q I h =>
  wpAny_Dict_empty ⟨.ref s.heap.objs.size, _, I.laid (a := s.heap.objs.size) (o := nO w s.heap.objs.size []) (t' := s.toks) (fun _ _ q => Heap.get?_push_of_some _ q) (Nat.le_refl _) (n_empty s.heap I.big), rfl, h _ (I.hok.fresh (Nat.le_refl _))⟩⟩
theorem n_room {A : Around} (hu : A.units + 9 < cLine) {prog : Program} {w : World} : (nestedKind prog w).room A.in1 := by
  show A.in1.units + 8 < cLine
  exact Nat.lt_of_le_of_lt (by show A.units + 1 + 8 ≤ A.units + 9; omega) hu
/-- d.setdefault(k, v) -/
def rSetdefN (w : World) : V → List V → Hp → VK → Prop := fun x xs H Q => ∃ (d b : Addr) (kvs : KVs) (k : NestedKey) (v : V), x = .ref d ∧ xs = [.ref b, v] ∧ H d = some (nO w d kvs) ∧ Keys H kvs ∧ NkIs H k (.ref b) ∧ k.depth ≤ 8 ∧ kvs.length < sizeLine ∧
  (∀ v0, valN kvs k = some v0 → Q v0 H) ∧ (valN kvs k = none → Q v (upd H d (nO w d (putN kvs k b v))))
theorem mt_setdefN (hu : X.A.units + 9 < cLine) : MtR X "dict.setdefault" (rSetdefN X.w) := by
  intro pins s σ H x xs v us Q I rx rxs h
  obtain ⟨d, b, kvs, k, dv, rfl, rfl, ha, ks, hb, h8, hl, q1, q2⟩ := h
  cases rx
  obtain ⟨u1, u2, rfl, r1, r2⟩ := vals2 rxs
  cases r1
  obtain ⟨z, hd, xs', rel, dd⟩ := n_of I.hok ha ks
  have hz : xs'.length ≤ sizeLine := by rw [← Paired.length rel]; exact z
  refine call_setdefault_heap (knd := nestedKind X.prog X.w) (n_room hu) ⟨nk_is I.hok hb rfl, h8⟩ hd dd (fun p hp => ?_) (fun hn h' dd' hs => ?_) hz
  · have r := np_val rel k
    rw [hp] at r
    obtain ⟨v0, ev, rv⟩ : ∃ v0, valN kvs k = some v0 ∧ RelV v0 p.2 := by
      cases ev : valN kvs k with
      | none =>
        rw [ev] at r
        exact r.elim
      | some v0 =>
        rw [ev] at r
        exact ⟨v0, rfl, r⟩
    exact ⟨v0, H, I.tok _, rv, q1 v0 ev⟩
  · have r := np_val rel k
    rw [hn] at r
    have ev : valN kvs k = none := by
      cases ev : valN kvs k with
      | none => rfl
      | some v0 =>
        rw [ev] at r
        exact r.elim
    have hl2 : (putN kvs k b dv).length ≤ sizeLine := by have := len_putN kvs k b dv; omega
    have nd := n_back (P := X.prog) (w := X.w) hl2 hd (np_put rel k b r2) dd'
    refine ⟨dv, _, d_write (t' := _) I (by rw [ha]; exact True.intro) hs ?_ (n_obj nd), r2, q2 ev⟩
    obtain ⟨o, _, _, ho, _⟩ := dd'
    exact ⟨o, ho⟩
/-- the same as an expression -/
def tDSetN (w : World) (td ty tx : TE) : TE := fun σ H Q => td σ H fun x H1 => ∃ a, x = .ref a ∧ (∃ kvs, H1 a = some (nO w a kvs)) ∧ ty σ H1 fun y H2 => tx σ H2 fun z H3 => ∃ (kvs : KVs) (k : NestedKey) (b : Addr), H3 a = some (nO w a kvs) ∧ Keys H3 kvs ∧ y = .ref b ∧ NkIs H3 k (.ref b) ∧ k.depth ≤ 8 ∧ kvs.length < sizeLine ∧
  (∀ v, valN kvs k = some v → Q v H3) ∧ (valN kvs k = none → Q z (upd H3 a (nO w a (putN kvs k b z))))
theorem n_raw {P : Program} {w : World} {H : Hp} {h : Heap} (ok : HOk P w H h) {d : Addr} {kvs : KVs} (e : H d = some (nO w d kvs)) : (d == sysModules) = false ∧ ∃ o, h.get? d = some o ∧ o.ExactDict := by
  obtain ⟨z, hd, xs, r, o, es, ep, ho, hx, _⟩ := (show ObjOk P w H h d (nO w d kvs) from ok d _ e).1
  exact ⟨hd, o, ho, hx⟩
theorem pe_dsetN {o e f : Expr} {apos cpos : Pos} {td ty tx : TE} (hu : X.A.units + 9 < cLine) (hd : PE X o td) (he : PE X e ty) (hf : PE X f tx) (m : M2 X o "setdefault" apos e f cpos) : PE X (.Call (.Attribute o "setdefault" apos) [e, f] [] cpos) (tDSetN X.w td ty tx) := by
  refine ⟨fun pins s σ H Q I h => ?_⟩
  refine wpAny_Call_method2_late m.base m.line m.trees (thn (hd.run pins s σ H _ I h) fun v s1 ⟨x, H1, I1, r1, a, ex, ⟨kvs1, ha1⟩, q1⟩ => ?_)
  subst ex
  obtain rfl : v = Value.ref a := r1
  obtain ⟨hsys, ob, ho, xd⟩ := n_raw I1.hok ha1
  refine ⟨"dict", "dict.setdefault", F.plainAttrs_dict, F.slot_dict_setdefault, F.type_dict_setdefault, ⟨ob, ho, xd.1⟩, fun b e => ?_, Calls.callWith_builtin rfl (Calls.evalArgs_plain (Calls.spliced_cons (thn (he.run pins s1 σ H1 _ I1 q1) fun v2 s2 ⟨y, H2, I2, r2, q2⟩ => Calls.spliced_cons (thn (hf.run pins s2 σ H2 _ I2 q2) fun v3 s3 ⟨z, H3, I3, r3, q3⟩ => Calls.spliced_nil ?_))))⟩
  · cases e
    exact ⟨ob, ho, xd.2.1⟩
  obtain ⟨kvs, k, b, ha, ks, rfl, hb, h8, hl, qa, qb⟩ := q3
  obtain rfl : v2 = Value.ref b := r2
  show wpAny _ _ (call (.builtin "dict.setdefault") [.ref a, .ref b, v3]) _ _ _
  exact mt_setdefN hu pins s3 σ H3 (.ref a) [.ref b, z] (.ref a) [.ref b, v3] Q I3 rfl (.cons rfl (.cons r3 .nil)) ⟨a, b, kvs, k, z, rfl, rfl, ha, ks, hb, h8, hl, qa, qb⟩
/-- len(d) -/
def rLenN (w : World) : List V → Hp → VK → Prop := fun xs H Q => ∃ a kvs, xs = [V.ref a] ∧ H a = some (nO w a kvs) ∧ Keys H kvs ∧ Q (.int kvs.length) H
theorem call_lenN : CallR X (.builtin "len") (rLenN X.w) := by
  intro pins s σ H xs us Q I r h
  obtain ⟨p, kvs, rfl, hp, ks, q⟩ := h
  obtain ⟨u, rfl, rx⟩ := vals1 r
  obtain rfl : u = .ref p := rx
  obtain ⟨z, hd, ys, rel, dd⟩ := n_of I.hok hp ks
  have hl : kvs.length = ys.length := Paired.length rel
  refine call_len_dictH hd dd (by rw [← hl]; rw [sizeLine_eq] at z; omega) ?_
  rw [← hl]
  exact ⟨.int ((kvs.length : Nat) : Int), H, I.tok _, ⟨_, rfl⟩, q⟩
/-- d[k], there; d.get(k, x) asks the same -/
theorem n_getItem {A : Around} {E : Value → Shared → Prop} {pins : List (Addr × Obj)} {σ : L2.St} {H : Hp} {s : Shared} {Q : Value → Shared → Prop} {a b : Addr} {kvs : KVs} {k : NestedKey} {v : V} (hu : A.units + 9 < cLine) (I : Inv X pins σ H s) (ha : H a = some (nO X.w a kvs)) (ks : Keys H kvs) (hb : NkIs H k (.ref b)) (h8 : k.depth ≤ 8) (hv : valN kvs k = some v)
    (h : ∀ w' s', Inv X pins σ H s' → RelV v w' → Q w' s') : wpAny (model X.prog X.w) A (getItem (.ref a) (.ref b)) Q E s := by
  obtain ⟨z, hd, xs, rel, dd⟩ := n_of I.hok ha ks
  obtain ⟨w', hw, rw'⟩ := RelO.some_of (v := v) (o := (atKey xs k).map (·.2)) (by rw [← hv]; exact np_val rel k)
  obtain ⟨p, hp, hp2⟩ := Option.map_eq_some_iff.mp hw
  refine wpAny_getItem_heap (knd := nestedKind X.prog X.w) (n_room hu) ⟨nk_is I.hok hb rfl, h8⟩ dd hp ?_
  rw [hp2]
  exact h w' _ (I.tok _) rw'
/-- d[k] = v -/
theorem n_setItem {A : Around} {E : Value → Shared → Prop} {pins : List (Addr × Obj)} {σ : L2.St} {H : Hp} {s : Shared} {Q : Unit → Shared → Prop} {a b : Addr} {kvs : KVs} {k : NestedKey} {v : V} {r : Value} (hu : A.units + 9 < cLine) (I : Inv X pins σ H s) (ha : H a = some (nO X.w a kvs)) (ks : Keys H kvs) (hb : NkIs H k (.ref b)) (h8 : k.depth ≤ 8) (hl : kvs.length < sizeLine) (rv : RelV v r)
    (h : ∀ s', Inv X pins σ (upd H a (nO X.w a (putN kvs k b v))) s' → Q () s') : wpAny (model X.prog X.w) A (setItem (.ref a) (.ref b) r) Q E s := by
  obtain ⟨z, hd, xs, rel, dd⟩ := n_of I.hok ha ks
  have hz : xs.length ≤ sizeLine := by rw [← Paired.length rel]; exact z
  have hl2 : (putN kvs k b v).length ≤ sizeLine := by have := len_putN kvs k b v; omega
  refine wpAny_setItem_heap (hsz := hz) (knd := nestedKind X.prog X.w) (n_room hu) ⟨nk_is I.hok hb rfl, h8⟩ dd fun h' dd' hs => h _ ?_
  obtain ⟨o, es, ep, ho, _⟩ := id dd'
  exact d_write I (by rw [ha]; exact True.intro) hs ⟨o, ho⟩ (n_obj (n_back (P := X.prog) (w := X.w) hl2 hd (np_put rel k b rv) dd'))
end
end NKD
/-! list(d.values()) of a dict by ints and texts. -/
namespace SL
open PySem PySem.Spec PyProof.Rows L2
def tListVals (td : TE) : TE := fun σ H Q => td σ H fun x H1 => ∃ (a : Addr) (kvs : List (Key × V)), x = V.ref a ∧ Rd H1 a (.dK kvs) ∧ ∀ p, H1 p = none → Q (.ref p) (upd H1 p (.lst (kvs.map (·.2))))
section
variable {X : Cx} {o : Expr} {p pos apos mpos : Pos} {td : TE}
theorem pe_listVals (hc : X.calm = true) (hg : Gl X "list") (hm : X.mg "list" = none) (hd : PE X o td) (hbase : attributeBase o "values" X.env (eval o X.env) = eval o X.env := by rfl) (hline : (apos.endLine == mpos.line) = true := by rfl)
    (na : starEach [Expr.Call (.Attribute o "values" apos) [] [] mpos] X.env = (false, eval (Expr.Call (.Attribute o "values" apos) [] [] mpos) X.env) :: starEach [] X.env := by rfl) :
    PE X (.Call (.Name "list" p) [.Call (.Attribute o "values" apos) [] [] mpos] [] pos) (tListVals td) := by
  refine ⟨fun pins s σ H Q I h => ?_⟩
  refine Call_ (ld_blt I hg hm boot_list (PyProof.Rows.callWith_type1 (args_cons (wpAny_Call_method0_late hbase hline (thn (hd.run pins s σ H _ I h) fun v s1 ⟨x, H1, I1, r1, a, kvs, ex, ha, q⟩ => ?_)) na)))
  subst ex
  obtain rfl : v = Value.ref a := r1
  obtain ⟨z, hsys, vs, rel, dof⟩ := dk_rd I1.hok ha
  obtain ⟨ep, dat⟩ := dof.dictAt
  obtain ⟨ob, es, ho, ex, _⟩ := id dat
  refine ⟨"dict", "dict.values", F.plainAttrs_dict, F.slot_dict_values, F.type_dict_values, ⟨ob, ho, ex.1⟩, fun b e => ?_, Calls.callWith_builtin rfl (PySem.evalArgs_none ?_)⟩
  · cases e
    exact ⟨ob, ho, ex.2.1⟩
  refine call_meetsIn F.slot_dict_values ⟨ob, ho, ex.1⟩ F.entry_dict_values (F.args_dict_values_1 _) (meets_dict_values (mixKind X.prog X.w) a hsys) ⟨⟨vs, dof⟩, ?_⟩
  have k1 : ∀ b u, s1.heap.get? b = some u → (s1.heap.push { cls := .type "dict_values", data := .fields #[.ref a] }).get? b = some u := fun b u e => Heap.get?_push_of_some _ e
  have dat1 : (s1.heap.push { cls := .type "dict_values", data := .fields #[.ref a] }).DictAt (mixKind X.prog X.w) a vs ep := dat.keep k1
  have I2 : Inv X pins σ H1 { s1 with heap := s1.heap.push { cls := .type "dict_values", data := .fields #[.ref a] } } := I1.kept (t' := s1.toks) k1
  refine args_nil ?_
  refine PySem.W.kdl_call (PySem.W.kdl_values (knd := mixKind X.prog X.w) (kvs := vs) (ep := ep)) (I1.ok.hd hc) ⟨⟨_, Heap.get?_push_size _ rfl, rfl, rfl⟩, dat1⟩ (by rw [← rel.length]; exact z) fun h' tk acc c' hk hD hacc => ?_
  have hl : kvs.length = vs.length := rel.length
  refine ⟨.ref _, upd H1 _ (.lst (kvs.map (·.2))), I2.laid (t' := tk) hk (Nat.le_refl _) (show ObjOk X.prog X.w _ _ _ (.lst (kvs.map (·.2))) from ⟨by rw [List.length_map]; exact z, acc.toList, c', ?_, by rw [Array.toArray_toList]; exact hD⟩), rfl, q _ (I2.hok.fresh (Nat.le_refl _))⟩
  have la : acc.toList.length = vs.length := by rw [Array.length_toList]; exact hacc.1
  refine vals_of_at (by rw [List.length_map, la, hl]) fun j x w h1 h2 => ?_
  obtain ⟨k, hky⟩ := hacc.2 j w (by rw [← Array.getElem?_toList]; exact h2)
  obtain ⟨y, e1, e2⟩ := KV.at' rel hky
  rw [List.getElem?_map, e1] at h1
  cases h1
  exact e2
end
end SL
/-! list(d) of a dict by ints and texts, by values. -/
namespace SV
open PySem PySem.Spec PyProof.Rows L2 SL
section
variable {Z : Zc}
def rListDK : List V → Hp → VK → Prop := fun xs H Q => ∃ (a : Addr) (kvs : List (Key × V)), xs = [.ref a] ∧ Rd H a (.dK kvs) ∧ ∀ p, H p = none → Q (.ref p) (upd H p (.lst (kvs.map fun kv => kV kv.1)))
def wListDK (wA : WA) : WE := fun ρ post => wA ρ fun us => ∃ kus, us = [.dic kus] ∧ (∀ s, Sum.inr s ∈ keysOf kus → s.length ≤ 100000) ∧ post (.lst ((keysOf kus).map uKey))
theorem keys_rp {pp : Addr} {G : Hp} {kvs : List (Key × V)} {kus : List (Key × U)} (k : RpD pp G kvs kus) (ok : ∀ s, Sum.inr s ∈ keysOf kus → s.length ≤ 100000) : RpL pp G (kvs.map fun kv => kV kv.1) ((keysOf kus).map uKey) := by
  induction kus generalizing kvs with
  | nil =>
    cases k
    exact .nil
  | cons x r ih =>
    cases k with
    | cons a b => exact .cons (Rp.uKey _ fun s es => ok s (by rw [← es]; exact List.mem_cons_self)) (ih b fun s hs => ok s (List.mem_cons_of_mem _ hs))
theorem v_listDK {tA : TA} {wA : WA} (h : TrAB Z tA wA) : TrF Z (tCB rListDK tA) (wListDK wA) := fun σ ρ G H post Q S hw q => h σ ρ G H _ _ S hw fun vs us G1 H1 w1 g1 h1 => by
  obtain ⟨kus, rfl, ok, hp⟩ := w1
  cases h1 with
  | cons r t =>
    cases t
    cases r with
    | @dic a kvs _ hd k z =>
      have S1 := S.step g1
      refine ⟨a, kvs, rfl, hd, fun p np => ?_⟩
      have z2 : ((keysOf kus).map uKey).length ≤ 100000 := by rw [List.length_map]; unfold keysOf; rw [List.length_map]; exact z
      have r2 : RpL Z.pp G1 (kvs.map fun kv => kV kv.1) ((keysOf kus).map uKey) := keys_rp k ok
      exact q p _ _ G1 _ hp (g1.trans (Gr.newH S1.vw S1.pl np)) (free_back S g1 np) (S1.vw.free np) upd_same (.lst r2 z2)
/-! ### list(d.values()) -/
def wListVals (wa : WE) : WE := fun ρ post => wa ρ fun x => ∃ kus, x = .dic kus ∧ post (.lst (kus.map (·.2)))
theorem vals_rp {pp : Addr} {G : Hp} {kvs : List (Key × V)} {kus : List (Key × U)} (k : RpD pp G kvs kus) : RpL pp G (kvs.map (·.2)) (kus.map (·.2)) := by
  induction kus generalizing kvs with
  | nil =>
    cases k
    exact .nil
  | cons x r ih =>
    cases k with
    | cons a b => exact .cons a (ih b)
theorem v_listVals {ta : TE} {wa : WE} (ha : TrB Z ta wa) : TrF Z (tListVals ta) (wListVals wa) := fun σ ρ G H post Q S hw q => ha σ ρ G H _ _ S hw fun v x G1 H1 w1 g1 r => by
  obtain ⟨kus, rfl, hp⟩ := w1
  have S1 := S.step g1
  cases r with
  | @dic a kvs _ hd k z =>
    refine ⟨a, kvs, rfl, hd, fun p np => ?_⟩
    exact q p _ _ G1 _ hp (g1.trans (Gr.newH S1.vw S1.pl np)) (free_back S g1 np) (S1.vw.free np) upd_same (.lst (vals_rp k) (by rw [List.length_map]; exact z))
/-! ### d.setdefault(k, v) of one's own dict by ints and texts -/
def wSetdef (i : Nat) (wk wv : WE) : WS := fun V ρ => ∃ d, ρ[i]? = some (.ow d) ∧ isDic d ∧ wk ρ fun y => wv ρ fun u => ∃ kus k, d = .dic kus ∧ keyU y = some k ∧ kus.length < 100000 ∧ V.nx (match valU kus k with
  | some _ => ρ
  | none => ρ.set i (.ow (.dic (putU kus k u))))
theorem s_setdef {i : Nat} {tk tv : TE} {wk wv : WE} (hk : TrE Z tk wk) (hv : TrE Z tv wv) : TrS Z (tDrop (tDSetd (tVar i) tk tv)) (wSetdef i wk wv) := fun V D σ ρ G H S hw B => by
  obtain ⟨d, e, di, p⟩ := hw
  obtain ⟨a, o, e1, h0, _, _, ho0⟩ := S.ow i _ e
  refine ⟨_, e1, a, rfl, ?_, hk σ ρ G H _ _ S p fun kv y G1 H1 p1 g1 r1 => hv σ ρ G1 H1 _ _ (S.step g1) p1 fun v u G2 H2 p2 g2 r2 => ?_⟩
  · cases ho0 with
    | lst _ _ => exact di.elim
    | dic kk z => exact .inl ⟨_, .inl h0⟩
    | dit kk z => exact .inr ⟨_, .inl h0⟩
    | ins _ => exact di.elim
  obtain ⟨kus, k, rfl, ek, l, p3⟩ := p2
  have S2 := (S.step g1).step g2
  obtain ⟨a', o', e1', h1, ga, z1, ho⟩ := S2.ow i _ e
  rw [e1] at e1'
  cases e1'
  cases ho with
  | dic kk z =>
    rename_i kvs
    refine ⟨kvs, k, h1, (r1.same g2.gg).key ek, lineN (by rw [kk.length]; omega), fun v0 ev => ?_, fun ev => ?_⟩
    · rcases kk.val k with ⟨n1, n2⟩ | ⟨v1, u1, n1, n2, _⟩
      · rw [n1] at ev
        cases ev
      · rw [n2] at p3
        exact B.nx _ _ G2 _ S2 (g1.ex.trans g2.ex) p3
    · rcases kk.val k with ⟨n1, n2⟩ | ⟨v1, u1, n1, n2, _⟩
      · rw [n2] at p3
        exact B.nx _ _ G2 _ (S2.put e e1 (.dic (kk.put r2) (Nat.le_trans (putU_len _ _ _) l))) ((g1.ex.trans g2.ex).trans (ow_ex S2 e e1)) p3
      · rw [n1] at ev
        cases ev
/-! ### list(range(a, b)), tuple(range(a, b)) -/
theorem rg_rp {pp : Addr} {G : Hp} (a b : Int) : RpL pp G (rgV a b) (upto a (b - a).toNat) := by
  unfold rgV upto
  generalize (List.range (b - a).toNat) = l
  induction l with
  | nil => exact .nil
  | cons x r ih => exact .cons (.int _) ih
def wListRg2 (wa wb : WE) : WE := fun ρ post => wa ρ fun x => wb ρ fun y => ∃ i j : Int, x = .int i ∧ y = .int j ∧ 0 ≤ i ∧ i ≤ 100000 ∧ 0 ≤ j ∧ j ≤ 100000 ∧ post (.lst (upto i (j - i).toNat))
def wTupRg2 (wa wb : WE) : WE := fun ρ post => wa ρ fun x => wb ρ fun y => ∃ i j : Int, x = .int i ∧ y = .int j ∧ 0 ≤ i ∧ i ≤ 100000 ∧ 0 ≤ j ∧ j ≤ 100000 ∧ post (.tup (upto i (j - i).toNat))
theorem v_listRg2 {ta tb : TE} {wa wb : WE} (ha : TrE Z ta wa) (hb : TrE Z tb wb) : TrF Z (tLstRg (tRg2 ta tb)) (wListRg2 wa wb) := fun σ ρ G H post Q S hw q => ha σ ρ G H _ _ S hw fun v x G1 H1 w1 g1 r1 => hb σ ρ G1 H1 _ _ (S.step g1) w1 fun v2 y G2 H2 w2 g2 r2 => by
  obtain ⟨i, j, rfl, rfl, i0, i1, j0, j1, hp⟩ := w2
  cases r1
  cases r2
  have S2 := (S.step g1).step g2
  refine ⟨i, j, rfl, rfl, RgOk.of_le i0 (by omega) (by omega) j0, fun p np => ?_⟩
  exact q p _ _ G2 _ hp ((g1.trans g2).trans (Gr.newH S2.vw S2.pl np)) (free_back S (g1.trans g2) np) (S2.vw.free np) upd_same (.lst (rg_rp i j) (by rw [upto_len]; omega))
theorem v_tupRg2 {ta tb : TE} {wa wb : WE} (ha : TrE Z ta wa) (hb : TrE Z tb wb) : TrE Z (tTupRg (tRg2 ta tb)) (wTupRg2 wa wb) := fun σ ρ G H post Q S hw q => ha σ ρ G H _ _ S hw fun v x G1 H1 w1 g1 r1 => hb σ ρ G1 H1 _ _ (S.step g1) w1 fun v2 y G2 H2 w2 g2 r2 => by
  obtain ⟨i, j, rfl, rfl, i0, i1, j0, j1, hp⟩ := w2
  cases r1
  cases r2
  have S2 := (S.step g1).step g2
  refine ⟨i, j, rfl, rfl, RgOk.of_le i0 (by omega) (by omega) j0, fun p np => ?_⟩
  exact q _ _ (upd G2 p (.tup (rgV i j))) _ hp ((g1.trans g2).trans (Gr.new S2.vw S2.pl np)) (.tup upd_same (rg_rp i j) (by rw [upto_len]; omega))
/-! ### a dict by ints and texts walked in a comprehension that is a new name's value -/
def LockedK (σ : L2.St) (G H : Hp) (i : Nat) : Prop := ∀ d kvs, σ[i]? = some (some (.ref d)) → G d = some (.dK kvs) → ∃ ob, H d = some (.frz ob (.dK kvs))
def TrFLK (Z : Zc) (i : Nat) (t : TE) (w : WE) : Prop := ∀ σ ρ G H (post : U → Prop) (Q : VK), Sv Z σ ρ G H → LockedK σ G H i → w ρ post → (∀ p o u G' H', post u → Z.gr G H G' H' → H p = none → G' p = none → H' p = some o → Ow Z.pp G' o u → Q (.ref p) H') → t σ H Q
theorem lock_SK {t : TS} {w : WS} {i : Nat} (hd : ∀ V ρ, w V ρ → ∃ kus, ρ[i]? = some (.fz (.dic kus))) (run : ∀ V D σ ρ G H, Sv Z σ ρ G H → LockedK σ G H i → w V ρ → Br Z V D G H → t D σ H) : TrS Z (tLockU t) w := fun V D σ ρ G H S hw B => by
  obtain ⟨kus, e⟩ := hd _ _ hw
  obtain ⟨v, e1, r⟩ := S.fz i _ e
  cases r with
  | @dic d kvs _ hd k z =>
    rcases S.vw d _ hd with h | ⟨_, ob, h⟩
    · refine .inl ⟨d, .dK kvs, h, trivial, fun od => ?_⟩
      have SL := S.lock (od := od) hd rfl h
      refine run V _ σ ρ G _ SL (fun d' kvs' e2 hd' => ?_) hw ⟨fun σ' ρ' G' H' S' x p => ?_, fun v u G' H' g' x r p => ?_, fun σ' ρ' G' H' S' x p => ?_, fun σ' ρ' G' H' S' x p => ?_⟩
      · rw [e1] at e2
        cases e2
        rw [hd] at hd'
        cases hd'
        exact ⟨od, upd_same⟩
      · obtain ⟨hl, x'⟩ := ex_unlock hd h x
        exact ⟨hl, B.nx σ' ρ' G' _ (Sv.unlock S S' (x.gg _ _ hd) hd rfl h) x' p⟩
      · obtain ⟨hl, x'⟩ := ex_unlock hd h x
        exact ⟨hl, B.rt v u G' _ (gr_unlock S.gr g' (x.gg _ _ hd) hd rfl h) x' r p⟩
      · obtain ⟨hl, x'⟩ := ex_unlock hd h x
        exact ⟨hl, B.bk σ' ρ' G' _ (Sv.unlock S S' (x.gg _ _ hd) hd rfl h) x' p⟩
      · obtain ⟨hl, x'⟩ := ex_unlock hd h x
        exact ⟨hl, B.ct σ' ρ' G' _ (Sv.unlock S S' (x.gg _ _ hd) hd rfl h) x' p⟩
    · refine .inr (run V D σ ρ G H S (fun d' kvs' e2 hd' => ?_) hw B)
      rw [e1] at e2
      cases e2
      rw [hd] at hd'
      cases hd'
      exact ⟨ob, h⟩
theorem s_setLK {te : TE} {we : WE} {i j : Nat} (hd : ∀ ρ post, we ρ post → ∃ kus, ρ[i]? = some (.fz (.dic kus))) (h : TrFLK Z i te we) (hi : Z.may j := by exact Zc.may_of (by assumption) (by decide)) : TrS Z (tLockU (tAsg te (gName j))) (wSet j we) :=
  lock_SK (i := i) (fun V ρ hw => hd ρ _ hw) fun V D σ ρ G H S lk hw B => h σ ρ G H _ _ S lk hw fun p o u G1 H1 pu g np gp hp ho => by
    have g1 := g.freeze np gp hp S.pl
    exact B.nx _ _ _ H1 ((S.step g1).set hi (ho.rp gp)) g1.ex pu
theorem l_lcKeysK {i : Nat} {g : TG} {tt : TT} {te : TE} {wg : WG} {wt : WT} {we : WE} {vs : List Nat} (hg : TrG Z g wg vs) (ht : TrT Z tt wt) (he : TrE Z te we) (h0 : ∀ v ∈ vs, Z.may v := by exact Zc.mayL_of (by assumption) (by decide)) : TrFLK Z i (tLc (iKeys (tVar i)) g tt te vs) (wLc (wKeys i) wg wt we vs) :=
  fun σ ρ G H post Q S lk hw q => lc_at hg ht he h0 S (i_keys_at S lk) hw q
theorem d_keysK {i : Nat} {wg : WG} {wt : WT} {we : WE} {vs : List Nat} : ∀ ρ post, wLc (wKeys i) wg wt we vs ρ post → ∃ kus, ρ[i]? = some (.fz (.dic kus)) := fun _ _ ⟨kus, e, _⟩ => ⟨kus, e⟩
end
end SV
/-! len(set(xs)) of a list of ints: how many there are. -/
namespace SL
open PySem PySem.Spec PyProof.Rows L2
def tLenSetA (K : PySem.W.Frag) (ta : TE) : TE := fun σ H Q => ta σ H fun x H1 => ∃ (l : Addr) (ns : List Int), x = V.ref l ∧ SqL K H1 l (ns.map V.int) ∧ ns.length < 64 ∧ Q (.int ((firstMet (fun i => ns.getD i 0) ns.length).length : Nat)) H1
theorem pe_lenSetA {X : Cx} {a : Expr} {ta : TE} {p p2 q pos : Pos} (K : PySem.W.Frag) (hc : X.calm = true) (hg : Gl X "len") (hm : X.mg "len" = none) (hg2 : Gl X "set") (hm2 : X.mg "set" = none) (ha : PE X a ta) (hK : X.K = K := by rfl)
    (na : starEach [a] X.env = (false, eval a X.env) :: starEach [] X.env := by rfl) : PE X (.Call (.Name "len" p) [.Call (.Name "set" p2) [a] [] q] [] pos) (tLenSetA K ta) := by
  subst hK
  refine ⟨fun pins s σ H Q I h => ?_⟩
  refine Call_ (ld_blt I hg hm PySem.boot_len ?_)
  refine PyProof.Rows.callWith_builtin1 (PyProof.Rows.args_cons ?_ rfl) rfl rfl
  refine Call_ (ld_blt I hg2 hm2 PyProof.Rows.boot_set ?_)
  refine PyProof.Rows.callWith_type1 (PyProof.Rows.args_cons (thn (ha.run pins s σ H _ I h) fun v s1 ⟨x, H1, I1, r1, q1⟩ => PyProof.Rows.args_nil ?_) na) na rfl
  obtain ⟨l, ns, rfl, hq, h1, q1⟩ := q1
  cases r1
  obtain ⟨its, r, pl, hz⟩ := I1.list hq
  have hl : its.toArray.size = ns.length := by rw [List.size_toArray, ← r.length, List.length_map]
  refine call_set_list (I1.ok.hd hc) pl.isList (ns := ns) (by simpa using r.ints) (by unfold scanBound; omega) fun h' tk hS hk => ?_
  rw [hl] at hS
  refine PyProof.Rows.args_nil ?_
  obtain ⟨o, es, ep, t, ho, hex, hd, _, _, _, hf, hn⟩ := hS
  have I2 : Inv X pins σ H1 { s1 with heap := h', toks := tk } := I1.kept fun b o e => hk b o (Heap.lt_size e) e
  refine call_len_set ho hex hd hf (by have := firstMet_length_le (fun i => ns.getD i 0) ns.length; rw [hn] <;> omega) ⟨.int ((firstMet (fun i => ns.getD i 0) ns.length).length : Nat), H1, I2.tok _, ⟨_, by rw [hn]⟩, q1⟩
end SL
namespace SV
open PySem PySem.Spec PyProof.Rows L2 SL
theorem step_one (m : List Int) (x : Int) : step_dedup m x = addOne m x := by
  unfold step_dedup addOne
  by_cases h : x ∈ m
  · have a : (m.any fun y => y == x) = true := List.any_eq_true.mpr ⟨x, h, beq_self_eq_true x⟩
    rw [if_pos h, if_pos a]
  · have a : ¬ (m.any fun y => y == x) = true := fun z => by
      obtain ⟨y, hy, e⟩ := List.any_eq_true.mp z
      exact h (by rw [← beq_iff_eq.mp e]; exact hy)
    rw [if_neg h, if_neg a]
theorem met_new (ns : List Int) : ∀ i, i ≤ ns.length → firstMet (fun i => ns.getD i 0) i = addNew [] (ns.take i)
  | 0, _ => rfl
  | i + 1, h => by
    have e : ns[i]? = some ns[i] := List.getElem?_eq_getElem h
    have e2 : ns.getD i 0 = ns[i] := by rw [List.getD_eq_getElem?_getD, e] <;> rfl
    rw [firstMet_succ, met_new ns i (by omega), List.take_add_one, e]
    show step_dedup _ (ns.getD i 0) = addNew [] (ns.take i ++ [ns[i]])
    rw [addNew_snoc, step_one, e2]
section
variable {Z : Zc}
def wLenSetA (we : WE) : WE := fun ρ post => we ρ fun x => ∃ ns : List Int, x = .lst (ns.map U.int) ∧ ns.length < 64 ∧ post (.int ((addNew [] ns).length : Nat))
theorem v_lenSetA {K : PySem.W.Frag} {te : TE} {we : WE} (he : TrB Z te we) : TrE Z (tLenSetA K te) (wLenSetA we) := fun σ ρ G H post Q S hw q => he σ ρ G H _ _ S hw fun v x G1 H1 w1 g1 r => by
  obtain ⟨ns, rfl, l, hp⟩ := w1
  have e := met_new ns ns.length (Nat.le_refl _)
  rw [List.take_length] at e
  cases r with
  | @lst a vs _ hd k z =>
    cases k.ints
    refine ⟨a, ns, rfl, ?_, l, ?_⟩
    · exact SqL.of hd
    · rw [e]
      exact q _ _ G1 H1 hp g1 (.int _)
end
end SV
/-! A dict by nested tuples beside the cells: key by key a number, in the order of the meeting. -/
namespace SV
open PySem PySem.Spec PyProof.Rows L2 SL NKD
section
variable {Z : Zc} {σ : L2.St} {ρ : List Cell} {G H : Hp}
/-- an object that is no cell's, not frozen and new may change -/
theorem Sv.hid (S : Sv Z σ ρ G H) (hb : Z.b = (false : Bool)) {a : Addr} {o' : HO} {φ : Heap → Prop} (h1 : H a = some (.ext φ)) (g1 : G a = none) (z1 : Z.H0 a = none) : Sv Z σ ρ G (upd H a o') := by
  have neG : ∀ c y, G c = some y → c ≠ a := fun c y e => ne_of_none e g1
  have ne0 : ∀ c y, Z.H0 c = some y → c ≠ a := fun c y e => ne_of_none e z1
  refine ⟨⟨⟨S.gr.gg, fun c y e => ?_, fun c y n e g => ?_, by rw [hb]; exact ⟨fun z => (nomatch z), fun t ht => nomatch ht⟩⟩, fun c y e => ?_⟩, S.w0, S.p0, S.ex, S.ln, S.fz, fun j u2 e => ?_, S.me, S.pn, S.dis⟩
  · rw [upd_ne (neG c y e)]
    exact S.vw c y e
  · rw [upd_ne (ne0 c y e)]
    exact S.gr.fr0 c y n e g
  · have := S.gr.ge c y e
    unfold Lk at this ⊢
    rw [upd_ne (neG c y (S.gr.gg c y e))]
    exact this
  · obtain ⟨a2, o2, q2, h2, g2, z2, w2⟩ := S.ow j u2 e
    have : a2 ≠ a := fun z => by
      subst z
      rw [h1] at h2
      cases h2
      exact w2.no.2 _ rfl
    exact ⟨a2, o2, q2, by rw [upd_ne this]; exact h2, g2, z2, w2⟩
end
/-- a key (c, (n, ..)) -/
def nk2 (c : Int) (ns : List Int) : NestedKey := .tup [.num c, .tup (ns.map .num)]
theorem nk_ints {pp : Addr} {G : Hp} : ∀ {vs : List V} {ns : List Int}, RpL pp G vs (ns.map U.int) → NkAll G (ns.map .num) vs
  | _, [], r => by
    cases r
    exact .nil
  | _, n :: r, h => by
    cases h with
    | cons a t =>
      cases a
      exact .cons (.int n) (nk_ints t)
theorem nk2_is {pp : Addr} {G : Hp} {v : V} {c : Int} {ns : List Int} (h : Rp pp G v (.tup [.int c, rowV ns])) : ∃ b, v = .ref b ∧ NkIs G (nk2 c ns) (.ref b) := by
  cases h with
  | @tup a vs _ e k z =>
    cases k with
    | cons r1 t =>
      cases t with
      | cons r2 t2 =>
        cases t2
        cases r1
        cases r2 with
        | @tup a2 vs2 _ e2 k2 z2 => exact ⟨a, rfl, .tup e (.cons (.int c) (.cons (.tup e2 (nk_ints k2)) .nil))⟩
theorem depth_nums : ∀ ns : List Int, NestedKey.depthAll (ns.map .num) = 0
  | [] => rfl
  | n :: r => by
    show max (NestedKey.depth (.num n)) (NestedKey.depthAll (r.map .num)) = 0
    rw [depth_nums r]
    rfl
theorem nk2_depth (c : Int) (ns : List Int) : (nk2 c ns).depth ≤ 8 := by
  show max (NestedKey.depth (.num c)) (max (NestedKey.depth (.tup (ns.map .num))) (NestedKey.depthAll [])) + 1 ≤ 8
  rw [show NestedKey.depth (.tup (ns.map .num)) = NestedKey.depthAll (ns.map .num) + 1 from rfl, depth_nums]
  show max 0 (max (0 + 1) 0) + 1 ≤ 8
  decide
theorem val_nums (k : NestedKey) : ∀ (kvs : KVs) (n : Nat), (∀ (i : Nat) (p : NestedKey × Addr × V), kvs[i]? = some p → p.2.2 = V.int ((n + i : Nat) : Int)) → valN kvs k = if k ∈ kvs.map (·.1) then some (V.int ((n + (kvs.map (·.1)).idxOf k : Nat) : Int)) else none
  | [], n, h => rfl
  | p :: r, n, h => by
    have h0 := h 0 p rfl
    have ih := val_nums k r (n + 1) fun i q e => by
      have := h (i + 1) q (by simpa using e)
      rw [this, show n + (i + 1) = n + 1 + i by omega]
    unfold valN at ih ⊢
    rw [List.find?_cons, List.map_cons, List.idxOf_cons]
    by_cases c : p.1 = k
    · rw [decide_eq_true c, if_pos (by rw [c]; exact List.mem_cons_self)]
      show some p.2.2 = _
      rw [h0, beq_iff_eq.mpr c]
      rfl
    · rw [decide_eq_false c]
      have cb : (p.1 == k) = false := beq_eq_false_iff_ne.mpr c
      rw [cb]
      have m : (k ∈ p.1 :: r.map (·.1)) ↔ k ∈ r.map (·.1) := by
        rw [List.mem_cons]
        exact ⟨fun z => z.elim (fun e => absurd e.symm c) id, .inr⟩
      show (List.find? _ r).map _ = _
      rw [ih]
      by_cases q : k ∈ r.map (·.1)
      · rw [if_pos q, if_pos (m.mpr q)]
        show some (V.int ((n + 1 + (r.map (·.1)).idxOf k : Nat) : Int)) = some (V.int ((n + ((r.map (·.1)).idxOf k + 1) : Nat) : Int))
        rw [show n + 1 + (r.map (·.1)).idxOf k = n + ((r.map (·.1)).idxOf k + 1) by omega]
      · rw [if_neg q, if_neg (fun z => q (m.mp z))]
/-- slot j holds a new dict by nested tuples: the keys nums, each with its place -/
def HidN (w : World) (Z : Zc) (σ : L2.St) (G H : Hp) (j : Nat) (nums : List NestedKey) : Prop := ∃ (d : Addr) (kvs : KVs), σ[j]? = some (some (.ref d)) ∧ H d = some (nO w d kvs) ∧ G d = none ∧ Z.H0 d = none ∧ kvs.map (·.1) = nums ∧
  (∀ (i : Nat) (p : NestedKey × Addr × V), kvs[i]? = some p → p.2.2 = V.int ((i : Nat) : Int)) ∧ ∀ p ∈ kvs, NkIs G p.1 (.ref p.2.1) ∧ p.1.depth ≤ 8
theorem off_false {Z : Zc} (hb : Z.b = (false : Bool)) (a : Addr) : Off Z.b Z.pp a := by
  rw [hb]
  exact ⟨fun z => (nomatch z), fun t ht => nomatch ht⟩
/-- a step that leaves the slots keeps it -/
theorem HidN.step {w : World} {Z : Zc} {σ σ' : L2.St} {G H G' H' : Hp} {j : Nat} {nums : List NestedKey} (h : HidN w Z σ G H j nums) (hb : Z.b = (false : Bool)) (g : Z.gr G H G' H') (e : σ'[j]? = σ[j]?) : HidN w Z σ' G' H' j nums := by
  obtain ⟨d, kvs, e1, e2, e3, e4, e5, e6, e7⟩ := h
  obtain ⟨g1, g2⟩ := g.fr d _ (off_false hb d) e2 e3 rfl
  exact ⟨d, kvs, by rw [e]; exact e1, g2, g1, e4, e5, e6, fun p hp => ⟨(e7 p hp).1.mono fun b xs q => g.gg _ _ q, (e7 p hp).2⟩⟩
def addPl (nums : List NestedKey) (k : NestedKey) : List NestedKey := if k ∈ nums then nums else nums ++ [k]
theorem hid_ex {G H : Hp} {a : Addr} {o : HO} (g : G a = none) : Ex G H G (upd H a o) := ⟨Same.refl _, fun c y e => .inl (upd_ne (ne_of_none e g))⟩
/-- split[state] = numbers.setdefault(key, len(numbers)) -/
theorem hid_set {w : World} {Z : Zc} {D : Ends} {σ : L2.St} {ρ : List Cell} {G H : Hp} {jn js jk jt : Nat} {nums : List NestedKey} {c st : Int} {ns : List Int} {kus : List (Key × U)} (S : Sv Z σ ρ G H) (hb : Z.b = (false : Bool)) (hN : HidN w Z σ G H jn nums)
    (hk : ρ[jk]? = some (.fz (.tup [.int c, rowV ns]))) (hst : ρ[jt]? = some (.fz (.int st))) (hs : ρ[js]? = some (.ow (.dic kus))) (l1 : kus.length < 100000) (l2 : nums.length < 100000)
    (k : ∀ H', Sv Z σ (ρ.set js (.ow (.dic (putU kus (.inl st) (.int (((addPl nums (nk2 c ns)).idxOf (nk2 c ns) : Nat) : Int)))))) G H' → Ex G H G H' → HidN w Z σ G H' jn (addPl nums (nk2 c ns)) → D.nx σ H') :
    tAsg (tDSetN w (tVar jn) (tVar jk) (tCB (rLenN w) (tCons (tVar jn) tNil))) (gSub (tVar js) (tVar jt) rSetD) D σ H := by
  obtain ⟨d, kvs, e1, e2, e3, e4, e5, e6, e7⟩ := hN
  obtain ⟨vk, ek, rk⟩ := S.fz jk _ hk
  obtain ⟨b, rfl, nb⟩ := nk2_is rk
  have ks : Keys H kvs := fun p hp => ⟨(e7 p hp).1.mono fun b xs q => S.vw.tup q, (e7 p hp).2⟩
  have nbH : NkIs H (nk2 c ns) (.ref b) := nb.mono fun b xs q => S.vw.tup q
  have ll : kvs.length = nums.length := by rw [← e5, List.length_map]
  have hv := val_nums (nk2 c ns) kvs 0 fun i p q => by rw [e6 i p q, Nat.zero_add]
  rw [e5] at hv
  have fin : ∀ {H2 : Hp} {nums2 : List NestedKey} {n : Nat}, Sv Z σ ρ G H2 → Ex G H G H2 → HidN w Z σ G H2 jn nums2 → (∀ H', Sv Z σ (ρ.set js (.ow (.dic (putU kus (.inl st) (.int ((n : Nat) : Int)))))) G H' → Ex G H G H' → HidN w Z σ G H' jn nums2 → D.nx σ H') →
      gSub (tVar js) (tVar jt) rSetD (.int ((n : Nat) : Int)) σ H2 fun σ' H' => D.nx σ' H' := fun {H2 nums2 n} S2 x2 h2 k => by
    obtain ⟨a, o, ea, h1, ga, za, ho⟩ := S2.ow js _ hs
    obtain ⟨vt, et, rt⟩ := S2.fz jt _ hst
    cases rt
    cases ho with
    | dic k0 z =>
      rename_i kvs0
      refine ⟨_, ea, _, et, a, _, rfl, .inl ⟨kvs0, .inl st, h1, rfl, lineN (by rw [k0.length]; omega), rfl⟩, ?_⟩
      obtain ⟨d2, m, f1, f2, f3, f4, f5, f6, f7⟩ := h2
      have da : d2 ≠ a := fun z => by rw [z, h1] at f2; cases f2
      exact k _ (S2.put hs ea (.dic (k0.put (.int _)) (Nat.le_trans (putU_len _ _ _) (by omega)))) (x2.trans (ow_ex S2 hs ea)) ⟨d2, m, f1, by rw [upd_ne da]; exact f2, f3, f4, f5, f6, f7⟩
  refine ⟨_, e1, d, rfl, ⟨kvs, e2⟩, _, ek, ?_⟩
  refine ⟨_, e1, ⟨d, kvs, rfl, e2, ks, ?_⟩⟩
  refine ⟨kvs, nk2 c ns, b, e2, ks, rfl, nbH, nk2_depth c ns, lineN (by omega), fun v ev => ?_, fun ev => ?_⟩
  · have q : nk2 c ns ∈ nums := by
      refine Classical.byContradiction fun n => ?_
      rw [if_neg n, ev] at hv
      cases hv
    rw [if_pos q, ev, Nat.zero_add] at hv
    obtain rfl := Option.some.inj hv
    have ea : addPl nums (nk2 c ns) = nums := if_pos q
    rw [ea] at k
    exact fin S Ex.refl ⟨d, kvs, e1, e2, e3, e4, e5, e6, e7⟩ k
  · have q : nk2 c ns ∉ nums := fun m => by
      rw [if_pos m, ev] at hv
      cases hv
    have ea : addPl nums (nk2 c ns) = nums ++ [nk2 c ns] := if_neg q
    have ei : (nums ++ [nk2 c ns]).idxOf (nk2 c ns) = nums.length := by
      rw [List.idxOf_append, if_neg q]
      simp
    rw [ea, ei] at k
    have ep : putN kvs (nk2 c ns) b (.int ((kvs.length : Nat) : Int)) = kvs ++ [(nk2 c ns, b, .int ((kvs.length : Nat) : Int))] := by
      unfold putN
      rw [ev]
      rfl
    rw [ep, ll]
    refine fin (nums2 := nums ++ [nk2 c ns]) (S.hid hb e2 e3 e4) (hid_ex e3) ⟨d, _, e1, upd_same, e3, e4, by rw [List.map_append, e5]; rfl, fun i p hp => ?_, fun p hp => ?_⟩ k
    · by_cases il : i < kvs.length
      · rw [List.getElem?_append_left il] at hp
        exact e6 i p hp
      · rw [List.getElem?_append_right (by omega)] at hp
        have i0 : i - kvs.length = 0 := by
          refine Classical.byContradiction fun z => ?_
          rw [List.getElem?_eq_none (by show 1 ≤ _; omega)] at hp
          cases hp
        rw [i0] at hp
        cases hp
        rw [show i = kvs.length by omega, ll]
    · rcases List.mem_append.mp hp with h | h
      · exact e7 p h
      · rw [List.mem_singleton.mp h]
        exact ⟨nb, nk2_depth c ns⟩
theorem Sv.slot {Z : Zc} {σ : L2.St} {ρ : List Cell} {G H : Hp} (S : Sv Z σ ρ G H) {i : Nat} (hi : Z.may i) (h : ρ[i]? = some .no) {x : Option V} : Sv Z (σ.set i x) ρ G H := by
  have ne : ∀ {j : Nat} {c : Cell}, ρ[j]? = some c → c ≠ .no → i ≠ j := fun {j c} e n z => by
    rw [← z, h] at e
    exact n (Option.some.inj e).symm
  refine ⟨S.gr, S.w0, S.p0, S.ex, by simpa using S.ln, fun j u e => ?_, fun j u e => ?_, me_set hi S.me, S.pn, fun j k a n h1 h2 e => ?_⟩
  · rw [List.getElem?_set_ne (ne e (fun z => nomatch z))]
    exact S.fz j u e
  · rw [List.getElem?_set_ne (ne e (fun z => nomatch z))]
    exact S.ow j u e
  · obtain ⟨u1, e1⟩ := id h1
    obtain ⟨u2, e2⟩ := id h2
    rw [List.getElem?_set_ne (ne e1 (fun z => nomatch z))] at e
    rw [List.getElem?_set_ne (ne e2 (fun z => nomatch z))]
    exact S.dis j k a n h1 h2 e
/-- the keys met in order; the number of each state's key -/
def numsOf (kf : Int → Int × List Int) : List Int → List NestedKey := fun sts => sts.foldl (fun m st => addPl m (nk2 (kf st).1 (kf st).2)) []
def splitOf (kf : Int → Int × List Int) (sts : List Int) : List (Key × U) := ((List.range sts.length).foldl (fun acc i => putU acc (.inl (sts.getD i 0)) (.int (((numsOf kf (sts.take (i + 1))).idxOf (nk2 (kf (sts.getD i 0)).1 (kf (sts.getD i 0)).2) : Nat) : Int))) [])
def splitAt (kf : Int → Int × List Int) (sts : List Int) (n : Nat) : List (Key × U) := ((List.range n).foldl (fun acc i => putU acc (.inl (sts.getD i 0)) (.int (((numsOf kf (sts.take (i + 1))).idxOf (nk2 (kf (sts.getD i 0)).1 (kf (sts.getD i 0)).2) : Nat) : Int))) [])
theorem split_succ (kf : Int → Int × List Int) (sts : List Int) (i : Nat) : splitAt kf sts (i + 1) = putU (splitAt kf sts i) (.inl (sts.getD i 0)) (.int (((numsOf kf (sts.take (i + 1))).idxOf (nk2 (kf (sts.getD i 0)).1 (kf (sts.getD i 0)).2) : Nat) : Int)) := by
  unfold splitAt
  rw [List.range_succ, List.foldl_append]
  rfl
theorem split_len (kf : Int → Int × List Int) (sts : List Int) : ∀ n, (splitAt kf sts n).length ≤ n
  | 0 => Nat.le_refl _
  | n + 1 => by
    rw [split_succ]
    exact Nat.le_trans (putU_len _ _ _) (by have := split_len kf sts n; omega)
theorem nums_snoc (kf : Int → Int × List Int) (l : List Int) (st : Int) : numsOf kf (l ++ [st]) = addPl (numsOf kf l) (nk2 (kf st).1 (kf st).2) := by
  unfold numsOf
  rw [List.foldl_append]
  rfl
theorem addPl_len (m : List NestedKey) (k : NestedKey) : (addPl m k).length ≤ m.length + 1 := by
  unfold addPl
  split
  · omega
  · rw [List.length_append]
    exact Nat.le_refl _
theorem fold_len (kf : Int → Int × List Int) : ∀ (l : List Int) (m : List NestedKey), (l.foldl (fun m st => addPl m (nk2 (kf st).1 (kf st).2)) m).length ≤ m.length + l.length
  | [], m => Nat.le_refl _
  | x :: r, m => by
    have := fold_len kf r (addPl m (nk2 (kf x).1 (kf x).2))
    have := addPl_len m (nk2 (kf x).1 (kf x).2)
    show (r.foldl _ (addPl m (nk2 (kf x).1 (kf x).2))).length ≤ m.length + (r.length + 1)
    omega
def wFiner (wi : WA) (wk : WE) : WS := fun V ρ => ∃ (r s c : U) (sts : List Int) (kf : Int → Int × List Int), ρ = [.fz r, .fz s, .fz c, .no, .no, .no, .no, .no] ∧ sts.length < 100000 ∧ wi [.fz r, .fz s, .fz c, .no, .ow (.dic []), .no, .no, .no] (fun us => us = sts.map U.int) ∧
  (∀ st ∈ sts, ∀ split d6 d7, wk [.fz r, .fz s, .fz c, .no, .ow (.dic split), .fz (.int st), d6, d7] fun u => u = .tup [.int (kf st).1, rowV (kf st).2]) ∧ V.rt (.dic (splitOf kf sts))
theorem s_finer {w : World} {Z : Zc} {ti : TI} {tk : TE} {wi : WA} {wk : WE} (hb : Z.b = (false : Bool)) (m3 : Z.may 3) (m4 : Z.may 4) (m5 : Z.may 5) (m6 : Z.may 6) (hi : TrI Z ti wi) (hk : TrE Z tk wk) :
    TrS Z (tSeq (tAsg (tDNewN w) (gName 3)) (tSeq (tAsg tDNewK (gName 4)) (tSeq (tFor ti (gName 5) (tSeq (tAsg tk (gName 6)) (tAsg (tDSetN w (tVar 3) (tVar 6) (tCB (rLenN w) (tCons (tVar 3) tNil))) (gSub (tVar 4) (tVar 5) rSetD)))) (tRet (tVar 4))))) (wFiner wi wk) := fun V D σ ρ G H S hw B => by
  obtain ⟨r, s, c, sts, kf, rfl, ls, hw1, hw2, hr⟩ := hw
  have ln : σ.length = 8 := S.len
  intro dN nN
  show tSeq (tAsg tDNewK (gName 4)) _ _ (σ.set 3 (some (.ref dN))) (upd H dN (nO w dN []))
  have S1 : Sv Z (σ.set 3 (some (.ref dN))) [.fz r, .fz s, .fz c, .no, .no, .no, .no, .no] G (upd H dN (nO w dN [])) := (S.step (Gr.newH S.vw S.pl nN)).slot m3 rfl
  have N1 : HidN w Z (σ.set 3 (some (.ref dN))) G (upd H dN (nO w dN [])) 3 [] := ⟨dN, [], List.getElem?_set_self (by omega), upd_same, S.vw.free nN, S.new0 nN, rfl, fun i p e => (nomatch e), fun p hp => nomatch hp⟩
  have X1 : Ex G H G (upd H dN (nO w dN [])) := hid_ex (S.vw.free nN)
  generalize upd H dN (nO w dN []) = H1 at S1 N1 X1 ⊢
  have l1 : (σ.set 3 (some (.ref dN))).length = 8 := by rw [List.length_set]; exact ln
  generalize σ.set 3 (some (.ref dN)) = σ1 at S1 N1 l1 ⊢
  intro dS nS
  show tSeq (tFor ti (gName 5) _) _ _ (σ1.set 4 (some (.ref dS))) (upd H1 dS (.dK []))
  have g2 : Z.gr G H1 G (upd H1 dS (.dK [])) := Gr.newH S1.vw S1.pl nS
  have S2 : Sv Z (σ1.set 4 (some (.ref dS))) [.fz r, .fz s, .fz c, .no, .ow (.dic []), .no, .no, .no] G (upd H1 dS (.dK [])) := (S1.step g2).setO (i := 4) m4 upd_same (S1.vw.free nS) (S1.new0 nS) (.dic .nil (Nat.zero_le _)) fun j _ ⟨u, e⟩ => by
    match j, e with
    | 0, e => cases e
    | 1, e => cases e
    | 2, e => cases e
    | 3, e => cases e
    | 4, e => cases e
    | 5, e => cases e
    | 6, e => cases e
    | 7, e => cases e
    | j + 8, e => cases e
  have N2 : HidN w Z (σ1.set 4 (some (.ref dS))) G (upd H1 dS (.dK [])) 3 [] := N1.step hb g2 (List.getElem?_set_ne (by decide))
  have X2 := X1.trans g2.ex
  have l2 : (σ1.set 4 (some (.ref dS))).length = 8 := by rw [List.length_set]; exact l1
  generalize upd H1 dS (.dK []) = H2 at S2 N2 X2 ⊢
  generalize σ1.set 4 (some (.ref dS)) = σ2 at S2 N2 l2 ⊢
  refine hi σ2 _ G H2 S2 _ _ hw1 fun J n Gd Y us G3 H3 p g3 hl hz wk' hG hY => ?_
  subst p
  rw [List.length_map] at hl
  refine for_it wk' (fun i σ' H' => ∃ (c5 c6 c7 : Cell) (G' : Hp), Sv Z σ' [.fz r, .fz s, .fz c, .no, .ow (.dic (splitAt kf sts i)), c5, c6, c7] G' H' ∧ Ex G3 H3 G' H' ∧ HidN w Z σ' G' H' 3 (numsOf kf (sts.take i)) ∧ σ'.length = 8) ?_ (fun i σ' H' _ ⟨_, _, _, G', S', x, _⟩ => hG G' H' x S'.vw) (fun i x σ' H' H'' hlt ⟨c5, c6, c7, G', S', e, hN, l⟩ y => ?_) (fun σ' H' ⟨c5, c6, c7, G', S', e, hN, l⟩ => ?_)
  · exact ⟨_, _, _, G3, S2.step g3, Ex.refl, N2.step hb g3 rfl, l2⟩
  · obtain ⟨u, G'', eu, g4, rx⟩ := hY i x G' H' H'' hlt e S'.vw S'.pl y
    have est : sts[i]? = some sts[i] := List.getElem?_eq_getElem (by omega)
    rw [List.getElem?_map, est] at eu
    cases eu
    cases rx
    have ed : sts.getD i 0 = sts[i] := by rw [List.getD_eq_getElem?_getD, est] <;> rfl
    generalize sts[i] = st at est ed
    show tSeq (tAsg tk (gName 6)) _ _ (σ'.set 5 (some (.int st))) H''
    have S3 := (S'.step g4).set (i := 5) m5 (.int st)
    have N3 := hN.step (σ' := σ'.set 5 (some (.int st))) hb g4 (List.getElem?_set_ne (by decide))
    have l3 : (σ'.set 5 (some (.int st))).length = 8 := by rw [List.length_set]; exact l
    generalize σ'.set 5 (some (.int st)) = σ3 at S3 N3 l3 ⊢
    refine hk σ3 _ G'' H'' _ _ S3 (hw2 st (List.mem_of_getElem? est) _ _ _) fun v u G5 H5 pu g5 r5 => ?_
    subst pu
    show tAsg (tDSetN w (tVar 3) (tVar 6) _) _ _ (σ3.set 6 (some v)) H5
    have S5 := (S3.step g5).set (i := 6) m6 r5
    have N5 := N3.step (σ' := σ3.set 6 (some v)) hb g5 (List.getElem?_set_ne (by decide))
    have l5 : (σ3.set 6 (some v)).length = 8 := by rw [List.length_set]; exact l3
    have ln1 : (numsOf kf (sts.take i)).length ≤ i := by
      have := fold_len kf (sts.take i) []
      rw [List.length_take] at this
      show (List.foldl _ [] (sts.take i)).length ≤ i
      have h0 : ([] : List NestedKey).length = 0 := rfl
      omega
    have ls1 := split_len kf sts i
    refine hid_set S5 hb N5 rfl rfl rfl (by omega) (by omega) fun H6 S6 x6 N6 => ?_
    rw [← nums_snoc, ← take_more est] at S6 N6
    have es := split_succ kf sts i
    rw [ed] at es
    refine ⟨.fz (.int st), .fz (.tup [.int (kf st).1, rowV (kf st).2]), c7, G5, ?_, ((e.trans g4.ex).trans g5.ex).trans x6, N6, l5⟩
    rw [es]
    exact S6
  · subst hl
    exact (s_frz (i := 4) (s_ret v_var)) V D σ' _ G' H' S' ⟨_, rfl, _, rfl, hr⟩ (B.to ((X2.trans g3.ex).trans e))
end SV
/-! x is not True -/
namespace SV
open PySem PySem.Spec PyProof.Rows L2 SL
def fNotB : U → U → Option U
  | .bl a, .bl b => some (.bl (!decide (a = b)))
  | _, _ => none
theorem o_notB : OpOk rNotB fNotB := by
  intro b pp q G H v1 v2 x y u Q w p h1 h2 e k
  unfold fNotB at e
  split at e
  · cases e
    cases h1
    cases h2
    exact ⟨_, _, rfl, rfl, k _ G H (Gr.refl w p) (.bl _)⟩
  · cases e
end SV
/-! Walks of d.values(), sorted(d), dict(d), x.pop(i) inside expressions, new results, lists lent to a call. -/
namespace SV
open PySem PySem.Spec PyProof.Rows L2 SL
theorem iteF_of {c : Bool} {P Q : Prop} (h : c = false) (p : Q) : if c = true then P else Q := by rw [h]; exact iteF p
theorem iteT_of {c : Bool} {P Q : Prop} (h : c = true) (p : P) : if c = true then P else Q := by rw [h]; exact iteT p
section
variable {Z : Zc}
/-! ### sorted(d), dict(d) -/
theorem cr_sortDK {X : Cx} (hc : X.calm = true) : CallR X (.builtin "sorted") (fun xs H Q => ∃ (a : Addr) (kvs : List (Key × V)) (ks : List Str), xs = [.ref a] ∧ Rd H a (.dK kvs) ∧ kvs.map (·.1) = ks.map Sum.inr ∧ ks.length < 64 ∧
    ∀ ys p, ys.Perm ks → sortedS ys = true → H p = none → Q (.ref p) (upd H p (.lst (ys.map V.str)))) := call_sortedD hc
def bSortD : FB := fun us post => ∃ (kus : List (Key × U)) (ks : List Str), us = [.dic kus] ∧ keysOf kus = ks.map Sum.inr ∧ ks.length < 64 ∧ (∀ s ∈ ks, s.length ≤ 100000) ∧ ∀ ys : List Str, ys.Perm ks → sortedS ys = true → post (.lst (ys.map U.str))
theorem keys_eq {pp : Addr} {G : Hp} : ∀ {kvs : List (Key × V)} {kus : List (Key × U)}, RpD pp G kvs kus → kvs.map (·.1) = kus.map (·.1)
  | _, _, .nil => rfl
  | _, _, .cons _ t => congrArg (_ :: ·) (keys_eq t)
theorem b_sortD : CallOkF (fun xs H Q => ∃ (a : Addr) (kvs : List (Key × V)) (ks : List Str), xs = [.ref a] ∧ Rd H a (.dK kvs) ∧ kvs.map (·.1) = ks.map Sum.inr ∧ ks.length < 64 ∧
    ∀ ys p, ys.Perm ks → sortedS ys = true → H p = none → Q (.ref p) (upd H p (.lst (ys.map V.str)))) bSortD := by
  intro b pp q G H vs us Q post w p hv hF k
  obtain ⟨kus, ks, rfl, ek, hl, hz, hp⟩ := hF
  cases hv with
  | cons r t =>
    cases t
    cases r with
    | dic h kk z =>
      refine ⟨_, _, ks, rfl, h, (keys_eq kk).trans ek, hl, fun ys d pm so nd => k d _ _ _ (hp ys pm so) (Gr.newH w p nd) nd (w.free nd) upd_same (.lst (RpL.toStrs fun x hx => hz x (pm.mem_iff.mp hx)) ?_)⟩
      rw [List.length_map, pm.length_eq]
      omega
def bDictC : FB := fun us post => ∃ kus : List (Key × U), us = [.dic kus] ∧ post (.dic kus)
theorem b_dictC : CallOkF (fun xs H Q => ∃ (a : Addr) (kvs : List (Key × V)), xs = [.ref a] ∧ Rd H a (.dK kvs) ∧ ∀ p, H p = none → Q (.ref p) (upd H p (.dK kvs))) bDictC := by
  intro b pp q G H vs us Q post w p hv hF k
  obtain ⟨kus, rfl, hp⟩ := hF
  cases hv with
  | cons r t =>
    cases t
    cases r with
    | dic h kk z => exact ⟨_, _, rfl, h, fun d nd => k d _ _ _ hp (Gr.newH w p nd) nd (w.free nd) upd_same (.dic kk z)⟩
def bListDK : FB := fun us post => ∃ kus : List (Key × U), us = [.dic kus] ∧ (∀ s, Sum.inr s ∈ keysOf kus → s.length ≤ 100000) ∧ post (.lst ((keysOf kus).map uKey))
theorem b_listDK : CallOkF rListDK bListDK := by
  intro b pp q G H vs us Q post w p hv hF k
  obtain ⟨kus, rfl, ok, hp⟩ := hF
  cases hv with
  | cons r t =>
    cases t
    cases r with
    | dic h kk z => exact ⟨_, _, rfl, h, fun d nd => k d _ _ _ hp (Gr.newH w p nd) nd (w.free nd) upd_same (.lst (keys_rp kk ok) (by rw [List.length_map]; unfold keysOf; rw [List.length_map]; exact z))⟩
/-! ### d.values() walked -/
def wVals (i : Nat) : WA := fun ρ post => ∃ kus, ρ[i]? = some (.fz (.dic kus)) ∧ post (kus.map (·.2))
theorem i_vals_at {i : Nat} {σ : L2.St} {ρ : List Cell} {G H : Hp} (S : Sv Z σ ρ G H) (lk : LockedK σ G H i) : TrIat Z σ ρ G H (iVals (tVar i)) (wVals i) := fun post R hw q => by
  obtain ⟨kus, e, p⟩ := hw
  obtain ⟨v, e1, r⟩ := S.fz i _ e
  cases r with
  | @dic d kvs _ hd k z =>
    obtain ⟨ob, hl⟩ := lk d kvs e1 hd
    refine ⟨_, e1, d, ob, kvs, rfl, hl, q _ _ _ _ _ G H p (Gr.refl S.vw S.pl) (by rw [List.length_map, k.length]) (by rw [k.length]; exact z) walk_values (fun G' H' x _ => ex_locked hd hl x) fun j x G' H' H'' hj x' w' pl y => ?_⟩
    obtain ⟨rfl, kk, ek⟩ := y
    obtain ⟨u, eu, ru⟩ := k.get ek
    exact ⟨u, G', by rw [List.getElem?_map, eu]; rfl, Gr.refl w' pl, ru.same x'.gg⟩
theorem lock_TK {t : TE} {w : WE} {i : Nat} (hd : ∀ ρ post, w ρ post → ∃ kus, ρ[i]? = some (.fz (.dic kus)))
    (run : TrFLK Z i t w) : TrF Z (tLockEU t) w := fun σ ρ G H post Q S hw q => by
  obtain ⟨kus, e⟩ := hd _ _ hw
  obtain ⟨v, e1, r⟩ := S.fz i _ e
  cases r with
  | @dic d kvs _ hd k z =>
    rcases S.vw d _ hd with h | ⟨_, ob, h⟩
    · refine .inl ⟨d, .dK kvs, h, trivial, fun od => ?_⟩
      have SL := S.lock (od := od) hd rfl h
      refine run σ ρ G _ post _ SL (fun d' kvs' e2 hd' => ?_) hw fun p o u G' H' pu g' np gp hp ho => ?_
      · rw [e1] at e2
        cases e2
        rw [hd] at hd'
        cases hd'
        exact ⟨od, upd_same⟩
      · obtain ⟨hl, x'⟩ := ex_unlock hd h g'.ex
        have hd' := g'.gg _ _ hd
        have nd : p ≠ d := fun z => by rw [z, hd'] at gp; cases gp
        refine ⟨hl, q p o u G' _ pu (gr_unlock (Gr.refl S.vw S.pl) ⟨⟨g'.gg, g'.vw, fun a o' n ea ga => ?_, g'.pl⟩, fun a o' ea => ?_⟩ hd' hd rfl h) (by rw [upd_ne nd] at np; exact np) gp (by rw [upd_ne nd]; exact hp) ho⟩
        · have na : a ≠ d := fun z => by rw [z, hd] at ga; cases ga
          exact g'.fr0 a o' n (by rw [upd_ne na]; exact ea) ga
        · by_cases c : a = d
          · subst c
            rw [hd] at ea
            cases ea
            exact .inr ⟨h, rfl, od, hl⟩
          · have := g'.ge a o' ea
            unfold Lk at this ⊢
            rw [upd_ne c] at this
            exact this
    · refine run σ ρ G H post Q S (fun d' kvs' e2 hd' => ?_) hw q |> .inr
      rw [e1] at e2
      cases e2
      rw [hd] at hd'
      cases hd'
      exact ⟨ob, h⟩
theorem l_lcVals {i : Nat} {g : TG} {tt : TT} {te : TE} {wg : WG} {wt : WT} {we : WE} {vs : List Nat} (hg : TrG Z g wg vs) (ht : TrT Z tt wt) (he : TrE Z te we) (h0 : ∀ v ∈ vs, Z.may v := by exact Zc.mayL_of (by assumption) (by decide)) : TrFLK Z i (tLc (iVals (tVar i)) g tt te vs) (wLc (wVals i) wg wt we vs) :=
  fun σ ρ G H post Q S lk hw q => lc_at hg ht he h0 S (i_vals_at S lk) hw q
theorem d_vals {i : Nat} {wg : WG} {wt : WT} {we : WE} {vs : List Nat} : ∀ ρ post, wLc (wVals i) wg wt we vs ρ post → ∃ kus, ρ[i]? = some (.fz (.dic kus)) := fun _ _ ⟨kus, e, _⟩ => ⟨kus, e⟩
theorem v_lcVals {i : Nat} {g : TG} {tt : TT} {te : TE} {wg : WG} {wt : WT} {we : WE} {vs : List Nat} (hg : TrG Z g wg vs) (ht : TrT Z tt wt) (he : TrE Z te we) (h0 : ∀ v ∈ vs, Z.may v := by exact Zc.mayL_of (by assumption) (by decide)) : TrF Z (tLockEU (tLc (iVals (tVar i)) g tt te vs)) (wLc (wVals i) wg wt we vs) := lock_TK d_vals (l_lcVals hg ht he h0)
theorem d_valsS {i : Nat} {wg : WG} {wt : WT} {we : WE} {vs : List Nat} : ∀ ρ post, wSortSc (wVals i) wg wt we vs ρ post → ∃ kus, ρ[i]? = some (.fz (.dic kus)) := fun _ _ ⟨kus, e, _⟩ => ⟨kus, e⟩
theorem v_sortScVals {w : World} {i : Nat} {g : TG} {tt : TT} {te : TE} {wg : WG} {wt : WT} {we : WE} {vs : List Nat} (hg : TrG Z g wg vs) (ht : TrT Z tt wt) (he : TrE Z te we) (h0 : ∀ v ∈ vs, Z.may v := by exact Zc.mayL_of (by assumption) (by decide)) (hT : Z.b.T = [] := by exact noT (by assumption)) :
    TrF Z (tLockEU (tCB (rSortedSet w) (tCons (tScG (fun a => SetO w a (fun _ => false) 0) (rSAdd w) (iVals (tVar i)) g tt te vs) tNil))) (wSortSc (wVals i) wg wt we vs) := lock_TK d_valsS fun σ ρ G H post Q S lk hw q => by
  refine sc_at hT (Q := fun v H1 => rSortedSet w [v] H1 Q) (famI Z.pp w) hg ht he h0 S (i_vals_at S lk) hw fun D o acc G' H' p l60 g nD gD eD ⟨Sf, n, eo, hS, hn⟩ => ?_
  subst eo
  refine ⟨D, Sf, n, rfl, eD, by omega, fun ns a up mem ln na => ?_⟩
  have S' := S.step g
  have gN := Gr.newH (o := .lst (ns.map V.int)) S'.vw S'.pl na
  exact q a _ _ G' _ (p ns up fun k => (mem k).trans (hS k)) (g.trans gN) (free_back S g na) (S'.vw.free na) upd_same (.lst (RpL.toInts ns) (by rw [List.length_map]; omega))
end
/-! ### expressions that change one's own lists -/
abbrev WX := List Cell → (U → List Cell → Prop) → Prop
abbrev WXA := List Cell → (List U → List Cell → Prop) → Prop
def TrX (Z : Zc) (t : TE) (w : WX) : Prop := ∀ σ ρ G H (post : U → List Cell → Prop) (Q : VK), Sv Z σ ρ G H → w ρ post → (∀ v u ρ' G' H', post u ρ' → Sv Z σ ρ' G' H' → Ex G H G' H' → Rp Z.pp G' v u → Q v H') → t σ H Q
def TrXA (Z : Zc) (t : TA) (w : WXA) : Prop := ∀ σ ρ G H (post : List U → List Cell → Prop) (Q : List V → Hp → Prop), Sv Z σ ρ G H → w ρ post → (∀ vs us ρ' G' H', post us ρ' → Sv Z σ ρ' G' H' → Ex G H G' H' → RpL Z.pp G' vs us → Q vs H') → t σ H Q
section
variable {Z : Zc} {ta te : TE} {wa : WX} {we : WE} {tA : TA} {wA : WXA}
def xE (we : WE) : WX := fun ρ post => we ρ fun u => post u ρ
theorem x_e (h : TrE Z te we) : TrX Z te (xE we) := fun σ ρ G H post Q S hw q => h σ ρ G H _ _ S hw fun v u G1 H1 p g r => q v u ρ G1 H1 p (S.step g) g.ex r
def xPop (j : Nat) (we : WE) : WX := fun ρ post => ∃ ys, ρ[j]? = some (.ow (.lst ys)) ∧ we ρ fun x => ∃ (n : Int) (u : U), x = .int n ∧ 0 ≤ n ∧ n ≤ 100000 ∧ ys[n.toNat]? = some u ∧ post u (ρ.set j (.ow (.lst (ys.eraseIdx n.toNat))))
theorem x_pop {K : PySem.W.Frag} {j : Nat} (h : TrE Z te we) : TrX Z (tBM K "list" rPopAt (tVar j) (tCons te tNil)) (xPop j we) := fun σ ρ G H post Q S hw q => by
  obtain ⟨ys, ej, p⟩ := hw
  obtain ⟨b, ws, e2, h2, _, _⟩ := ow_lst S ej
  refine ⟨_, e2, .inl ⟨rfl, ws, SqL.of h2⟩, h σ ρ G H _ _ S p fun iv x G1 H1 p1 g1 r1 => ?_⟩
  obtain ⟨n, u, rfl, n0, n1, eu, p3⟩ := p1
  cases r1
  have S1 := S.step g1
  obtain ⟨b', ws', e2', h2', k2, z2⟩ := ow_lst S1 ej
  rw [e2] at e2'
  cases e2'
  obtain ⟨y, ey, ry⟩ := k2.got eu
  have ln : n.toNat < ys.length := (List.getElem?_eq_some_iff.mp eu).1
  have lw : ws'.length = ys.length := k2.length
  refine ⟨b, ws', n, n.toNat, y, rfl, rfl, h2', by omega, by omega, seqIx n0 (by omega), ey, ?_⟩
  have S2 := S1.put ej e2 (.lst (k2.erase n.toNat) (by have := List.length_eraseIdx_le ys n.toNat; omega))
  exact q y u _ G1 _ p3 S2 (g1.ex.trans (ow_ex S1 ej e2)) ry
def xNil : WXA := fun ρ post => post [] ρ
def xCons (wa : WX) (wr : WXA) : WXA := fun ρ post => wa ρ fun x ρ' => wr ρ' fun xs ρ2 => post (x :: xs) ρ2
theorem x_nil : TrXA Z tNil xNil := fun σ ρ G H post Q S hw q => q [] [] ρ G H hw S Ex.refl .nil
theorem x_cons {tr : TA} {wr : WXA} (ha : TrX Z ta wa) (hr : TrXA Z tr wr) : TrXA Z (tCons ta tr) (xCons wa wr) := fun σ ρ G H post Q S hw q =>
  ha σ ρ G H _ _ S hw fun v x ρ1 G1 H1 w1 S1 x1 h1 => hr σ ρ1 G1 H1 _ _ S1 w1 fun vs us ρ2 G2 H2 w2 S2 x2 h2 => q _ _ ρ2 G2 H2 w2 S2 (x1.trans x2) (.cons (h1.same x2.gg) h2)
def xLst (wA : WXA) : WX := fun ρ post => wA ρ fun us ρ' => us.length ≤ 100000 ∧ post (.lst us) ρ'
theorem x_lst (h : TrXA Z tA wA) : TrX Z (tLst tA) (xLst wA) := fun σ ρ G H post Q S hw q => h σ ρ G H _ _ S hw fun vs us ρ' G1 H1 w1 S1 x1 h1 => ⟨Nat.le_of_lt (lineN (by rw [h1.length]; exact w1.1)), fun p np => by
  have g : Z.gr G1 H1 (upd G1 p (.lst vs)) (upd H1 p (.lst vs)) := Gr.new S1.vw S1.pl np
  exact q _ _ ρ' _ _ w1.2 (S1.step g) (x1.trans g.ex) (.lst upd_same (h1.same (same_upd (S1.vw.free np))) w1.1)⟩
def wRetX (wa : WX) : WS := fun V ρ => wa ρ fun u _ => V.rt u
theorem s_retX (h : TrX Z ta wa) : TrS Z (tRet ta) (wRetX wa) := fun V D σ ρ G H S hw B => h σ ρ G H _ _ S hw fun v u ρ' G1 H1 p S1 x r => B.rt v u G1 H1 S1.gr x r p
def wSetX (i : Nat) (wa : WX) : WS := fun V ρ => wa ρ fun u ρ' => V.nx (ρ'.set i (.fz u))
theorem s_setX {i : Nat} (h : TrX Z ta wa) (hi : Z.may i := by exact Zc.may_of (by assumption) (by decide)) : TrS Z (tAsg ta (gName i)) (wSetX i wa) := fun V D σ ρ G H S hw B => h σ ρ G H _ _ S hw fun v u ρ' G1 H1 p S1 x r => B.nx _ _ G1 H1 (S1.set hi r) x p
def wDPutX (i : Nat) (wk : WE) (wa : WX) : WS := fun V ρ => wa ρ fun u ρ' => ∃ kus, ρ'[i]? = some (.ow (.dic kus)) ∧ wk ρ' fun y => ∃ k, keyU y = some k ∧ kus.length < 100000 ∧ V.nx (ρ'.set i (.ow (.dic (putU kus k u))))
theorem s_dputX {i : Nat} {tk : TE} {wk : WE} (h : TrX Z ta wa) (hk : TrE Z tk wk) : TrS Z (tAsg ta (gSub (tVar i) tk rSetD)) (wDPutX i wk wa) := fun V D σ ρ G H S hw B => by
  refine h σ ρ G H _ _ S hw fun v u ρ' G1 H1 p1 S1 x1 r1 => ?_
  obtain ⟨kus, e, p1⟩ := p1
  obtain ⟨a, o, e1, _⟩ := S1.ow i _ e
  refine ⟨_, e1, hk σ ρ' G1 H1 _ _ S1 p1 fun kv y G2 H2 p2 g2 r2 => ?_⟩
  have S2 := S1.step g2
  obtain ⟨a', o', e1', h1, ga, z1, ho⟩ := S2.ow i _ e
  rw [e1] at e1'
  cases e1'
  obtain ⟨k, ek, l, p3⟩ := p2
  cases ho with
  | dic kk z =>
    rename_i kvs
    refine ⟨a, _, rfl, .inl ⟨kvs, k, h1, r2.key ek, lineN (by rw [kk.length]; omega), rfl⟩, ?_⟩
    exact B.nx _ _ G2 _ (S2.put e e1 (.dic (kk.put (r1.same g2.gg)) (Nat.le_trans (putU_len _ _ _) l))) ((x1.trans g2.ex).trans (ow_ex S2 e e1)) p3
end
/-! ### a def whose result is new -/
def spF (b : PT) (n : Nat) (W : Wf) : Sp := fun vs H Q E => ∃ us pp q G post ew, RpL pp G vs us ∧ us.length = n ∧ Vw G H ∧ (Pl b pp q G H) ∧ W us post ew ∧
  (∀ p o u G' H', post u → Gr b pp q G H G' H' → H p = none → G' p = none → H' p = some o → Ow pp G' o u → Q (.ref p) H') ∧ (∀ C fs gs od G' H', ew C gs → Gr b pp q G H G' H' → XdAt G' od fs → RpF pp G' fs gs → E (.ref C) od H')
theorem spF_len {b : PT} {n : Nat} {W : Wf} {vs : List V} {H : Hp} {Q : VK} {E : XK} (h : spF b n W vs H Q E) : vs.length = n := by
  obtain ⟨us, pp, q, G, post, ew, k, l, _⟩ := h
  rw [k.length, l]
theorem spF_V {b : PT} {n : Nat} {W : Wf} {vs : List V} {H : Hp} {Q : VK} {E : XK} (h : spV b n W vs H Q E) : spF b n W vs H Q E := by
  obtain ⟨us, pp, q, G, post, ew, k, l, vw, pl, hw, hq, he⟩ := h
  exact ⟨us, pp, q, G, post, ew, k, l, vw, pl, hw, fun p o u G' H' pu g np gp hp ho => hq _ u (upd G' p o) H' pu (g.freeze np gp hp pl) (ho.rp gp), he⟩
def TrSF (Z : Zc) (t : TS) (w : List Cell → (U → Prop) → Prop) : Prop := ∀ (post : U → Prop) (D : Ends) σ ρ G H, Sv Z σ ρ G H → w ρ post → (∀ p o u G' H', post u → Z.gr0 Z.G0 Z.H0 G' H' → Z.H0 p = none → G' p = none → H' p = some o → Ow Z.pp G' o u → D.rt (.ref p) H') → t D σ H
section
variable {Z : Zc} {te : TE} {we : WE} {t u : TS} {w : WS} {x y : List Cell → (U → Prop) → Prop} {tt : TT} {wt : WT}
theorem sf_ret (h : TrF Z te we) : TrSF Z (tRet te) we := fun post D σ ρ G H S hw q => h σ ρ G H _ _ S hw fun p o u G' H' pu g np gp hp ho => q p o u G' H' pu (S.gr.trans g) (S.new0 np) gp hp ho
def wRetO (i : Nat) : List Cell → (U → Prop) → Prop := fun ρ post => ∃ u, ρ[i]? = some (.ow u) ∧ post u
theorem sf_retO {i : Nat} : TrSF Z (tRet (tVar i)) (wRetO i) := fun post D σ ρ G H S hw q => by
  obtain ⟨u, e, p⟩ := hw
  obtain ⟨a, o, e1, h1, g1, z1, ho⟩ := S.ow i _ e
  exact ⟨_, e1, q a o u G H p S.gr z1 g1 h1 ho⟩
def wSeqF (w : WS) (x : List Cell → (U → Prop) → Prop) : List Cell → (U → Prop) → Prop := fun ρ post => w { nx := fun ρ' => x ρ' post, rt := fun _ => False } ρ
theorem sf_seq (h : TrS Z t w) (k : TrSF Z u x) : TrSF Z (tSeq t u) (wSeqF w x) := fun post D σ ρ G H S hw q =>
  h _ _ σ ρ G H S hw ⟨fun σ' ρ' G' H' S' _ p => k post D σ' ρ' G' H' S' p q, fun _ _ _ _ _ _ _ z => z.elim, fun _ _ _ _ _ _ z => z.elim, fun _ _ _ _ _ _ z => z.elim⟩
def wIfF (c : WT) (a : List Cell → (U → Prop) → Prop) (b : List Cell → (U → Prop) → Prop) : List Cell → (U → Prop) → Prop := fun ρ post => c ρ fun k => if k = true then a ρ post else b ρ post
theorem sf_if (hc : TrT Z tt wt) (ha : TrSF Z t x) (hb : TrSF Z u y) : TrSF Z (tIfS tt t u) (wIfF wt x y) := fun post D σ ρ G H S hw q => hc σ ρ G H _ _ S hw fun c G1 H1 p g => by
  cases c with
  | true => exact iteT (ha post D σ ρ G1 H1 (S.step g) p q)
  | false => exact iteF (hb post D σ ρ G1 H1 (S.step g) p q)
/-- if c: return ..; the rest -/
theorem sf_ifret (hc : TrT Z tt wt) (ha : TrSF Z t x) (hb : TrSF Z u y) : TrSF Z (tSeq (tIfS tt t tNext) u) (wIfF wt x y) := fun post D σ ρ G H S hw q => hc σ ρ G H _ _ S hw fun c G1 H1 p g => by
  cases c with
  | true => exact iteT (ha post _ σ ρ G1 H1 (S.step g) p q)
  | false => exact iteF (hb post D σ ρ G1 H1 (S.step g) p q)
end
section
variable {P : Program} {w : World} {K : PySem.W.Frag} {mg : Str → Option Value} {base : Heap}
theorem body_ofF {b : PT} {n : Nat} {W : Wf} {N : List Str} {t : TS} {E : XK} (hN : n ≤ N.length)
    (tr : ∀ Z : Zc, Z.b = b → Z.E = E → Z.mays (fun _ => true) → ∃ w, TrSF Z t w ∧ ∀ us post, us.length = n → W us post Z.ew → w (us.map Cell.fz ++ List.replicate (N.length - us.length) Cell.no) post)
    {vs : List V} {H : Hp} {Q : VK} (h : spF b n W vs H Q E) : t { nx := fun _ H' => Q .non H', rt := Q } (L2.start N vs) H := by
  obtain ⟨us, pp, q, G, post, ew, k, l, vw, pl, hw, hq, he⟩ := h
  obtain ⟨w, T, hb⟩ := tr ⟨b, pp, q, G, H, E, ew, N.length, fun _ => none, fun _ => none⟩ rfl rfl fun _ _ => rfl
  have g0 : Gr b pp q G H G H := Gr.refl vw pl
  refine T post _ (L2.start N vs) _ G H ⟨g0, vw, pl, fun C fs us od G' H' a g x r => he C fs us od G' H' a g x r, ⟨?_, ?_⟩, fun i u e => start_get k e, fun i u e => (start_ow e).elim, (fun _ _ e => nomatch e), (fun _ _ e => nomatch e), fun i j a _ h1 _ => by obtain ⟨u, e⟩ := h1; exact (start_ow e).elim⟩ (hb us post l hw)
    fun p o u G' H' pu g np gp hp ho => hq p o u G' H' pu g np gp hp ho
  · unfold L2.start
    rw [List.length_append, List.length_map, List.length_replicate, k.length, l]
    show n + (N.length - n) = N.length
    omega
  · rw [List.length_append, List.length_map, List.length_replicate, l]
    show n + (N.length - n) = N.length
    omega
theorem okF {b : PT} {n : Nat} {W : Wf} {x qual : Str} {st : Stmt} {f : Addr} {fd : FuncData} {N ps : List Str} {k : Nat} (F : Fun K x qual st f fd) (S : FnScope N ps (defScope st)) (hn : ps.length = n) (hN : n ≤ N.length)
    (hbody : ∀ (cdv : Value) (A : Around) (outer : List Env) (s : Shared) (H : Hp) (E : XK), Room k (A.deeper (envOfC qual (defScope st) s.heap.objs.size f cdv)) →
      ∃ t, PSs (cxOf CX0 P w K mg base N qual (defScope st) f cdv A outer s H E).nox (defBody st) t ∧ ∀ Z : Zc, Z.b = b → Z.E = E → Z.mays (fun _ => true) → ∃ w, TrSF Z t w ∧ ∀ us post, us.length = n → W us post Z.ew → w (us.map Cell.fz ++ List.replicate (N.length - us.length) Cell.no) post) :
    FnOk P w K mg base CX0 (k + 1) f fd ps (spF b n W) :=
  F.ok S (fun vs H Q E h => (spF_len h).trans hn.symm) fun cdv A outer s H vs Q E hr h =>
    let ⟨t, ht, tr⟩ := hbody cdv A outer s H E hr
    ⟨t, ht, body_ofF hN tr h⟩
theorem okFX {b : PT} {n : Nat} {W : Wf} {x qual : Str} {st : Stmt} {f : Addr} {fd : FuncData} {N ps : List Str} {k : Nat} (F : Fun K x qual st f fd) (S : FnScope N ps (defScope st)) (hn : ps.length = n) (hN : n ≤ N.length)
    (hbody : ∀ (cdv : Value) (A : Around) (outer : List Env) (s : Shared) (H : Hp) (E : XK), Room k (A.deeper (envOfC qual (defScope st) s.heap.objs.size f cdv)) →
      ∃ t, PSs (cxOf (L2.CX P w) P w K mg base N qual (defScope st) f cdv A outer s H E) (defBody st) t ∧ ∀ Z : Zc, Z.b = b → Z.E = E → Z.mays (fun _ => true) → ∃ w, TrSF Z t w ∧ ∀ us post, us.length = n → W us post Z.ew → w (us.map Cell.fz ++ List.replicate (N.length - us.length) Cell.no) post) :
    FnOk P w K mg base (L2.CX P w) (k + 1) f fd ps (spF b n W) :=
  F.okX S (fun vs H Q E h => (spF_len h).trans hn.symm) fun cdv A outer s H vs Q E hr h =>
    let ⟨t, ht, tr⟩ := hbody cdv A outer s H E hr
    ⟨t, ht, body_ofF hN tr h⟩
/-- a def whose result is new, called where that matters not -/
theorem FnC.fz {CX : CXT} {k : Nat} {nm : Str} {ps : List Str} {b : PT} {n : Nat} {W : Wf} (c : FnC P w K mg base CX k nm ps (spF b n W)) : FnC P w K mg base CX k nm ps (spV b n W) := by
  obtain ⟨f, fd, F, a, b', d⟩ := c.ex
  exact ⟨f, fd, F.imp fun vs H Q E h => spF_V h, a, b', d⟩
end
section
variable {Z : Zc} {tA : TA} {wA : WA} {te : TE} {we : WE}
theorem callF_run {b : PT} {n : Nat} {W : Wf} {E : XK} {ew : EW} (hb : PLe b Z.b) (hE : ∀ σ ρ G H, Sv Z σ ρ G H → ∀ C fs gs od G' H', ew C gs → Z.gr0 G H G' H' → XdAt G' od fs → RpF Z.pp G' fs gs → E (.ref C) od H') (h : TrA Z tA wA) :
    TrF Z (tCall (spF b n W) [] E tA) (wCall n W ew wA) := fun σ ρ G H post Q S hw q => h σ ρ G H _ _ S hw fun vs us G1 H1 w1 g1 h1 => by
  obtain ⟨l, w2⟩ := w1
  have S1 := S.step g1
  have up : ∀ {G' H'}, Gr b Z.pp Z.q G1 H1 G' H' → Z.gr G1 H1 G' H' := fun {G' H'} g => g.le hb S1.pl
  show spF b n W (vs ++ []) H1 Q E
  rw [List.append_nil]
  exact ⟨us, Z.pp, Z.q, G1, post, ew, h1, l, S1.vw, S1.pl.le hb, w2, fun p o u G' H' pu g np gp hp ho => q p o u G' H' pu (g1.trans (up g)) (free_back S g1 np) gp hp ho, fun C fs gs od G' H' a g x r => hE σ ρ G1 H1 S1 C fs gs od G' H' a (up g) x r⟩
theorem v_callF {b : PT} {n : Nat} {W : Wf} (hb : PLe b Z.b) (h : TrA Z tA wA) : TrF Z (tCall (spF b n W) [] E0 tA) (wCall n W (fun _ _ => False) wA) := callF_run hb (fun _ _ _ _ _ _ _ _ _ _ _ a => a.elim) h
theorem v_callFX {b : PT} {n : Nat} {W : Wf} {E : XK} (hE : Z.E = E) (hb : PLe b Z.b) (h : TrA Z tA wA) : TrF Z (tCall (spF b n W) [] E tA) (wCall n W Z.ew wA) :=
  callF_run hb (fun σ ρ G H S C fs gs od G' H' a g x r => by rw [← hE]; exact S.ex C fs gs od G' H' a (S.gr.trans g) x r) h
/-! ### one's own list, lent to an expression whose value is flat -/
def flU : U → Bool
  | .non => true
  | .bl _ => true
  | .int _ => true
  | .str _ => true
  | _ => false
def wLend (i : Nat) (we : WE) : WE := fun ρ post => ∃ us, ρ[i]? = some (.ow (.lst us)) ∧ we (ρ.set i (.fz (.lst us))) fun y => flU y = true ∧ post y
theorem v_lend {i : Nat} (h : TrE Z te we) : TrE Z te (wLend i we) := fun σ ρ G H post Q S hw q => by
  obtain ⟨us, e, p⟩ := hw
  obtain ⟨a, o, ha, h1, g1, z1, w1⟩ := S.ow i _ e
  have s : Same G (upd G a o) := same_upd g1
  have S' : Sv Z σ (ρ.set i (.fz (.lst us))) (upd G a o) H := by
    have gr : Z.gr0 Z.G0 Z.H0 (upd G a o) H := S.gr.freeze z1 g1 h1 S.p0
    refine ⟨gr, S.w0, S.p0, S.ex, by simpa using S.ln, fun j u2 e => ?_, fun j u2 e => ?_, S.me, S.pn.trans s, fun j k c n h1 h2 e => ?_⟩
    · rcases set_get e with ⟨rfl, z⟩ | ⟨_, e⟩
      · cases z
        exact ⟨_, ha, w1.rp g1⟩
      · obtain ⟨v, k1, k2⟩ := S.fz j u2 e
        exact ⟨v, k1, k2.same s⟩
    · rcases set_get e with ⟨rfl, z⟩ | ⟨n, e⟩
      · cases z
      · obtain ⟨a2, o2, q2, h2, g2, z2, w2⟩ := S.ow j u2 e
        have : a2 ≠ a := fun z => by
          subst z
          exact S.dis i j a2 (Ne.symm n) ⟨_, by assumption⟩ ⟨_, e⟩ ha q2
        exact ⟨a2, o2, q2, h2, by rw [upd_ne this]; exact g2, z2, w2.same s⟩
    · have f : ∀ j, isOw (ρ.set i (.fz (.lst us))) j → isOw ρ j := fun j ⟨y, e⟩ => by
        rcases set_get e with ⟨_, z⟩ | ⟨_, e⟩
        · cases z
        · exact ⟨_, e⟩
      exact S.dis j k c n (f j h1) (f k h2) e
  refine h σ _ _ H _ _ S' p fun v y G2 H2 p2 g r => ?_
  obtain ⟨fy, p2⟩ := p2
  have nd : isD o = false := by cases w1 <;> rfl
  have ntp := w1.ntp
  have fr : Rp Z.pp G v y := by
    cases r <;> first | cases fy | skip
    · exact .non
    · exact .bl _
    · exact .int _
    · exact .str _ (by assumption)
  refine q v y G H2 p2 ⟨⟨Same.refl _, fun c x e => g.vw c x (g.gg c x (s c x e)), fun c x off e gc => ⟨fun _ => gc, ?_⟩, fun z => ⟨(g.pl.1 z).1, (S.pl.1 z).2⟩, fun t ht => ⟨(g.pl.2 t ht).1, (S.pl.2 t ht).2⟩⟩, fun c x e => g.ge c x (s c x e)⟩ fr
  by_cases c' : c = a
  · subst c'
    rcases g.ge c o upd_same with k | ⟨_, k, _⟩
    · exact k.trans e
    · rw [nd] at k
      cases k
  · exact (g.fr0 c x off e (by rw [upd_ne c']; exact gc)).2
end
end SV
/-! zip of a tuple and a list. -/
namespace SL
open PySem PySem.Spec PyProof.Rows L2
/-- the tuple at a and the list at b, as long as both have items -/
def ItzM (K : PySem.W.Frag) (a b : Addr) : It :=
  ⟨fun i H => ∃ (xs ys : List V) (x y : V), SqT K H a xs ∧ SqL K H b ys ∧ xs[i]? = some x ∧ ys[i]? = some y,
    fun i H v H' => ∃ (T : Addr) (x y : V), v = .ref T ∧ H T = none ∧ H' = upd H T (.tup [x, y]) ∧ (∀ l, SqT K H a l → l[i]? = some x) ∧ ∀ l, SqL K H b l → l[i]? = some y,
    fun i H => ∃ xs ys : List V, SqT K H a xs ∧ SqL K H b ys ∧ i = min xs.length ys.length⟩
theorem turn_zipM {P : Program} {w : World} {K : PySem.W.Frag} {elts : List Expr} {kk : Nat} {tpos : Pos} {a b z c d i1 i2 : Addr} (S : ZipSep2 z c d i1 i2 [i1, a] [i2, b]) (na : a ≠ i1) (nb : b ≠ i2) :
    Turn P w K (.Tuple elts kk tpos) (ItzM K a b) [z, c, d, i1, i2] z (fun i h => IsZip h z c d .none ∧ IsTupOf2 h c (.ref i1) (.ref i2) ∧ (∃ x y, IsTupOf2 h d x y) ∧ h.IsTupleIter i1 a i ∧ h.IsListIter i2 b i) where
  mem := List.mem_cons_self
  obj := fun i h st m hm => by
    obtain ⟨s1, s2, ⟨x, y, s3⟩, ⟨o1, e1, _, d1⟩, ⟨o2, e2, _, d2⟩⟩ := st
    simp only [List.mem_cons, List.not_mem_nil, or_false] at hm
    rcases hm with rfl | rfl | rfl | rfl | rfl
    · exact ⟨_, s1, fun v q => nomatch q⟩
    · exact ⟨_, s2, fun v q => nomatch q⟩
    · exact ⟨_, s3, fun v q => nomatch q⟩
    · exact ⟨o1, e1, fun v q => by rw [d1] at q; cases q⟩
    · exact ⟨o2, e2, fun v q => by rw [d2] at q; cases q⟩
  keep := fun i h h' st k => by
    obtain ⟨s1, s2, ⟨x, y, s3⟩, s4, s5⟩ := st
    exact ⟨k z (by simp) _ s1, k c (by simp) _ s2, ⟨x, y, k d (by simp) _ s3⟩, s4.at fun o q => k i1 (by simp) o q, s5.at fun o q => k i2 (by simp) o q⟩
  item := by
    intro X hP hw hK hc i pins s σ H E I hf st hg
    subst hP hw hK
    obtain ⟨s1, s2, ⟨x0, y0, s3⟩, s4, s5⟩ := st
    obtain ⟨xs, ys, x, y, qx, qy, ex, ey⟩ := hg
    obtain ⟨us, rx, px, _⟩ := I.tuple qx
    obtain ⟨ws, ry, py, _⟩ := I.list qy
    obtain ⟨u, eu, ru⟩ := rx.get ex
    obtain ⟨w, ew, rw'⟩ := ry.get ey
    have hd := I.ok.hd hc
    have W := GoesN.zip2 (elts := elts) (x1 := kk) (pos := tpos) S (Draws.tuple (prog := X.prog) (w := X.w) (A := X.A.in1) hd i1 a na us.toArray) (Draws.list (A := X.A.in1) hd i2 b nb ws.toArray)
    have l1 := (List.getElem?_eq_some_iff.mp eu).1
    have l2 := (List.getElem?_eq_some_iff.mp ew).1
    refine W.goes i s _ E (by simp; omega) ⟨s1, s2, ⟨x0, y0, s3⟩, ⟨s4, px⟩, ⟨s5, py.isList⟩⟩ fun v h' tk hY hst hk htk => ?_
    obtain ⟨T, u', w', rfl, hT, e1, e2, tT⟩ := hY
    obtain ⟨t1, t2, ⟨x1, y1, t3⟩, ⟨t4, _⟩, ⟨t5, _⟩⟩ := hst
    obtain rfl : u' = u := by
      have e1 : us.toArray[i]? = some u' := e1
      rw [List.getElem?_toArray, eu] at e1
      exact (Option.some.inj e1).symm
    obtain rfl : w' = w := by
      have e2 : ws.toArray[i]? = some w' := e2
      rw [List.getElem?_toArray, ew] at e2
      exact (Option.some.inj e2).symm
    obtain ⟨oT, hoT, cT, nT, dT⟩ := tT
    have new : ObjOk X.prog X.w (upd H T (.tup [x, y])) h' T (.tup [x, y]) := ⟨by show 2 ≤ sizeLine; decide, [u', w'], .cons ru (.cons rw' .nil), ⟨oT, hoT, cT, nT, dT⟩⟩
    have I1 : Inv X pins σ (upd H T (.tup [x, y])) { s with heap := h', toks := tk } :=
      I.turnedNew (t' := tk) (ch := [z, c, d, i1, i2]) (fun m o hm q => hk m o (fun q' => hm (by simp only [List.mem_cons, List.not_mem_nil, or_false] at q' ⊢; rcases q' with h | h | h | h <;> simp [h])) q) hf hT new
    have f : H T = none := I.hok.fresh hT
    refine ⟨.ref T, _, I1, rfl, ⟨T, x, y, rfl, f, rfl, fun l hl => by rw [I.tuple_inj hl qx]; exact ex, fun l hl => by rw [I.list_inj hl qy]; exact ey⟩, ⟨t1, t2, ⟨x1, y1, t3⟩, t4, t5⟩, fun m hm => ?_⟩
    have lt : m < s.heap.objs.size := by
      simp only [List.mem_cons, List.not_mem_nil, or_false] at hm
      rcases hm with rfl | rfl | rfl | rfl | rfl
      · exact Heap.lt_size s1
      · exact Heap.lt_size s2
      · exact Heap.lt_size s3
      · obtain ⟨_, e, _⟩ := s4
        exact Heap.lt_size e
      · obtain ⟨_, e, _⟩ := s5
        exact Heap.lt_size e
    rw [upd_ne (Nat.ne_of_lt (Nat.lt_of_lt_of_le lt hT))]
    exact (hf m hm).1
  done := by
    intro X hP hw hK hc i pins s σ H E I hf st hg
    subst hP hw hK
    obtain ⟨s1, s2, ⟨x0, y0, s3⟩, s4, s5⟩ := st
    obtain ⟨xs, ys, qx, qy, ei⟩ := hg
    obtain ⟨us, rx, px, _⟩ := I.tuple qx
    obtain ⟨ws, ry, py, _⟩ := I.list qy
    have hd := I.ok.hd hc
    have W := GoesN.zip2 (elts := elts) (x1 := kk) (pos := tpos) S (Draws.tuple (prog := X.prog) (w := X.w) (A := X.A.in1) hd i1 a na us.toArray) (Draws.list (A := X.A.in1) hd i2 b nb ws.toArray)
    have en : i = min us.toArray.size ws.toArray.size := by
      rw [ei, rx.length, ry.length]
      simp
    subst en
    refine W.stops s _ E ⟨s1, s2, ⟨x0, y0, s3⟩, ⟨s4, px⟩, ⟨s5, py.isList⟩⟩ fun h' tk hk htk => ?_
    exact I.turnedL (t' := tk) (ch := [z, c, d, i1, i2]) (fun m o hm q => hk m o (fun q' => hm (by simp only [List.mem_cons, List.not_mem_nil, or_false] at q' ⊢; rcases q' with h | h | h | h <;> simp [h])) q) hf
  self := fun A i s Q E st h => wpAny_pyIter_zip st.1 h
def iZipM (K : PySem.W.Frag) (ta : TA) : TI := fun σ H R => ta σ H fun vs H1 => ∃ a b xs ys, vs = [.ref a, .ref b] ∧ SqT K H1 a xs ∧ SqL K H1 b ys ∧ R (ItzM K a b) H1
theorem pi_zipM {X : Cx} {e e2 : Expr} {ta : TA} {p pos tpos : Pos} {elts : List Expr} {kk : Nat} (hg : Gl X "zip") (hm : X.mg "zip" = none) (ha : PA X [e, e2] ta)
    (hs : starEach [e, e2] X.env = (false, eval e X.env) :: starEach [e2] X.env := by rfl) (hpl : (backTo pos (starEach [e2] X.env)).any (·.1) = false := by rfl) :
    PI X (.Tuple elts kk tpos) (.Call (.Name "zip" p) [e, e2] [] pos) (iZipM X.K ta) := by
  refine ⟨fun pins s σ H R I h => ?_⟩
  refine Call_ (ld_blt I hg hm PyProof.Rows.boot_zip (PyProof.Rows.callWith_type1 (thn (ha.run pos pins s σ H _ I h) fun us s1 ⟨vs, H1, I1, r1, q1⟩ => ?_) hs hpl))
  obtain ⟨a, b, xs, ys, rfl, qx, qy, q⟩ := q1
  cases r1 with
  | cons r rr =>
    cases rr with
    | cons r' rr =>
      cases rr
      cases r
      cases r'
      obtain ⟨its, rx, px, _⟩ := I1.tuple qx
      obtain ⟨jts, ry, py, _⟩ := I1.list qy
      have la : a < s1.heap.objs.size := by
        obtain ⟨o, e, _⟩ := px
        exact Heap.lt_size e
      have lb : b < s1.heap.objs.size := py.lt
      have five : ∀ m ∈ [s1.heap.objs.size + 4, s1.heap.objs.size + 2, s1.heap.objs.size + 3, s1.heap.objs.size, s1.heap.objs.size + 1], FpOk X pins H1 m := fun m hm => by
        have : s1.heap.objs.size ≤ m := by
          simp only [List.mem_cons, List.not_mem_nil, or_false] at hm
          rcases hm with rfl | rfl | rfl | rfl | rfl <;> first | exact Nat.le_add_right _ _ | exact Nat.le_refl _
        exact I1.fpOk this (I1.hok.fresh this)
      refine zip_begins2 (begins_tuple a its.toArray) (begins_list b jts.toArray) px py.isList fun h' z1 z2 z3 o1 o2 _ hk => wpAny_pyIter_zip z1 ?_
      have I2 : Inv X pins σ H1 { s1 with heap := h' } := I1.kept (t' := s1.toks) hk
      refine ⟨s1.heap.objs.size + 4, [s1.heap.objs.size + 4, s1.heap.objs.size + 2, s1.heap.objs.size + 3, s1.heap.objs.size, s1.heap.objs.size + 1], _, _, H1, rfl, I2, turn_zipM (zip_sep2 (N := s1.heap.objs.size) (fp1 := [a]) (fp2 := [b]) (fun m hm => by rw [List.mem_singleton.mp hm]; exact la) (fun m hm => by rw [List.mem_singleton.mp hm]; exact lb)) (Nat.ne_of_lt la) (Nat.ne_of_lt (Nat.lt_succ_of_lt lb)), ⟨z1, z2, ⟨_, _, z3⟩, ⟨_, o1, rfl, rfl⟩, ⟨_, o2, rfl, rfl⟩⟩, five, q⟩
theorem walk_zipM {K : PySem.W.Frag} {a b : Addr} {xs ys : List V} {n : Nat} (hn : n = min xs.length ys.length) : Walk (ItzM K a b) n (fun H => SqT K H a xs ∧ SqL K H b ys) (fun i H v H' => ∃ (T : Addr) (x y : V), v = .ref T ∧ H T = none ∧ H' = upd H T (.tup [x, y]) ∧ xs[i]? = some x ∧ ys[i]? = some y) := by
  subst hn
  refine ⟨fun i _ hi q => ⟨xs, ys, xs[i], ys[i], q.1, q.2, by simp [List.getElem?_eq_getElem], by simp [List.getElem?_eq_getElem]⟩, fun _ q => ⟨xs, ys, q.1, q.2, rfl⟩, fun i H v H' _ q y => ?_⟩
  obtain ⟨T, x, z, e1, e2, e3, e4, e5⟩ := y
  exact ⟨T, x, z, e1, e2, e3, e4 xs q.1, e5 ys q.2⟩
end SL
namespace SV
open PySem PySem.Spec PyProof.Rows L2 SL
section
variable {Z : Zc} {tA : TA} {wA : WA}
def wZipM (wA : WA) : WA := fun ρ post => wA ρ fun us => ∃ xs ys, us = [.tup xs, .lst ys] ∧ post (zipU xs ys)
theorem i_zipM {K : PySem.W.Frag} (h : TrA Z tA wA) : TrI Z (iZipM K tA) (wZipM wA) := fun σ ρ G H S post R hw q => h σ ρ G H _ _ S hw fun vs us G1 H1 w1 g1 h1 => by
  obtain ⟨xs, ys, rfl, p⟩ := w1
  have S1 := S.step g1
  cases h1 with
  | cons r t =>
    cases t with
    | cons r2 t =>
      cases t
      cases r with
      | tup h1 k1 z1 =>
        cases r2 with
        | lst h2 k2 z2 =>
          rename_i a vs b ws
          refine ⟨a, b, _, _, rfl, SqT.of (S1.vw.tup h1), SqL.of (S1.vw.lst h2), q _ _ _ _ _ G1 H1 p g1 (zipU_len _ _) (by omega) (walk_zipM (by rw [k1.length, k2.length])) (fun G' H' s' w' => ⟨SqT.of (w'.tup (s'.gg _ _ h1)), SqL.of (w'.lst (s'.gg _ _ h2))⟩) fun i x G' H' H'' hi s' w' pl y => ?_⟩
          obtain ⟨T, u1, u2, rfl, nT, rfl, y1, y2⟩ := y
          obtain ⟨c1, e1, r1⟩ := k1.get y1
          obtain ⟨c2, e2, r2⟩ := k2.get y2
          obtain ⟨G'', g, r'⟩ := pair_new w' pl nT (r1.same s'.gg) (r2.same s'.gg)
          exact ⟨_, G'', zipU_get e1 e2, g, r'⟩
end
end SV
namespace K06
open PySem PySem.Spec PyProof.Rows L2 SL SV
local macro_rules | `(tactic| ac_rfl) => `(tactic| (repeat first | refine ⟨_, rfl, ?_⟩ | refine ⟨rfl, ?_⟩ | refine iteT ?_ | refine iteF ?_ | refine ⟨trivial, ?_⟩ | refine ⟨Nat.le_of_ble_eq_true rfl, ?_⟩ | refine ⟨_, _, rfl, rfl, ?_⟩ | refine ⟨_, _, rfl, ?_⟩ | refine ⟨_, .inl rfl, ?_⟩ | refine ⟨_, .inr rfl, ?_⟩ | refine .inl ⟨_, rfl, ?_⟩ | refine .inr ⟨_, rfl, ?_⟩ | refine ⟨_, _, .inl rfl, ?_⟩ | refine ⟨_, _, .inr rfl, ?_⟩ | refine ⟨by decide, ?_⟩))
def topS (i : Nat) : Stmt := PySem.Challenge.pw_surelabels_k06_patterns_apart.main.body.getD i (.Pass ⟨0, 0, 0, 0⟩)
abbrev s_LabelError : Stmt := topS 1
abbrev s_BadRow : Stmt := topS 2
abbrev s_BadBook : Stmt := topS 3
abbrev s_NoSign : Stmt := topS 4
abbrev s_is_whole : Stmt := topS 7
abbrev s_is_within : Stmt := topS 8
abbrev s_is_sign : Stmt := topS 9
abbrev s_is_row : Stmt := topS 11
abbrev s_is_row_of : Stmt := topS 12
abbrev s_check_row : Stmt := topS 13
abbrev s_apart : Stmt := topS 14
abbrev s_are_patterns : Stmt := topS 16
abbrev s_check_book : Stmt := topS 17
abbrev s_Book : Stmt := topS 18
abbrev s_least_apart : Stmt := topS 19
abbrev s_nearest : Stmt := topS 20
abbrev s_law_pool : Stmt := topS 22
abbrev s_law_draw : Stmt := topS 23
abbrev s_law_same : Stmt := topS 24
abbrev s_law_signs : Stmt := topS 25
abbrev s_law_row : Stmt := topS 26
abbrev s_law_power : Stmt := topS 27
abbrev s_law_row_of : Stmt := topS 28
abbrev s_law_book_model : Stmt := topS 29
abbrev s_law_drawn_book : Stmt := topS 30
abbrev s_law_book : Stmt := topS 31
abbrev s_law_deep : Stmt := topS 32
abbrev s_law_count : Stmt := topS 33
abbrev s_law_refused : Stmt := topS 34
abbrev s_law : Stmt := topS 35
abbrev s_BadRow_init : Stmt := inClass (topS 2) 0
abbrev s_BadBook_init : Stmt := inClass (topS 3) 0
abbrev s_NoSign_init : Stmt := inClass (topS 4) 0
abbrev s_Book_init : Stmt := inClass (topS 18) 0
abbrev s_Book_patterns : Stmt := inClass (topS 18) 1
abbrev s_Book_pattern : Stmt := inClass (topS 18) 2
abbrev s_Book_all_marks : Stmt := inClass (topS 18) 3
abbrev s_Book_eq : Stmt := inClass (topS 18) 4
/-! ### what the top has written -/
structure MF (P : Program) (w : World) (K : PySem.W.Frag) (mg : Str → Option Value) (cR iR cK iK cB fB pB aB cL : Addr) : Prop where
  m_isinstance : mg "isinstance" = none
  m_int : mg "int" = none
  m_bool : mg "bool" = none
  m_str : mg "str" = none
  m_list : mg "list" = none
  m_tuple : mg "tuple" = none
  m_dict : mg "dict" = none
  m_len : mg "len" = none
  m_all : mg "all" = none
  m_range : mg "range" = none
  m_enumerate : mg "enumerate" = none
  m_zip : mg "zip" = none
  m_sorted : mg "sorted" = none
  m_min : mg "min" = none
  m_set : mg "set" = none
  x_BadRow : PySem.SLX.ExTxt K mg P w "BadRow" "part" "part" (fun v => ∃ (y : Str) (t : Tok), v = .str y t ∧ (reprText y).length ≤ 1000) cR iR
  g_BadRow : mg "BadRow" = some (.ref cR)
  x_BadBook : PySem.SLX.ExTxt K mg P w "BadBook" "part" "part" (fun v => ∃ (y : Str) (t : Tok), v = .str y t ∧ (reprText y).length ≤ 1000) cK iK
  g_BadBook : mg "BadBook" = some (.ref cK)
  g_LabelError : mg "LabelError" = some (.ref cL)
  e_RR : PySem.W.exmOne K (.ref cR) (.ref cR) = some true
  g_SIGNS : ∃ t, mg "SIGNS" = some (.str SG t)
  kinds : ∀ C ∈ [cB], KindC K C
  me_pattern : Meth K cB "pattern" pB
  me_all_marks : Meth K cB "all_marks" aB
  g_Book : mg "Book" = some (.ref cB)
  mk_Book : Mk K cB fB
  cl_Book : Cls K cB
  n_signs : NoAttr K cB "signs"
  n_width : NoAttr K cB "width"
  n_start : NoAttr K cB "start"
  n_stop : NoAttr K cB "stop"
  n__rows : NoAttr K cB "_rows"
  ic_Book : C8.InsC K cB
section
variable {P : Program} {w : World} {K : PySem.W.Frag} {mg : Str → Option Value} {base : Heap} {cR iR cK iK cB fB pB aB cL : Addr} {fdB fdP fdA : FuncData} {f : Addr} {fd : FuncData}
/-! ### is_whole, is_within, is_from, items_of, is_row, check_row -/
theorem sc_is_whole : FnScope ["thing"] ["thing"] (defScope s_is_whole) := ⟨rfl, rfl, rfl, by decide +kernel, rfl, by decide +kernel, by decide +kernel⟩
theorem ok_is_whole (M : MF P w K mg cR iR cK iK cB fB pB aB cL) (F : Fun K "is_whole" "is_whole" s_is_whole f fd) : FnOk P w K mg base CX0 1 f fd ["thing"] (spV false 1 (WWhole [cB])) := by
  refine okV F sc_is_whole rfl (by decide) fun cdv A outer s H E hr => ⟨_, (pss_one (ps_ret (pe_and (pe_callB (call_isiK' K) (by rfl) M.m_isinstance (by decide +kernel) (pa_cons (pv 0) (pa_cons (pe_bltn (v := .ty "int") (by rfl) M.m_int (by decide +kernel) rfl) pa_nil))) (pe_one (pe_not (pe_callB (call_isiK' K) (by rfl) M.m_isinstance (by decide +kernel) (pa_cons (pv 0) (pa_cons (pe_bltn (v := .ty "bool") (by rfl) M.m_bool (by decide +kernel) rfl) pa_nil)))))))), fun Z hb hE hs => ⟨_, (s_ret (v_andV (v_cb (b_isi (T := "int") (cs := [cB]) (hc := M.kinds)) (v_consB (TrE.b v_var) (v_consB (TrE.b v_ty) v_nilB))) (v_notV (v_cb (b_isi (T := "bool") (cs := [cB]) (hc := M.kinds)) (v_consB (TrE.b v_var) (v_consB (TrE.b v_ty) v_nilB)))))), fun us post hl hW => ?_⟩⟩
  obtain ⟨x, rfl, ha, p⟩ := hW
  refine ⟨x, rfl, x, rfl, ha, _, rfl, ?_⟩
  cases x <;> first | exact iteF p | exact iteT ⟨_, rfl, _, rfl, ha, _, rfl, p⟩
theorem sc_is_within : FnScope ["thing", "low", "high"] ["thing", "low", "high"] (defScope s_is_within) := ⟨rfl, rfl, rfl, by decide +kernel, rfl, by decide +kernel, by decide +kernel⟩
theorem ok_is_within (M : MF P w K mg cR iR cK iK cB fB pB aB cL) (F_is_whole : FnC P w K mg base CX0 1 "is_whole" ["thing"] (spV false 1 (WWhole [cB]))) (F : Fun K "is_within" "is_within" s_is_within f fd) : FnOk P w K mg base CX0 2 f fd ["thing", "low", "high"] (spV false 3 (WWithin [cB])) := by
  refine okV F sc_is_within rfl (by decide) fun cdv A outer s H E hr => ⟨_, (pss_one (ps_ret (pe_and (pe_f F_is_whole hr (by omega) pass0 (pa_cons (pv 0) pa_nil)) (pe_one (pe_chain op_le op_le (pv 1) (pv 0) (pv 2)))))), fun Z hb hE hs => ⟨_, (s_ret (v_andV (v_call ple0 (v_cons v_var v_nil)) (v_chain o_IB o_IB (TrE.b v_var) (TrE.b v_var) (TrE.b v_var)))), fun us post hl hW => ?_⟩⟩
  obtain ⟨x, lo, hi, rfl, ha, p⟩ := hW
  refine ⟨x, rfl, rfl, x, rfl, ha, _, rfl, ?_⟩
  cases x <;> first | exact iteF p | skip
  rename_i i
  refine iteT ⟨_, rfl, _, rfl, _, rfl, _, rfl, ?_⟩
  by_cases c : lo ≤ i
  · rw [decide_eq_true c]
    have p' : post (.bl (decide (lo ≤ i) && decide (i ≤ hi))) := p
    rw [decide_eq_true c] at p'
    exact iteT ⟨_, rfl, _, rfl, p'⟩
  · rw [decide_eq_false c]
    have p' : post (.bl (decide (lo ≤ i) && decide (i ≤ hi))) := p
    rw [decide_eq_false c] at p'
    exact iteF p'
theorem sc_is_row : FnScope ["thing", "cell"] ["thing"] (defScope s_is_row) := ⟨rfl, rfl, rfl, by decide +kernel, rfl, by decide +kernel, by decide +kernel⟩
theorem ok_is_row (M : MF P w K mg cR iR cK iK cB fB pB aB cL) (F_is_within : FnC P w K mg base CX0 2 "is_within" ["thing", "low", "high"] (spV false 3 (WWithin [cB]))) (F : Fun K "is_row" "is_row" s_is_row f fd) : FnOk P w K mg base CX0 4 f fd ["thing"] (spV false 1 (WIsRow [cB])) := by
  refine okV (k := 3) F sc_is_row rfl (by decide) fun cdv A outer s H E hr => ⟨_, (pss_one (ps_ret (pe_and (pe_callB (call_isiK' K) (by rfl) M.m_isinstance (by decide +kernel) (pa_cons (pv 0) (pa_cons (pe_bltn (v := .ty "tuple") (by rfl) M.m_tuple (by decide +kernel) rfl) pa_nil))) (pe_one (pe_callB (cr_allK K rfl) (by rfl) M.m_all (by decide +kernel) (pa_cons (pe_lc (own := [("cell", 1)]) (tt := tYes) rfl sc_is_row.nd (pi_seq K (pv 0)) (blkOk_by (N := ["thing", "cell"]) (sc := defScope s_is_row) (by decide +kernel)) (fun _ _ _ _ _ => (pg_name (i := 1) sc_is_row.nd rfl (Or.inl rfl))) (fun _ _ _ _ _ => pts_nil) (fun _ _ _ _ _ => (pe_f F_is_within hr (by omega) pass0 (pa_cons (pv 1) (pa_cons pe_int (pa_cons pe_int pa_nil)))))) pa_nil)))))), fun Z hb hE hs => ⟨_, (s_ret (v_andV (v_cb (b_isi (T := "tuple") (cs := [cB]) (hc := M.kinds)) (v_consB (TrE.b v_var) (v_consB (TrE.b v_ty) v_nilB))) (v_cb b_all (v_consB (TrF.b (v_lc (i_seq v_var) (g_name (by decide)) v_yes (v_call ple0 (v_cons v_var (v_cons v_int (v_cons v_int v_nil)))))) v_nilB)))), fun us post hl hW => ?_⟩⟩
  obtain ⟨x, rfl, ha, ht, p⟩ := hW
  refine ⟨x, rfl, x, rfl, ha, _, rfl, ?_⟩
  cases x <;> first | exact iteF p | skip
  rename_i us
  refine iteT ⟨_, rfl, us, rfl, fun i acc => acc = (us.take i).map fun u => U.bl (withinU 0 1 u), rfl, fun i u acc e h => ?_, fun acc h => ?_⟩
  · refine lcI ⟨u, rfl, rfl, u, 0, 1, rfl, ht u (List.mem_of_getElem? e), map_step (fun u => U.bl (withinU 0 1 u)) h e⟩
  · have h := map_end h
    refine ⟨us.map (withinU 0 1), ?_, ?_⟩
    · rw [h, List.map_map]
      rfl
    · have q : post (.bl (us.all (withinU 0 1))) := p
      rw [List.all_map]
      exact q
theorem sc_check_row : FnScope ["thing", "part"] ["thing", "part"] (defScope s_check_row) := ⟨rfl, rfl, rfl, by decide +kernel, rfl, by decide +kernel, by decide +kernel⟩
theorem ok_check_row (M : MF P w K mg cR iR cK iK cB fB pB aB cL) (F_is_row : FnC P w K mg base CX0 4 "is_row" ["thing"] (spV false 1 (WIsRow [cB]))) (F : Fun K "check_row" "check_row" s_check_row f fd) : FnOk P w K mg base (L2.CX P w) 6 f fd ["thing", "part"] (spV false 2 (WCheckRow [cB] cR)) := by
  refine okVX (k := 5) F sc_check_row rfl (by decide) fun cdv A outer s H E hr => ⟨_, (pss_one (ps_if (pt_not (pt_val (pe_f F_is_row hr (by omega) pass0 (pa_cons (pv 0) pa_nil))))
      (pss_one (ps_raiseEx rfl M.x_BadRow hr (takes_of rfl rfl rfl rfl) (pa_cons (pv 1) pa_nil))) pss_nil)), fun Z hb hE hs => ⟨_, (s_if (v_not (v_tB (v_call ple0 (v_cons v_var v_nil))))
      (s_raise hE (v_cons v_var v_nil)) s_nil), fun us post hl hW => ?_⟩⟩
  obtain ⟨x, s, rfl, ha, ht, hs2, p, e⟩ := hW
  refine ⟨x, rfl, rfl, x, rfl, ha, ht, _, rfl, ?_⟩
  cases c : rowU x with
  | true => exact iteF (p c)
  | false => exact iteT ⟨_, rfl, _, rfl, okMsg_str hs2, e c⟩
end

section
variable {P : Program} {w : World} {K : PySem.W.Frag} {mg : Str → Option Value} {base : Heap} {cR iR cK iK cB fB pB aB cL : Addr} {fdB fdP fdA : FuncData} {f : Addr} {fd : FuncData}
/-! ### is_rising, is_sign -/
theorem sc_is_sign : FnScope ["thing"] ["thing"] (defScope s_is_sign) := ⟨rfl, rfl, rfl, by decide +kernel, rfl, by decide +kernel, by decide +kernel⟩
def WIsSign (cs : List Addr) : Wf := fun us post _ => ∃ x, us = [x] ∧ asks cs x ∧ post (.bl (signU x))
theorem ok_is_sign (M : MF P w K mg cR iR cK iK cB fB pB aB cL) (F : Fun K "is_sign" "is_sign" s_is_sign f fd) : FnOk P w K mg base CX0 1 f fd ["thing"] (spV false 1 (WIsSign [cB])) := by
  obtain ⟨tS, gS⟩ := M.g_SIGNS
  refine okV F sc_is_sign rfl (by decide) fun cdv A outer s H E hr => ⟨_, (pss_one (ps_ret (pe_and (pe_callB (call_isiK' K) (by rfl) M.m_isinstance (by decide +kernel) (pa_cons (pv 0) (pa_cons (pe_bltn (v := .ty "str") (by rfl) M.m_str (by decide +kernel) rfl) pa_nil))) (pe_and (pe_cmpR (op_eqV K hr.units) (pe_callB (call_lenV K) (by rfl) M.m_len PySem.boot_len (pa_cons (pv 0) pa_nil)) pe_int (nomark _)) (pe_one (pe_cmpR (op_inV K) (pv 0) (pe_glob (v := .str SG) rfl gS ⟨_, rfl⟩) (by rfl))))))), fun Z hb hE hs => ⟨_, (s_ret (v_andV (v_cb (b_isi (T := "str") (cs := [cB]) (hc := M.kinds)) (v_consB (TrE.b v_var) (v_consB (TrE.b v_ty) v_nilB))) (v_andV (v_op o_eq (TrE.b (v_cb b_len (v_consB (TrE.b v_var) v_nilB))) (TrE.b v_int)) (v_op o_in (TrE.b v_var) (TrE.b (v_str (by decide +kernel))))))), fun us post hl hW => ?_⟩⟩
  obtain ⟨x, rfl, ha, p⟩ := hW
  cases x with
  | str s =>
    refine ⟨_, rfl, _, rfl, trivial, true, rfl, iteT ⟨_, rfl, _, s.length, rfl, rfl, _, fEq_int _ _, _, rfl, ?_⟩⟩
    by_cases c : s.length = 1
    · rw [decide_eq_true (by omega)]
      refine iteT ⟨_, rfl, _, rfl, ?_⟩
      have p' : post (.bl (decide (s.length = 1) && strIn s SG)) := p
      rw [decide_eq_true c] at p'
      exact p'
    · rw [decide_eq_false (by omega)]
      refine iteF ?_
      have p' : post (.bl (decide (s.length = 1) && strIn s SG)) := p
      rw [decide_eq_false c] at p'
      exact p'
  | non => exact ⟨_, rfl, _, rfl, ha, false, rfl, iteF p⟩
  | bl _ => exact ⟨_, rfl, _, rfl, ha, false, rfl, iteF p⟩
  | int _ => exact ⟨_, rfl, _, rfl, ha, false, rfl, iteF p⟩
  | lst _ => exact ⟨_, rfl, _, rfl, ha, false, rfl, iteF p⟩
  | tup _ => exact ⟨_, rfl, _, rfl, ha, false, rfl, iteF p⟩
  | dic _ => exact ⟨_, rfl, _, rfl, ha, false, rfl, iteF p⟩
  | dit _ => exact ⟨_, rfl, _, rfl, ha, false, rfl, iteF p⟩
  | ins _ _ => exact ⟨_, rfl, _, rfl, ha, false, rfl, iteF p⟩
  | pool => exact ha.elim
  | ty _ => exact ha.elim
end

end K06
namespace K06
open PySem PySem.Spec PyProof.Rows L2 SL SV
local macro_rules | `(tactic| ac_rfl) => `(tactic| (repeat first | refine ⟨_, rfl, ?_⟩ | refine ⟨rfl, ?_⟩ | refine iteT ?_ | refine iteF ?_ | refine ⟨trivial, ?_⟩ | refine ⟨Nat.le_of_ble_eq_true rfl, ?_⟩ | refine ⟨_, _, rfl, rfl, ?_⟩ | refine ⟨_, _, rfl, ?_⟩ | refine ⟨_, .inl rfl, ?_⟩ | refine ⟨_, .inr rfl, ?_⟩ | refine .inl ⟨_, rfl, ?_⟩ | refine .inr ⟨_, rfl, ?_⟩ | refine ⟨_, _, .inl rfl, ?_⟩ | refine ⟨_, _, .inr rfl, ?_⟩ | refine ⟨by decide, ?_⟩))
section
variable {P : Program} {w : World} {K : PySem.W.Frag} {mg : Str → Option Value} {base : Heap} {cR iR cK iK cB fB pB aB cL : Addr} {fdB fdP fdA : FuncData} {f : Addr} {fd : FuncData}
/-! ### is_row_of, apart -/
def rowOfU (n : Int) : U → Bool
  | .tup us => us.all (withinU 0 1) && decide ((us.length : Int) = n)
  | _ => false
theorem sc_is_row_of : FnScope ["thing", "length"] ["thing", "length"] (defScope s_is_row_of) := ⟨rfl, rfl, rfl, by decide +kernel, rfl, by decide +kernel, by decide +kernel⟩
def WRowOf (cs : List Addr) : Wf := fun us post _ => ∃ x n, us = [x, .int n] ∧ asks cs x ∧ asksT cs x ∧ post (.bl (rowOfU n x))
theorem ok_is_row_of (M : MF P w K mg cR iR cK iK cB fB pB aB cL) (F_is_row : FnC P w K mg base CX0 4 "is_row" ["thing"] (spV false 1 (WIsRow [cB]))) (F : Fun K "is_row_of" "is_row_of" s_is_row_of f fd) : FnOk P w K mg base CX0 5 f fd ["thing", "length"] (spV false 2 (WRowOf [cB])) := by
  refine okV (k := 4) F sc_is_row_of rfl (by decide) fun cdv A outer s H E hr => ⟨_, (pss_one (ps_ret (pe_and (pe_f F_is_row hr (by omega) pass0 (pa_cons (pv 0) pa_nil)) (pe_one (pe_cmpR (op_eqV K hr.units) (pe_callB (call_lenV K) (by rfl) M.m_len PySem.boot_len (pa_cons (pv 0) pa_nil)) (pv 1) (nomark _)))))), fun Z hb hE hs => ⟨_, (s_ret (v_andV (v_call ple0 (v_cons v_var v_nil)) (v_op o_eq (TrE.b (v_cb b_len (v_consB (TrE.b v_var) v_nilB))) (TrE.b v_var)))), fun us post hl hW => ?_⟩⟩
  obtain ⟨x, n, rfl, ha, ht, p⟩ := hW
  refine ⟨_, rfl, rfl, x, rfl, ha, ht, ?_⟩
  cases x <;> first | exact ⟨_, rfl, iteF p⟩ | skip
  rename_i us
  refine ⟨us.all (withinU 0 1), rfl, ?_⟩
  have p' : post (.bl (us.all (withinU 0 1) && decide ((us.length : Int) = n))) := p
  cases c : us.all (withinU 0 1) with
  | false =>
    rw [c] at p'
    exact iteF p'
  | true =>
    rw [c] at p'
    exact iteT ⟨_, rfl, _, us.length, rfl, rfl, _, rfl, _, fEq_int _ _, p'⟩
/-! ### rows apart -/
def dist (a b : List Int) : Nat := ((a.zip b).filter fun p => decide (p.1 ≠ p.2)).length
theorem bits_row {ns : List Int} (h : bits ns) : rowU (rowV ns) = true := by
  rw [rowU_ints]
  refine List.all_eq_true.mpr fun c hc => ?_
  rcases h c hc with rfl | rfl <;> rfl
theorem zip_at {a b : List Int} {i : Nat} {u : U} (e : (zipU (a.map U.int) (b.map U.int))[i]? = some u) : ∃ p, (a.zip b)[i]? = some p ∧ u = .tup [.int p.1, .int p.2] := by
  unfold zipU at e
  rw [List.zip_map, List.map_map, List.getElem?_map] at e
  cases q : (a.zip b)[i]? with
  | none => rw [q] at e; cases e
  | some p =>
    rw [q] at e
    cases e
    exact ⟨p, rfl, rfl⟩
theorem fm_take {α : Type} (f : α → Bool) {l : List α} {i : Nat} {x : α} (e : l[i]? = some x) : (l.take (i + 1)).filter f = (l.take i).filter f ++ (if f x = true then [x] else []) := by
  rw [take_more e, List.filter_append]
  congr 1
  cases c : f x with
  | true => rw [List.filter_cons_of_pos c]; rfl
  | false => rw [List.filter_cons_of_neg (by rw [c]; exact Bool.false_ne_true)]; rfl
theorem sc_apart : FnScope ["one", "other", "cell", "beside"] ["one", "other"] (defScope s_apart) := ⟨rfl, rfl, rfl, by decide +kernel, rfl, by decide +kernel, by decide +kernel⟩
def WApart : Wf := fun us post _ => ∃ a b, us = [rowV a, rowV b] ∧ bits a ∧ bits b ∧ a.length = b.length ∧ post (.int (dist a b : Nat))
theorem ok_apart (M : MF P w K mg cR iR cK iK cB fB pB aB cL) (F_check_row : FnC P w K mg base (L2.CX P w) 6 "check_row" ["thing", "part"] (spV false 2 (WCheckRow [cB] cR))) (F : Fun K "apart" "apart" s_apart f fd) : FnOk P w K mg base (L2.CX P w) 7 f fd ["one", "other"] (spV false 2 WApart) := by
  refine okVX (k := 6) F sc_apart rfl (by decide) fun cdv A outer s H E hr => ⟨_, (pss_cons (ps_expr (pe_f F_check_row hr (by omega) (passes_call (takes_of rfl rfl rfl rfl) (fun _ _ _ _ h => h)) (pa_cons (pv 0) (pa_cons pe_str pa_nil))))
      (pss_cons (ps_expr (pe_f F_check_row hr (by omega) (passes_call (takes_of rfl rfl rfl rfl) (fun _ _ _ _ h => h)) (pa_cons (pv 1) (pa_cons pe_str pa_nil))))
      (pss_cons (ps_if (pt_cmpR (op_neV K hr.units) (pe_callB (call_lenV K) (by rfl) M.m_len PySem.boot_len (pa_cons (pv 0) pa_nil)) (pe_callB (call_lenV K) (by rfl) M.m_len PySem.boot_len (pa_cons (pv 1) pa_nil)) (nomark _))
      (pss_one (ps_raiseEx rfl M.x_BadRow hr (takes_of rfl rfl rfl rfl) (pa_cons pe_str pa_nil))) pss_nil)
      (pss_one (ps_ret (pe_callB (call_lenV K) (by rfl) M.m_len PySem.boot_len (pa_cons (pe_lc (own := [("cell", 2), ("beside", 3)]) rfl sc_apart.nd (RZ.pi_zipA (by rfl) M.m_zip (pa_cons (pv 0) (pa_cons (pv 1) pa_nil))) (blkOk_by (N := ["one", "other", "cell", "beside"]) (sc := defScope s_apart) (by decide +kernel)) (fun _ _ _ _ _ => (pg_tupK (n := 2) K rfl (pgs_cons (pg_name (i := 2) sc_apart.nd rfl (Or.inl rfl)) (pgs_cons (pg_name (i := 3) sc_apart.nd rfl (Or.inl rfl)) pgs_nil)))) (fun _ _ _ _ _ => (pts_one (pt_cmpR (op_neV K hr.units) (pv 2) (pv 3) (nomark _)))) (fun _ _ _ _ _ => pe_int)) pa_nil))))))), fun Z hb hE hs => ⟨_, (s_seq (s_drop (TrE.b (v_callX hE ple0 (v_cons v_var (v_cons v_str v_nil)))))
      (s_seq (s_drop (TrE.b (v_callX hE ple0 (v_cons v_var (v_cons v_str v_nil)))))
      (s_seq (s_if (v_test (v_op o_ne (TrE.b (v_cb b_len (v_consB (TrE.b v_var) v_nilB))) (TrE.b (v_cb b_len (v_consB (TrE.b v_var) v_nilB)))))
      (s_raise hE (v_cons v_str v_nil)) s_nil)
      (s_ret (v_cb b_len (v_consB (TrF.b (v_lc (i_zip (v_cons v_var (v_cons v_var v_nil))) (g_tup (gs_cons (g_name (by decide)) (gs_cons (g_name (by decide)) gs_nil))) (v_test (v_op o_ne (TrE.b v_var) (TrE.b v_var))) v_int)) v_nilB)))))), fun us post hl hW => ?_⟩⟩
  obtain ⟨a, b, rfl, ha, hb', hl2, p⟩ := hW
  have tr : ∀ x : List Int, asksT [cB] (rowV x) := fun x u hu => by
    obtain ⟨i, _, rfl⟩ := List.mem_map.mp hu
    trivial
  ac_rfl
  refine ⟨tr a, by decide +kernel, fun _ => ?_, fun n => absurd n (by rw [bits_row ha]; decide)⟩
  ac_rfl
  refine ⟨tr b, by decide +kernel, fun _ => ?_, fun n => absurd n (by rw [bits_row hb']; decide)⟩
  ac_rfl
  refine iteF_of (by rw [List.length_map, List.length_map, hl2]; simp [PyData.eqv]) ?_
  ac_rfl
  refine ⟨fun i acc => acc = (((a.zip b).take i).filter fun p => decide (p.1 ≠ p.2)).map fun _ => U.int 1, rfl, ?_, ?_⟩
  · rintro i u acc e rfl
    obtain ⟨x, ex, rfl⟩ := zip_at e
    refine ⟨_, rfl, rfl, _, _, rfl, _, _, rfl, rfl, _, rfl, _, rfl, _, fNe_int _ _, _, rfl, ?_⟩
    have et := congrArg (List.map fun _ => U.int 1) (fm_take (fun p : Int × Int => decide (p.1 ≠ p.2)) ex)
    rw [List.map_append] at et
    by_cases c : x.1 = x.2
    · rw [if_neg (by simp [c])] at et
      exact iteF_of (by simp [c]) (et.trans (List.append_nil _)).symm
    · rw [if_pos (by simp [c])] at et
      exact iteT_of (by simp [c]) et.symm
  rintro acc h
  have h : acc = (((a.zip b).take (zipU (a.map U.int) (b.map U.int)).length).filter fun p => decide (p.1 ≠ p.2)).map fun _ => U.int 1 := h
  rw [show (zipU (a.map U.int) (b.map U.int)).length = (a.zip b).length by unfold zipU; rw [List.length_map, List.zip_map, List.length_map], List.take_length] at h
  subst h
  ac_rfl
  rw [List.length_map]
  exact p
/-! ### Book -/
def patU (kv : List (Str × List Int)) : U := .dic (kv.map fun p => (Sum.inr p.1, rowV p.2))
structure BFine (kv : List (Str × List Int)) (st sp : List Int) (w : Nat) : Prop where
  lo : 1 ≤ kv.length
  hi : kv.length ≤ 10
  sg : ∀ p ∈ kv, signU (.str p.1) = true
  sl : ∀ p ∈ kv, p.1.length ≤ 1000
  so : ∀ p ∈ kv, PyData.strOk p.1 = true
  nd : (kv.map (·.1)).Nodup
  rb : ∀ p ∈ kv, bits p.2 ∧ p.2.length = w
  sb : bits st ∧ st.length = w
  pb : bits sp ∧ sp.length = w
  w1 : 1 ≤ w
  w6 : w ≤ 6
  nr : (kv.map (·.2) ++ [st, sp]).Nodup
theorem asksT_row {cs : List Addr} (r : List Int) : asksT cs (rowV r) := fun u hu => by
  obtain ⟨i, _, rfl⟩ := List.mem_map.mp hu
  trivial
theorem keys_at {kv : List (Str × List Int)} {i : Nat} {u : U} (e : ((keysOf (kv.map fun p => ((Sum.inr p.1 : Key), rowV p.2))).map uKey)[i]? = some u) : ∃ p, kv[i]? = some p ∧ u = .str p.1 := by
  unfold keysOf at e
  rw [List.map_map, List.map_map, List.getElem?_map] at e
  cases q : kv[i]? with
  | none => rw [q] at e; cases e
  | some p =>
    rw [q] at e
    cases e
    exact ⟨p, rfl, rfl⟩
theorem vals_at {kv : List (Str × List Int)} {i : Nat} {u : U} (e : ((kv.map fun p => ((Sum.inr p.1 : Key), rowV p.2)).map (·.2))[i]? = some u) : ∃ p, kv[i]? = some p ∧ u = rowV p.2 := by
  rw [List.map_map, List.getElem?_map] at e
  cases q : kv[i]? with
  | none => rw [q] at e; cases e
  | some p =>
    rw [q] at e
    cases e
    exact ⟨p, rfl, rfl⟩
theorem sc_are_patterns : FnScope ["thing", "widths", "sign", "row"] ["thing"] (defScope s_are_patterns) := ⟨rfl, rfl, rfl, by decide +kernel, rfl, by decide +kernel, by decide +kernel⟩
def WArePat : Wf := fun us post _ => ∃ kv st sp w, us = [patU kv] ∧ BFine kv st sp w ∧ post (.bl true)
theorem ok_are_patterns (M : MF P w K mg cR iR cK iK cB fB pB aB cL) (F_is_sign : FnC P w K mg base CX0 1 "is_sign" ["thing"] (spV false 1 (WIsSign [cB]))) (F_is_row : FnC P w K mg base CX0 4 "is_row" ["thing"] (spV false 1 (WIsRow [cB]))) (F : Fun K "_are_patterns" "_are_patterns" s_are_patterns f fd) : FnOk P w K mg base CX0 5 f fd ["thing"] (spV false 1 WArePat) := by
  refine okV (k := 4) F sc_are_patterns rfl (by decide) fun cdv A outer s H E hr => ⟨_, (pss_cons (ps_if (PW.pt (pw_or (pt_not (pt_val (pe_callB (call_isiK' K) (by rfl) M.m_isinstance (by decide +kernel) (pa_cons (pv 0) (pa_cons (pe_bltn (v := .ty "dict") (by rfl) M.m_dict (by decide +kernel) rfl) pa_nil))))) (pw_or1 (pt_not (pt_chain op_le op_le pe_int (pe_callB (call_lenV K) (by rfl) M.m_len PySem.boot_len (pa_cons (pv 0) pa_nil)) pe_int)))))
      (pss_one (ps_ret pe_bl)) pss_nil)
      (pss_cons (ps_if (pt_not (pt_val (pe_callB (cr_allK K rfl) (by rfl) M.m_all (by decide +kernel) (pa_cons (pe_lockU (pe_lc (own := [("sign", 2)]) (tt := tYes) rfl sc_are_patterns.nd (pi_keys (pv 0)) (blkOk_by (N := ["thing", "widths", "sign", "row"]) (sc := defScope s_are_patterns) (by decide +kernel)) (fun _ _ _ _ _ => (pg_name (i := 2) sc_are_patterns.nd rfl (Or.inl rfl))) (fun _ _ _ _ _ => pts_nil) (fun _ _ _ _ _ => (pe_f F_is_sign hr (by omega) pass0 (pa_cons (pv 2) pa_nil))))) pa_nil))))
      (pss_one (ps_ret pe_bl)) pss_nil)
      (pss_cons (ps_if (pt_not (pt_val (pe_callB (cr_allK K rfl) (by rfl) M.m_all (by decide +kernel) (pa_cons (pe_lockU (pe_lc (own := [("row", 3)]) (tt := tYes) rfl sc_are_patterns.nd (pi_values (pv 0)) (blkOk_by (N := ["thing", "widths", "sign", "row"]) (sc := defScope s_are_patterns) (by decide +kernel)) (fun _ _ _ _ _ => (pg_name (i := 3) sc_are_patterns.nd rfl (Or.inl rfl))) (fun _ _ _ _ _ => pts_nil) (fun _ _ _ _ _ => (pe_f F_is_row hr (by omega) pass0 (pa_cons (pv 3) pa_nil))))) pa_nil))))
      (pss_one (ps_ret pe_bl)) pss_nil)
      (pss_cons (ps_set (i := 1) sc_are_patterns.nd rfl (Or.inl rfl) (pe_lockU (pe_callB (cr_sortedSet rfl) (by rfl) M.m_sorted (by decide +kernel) (pa_cons (pe_scI (own := [("row", 3)]) (tt := tYes) rfl sc_are_patterns.nd (pi_values (pv 0)) (blkOk_by (N := ["thing", "widths", "sign", "row"]) (sc := defScope s_are_patterns) (by decide +kernel)) (fun _ _ _ _ _ => (pg_name (i := 3) sc_are_patterns.nd rfl (Or.inl rfl))) (fun _ _ _ _ _ => pts_nil) (fun _ _ _ _ _ => (pe_callB (call_lenV K) (by rfl) M.m_len PySem.boot_len (pa_cons (pv 3) pa_nil)))) pa_nil))))
      (pss_one (ps_ret (pe_and (pe_cmpR (op_eqV K hr.units) (pe_callB (call_lenV K) (by rfl) M.m_len PySem.boot_len (pa_cons (pv 1) pa_nil)) pe_int (nomark _)) (pe_one (pe_chain op_le op_le pe_int (pe_ix (ix_seqK K) (pv 1) pe_int (fun _ _ => rfl)) pe_int))))))))), fun Z hb hE hs => ⟨_, (s_seq (s_if (v_or (v_not (v_tB (v_cb (b_isi (T := "dict") (cs := [cB]) (hc := M.kinds)) (v_consB (TrE.b v_var) (v_consB (TrE.b v_ty) v_nilB))))) (v_not (v_test (v_chain o_IB o_IB (TrE.b v_int) (TrE.b (v_cb b_len (v_consB (TrE.b v_var) v_nilB))) (TrE.b v_int)))))
      (s_ret v_bl) s_nil)
      (s_seq (s_if (v_not (v_tB (v_cb b_all (v_consB (TrF.b (v_lcKeys (g_name (by decide)) v_yes (v_call ple0 (v_cons v_var v_nil)))) v_nilB))))
      (s_ret v_bl) s_nil)
      (s_seq (s_if (v_not (v_tB (v_cb b_all (v_consB (TrF.b (v_lcVals (g_name (by decide)) v_yes (v_call ple0 (v_cons v_var v_nil)))) v_nilB))))
      (s_ret v_bl) s_nil)
      (s_seq (s_set (TrF.e (v_sortScVals (g_name (by decide)) v_yes (v_cb b_len (v_consB (TrE.b v_var) v_nilB)))))
      (s_ret (v_andV (v_op o_eq (TrE.b (v_cb b_len (v_consB (TrE.b v_var) v_nilB))) (TrE.b v_int)) (v_chain o_IB o_IB (TrE.b v_int) (TrE.b (v_op o_ix (TrE.b v_var) (TrE.b v_int))) (TrE.b v_int)))))))), fun us post hl hW => ?_⟩⟩
  obtain ⟨kv, st, sp, w, rfl, B, p⟩ := hW
  ac_rfl
  have l0 : (kv.map fun p => ((Sum.inr p.1 : Key), rowV p.2)).length = kv.length := List.length_map _
  have b1 := B.lo
  have b2 := B.hi
  refine iteT_of (decide_eq_true (by omega)) ?_
  ac_rfl
  refine iteF_of (by rw [l0, decide_eq_true (by omega)]; rfl) ?_
  refine ⟨_, rfl, ?_, ?_⟩
  · intro s hs
    unfold keysOf at hs
    rw [List.map_map] at hs
    obtain ⟨q, hq, e⟩ := List.mem_map.mp hs
    cases e
    have := B.sl q hq
    omega
  refine ⟨fun i acc => acc = (kv.take i).map fun _ => U.bl true, rfl, ?_, ?_⟩
  · rintro i u acc e h
    obtain ⟨q, eq, rfl⟩ := keys_at e
    refine lcI ⟨_, rfl, rfl, _, rfl, trivial, ?_⟩
    rw [B.sg q (List.mem_of_getElem? eq)]
    exact map_step (fun _ => U.bl true) h eq
  rintro acc h
  have h : acc = (kv.take ((keysOf (kv.map fun p => ((Sum.inr p.1 : Key), rowV p.2))).map uKey).length).map fun _ => U.bl true := h
  rw [show ((keysOf (kv.map fun p => ((Sum.inr p.1 : Key), rowV p.2))).map uKey).length = kv.length by rw [List.length_map]; unfold keysOf; rw [List.length_map, l0], List.take_length] at h
  subst h
  refine ⟨kv.map fun _ => true, by rw [List.map_map]; rfl, ?_⟩
  refine ⟨_, rfl, iteF_of (by simp) ?_⟩
  have vl : ((kv.map fun p => ((Sum.inr p.1 : Key), rowV p.2)).map (·.2)).length = kv.length := by rw [List.length_map, l0]
  refine ⟨_, rfl, fun i acc => acc = (kv.take i).map fun _ => U.bl true, rfl, ?_, ?_⟩
  · rintro i u acc e h
    obtain ⟨q, eq, rfl⟩ := vals_at e
    refine lcI ⟨_, rfl, rfl, _, rfl, trivial, asksT_row _, ?_⟩
    rw [bits_row (B.rb q (List.mem_of_getElem? eq)).1]
    exact map_step (fun _ => U.bl true) h eq
  rintro acc h
  rw [vl, List.take_length] at h
  subst h
  refine ⟨kv.map fun _ => true, by rw [List.map_map]; rfl, ?_⟩
  refine ⟨_, rfl, iteF_of (by simp) ?_⟩
  refine ⟨_, rfl, by rw [vl]; omega, fun i acc => acc = List.replicate i (w : Int), rfl, ?_, ?_⟩
  · rintro i u acc e rfl
    obtain ⟨q, eq, rfl⟩ := vals_at e
    refine lcI ⟨_, rfl, _, _, rfl, rfl, w, ?_, (List.replicate_succ' ..).symm⟩
    show U.int ((q.2.map U.int).length : Nat) = _
    rw [List.length_map, (B.rb q (List.mem_of_getElem? eq)).2]
  rintro acc rfl ns up mem
  obtain rfl : ns = [(w : Int)] := by
    have m0 : (w : Int) ∈ ns := (mem w).mpr (List.mem_replicate.mpr ⟨by rw [vl]; omega, rfl⟩)
    have ma : ∀ x ∈ ns, x = (w : Int) := fun x hx => (List.mem_replicate.mp ((mem x).mp hx)).2
    match ns, up, m0, ma with
    | [x], _, _, ma => rw [ma x List.mem_cons_self]
    | x :: y :: r, up, _, ma =>
      have h1 := ma x List.mem_cons_self
      have h2 := ma y (List.mem_cons_of_mem _ List.mem_cons_self)
      have := (List.pairwise_cons.mp up).1 y List.mem_cons_self
      omega
  have w1 := B.w1
  have w6 := B.w6
  ac_rfl
  refine iteT_of (decide_eq_true (by omega)) ?_
  ac_rfl
  show post (.bl (decide ((w : Int) ≤ 6)))
  rw [decide_eq_true (by omega)]
  exact p
theorem rowOf_bits {r : List Int} {w : Nat} (h : bits r) (l : r.length = w) : rowOfU (w : Int) (rowV r) = true := by
  show ((r.map U.int).all (withinU 0 1) && decide (((r.map U.int).length : Int) = w)) = true
  rw [List.length_map, l, decide_eq_true rfl, Bool.and_true]
  exact bits_row h
theorem sc_check_book : FnScope ["patterns", "start", "stop", "rows", "width"] ["patterns", "start", "stop"] (defScope s_check_book) := ⟨rfl, rfl, rfl, by decide +kernel, rfl, by decide +kernel, by decide +kernel⟩
def WChkBook : Wf := fun us post _ => ∃ kv st sp w, us = [patU kv, rowV st, rowV sp] ∧ BFine kv st sp w ∧ post .non
theorem ok_check_book (M : MF P w K mg cR iR cK iK cB fB pB aB cL) (F_are_patterns : FnC P w K mg base CX0 5 "_are_patterns" ["thing"] (spV false 1 WArePat)) (F_is_row_of : FnC P w K mg base CX0 5 "is_row_of" ["thing", "length"] (spV false 2 (WRowOf [cB]))) (F : Fun K "_check_book" "_check_book" s_check_book f fd) : FnOk P w K mg base (L2.CX P w) 7 f fd ["patterns", "start", "stop"] (spV false 3 WChkBook) := by
  refine okVX (k := 6) F sc_check_book rfl (by decide) fun cdv A outer s H E hr => ⟨_, (pss_cons (ps_if (pt_not (pt_val (pe_f F_are_patterns hr (by omega) pass0 (pa_cons (pv 0) pa_nil))))
      (pss_one (ps_raiseEx rfl M.x_BadBook hr (takes_of rfl rfl rfl rfl) (pa_cons pe_str pa_nil))) pss_nil)
      (pss_cons (ps_set (i := 3) sc_check_book.nd rfl (Or.inl rfl) (pe_listVals rfl (by rfl) M.m_list (pv 0)))
      (pss_cons (ps_set (i := 4) sc_check_book.nd rfl (Or.inl rfl) (pe_callB (call_lenV K) (by rfl) M.m_len PySem.boot_len (pa_cons (pe_ix (ix_seqK K) (pv 3) pe_int (fun _ _ => rfl)) pa_nil)))
      (pss_cons (ps_if (pt_not (pt_val (pe_f F_is_row_of hr (by omega) pass0 (pa_cons (pv 1) (pa_cons (pv 4) pa_nil)))))
      (pss_one (ps_raiseEx rfl M.x_BadBook hr (takes_of rfl rfl rfl rfl) (pa_cons pe_str pa_nil))) pss_nil)
      (pss_cons (ps_if (pt_not (pt_val (pe_f F_is_row_of hr (by omega) pass0 (pa_cons (pv 2) (pa_cons (pv 4) pa_nil)))))
      (pss_one (ps_raiseEx rfl M.x_BadBook hr (takes_of rfl rfl rfl rfl) (pa_cons pe_str pa_nil))) pss_nil)
      (pss_one (ps_if (pt_cmpR (op_neV K hr.units) (pe_callB (cr_lenTK K) (by rfl) M.m_len PySem.boot_len (pa_cons (pe_callTy (cr_setOfTK K hr.units) (by rfl) M.m_set (by decide +kernel) (pa_cons (pe_op op_cat (pv 3) (pe_lst (pa_cons (pv 1) (pa_cons (pv 2) pa_nil)))) pa_nil)) pa_nil)) (pe_op (op_addU K) (pe_callB (call_lenV K) (by rfl) M.m_len PySem.boot_len (pa_cons (pv 3) pa_nil)) pe_int) (nomark _))
      (pss_one (ps_raiseEx rfl M.x_BadBook hr (takes_of rfl rfl rfl rfl) (pa_cons pe_str pa_nil))) pss_nil))))))), fun Z hb hE hs => ⟨_, (s_seq (s_if (v_not (v_tB (v_call ple0 (v_cons v_var v_nil))))
      (s_raise hE (v_cons v_str v_nil)) s_nil)
      (s_seq (s_set (TrF.e (v_listVals (TrE.b v_var))))
      (s_seq (s_set (v_cb b_len (v_consB (TrE.b (v_op o_ix (TrE.b v_var) (TrE.b v_int))) v_nilB)))
      (s_seq (s_if (v_not (v_tB (v_call ple0 (v_cons v_var (v_cons v_var v_nil)))))
      (s_raise hE (v_cons v_str v_nil)) s_nil)
      (s_seq (s_if (v_not (v_tB (v_call ple0 (v_cons v_var (v_cons v_var v_nil)))))
      (s_raise hE (v_cons v_str v_nil)) s_nil)
      (s_if (v_test (v_op o_ne (TrE.b (v_lenSet (TrF.b (v_opF o_catL (TrE.b v_var) (TrF.b (v_lst (v_cons v_var (v_cons v_var v_nil)))))))) (TrE.b (v_op o_add (TrE.b (v_cb b_len (v_consB (TrE.b v_var) v_nilB))) (TrE.b v_int)))))
      (s_raise hE (v_cons v_str v_nil)) s_nil)))))), fun us post hl hW => ?_⟩⟩
  obtain ⟨kv, st, sp, w, rfl, B, p⟩ := hW
  ac_rfl
  refine ⟨kv, st, sp, w, rfl, B, ?_⟩
  ac_rfl
  have ev : (kv.map fun p => ((Sum.inr p.1 : Key), rowV p.2)).map (·.2) = (kv.map (·.2)).map rowV := by rw [List.map_map, List.map_map]; rfl
  rw [ev]
  obtain ⟨q0, kr, rfl⟩ : ∃ q0 kr, kv = q0 :: kr := by
    match kv, B.lo with
    | q :: r, _ => exact ⟨q, r, rfl⟩
  have l0 := (B.rb q0 List.mem_cons_self).2
  refine ⟨rowV q0.2, atI_int (xs := List.map rowV (List.map (fun x : Str × List Int => x.snd) (q0 :: kr))) (Int.le_refl 0) rfl, ?_⟩
  refine ⟨_, w, rfl, congrArg some ((List.length_map _).trans l0), ?_⟩
  ac_rfl
  refine ⟨asksT_row _, ?_⟩
  rw [rowOf_bits B.sb.1 B.sb.2]
  ac_rfl
  refine ⟨asksT_row _, ?_⟩
  rw [rowOf_bits B.pb.1 B.pb.2]
  ac_rfl
  have hi := B.hi
  refine ⟨_, if_pos (by rw [List.length_map, List.length_map]; show _ + 2 ≤ 100000; omega), ?_⟩
  refine ⟨(q0 :: kr).map (·.2) ++ [st, sp], by rw [List.map_append]; rfl, by rw [List.length_append, List.length_map]; show _ + 2 < 64; omega, fun L nd mem => ?_⟩
  have lL : L.length = (q0 :: kr).length + 2 := by
    rw [((List.perm_ext_iff_of_nodup nd B.nr).mpr mem).length_eq, List.length_append, List.length_map]
    rfl
  refine ⟨_, rfl, _, _, rfl, congrArg some ((List.length_map _).trans (List.length_map _)), _, rfl, ?_⟩
  refine ⟨_, fNe_int _ _, _, rfl, iteF_of ?_ p⟩
  rw [lL, decide_eq_true (by omega)]
  rfl
def bookV (cB : Addr) (kv : List (Str × List Int)) (st sp : List Int) : U := .ins cB [("signs", .tup (kv.map fun p => U.str p.1)), ("width", .int (st.length : Nat)), ("start", rowV st), ("stop", rowV sp), ("_rows", patU kv)]
/-- what a sign stands for -/
def rowFor (kv : List (Str × List Int)) (s : Str) : List Int := ((kv.find? fun p => p.1 = s).map (·.2)).getD []
theorem rowFor_of {kv : List (Str × List Int)} (nd : (kv.map (·.1)).Nodup) {p : Str × List Int} (h : p ∈ kv) : rowFor kv p.1 = p.2 := by
  unfold rowFor
  induction kv with
  | nil => cases h
  | cons x r ih =>
    rw [List.map_cons, List.nodup_cons] at nd
    rw [List.find?_cons]
    rcases List.mem_cons.mp h with rfl | h
    · simp
    · have : x.1 ≠ p.1 := fun e => nd.1 (by rw [e]; exact List.mem_map.mpr ⟨p, h, rfl⟩)
      simp only [this, decide_false]
      exact ih nd.2 h
theorem pat_val {kv : List (Str × List Int)} (nd : (kv.map (·.1)).Nodup) {p : Str × List Int} (h : p ∈ kv) : valU (kv.map fun p => ((Sum.inr p.1 : Key), rowV p.2)) (Sum.inr p.1) = some (rowV p.2) := by
  induction kv with
  | nil => cases h
  | cons x r ih =>
    rw [List.map_cons, List.nodup_cons] at nd
    rw [List.map_cons]
    rcases List.mem_cons.mp h with rfl | h
    · exact valU_pos rfl
    · have : x.1 ≠ p.1 := fun e => nd.1 (by rw [e]; exact List.mem_map.mpr ⟨p, h, rfl⟩)
      rw [valU_neg fun z => this (Sum.inr.inj z)]
      exact ih nd.2 h
theorem sc_Book_init : FnScope ["self", "patterns", "start", "stop", "sign"] ["self", "patterns", "start", "stop"] (defScope s_Book_init) := ⟨rfl, rfl, rfl, by decide +kernel, rfl, by decide +kernel, by decide +kernel⟩
def WBook (cB : Addr) : Wf := fun us post _ => ∃ kv st sp w, us = [patU kv, rowV st, rowV sp] ∧ BFine kv st sp w ∧ ∀ ys : List Str, ys.Perm (kv.map (·.1)) → sortedS ys = true → post (bookV cB (ys.map fun s => (s, rowFor kv s)) st sp)
theorem ok_Book_init (M : MF P w K mg cR iR cK iK cB fB pB aB cL) (F_check_book : FnC P w K mg base (L2.CX P w) 7 "_check_book" ["patterns", "start", "stop"] (spV false 3 WChkBook)) (F : Fun K "__init__" "Book.__init__" s_Book_init f fd) : FnOk P w K mg base (L2.CX P w) 8 f fd ["self", "patterns", "start", "stop"] (spI cB false 3 (WBook cB)) := by
  refine okIX (k := 7) F sc_Book_init rfl (by decide) fun cdv A outer s H E hr => ⟨_, (pss_cons (ps_expr (pe_f F_check_book hr (by omega) (passes_call (takes_of rfl rfl rfl rfl) (fun _ _ _ _ h => h)) (pa_cons (pv 1) (pa_cons (pv 2) (pa_cons (pv 3) pa_nil)))))
      (pss_cons (ps_fld (pv 0) (pe_callTy (call_tupleK K) (by rfl) M.m_tuple (by decide +kernel) (pa_cons (pe_callB (cr_sortDK rfl) (by rfl) M.m_sorted (by decide +kernel) (pa_cons (pv 1) pa_nil)) pa_nil)) rfl)
      (pss_cons (ps_fld (pv 0) (pe_callB (call_lenV K) (by rfl) M.m_len PySem.boot_len (pa_cons (pv 2) pa_nil)) rfl)
      (pss_cons (ps_fld (pv 0) (pv 2) rfl)
      (pss_cons (ps_fld (pv 0) (pv 3) rfl)
      (pss_one (ps_fld (pv 0) (pe_dc (own := [("sign", 4)]) (tt := tYes) rfl sc_Book_init.nd (pi_seq K (pe_fldK K (pv 0) rfl)) (blkOk_by (N := ["self", "patterns", "start", "stop", "sign"]) (sc := defScope s_Book_init) (by decide +kernel)) (fun _ _ _ _ _ => (pg_name (i := 4) sc_Book_init.nd rfl (Or.inl rfl))) (fun _ _ _ _ _ => pts_nil) (fun _ _ _ _ _ => (pv 4)) (fun _ _ _ _ _ => (pe_dget (hu_of hr) (pv 1) (pv 4) (fun _ _ => rfl)))) rfl))))))), fun Z hb hE hs => ⟨_, (s_seq (s_drop (TrE.b (v_callX hE ple0 (v_cons v_var (v_cons v_var (v_cons v_var v_nil))))))
      (s_seq (s_fld (v_cb b_tuple (v_consB (TrF.b (v_cbF b_sortD (v_consB (TrE.b v_var) v_nilB))) v_nilB)))
      (s_seq (s_fld (v_cb b_len (v_consB (TrE.b v_var) v_nilB)))
      (s_seq (s_fld v_var)
      (s_seq (s_fld v_var)
      (s_fld (TrF.e (v_dc (i_seq (v_fld v_own)) (g_name (by decide)) v_yes v_var (v_dget (TrE.b v_var) v_var))))))))), fun us post hl hW => ?_⟩⟩
  obtain ⟨kv, st, sp, w, rfl, B, p⟩ := hW
  ac_rfl
  refine ⟨kv, st, sp, w, rfl, B, ?_⟩
  have hi := B.hi
  refine ⟨cB, _, rfl, M.cl_Book, M.n_signs, by show (0 : Nat) < 1000; decide, ?_⟩
  have ek : keysOf (kv.map fun p => ((Sum.inr p.1 : Key), rowV p.2)) = (kv.map (·.1)).map Sum.inr := by
    unfold keysOf
    rw [List.map_map, List.map_map]
    rfl
  refine ⟨_, rfl, _, kv.map (·.1), rfl, ek, by rw [List.length_map]; omega, fun s hs => ?_, fun ys pm so => ?_⟩
  · obtain ⟨q, hq, rfl⟩ := List.mem_map.mp hs
    have := B.sl q hq
    omega
  have p := p ys pm so
  ac_rfl
  refine ⟨M.cl_Book, M.n_width, by show (1 : Nat) < 1000; decide, ?_⟩
  refine ⟨_, rfl, _, st.length, rfl, congrArg some (List.length_map _), ?_⟩
  ac_rfl
  refine ⟨M.cl_Book, M.n_start, by show (2 : Nat) < 1000; decide, ?_⟩
  ac_rfl
  refine ⟨M.cl_Book, M.n_stop, by show (3 : Nat) < 1000; decide, ?_⟩
  ac_rfl
  refine ⟨M.cl_Book, M.n__rows, by show (4 : Nat) < 1000; decide, ?_⟩
  ac_rfl
  refine ⟨cB, _, _, rfl, M.cl_Book, M.n_signs, rfl, ?_⟩
  ac_rfl
  have nd : ys.Nodup := (pm.nodup_iff).mpr B.nd
  refine ⟨fun i acc => acc = (ys.take i).map fun s => ((Sum.inr s : Key), rowV (rowFor kv s)), rfl, ?_, ?_⟩
  · rintro i u acc e rfl
    rw [List.getElem?_map] at e
    cases es : ys[i]? with
    | none => rw [es] at e; cases e
    | some s =>
      rw [es] at e
      cases e
      obtain ⟨q, hq, rfl⟩ := List.mem_map.mp (pm.mem_iff.mp (List.mem_of_getElem? es))
      refine lcI ⟨_, rfl, _, rfl, _, rfl, _, (?_ : lookU _ _ = some (some (rowV q.2))), ?_⟩
      · show some (valU (kv.map fun p => ((Sum.inr p.1 : Key), rowV p.2)) (Sum.inr q.1)) = _
        rw [pat_val B.nd hq]
      have nin : q.1 ∉ ys.take i := fun z => by
        obtain ⟨j, hj⟩ := List.mem_iff_getElem?.mp z
        rw [List.getElem?_take] at hj
        split at hj
        · rename_i ji
          have il := (List.getElem?_eq_some_iff.mp es).1
          have := (List.getElem?_inj (by omega) nd).mp (hj.trans es.symm)
          omega
        · cases hj
      ac_rfl
      show putU _ _ _ = _
      rw [← rowFor_of B.nd hq]
      exact (put_map (pk := fun s : Str => (Sum.inr s : Key)) (fun x y e => Sum.inr.inj e) (fun s => rowV (rowFor kv s)) nin).trans (by rw [← take_more es])
  rintro acc h
  have p' : post (.ins cB [("signs", .tup (ys.map U.str)), ("width", .int (st.length : Nat)), ("start", rowV st), ("stop", rowV sp), ("_rows", .dic (ys.map fun s => ((Sum.inr s : Key), rowV (rowFor kv s))))]) := by
    unfold bookV patU at p
    rw [List.map_map, List.map_map] at p
    exact p
  rw [List.length_map, List.take_length] at h
  subst h
  exact ⟨_, rfl, p'⟩
/-! ### pattern, all_marks -/
structure BookOk (kv : List (Str × List Int)) (st sp : List Int) (w : Nat) : Prop where
  nd : (kv.map (·.1)).Nodup
  sg : ∀ p ∈ kv, signU (.str p.1) = true
  so : ∀ p ∈ kv, PyData.strOk p.1 = true
  rb : ∀ p ∈ kv, bits p.2 ∧ p.2.length = w
  sb : bits st ∧ st.length = w
  pb : bits sp ∧ sp.length = w
  lo : 1 ≤ kv.length
  hi : kv.length ≤ 10
  w6 : w ≤ 6
/-- the marks and their rows -/
def marksB (kv : List (Str × List Int)) (st sp : List Int) : List (Str × List Int) := kv ++ [(("start" : Str), st), (("stop" : Str), sp)]
theorem fEq_str {s t : Str} (hs : PyData.strOk s = true) (ht : PyData.strOk t = true) : fEq (.str s) (.str t) = some (.bl (decide (s = t))) := by
  obtain ⟨c, e, k⟩ := eqU_nice (n := 0) (m := 0) (x := .str s) (y := .str t) (by decide) (by decide) hs ht
  unfold fEq
  rw [e]
  have : c = decide (s = t) := by
    rw [Bool.eq_iff_iff, decide_eq_true_eq, k]
    exact ⟨fun z => U.str.inj z, fun z => by rw [z]⟩
  rw [this]
  rfl
theorem sign_no5 {s : Str} (h : signU (.str s) = true) : s ≠ "start" ∧ s ≠ "stop" := by
  have : s.length = 1 := of_decide_eq_true ((Bool.and_eq_true _ _).mp h).1
  exact ⟨fun e => by rw [e] at this; exact absurd this (by decide +kernel), fun e => by rw [e] at this; exact absurd this (by decide +kernel)⟩
theorem sc_Book_pattern : FnScope ["self", "mark"] ["self", "mark"] (defScope s_Book_pattern) := ⟨rfl, rfl, rfl, by decide +kernel, rfl, by decide +kernel, by decide +kernel⟩
def WPattern (cB : Addr) : Wf := fun us post _ => ∃ kv st sp w p, us = [bookV cB kv st sp, .str p.1] ∧ BookOk kv st sp w ∧ p ∈ marksB kv st sp ∧ post (rowV p.2)
theorem ok_Book_pattern (M : MF P w K mg cR iR cK iK cB fB pB aB cL) (F : Fun K "pattern" "Book.pattern" s_Book_pattern f fd) : FnOk P w K mg base CX0 1 f fd ["self", "mark"] (spV false 2 (WPattern cB)) := by
  refine okV (k := 0) F sc_Book_pattern rfl (by decide) fun cdv A outer s H E hr => ⟨_, (pss_cons (ps_if (pt_val (pe_callB (call_isiK' K) (by rfl) M.m_isinstance (by decide +kernel) (pa_cons (pv 1) (pa_cons (pe_bltn (v := .ty "str") (by rfl) M.m_str (by decide +kernel) rfl) pa_nil))))
      (pss_cons (ps_if (pt_cmpR (op_eqV K hr.units) (pv 1) pe_str (nomark _))
      (pss_one (ps_ret (pe_fldK K (pv 0) rfl))) pss_nil)
      (pss_cons (ps_if (pt_cmpR (op_eqV K hr.units) (pv 1) pe_str (nomark _))
      (pss_one (ps_ret (pe_fldK K (pv 0) rfl))) pss_nil)
      (pss_one (ps_if (pt_cmp (pc_din (hu_of hr) (pv 1) (pe_fldK K (pv 0) rfl)) rfl)
      (pss_one (ps_ret (pe_dget (hu_of hr) (pe_fldK K (pv 0) rfl) (pv 1) (fun _ _ => rfl)))) pss_nil)))) pss_nil)
      (pss_one ps_dead)), fun Z hb hE hs => ⟨_, (s_seq (s_if (v_tB (v_cb (b_isi (T := "str") (cs := [cB]) (hc := M.kinds)) (v_consB (TrE.b v_var) (v_consB (TrE.b v_ty) v_nilB))))
      (s_seq (s_if (v_test (v_op o_eq (TrE.b v_var) (TrE.b v_str)))
      (s_ret (v_fld (TrE.b v_var))) s_nil)
      (s_seq (s_if (v_test (v_op o_eq (TrE.b v_var) (TrE.b v_str)))
      (s_ret (v_fld (TrE.b v_var))) s_nil)
      (s_if (v_tB (v_din v_var (TrE.b (v_fld (TrE.b v_var)))))
      (s_ret (v_dget (TrE.b (v_fld (TrE.b v_var))) v_var)) s_nil))) s_nil)
      s_dead), fun us post hl hW => ?_⟩⟩
  obtain ⟨kv, st, sp, w, p, rfl, B, hp, q⟩ := hW
  ac_rfl
  have so : PyData.strOk p.1 = true := by
    rcases List.mem_append.mp hp with h | h
    · exact B.so p h
    · rcases List.mem_cons.mp h with rfl | h
      · exact (by decide +kernel : PyData.strOk "start" = true)
      · rw [List.mem_singleton.mp h]
        exact (by decide +kernel : PyData.strOk "stop" = true)
  refine ⟨_, fEq_str so (by decide +kernel), ?_⟩
  by_cases c1 : p.1 = "start"
  · have e2 : p.2 = st := by
      rcases List.mem_append.mp hp with h | h
      · exact absurd c1 (sign_no5 (B.sg p h)).1
      · rcases List.mem_cons.mp h with rfl | h
        · rfl
        · rw [List.mem_singleton.mp h] at c1
          exact absurd (show (("stop" : Str) = "start") from c1) (by decide +kernel)
    refine ⟨_, rfl, iteT_of (decide_eq_true c1) ?_⟩
    ac_rfl
    refine ⟨cB, _, _, rfl, M.cl_Book, M.n_start, rfl, ?_⟩
    rw [← e2]
    exact q
  refine ⟨_, rfl, iteF_of (decide_eq_false c1) ?_⟩
  ac_rfl
  refine ⟨_, fEq_str so (by decide +kernel), ?_⟩
  by_cases c2 : p.1 = "stop"
  · have e2 : p.2 = sp := by
      rcases List.mem_append.mp hp with h | h
      · exact absurd c2 (sign_no5 (B.sg p h)).2
      · rcases List.mem_cons.mp h with rfl | h
        · exact absurd rfl c1
        · rw [List.mem_singleton.mp h]
    refine ⟨_, rfl, iteT_of (decide_eq_true c2) ?_⟩
    ac_rfl
    refine ⟨cB, _, _, rfl, M.cl_Book, M.n_stop, rfl, ?_⟩
    rw [← e2]
    exact q
  refine ⟨_, rfl, iteF_of (decide_eq_false c2) ?_⟩
  have hk : p ∈ kv := by
    rcases List.mem_append.mp hp with h | h
    · exact h
    · rcases List.mem_cons.mp h with rfl | h
      · exact absurd rfl c1
      · rw [List.mem_singleton.mp h] at c2
        exact absurd rfl c2
  ac_rfl
  refine ⟨cB, _, _, rfl, M.cl_Book, M.n__rows, rfl, ?_⟩
  have lk : lookU (patU kv) (.str p.1) = some (some (rowV p.2)) := congrArg some (pat_val B.nd hk)
  refine ⟨_, lk, _, rfl, iteT ?_⟩
  exact ⟨_, rfl, cB, _, _, rfl, M.cl_Book, M.n__rows, rfl, _, rfl, _, lk, q⟩
theorem sc_Book_all_marks : FnScope ["self"] ["self"] (defScope s_Book_all_marks) := ⟨rfl, rfl, rfl, by decide +kernel, rfl, by decide +kernel, by decide +kernel⟩
def strsT (ss : List Str) : U := .tup (ss.map U.str)
def WAllMarks (cB : Addr) : Wf := fun us post _ => ∃ kv st sp, us = [bookV cB kv st sp] ∧ kv.length ≤ 1000 ∧ post (strsT ((marksB kv st sp).map (·.1)))
theorem ok_Book_all_marks (M : MF P w K mg cR iR cK iK cB fB pB aB cL) (F : Fun K "all_marks" "Book.all_marks" s_Book_all_marks f fd) : FnOk P w K mg base CX0 1 f fd ["self"] (spV false 1 (WAllMarks cB)) := by
  refine okV (k := 0) F sc_Book_all_marks rfl (by decide) fun cdv A outer s H E hr => ⟨_, (pss_one (ps_ret (pe_op (op_addU K) (pe_fldK K (pv 0) rfl) (pe_tup (pa_cons pe_str (pa_cons pe_str pa_nil)))))), fun Z hb hE hs => ⟨_, (s_ret (v_op o_add (TrE.b (v_fld (TrE.b v_var))) (TrE.b (v_tup (v_cons v_str (v_cons v_str v_nil)))))), fun us post hl hW => ?_⟩⟩
  obtain ⟨kv, st, sp, rfl, l, p⟩ := hW
  ac_rfl
  refine ⟨cB, _, _, rfl, M.cl_Book, M.n_signs, rfl, ?_⟩
  ac_rfl
  refine ⟨_, if_pos (by rw [List.length_map]; show _ + 2 ≤ 100000; omega), ?_⟩
  unfold strsT marksB at p
  rw [List.map_append, List.map_append, List.map_map] at p
  exact p
end

end K06
namespace K06
open PySem PySem.Spec PyProof.Rows L2 SL SV
local macro_rules | `(tactic| ac_rfl) => `(tactic| (repeat first | refine ⟨_, rfl, ?_⟩ | refine ⟨rfl, ?_⟩ | refine iteT ?_ | refine iteF ?_ | refine ⟨trivial, ?_⟩ | refine ⟨Nat.le_of_ble_eq_true rfl, ?_⟩ | refine ⟨_, _, rfl, rfl, ?_⟩ | refine ⟨_, _, rfl, ?_⟩ | refine ⟨_, .inl rfl, ?_⟩ | refine ⟨_, .inr rfl, ?_⟩ | refine .inl ⟨_, rfl, ?_⟩ | refine .inr ⟨_, rfl, ?_⟩ | refine ⟨_, _, .inl rfl, ?_⟩ | refine ⟨_, _, .inr rfl, ?_⟩ | refine ⟨by decide, ?_⟩))
section
variable {P : Program} {w : World} {K : PySem.W.Frag} {mg : Str → Option Value} {base : Heap} {cR iR cK iK cB fB pB aB cL : Addr} {fdB fdP fdA : FuncData} {f : Addr} {fd : FuncData}
/-! ### least_apart, nearest -/
abbrev SR := Str × List Int
def pairsAt (l : List SR) (i : Nat) : List (SR × SR) := (l.drop (i + 1)).map fun y => (l.getD i ("", []), y)
def pairsTo (l : List SR) (n : Nat) : List (SR × SR) := (List.range n).flatMap (pairsAt l)
def nearer (b : Option (SR × SR)) (p : SR × SR) : Option (SR × SR) := match b with
  | none => some p
  | some q => if dist p.1.2 p.2.2 < dist q.1.2 q.2.2 then some p else some q
def bestU : Option (SR × SR) → U
  | none => .non
  | some p => .tup [.int (dist p.1.2 p.2.2 : Nat), .str p.1.1, .str p.2.1]
def bestB (l : List SR) : Option (SR × SR) := (pairsTo l l.length).foldl nearer none
theorem pairsTo_succ (l : List SR) (n : Nat) : pairsTo l (n + 1) = pairsTo l n ++ pairsAt l n := by
  unfold pairsTo
  rw [List.range_succ, List.flatMap_append, List.flatMap_singleton]
theorem BookOk.marks {kv : List (Str × List Int)} {st sp : List Int} {w : Nat} (B : BookOk kv st sp w) {p : SR} (h : p ∈ marksB kv st sp) : bits p.2 ∧ p.2.length = w := by
  rcases List.mem_append.mp h with h | h
  · exact B.rb p h
  · rcases List.mem_cons.mp h with rfl | h
    · exact B.sb
    · rw [List.mem_singleton.mp h]
      exact B.pb
theorem marks_len (kv : List (Str × List Int)) (st sp : List Int) : (marksB kv st sp).length = kv.length + 2 := by
  unfold marksB
  rw [List.length_append]
  rfl
theorem cut_drop (us : List U) (k : Nat) : cutU us (some (k : Int)) none = us.drop k := by
  unfold cutU
  rw [HT.sIx_nat, show HT.sIx us.length us.length none = us.length from rfl]
  by_cases c : k ≤ us.length
  · rw [Nat.min_eq_left c, List.take_of_length_le (by rw [List.length_drop]; exact Nat.le_refl _)]
  · rw [Nat.min_eq_right (by omega), List.drop_eq_nil_of_le (Nat.le_refl _), List.drop_eq_nil_of_le (by omega), List.take_nil]
theorem enum_at : ∀ {us : List U} {k i : Nat} {u : U}, (numd us k)[i]? = some u → ∃ x, us[i]? = some x ∧ u = .tup [.int ((k + i : Nat) : Int), x]
  | [], _, _, _, h => by cases h
  | x :: r, k, 0, u, h => by
    cases h
    exact ⟨x, rfl, rfl⟩
  | x :: r, k, i + 1, u, h => by
    obtain ⟨y, e1, e2⟩ := enum_at (us := r) (k := k + 1) (i := i) h
    exact ⟨y, e1, by rw [e2, show k + 1 + i = k + (i + 1) by omega]⟩
theorem strs_at {l : List SR} {i : Nat} {u : U} (e : ((l.map (·.1)).map U.str)[i]? = some u) : ∃ p, l[i]? = some p ∧ u = .str p.1 := by
  rw [List.map_map, List.getElem?_map] at e
  cases q : l[i]? with
  | none => rw [q] at e; cases e
  | some p =>
    rw [q] at e
    cases e
    exact ⟨p, rfl, rfl⟩
theorem sc_least_apart : FnScope ["book", "marks", "best", "place", "one", "other", "number"] ["book"] (defScope s_least_apart) := ⟨rfl, rfl, rfl, by decide +kernel, rfl, by decide +kernel, by decide +kernel⟩
def WLeastApart (cB : Addr) : Wf := fun us post _ => ∃ kv st sp w, us = [bookV cB kv st sp] ∧ BookOk kv st sp w ∧ post (bestU (bestB (marksB kv st sp)))
theorem ok_least_apart (M : MF P w K mg cR iR cK iK cB fB pB aB cL) (Oall_marks : FnOk P w K mg base CX0 1 aB fdA ["self"] (spV false 1 (WAllMarks cB))) (Ball_marks : Binds K fdA ["self"] []) (Opattern : FnOk P w K mg base CX0 1 pB fdP ["self", "mark"] (spV false 2 (WPattern cB))) (Bpattern : Binds K fdP ["self", "mark"] []) (F_apart : FnC P w K mg base (L2.CX P w) 7 "apart" ["one", "other"] (spV false 2 WApart))
    (F : Fun K "least_apart" "least_apart" s_least_apart f fd) : FnOk P w K mg base CX0 9 f fd ["book"] (spV false 1 (WLeastApart cB)) := by
  refine okV (k := 8) F sc_least_apart rfl (by decide) fun cdv A outer s H E hr => ⟨_, (pss_cons (ps_set (i := 1) sc_least_apart.nd rfl (Or.inl rfl) (pe_meth0 (pv 0) M.cl_Book M.me_all_marks Oall_marks (hr.mono (by decide)) Ball_marks .nil pass0))
      (pss_cons (ps_set (i := 2) sc_least_apart.nd rfl (Or.inl rfl) pe_non)
      (pss_cons (ps_for PassesOwn.never rfl (pi_enumT (by rfl) M.m_enumerate (pa_cons (pv 1) pa_nil)) (pg_tupK (n := 2) K rfl (pgs_cons (pg_name (i := 3) sc_least_apart.nd rfl (Or.inl rfl)) (pgs_cons (pg_name (i := 4) sc_least_apart.nd rfl (Or.inl rfl)) pgs_nil)))
      (pss_one (ps_for PassesOwn.never rfl (pi_seq K (pe_slice (sl_tupV K) (pv 1) (po_some (pe_op (op_addU K) (pv 3) pe_int)) po_none)) (pg_name (i := 5) sc_least_apart.nd rfl (Or.inl rfl))
      (pss_cons (ps_set (i := 6) sc_least_apart.nd rfl (Or.inl rfl) (pe_f F_apart hr (by omega) passL (pa_cons (pe_meth (pv 0) M.cl_Book M.me_pattern Opattern (hr.mono (by decide)) Bpattern .nil pass0 (pa_cons (pv 4) pa_nil)) (pa_cons (pe_meth (pv 0) M.cl_Book M.me_pattern Opattern (hr.mono (by decide)) Bpattern .nil pass0 (pa_cons (pv 5) pa_nil)) pa_nil))))
      (pss_one (ps_if (PW.pt (pw_or (pt_cmpR op_isN (pv 2) pe_non (nomark _)) (pw_or1 (pt_cmpR op_lt (pv 6) (pe_ix (ix_seqK K) (pv 2) pe_int (fun _ _ => rfl)) (nomark _)))))
      (pss_one (ps_set (i := 2) sc_least_apart.nd rfl (Or.inl rfl) (pe_tup (pa_cons (pv 6) (pa_cons (pv 4) (pa_cons (pv 5) pa_nil)))))) pss_nil))))))
      (pss_one (ps_ret (pv 2)))))), fun Z hb hE hs => ⟨_, (s_seq (s_set (v_meth ple0 v_var v_nil))
      (s_seq (s_set v_non)
      (s_seq (s_for (vs := [3, 4]) (i_enumT v_var) (g_tup (gs_cons (g_name (by decide)) (gs_cons (g_name (by decide)) gs_nil)))
      (s_for (vs := [5]) (i_seq (v_slT v_var (v_part (v_op o_add (TrE.b v_var) (TrE.b v_int))) v_noPart)) (g_name (by decide))
      (s_seq (s_set (v_call ple0 (v_cons (v_meth ple0 v_var (v_cons v_var v_nil)) (v_cons (v_meth ple0 v_var (v_cons v_var v_nil)) v_nil))))
      (s_if (v_or (v_test (v_op o_isN (TrE.b v_var) (TrE.b v_non))) (v_test (v_op o_IB (TrE.b v_var) (TrE.b (v_op o_ix (TrE.b v_var) (TrE.b v_int))))))
      (s_set (v_tup (v_cons v_var (v_cons v_var (v_cons v_var v_nil))))) s_nil))))
      (s_ret v_var)))), fun us post hl hW => ?_⟩⟩
  obtain ⟨kv, st, sp, w, rfl, B, p⟩ := hW
  have hi := B.hi
  ac_rfl
  refine ⟨kv, st, sp, rfl, by omega, ?_⟩
  have ml := marks_len kv st sp
  have hm : ∀ p ∈ marksB kv st sp, bits p.2 ∧ p.2.length = w := fun p hp => B.marks hp
  generalize em : marksB kv st sp = l at p ml hm
  ac_rfl
  refine ⟨fun i ρ => ∃ c3 c4 c5 c6 : Cell, ρ = [.fz (bookV cB kv st sp), .fz (strsT (l.map (·.1))), .fz (bestU ((pairsTo l i).foldl nearer none)), c3, c4, c5, c6], ⟨_, _, _, _, rfl⟩, ?_, ?_⟩
  · rintro i u _ e ⟨c3, c4, c5, c6, rfl⟩
    obtain ⟨x, ex, rfl⟩ := enum_at e
    obtain ⟨q, eq, rfl⟩ := strs_at ex
    rw [Nat.zero_add]
    ac_rfl
    rw [show ((i : Nat) : Int) + 1 = ((i + 1 : Nat) : Int) from rfl, cut_drop, ← List.map_drop, ← List.map_drop]
    have gq : l.getD i ("", []) = q := by rw [List.getD_eq_getElem?_getD, eq]; rfl
    have hq := List.mem_of_getElem? eq
    refine ⟨fun j ρ => ∃ c5 c6 : Cell, ρ = [.fz (bookV cB kv st sp), .fz (strsT (l.map (·.1))), .fz (bestU ((pairsTo l i ++ (pairsAt l i).take j).foldl nearer none)), .fz (.int (i : Int)), .fz (.str q.1), c5, c6], ⟨c5, c6, by rw [List.take_zero, List.append_nil]; rfl⟩, ?_, ?_⟩
    · rintro j u _ ej ⟨c5, c6, rfl⟩
      obtain ⟨y, ey, rfl⟩ := strs_at ej
      have hy : y ∈ l := List.mem_of_mem_drop (List.mem_of_getElem? ey)
      have ez : (pairsAt l i)[j]? = some (q, y) := by
        unfold pairsAt
        rw [List.getElem?_map, ey, gq]
        rfl
      have es : (pairsTo l i ++ (pairsAt l i).take (j + 1)).foldl nearer none = nearer ((pairsTo l i ++ (pairsAt l i).take j).foldl nearer none) (q, y) := by
        rw [show (pairsAt l i).take (j + 1) = (pairsAt l i).take j ++ [(q, y)] from take_more ez, ← List.append_assoc, List.foldl_append]
        rfl
      generalize (pairsTo l i ++ (pairsAt l i).take j).foldl nearer none = b at es
      have dl := (hm q hq).2.trans (hm y hy).2.symm
      refine ⟨_, rfl, _, rfl, rfl, _, rfl, rfl, kv, st, sp, w, q, rfl, B, by rw [em]; exact hq, ?_⟩
      refine ⟨_, rfl, _, rfl, rfl, _, rfl, rfl, kv, st, sp, w, y, rfl, B, by rw [em]; exact hy, ?_⟩
      refine ⟨rfl, _, _, rfl, (hm q hq).1, (hm y hy).1, dl, ?_⟩
      ac_rfl
      cases b with
      | none =>
        ac_rfl
        refine ⟨.fz (.str y.1), .fz (.int (dist q.2 y.2 : Nat)), ?_⟩
        rw [es]
        rfl
      | some z =>
        refine iteF_of rfl ?_
        have ez : nearer (some z) (q, y) = if dist q.2 y.2 < dist z.1.2 z.2.2 then some (q, y) else some z := rfl
        refine ⟨_, rfl, _, rfl, .int (dist z.1.2 z.2.2 : Nat), atI_int (Int.le_refl 0) rfl, _, rfl, _, rfl, ?_⟩
        by_cases c : dist q.2 y.2 < dist z.1.2 z.2.2
        · refine iteT_of (decide_eq_true (by omega)) ?_
          rw [if_pos c] at ez
          ac_rfl
          refine ⟨.fz (.str y.1), .fz (.int (dist q.2 y.2 : Nat)), ?_⟩
          rw [es, ez]
          rfl
        · refine iteF_of (decide_eq_false (by omega)) ?_
          rw [if_neg c] at ez
          refine ⟨.fz (.str y.1), .fz (.int (dist q.2 y.2 : Nat)), ?_⟩
          rw [es, ez]
          rfl
    rintro _ ⟨c5, c6, rfl⟩
    have lp : ((l.drop (i + 1)).map (·.1)).map U.str = (l.drop (i + 1)).map fun p => U.str p.1 := by rw [List.map_map]; rfl
    refine ⟨.fz (.int (i : Int)), .fz (.str q.1), c5, c6, ?_⟩
    rw [pairsTo_succ, show (((l.drop (i + 1)).map (·.1)).map U.str).length = (pairsAt l i).length by unfold pairsAt; rw [List.length_map, List.length_map, List.length_map], List.take_length]
  rintro _ ⟨c3, c4, c5, c6, rfl⟩
  have p' : post (bestU ((pairsTo l l.length).foldl nearer none)) := p
  refine ⟨_, rfl, ?_⟩
  rw [show (numd (((l.map (·.1)).map U.str)) 0).length = l.length by rw [numd_len, List.length_map, List.length_map]]
  exact p'
/-- the marks nearest to a row -/
def nearB (l : List SR) (r : List Int) : List SR := l.filter fun p => decide (∀ y ∈ l, dist p.2 r ≤ dist y.2 r)
theorem within_row : ∀ {us : List U}, us.all (withinU 0 1) = true → ∃ r : List Int, us = r.map U.int ∧ bits r
  | [], _ => ⟨[], rfl, fun _ h => nomatch h⟩
  | u :: us, h => by
    rw [List.all_cons, Bool.and_eq_true] at h
    obtain ⟨r, rfl, b⟩ := within_row h.2
    cases u with
    | int i =>
      have hi : (decide ((0 : Int) ≤ i) && decide (i ≤ 1)) = true := h.1
      rw [Bool.and_eq_true, decide_eq_true_eq, decide_eq_true_eq] at hi
      refine ⟨i :: r, rfl, fun c hc => ?_⟩
      rcases List.mem_cons.mp hc with rfl | hc
      · omega
      · exact b c hc
    | _ => exact absurd h.1 Bool.false_ne_true
theorem rowOf_inv {x : U} {w : Nat} (h : rowOfU (w : Int) x = true) : ∃ r : List Int, x = rowV r ∧ bits r ∧ r.length = w := by
  cases x with
  | tup us =>
    have h' : (us.all (withinU 0 1) && decide ((us.length : Int) = w)) = true := h
    rw [Bool.and_eq_true, decide_eq_true_eq] at h'
    obtain ⟨r, rfl, b⟩ := within_row h'.1
    rw [List.length_map] at h'
    exact ⟨r, rfl, b, by omega⟩
  | _ => exact absurd h Bool.false_ne_true
theorem sc_nearest : FnScope ["book", "row", "marks", "numbers", "least", "mark", "number"] ["book", "row"] (defScope s_nearest) := ⟨rfl, rfl, rfl, by decide +kernel, rfl, by decide +kernel, by decide +kernel⟩
def WNearest (cs : List Addr) (cR cB : Addr) : Wf := fun us post ew => ∃ kv st sp w x, us = [bookV cB kv st sp, x] ∧ BookOk kv st sp w ∧ asks cs x ∧ asksT cs x ∧ (∀ r, x = rowV r → bits r → r.length = w → post (.lst ((nearB (marksB kv st sp) r).map fun p => U.str p.1))) ∧ (rowOfU (w : Int) x = false → ew cR [("part", .str "row")])
theorem ok_nearest (M : MF P w K mg cR iR cK iK cB fB pB aB cL) (F_is_row_of : FnC P w K mg base CX0 5 "is_row_of" ["thing", "length"] (spV false 2 (WRowOf [cB]))) (Oall_marks : FnOk P w K mg base CX0 1 aB fdA ["self"] (spV false 1 (WAllMarks cB))) (Ball_marks : Binds K fdA ["self"] []) (Opattern : FnOk P w K mg base CX0 1 pB fdP ["self", "mark"] (spV false 2 (WPattern cB))) (Bpattern : Binds K fdP ["self", "mark"] []) (F_apart : FnC P w K mg base (L2.CX P w) 7 "apart" ["one", "other"] (spV false 2 WApart))
    (F : Fun K "nearest" "nearest" s_nearest f fd) : FnOk P w K mg base (L2.CX P w) 9 f fd ["book", "row"] (spF false 2 (WNearest [cB] cR cB)) := by
  refine okFX (k := 8) F sc_nearest rfl (by decide) fun cdv A outer s H E hr => ⟨_, (pss_cons (ps_if (pt_not (pt_val (pe_f F_is_row_of hr (by omega) pass0 (pa_cons (pv 1) (pa_cons (pe_fldK K (pv 0) rfl) pa_nil)))))
      (pss_one (ps_raiseEx rfl M.x_BadRow hr (takes_of rfl rfl rfl rfl) (pa_cons pe_str pa_nil))) pss_nil)
      (pss_cons (ps_set (i := 2) sc_nearest.nd rfl (Or.inl rfl) (pe_meth0 (pv 0) M.cl_Book M.me_all_marks Oall_marks (hr.mono (by decide)) Ball_marks .nil pass0))
      (pss_cons (ps_setLc (i := 3) (own := [("mark", 5)]) (tt := tYes) rfl sc_nearest.nd rfl rfl (sw_true rfl rfl rfl (by decide +kernel)) (pi_seq K (pv 2)) (blkOk_by (N := ["book", "row", "marks", "numbers", "least", "mark", "number"]) (sc := defScope s_nearest) (by decide +kernel)) (fun _ _ _ _ _ => (pg_name (i := 5) sc_nearest.nd rfl (Or.inl rfl))) (fun _ _ _ _ _ => pts_nil) (fun _ _ _ _ _ => (pe_f F_apart hr (by omega) passL (pa_cons (pe_meth (pv 0) M.cl_Book M.me_pattern Opattern (hr.mono (by decide)) Bpattern .nil pass0 (pa_cons (pv 5) pa_nil)) (pa_cons (pv 1) pa_nil)))))
      (pss_cons (ps_set (i := 4) sc_nearest.nd rfl (Or.inr rfl) (pe_callB (cr_minK K rfl) (by rfl) M.m_min (by decide +kernel) (pa_cons (pv 3) pa_nil)))
      (pss_one (ps_ret (pe_lc (own := [("mark", 5), ("number", 6)]) rfl sc_nearest.nd (pi_zipM (by rfl) M.m_zip (pa_cons (pv 2) (pa_cons (pv 3) pa_nil))) (blkOk_by (N := ["book", "row", "marks", "numbers", "least", "mark", "number"]) (sc := defScope s_nearest) (by decide +kernel)) (fun _ _ _ _ _ => (pg_tupK (n := 2) K rfl (pgs_cons (pg_name (i := 5) sc_nearest.nd rfl (Or.inl rfl)) (pgs_cons (pg_name (i := 6) sc_nearest.nd rfl (Or.inl rfl)) pgs_nil)))) (fun _ _ _ _ _ => (pts_one (pt_cmpR (op_eqV K hr.units) (pv 6) (pv 4) (nomark _)))) (fun _ _ _ _ _ => (pv 5))))))))), fun Z hb hE hs => ⟨_, (sf_seq (s_if (v_not (v_tB (v_call ple0 (v_cons v_var (v_cons (v_fld (TrE.b v_var)) v_nil)))))
      (s_raise hE (v_cons v_str v_nil)) s_nil)
      (sf_seq (s_set (v_meth ple0 v_var v_nil))
      (sf_seq (s_set (TrF.e (v_lc (i_seq v_var) (g_name (by decide)) v_yes (v_call ple0 (v_cons (v_meth ple0 v_var (v_cons v_var v_nil)) (v_cons v_var v_nil))))))
      (sf_seq (s_set (v_cb b_minL (v_consB (TrE.b v_var) v_nilB)))
      (sf_ret (v_lc (i_zipM (v_cons v_var (v_cons v_var v_nil))) (g_tup (gs_cons (g_name (by decide)) (gs_cons (g_name (by decide)) gs_nil))) (v_test (v_op o_eq (TrE.b v_var) (TrE.b v_var))) v_var)))))), fun us post hl hW => ?_⟩⟩
  obtain ⟨kv, st, sp, w, x, rfl, B, ax, tx, p, e⟩ := hW
  have hi := B.hi
  have lw := B.sb.2
  ac_rfl
  refine ⟨cB, _, _, rfl, M.cl_Book, M.n_width, rfl, ?_⟩
  refine ⟨rfl, x, _, rfl, ax, tx, ?_⟩
  rw [lw]
  refine ⟨_, rfl, ?_⟩
  cases c : rowOfU (w : Int) x with
  | false => exact iteT_of rfl ⟨_, rfl, okMsg_str, e c⟩
  | true =>
    obtain ⟨r, rfl, br, lr⟩ := rowOf_inv c
    have p := p r rfl br lr
    refine iteF_of rfl ?_
    ac_rfl
    refine ⟨kv, st, sp, rfl, by omega, ?_⟩
    have ml := marks_len kv st sp
    have hm : ∀ p ∈ marksB kv st sp, bits p.2 ∧ p.2.length = w := fun p hp => B.marks hp
    generalize em : marksB kv st sp = l at p ml hm
    ac_rfl
    refine ⟨fun i acc => acc = (l.take i).map fun q => U.int (dist q.2 r : Nat), rfl, ?_, ?_⟩
    · rintro i u acc ei h
      obtain ⟨q, eq, rfl⟩ := strs_at ei
      have hq := List.mem_of_getElem? eq
      refine lcI ?_
      refine ⟨_, rfl, _, rfl, rfl, _, rfl, rfl, kv, st, sp, w, q, rfl, B, by rw [em]; exact hq, ?_⟩
      ac_rfl
      exact ⟨(hm q hq).1, br, (hm q hq).2.trans lr.symm, map_step (fun q => U.int (dist q.2 r : Nat)) h eq⟩
    rintro acc h
    rw [show ((l.map (·.1)).map U.str).length = l.length by rw [List.length_map, List.length_map], List.take_length] at h
    obtain rfl : acc = (l.map fun q => ((dist q.2 r : Nat) : Int)).map U.int := by rw [h, List.map_map]; rfl
    ac_rfl
    refine ⟨by rw [List.length_map]; omega, fun m hm1 hm2 => ?_⟩
    ac_rfl
    have ez : zipU ((l.map (·.1)).map U.str) ((l.map fun q => ((dist q.2 r : Nat) : Int)).map U.int) = l.map fun q => U.tup [.str q.1, .int (dist q.2 r : Nat)] := by
      unfold zipU
      rw [List.map_map, List.map_map, List.zip_map', List.map_map]
      rfl
    rw [ez]
    refine ⟨fun i acc => acc = ((l.take i).filter fun q => decide (((dist q.2 r : Nat) : Int) = m)).map fun q => U.str q.1, rfl, ?_, ?_⟩
    · rintro i u acc ei rfl
      rw [List.getElem?_map] at ei
      cases eq : l[i]? with
      | none => rw [eq] at ei; cases ei
      | some q =>
        rw [eq] at ei
        cases ei
        refine ⟨_, rfl, rfl, _, _, rfl, _, _, rfl, rfl, _, rfl, _, rfl, _, fEq_int _ _, _, rfl, ?_⟩
        have et := congrArg (List.map fun q : SR => U.str q.1) (fm_take (fun q : SR => decide (((dist q.2 r : Nat) : Int) = m)) eq)
        rw [List.map_append] at et
        by_cases c : ((dist q.2 r : Nat) : Int) = m
        · rw [if_pos (decide_eq_true c)] at et
          exact iteT_of (decide_eq_true c) ⟨_, rfl, et.symm⟩
        · rw [if_neg (by simp [c])] at et
          exact iteF_of (decide_eq_false c) (et.trans (List.append_nil _)).symm
    rintro acc h
    rw [List.length_map, List.take_length] at h
    subst h
    have ef : l.filter (fun q => decide (((dist q.2 r : Nat) : Int) = m)) = nearB l r := by
      unfold nearB
      refine List.filter_congr fun q hq => ?_
      obtain ⟨t, ht, et⟩ := List.mem_map.mp hm1
      refine decide_eq_decide.mpr ⟨fun e y hy => ?_, fun h => ?_⟩
      · have := hm2 _ (List.mem_map.mpr ⟨y, hy, rfl⟩)
        omega
      · have h1 := hm2 _ (List.mem_map.mpr ⟨q, hq, rfl⟩)
        have h2 := h t ht
        omega
    rw [ef]
    exact p
end

end K06
namespace K06
open PySem PySem.Spec PyProof.Rows L2 SL SV
local macro_rules | `(tactic| ac_rfl) => `(tactic| (repeat first | refine ⟨_, rfl, ?_⟩ | refine ⟨rfl, ?_⟩ | refine iteT ?_ | refine iteF ?_ | refine ⟨trivial, ?_⟩ | refine ⟨Nat.le_of_ble_eq_true rfl, ?_⟩ | refine ⟨_, _, rfl, rfl, ?_⟩ | refine ⟨_, _, rfl, ?_⟩ | refine ⟨_, .inl rfl, ?_⟩ | refine ⟨_, .inr rfl, ?_⟩ | refine .inl ⟨_, rfl, ?_⟩ | refine .inr ⟨_, rfl, ?_⟩ | refine ⟨_, _, .inl rfl, ?_⟩ | refine ⟨_, _, .inr rfl, ?_⟩ | refine ⟨by decide, ?_⟩))
section
variable {P : Program} {w : World} {K : PySem.W.Frag} {mg : Str → Option Value} {base : Heap} {cR iR cK iK cB fB pB aB cL : Addr} {fdB fdP fdA : FuncData} {f : Addr} {fd : FuncData}
/-! ### _law_pool, _law_draw -/
theorem sc_law_pool : FnScope ["script", "seed", "value"] ["script"] (defScope s_law_pool) := ⟨rfl, rfl, rfl, by decide +kernel, rfl, by decide +kernel, by decide +kernel⟩
def spPool (K : PySem.W.Frag) : Sp := fun vs H Q _ => ∃ (a : Addr) (ns : List Int), vs = [.ref a] ∧ SqL K H a (ns.map V.int) ∧ ns.length ≤ 63 ∧ ∀ H' p q, Same H H' → H p = none → PoolAt H' p q → Q (.ref p) H'
theorem ok_law_pool (M : MF P w K mg cR iR cK iK cB fB pB aB cL) (F : Fun K "_law_pool" "_law_pool" s_law_pool f fd) : FnOk P w K mg base CX0 1 f fd ["script"] (spPool K) := by
  refine F.ok sc_law_pool (fun vs H Q E h => ?_) (fun cdv A outer s H vs Q E hr h => ?_)
  · obtain ⟨a, ns, rfl, _⟩ := h
    rfl
  · obtain ⟨a, ns, rfl, hS, hl, q⟩ := h
    refine ⟨_, (pss_cons (ps_set (i := 1) sc_law_pool.nd rfl (Or.inl rfl) pe_int)
      (pss_cons (ps_for PassesOwn.never rfl (pi_list (pe_slice sl_list (pv 0) po_none (po_some pe_int))) (pg_name (i := 2) sc_law_pool.nd rfl (Or.inl rfl))
      (pss_one (ps_set (i := 1) sc_law_pool.nd rfl (Or.inl rfl) (pe_op op_mod (pe_callTy call_int1 (by rfl) M.m_int (by decide +kernel) (pa_cons (pe_op op_add (pe_op op_add (pe_op op_mul (pv 1) pe_int) (pv 2)) pe_int) pa_nil)) pe_int))))
      (pss_one (ps_ret (pe_lst (pa_cons (pe_callTy call_list_of (by rfl) M.m_list (by decide +kernel) (pa_cons (pe_slice sl_list (pv 0) po_none (po_some pe_int)) pa_nil)) (pa_cons pe_int (pa_cons pe_int (pa_cons pe_int (pa_cons (pv 1) pa_nil)))))))))), ?_⟩
    have cut : cutV (ns.map V.int) none (some 63) = ns.map V.int := by
      unfold cutV
      rw [HT.sIx_none, show HT.sIx (ns.map V.int).length (ns.map V.int).length (some 63) = min 63 (ns.map V.int).length from HT.sIx_nat _ _ 63, List.drop_zero, Nat.sub_zero, List.length_map, Nat.min_eq_right hl, List.take_of_length_le (by rw [List.length_map]; exact Nat.le_refl _)]
    refine ⟨.ref a, rfl, 63, rfl, a, _, rfl, hS, fun c nc => ?_⟩
    rw [cut]
    have s1 : Same H (upd H c (.lst (ns.map V.int))) := same_upd nc
    refine ⟨c, rfl, ⟨_, SqL.of upd_same⟩, for_list (K := K) (a := c) (xs := ns.map V.int) (fun i σ H' => Same H H' ∧ H' c = some (.lst (ns.map V.int)) ∧ ∃ e v, σ = [some (.ref a), some (.int e), v] ∧ 0 ≤ e ∧ e < 2147483629) ⟨s1, upd_same, 31, none, rfl, by decide, by decide⟩ (fun i σ H' _ p => SqL.of p.2.1) ?_ ?_⟩
    · rintro i y σ H' hy ⟨s', ec, e, v, rfl, l1, l2⟩
      rw [List.getElem?_map] at hy
      cases en : ns[i]? with
      | none =>
        rw [en] at hy
        cases hy
      | some n =>
        rw [en] at hy
        cases hy
        refine ⟨_, rfl, _, _, rfl, rfl, .inr ⟨by decide, by decide⟩, _, rfl, _, _, rfl, rfl, _, _, rfl, rfl, .inl ⟨_, rfl, _, _, rfl, rfl, pos_i rfl, s', ec, _, _, rfl, Int.emod_nonneg _ (by decide), Int.emod_lt_of_pos _ (by decide)⟩⟩
    · rintro σ H' ⟨s', ec, e, v, rfl, l1, l2⟩
      have hS' := s'.seq hS
      refine ⟨.ref a, rfl, 63, rfl, a, _, rfl, hS', fun c2 nc2 => ?_⟩
      rw [cut]
      refine ⟨c2, _, rfl, .inl (SqL.of upd_same), fun l nl => ⟨_, rfl, few (n := 5) (by decide), fun p np => ?_⟩⟩
      have nlc : l ≠ c2 := fun z => by
        rw [z, upd_same] at nl
        cases nl
      have sl : Same H' (upd (upd H' c2 (.lst (ns.map V.int))) l (.lst (ns.map V.int))) := (same_upd nc2).trans (same_upd nl)
      have npl : p ≠ l := fun z => by
        rw [z, upd_same] at np
        cases np
      refine q _ p l (s'.trans (sl.trans (same_upd np))) ((s'.trans sl).free np) ⟨ns, 0, 0, 0, e, upd_same, ?_, npl, by decide, by decide, by decide, l1, l2⟩
      rw [upd_ne npl.symm, upd_same]
theorem sc_law_draw : FnScope ["pool", "many", "value", "digit", "mixed"] ["pool", "many"] (defScope s_law_draw) := ⟨rfl, rfl, rfl, by decide +kernel, rfl, by decide +kernel, by decide +kernel⟩
def spDraw : Sp := fun vs H Q _ => ∃ (p q : Addr) (m : Int), vs = [.ref p, .int m] ∧ PoolAt H p q ∧ 0 < m ∧ m.natAbs.log2 < 9000 ∧ ∀ H' d, Same (off H p) (off H' p) → PoolAt H' p q → 0 ≤ d → d < m → Q (.int d) H'
theorem ok_law_draw (M : MF P w K mg cR iR cK iK cB fB pB aB cL) (F : Fun K "_law_draw" "_law_draw" s_law_draw f fd) : FnOk P w K mg base CX0 1 f fd ["pool", "many"] spDraw := by
  refine F.ok sc_law_draw (fun vs H Q E h => ?_) (fun cdv A outer s H vs Q E hr h => ?_)
  · obtain ⟨p, q, m, rfl, _⟩ := h
    rfl
  · obtain ⟨p, q, m, rfl, ⟨ms, c, u, d, e, hp, hq, npq, c0, u0, d0, e0, e1⟩, m0, m1, k⟩ := h
    refine ⟨_, (Evl.pss_cut (ps_asg (pe_op op_add (pe_ix ix_list (pv 0) pe_int (fun _ _ => rfl)) pe_int) (pg_sub (pv 0) pe_int set_list))
      (Evl.pss_cut (ps_if (PW.pt (pw_and (pt_cmpR op_eq (pe_ix ix_list (pv 0) pe_int (fun _ _ => rfl)) pe_int (nomark _)) (pw_and1 (pt_cmpR op_lt (pe_ix ix_list (pv 0) pe_int (fun _ _ => rfl)) (pe_callB call_len_seq (by rfl) M.m_len (by decide +kernel) (pa_cons (pe_ix ix_list (pv 0) pe_int (fun _ _ => rfl)) pa_nil)) (nomark _)))))
      (pss_cons (ps_set (i := 2) sc_law_draw.nd rfl (Or.inl rfl) (pe_ix ix_list (pe_ix ix_list (pv 0) pe_int (fun _ _ => rfl)) (pe_ix ix_list (pv 0) pe_int (fun _ _ => rfl)) (fun _ _ => rfl)))
      (pss_cons (ps_asg (pe_op op_add (pe_ix ix_list (pv 0) pe_int (fun _ _ => rfl)) pe_int) (pg_sub (pv 0) pe_int set_list))
      (pss_one (ps_if (pt_cmpR op_ge (pv 2) (pe_op op_pow pe_int pe_int) (nomark _))
      (pss_one (ps_asg (pv 2) (pg_sub (pv 0) pe_int set_list))) (pss_one (ps_asg (pe_op op_mod (pe_callTy call_int1 (by rfl) M.m_int (by decide +kernel) (pa_cons (pe_op op_add (pe_op op_add (pe_op op_mul (pe_ix ix_list (pv 0) pe_int (fun _ _ => rfl)) pe_int) (pv 2)) pe_int) pa_nil)) pe_int) (pg_sub (pv 0) pe_int set_list))))))) pss_nil)
      (pss_cons (ps_if (pt_cmpR op_gt (pe_ix ix_list (pv 0) pe_int (fun _ _ => rfl)) pe_int (nomark _))
      (pss_cons (ps_set (i := 3) sc_law_draw.nd rfl (Or.inl rfl) (pe_op op_mod (pe_callTy call_int1 (by rfl) M.m_int (by decide +kernel) (pa_cons (pe_ix ix_list (pv 0) pe_int (fun _ _ => rfl)) pa_nil)) (pv 1)))
      (pss_cons (ps_asg (pe_op op_fdivW (pe_ix ix_list (pv 0) pe_int (fun _ _ => rfl)) (pv 1)) (pg_sub (pv 0) pe_int set_list))
      (pss_one (ps_ret (pv 3))))) pss_nil)
      (Evl.pss_cut (ps_set (i := 4) sc_law_draw.nd rfl (Or.inl rfl) (pe_op op_mod (pe_callTy call_int1 (by rfl) M.m_int (by decide +kernel) (pa_cons (pe_op op_add (pe_op op_add (pe_op op_mul (pe_ix ix_list (pv 0) pe_int (fun _ _ => rfl)) pe_int) (pe_op op_mul (pe_ix ix_list (pv 0) pe_int (fun _ _ => rfl)) pe_int)) pe_int) pa_nil)) pe_int))
      (Evl.pss_cut (ps_set (i := 4) sc_law_draw.nd rfl (Or.inl rfl) (pe_op op_mod (pe_callTy call_int1 (by rfl) M.m_int (by decide +kernel) (pa_cons (pe_op op_mul (pv 4) (pe_op op_add (pe_op op_fdiv (pv 4) pe_int) pe_int)) pa_nil)) pe_int))
      (Evl.pss_cut (ps_set (i := 4) sc_law_draw.nd rfl (Or.inl rfl) (pe_op op_mod (pe_callTy call_int1 (by rfl) M.m_int (by decide +kernel) (pa_cons (pe_op op_mul (pv 4) (pe_op op_add (pe_op op_fdiv (pv 4) pe_int) pe_int)) pa_nil)) pe_int))
      (pss_one (ps_ret (pe_op op_mod (pe_callTy call_int1 (by rfl) M.m_int (by decide +kernel) (pa_cons (pe_op op_fdiv (pv 4) pe_int) pa_nil)) (pv 1)))))))))), ?_⟩
    -- pool[3] = pool[3] + 1
    refine ⟨fun σ H' => ∃ d', σ = [some (.ref p), some (.int m), none, none, none] ∧ H' = upd H p (.lst [.ref q, .int c, .int u, .int d', .int e]) ∧ 0 ≤ d',
      ⟨.ref p, rfl, p, _, 3, .int d, rfl, rfl, SqL.of hp, atI_nat (j := 3) rfl, _, _, rfl, rfl, .ref p, rfl, p, _, 3, 3, rfl, rfl, hp, rfl, d + 1, rfl, rfl, by omega⟩, ?_⟩
    rintro _ _ ⟨d', rfl, rfl, dd0⟩
    have h1 : (upd H p (.lst [.ref q, .int c, .int u, .int d', .int e])) p = some (.lst [.ref q, .int c, .int u, .int d', .int e]) := upd_same
    have h1q : (upd H p (.lst [.ref q, .int c, .int u, .int d', .int e])) q = some (.lst (ms.map V.int)) := by rw [upd_ne npq.symm]; exact hq
    have s1 : Same (off H p) (off (upd H p (.lst [.ref q, .int c, .int u, .int d', .int e])) p) := off_upd
    generalize upd H p (.lst [.ref q, .int c, .int u, .int d', .int e]) = H1 at h1 h1q s1 ⊢
    -- the next value of the script
    refine ⟨fun σ H' => ∃ v2 c' u' e', σ = [some (.ref p), some (.int m), v2, none, none] ∧ Same (off H p) (off H' p) ∧ H' p = some (.lst [.ref q, .int c', .int u', .int d', .int e']) ∧ H' q = some (.lst (ms.map V.int)) ∧ 0 ≤ c' ∧ 0 ≤ u' ∧ 0 ≤ e' ∧ e' < 2147483629, ?_, ?_⟩
    · refine ⟨.ref p, rfl, p, _, 2, .int u, rfl, rfl, SqL.of h1, atI_nat (j := 2) rfl, rfl, _, rfl, ite2 (fun cu => ?_) (fun cu => ite2 (fun z => nomatch z) fun _ => ⟨none, c, u, e, rfl, s1, h1, h1q, c0, u0, e0, e1⟩)⟩
      refine ⟨.ref p, rfl, p, _, 1, .int c, rfl, rfl, SqL.of h1, atI_nat (j := 1) rfl, .ref p, rfl, p, _, 0, .ref q, rfl, rfl, SqL.of h1, atI_nat (j := 0) rfl, q, _, rfl, .inl (SqL.of h1q), _, _, rfl, rfl, _, rfl, ite2 (fun cc => ?_) (fun cc => ⟨none, c, u, e, rfl, s1, h1, h1q, c0, u0, e0, e1⟩)⟩
      have cl : c < ((ms.map V.int).length : Int) := of_decide_eq_true cc
      obtain ⟨j, rfl⟩ : ∃ j : Nat, c = (j : Int) := ⟨c.toNat, by omega⟩
      have jl : j < ms.length := by
        rw [List.length_map] at cl
        omega
      have em : (ms.map V.int)[j]? = some (.int ms[j]) := by
        rw [List.getElem?_map, List.getElem?_eq_getElem jl]
        rfl
      refine ⟨.ref p, rfl, p, _, 0, .ref q, rfl, rfl, SqL.of h1, atI_nat (j := 0) rfl, .ref p, rfl, p, _, 1, .int j, rfl, rfl, SqL.of h1, atI_nat (j := 1) rfl, q, _, j, _, rfl, rfl, SqL.of h1q, atI_nat em, ?_⟩
      refine ⟨.ref p, rfl, p, _, 1, .int j, rfl, rfl, SqL.of h1, atI_nat (j := 1) rfl, _, _, rfl, rfl, .ref p, rfl, p, _, 1, 1, rfl, rfl, h1, rfl, ?_⟩
      have h2 : (upd H1 p (.lst [.ref q, .int ((j : Int) + 1), .int u, .int d', .int e])) p = some (.lst [.ref q, .int ((j : Int) + 1), .int u, .int d', .int e]) := upd_same
      have h2q : (upd H1 p (.lst [.ref q, .int ((j : Int) + 1), .int u, .int d', .int e])) q = some (.lst (ms.map V.int)) := by rw [upd_ne npq.symm]; exact h1q
      have s2 : Same (off H p) (off (upd H1 p (.lst [.ref q, .int ((j : Int) + 1), .int u, .int d', .int e])) p) := s1.trans off_upd
      refine ⟨_, rfl, _, _, rfl, rfl, ⟨by decide, by decide, by decide⟩, _, _, rfl, rfl, _, rfl, ite2 (fun cv => ?_) (fun cv => ?_)⟩
      · have v0 : (10 : Int) ^ (18 : Int).toNat ≤ ms[j] := of_decide_eq_true cv
        have p18 : (0 : Int) ≤ (10 : Int) ^ (18 : Int).toNat := by decide
        refine ⟨_, rfl, .ref p, rfl, p, _, 2, 2, rfl, rfl, h2, rfl, _, (j : Int) + 1, ms[j], e, rfl, s2.trans off_upd, upd_same, ?_, by omega, by omega, e0, e1⟩
        rw [upd_ne npq.symm]
        exact h2q
      · refine ⟨.ref p, rfl, p, _, 4, .int e, rfl, rfl, SqL.of h2, atI_nat (j := 4) rfl, _, _, rfl, rfl, .inr ⟨by decide, by decide⟩, _, rfl, _, _, rfl, rfl, _, _, rfl, rfl, .inl ⟨_, rfl, _, _, rfl, rfl, pos_i rfl, .ref p, rfl, p, _, 4, 4, rfl, rfl, h2, rfl, _, (j : Int) + 1, u, _, rfl, s2.trans off_upd, upd_same, ?_, by omega, u0, Int.emod_nonneg _ (by decide), Int.emod_lt_of_pos _ (by decide)⟩⟩
        rw [upd_ne npq.symm]
        exact h2q
    · rintro _ H2 ⟨v2, c', u', e', rfl, s2, h2, h2q, c1, u1, ee0, ee1⟩
      refine ⟨.ref p, rfl, p, _, 2, .int u', rfl, rfl, SqL.of h2, atI_nat (j := 2) rfl, _, _, rfl, rfl, _, rfl, ite2 (fun cu => ?_) (fun cu => ?_)⟩
      · refine ⟨.ref p, rfl, p, _, 2, .int u', rfl, rfl, SqL.of h2, atI_nat (j := 2) rfl, .inl ⟨_, rfl, _, rfl, _, _, rfl, rfl, m0, ?_⟩⟩
        refine ⟨.ref p, rfl, p, _, 2, .int u', rfl, rfl, SqL.of h2, atI_nat (j := 2) rfl, _, rfl, _, _, rfl, rfl, ⟨m0, m1⟩, .ref p, rfl, p, _, 2, 2, rfl, rfl, h2, rfl, ?_⟩
        refine ⟨_, rfl, k _ _ (s2.trans off_upd) ⟨ms, c', u' / m, d', e', upd_same, ?_, npq, c1, Int.ediv_nonneg u1 (by omega), dd0, ee0, ee1⟩ (Int.emod_nonneg _ (by omega)) (Int.emod_lt_of_pos _ m0)⟩
        rw [upd_ne npq.symm]
        exact h2q
      · refine ⟨fun σ H' => ∃ x, σ = [some (.ref p), some (.int m), v2, none, some (.int x)] ∧ H2 = H' ∧ 0 ≤ x ∧ x < 2147483647, ?_, ?_⟩
        · refine ⟨.ref p, rfl, p, _, 4, .int e', rfl, rfl, SqL.of h2, atI_nat (j := 4) rfl, _, _, rfl, rfl, .inr ⟨by decide, by decide⟩, .ref p, rfl, p, _, 3, .int d', rfl, rfl, SqL.of h2, atI_nat (j := 3) rfl, _, _, rfl, rfl, .inr ⟨by decide, by decide⟩, _, _, rfl, rfl, _, _, rfl, rfl, .inl ⟨_, rfl, _, _, rfl, rfl, pos_i rfl, ?_⟩⟩
          exact ⟨_, rfl, rfl, Int.emod_nonneg _ (by decide), Int.emod_lt_of_pos _ (by decide)⟩
        rintro _ _ ⟨x, rfl, rfl, x0, x1⟩
        refine ⟨fun σ H' => ∃ x, σ = [some (.ref p), some (.int m), v2, none, some (.int x)] ∧ H2 = H' ∧ 0 ≤ x ∧ x < 2147483647, ?_, ?_⟩
        · refine ⟨.int x, rfl, .int x, rfl, _, _, rfl, rfl, ⟨by decide, by decide⟩, _, _, rfl, rfl, _, _, rfl, rfl, .inl ⟨by omega, by omega⟩, .inl ⟨_, rfl, _, _, rfl, rfl, pos_i rfl, ?_⟩⟩
          exact ⟨_, rfl, rfl, Int.emod_nonneg _ (by decide), Int.emod_lt_of_pos _ (by decide)⟩
        rintro _ _ ⟨y, rfl, rfl, y0, y1⟩
        refine ⟨fun σ H' => ∃ x, σ = [some (.ref p), some (.int m), v2, none, some (.int x)] ∧ H2 = H', ?_, ?_⟩
        · exact ⟨.int y, rfl, .int y, rfl, _, _, rfl, rfl, ⟨by decide, by decide⟩, _, _, rfl, rfl, _, _, rfl, rfl, .inl ⟨by omega, by omega⟩, .inl ⟨_, rfl, _, _, rfl, rfl, pos_i rfl, _, rfl, rfl⟩⟩
        rintro _ _ ⟨z, rfl, rfl⟩
        refine ⟨.int z, rfl, _, _, rfl, rfl, ⟨by decide, by decide⟩, .inl ⟨_, rfl, _, rfl, _, _, rfl, rfl, m0, ?_⟩⟩
        exact k _ _ s2 ⟨ms, c', u', d', e', h2, h2q, npq, c1, u1, dd0, ee0, ee1⟩ (Int.emod_nonneg _ (by omega)) (Int.emod_lt_of_pos _ m0)
def WDrawW : Wf := fun us post _ => ∃ m : Int, us = [.pool, .int m] ∧ 0 < m ∧ m.natAbs.log2 < 9000 ∧ ∀ d : Int, 0 ≤ d → d < m → post (.int d)
theorem log_small {m : Int} (h0 : 0 < m) (h : m < 1073741824) : m.natAbs.log2 < 9000 := by
  have e : (2 : Nat) ^ 30 = 1073741824 := by decide
  have : m.natAbs.log2 < 30 := (Nat.log2_lt (by omega)).mpr (by rw [e]; omega)
  omega
/-- a draw of great numbers, by values -/
theorem draw_w (c : FnC P w K mg base CX0 1 "_law_draw" ["pool", "many"] spDraw) : FnC P w K mg base CX0 1 "_law_draw" ["pool", "many"] (spV true 2 WDrawW) := by
  obtain ⟨f, fd, F, a, b, d⟩ := c.ex
  refine ⟨f, fd, F.imp fun vs H Q E h => ?_, a, b, d⟩
  obtain ⟨us, pp, q, G, post, ew, k, _, vw, pl, ⟨m, rfl, m0, m1, hp⟩, hq, _⟩ := h
  cases k with
  | cons r1 k =>
    cases k with
    | cons r2 k =>
      cases k
      cases r1
      cases r2
      obtain ⟨P, n1, n2⟩ := pl.1 rfl
      refine ⟨pp, q, m, rfl, P, m0, m1, fun H' d s hP d0 d1 => hq _ _ G H' (hp d d0 d1) ⟨⟨Same.refl _, fun x o e => ?_, fun x o n e g => ⟨fun _ => g, ?_⟩, ⟨fun _ => ⟨hP, n1, n2⟩, fun _ z => nomatch z⟩⟩, fun x o e => ?_⟩ (.int d)⟩
      · have nx : x ≠ pp := fun z => by rw [z, n1] at e; cases e
        rcases vw x o e with h | ⟨h, ob, h'⟩
        · exact .inl (off_get s nx h)
        · exact .inr ⟨h, ob, off_get s nx h'⟩
      · exact off_get s (n.1 rfl) e
      · have nx : x ≠ pp := fun z => by rw [z, n1] at e; cases e
        rcases vw x o e with h | ⟨h, ob, h'⟩
        · exact .inl ((off_get s nx h).trans h.symm)
        · exact .inl ((off_get s nx h').trans h'.symm)
/-- a draw, by values -/
theorem draw_v (c : FnC P w K mg base CX0 1 "_law_draw" ["pool", "many"] (spV true 2 WDrawW)) : FnC P w K mg base CX0 1 "_law_draw" ["pool", "many"] (spV true 2 WDraw) := by
  obtain ⟨f, fd, F, a, b, d⟩ := c.ex
  refine ⟨f, fd, F.imp fun vs H Q E h => ?_, a, b, d⟩
  obtain ⟨us, pp, q, G, post, ew, k, l, vw, pl, ⟨m, e, m0, m1, hp⟩, r⟩ := h
  exact ⟨us, pp, q, G, post, ew, k, l, vw, pl, ⟨m, e, m0, log_small m0 m1, hp⟩, r⟩
end

section
variable {P : Program} {w : World} {K : PySem.W.Frag} {mg : Str → Option Value} {base : Heap} {cR iR cK iK cB fB pB aB cL : Addr} {fdB fdP fdA : FuncData} {f : Addr} {fd : FuncData}
/-! ### _law_same, of equal data -/
theorem sc_law_same : FnScope ["actual", "due", "k"] ["actual", "due"] (defScope s_law_same) := ⟨rfl, rfl, rfl, by decide +kernel, rfl, by decide +kernel, by decide +kernel⟩
theorem eqU_int (i : Int) : eqU (.int i) (.int i) = some true := by
  show some (i == i) = some true
  rw [beq_self_eq_true]
theorem fEq_self {x : U} (h : eqU x x = some true) : fEq x x = some (.bl true) := by
  unfold fEq
  rw [h]
  rfl
def plU : Nat → U → Bool
  | _, .non => true
  | _, .bl _ => true
  | _, .int _ => true
  | _, .str s => decide (eqU (.str s) (.str s) = some true)
  | n + 1, .lst us => us.all (plU n) && decide (us.length ≤ 100000)
  | n + 1, .tup us => us.all (plU n) && decide (us.length ≤ 100000)
  | _, _ => false
def WSame (n : Nat) : Wf := fun us post _ => ∃ x, us = [x, x] ∧ plU n x = true ∧ post (.bl true)
theorem fNe_len (n : Nat) : fNe (.int (n : Int)) (.int (n : Int)) = some (.bl false) := by
  show some (U.bl (!((n : Int) == (n : Int)))) = _
  rw [beq_self_eq_true]
  rfl
theorem same_body (M : MF P w K mg cR iR cK iK cB fB pB aB cL) (F : Fun K "_law_same" "_law_same" s_law_same f fd) {n k : Nat} {WR : Wf} (F_law_same : FnC P w K mg base CX0 k "_law_same" ["actual", "due"] (spV false 2 WR)) (hR : ∀ m, n = m + 1 → WR = WSame m) : FnOk P w K mg base CX0 (k + 2) f fd ["actual", "due"] (spV false 2 (WSame n)) := by
  refine okV (k := k + 1) F sc_law_same rfl (by decide) fun cdv A outer s H E hr => ⟨_, (pss_cons (ps_if (pt_cmpR op_isN (pv 1) pe_non (nomark _))
      (pss_one (ps_ret (pe_cmpR op_isN (pv 0) pe_non (nomark _)))) pss_nil)
      (pss_cons (ps_if (PW.pt (pw_or (pt_val (pe_callB (call_isiK' K) (by rfl) M.m_isinstance (by decide +kernel) (pa_cons (pv 1) (pa_cons (pe_bltn (v := .ty "bool") (by rfl) M.m_bool (by decide +kernel) rfl) pa_nil)))) (pw_or1 (pt_val (pe_callB (call_isiK' K) (by rfl) M.m_isinstance (by decide +kernel) (pa_cons (pv 0) (pa_cons (pe_bltn (v := .ty "bool") (by rfl) M.m_bool (by decide +kernel) rfl) pa_nil)))))))
      (pss_one (ps_ret (pe_and (pe_callB (call_isiK' K) (by rfl) M.m_isinstance (by decide +kernel) (pa_cons (pv 1) (pa_cons (pe_bltn (v := .ty "bool") (by rfl) M.m_bool (by decide +kernel) rfl) pa_nil))) (pe_and (pe_callB (call_isiK' K) (by rfl) M.m_isinstance (by decide +kernel) (pa_cons (pv 0) (pa_cons (pe_bltn (v := .ty "bool") (by rfl) M.m_bool (by decide +kernel) rfl) pa_nil))) (pe_one (pe_cmpR (op_eqV K hr.units) (pv 0) (pv 1) (nomark _))))))) pss_nil)
      (pss_cons (ps_if (pt_val (pe_callB (call_isiK' K) (by rfl) M.m_isinstance (by decide +kernel) (pa_cons (pv 1) (pa_cons (pe_bltn (v := .ty "int") (by rfl) M.m_int (by decide +kernel) rfl) pa_nil))))
      (pss_one (ps_ret (pe_and (pe_callB (call_isiK' K) (by rfl) M.m_isinstance (by decide +kernel) (pa_cons (pv 0) (pa_cons (pe_bltn (v := .ty "int") (by rfl) M.m_int (by decide +kernel) rfl) pa_nil))) (pe_one (pe_cmpR (op_eqV K hr.units) (pv 0) (pv 1) (nomark _)))))) pss_nil)
      (pss_cons (ps_if (pt_val (pe_callB (call_isiK' K) (by rfl) M.m_isinstance (by decide +kernel) (pa_cons (pv 1) (pa_cons (pe_bltn (v := .ty "str") (by rfl) M.m_str (by decide +kernel) rfl) pa_nil))))
      (pss_one (ps_ret (pe_and (pe_callB (call_isiK' K) (by rfl) M.m_isinstance (by decide +kernel) (pa_cons (pv 0) (pa_cons (pe_bltn (v := .ty "str") (by rfl) M.m_str (by decide +kernel) rfl) pa_nil))) (pe_one (pe_cmpR (op_eqV K hr.units) (pv 0) (pv 1) (nomark _)))))) pss_nil)
      (pss_cons (ps_if (PW.pt (pw_or (pt_cmpR (op_neV K hr.units) (pe_callB (call_isiK' K) (by rfl) M.m_isinstance (by decide +kernel) (pa_cons (pv 1) (pa_cons (pe_bltn (v := .ty "list") (by rfl) M.m_list (by decide +kernel) rfl) pa_nil))) (pe_callB (call_isiK' K) (by rfl) M.m_isinstance (by decide +kernel) (pa_cons (pv 0) (pa_cons (pe_bltn (v := .ty "list") (by rfl) M.m_list (by decide +kernel) rfl) pa_nil))) (nomark _)) (pw_or1 (pt_not (pt_val (pe_callB (call_isiTK K) (by rfl) M.m_isinstance (by decide +kernel) (pa_cons (pv 0) (pa_cons (pe_tup (pa_cons (pe_bltn (v := .ty "list") (by rfl) M.m_list (by decide +kernel) rfl) (pa_cons (pe_bltn (v := .ty "tuple") (by rfl) M.m_tuple (by decide +kernel) rfl) pa_nil))) pa_nil))))))))
      (pss_one (ps_ret pe_bl)) pss_nil)
      (pss_cons (ps_if (pt_cmpR (op_neV K hr.units) (pe_callB (call_lenV K) (by rfl) M.m_len PySem.boot_len (pa_cons (pv 0) pa_nil)) (pe_callB (call_lenV K) (by rfl) M.m_len PySem.boot_len (pa_cons (pv 1) pa_nil)) (nomark _))
      (pss_one (ps_ret pe_bl)) pss_nil)
      (pss_one (ps_ret (pe_cmpR (op_eqV K hr.units) (pe_callB (call_lenV K) (by rfl) M.m_len PySem.boot_len (pa_cons (pe_lc (own := [("k", 2)]) rfl sc_law_same.nd (pi_range1 (by rfl) M.m_range (pa_cons (pe_callB (call_lenV K) (by rfl) M.m_len PySem.boot_len (pa_cons (pv 1) pa_nil)) pa_nil)) (blkOk_by (N := ["actual", "due", "k"]) (sc := defScope s_law_same) (by decide +kernel)) (fun _ _ _ _ _ => (pg_name (i := 2) sc_law_same.nd rfl (Or.inl rfl))) (fun _ _ _ _ _ => (pts_one (pt_not (pt_val (pe_f F_law_same hr (by omega) pass0 (pa_cons (pe_ix (ix_seqK K) (pv 0) (pv 2) (fun _ _ => rfl)) (pa_cons (pe_ix (ix_seqK K) (pv 1) (pv 2) (fun _ _ => rfl)) pa_nil))))))) (fun _ _ _ _ _ => (pv 2))) pa_nil)) pe_int (nomark _)))))))))), fun Z hb hE hs => ⟨_, (s_seq (s_if (v_test (v_op o_isN (TrE.b v_var) (TrE.b v_non)))
      (s_ret (v_op o_isN (TrE.b v_var) (TrE.b v_non))) s_nil)
      (s_seq (s_if (v_or (v_tB (v_cb (b_isi (T := "bool") (cs := [cB]) (hc := M.kinds)) (v_consB (TrE.b v_var) (v_consB (TrE.b v_ty) v_nilB)))) (v_tB (v_cb (b_isi (T := "bool") (cs := [cB]) (hc := M.kinds)) (v_consB (TrE.b v_var) (v_consB (TrE.b v_ty) v_nilB)))))
      (s_ret (v_andV (v_cb (b_isi (T := "bool") (cs := [cB]) (hc := M.kinds)) (v_consB (TrE.b v_var) (v_consB (TrE.b v_ty) v_nilB))) (v_andV (v_cb (b_isi (T := "bool") (cs := [cB]) (hc := M.kinds)) (v_consB (TrE.b v_var) (v_consB (TrE.b v_ty) v_nilB))) (v_op o_eq (TrE.b v_var) (TrE.b v_var))))) s_nil)
      (s_seq (s_if (v_tB (v_cb (b_isi (T := "int") (cs := [cB]) (hc := M.kinds)) (v_consB (TrE.b v_var) (v_consB (TrE.b v_ty) v_nilB))))
      (s_ret (v_andV (v_cb (b_isi (T := "int") (cs := [cB]) (hc := M.kinds)) (v_consB (TrE.b v_var) (v_consB (TrE.b v_ty) v_nilB))) (v_op o_eq (TrE.b v_var) (TrE.b v_var)))) s_nil)
      (s_seq (s_if (v_tB (v_cb (b_isi (T := "str") (cs := [cB]) (hc := M.kinds)) (v_consB (TrE.b v_var) (v_consB (TrE.b v_ty) v_nilB))))
      (s_ret (v_andV (v_cb (b_isi (T := "str") (cs := [cB]) (hc := M.kinds)) (v_consB (TrE.b v_var) (v_consB (TrE.b v_ty) v_nilB))) (v_op o_eq (TrE.b v_var) (TrE.b v_var)))) s_nil)
      (s_seq (s_if (v_or (v_test (v_op o_ne (TrE.b (v_cb (b_isi (T := "list") (cs := [cB]) (hc := M.kinds)) (v_consB (TrE.b v_var) (v_consB (TrE.b v_ty) v_nilB)))) (TrE.b (v_cb (b_isi (T := "list") (cs := [cB]) (hc := M.kinds)) (v_consB (TrE.b v_var) (v_consB (TrE.b v_ty) v_nilB)))))) (v_not (v_tB (v_cb (b_isi2 (T1 := "list") (T2 := "tuple") (cs := [cB]) (hc := M.kinds)) (v_consB (TrE.b v_var) (v_consB (TrE.b (v_tup (v_cons v_ty (v_cons v_ty v_nil)))) v_nilB))))))
      (s_ret v_bl) s_nil)
      (s_seq (s_if (v_test (v_op o_ne (TrE.b (v_cb b_len (v_consB (TrE.b v_var) v_nilB))) (TrE.b (v_cb b_len (v_consB (TrE.b v_var) v_nilB)))))
      (s_ret v_bl) s_nil)
      (s_ret (v_op o_eq (TrE.b (v_cb b_len (v_consB (TrF.b (v_lc (i_rng1 (v_cons (v_cb b_len (v_consB (TrE.b v_var) v_nilB)) v_nil)) (g_name (by decide)) (v_not (v_tB (v_call ple0 (v_cons (v_op o_ix (TrE.b v_var) (TrE.b v_var)) (v_cons (v_op o_ix (TrE.b v_var) (TrE.b v_var)) v_nil))))) v_var)) v_nilB))) (TrE.b v_int))))))))), fun us post hl hW => ?_⟩⟩
  obtain ⟨x, rfl, hp, p⟩ := hW
  cases x with
  | non => exact ⟨_, rfl, _, rfl, true, rfl, iteT ⟨_, rfl, _, rfl, p⟩⟩
  | bl b =>
    refine ⟨_, rfl, _, rfl, false, rfl, iteF ⟨_, rfl, _, rfl, trivial, true, rfl, iteT (iteT ?_)⟩⟩
    refine ⟨_, rfl, _, rfl, trivial, true, rfl, iteT ⟨_, rfl, _, rfl, trivial, true, rfl, iteT ⟨_, rfl, _, rfl, _, fEq_self ?_, p⟩⟩⟩
    cases b <;> rfl
  | int i =>
    refine ⟨_, rfl, _, rfl, false, rfl, iteF ⟨_, rfl, _, rfl, trivial, false, rfl, iteF ⟨_, rfl, _, rfl, trivial, false, rfl, iteF ?_⟩⟩⟩
    exact ⟨_, rfl, _, rfl, trivial, true, rfl, iteT ⟨_, rfl, _, rfl, trivial, true, rfl, iteT ⟨_, rfl, _, rfl, _, fEq_self (eqU_int i), p⟩⟩⟩
  | str z =>
    refine ⟨_, rfl, _, rfl, false, rfl, iteF ⟨_, rfl, _, rfl, trivial, false, rfl, iteF ⟨_, rfl, _, rfl, trivial, false, rfl, iteF ?_⟩⟩⟩
    refine ⟨_, rfl, _, rfl, trivial, false, rfl, iteF ⟨_, rfl, _, rfl, trivial, true, rfl, iteT ?_⟩⟩
    exact ⟨_, rfl, _, rfl, trivial, true, rfl, iteT ⟨_, rfl, _, rfl, _, fEq_self (of_decide_eq_true (by cases n <;> exact hp)), p⟩⟩
  | lst us =>
    cases n with
    | zero => cases hp
    | succ m =>
      cases hR m rfl
      rw [plU, Bool.and_eq_true] at hp
      have hz := of_decide_eq_true hp.2
      refine ⟨_, rfl, _, rfl, false, rfl, iteF ⟨_, rfl, _, rfl, trivial, false, rfl, iteF ⟨_, rfl, _, rfl, trivial, false, rfl, iteF ?_⟩⟩⟩
      refine ⟨_, rfl, _, rfl, trivial, false, rfl, iteF ⟨_, rfl, _, rfl, trivial, false, rfl, iteF ?_⟩⟩
      refine ⟨_, rfl, _, rfl, trivial, _, rfl, _, rfl, trivial, _, rfl, false, rfl, iteF ⟨_, rfl, by show 2 ≤ 100000; decide, _, rfl, trivial, true, rfl, iteF ?_⟩⟩
      refine ⟨_, rfl, _, _, rfl, rfl, _, rfl, _, _, rfl, rfl, _, fNe_len _, false, rfl, iteF ?_⟩
      refine ⟨_, rfl, _, us.length, rfl, rfl, (us.length : Int), rfl, by omega, by omega, fun i acc => acc = [], rfl, ?_, ?_⟩
      · rintro i u acc e ha
        have hi : i < us.length ∧ u = .int (0 + (i : Int)) := by
          have l : i < us.length := by
            have := (List.getElem?_eq_some_iff.mp e).1
            rw [upto_len] at this
            simpa using this
          rw [Int.toNat_natCast, upto_get l] at e
          cases e
          exact ⟨l, rfl⟩
        obtain ⟨hi, rfl⟩ := hi
        obtain ⟨y, hy⟩ : ∃ y, us[i]? = some y := ⟨_, List.getElem?_eq_getElem hi⟩
        have hix : fIx (.lst us) (.int (0 + (i : Int))) = some y := by
          rw [Int.zero_add]
          exact atI_int (by omega) (by rw [Int.toNat_natCast]; exact hy)
        refine ⟨_, rfl, _, rfl, _, hix, _, rfl, _, rfl, _, hix, rfl, y, rfl, List.all_eq_true.mp hp.1 y (List.mem_of_getElem? hy), true, rfl, iteF ha⟩
      · rintro acc rfl
        exact ⟨_, _, rfl, rfl, _, rfl, p⟩
  | tup us =>
    cases n with
    | zero => cases hp
    | succ m =>
      cases hR m rfl
      rw [plU, Bool.and_eq_true] at hp
      have hz := of_decide_eq_true hp.2
      refine ⟨_, rfl, _, rfl, false, rfl, iteF ⟨_, rfl, _, rfl, trivial, false, rfl, iteF ⟨_, rfl, _, rfl, trivial, false, rfl, iteF ?_⟩⟩⟩
      refine ⟨_, rfl, _, rfl, trivial, false, rfl, iteF ⟨_, rfl, _, rfl, trivial, false, rfl, iteF ?_⟩⟩
      refine ⟨_, rfl, _, rfl, trivial, _, rfl, _, rfl, trivial, _, rfl, false, rfl, iteF ⟨_, rfl, by show 2 ≤ 100000; decide, _, rfl, trivial, true, rfl, iteF ?_⟩⟩
      refine ⟨_, rfl, _, _, rfl, rfl, _, rfl, _, _, rfl, rfl, _, fNe_len _, false, rfl, iteF ?_⟩
      refine ⟨_, rfl, _, us.length, rfl, rfl, (us.length : Int), rfl, by omega, by omega, fun i acc => acc = [], rfl, ?_, ?_⟩
      · rintro i u acc e ha
        have hi : i < us.length ∧ u = .int (0 + (i : Int)) := by
          have l : i < us.length := by
            have := (List.getElem?_eq_some_iff.mp e).1
            rw [upto_len] at this
            simpa using this
          rw [Int.toNat_natCast, upto_get l] at e
          cases e
          exact ⟨l, rfl⟩
        obtain ⟨hi, rfl⟩ := hi
        obtain ⟨y, hy⟩ : ∃ y, us[i]? = some y := ⟨_, List.getElem?_eq_getElem hi⟩
        have hix : fIx (.tup us) (.int (0 + (i : Int))) = some y := by
          rw [Int.zero_add]
          exact atI_int (by omega) (by rw [Int.toNat_natCast]; exact hy)
        refine ⟨_, rfl, _, rfl, _, hix, _, rfl, _, rfl, _, hix, rfl, y, rfl, List.all_eq_true.mp hp.1 y (List.mem_of_getElem? hy), true, rfl, iteF ha⟩
      · rintro acc rfl
        exact ⟨_, _, rfl, rfl, _, rfl, p⟩
  | dic _ => cases n <;> cases hp
  | dit _ => cases n <;> cases hp
  | ins _ _ => cases n <;> cases hp
  | pool => cases n <;> cases hp
  | ty _ => cases n <;> cases hp
theorem ok_law_same (M : MF P w K mg cR iR cK iK cB fB pB aB cL) (F : Fun K "_law_same" "_law_same" s_law_same f fd) (gf : mg "_law_same" = some (.ref f)) (bf : Binds K fd ["actual", "due"] []) : ∀ n, FnOk P w K mg base CX0 (2 * n + 2) f fd ["actual", "due"] (spV false 2 (WSame n))
  | 0 => same_body M F (k := 0) (WR := fun _ _ _ => False) ⟨f, fd, ⟨fun _ _ _ _ z => by obtain ⟨_, _, _, _, _, _, _, _, _, _, z, _⟩ := z; exact z.elim, fun _ _ _ _ _ _ _ _ _ _ _ _ _ z => by obtain ⟨_, _, _, _, _, _, _, _, _, _, z, _⟩ := z; exact z.elim⟩, gf, F.kp, bf⟩ fun m e => nomatch e
  | n + 1 => same_body M F (k := 2 * n + 2) ⟨f, fd, ok_law_same M F gf bf n, gf, F.kp, bf⟩ fun m e => by
    cases e
    rfl
end

end K06
namespace K06
open PySem PySem.Spec PyProof.Rows L2 SL SV
local macro_rules | `(tactic| ac_rfl) => `(tactic| (repeat first | refine ⟨_, rfl, ?_⟩ | refine ⟨rfl, ?_⟩ | refine iteT ?_ | refine iteF ?_ | refine ⟨trivial, ?_⟩ | refine ⟨Nat.le_of_ble_eq_true rfl, ?_⟩ | refine ⟨_, _, rfl, rfl, ?_⟩ | refine ⟨_, _, rfl, ?_⟩ | refine ⟨_, .inl rfl, ?_⟩ | refine ⟨_, .inr rfl, ?_⟩ | refine .inl ⟨_, rfl, ?_⟩ | refine .inr ⟨_, rfl, ?_⟩ | refine ⟨_, _, .inl rfl, ?_⟩ | refine ⟨_, _, .inr rfl, ?_⟩ | refine ⟨by decide, ?_⟩))
section
variable {P : Program} {w : World} {K : PySem.W.Frag} {mg : Str → Option Value} {base : Heap} {cR iR cK iK cB fB pB aB cL : Addr} {fdB fdP fdA : FuncData} {f : Addr} {fd : FuncData}
/-! ### _law_signs -/
def sgs : List Nat := SG.cps.toList
theorem erase_map (l : List Nat) (k : Nat) : (l.map chU).eraseIdx k = (l.eraseIdx k).map chU := by
  rw [List.eraseIdx_eq_take_drop_succ, List.eraseIdx_eq_take_drop_succ, List.map_append, List.map_take, List.map_drop]
theorem pop_perm {l f : List Nat} {k c : Nat} (h : l[k]? = some c) : (l.eraseIdx k ++ (f ++ [c])).Perm (l ++ f) := by
  have hk := (List.getElem?_eq_some_iff.mp h)
  obtain ⟨hk, e⟩ := hk
  have p1 : (c :: l.eraseIdx k).Perm l := by
    have el : l = l.take k ++ c :: l.drop (k + 1) := by
      rw [← e, List.getElem_cons_drop, List.take_append_drop]
    rw [List.eraseIdx_eq_take_drop_succ]
    exact List.perm_middle.symm.trans (by rw [← el])
  have p2 : (l.eraseIdx k ++ (f ++ [c])).Perm (l.eraseIdx k ++ (c :: f)) := List.Perm.append_left _ (List.perm_append_singleton c f)
  have p3 : (l.eraseIdx k ++ (c :: f)).Perm (c :: (l.eraseIdx k ++ f)) := List.perm_middle
  exact p2.trans (p3.trans (List.Perm.append_right f p1))
theorem chs_str (f : List Nat) : f.map chU = (f.map fun c => (⟨#[c]⟩ : Str)).map U.str := by
  rw [List.map_map]
  rfl
theorem sc_law_signs : FnScope ["pool", "many", "left", "found", "k"] ["pool", "many"] (defScope s_law_signs) := ⟨rfl, rfl, rfl, by decide +kernel, rfl, by decide +kernel, by decide +kernel⟩
def WSignsD : Wf := fun us post _ => ∃ n : Nat, us = [.pool, .int n] ∧ n ≤ 10 ∧ ∀ (ss : List Str) (f : List Nat), ss.Perm (f.map fun c => (⟨#[c]⟩ : Str)) → f.length = n → f.Nodup → (∀ c ∈ f, c ∈ sgs) → sortedS ss = true → post (.lst (ss.map U.str))
theorem ok_law_signs (M : MF P w K mg cR iR cK iK cB fB pB aB cL) (F_law_draw : FnC P w K mg base CX0 1 "_law_draw" ["pool", "many"] (spV true 2 WDraw)) (F : Fun K "_law_signs" "_law_signs" s_law_signs f fd) : FnOk P w K mg base CX0 2 f fd ["pool", "many"] (spV true 2 WSignsD) := by
  refine okV (k := 1) F sc_law_signs rfl (by decide) fun cdv A outer s H E hr => ⟨_, (pss_cons (ps_set (i := 2) sc_law_signs.nd rfl (Or.inl rfl) (pe_callTy (call_list_txt rfl) (by rfl) M.m_list (by decide +kernel) (pa_cons pe_str pa_nil)))
      (pss_cons (ps_if (pt_cmpR op_gt (pe_f F_law_draw hr (by omega) pass0 (pa_cons (pv 0) (pa_cons pe_int pa_nil))) pe_int (nomark _))
      (pss_one (ps_set (i := 2) sc_law_signs.nd rfl (Or.inl rfl) (pe_callTy (call_list_txt rfl) (by rfl) M.m_list (by decide +kernel) (pa_cons pe_str pa_nil)))) pss_nil)
      (pss_cons (ps_set (i := 3) sc_law_signs.nd rfl (Or.inl rfl) (pe_lst pa_nil))
      (pss_cons (ps_for PassesOwn.never rfl (pi_range1 (by rfl) M.m_range (pa_cons (pv 1) pa_nil)) (pg_name (i := 4) sc_law_signs.nd rfl (Or.inl rfl))
      (pss_one (ps_expr (pe_bm PySem.F.plainAttrs_list PySem.F.slot_list_append PySem.F.type_list_append mt_append (pv 3) (pa_cons (pe_bm PySem.F.plainAttrs_list PySem.F.slot_list_pop PySem.F.type_list_pop mt_popAt (pv 2) (pa_cons (pe_f F_law_draw hr (by omega) pass0 (pa_cons (pv 0) (pa_cons (pe_callB (call_lenV K) (by rfl) M.m_len PySem.boot_len (pa_cons (pv 2) pa_nil)) pa_nil))) pa_nil)) pa_nil)))))
      (pss_one (ps_ret (pe_callB (cr_sortSK K) (by rfl) M.m_sorted (by decide +kernel) (pa_cons (pv 3) pa_nil)))))))), fun Z hb hE hs => ⟨_, (s_seq (s_setO (v_cbF b_listS (v_consB (TrE.b v_str) v_nilB)))
      (s_cut (s_if (v_test (v_op o_IB (TrE.b (v_call (ple1 (by rw [hb])) (v_cons v_var (v_cons v_int v_nil)))) (TrE.b v_int)))
      (s_setO (v_cbF b_listS (v_consB (TrE.b v_str) v_nilB))) s_nil)
      (s_seq (s_setO (v_lst v_nil))
      (s_seq (s_for (vs := [4]) (i_rng1 (v_cons v_var v_nil)) (g_name (by decide))
      (s_appPop (v_call (ple1 (by rw [hb])) (v_cons v_var (v_cons (v_cb b_len (v_consB v_own v_nilB)) v_nil)))))
      (s_ret (TrF.e (v_cbF b_sortS (v_consB v_own v_nilB)))))))), fun us post hl hW => ?_⟩⟩
  obtain ⟨n, rfl, n10, p⟩ := hW
  refine ⟨_, rfl, ?_⟩
  refine ⟨fun ρ => ∃ l : List Nat, ρ = [.fz .pool, .fz (.int n), .ow (.lst (l.map chU)), .no, .no] ∧ 12 ≤ l.length ∧ l.length ≤ 36 ∧ l.Nodup ∧ ∀ c ∈ l, c ∈ sgs, ⟨_, rfl, rfl, 3, rfl, by decide, by decide, fun d d0 d1 => ⟨_, rfl, _, rfl, ?_⟩⟩, ?_⟩
  · by_cases c : 0 < d
    · rw [decide_eq_true c]
      exact iteT ⟨_, rfl, ("abcdefghijkl" : Str).cps.toList, rfl, by decide +kernel, by decide +kernel, by decide +kernel, by decide +kernel⟩
    · rw [decide_eq_false c]
      exact iteF ⟨sgs, rfl, by decide +kernel, by decide +kernel, by decide +kernel, fun c h => h⟩
  rintro _ ⟨l0, rfl, l12, l36, nd0, in0⟩
  refine ⟨by show 0 ≤ 100000; decide, ?_⟩
  refine ⟨_, rfl, (n : Int), rfl, by omega, by omega, fun k ρ => ∃ (l f : List Nat) (a4 : Cell), ρ = [.fz .pool, .fz (.int n), .ow (.lst (l.map chU)), .ow (.lst (f.map chU)), a4] ∧ f.length = k ∧ l.length + k = l0.length ∧ (l ++ f).Nodup ∧ ∀ c ∈ l ++ f, c ∈ sgs, ⟨l0, [], _, rfl, rfl, rfl, by rw [List.append_nil]; exact nd0, fun c h => in0 c (by rw [List.append_nil] at h; exact h)⟩, ?_, ?_⟩
  · rintro k u _ e ⟨l, f, a4, rfl, lf, ll, nd, al⟩
    obtain ⟨hk, rfl⟩ := upto_at0 e
    have hk : k < n := by simpa using hk
    refine ⟨by decide, f.map chU, l.map chU, rfl, by rw [List.length_map]; omega, rfl, _, rfl, _, rfl, _, l.length, rfl, by show some (l.map chU).length = _; rw [List.length_map], rfl, (l.length : Int), rfl, by omega, by omega, fun d d0 d1 => ?_⟩
    obtain ⟨c, hc⟩ : ∃ c, l[d.toNat]? = some c := ⟨_, List.getElem?_eq_getElem (by omega)⟩
    have pp := pop_perm (f := f) hc
    refine ⟨d, chU c, rfl, d0, by omega, by rw [List.getElem?_map, hc]; rfl, l.eraseIdx d.toNat, f ++ [c], .fz (.int (k : Int)), ?_, by rw [List.length_append, lf]; rfl, ?_, pp.nodup_iff.mpr nd, fun x hx => al x (pp.mem_iff.mp hx)⟩
    · rw [erase_map, List.map_append]
      rfl
    · rw [List.length_eraseIdx_of_lt (by omega)]
      omega
  · rintro _ ⟨l, f, a4, rfl, lf, ll, nd, al⟩
    rw [upto_len, Int.toNat_natCast] at lf
    refine ⟨_, rfl, f.map fun c => (⟨#[c]⟩ : Str), by rw [← chs_str], by rw [List.length_map]; omega, fun ms pm so => p ms f pm lf (List.nodup_append.mp nd).2.1 (fun c hc => al c (List.mem_append_right _ hc)) so⟩
end

section
variable {P : Program} {w : World} {K : PySem.W.Frag} {mg : Str → Option Value} {base : Heap} {cR iR cK iK cB fB pB aB cL : Addr} {fdB fdP fdA : FuncData} {f : Addr} {fd : FuncData}
def oneS (c : Nat) : Str := ⟨#[c]⟩
theorem joinL_ones : ∀ cs : List Nat, TL.joinL [] (cs.map fun c => [c]) = cs
  | [] => rfl
  | [_] => rfl
  | a :: b :: r => by
    have := joinL_ones (b :: r)
    show [a] ++ ([] ++ TL.joinL [] ((b :: r).map fun c => [c])) = a :: b :: r
    rw [this]
    rfl
theorem join_ones (cs : List Nat) : (Txt.join "" (cs.map oneS)).cps.toList = cs := by
  have e := TL.tl_join ("" : Str) (cs.map oneS)
  rw [List.map_map, show (TL.tl ∘ oneS) = fun c => [c] from rfl, show TL.tl ("" : Str) = [] from rfl, joinL_ones] at e
  have e2 := congrArg TL.tl (TL.join_eq ("" : Str) (cs.map oneS))
  rw [e] at e2
  exact e2
theorem sum_ones (cs : List Nat) : ((cs.map oneS).map (·.length)).sum = cs.length := by
  induction cs with
  | nil => rfl
  | cons c r ih =>
    rw [List.map_cons, List.map_cons, List.sum_cons, ih, List.length_cons]
    show 1 + r.length = r.length + 1
    omega
end

section
variable {P : Program} {w : World} {K : PySem.W.Frag} {mg : Str → Option Value} {base : Heap} {cR iR cK iK cB fB pB aB cL : Addr} {fdB fdP fdA : FuncData} {f : Addr} {fd : FuncData}
/-! ### signs of one character -/
theorem tf {b : Bool} {P : Prop} (h : b = true) (z : b = false) : P := by
  rw [h] at z
  cases z
theorem ones_lt (a b : Nat) : ltU (.str (oneS a)) (.str (oneS b)) = some (decide (a < b)) := by
  have e : decide ([a] < [b]) = decide (a < b) := by rw [Bool.eq_iff_iff, decide_eq_true_eq, decide_eq_true_eq, SL.one_lt]
  exact congrArg some e
theorem ris_cons (x y : U) (r : List U) : risU (x :: y :: r) = ((ltU x y).getD false && risU (y :: r)) := rfl
theorem ris_ones : ∀ cs : List Nat, cs.Pairwise (· < ·) → risU ((cs.map oneS).map U.str) = true
  | [], _ => rfl
  | [_], _ => rfl
  | a :: b :: r, h => by
    have ih := ris_ones (b :: r) (List.pairwise_cons.mp h).2
    have := (List.pairwise_cons.mp h).1 b (List.mem_cons_self ..)
    show risU (.str (oneS a) :: .str (oneS b) :: _) = true
    rw [ris_cons, ones_lt, decide_eq_true this]
    exact ih
theorem ones_ris : ∀ cs : List Nat, risU ((cs.map oneS).map U.str) = true → cs.Pairwise (· < ·)
  | [], _ => .nil
  | [_], _ => List.pairwise_singleton ..
  | a :: b :: r, h => by
    have h' : risU (.str (oneS a) :: .str (oneS b) :: (r.map oneS).map U.str) = true := h
    rw [ris_cons, ones_lt, Bool.and_eq_true] at h'
    have ih := ones_ris (b :: r) h'.2
    have lt : a < b := of_decide_eq_true h'.1
    refine List.pairwise_cons.mpr ⟨fun x hx => ?_, ih⟩
    rcases List.mem_cons.mp hx with rfl | hx
    · exact lt
    · exact Nat.lt_trans lt ((List.pairwise_cons.mp ih).1 x hx)
theorem twice_not {cs : List Nat} (h : cs ≠ []) : risU (((cs ++ cs).map oneS).map U.str) = false := by
  cases c : risU (((cs ++ cs).map oneS).map U.str) with
  | false => rfl
  | true =>
    have p := List.pairwise_append.mp (ones_ris _ c)
    cases cs with
    | nil => exact absurd rfl h
    | cons a r => exact absurd (p.2.2 a (List.mem_cons_self ..) a (List.mem_cons_self ..)) (Nat.lt_irrefl a)
theorem sorted_lt : ∀ {cs : List Nat}, cs.Nodup → sortedS (cs.map oneS) = true → cs.Pairwise (· < ·)
  | [], _, _ => .nil
  | [_], _, _ => List.pairwise_singleton ..
  | a :: b :: r, nd, h => by
    have h' : (!PySem.Spec.ltCps [b] [a] && sortedS ((b :: r).map oneS)) = true := h
    rw [Bool.and_eq_true, PyProof.Rows.ltCps_eq, Bool.not_eq_true', decide_eq_false_iff_not, SL.one_lt] at h'
    have ih := sorted_lt (cs := b :: r) (List.nodup_cons.mp nd).2 h'.2
    have ne : a ≠ b := fun e => (List.nodup_cons.mp nd).1 (by rw [e]; exact List.mem_cons_self ..)
    refine List.pairwise_cons.mpr ⟨fun x hx => ?_, ih⟩
    rcases List.mem_cons.mp hx with rfl | hx
    · omega
    · have := (List.pairwise_cons.mp ih).1 x hx
      omega
theorem sign_ones : ∀ c ∈ sgs, signU (.str (oneS c)) = true := by decide +kernel
theorem drawn_signs {ss : List Str} {f : List Nat} (hp : ss.Perm (f.map fun c => (⟨#[c]⟩ : Str))) (nd : f.Nodup) (so : sortedS ss = true) (hs : ∀ c ∈ f, c ∈ sgs) : ∃ g : List Nat, ss = g.map oneS ∧ g.length = f.length ∧ g.Pairwise (· < ·) ∧ ∀ c ∈ g, c ∈ sgs := by
  obtain ⟨g, pg, rfl⟩ := SL.perm_ch hp
  exact ⟨g, rfl, pg.length_eq, sorted_lt (pg.nodup_iff.mpr nd) so, fun c hc => hs c (pg.mem_iff.mp hc)⟩
theorem ones_nodup {g : List Nat} (h : g.Pairwise (· < ·)) : (g.map oneS).Nodup := by
  rw [List.Nodup, List.pairwise_map]
  exact h.imp fun {a b} lt e => by
    have : a = b := SL.ch_inj e
    omega
theorem addI {a b c : Int} (h : a + b = c) : fAdd (.int a) (.int b) = some (.int c) := by
  rw [← h]
  rfl
/-- a thing picked from a menu -/
theorem pickM (P : U → Prop) {us : List U} {n : Nat} {post : U → Prop} {d : Int} (d0 : 0 ≤ d) (d1 : d < n) (hl : us.length = n) (h : ∀ u ∈ us, P u) (k : ∀ u, P u → post u) : ∃ u, fIx (.lst us) (.int d) = some u ∧ post u := by
  obtain ⟨u, hu⟩ : ∃ u, us[d.toNat]? = some u := ⟨_, List.getElem?_eq_getElem (by omega)⟩
  exact ⟨u, atI_int d0 hu, k u (h u (List.mem_of_getElem? hu))⟩
theorem catL_ok {xs ys : List U} (h : xs.length + ys.length ≤ 100000) : fCatL (.lst xs) (.lst ys) = some (.lst (xs ++ ys)) := if_pos h
theorem tailL (us : List U) : fSlL (.lst us) (some 1) none = some (.lst (us.drop 1)) := by
  show some (U.lst (cutU us (some 1) none)) = _
  unfold cutU
  rw [show HT.sIx us.length us.length none = us.length from rfl, show HT.sIx us.length 0 (some 1) = min 1 us.length from HT.sIx_nat _ _ 1, List.take_of_length_le (by rw [List.length_drop]; exact Nat.le_refl _)]
  cases us <;> rfl
theorem cutU_one (us : List U) : cutU us (some 1) none = us.drop 1 := U.lst.inj (Option.some.inj (tailL us))
end

end K06
namespace K06
open PySem PySem.Spec PyProof.Rows L2 SL SV
local macro_rules | `(tactic| ac_rfl) => `(tactic| (repeat first | refine ⟨_, rfl, ?_⟩ | refine ⟨rfl, ?_⟩ | refine iteT ?_ | refine iteF ?_ | refine ⟨trivial, ?_⟩ | refine ⟨Nat.le_of_ble_eq_true rfl, ?_⟩ | refine ⟨_, _, rfl, rfl, ?_⟩ | refine ⟨_, _, rfl, ?_⟩ | refine ⟨_, .inl rfl, ?_⟩ | refine ⟨_, .inr rfl, ?_⟩ | refine .inl ⟨_, rfl, ?_⟩ | refine .inr ⟨_, rfl, ?_⟩ | refine ⟨_, _, .inl rfl, ?_⟩ | refine ⟨_, _, .inr rfl, ?_⟩ | refine ⟨by decide, ?_⟩))
section
variable {P : Program} {w : World} {K : PySem.W.Frag} {mg : Str → Option Value} {base : Heap} {cR iR cK iK cB fB pB aB cL : Addr} {fdB fdP fdA : FuncData} {f : Addr} {fd : FuncData}
/-! ### _law_power, _law_row_of -/
theorem sc_law_power : FnScope ["many", "found", "k"] ["many"] (defScope s_law_power) := ⟨rfl, rfl, rfl, by decide +kernel, rfl, by decide +kernel, by decide +kernel⟩
def WPower : Wf := fun us post _ => ∃ n : Nat, us = [.int n] ∧ n ≤ 100 ∧ post (.int ((2 ^ n : Nat) : Int))
theorem ok_law_power (M : MF P w K mg cR iR cK iK cB fB pB aB cL) (F : Fun K "_law_power" "_law_power" s_law_power f fd) : FnOk P w K mg base CX0 1 f fd ["many"] (spV false 1 WPower) := by
  refine okV (k := 0) F sc_law_power rfl (by decide) fun cdv A outer s H E hr => ⟨_, (pss_cons (ps_set (i := 1) sc_law_power.nd rfl (Or.inl rfl) pe_int)
      (pss_cons (ps_for PassesOwn.never rfl (pi_range1 (by rfl) M.m_range (pa_cons (pv 0) pa_nil)) (pg_name (i := 2) sc_law_power.nd rfl (Or.inl rfl))
      (pss_one (ps_set (i := 1) sc_law_power.nd rfl (Or.inl rfl) (pe_op (op_addU K) (pv 1) (pv 1)))))
      (pss_one (ps_ret (pv 1))))), fun Z hb hE hs => ⟨_, (s_seq (s_set v_int)
      (s_seq (s_for (vs := [2]) (i_rng1 (v_cons v_var v_nil)) (g_name (by decide))
      (s_set (v_op o_add (TrE.b v_var) (TrE.b v_var))))
      (s_ret v_var))), fun us post hl hW => ?_⟩⟩
  obtain ⟨n, rfl, hn, p⟩ := hW
  ac_rfl
  refine ⟨by omega, by omega, fun i ρ => ∃ c2 : Cell, ρ = [.fz (.int (n : Int)), .fz (.int ((2 ^ i : Nat) : Int)), c2], ⟨_, rfl⟩, ?_, ?_⟩
  · rintro i u _ e ⟨c2, rfl⟩
    refine ⟨_, rfl, _, rfl, _, rfl, .fz u, ?_⟩
    rw [Nat.pow_succ, Nat.mul_two, Int.natCast_add]
    rfl
  rintro _ ⟨c2, rfl⟩
  rw [upto_len, Int.toNat_natCast]
  exact ⟨_, rfl, p⟩
/-- the row of a number -/
def rowN (w n : Nat) : List Int := (List.range w).reverse.map fun j => ((n / 2 ^ j % 2 : Nat) : Int)
theorem rowN_succ (w n : Nat) : rowN (w + 1) n = ((n / 2 ^ w % 2 : Nat) : Int) :: rowN w n := by
  unfold rowN
  rw [List.range_succ, List.reverse_append]
  rfl
theorem rowN_len (w n : Nat) : (rowN w n).length = w := by
  unfold rowN
  rw [List.length_map, List.length_reverse, List.length_range]
theorem rowN_bits (w n : Nat) : bits (rowN w n) := fun c hc => by
  obtain ⟨j, _, rfl⟩ := List.mem_map.mp hc
  omega
theorem rowN_inj : ∀ {w n m : Nat}, n < 2 ^ w → m < 2 ^ w → rowN w n = rowN w m → n = m
  | 0, n, m, hn, hm, _ => by
    have : 2 ^ 0 = 1 := rfl
    omega
  | w + 1, n, m, hn, hm, e => by
    rw [rowN_succ, rowN_succ] at e
    have h1 := (List.cons.inj e).1
    have h2 := (List.cons.inj e).2
    have pw : 0 < 2 ^ w := Nat.pow_pos (by decide)
    have cut : ∀ x, rowN w (x % 2 ^ w) = rowN w x := fun x => by
      unfold rowN
      refine List.map_congr_left fun j hj => ?_
      have hj : j < w := List.mem_range.mp (List.mem_reverse.mp hj)
      congr 1
      have := Nat.testBit_mod_two_pow x w j
      rw [Nat.testBit_eq_decide_div_mod_eq, Nat.testBit_eq_decide_div_mod_eq] at this
      simp only [hj, decide_true, Bool.true_and, decide_eq_decide] at this
      have a := Nat.mod_two_eq_zero_or_one (x % 2 ^ w / 2 ^ j)
      have b := Nat.mod_two_eq_zero_or_one (x / 2 ^ j)
      omega
    have r := rowN_inj (w := w) (Nat.mod_lt n pw) (Nat.mod_lt m pw) (by rw [cut, cut]; exact h2)
    have p2 : 2 ^ (w + 1) = 2 ^ w * 2 := Nat.pow_succ ..
    have n1 := Nat.div_add_mod n (2 ^ w)
    have m1 := Nat.div_add_mod m (2 ^ w)
    have nl : n / 2 ^ w < 2 := Nat.div_lt_of_lt_mul (by rw [← p2]; exact hn)
    have ml : m / 2 ^ w < 2 := Nat.div_lt_of_lt_mul (by rw [← p2]; exact hm)
    have h3 := Int.ofNat.inj h1
    rw [Nat.mod_eq_of_lt nl, Nat.mod_eq_of_lt ml] at h3
    rw [← n1, ← m1, h3, r]
theorem div2 (a : Int) : fIIc (fun _ j => decide (0 < j ∧ j < 1073741824)) (fun i j => .int (i / j)) (.int a) (.int 2) = some (.int (a / 2)) := by
  simp [fIIc]
theorem mul2 (a : Int) : fMul (.int a) (.int 2) = some (.int (a * 2)) := by
  have h : cMul a 2 = true := by
    unfold cMul
    rw [Bool.or_eq_true]
    exact .inr (by decide)
  exact @if_pos _ _ h (Option U) _ _
theorem sc_law_row_of : FnScope ["number", "width", "cells", "k"] ["number", "width"] (defScope s_law_row_of) := ⟨rfl, rfl, rfl, by decide +kernel, rfl, by decide +kernel, by decide +kernel⟩
def WRowNum : Wf := fun us post _ => ∃ n w : Nat, us = [.int n, .int w] ∧ n < 1000 ∧ w ≤ 100 ∧ post (rowV (rowN w n))
theorem ok_law_row_of (M : MF P w K mg cR iR cK iK cB fB pB aB cL) (F : Fun K "_law_row_of" "_law_row_of" s_law_row_of f fd) : FnOk P w K mg base CX0 1 f fd ["number", "width"] (spV false 2 WRowNum) := by
  refine okV (k := 0) F sc_law_row_of rfl (by decide) fun cdv A outer s H E hr => ⟨_, (pss_cons (ps_set (i := 2) sc_law_row_of.nd rfl (Or.inl rfl) (pe_lst pa_nil))
      (pss_cons (ps_for PassesOwn.never rfl (pi_range1 (by rfl) M.m_range (pa_cons (pv 1) pa_nil)) (pg_name (i := 3) sc_law_row_of.nd rfl (Or.inl rfl))
      (pss_cons (ps_expr (pe_bm PySem.F.plainAttrs_list PySem.F.slot_list_insert PySem.F.type_list_insert mt_insert (pv 2) (pa_cons pe_int (pa_cons (pe_op op_sub (pv 0) (pe_op op_mul (pe_op op_fdiv (pv 0) pe_int) pe_int)) pa_nil))))
      (pss_one (ps_set (i := 0) sc_law_row_of.nd rfl (Or.inl rfl) (pe_op op_fdiv (pv 0) pe_int)))))
      (pss_one (ps_ret (pe_callTy (call_tupleK K) (by rfl) M.m_tuple (by decide +kernel) (pa_cons (pv 2) pa_nil)))))), fun Z hb hE hs => ⟨_, (s_seq (s_setO (v_lst v_nil))
      (s_seq (s_for (vs := [3]) (i_rng1 (v_cons v_var v_nil)) (g_name (by decide))
      (s_seq (s_insert v_int (v_op o_II (TrE.b v_var) (TrE.b (v_op o_mul (TrE.b (v_op o_fdiv (TrE.b v_var) (TrE.b v_int))) (TrE.b v_int)))))
      (s_set (v_op o_fdiv (TrE.b v_var) (TrE.b v_int)))))
      (s_ret (v_cb b_tuple (v_consB v_own v_nilB))))), fun us post hl hW => ?_⟩⟩
  obtain ⟨n, w, rfl, hn, hw, p⟩ := hW
  ac_rfl
  refine ⟨by omega, by omega, fun i ρ => ∃ c3 : Cell, ρ = [.fz (.int ((n / 2 ^ i : Nat) : Int)), .fz (.int (w : Int)), .ow (.lst ((rowN i n).map U.int)), c3], ⟨_, by rw [Nat.pow_zero, Nat.div_one]; rfl⟩, ?_, ?_⟩
  · rintro i u _ e ⟨c3, rfl⟩
    ac_rfl
    obtain ⟨hi, rfl⟩ := upto_at0 e
    have hi : i < w := by omega
    refine ⟨by rw [List.length_map, rowN_len]; omega, ?_⟩
    refine ⟨_, rfl, _, rfl, _, div2 _, _, mul2 _, _, rfl, 0, rfl, Int.le_refl 0, by decide, ?_⟩
    refine ⟨_, rfl, _, div2 _, ?_⟩
    have e1 : ((n / 2 ^ i : Nat) : Int) - ((n / 2 ^ i : Nat) : Int) / 2 * 2 = ((n / 2 ^ i % 2 : Nat) : Int) := by omega
    have e2 : ((n / 2 ^ i : Nat) : Int) / 2 = ((n / 2 ^ (i + 1) : Nat) : Int) := by
      rw [Nat.pow_succ, ← Nat.div_div_eq_div_mul]
      omega
    refine ⟨.fz (.int (i : Int)), ?_⟩
    rw [rowN_succ, List.map_cons, ← e1, ← e2]
    rfl
  rintro _ ⟨c3, rfl⟩
  rw [upto_len, Int.toNat_natCast]
  exact ⟨_, rfl, _, .inl rfl, p⟩
/-! ### _law_book_model -/
theorem pop_permG {α : Type} {l f : List α} {k : Nat} {c : α} (h : l[k]? = some c) : (l.eraseIdx k ++ (f ++ [c])).Perm (l ++ f) := by
  have hk := (List.getElem?_eq_some_iff.mp h)
  obtain ⟨hk, e⟩ := hk
  have p1 : (c :: l.eraseIdx k).Perm l := by
    have el : l = l.take k ++ c :: l.drop (k + 1) := by
      rw [← e, List.getElem_cons_drop, List.take_append_drop]
    rw [List.eraseIdx_eq_take_drop_succ]
    exact List.perm_middle.symm.trans (by rw [← el])
  have p2 : (l.eraseIdx k ++ (f ++ [c])).Perm (l.eraseIdx k ++ (c :: f)) := List.Perm.append_left _ (List.perm_append_singleton c f)
  have p3 : (l.eraseIdx k ++ (c :: f)).Perm (c :: (l.eraseIdx k ++ f)) := List.perm_middle
  exact p2.trans (p3.trans (List.Perm.append_right f p1))
theorem erase_mapG {α β : Type} (f : α → β) (l : List α) (k : Nat) : (l.map f).eraseIdx k = (l.eraseIdx k).map f := by
  rw [List.eraseIdx_eq_take_drop_succ, List.eraseIdx_eq_take_drop_succ, List.map_append, List.map_take, List.map_drop]
theorem sgs_ok : ∀ c ∈ sgs, PyData.strOk (oneS c) = true := by decide +kernel
def AscB (kv : List SR) : Prop := ∃ g : List Nat, kv.map (·.1) = g.map oneS ∧ g.Pairwise (· < ·) ∧ ∀ c ∈ g, c ∈ sgs
def modelU (kv : List SR) (st sp : List Int) : U := .lst [patU kv, rowV st, rowV sp]
def allRows (w : Nat) : List (List Int) := (List.range (2 ^ w)).map (rowN w)
theorem allRows_nd (w : Nat) : (allRows w).Nodup := by
  unfold allRows
  refine List.pairwise_map.mpr ?_
  exact List.Pairwise.imp_of_mem (fun {a b} ha hb ne e => ne (rowN_inj (List.mem_range.mp ha) (List.mem_range.mp hb) e)) List.nodup_range
theorem allRows_mem {w : Nat} {r : List Int} (h : r ∈ allRows w) : bits r ∧ r.length = w := by
  obtain ⟨n, _, rfl⟩ := List.mem_map.mp h
  exact ⟨rowN_bits w n, rowN_len w n⟩
theorem key_sign {kv : List SR} (h : AscB kv) {p : SR} (hp : p ∈ kv) : ∃ c, c ∈ sgs ∧ p.1 = oneS c := by
  obtain ⟨g, e, _, hg⟩ := h
  have : p.1 ∈ g.map oneS := by rw [← e]; exact List.mem_map.mpr ⟨p, hp, rfl⟩
  obtain ⟨c, hc, e2⟩ := List.mem_map.mp this
  exact ⟨c, hg c hc, e2.symm⟩
theorem fine_of {kv : List SR} {st sp : List Int} {w : Nat} (ha : AscB kv) (h1 : 1 ≤ kv.length) (h10 : kv.length ≤ 10) (w1 : 1 ≤ w) (w6 : w ≤ 6) (hs : ∀ r ∈ kv.map (·.2) ++ [st, sp], r ∈ allRows w) (nd : (kv.map (·.2) ++ [st, sp]).Nodup) : BFine kv st sp w := by
  refine ⟨h1, h10, fun p hp => ?_, fun p hp => ?_, fun p hp => ?_, ?_, fun p hp => allRows_mem (hs _ (List.mem_append.mpr (.inl (List.mem_map.mpr ⟨p, hp, rfl⟩)))), allRows_mem (hs _ (by simp)), allRows_mem (hs _ (by simp)), w1, w6, nd⟩
  · obtain ⟨c, hc, e⟩ := key_sign ha hp
    rw [e]
    exact sign_ones c hc
  · obtain ⟨c, hc, e⟩ := key_sign ha hp
    rw [e]
    show 1 ≤ 1000
    decide
  · obtain ⟨c, hc, e⟩ := key_sign ha hp
    rw [e]
    exact sgs_ok c hc
  · obtain ⟨g, e, pw, _⟩ := ha
    rw [e]
    exact ones_nodup pw
theorem sc_law_book_model : FnScope ["pool", "width", "many", "left", "patterns", "sign", "start", "number"] ["pool", "width", "many"] (defScope s_law_book_model) := ⟨rfl, rfl, rfl, by decide +kernel, rfl, by decide +kernel, by decide +kernel⟩
def WBModel : Wf := fun us post _ => ∃ w m : Nat, us = [.pool, .int w, .int m] ∧ 2 ≤ w ∧ w ≤ 6 ∧ 1 ≤ m ∧ m ≤ 10 ∧ ∀ kv st sp, BFine kv st sp w → AscB kv → post (modelU kv st sp)
theorem ok_law_book_model (M : MF P w K mg cR iR cK iK cB fB pB aB cL) (F_law_draw : FnC P w K mg base CX0 1 "_law_draw" ["pool", "many"] (spV true 2 WDraw)) (F_law_signs : FnC P w K mg base CX0 2 "_law_signs" ["pool", "many"] (spV true 2 WSignsD)) (F_law_power : FnC P w K mg base CX0 1 "_law_power" ["many"] (spV false 1 WPower)) (F_law_row_of : FnC P w K mg base CX0 1 "_law_row_of" ["number", "width"] (spV false 2 WRowNum)) (F : Fun K "_law_book_model" "_law_book_model" s_law_book_model f fd) : FnOk P w K mg base CX0 3 f fd ["pool", "width", "many"] (spV true 3 WBModel) := by
  refine okV (k := 2) F sc_law_book_model rfl (by decide) fun cdv A outer s H E hr => ⟨_, (pss_cons (ps_setLc (i := 3) (own := [("number", 7)]) (tt := tYes) rfl sc_law_book_model.nd rfl rfl (sw_true rfl rfl rfl (by decide +kernel)) (pi_range1 (by rfl) M.m_range (pa_cons (pe_f F_law_power hr (by omega) pass0 (pa_cons (pv 1) pa_nil)) pa_nil)) (blkOk_by (N := ["pool", "width", "many", "left", "patterns", "sign", "start", "number"]) (sc := defScope s_law_book_model) (by decide +kernel)) (fun _ _ _ _ _ => (pg_name (i := 7) sc_law_book_model.nd rfl (Or.inl rfl))) (fun _ _ _ _ _ => pts_nil) (fun _ _ _ _ _ => (pe_f F_law_row_of hr (by omega) pass0 (pa_cons (pv 7) (pa_cons (pv 1) pa_nil)))))
      (pss_cons (ps_set (i := 4) sc_law_book_model.nd rfl (Or.inl rfl) pe_dnewK)
      (pss_cons (ps_for PassesOwn.never rfl (pi_seq K (pe_f F_law_signs hr (by omega) pass0 (pa_cons (pv 0) (pa_cons (pe_callB (call_min2 rfl) (by rfl) M.m_min (by decide +kernel) (pa_cons (pv 2) (pa_cons (pe_op op_sub (pe_f F_law_power hr (by omega) pass0 (pa_cons (pv 1) pa_nil)) pe_int) pa_nil))) pa_nil)))) (pg_name (i := 5) sc_law_book_model.nd rfl (Or.inl rfl))
      (pss_one (ps_asg (pe_bm PySem.F.plainAttrs_list PySem.F.slot_list_pop PySem.F.type_list_pop mt_popAt (pv 3) (pa_cons (pe_f F_law_draw hr (by omega) pass0 (pa_cons (pv 0) (pa_cons (pe_callB (call_lenV K) (by rfl) M.m_len PySem.boot_len (pa_cons (pv 3) pa_nil)) pa_nil))) pa_nil)) (pg_sub (pv 4) (pv 5) (set_dict (hu_of hr))))))
      (pss_cons (ps_set (i := 6) sc_law_book_model.nd rfl (Or.inl rfl) (pe_bm PySem.F.plainAttrs_list PySem.F.slot_list_pop PySem.F.type_list_pop mt_popAt (pv 3) (pa_cons (pe_f F_law_draw hr (by omega) pass0 (pa_cons (pv 0) (pa_cons (pe_callB (call_lenV K) (by rfl) M.m_len PySem.boot_len (pa_cons (pv 3) pa_nil)) pa_nil))) pa_nil)))
      (pss_one (ps_ret (pe_lst (pa_cons (pv 4) (pa_cons (pv 6) (pa_cons (pe_bm PySem.F.plainAttrs_list PySem.F.slot_list_pop PySem.F.type_list_pop mt_popAt (pv 3) (pa_cons (pe_f F_law_draw hr (by omega) pass0 (pa_cons (pv 0) (pa_cons (pe_callB (call_lenV K) (by rfl) M.m_len PySem.boot_len (pa_cons (pv 3) pa_nil)) pa_nil))) pa_nil)) pa_nil)))))))))), fun Z hb hE hs => ⟨_, (s_seq (s_setO (v_lc (i_rng1 (v_cons (v_call ple0 (v_cons v_var v_nil)) v_nil)) (g_name (by decide)) v_yes (v_call ple0 (v_cons v_var (v_cons v_var v_nil)))))
      (s_seq (s_setO v_dnew)
      (s_seq (s_for (vs := [5]) (i_seq (v_call (ple1 (by rw [hb])) (v_cons v_var (v_cons (v_cb b_min2 (v_consB (TrE.b v_var) (v_consB (TrE.b (v_op o_II (TrE.b (v_call ple0 (v_cons v_var v_nil))) (TrE.b v_int))) v_nilB))) v_nil)))) (g_name (by decide))
      (s_dputX (x_pop (v_call (ple1 (by rw [hb])) (v_cons v_var (v_cons (v_cb b_len (v_consB v_own v_nilB)) v_nil)))) v_var))
      (s_seq (s_setX (x_pop (v_call (ple1 (by rw [hb])) (v_cons v_var (v_cons (v_cb b_len (v_consB v_own v_nilB)) v_nil)))))
      (s_frz (i := 4) (s_retX (x_lst (x_cons (x_e v_var) (x_cons (x_e v_var) (x_cons (x_pop (v_call (ple1 (by rw [hb])) (v_cons v_var (v_cons (v_cb b_len (v_consB v_own v_nilB)) v_nil)))) x_nil)))))))))), fun us post hl hW => ?_⟩⟩
  obtain ⟨w, m, rfl, w2, w6, m1, m10, p⟩ := hW
  have p64 : 2 ^ w ≤ 64 := Nat.pow_le_pow_right (by decide) w6
  have p4 : 4 ≤ 2 ^ w := (Nat.pow_le_pow_right (show 0 < 2 by decide) w2 : 2 ^ 2 ≤ 2 ^ w)
  ac_rfl
  refine ⟨by omega, ?_⟩
  ac_rfl
  refine ⟨by omega, by omega, fun i acc => acc = ((allRows w).take i).map rowV, rfl, ?_, ?_⟩
  · rintro i u acc e rfl
    obtain ⟨hi, rfl⟩ := upto_at0 e
    have hi : i < 2 ^ w := by omega
    refine lcI ?_
    ac_rfl
    refine ⟨by omega, by omega, ?_⟩
    have e2 : (allRows w)[i]? = some (rowN w i) := by
      unfold allRows
      rw [List.getElem?_map, List.getElem?_range hi]
      rfl
    exact map_step rowV rfl e2
  rintro acc hacc
  have la : (allRows w).length = 2 ^ w := by
    unfold allRows
    rw [List.length_map, List.length_range]
  rw [upto_len, Int.toNat_natCast, ← la, List.take_length] at hacc
  subst hacc
  ac_rfl
  refine ⟨by omega, ?_⟩
  ac_rfl
  have en : (if ((2 ^ w : Nat) : Int) - 2 < (m : Int) then ((2 ^ w : Nat) : Int) - 2 else (m : Int)) = ((min m (2 ^ w - 2) : Nat) : Int) := by split <;> omega
  rw [en]
  refine ⟨min m (2 ^ w - 2), rfl, by omega, fun ss f hp lf nd hf so => ?_⟩
  obtain ⟨g, rfl, lg, pw, hg⟩ := drawn_signs hp nd so hf
  ac_rfl
  refine ⟨fun i ρ => ∃ (l : List (List Int)) (kv : List SR) (c5 c6 c7 : Cell), ρ = [.fz .pool, .fz (.int (w : Int)), .fz (.int (m : Int)), .ow (.lst (l.map rowV)), .ow (.dic (kv.map fun p => ((Sum.inr p.1 : Key), rowV p.2))), c5, c6, c7] ∧ kv.map (·.1) = (g.take i).map oneS ∧ (l ++ kv.map (·.2)).Perm (allRows w), ⟨allRows w, [], _, _, _, rfl, rfl, by simp⟩, ?_, ?_⟩
  · rintro i u _ e ⟨l, kv, c5, c6, c7, rfl, ek, pm⟩
    ac_rfl
    have eg : ∃ c, g[i]? = some c ∧ u = .str (oneS c) := by
      rw [List.map_map, List.getElem?_map] at e
      cases q : g[i]? with
      | none => rw [q] at e; cases e
      | some c =>
        rw [q] at e
        cases e
        exact ⟨c, rfl, rfl⟩
    obtain ⟨c, ec, rfl⟩ := eg
    have il := (List.getElem?_eq_some_iff.mp ec).1
    have ll := pm.length_eq
    have kl := congrArg List.length ek
    rw [List.length_append, List.length_map, la] at ll
    rw [List.length_map, List.length_map, List.length_take] at kl
    refine ⟨by rw [List.length_map]; omega, by rw [List.length_map]; omega, fun d d0 d1 => ?_⟩
    rw [List.length_map] at d1
    obtain ⟨r, hr⟩ : ∃ r, l[d.toNat]? = some r := ⟨_, List.getElem?_eq_getElem (by omega)⟩
    refine ⟨d, rowV r, rfl, d0, by omega, by rw [List.getElem?_map, hr]; rfl, ?_⟩
    refine ⟨_, rfl, _, rfl, .inr (oneS c), rfl, by rw [List.length_map]; omega, ?_⟩
    have nin : (Sum.inr (oneS c) : Key) ∉ keysOf (kv.map fun p => ((Sum.inr p.1 : Key), rowV p.2)) := fun z => by
      unfold keysOf at z
      rw [List.map_map] at z
      obtain ⟨q, hq, eq⟩ := List.mem_map.mp z
      have : q.1 ∈ (g.take i).map oneS := by rw [← ek]; exact List.mem_map.mpr ⟨q, hq, rfl⟩
      obtain ⟨c2, hc2, e2⟩ := List.mem_map.mp this
      have e3 : q.1 = oneS c := Sum.inr.inj eq
      have : c2 = c := SL.ch_inj (e2.trans e3)
      subst this
      obtain ⟨j, hj⟩ := List.mem_iff_getElem?.mp hc2
      rw [List.getElem?_take] at hj
      split at hj
      · rename_i ji
        have := List.pairwise_iff_getElem.mp pw j i (List.getElem?_eq_some_iff.mp hj).1 il ji
        rw [(List.getElem?_eq_some_iff.mp hj).2, (List.getElem?_eq_some_iff.mp ec).2] at this
        omega
      · cases hj
    refine ⟨l.eraseIdx d.toNat, kv ++ [(oneS c, r)], .fz (.str (oneS c)), c6, c7, ?_, ?_, ?_⟩
    · rw [put_new nin, erase_mapG, List.map_append]
      rfl
    · rw [List.map_append, ek, take_more ec, List.map_append]
      rfl
    · rw [List.map_append]
      exact (pop_permG hr).trans pm
  rintro _ ⟨l, kv, c5, c6, c7, rfl, ek, pm⟩
  ac_rfl
  have ll := pm.length_eq
  have kl := congrArg List.length ek
  rw [List.length_append, List.length_map, la] at ll
  rw [List.length_map, List.length_map, List.length_map, List.length_map, List.length_take, Nat.min_self] at kl
  refine ⟨by rw [List.length_map]; omega, by rw [List.length_map]; omega, fun d d0 d1 => ?_⟩
  rw [List.length_map] at d1
  obtain ⟨r, hr⟩ : ∃ r, l[d.toNat]? = some r := ⟨_, List.getElem?_eq_getElem (by omega)⟩
  have el : (l.eraseIdx d.toNat).length = l.length - 1 := List.length_eraseIdx_of_lt (by omega)
  refine ⟨d, rowV r, rfl, d0, by omega, by rw [List.getElem?_map, hr]; rfl, ?_⟩
  rw [erase_mapG]
  ac_rfl
  refine ⟨by rw [List.length_map]; omega, by rw [List.length_map]; omega, fun d' d'0 d'1 => ?_⟩
  rw [List.length_map] at d'1
  obtain ⟨r', hr'⟩ : ∃ r', (l.eraseIdx d.toNat)[d'.toNat]? = some r' := ⟨_, List.getElem?_eq_getElem (by omega)⟩
  refine ⟨d', rowV r', rfl, d'0, by omega, by rw [List.getElem?_map, hr']; rfl, ?_⟩
  refine ⟨by show 3 ≤ 100000; decide, ?_⟩
  have p1 := (pop_permG hr).trans pm
  have p2 := (pop_permG hr').trans p1
  rw [List.append_assoc] at p2
  have nd2 := (p2.nodup_iff).mpr (allRows_nd w)
  have sub : ∀ x ∈ kv.map (·.2) ++ [r, r'], x ∈ allRows w := fun x hx => p2.mem_iff.mp (List.mem_append.mpr (.inr hx))
  refine p kv r r' (fine_of ⟨g, ?_, pw, hg⟩ (by omega) (by omega) (by omega) w6 sub (List.nodup_append.mp nd2).2.1) ⟨g, ?_, pw, hg⟩
  · rw [ek, List.length_map, List.length_map, List.take_length]
  · rw [ek, List.length_map, List.length_map, List.take_length]
theorem sc_law_drawn_book : FnScope ["pool", "width", "many"] ["pool"] (defScope s_law_drawn_book) := ⟨rfl, rfl, rfl, by decide +kernel, rfl, by decide +kernel, by decide +kernel⟩
def WDBook : Wf := fun us post _ => us = [.pool] ∧ ∀ kv st sp w, 2 ≤ w → BFine kv st sp w → AscB kv → post (modelU kv st sp)
theorem ok_law_drawn_book (M : MF P w K mg cR iR cK iK cB fB pB aB cL) (F_law_draw : FnC P w K mg base CX0 1 "_law_draw" ["pool", "many"] (spV true 2 WDraw)) (F_law_book_model : FnC P w K mg base CX0 3 "_law_book_model" ["pool", "width", "many"] (spV true 3 WBModel)) (F : Fun K "_law_drawn_book" "_law_drawn_book" s_law_drawn_book f fd) : FnOk P w K mg base CX0 4 f fd ["pool"] (spV true 1 WDBook) := by
  refine okV (k := 3) F sc_law_drawn_book rfl (by decide) fun cdv A outer s H E hr => ⟨_, (pss_cons (ps_set (i := 1) sc_law_drawn_book.nd rfl (Or.inl rfl) (pe_ix (ix_seqK K) (pe_lst (pa_cons pe_int (pa_cons pe_int (pa_cons pe_int (pa_cons pe_int (pa_cons pe_int (pa_cons pe_int pa_nil))))))) (pe_f F_law_draw hr (by omega) pass0 (pa_cons (pv 0) (pa_cons pe_int pa_nil))) (fun _ _ => rfl)))
      (pss_cons (ps_set (i := 2) sc_law_drawn_book.nd rfl (Or.inl rfl) (pe_ix (ix_seqK K) (pe_lst (pa_cons pe_int (pa_cons pe_int (pa_cons pe_int (pa_cons pe_int (pa_cons pe_int (pa_cons pe_int pa_nil))))))) (pe_f F_law_draw hr (by omega) pass0 (pa_cons (pv 0) (pa_cons pe_int pa_nil))) (fun _ _ => rfl)))
      (pss_one (ps_ret (pe_f F_law_book_model hr (by omega) pass0 (pa_cons (pv 0) (pa_cons (pv 1) (pa_cons (pv 2) pa_nil)))))))), fun Z hb hE hs => ⟨_, (s_seq (s_set (v_op o_ix (TrF.b (v_lst (v_cons v_int (v_cons v_int (v_cons v_int (v_cons v_int (v_cons v_int (v_cons v_int v_nil)))))))) (TrE.b (v_call (ple1 (by rw [hb])) (v_cons v_var (v_cons v_int v_nil))))))
      (s_seq (s_set (v_op o_ix (TrF.b (v_lst (v_cons v_int (v_cons v_int (v_cons v_int (v_cons v_int (v_cons v_int (v_cons v_int v_nil)))))))) (TrE.b (v_call (ple1 (by rw [hb])) (v_cons v_var (v_cons v_int v_nil))))))
      (s_ret (v_call (ple1 (by rw [hb])) (v_cons v_var (v_cons v_var (v_cons v_var v_nil))))))), fun us post hl hW => ?_⟩⟩
  obtain ⟨rfl, p⟩ := hW
  ac_rfl
  intro d d0 d1
  refine pickM (fun u => ∃ w : Nat, u = .int (w : Int) ∧ 2 ≤ w ∧ w ≤ 6) (n := 6) d0 d1 rfl (fun u hu => ?_) fun u hu => ?_
  · simp only [List.mem_cons, List.not_mem_nil, or_false] at hu
    rcases hu with rfl | rfl | rfl | rfl | rfl | rfl
    · exact ⟨2, rfl, by decide, by decide⟩
    · exact ⟨2, rfl, by decide, by decide⟩
    · exact ⟨3, rfl, by decide, by decide⟩
    · exact ⟨3, rfl, by decide, by decide⟩
    · exact ⟨4, rfl, by decide, by decide⟩
    · exact ⟨6, rfl, by decide, by decide⟩
  obtain ⟨w, rfl, w2, w6⟩ := hu
  ac_rfl
  intro d d0 d1
  refine pickM (fun u => ∃ m : Nat, u = .int (m : Int) ∧ 1 ≤ m ∧ m ≤ 10) (n := 6) d0 d1 rfl (fun u hu => ?_) fun u hu => ?_
  · simp only [List.mem_cons, List.not_mem_nil, or_false] at hu
    rcases hu with rfl | rfl | rfl | rfl | rfl | rfl
    · exact ⟨1, rfl, by decide, by decide⟩
    · exact ⟨2, rfl, by decide, by decide⟩
    · exact ⟨2, rfl, by decide, by decide⟩
    · exact ⟨3, rfl, by decide, by decide⟩
    · exact ⟨6, rfl, by decide, by decide⟩
    · exact ⟨10, rfl, by decide, by decide⟩
  obtain ⟨m, rfl, m1, m10⟩ := hu
  ac_rfl
  exact ⟨w2, w6, m1, m10, fun kv st sp B a => p kv st sp w w2 B a⟩
/-! ### _law_book -/
theorem asc_uniq : ∀ {a b : List Nat}, a.Pairwise (· < ·) → b.Pairwise (· < ·) → a.Perm b → a = b
  | [], b, _, _, h => (List.nil_perm.mp h).symm
  | x :: a, [], _, _, h => absurd h.length_eq (by simp)
  | x :: a, y :: b, ha, hb, h => by
    have h1 := List.pairwise_cons.mp ha
    have h2 := List.pairwise_cons.mp hb
    have e : x = y := by
      have m1 : x ∈ y :: b := h.mem_iff.mp List.mem_cons_self
      have m2 : y ∈ x :: a := h.mem_iff.mpr List.mem_cons_self
      rcases List.mem_cons.mp m1 with e | m1
      · exact e
      · rcases List.mem_cons.mp m2 with e | m2
        · exact e.symm
        · have := h2.1 x m1
          have := h1.1 y m2
          omega
    subst e
    rw [asc_uniq h1.2 h2.2 (List.Perm.cons_inv h)]
theorem asc_sorted {kv : List SR} {ys : List Str} (h : AscB kv) (pm : ys.Perm (kv.map (·.1))) (so : sortedS ys = true) : ys = kv.map (·.1) := by
  obtain ⟨g, e, pw, hg⟩ := h
  obtain ⟨m, rfl, lm, pm2, hm⟩ := drawn_signs (f := g) (by rw [e] at pm; exact pm) (pw.imp fun {a b} lt e => by omega) so hg
  rw [e] at pm ⊢
  have : m.Perm g := by
    have := (pm.map fun s : Str => s.cps.toList.headD 0)
    rw [List.map_map, List.map_map] at this
    have f : ∀ l : List Nat, l.map ((fun s : Str => s.cps.toList.headD 0) ∘ oneS) = l := fun l => (List.map_congr_left fun c _ => rfl).trans (List.map_id l)
    rw [f, f] at this
    exact this
  rw [asc_uniq pm2 pw this]
theorem kv_back {kv : List SR} (nd : (kv.map (·.1)).Nodup) : (kv.map (·.1)).map (fun s => (s, rowFor kv s)) = kv := by
  rw [List.map_map]
  refine (List.map_congr_left fun p hp => ?_).trans (List.map_id _)
  show (p.1, rowFor kv p.1) = p
  rw [rowFor_of nd hp]
theorem sc_law_book : FnScope ["model"] ["model"] (defScope s_law_book) := ⟨rfl, rfl, rfl, by decide +kernel, rfl, by decide +kernel, by decide +kernel⟩
def WLBook (cB : Addr) : Wf := fun us post _ => ∃ kv st sp w, us = [modelU kv st sp] ∧ BFine kv st sp w ∧ AscB kv ∧ post (bookV cB kv st sp)
theorem ok_law_book (M : MF P w K mg cR iR cK iK cB fB pB aB cL) (OBook : FnOk P w K mg base (L2.CX P w) 8 fB fdB ["self", "patterns", "start", "stop"] (spI cB false 3 (WBook cB))) (BBook : Binds K fdB ["self", "patterns", "start", "stop"] []) (F : Fun K "_law_book" "_law_book" s_law_book f fd) : FnOk P w K mg base CX0 10 f fd ["model"] (spV false 1 (WLBook cB)) := by
  refine okV (k := 9) F sc_law_book rfl (by decide) fun cdv A outer s H E hr => ⟨_, (pss_one (ps_ret (pe_make M.mk_Book OBook (hr.mono (by decide)) (by rfl) M.g_Book BBook .nil passL (pa_cons (pe_callTy call_dictD (by rfl) M.m_dict (by decide +kernel) (pa_cons (pe_ix (ix_seqK K) (pv 0) pe_int (fun _ _ => rfl)) pa_nil)) (pa_cons (pe_ix (ix_seqK K) (pv 0) pe_int (fun _ _ => rfl)) (pa_cons (pe_ix (ix_seqK K) (pv 0) pe_int (fun _ _ => rfl)) pa_nil)))))), fun Z hb hE hs => ⟨_, (s_ret (v_make ple0 (v_cons (TrF.e (v_cbF b_dictC (v_consB (TrE.b (v_op o_ix (TrE.b v_var) (TrE.b v_int))) v_nilB))) (v_cons (v_op o_ix (TrE.b v_var) (TrE.b v_int)) (v_cons (v_op o_ix (TrE.b v_var) (TrE.b v_int)) v_nil))))), fun us post hl hW => ?_⟩⟩
  obtain ⟨kv, st, sp, w, rfl, B, a, p⟩ := hW
  ac_rfl
  refine ⟨kv, st, sp, w, rfl, B, fun ys pm so => ?_⟩
  rw [asc_sorted a pm so, kv_back B.nd]
  exact p
/-! ### _law_deep -/
def deepU : Nat → U
  | 0 => .lst [.int 0]
  | n + 1 => .lst [deepU n]
theorem sc_law_deep : FnScope ["found", "k"] [] (defScope s_law_deep) := ⟨rfl, rfl, rfl, by decide +kernel, rfl, by decide +kernel, by decide +kernel⟩
def WDeep : Wf := fun us post _ => us = [] ∧ post (deepU 27)
theorem ok_law_deep (M : MF P w K mg cR iR cK iK cB fB pB aB cL) (F : Fun K "_law_deep" "_law_deep" s_law_deep f fd) : FnOk P w K mg base CX0 1 f fd [] (spV false 0 WDeep) := by
  refine okV (k := 0) F sc_law_deep rfl (by decide) fun cdv A outer s H E hr => ⟨_, (pss_cons (ps_set (i := 0) sc_law_deep.nd rfl (Or.inl rfl) (pe_lst (pa_cons pe_int pa_nil)))
      (pss_cons (ps_for PassesOwn.never rfl (pi_range1 (by rfl) M.m_range (pa_cons pe_int pa_nil)) (pg_name (i := 1) sc_law_deep.nd rfl (Or.inl rfl))
      (pss_one (ps_set (i := 0) sc_law_deep.nd rfl (Or.inl rfl) (pe_lst (pa_cons (pv 0) pa_nil)))))
      (pss_one (ps_ret (pv 0))))), fun Z hb hE hs => ⟨_, (s_seq (s_set (TrF.e (v_lst (v_cons v_int v_nil))))
      (s_seq (s_for (vs := [1]) (i_rng1 (v_cons v_int v_nil)) (g_name (by decide))
      (s_set (TrF.e (v_lst (v_cons v_var v_nil)))))
      (s_ret v_var))), fun us post hl hW => ?_⟩⟩
  obtain ⟨rfl, p⟩ := hW
  ac_rfl
  refine ⟨fun i ρ => ∃ c1 : Cell, ρ = [.fz (deepU i), c1], ⟨_, rfl⟩, ?_, ?_⟩
  · rintro i u _ e ⟨c1, rfl⟩
    exact ⟨_, rfl, by show 1 ≤ 100000; decide, _, rfl⟩
  rintro _ ⟨c1, rfl⟩
  exact ⟨_, rfl, p⟩
end

end K06
namespace K06
open PySem PySem.Spec PyProof.Rows L2 SL SV
local macro_rules | `(tactic| ac_rfl) => `(tactic| (repeat first | refine ⟨_, rfl, ?_⟩ | refine ⟨rfl, ?_⟩ | refine iteT ?_ | refine iteF ?_ | refine ⟨trivial, ?_⟩ | refine ⟨Nat.le_of_ble_eq_true rfl, ?_⟩ | refine ⟨_, _, rfl, rfl, ?_⟩ | refine ⟨_, _, rfl, ?_⟩ | refine ⟨_, .inl rfl, ?_⟩ | refine ⟨_, .inr rfl, ?_⟩ | refine .inl ⟨_, rfl, ?_⟩ | refine .inr ⟨_, rfl, ?_⟩ | refine ⟨_, _, .inl rfl, ?_⟩ | refine ⟨_, _, .inr rfl, ?_⟩ | refine ⟨by decide, ?_⟩))
section
variable {P : Program} {w : World} {K : PySem.W.Frag} {mg : Str → Option Value} {base : Heap} {cR iR cK iK cB fB pB aB cL : Addr} {fdB fdP fdA : FuncData} {f : Addr} {fd : FuncData}
/-! ### _law_row, _law_count, _law_refused -/
theorem bits_one {cs : List Int} (h : bits cs) {d : Int} (d0 : 0 ≤ d) (d1 : d < 2) : bits (cs ++ [d]) := fun c hc => by
  rcases List.mem_append.mp hc with h' | h'
  · exact h c h'
  · rw [List.mem_singleton.mp h']
    omega
theorem sc_law_row : FnScope ["pool", "length", "k"] ["pool", "length"] (defScope s_law_row) := ⟨rfl, rfl, rfl, by decide +kernel, rfl, by decide +kernel, by decide +kernel⟩
def WRowP : Wf := fun us post _ => ∃ n : Nat, us = [.pool, .int n] ∧ n ≤ 1000 ∧ ∀ r : List Int, r.length = n → bits r → post (rowV r)
theorem ok_law_row (M : MF P w K mg cR iR cK iK cB fB pB aB cL) (F_law_draw : FnC P w K mg base CX0 1 "_law_draw" ["pool", "many"] (spV true 2 WDraw)) (F : Fun K "_law_row" "_law_row" s_law_row f fd) : FnOk P w K mg base CX0 2 f fd ["pool", "length"] (spV true 2 WRowP) := by
  refine okV (k := 1) F sc_law_row rfl (by decide) fun cdv A outer s H E hr => ⟨_, (pss_one (ps_ret (pe_callTy (call_tupleK K) (by rfl) M.m_tuple (by decide +kernel) (pa_cons (pe_lc (own := [("k", 2)]) (tt := tYes) rfl sc_law_row.nd (pi_range1 (by rfl) M.m_range (pa_cons (pv 1) pa_nil)) (blkOk_by (N := ["pool", "length", "k"]) (sc := defScope s_law_row) (by decide +kernel)) (fun _ _ _ _ _ => (pg_name (i := 2) sc_law_row.nd rfl (Or.inl rfl))) (fun _ _ _ _ _ => pts_nil) (fun _ _ _ _ _ => (pe_f F_law_draw hr (by omega) pass0 (pa_cons (pv 0) (pa_cons pe_int pa_nil))))) pa_nil)))), fun Z hb hE hs => ⟨_, (s_ret (v_cb b_tuple (v_consB (TrF.b (v_lc (i_rng1 (v_cons v_var v_nil)) (g_name (by decide)) v_yes (v_call (ple1 (by rw [hb])) (v_cons v_var (v_cons v_int v_nil))))) v_nilB))), fun us post hl hW => ?_⟩⟩
  obtain ⟨n, rfl, hn, p⟩ := hW
  refine ⟨_, rfl, (n : Int), rfl, by omega, by omega, fun i acc => ∃ cs : List Int, acc = cs.map U.int ∧ cs.length = i ∧ bits cs, ⟨[], rfl, rfl, fun _ z => nomatch z⟩, ?_, ?_⟩
  · rintro i u acc e ⟨cs, rfl, lc, hb2⟩
    refine lcI ⟨_, rfl, rfl, 2, rfl, by decide, by decide, fun d d0 d1 => ⟨cs ++ [d], by rw [List.map_append]; rfl, by rw [List.length_append, lc]; rfl, bits_one hb2 d0 d1⟩⟩
  · rintro acc ⟨cs, rfl, lc, hb2⟩
    rw [upto_len] at lc
    exact ⟨_, .inl rfl, p cs (by omega) hb2⟩
theorem sc_law_count : FnScope ["one", "other", "at"] ["one", "other"] (defScope s_law_count) := ⟨rfl, rfl, rfl, by decide +kernel, rfl, by decide +kernel, by decide +kernel⟩
def WCount : Wf := fun us post _ => ∃ a b : List Int, us = [rowV a, rowV b] ∧ a.length = b.length ∧ a.length ≤ 1000 ∧ post (.int (dist a b : Nat))
theorem ok_law_count (M : MF P w K mg cR iR cK iK cB fB pB aB cL) (F : Fun K "_law_count" "_law_count" s_law_count f fd) : FnOk P w K mg base CX0 1 f fd ["one", "other"] (spV false 2 WCount) := by
  refine okV (k := 0) F sc_law_count rfl (by decide) fun cdv A outer s H E hr => ⟨_, (pss_one (ps_ret (pe_callB (call_lenV K) (by rfl) M.m_len PySem.boot_len (pa_cons (pe_lc (own := [("at", 2)]) rfl sc_law_count.nd (pi_range1 (by rfl) M.m_range (pa_cons (pe_callB (call_lenV K) (by rfl) M.m_len PySem.boot_len (pa_cons (pv 0) pa_nil)) pa_nil)) (blkOk_by (N := ["one", "other", "at"]) (sc := defScope s_law_count) (by decide +kernel)) (fun _ _ _ _ _ => (pg_name (i := 2) sc_law_count.nd rfl (Or.inl rfl))) (fun _ _ _ _ _ => (pts_one (pt_cmpR (op_neV K hr.units) (pe_ix (ix_seqK K) (pv 0) (pv 2) (fun _ _ => rfl)) (pe_ix (ix_seqK K) (pv 1) (pv 2) (fun _ _ => rfl)) (nomark _)))) (fun _ _ _ _ _ => (pv 2))) pa_nil)))), fun Z hb hE hs => ⟨_, (s_ret (v_cb b_len (v_consB (TrF.b (v_lc (i_rng1 (v_cons (v_cb b_len (v_consB (TrE.b v_var) v_nilB)) v_nil)) (g_name (by decide)) (v_test (v_op o_ne (TrE.b (v_op o_ix (TrE.b v_var) (TrE.b v_var))) (TrE.b (v_op o_ix (TrE.b v_var) (TrE.b v_var))))) v_var)) v_nilB))), fun us post hl hW => ?_⟩⟩
  obtain ⟨a, b, rfl, hl2, la, p⟩ := hW
  ac_rfl
  have al : (a.map U.int).length = a.length := List.length_map _
  have zl : (a.zip b).length = a.length := by rw [List.length_zip]; omega
  refine ⟨by omega, by omega, fun i acc => acc.length = (((a.zip b).take i).filter fun p => decide (p.1 ≠ p.2)).length, rfl, ?_, ?_⟩
  · rintro i u acc e h
    obtain ⟨hi, rfl⟩ := upto_at0 e
    have hi : i < a.length := by omega
    obtain ⟨x, hx⟩ : ∃ x, a[i]? = some x := ⟨_, List.getElem?_eq_getElem hi⟩
    obtain ⟨y, hy⟩ : ∃ y, b[i]? = some y := ⟨_, List.getElem?_eq_getElem (by omega)⟩
    have ez : (a.zip b)[i]? = some (x, y) := (List.getElem?_zip_eq_some (z := (x, y))).mpr ⟨hx, hy⟩
    refine ⟨_, rfl, _, rfl, _, rowIx hx, _, rfl, _, rfl, _, rowIx hy, _, fNe_int _ _, _, rfl, ?_⟩
    have et := congrArg List.length (fm_take (fun p : Int × Int => decide (p.1 ≠ p.2)) ez)
    rw [List.length_append] at et
    by_cases c : x = y
    · rw [if_neg (by simp [c])] at et
      refine iteF_of (by simp [c]) ?_
      show acc.length = _
      rw [h, et]
      rfl
    · rw [if_pos (by simp [c])] at et
      refine iteT_of (by simp [c]) ⟨_, rfl, ?_⟩
      show (acc ++ [U.int (i : Int)]).length = _
      rw [List.length_append, h, et]
      rfl
  rintro acc h
  rw [upto_len, al, Int.toNat_natCast, ← zl, List.take_length] at h
  refine ⟨_, _, rfl, rfl, ?_⟩
  rw [h]
  exact p
theorem sc_law_refused : FnScope ["book", "row", "told", "e"] ["book", "row"] (defScope s_law_refused) := ⟨rfl, rfl, rfl, by decide +kernel, rfl, by decide +kernel, by decide +kernel⟩
def WRefB (cs : List Addr) (cB : Addr) : Wf := fun us post _ => ∃ kv st sp w x, us = [bookV cB kv st sp, x] ∧ BookOk kv st sp w ∧ asks cs x ∧ asksT cs x ∧ rowOfU (w : Int) x = false ∧ post (.str "row")
theorem ok_law_refused (M : MF P w K mg cR iR cK iK cB fB pB aB cL) (F_nearest : FnC P w K mg base (L2.CX P w) 9 "nearest" ["book", "row"] (spF false 2 (WNearest [cB] cR cB))) (F : Fun K "_law_refused" "_law_refused" s_law_refused f fd) : FnOk P w K mg base CX0 10 f fd ["book", "row"] (spV false 2 (WRefB [cB] cB)) := by
  refine okV (k := 9) F sc_law_refused rfl (by decide) fun cdv A outer s H E hr => ⟨_, (pss_cons (ps_set (i := 2) sc_law_refused.nd rfl (Or.inl rfl) pe_str)
      (pss_cons (ps_tryU rfl rfl sc_law_refused.nd takes0 (fun W pn xe tk _ => (pss_one (ps_expr (pe_fS (FnC.fz F_nearest) hr (by omega) (fun σ => passAt tk σ) (pa_cons (pv 0) (pa_cons (pv 1) pa_nil))))))
      (ClausesOk.named (i := 3) rfl rfl ⟨rfl, by decide, .inl M.g_BadRow⟩ (fun a oe cls d pn hz hf => (pss_one (ps_set (i := 2) sc_law_refused.nd rfl (Or.inl rfl) (pe_exf M.x_BadRow hz hf (pv 3))))) (ClausesOk.only ⟨rfl, by decide, .inl M.g_LabelError⟩ (fun a oe cls d pn hz hf => (pss_one (ps_set (i := 2) sc_law_refused.nd rfl (Or.inl rfl) pe_str))) ClausesOk.nil)))
      (pss_one (ps_ret (pv 2))))), fun Z hb hE hs => ⟨_, (s_seq (s_set v_str)
      (s_seq (s_try [] hs out0 (fun W ew Z he hbz hE hs => (s_drop (TrE.b (v_callS hE he ple0 (v_cons v_var (v_cons v_var v_nil))))))
      (TrC.named (i := 3) (by rfl) (fun a C od us Z hbz hx hm hs => (s_set (v_exf hx hm))) (TrC.only (fun a C od us Z hbz hx hs => (s_set v_str)) TrC.nil)))
      (s_ret v_var))), fun us post hl hW => ?_⟩⟩
  obtain ⟨kv, st, sp, w, x, rfl, B, ax, tx, n, p⟩ := hW
  ac_rfl
  refine ⟨kv, st, sp, w, x, rfl, B, ax, tx, fun r e br lr => ?_, fun _ => ?_⟩
  · subst e
    rw [rowOf_bits br lr] at n
    cases n
  · refine ⟨true, M.e_RR, fun _ => ⟨rfl, ?_⟩, fun z => nomatch z⟩
    ac_rfl
    exact p
theorem pl_str {s : Str} (h : PyData.strOk s = true) : ∀ n, plU n (.str s) = true := by
  have e : eqU (.str s) (.str s) = some true := by
    obtain ⟨c, e, k⟩ := eqU_nice (n := 0) (m := 0) (by decide) (by decide) (show niceU 0 (.str s) = true from h) (show niceU 0 (.str s) = true from h)
    rw [e, k.mpr rfl]
  intro n
  cases n <;> exact decide_eq_true e
theorem pl_int : ∀ (n : Nat) (i : Int), plU n (.int i) = true
  | 0, _ => rfl
  | _ + 1, _ => rfl
theorem pl_tup {n : Nat} {us : List U} (h : ∀ u ∈ us, plU n u = true) (l : us.length ≤ 100000) : plU (n + 1) (.tup us) = true := by
  show (us.all (plU n) && decide (us.length ≤ 100000)) = true
  rw [decide_eq_true l, Bool.and_true]
  exact List.all_eq_true.mpr h
theorem pl_lst {n : Nat} {us : List U} (h : ∀ u ∈ us, plU n u = true) (l : us.length ≤ 100000) : plU (n + 1) (.lst us) = true := by
  show (us.all (plU n) && decide (us.length ≤ 100000)) = true
  rw [decide_eq_true l, Bool.and_true]
  exact List.all_eq_true.mpr h
theorem near_mem {z : SR × SR} : ∀ (ps : List (SR × SR)) (b : Option (SR × SR)), ps.foldl nearer b = some z → b = some z ∨ z ∈ ps
  | [], _, h => .inl h
  | p :: ps, b, h => by
    rw [List.foldl_cons] at h
    rcases near_mem ps _ h with h | h
    · cases b with
      | none =>
        have h : some p = some z := h
        cases h
        exact .inr List.mem_cons_self
      | some q =>
        have h : (if dist p.1.2 p.2.2 < dist q.1.2 q.2.2 then some p else some q) = some z := h
        split at h
        · cases h
          exact .inr List.mem_cons_self
        · exact .inl h
    · exact .inr (List.mem_cons_of_mem _ h)
theorem pairs_mem {l : List SR} {n : Nat} {z : SR × SR} (hn : n ≤ l.length) (h : z ∈ pairsTo l n) : z.1 ∈ l ∧ z.2 ∈ l := by
  obtain ⟨i, hi, h⟩ := List.mem_flatMap.mp h
  obtain ⟨y, hy, rfl⟩ := List.mem_map.mp h
  have := List.mem_range.mp hi
  refine ⟨?_, List.mem_of_mem_drop hy⟩
  show l.getD i ("", []) ∈ l
  rw [List.getD_eq_getElem?_getD, List.getElem?_eq_getElem (by omega)]
  exact List.getElem_mem _
theorem dist_comm : ∀ a b : List Int, dist a b = dist b a
  | [], [] => rfl
  | [], _ :: _ => rfl
  | _ :: _, [] => rfl
  | x :: a, y :: b => by
    have ih := dist_comm a b
    unfold dist at ih ⊢
    rw [List.zip_cons_cons, List.zip_cons_cons]
    by_cases c : x = y
    · rw [List.filter_cons_of_neg (by simp [c]), List.filter_cons_of_neg (by simp [c])]
      exact ih
    · rw [List.filter_cons_of_pos (by simp [c]), List.filter_cons_of_pos (by simp [Ne.symm c]), List.length_cons, List.length_cons, ih]
theorem dist_zero : ∀ {a b : List Int}, a.length = b.length → (dist a b = 0 ↔ a = b)
  | [], [], _ => ⟨fun _ => rfl, fun _ => rfl⟩
  | [], _ :: _, h => nomatch h
  | _ :: _, [], h => nomatch h
  | x :: a, y :: b, h => by
    have ih := dist_zero (a := a) (b := b) (Nat.succ.inj h)
    unfold dist at ih ⊢
    rw [List.zip_cons_cons]
    by_cases c : x = y
    · rw [List.filter_cons_of_neg (by simp [c]), ih, c, List.cons.injEq]
      exact ⟨fun h => ⟨rfl, h⟩, fun h => h.2⟩
    · rw [List.filter_cons_of_pos (by simp [c]), List.length_cons]
      exact ⟨fun h => (nomatch h), fun h => absurd (List.cons.inj h).1 c⟩
theorem filter_one {q : SR} {f : SR → Bool} : ∀ {l : List SR}, (l.map (·.2)).Nodup → q ∈ l → (∀ p ∈ l, f p = true ↔ p.2 = q.2) → l.filter f = [q]
  | [], _, h, _ => nomatch h
  | x :: l, nd, h, hf => by
    rw [List.map_cons, List.nodup_cons] at nd
    rcases List.mem_cons.mp h with rfl | h
    · rw [List.filter_cons_of_pos ((hf _ List.mem_cons_self).mpr rfl), List.filter_eq_nil_iff.mpr fun p hp => ?_]
      rw [hf p (List.mem_cons_of_mem _ hp)]
      exact fun e => nd.1 (by rw [← e]; exact List.mem_map.mpr ⟨p, hp, rfl⟩)
    · rw [List.filter_cons_of_neg, filter_one nd.2 h fun p hp => hf p (List.mem_cons_of_mem _ hp)]
      rw [hf x List.mem_cons_self]
      exact fun e => nd.1 (by rw [e]; exact List.mem_map.mpr ⟨q, h, rfl⟩)
theorem near_self {l : List SR} {w : Nat} (nd : (l.map (·.2)).Nodup) (hl : ∀ p ∈ l, p.2.length = w) {q : SR} (hq : q ∈ l) : nearB l q.2 = [q] := by
  refine filter_one nd hq fun p hp => ?_
  rw [decide_eq_true_eq]
  have z : dist q.2 q.2 = 0 := (dist_zero rfl).mpr rfl
  constructor
  · intro h
    have := h q hq
    exact (dist_zero ((hl p hp).trans (hl q hq).symm)).mp (by omega)
  · intro e y hy
    rw [e, z]
    exact Nat.zero_le _
theorem eqU_self {n : Nat} {x : U} (hn : n ≤ 60) (h : niceU n x = true) : eqU x x = some true := by
  obtain ⟨c, e, k⟩ := eqU_nice hn hn h h
  rw [e, k.mpr rfl]
theorem cut_take (us : List U) (k : Nat) (h : k ≤ us.length) : cutU us none (some (k : Int)) = us.take k := by
  unfold cutU
  rw [HT.sIx_nat, show HT.sIx us.length 0 none = 0 from rfl, Nat.min_eq_left h]
  rfl
/-! ### the law -/
theorem sc_law : FnScope ["script", "pool", "model", "book", "width", "marks", "rows", "due", "one", "other", "many", "asked", "row", "counts", "wanted", "told", "at", "wrong", "mark", "turn", "number"] ["script"] (defScope s_law) := ⟨rfl, rfl, rfl, by decide +kernel, rfl, by decide +kernel, by decide +kernel⟩
def spLaw (K : PySem.W.Frag) : Sp := fun vs H Q _ => ∃ (a : Addr) (ns : List Int), vs = [.ref a] ∧ SqL K H a (ns.map V.int) ∧ ns.length ≤ 63 ∧ ∀ H', Q (.bl true) H'
theorem ok_law (M : MF P w K mg cR iR cK iK cB fB pB aB cL) (F_law_pool : FnC P w K mg base CX0 1 "_law_pool" ["script"] (spPool K)) (F_law_drawn_book : FnC P w K mg base CX0 4 "_law_drawn_book" ["pool"] (spV true 1 WDBook)) (F_law_book : FnC P w K mg base CX0 10 "_law_book" ["model"] (spV false 1 (WLBook cB))) (F_law_draw : FnC P w K mg base CX0 1 "_law_draw" ["pool", "many"] (spV true 2 WDraw))
    (F_law_count : FnC P w K mg base CX0 1 "_law_count" ["one", "other"] (spV false 2 WCount)) (F_law_same : FnC P w K mg base CX0 8 "_law_same" ["actual", "due"] (spV false 2 (WSame 3))) (F_least_apart : FnC P w K mg base CX0 9 "least_apart" ["book"] (spV false 1 (WLeastApart cB))) (F_nearest : FnC P w K mg base (L2.CX P w) 9 "nearest" ["book", "row"] (spF false 2 (WNearest [cB] cR cB)))
    (F_law_row : FnC P w K mg base CX0 2 "_law_row" ["pool", "length"] (spV true 2 WRowP)) (F_law_row_of : FnC P w K mg base CX0 1 "_law_row_of" ["number", "width"] (spV false 2 WRowNum)) (F_law_deep : FnC P w K mg base CX0 1 "_law_deep" [] (spV false 0 WDeep)) (F_law_refused : FnC P w K mg base CX0 10 "_law_refused" ["book", "row"] (spV false 2 (WRefB [cB] cB)))
    (F : Fun K "law" "law" s_law f fd) : FnOk P w K mg base CX0 13 f fd ["script"] (spLaw K) := by
  refine F.ok (k := 12) sc_law (fun vs H Q E h => ?_) (fun cdv A outer s H vs Q E hr h => ?_)
  · obtain ⟨a, ns, rfl, _⟩ := h
    rfl
  · obtain ⟨a, ss, rfl, hS, hl, fin⟩ := h
    refine ⟨_, (pss_cons (ps_set (i := 1) sc_law.nd rfl (Or.inr rfl) (pe_f F_law_pool hr (by omega) pass0 (pa_cons (pv 0) pa_nil)))
      (pss_cons (ps_set (i := 2) sc_law.nd rfl (Or.inr rfl) (pe_f F_law_drawn_book hr (by omega) pass0 (pa_cons (pv 1) pa_nil)))
      (pss_cons (ps_set (i := 3) sc_law.nd rfl (Or.inl rfl) (pe_f F_law_book hr (by omega) pass0 (pa_cons (pv 2) pa_nil)))
      (pss_cons (ps_set (i := 4) sc_law.nd rfl (Or.inr rfl) (pe_callB (call_lenV K) (by rfl) M.m_len PySem.boot_len (pa_cons (pe_ix (ix_seqK K) (pv 2) pe_int (fun _ _ => rfl)) pa_nil)))
      (pss_cons (ps_set (i := 5) sc_law.nd rfl (Or.inr rfl) (pe_op op_cat (pe_callB (cr_sortSK K) (by rfl) M.m_sorted (by decide +kernel) (pa_cons (pe_callTy (call_listD rfl) (by rfl) M.m_list (by decide +kernel) (pa_cons (pe_ix (ix_seqK K) (pv 2) pe_int (fun _ _ => rfl)) pa_nil)) pa_nil)) (pe_lst (pa_cons pe_str (pa_cons pe_str pa_nil)))))
      (pss_cons (ps_set (i := 6) sc_law.nd rfl (Or.inl rfl) (pe_op op_cat (pe_lc (own := [("mark", 18)]) (tt := tYes) rfl sc_law.nd (pi_seq K (pe_slice (sl_listK K) (pv 5) po_none (po_some (pe_op op_sub (pe_callB (call_lenV K) (by rfl) M.m_len PySem.boot_len (pa_cons (pv 5) pa_nil)) pe_int)))) (blkOk_by (N := ["script", "pool", "model", "book", "width", "marks", "rows", "due", "one", "other", "many", "asked", "row", "counts", "wanted", "told", "at", "wrong", "mark", "turn", "number"]) (sc := defScope s_law) (by decide +kernel)) (fun _ _ _ _ _ => (pg_name (i := 18) sc_law.nd rfl (Or.inl rfl))) (fun _ _ _ _ _ => pts_nil) (fun _ _ _ _ _ => (pe_dget (hu_of hr) (pe_ix (ix_seqK K) (pv 2) pe_int (fun _ _ => rfl)) (pv 18) (fun _ _ => rfl)))) (pe_lst (pa_cons (pe_ix (ix_seqK K) (pv 2) pe_int (fun _ _ => rfl)) (pa_cons (pe_ix (ix_seqK K) (pv 2) pe_int (fun _ _ => rfl)) pa_nil)))))
      (pss_cons (ps_set (i := 7) sc_law.nd rfl (Or.inl rfl) pe_non)
      (pss_cons (ps_for PassesOwn.never rfl (pi_range1 (by rfl) M.m_range (pa_cons (pe_callB (call_lenV K) (by rfl) M.m_len PySem.boot_len (pa_cons (pv 6) pa_nil)) pa_nil)) (pg_name (i := 8) sc_law.nd rfl (Or.inl rfl))
      (pss_one (ps_for PassesOwn.never rfl (pi_range2 (by rfl) M.m_range (pa_cons (pe_op (op_addU K) (pv 8) pe_int) (pa_cons (pe_callB (call_lenV K) (by rfl) M.m_len PySem.boot_len (pa_cons (pv 6) pa_nil)) pa_nil))) (pg_name (i := 9) sc_law.nd rfl (Or.inl rfl))
      (pss_cons (ps_set (i := 10) sc_law.nd rfl (Or.inl rfl) (pe_f F_law_count hr (by omega) pass0 (pa_cons (pe_ix (ix_seqK K) (pv 6) (pv 8) (fun _ _ => rfl)) (pa_cons (pe_ix (ix_seqK K) (pv 6) (pv 9) (fun _ _ => rfl)) pa_nil))))
      (pss_one (ps_if (PW.pt (pw_or (pt_cmpR op_isN (pv 7) pe_non (nomark _)) (pw_or1 (pt_cmpR op_lt (pv 10) (pe_ix (ix_seqK K) (pv 7) pe_int (fun _ _ => rfl)) (nomark _)))))
      (pss_one (ps_set (i := 7) sc_law.nd rfl (Or.inl rfl) (pe_tup (pa_cons (pv 10) (pa_cons (pe_ix (ix_seqK K) (pv 5) (pv 8) (fun _ _ => rfl)) (pa_cons (pe_ix (ix_seqK K) (pv 5) (pv 9) (fun _ _ => rfl)) pa_nil)))))) pss_nil))))))
      (pss_cons (ps_if (pt_not (pt_val (pe_f F_law_same hr (by omega) pass0 (pa_cons (pe_f F_least_apart hr (by omega) pass0 (pa_cons (pv 3) pa_nil)) (pa_cons (pv 7) pa_nil)))))
      (pss_one (ps_ret pe_bl)) pss_nil)
      (pss_cons (ps_setLc (i := 11) (own := [("turn", 19)]) (tt := tYes) rfl sc_law.nd rfl rfl (sw_true rfl rfl rfl (by decide +kernel)) (pi_range1 (by rfl) M.m_range (pa_cons pe_int pa_nil)) (blkOk_by (N := ["script", "pool", "model", "book", "width", "marks", "rows", "due", "one", "other", "many", "asked", "row", "counts", "wanted", "told", "at", "wrong", "mark", "turn", "number"]) (sc := defScope s_law) (by decide +kernel)) (fun _ _ _ _ _ => (pg_name (i := 19) sc_law.nd rfl (Or.inl rfl))) (fun _ _ _ _ _ => pts_nil) (fun _ _ _ _ _ => (pe_f F_law_row hr (by omega) pass0 (pa_cons (pv 1) (pa_cons (pv 4) pa_nil)))))
      (pss_cons (ps_if (pt_cmpR op_le (pv 4) pe_int (nomark _))
      (pss_one (ps_setLc (i := 11) (own := [("number", 20)]) (tt := tYes) rfl sc_law.nd rfl rfl (sw_true rfl rfl rfl (by decide +kernel)) (pi_range1 (by rfl) M.m_range (pa_cons (pe_ix (ix_seqK K) (pe_lst (pa_cons pe_int (pa_cons pe_int (pa_cons pe_int pa_nil)))) (pe_op op_sub (pv 4) pe_int) (fun _ _ => rfl)) pa_nil)) (blkOk_by (N := ["script", "pool", "model", "book", "width", "marks", "rows", "due", "one", "other", "many", "asked", "row", "counts", "wanted", "told", "at", "wrong", "mark", "turn", "number"]) (sc := defScope s_law) (by decide +kernel)) (fun _ _ _ _ _ => (pg_name (i := 20) sc_law.nd rfl (Or.inl rfl))) (fun _ _ _ _ _ => pts_nil) (fun _ _ _ _ _ => (pe_f F_law_row_of hr (by omega) pass0 (pa_cons (pv 20) (pa_cons (pv 4) pa_nil)))))) pss_nil)
      (pss_cons (ps_for PassesOwn.never rfl (pi_seq K (pv 11)) (pg_name (i := 12) sc_law.nd rfl (Or.inr rfl))
      (pss_cons (ps_set (i := 13) sc_law.nd rfl (Or.inr rfl) (pe_lc (own := [("other", 9)]) (tt := tYes) rfl sc_law.nd (pi_seq K (pv 6)) (blkOk_by (N := ["script", "pool", "model", "book", "width", "marks", "rows", "due", "one", "other", "many", "asked", "row", "counts", "wanted", "told", "at", "wrong", "mark", "turn", "number"]) (sc := defScope s_law) (by decide +kernel)) (fun _ _ _ _ _ => (pg_name (i := 9) sc_law.nd rfl (Or.inl rfl))) (fun _ _ _ _ _ => pts_nil) (fun _ _ _ _ _ => (pe_f F_law_count hr (by omega) pass0 (pa_cons (pv 12) (pa_cons (pv 9) pa_nil))))))
      (pss_cons (ps_setLc (i := 14) (own := [("at", 16)]) rfl sc_law.nd rfl rfl (sw_true rfl rfl rfl (by decide +kernel)) (pi_range1 (by rfl) M.m_range (pa_cons (pe_callB (call_lenV K) (by rfl) M.m_len PySem.boot_len (pa_cons (pv 5) pa_nil)) pa_nil)) (blkOk_by (N := ["script", "pool", "model", "book", "width", "marks", "rows", "due", "one", "other", "many", "asked", "row", "counts", "wanted", "told", "at", "wrong", "mark", "turn", "number"]) (sc := defScope s_law) (by decide +kernel)) (fun _ _ _ _ _ => (pg_name (i := 16) sc_law.nd rfl (Or.inl rfl))) (fun _ _ _ _ _ => (pts_one (pt_cmpR (op_eqV K hr.units) (pe_ix (ix_seqK K) (pv 13) (pv 16) (fun _ _ => rfl)) (pe_callB (cr_minK K rfl) (by rfl) M.m_min (by decide +kernel) (pa_cons (pv 13) pa_nil)) (nomark _)))) (fun _ _ _ _ _ => (pe_ix (ix_seqK K) (pv 5) (pv 16) (fun _ _ => rfl))))
      (pss_cons (ps_set (i := 15) sc_law.nd rfl (Or.inl rfl) (pe_f F_nearest hr (by omega) passL (pa_cons (pv 3) (pa_cons (pv 12) pa_nil))))
      (pss_cons (ps_if (pt_not (pt_val (pe_f F_law_same hr (by omega) pass0 (pa_cons (pv 15) (pa_cons (pv 14) pa_nil)))))
      (pss_one (ps_ret pe_bl)) pss_nil)
      (pss_cons (ps_expr (pe_bm PySem.F.plainAttrs_list PySem.F.slot_list_append PySem.F.type_list_append mt_append (pv 15) (pa_cons pe_str pa_nil)))
      (pss_one (ps_if (pt_not (pt_val (pe_f F_law_same hr (by omega) pass0 (pa_cons (pe_f F_nearest hr (by omega) passL (pa_cons (pv 3) (pa_cons (pv 12) pa_nil))) (pa_cons (pv 14) pa_nil)))))
      (pss_one (ps_ret pe_bl)) pss_nil))))))))
      (pss_cons (ps_for PassesOwn.never rfl (pi_range1 (by rfl) M.m_range (pa_cons (pe_callB (call_lenV K) (by rfl) M.m_len PySem.boot_len (pa_cons (pv 5) pa_nil)) pa_nil)) (pg_name (i := 16) sc_law.nd rfl (Or.inl rfl))
      (pss_one (ps_if (pt_cmpR (op_neV K hr.units) (pe_f F_nearest hr (by omega) passL (pa_cons (pv 3) (pa_cons (pe_ix (ix_seqK K) (pv 6) (pv 16) (fun _ _ => rfl)) pa_nil))) (pe_lst (pa_cons (pe_ix (ix_seqK K) (pv 5) (pv 16) (fun _ _ => rfl)) pa_nil)) (nomark _))
      (pss_one (ps_ret pe_bl)) pss_nil)))
      (pss_cons (ps_set (i := 17) sc_law.nd rfl (Or.inl rfl) (pe_lst (pa_cons pe_non (pa_cons (pe_tup pa_nil) (pa_cons pe_int (pa_cons pe_str (pa_cons (pe_callTy (call_listOfK K) (by rfl) M.m_list (by decide +kernel) (pa_cons (pe_ix (ix_seqK K) (pv 2) pe_int (fun _ _ => rfl)) pa_nil)) (pa_cons (pe_op (op_addU K) (pe_ix (ix_seqK K) (pv 2) pe_int (fun _ _ => rfl)) (pe_tup (pa_cons pe_int pa_nil))) (pa_cons (pe_slice (sl_tupV K) (pe_ix (ix_seqK K) (pv 2) pe_int (fun _ _ => rfl)) (po_some pe_int) po_none) (pa_cons (pe_op (op_addU K) (pe_slice (sl_tupV K) (pe_ix (ix_seqK K) (pv 2) pe_int (fun _ _ => rfl)) (po_some pe_int) po_none) (pe_tup (pa_cons pe_int pa_nil))) (pa_cons (pe_op (op_addU K) (pe_slice (sl_tupV K) (pe_ix (ix_seqK K) (pv 2) pe_int (fun _ _ => rfl)) (po_some pe_int) po_none) (pe_tup (pa_cons pe_bl pa_nil))) pa_nil)))))))))))
      (pss_cons (ps_set (i := 17) sc_law.nd rfl (Or.inl rfl) (pe_op op_cat (pv 17) (pe_lst (pa_cons (pe_op (op_addU K) (pe_slice (sl_tupV K) (pe_ix (ix_seqK K) (pv 2) pe_int (fun _ _ => rfl)) (po_some pe_int) po_none) (pe_tup (pa_cons (pe_lst pa_nil) pa_nil))) (pa_cons (pe_op (op_addU K) (pe_slice (sl_tupV K) (pe_ix (ix_seqK K) (pv 2) pe_int (fun _ _ => rfl)) (po_some pe_int) po_none) (pe_tup (pa_cons (pe_f0 F_law_deep hr (by omega) pass0) pa_nil))) (pa_cons (pe_f0 F_law_deep hr (by omega) pass0) (pa_cons (pv 3) pa_nil)))))))
      (pss_one (ps_ret (pe_cmpR (op_eqV K hr.units) (pe_f F_law_refused hr (by omega) pass0 (pa_cons (pv 3) (pa_cons (pe_ix (ix_seqK K) (pv 17) (pe_f F_law_draw hr (by omega) pass0 (pa_cons (pv 1) (pa_cons pe_int pa_nil))) (fun _ _ => rfl)) pa_nil))) pe_str (nomark _))))))))))))))))))), ?_⟩
    refine ⟨.ref a, rfl, a, ss, rfl, hS, hl, fun H' p q s' np hP => ?_⟩
    refine pool_runN (n := 19) (post := fun u => u = .bl true) hP (fun v u G' H' e r => ?_) fun Z hb hs => ⟨_, (s_seq (s_set (v_call (ple1 (by rw [hb])) (v_cons v_var v_nil)))
      (s_seq (s_set (v_call ple0 (v_cons v_var v_nil)))
      (s_seq (s_set (v_cb b_len (v_consB (TrE.b (v_op o_ix (TrE.b v_var) (TrE.b v_int))) v_nilB)))
      (s_seq (s_set (TrF.e (v_opF o_catL (TrF.b (v_cbF b_sortS (v_consB (TrF.b (v_cbF b_listDK (v_consB (TrE.b (v_op o_ix (TrE.b v_var) (TrE.b v_int))) v_nilB))) v_nilB))) (TrF.b (v_lst (v_cons v_str (v_cons v_str v_nil)))))))
      (s_seq (s_set (TrF.e (v_opF o_catL (TrF.b (v_lc (i_seq (TrF.e (v_slL (TrE.b v_var) v_noPart (v_part (v_op o_II (TrE.b (v_cb b_len (v_consB (TrE.b v_var) v_nilB))) (TrE.b v_int)))))) (g_name (by decide)) v_yes (v_dget (TrE.b (v_op o_ix (TrE.b v_var) (TrE.b v_int))) v_var))) (TrF.b (v_lst (v_cons (v_op o_ix (TrE.b v_var) (TrE.b v_int)) (v_cons (v_op o_ix (TrE.b v_var) (TrE.b v_int)) v_nil)))))))
      (s_seq (s_set v_non)
      (s_seq (s_for (vs := [8]) (i_rng1 (v_cons (v_cb b_len (v_consB (TrE.b v_var) v_nilB)) v_nil)) (g_name (by decide))
      (s_for (vs := [9]) (i_rng2 (v_cons (v_op o_add (TrE.b v_var) (TrE.b v_int)) (v_cons (v_cb b_len (v_consB (TrE.b v_var) v_nilB)) v_nil))) (g_name (by decide))
      (s_seq (s_set (v_call ple0 (v_cons (v_op o_ix (TrE.b v_var) (TrE.b v_var)) (v_cons (v_op o_ix (TrE.b v_var) (TrE.b v_var)) v_nil))))
      (s_if (v_or (v_test (v_op o_isN (TrE.b v_var) (TrE.b v_non))) (v_test (v_op o_IB (TrE.b v_var) (TrE.b (v_op o_ix (TrE.b v_var) (TrE.b v_int))))))
      (s_set (v_tup (v_cons v_var (v_cons (v_op o_ix (TrE.b v_var) (TrE.b v_var)) (v_cons (v_op o_ix (TrE.b v_var) (TrE.b v_var)) v_nil))))) s_nil))))
      (s_seq (s_if (v_not (v_tB (v_call ple0 (v_cons (v_call ple0 (v_cons v_var v_nil)) (v_cons v_var v_nil)))))
      (s_ret v_bl) s_nil)
      (s_seq (s_set (TrF.e (v_lc (i_rng1 (v_cons v_int v_nil)) (g_name (by decide)) v_yes (v_call (ple1 (by rw [hb])) (v_cons v_var (v_cons v_var v_nil))))))
      (s_cut (s_if (v_test (v_op o_IB (TrE.b v_var) (TrE.b v_int)))
      (s_set (TrF.e (v_lc (i_rng1 (v_cons (v_op o_ix (TrF.b (v_lst (v_cons v_int (v_cons v_int (v_cons v_int v_nil))))) (TrE.b (v_op o_II (TrE.b v_var) (TrE.b v_int)))) v_nil)) (g_name (by decide)) v_yes (v_call ple0 (v_cons v_var (v_cons v_var v_nil)))))) s_nil)
      (s_seq (s_for (vs := [12]) (i_seq v_var) (g_name (by decide))
      (s_seq (s_set (TrF.e (v_lc (i_seq v_var) (g_name (by decide)) v_yes (v_call ple0 (v_cons v_var (v_cons v_var v_nil))))))
      (s_seq (s_set (TrF.e (v_lc (i_rng1 (v_cons (v_cb b_len (v_consB (TrE.b v_var) v_nilB)) v_nil)) (g_name (by decide)) (v_test (v_op o_eq (TrE.b (v_op o_ix (TrE.b v_var) (TrE.b v_var))) (TrE.b (v_cb b_minL (v_consB (TrE.b v_var) v_nilB))))) (v_op o_ix (TrE.b v_var) (TrE.b v_var)))))
      (s_seq (s_setO (v_callF ple0 (v_cons v_var (v_cons v_var v_nil))))
      (s_seq (s_if (v_not (v_tB (v_lend (i := 15) (v_call ple0 (v_cons v_var (v_cons v_var v_nil))))))
      (s_ret v_bl) s_nil)
      (s_seq (s_append v_str)
      (s_if (v_not (v_tB (v_call ple0 (v_cons (TrF.e (v_callF ple0 (v_cons v_var (v_cons v_var v_nil)))) (v_cons v_var v_nil)))))
      (s_ret v_bl) s_nil)))))))
      (s_seq (s_for (vs := [16]) (i_rng1 (v_cons (v_cb b_len (v_consB (TrE.b v_var) v_nilB)) v_nil)) (g_name (by decide))
      (s_if (v_test (v_op o_ne (TrF.b (v_callF ple0 (v_cons v_var (v_cons (v_op o_ix (TrE.b v_var) (TrE.b v_var)) v_nil)))) (TrF.b (v_lst (v_cons (v_op o_ix (TrE.b v_var) (TrE.b v_var)) v_nil)))))
      (s_ret v_bl) s_nil))
      (s_seq (s_set (TrF.e (v_lst (v_cons v_non (v_cons (v_tup v_nil) (v_cons v_int (v_cons v_str (v_cons (TrF.e (v_cbF b_list (v_consB (TrE.b (v_op o_ix (TrE.b v_var) (TrE.b v_int))) v_nilB))) (v_cons (v_op o_add (TrE.b (v_op o_ix (TrE.b v_var) (TrE.b v_int))) (TrE.b (v_tup (v_cons v_int v_nil)))) (v_cons (v_slT (v_op o_ix (TrE.b v_var) (TrE.b v_int)) (v_part v_int) v_noPart) (v_cons (v_op o_add (TrE.b (v_slT (v_op o_ix (TrE.b v_var) (TrE.b v_int)) (v_part v_int) v_noPart)) (TrE.b (v_tup (v_cons v_int v_nil)))) (v_cons (v_op o_add (TrE.b (v_slT (v_op o_ix (TrE.b v_var) (TrE.b v_int)) (v_part v_int) v_noPart)) (TrE.b (v_tup (v_cons v_bl v_nil)))) v_nil))))))))))))
      (s_seq (s_set (TrF.e (v_opF o_catL (TrE.b v_var) (TrF.b (v_lst (v_cons (v_op o_add (TrE.b (v_slT (v_op o_ix (TrE.b v_var) (TrE.b v_int)) (v_part v_int) v_noPart)) (TrE.b (v_tup (v_cons (TrF.e (v_lst v_nil)) v_nil)))) (v_cons (v_op o_add (TrE.b (v_slT (v_op o_ix (TrE.b v_var) (TrE.b v_int)) (v_part v_int) v_noPart)) (TrE.b (v_tup (v_cons (v_call ple0 v_nil) v_nil)))) (v_cons (v_call ple0 v_nil) (v_cons v_var v_nil)))))))))
      (s_ret (v_op o_eq (TrE.b (v_call ple0 (v_cons v_var (v_cons (v_op o_ix (TrE.b v_var) (TrE.b (v_call (ple1 (by rw [hb])) (v_cons v_var (v_cons v_int v_nil))))) v_nil)))) (TrE.b v_str))))))))))))))))), ?_⟩
    · subst e
      cases r
      exact fin _
    ac_rfl
    intro kv st sp w w2 B as
    have lo := B.lo
    have hi := B.hi
    have w6 := B.w6
    have Bo : BookOk kv st sp w := ⟨B.nd, B.sg, B.so, B.rb, B.sb, B.pb, B.lo, B.hi, B.w6⟩
    ac_rfl
    refine ⟨kv, st, sp, w, rfl, B, as, ?_⟩
    ac_rfl
    have ek : keysOf (kv.map fun p => ((Sum.inr p.1 : Key), rowV p.2)) = (kv.map (·.1)).map Sum.inr := by
      unfold keysOf
      rw [List.map_map, List.map_map]
      rfl
    refine ⟨fun s hs => ?_, ?_⟩
    · rw [ek] at hs
      obtain ⟨q, hq, e⟩ := List.mem_map.mp hs
      cases e
      obtain ⟨q2, hq2, rfl⟩ := List.mem_map.mp hq
      have := B.sl q2 hq2
      omega
    rw [ek, List.map_map, show (uKey ∘ (Sum.inr : Str → Key)) = U.str from rfl]
    refine ⟨kv.map (·.1), rfl, by rw [List.length_map]; omega, fun ms pm so => ?_⟩
    obtain rfl := asc_sorted as pm so
    refine ⟨by show 2 ≤ 100000; decide, _, catL_ok (by rw [List.length_map, List.length_map]; show _ + 2 ≤ 100000; omega), ?_⟩
    obtain ⟨l, el⟩ : ∃ l, marksB kv st sp = l := ⟨_, rfl⟩
    have ml : l.length = kv.length + 2 := by rw [← el, marks_len]
    have hm : ∀ p ∈ l, bits p.2 ∧ p.2.length = w := fun p hp => Bo.marks (by rw [el]; exact hp)
    have em : (kv.map (·.1)).map U.str ++ [U.str "start", U.str "stop"] = l.map fun p => U.str p.1 := by
      rw [← el]
      unfold marksB
      rw [List.map_append, List.map_map]
      rfl
    rw [em]
    ac_rfl
    have ec : cutU (l.map fun p => U.str p.1) none (some (((l.map fun p => U.str p.1).length : Int) - 2)) = kv.map fun p => U.str p.1 := by
      rw [List.length_map, ml, show ((kv.length + 2 : Nat) : Int) - 2 = ((kv.length : Nat) : Int) by omega, cut_take _ _ (by rw [List.length_map]; omega), ← el]
      unfold marksB
      rw [List.map_append, List.take_left' (List.length_map _)]
    rw [ec]
    refine ⟨fun i acc => acc = (kv.take i).map fun p => rowV p.2, rfl, ?_, ?_⟩
    · rintro i u acc e h
      rw [List.getElem?_map] at e
      cases eq : kv[i]? with
      | none => rw [eq] at e; cases e
      | some q =>
        rw [eq] at e
        cases e
        refine lcI ⟨_, rfl, _, rfl, _, rfl, rowV q.2, congrArg some (pat_val B.nd (List.mem_of_getElem? eq)), ?_⟩
        exact map_step (fun p : SR => rowV p.2) h eq
    rintro acc h
    rw [List.length_map, List.take_length] at h
    subst h
    ac_rfl
    have er : (kv.map fun p => rowV p.2) ++ [rowV st, rowV sp] = l.map fun p => rowV p.2 := by
      rw [← el]
      unfold marksB
      rw [List.map_append]
      rfl
    refine ⟨_, catL_ok (by rw [List.length_map]; show _ + 2 ≤ 100000; omega), ?_⟩
    rw [er]
    ac_rfl
    have rl : (l.map fun p => rowV p.2).length = l.length := List.length_map _
    rw [show (st.map U.int).length = w from (List.length_map _).trans B.sb.2]
    have rix : ∀ {i : Nat} {q : SR}, l[i]? = some q → fIx (.lst (l.map fun p => rowV p.2)) (.int (i : Int)) = some (rowV q.2) := fun {i q} e => lstIx (by rw [List.getElem?_map, e]; rfl)
    have mix : ∀ {i : Nat} {q : SR}, l[i]? = some q → fIx (.lst (l.map fun p => U.str p.1)) (.int (i : Int)) = some (.str q.1) := fun {i q} e => lstIx (by rw [List.getElem?_map, e]; rfl)
    refine ⟨by omega, by omega, fun i ρ => ∃ c8 c9 c10 : Cell, ρ = [.no, .fz .pool, .fz (modelU kv st sp), .fz (bookV cB kv st sp), .fz (.int (w : Int)), .fz (.lst (l.map fun p => U.str p.1)), .fz (.lst (l.map fun p => rowV p.2)), .fz (bestU ((pairsTo l i).foldl nearer none)), c8, c9, c10, .no, .no, .no, .no, .no, .no, .no, .no, .no, .no], ⟨_, _, _, rfl⟩, ?_, ?_⟩
    · rintro i u _ e ⟨c8, c9, c10, rfl⟩
      obtain ⟨hi, rfl⟩ := upto_at0 e
      have hi : i < l.length := by omega
      obtain ⟨q, eq⟩ : ∃ q, l[i]? = some q := ⟨_, List.getElem?_eq_getElem hi⟩
      have gq : l.getD i ("", []) = q := by rw [List.getD_eq_getElem?_getD, eq]; rfl
      have hq := List.mem_of_getElem? eq
      ac_rfl
      refine ⟨by omega, fun j ρ => ∃ c9 c10 : Cell, ρ = [.no, .fz .pool, .fz (modelU kv st sp), .fz (bookV cB kv st sp), .fz (.int (w : Int)), .fz (.lst (l.map fun p => U.str p.1)), .fz (.lst (l.map fun p => rowV p.2)), .fz (bestU ((pairsTo l i ++ (pairsAt l i).take j).foldl nearer none)), .fz (.int (i : Int)), c9, c10, .no, .no, .no, .no, .no, .no, .no, .no, .no, .no], ⟨c9, c10, by rw [List.take_zero, List.append_nil]; rfl⟩, ?_, ?_⟩
      · rintro j u _ ej ⟨c9, c10, rfl⟩
        obtain ⟨hj, rfl⟩ := upto_at ej
        have hj : i + 1 + j < l.length := by omega
        obtain ⟨y, ey⟩ : ∃ y, l[i + 1 + j]? = some y := ⟨_, List.getElem?_eq_getElem hj⟩
        have hy := List.mem_of_getElem? ey
        have ez : (pairsAt l i)[j]? = some (q, y) := by
          unfold pairsAt
          rw [List.getElem?_map, List.getElem?_drop, ey, gq]
          rfl
        have es : (pairsTo l i ++ (pairsAt l i).take (j + 1)).foldl nearer none = nearer ((pairsTo l i ++ (pairsAt l i).take j).foldl nearer none) (q, y) := by
          rw [show (pairsAt l i).take (j + 1) = (pairsAt l i).take j ++ [(q, y)] from take_more ez, ← List.append_assoc, List.foldl_append]
          rfl
        generalize (pairsTo l i ++ (pairsAt l i).take j).foldl nearer none = b at es
        have dl := (hm q hq).2.trans (hm y hy).2.symm
        rw [show ((i : Nat) : Int) + 1 + ((j : Nat) : Int) = ((i + 1 + j : Nat) : Int) by omega]
        refine ⟨_, rfl, _, rfl, _, rix eq, _, rfl, _, rfl, _, rix ey, rfl, _, _, rfl, dl, by rw [(hm q hq).2]; omega, ?_⟩
        cases b with
        | none =>
          refine ⟨_, rfl, _, rfl, ?_⟩
          refine ⟨_, rfl, iteT_of rfl (iteT_of rfl ?_)⟩
          refine ⟨_, rfl, _, rfl, _, rfl, _, mix eq, _, rfl, _, rfl, _, mix ey, by show 3 ≤ 100000; decide, ?_⟩
          refine ⟨.fz (.int ((i + 1 + j : Nat) : Int)), .fz (.int (dist q.2 y.2 : Nat)), ?_⟩
          rw [es]
          rfl
        | some z =>
          refine ⟨_, rfl, _, rfl, _, rfl, iteF_of rfl ?_⟩
          have ez : nearer (some z) (q, y) = if dist q.2 y.2 < dist z.1.2 z.2.2 then some (q, y) else some z := rfl
          refine ⟨_, rfl, _, rfl, .int (dist z.1.2 z.2.2 : Nat), atI_int (Int.le_refl 0) rfl, _, rfl, _, rfl, ?_⟩
          by_cases c : dist q.2 y.2 < dist z.1.2 z.2.2
          · refine iteT_of (decide_eq_true (by omega)) ?_
            rw [if_pos c] at ez
            refine ⟨_, rfl, _, rfl, _, rfl, _, mix eq, _, rfl, _, rfl, _, mix ey, by show 3 ≤ 100000; decide, ?_⟩
            refine ⟨.fz (.int ((i + 1 + j : Nat) : Int)), .fz (.int (dist q.2 y.2 : Nat)), ?_⟩
            rw [es, ez]
            rfl
          · refine iteF_of (decide_eq_false (by omega)) ?_
            rw [if_neg c] at ez
            refine ⟨.fz (.int ((i + 1 + j : Nat) : Int)), .fz (.int (dist q.2 y.2 : Nat)), ?_⟩
            rw [es, ez]
            rfl
      rintro _ ⟨c9, c10, rfl⟩
      refine ⟨.fz (.int (i : Int)), c9, c10, ?_⟩
      have lp : (pairsAt l i).length = l.length - (i + 1) := by
        unfold pairsAt
        rw [List.length_map, List.length_drop]
      rw [pairsTo_succ, upto_len, show (((l.map fun p => rowV p.2).length : Int) - ((i : Int) + 1)).toNat = (pairsAt l i).length by omega, List.take_length]
    rintro _ ⟨c8, c9, c10, rfl⟩
    rw [upto_len, rl, Int.toNat_natCast]
    ac_rfl
    refine ⟨kv, st, sp, w, rfl, Bo, ?_⟩
    rw [el]
    have near : ∀ (r : List Int), bits r → r.length = w → ∀ {post : U → Prop} {ew : EW}, post (.lst ((nearB l r).map fun p => U.str p.1)) → WNearest [cB] cR cB [bookV cB kv st sp, rowV r] post ew := fun r rb rlw {post ew} p => by
      refine ⟨kv, st, sp, w, _, rfl, Bo, trivial, asksT_row r, fun r' e rb' rl' => ?_, fun n => absurd n (by rw [rowOf_bits rb rlw]; decide)⟩
      obtain rfl : r = r' := by
        have := U.tup.inj e
        exact List.map_inj_right (fun x y h => U.int.inj h) |>.mp this
      rw [el]
      exact p
    have hso : ∀ p ∈ l, PyData.strOk p.1 = true := fun p hp => by
      rw [← el] at hp
      rcases List.mem_append.mp hp with h | h
      · exact Bo.so p h
      · rcases List.mem_cons.mp h with rfl | h
        · exact (by decide +kernel : PyData.strOk "start" = true)
        · rw [List.mem_singleton.mp h]
          exact (by decide +kernel : PyData.strOk "stop" = true)
    have plb : plU 3 (bestU (bestB l)) = true := by
      unfold bestB
      cases q : (pairsTo l l.length).foldl nearer none with
      | none => rfl
      | some z =>
        have hz := pairs_mem (Nat.le_refl _) ((near_mem _ _ q).resolve_left fun z => nomatch z)
        exact pl_tup (fun u hu => by
          simp only [List.mem_cons, List.not_mem_nil, or_false] at hu
          rcases hu with rfl | rfl | rfl
          · exact pl_int _ _
          · exact pl_str (hso _ hz.1) _
          · exact pl_str (hso _ hz.2) _) (by show 3 ≤ 100000; decide)
    refine ⟨_, rfl, rfl, _, rfl, plb, ?_⟩
    ac_rfl
    refine ⟨fun i acc => ∃ rs : List (List Int), acc = rs.map rowV ∧ rs.length = i ∧ ∀ r ∈ rs, bits r ∧ r.length = w, ⟨[], rfl, rfl, fun _ h => nomatch h⟩, ?_, ?_⟩
    · rintro i u acc e ⟨rs, rfl, lr, hrs⟩
      refine lcI ?_
      ac_rfl
      refine ⟨by omega, fun r rl2 rb => ⟨rs ++ [r], by rw [List.map_append]; rfl, by rw [List.length_append, lr]; rfl, fun x hx => ?_⟩⟩
      rcases List.mem_append.mp hx with h | h
      · exact hrs x h
      · rw [List.mem_singleton.mp h]
        exact ⟨rb, rl2⟩
    rintro acc ⟨rs, rfl, lr, hrs⟩
    generalize hDue : bestU ((pairsTo l l.length).foldl nearer none) = due
    refine ⟨fun ρ => ∃ (rs : List (List Int)) (c8 c9 c10 : Cell), ρ = [.no, .fz .pool, .fz (modelU kv st sp), .fz (bookV cB kv st sp), .fz (.int (w : Int)), .fz (.lst (l.map fun p => U.str p.1)), .fz (.lst (l.map fun p => rowV p.2)), .fz due, c8, c9, c10, .fz (.lst (rs.map rowV)), .no, .no, .no, .no, .no, .no, .no, .no, .no] ∧ (∀ r ∈ rs, bits r ∧ r.length = w) ∧ rs.length ≤ 100, ?_, ?_⟩
    · refine ⟨_, rfl, _, rfl, _, rfl, ?_⟩
      by_cases c : w ≤ 4
      · refine iteT_of (decide_eq_true (by omega)) ?_
        obtain ⟨n, hn, en⟩ : ∃ n : Nat, n ≤ 16 ∧ fIx (.lst [.int 4, .int 8, .int 16]) (.int ((w : Int) - 2)) = some (.int (n : Int)) := by
          have : w = 2 ∨ w = 3 ∨ w = 4 := by omega
          rcases this with rfl | rfl | rfl
          · exact ⟨4, by decide, atI_int (xs := [U.int 4, .int 8, .int 16]) (by decide) rfl⟩
          · exact ⟨8, by decide, atI_int (xs := [U.int 4, .int 8, .int 16]) (by decide) rfl⟩
          · exact ⟨16, by decide, atI_int (xs := [U.int 4, .int 8, .int 16]) (by decide) rfl⟩
        refine ⟨by show 3 ≤ 100000; decide, _, rfl, _, rfl, _, en, _, rfl, by omega, by omega, ?_⟩
        refine ⟨fun i acc => acc = (List.range i).map fun k => rowV (rowN w k), rfl, ?_, ?_⟩
        · rintro i u acc e rfl
          obtain ⟨hi, rfl⟩ := upto_at0 e
          refine lcI ?_
          ac_rfl
          refine ⟨by omega, by omega, ?_⟩
          show (List.range i).map (fun k => rowV (rowN w k)) ++ [rowV (rowN w i)] = (List.range (i + 1)).map fun k => rowV (rowN w k)
          rw [List.range_succ, List.map_append]
          rfl
        rintro acc rfl
        rw [upto_len, Int.toNat_natCast, show ((List.range n).map fun k => rowV (rowN w k)) = ((List.range n).map (rowN w)).map rowV by rw [List.map_map]; rfl]
        refine ⟨(List.range n).map (rowN w), c8, c9, c10, rfl, fun r hr => ?_, by rw [List.length_map, List.length_range]; omega⟩
        obtain ⟨k, _, rfl⟩ := List.mem_map.mp hr
        exact ⟨rowN_bits w k, rowN_len w k⟩
      · refine iteF_of (decide_eq_false (by omega)) ?_
        refine ⟨rs, c8, c9, c10, rfl, hrs, ?_⟩
        rw [lr, upto_len]
        decide
    clear hrs lr rs
    rintro _ ⟨rs, c8, c9, c10, rfl, hrs, lrs⟩
    ac_rfl
    refine ⟨fun i ρ => ∃ c8 c9 c10 c12 c13 c14 c15 c16 : Cell, ρ = [.no, .fz .pool, .fz (modelU kv st sp), .fz (bookV cB kv st sp), .fz (.int (w : Int)), .fz (.lst (l.map fun p => U.str p.1)), .fz (.lst (l.map fun p => rowV p.2)), .fz due, c8, c9, c10, .fz (.lst (rs.map rowV)), c12, c13, c14, c15, c16, .no, .no, .no, .no], ⟨_, _, _, _, _, _, _, _, rfl⟩, ?_, ?_⟩
    · rintro i u _ e ⟨c8, c9, c10, c12, c13, c14, c15, c16, rfl⟩
      rw [List.getElem?_map] at e
      cases eq : rs[i]? with
      | none => rw [eq] at e; cases e
      | some r =>
        rw [eq] at e
        cases e
        obtain ⟨rb, rlw⟩ := hrs r (List.mem_of_getElem? eq)
        ac_rfl
        refine ⟨fun i acc => acc = (l.take i).map fun q => U.int (dist r q.2 : Nat), rfl, ?_, ?_⟩
        · rintro i u acc e h
          rw [List.getElem?_map] at e
          cases eq2 : l[i]? with
          | none => rw [eq2] at e; cases e
          | some q =>
            rw [eq2] at e
            cases e
            have hq := List.mem_of_getElem? eq2
            refine lcI ?_
            ac_rfl
            exact ⟨rlw.trans (hm q hq).2.symm, by omega, map_step (fun q : SR => U.int (dist r q.2 : Nat)) h eq2⟩
        rintro acc h
        rw [rl, List.take_length] at h
        obtain rfl : acc = (l.map fun q => ((dist r q.2 : Nat) : Int)).map U.int := by rw [h, List.map_map]; rfl
        ac_rfl
        have sl : (l.map fun p => U.str p.1).length = l.length := List.length_map _
        have cix : ∀ {i : Nat} {q : SR}, l[i]? = some q → fIx (.lst ((l.map fun q => ((dist r q.2 : Nat) : Int)).map U.int)) (.int (i : Int)) = some (.int (dist r q.2 : Nat)) := fun {i q} e => lstIx (by rw [List.getElem?_map, List.getElem?_map, e]; rfl)
        refine ⟨by omega, by omega, fun i acc => acc = ((l.take i).filter fun p => decide (∀ y ∈ l, dist p.2 r ≤ dist y.2 r)).map fun p => U.str p.1, rfl, ?_, ?_⟩
        · rintro i u acc e rfl
          obtain ⟨hi, rfl⟩ := upto_at0 e
          obtain ⟨q, eq⟩ : ∃ q, l[i]? = some q := ⟨_, List.getElem?_eq_getElem (by omega)⟩
          refine ⟨_, rfl, _, rfl, _, cix eq, _, rfl, _, rfl, by rw [List.length_map]; omega, fun m m1 m2 => ?_⟩
          refine ⟨_, fEq_int _ _, _, rfl, ?_⟩
          have et := congrArg (List.map fun q : SR => U.str q.1) (fm_take (fun p : SR => decide (∀ y ∈ l, dist p.2 r ≤ dist y.2 r)) eq)
          rw [List.map_append] at et
          have hq := List.mem_of_getElem? eq
          obtain ⟨t, ht, etm⟩ := List.mem_map.mp m1
          by_cases c : ∀ y ∈ l, dist q.2 r ≤ dist y.2 r
          · rw [if_pos (decide_eq_true c)] at et
            refine iteT_of (decide_eq_true ?_) ⟨_, rfl, _, rfl, _, mix eq, et.symm⟩
            have h1 := c t ht
            have h2 := m2 _ (List.mem_map.mpr ⟨q, hq, rfl⟩)
            rw [dist_comm q.2 r, dist_comm t.2 r] at h1
            omega
          · rw [if_neg (by simp only [decide_eq_true_eq]; exact c)] at et
            refine iteF_of (decide_eq_false fun e => c fun y hy => ?_) (et.trans (List.append_nil _)).symm
            have h2 := m2 _ (List.mem_map.mpr ⟨y, hy, rfl⟩)
            rw [dist_comm q.2 r, dist_comm y.2 r]
            omega
        rintro acc h
        rw [upto_len, sl, Int.toNat_natCast, List.take_length] at h
        obtain rfl : acc = (nearB l r).map fun p => U.str p.1 := h
        ac_rfl
        have nl : (nearB l r).length ≤ l.length := List.length_filter_le _ _
        have pn : plU 3 (.lst ((nearB l r).map fun p => U.str p.1)) = true := pl_lst (fun u hu => by
          obtain ⟨p, hp, rfl⟩ := List.mem_map.mp hu
          exact pl_str (hso p (List.mem_filter.mp hp).1) _) (by rw [List.length_map]; omega)
        refine near r rb rlw ?_
        refine ⟨_, rfl, _, rfl, _, rfl, rfl, _, rfl, pn, rfl, _, rfl, iteF_of rfl ?_⟩
        refine ⟨_, rfl, by rw [List.length_map]; omega, ?_⟩
        ac_rfl
        refine near r rb rlw ?_
        ac_rfl
        refine ⟨pn, ?_⟩
        ac_rfl
        exact ⟨_, _, _, _, _, _, _, _, rfl⟩
    rintro _ ⟨c8, c9, c10, c12, c13, c14, c15, c16, rfl⟩
    ac_rfl
    have sl : (l.map fun p => U.str p.1).length = l.length := List.length_map _
    refine ⟨by omega, by omega, fun i ρ => ∃ c16 : Cell, ρ = [.no, .fz .pool, .fz (modelU kv st sp), .fz (bookV cB kv st sp), .fz (.int (w : Int)), .fz (.lst (l.map fun p => U.str p.1)), .fz (.lst (l.map fun p => rowV p.2)), .fz due, c8, c9, c10, .fz (.lst (rs.map rowV)), c12, c13, c14, c15, c16, .no, .no, .no, .no], ⟨_, rfl⟩, ?_, ?_⟩
    · rintro i u _ e ⟨c16, rfl⟩
      obtain ⟨hi, rfl⟩ := upto_at0 e
      obtain ⟨q, eq⟩ : ∃ q, l[i]? = some q := ⟨_, List.getElem?_eq_getElem (by omega)⟩
      have hq := List.mem_of_getElem? eq
      refine ⟨_, rfl, _, rfl, _, rfl, _, rix eq, rfl, near q.2 (hm q hq).1 (hm q hq).2 ?_⟩
      rw [near_self (w := w) (by rw [← el]; unfold marksB; rw [List.map_append]; exact B.nr) (fun p hp => (hm p hp).2) hq]
      refine ⟨_, rfl, _, rfl, _, mix eq, by show 1 ≤ 100000; decide, ?_⟩
      refine ⟨_, fNe_of (eqU_self (n := 1) (by decide) (by show (PyData.strOk q.1 && true) = true; rw [hso q hq]; rfl)), _, rfl, iteF_of rfl ?_⟩
      exact ⟨_, rfl⟩
    rintro _ ⟨c16, rfl⟩
    ac_rfl
    have stl : (st.map U.int).length = w := (List.length_map _).trans B.sb.2
    have addT : ∀ x : U, fAdd (rowV st) (.tup [x]) = some (.tup (st.map U.int ++ [x])) := fun x => if_pos (by rw [stl]; show w + 1 ≤ 100000; omega)
    have dl : ((st.map U.int).drop 1).length = w - 1 := by rw [List.length_drop, stl]
    have addD : ∀ x : U, fAdd (.tup ((st.map U.int).drop 1)) (.tup [x]) = some (.tup ((st.map U.int).drop 1 ++ [x])) := fun x => if_pos (by rw [dl]; show w - 1 + 1 ≤ 100000; omega)
    refine ⟨_, addT _, ?_⟩
    ac_rfl
    rw [cutU_one]
    refine ⟨_, addD _, ?_⟩
    ac_rfl
    rw [cutU_one]
    refine ⟨_, addD _, ?_⟩
    ac_rfl
    rw [cutU_one]
    refine ⟨_, addD _, ?_⟩
    ac_rfl
    rw [cutU_one]
    refine ⟨_, addD _, ?_⟩
    ac_rfl
    intro d d0 d1
    have ask1 : ∀ {us : List U} {x : U}, (∀ u ∈ us, asks [cB] u) → asks [cB] x → asksT [cB] (.tup (us ++ [x])) := fun {us x} h hx u hu => by
      rcases List.mem_append.mp hu with h' | h'
      · exact h u h'
      · rw [List.mem_singleton.mp h']
        exact hx
    have askS : ∀ u ∈ st.map U.int, asks [cB] u := fun u hu => by
      obtain ⟨i, _, rfl⟩ := List.mem_map.mp hu
      trivial
    have askD : ∀ u ∈ (st.map U.int).drop 1, asks [cB] u := fun u hu => askS u (List.mem_of_mem_drop hu)
    have bad : ∀ x : U, withinU 0 1 x = false → rowOfU (w : Int) (.tup ((st.map U.int).drop 1 ++ [x])) = false := fun x h => by
      show (((st.map U.int).drop 1 ++ [x]).all (withinU 0 1) && _) = false
      rw [List.all_append, List.all_cons, h, Bool.false_and, Bool.and_false, Bool.false_and]
    refine pickM (fun u => (rowOfU (w : Int) u = false ∧ asks [cB] u) ∧ asksT [cB] u) (n := 13) d0 d1 rfl (fun u hu => ?_) fun u hu => ?_
    · simp only [List.mem_cons, List.mem_append, List.not_mem_nil, or_false] at hu
      rcases hu with (rfl | rfl | rfl | rfl | rfl | rfl | rfl | rfl | rfl) | (rfl | rfl | rfl | rfl)
      · exact ⟨⟨rfl, trivial⟩, trivial⟩
      · refine ⟨⟨?_, trivial⟩, fun u hu => nomatch hu⟩
        show (true && decide (((0 : Nat) : Int) = w)) = false
        rw [decide_eq_false (by omega)]
        rfl
      · exact ⟨⟨rfl, trivial⟩, trivial⟩
      · exact ⟨⟨rfl, trivial⟩, trivial⟩
      · exact ⟨⟨rfl, trivial⟩, trivial⟩
      · refine ⟨⟨?_, trivial⟩, ask1 askS trivial⟩
        show (_ && decide (((st.map U.int ++ [U.int 0]).length : Int) = w)) = false
        rw [List.length_append, stl, decide_eq_false (by show ¬ ((w + 1 : Nat) : Int) = w; omega), Bool.and_false]
      · refine ⟨⟨?_, trivial⟩, askD⟩
        show (_ && decide ((((st.map U.int).drop 1).length : Int) = w)) = false
        rw [dl, decide_eq_false (by omega), Bool.and_false]
      · exact ⟨⟨bad _ rfl, trivial⟩, ask1 askD trivial⟩
      · exact ⟨⟨bad _ rfl, trivial⟩, ask1 askD trivial⟩
      · exact ⟨⟨bad _ rfl, trivial⟩, ask1 askD trivial⟩
      · exact ⟨⟨bad _ rfl, trivial⟩, ask1 askD trivial⟩
      · exact ⟨⟨rfl, trivial⟩, trivial⟩
      · exact ⟨⟨rfl, List.mem_singleton.mpr rfl⟩, trivial⟩
    ac_rfl
    refine ⟨kv, st, sp, w, u, rfl, Bo, hu.1.2, hu.2, hu.1.1, ?_⟩
    ac_rfl
    exact ⟨_, fEq_of (by decide +kernel), rfl⟩
end

end K06
namespace K06
open PySem PySem.Spec PyProof.Rows L2 SL SV
local macro_rules | `(tactic| ac_rfl) => `(tactic| (repeat first | refine ⟨_, rfl, ?_⟩ | refine ⟨rfl, ?_⟩ | refine iteT ?_ | refine iteF ?_ | refine ⟨trivial, ?_⟩ | refine ⟨Nat.le_of_ble_eq_true rfl, ?_⟩ | refine ⟨_, _, rfl, rfl, ?_⟩ | refine ⟨_, _, rfl, ?_⟩ | refine ⟨_, .inl rfl, ?_⟩ | refine ⟨_, .inr rfl, ?_⟩ | refine .inl ⟨_, rfl, ?_⟩ | refine .inr ⟨_, rfl, ?_⟩ | refine ⟨_, _, .inl rfl, ?_⟩ | refine ⟨_, _, .inr rfl, ?_⟩ | refine ⟨by decide, ?_⟩))

theorem exm_ref {K : PySem.W.Frag} {C D : Addr} {b : Bool} (h1 : PySem.W.subIn K (.ref D) (.type "BaseException") = some true) (h2 : PySem.W.isClsIn K D = true) (h3 : PySem.W.typeIn K (.ref D) = some (.type "type")) (h4 : PySem.W.subIn K (.ref C) (.ref D) = some b) : PySem.W.exmOne K (.ref C) (.ref D) = some b := by
  have h2a : (PySem.W.clsIn K D).isSome = true := h2
  unfold PySem.W.exmOne
  rw [h1]
  show (if (some true == some true) = true then (if ((PySem.W.clsIn K D).isSome && PySem.W.typeIn K (.ref D) == some (.type "type")) = true then PySem.W.subIn K (.ref C) (.ref D) else none) else none) = some b
  rw [h2a, h3]
  exact h4
theorem along_of {K : PySem.W.Frag} {C N : Addr} {nm q : Str} {bs bm : List Value} {sn : List Str} {sub : List Value} {ab : Bool} {col : Option Bool} {dd : Option Addr} {k0 k1 k2 k3 k5 : Option Value} {name : Str} {nw : String} {r : Option (Option Value)} (hC : K.lookup C = some (excClassObj nm q C N bs bm true sn sub ab col dd k0 k1 k2 k3 k5 nw)) (h : PySem.W.ks_superIn K C C name = r) : PySem.W.alongIn K name bm = r := by
  unfold PySem.W.ks_superIn PySem.W.clsIn at h
  rw [hC] at h
  rw [← h]
  simp [List.dropWhile_cons]
theorem all_mk {w : World} {K : PySem.W.Frag} {h : Heap} {mg : Str → Option Value} {fa cL : Addr} (X : K.In h) (G : h.Ns mainGlobals mg) (hfa : mg "law" = some (.ref fa))
    {cR iR cc_BadRow cd_BadRow : Addr} {nm_BadRow q_BadRow : Str} {N_BadRow : Addr} {bs_BadRow : List Value} {sn_BadRow : List Str} {sb_BadRow : List Value} {ab_BadRow : Bool} {co_BadRow : Option Bool} {dd_BadRow od_BadRow an_BadRow cl1_BadRow cl2_BadRow : Option Addr} {m0_BadRow m1_BadRow m2_BadRow m3_BadRow m5_BadRow : Option Value} {oc_BadRow kV_BadRow dc_BadRow pm_BadRow ct_BadRow c1_BadRow c2_BadRow : Value} {sl_BadRow s1_BadRow s2_BadRow : Array (Option Value)} {vs_BadRow : Array Value} {fl_BadRow : Str} {tf_BadRow : Tok}
    {cK iK cc_BadBook cd_BadBook : Addr} {nm_BadBook q_BadBook : Str} {N_BadBook : Addr} {bs_BadBook : List Value} {sn_BadBook : List Str} {sb_BadBook : List Value} {ab_BadBook : Bool} {co_BadBook : Option Bool} {dd_BadBook od_BadBook an_BadBook cl1_BadBook cl2_BadBook : Option Addr} {m0_BadBook m1_BadBook m2_BadBook m3_BadBook m5_BadBook : Option Value} {oc_BadBook kV_BadBook dc_BadBook pm_BadBook ct_BadBook c1_BadBook c2_BadBook : Value} {sl_BadBook s1_BadBook s2_BadBook : Array (Option Value)} {vs_BadBook : Array Value} {fl_BadBook : Str} {tf_BadBook : Tok}
    {f_is_whole : Addr} {od_is_whole an_is_whole : Option Addr} {sl_is_whole : Array (Option Value)} {oc_is_whole kV_is_whole dc_is_whole pm_is_whole cd_is_whole ct_is_whole : Value}
    {f_is_within : Addr} {od_is_within an_is_within : Option Addr} {sl_is_within : Array (Option Value)} {oc_is_within kV_is_within dc_is_within pm_is_within cd_is_within ct_is_within : Value}
    {f_is_sign : Addr} {od_is_sign an_is_sign : Option Addr} {sl_is_sign : Array (Option Value)} {oc_is_sign kV_is_sign dc_is_sign pm_is_sign cd_is_sign ct_is_sign : Value}
    {f_is_row : Addr} {od_is_row an_is_row : Option Addr} {sl_is_row : Array (Option Value)} {oc_is_row kV_is_row dc_is_row pm_is_row cd_is_row ct_is_row : Value}
    {f_is_row_of : Addr} {od_is_row_of an_is_row_of : Option Addr} {sl_is_row_of : Array (Option Value)} {oc_is_row_of kV_is_row_of dc_is_row_of pm_is_row_of cd_is_row_of ct_is_row_of : Value}
    {f_check_row : Addr} {od_check_row an_check_row : Option Addr} {sl_check_row : Array (Option Value)} {oc_check_row kV_check_row dc_check_row pm_check_row cd_check_row ct_check_row : Value}
    {f_apart : Addr} {od_apart an_apart : Option Addr} {sl_apart : Array (Option Value)} {oc_apart kV_apart dc_apart pm_apart cd_apart ct_apart : Value}
    {f_are_patterns : Addr} {od_are_patterns an_are_patterns : Option Addr} {sl_are_patterns : Array (Option Value)} {oc_are_patterns kV_are_patterns dc_are_patterns pm_are_patterns cd_are_patterns ct_are_patterns : Value}
    {f_check_book : Addr} {od_check_book an_check_book : Option Addr} {sl_check_book : Array (Option Value)} {oc_check_book kV_check_book dc_check_book pm_check_book cd_check_book ct_check_book : Value}
    {f_least_apart : Addr} {od_least_apart an_least_apart : Option Addr} {sl_least_apart : Array (Option Value)} {oc_least_apart kV_least_apart dc_least_apart pm_least_apart cd_least_apart ct_least_apart : Value}
    {f_nearest : Addr} {od_nearest an_nearest : Option Addr} {sl_nearest : Array (Option Value)} {oc_nearest kV_nearest dc_nearest pm_nearest cd_nearest ct_nearest : Value}
    {f_law_pool : Addr} {od_law_pool an_law_pool : Option Addr} {sl_law_pool : Array (Option Value)} {oc_law_pool kV_law_pool dc_law_pool pm_law_pool cd_law_pool ct_law_pool : Value}
    {f_law_draw : Addr} {od_law_draw an_law_draw : Option Addr} {sl_law_draw : Array (Option Value)} {oc_law_draw kV_law_draw dc_law_draw pm_law_draw cd_law_draw ct_law_draw : Value}
    {f_law_same : Addr} {od_law_same an_law_same : Option Addr} {sl_law_same : Array (Option Value)} {oc_law_same kV_law_same dc_law_same pm_law_same cd_law_same ct_law_same : Value}
    {f_law_signs : Addr} {od_law_signs an_law_signs : Option Addr} {sl_law_signs : Array (Option Value)} {oc_law_signs kV_law_signs dc_law_signs pm_law_signs cd_law_signs ct_law_signs : Value}
    {f_law_row : Addr} {od_law_row an_law_row : Option Addr} {sl_law_row : Array (Option Value)} {oc_law_row kV_law_row dc_law_row pm_law_row cd_law_row ct_law_row : Value}
    {f_law_power : Addr} {od_law_power an_law_power : Option Addr} {sl_law_power : Array (Option Value)} {oc_law_power kV_law_power dc_law_power pm_law_power cd_law_power ct_law_power : Value}
    {f_law_row_of : Addr} {od_law_row_of an_law_row_of : Option Addr} {sl_law_row_of : Array (Option Value)} {oc_law_row_of kV_law_row_of dc_law_row_of pm_law_row_of cd_law_row_of ct_law_row_of : Value}
    {f_law_book_model : Addr} {od_law_book_model an_law_book_model : Option Addr} {sl_law_book_model : Array (Option Value)} {oc_law_book_model kV_law_book_model dc_law_book_model pm_law_book_model cd_law_book_model ct_law_book_model : Value}
    {f_law_drawn_book : Addr} {od_law_drawn_book an_law_drawn_book : Option Addr} {sl_law_drawn_book : Array (Option Value)} {oc_law_drawn_book kV_law_drawn_book dc_law_drawn_book pm_law_drawn_book cd_law_drawn_book ct_law_drawn_book : Value}
    {f_law_book : Addr} {od_law_book an_law_book : Option Addr} {sl_law_book : Array (Option Value)} {oc_law_book kV_law_book dc_law_book pm_law_book cd_law_book ct_law_book : Value}
    {f_law_deep : Addr} {od_law_deep an_law_deep : Option Addr} {sl_law_deep : Array (Option Value)} {oc_law_deep kV_law_deep dc_law_deep pm_law_deep cd_law_deep ct_law_deep : Value}
    {f_law_count : Addr} {od_law_count an_law_count : Option Addr} {sl_law_count : Array (Option Value)} {oc_law_count kV_law_count dc_law_count pm_law_count cd_law_count ct_law_count : Value}
    {f_law_refused : Addr} {od_law_refused an_law_refused : Option Addr} {sl_law_refused : Array (Option Value)} {oc_law_refused kV_law_refused dc_law_refused pm_law_refused cd_law_refused ct_law_refused : Value}
    {f_law : Addr} {od_law an_law : Option Addr} {sl_law : Array (Option Value)} {oc_law kV_law dc_law pm_law cd_law ct_law : Value}
    {cB : Addr}
    {fB : Addr} {od_Book0 an_Book0 : Option Addr} {sl_Book0 : Array (Option Value)} {oc_Book0 kV_Book0 dc_Book0 pm_Book0 cd_Book0 ct_Book0 : Value}
    {pB : Addr} {od_Book1 an_Book1 : Option Addr} {sl_Book1 : Array (Option Value)} {oc_Book1 kV_Book1 dc_Book1 pm_Book1 cd_Book1 ct_Book1 : Value}
    {aB : Addr} {od_Book2 an_Book2 : Option Addr} {sl_Book2 : Array (Option Value)} {oc_Book2 kV_Book2 dc_Book2 pm_Book2 cd_Book2 ct_Book2 : Value}
    {tSG : Tok}
    (a_BadRow : PySem.W.nsIn K mainGlobals "BadRow" = some (some (.ref cR)))
    (x_BadRow : K.lookup cR = some (excClassObj nm_BadRow q_BadRow cR N_BadRow bs_BadRow [.ref cL, .type "ValueError", .type "Exception", .type "BaseException", .type "object"] true sn_BadRow sb_BadRow ab_BadRow co_BadRow dd_BadRow m0_BadRow m1_BadRow m2_BadRow m3_BadRow m5_BadRow "ValueError.__new__"))
    (su_BadRow : PySem.W.ks_superIn K cR cR "__init__" = some (some (.builtin "ValueError.__init__")))
    (sa_BadRow : PySem.W.findIn K (.ref cR) "__setattr__" = some (some (.builtin "object.__setattr__")))
    (ga_BadRow : PySem.W.findIn K (.ref cR) "__getattribute__" = some (some (.builtin "BaseException.__getattribute__")))
    (gg_BadRow : PySem.W.findIn K (.ref cR) "__getattr__" = some none)
    (nb_BadRow : PySem.W.findIn K (.ref cR) "part" = some none)
    (in_BadRow : PySem.W.findIn K (.ref cR) "__init__" = some (some (.ref iR)))
    (ti_BadRow : PySem.W.typeIn K (.ref iR) = some (.type "function"))
    (l_BadRow : K.lookup iR = some ⟨oc_BadRow, od_BadRow, .func (PySem.W.ksFn "__init__" "BadRow.__init__" (defArgs (inClass (topS 2) 0)) (defBody (inClass (topS 2) 0)) (defScope (inClass (topS 2) 0)) .none kV_BadRow dc_BadRow pm_BadRow an_BadRow (.ref cd_BadRow) ct_BadRow cc_BadRow), sl_BadRow⟩)
    (c_BadRow : PySem.W.codeIn K (.ref cd_BadRow) "BadRow.__init__" = true)
    (cell_BadRow : K.lookup cc_BadRow = some ⟨c1_BadRow, cl1_BadRow, .cell (some (.ref cR)), s1_BadRow⟩)
    (code_BadRow : K.lookup cd_BadRow = some ⟨c2_BadRow, cl2_BadRow, .fields vs_BadRow, s2_BadRow⟩)
    (v2_BadRow : vs_BadRow[2]? = some (.str fl_BadRow tf_BadRow))
    (fi_BadRow : ((PySem.Challenge.rw_surelabels_k06_patterns_apart.prog.main.file : Str) == fl_BadRow) = true)
    (kC_BadRow : PySem.W.keepIn K (.ref cR) = true)
    (eC_BadRow : PySem.W.subIn K (.ref cR) (.type "BaseException") = some true)
    (vC_BadRow : PySem.W.subIn K (.ref cR) (.type "ValueError") = some true)
    (tC_BadRow : PySem.W.typeIn K (.ref cR) = some (.type "type"))
    (hC_BadRow : PySem.W.hasDictIn K cR = true)
    (iC_BadRow : PySem.W.isClsIn K cR = true)
    (mC_BadRow : PySem.W.mroIn K cR (.ref cR) = some true)
    (a_BadBook : PySem.W.nsIn K mainGlobals "BadBook" = some (some (.ref cK)))
    (x_BadBook : K.lookup cK = some (excClassObj nm_BadBook q_BadBook cK N_BadBook bs_BadBook [.ref cL, .type "ValueError", .type "Exception", .type "BaseException", .type "object"] true sn_BadBook sb_BadBook ab_BadBook co_BadBook dd_BadBook m0_BadBook m1_BadBook m2_BadBook m3_BadBook m5_BadBook "ValueError.__new__"))
    (su_BadBook : PySem.W.ks_superIn K cK cK "__init__" = some (some (.builtin "ValueError.__init__")))
    (sa_BadBook : PySem.W.findIn K (.ref cK) "__setattr__" = some (some (.builtin "object.__setattr__")))
    (ga_BadBook : PySem.W.findIn K (.ref cK) "__getattribute__" = some (some (.builtin "BaseException.__getattribute__")))
    (gg_BadBook : PySem.W.findIn K (.ref cK) "__getattr__" = some none)
    (nb_BadBook : PySem.W.findIn K (.ref cK) "part" = some none)
    (in_BadBook : PySem.W.findIn K (.ref cK) "__init__" = some (some (.ref iK)))
    (ti_BadBook : PySem.W.typeIn K (.ref iK) = some (.type "function"))
    (l_BadBook : K.lookup iK = some ⟨oc_BadBook, od_BadBook, .func (PySem.W.ksFn "__init__" "BadBook.__init__" (defArgs (inClass (topS 3) 0)) (defBody (inClass (topS 3) 0)) (defScope (inClass (topS 3) 0)) .none kV_BadBook dc_BadBook pm_BadBook an_BadBook (.ref cd_BadBook) ct_BadBook cc_BadBook), sl_BadBook⟩)
    (c_BadBook : PySem.W.codeIn K (.ref cd_BadBook) "BadBook.__init__" = true)
    (cell_BadBook : K.lookup cc_BadBook = some ⟨c1_BadBook, cl1_BadBook, .cell (some (.ref cK)), s1_BadBook⟩)
    (code_BadBook : K.lookup cd_BadBook = some ⟨c2_BadBook, cl2_BadBook, .fields vs_BadBook, s2_BadBook⟩)
    (v2_BadBook : vs_BadBook[2]? = some (.str fl_BadBook tf_BadBook))
    (fi_BadBook : ((PySem.Challenge.rw_surelabels_k06_patterns_apart.prog.main.file : Str) == fl_BadBook) = true)
    (kC_BadBook : PySem.W.keepIn K (.ref cK) = true)
    (eC_BadBook : PySem.W.subIn K (.ref cK) (.type "BaseException") = some true)
    (vC_BadBook : PySem.W.subIn K (.ref cK) (.type "ValueError") = some true)
    (tC_BadBook : PySem.W.typeIn K (.ref cK) = some (.type "type"))
    (hC_BadBook : PySem.W.hasDictIn K cK = true)
    (iC_BadBook : PySem.W.isClsIn K cK = true)
    (mC_BadBook : PySem.W.mroIn K cK (.ref cK) = some true)
    (s_BadRow_BadRow : PySem.W.subIn K (.ref cR) (.ref cR) = some true)
    (s_BadRow_BadBook : PySem.W.subIn K (.ref cR) (.ref cK) = some false)
    (s_BadBook_BadRow : PySem.W.subIn K (.ref cK) (.ref cR) = some false)
    (s_BadBook_BadBook : PySem.W.subIn K (.ref cK) (.ref cK) = some true)
    (a_LE : PySem.W.nsIn K mainGlobals "LabelError" = some (some (.ref cL)))
    (opq : PySem.W.nsIn K cStatics "thirdparty.any" = some none)
    (z_isinstance : PySem.W.nsIn K mainGlobals "isinstance" = some none)
    (z_int : PySem.W.nsIn K mainGlobals "int" = some none)
    (z_bool : PySem.W.nsIn K mainGlobals "bool" = some none)
    (z_str : PySem.W.nsIn K mainGlobals "str" = some none)
    (z_list : PySem.W.nsIn K mainGlobals "list" = some none)
    (z_tuple : PySem.W.nsIn K mainGlobals "tuple" = some none)
    (z_dict : PySem.W.nsIn K mainGlobals "dict" = some none)
    (z_len : PySem.W.nsIn K mainGlobals "len" = some none)
    (z_all : PySem.W.nsIn K mainGlobals "all" = some none)
    (z_range : PySem.W.nsIn K mainGlobals "range" = some none)
    (z_enumerate : PySem.W.nsIn K mainGlobals "enumerate" = some none)
    (z_zip : PySem.W.nsIn K mainGlobals "zip" = some none)
    (z_sorted : PySem.W.nsIn K mainGlobals "sorted" = some none)
    (z_min : PySem.W.nsIn K mainGlobals "min" = some none)
    (z_set : PySem.W.nsIn K mainGlobals "set" = some none)
    (z_super : PySem.W.nsIn K mainGlobals "super" = some none)
    (a_is_whole : PySem.W.nsIn K mainGlobals "is_whole" = some (some (.ref f_is_whole)))
    (l_is_whole : K.lookup f_is_whole = some ⟨oc_is_whole, od_is_whole, .func (PySem.W.fnOf "is_whole" "is_whole" (defArgs s_is_whole) (defBody s_is_whole) (defScope s_is_whole) .none kV_is_whole dc_is_whole pm_is_whole an_is_whole cd_is_whole ct_is_whole), sl_is_whole⟩)
    (c_is_whole : PySem.W.codeIn K cd_is_whole "is_whole" = true)
    (k_is_whole : PySem.W.keepIn K (.ref f_is_whole) = true)
    (a_is_within : PySem.W.nsIn K mainGlobals "is_within" = some (some (.ref f_is_within)))
    (l_is_within : K.lookup f_is_within = some ⟨oc_is_within, od_is_within, .func (PySem.W.fnOf "is_within" "is_within" (defArgs s_is_within) (defBody s_is_within) (defScope s_is_within) .none kV_is_within dc_is_within pm_is_within an_is_within cd_is_within ct_is_within), sl_is_within⟩)
    (c_is_within : PySem.W.codeIn K cd_is_within "is_within" = true)
    (k_is_within : PySem.W.keepIn K (.ref f_is_within) = true)
    (a_is_sign : PySem.W.nsIn K mainGlobals "is_sign" = some (some (.ref f_is_sign)))
    (l_is_sign : K.lookup f_is_sign = some ⟨oc_is_sign, od_is_sign, .func (PySem.W.fnOf "is_sign" "is_sign" (defArgs s_is_sign) (defBody s_is_sign) (defScope s_is_sign) .none kV_is_sign dc_is_sign pm_is_sign an_is_sign cd_is_sign ct_is_sign), sl_is_sign⟩)
    (c_is_sign : PySem.W.codeIn K cd_is_sign "is_sign" = true)
    (k_is_sign : PySem.W.keepIn K (.ref f_is_sign) = true)
    (a_is_row : PySem.W.nsIn K mainGlobals "is_row" = some (some (.ref f_is_row)))
    (l_is_row : K.lookup f_is_row = some ⟨oc_is_row, od_is_row, .func (PySem.W.fnOf "is_row" "is_row" (defArgs s_is_row) (defBody s_is_row) (defScope s_is_row) .none kV_is_row dc_is_row pm_is_row an_is_row cd_is_row ct_is_row), sl_is_row⟩)
    (c_is_row : PySem.W.codeIn K cd_is_row "is_row" = true)
    (k_is_row : PySem.W.keepIn K (.ref f_is_row) = true)
    (a_is_row_of : PySem.W.nsIn K mainGlobals "is_row_of" = some (some (.ref f_is_row_of)))
    (l_is_row_of : K.lookup f_is_row_of = some ⟨oc_is_row_of, od_is_row_of, .func (PySem.W.fnOf "is_row_of" "is_row_of" (defArgs s_is_row_of) (defBody s_is_row_of) (defScope s_is_row_of) .none kV_is_row_of dc_is_row_of pm_is_row_of an_is_row_of cd_is_row_of ct_is_row_of), sl_is_row_of⟩)
    (c_is_row_of : PySem.W.codeIn K cd_is_row_of "is_row_of" = true)
    (k_is_row_of : PySem.W.keepIn K (.ref f_is_row_of) = true)
    (a_check_row : PySem.W.nsIn K mainGlobals "check_row" = some (some (.ref f_check_row)))
    (l_check_row : K.lookup f_check_row = some ⟨oc_check_row, od_check_row, .func (PySem.W.fnOf "check_row" "check_row" (defArgs s_check_row) (defBody s_check_row) (defScope s_check_row) .none kV_check_row dc_check_row pm_check_row an_check_row cd_check_row ct_check_row), sl_check_row⟩)
    (c_check_row : PySem.W.codeIn K cd_check_row "check_row" = true)
    (k_check_row : PySem.W.keepIn K (.ref f_check_row) = true)
    (a_apart : PySem.W.nsIn K mainGlobals "apart" = some (some (.ref f_apart)))
    (l_apart : K.lookup f_apart = some ⟨oc_apart, od_apart, .func (PySem.W.fnOf "apart" "apart" (defArgs s_apart) (defBody s_apart) (defScope s_apart) .none kV_apart dc_apart pm_apart an_apart cd_apart ct_apart), sl_apart⟩)
    (c_apart : PySem.W.codeIn K cd_apart "apart" = true)
    (k_apart : PySem.W.keepIn K (.ref f_apart) = true)
    (a_are_patterns : PySem.W.nsIn K mainGlobals "_are_patterns" = some (some (.ref f_are_patterns)))
    (l_are_patterns : K.lookup f_are_patterns = some ⟨oc_are_patterns, od_are_patterns, .func (PySem.W.fnOf "_are_patterns" "_are_patterns" (defArgs s_are_patterns) (defBody s_are_patterns) (defScope s_are_patterns) .none kV_are_patterns dc_are_patterns pm_are_patterns an_are_patterns cd_are_patterns ct_are_patterns), sl_are_patterns⟩)
    (c_are_patterns : PySem.W.codeIn K cd_are_patterns "_are_patterns" = true)
    (k_are_patterns : PySem.W.keepIn K (.ref f_are_patterns) = true)
    (a_check_book : PySem.W.nsIn K mainGlobals "_check_book" = some (some (.ref f_check_book)))
    (l_check_book : K.lookup f_check_book = some ⟨oc_check_book, od_check_book, .func (PySem.W.fnOf "_check_book" "_check_book" (defArgs s_check_book) (defBody s_check_book) (defScope s_check_book) .none kV_check_book dc_check_book pm_check_book an_check_book cd_check_book ct_check_book), sl_check_book⟩)
    (c_check_book : PySem.W.codeIn K cd_check_book "_check_book" = true)
    (k_check_book : PySem.W.keepIn K (.ref f_check_book) = true)
    (a_least_apart : PySem.W.nsIn K mainGlobals "least_apart" = some (some (.ref f_least_apart)))
    (l_least_apart : K.lookup f_least_apart = some ⟨oc_least_apart, od_least_apart, .func (PySem.W.fnOf "least_apart" "least_apart" (defArgs s_least_apart) (defBody s_least_apart) (defScope s_least_apart) .none kV_least_apart dc_least_apart pm_least_apart an_least_apart cd_least_apart ct_least_apart), sl_least_apart⟩)
    (c_least_apart : PySem.W.codeIn K cd_least_apart "least_apart" = true)
    (k_least_apart : PySem.W.keepIn K (.ref f_least_apart) = true)
    (a_nearest : PySem.W.nsIn K mainGlobals "nearest" = some (some (.ref f_nearest)))
    (l_nearest : K.lookup f_nearest = some ⟨oc_nearest, od_nearest, .func (PySem.W.fnOf "nearest" "nearest" (defArgs s_nearest) (defBody s_nearest) (defScope s_nearest) .none kV_nearest dc_nearest pm_nearest an_nearest cd_nearest ct_nearest), sl_nearest⟩)
    (c_nearest : PySem.W.codeIn K cd_nearest "nearest" = true)
    (k_nearest : PySem.W.keepIn K (.ref f_nearest) = true)
    (a_law_pool : PySem.W.nsIn K mainGlobals "_law_pool" = some (some (.ref f_law_pool)))
    (l_law_pool : K.lookup f_law_pool = some ⟨oc_law_pool, od_law_pool, .func (PySem.W.fnOf "_law_pool" "_law_pool" (defArgs s_law_pool) (defBody s_law_pool) (defScope s_law_pool) .none kV_law_pool dc_law_pool pm_law_pool an_law_pool cd_law_pool ct_law_pool), sl_law_pool⟩)
    (c_law_pool : PySem.W.codeIn K cd_law_pool "_law_pool" = true)
    (k_law_pool : PySem.W.keepIn K (.ref f_law_pool) = true)
    (a_law_draw : PySem.W.nsIn K mainGlobals "_law_draw" = some (some (.ref f_law_draw)))
    (l_law_draw : K.lookup f_law_draw = some ⟨oc_law_draw, od_law_draw, .func (PySem.W.fnOf "_law_draw" "_law_draw" (defArgs s_law_draw) (defBody s_law_draw) (defScope s_law_draw) .none kV_law_draw dc_law_draw pm_law_draw an_law_draw cd_law_draw ct_law_draw), sl_law_draw⟩)
    (c_law_draw : PySem.W.codeIn K cd_law_draw "_law_draw" = true)
    (k_law_draw : PySem.W.keepIn K (.ref f_law_draw) = true)
    (a_law_same : PySem.W.nsIn K mainGlobals "_law_same" = some (some (.ref f_law_same)))
    (l_law_same : K.lookup f_law_same = some ⟨oc_law_same, od_law_same, .func (PySem.W.fnOf "_law_same" "_law_same" (defArgs s_law_same) (defBody s_law_same) (defScope s_law_same) .none kV_law_same dc_law_same pm_law_same an_law_same cd_law_same ct_law_same), sl_law_same⟩)
    (c_law_same : PySem.W.codeIn K cd_law_same "_law_same" = true)
    (k_law_same : PySem.W.keepIn K (.ref f_law_same) = true)
    (a_law_signs : PySem.W.nsIn K mainGlobals "_law_signs" = some (some (.ref f_law_signs)))
    (l_law_signs : K.lookup f_law_signs = some ⟨oc_law_signs, od_law_signs, .func (PySem.W.fnOf "_law_signs" "_law_signs" (defArgs s_law_signs) (defBody s_law_signs) (defScope s_law_signs) .none kV_law_signs dc_law_signs pm_law_signs an_law_signs cd_law_signs ct_law_signs), sl_law_signs⟩)
    (c_law_signs : PySem.W.codeIn K cd_law_signs "_law_signs" = true)
    (k_law_signs : PySem.W.keepIn K (.ref f_law_signs) = true)
    (a_law_row : PySem.W.nsIn K mainGlobals "_law_row" = some (some (.ref f_law_row)))
    (l_law_row : K.lookup f_law_row = some ⟨oc_law_row, od_law_row, .func (PySem.W.fnOf "_law_row" "_law_row" (defArgs s_law_row) (defBody s_law_row) (defScope s_law_row) .none kV_law_row dc_law_row pm_law_row an_law_row cd_law_row ct_law_row), sl_law_row⟩)
    (c_law_row : PySem.W.codeIn K cd_law_row "_law_row" = true)
    (k_law_row : PySem.W.keepIn K (.ref f_law_row) = true)
    (a_law_power : PySem.W.nsIn K mainGlobals "_law_power" = some (some (.ref f_law_power)))
    (l_law_power : K.lookup f_law_power = some ⟨oc_law_power, od_law_power, .func (PySem.W.fnOf "_law_power" "_law_power" (defArgs s_law_power) (defBody s_law_power) (defScope s_law_power) .none kV_law_power dc_law_power pm_law_power an_law_power cd_law_power ct_law_power), sl_law_power⟩)
    (c_law_power : PySem.W.codeIn K cd_law_power "_law_power" = true)
    (k_law_power : PySem.W.keepIn K (.ref f_law_power) = true)
    (a_law_row_of : PySem.W.nsIn K mainGlobals "_law_row_of" = some (some (.ref f_law_row_of)))
    (l_law_row_of : K.lookup f_law_row_of = some ⟨oc_law_row_of, od_law_row_of, .func (PySem.W.fnOf "_law_row_of" "_law_row_of" (defArgs s_law_row_of) (defBody s_law_row_of) (defScope s_law_row_of) .none kV_law_row_of dc_law_row_of pm_law_row_of an_law_row_of cd_law_row_of ct_law_row_of), sl_law_row_of⟩)
    (c_law_row_of : PySem.W.codeIn K cd_law_row_of "_law_row_of" = true)
    (k_law_row_of : PySem.W.keepIn K (.ref f_law_row_of) = true)
    (a_law_book_model : PySem.W.nsIn K mainGlobals "_law_book_model" = some (some (.ref f_law_book_model)))
    (l_law_book_model : K.lookup f_law_book_model = some ⟨oc_law_book_model, od_law_book_model, .func (PySem.W.fnOf "_law_book_model" "_law_book_model" (defArgs s_law_book_model) (defBody s_law_book_model) (defScope s_law_book_model) .none kV_law_book_model dc_law_book_model pm_law_book_model an_law_book_model cd_law_book_model ct_law_book_model), sl_law_book_model⟩)
    (c_law_book_model : PySem.W.codeIn K cd_law_book_model "_law_book_model" = true)
    (k_law_book_model : PySem.W.keepIn K (.ref f_law_book_model) = true)
    (a_law_drawn_book : PySem.W.nsIn K mainGlobals "_law_drawn_book" = some (some (.ref f_law_drawn_book)))
    (l_law_drawn_book : K.lookup f_law_drawn_book = some ⟨oc_law_drawn_book, od_law_drawn_book, .func (PySem.W.fnOf "_law_drawn_book" "_law_drawn_book" (defArgs s_law_drawn_book) (defBody s_law_drawn_book) (defScope s_law_drawn_book) .none kV_law_drawn_book dc_law_drawn_book pm_law_drawn_book an_law_drawn_book cd_law_drawn_book ct_law_drawn_book), sl_law_drawn_book⟩)
    (c_law_drawn_book : PySem.W.codeIn K cd_law_drawn_book "_law_drawn_book" = true)
    (k_law_drawn_book : PySem.W.keepIn K (.ref f_law_drawn_book) = true)
    (a_law_book : PySem.W.nsIn K mainGlobals "_law_book" = some (some (.ref f_law_book)))
    (l_law_book : K.lookup f_law_book = some ⟨oc_law_book, od_law_book, .func (PySem.W.fnOf "_law_book" "_law_book" (defArgs s_law_book) (defBody s_law_book) (defScope s_law_book) .none kV_law_book dc_law_book pm_law_book an_law_book cd_law_book ct_law_book), sl_law_book⟩)
    (c_law_book : PySem.W.codeIn K cd_law_book "_law_book" = true)
    (k_law_book : PySem.W.keepIn K (.ref f_law_book) = true)
    (a_law_deep : PySem.W.nsIn K mainGlobals "_law_deep" = some (some (.ref f_law_deep)))
    (l_law_deep : K.lookup f_law_deep = some ⟨oc_law_deep, od_law_deep, .func (PySem.W.fnOf "_law_deep" "_law_deep" (defArgs s_law_deep) (defBody s_law_deep) (defScope s_law_deep) .none kV_law_deep dc_law_deep pm_law_deep an_law_deep cd_law_deep ct_law_deep), sl_law_deep⟩)
    (c_law_deep : PySem.W.codeIn K cd_law_deep "_law_deep" = true)
    (k_law_deep : PySem.W.keepIn K (.ref f_law_deep) = true)
    (a_law_count : PySem.W.nsIn K mainGlobals "_law_count" = some (some (.ref f_law_count)))
    (l_law_count : K.lookup f_law_count = some ⟨oc_law_count, od_law_count, .func (PySem.W.fnOf "_law_count" "_law_count" (defArgs s_law_count) (defBody s_law_count) (defScope s_law_count) .none kV_law_count dc_law_count pm_law_count an_law_count cd_law_count ct_law_count), sl_law_count⟩)
    (c_law_count : PySem.W.codeIn K cd_law_count "_law_count" = true)
    (k_law_count : PySem.W.keepIn K (.ref f_law_count) = true)
    (a_law_refused : PySem.W.nsIn K mainGlobals "_law_refused" = some (some (.ref f_law_refused)))
    (l_law_refused : K.lookup f_law_refused = some ⟨oc_law_refused, od_law_refused, .func (PySem.W.fnOf "_law_refused" "_law_refused" (defArgs s_law_refused) (defBody s_law_refused) (defScope s_law_refused) .none kV_law_refused dc_law_refused pm_law_refused an_law_refused cd_law_refused ct_law_refused), sl_law_refused⟩)
    (c_law_refused : PySem.W.codeIn K cd_law_refused "_law_refused" = true)
    (k_law_refused : PySem.W.keepIn K (.ref f_law_refused) = true)
    (a_law : PySem.W.nsIn K mainGlobals "law" = some (some (.ref f_law)))
    (l_law : K.lookup f_law = some ⟨oc_law, od_law, .func (PySem.W.fnOf "law" "law" (defArgs s_law) (defBody s_law) (defScope s_law) .none kV_law dc_law pm_law an_law cd_law ct_law), sl_law⟩)
    (c_law : PySem.W.codeIn K cd_law "law" = true)
    (k_law : PySem.W.keepIn K (.ref f_law) = true)
    (a_Book : PySem.W.nsIn K mainGlobals "Book" = some (some (.ref cB)))
    (mk_Book : PySem.W.makesIn K cB = true)
    (in_Book : PySem.W.findIn K (.ref cB) "__init__" = some (some (.ref fB)))
    (fn_Book : PySem.W.isFn K (.ref fB) = true)
    (kp_Book : PySem.W.keepIn K (.ref cB) = true)
    (pg_Book : PySem.W.plainGet K cB Str.empty = true)
    (hd_Book : PySem.W.hasDictIn K cB = true)
    (po_Book : PySem.W.plainOver K cB = true)
    (sa_Book : PySem.W.findIn K (.ref cB) "__setattr__" = some (some (.builtin "object.__setattr__")))
    (n0_Book : PySem.W.findIn K (.ref cB) "signs" = some none)
    (n1_Book : PySem.W.findIn K (.ref cB) "width" = some none)
    (n2_Book : PySem.W.findIn K (.ref cB) "start" = some none)
    (n3_Book : PySem.W.findIn K (.ref cB) "stop" = some none)
    (n4_Book : PySem.W.findIn K (.ref cB) "_rows" = some none)
    (l_Book_init : K.lookup fB = some ⟨oc_Book0, od_Book0, .func (PySem.W.fnOf "__init__" "Book.__init__" (defArgs s_Book_init) (defBody s_Book_init) (defScope s_Book_init) .none kV_Book0 dc_Book0 pm_Book0 an_Book0 cd_Book0 ct_Book0), sl_Book0⟩)
    (c_Book_init : PySem.W.codeIn K cd_Book0 "Book.__init__" = true)
    (k_Book_init : PySem.W.keepIn K (.ref fB) = true)
    (at_Book_pattern : PySem.W.findIn K (.ref cB) "pattern" = some (some (.ref pB)))
    (fn_Book_pattern : PySem.W.isFn K (.ref pB) = true)
    (l_Book_pattern : K.lookup pB = some ⟨oc_Book1, od_Book1, .func (PySem.W.fnOf "pattern" "Book.pattern" (defArgs s_Book_pattern) (defBody s_Book_pattern) (defScope s_Book_pattern) .none kV_Book1 dc_Book1 pm_Book1 an_Book1 cd_Book1 ct_Book1), sl_Book1⟩)
    (c_Book_pattern : PySem.W.codeIn K cd_Book1 "Book.pattern" = true)
    (k_Book_pattern : PySem.W.keepIn K (.ref pB) = true)
    (at_Book_all_marks : PySem.W.findIn K (.ref cB) "all_marks" = some (some (.ref aB)))
    (fn_Book_all_marks : PySem.W.isFn K (.ref aB) = true)
    (l_Book_all_marks : K.lookup aB = some ⟨oc_Book2, od_Book2, .func (PySem.W.fnOf "all_marks" "Book.all_marks" (defArgs s_Book_all_marks) (defBody s_Book_all_marks) (defScope s_Book_all_marks) .none kV_Book2 dc_Book2 pm_Book2 an_Book2 cd_Book2 ct_Book2), sl_Book2⟩)
    (c_Book_all_marks : PySem.W.codeIn K cd_Book2 "Book.all_marks" = true)
    (k_Book_all_marks : PySem.W.keepIn K (.ref aB) = true)
    (ia_Book : PySem.W.findIn K (.ref cB) "__class__" = some (some (.builtin "object.__class__")))
    (ig_Book : PySem.W.specialIn K (.builtin "object.__class__") "__get__" = some (some (.builtin "getset_descriptor.__get__")))
    (it_Book : PySem.W.takesIn K (.builtin "object.__class__") = some true)
    (im_Book : PySem.W.mroIn K cB (.type "object") = some true)
    (ie_Book : PySem.W.kitOne K (.ref cB) (.ref cB) = some true)
    (kn_Book_int : PySem.W.kitOne K (.ref cB) (.type "int") = some false)
    (kn_Book_bool : PySem.W.kitOne K (.ref cB) (.type "bool") = some false)
    (kn_Book_str : PySem.W.kitOne K (.ref cB) (.type "str") = some false)
    (kn_Book_list : PySem.W.kitOne K (.ref cB) (.type "list") = some false)
    (kn_Book_tuple : PySem.W.kitOne K (.ref cB) (.type "tuple") = some false)
    (kn_Book_dict : PySem.W.kitOne K (.ref cB) (.type "dict") = some false)
    (a_SIGNS : PySem.W.nsIn K mainGlobals "SIGNS" = some (some (.str "0123456789abcdefghijklmnopqrstuvwxyz" tSG))) :
    ∃ fd : FuncData, (∀ (s : Shared) (v : Value), BindsTo s fd ⟨[v], []⟩ [("script", v)]) ∧ ∀ base : Heap, K.In base → base.Ns mainGlobals mg → FnOk PySem.Challenge.rw_surelabels_k06_patterns_apart.prog w K mg base CX0 13 fa fd ["script"] (spLaw K) := by
  have e := hfa.symm.trans (PySem.W.mg_of X G a_law)
  cases e
  have F1_is_whole := fun_mk (st := s_is_whole) l_is_whole c_is_whole k_is_whole
  have B_is_whole := F1_is_whole.binds (ps := ["thing"]) fun _ _ _ _ _ _ us hl => match us, hl with | [_], _ => rfl
  have F1_is_within := fun_mk (st := s_is_within) l_is_within c_is_within k_is_within
  have B_is_within := F1_is_within.binds (ps := ["thing", "low", "high"]) fun _ _ _ _ _ _ us hl => match us, hl with | [_, _, _], _ => rfl
  have F1_is_sign := fun_mk (st := s_is_sign) l_is_sign c_is_sign k_is_sign
  have B_is_sign := F1_is_sign.binds (ps := ["thing"]) fun _ _ _ _ _ _ us hl => match us, hl with | [_], _ => rfl
  have F1_is_row := fun_mk (st := s_is_row) l_is_row c_is_row k_is_row
  have B_is_row := F1_is_row.binds (ps := ["thing"]) fun _ _ _ _ _ _ us hl => match us, hl with | [_], _ => rfl
  have F1_is_row_of := fun_mk (st := s_is_row_of) l_is_row_of c_is_row_of k_is_row_of
  have B_is_row_of := F1_is_row_of.binds (ps := ["thing", "length"]) fun _ _ _ _ _ _ us hl => match us, hl with | [_, _], _ => rfl
  have F1_check_row := fun_mk (st := s_check_row) l_check_row c_check_row k_check_row
  have B_check_row := F1_check_row.binds (ps := ["thing", "part"]) fun _ _ _ _ _ _ us hl => match us, hl with | [_, _], _ => rfl
  have F1_apart := fun_mk (st := s_apart) l_apart c_apart k_apart
  have B_apart := F1_apart.binds (ps := ["one", "other"]) fun _ _ _ _ _ _ us hl => match us, hl with | [_, _], _ => rfl
  have F1_are_patterns := fun_mk (st := s_are_patterns) l_are_patterns c_are_patterns k_are_patterns
  have B_are_patterns := F1_are_patterns.binds (ps := ["thing"]) fun _ _ _ _ _ _ us hl => match us, hl with | [_], _ => rfl
  have F1_check_book := fun_mk (st := s_check_book) l_check_book c_check_book k_check_book
  have B_check_book := F1_check_book.binds (ps := ["patterns", "start", "stop"]) fun _ _ _ _ _ _ us hl => match us, hl with | [_, _, _], _ => rfl
  have F1_least_apart := fun_mk (st := s_least_apart) l_least_apart c_least_apart k_least_apart
  have B_least_apart := F1_least_apart.binds (ps := ["book"]) fun _ _ _ _ _ _ us hl => match us, hl with | [_], _ => rfl
  have F1_nearest := fun_mk (st := s_nearest) l_nearest c_nearest k_nearest
  have B_nearest := F1_nearest.binds (ps := ["book", "row"]) fun _ _ _ _ _ _ us hl => match us, hl with | [_, _], _ => rfl
  have F1_law_pool := fun_mk (st := s_law_pool) l_law_pool c_law_pool k_law_pool
  have B_law_pool := F1_law_pool.binds (ps := ["script"]) fun _ _ _ _ _ _ us hl => match us, hl with | [_], _ => rfl
  have F1_law_draw := fun_mk (st := s_law_draw) l_law_draw c_law_draw k_law_draw
  have B_law_draw := F1_law_draw.binds (ps := ["pool", "many"]) fun _ _ _ _ _ _ us hl => match us, hl with | [_, _], _ => rfl
  have F1_law_same := fun_mk (st := s_law_same) l_law_same c_law_same k_law_same
  have B_law_same := F1_law_same.binds (ps := ["actual", "due"]) fun _ _ _ _ _ _ us hl => match us, hl with | [_, _], _ => rfl
  have F1_law_signs := fun_mk (st := s_law_signs) l_law_signs c_law_signs k_law_signs
  have B_law_signs := F1_law_signs.binds (ps := ["pool", "many"]) fun _ _ _ _ _ _ us hl => match us, hl with | [_, _], _ => rfl
  have F1_law_row := fun_mk (st := s_law_row) l_law_row c_law_row k_law_row
  have B_law_row := F1_law_row.binds (ps := ["pool", "length"]) fun _ _ _ _ _ _ us hl => match us, hl with | [_, _], _ => rfl
  have F1_law_power := fun_mk (st := s_law_power) l_law_power c_law_power k_law_power
  have B_law_power := F1_law_power.binds (ps := ["many"]) fun _ _ _ _ _ _ us hl => match us, hl with | [_], _ => rfl
  have F1_law_row_of := fun_mk (st := s_law_row_of) l_law_row_of c_law_row_of k_law_row_of
  have B_law_row_of := F1_law_row_of.binds (ps := ["number", "width"]) fun _ _ _ _ _ _ us hl => match us, hl with | [_, _], _ => rfl
  have F1_law_book_model := fun_mk (st := s_law_book_model) l_law_book_model c_law_book_model k_law_book_model
  have B_law_book_model := F1_law_book_model.binds (ps := ["pool", "width", "many"]) fun _ _ _ _ _ _ us hl => match us, hl with | [_, _, _], _ => rfl
  have F1_law_drawn_book := fun_mk (st := s_law_drawn_book) l_law_drawn_book c_law_drawn_book k_law_drawn_book
  have B_law_drawn_book := F1_law_drawn_book.binds (ps := ["pool"]) fun _ _ _ _ _ _ us hl => match us, hl with | [_], _ => rfl
  have F1_law_book := fun_mk (st := s_law_book) l_law_book c_law_book k_law_book
  have B_law_book := F1_law_book.binds (ps := ["model"]) fun _ _ _ _ _ _ us hl => match us, hl with | [_], _ => rfl
  have F1_law_deep := fun_mk (st := s_law_deep) l_law_deep c_law_deep k_law_deep
  have B_law_deep := F1_law_deep.binds (ps := []) fun _ _ _ _ _ _ us hl => match us, hl with | [], _ => rfl
  have F1_law_count := fun_mk (st := s_law_count) l_law_count c_law_count k_law_count
  have B_law_count := F1_law_count.binds (ps := ["one", "other"]) fun _ _ _ _ _ _ us hl => match us, hl with | [_, _], _ => rfl
  have F1_law_refused := fun_mk (st := s_law_refused) l_law_refused c_law_refused k_law_refused
  have B_law_refused := F1_law_refused.binds (ps := ["book", "row"]) fun _ _ _ _ _ _ us hl => match us, hl with | [_, _], _ => rfl
  have F1_law := fun_mk (st := s_law) l_law c_law k_law
  have B_law := F1_law.binds (ps := ["script"]) fun _ _ _ _ _ _ us hl => match us, hl with | [_], _ => rfl
  have T_BadRow : PySem.SLX.ExTxt K mg PySem.Challenge.rw_surelabels_k06_patterns_apart.prog w "BadRow" "part" "part" (fun v => ∃ (y : Str) (t : Tok), v = .str y t ∧ (reprText y).length ≤ 1000) cR iR :=
    { gC := PySem.W.mg_of X G a_BadRow, cls := ⟨_, _, _, _, _, _, _, _, _, _, _, _, _, _, _, x_BadRow, rfl, along_of x_BadRow su_BadRow⟩, sa := sa_BadRow, ga := ga_BadRow, gg := gg_BadRow, noN := nb_BadRow, iC := in_BadRow, tC := ti_BadRow, kC := kC_BadRow, exC := eC_BadRow, veC := vC_BadRow, tyC := tC_BadRow, hdC := hC_BadRow, selfC := mC_BadRow, opq := opq, sup := PySem.W.mg_none_of X G z_super,
      fn := ⟨_, _, _, _, _, _, _, _, _, _, _, _, _, _, _, _, _, _, _, _, _, _, _, _, _, _, _, _, _, _, _, _, l_BadRow, c_BadRow, cell_BadRow, code_BadRow, v2_BadRow, fi_BadRow, PySem.SLX.msg_repr rfl rfl (by decide) (by decide +kernel), fun _ => rfl, fun _ => ⟨_, rfl⟩, fun _ _ => rfl⟩,
      okN := ⟨by decide, by decide, by decide, by decide⟩, top := by decide +kernel }
  have T_BadBook : PySem.SLX.ExTxt K mg PySem.Challenge.rw_surelabels_k06_patterns_apart.prog w "BadBook" "part" "part" (fun v => ∃ (y : Str) (t : Tok), v = .str y t ∧ (reprText y).length ≤ 1000) cK iK :=
    { gC := PySem.W.mg_of X G a_BadBook, cls := ⟨_, _, _, _, _, _, _, _, _, _, _, _, _, _, _, x_BadBook, rfl, along_of x_BadBook su_BadBook⟩, sa := sa_BadBook, ga := ga_BadBook, gg := gg_BadBook, noN := nb_BadBook, iC := in_BadBook, tC := ti_BadBook, kC := kC_BadBook, exC := eC_BadBook, veC := vC_BadBook, tyC := tC_BadBook, hdC := hC_BadBook, selfC := mC_BadBook, opq := opq, sup := PySem.W.mg_none_of X G z_super,
      fn := ⟨_, _, _, _, _, _, _, _, _, _, _, _, _, _, _, _, _, _, _, _, _, _, _, _, _, _, _, _, _, _, _, _, l_BadBook, c_BadBook, cell_BadBook, code_BadBook, v2_BadBook, fi_BadBook, PySem.SLX.msg_repr rfl rfl (by decide) (by decide +kernel), fun _ => rfl, fun _ => ⟨_, rfl⟩, fun _ _ => rfl⟩,
      okN := ⟨by decide, by decide, by decide, by decide⟩, top := by decide +kernel }
  have F1_Book_init := fun_mk (st := s_Book_init) l_Book_init c_Book_init k_Book_init
  have B_Book_init := F1_Book_init.binds (ps := ["self", "patterns", "start", "stop"]) fun _ _ _ _ _ _ us hl => match us, hl with | [_, _, _, _], _ => rfl
  have F1_Book_pattern := fun_mk (st := s_Book_pattern) l_Book_pattern c_Book_pattern k_Book_pattern
  have B_Book_pattern := F1_Book_pattern.binds (ps := ["self", "mark"]) fun _ _ _ _ _ _ us hl => match us, hl with | [_, _], _ => rfl
  have F1_Book_all_marks := fun_mk (st := s_Book_all_marks) l_Book_all_marks c_Book_all_marks k_Book_all_marks
  have B_Book_all_marks := F1_Book_all_marks.binds (ps := ["self"]) fun _ _ _ _ _ _ us hl => match us, hl with | [_], _ => rfl
  have kd_Book : KindC K cB := ⟨⟨⟨pg_Book, hd_Book, po_Book, sa_Book⟩, ia_Book, ig_Book, it_Book, im_Book, ie_Book⟩, fun T hT => by simp only [List.mem_cons, List.not_mem_nil, or_false] at hT; rcases hT with rfl | rfl | rfl | rfl | rfl | rfl; exact kn_Book_int; exact kn_Book_bool; exact kn_Book_str; exact kn_Book_list; exact kn_Book_tuple; exact kn_Book_dict⟩
  have M : MF PySem.Challenge.rw_surelabels_k06_patterns_apart.prog w K mg cR iR cK iK cB fB pB aB cL := { m_isinstance := PySem.W.mg_none_of X G z_isinstance, m_int := PySem.W.mg_none_of X G z_int, m_bool := PySem.W.mg_none_of X G z_bool, m_str := PySem.W.mg_none_of X G z_str, m_list := PySem.W.mg_none_of X G z_list, m_tuple := PySem.W.mg_none_of X G z_tuple, m_dict := PySem.W.mg_none_of X G z_dict, m_len := PySem.W.mg_none_of X G z_len, m_all := PySem.W.mg_none_of X G z_all, m_range := PySem.W.mg_none_of X G z_range, m_enumerate := PySem.W.mg_none_of X G z_enumerate, m_zip := PySem.W.mg_none_of X G z_zip, m_sorted := PySem.W.mg_none_of X G z_sorted, m_min := PySem.W.mg_none_of X G z_min, m_set := PySem.W.mg_none_of X G z_set, x_BadRow := T_BadRow, x_BadBook := T_BadBook, g_BadRow := PySem.W.mg_of X G a_BadRow, g_BadBook := PySem.W.mg_of X G a_BadBook, g_LabelError := PySem.W.mg_of X G a_LE, e_RR := exm_ref eC_BadRow iC_BadRow tC_BadRow s_BadRow_BadRow, g_Book := PySem.W.mg_of X G a_Book, mk_Book := ⟨mk_Book, in_Book, fn_Book, kp_Book⟩, cl_Book := ⟨pg_Book, hd_Book, po_Book, sa_Book⟩, n_signs := n0_Book, n_width := n1_Book, n_start := n2_Book, n_stop := n3_Book, n__rows := n4_Book, ic_Book := ⟨⟨pg_Book, hd_Book, po_Book, sa_Book⟩, ia_Book, ig_Book, it_Book, im_Book, ie_Book⟩, me_pattern := ⟨at_Book_pattern, fn_Book_pattern, k_Book_pattern⟩, me_all_marks := ⟨at_Book_all_marks, fn_Book_all_marks, k_Book_all_marks⟩, kinds := fun C h => by rw [List.mem_singleton.mp h]; exact kd_Book, g_SIGNS := ⟨tSG, PySem.W.mg_of X G a_SIGNS⟩ }
  refine ⟨PySem.W.fnOf "law" "law" (defArgs s_law) (defBody s_law) (defScope s_law) .none kV_law dc_law pm_law an_law cd_law ct_law, fun s v => .of_eq rfl, fun base _ _ => ?_⟩
  · have F_is_whole : FnC PySem.Challenge.rw_surelabels_k06_patterns_apart.prog w K mg base CX0 1 "is_whole" ["thing"] (spV false 1 (WWhole [cB])) := ⟨_, _, ok_is_whole M F1_is_whole, PySem.W.mg_of X G a_is_whole, k_is_whole, B_is_whole⟩
    have F_is_within : FnC PySem.Challenge.rw_surelabels_k06_patterns_apart.prog w K mg base CX0 2 "is_within" ["thing", "low", "high"] (spV false 3 (WWithin [cB])) := ⟨_, _, ok_is_within M F_is_whole F1_is_within, PySem.W.mg_of X G a_is_within, k_is_within, B_is_within⟩
    have F_is_sign : FnC PySem.Challenge.rw_surelabels_k06_patterns_apart.prog w K mg base CX0 1 "is_sign" ["thing"] (spV false 1 (WIsSign [cB])) := ⟨_, _, ok_is_sign M F1_is_sign, PySem.W.mg_of X G a_is_sign, k_is_sign, B_is_sign⟩
    have F_is_row : FnC PySem.Challenge.rw_surelabels_k06_patterns_apart.prog w K mg base CX0 4 "is_row" ["thing"] (spV false 1 (WIsRow [cB])) := ⟨_, _, ok_is_row M F_is_within F1_is_row, PySem.W.mg_of X G a_is_row, k_is_row, B_is_row⟩
    have F_is_row_of : FnC PySem.Challenge.rw_surelabels_k06_patterns_apart.prog w K mg base CX0 5 "is_row_of" ["thing", "length"] (spV false 2 (WRowOf [cB])) := ⟨_, _, ok_is_row_of M F_is_row F1_is_row_of, PySem.W.mg_of X G a_is_row_of, k_is_row_of, B_is_row_of⟩
    have F_check_row : FnC PySem.Challenge.rw_surelabels_k06_patterns_apart.prog w K mg base (L2.CX PySem.Challenge.rw_surelabels_k06_patterns_apart.prog w) 6 "check_row" ["thing", "part"] (spV false 2 (WCheckRow [cB] cR)) := ⟨_, _, ok_check_row M F_is_row F1_check_row, PySem.W.mg_of X G a_check_row, k_check_row, B_check_row⟩
    have F_apart : FnC PySem.Challenge.rw_surelabels_k06_patterns_apart.prog w K mg base (L2.CX PySem.Challenge.rw_surelabels_k06_patterns_apart.prog w) 7 "apart" ["one", "other"] (spV false 2 WApart) := ⟨_, _, ok_apart M F_check_row F1_apart, PySem.W.mg_of X G a_apart, k_apart, B_apart⟩
    have F_are_patterns : FnC PySem.Challenge.rw_surelabels_k06_patterns_apart.prog w K mg base CX0 5 "_are_patterns" ["thing"] (spV false 1 WArePat) := ⟨_, _, ok_are_patterns M F_is_sign F_is_row F1_are_patterns, PySem.W.mg_of X G a_are_patterns, k_are_patterns, B_are_patterns⟩
    have F_check_book : FnC PySem.Challenge.rw_surelabels_k06_patterns_apart.prog w K mg base (L2.CX PySem.Challenge.rw_surelabels_k06_patterns_apart.prog w) 7 "_check_book" ["patterns", "start", "stop"] (spV false 3 WChkBook) := ⟨_, _, ok_check_book M F_are_patterns F_is_row_of F1_check_book, PySem.W.mg_of X G a_check_book, k_check_book, B_check_book⟩
    have OBook := ok_Book_init (base := base) M F_check_book F1_Book_init
    have BBook := B_Book_init
    have Opattern := ok_Book_pattern (base := base) M F1_Book_pattern
    have Bpattern := B_Book_pattern
    have Oall_marks := ok_Book_all_marks (base := base) M F1_Book_all_marks
    have Ball_marks := B_Book_all_marks
    have F_least_apart : FnC PySem.Challenge.rw_surelabels_k06_patterns_apart.prog w K mg base CX0 9 "least_apart" ["book"] (spV false 1 (WLeastApart cB)) := ⟨_, _, ok_least_apart M Oall_marks Ball_marks Opattern Bpattern F_apart F1_least_apart, PySem.W.mg_of X G a_least_apart, k_least_apart, B_least_apart⟩
    have F_nearest : FnC PySem.Challenge.rw_surelabels_k06_patterns_apart.prog w K mg base (L2.CX PySem.Challenge.rw_surelabels_k06_patterns_apart.prog w) 9 "nearest" ["book", "row"] (spF false 2 (WNearest [cB] cR cB)) := ⟨_, _, ok_nearest M F_is_row_of Oall_marks Ball_marks Opattern Bpattern F_apart F1_nearest, PySem.W.mg_of X G a_nearest, k_nearest, B_nearest⟩
    have F_law_pool : FnC PySem.Challenge.rw_surelabels_k06_patterns_apart.prog w K mg base CX0 1 "_law_pool" ["script"] (spPool K) := ⟨_, _, ok_law_pool M F1_law_pool, PySem.W.mg_of X G a_law_pool, k_law_pool, B_law_pool⟩
    have F_law_draw : FnC PySem.Challenge.rw_surelabels_k06_patterns_apart.prog w K mg base CX0 1 "_law_draw" ["pool", "many"] spDraw := ⟨_, _, ok_law_draw M F1_law_draw, PySem.W.mg_of X G a_law_draw, k_law_draw, B_law_draw⟩
    have F_law_drawW := draw_w F_law_draw
    have F_law_draw := draw_v F_law_drawW
    have F_law_same : FnC PySem.Challenge.rw_surelabels_k06_patterns_apart.prog w K mg base CX0 8 "_law_same" ["actual", "due"] (spV false 2 (WSame 3)) := ⟨_, _, ok_law_same M F1_law_same (PySem.W.mg_of X G a_law_same) B_law_same 3, PySem.W.mg_of X G a_law_same, k_law_same, B_law_same⟩
    have F_law_signs : FnC PySem.Challenge.rw_surelabels_k06_patterns_apart.prog w K mg base CX0 2 "_law_signs" ["pool", "many"] (spV true 2 WSignsD) := ⟨_, _, ok_law_signs M F_law_draw F1_law_signs, PySem.W.mg_of X G a_law_signs, k_law_signs, B_law_signs⟩
    have F_law_row : FnC PySem.Challenge.rw_surelabels_k06_patterns_apart.prog w K mg base CX0 2 "_law_row" ["pool", "length"] (spV true 2 WRowP) := ⟨_, _, ok_law_row M F_law_draw F1_law_row, PySem.W.mg_of X G a_law_row, k_law_row, B_law_row⟩
    have F_law_power : FnC PySem.Challenge.rw_surelabels_k06_patterns_apart.prog w K mg base CX0 1 "_law_power" ["many"] (spV false 1 WPower) := ⟨_, _, ok_law_power M F1_law_power, PySem.W.mg_of X G a_law_power, k_law_power, B_law_power⟩
    have F_law_row_of : FnC PySem.Challenge.rw_surelabels_k06_patterns_apart.prog w K mg base CX0 1 "_law_row_of" ["number", "width"] (spV false 2 WRowNum) := ⟨_, _, ok_law_row_of M F1_law_row_of, PySem.W.mg_of X G a_law_row_of, k_law_row_of, B_law_row_of⟩
    have F_law_book_model : FnC PySem.Challenge.rw_surelabels_k06_patterns_apart.prog w K mg base CX0 3 "_law_book_model" ["pool", "width", "many"] (spV true 3 WBModel) := ⟨_, _, ok_law_book_model M F_law_draw F_law_signs F_law_power F_law_row_of F1_law_book_model, PySem.W.mg_of X G a_law_book_model, k_law_book_model, B_law_book_model⟩
    have F_law_drawn_book : FnC PySem.Challenge.rw_surelabels_k06_patterns_apart.prog w K mg base CX0 4 "_law_drawn_book" ["pool"] (spV true 1 WDBook) := ⟨_, _, ok_law_drawn_book M F_law_draw F_law_book_model F1_law_drawn_book, PySem.W.mg_of X G a_law_drawn_book, k_law_drawn_book, B_law_drawn_book⟩
    have F_law_book : FnC PySem.Challenge.rw_surelabels_k06_patterns_apart.prog w K mg base CX0 10 "_law_book" ["model"] (spV false 1 (WLBook cB)) := ⟨_, _, ok_law_book M OBook BBook F1_law_book, PySem.W.mg_of X G a_law_book, k_law_book, B_law_book⟩
    have F_law_deep : FnC PySem.Challenge.rw_surelabels_k06_patterns_apart.prog w K mg base CX0 1 "_law_deep" [] (spV false 0 WDeep) := ⟨_, _, ok_law_deep M F1_law_deep, PySem.W.mg_of X G a_law_deep, k_law_deep, B_law_deep⟩
    have F_law_count : FnC PySem.Challenge.rw_surelabels_k06_patterns_apart.prog w K mg base CX0 1 "_law_count" ["one", "other"] (spV false 2 WCount) := ⟨_, _, ok_law_count M F1_law_count, PySem.W.mg_of X G a_law_count, k_law_count, B_law_count⟩
    have F_law_refused : FnC PySem.Challenge.rw_surelabels_k06_patterns_apart.prog w K mg base CX0 10 "_law_refused" ["book", "row"] (spV false 2 (WRefB [cB] cB)) := ⟨_, _, ok_law_refused M F_nearest F1_law_refused, PySem.W.mg_of X G a_law_refused, k_law_refused, B_law_refused⟩
    exact ok_law M F_law_pool F_law_drawn_book F_law_book F_law_draw F_law_count F_law_same F_least_apart F_nearest F_law_row F_law_row_of F_law_deep F_law_refused F1_law
end K06
open PySem PySem.W PyProof.Rows
set_option maxHeartbeats 0 in
theorem PySem.Challenge.cw_surelabels_k06_patterns_apart_holds : PySem.Challenge.rw_surelabels_k06_patterns_apart.Holds := by
  w_on; o_law; k_head; (case hw => w_witness2)
  k_fill
  refine L2.walk_of (l := PySem.Challenge.rw_surelabels_k06_patterns_apart) (n := 63) (k := 13) (x := "script") (CX := fun _ => L2.CX0) (sp := fun w => K06.spLaw _) rfl (by decide) rfl ⟨rfl, by decide, by decide⟩ (fun w h Y => PySem.W.kIn_of Y) ?F (fun _ _ a ns hl _ hS => ⟨a, ns, rfl, hS, hl, fun _ => rfl⟩) (fun _ _ _ _ _ h => h)
  case F =>
    intro w mg fa h KX G hmg
    refine' K06.all_mk KX G hmg ?h0 ?h1 ?h2 ?h3 ?h4 ?h5 ?h6 ?h7 ?h8 ?h9 ?h10 ?h11 ?h12 ?h13 ?h14 ?h15 ?h16 ?h17 ?h18 ?h19 ?h20 ?h21 ?h22 ?h23 ?h24 ?h25 ?h26 ?h27 ?h28 ?h29 ?h30 ?h31 ?h32 ?h33 ?h34 ?h35 ?h36 ?h37 ?h38 ?h39 ?h40 ?h41 ?h42 ?h43 ?h44 ?h45 ?h46 ?h47 ?h48 ?h49 ?h50 ?h51 ?h52 ?h53 ?h54 ?h55 ?h56 ?h57 ?h58 ?h59 ?h60 ?h61 ?h62 ?h63 ?h64 ?h65 ?h66 ?h67 ?h68 ?h69 ?h70 ?h71 ?h72 ?h73 ?h74 ?h75 ?h76 ?h77 ?h78 ?h79 ?h80 ?h81 ?h82 ?h83 ?h84 ?h85 ?h86 ?h87 ?h88 ?h89 ?h90 ?h91 ?h92 ?h93 ?h94 ?h95 ?h96 ?h97 ?h98 ?h99 ?h100 ?h101 ?h102 ?h103 ?h104 ?h105 ?h106 ?h107 ?h108 ?h109 ?h110 ?h111 ?h112 ?h113 ?h114 ?h115 ?h116 ?h117 ?h118 ?h119 ?h120 ?h121 ?h122 ?h123 ?h124 ?h125 ?h126 ?h127 ?h128 ?h129 ?h130 ?h131 ?h132 ?h133 ?h134 ?h135 ?h136 ?h137 ?h138 ?h139 ?h140 ?h141 ?h142 ?h143 ?h144 ?h145 ?h146 ?h147 ?h148 ?h149 ?h150 ?h151 ?h152 ?h153 ?h154 ?h155 ?h156 ?h157 ?h158 ?h159 ?h160 ?h161 ?h162 ?h163 ?h164 ?h165 ?h166 ?h167 ?h168 ?h169 ?h170 ?h171 ?h172 ?h173 ?h174 ?h175 ?h176 ?h177 ?h178 ?h179 ?h180 ?h181 ?h182 ?h183 ?h184 ?h185 ?h186 ?h187 ?h188 ?h189 ?h190 ?h191 ?h192 ?h193 ?h194 ?h195 ?h196 ?h197 ?h198 ?h199 ?h200 ?h201 ?h202 ?h203 ?h204
    (case h0 => k_is)
    (case h1 => k_is)
    (case h2 => ks_is)
    (case h3 => k_is)
    (case h4 => k_is)
    (case h5 => k_is)
    (case h6 => k_is)
    (case h7 => k_is)
    (case h8 => k_is)
    (case h9 => k_is)
    (case h10 => k_is)
    (case h11 => k_is)
    (case h12 => k_is)
    (case h13 => rfl)
    (case h14 => decide +kernel)
    (case h15 => k_is)
    (case h16 => k_is)
    (case h17 => k_is)
    (case h18 => k_is)
    (case h19 => k_is)
    (case h20 => k_is)
    (case h21 => k_is)
    (case h22 => k_is)
    (case h23 => k_is)
    (case h24 => ks_is)
    (case h25 => k_is)
    (case h26 => k_is)
    (case h27 => k_is)
    (case h28 => k_is)
    (case h29 => k_is)
    (case h30 => k_is)
    (case h31 => k_is)
    (case h32 => k_is)
    (case h33 => k_is)
    (case h34 => k_is)
    (case h35 => rfl)
    (case h36 => decide +kernel)
    (case h37 => k_is)
    (case h38 => k_is)
    (case h39 => k_is)
    (case h40 => k_is)
    (case h41 => k_is)
    (case h42 => k_is)
    (case h43 => k_is)
    (case h44 => k_is)
    (case h45 => k_is)
    (case h46 => k_is)
    (case h47 => k_is)
    (case h48 => k_is)
    (case h49 => k_is)
    (case h50 => k_is)
    (case h51 => k_is)
    (case h52 => k_is)
    (case h53 => k_is)
    (case h54 => k_is)
    (case h55 => k_is)
    (case h56 => k_is)
    (case h57 => k_is)
    (case h58 => k_is)
    (case h59 => k_is)
    (case h60 => k_is)
    (case h61 => k_is)
    (case h62 => k_is)
    (case h63 => k_is)
    (case h64 => k_is)
    (case h65 => k_is)
    (case h66 => k_is)
    (case h67 => k_is)
    (case h68 => k_is)
    (case h69 => k_is)
    (case h70 => k_is)
    (case h71 => k_is)
    (case h72 => k_is)
    (case h73 => k_is)
    (case h74 => k_is)
    (case h75 => k_is)
    (case h76 => k_is)
    (case h77 => k_is)
    (case h78 => k_is)
    (case h79 => k_is)
    (case h80 => k_is)
    (case h81 => k_is)
    (case h82 => k_is)
    (case h83 => k_is)
    (case h84 => k_is)
    (case h85 => k_is)
    (case h86 => k_is)
    (case h87 => k_is)
    (case h88 => k_is)
    (case h89 => k_is)
    (case h90 => k_is)
    (case h91 => k_is)
    (case h92 => k_is)
    (case h93 => k_is)
    (case h94 => k_is)
    (case h95 => k_is)
    (case h96 => k_is)
    (case h97 => k_is)
    (case h98 => k_is)
    (case h99 => k_is)
    (case h100 => k_is)
    (case h101 => k_is)
    (case h102 => k_is)
    (case h103 => k_is)
    (case h104 => k_is)
    (case h105 => k_is)
    (case h106 => k_is)
    (case h107 => k_is)
    (case h108 => k_is)
    (case h109 => k_is)
    (case h110 => k_is)
    (case h111 => k_is)
    (case h112 => k_is)
    (case h113 => k_is)
    (case h114 => k_is)
    (case h115 => k_is)
    (case h116 => k_is)
    (case h117 => k_is)
    (case h118 => k_is)
    (case h119 => k_is)
    (case h120 => k_is)
    (case h121 => k_is)
    (case h122 => k_is)
    (case h123 => k_is)
    (case h124 => k_is)
    (case h125 => k_is)
    (case h126 => k_is)
    (case h127 => k_is)
    (case h128 => k_is)
    (case h129 => k_is)
    (case h130 => k_is)
    (case h131 => k_is)
    (case h132 => k_is)
    (case h133 => k_is)
    (case h134 => k_is)
    (case h135 => k_is)
    (case h136 => k_is)
    (case h137 => k_is)
    (case h138 => k_is)
    (case h139 => k_is)
    (case h140 => k_is)
    (case h141 => k_is)
    (case h142 => k_is)
    (case h143 => k_is)
    (case h144 => k_is)
    (case h145 => k_is)
    (case h146 => k_is)
    (case h147 => k_is)
    (case h148 => k_is)
    (case h149 => k_is)
    (case h150 => k_is)
    (case h151 => k_is)
    (case h152 => k_is)
    (case h153 => k_is)
    (case h154 => k_is)
    (case h155 => k_is)
    (case h156 => k_is)
    (case h157 => k_is)
    (case h158 => k_is)
    (case h159 => k_is)
    (case h160 => k_is)
    (case h161 => k_is)
    (case h162 => k_is)
    (case h163 => k_is)
    (case h164 => k_is)
    (case h165 => k_is)
    (case h166 => k_is)
    (case h167 => k_is)
    (case h168 => k_is)
    (case h169 => k_is)
    (case h170 => k_is)
    (case h171 => k_is)
    (case h172 => k_is)
    (case h173 => k_is)
    (case h174 => k_is)
    (case h175 => k_is)
    (case h176 => k_is)
    (case h177 => k_is)
    (case h178 => k_is)
    (case h179 => k_is)
    (case h180 => k_is)
    (case h181 => k_is)
    (case h182 => k_is)
    (case h183 => k_is)
    (case h184 => k_is)
    (case h185 => k_is)
    (case h186 => k_is)
    (case h187 => k_is)
    (case h188 => k_is)
    (case h189 => k_is)
    (case h190 => k_is)
    (case h191 => k_is)
    (case h192 => k_is)
    (case h193 => k_is)
    (case h194 => k_is)
    (case h195 => k_is)
    (case h196 => k_is)
    (case h197 => kit_is)
    (case h198 => kit_is)
    (case h199 => kit_is)
    (case h200 => kit_is)
    (case h201 => kit_is)
    (case h202 => kit_is)
    (case h203 => kit_is)
    (case h204 => k_is)
