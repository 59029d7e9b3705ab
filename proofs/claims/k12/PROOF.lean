import PyProof.Rows.All
import Wide.All
import OpenK.AllK
import Wide.FinOn
import PyProof.EqAt
import PyProof.EqKinds
import PyProof.TupleCall
import PyProof.FString
import PyProof.FString4
import KE.KExcSuper
import HandS.Base
import HandS.Call
import HandS.Exc
import HandS.ExcInit
import HandS.ForMost
import HandS.ExcOwn
import HandS.WordsExc
import HandS.IsInst
import HandS.TupAny
import HandS.List
import HandS.Comp
import HandS.Iter
import HandS.Style
import HandS.Zip
import HandS.Walk
import HandS.Evl
import HandS.RevRange
import HandS.WideBits
import PyProof.EnumStmt
import PyProof.EnumMake
import PyProof.Draws
import KE.GoesMore
import HandS.Zip0
import HandS.DictComp
import PyProof.ListStr
import PyProof.ListIndex
import HandS.Text
import HandS.More
import PyProof.Rows.SortStr
import PyProof.Rows.SortKeyStr
import HandS.SortInts
import HandS.SortKw
import HandS.Sort
import HandS.SortOrd
import HandS.SortRule
import HandS.TupSets
import HandS.TupMul
import HandS.OwnEq
import PyProof.InstNe
import HandS.Steps
import PyProof.ZipIter
import PyProof.ListNew
import PyProof.WalkInts
import KE.KTupSum
import PyProof.SumAny
import PyProof.MinMaxWalk
import HandS.Dict
import HandS.Small
import PyProof.DictMoreH
import HandS.Codes
import HandS.Deep
import HandS.Lambda
import HandS.Nested
import HandS.TryOnly
import HandS.Property
import HandS.Wide
import HandS.Defaults
import HandS.SetBool
import HandS.Strs
import HandS.SetKeys
import HandS.Conv
import KE.KNest
import HandS.EndTab
import KE.GoesEnum
import PyProof.DictFindH
import HandS.TupLen
import PySem.Challenge.RW_surelabels_k12_rules_joined
set_option Elab.async false
set_option linter.all false
set_option maxRecDepth 100000
set_option maxHeartbeats 4000000
/-! An own error class whose __init__ says super().__init__(message) and keeps one field: made, raised, caught, its field read. -/
namespace PySem
namespace SLX
open PySem.W PySem.Calls PyProof.Rows PySem.HandSPX
/-- the message, evaluated where the one parameter stands: nothing but tokens changes -/
def MsgOk (prog : Program) (w : World) (sc : Scope) (par : Str) (msg : Expr) (okv : Value → Prop) : Prop :=
  ∀ (A : Around) (E : Value → Shared → Prop) (s : Shared) (env : Env) (m : Str → Option Value) (v : Value) (Q : Value → Shared → Prop), env.scope = sc → s.heap.Ns env.locals m → m par = some v → okv v → (∀ u t, Q u { s with toks := t }) →
    wpAny (model prog w) A (eval msg env) Q E s
theorem msg_const {prog : Program} {w : World} {sc : Scope} {par x : Str} {j : Nat} {p : Pos} {okv : Value → Prop} : MsgOk prog w sc par (.Constant (.str x) j p) okv :=
  fun A E s env m v Q _ _ _ _ h => Calls.Constant_str (h _ _)
/-- f'..{part!r}' -/
theorem msg_repr {prog : Program} {w : World} {sc : Scope} {par x : Str} {j : Nat} {p1 p2 p3 p4 : Pos} (hk : sc.kind = .function) (hl : sc.names.lookup par = some .local) (hd : (par == ("__debug__" : Str)) = false) (hx : x.length ≤ 1000) :
    MsgOk prog w sc par (.JoinedStr [.Constant (.str x) j p1, .FormattedValue (.Name par p2) 114 none p3] p4) (fun v => ∃ (y : Str) (t : Tok), v = .str y t ∧ (reprText y).length ≤ 1000) := by
  intro A E s env m v Q hs hn hv ho h
  obtain ⟨y, t, rfl, hy⟩ := ho
  subst hs
  have z1 : (1000 : Nat) ≤ sizeLine := by rw [sizeLine_eq]; decide
  have z2 : (2000 : Nat) ≤ sizeLine := by rw [sizeLine_eq]; decide
  have hyl : (reprText y).length ≤ sizeLine := Nat.le_trans hy z1
  have app : ∀ a b : Str, (a ++ b).length = a.length + b.length := fun a b => by
    show (a.cps ++ b.cps).size = a.cps.size + b.cps.size
    exact Array.size_append
  have e0 : (Str.empty : Str).length = 0 := rfl
  refine wpAny_JoinedStr ?_
  show wpAny _ _ (eval (.Constant (.str x) j p1) env) _ _ _
  refine Calls.Constant_str ?_
  refine ⟨x, s.toks, rfl, by rw [app, e0]; omega, ?_⟩
  show wpAny _ _ (eval (.FormattedValue (.Name par p2) 114 none p3) env) _ _ _
  refine wpAny_FormattedValue_repr ?_
  refine wpAny_Name (wpAny_loadName_local hk hl hn hv ?_) hd
  refine pyReprObj_str ?_ hyl
  refine wpAny_formatField_str ?_ ?_ hyl
  · refine ⟨reprText y, _, rfl, by rw [app, app, e0]; omega, ?_⟩
    exact ⟨by rw [app, app, e0]; omega, h _ _⟩
  · refine ⟨reprText y, _, rfl, by rw [app, app, e0]; omega, ?_⟩
    exact ⟨by rw [app, app, e0]; omega, h _ _⟩

/-! ### the text of __init__ -/
def iP (par : Str) (p1 p2 : Pos) : Arguments := { posonlyargs := [], args := [{ arg := "self", annotation := none, pos := p1 }, { arg := par, annotation := none, pos := p2 }], vararg := none, kwonlyargs := [], kw_defaults := [], kwarg := none, defaults := [] }
def iB (fld par : Str) (msg : Expr) (q1 q2 q3 q4 q5 q6 q7 q8 q9 : Pos) : List Stmt :=
  [.Expr (.Call (.Attribute (.Call (.Name "super" q1) [] [] q2) "__init__" q3) [msg] [] q4) q5, .Assign [.Attribute (.Name "self" q6) fld q7] (.Name par q8) q9]
def iS (par : Str) : Scope := { kind := .function, names := [(PySem.Str.ofString "self", .local), (par, .local), (PySem.Str.ofString "__class__", .free), (PySem.Str.ofString "super", .globalImplicit)], isGenerator := false, isCoroutine := false, more := [] }
/-- super().__init__(msg), as the evaluator takes it -/
def CallForm (msg : Expr) (q1 q2 q3 q4 : Pos) : Prop := ∀ env : Env, ∃ pl : Sem Bool, eval (.Call (.Attribute (.Call (.Name "super" q1) [] [] q2) "__init__" q3) [msg] [] q4) env = (do
  let ov ← attributeBase (.Call (.Name "super" q1) [] [] q2) "__init__" env (eval (.Call (.Name "super" q1) [] [] q2) env)
  standAt q3.atName
  let (f, first) ← holding [ov] (getMethod ov "__init__" pl)
  callWith q4 f first (backTo q4 (starEach [msg] env)) [])
/-- what the written part says of the class cn, at C, and of its __init__, at fI; vok: the values that its message can show -/
structure ExTxt (K : Frag) (mg : Str → Option Value) (prog : Program) (w : World) (cn fld par : Str) (vok : Value → Prop) (C fI : Addr) : Prop where
  gC : mg cn = some (.ref C)
  cls : ∃ nm q N bs bm sn sub ab col dd k0 k1 k2 k3 k5, K.lookup C = some (excClassObj nm q C N bs bm true sn sub ab col dd k0 k1 k2 k3 k5 "ValueError.__new__") ∧ refsVE bm = true ∧ alongIn K "__init__" bm = some (some (.builtin "ValueError.__init__"))
  sa : findIn K (.ref C) "__setattr__" = some (some (.builtin "object.__setattr__"))
  ga : findIn K (.ref C) "__getattribute__" = some (some (.builtin "BaseException.__getattribute__"))
  gg : findIn K (.ref C) "__getattr__" = some none
  noN : findIn K (.ref C) fld = some none
  iC : findIn K (.ref C) "__init__" = some (some (.ref fI))
  tC : typeIn K (.ref fI) = some (.type "function")
  kC : keepIn K (.ref C) = true
  exC : subIn K (.ref C) (.type "BaseException") = some true
  veC : subIn K (.ref C) (.type "ValueError") = some true
  tyC : typeIn K (.ref C) = some (.type "type")
  hdC : hasDictIn K C = true
  selfC : mroIn K C (.ref C) = some true
  opq : nsIn K cStatics "thirdparty.any" = some none
  sup : mg "super" = none
  fn : ∃ (oc : Value) (od : Option Addr) (qual : Str) (kV doc pm : Value) (an : Option Addr) (ct : Value) (osl : Array (Option Value)) (cc cda : Addr) (msg : Expr) (p1 p2 q1 q2 q3 q4 q5 q6 q7 q8 q9 : Pos) (cl ccl : Value) (cld cdd : Option Addr) (csl ccs : Array (Option Value)) (vs : Array Value) (file : Str) (tf : Tok),
    K.lookup fI = some ⟨oc, od, .func (ksFn "__init__" qual (iP par p1 p2) (iB fld par msg q1 q2 q3 q4 q5 q6 q7 q8 q9) (iS par) .none kV doc pm an (.ref cda) ct cc), osl⟩ ∧ codeIn K (.ref cda) qual = true ∧
    K.lookup cc = some ⟨cl, cld, .cell (some (.ref C)), csl⟩ ∧ K.lookup cda = some ⟨ccl, cdd, .fields vs, ccs⟩ ∧ vs[2]? = some (.str file tf) ∧ ((prog.main.file : Str) == file) = true ∧ MsgOk prog w (iS par) par msg vok ∧
    (∀ env, starEach [msg] env = (false, eval msg env) :: starEach [] env) ∧ CallForm msg q1 q2 q3 q4 ∧ ∀ a b : Value, bindArgs (ksFn "__init__" qual (iP par p1 p2) (iB fld par msg q1 q2 q3 q4 q5 q6 q7 q8 q9) (iS par) .none kV doc pm an (.ref cda) ct cc) ⟨[a, b], []⟩ = pure [(PySem.Str.ofString "self", a), (par, b)]
  okN : par ≠ ("self" : Str) ∧ par ≠ ("__class__" : Str) ∧ par ≠ ("super" : Str) ∧ (par == ("__debug__" : Str)) = false
  top : (prog.main.scope.names.lookup ("super" : Str)).isSome = false
theorem one_size (v : Value) : [v].length ≤ sizeLine := by
  rw [sizeLine_eq]
  exact (by decide : 1 ≤ 16777216)
/-- what __init__ leaves of a fresh exception at x -/
structure InitEnd (h h' : Heap) (x C dx t1 : Addr) (fld : Str) (v : Value) : Prop where
  keep : ∀ b o, b ≠ x → h.get? b = some o → h'.get? b = some o
  obj : h'.get? x = some { cls := .ref C, dict := some dx, data := .fields #[.ref t1, .none, .none, .none, .bool false, .none] }
  dbig : h.objs.size ≤ dx
  dne : dx ≠ x
  ns : h'.Ns1 dx (fun y => if y = fld then some v else none)
theorem kept_but {K : Frag} {h h' : Heap} {x : Addr} (X : K.In h) (hx : K.lookup x = none) (k : ∀ b o, b ≠ x → h.get? b = some o → h'.get? b = some o) : K.In h' := fun a o e =>
  k a o (fun z => by rw [z, hx] at e; cases e) (X a o e)
section
variable {prog : Program} {w : World} {A : Around} {E : Value → Shared → Prop} {R : Result → Shared → Prop} {s : Shared} {K : Frag} {mg mb : Str → Option Value} {cn fld par : Str} {vok : Value → Prop} {C fI : Addr}
/-- the wrapper called: the exception's args are laid anew -/
theorem call_mw {h : Heap} {g : Array GenState} {d : Drawn} {t : Nat} {os : OsState} {nm q : Str} {N : Addr} {bs bm : List Value} {sn : List Str} {sub : List Value} {ab : Bool} {col : Option Bool} {dd : Option Addr} {k0 k1 k2 k3 k5 : Option Value}
    {u x t0 : Addr} {rest : List Value} {Q : Value → Shared → Prop} (hC : h.get? C = some (excClassObj nm q C N bs bm true sn sub ab col dd k0 k1 k2 k3 k5 "ValueError.__new__")) (hbm : refsVE bm = true) (he : h.get? x = some (excO C t0))
    (hu : h.get? u = some (kxs_mw "ValueError.__init__" x)) (hz : rest.length ≤ sizeLine)
    (hq : ∀ h' t1, (∀ b o, b ≠ x → h.get? b = some o → h'.get? b = some o) → h'.get? x = some (excO C t1) → Q .none ⟨h', g, d, t, os⟩) :
    wpAny (model prog w) A (call (.ref u) rest) Q E ⟨h, g, d, t, os⟩ := by
  refine wpAny_call (codeAny_of_tree ?_)
  show wpAny _ A.in1 (callAny (.ref u) ⟨rest, []⟩) _ _ _
  simp only [callAny]
  refine wpAny_bind (wpAny_load hu ?_)
  simp only [kxs_mw, show (Value.type "method-wrapper" == Value.type "method" || Value.type "method-wrapper" == Value.type "builtin_function_or_method" || Value.type "method-wrapper" == Value.type "method-wrapper") = true by decide, if_true]
  refine KFB.if_so (by decide) ?_
  refine wpAny_bind (check_bound_init F.excBase_ValueError.toExcCallFacts hC he rfl ?_)
  refine wpAny_bind (wpAny_pure (wpAny_pure ?_))
  refine ⟨plainId_quiet F.excBase_ValueError.init.plain _, codeAny_builtin F.excBase_ValueError.initEntry ?_⟩
  exact exc_init_tree (cls := .ref C) (t0 := t0) (dv := none) (c2 := .none) (c3 := .none) (b4 := .bool false) he hz fun h' k e' _ => hq h' _ k e'

theorem own_init (T : ExTxt K mg prog w cn fld par vok C fI) {x t0 : Addr} {v : Value} (hvok : vok v) (X : K.In s.heap) (hlim : s.heap.NoLimit) (hg : s.heap.Ns mainGlobals mg) (hb : s.heap.Ns builtinsNs mb) (hbb : ∀ y : Str, y ≠ "__name__" → mb y = bootBuiltins y)
    (hx : s.heap.get? x = some (excO C t0)) (hnx : K.lookup x = none) (hroom : A.depth < recursionLimit)
    (hq : ∀ h' tk dx t1, InitEnd s.heap h' x C dx t1 fld v → R (.ok (.ret .none)) { s with heap := h', toks := tk }) :
    codeAny (model prog w) A (.call (.ref fI) ⟨[.ref x, v], []⟩) R s := by
  obtain ⟨oc, od, qual, kV, doc, pm, an, ct, osl, cc, cda, msg, p1, p2, q1, q2, q3, q4, q5, q6, q7, q8, q9, cl, ccl, cld, cdd, csl, ccs, vs, file, tf, ho, hcd, hcc, hcda, hvs, hfile, hmsg, hstar, hform, hbd⟩ := T.fn
  obtain ⟨nm, q, N, bs, bm, sn, sub, ab, col, dd, k0, k1, k2, k3, k5, hC, hbm, hal⟩ := T.cls
  obtain ⟨n1, n2, n3, n4⟩ := T.okN
  have hcl : clsIn K C = some { name := nm, bases := bs, mro := .ref C :: bm, ns := N, qualname := q, hasDict := true, slotNames := sn, subclasses := sub, abstract := ab, collection := col, hasDel := false } := by unfold clsIn; rw [hC] <;> rfl
  have hxs : s.heap.objs.size ≠ x := Nat.ne_of_gt (Heap.lt_size hx)
  have par1 : List.lookup par (iS par).names = some .local := by
    show List.lookup par [(PySem.Str.ofString "self", _), (par, _), _, _] = _
    have e : (par == ("self" : Str)) = false := by simpa using n1
    simp [List.lookup, e]
  have cls1 : List.lookup ("__class__" : Str) (iS par).names = some .free := by
    show List.lookup ("__class__" : Str) [(PySem.Str.ofString "self", _), (par, _), (PySem.Str.ofString "__class__", _), _] = _
    have e1 : (("__class__" : Str) == ("self" : Str)) = false := by decide
    have e2 : (("__class__" : Str) == par) = false := by simpa using Ne.symm n2
    simp [List.lookup, e1, e2]
  have sup1 : List.lookup ("super" : Str) (iS par).names = some .globalImplicit := by
    show List.lookup ("super" : Str) [(PySem.Str.ofString "self", _), (par, _), (PySem.Str.ofString "__class__", _), (PySem.Str.ofString "super", _)] = _
    have e1 : (("super" : Str) == ("self" : Str)) = false := by decide
    have e2 : (("super" : Str) == par) = false := by simpa using Ne.symm n3
    have e3 : (("super" : Str) == ("__class__" : Str)) = false := by decide
    simp [List.lookup, e1, e2, e3]
  have hbind : BindsTo s (ksFn "__init__" qual (iP par p1 p2) (iB fld par msg q1 q2 q3 q4 q5 q6 q7 q8 q9) (iS par) .none kV doc pm an (.ref cda) ct cc) ⟨[.ref x, v], []⟩ [("self", .ref x), (par, v)] := BindsTo.of_eq (hbd _ _)
  refine ks_codeAny_call_defAt (binds := [("self", .ref x), (par, v)]) hroom (X _ _ ho) rfl hlim (codeRec_of X hcd) rfl hbind (fun y hy => ?_) (fun y hy => ?_) (fun h₀ hns hk => ?_) rfl rfl rfl
  · have hy' : y ∈ [(PySem.Str.ofString "self", NameKind.local), (par, .local), (PySem.Str.ofString "__class__", .free), (PySem.Str.ofString "super", .globalImplicit)] := hy
    simp only [List.mem_cons, List.not_mem_nil, or_false] at hy'
    rcases hy' with rfl | rfl | rfl | rfl <;> exact fun z => nomatch z
  · simp only [List.mem_cons, List.not_mem_nil, or_false] at hy
    rcases hy with rfl | rfl
    · rfl
    · exact par1
  have hlook : List.lookup par [(par, v), (("self" : Str), Value.ref x)] = some v := by simp [List.lookup]
  have hlookS : List.lookup ("self" : Str) [(par, v), (("self" : Str), Value.ref x)] = some (.ref x) := by
    have e : ((("self" : Str) : Str) == par) = false := by simpa using Ne.symm n1
    simp [List.lookup, e]
  have X0 : K.In h₀ := X.keeps hk
  have hx0 := hk _ _ hx
  show wpAt (model prog w) _ _ (execs (iB fld par msg q1 q2 q3 q4 q5 q6 q7 q8 q9) _) _ _ _
  refine ks_wpAt_execs_cons ?_
  refine ks_wpAt_Expr_any ?_
  obtain ⟨pl, hpl⟩ := hform (callEnv (ksFn "__init__" qual (iP par p1 p2) (iB fld par msg q1 q2 q3 q4 q5 q6 q7 q8 q9) (iS par) .none kV doc pm an (.ref cda) ct cc) s.heap.objs.size fI)
  refine ks_wpAt_MethodCall (pl := pl) ?_ hpl
  refine ks_wpAt_super_base (f := fI) (cc := cda) sup1 cls1 (by decide) rfl (X0 _ _ ho) rfl rfl rfl (X0 _ _ hcda) rfl hvs hfile T.top ?_
  refine ks_loadName_global rfl sup1 (loadGlobal_builtin (mg := mg) (mb := mb) (hg.keeps hk) T.sup (hb.keeps hk) ((hbb "super" (by decide)).trans PyProof.Rows.Boot.«super») ⟨rfl, ?_⟩)
  refine wpAny_loadName_free rfl cls1 (c := cc) rfl ⟨_, X0 _ _ hcc, rfl⟩ ?_
  refine wpAny_loadName_local rfl rfl hns hlookS ?_
  refine ks_wpAny_isType_cls (X0 _ _ hC) rfl ⟨rfl, ?_⟩
  refine ks_wpAny_call_super (X0 _ _ hC) rfl hx0 rfl (fun c z => nomatch z) (looks_mroIn X0 T.selfC) (fun h1 e1 k1 => ?_)
  have X1 : K.In h1 := X0.keeps k1
  have hx1 := k1 _ _ hx0
  have hxC : x ≠ C := fun z => by
    rw [z] at hnx
    have hC' : List.lookup C K = none := hnx
    rw [hC] at hC'
    cases hC'
  have I1 : InstAt h1 x (excO C t0) C none := ⟨hx1, rfl, rfl, trivial⟩
  have hI : Looks (model prog w) h1 (isInstance (.ref x) (.type "ValueError")) true := I1.type.andThen (looks_subIn X1 T.veC)
  refine kxs_getMethod kxs_ValueError (l₀ := .ref C :: bm) (l := bm) e1 (looks_opaque X1 T.opq) ((looks_clsIn X1 hcl).andThen .now) (by simp [List.dropWhile_cons]) X1 hal hI hxC (by decide) ?_
  show wpAny (model prog w) _ (callWith q4 (.ref h1.objs.size) [] (backTo q4 (starEach [msg] _)) []) _ _ _
  have kp : ∀ b o, h1.get? b = some o → (h1.push (kxs_mw "ValueError.__init__" x)).get? b = some o := fun b o e => Heap.get?_push_of_some _ e
  have hup : (h1.push (kxs_mw "ValueError.__init__" x)).get? h1.objs.size = some (kxs_mw "ValueError.__init__" x) := Heap.get?_push_at rfl rfl
  refine kxs_callWith (i := "ValueError.__init__") (x := x) (by rw [hstar]; rfl) ?_
  rw [hstar]
  refine evalArgs_plain ?_
  refine Calls.spliced_cons (hmsg _ _ _ _ _ v _ rfl ((hns.keeps k1).keeps kp) hlook hvok fun u tk => ?_)
  refine Calls.spliced_nil ⟨hup, ?_⟩
  refine call_mw (kp _ _ (X1 _ _ hC)) hbm (kp _ _ hx1) hup (one_size _) fun h2 t1 k2 e2 => ?_
  have X2 : K.In h2 := kept_but (X1.keeps kp) hnx k2
  have hL : s.heap.objs.size ≠ x := hxs
  have hn2 : h2.Ns s.heap.objs.size (fun y => List.lookup y ([("self", Value.ref x), (par, v)] : List (Str × Value)).reverse) := by
    obtain ⟨oL, es, ep, hLo, r⟩ := (hns.keeps k1).keeps kp
    exact ⟨oL, es, ep, k2 _ _ hL hLo, r⟩
  show wpAt (model prog w) _ _ (execs _ _) _ _ _
  refine wpAt_of_wpAny (wpAny_execs_cons (plainObj_wpAny_Assign_Attribute ?_))
  refine wpAny_Name (wpAny_loadName_local rfl par1 hn2 hlook ?_) n4
  refine wpAny_Name (wpAny_loadName_local rfl rfl hn2 hlookS ?_) (by decide)
  refine set_plain X2 (ox := excO C t1) (od := none) ⟨e2, rfl, rfl, trivial⟩ T.sa ?_
  refine exc_osa X2 e2 hcl (show refsVE (.ref C :: bm) = true from hbm) rfl T.noN (fun h3 tk3 dx k3 dn dne hx3 hn3 => ?_)
  have old : ∀ b o, b ≠ x → s.heap.get? b = some o → h2.get? b = some o := fun b o hbx e => k2 b o hbx (kp _ _ (k1 _ _ (hk _ _ e)))
  have z : s.heap.objs.size ≤ h2.objs.size := Nat.le_of_lt hn2.lt
  exact wpAny_execs_nil (hq h3 tk3 dx t1 ⟨fun b o hbx e => k3 b o hbx (old b o hbx e), hx3, Nat.le_trans z dn, dne, hn3⟩)

/-- a made error -/
structure OwnMade (h h' : Heap) (e C d : Addr) (fld : Str) (v : Value) : Prop where
  keep : ∀ b o, h.get? b = some o → h'.get? b = some o
  new : h.objs.size ≤ e
  obj : ∃ oe vs, h'.get? e = some oe ∧ oe.cls = .ref C ∧ oe.dict = some d ∧ oe.data = .fields vs ∧ vs[1]? = some .none
  dbig : h.objs.size ≤ d
  dne : d ≠ e
  ns : h'.Ns1 d (fun y => if y = fld then some v else none)
theorem own_made (T : ExTxt K mg prog w cn fld par vok C fI) {v : Value} (hvok : vok v) (X : K.In s.heap) (hlim : s.heap.NoLimit) (hg : s.heap.Ns mainGlobals mg) (hb : s.heap.Ns builtinsNs mb) (hbb : ∀ y : Str, y ≠ "__name__" → mb y = bootBuiltins y)
    (hroom : A.depth + 1 < recursionLimit) (hq : ∀ h' tk e d, OwnMade s.heap h' e C d fld v → R (.ok (.ret (.ref e))) { s with heap := h', toks := tk }) :
    codeAny (model prog w) A (.call (.ref C) ⟨[v], []⟩) R s := by
  obtain ⟨nm, q, N, bs, bm, sn, sub, ab, col, dd, k0, k1, k2, k3, k5, hC, hbm, _⟩ := T.cls
  obtain ⟨hp, g, dr, tk, os⟩ := s
  have k : ∀ b o, hp.get? b = some o → ((hp.push (kdv_tup [v])).push (excO C hp.objs.size)).get? b = some o := fun b o e => Heap.get?_push_of_some _ (Heap.get?_push_of_some _ e)
  have hget : ((hp.push (kdv_tup [v])).push (excO C hp.objs.size)).get? (hp.objs.size + 1) = some (excO C hp.objs.size) := by heap_get
  have hnx : K.lookup (hp.objs.size + 1) = none := by
    cases e : K.lookup (hp.objs.size + 1) with
    | none => rfl
    | some o =>
      have z : hp.get? (hp.objs.size + 1) = some o := X _ _ e
      exact absurd (Nat.lt_of_succ_lt (Heap.lt_size z)) (Nat.lt_irrefl _)
  refine call_own F.excBase_ValueError (fun Y => refsVE_contains Y bm hbm) (X _ _ hC) (looks_findIn X T.iC) (fun self => bind_fn X self T.tC) (one_size v) ?_
  refine own_init (s := ⟨(hp.push (kdv_tup [v])).push (excO C hp.objs.size), g, dr, tk, os⟩) T hvok (X.keeps k) (hlim.keeps k) (hg.keeps k) (hb.keeps k) hbb hget hnx ?_ fun h' tk' dx t1 ⟨k', hx, dn, dne, hns⟩ => ?_
  · show A.depth + 1 < recursionLimit
    exact hroom
  · have old : ∀ b o, hp.get? b = some o → h'.get? b = some o := fun b o e => k' b o (Nat.ne_of_lt (Nat.lt_succ_of_lt (Heap.lt_size e))) (k b o e)
    have z : hp.objs.size + 1 + 1 ≤ dx := by
      first
        | (simpa only [Heap.size_push] using dn)
        | exact dn
        | (have q := dn; rw [Heap.size_push, Heap.size_push] at q; exact q)
    exact ⟨rfl, hq h' tk' (hp.objs.size + 1) dx ⟨old, Nat.le_succ _, ⟨_, _, hx, rfl, rfl, rfl, rfl⟩, Nat.le_trans (Nat.le_trans (Nat.le_succ _) (Nat.le_succ _)) z, dne, hns⟩⟩
end
end SLX
end PySem
namespace L2
open PySem PySem.Spec PyProof.Rows
theorem relO_one {v : V} {v' : Value} {fld : Str} (r : RelV v v') (f : Str) : RelO (List.lookup f [(fld, v)]) (if f = fld then some v' else none) := by
  by_cases hw : f = fld
  · subst hw
    rw [if_pos rfl]
    have q : List.lookup f [(f, v)] = some v := by simp [List.lookup]
    rw [q]
    exact r
  · rw [if_neg hw]
    have qw : (f == fld) = false := by simpa using hw
    have q2 : List.lookup f [(fld, v)] = none := by simp [List.lookup, qw]
    rw [q2]
    trivial
section
variable {X : Cx} {C fI : Addr} {cn fld par : Str} {vok : Value → Prop}
/-- C(e), the error's own dict d new -/
def tMkEx (C : Addr) (fld : Str) (vok : Value → Prop) (ta : TA) : St → Hp → XK → Prop := fun σ H Q => ta σ H fun vs H1 => ∃ v, vs = [v] ∧ (∀ u, RelV v u → vok u) ∧ ∀ d, H1 d = none → Q (.ref C) (some d) (upd H1 d (.xd [(fld, v)]))
theorem pmk_ex {a : Expr} {ta : TA} {p pos : Pos} {k : Nat} (T : PySem.SLX.ExTxt X.K X.mg X.prog X.w cn fld par vok C fI) (hr : Room k X.A) (ha : PA X [a] ta) (hg : Gl X cn := by rfl) (hdb : (cn == ("__debug__" : Str)) = false := by decide)
    (he : starEach (a :: []) X.env = (false, eval a X.env) :: starEach [] X.env := by rfl) (hpl : (backTo pos (starEach [] X.env)).any (·.1) = false := by rfl) :
    PMk X (.Call (.Name cn p) [a] [] pos) (tMkEx C fld vok ta) := by
  intro pins s σ H Q I h
  refine wpAny_Call_Name_kw (ld_glob I hg T.gC ?_ hdb)
  refine PySem.W.callWith_K (h₀ := X.base) I.ok.mod.kin T.kC (thn (ha.run pos pins s σ H _ I h) fun us s1 hh => ?_) he hpl
  obtain ⟨vs, H1, I1, r1, v, ev, hv, q1⟩ := hh
  subst ev
  refine ⟨I1.kIn, ?_⟩
  cases r1 with
  | cons rv rn =>
    rename_i v' us'
    cases rn
    show wpAny _ _ (call (.ref C) [v']) _ _ _
    have hlim := I1.nolimit
    have hmg := I1.ok.mod.glob.keeps I1.bk
    obtain ⟨mb, hmb, hbb⟩ := I1.ok.mod.blt
    have hmb' := hmb.keeps I1.bk
    obtain ⟨hp, g, dr, tk, os⟩ := s1
    refine wpAny_call (PySem.SLX.own_made T (hv _ rv) I1.kIn hlim hmg hmb' hbb (by have := hr.dp; omega) fun h' tk' e d M => ?_)
    show MkP X pins σ Q (.ref e) ⟨h', g, dr, tk', os⟩
    obtain ⟨oe, fv, hoe, hc, hd, hdat, h1⟩ := M.obj
    have hns := M.ns
    obtain ⟨G', g1, g2⟩ := restrict h' fun b => decide (b ≠ e)
    have gk : ∀ b, b ≠ e → G'.get? b = h'.get? b := fun b hb => g1 b (decide_eq_true hb)
    have ge : G'.get? e = none := g2 e (by simp)
    have old : ∀ b o, hp.get? b = some o → G'.get? b = some o := fun b o q => (gk b (Nat.ne_of_lt (Nat.lt_of_lt_of_le (Heap.lt_size q) M.new))).trans (M.keep b o q)
    have ob : ObjOk X.prog X.w (upd H1 d (.xd [(fld, v)])) G' d (.xd [(fld, v)]) :=
      ⟨_, hns.at (fun o q => (gk d M.dne).trans q), fun f => relO_one rv f⟩
    have J : Inv X pins σ (upd H1 d (.xd [(fld, v)])) ⟨G', g, dr, tk', os⟩ := I1.laid (t' := tk') old M.dbig ob
    refine ⟨e, oe, fv, ⟨G', g, dr, tk', os⟩, _, .ref C, some d, rfl, J, fun b o q => ?_, ge, hoe, ⟨hc, hd⟩, hdat, h1, ?_, rfl, I1.bare, raises_own T.exC T.tyC, q1 d (I1.hok.fresh M.dbig)⟩
    · by_cases hb : b = e
      · have q' : G'.get? b = some o := q
        rw [hb, ge] at q'; cases q'
      · exact (gk b hb).symm.trans q
    · rw [upd_ne (Ne.symm M.dne)]
      exact I1.hok.fresh M.new
/-- raise C(e) -/
theorem ps_raiseEx {a : Expr} {ta : TA} {W : WX} {p pos pos2 : Pos} {k : Nat} (hc : X.calm = true) (T : PySem.SLX.ExTxt X.K X.mg X.prog X.w cn fld par vok C fI) (hr : Room k X.A) (tk : Takes X W) (ha : PA X [a] ta) (hg : Gl X cn := by rfl) (hdb : (cn == ("__debug__" : Str)) = false := by decide)
    (he : starEach (a :: []) X.env = (false, eval a X.env) :: starEach [] X.env := by rfl) (hpl : (backTo pos (starEach [] X.env)).any (·.1) = false := by rfl) :
    PS X (.Raise (some (.Call (.Name cn p) [a] [] pos)) none pos2) (fun _ σ H => tMkEx C fld vok ta σ H fun cls d H' => W cls d σ H') := ps_raise hc tk (pmk_ex T hr ha hg hdb he hpl)
/-- e.fld, e the error that the suite holds (at a; its class cls, its dict d) -/
def tExF (C : Addr) (fld : Str) (a : Addr) (cls : Value) (d : Option Addr) (te : TE) : TE := fun σ H Q => te σ H fun x H1 => x = .ref a ∧ cls = .ref C ∧ ∃ (dd : Addr) (v : V), d = some dd ∧ H1 dd = some (.xd [(fld, v)]) ∧ Q v H1
theorem pe_exf {a : Addr} {oe : Obj} {cls : Value} {d : Option Addr} {pn : List (Addr × Obj)} {e : Expr} {te : TE} {pos : Pos} (T : PySem.SLX.ExTxt X.K X.mg X.prog X.w cn fld par vok C fI) (hz : Zc cls d oe) (hf : ∃ vs, oe.data = .fields vs) (he : PE (X.suite a ((a, oe) :: pn)) e te)
    (hb : attributeBase e fld X.env (eval e X.env) = eval e X.env := by rfl) :
    PE (X.suite a ((a, oe) :: pn)) (.Attribute e fld pos) (tExF C fld a cls d te) := by
  refine ⟨fun pins s σ H Q I h => ?_⟩
  refine attr_of hb (thn (he.run pins s σ H _ I h) fun u s1 hh => ?_)
  obtain ⟨x, H1, I1, rx, ex, ec, dd, v, ed, ea, q⟩ := hh
  subst ex
  obtain rfl : u = Value.ref a := rx
  subst ec
  subst ed
  obtain ⟨ha, _⟩ := I1.pin (a, oe) (List.mem_append_left _ List.mem_cons_self)
  obtain ⟨vs, hd⟩ := hf
  have hx : ObjOk X.prog X.w H1 s1.heap dd (.xd [(fld, v)]) := I1.hok dd _ ea
  obtain ⟨mA, hns, hr⟩ := hx
  obtain ⟨od, ho, hl⟩ := lookIn_ns hns
  have l : List.lookup fld [(fld, v)] = some v := by simp [List.lookup]
  obtain ⟨u, hu, ru⟩ := RelO.some_of (v := v) (o := mA fld) (by rw [← l]; exact hr fld)
  have J : PySem.W.InstAt s1.heap a oe C (some od) := ⟨ha, hz.1, by unfold PySem.W.notCls; rw [hd] <;> rfl, by rw [hz.2]; exact ho⟩
  exact HandSPX.exc_get I1.kIn J T.ga T.gg T.exC (PySem.W.findObj_own T.hdC T.noN rfl (by rw [hl, hu])) (handed_of ru) ⟨v, H1, I1.tok _, ru, q⟩
end

/-! ### several except clauses, some with a name -/
abbrev Clause := Value × Option Nat × (Addr → Value → Option Addr → TS)
def unnamed (i : Nat) (D : Ends) : Ends := { nx := fun σ' H' => D.nx (σ'.set i none) H', rt := D.rt, bk := fun σ' H' => D.bk (σ'.set i none) H', ct := fun σ' H' => D.ct (σ'.set i none) H' }
/-- what the clauses wish of an exception of the body, one after the other -/
def wClauses (K : PySem.W.Frag) (Wout : WX) (D : Ends) : List Clause → WX
  | [] => Wout
  | (c, none, ts) :: r => fun cls d σ H => ∃ b, PySem.W.exmOne K cls c = some b ∧ (b = true → ∀ a, H a = none → ts a cls d D σ H) ∧ (b = false → wClauses K Wout D r cls d σ H)
  | (c, some i, ts) :: r => fun cls d σ H => ∃ b, PySem.W.exmOne K cls c = some b ∧ (b = true → ∀ a, H a = none → ts a cls d (unnamed i D) (σ.set i (some (.ref a))) H) ∧ (b = false → wClauses K Wout D r cls d σ H)
inductive ClausesOk (X : Cx) : List ExceptHandler → List Clause → Prop
  | nil : ClausesOk X [] []
  | only {x : Str} {c : Value} {ts : Addr → Value → Option Addr → TS} {b₀ : Stmt} {suite : List Stmt} {np pos' : Pos} {hds : List ExceptHandler} {l : List Clause} (hc : Names X x c)
      (hsu : ∀ (a : Addr) (oe : Obj) (cls : Value) (d : Option Addr) (pn : List (Addr × Obj)), Zc cls d oe → (∃ vs, oe.data = .fields vs) → PSs (X.suite a ((a, oe) :: pn)) (b₀ :: suite) (ts a cls d)) (r : ClausesOk X hds l) :
      ClausesOk X (.ExceptHandler (some (.Name x np)) none (b₀ :: suite) pos' :: hds) ((c, none, ts) :: l)
  | named {x n : Str} {i : Nat} {c : Value} {ts : Addr → Value → Option Addr → TS} {b₀ : Stmt} {suite : List Stmt} {np pos' : Pos} {hds : List ExceptHandler} {l : List Clause} (hi : X.N[i]? = some n) (hln : X.env.kindOf n = some .local) (hc : Names X x c)
      (hsu : ∀ (a : Addr) (oe : Obj) (cls : Value) (d : Option Addr) (pn : List (Addr × Obj)), Zc cls d oe → (∃ vs, oe.data = .fields vs) → PSs (X.suite a ((a, oe) :: pn)) (b₀ :: suite) (ts a cls d)) (r : ClausesOk X hds l) :
      ClausesOk X (.ExceptHandler (some (.Name x np)) (some n) (b₀ :: suite) pos' :: hds) ((c, some i, ts) :: l)
section
variable {X : Cx} {body : List Stmt} {h₀ : ExceptHandler} {hds : List ExceptHandler} {l : List Clause} {pos : Pos} {tb : WX → TS} {Wout : WX}
/-- how a suite's end is an end of the statement, where no name is to be undone -/
theorem suite_end {pins : List (Addr × Obj)} {D : Ends} {a : Addr} {q : Addr × Obj} {f : Flow} {s : Shared} (ok : X.Ok) (h : SP (X.suite a (q :: (X.pn ++ pins))) [] D f s) : SP X pins D f s := by
  cases f with
  | ret u =>
    obtain ⟨v, σ', H', S, r, g⟩ := h
    exact ⟨v, σ', H', S.unsuite ok, r, g⟩
  | next =>
    obtain ⟨σ', H', S, g⟩ := h
    exact ⟨σ', H', S.unsuite ok, g⟩
  | brk =>
    obtain ⟨σ', H', S, g⟩ := h
    exact ⟨σ', H', S.unsuite ok, g⟩
  | cont =>
    obtain ⟨σ', H', S, g⟩ := h
    exact ⟨σ', H', S.unsuite ok, g⟩
theorem try_end {pins pn' : List (Addr × Obj)} {D : Ends} {xe : Value → Shared → Prop} {f : Flow} {s : Shared} (ok : X.Ok) (h : SP (X.tr (X.pn ++ pins) xe) pn' D f s) : SP X pins D f s := by
  cases f with
  | ret u =>
    obtain ⟨v, σ', H', S, r, g⟩ := h
    exact ⟨v, σ', H', S.ofTry ok, r, g⟩
  | next =>
    obtain ⟨σ', H', S, g⟩ := h
    exact ⟨σ', H', S.ofTry ok, g⟩
  | brk =>
    obtain ⟨σ', H', S, g⟩ := h
    exact ⟨σ', H', S.ofTry ok, g⟩
  | cont =>
    obtain ⟨σ', H', S, g⟩ := h
    exact ⟨σ', H', S.ofTry ok, g⟩
/-- the statement: X is a def's own frame -/
theorem ps_clauses (hs : X.stack = X.env :: X.outer) (hf : X.env.frame = some X.env.locals) (hN : X.N.Nodup) (tk : Takes X Wout)
    (hb : ∀ (W : WX) (pn : List (Addr × Obj)) (xe : Value → Shared → Prop), Takes (X.tr pn xe) W → PassesOwn (model X.prog X.w) X.A X.env xe → PSs (X.tr pn xe) body (tb W))
    (hh : ClausesOk X (h₀ :: hds) l) : PS X (.Try body (h₀ :: hds) [] [] pos) (fun D σ H => tb (wClauses X.K Wout D l) D σ H) := by
  refine ⟨fun pins s σ H D I h => ?_⟩
  have ok := I.ok
  have hfr : X.A.frames = some (X.env :: X.outer) := by rw [ok.frames, hs]
  have body_run := (hb (wClauses X.K Wout D l) (X.pn ++ pins) (fun e s₁ => wpAny (model X.prog X.w) X.A (noteFrame e X.env) (fun _ s₂ => wpAny (model X.prog X.w) X.A (setFlight e none) (fun _ s₃ => wpAny (model X.prog X.w) X.A (handleBy e X.env (h₀ :: hds)) (SP X pins D) X.xe s₃) X.xe s₂) X.xe s₁)
    (fun u s' air => ?_) PassesOwn.looking).run [] s σ H D (I.toTry _) h
  · refine wpAny_Try_except (wpAny_mono body_run (fun f s1 hsp => ?_) fun e s1 he => he)
    have z := try_end ok hsp
    cases f with
    | next =>
      obtain ⟨σ', H', J, q⟩ := z
      exact wpAny_execs_nil ⟨σ', H', J, q⟩
    | brk => exact z
    | cont => exact z
    | ret u => exact z
  · obtain ⟨a, B, sI, pins', σ', H', cls, d, rfl, J', nb, up, sky, na, os, ag, wish⟩ := air
    have J : Inv X pins σ' H' sI := J'.ofTry ok
    rw [show (X.tr (X.pn ++ pins) _).stack = X.env :: X.outer from hs] at sky
    refine Sky.land Zc.steady hfr hf sky fun h3 fl3 up3 => ?_
    have J3 : Inv X pins σ' H' { s' with heap := h3 } := J.landed nb fl3.1 (up.trans up3) os ag
    obtain ⟨oe3, vs3, he3, hz3, hd3⟩ := fl3.there
    have out : a ∉ frs (X.env :: X.outer) := fun hm => by
      obtain ⟨_, o', e', hnf⟩ := fl3.2.2.1.mem hm
      rw [he3] at e'
      cases e'
      exact hnf _ hd3
    have nL : a ≠ X.env.locals := fun z => out (List.mem_filterMap.mpr ⟨X.env, List.mem_cons_self, by rw [hf, z]⟩)
    have nF : a ∉ X.fs := fun hm => by
      obtain ⟨e, he, q⟩ := List.mem_filterMap.mp hm
      exact out (List.mem_filterMap.mpr ⟨e, List.mem_cons_of_mem _ he, q⟩)
    have S3 := J3.suite he3 hd3 na nL nF
    have LT : PySem.W.Looks (model X.prog X.w) h3 (typeOf (.ref a)) cls := fun A Q E s k q => wpAny_typeOf_ref (k _ _ he3) (by rw [hz3.1]; exact q)
    have name : ∀ {x : Str} {c : Value} {np : Pos} {Q E : Value → Shared → Prop}, Names X x c → Q c { s' with heap := h3 } → wpAny (model X.prog X.w) (X.A.mark (some (.ref a))) (eval (.Name x np) X.env) Q E { s' with heap := h3 } := fun {x c np Q E} hc q => by
      obtain ⟨hg, hdbg, hm | ⟨hm, hv, hnn⟩⟩ := hc
      · exact ld_glob (X := X.suite a ((a, oe3) :: (X.pn ++ pins))) S3 hg hm q hdbg
      · exact ld_blt (X := X.suite a ((a, oe3) :: (X.pn ++ pins))) S3 hg hm hv q hnn hdbg
    have go : ∀ {hds' : List ExceptHandler} {l' : List Clause}, ClausesOk X hds' l' → wClauses X.K Wout D l' cls d σ' H' → wpAny (model X.prog X.w) X.A (handleBy (.ref a) X.env hds') (SP X pins D) X.xe { s' with heap := h3 } := by
      intro hds' l' hk
      induction hk with
      | nil =>
        intro wsh
        have w0 : Wout cls d σ' H' := wsh
        refine wpAny_handleBy_nil ?_
        obtain ⟨k1, k2, k3, oe, vs, T, oT, ts', he, hz, hd, h1, hr⟩ := id fl3
        have fin : wpAny (model X.prog X.w) X.A (setFlight (.ref a) X.env.frame) (fun _ s4 => wpAny (model X.prog X.w) X.A (throw (.ref a) : Sem Flow) (SP X pins D) X.xe s4) X.xe { s' with heap := h3 } := by
          rw [hf]
          refine HandSPX.setFlight_upZ fl3 fun h4 hh4 up4 => wpAny_throw (tk _ _ ⟨a, B, sI, pins, σ', H', cls, d, rfl, J, nb, (up.trans up3).trans up4, .inr (.inr (by rw [hs]; exact hh4)), na, os, ag, w0⟩)
        unfold PySem.passOn
        refine wpAny_bind (wpAny_field he hd h1 ?_)
        rw [if_neg (show ¬ ((Value.ref T == Value.none) = true) from by simp)]
        first
          | exact wpAny_bind (wpAny_pure (wpAny_bind fin))
          | exact wpAny_bind fin
      | only hc hsu r ih =>
        rintro ⟨b, hb1, hyes, hno⟩
        refine wpAny_handleBy_cons (codeAny_handlers_test (name hc ((PySem.W.exm_one (M := model X.prog X.w) J3.kIn LT hb1).here ?_))) (by intro q; cases q)
        cases b with
        | false => exact ih (hno rfl)
        | true =>
          refine codeAny_handlers_suite (HandSPX.lands_againZ fl3 fun h4 fl4 up4 => ?_)
          have J4 : Inv X pins σ' H' { s' with heap := h4 } := J.landed nb fl4.1 ((up.trans up3).trans up4) os ag
          obtain ⟨oe4, vs4, he4, hz4, hd4⟩ := fl4.there
          exact wpAny_mono ((hsu a oe4 cls d (X.pn ++ pins) hz4 ⟨_, hd4⟩).run [] _ _ H' _ (J4.suite he4 hd4 na nL nF) (hyes rfl a na)) (fun f s6 hsp => suite_end ok hsp) fun _ _ z => False.elim z
      | @named x n i c ts b₀ suite np pos' hds2 l2 hi hln hc hsu r ih =>
        rintro ⟨b, hb1, hyes, hno⟩
        refine wpAny_handleBy_cons (codeAny_handlers_test (name hc ((PySem.W.exm_one (M := model X.prog X.w) J3.kIn LT hb1).here ?_))) (by intro q; cases q)
        cases b with
        | false => exact ih (hno rfl)
        | true =>
          refine codeAny_handlers_suite_as (HandSPX.lands_againZ fl3 fun h4 fl4 up4 => ?_)
          have J4 : Inv X pins σ' H' { s' with heap := h4 } := J.landed nb fl4.1 ((up.trans up3).trans up4) os ag
          obtain ⟨oe4, vs4, he4, hz4, hd4⟩ := fl4.there
          refine store_ok (X := X.suite a ((a, oe4) :: (X.pn ++ pins))) (v := .ref a) (J4.suite he4 hd4 na nL nF) hN hi (.inl hln) rfl (fun s5 S5 => ?_) (.inr hln)
          refine wpAny_mono ((hsu a oe4 cls d (X.pn ++ pins) hz4 ⟨_, hd4⟩).run [] s5 _ H' _ S5 (hyes rfl a na)) (fun f s6 hsp => ?_) fun _ _ z => False.elim z
          have undo : ∀ {σ6 : St} {H6 : Hp} {Q : Shared → Prop}, Inv (X.suite a ((a, oe4) :: (X.pn ++ pins))) [] σ6 H6 s6 → (∀ s7, Inv X pins (σ6.set i none) H6 s7 → Q s7) →
            wpAny (model X.prog X.w) X.A (do bindName X.env n .none; unbindBehindTheSuite X.env n pos') (fun _ s7 => Q s7) X.xe s6 := fun {σ6 H6 Q} S6 hq => gone_ok (S6.unsuite ok) hN hi hln hq
          cases f with
          | ret u =>
            obtain ⟨v6, σ6, H6, S6, r6, q6⟩ := hsp
            exact undo S6 fun s7 J7 => ⟨_, _, _, J7, r6, q6⟩
          | next =>
            obtain ⟨σ6, H6, S6, q6⟩ := hsp
            exact undo S6 fun s7 J7 => ⟨_, _, J7, q6⟩
          | brk =>
            obtain ⟨σ6, H6, S6, q6⟩ := hsp
            exact undo S6 fun s7 J7 => ⟨_, _, J7, q6⟩
          | cont =>
            obtain ⟨σ6, H6, S6, q6⟩ := hsp
            exact undo S6 fun s7 J7 => ⟨_, _, J7, q6⟩
    exact go hh wish
end
end L2
/-! What the laws of this program share: kinds of values, heaps, calls of a def by its name. -/
namespace SL
open PySem PySem.Spec PyProof.Rows L2
/-! ### kinds -/
inductive Knw (K : PySem.W.Frag) (H : Hp) : V → String → Prop
  | non : Knw K H .non "NoneType"
  | bl (b : Bool) : Knw K H (.bl b) "bool"
  | int (i : Int) : Knw K H (.int i) "int"
  | str (x : Str) : Knw K H (.str x) "str"
  | lst {a : Addr} {xs : List V} (h : SqL K H a xs) : Knw K H (.ref a) "list"
  | tup {a : Addr} {xs : List V} (h : SqT K H a xs) : Knw K H (.ref a) "tuple"
  | dic {a : Addr} {kvs : List (Key × V)} (h : H a = some (.dK kvs)) : Knw K H (.ref a) "dict"
theorem Same.seqT {K : PySem.W.Frag} {H H' : Hp} {a : Addr} {xs : List V} (e : Same H H') (h : SqT K H a xs) : SqT K H' a xs := by
  rcases h with (h | ⟨o, h⟩) | h
  · exact .inl (.inl (e _ _ h))
  · exact .inl (.inr ⟨o, e _ _ h⟩)
  · exact .inr h
section
variable {K : PySem.W.Frag} {H H' : Hp} {x : V} {T : String}
theorem Knw.ty (h : Knw K H x T) : TyX K H x (.type T) := by
  cases h with
  | non => exact .base .non
  | bl b => exact .base (.bl b)
  | int i => exact .base (.int i)
  | str s => exact .base (.str s)
  | lst h =>
    rcases h with (h | ⟨o, h⟩) | ⟨o, its, n, h, c, _⟩
    · exact .base (.lst h)
    · exact .base (.frz h)
    · exact .kList h c
  | tup h =>
    rcases h with (h | ⟨o, h⟩) | ⟨o, its, n, h, c, _⟩
    · exact .base (.tup h)
    · exact .fTuple h
    · exact .kTuple h c
  | dic h => exact .base (.dK h)
theorem Knw.same (s : Same H H') (h : Knw K H x T) : Knw K H' x T := by
  cases h with
  | non => exact .non
  | bl b => exact .bl b
  | int i => exact .int i
  | str z => exact .str z
  | lst h => exact .lst (s.seq h)
  | tup h => exact .tup (Same.seqT s h)
  | dic h => exact .dic (s _ _ h)
end
theorem kit_is {K : PySem.W.Frag} {a b : String} {r : Bool} (h : kitB a b = some r) : PySem.W.kitOne K (.type a) (.type b) = some r := kit_ty h
/-- isinstance against int, bool, list, tuple, str: of the seven kinds -/
def kinds : List String := ["NoneType", "bool", "int", "str", "list", "tuple", "dict"]
theorem Knw.mem {K : PySem.W.Frag} {H : Hp} {x : V} {T : String} (h : Knw K H x T) : T ∈ kinds := by cases h <;> decide
theorem kit_int {K : PySem.W.Frag} {T : String} (h : T ∈ kinds) : PySem.W.kitOne K (.type T) (.type "int") = some (decide (T = "int" ∨ T = "bool")) := by
  simp only [kinds, List.mem_cons, List.not_mem_nil, or_false] at h
  rcases h with rfl | rfl | rfl | rfl | rfl | rfl | rfl <;> exact kit_ty (by decide +kernel)
theorem kit_bool {K : PySem.W.Frag} {T : String} (h : T ∈ kinds) : PySem.W.kitOne K (.type T) (.type "bool") = some (decide (T = "bool")) := by
  simp only [kinds, List.mem_cons, List.not_mem_nil, or_false] at h
  rcases h with rfl | rfl | rfl | rfl | rfl | rfl | rfl <;> exact kit_ty (by decide +kernel)
theorem kit_str {K : PySem.W.Frag} {T : String} (h : T ∈ kinds) : PySem.W.kitOne K (.type T) (.type "str") = some (decide (T = "str")) := by
  simp only [kinds, List.mem_cons, List.not_mem_nil, or_false] at h
  rcases h with rfl | rfl | rfl | rfl | rfl | rfl | rfl <;> exact kit_ty (by decide +kernel)
theorem kit_list {K : PySem.W.Frag} {T : String} (h : T ∈ kinds) : PySem.W.kitOne K (.type T) (.type "list") = some (decide (T = "list")) := by
  simp only [kinds, List.mem_cons, List.not_mem_nil, or_false] at h
  rcases h with rfl | rfl | rfl | rfl | rfl | rfl | rfl <;> exact kit_ty (by decide +kernel)
theorem kit_tuple {K : PySem.W.Frag} {T : String} (h : T ∈ kinds) : PySem.W.kitOne K (.type T) (.type "tuple") = some (decide (T = "tuple")) := by
  simp only [kinds, List.mem_cons, List.not_mem_nil, or_false] at h
  rcases h with rfl | rfl | rfl | rfl | rfl | rfl | rfl <;> exact kit_ty (by decide +kernel)
theorem lineN {n : Nat} (h : n ≤ 100000) : n < sizeLine := Nat.lt_of_le_of_lt h (by rw [sizeLine_eq]; decide)
theorem few {n : Nat} (h : n ≤ 1000) : n ≤ sizeLine := Nat.le_trans h (by rw [sizeLine_eq]; decide)
theorem pos_i {n : Int} (h : decide (0 < n) = true) : 0 < n := of_decide_eq_true h
theorem iteV {A B : Prop} {x y : V} (h : x ≠ y) (k : B) : if decide (x = y) = true then A else B := by rw [decide_eq_false h]; exact iteF k
theorem iteS {A B : Prop} {x y : String} (h : decide (x = y) = false) (k : B) : if decide (x = y) = true then A else B := by rw [h]; exact iteF k
theorem iteU {A B : Prop} {c : Prop} [Decidable c] (h : c) (k : A) : if decide c = true then A else B := by rw [decide_eq_true h]; exact iteT k
theorem iteW {A B : Prop} {c : Prop} [Decidable c] (h : ¬ c) (k : B) : if decide c = true then A else B := by rw [decide_eq_false h]; exact iteF k
theorem lc_yes {A B : Hp → Prop} {σ : L2.St} {H : Hp} (h : A H) : tYes σ H (fun b H3 => if b = true then A H3 else B H3) := (iteT h : if true = true then A H else B H)
/-! ### the rules with the written part told (for blocks) -/
section
variable {X : Cx}
theorem sl_tupK (K : PySem.W.Frag) (h : X.K = K := by rfl) : SlR X (rSlA K) := by subst h; exact sl_tupA
theorem sl_listK (K : PySem.W.Frag) (h : X.K = K := by rfl) : SlR X (rSlL K) := by subst h; exact sl_list
theorem ix_listK (K : PySem.W.Frag) (h : X.K = K := by rfl) : IxR X (rIxL K) := by subst h; exact ix_list
theorem ix_tupK (K : PySem.W.Frag) (h : X.K = K := by rfl) : IxR X (rIxT K) := by subst h; exact ix_tup
theorem ix_seqK (K : PySem.W.Frag) (h : X.K = K := by rfl) : IxR X (rIx K) := by subst h; exact ix_seq
theorem call_isiK' (K : PySem.W.Frag) (h : X.K = K := by rfl) : CallR X (.builtin "isinstance") (rIsi K) := by subst h; exact call_isi
theorem call_lenK (K : PySem.W.Frag) (h : X.K = K := by rfl) : CallR X (.builtin "len") (fun xs H Q => ∃ p ys, xs = [.ref p] ∧ (SqL K H p ys ∨ SqT K H p ys) ∧ Q (.int ys.length) H) := by subst h; exact call_len_seq
theorem call_tupleK (K : PySem.W.Frag) (h : X.K = K := by rfl) : CallR X (.type "tuple") (fun xs H Q => ∃ p ys, xs = [.ref p] ∧ ((SqL K H p ys ∧ ∀ l, H l = none → Q (.ref l) (upd H l (.tup ys))) ∨ (SqT K H p ys ∧ Q (.ref p) H))) := by subst h; exact call_tuple_of
theorem op_catK (K : PySem.W.Frag) (h : X.K = K := by rfl) : OpR X (binaryOp .Add) (rCatA K) := by subst h; exact op_catA
end
/-! ### heaps -/
theorem same_upd {H : Hp} {p : Addr} {o : HO} (h : H p = none) : Same H (upd H p o) := fun b x e => by
  rw [upd_ne (ne_of_none e h)]
  exact e
/-- the heap without what stands at p -/
def off (H : Hp) (p : Addr) : Hp := fun b => if b = p then none else H b
theorem off_same (H : Hp) (p : Addr) : Same (off H p) H := fun b o e => by
  unfold off at e
  split at e
  · cases e
  · exact e
theorem off_at {H : Hp} {p : Addr} : off H p p = none := if_pos rfl
theorem off_ne {H : Hp} {p b : Addr} (h : b ≠ p) : off H p b = H b := if_neg h
theorem off_mono {H H' : Hp} {p : Addr} (s : Same H H') : Same (off H p) (off H' p) := fun b o e => by
  unfold off at e ⊢
  split at e
  · cases e
  · rename_i h
    rw [if_neg h]
    exact s _ _ e
theorem off_upd {H : Hp} {p : Addr} {o : HO} : Same (off H p) (off (upd H p o) p) := fun b u e => by
  unfold off at e ⊢
  split at e
  · cases e
  · rename_i h
    rw [if_neg h, upd_ne h]
    exact e
/-- what was said of the rest stays true whatever is stored at p -/
theorem off_put {H : Hp} {p : Addr} {o : HO} : Same (off H p) (upd H p o) := fun b u e => by
  unfold off at e
  split at e
  · cases e
  · rename_i h
    rw [upd_ne h]
    exact e
theorem off_of {H H' : Hp} {p : Addr} (s : Same H H') (n : H p = none) : Same H (off H' p) := fun b o e => by
  rw [off_ne (ne_of_none e n)]
  exact s _ _ e
/-- what stood at b stands there, if b is not p -/
theorem off_get {H H' : Hp} {p b : Addr} {o : HO} (s : Same (off H p) (off H' p)) (n : b ≠ p) (e : H b = some o) : H' b = some o := by
  have z := s b o (by rw [off_ne n]; exact e)
  rw [off_ne n] at z
  exact z
/-! ### sums and slices of tuples, whatever they reuse -/
section
variable {X : Cx}
def rCatU (K : PySem.W.Frag) : R2 := fun x y H Q => ∃ a b xs ys, x = .ref a ∧ y = .ref b ∧ SqT K H a xs ∧ SqT K H b ys ∧ xs.length + ys.length ≤ 100000 ∧ ∀ c H', Same H H' → SqT K H' c (xs ++ ys) → Q (.ref c) H'
theorem op_catU (K : PySem.W.Frag) (h : X.K = K := by rfl) : OpR X (binaryOp .Add) (rCatU K) := by
  subst h
  intro pins s σ H x y v u Q I rx ry z
  obtain ⟨a, b, xs, ys, e1, e2, ha, hb, hz, q⟩ := z
  refine op_catA pins s σ H x y v u Q I rx ry ⟨a, b, xs, ys, e1, e2, ha, hb, Nat.le_of_lt (lineN hz), fun e => ?_, fun _ e => ?_, fun _ _ p np => ?_⟩
  · subst e
    exact q b H (Same.refl H) hb
  · subst e
    exact q a H (Same.refl H) (by rw [List.append_nil]; exact ha)
  · exact q p _ (same_upd np) (SqT.of upd_same)
def rSlU (K : PySem.W.Frag) : V → Option Int → Option Int → Hp → VK → Prop := fun x lo hi H Q => ∃ a xs, x = .ref a ∧ SqT K H a xs ∧ ∀ c H', Same H H' → SqT K H' c (cutV xs lo hi) → Q (.ref c) H'
theorem sl_tupU (K : PySem.W.Frag) (h : X.K = K := by rfl) : SlR X (rSlU K) := by
  subst h
  intro pins s σ H x v vl vu lo hi sl Q I rx hs pl pu z
  obtain ⟨a, xs, e, hx, q⟩ := z
  refine sl_tupA pins s σ H x v vl vu lo hi sl Q I rx hs pl pu ⟨a, xs, e, hx, fun w => q a H (Same.refl H) ?_, fun _ p np => q p _ (same_upd np) (SqT.of upd_same)⟩
  unfold cutV
  rw [w.1, w.2, List.drop_zero, Nat.sub_zero, List.take_length]
  exact hx
end
theorem Tups.get {K : PySem.W.Frag} {H : Hp} : ∀ {vs : List V} {cs : List (List V)} {i : Nat} {v : V}, Paired (fun v c => ∃ a, v = V.ref a ∧ SqT K H a c) vs cs → vs[i]? = some v → ∃ c b, cs[i]? = some c ∧ v = .ref b ∧ SqT K H b c
  | _, _, _, _, .nil, h => by simp at h
  | _, _, 0, v, .cons (b := c) h _, e => by
    simp at e
    subst e
    obtain ⟨b, e1, e2⟩ := h
    exact ⟨c, b, rfl, e1, e2⟩
  | _, _, i + 1, v, .cons _ t, e => by
    obtain ⟨c, b, h1, h2, h3⟩ := Tups.get (i := i) t (by simpa using e)
    exact ⟨c, b, by simpa using h1, h2, h3⟩
/-! ### data -/
mutual
theorem Dp.same {K : PySem.W.Frag} {H H' : Hp} (s : Same H H') : ∀ {v : V} {d : PyData}, Dp K H v d → Dp K H' v d
  | _, _, .non => .non
  | _, _, .bl b => .bl b
  | _, _, .int i => .int i
  | _, _, .str x => .str x
  | _, _, .lst h a => .lst (s.seq h) (DpAll.same s a)
  | _, _, .tup h a => .tup (Same.seqT s h) (DpAll.same s a)
theorem DpAll.same {K : PySem.W.Frag} {H H' : Hp} (s : Same H H') : ∀ {vs : List V} {ds : List PyData}, DpAll K H vs ds → DpAll K H' vs ds
  | _, _, .nil => .nil
  | _, _, .cons h t => .cons (Dp.same s h) (DpAll.same s t)
end
theorem DpAll.ints {K : PySem.W.Frag} {H : Hp} : ∀ ns : List Int, DpAll K H (ns.map V.int) (ns.map PyData.int)
  | [] => .nil
  | n :: r => .cons (.int n) (DpAll.ints r)
theorem DpAll.length {K : PySem.W.Frag} {H : Hp} : ∀ {vs : List V} {ds : List PyData}, DpAll K H vs ds → vs.length = ds.length
  | _, _, .nil => rfl
  | _, _, .cons _ t => congrArg (· + 1) (DpAll.length t)
theorem DpAll.get {K : PySem.W.Frag} {H : Hp} : ∀ {vs : List V} {ds : List PyData} {i : Nat} {d : PyData}, DpAll K H vs ds → ds[i]? = some d → ∃ v, vs[i]? = some v ∧ Dp K H v d
  | _, _, _, _, .nil, h => by simp at h
  | _, _, 0, _, .cons h _, e => by
    simp at e
    subst e
    exact ⟨_, rfl, h⟩
  | _, _, i + 1, _, .cons _ t, e => by
    obtain ⟨v, h1, h2⟩ := DpAll.get (i := i) t (by simpa using e)
    exact ⟨v, by simpa using h1, h2⟩
theorem DpAll.append {K : PySem.W.Frag} {H : Hp} {ws : List V} {es : List PyData} (b : DpAll K H ws es) : ∀ {vs : List V} {ds : List PyData}, DpAll K H vs ds → DpAll K H (vs ++ ws) (ds ++ es)
  | _, _, .nil => b
  | _, _, .cons h t => .cons h (DpAll.append b t)
mutual
/-- no dict in it, not too deep -/
def plainD : Nat → PyData → Bool
  | _, .none => true
  | _, .bool _ => true
  | _, .int _ => true
  | _, .str _ => true
  | 0, .list _ => false
  | 0, .tuple _ => false
  | n + 1, .list ds => decide (ds.length ≤ 100000) && plainDs n ds
  | n + 1, .tuple ds => decide (ds.length ≤ 100000) && plainDs n ds
  | _, .dict _ => false
def plainDs : Nat → List PyData → Bool
  | _, [] => true
  | n, d :: ds => plainD n d && plainDs n ds
end
theorem plainDs_get : ∀ {n : Nat} {ds : List PyData} {i : Nat} {d : PyData}, plainDs n ds = true → ds[i]? = some d → plainD n d = true
  | _, [], _, _, _, h => by simp at h
  | n, e :: r, 0, d, h, q => by
    simp at q
    subst q
    have h' : (plainD n e && plainDs n r) = true := by simpa [plainDs] using h
    exact (Bool.and_eq_true_iff.mp h').1
  | n, e :: r, i + 1, d, h, q => by
    have h' : (plainD n e && plainDs n r) = true := by simpa [plainDs] using h
    exact plainDs_get (i := i) (Bool.and_eq_true_iff.mp h').2 (by simpa using q)
theorem plainDs_all {n : Nat} : ∀ {ds : List PyData}, (∀ d ∈ ds, plainD n d = true) → plainDs n ds = true
  | [], _ => by simp [plainDs]
  | d :: r, h => by
    have h1 := h d (List.mem_cons_self ..)
    have h2 := plainDs_all (ds := r) fun e he => h e (List.mem_cons_of_mem _ he)
    simp [plainDs, h1, h2]
theorem Dp.boxlst {K : PySem.W.Frag} {H H' : Hp} {a : Addr} {xs : List V} (s : Same H H') (h : SqL K H a xs) : SqL K H' a xs := s.seq h
theorem Dp.boxtup {K : PySem.W.Frag} {H H' : Hp} {a : Addr} {xs : List V} (s : Same H H') (h : SqT K H a xs) : SqT K H' a xs := Same.seqT s h
/-- the kind of a value that stands for such data -/
theorem Dp.knw {K : PySem.W.Frag} {H : Hp} {v : V} {d : PyData} (h : Dp K H v d) : ∃ T, Knw K H v T := by
  cases h with
  | non => exact ⟨_, .non⟩
  | bl b => exact ⟨_, .bl b⟩
  | int i => exact ⟨_, .int i⟩
  | str x => exact ⟨_, .str x⟩
  | lst h _ => exact ⟨_, .lst h⟩
  | tup h _ => exact ⟨_, .tup h⟩
/-! ### ranges with a step, chunks -/
theorem rgc_chunks {n w : Nat} (h1 : 1 ≤ w) (h6 : w ≤ 6) (hn : n * w ≤ 100000) : RgC 0 ((n * w : Nat) : Int) (w : Int) n := by
  have c : w = 1 ∨ w = 2 ∨ w = 3 ∨ w = 4 ∨ w = 5 ∨ w = 6 := by omega
  have size : Builtin.Range.rangeSize 0 ((n * w : Nat) : Int) (w : Int) = (n : Int) := by
    unfold Builtin.Range.rangeSize
    rcases c with rfl | rfl | rfl | rfl | rfl | rfl <;> (rw [if_pos (by decide)]; split <;> omega)
  have fit : ∀ x : Int, -1000000 ≤ x → x ≤ 1000000 → Builtin.Range.rangeFitsLong x = true := fun x l u => by
    unfold Builtin.Range.rangeFitsLong
    rw [decide_eq_true (by omega : (-2 ^ 63 : Int) ≤ x), decide_eq_true (by omega : x < 2 ^ 63)]
    rfl
  have big : n ≤ n * w := Nat.le_mul_of_pos_right n (by omega)
  refine ⟨by omega, by omega, ?_, size⟩
  unfold Builtin.Range.small
  rw [size, if_pos (by omega : (w : Int) > 0), fit 0 (by omega) (by omega), fit ((n * w : Nat) : Int) (by omega) (by omega), fit (w : Int) (by omega) (by omega), fit (n : Int) (by omega) (by omega), fit (((n * w : Nat) : Int) + ((w : Int) - 1)) (by omega) (by omega), Bool.or_true]
  rfl
/-- a comprehension over a range with a step -/
theorem lc_rangeC {lo c : Int} {n : Nat} {g : TG} {tt : TT} {te : TE} {vs : List Nat} {σ : L2.St} {H1 : Hp} {D : Addr} {Qd : Hp → Prop} (Pv : Nat → Hp → Prop) (h0 : Pv 0 (upd H1 D (.lst [])))
    (hs : ∀ i H, i < n → Pv i H → g (.int (lo + (i : Nat) * c)) (wipe σ vs) H fun σ2 H2 => wipe σ2 vs = wipe σ vs ∧ tt σ2 H2 fun b H3 => if b = true then te σ2 H3 fun y H4 => ∃ acc, H4 D = some (.lst acc) ∧ acc.length < sizeLine ∧ Pv (i + 1) (upd H4 D (.lst (acc ++ [y]))) else Pv (i + 1) H3)
    (hd : ∀ H, Pv n H → Qd H) : ∃ W : Nat → Nat → Hp → Prop, (∃ m, W 0 m (upd H1 D (.lst []))) ∧ ∀ i m H, W i m H → ((Itc lo c n).stop i H ∧ Qd H) ∨ ((Itc lo c n).go i H ∧ ∃ Nx : Hp → Prop, (∀ H', Nx H' → ∃ m', m' < m ∧ W (i + 1) m' H') ∧
      ∀ x H', (Itc lo c n).yld i H x H' → g x (wipe σ vs) H' fun σ2 H2 => wipe σ2 vs = wipe σ vs ∧ tt σ2 H2 fun b H3 => if b = true then te σ2 H3 fun y H4 => ∃ acc, H4 D = some (.lst acc) ∧ acc.length < sizeLine ∧ Nx (upd H4 D (.lst (acc ++ [y]))) else Nx H3) := by
  refine ⟨fun i m H => m = n - i ∧ i ≤ n ∧ Pv i H, ⟨n, rfl, Nat.zero_le _, h0⟩, fun i m H hW => ?_⟩
  obtain ⟨e, hi, p⟩ := hW
  rcases Nat.lt_or_ge i n with hlt | hge
  · refine .inr ⟨hlt, Pv (i + 1), fun H' p' => ⟨n - (i + 1), by omega, rfl, hlt, p'⟩, fun x H' y => ?_⟩
    obtain ⟨y1, y2⟩ := y
    rw [y1, y2]
    exact hs i H hlt p
  · have q : i = n := by omega
    rw [q] at p
    exact .inl ⟨hge, hd H p⟩
/-- the i-th of the parts of w items -/
def part (w : Nat) (xs : List V) (i : Nat) : List V := (xs.drop (i * w)).take w
def parts (w : Nat) (xs : List V) (n : Nat) : List (List V) := (List.range n).map (part w xs)
theorem parts_take {w : Nat} {xs : List V} {n i : Nat} (h : i < n) : (parts w xs n).take (i + 1) = (parts w xs n).take i ++ [part w xs i] := by
  have e : (parts w xs n)[i]? = some (part w xs i) := by
    unfold parts
    rw [List.getElem?_map, List.getElem?_range h]
    rfl
  rw [List.take_add_one, e]
  rfl
theorem parts_len (w : Nat) (xs : List V) (n : Nat) : (parts w xs n).length = n := by simp [parts]
theorem cut_part {w : Nat} {xs : List V} {n i : Nat} (hx : xs.length = n * w) (hi : i < n) : cutV xs (some ((i * w : Nat) : Int)) (some ((i * w + w : Nat) : Int)) = part w xs i := by
  have h1 : i * w + w ≤ n * w := by
    have := Nat.mul_le_mul_right w (show i + 1 ≤ n from hi)
    rw [Nat.add_mul, Nat.one_mul] at this
    exact this
  unfold cutV part
  rw [show HT.sIx xs.length 0 (some ((i * w : Nat) : Int)) = min (i * w) xs.length from HT.sIx_nat _ _ _, show HT.sIx xs.length xs.length (some ((i * w + w : Nat) : Int)) = min (i * w + w) xs.length from HT.sIx_nat _ _ _]
  rw [show min (i * w) xs.length = i * w by omega, show min (i * w + w) xs.length = i * w + w by omega, Nat.add_sub_cancel_left]
/-- the whole of it is the one part -/
theorem whole_part {w : Nat} {xs : List V} {n i : Nat} (hx : xs.length = n * w) (hi : i < n) (h : HT.sIx xs.length 0 (some ((i * w : Nat) : Int)) = 0 ∧ HT.sIx xs.length xs.length (some ((i * w + w : Nat) : Int)) = xs.length) : part w xs i = xs := by
  rw [← cut_part hx hi]
  unfold cutV
  rw [h.1, h.2, List.drop_zero, Nat.sub_zero, List.take_length]
/-- values that are tuples -/
abbrev Tups (K : PySem.W.Frag) (H : Hp) : List V → List (List V) → Prop := Paired fun v c => ∃ a, v = V.ref a ∧ SqT K H a c
theorem Tups.same {K : PySem.W.Frag} {H H' : Hp} (s : Same H H') {vs : List V} {cs : List (List V)} (h : Tups K H vs cs) : Tups K H' vs cs := Paired.mapP h fun v c ⟨a, e, q⟩ => ⟨a, e, Same.seqT s q⟩
theorem Tups.snoc {K : PySem.W.Frag} {H : Hp} {a : Addr} {c : List V} (h : SqT K H a c) : ∀ {vs : List V} {cs : List (List V)}, Tups K H vs cs → Tups K H (vs ++ [V.ref a]) (cs ++ [c])
  | _, _, .nil => .cons ⟨a, rfl, h⟩ .nil
  | _, _, .cons q t => .cons q (Tups.snoc h t)
/-! ### a def, by its name -/
structure FnC (P : Program) (w : World) (K : PySem.W.Frag) (mg : Str → Option Value) (base : Heap) (CX : CXT) (k : Nat) (x : Str) (ps : List Str) (sp : Sp) : Prop where
  ex : ∃ (f : Addr) (fd : FuncData), FnOk P w K mg base CX k f fd ps sp ∧ mg x = some (.ref f) ∧ PySem.W.keepIn K (.ref f) = true ∧ Binds K fd ps []
section
variable {X : Cx} {CX : CXT} {k j : Nat} {x : Str} {ps : List Str} {sp : Sp} {e : Expr} {es : List Expr} {t : TA} {p pos : Pos}
theorem pe_f {E : XK} (c : FnC X.prog X.w X.K X.mg X.base CX k x ps sp) (hr : Room j X.A) (hk : k ≤ j) (hx : Passes CX X E) (ha : PA X (e :: es) t) (hg : Gl X x := by rfl) (hdb : (x == ("__debug__" : Str)) = false := by decide)
    (he : starEach (e :: es) X.env = (false, eval e X.env) :: starEach es X.env := by rfl) (hpl : (backTo pos (starEach es X.env)).any (·.1) = false := by rfl) : PE X (.Call (.Name x p) (e :: es) [] pos) (tCall sp [] E t) := by
  obtain ⟨f, fd, F, hm, hkp, hb⟩ := c.ex
  exact pe_call F (hr.mono hk) hg hm hkp hb .nil hx ha hdb he hpl
theorem pe_fS {E : L2.St → XK} (c : FnC X.prog X.w X.K X.mg X.base CX k x ps sp) (hr : Room j X.A) (hk : k ≤ j) (hx : ∀ σ, PassesAt CX X σ (E σ)) (ha : PA X (e :: es) t) (hg : Gl X x := by rfl) (hdb : (x == ("__debug__" : Str)) = false := by decide)
    (he : starEach (e :: es) X.env = (false, eval e X.env) :: starEach es X.env := by rfl) (hpl : (backTo pos (starEach es X.env)).any (·.1) = false := by rfl) : PE X (.Call (.Name x p) (e :: es) [] pos) (tCallS sp E t) := by
  obtain ⟨f, fd, F, hm, hkp, hb⟩ := c.ex
  exact pe_callS F (hr.mono hk) hg hm hkp hb hx ha hdb he hpl
end
end SL
/-! t[::-1] of a tuple; a walk over the zip of two tuples. -/
namespace SL
open PySem PySem.Spec PyProof.Rows L2 HT
theorem fm_congr {α β : Type} {f g : α → Option β} : ∀ l : List α, (∀ k ∈ l, f k = g k) → l.filterMap f = l.filterMap g
  | [], _ => rfl
  | k :: r, h => by rw [List.filterMap_cons, List.filterMap_cons, h k (List.mem_cons_self ..), fm_congr r fun j hj => h j (List.mem_cons_of_mem _ hj)]
theorem rev_pick (xs : Array Value) : ((List.range xs.size).filterMap fun (k : Nat) => xs[(((xs.size : Int) - 1) + (k : Int) * (-1)).toNat]?).toArray = xs.toList.reverse.toArray := by
  have e : (List.range xs.size).filterMap (fun (k : Nat) => xs[(((xs.size : Int) - 1) + (k : Int) * (-1)).toNat]?) = ((List.range xs.size).map fun k => xs.size - 1 - k).filterMap (xs[·]?) := by
    rw [List.filterMap_map]
    refine fm_congr _ fun k hk => ?_
    have := List.mem_range.mp hk
    show xs[_]? = xs[xs.size - 1 - k]?
    rw [show (((xs.size : Int) - 1) + (k : Int) * (-1)).toNat = xs.size - 1 - k by omega]
  rw [e, PySem.W.krv_range, List.filterMap_reverse, PySem.W.krv_all]
section
variable {prog : Program} {w : World} {A : Around} {E : Value → Shared → Prop} {s : Shared}
theorem adjust_rev (n : Nat) : Builtin.Slice.sliceAdjust none none (-1) (n : Int) = ((n : Int) - 1, -1) := by
  unfold Builtin.Slice.sliceAdjust
  simp
theorem places_rev (n : Nat) : Builtin.Slice.slicePlaces ((n : Int) - 1) (-1) (-1) = n := by
  unfold Builtin.Slice.slicePlaces
  have h1 : ¬ ((-1 : Int) > 0) := by decide
  simp only [h1, if_false]
  rw [show (- -1 : Int) = 1 by decide, Int.ediv_one]
  split <;> omega
theorem sliceApplied_rev {sl : Addr} {vl vu vs : Value} {n : Nat} {Q : Int × Int × Nat → Shared → Prop} (hs : s.heap.IsSliceOf sl vl vu vs) (pl : IsPart vl none) (pu : IsPart vu none) (ps : IsPart vs (some (-1)))
    (h : Q ((n : Int) - 1, -1, n) s) : wpAny (model prog w) A (Builtin.Slice.sliceApplied (.ref sl) (pure (n : Int))) Q E s := by
  obtain ⟨os, hos, hcs, hds⟩ := id hs
  unfold Builtin.Slice.sliceApplied Builtin.Slice.sliceFields
  refine wpAny_bind (wpAny_bind (wpAny_field hos hds (x := vl) rfl (wpAny_bind (wpAny_field hos hds (x := vu) rfl (wpAny_bind (wpAny_field hos hds (x := vs) rfl (wpAny_pure ?_)))))))
  refine wpAny_bind (slicePart_ ps ?_)
  show wpAny _ _ (if ((-1 : Int) == 0) = true then _ else _) _ _ s
  rw [if_neg (by decide)]
  refine wpAny_bind (slicePart_ pl (wpAny_bind (slicePart_ pu (wpAny_bind (wpAny_pure ?_)))))
  show wpAny _ _ (match Builtin.Slice.sliceAdjust none none (-1) (n : Int) with | (lo, hi) => pure (lo, (-1 : Int), Builtin.Slice.slicePlaces lo hi (-1))) _ _ s
  rw [adjust_rev n]
  show wpAny _ _ (pure ((n : Int) - 1, (-1 : Int), Builtin.Slice.slicePlaces ((n : Int) - 1) (-1) (-1))) _ _ s
  rw [places_rev]
  exact wpAny_pure h
theorem getItem_tuple_rev {t sl : Addr} {items : Array Value} {vl vu vs : Value} {Q : Value → Shared → Prop} (ht : IsTup s.heap t items) (hs : s.heap.IsSliceOf sl vl vu vs) (pl : IsPart vl none) (pu : IsPart vu none) (ps : IsPart vs (some (-1)))
    (h : Q (.ref s.heap.objs.size) { s with heap := s.heap.push { cls := .type "tuple", data := .seq items.toList.reverse.toArray } })
    (hsz : items.size ≤ sizeLine) : wpAny (model prog w) A (getItem (.ref t) (.ref sl)) Q E s := by
  have htake : sizeOk (.seq items.toList.reverse.toArray) := by
    show items.toList.reverse.toArray.size ≤ sizeLine
    rw [List.size_toArray, List.length_reverse, Array.length_toList]
    exact hsz
  obtain ⟨os, hos, hcs, hds⟩ := id hs
  have hTs : s.TypeIs (.ref sl) "slice" := ⟨os, hos, hcs⟩
  unfold getItem
  try with_reducible refine wpAny_holding ?_
  first | refine wpAny_bind (wpAny_pure ?_) | skip
  refine wpAny_bind (wpAny_sequenceKey ht.typeIs (by decide) ?_)
  refine wpAny_bind (wpAny_callSpecial?_slot (name := Str.ofString "__getitem__") ht.typeIs PyProof.Rows.slot_tuple_getitem
    (wpAny_call_entry PyProof.Rows.slot_tuple_getitem ht.typeIs entry_tuple_getitem ?_ (args_tuple_getitem _ _)))
  show wpAny _ _ (Builtin.Tuple.tupleItemsOf (.ref t) >>= _) _ _ s
  refine wpAny_bind (tupleItemsOf_ ht ?_)
  refine wpAny_bind (wpAny_typeOf hTs ?_)
  rw [if_pos (by decide)]
  refine wpAny_bind (sliceApplied_rev hs pl pu ps ?_)
  have hno : ¬ ((((items.size : Int) - 1 == 0) && (-1 : Int) == 1 && items.size == items.size) = true) := by
    rw [show ((-1 : Int) == 1) = false from by decide, Bool.and_false, Bool.false_and]
    exact Bool.false_ne_true
  show wpAny _ _ (if (((items.size : Int) - 1 == 0) && (-1 : Int) == 1 && items.size == items.size) = true then _ else _) _ _ s
  rw [if_neg hno, rev_pick]
  first
    | exact wpAny_bind (m := Builtin.Tuple.tupleExact _) (wpAny_newObj_type (wpAny_pure ⟨_, rfl, wpAny_pure h⟩) htake)
    | exact wpAny_bind (m := Builtin.Tuple.tupleExact _) (wpAny_newObj_type (wpAny_bind (wpAny_pure (wpAny_pure ⟨_, rfl, wpAny_pure h⟩))) htake)
    | exact wpAny_bind (wpAny_bind (m := Builtin.Tuple.tupleExact _) (wpAny_newObj_type (wpAny_pure (wpAny_pure ⟨_, rfl, wpAny_pure h⟩)) htake))
    | exact wpAny_bind (wpAny_bind (m := Builtin.Tuple.tupleExact _) (wpAny_newObj_type (wpAny_pure ⟨_, rfl, wpAny_pure h⟩) htake))
end
section
variable {X : Cx}
def tRevT (K : PySem.W.Frag) (te : TE) : TE := fun σ H Q => te σ H fun x H1 => ∃ a xs, x = .ref a ∧ SqT K H1 a xs ∧ ∀ p, H1 p = none → Q (.ref p) (upd H1 p (.tup xs.reverse))
theorem pe_revT {e : Expr} {te : TE} {k : Nat} {p1 p2 p3 pos : Pos} (he : PE X e te) : PE X (.Subscript e (.Slice none none (some (.UnaryOp .USub (.Constant (.int 1) k p1) p2)) p3) pos) (tRevT X.K te) := by
  refine ⟨fun pins s σ H Q I h => ?_⟩
  refine Subscript_ (thn (he.run pins s σ H _ I h) fun v s1 ⟨x, H1, I1, r1, q1⟩ => ?_)
  obtain ⟨a, xs, ex, hx, q⟩ := q1
  subst ex
  cases r1
  have hst : PO X (some (.UnaryOp .USub (.Constant (.int 1) k p1) p2)) (tPart (tUn (rU fun i => .int (-i)) (tC (.int 1)))) := po_some (pe_un un_neg pe_int)
  refine wpAny_Slice (thn (po_none.run pins s1 σ H1 (fun o H2 => o = none ∧ H2 = H1) I1 ⟨rfl, rfl⟩) fun vl s2 ⟨l, H2, I2, pl, el, e2⟩ => ?_)
  subst el e2
  refine thn (po_none.run pins s2 σ H2 (fun o H3 => o = none ∧ H3 = H2) I2 ⟨rfl, rfl⟩) fun vu s3 ⟨u, H3, I3, pu, eu, e3⟩ => ?_
  subst eu e3
  refine thn (hst.run pins s3 σ H3 (fun o H4 => o = some (-1) ∧ H4 = H3) I3 ⟨1, rfl, -1, rfl, rfl, rfl⟩) fun vs s4 ⟨o, H4, I4, ps, eo, e4⟩ => ?_
  subst eo e4
  have I5 : Inv X pins σ H4 { s4 with heap := s4.heap.push { cls := .type "slice", data := .fields #[vl, vu, vs] } } := I4.kept (t' := s4.toks) fun b ob q => Heap.get?_push_of_some _ q
  obtain ⟨its, r, ht, hz⟩ := I5.tuple hx
  have hlen := r.length
  show wpAny (model X.prog X.w) X.A (subscriptTail e (.Slice none none (some (.UnaryOp .USub (.Constant (.int 1) k p1) p2)) p3) (.ref a) (.ref s4.heap.objs.size)) (EP X pins σ Q) X.xe { s4 with heap := s4.heap.push { cls := .type "slice", data := .fields #[vl, vu, vs] } }
  refine tail_any (ops := [.ref a, .ref s4.heap.objs.size]) ht.typeIs (PyProof.Rows.slot_tuple_getitem.lookup) ?_ (by with_unfolding_all rfl)
  refine getItem_tuple_rev ht (Heap.IsSliceOf.new _ vl vu vs) pl pu ps ?_ (by rw [List.size_toArray]; omega)
  refine ⟨.ref _, _, I5.laid (t' := s4.toks) (o := .tup xs.reverse) (fun b ob q => Heap.get?_push_of_some _ q) (Nat.le_refl _) ?_, rfl, q _ (I5.hok.fresh (Nat.le_refl _))⟩
  exact ⟨by rw [List.length_reverse]; exact hz, _, r.reverse, IsTup.new _ _⟩
end
theorem walk_zipT {K : PySem.W.Frag} {a b : Addr} {xs ys : List V} {n : Nat} (hn : n = min xs.length ys.length) : Walk (RZ.ItzT K a b) n (fun H => SqT K H a xs ∧ SqT K H b ys) (YPair (fun i => xs[i]?) (fun i => ys[i]?)) := by
  subst hn
  refine ⟨fun i _ hi q => ?_, fun _ q => ⟨xs, ys, q.1, q.2, by omega⟩, fun i H v H' _ q y => ?_⟩
  · have h1 : i < xs.length := by omega
    have h2 : i < ys.length := by omega
    exact ⟨xs, ys, xs[i], ys[i], q.1, q.2, by simp [h1], by simp [h2]⟩
  · obtain ⟨T, x, z, h1, h2, h3, h4, h5⟩ := y
    exact ⟨T, x, z, h1, h2, h3, h4 xs q.1, h5 ys q.2⟩
section
variable {X : Cx}
theorem pg_tupK {pos : Pos} {es : List Expr} {k : Nat} {t : TGs} {n : Nat} (K : PySem.W.Frag) (hc : X.calm = true) (h : PGs X es t) (e : X.K = K := by rfl)
    (hn : (assignEach es X.env).length = n := by rfl) (hst : (assignEach es X.env).findIdx? (·.1) = none := by rfl) : PG X (.Tuple es k pos) (gTup K n t) := by
  subst e
  exact pg_tup hc h hn hst
theorem pe_f0 {CX : CXT} {k j : Nat} {x : Str} {sp : Sp} {p pos : Pos} {E : XK} (c : FnC X.prog X.w X.K X.mg X.base CX k x [] sp) (hr : Room j X.A) (hk : k ≤ j) (hx : Passes CX X E) (hg : Gl X x := by rfl) (hdb : (x == ("__debug__" : Str)) = false := by decide) :
    PE X (.Call (.Name x p) [] [] pos) (tCall sp [] E tNil) := by
  obtain ⟨f, fd, F, hm, hkp, hb⟩ := c.ex
  exact pe_call0 F (hr.mono hk) hg hm hkp hb .nil hx hdb
end
end SL
/-! enumerate of a tuple, of a text. -/
namespace PySem
theorem sl_enum_newT (l : Addr) (xs : Array Value) :
    Meets (Builtin.«enumerate.__new__» ⟨[.type "enumerate", .ref l], []⟩) (fun _ R s => s.heap.IsTuple l xs ∧
      R (.ok (.ret (.ref (s.heap.push { cls := .type "tuple_iterator", data := .fields #[.ref l, .int 0 0] }).objs.size)))
        { s with heap := (s.heap.push { cls := .type "tuple_iterator", data := .fields #[.ref l, .int 0 0] }).push { cls := .type "enumerate", data := .fields #[.none, .bool false, .ref s.heap.objs.size, rawInt 0, .none, .none] } }) :=
  .of_wp fun prog w A R s h => by
    obtain ⟨hp, g, d, tk, os⟩ := s
    obtain ⟨hl, h⟩ := h
    have hsub := sub_enumerate
    have hL : Heap.IsTuple (Shared.heap ⟨hp, g, d, tk, os⟩) l xs := hl
    wp_walk
    refine wpAny_stack_any fun st => wpAny_pure ?_
    split
    · rename_i c _ _ _ _ _
      cases (c == Value.type "enumerate") <;> (wp_walk using wpAny_pyIter_tuple hL; exact ⟨_, rfl, h⟩)
    · wp_walk using wpAny_pyIter_tuple hL
      exact ⟨_, rfl, h⟩
theorem sl_call_enumT {prog : Program} {w : World} {A : Around} {E : Value → Shared → Prop} {s : Shared} {l : Addr} {xs : Array Value} {Q : Value → Shared → Prop} (hL : s.heap.IsTuple l xs)
    (h : ∀ h', IsEnum h' (s.heap.objs.size + 1) s.heap.objs.size 0 .none → h'.IsTupleIter s.heap.objs.size l 0 → h'.objs.size = s.heap.objs.size + 2 →
      (∀ b o, s.heap.get? b = some o → h'.get? b = some o) → Q (.ref (s.heap.objs.size + 1)) { s with heap := h' }) :
    wpAny (model prog w) A (call (.type "enumerate") [.ref l]) Q E s := by
  refine callType_new F.called_enumerate (by decide) (F.typeCall_enumerate_1 _) (F.newCall_enumerate_1 _) (fun obj => F.args_object_init_2 obj _) F.entry_enumerate_new (sl_enum_newT l xs) ⟨hL, ?_⟩
  have hz : (s.heap.push { cls := .type "tuple_iterator", data := .fields #[.ref l, .int 0 0] }).objs.size = s.heap.objs.size + 1 := Heap.size_push ..
  show _ ∧ _
  rw [hz]
  have he : IsEnum ((s.heap.push { cls := .type "tuple_iterator", data := .fields #[.ref l, .int 0 0] }).push
      { cls := .type "enumerate", data := .fields #[.none, .bool false, .ref s.heap.objs.size, rawInt 0, .none, .none] }) (s.heap.objs.size + 1) s.heap.objs.size 0 .none := by
    have q := Heap.get?_push_size (s.heap.push { cls := .type "tuple_iterator", data := .fields #[.ref l, .int 0 0] })
      (o := { cls := .type "enumerate", data := .fields #[.none, .bool false, .ref s.heap.objs.size, rawInt 0, .none, .none] }) rfl
    rw [hz] at q
    exact q
  exact ⟨⟨_, he, rfl⟩, h _ he ⟨_, Heap.get?_push_of_some _ (Heap.get?_push_size _ rfl), rfl, rfl⟩ (by rw [Heap.size_push, hz]) fun b o x => Heap.get?_push_of_some _ (Heap.get?_push_of_some _ x)⟩
end PySem
namespace SL
open PySem PySem.Spec PyProof.Rows L2
def IteT (K : PySem.W.Frag) (a : Addr) : It :=
  ⟨fun i H => ∃ (xs : List V) (x : V), SqT K H a xs ∧ xs[i]? = some x, fun i H v H' => ∃ T x, v = .ref T ∧ H T = none ∧ H' = upd H T (.tup [.int (i : Nat), x]) ∧ ∀ xs, SqT K H a xs → xs[i]? = some x, fun i H => ∃ xs : List V, SqT K H a xs ∧ xs.length ≤ i⟩
theorem turn_enumT {P : Program} {w : World} {K : PySem.W.Frag} {elts : List Expr} {kk : Nat} {tpos : Pos} (a e it : Addr) (hae : a ≠ e) (hai : a ≠ it) :
    Turn P w K (.Tuple elts kk tpos) (IteT K a) [e, it] e (fun i h => (∃ old, IsEnum h e it ((i : Nat) : Int) old) ∧ h.IsTupleIter it a i ∧ e ≠ it) where
  mem := by simp
  obj := fun i h st b hb => by
    obtain ⟨⟨old, he⟩, ⟨o, ho, hc, hd⟩, _⟩ := st
    have e' : b = e ∨ b = it := by simpa using hb
    rcases e' with rfl | rfl
    · exact ⟨_, he, fun v q => nomatch q⟩
    · exact ⟨o, ho, fun v q => by rw [hd] at q; cases q⟩
  keep := fun i h h' st k => let ⟨⟨old, he⟩, hi, hne⟩ := st; ⟨⟨old, k e (by simp) _ he⟩, hi.at fun o q => k it (by simp) o q, hne⟩
  item := by
    intro X hP hw hK hc i pins s σ H E I hf st hg
    subst hP hw hK
    obtain ⟨⟨old, he⟩, hit, hne⟩ := st
    obtain ⟨xs, x, hq, hx⟩ := hg
    obtain ⟨its, rv, p, hz⟩ := I.tuple hq
    obtain ⟨u, hu, ru⟩ := rv.get hx
    have hel : e < s.heap.objs.size := Heap.lt_size he
    have hil : it < s.heap.objs.size := by obtain ⟨_, q, _⟩ := hit; exact Heap.lt_size q
    have hlt : i < its.toArray.size := by
      have := (List.getElem?_eq_some_iff.mp hu).1
      simpa using this
    refine wpAny_pyNext_enum_itemD (Draws.tuple (by rw [show X.A.in1.handled = X.A.handled from rfl]; exact I.ok.hd hc) it a hai its.toArray) he ⟨hit, p⟩ hlt hne (by simp [hne, Ne.symm hae]) fun v h' tk hv ho hit' hT hsz hk => ?_
    obtain rfl : v = u := by
      have e1 : its.toArray[i]? = some u := by simpa using hu
      rw [e1] at hv
      exact (Option.some.inj hv).symm
    refine ⟨_, rfl, wpAny_letOwnedTupleGo_enum (s := { s with heap := h', toks := tk + 1 }) ho fun h'' he' sb => ?_⟩
    have hT2 := (sb.2 _ (Nat.ne_of_gt hel)).trans hT
    have new : ObjOk X.prog X.w (upd H s.heap.objs.size (.tup [.int (i : Nat), x])) h'' s.heap.objs.size (.tup [.int (i : Nat), x]) :=
      ⟨by show 2 ≤ sizeLine; decide, _, .cons ⟨_, rfl⟩ (.cons ru .nil), ⟨_, hT2, rfl, _, rfl⟩⟩
    have I1 : Inv X pins σ (upd H s.heap.objs.size (.tup [.int (i : Nat), x])) { s with heap := h'', toks := tk + 1 } :=
      I.turnedNew (ch := [e, it]) (fun b ob hb q => (sb.2 b (fun z => hb (by simp [z]))).trans (hk b ob (fun z => hb (by simp [z])) (fun z => hb (by simp [z])) q)) hf (Nat.le_refl _) new
    refine ⟨.ref s.heap.objs.size, _, I1, rfl, ⟨_, x, rfl, I.hok.fresh (Nat.le_refl _), rfl, fun ys hy => by rw [I.tuple_inj hy hq]; exact hx⟩, ⟨⟨v, ?_⟩, hit'.1.at fun o q => (sb.2 it (Ne.symm hne)).trans q, hne⟩, fun b hb => ?_⟩
    · rw [show ((i + 1 : Nat) : Int) = (i : Int) + 1 by omega]
      exact he'
    · have hb' : b < s.heap.objs.size := by
        have e' : b = e ∨ b = it := by simpa using hb
        rcases e' with z | z <;> (rw [z]; assumption)
      rw [upd_ne (Nat.ne_of_lt hb')]
      exact (hf b hb).1
  done := by
    intro X hP hw hK hc i pins s σ H E I hf st hg
    subst hP hw hK
    obtain ⟨⟨old, he⟩, hit, hne⟩ := st
    obtain ⟨xs, hq, hx⟩ := hg
    obtain ⟨its, rv, p, hz⟩ := I.tuple hq
    obtain ⟨f0, f1, f2, f3, f4, f5⟩ := hf it (by simp)
    have hl := rv.length
    have hT : s.TypeIs (.ref e) "enumerate" := ⟨_, he, rfl⟩
    unfold pyNext
    refine wpAny_bind (wpAny_attempt (wpAny_callSpecial?_slot (name := Str.ofString "__next__") hT F.slot_enumerate_next (wpAny_call_entry F.slot_enumerate_next hT F.entry_enumerate_next ?_ (F.args_enumerate_next_1 _))))
    show wpAny _ _ (field (.ref e) 2 >>= _) _ _ _
    refine wpAny_bind (wpAny_field he rfl (x := .ref it) rfl ?_)
    refine wpAny_bind (RZ.nextOf_tuple_end (by rw [show X.A.in1.in1.handled = X.A.handled from rfl]; exact I.ok.hd hc) hit p (by simp; omega) fun h' x he' hx' => ?_)
    obtain ⟨o, ho, hcl⟩ := hx'
    refine wpAny_bind (wpAny_isInstance (T := "StopIteration") (b := true) ⟨o, ho, hcl⟩ isSubtype_stop ?_)
    exact wpAny_pure ⟨rfl, I.turned (t' := s.toks) (fun b o hb q => he' b o hb q) f0 f1 f3 f4 f5⟩
  self := fun A i s Q E st h => let ⟨⟨_, he⟩, _⟩ := st; wpAny_pyIter_enum he h
def iEnumT (K : PySem.W.Frag) (ta : TA) : TI := fun σ H R => ta σ H fun vs H1 => ∃ a xs, vs = [.ref a] ∧ SqT K H1 a xs ∧ R (IteT K a) H1
theorem pi_enumT {X : Cx} {e : Expr} {ta : TA} {p pos tpos : Pos} {elts : List Expr} {kk : Nat} (hg : Gl X "enumerate") (hm : X.mg "enumerate" = none) (ha : PA X [e] ta) (hs : starEach [e] X.env = [(false, eval e X.env)] := by rfl) :
    PI X (.Tuple elts kk tpos) (.Call (.Name "enumerate" p) [e] [] pos) (iEnumT X.K ta) := by
  refine ⟨fun pins s σ H R I h => ?_⟩
  refine Call_ (ld_blt I hg hm boot_enumerate (PyProof.Rows.callWith_type1 (thn (ha.run pos pins s σ H _ I h) fun us s1 ⟨vs, H1, I1, r1, q1⟩ => ?_) hs rfl))
  obtain ⟨a, xs, ex, hq, q⟩ := q1
  subst ex
  cases r1 with
  | cons r rr =>
    cases rr
    cases r
    obtain ⟨its, rv, p', hz⟩ := I1.tuple hq
    have hla : a < s1.heap.objs.size := by
      obtain ⟨o, ho, _⟩ := p'
      exact Heap.lt_size ho
    refine sl_call_enumT p' fun h' he hit hsz hk => wpAny_pyIter_enum he ?_
    have I2 : Inv X pins σ H1 { s1 with heap := h' } := I1.kept (t' := s1.toks) hk
    refine ⟨s1.heap.objs.size + 1, [s1.heap.objs.size + 1, s1.heap.objs.size], _, _, H1, rfl, I2, turn_enumT a (s1.heap.objs.size + 1) s1.heap.objs.size (Nat.ne_of_lt (Nat.lt_succ_of_lt hla)) (Nat.ne_of_lt hla), ⟨⟨.none, he⟩, hit, Nat.succ_ne_self _⟩, fun b hb => ?_, q⟩
    have hle : s1.heap.objs.size ≤ b := by
      have e' : b = s1.heap.objs.size + 1 ∨ b = s1.heap.objs.size := by simpa using hb
      rcases e' with z | z
      · rw [z]
        exact Nat.le_add_right _ _
      · rw [z]
        exact Nat.le_refl _
    exact I1.fpOk hle (I1.hok.fresh hle)
theorem walk_enumT {K : PySem.W.Frag} {a : Addr} {xs : List V} : Walk (IteT K a) xs.length (fun H => SqT K H a xs) (YPair (fun i => some (.int (i : Nat))) (fun i => xs[i]?)) := by
  refine ⟨fun i _ hi q => ⟨xs, xs[i], q, by simp [hi]⟩, fun _ q => ⟨xs, q, Nat.le_refl _⟩, fun i H v H' _ q y => ?_⟩
  obtain ⟨T, x, h1, h2, h3, h4⟩ := y
  exact ⟨T, .int (i : Nat), x, h1, h2, h3, rfl, h4 xs q⟩
/-! ### of a text -/
def IteS (z : Str) : It :=
  ⟨fun i _ => i < z.cps.size, fun i H v H' => ∃ T c, v = .ref T ∧ H T = none ∧ H' = upd H T (.tup [.int (i : Nat), .str ⟨#[c]⟩]) ∧ z.cps[i]? = some c, fun i _ => z.cps.size ≤ i⟩
theorem turn_enumS {P : Program} {w : World} {K : PySem.W.Frag} {elts : List Expr} {kk : Nat} {tpos : Pos} (z : Str) (t : Tok) (e it : Addr) :
    Turn P w K (.Tuple elts kk tpos) (IteS z) [e, it] e (fun i h => (∃ old, IsEnum h e it ((i : Nat) : Int) old) ∧ h.IsStrIter it (strIterType z) z t i ∧ e ≠ it) where
  mem := by simp
  obj := fun i h st b hb => by
    obtain ⟨⟨old, he⟩, ⟨o, ho, hc, hd⟩, _⟩ := st
    have e' : b = e ∨ b = it := by simpa using hb
    rcases e' with rfl | rfl
    · exact ⟨_, he, fun v q => nomatch q⟩
    · exact ⟨o, ho, fun v q => by rw [hd] at q; cases q⟩
  keep := fun i h h' st k => let ⟨⟨old, he⟩, ⟨o, ho, r⟩, hne⟩ := st; ⟨⟨old, k e (by simp) _ he⟩, ⟨o, k it (by simp) o ho, r⟩, hne⟩
  item := by
    intro X hP hw hK hc i pins s σ H E I hf st hg
    subst hP hw hK
    obtain ⟨⟨old, he⟩, hit, hne⟩ := st
    have hel : e < s.heap.objs.size := Heap.lt_size he
    have hil : it < s.heap.objs.size := by obtain ⟨_, q, _⟩ := hit; exact Heap.lt_size q
    refine wpAny_pyNext_enum_itemD (Draws.text (by rw [show X.A.in1.handled = X.A.handled from rfl]; exact I.ok.hd hc) it z t) he hit hg hne (by simp [hne]) fun v h' tk hv ho hit' hT hsz hk => ?_
    obtain ⟨c, u, hcx, rfl⟩ := hv
    refine ⟨_, rfl, wpAny_letOwnedTupleGo_enum (s := { s with heap := h', toks := tk + 1 }) ho fun h'' he' sb => ?_⟩
    have hT2 := (sb.2 _ (Nat.ne_of_gt hel)).trans hT
    have new : ObjOk X.prog X.w (upd H s.heap.objs.size (.tup [.int (i : Nat), .str ⟨#[c]⟩])) h'' s.heap.objs.size (.tup [.int (i : Nat), .str ⟨#[c]⟩]) :=
      ⟨by show 2 ≤ sizeLine; decide, _, .cons ⟨_, rfl⟩ (.cons ⟨_, rfl⟩ .nil), ⟨_, hT2, rfl, _, rfl⟩⟩
    have I1 : Inv X pins σ (upd H s.heap.objs.size (.tup [.int (i : Nat), .str ⟨#[c]⟩])) { s with heap := h'', toks := tk + 1 } :=
      I.turnedNew (ch := [e, it]) (fun b ob hb q => (sb.2 b (fun z => hb (by simp [z]))).trans (hk b ob (fun z => hb (by simp [z])) (fun z => hb (by simp [z])) q)) hf (Nat.le_refl _) new
    refine ⟨.ref s.heap.objs.size, _, I1, rfl, ⟨_, c, rfl, I.hok.fresh (Nat.le_refl _), rfl, hcx⟩, ⟨⟨.str ⟨#[c]⟩ u, ?_⟩, ?_, hne⟩, fun b hb => ?_⟩
    · rw [show ((i + 1 : Nat) : Int) = (i : Int) + 1 by omega]
      exact he'
    · obtain ⟨o, q, r⟩ := hit'
      exact ⟨o, (sb.2 it (Ne.symm hne)).trans q, r⟩
    · have hb' : b < s.heap.objs.size := by
        have e' : b = e ∨ b = it := by simpa using hb
        rcases e' with z | z <;> (rw [z]; assumption)
      rw [upd_ne (Nat.ne_of_lt hb')]
      exact (hf b hb).1
  done := by
    intro X hP hw hK hc i pins s σ H E I hf st hg
    subst hP hw hK
    obtain ⟨⟨old, he⟩, hit, hne⟩ := st
    obtain ⟨f0, f1, f2, f3, f4, f5⟩ := hf it (by simp)
    have hx : z.cps[i]? = none := Array.getElem?_eq_none hg
    have hT : s.TypeIs (.ref e) "enumerate" := ⟨_, he, rfl⟩
    unfold pyNext
    refine wpAny_bind (wpAny_attempt (wpAny_callSpecial?_slot (name := Str.ofString "__next__") hT F.slot_enumerate_next (wpAny_call_entry F.slot_enumerate_next hT F.entry_enumerate_next ?_ (F.args_enumerate_next_1 _))))
    show wpAny _ _ (field (.ref e) 2 >>= _) _ _ _
    refine wpAny_bind (wpAny_field he rfl (x := .ref it) rfl ?_)
    have hh : X.A.in1.in1.handled = none := by rw [show X.A.in1.in1.handled = X.A.handled from rfl]; exact I.ok.hd hc
    cases ha : z.cps.all (· < 128)
    · have hit2 : s.heap.IsStrIter it "str_iterator" z t i := by simpa [strIterType, ha] using hit
      refine wpAny_bind (wpAny_nextOf_wide_end hh hit2 hx fun h' x he' hx' => ?_)
      obtain ⟨o, ho, hcl⟩ := hx'
      refine wpAny_bind (wpAny_isInstance (T := "StopIteration") (b := true) ⟨o, ho, hcl⟩ isSubtype_stop ?_)
      exact wpAny_pure ⟨rfl, I.turned (t' := s.toks) (fun b o hb q => he' b o hb q) f0 f1 f3 f4 f5⟩
    · have hit2 : s.heap.IsStrIter it "str_ascii_iterator" z t i := by simpa [strIterType, ha] using hit
      refine wpAny_bind (wpAny_nextOf_ascii_end hh hit2 hx fun h' x he' hx' => ?_)
      obtain ⟨o, ho, hcl⟩ := hx'
      refine wpAny_bind (wpAny_isInstance (T := "StopIteration") (b := true) ⟨o, ho, hcl⟩ isSubtype_stop ?_)
      exact wpAny_pure ⟨rfl, I.turned (t' := s.toks) (fun b o hb q => he' b o hb q) f0 f1 f3 f4 f5⟩
  self := fun A i s Q E st h => let ⟨⟨_, he⟩, _⟩ := st; wpAny_pyIter_enum he h
def iEnumS (ta : TA) : TI := fun σ H R => ta σ H fun vs H1 => ∃ z, vs = [.str z] ∧ R (IteS z) H1
theorem pi_enumS {X : Cx} {e : Expr} {ta : TA} {p pos tpos : Pos} {elts : List Expr} {kk : Nat} (hg : Gl X "enumerate") (hm : X.mg "enumerate" = none) (ha : PA X [e] ta) (hs : starEach [e] X.env = [(false, eval e X.env)] := by rfl) :
    PI X (.Tuple elts kk tpos) (.Call (.Name "enumerate" p) [e] [] pos) (iEnumS ta) := by
  refine ⟨fun pins s σ H R I h => ?_⟩
  refine Call_ (ld_blt I hg hm boot_enumerate (PyProof.Rows.callWith_type1 (thn (ha.run pos pins s σ H _ I h) fun us s1 ⟨vs, H1, I1, r1, q1⟩ => ?_) hs rfl))
  obtain ⟨z, ex, q⟩ := q1
  subst ex
  cases r1 with
  | cons r rr =>
    cases rr
    obtain ⟨t, rfl⟩ := r
    refine call_enumerate_str fun h' he hit hsz hk => wpAny_pyIter_enum he ?_
    have I2 : Inv X pins σ H1 { s1 with heap := h' } := I1.kept (t' := s1.toks) hk
    refine ⟨s1.heap.objs.size + 1, [s1.heap.objs.size + 1, s1.heap.objs.size], _, _, H1, rfl, I2, turn_enumS z t (s1.heap.objs.size + 1) s1.heap.objs.size, ⟨⟨.none, he⟩, hit, Nat.succ_ne_self _⟩, fun b hb => ?_, q⟩
    have hle : s1.heap.objs.size ≤ b := by
      have e' : b = s1.heap.objs.size + 1 ∨ b = s1.heap.objs.size := by simpa using hb
      rcases e' with z | z
      · rw [z]
        exact Nat.le_add_right _ _
      · rw [z]
        exact Nat.le_refl _
    exact I1.fpOk hle (I1.hok.fresh hle)
theorem walk_enumS {z : Str} : Walk (IteS z) z.cps.size (fun _ => True) (YPair (fun i => some (.int (i : Nat))) (fun i => z.cps[i]?.map fun c => V.str ⟨#[c]⟩)) := by
  refine ⟨fun i _ hi _ => hi, fun _ _ => Nat.le_refl _, fun i H v H' _ _ y => ?_⟩
  obtain ⟨T, c, h1, h2, h3, h4⟩ := y
  exact ⟨T, .int (i : Nat), .str ⟨#[c]⟩, h1, h2, h3, rfl, by show Option.map _ (z.cps[i]?) = _; rw [h4]; rfl⟩
end SL
/-! Data of any kind, and what the program and a law ask of it. -/
namespace SL
open PySem PySem.Spec PyProof.Rows L2
inductive D where
  | non
  | bl (b : Bool)
  | int (i : Int)
  | str (s : Str)
  | lst (ds : List D)
  | tup (ds : List D)
  | dic
mutual
inductive Dt (K : PySem.W.Frag) (H : Hp) : V → D → Prop
  | non : Dt K H .non .non
  | bl (b : Bool) : Dt K H (.bl b) (.bl b)
  | int (i : Int) : Dt K H (.int i) (.int i)
  | str (s : Str) (z : s.length ≤ 100000) : Dt K H (.str s) (.str s)
  | lst {a : Addr} {vs : List V} {ds : List D} (h : SqL K H a vs) (k : DtAll K H vs ds) (z : ds.length ≤ 100000) : Dt K H (.ref a) (.lst ds)
  | tup {a : Addr} {vs : List V} {ds : List D} (h : SqT K H a vs) (k : DtAll K H vs ds) (z : ds.length ≤ 100000) : Dt K H (.ref a) (.tup ds)
  | dic {a : Addr} {kvs : List (Key × V)} (h : H a = some (.dK kvs)) : Dt K H (.ref a) .dic
inductive DtAll (K : PySem.W.Frag) (H : Hp) : List V → List D → Prop
  | nil : DtAll K H [] []
  | cons {v : V} {d : D} {vs : List V} {ds : List D} (h : Dt K H v d) (t : DtAll K H vs ds) : DtAll K H (v :: vs) (d :: ds)
end
def tyD : D → String
  | .non => "NoneType"
  | .bl _ => "bool"
  | .int _ => "int"
  | .str _ => "str"
  | .lst _ => "list"
  | .tup _ => "tuple"
  | .dic => "dict"
section
variable {K : PySem.W.Frag} {H H' : Hp}
mutual
theorem Dt.same (s : Same H H') : ∀ {v : V} {d : D}, Dt K H v d → Dt K H' v d
  | _, _, .non => .non
  | _, _, .bl b => .bl b
  | _, _, .int i => .int i
  | _, _, .str x z => .str x z
  | _, _, .lst h a z => .lst (s.seq h) (DtAll.same s a) z
  | _, _, .tup h a z => .tup (Same.seqT s h) (DtAll.same s a) z
  | _, _, .dic h => .dic (s _ _ h)
theorem DtAll.same (s : Same H H') : ∀ {vs : List V} {ds : List D}, DtAll K H vs ds → DtAll K H' vs ds
  | _, _, .nil => .nil
  | _, _, .cons h t => .cons (Dt.same s h) (DtAll.same s t)
end
theorem Dt.knw {v : V} {d : D} (h : Dt K H v d) : Knw K H v (tyD d) := by
  cases h with
  | non => exact .non
  | bl b => exact .bl b
  | int i => exact .int i
  | str s _ => exact .str s
  | lst h _ _ => exact .lst h
  | tup h _ _ => exact .tup h
  | dic h => exact .dic h
theorem DtAll.length : ∀ {vs : List V} {ds : List D}, DtAll K H vs ds → vs.length = ds.length
  | _, _, .nil => rfl
  | _, _, .cons _ t => congrArg (· + 1) (DtAll.length t)
theorem DtAll.get : ∀ {vs : List V} {ds : List D} {i : Nat} {v : V}, DtAll K H vs ds → vs[i]? = some v → ∃ d, ds[i]? = some d ∧ Dt K H v d
  | _, _, _, _, .nil, h => by simp at h
  | _, _, 0, _, .cons h _, e => by
    simp at e
    subst e
    exact ⟨_, rfl, h⟩
  | _, _, i + 1, _, .cons _ t, e => by
    obtain ⟨d, h1, h2⟩ := DtAll.get (i := i) t (by simpa using e)
    exact ⟨d, by simpa using h1, h2⟩
theorem DtAll.got : ∀ {vs : List V} {ds : List D} {i : Nat} {d : D}, DtAll K H vs ds → ds[i]? = some d → ∃ v, vs[i]? = some v ∧ Dt K H v d
  | _, _, _, _, .nil, h => by simp at h
  | _, _, 0, _, .cons h _, e => by
    simp at e
    subst e
    exact ⟨_, rfl, h⟩
  | _, _, i + 1, _, .cons _ t, e => by
    obtain ⟨v, h1, h2⟩ := DtAll.got (i := i) t (by simpa using e)
    exact ⟨v, by simpa using h1, h2⟩
theorem DtAll.append {ws : List V} {es : List D} (b : DtAll K H ws es) : ∀ {vs : List V} {ds : List D}, DtAll K H vs ds → DtAll K H (vs ++ ws) (ds ++ es)
  | _, _, .nil => b
  | _, _, .cons h t => .cons h (DtAll.append b t)
theorem DtAll.snoc {v : V} {d : D} (h : Dt K H v d) {vs : List V} {ds : List D} (t : DtAll K H vs ds) : DtAll K H (vs ++ [v]) (ds ++ [d]) := DtAll.append (.cons h .nil) t
theorem DtAll.drop : ∀ {vs : List V} {ds : List D} (n : Nat), DtAll K H vs ds → DtAll K H (vs.drop n) (ds.drop n)
  | _, _, 0, h => h
  | _, _, _ + 1, .nil => .nil
  | _, _, n + 1, .cons _ t => DtAll.drop n t
theorem DtAll.take : ∀ {vs : List V} {ds : List D} (n : Nat), DtAll K H vs ds → DtAll K H (vs.take n) (ds.take n)
  | _, _, 0, _ => .nil
  | _, _, _ + 1, .nil => .nil
  | _, _, n + 1, .cons h t => .cons h (DtAll.take n t)
end
/-! ### what is asked -/
def itemsD : D → Option (List D)
  | .lst ds => some ds
  | .tup ds => some ds
  | _ => none
def withinD (lo hi : Int) : D → Bool
  | .int i => decide (lo ≤ i) && decide (i ≤ hi)
  | _ => false
/-- s stands in S -/
def inS (S s : Str) : Bool := !(Builtin.Str.occurrences S s 0 S.length 1).isEmpty
def signD (S : Str) : D → Bool
  | .str s => decide (s.length = 1) && inS S s
  | _ => false
def ltD : D → D → Bool
  | .int i, .int j => decide (i < j)
  | .str s, .str t => decide (s.cps.toList < t.cps.toList)
  | _, _ => false
def isIntD : D → Bool
  | .int _ => true
  | _ => false
def isStrD : D → Bool
  | .str _ => true
  | _ => false
def homog (ds : List D) : Bool := ds.all isIntD || ds.all isStrD
/-- the answers of x < y for neighbours -/
def steps : List D → List Bool
  | x :: y :: r => ltD x y :: steps (y :: r)
  | _ => []
def rising (ds : List D) : Bool := (steps ds).all id
def signsOk (S : Str) (d : D) : Bool := match itemsD d with
  | none => false
  | some ds => decide (1 ≤ ds.length) && decide (ds.length ≤ 10) && ds.all (signD S) && rising ds
def statesOk (many : Int) (ds : List D) : Bool := ds.all (withinD 0 (many - 1))
def lineOk (width : Nat) (many : Int) (d : D) : Bool := match itemsD d with
  | none => false
  | some rs => decide (rs.length = width) && statesOk many rs
def movesOk (width : Nat) (d : D) : Bool := match itemsD d with
  | none => false
  | some ds => decide (1 ≤ ds.length) && decide (ds.length ≤ 40) && ds.all (lineOk width ds.length)
def goodOk (many : Int) (d : D) : Bool := match itemsD d with
  | none => false
  | some ds => statesOk many ds && rising ds
theorem signD_str {S : Str} {ds : List D} (h : ds.all (signD S) = true) : homog ds = true := by
  unfold homog
  have : ds.all isStrD = true := by
    rw [List.all_eq_true] at h ⊢
    intro d hd
    have := h d hd
    cases d <;> first | rfl | cases this
  rw [this, Bool.or_true]
theorem states_int {m : Int} {ds : List D} (h : statesOk m ds = true) : homog ds = true := by
  unfold homog
  unfold statesOk at h
  have : ds.all isIntD = true := by
    rw [List.all_eq_true] at h ⊢
    intro d hd
    have := h d hd
    cases d <;> first | rfl | cases this
  rw [this, Bool.true_or]
theorem steps_get : ∀ {ds : List D} {i : Nat} {x y : D}, ds[i]? = some x → ds[i + 1]? = some y → (steps ds)[i]? = some (ltD x y)
  | [], _, _, _, h, _ => by simp at h
  | [_], 0, _, _, _, h => by simp at h
  | [_], _ + 1, _, _, h, _ => by simp at h
  | a :: b :: r, 0, x, y, h1, h2 => by
    simp at h1 h2
    subst h1 h2
    rfl
  | a :: b :: r, i + 1, x, y, h1, h2 => by
    have h1' : (b :: r)[i]? = some x := by simpa using h1
    have h2' : (b :: r)[i + 1]? = some y := by simpa using h2
    have := steps_get (ds := b :: r) (i := i) h1' h2'
    simpa [steps] using this
theorem steps_len : ∀ ds : List D, (steps ds).length = ds.length - 1
  | [] => rfl
  | [_] => rfl
  | a :: b :: r => by
    have := steps_len (b :: r)
    simp only [steps, List.length_cons] at this ⊢
    omega
/-! ### x < y of two ints or two texts; the any-of of list and tuple -/
section
variable {X : Cx}
def rLtD : R2 := fun x y H Q => (∃ i j, x = .int i ∧ y = .int j ∧ Q (.bl (decide (i < j))) H) ∨ ∃ i j, x = .str i ∧ y = .str j ∧ Q (.bl (decide (i.cps.toList < j.cps.toList))) H
theorem op_ltD : OpR X (compareOp .Lt) rLtD := by
  intro pins s σ H x y v u Q I rx ry h
  rcases h with ⟨i, j, h1, h2, q⟩ | ⟨i, j, h1, h2, q⟩
  · exact op_lt pins s σ H x y v u Q I rx ry ⟨i, j, h1, h2, q⟩
  · exact op_lt_str pins s σ H x y v u Q I rx ry ⟨i, j, h1, h2, q⟩
end
theorem kitAny_two {K : PySem.W.Frag} {T A B : String} {a b : Bool} (h1 : PySem.W.kitOne K (.type T) (.type A) = some a) (h2 : PySem.W.kitOne K (.type T) (.type B) = some b) : PySem.W.kitAny K (.type T) [.type A, .type B] = some (a || b) := by
  cases a with
  | true => exact kitAny_cons h1 (fun z => nomatch z) fun _ => rfl
  | false =>
    refine kitAny_cons h1 (fun _ => ?_) fun z => nomatch z
    cases b with
    | true => exact kitAny_cons h2 (fun z => nomatch z) fun _ => rfl
    | false => exact kitAny_cons h2 (fun _ => kitAny_nil) fun z => nomatch z
/-- a dict's comprehension over any walk -/
theorem dc_it {J : It} {n : Nat} {G : Hp → Prop} {Y : Nat → Hp → V → Hp → Prop} (w : Walk J n G Y) {g : TG} {tt : TT} {tk tv : TE} {vs : List Nat} {σ : L2.St} {H1 : Hp} {D : Addr} {Qd : Hp → Prop} (Pv : Nat → Hp → Prop) (h0 : Pv 0 (upd H1 D (.dK []))) (hG : ∀ i H, i ≤ n → Pv i H → G H)
    (hs : ∀ i x H H', i < n → Pv i H → Y i H x H' → g x (wipe σ vs) H' fun σ2 H2 => wipe σ2 vs = wipe σ vs ∧ tt σ2 H2 fun b H3 =>
      if b = true then tk σ2 H3 fun y H4 => tv σ2 H4 fun z H5 => ∃ kvs k, y = kV k ∧ H5 D = some (.dK kvs) ∧ kvs.length < sizeLine ∧ Pv (i + 1) (upd H5 D (.dK (putK kvs k z))) else Pv (i + 1) H3) (hd : ∀ H, Pv n H → Qd H) :
    ∃ W : Nat → Nat → Hp → Prop, (∃ m, W 0 m (upd H1 D (.dK []))) ∧ ∀ i m H, W i m H →
      (J.stop i H ∧ Qd H) ∨ (J.go i H ∧ ∃ Nx : Hp → Prop, (∀ H', Nx H' → ∃ m', m' < m ∧ W (i + 1) m' H') ∧ ∀ x H', J.yld i H x H' → g x (wipe σ vs) H' fun σ2 H2 => wipe σ2 vs = wipe σ vs ∧ tt σ2 H2 fun b H3 =>
        if b = true then tk σ2 H3 fun y H4 => tv σ2 H4 fun z H5 => ∃ kvs k, y = kV k ∧ H5 D = some (.dK kvs) ∧ kvs.length < sizeLine ∧ Nx (upd H5 D (.dK (putK kvs k z))) else Nx H3) := by
  refine ⟨fun i m H => m = n - i ∧ i ≤ n ∧ Pv i H, ⟨n, rfl, Nat.zero_le _, h0⟩, fun i m H hW => ?_⟩
  obtain ⟨rfl, hi, p⟩ := hW
  have q := hG i H hi p
  rcases Nat.lt_or_ge i n with hlt | hge
  · exact .inr ⟨w.goes i H hlt q, Pv (i + 1), fun H' p' => ⟨n - (i + 1), by omega, rfl, hlt, p'⟩, fun x H' y => hs i x H H' hlt p (w.yields i H x H' hlt q y)⟩
  · have e : i = n := by omega
    subst e
    exact .inl ⟨w.stops H q, hd H p⟩
/-- t[1:] -/
theorem cut_one (xs : List V) : cutV xs (some 1) none = xs.drop 1 := by
  unfold cutV
  rw [HT.sIx_none, show HT.sIx xs.length 0 (some 1) = min 1 xs.length from HT.sIx_nat _ _ 1]
  by_cases h : xs.length = 0
  · rw [List.eq_nil_of_length_eq_zero h]
    rfl
  · rw [show min 1 xs.length = 1 by omega, List.take_of_length_le (by rw [List.length_drop]; exact Nat.le_refl _)]
theorem lt_of {K : PySem.W.Frag} {H : Hp} {x y : V} {c d : D} {Q : VK} (h1 : Dt K H x c) (h2 : Dt K H y d) (h : (isIntD c && isIntD d || isStrD c && isStrD d) = true) (q : Q (.bl (ltD c d)) H) : rLtD x y H Q := by
  cases h1 <;> cases h2 <;> first | cases h | skip
  · exact .inl ⟨_, _, rfl, rfl, q⟩
  · exact .inr ⟨_, _, rfl, rfl, q⟩
theorem homog_two {ds : List D} {i j : Nat} {c d : D} (h : homog ds = true) (h1 : ds[i]? = some c) (h2 : ds[j]? = some d) : (isIntD c && isIntD d || isStrD c && isStrD d) = true := by
  unfold homog at h
  rw [Bool.or_eq_true, List.all_eq_true, List.all_eq_true] at h
  rcases h with h | h
  · rw [h c (List.mem_of_getElem? h1), h d (List.mem_of_getElem? h2)]
    rfl
  · rw [h c (List.mem_of_getElem? h1), h d (List.mem_of_getElem? h2), Bool.and_self, Bool.or_true]
end SL
/-! C(..) in the body of a try: what __init__ raises goes to the clauses. -/
namespace SL
open PySem PySem.Spec PyProof.Rows L2
section
variable {X : Cx} {CX : CXT} {k j : Nat} {f C : Addr} {fd : FuncData} {ps : List Str} {sp : Sp} {E : L2.St → XK} {x : Str} {p pos : Pos} {e : Expr} {es : List Expr} {t : TA}
theorem made_runs {pins : List (Addr × Obj)} {σ : L2.St} {H : Hp} {s : Shared} {Q : VK} {us : List Value} {vs : List V} (M : Mk X.K C f) (F : FnOk X.prog X.w X.K X.mg X.base CX k f fd ps sp) (hr : Room (k + 1) X.A) (hb : Binds X.K fd ps []) (hx : PassesAt CX X σ (E σ)) (I : Inv X pins σ H s) (r : Vals vs us)
    (h : ∀ o dx, H o = none → H dx = none → dx ≠ o → sp (.ref o :: vs) (upd (upd H dx (.own o)) o (.ins C dx [])) (fun v H2 => v = .non ∧ Q (.ref o) H2) (E σ)) : wpAny (model X.prog X.w) X.A (call (.ref C) us) (EP X pins σ Q) X.xe s := by
  have q0 := h (s.heap.objs.size + 1) s.heap.objs.size (I.hok.fresh (Nat.le_succ _)) (I.hok.fresh (Nat.le_refl _)) (Nat.ne_of_lt (Nat.lt_succ_self _))
  have J := Inv.made (C := C) I
  have rr : Vals (V.ref (s.heap.objs.size + 1) :: vs) (Value.ref (s.heap.objs.size + 1) :: us) := .cons rfl r
  have lens : (Value.ref (s.heap.objs.size + 1) :: us ++ []).length = ps.length := by
    rw [List.append_nil, ← rr.length]
    exact F.len _ _ _ _ q0
  have bd := hb _ (Value.ref (s.heap.objs.size + 1) :: us) J.kIn lens
  rw [List.append_nil] at bd
  refine wpAny_call (make_map (f := f) I.kIn M.makes M.init (beq_iff_eq.mp M.fn) (codeAny_mono (F.run _ X.stack _ _ ⟨Value.ref (s.heap.objs.size + 1) :: us, []⟩ _ _ _ (E σ) (hr.make C us []) (J.env0.make C us []) bd rr q0) fun o s' ho => ?_))
  cases o with
  | error z => exact hx pins _ _ z s' J ho
  | ok fl =>
    cases fl with
    | ret u =>
      obtain ⟨v, H', I3, rv, ev, q3⟩ := J.after ho
      subst ev
      exact ⟨rv, ⟨V.ref (s.heap.objs.size + 1), H', I3, rfl, q3⟩⟩
    | next => exact False.elim ho
    | brk => exact False.elim ho
    | cont => exact False.elim ho
def tMakeS (C : Addr) (sp : Sp) (E : L2.St → XK) (t : TA) : TE := fun σ H Q => t σ H fun vs H1 => ∀ o dx, H1 o = none → H1 dx = none → dx ≠ o → sp (.ref o :: vs) (upd (upd H1 dx (.own o)) o (.ins C dx [])) (fun v H2 => v = .non ∧ Q (.ref o) H2) (E σ)
theorem pe_makeS (M : Mk X.K C f) (F : FnOk X.prog X.w X.K X.mg X.base CX k f fd ps sp) (hr : Room (k + 1) X.A) (hg : Gl X x) (hm : X.mg x = some (.ref C)) (hb : Binds X.K fd ps []) (hx : ∀ σ, PassesAt CX X σ (E σ)) (ha : PA X (e :: es) t) (hdb : (x == ("__debug__" : Str)) = false := by decide)
    (he : starEach (e :: es) X.env = (false, eval e X.env) :: starEach es X.env := by rfl) (hpl : (backTo pos (starEach es X.env)).any (·.1) = false := by rfl) : PE X (.Call (.Name x p) (e :: es) [] pos) (tMakeS C sp E t) := by
  refine ⟨fun pins s σ H Q I h => ?_⟩
  refine wpAny_Call_Name_kw (ld_glob I hg hm ?_ hdb)
  exact PySem.W.callWith_K (h₀ := X.base) I.ok.mod.kin M.kp (thn (ha.run pos pins s σ H _ I h) fun us s1 ⟨vs, H1, I1, r, q⟩ => ⟨I1.kIn, made_runs M F hr hb (hx σ) I1 r q⟩) he hpl
end
section
variable {X : Cx} {tg : Expr}
/-- over a list or a tuple, whichever it is -/
def iAny (K : PySem.W.Frag) (tl : TE) : TI := fun σ H R => tl σ H fun x H1 => ∃ a xs, x = .ref a ∧ (SqL K H1 a xs ∨ SqT K H1 a xs) ∧ ∀ J G, Walk J xs.length G (YAt xs) → (∀ H', Same H1 H' → G H') → R J H1
theorem pi_any {l : Expr} {tl : TE} (hl : PE X l tl) : PI X tg l (iAny X.K tl) := by
  refine ⟨fun pins s σ H R I h => thn (hl.run pins s σ H _ I h) fun v s1 hv => ?_⟩
  obtain ⟨_, H1, I1, r1, a, xs, rfl, hs, q⟩ := hv
  cases r1
  have fp : ∀ b, b ∈ [s1.heap.objs.size] → FpOk X pins H1 b := fun b hb => by
    rw [List.mem_singleton.mp hb]
    exact I1.fpOk (Nat.le_refl _) (I1.hok.fresh (Nat.le_refl _))
  have up : ∀ o : Obj, Inv X pins σ H1 { s1 with heap := s1.heap.push o } := fun o => I1.kept (t' := s1.toks) fun b z e => Heap.get?_push_of_some _ e
  rcases hs with hq | hq
  · obtain ⟨its, _, p, _⟩ := I1.list hq
    exact wpAny_pyIter_list p.isList ⟨_, _, _, _, H1, rfl, up _, turn_list a _, ⟨_, Heap.get?_push_size _ rfl, rfl, rfl⟩, fp, q _ _ walk_list fun H' s => s.seq hq⟩
  · obtain ⟨its, _, p, _⟩ := I1.tuple hq
    exact wpAny_pyIter_tuple (show s1.heap.IsTuple a its.toArray from p) ⟨_, _, _, _, H1, rfl, up _, turn_tuple a _, ⟨_, Heap.get?_push_size _ rfl, rfl, rfl⟩, fp, q _ _ walk_tup fun H' s => Same.seqT s hq⟩
end
section
variable {X : Cx} {tg : Expr}
theorem call_listOfK (K : PySem.W.Frag) (h : X.K = K := by rfl) : CallR X (.type "list") (fun xs H Q => ∃ p ys, xs = [.ref p] ∧ (SqL K H p ys ∨ SqT K H p ys) ∧ ∀ l, H l = none → Q (.ref l) (upd H l (.lst ys))) := by
  subst h
  exact call_list_of
theorem pi_listK {l : Expr} {tl : TE} (K : PySem.W.Frag) (hl : PE X l tl) (h : X.K = K := by rfl) : PI X tg l (iList K tl) := by
  subst h
  exact pi_list hl
end
/-- the scope of the comprehension that the j-th statement assigns -/
def asgScope (s : Stmt) (j : Nat) : Scope := match (defBody s).getD j (.Pass ⟨0, 0, 0, 0⟩) with
  | .Assign _ (.ListComp _ _ sc _) _ => sc
  | _ => { kind := .function, names := [], isGenerator := false, isCoroutine := false }
end SL
/-! list(text); texts of one sign, drawn and sorted. -/
namespace SL
open PySem PySem.Spec PyProof.Rows L2
/-- the text of one sign -/
abbrev ch (c : Nat) : Str := ⟨#[c]⟩
abbrev chV (c : Nat) : V := .str (ch c)
theorem vals_at : ∀ {vs : List V} {us : List Value}, vs.length = us.length → (∀ (i : Nat) (v : V) (u : Value), vs[i]? = some v → us[i]? = some u → RelV v u) → Vals vs us
  | [], [], _, _ => .nil
  | [], _ :: _, e, _ => by cases e
  | _ :: _, [], e, _ => by cases e
  | v :: vs, u :: us, e, h => .cons (h 0 v u rfl rfl) (vals_at (by simpa using e) fun i x y hx hy => h (i + 1) x y (by simpa using hx) (by simpa using hy))
section
variable {X : Cx}
theorem call_list_txt (hc : X.calm = true) : CallR X (.type "list") (fun xs H Q => ∃ z : Str, xs = [.str z] ∧ z.cps.size ≤ 100000 ∧ ∀ l, H l = none → Q (.ref l) (upd H l (.lst (z.cps.toList.map chV)))) := by
  intro pins s σ H xs us Q I r h
  obtain ⟨z, rfl, hz, q⟩ := h
  obtain ⟨u, rfl, t, rfl⟩ := vals1 r
  have hz' : z.cps.size ≤ sizeLine := Nat.le_of_lt (lineN hz)
  refine call_list_str (I.ok.hd hc) z t (fun h' tk acc c' hk hl hi => ?_) hz'
  have hs := hi.1
  refine ⟨.ref _, _, I.laid (t' := tk) (o := .lst (z.cps.toList.map chV)) hk (Nat.le_refl _) ?_, rfl, q _ (I.hok.fresh (Nat.le_refl _))⟩
  refine ⟨by rw [List.length_map, Array.length_toList]; exact hz', acc.toList, c', vals_at (by rw [List.length_map, Array.length_toList, Array.length_toList, hs]) fun i v u hv hu => ?_, hl⟩
  rw [List.getElem?_map, Array.getElem?_toList] at hv
  rw [Array.getElem?_toList] at hu
  obtain ⟨c, t', hc', rfl⟩ := hi.2 i u hu
  rw [hc'] at hv
  cases hv
  exact ⟨t', rfl⟩
end
theorem ch_inj {a b : Nat} (h : ch a = ch b) : a = b := by
  have : (ch a).cps.toList = (ch b).cps.toList := by rw [h]
  simpa using this
theorem perm_ch {cs : List Nat} {ys : List Str} (h : ys.Perm (cs.map ch)) : ∃ ds : List Nat, ds.Perm cs ∧ ys = ds.map ch := by
  refine ⟨ys.map fun s => s.cps.toList.headD 0, ?_, ?_⟩
  · have := h.map fun s => s.cps.toList.headD 0
    rw [List.map_map] at this
    have e : (fun s : Str => s.cps.toList.headD 0) ∘ ch = id := by funext c; rfl
    rw [e, List.map_id] at this
    exact this
  · rw [List.map_map]
    have : ∀ y ∈ ys, (ch ∘ fun s : Str => s.cps.toList.headD 0) y = id y := fun y hy => by
      obtain ⟨c, _, rfl⟩ := List.mem_map.mp (h.mem_iff.mp hy)
      rfl
    rw [List.map_congr_left this, List.map_id]
theorem one_lt {a b : Nat} : ([a] < [b]) ↔ a < b := by simp [List.cons_lt_cons_iff]
theorem sorted_up : ∀ {cs : List Nat}, cs.Nodup → PyProof.Rows.sortedS (cs.map ch) = true → rising (cs.map fun c => D.str (ch c)) = true
  | [], _, _ => rfl
  | [_], _, _ => rfl
  | a :: b :: r, nd, h => by
    have h' : (!PySem.Spec.ltCps [b] [a] && PyProof.Rows.sortedS ((b :: r).map ch)) = true := h
    rw [Bool.and_eq_true, PyProof.Rows.ltCps_eq, Bool.not_eq_true', decide_eq_false_iff_not, one_lt] at h'
    have ih := sorted_up (cs := b :: r) (List.nodup_cons.mp nd).2 h'.2
    have ne : a ≠ b := fun e => (List.nodup_cons.mp nd).1 (by rw [e]; exact List.mem_cons_self ..)
    have lt : ltD (.str (ch a)) (.str (ch b)) = true := decide_eq_true (one_lt.mpr (by omega))
    unfold rising at ih ⊢
    show (ltD (.str (ch a)) (.str (ch b)) :: steps ((b :: r).map fun c => D.str (ch c))).all id = true
    rw [List.all_cons, ih, lt]
    rfl
theorem sign_ch {S : Str} {c : Nat} (h : c ∈ S.cps.toList) : signD S (.str (ch c)) = true := by
  show (decide ((ch c).length = 1) && inS S (ch c)) = true
  have e : inS S (ch c) = decide (c ∈ S.cps.toList) := PySem.StrLaws.found_one S c
  rw [e, decide_eq_true h]
  rfl
theorem signs_ch {S : Str} {cs : List Nat} (h : ∀ c ∈ cs, c ∈ S.cps.toList) : (cs.map fun c => D.str (ch c)).all (signD S) = true := by
  rw [List.all_eq_true]
  intro d hd
  obtain ⟨c, hc, rfl⟩ := List.mem_map.mp hd
  exact sign_ch (h c hc)
theorem dts_ch {K : PySem.W.Frag} {H : Hp} : ∀ cs : List Nat, DtAll K H (cs.map chV) (cs.map fun c => D.str (ch c))
  | [] => .nil
  | c :: r => .cons (.str _ (show 1 ≤ 100000 by decide)) (dts_ch r)
theorem map_erase {α β : Type} (f : α → β) : ∀ (l : List α) (k : Nat), (l.map f).eraseIdx k = (l.eraseIdx k).map f
  | [], _ => rfl
  | _ :: _, 0 => rfl
  | x :: r, k + 1 => congrArg (f x :: ·) (map_erase f r k)
theorem erase_perm {α : Type} : ∀ {l : List α} {k : Nat} {y : α}, l[k]? = some y → (y :: l.eraseIdx k).Perm l
  | [], _, _, h => by simp at h
  | x :: r, 0, y, h => by
    simp at h
    subst h
    exact List.Perm.refl _
  | x :: r, k + 1, y, h => by
    have ih := erase_perm (l := r) (k := k) (y := y) (by simpa using h)
    show (y :: x :: r.eraseIdx k).Perm (x :: r)
    exact (List.Perm.swap x y _).trans (ih.cons x)
end SL
/-! sorted(texts, reverse=..), any number of them. -/
namespace SL
open PySem PySem.Spec PyProof.Rows L2 SrtO Srt
def sv : Value → List Nat
  | .str s _ => s.cps.toList
  | _ => []
def ltSv (v u : Value) : Bool := decide (sv v < sv u)
theorem swo_sv : Swo ltSv := by
  refine ⟨fun x y h => ?_, fun x y z h1 h2 => ?_⟩
  · have a := of_decide_eq_true (p := sv x < sv y) h
    exact decide_eq_false (p := sv y < sv x) (List.lt_asymm a)
  · have a : sv x ≤ sv y := of_decide_eq_false (p := sv y < sv x) h1
    have b : sv y ≤ sv z := of_decide_eq_false (p := sv z < sv y) h2
    exact decide_eq_false (p := sv z < sv x) (List.le_trans a b)
theorem strs_mem : ∀ {vs : List Value} {ss : List Str}, StrsAre vs ss → ∀ v ∈ vs, ∃ i t, v = Value.str i t
  | _, _, .nil, v, h => absurd h (by simp)
  | _, _, .cons n t r, v, h => by
    rcases List.mem_cons.mp h with e | h
    · exact ⟨n, t, e⟩
    · exact strs_mem r v h
section
variable {prog : Program} {w : World} {A : Around} {E : Value → Shared → Prop} {s : Shared}
theorem strs_cmp {vs : List Value} {ss : List Str} (hI : StrsAre vs ss) : Cmp prog w A s oneType' (fun p => p.1 ∈ vs) (lt2 ltSv) := by
  intro p q hm hm'
  obtain ⟨a, t, e⟩ := strs_mem hI _ hm
  obtain ⟨b, u, e'⟩ := strs_mem hI _ hm'
  show wpAny (model prog w) A (keyLt' oneType' p.1 q.1) (fun r s' => s' = s ∧ r = ltSv p.1 q.1) (fun _ _ => False) s
  rw [e, e', keyLt'_oneType]
  exact oneLt_str ⟨rfl, rfl⟩
theorem strs_sortable {a : Addr} {vs : List Value} {ss : List Str} (hI : StrsAre vs ss) (h2 : 2 ≤ vs.length) : SortableO prog w A s a vs ltSv := by
  intro h' _
  refine ⟨oneType', fun Q E hq => ?_, strs_cmp hI⟩
  match vs, hI, h2 with
  | v1 :: v2 :: rest, hI, _ =>
    rw [keyKind_strs hI]
    exact wpAny_pure hq
  | [], _, h => exact absurd h (by decide)
  | [v], _, h => exact absurd h (by simp)
end
def sOf : Value → Str
  | .str s _ => s
  | _ => Str.empty
theorem strs_of : ∀ {vs : List Value}, (∀ v ∈ vs, ∃ i t, v = Value.str i t) → Vals ((vs.map sOf).map V.str) vs
  | [], _ => .nil
  | v :: vs, h => by
    obtain ⟨i, t, e⟩ := h v List.mem_cons_self
    subst e
    exact .cons ⟨t, rfl⟩ (strs_of fun u hu => h u (List.mem_cons_of_mem _ hu))
theorem sOf_strs : ∀ {vs : List Value} {ss : List Str}, StrsAre vs ss → vs.map sOf = ss
  | _, _, .nil => rfl
  | _, _, .cons n t r => congrArg (n :: ·) (sOf_strs r)
section
variable {X : Cx}
/-- sorted(texts, reverse=True): the same texts, none behind a lesser one -/
theorem cr_sortedRevS : CallRK X (.builtin "sorted") [Str.ofString "reverse"] (fun vs zs H Q => ∃ (a : Addr) (xs : List Str), vs = [V.ref a] ∧ zs = [.bl true] ∧ SqL X.K H a (xs.map V.str) ∧
    ∀ (ys : List Str) (p : Addr), ys.Perm xs → ys.Pairwise (fun x y => ¬ x.cps.toList < y.cps.toList) → H p = none → Q (.ref p) (upd H p (.lst (ys.map V.str)))) := by
  intro pins s σ H vs zs us ws Q I r rz h
  obtain ⟨a, xs, rfl, rfl, hs, q⟩ := h
  obtain rfl := Vals.ref1 r
  obtain ⟨w1, rfl, e1⟩ := vals1 rz
  obtain rfl : w1 = Value.bool true := e1
  obtain ⟨its, rv, hl, hz⟩ := I.list hs
  have hi := rv.strs
  refine SrtR.sorted_ordK (b := true) (fun _ => rfl) (PyProof.Rows.args_sorted_rev _ _) (fun _ => PyProof.Rows.args_list_sort_rev _ _) swo_sv hl.isList (by rw [← rv.length]; exact hz) (fun h2 h₁ a' _ _ => strs_sortable hi h2) fun out h1 h2 => ?_
  have pm : out.Perm its := (h2.perm).trans (List.reverse_perm _)
  have all : ∀ v ∈ out.reverse, ∃ i t, v = Value.str i t := fun v hv => strs_mem hi v (pm.mem_iff.mp (List.mem_reverse.mp hv))
  obtain ⟨ep, he'⟩ := PyProof.Rows.sortedAll_at s.heap its (if true = true then out.toArray.reverse else out.toArray)
  have e0 : (if true = true then out.toArray.reverse else out.toArray) = out.reverse.toArray := by simp
  have len : ((out.reverse.map sOf).map V.str).length ≤ sizeLine := by
    rw [List.length_map, List.length_map, List.length_reverse, pm.length_eq, ← rv.length]
    exact hz
  have pw : (out.reverse.map sOf).Pairwise (fun x y => ¬ x.cps.toList < y.cps.toList) := by
    rw [List.map_reverse, List.pairwise_reverse, List.pairwise_map]
    refine List.Pairwise.imp_of_mem (fun {x y} hx hy h => ?_) h1
    obtain ⟨i, t, rfl⟩ := strs_mem hi x (pm.mem_iff.mp hx)
    obtain ⟨j, u, rfl⟩ := strs_mem hi y (pm.mem_iff.mp hy)
    exact of_decide_eq_false (p := j.cps.toList < i.cps.toList) h
  have pr : (out.reverse.map sOf).Perm xs := by
    have z := ((List.reverse_perm out).trans pm).map sOf
    rw [sOf_strs hi] at z
    exact z
  rw [e0] at he' ⊢
  exact ⟨.ref _, upd H (s.heap.objs.size + 1) (.lst ((out.reverse.map sOf).map V.str)), I.laid (t' := s.toks) (fun _ _ => PyProof.Rows.sortedAll_old) (Nat.le_succ _) ⟨len, _, ep, strs_of all, he'⟩, rfl, q _ _ pr pw (I.hok.fresh (Nat.le_succ _))⟩
end
end SL
/-! sorted(tuples of ints), any number of them; t * n of a tuple; == by an own __eq__, true or not. -/
namespace SL
open PySem PySem.Spec PyProof.Rows L2
section
variable {prog : Program} {w : World} {A : Around} {E : Value → Shared → Prop} {s : Shared}
theorem swo_int (k : Value → Int) : SrtO.Swo fun v u => decide (k v < k u) := by
  refine ⟨fun x y h => ?_, fun x y z h1 h2 => ?_⟩
  · have := of_decide_eq_true h
    exact decide_eq_false (by omega)
  · have := of_decide_eq_false h1
    have := of_decide_eq_false h2
    exact decide_eq_false (by omega)
theorem tup_cmp {d : Nat} {B : Int} {vs : List Value} {k : Value → Int} (x : TS.TupsOk s.heap d B vs) (hr : ∀ v, v ∈ vs → ∀ ns, TS.TupInts s.heap v ns → k v = TS.code B ns) :
    SrtO.Cmp prog w A s (tuples' true) (fun p => p.1 ∈ vs) (SrtO.lt2 fun v u => decide (k v < k u)) := by
  intro p q hp hq
  obtain ⟨ns, tp, lp, bp⟩ := x _ hp
  obtain ⟨ms, tq, lq, bq⟩ := x _ hq
  have ep := hr _ hp _ tp
  have eq2 := hr _ hq _ tq
  show wpAny (model prog w) A (keyLt' (tuples' true) p.1 q.1) (fun r s' => s' = s ∧ r = decide (k p.1 < k q.1)) (fun _ _ => False) s
  rw [ep, eq2]
  obtain ⟨a, xs, e1, ⟨o, ho, hc, n, hdt⟩, i⟩ := tp
  obtain ⟨a', ys, e2, ⟨o', ho', hc', n', hdt'⟩, i'⟩ := tq
  rw [e1, e2]
  refine PySem.W.kat_lt ho hdt ho' hdt' ?_
  have sz : decide (xs.size < ys.size) = false := by
    have l1 := i.length
    have l2 := i'.length
    rw [Array.length_toList] at l1 l2
    exact decide_eq_false (by omega)
  rw [sz]
  exact TS.lex_ints 0 i i' (by omega) bp bq ⟨rfl, rfl⟩
theorem tups_sortable {a : Addr} {d : Nat} {B : Int} {vs : List Value} {k : Value → Int} (hd : 1 ≤ d) (h2 : 2 ≤ vs.length) (x : TS.TupsOk s.heap d B vs) (hr : ∀ v, v ∈ vs → ∀ ns, TS.TupInts s.heap v ns → k v = TS.code B ns)
    (ha : ∀ o, s.heap.get? a = some o → o.cls ≠ .type "tuple") : SrtO.SortableO prog w A s a vs fun v u => decide (k v < k u) := by
  intro h' keep
  have kp : ∀ b o, s.heap.get? b = some o → o.cls = .type "tuple" → h'.get? b = some o := fun b o e c => keep b o (fun z => by subst z; exact ha o e c) e
  have x' : TS.TupsOk h' d B vs := x.keeps kp
  have hr' : ∀ v, v ∈ vs → ∀ ns, TS.TupInts h' v ns → k v = TS.code B ns := fun v hv ns t => by
    obtain ⟨ns0, t0, _⟩ := x v hv
    have e : ns = ns0 := t.ints.symm.trans (t0.keeps kp).ints
    rw [e]
    exact hr v hv ns0 t0
  obtain ⟨fs, kk, hl, hi⟩ := TS.firsts_of hd vs x'
  refine ⟨tuples' true, fun Q E hq => ?_, tup_cmp (s := { s with heap := h' }) x' hr'⟩
  refine PySem.W.kat_kind (T := Value.type "int") kk (by omega) (fun f hf => ?_) rfl ?_
  · obtain ⟨n, t, rfl⟩ := hi f hf
    exact PySem.W.Looks.of_pure rfl
  · have e : (Value.type "int" != Value.type "tuple") = true := by first | decide +kernel | rfl | decide
    rw [e]
    exact hq
theorem sorted_tupsO {l : Addr} {vs : List Value} {d : Nat} {B : Int} {Q : Value → Shared → Prop} (hl : s.heap.IsList l vs.toArray) (hz : vs.length ≤ sizeLine) (hd : 2 ≤ vs.length → 1 ≤ d) (x : TS.TupsOk s.heap d B vs)
    (h : ∀ (h' : Heap) (d : Addr) (out : List Value), out.Perm vs → out.Pairwise (fun u v => TS.code B (TS.intsOf s.heap u) ≤ TS.code B (TS.intsOf s.heap v)) → (∀ b o, s.heap.get? b = some o → h'.get? b = some o) → s.heap.objs.size ≤ d → (∃ n, h'.get? d = some (seqObj "list" out.toArray n)) → Q (.ref d) { s with heap := h' }) :
    wpAny (model prog w) A (call (.builtin "sorted") [.ref l]) Q E s := by
  refine SrtO.sorted_ord (swo_int fun v => TS.code B (TS.intsOf s.heap v)) hl hz (fun h2 h₁ a ha kk => ?_) fun out hs hb => ?_
  · have kp : ∀ b o, s.heap.get? b = some o → o.cls = .type "tuple" → h₁.get? b = some o := fun b o e _ => (kk b o e).2
    refine tups_sortable (s := { s with heap := h₁ }) (hd h2) h2 (x.keeps kp) (fun v hv ns t => ?_) fun o e => ?_
    · obtain ⟨ns0, t0, _⟩ := x v hv
      have e : ns = ns0 := t.ints.symm.trans (t0.keeps kp).ints
      show TS.code B (TS.intsOf s.heap v) = _
      rw [e, t0.ints]
    · have e' : some o = some (seqObj "list" vs.toArray 0) := e.symm.trans ha
      cases e'
      intro c
      exact absurd (Value.type.inj c) (by decide)
  · refine h _ _ out hb.perm (List.Pairwise.imp (fun {u v} q => ?_) hs) (fun b o e => PyProof.Rows.sortedAll_old e) (Nat.le_succ _) (PyProof.Rows.sortedAll_at s.heap vs out.toArray)
    have := of_decide_eq_false q
    omega
end
/-- sorted(xs), xs a list of tuples of d ints in [0, B), any number of them -/
def rSortTA (K : PySem.W.Frag) : List V → Hp → VK → Prop := fun vs H Q => ∃ (a : Addr) (xs : List V) (d : Nat) (B : Int), vs = [V.ref a] ∧ SqL K H a xs ∧ (2 ≤ xs.length → 1 ≤ d) ∧ (∀ x ∈ xs, ∃ ns, TupI K H x ns ∧ ns.length = d ∧ TS.Bd B ns) ∧
  ∀ (ys : List V) (p : Addr), ys.Perm xs → ys.Pairwise (fun x y => ∀ n m, TupI K H x n → TupI K H y m → TS.code B n ≤ TS.code B m) → H p = none → Q (.ref p) (upd H p (.lst ys))
section
variable {X : Cx}
theorem cr_sortTA : CallR X (.builtin "sorted") (rSortTA X.K) := by
  intro pins s σ H vs us Q I r h
  obtain ⟨a, xs, d, B, rfl, hs, hd, hx, q⟩ := h
  obtain ⟨its, rv, hl, hz⟩ := I.list hs
  rw [Vals.ref1 r]
  obtain ⟨e1, e2⟩ := bkV_refs rv fun x m => by
    obtain ⟨ns, ⟨t, e, _⟩, _⟩ := hx x m
    exact ⟨t, e⟩
  refine sorted_tupsO (d := d) (B := B) hl.isList (by rw [← rv.length]; exact hz) (fun z => hd (by rw [rv.length]; exact z)) (fun v hv => ?_) fun h' p out h1 h2 kp hp hn => ?_
  · obtain ⟨t, rfl⟩ := e2 v hv
    have hm : V.ref t ∈ xs := by
      rw [e1]
      exact List.mem_map.mpr ⟨_, hv, rfl⟩
    obtain ⟨ns, ⟨t', e, ht⟩, hn, hb⟩ := hx _ hm
    cases e
    exact ⟨ns, tupI_raw I ht, hn, hb⟩
  · have h3 : ∀ u ∈ out, ∃ a, u = Value.ref a := fun u hu => e2 u (h1.mem_iff.mp hu)
    have hpm : (out.map bkV).Perm xs := by
      rw [e1]
      exact h1.map bkV
    obtain ⟨n, hn⟩ := hn
    refine ⟨.ref p, upd H p (.lst (out.map bkV)), I.laid (t' := s.toks) kp hp ⟨by rw [hpm.length_eq]; exact hz, out, n, bkV_vals h3, hn⟩, rfl, q _ p hpm ?_ (I.hok.fresh hp)⟩
    rw [List.pairwise_map]
    refine List.Pairwise.imp (fun {u v} huv n m hn hm => ?_) h2
    obtain ⟨t, et, ht⟩ := hn
    obtain ⟨t', et', ht'⟩ := hm
    have eu := bkV_ref et
    have ev := bkV_ref et'
    have i1 : TS.intsOf s.heap u = n := by
      rw [eu]
      exact (tupI_raw I ht).ints
    have i2 : TS.intsOf s.heap v = m := by
      rw [ev]
      exact (tupI_raw I ht').ints
    rw [← i1, ← i2]
    exact huv
/-! ### == by an own __eq__ -/
def rOwnEq (C : Addr) (sp : Sp) (E : XK) : R2 := fun x y H Q => ∃ a b dx fs dy gs, x = .ref a ∧ y = .ref b ∧ H a = some (.ins C dx fs) ∧ H b = some (.ins C dy gs) ∧ sp [.ref a, .ref b] H (fun v H' => ∃ r, v = .bl r ∧ Q v H') E
theorem op_ownEq {CX : CXT} {C f : Addr} {fd : FuncData} {ps : List Str} {sp : Sp} {E : XK} {n : Nat} (F : FnOk X.prog X.w X.K X.mg X.base CX n f fd ps sp) (hr : Room n X.A)
    (hs : PySem.W.findIn X.K (.ref C) "__eq__" = some (some (.ref f))) (hf : PySem.W.isFn X.K (.ref f) = true) (hb : Binds X.K fd ps []) (hx : Passes CX X E) : OpR X (compareOp .Eq) (rOwnEq C sp E) := by
  intro pins s σ H x y v u Q I rx ry hq
  obtain ⟨a, b, dx, fs, dy, gs, rfl, rfl, ha, hb', hsp⟩ := hq
  obtain ⟨m0, hF⟩ := I.fr
  cases rx
  cases ry
  show wpAny (model X.prog X.w) X.A (richCompare .Eq (.ref a) (.ref b)) (EP X pins σ Q) X.xe s
  obtain ⟨mA, J, _⟩ := ins_get I.hok ha
  obtain ⟨mB, J', _⟩ := ins_get I.hok hb'
  obtain ⟨od, J, _⟩ := J.look
  obtain ⟨od', J', _⟩ := J'.look
  refine PySem.W.cmp_K (op := .Eq) (tb := .ref C) hr.units0 hF I.ok.mod.kin J J'.type (by simp [PySem.W.notFirst]) hs hf ?_
  have e0 : Env0 X.prog X.w X.K X.mg X.base X.A X.stack s H := I.env0
  have hl := F.len _ _ _ _ hsp
  have r2 : Vals [V.ref a, V.ref b] [Value.ref a, Value.ref b] := .cons rfl (.cons rfl .nil)
  refine wpAny_call (codeAny_mono (F.run X.A X.stack s H ⟨[.ref a, .ref b], []⟩ [.ref a, .ref b] [.ref a, .ref b] _ E hr e0 (by
    have := hb s [.ref a, .ref b] I.kIn (by simpa using hl)
    simpa using this) r2 hsp) fun r s' hq => ?_)
  cases r with
  | error e => exact hx pins σ H s e s' I hq
  | ok fl =>
    cases fl with
    | ret w =>
      obtain ⟨z, H', I', rz, r, rfl, q⟩ := I.after hq
      cases rz
      exact ⟨.bl r, H', I', rfl, q⟩
    | next => exact False.elim hq
    | brk => exact False.elim hq
    | cont => exact False.elim hq
end

/-! ### t * n of a tuple -/
theorem tuple_mul0 (l : Addr) (items : Array Value) (n : Nat) (dd : Option Addr) (sl : Array (Option Value)) (u : Tok) (c1 : items.isEmpty = false) :
    Meets (Builtin.«tuple.__mul__» ⟨[.ref l, .int 0 u], []⟩) (fun _ R s => s.heap.get? l = some { cls := .type "tuple", dict := dd, data := .seq items n, slots := sl } ∧
      R (.ok (.ret (Value.ref s.heap.objs.size))) { s with heap := s.heap.push { cls := Value.type "tuple", data := Data.seq #[] }, toks := s.toks }) :=
  .of_wp fun prog w A R s h => by
    obtain ⟨hp, g, d, tk, os⟩ := s
    obtain ⟨hl, h⟩ := h
    have f1 := AutoSeq1.idx_int
    wp_walk using wpAny_loadPart' hl
    exact ⟨_, rfl, h⟩
theorem tuple_mul1 (l : Addr) (items : Array Value) (n : Nat) (dd : Option Addr) (sl : Array (Option Value)) (u : Tok) (c1 : items.isEmpty = false) :
    Meets (Builtin.«tuple.__mul__» ⟨[.ref l, .int 1 u], []⟩) (fun _ R s => s.heap.get? l = some { cls := .type "tuple", dict := dd, data := .seq items n, slots := sl } ∧
      R (.ok (.ret (Value.ref l))) s) :=
  .of_wp fun prog w A R s h => by
    obtain ⟨hp, g, d, tk, os⟩ := s
    obtain ⟨hl, h⟩ := h
    have f1 := AutoSeq1.idx_int
    wp_walk using wpAny_loadPart' hl
    exact ⟨_, rfl, h⟩

def rRepA (K : PySem.W.Frag) : R2 := fun x y H Q => ∃ (l : Addr) (k : Nat) (xs : List V), x = .ref l ∧ y = .int (k : Int) ∧ SqT K H l xs ∧ xs ≠ [] ∧ k ≤ 1000 ∧ xs.length ≤ 1000 ∧ ∀ p H', Same H H' → SqT K H' p (List.replicate k xs).flatten → Q (.ref p) H'
theorem op_repA {X : Cx} : OpR X (binaryOp .Mult) (rRepA X.K) := by
  intro pins s σ H x y v u Q I rx ry h
  obtain ⟨l, k, xs, rfl, rfl, hT, hne, hk, hz, q⟩ := h
  by_cases k2 : 2 ≤ k
  · refine op_repT pins s σ H _ _ v u Q I rx ry ⟨l, k, xs, rfl, rfl, hT, hne, by omega, by omega, hz, fun p np => ?_⟩
    have e : ((k : Int)).toNat = k := by omega
    rw [e]
    exact q p _ (same_upd np) (SqT.of upd_same)
  · cases rx
    obtain ⟨t, rfl⟩ := ry
    have hT' := hT
    obtain ⟨its, r, ⟨⟨cls, dd, data, sl⟩, ho, hc, n, hd⟩, hs⟩ := I.tuple hT
    simp only at hc hd
    subst hc hd
    have hle : its.length = xs.length := r.length.symm
    have hi : its.toArray.isEmpty = false := by
      cases its with
      | nil =>
        refine absurd (List.eq_nil_of_length_eq_zero ?_) hne
        rw [← hle]
        rfl
      | cons a b => rfl
    have go : ∀ (R : Result → Shared → Prop), True := fun _ => trivial
    by_cases k1 : k = 1
    · subst k1
      refine wpAny_binaryOp_repeat_ref (T := "tuple") (U := "int") (by decide) ⟨_, ho, rfl⟩ (fun s' => typeIs_int s' _ t) noFill_tuple_mul F.fills_int_mul F.slot_int_rmul repeat_tuple F.slot_int_index.lookup
        (call_meets F.slot_int_rmul (typeIs_int s _ t) F.entry_int_rmul (F.args_int_rmul_2 _ _) (int_rmul_tuple _ t l its.toArray n dd sl)
          ⟨ho, rfl, ⟨_, ho, rfl⟩, call_meets F.slot_tuple_mul ⟨_, ho, rfl⟩ F.entry_tuple_mul (F.args_tuple_mul_2 _ _) (tuple_mul1 l its.toArray n dd sl t hi) ⟨ho, ?_⟩⟩)
      refine ⟨.ref l, H, I, rfl, q l H (Same.refl H) ?_⟩
      rw [show (List.replicate 1 xs).flatten = xs by simp]
      exact hT'
    · have k0 : k = 0 := by omega
      subst k0
      refine wpAny_binaryOp_repeat_ref (T := "tuple") (U := "int") (by decide) ⟨_, ho, rfl⟩ (fun s' => typeIs_int s' _ t) noFill_tuple_mul F.fills_int_mul F.slot_int_rmul repeat_tuple F.slot_int_index.lookup
        (call_meets F.slot_int_rmul (typeIs_int s _ t) F.entry_int_rmul (F.args_int_rmul_2 _ _) (int_rmul_tuple _ t l its.toArray n dd sl)
          ⟨ho, rfl, ⟨_, ho, rfl⟩, call_meets F.slot_tuple_mul ⟨_, ho, rfl⟩ F.entry_tuple_mul (F.args_tuple_mul_2 _ _) (tuple_mul0 l its.toArray n dd sl t hi) ⟨ho, ?_⟩⟩)
      refine ⟨.ref s.heap.objs.size, _, I.laid (t' := s.toks) (o := .tup []) (fun b ob q => Heap.get?_push_of_some _ q) (Nat.le_refl _) ⟨Nat.zero_le _, _, .nil, IsTup.new _ _⟩, rfl, q _ _ (same_upd (I.hok.fresh (Nat.le_refl _))) (SqT.of upd_same)⟩
theorem pe_fldK {X : Cx} {e : Expr} {ta : TE} {f : Str} {pos : Pos} (K : PySem.W.Frag) (he : PE X e ta) (hb : attributeBase e f X.env (eval e X.env) = eval e X.env) (h : X.K = K := by rfl) : PE X (.Attribute e f pos) (tFld K ta f) := by
  subst h
  exact pe_fld he hb

/-! ### sum of a tuple of ints -/
section
variable {prog : Program} {w : World} {A : Around} {E : Value → Shared → Prop} {s : Shared} {l : Addr} {its : List Value} {ns : List Int} {Q : Value → Shared → Prop}
theorem sum_rawT (hh : A.handled = none) (hl : s.heap.IsTuple l its.toArray) (hi : IntsAre its ns)
    (h : ∀ h' tk t', (∀ b o, s.heap.get? b = some o → h'.get? b = some o) → Q (.int ns.sum t') { s with heap := h', toks := tk }) : wpAny (model prog w) A (call (.builtin "sum") [.ref l]) Q E s := by
  obtain ⟨xs, e⟩ := hi.allInts.items
  have hn : numsOf (intItems xs).toList = ns := by rw [← e]; exact hi.numsOf
  rw [nums_intItems] at hn
  rw [e] at hl
  refine PySem.W.ktm_sumG hh hl fun h' tk t' hk => ?_
  have := h h' tk t' hk
  rw [preSum_eq, List.take_of_length_le (by simp), hn]; exact this
end
def rSumT (K : PySem.W.Frag) : List V → Hp → VK → Prop := fun vs H Q => ∃ (a : Addr) (ns : List Int), vs = [V.ref a] ∧ SqT K H a (ns.map V.int) ∧ Q (.int ns.sum) H
theorem cr_sumT {X : Cx} (K : PySem.W.Frag) (hc : X.calm = true) (hK : X.K = K := by rfl) : CallR X (.builtin "sum") (rSumT K) := by
  subst hK
  intro pins s σ H vs us Q I r h
  obtain ⟨a, ns, rfl, hs, q⟩ := h
  obtain ⟨its, rv, hl, _⟩ := I.tuple hs
  rw [Vals.ref1 r]
  exact sum_rawT (I.ok.hd hc) hl rv.ints fun h' tk t' hk => ⟨.int _, H, I.kept hk, ⟨_, rfl⟩, q⟩
end SL
/-! != by object's __ne__ over an own __eq__. -/
namespace SL
open PySem PySem.Spec PyProof.Rows L2
open PySem (Builtin.«object.__ne__»)
section
variable {M : Model} {prog : Program} {w : World} {A : Around} {E : Value → Shared → Prop} {s : Shared} {K : PySem.W.Frag} {x y C f : Addr} {ox : Obj} {od : Option Obj}
theorem ifBound_objNe {args : List Value} {Q : Option Value → Shared → Prop} (X : K.In s.heap) (I : PySem.W.InstAt s.heap x ox C od) (hs : PySem.W.findIn K (.ref C) "__ne__" = some (some (.builtin "object.__ne__")))
    (h : wpAny M A (call (.builtin "object.__ne__") (.ref x :: args)) (fun v => Q (some v)) E s) : wpAny M A (callSpecialIfBound? (.ref x) "__ne__" args) Q E s := by
  simp only [callSpecialIfBound?, bindSpecialIfBound?]
  refine wpAny_holding (wpAny_bind (wpAny_bind (wpAny_bind (I.type.here ((PySem.W.looks_findIn X hs).here ?_)))))
  refine wpAny_bind (wpAny_askSetting (wpAny_ite ?_))
  have fin : wpAny M A (call (.builtin "object.__ne__") ([.ref x] ++ args) >>= fun v => pure (some v)) Q E s := wpAny_bind (wpAny_mono h (fun v s' h' => wpAny_pure h') fun _ _ h' => h')
  split
  · exact wpAny_bind (wpAny_of_eq (F.cmp_object.ne.bind _) (wpAny_pure (by exact fin)))
  · exact wpAny_tryCatch (wpAny_bind (wpAny_of_eq (F.cmp_object.ne.bind _) (wpAny_pure (by exact fin))))
theorem objNe_own {Q : Fin → Shared → Prop} (X : K.In s.heap) (I : PySem.W.InstAt s.heap x ox C od) (hs : PySem.W.findIn K (.ref C) "__eq__" = some (some (.ref f))) (hf : PySem.W.isFn K (.ref f) = true) (hu : A.units < cLine)
    (hcall : wpAny (model prog w) A (call (.ref f) [.ref x, .ref y]) (fun v s' => ∃ b, v = .bool b ∧ Q (.done (.ret (.bool (!b)))) s') E s) :
    wpAny (model prog w) A (Builtin.«object.__ne__» ⟨[.ref x, .ref y], []⟩) Q E s := by
  unfold Builtin.«object.__ne__»
  repeat (first
    | with_reducible refine wpAny_cRoomFor hu ?_
    | (refine wpAny_bind (m := callSpecialIfBound? (.ref x) (Str.ofString "__eq__") [.ref y])
        (PySem.W.ifBound_K X I hs hf (wpAny_mono hcall (fun v s' hr => by
          obtain ⟨b, rfl, hq⟩ := hr
          repeat (first | exact hq | exact wpAny_pure hq | exact wpAny_truthy_bool hq | (refine wpAny_bind (m := truthy (.bool _)) (wpAny_truthy_bool ?_)) | wp_step)) fun _ _ e => e)))
    | wp_step)
theorem ne_own {Q : Value → Shared → Prop} {tb : Value} {h₀ : Heap} {L : Addr} {m : Str → Option Value} (hu : A.units + 1 < cLine) (F : Fr h₀ L s.heap m) (X₀ : K.In h₀) (I : PySem.W.InstAt s.heap x ox C od) (hb : PySem.W.Looks (model prog w) s.heap (typeOf (.ref y)) tb) (hn : PySem.W.notFirst K C tb = true)
    (hN : PySem.W.findIn K (.ref C) "__ne__" = some (some (.builtin "object.__ne__"))) (hm : PySem.W.mroIn K C (.type "object") = some true) (hs : PySem.W.findIn K (.ref C) "__eq__" = some (some (.ref f))) (hf : PySem.W.isFn K (.ref f) = true)
    (hcall : wpAny (model prog w) A.in1 (call (.ref f) [.ref x, .ref y]) (fun v s' => ∃ b, v = .bool b ∧ Q (.bool (!b)) s') E s) : wpAny (model prog w) A (richCompare .NotEq (.ref x) (.ref y)) Q E s := by
  have X := X₀.keeps F.keep
  have one : wpAny (model prog w) A (tryCompare (.ref x) "__ne__" (.ref y)) (fun r s' => ∃ v, r = some v ∧ Q v s') E s := by
    unfold tryCompare
    refine wpAny_bind (ifBound_objNe X I hN (wpAny_call (codeAny_call_builtin PySem.F.cmp_object.ne.plain PySem.F.cmpEntry_ne
      (PySem.W.check_slot PySem.F.cmpKind_ne PySem.F.cmpSplit_ne (I.type.andThen (PySem.W.looks_mroIn X hm)) (PySem.F.cmpArgs_ne _ _) (objNe_own (A := A.in1) X I hs hf hu (wpAny_mono hcall (fun v s' hv => ?_) fun _ _ e => e))))))
    obtain ⟨b, rfl, hq⟩ := hv
    first | exact ⟨b, rfl, wpAny_pure ⟨_, rfl, hq⟩⟩ | exact ⟨b, rfl, wpAny_pure (wpAny_pure ⟨_, rfl, hq⟩)⟩
  unfold richCompare
  simp only [oneThing_ref]
  refine wpAny_holding (wpAny_bind (wpAny_cRoomFor (by omega) ?_))
  refine wpAny_bind (I.type.here (wpAny_bind (hb.here ?_)))
  split
  · rename_i q
    have e : PySem.W.subIn K tb (.ref C) = some false := by
      rcases Bool.or_eq_true_iff.mp hn with e | e
      · rw [beq_iff_eq.mp e] at q; simp at q
      · exact beq_iff_eq.mp e
    refine wpAny_bind ((PySem.W.looks_subIn X e).here ?_)
    simp only [Bool.false_eq_true, if_false]
    refine wpAny_bind (wpAny_mono one (fun r s' z => ?_) fun _ _ e => e)
    obtain ⟨v, rfl, hq⟩ := z
    exact wpAny_pure hq
  · refine wpAny_bind (wpAny_pure ?_)
    simp only [Bool.false_eq_true, if_false]
    refine wpAny_bind (wpAny_mono one (fun r s' z => ?_) fun _ _ e => e)
    obtain ⟨v, rfl, hq⟩ := z
    exact wpAny_pure hq
end
/-- != by an own __eq__ -/
def rOwnNe (C : Addr) (sp : Sp) (E : XK) : R2 := fun x y H Q => ∃ a b dx fs dy gs, x = .ref a ∧ y = .ref b ∧ H a = some (.ins C dx fs) ∧ H b = some (.ins C dy gs) ∧ sp [.ref a, .ref b] H (fun v H' => ∃ r : Bool, v = .bl r ∧ Q (.bl (!r)) H') E
section
variable {X : Cx}
theorem op_ownNe {CX : CXT} {C f : Addr} {fd : FuncData} {ps : List Str} {sp : Sp} {E : XK} {n : Nat} (F : FnOk X.prog X.w X.K X.mg X.base CX n f fd ps sp) (hr : Room (n + 1) X.A) (hN : PySem.W.findIn X.K (.ref C) "__ne__" = some (some (.builtin "object.__ne__"))) (hm : PySem.W.mroIn X.K C (.type "object") = some true)
    (hs : PySem.W.findIn X.K (.ref C) "__eq__" = some (some (.ref f))) (hf : PySem.W.isFn X.K (.ref f) = true) (hb : Binds X.K fd ps []) (hx : Passes CX X E) : OpR X (compareOp .NotEq) (rOwnNe C sp E) := by
  intro pins s σ H x y v u Q I rx ry hq
  obtain ⟨a, b, dx, fs, dy, gs, rfl, rfl, ha, hb', hsp⟩ := hq
  obtain ⟨m0, hF⟩ := I.fr
  cases rx
  cases ry
  show wpAny (model X.prog X.w) X.A (richCompare .NotEq (.ref a) (.ref b)) (EP X pins σ Q) X.xe s
  obtain ⟨mA, J, _⟩ := ins_get I.hok ha
  obtain ⟨mB, J', _⟩ := ins_get I.hok hb'
  obtain ⟨od, J, _⟩ := J.look
  obtain ⟨od', J', _⟩ := J'.look
  have hu := hr.units
  refine ne_own (tb := .ref C) (by omega) hF I.ok.mod.kin J J'.type (by simp [PySem.W.notFirst]) hN hm hs hf ?_
  have e0' : Env0 X.prog X.w X.K X.mg X.base X.A X.stack s H := I.env0
  have e0 : Env0 X.prog X.w X.K X.mg X.base X.A.in1 X.stack s H := ⟨e0'.frames, e0'.mod, e0'.bs, e0'.bsz, e0'.funs, e0'.frf, e0'.hok, e0'.bare⟩
  have hl := F.len _ _ _ _ hsp
  have r2 : Vals [V.ref a, V.ref b] [Value.ref a, Value.ref b] := .cons rfl (.cons rfl .nil)
  refine wpAny_call (codeAny_mono (F.run X.A.in1 X.stack s H ⟨[.ref a, .ref b], []⟩ [.ref a, .ref b] [.ref a, .ref b] _ E hr.in1 e0 (by
    have := hb s [.ref a, .ref b] I.kIn (by simpa using hl)
    simpa using this) r2 hsp) fun r s' hq => ?_)
  cases r with
  | error e => exact hx pins σ H s e s' I hq
  | ok fl =>
    cases fl with
    | ret w =>
      obtain ⟨z, H', I', rz, r, rfl, q⟩ := I.after hq
      cases rz
      exact ⟨r, rfl, .bl (!r), H', I', rfl, q⟩
    | next => exact False.elim hq
    | brk => exact False.elim hq
    | cont => exact False.elim hq
end
end SL
namespace SL
open PySem PySem.Spec PyProof.Rows L2
/-- a row that is never come to -/
theorem ps_dead {X : Cx} {st : Stmt} : PS X st (fun _ _ _ => False) := ⟨fun _ _ _ _ _ _ h => h.elim⟩
theorem list_extendT (l : Addr) (items : Array Value) (n : Nat) (b : Addr) (items2 : Array Value) (n2 : Nat) (dd : Option Addr) (sl : Array (Option Value)) (hs0 : ¬(!items.isEmpty && Builtin.List.listTooLong (items.size + items2.size)) = true) (hs1 : items.size ≤ sizeLine) (hs2 : items.size + items2.size ≤ sizeLine + 1) :
    Meets (Builtin.«list.extend» ⟨[.ref l, .ref b], []⟩) (fun _ R s => s.heap.get? l = some { cls := .type "list", dict := none, data := .seq items n, slots := #[] } ∧ s.heap.get? b = some { cls := .type "tuple", dict := dd, data := .seq items2 n2, slots := sl } ∧ R (.ok (.ret Value.none)) { s with heap := s.heap.update l (Obj.mapSeq fun x => x ++ items2), toks := s.toks }) :=
  .of_wp fun prog w A R s h => by
    obtain ⟨hp, g, d, tk, os⟩ := s; obtain ⟨hl, hb, h⟩ := h; have f1 := AutoSeq1.idx_int; have f2 := AutoSeq1.sub_tuple_tuple; have f3 := AutoSeq1.sub_list_list; have f4 := AutoSeq1.sub_tuple_list; have f5 := AutoSeq1.sub_list_tuple;
    have hz' : (items ++ items2).size ≤ sizeLine + 1 := by rw [Array.size_append]; exact hs2
    wp_walk using (wpAny_updateSeq hl rfl (hz := hs1) (_hz' := hz')), wpAny_loadPart' hl, wpAny_loadPart' hb; exact ⟨_, rfl, h⟩
def rExtendT (K : PySem.W.Frag) : V → List V → Hp → VK → Prop := fun x vs H Q => ∃ l b xs zs, x = .ref l ∧ vs = [.ref b] ∧ H l = some (.lst xs) ∧ SqT K H b zs ∧ xs.length + zs.length ≤ sizeLine ∧ Q .non (upd H l (.lst (xs ++ zs)))
/-- xs.extend(t), t a tuple -/
theorem mt_extendT {X : Cx} : MtM X "list.extend" (rExtendT X.K) := by
  intro pins s σ H x vs v us Q I rx rv h
  obtain ⟨l, b, xs, zs, rfl, rfl, hH, hB, hz, q⟩ := h
  cases rx
  obtain ⟨u, rfl, ru⟩ := rv.one
  cases ru
  obtain ⟨z, its, n, r, hl, e⟩ := I.lstM hH
  obtain ⟨its2, r2, ⟨⟨cls, dd, data, sl⟩, ho, hc, n2, hd⟩, hs⟩ := I.tuple hB
  simp only at hc hd
  subst hc hd
  have e1 := r.length
  have e2 := r2.length
  have hsz : its.toArray.size + its2.toArray.size ≤ sizeLine := by rw [List.size_toArray, List.size_toArray]; omega
  have hlong : ¬ (!its.toArray.isEmpty && Builtin.List.listTooLong (its.toArray.size + its2.toArray.size)) = true := by
    rw [notLongL hsz, Bool.and_false]
    exact Bool.false_ne_true
  refine call_meets F.slot_list_extend ⟨_, e, rfl⟩ F.entry_list_extend (F.args_list_extend_2 _ _)
    (list_extendT l its.toArray n b its2.toArray n2 dd sl hlong (by rw [List.size_toArray]; omega) (by omega)) ⟨e, ho, ?_⟩
  refine ⟨.non, _, I.lset (its' := its ++ its2) hH e (by simp) (r.append r2) ?_, rfl, q⟩
  rw [List.length_append]
  omega
end SL
/-! list(zip(t, u)) of two tuples of one length. -/
namespace SL
open PySem PySem.Spec PyProof.Rows L2 RZ
namespace ZF
theorem zip_no_len : typeLookup (.type "zip") "__len__" = pure none := by rw [typeLookup_type, builtinLookup_eq_fast]; kernel_rfl
theorem zip_no_hint : typeLookup (.type "zip") "__length_hint__" = pure none := by rw [typeLookup_type, builtinLookup_eq_fast]; kernel_rfl
end ZF
section
variable {prog : Program} {w : World} {A : Around} {E : Value → Shared → Prop} {s : Shared}
abbrev HeldZip (h : Heap) (z TI TO T : Addr) (b : Bool) : Prop :=
  h.get? z = some { cls := .type "zip", dict := none, data := .fields #[rawInt T, .bool b, .bool false, .ref TI, .ref TO], slots := #[] }
theorem wpAny_alive {M : Model} {a : Addr} {Q : Option Obj → Shared → Prop} (h : Q (s.heap.get? a) s) : wpAny M A (loadIfAlive a) Q E s := fun _ _ _ => h
theorem owned_held {z TI TO T0 : Addr} {b : Bool} {u v : Value} {Q : Bool → Shared → Prop} (hz : HeldZip s.heap z TI TO T0 b) (hT0 : IsPair s.heap T0 u v)
    (hQ : ∀ h', HeldZip h' z TI TO T0 true → (∀ c o, c ≠ z → s.heap.get? c = some o → h'.get? c = some o) → h'.objs.size = s.heap.objs.size → Q false { s with heap := h' }) :
    wpAny (model prog w) A (Builtin.SmallTypes.ownedTupleIsFree (.ref z)) Q E s := by
  unfold Builtin.SmallTypes.ownedTupleIsFree
  refine wpAny_bind (wpAny_field hz rfl (x := rawInt T0) rfl ?_)
  show wpAny _ _ (loadIfAlive ((T0 : Int)).toNat >>= _) _ _ _
  refine wpAny_bind (wpAny_alive ?_)
  rw [show ((T0 : Int)).toNat = T0 from rfl, hT0]
  show wpAny _ _ (field (.ref z) 1 >>= _) _ _ _
  refine wpAny_bind (wpAny_field hz rfl (x := .bool b) rfl ?_)
  cases b with
  | true =>
    refine wpAny_pure ?_
    exact hQ s.heap hz (fun _ _ _ e => e) rfl
  | false =>
    show wpAny _ _ (setField (.ref z) 1 (.bool true) >>= _) _ _ _
    refine wpAny_bind (wpAny_setField_rec hz (by simp) fun h' hz' hs' => wpAny_pure (hQ h' hz' (fun c o c1 e => hs'.extBut _ _ c1 e) hs'.1))
theorem held_item {z TI TO T0 i1 i2 l1 l2 : Addr} {b : Bool} {k1 k2 : Nat} {xs ys : Array Value} {x y u v : Value} {Q : Value → Shared → Prop} (D : ZipApart z TI TO i1 i2 l1 l2)
    (hz : HeldZip s.heap z TI TO T0 b) (hT0 : IsPair s.heap T0 u v) (hTI : IsPair s.heap TI (.ref i1) (.ref i2))
    (h1 : s.heap.IsTupleIter i1 l1 k1) (h2 : s.heap.IsTupleIter i2 l2 k2) (hl1 : s.heap.IsTuple l1 xs) (hl2 : s.heap.IsTuple l2 ys) (hx : xs[k1]? = some x) (hy : ys[k2]? = some y)
    (hQ : ∀ h', HeldZip h' z TI TO T0 true → h'.IsTupleIter i1 l1 (k1 + 1) → h'.IsTupleIter i2 l2 (k2 + 1) → IsPair h' s.heap.objs.size x y → h'.objs.size = s.heap.objs.size + 1 →
      (∀ c o, c ≠ z → c ≠ i1 → c ≠ i2 → s.heap.get? c = some o → h'.get? c = some o) → Q (.ref s.heap.objs.size) { s with heap := h' }) :
    wpAny (model prog w) A (Builtin.«zip.__next__» ⟨[.ref z], []⟩) (fun fin s' => ∃ v, fin = .done (.ret v) ∧ Q v s') E s := by
  show wpAny _ _ (field (.ref z) 2 >>= _) _ _ _
  refine wpAny_bind (wpAny_field hz rfl (x := .bool false) rfl ?_)
  show wpAny _ _ (field (.ref z) 3 >>= _) _ _ _
  refine wpAny_bind (wpAny_field hz rfl (x := .ref TI) rfl ?_)
  refine wpAny_bind (wpAny_seqItems hTI rfl ?_)
  show wpAny _ _ (Builtin.SmallTypes.ownedTupleIsFree (.ref z) >>= _) _ _ _
  refine wpAny_bind (owned_held hz hT0 fun h₁ hz₁ hk₁ hs₁ => ?_)
  simp only [Bool.false_eq_true, if_false, ← Array.forIn_toList, List.forIn_cons, List.forIn_nil]
  have h1₁ : h₁.IsTupleIter i1 l1 k1 := h1.at fun o e => hk₁ _ o D.i1z e
  have h2₁ : h₁.IsTupleIter i2 l2 k2 := h2.at fun o e => hk₁ _ o D.i2z e
  have hl1₁ : h₁.IsTuple l1 xs := by obtain ⟨o, e, r⟩ := hl1; exact ⟨o, hk₁ _ _ D.l1z e, r⟩
  have hl2₁ : h₁.IsTuple l2 ys := by obtain ⟨o, e, r⟩ := hl2; exact ⟨o, hk₁ _ _ D.l2z e, r⟩
  refine wpAny_bind (wpAny_bind (wpAny_bind (wpAny_holding ?_)))
  show wpAny _ _ (Builtin.SmallTypes.nextOf (.ref i1) >>= _) _ _ _
  refine wpAny_bind (nextOf_tuple_item (s := { s with heap := h₁ }) h1₁ hl1₁ hx fun h₂ h1₂ hs₂ => wpAny_pure (wpAny_pure ?_))
  refine wpAny_bind (wpAny_bind (wpAny_holding ?_))
  show wpAny _ _ (Builtin.SmallTypes.nextOf (.ref i2) >>= _) _ _ _
  refine wpAny_bind (nextOf_tuple_item (s := { s with heap := h₂ }) (h2₁.extBut hs₂.extBut D.i12.symm) (hl2₁.extBut hs₂.extBut D.l2i1) hy fun h₃ h2₃ hs₃ => wpAny_pure (wpAny_pure (wpAny_pure ?_)))
  show wpAny _ _ (newTuple [x, y] >>= _) _ _ _
  refine wpAny_bind (wpAny_newTuple (wpAny_pure ⟨_, rfl, ?_⟩))
  have hs1 : h₃.objs.size = s.heap.objs.size := by rw [hs₃.1, hs₂.1]; exact hs₁
  have up : ∀ c o, c ≠ i1 → c ≠ i2 → h₁.get? c = some o → (h₃.push { cls := .type "tuple", data := .seq #[x, y] }).get? c = some o := fun c o c1 c2 e => Heap.get?_push_of_some _ (hs₃.extBut _ _ c2 (hs₂.extBut _ _ c1 e))
  show Q (.ref h₃.objs.size) _
  rw [hs1]
  refine hQ _ (up _ _ D.i1z.symm D.i2z.symm hz₁) ?_ ?_ ?_ ?_ fun c o c1 c2 c3 e => up c o c2 c3 (hk₁ c o c1 e)
  · exact (h1₂.extBut hs₃.extBut D.i12).at fun o e => Heap.get?_push_of_some _ e
  · exact h2₃.at fun o e => Heap.get?_push_of_some _ e
  · rw [← hs1]
    exact Heap.get?_push_size _ rfl
  · rw [Heap.size_push, hs1]
theorem held_end {z TI TO T0 i1 i2 l1 l2 : Addr} {b : Bool} {k1 : Nat} {xs : Array Value} {u v : Value} {Q : Fin → Shared → Prop} (hh : A.handled = none) (D : ZipApart z TI TO i1 i2 l1 l2)
    (hz : HeldZip s.heap z TI TO T0 b) (hT0 : IsPair s.heap T0 u v) (hTI : IsPair s.heap TI (.ref i1) (.ref i2))
    (h1 : s.heap.IsTupleIter i1 l1 k1) (hl1 : s.heap.IsTuple l1 xs) (hend : xs[k1]? = none)
    (hE : ∀ h' e, (∀ c o, c ≠ z → c ≠ i1 → s.heap.get? c = some o → h'.get? c = some o) → (∃ o, h'.get? e = some o ∧ o.cls = .type "StopIteration") → E (.ref e) { s with heap := h' }) :
    wpAny (model prog w) A (Builtin.«zip.__next__» ⟨[.ref z], []⟩) Q E s := by
  show wpAny _ _ (field (.ref z) 2 >>= _) _ _ _
  refine wpAny_bind (wpAny_field hz rfl (x := .bool false) rfl ?_)
  show wpAny _ _ (field (.ref z) 3 >>= _) _ _ _
  refine wpAny_bind (wpAny_field hz rfl (x := .ref TI) rfl ?_)
  refine wpAny_bind (wpAny_seqItems hTI rfl ?_)
  show wpAny _ _ (Builtin.SmallTypes.ownedTupleIsFree (.ref z) >>= _) _ _ _
  refine wpAny_bind (owned_held hz hT0 fun h₁ hz₁ hk₁ hs₁ => ?_)
  simp only [Bool.false_eq_true, if_false, ← Array.forIn_toList, List.forIn_cons, List.forIn_nil]
  have h1₁ : h₁.IsTupleIter i1 l1 k1 := h1.at fun o e => hk₁ _ o D.i1z e
  have hl1₁ : h₁.IsTuple l1 xs := by obtain ⟨o, e, r⟩ := hl1; exact ⟨o, hk₁ _ _ D.l1z e, r⟩
  refine wpAny_bind (wpAny_bind (wpAny_bind (wpAny_holding ?_)))
  show wpAny _ _ (Builtin.SmallTypes.nextOf (.ref i1) >>= _) _ _ _
  refine wpAny_bind (nextOf_tuple_end (s := { s with heap := h₁ }) hh h1₁ hl1₁ hend fun h₂ e hs₂ he => ?_)
  exact hE h₂ e (fun c o c1 c2 q => hs₂ _ _ c2 (hk₁ c o c1 q)) he
/-- the state of a zip whose tuples are kept, at turn i -/
structure ZS (h : Heap) (S z TI TO i1 i2 l1 l2 : Addr) (xs ys : Array Value) (i : Nat) : Prop where
  st : IsZip h z TI TO .none ∨ ∃ T0 b u v, HeldZip h z TI TO T0 b ∧ IsPair h T0 u v ∧ T0 ≠ z ∧ T0 ≠ i1 ∧ T0 ≠ i2 ∧ T0 ≠ S
  tI : IsPair h TI (.ref i1) (.ref i2)
  tO : ∃ a b, IsPair h TO a b
  j1 : h.IsTupleIter i1 l1 i
  j2 : h.IsTupleIter i2 l2 i
  t1 : h.IsTuple l1 xs
  t2 : h.IsTuple l2 ys
theorem ZS.at {h h' : Heap} {S z TI TO i1 i2 l1 l2 : Addr} {xs ys : Array Value} {i : Nat} (Z : ZS h S z TI TO i1 i2 l1 l2 xs ys i) (k : ∀ c o, c ≠ S → h.get? c = some o → h'.get? c = some o)
    (n : z ≠ S ∧ TI ≠ S ∧ TO ≠ S ∧ i1 ≠ S ∧ i2 ≠ S ∧ l1 ≠ S ∧ l2 ≠ S) : ZS h' S z TI TO i1 i2 l1 l2 xs ys i := by
  obtain ⟨n1, n2, n3, n4, n5, n6, n7⟩ := n
  refine ⟨?_, k _ _ n2 Z.tI, Z.tO.elim fun a ⟨b, e⟩ => ⟨a, b, k _ _ n3 e⟩, Z.j1.at fun o e => k _ o n4 e, Z.j2.at fun o e => k _ o n5 e, ?_, ?_⟩
  · rcases Z.st with e | ⟨T0, b, u, v, e, p, q1, q2, q3, q4⟩
    · exact .inl (k _ _ n1 e)
    · exact .inr ⟨T0, b, u, v, k _ _ n1 e, k _ _ q4 p, q1, q2, q3, q4⟩
  · obtain ⟨o, e, r⟩ := Z.t1
    exact ⟨o, k _ _ n6 e, r⟩
  · obtain ⟨o, e, r⟩ := Z.t2
    exact ⟨o, k _ _ n7 e, r⟩
theorem pyNext_kept {S z TI TO i1 i2 l1 l2 : Addr} {i : Nat} {xs ys : Array Value} {x y : Value} {Q : Option Value → Shared → Prop} (D : ZipApart z TI TO i1 i2 l1 l2) (Z : ZS s.heap S z TI TO i1 i2 l1 l2 xs ys i)
    (hS : S < s.heap.objs.size) (hx : xs[i]? = some x) (hy : ys[i]? = some y)
    (hQ : ∀ h', ZS h' S z TI TO i1 i2 l1 l2 xs ys (i + 1) → IsPair h' s.heap.objs.size x y → h'.objs.size = s.heap.objs.size + 1 →
      (∀ c o, c ≠ z → c ≠ TO → c ≠ i1 → c ≠ i2 → s.heap.get? c = some o → h'.get? c = some o) → Q (some (.ref s.heap.objs.size)) { s with heap := h' }) :
    wpAny (model prog w) A (pyNext (.ref z)) Q E s := by
  have tup : ∀ {l : Addr} {ws : Array Value} {h' : Heap}, s.heap.IsTuple l ws → (∀ o, s.heap.get? l = some o → h'.get? l = some o) → h'.IsTuple l ws := fun q k => by
    obtain ⟨o, e, r⟩ := q
    exact ⟨o, k _ e, r⟩
  rcases Z.st with hz | ⟨T0, b, u, v, hz, hT0, n1, n2, n3, n4⟩
  · obtain ⟨a, b, hTO⟩ := Z.tO
    have lt : ∀ {c o}, s.heap.get? c = some o → s.heap.objs.size ≠ c := fun e => Nat.ne_of_gt (Heap.lt_size e)
    refine pyNext_zipT_item D hz Z.tI hTO Z.j1 Z.j2 Z.t1 Z.t2 hx hy fun h' a1 a2 a3 a4 a5 a6 hk => ?_
    refine hQ h' ⟨.inr ⟨_, false, _, _, a1, a5, lt hz, ?_, ?_, Nat.ne_of_gt hS⟩, hk _ _ D.TIz D.TITO D.TIi1 D.TIi2 Z.tI, ⟨_, _, a2⟩, a3, a4, tup Z.t1 fun o e => hk _ o D.l1z D.l1TO D.l1i1 D.l1i2 e, tup Z.t2 fun o e => hk _ o D.l2z D.l2TO D.l2i1 D.l2i2 e⟩ a5 a6 hk
    · obtain ⟨_, e, _⟩ := Z.j1
      exact lt e
    · obtain ⟨_, e, _⟩ := Z.j2
      exact lt e
  · have hT : s.TypeIs (.ref z) "zip" := ⟨_, hz, rfl⟩
    unfold pyNext
    refine wpAny_bind (wpAny_attempt (wpAny_callSpecial?_slot (name := Str.ofString "__next__") hT F.slot_zip_next
      (wpAny_call_entry F.slot_zip_next hT F.entry_zip_next (held_item D hz hT0 Z.tI Z.j1 Z.j2 Z.t1 Z.t2 hx hy fun h' a1 a3 a4 a5 a6 hk => wpAny_pure ?_) (F.args_zip_next_1 _))))
    refine hQ h' ⟨.inr ⟨T0, true, u, v, a1, hk _ _ n1 n2 n3 hT0, n1, n2, n3, n4⟩, hk _ _ D.TIz D.TIi1 D.TIi2 Z.tI, ?_, a3, a4, tup Z.t1 fun o e => hk _ o D.l1z D.l1i1 D.l1i2 e, tup Z.t2 fun o e => hk _ o D.l2z D.l2i1 D.l2i2 e⟩ a5 a6 (fun c o c1 c2 c3 c4 e => hk c o c1 c3 c4 e)
    obtain ⟨a, b, hTO⟩ := Z.tO
    exact ⟨a, b, hk _ _ D.TOz D.TOi1 D.TOi2 hTO⟩
theorem pyNext_kept_end {S z TI TO i1 i2 l1 l2 : Addr} {i : Nat} {xs ys : Array Value} {Q : Option Value → Shared → Prop} (hh : A.handled = none) (D : ZipApart z TI TO i1 i2 l1 l2) (Z : ZS s.heap S z TI TO i1 i2 l1 l2 xs ys i)
    (hend : xs[i]? = none) (hQ : ∀ h', (∀ c o, c ≠ z → c ≠ TO → c ≠ i1 → c ≠ i2 → s.heap.get? c = some o → h'.get? c = some o) → Q none { s with heap := h' }) :
    wpAny (model prog w) A (pyNext (.ref z)) Q E s := by
  rcases Z.st with hz | ⟨T0, b, u, v, hz, hT0, n1, n2, n3, n4⟩
  · obtain ⟨a, b, hTO⟩ := Z.tO
    exact pyNext_zipT_end hh D hz Z.tI hTO Z.j1 Z.j2 Z.t1 Z.t2 (.inl hend) hQ
  · have hT : s.TypeIs (.ref z) "zip" := ⟨_, hz, rfl⟩
    unfold pyNext
    refine wpAny_bind (wpAny_attempt (wpAny_callSpecial?_slot (name := Str.ofString "__next__") hT F.slot_zip_next
      (wpAny_call_entry F.slot_zip_next hT F.entry_zip_next (held_end hh D hz hT0 Z.tI Z.j1 Z.t1 hend fun h' e hk he => ?_) (F.args_zip_next_1 _))))
    obtain ⟨o, ho, hc⟩ := he
    refine wpAny_bind (wpAny_isInstance (T := "StopIteration") (b := true) ⟨o, ho, hc⟩ isSubtype_stop ?_)
    exact wpAny_pure (hQ _ fun c o c1 _ c3 _ e => hk c o c1 c3 e)
/-- what the list holds: the pairs at base, base + 1, .. -/
def PairsAt (h : Heap) (base : Nat) (xs ys : Array Value) (acc : Array Value) (i : Nat) : Prop :=
  acc.size = i ∧ ∀ j, j < i → acc[j]? = some (.ref (base + j)) ∧ ∃ x y, xs[j]? = some x ∧ ys[j]? = some y ∧ IsPair h (base + j) x y
theorem zip_loop {R : Result → Shared → Prop} {N S z TI TO i1 i2 l1 l2 : Addr} {xs ys : Array Value} {base : Nat} {res : Value} (hh : A.handled = none) (D : ZipApart z TI TO i1 i2 l1 l2) (hl : xs.size = ys.size) (hn : xs.size ≤ sizeLine)
    (nS : z ≠ S ∧ TI ≠ S ∧ TO ≠ S ∧ i1 ≠ S ∧ i2 ≠ S ∧ l1 ≠ S ∧ l2 ≠ S) (nw : N ≤ z ∧ N ≤ TO ∧ N ≤ i1 ∧ N ≤ i2 ∧ N ≤ S) (lw : z < base ∧ TO < base ∧ i1 < base ∧ i2 < base ∧ S < base) :
    ∀ (k i : Nat) (s : Shared) (acc : Array Value) (c : Nat), xs.size - i = k → i ≤ xs.size → ZS s.heap S z TI TO i1 i2 l1 l2 xs ys i → s.heap.objs.size = base + i → s.heap.get? S = some { cls := .type "list", dict := none, data := .seq acc c, slots := #[] } → PairsAt s.heap base xs ys acc i →
    (∀ h' acc' c', (∀ b o, b < N → s.heap.get? b = some o → h'.get? b = some o) → h'.get? S = some { cls := .type "list", dict := none, data := .seq acc' c', slots := #[] } → PairsAt h' base xs ys acc' xs.size → R (.ok (.ret res)) { s with heap := h' }) →
    codeAny (model prog w) A (.builtin "list.extend.loop" ⟨[.ref S, .ref z, res], []⟩) R s := by
  obtain ⟨w1, w2, w3, w4, w5⟩ := nw
  obtain ⟨b1, b2, b3, b4, b5⟩ := lw
  have lo : ∀ {a c : Addr}, N ≤ a → c < N → c ≠ a := fun w lc => Nat.ne_of_lt (Nat.lt_of_lt_of_le lc w)
  have up : ∀ {a : Addr} (j : Nat), a < base → base + j ≠ a := fun j b => Nat.ne_of_gt (Nat.lt_of_lt_of_le b (Nat.le_add_right ..))
  have old : ∀ {h h' : Heap}, (∀ c o, c ≠ z → c ≠ TO → c ≠ i1 → c ≠ i2 → h.get? c = some o → h'.get? c = some o) → ∀ c o, c < N → h.get? c = some o → h'.get? c = some o := fun q c o lc e => q c o (lo w1 lc) (lo w2 lc) (lo w3 lc) (lo w4 lc) e
  intro k
  induction k with
  | zero =>
    intro i s acc c hk hi Z hsz hS hacc hR
    have hin : i = xs.size := by omega
    subst hin
    refine codeAny_builtin F.entry_extend_loop ?_
    rw [Around.under_plainId F.plain_extend_loop _]
    show wpAny _ A.in1 (pyNext (.ref z) >>= _) _ _ s
    refine wpAny_bind (pyNext_kept_end (A := A.in1) hh D Z (by simp) fun h' hk' => ?_)
    refine wpAny_pure (hR h' acc c (old hk') (hk' _ _ nS.1.symm nS.2.2.1.symm nS.2.2.2.1.symm nS.2.2.2.2.1.symm hS) ⟨hacc.1, fun j hj => ?_⟩)
    obtain ⟨e1, x, y, e2, e3, p⟩ := hacc.2 j hj
    exact ⟨e1, x, y, e2, e3, hk' _ _ (up j b1) (up j b2) (up j b3) (up j b4) p⟩
  | succ k ih =>
    intro i s acc c hk hi Z hsz hS hacc hR
    have hlt : i < xs.size := by omega
    have hx : xs[i]? = some xs[i] := Array.getElem?_eq_getElem hlt
    have hy : ys[i]? = some (ys[i]'(by omega)) := Array.getElem?_eq_getElem (by omega)
    refine codeAny_builtin F.entry_extend_loop ?_
    rw [Around.under_plainId F.plain_extend_loop _]
    show wpAny _ A.in1 (pyNext (.ref z) >>= _) _ _ s
    refine wpAny_bind (pyNext_kept D Z (Heap.lt_size hS) hx hy fun h' Z' p' hsz' hk' => ?_)
    have hS' := hk' _ _ nS.1.symm nS.2.2.1.symm nS.2.2.2.1.symm nS.2.2.2.2.1.symm hS
    rw [hsz] at p' hsz' ⊢
    show wpAny _ A.in1 (updateSeq S (·.push (.ref (base + i))) >>= _) _ _ _
    refine wpAny_bind ?_
    have keep : ∀ b o, b ≠ S → h'.get? b = some o → (h'.update S (Obj.mapSeq (·.push (.ref (base + i))))).get? b = some o := fun b o hb e => (Heap.get?_update_other _ _ (Ne.symm hb)).trans e
    refine wpAny_updateSeq hS' rfl (wpAny_pure ⟨plainId_quiet F.plain_extend_loop _, ih (i + 1) _ (acc.push _) _ (by omega) hlt (Z'.at keep nS) ?_ (Heap.get?_update_self _ hS' rfl) ⟨by rw [Array.size_push, hacc.1], fun j hj => ?_⟩ fun h2 acc' c' q1 q2 q3 => hR h2 acc' c' (fun b o lb e => q1 b o lb (keep b o (lo w5 lb) (old hk' b o lb e))) q2 q3⟩)
      (by rw [hacc.1]; omega) (by show (acc.push _).size ≤ sizeLine + 1; rw [Array.size_push, hacc.1]; omega)
    · show (h'.update S _).objs.size = base + (i + 1)
      rw [Heap.size_update, hsz']
      omega
    · by_cases hji : j = i
      · subst hji
        refine ⟨?_, _, _, hx, hy, keep _ _ (up _ b5) p'⟩
        rw [Array.getElem?_push, hacc.1, if_pos rfl]
      · obtain ⟨e1, x, y, e2, e3, p⟩ := hacc.2 j (by omega)
        refine ⟨?_, x, y, e2, e3, keep _ _ (up j b5) (hk' _ _ (up j b1) (up j b2) (up j b3) (up j b4) p)⟩
        rw [Array.getElem?_push, hacc.1, if_neg hji]
        exact e1
theorem call_list_zipT {N z TI TO i1 i2 l1 l2 : Addr} {xs ys : Array Value} {Q : Value → Shared → Prop} (hh : A.handled = none) (D : ZipApart z TI TO i1 i2 l1 l2) (hl : xs.size = ys.size) (hn : xs.size ≤ sizeLine)
    (nw : N ≤ z ∧ N ≤ TO ∧ N ≤ i1 ∧ N ≤ i2) (lw : z < s.heap.objs.size ∧ TI < s.heap.objs.size ∧ TO < s.heap.objs.size ∧ i1 < s.heap.objs.size ∧ i2 < s.heap.objs.size ∧ l1 < s.heap.objs.size ∧ l2 < s.heap.objs.size) (hN : N ≤ s.heap.objs.size)
    (hz : IsZip s.heap z TI TO .none) (hTI : IsPair s.heap TI (.ref i1) (.ref i2)) (hTO : ∃ a b, IsPair s.heap TO a b) (h1 : s.heap.IsTupleIter i1 l1 0) (h2 : s.heap.IsTupleIter i2 l2 0) (hl1 : s.heap.IsTuple l1 xs) (hl2 : s.heap.IsTuple l2 ys)
    (hQ : ∀ h' acc' c', (∀ b o, b < N → s.heap.get? b = some o → h'.get? b = some o) → h'.get? s.heap.objs.size = some { cls := .type "list", dict := none, data := .seq acc' c', slots := #[] } → PairsAt h' (s.heap.objs.size + 1) xs ys acc' xs.size → Q (.ref s.heap.objs.size) { s with heap := h' }) :
    wpAny (model prog w) A (call (.type "list") [.ref z]) Q E s := by
  obtain ⟨w1, w2, w3, w4⟩ := nw
  obtain ⟨b1, b2, b3, b4, b5, b6, b7⟩ := lw
  have Z0 : ZS s.heap s.heap.objs.size z TI TO i1 i2 l1 l2 xs ys 0 := ⟨.inl hz, hTI, hTO, h1, h2, hl1, hl2⟩
  have nS : z ≠ s.heap.objs.size ∧ TI ≠ s.heap.objs.size ∧ TO ≠ s.heap.objs.size ∧ i1 ≠ s.heap.objs.size ∧ i2 ≠ s.heap.objs.size ∧ l1 ≠ s.heap.objs.size ∧ l2 ≠ s.heap.objs.size := ⟨Nat.ne_of_lt b1, Nat.ne_of_lt b2, Nat.ne_of_lt b3, Nat.ne_of_lt b4, Nat.ne_of_lt b5, Nat.ne_of_lt b6, Nat.ne_of_lt b7⟩
  refine callType_codes (Q₁ := fun obj s₁ => obj = .ref s.heap.objs.size ∧ s₁ = { s with heap := s.heap.push { cls := .type "list", data := .seq #[] } }) F.called_list (F.typeCall_list_1 _) F.entry_list_init
    (code_list_new _ ⟨rfl, rfl⟩) fun obj s₁ h₁ => ?_
  obtain ⟨rfl, rfl⟩ := h₁
  have hS : (s.heap.push { cls := .type "list", data := .seq #[] }).get? s.heap.objs.size = some { cls := .type "list", data := .seq #[] } := Heap.get?_push_size _ rfl
  refine ⟨⟨_, hS, rfl⟩, F.args_list_init_2 _ _, ?_⟩
  show wpAny _ A.in1.in1 (do let old ← Builtin.List.listItems (.ref s.heap.objs.size); Builtin.List.listUpdate (.ref s.heap.objs.size) (fun _ => #[]); letGo old.toList.reverse; Builtin.List.listExtendWith (.ref s.heap.objs.size) (.ref z) .none) _ _ _
  refine wpAny_bind ?_
  unfold Builtin.List.listItems
  refine wpAny_bind (wpAny_seqItems hS rfl (wpAny_pure ?_))
  show wpAny _ A.in1.in1 (updateSeq s.heap.objs.size (fun _ => #[]) >>= fun _ => letGo (#[] : Array Value).toList.reverse >>= fun _ => Builtin.List.listExtendWith (.ref s.heap.objs.size) (.ref z) .none) _ _ _
  refine wpAny_bind (wpAny_updateSeq hS rfl ?_)
  have hS2 := Heap.get?_update_self (Obj.mapSeq (fun _ => (#[] : Array Value))) hS rfl
  refine wpAny_bind (wpAny_letGo ?_)
  unfold Builtin.List.listExtendWith
  have up : ∀ (h : Heap) (f : Obj → Obj), (∀ b o, b ≠ s.heap.objs.size → s.heap.get? b = some o → h.get? b = some o) → ∀ b o, b ≠ s.heap.objs.size → s.heap.get? b = some o → (h.update s.heap.objs.size f).get? b = some o := fun h f q b o n e =>
    (Heap.get?_update_other _ _ (Ne.symm n)).trans (q b o n e)
  have k1 : ∀ b o, b ≠ s.heap.objs.size → s.heap.get? b = some o → (s.heap.push { cls := .type "list", data := .seq #[] }).get? b = some o := fun b o _ e => Heap.get?_push_of_some _ e
  have k2 := up _ (Obj.mapSeq (fun _ => (#[] : Array Value))) k1
  refine wpAny_bind (wpAny_typeOf (T := "zip") ⟨_, k2 _ _ nS.1 hz, rfl⟩ ?_)
  have h1' : Builtin.List.listSameRef (.ref s.heap.objs.size) (.ref z) = false := by simp [Builtin.List.listSameRef, Ne.symm nS.1]
  have h2' : (Value.type "zip" == Value.type "list") = false := by decide
  have h3' : (Value.type "zip" == Value.type "tuple") = false := by decide
  simp only [h1', h2', h3', Bool.or_false, Bool.false_eq_true, if_false]
  refine wpAny_bind (wpAny_pyIter_zip (s := { s with heap := _ }) (k2 _ _ nS.1 hz) ?_)
  refine wpAny_bind (wpAny_holding ?_)
  unfold Builtin.List.listLengthHint
  refine wpAny_bind (wpAny_specialOf (T := "zip") ⟨_, k2 _ _ nS.1 hz, rfl⟩ ZF.zip_no_len ?_)
  show wpAny _ A.in1.in1 (specialOf (Value.ref z) (Str.ofString "__length_hint__") >>= _) _ _ _
  refine wpAny_bind (wpAny_specialOf (T := "zip") ⟨_, k2 _ _ nS.1 hz, rfl⟩ ZF.zip_no_hint ?_)
  refine wpAny_pure ?_
  show wpAny _ A.in1.in1 (rule "list.extend.makes-room" >>= fun _ => Builtin.List.listTouch (.ref s.heap.objs.size) >>= fun _ =>
    again (.builtin "list.extend.loop" ⟨[.ref s.heap.objs.size, .ref z, .none], []⟩)) _ _ _
  refine wpAny_bind (wpAny_rule ?_)
  refine wpAny_bind ?_
  show wpAny _ A.in1.in1 (updateSeq s.heap.objs.size (·.push .none) >>= fun _ => updateSeq s.heap.objs.size (·.pop)) _ _ _
  refine wpAny_bind (wpAny_updateSeq hS2 rfl ?_)
  have hS3 := Heap.get?_update_self (Obj.mapSeq (·.push Value.none)) hS2 rfl
  refine wpAny_updateSeq (hz := by seq_fits) hS3 rfl ?_
  have hS4 := Heap.get?_update_self (Obj.mapSeq (·.pop)) hS3 rfl
  have k4 := up _ (Obj.mapSeq (·.pop)) (up _ (Obj.mapSeq (·.push Value.none)) k2)
  refine wpAny_pure ⟨plainId_quiet F.plain_extend_loop _, ?_⟩
  refine zip_loop (N := N) (A := A.in1) (base := s.heap.objs.size + 1) hh D hl hn nS ⟨w1, w2, w3, w4, hN⟩ ⟨Nat.lt_succ_of_lt b1, Nat.lt_succ_of_lt b3, Nat.lt_succ_of_lt b4, Nat.lt_succ_of_lt b5, Nat.lt_succ_self _⟩ (xs.size - 0) 0 _ #[] _ rfl (Nat.zero_le _) (Z0.at k4 nS) ?_ hS4 ⟨rfl, fun j hj => absurd hj (Nat.not_lt_zero j)⟩ fun h' acc' c' q1 q2 q3 => ⟨rfl, hQ h' acc' c' (fun b o lb e => q1 b o lb (k4 b o (Nat.ne_of_lt (Nat.lt_of_lt_of_le lb hN)) e)) q2 q3⟩
  show (((((s.heap.push _).update _ _).update _ _).update _ _)).objs.size = _
  rw [Heap.size_update, Heap.size_update, Heap.size_update, Heap.size_push]
end
/-- each is a new tuple -/
def NewTups (H1 H2 : Hp) : List V → List (List V) → Prop := Paired fun p c => ∃ a, p = V.ref a ∧ H1 a = none ∧ H2 a = some (.tup c)
theorem newTups_of {H1 H2 : Hp} : ∀ {ps : List V} {cs : List (List V)}, ps.length = cs.length → (∀ (j : Nat) (p : V) (c : List V), ps[j]? = some p → cs[j]? = some c → ∃ a, p = V.ref a ∧ H1 a = none ∧ H2 a = some (.tup c)) → NewTups H1 H2 ps cs
  | [], [], _, _ => .nil
  | [], _ :: _, e, _ => by cases e
  | _ :: _, [], e, _ => by cases e
  | p :: ps, c :: cs, e, h => .cons (h 0 p c rfl rfl) (newTups_of (by simpa using e) fun j x y hx hy => h (j + 1) x y (by simpa using hx) (by simpa using hy))
/-- list(zip(t, u)) -/
def tListZip (K : PySem.W.Frag) (ta : TA) : TE := fun σ H Q => ta σ H fun vs H1 => ∃ a b xs ys, vs = [.ref a, .ref b] ∧ SqT K H1 a xs ∧ SqT K H1 b ys ∧ xs.length = ys.length ∧ xs.length ≤ 100000 ∧
  ∀ H2 l ps, Same H1 H2 → H1 l = none → H2 l = some (.lst ps) → Tups K H2 ps ((xs.zip ys).map fun p => [p.1, p.2]) → NewTups H1 H2 ps ((xs.zip ys).map fun p => [p.1, p.2]) → Q (.ref l) H2
theorem tups_of {K : PySem.W.Frag} {H : Hp} : ∀ {ps : List V} {cs : List (List V)}, ps.length = cs.length → (∀ (j : Nat) (p : V) (c : List V), ps[j]? = some p → cs[j]? = some c → ∃ a, p = V.ref a ∧ SqT K H a c) → Tups K H ps cs
  | [], [], _, _ => .nil
  | [], _ :: _, e, _ => by cases e
  | _ :: _, [], e, _ => by cases e
  | p :: ps, c :: cs, e, h => .cons (h 0 p c rfl rfl) (tups_of (by simpa using e) fun j x y hx hy => h (j + 1) x y (by simpa using hx) (by simpa using hy))
theorem vals_atZ : ∀ {vs : List V} {us : List Value}, vs.length = us.length → (∀ (i : Nat) (v : V) (u : Value), vs[i]? = some v → us[i]? = some u → RelV v u) → Vals vs us
  | [], [], _, _ => .nil
  | [], _ :: _, e, _ => by cases e
  | _ :: _, [], e, _ => by cases e
  | v :: vs, u :: us, e, h => .cons (h 0 v u rfl rfl) (vals_atZ (by simpa using e) fun i x y hx hy => h (i + 1) x y (by simpa using hx) (by simpa using hy))
/-- the heap with the list and the pairs -/
theorem fin_zip {N : Nat} {xs ys : List V} {H1 : Hp} {G : Prop} (fr : ∀ b, N ≤ b → H1 b = none) (hl : xs.length = ys.length)
    (k : ∀ H2 : Hp, (∀ b, b < N → H2 b = H1 b) → H2 (N + 5) = some (.lst ((List.range xs.length).map fun j => V.ref (N + 6 + j))) →
      (∀ b u, N ≤ b → H2 b = some u → (b = N + 5 ∧ u = .lst ((List.range xs.length).map fun j => V.ref (N + 6 + j))) ∨ ∃ j x y, b = N + 6 + j ∧ xs[j]? = some x ∧ ys[j]? = some y ∧ u = .tup [x, y]) →
      (∀ j x y, xs[j]? = some x → ys[j]? = some y → H2 (N + 6 + j) = some (.tup [x, y])) → G) : G := by
  refine k (fun b => if N + 6 ≤ b then (match xs[b - (N + 6)]?, ys[b - (N + 6)]? with | some x, some y => some (.tup [x, y]) | _, _ => none) else if b = N + 5 then some (.lst ((List.range xs.length).map fun j => V.ref (N + 6 + j))) else H1 b) (fun b hb => ?_) ?_ (fun b u hb e => ?_) (fun j x y hx hy => ?_)
  · show (if N + 6 ≤ b then _ else _) = _
    rw [if_neg (by omega), if_neg (Nat.ne_of_lt (Nat.lt_of_lt_of_le hb (Nat.le_add_right _ _)))]
  · show (if N + 6 ≤ N + 5 then _ else _) = _
    rw [if_neg (by omega), if_pos rfl]
  · have e' : (if N + 6 ≤ b then (match xs[b - (N + 6)]?, ys[b - (N + 6)]? with | some x, some y => some (HO.tup [x, y]) | _, _ => none) else if b = N + 5 then some (.lst ((List.range xs.length).map fun j => V.ref (N + 6 + j))) else H1 b) = some u := e
    by_cases h1 : N + 6 ≤ b
    · rw [if_pos h1] at e'
      cases hx : xs[b - (N + 6)]? with
      | none =>
        rw [hx] at e'
        cases e'
      | some x =>
        cases hy : ys[b - (N + 6)]? with
        | none =>
          rw [hx, hy] at e'
          cases e'
        | some y =>
          rw [hx, hy] at e'
          cases e'
          exact .inr ⟨b - (N + 6), x, y, (Nat.add_sub_cancel' h1).symm, hx, hy, rfl⟩
    · rw [if_neg h1] at e'
      by_cases h2 : b = N + 5
      · rw [if_pos h2] at e'
        cases e'
        exact .inl ⟨h2, rfl⟩
      · rw [if_neg h2, fr b hb] at e'
        cases e'
  · show (if N + 6 ≤ N + 6 + j then _ else _) = _
    rw [if_pos (by omega), show N + 6 + j - (N + 6) = j by omega, hx, hy]
theorem pe_listZip {X : Cx} {e e2 : Expr} {ta : TA} {p p2 pos pos2 : Pos} (K : PySem.W.Frag) (hc : X.calm = true) (hg1 : Gl X "list") (hm1 : X.mg "list" = none) (hg : Gl X "zip") (hm : X.mg "zip" = none) (ha : PA X [e, e2] ta) (hK : X.K = K := by rfl)
    (hs : starEach [e, e2] X.env = (false, eval e X.env) :: starEach [e2] X.env := by rfl) (hpl : (backTo pos2 (starEach [e2] X.env)).any (·.1) = false := by rfl)
    (hs1 : starEach [.Call (.Name "zip" p2) [e, e2] [] pos2] X.env = (false, eval (.Call (.Name "zip" p2) [e, e2] [] pos2) X.env) :: starEach [] X.env := by rfl) (hpl1 : (backTo pos (starEach [] X.env)).any (·.1) = false := by rfl) :
    PE X (.Call (.Name "list" p) [.Call (.Name "zip" p2) [e, e2] [] pos2] [] pos) (tListZip K ta) := by
  subst hK
  refine ⟨fun pins s σ H Q I h => ?_⟩
  refine Call_ (ld_blt I hg1 hm1 (u := .type "list") (by decide +kernel) (PyProof.Rows.callWith_type1 ?_ hs1 hpl1))
  rw [hs1]
  refine Calls.spliced_cons ?_
  refine Call_ (ld_blt I hg hm PyProof.Rows.boot_zip (PyProof.Rows.callWith_type1 (thn (ha.run pos2 pins s σ H _ I h) fun us s1 ⟨vs, H1, I1, r1, q1⟩ => ?_) hs hpl))
  obtain ⟨a, b, xs, ys, ex, hqx, hqy, hl, hz, q⟩ := q1
  subst ex
  cases r1 with
  | cons r rr =>
    cases rr with
    | cons r' rr =>
      cases rr
      cases r
      cases r'
      obtain ⟨its, rv, p1, _⟩ := I1.tuple hqx
      obtain ⟨its2, rv2, p2, _⟩ := I1.tuple hqy
      have l1 := rv.length
      have l2 := rv2.length
      obtain ⟨o1, ho1, _⟩ := id p1
      obtain ⟨o2, ho2, _⟩ := id p2
      have la : a < s1.heap.objs.size := Heap.lt_size ho1
      have lb : b < s1.heap.objs.size := Heap.lt_size ho2
      refine call_zipT (show s1.heap.IsTuple a its.toArray from p1) (show s1.heap.IsTuple b its2.toArray from p2) fun h' hz' hTI hTO h1 h2 hsz hk => Calls.spliced_nil ?_
      have hz5 : its.toArray.size ≤ sizeLine := by
        rw [List.size_toArray, ← l1]
        exact Nat.le_of_lt (lineN hz)
      have tup : ∀ {l : Addr} {ws : Array Value}, s1.heap.IsTuple l ws → h'.IsTuple l ws := fun q => by
        obtain ⟨o, e, r⟩ := q
        exact ⟨o, hk _ _ e, r⟩
      refine call_list_zipT (s := { s1 with heap := h' }) (N := s1.heap.objs.size) (I.ok.hd hc) (PySem.W.ktu_apart s1.heap.objs.size a b la lb) (by rw [List.size_toArray, List.size_toArray, ← l1, ← l2]; exact hl) hz5
        ⟨Nat.le_add_right _ _, Nat.le_add_right _ _, Nat.le_refl _, Nat.le_add_right _ _⟩ (by rw [hsz]; exact ⟨Nat.add_lt_add_left (by decide) _, Nat.add_lt_add_left (by decide) _, Nat.add_lt_add_left (by decide) _, Nat.lt_add_of_pos_right (by decide), Nat.add_lt_add_left (by decide) _, Nat.lt_of_lt_of_le la (Nat.le_add_right _ _), Nat.lt_of_lt_of_le lb (Nat.le_add_right _ _)⟩) (by rw [hsz]; exact Nat.le_add_right _ _) hz' hTI ⟨_, _, hTO⟩ h1 h2 (tup p1) (tup p2) fun h2' acc' c' k1 hS hP => ?_
      have kold : ∀ c o, s1.heap.get? c = some o → h2'.get? c = some o := fun c o e => k1 c o (Heap.lt_size e) (hk c o e)
      have hSz : h'.objs.size = s1.heap.objs.size + 5 := hsz
      have hS' : h2'.get? (s1.heap.objs.size + 5) = some { cls := .type "list", dict := none, data := .seq acc' c', slots := #[] } := by
        rw [← hSz]
        exact hS
      have hP' : PairsAt h2' (s1.heap.objs.size + 6) its.toArray its2.toArray acc' its.toArray.size := by
        have z := hP
        rw [show ({ s1 with heap := h' } : Shared).heap.objs.size + 1 = s1.heap.objs.size + 6 by show h'.objs.size + 1 = _; rw [hSz]] at z
        exact z
      generalize hN : s1.heap.objs.size = N at *
      have hlN : ∀ b u, H1 b = some u → b < N := fun b u e => by
        rw [← hN]
        exact (I1.hok b u e).lt
      have hfr : ∀ b, N ≤ b → H1 b = none := fun b e => I1.hok.fresh (by rw [hN]; exact e)
      refine fin_zip (N := N) (xs := xs) (ys := ys) (H1 := H1) (fun b e => hfr b e) hl (fun H2 hlo hS2 hT2 hT3 => ?_)
      have un : Un X.fs [] H1 H2 s1.heap h2' := ⟨fun b o q n _ _ => kold b o q, fun b o q n _ _ => ⟨o.slots, kold b o q⟩, fun b o q n _ => by rw [hlo b (by rw [← hN]; exact Heap.lt_size q)]; exact n, fun b o q _ => ⟨o, kold b o q⟩,
        fun b us q => by rw [hlo b (hlN _ _ q)]; exact q, fun b o u q => by rw [hlo b (hlN _ _ q)]; exact q, fun b qs q => ⟨#[], by rw [hlo b (hlN _ _ q), q]; simp⟩⟩
      have hok : HOk X.prog X.w H2 h2' := fun b u e => by
        by_cases hb : b < N
        · rw [hlo b hb] at e
          refine (I1.hok b u e).stay (fun c v _ z => kold c v z) (fun d z => by rw [hlo d (hlN _ _ z)]; exact z) fun d us z => by rw [hlo d (hlN _ _ z)]; exact z
        · rcases hT2 b u (Nat.le_of_not_lt hb) e with ⟨rfl, rfl⟩ | ⟨j, x, y, rfl, hx, hy, rfl⟩
          · refine ⟨by rw [List.length_map, List.length_range]; exact Nat.le_of_lt (lineN hz), acc'.toList, c', vals_atZ ?_ fun i v u hv hu => ?_, by rw [hS']⟩
            · have z := hP'.1
              rw [List.size_toArray] at z
              rw [List.length_map, List.length_range]
              exact l1.trans z.symm
            · rw [List.getElem?_map] at hv
              by_cases hi : i < xs.length
              · rw [List.getElem?_range hi] at hv
                cases hv
                have z := (hP'.2 i (by rw [List.size_toArray, ← l1]; exact hi)).1
                rw [Array.getElem?_toList, z] at hu
                cases hu
                rfl
              · rw [List.getElem?_eq_none (by rw [List.length_range]; omega)] at hv
                cases hv
          · obtain ⟨u1, hu1, ru1⟩ := rv.get hx
            obtain ⟨u2, hu2, ru2⟩ := rv2.get hy
            obtain ⟨_, x', y', ex, ey, p⟩ := hP'.2 j (by rw [List.size_toArray, ← l1]; exact (List.getElem?_eq_some_iff.mp hx).1)
            rw [List.getElem?_toArray, hu1] at ex
            rw [List.getElem?_toArray, hu2] at ey
            cases ex
            cases ey
            exact ⟨by show 2 ≤ sizeLine; decide, [u1, u2], .cons ru1 (.cons ru2 .nil), ⟨_, p, rfl, _, rfl⟩⟩
      refine ⟨.ref _, H2, I1.un (t' := s1.toks) un hok, rfl, ?_⟩
      rw [show ({ s1 with heap := h' } : Shared).heap.objs.size = N + 5 from hSz]
      have sm : Same H1 H2 := fun b o e => by
        rw [hlo b (hlN _ _ e)]
        exact e
      have at_ : ∀ (j : Nat) (p : V) (c : List V), ((List.range xs.length).map fun j => V.ref (N + 6 + j))[j]? = some p → ((xs.zip ys).map fun p => [p.1, p.2])[j]? = some c → ∃ a, p = V.ref a ∧ H1 a = none ∧ H2 a = some (.tup c) := fun j p c hp hc => by
        rw [List.getElem?_map] at hp hc
        by_cases hj : j < xs.length
        · have hx : xs[j]? = some xs[j] := List.getElem?_eq_getElem hj
          have hy : ys[j]? = some (ys[j]'(by omega)) := List.getElem?_eq_getElem (by omega)
          rw [List.getElem?_range hj] at hp
          cases hp
          have hzz : (xs.zip ys)[j]? = some (xs[j], ys[j]'(by omega)) := by
            rw [List.getElem?_zip_eq_some]
            exact ⟨hx, hy⟩
          rw [hzz] at hc
          cases hc
          exact ⟨_, rfl, hfr _ (Nat.le_trans (Nat.le_add_right _ 6) (Nat.le_add_right _ _)), hT3 j _ _ hx hy⟩
        · rw [List.getElem?_eq_none (by rw [List.length_range]; omega)] at hp
          cases hp
      have ll : ((List.range xs.length).map fun j => V.ref (N + 6 + j)).length = ((xs.zip ys).map fun p => [p.1, p.2]).length := by rw [List.length_map, List.length_map, List.length_range, List.length_zip]; omega
      exact q H2 _ _ sm (hfr _ (Nat.le_add_right _ _)) hS2 (tups_of ll fun j p c hp hc => let ⟨a, e, _, h⟩ := at_ j p c hp hc; ⟨a, e, SqT.of h⟩) (newTups_of ll at_)
end SL
/-! max and min of a tuple of ints. -/
namespace SL
open PySem PySem.Spec PyProof.Rows L2
section
variable {prog : Program} {w : World} {A : Around} {E : Value → Shared → Prop} {s : Shared} {l : Addr} {its : List Value} {ns : List Int} {Q : Value → Shared → Prop}
theorem iter_intTup {xs : Array (Int × Tok)} (hl : s.heap.IsTuple l (intItems xs))
    (h : ∀ s₂ : Shared, s₂ = { s with heap := s.heap.push { cls := .type "tuple_iterator", data := .fields #[.ref l, .int 0 0] } } →
      (s₂.heap.IsTupleIter s.heap.objs.size l 0 ∧ s₂.heap.IsTuple l (intItems xs)) → (∀ b ∈ [s.heap.objs.size, l], b < s₂.heap.objs.size) → l ≠ s.heap.objs.size → Q (.ref s.heap.objs.size) s₂) :
    wpAny (model prog w) A (pyIter (.ref l)) Q E s := by
  have hlt : l < s.heap.objs.size := by obtain ⟨_, e, _⟩ := hl; exact Heap.lt_size e
  refine wpAny_pyIter_tuple hl (h _ rfl ⟨⟨_, Heap.get?_push_size _ rfl, rfl, rfl⟩, hl.push _⟩ (fun b hb => ?_) (Nat.ne_of_lt hlt))
  show b < (s.heap.push _).objs.size
  rw [Heap.size_push]
  rcases List.mem_cons.mp hb with rfl | hb
  · exact Nat.lt_succ_self _
  · rcases List.mem_cons.mp hb with rfl | hb
    · exact Nat.lt_succ_of_lt hlt
    · cases hb
theorem max_rawT (hh : A.handled = none) (hl : s.heap.IsTuple l its.toArray) (hi : IntsAre its ns) (hne : 0 < ns.length)
    (h : ∀ h' tk M t', (∀ b o, s.heap.get? b = some o → h'.get? b = some o) → M ∈ ns → (∀ a, a ∈ ns → a ≤ M) → Q (.int M t') { s with heap := h', toks := tk }) : wpAny (model prog w) A (call (.builtin "max") [.ref l]) Q E s := by
  obtain ⟨xs, e⟩ := hi.allInts.items
  have hn : numsOf (intItems xs).toList = ns := by rw [← e]; exact hi.numsOf
  rw [nums_intItems] at hn
  subst hn
  rw [e] at hl
  have hsz : 0 < xs.size := by simpa using hne
  have key : ∀ v h' tk, (intItems xs)[argBest (fun i j => decide (numAt xs i > numAt xs j)) (xs.size - 1)]? = some v → (∀ b o, s.heap.get? b = some o → h'.get? b = some o) → Q v { s with heap := h', toks := tk } := fun v h' tk hv hk => by
    obtain ⟨t, rfl⟩ := intItems_at hv
    obtain ⟨h1, h2⟩ := argBest_gt (numAt xs) (xs.size - 1)
    refine h h' tk _ t hk ?_ fun a ha => ?_
    · rw [numAt_eq]; exact PySem.getD_mem (by rw [List.length_map, Array.length_toList]; omega)
    · obtain ⟨j, hj, rfl⟩ := mem_getD ha
      rw [List.length_map, Array.length_toList] at hj
      rw [← numAt_eq]; exact h2 j (by omega)
  refine call_max_walk (iter_intTup hl fun s₂ e st hfp hlI => ?_)
  subst e
  refine ⟨_, _, _, _, _, _, _, rfl, Walks.tuple (A := A.in1) hh _ l hlI (intItems xs), st, hfp, by simpa [intItems] using hsz, CmpOf.ints_gt (numAt xs) (fun _ _ => intItems_at), fun v h' tk hP hk => ?_⟩
  exact key v h' tk (by simpa [intItems] using hP) fun b o e => hk b o (fun hb => absurd (Heap.lt_size e) ((List.mem_singleton.mp hb) ▸ Nat.lt_irrefl _)) (Heap.get?_push_of_some _ e)
theorem min_rawT (hh : A.handled = none) (hl : s.heap.IsTuple l its.toArray) (hi : IntsAre its ns) (hne : 0 < ns.length)
    (h : ∀ h' tk M t', (∀ b o, s.heap.get? b = some o → h'.get? b = some o) → M ∈ ns → (∀ a, a ∈ ns → M ≤ a) → Q (.int M t') { s with heap := h', toks := tk }) : wpAny (model prog w) A (call (.builtin "min") [.ref l]) Q E s := by
  obtain ⟨xs, e⟩ := hi.allInts.items
  have hn : numsOf (intItems xs).toList = ns := by rw [← e]; exact hi.numsOf
  rw [nums_intItems] at hn
  subst hn
  rw [e] at hl
  have hsz : 0 < xs.size := by simpa using hne
  have key : ∀ v h' tk, (intItems xs)[argBest (fun i j => decide (numAt xs i < numAt xs j)) (xs.size - 1)]? = some v → (∀ b o, s.heap.get? b = some o → h'.get? b = some o) → Q v { s with heap := h', toks := tk } := fun v h' tk hv hk => by
    obtain ⟨t, rfl⟩ := intItems_at hv
    obtain ⟨h1, h2⟩ := argBest_lt (numAt xs) (xs.size - 1)
    refine h h' tk _ t hk ?_ fun a ha => ?_
    · rw [numAt_eq]; exact PySem.getD_mem (by rw [List.length_map, Array.length_toList]; omega)
    · obtain ⟨j, hj, rfl⟩ := mem_getD ha
      rw [List.length_map, Array.length_toList] at hj
      rw [← numAt_eq]; exact h2 j (by omega)
  refine call_min_walk (iter_intTup hl fun s₂ e st hfp hlI => ?_)
  subst e
  refine ⟨_, _, _, _, _, _, _, rfl, Walks.tuple (A := A.in1) hh _ l hlI (intItems xs), st, hfp, by simpa [intItems] using hsz, CmpOf.ints_lt (numAt xs) (fun _ _ => intItems_at), fun v h' tk hP hk => ?_⟩
  exact key v h' tk (by simpa [intItems] using hP) fun b o e => hk b o (fun hb => absurd (Heap.lt_size e) ((List.mem_singleton.mp hb) ▸ Nat.lt_irrefl _)) (Heap.get?_push_of_some _ e)
end
def rMaxT (K : PySem.W.Frag) : List V → Hp → VK → Prop := fun vs H Q => ∃ (a : Addr) (ns : List Int), vs = [V.ref a] ∧ SqT K H a (ns.map V.int) ∧ 0 < ns.length ∧ ∀ m, m ∈ ns → (∀ y, y ∈ ns → y ≤ m) → Q (.int m) H
def rMinT (K : PySem.W.Frag) : List V → Hp → VK → Prop := fun vs H Q => ∃ (a : Addr) (ns : List Int), vs = [V.ref a] ∧ SqT K H a (ns.map V.int) ∧ 0 < ns.length ∧ ∀ m, m ∈ ns → (∀ y, y ∈ ns → m ≤ y) → Q (.int m) H
theorem cr_maxT {X : Cx} (K : PySem.W.Frag) (hc : X.calm = true) (hK : X.K = K := by rfl) : CallR X (.builtin "max") (rMaxT K) := by
  subst hK
  intro pins s σ H vs us Q I r h
  obtain ⟨a, ns, rfl, hs, hne, q⟩ := h
  obtain ⟨its, rv, hl, _⟩ := I.tuple hs
  rw [Vals.ref1 r]
  exact max_rawT (I.ok.hd hc) hl rv.ints hne fun h' tk m t' hk h1 h2 => ⟨.int _, H, I.kept hk, ⟨_, rfl⟩, q m h1 h2⟩
theorem cr_minT {X : Cx} (K : PySem.W.Frag) (hc : X.calm = true) (hK : X.K = K := by rfl) : CallR X (.builtin "min") (rMinT K) := by
  subst hK
  intro pins s σ H vs us Q I r h
  obtain ⟨a, ns, rfl, hs, hne, q⟩ := h
  obtain ⟨its, rv, hl, _⟩ := I.tuple hs
  rw [Vals.ref1 r]
  exact min_rawT (I.ok.hd hc) hl rv.ints hne fun h' tk m t' hk h1 h2 => ⟨.int _, H, I.kept hk, ⟨_, rfl⟩, q m h1 h2⟩
end SL
/-! comprehensions with two fors: the outer over a range, the inner over a list. -/
namespace SL
open PySem PySem.Spec PyProof.Rows L2
theorem o_range {lo : Int} {n : Nat} {g : TG} {tt : TT} {vs : List Nat} {σ : L2.St} {H1 : Hp} {D : Addr} {Qd : Hp → Prop} {B : L2.St → Hp → (Hp → Prop) → Prop} (Pv : Nat → Hp → Prop) (h0 : Pv 0 (upd H1 D (.lst [])))
    (hs : ∀ i H, i < n → Pv i H → g (.int (lo + i)) (wipe σ vs) H fun σ2 H2 => wipe σ2 vs = wipe σ vs ∧ tt σ2 H2 fun b H3 => if b = true then B σ2 H3 (Pv (i + 1)) else Pv (i + 1) H3) (hd : ∀ H, Pv n H → Qd H) :
    ∃ W : Nat → Nat → Hp → Prop, (∃ m, W 0 m (upd H1 D (.lst []))) ∧ ∀ i m H, W i m H →
      ((Itr lo n).stop i H ∧ Qd H) ∨ ((Itr lo n).go i H ∧ ∃ Nx : Hp → Prop, (∀ H', Nx H' → ∃ m', m' < m ∧ W (i + 1) m' H') ∧ ∀ x H', (Itr lo n).yld i H x H' → g x (wipe σ vs) H' fun σ2 H2 => wipe σ2 vs = wipe σ vs ∧ tt σ2 H2 fun b H3 =>
        if b = true then B σ2 H3 Nx else Nx H3) := by
  refine ⟨fun i m H => m = n - i ∧ i ≤ n ∧ Pv i H, ⟨n, by simp, Nat.zero_le _, h0⟩, ?_⟩
  rintro i m H ⟨rfl, hi, p⟩
  by_cases hlt : i < n
  · refine .inr ⟨hlt, Pv (i + 1), fun H' p' => ⟨n - (i + 1), by omega, rfl, hlt, p'⟩, fun x H' y => ?_⟩
    obtain ⟨e, y⟩ := y
    subst e y
    exact hs i _ hlt p
  · have e : i = n := by omega
    subst e
    exact .inl ⟨Nat.le_refl _, hd H p⟩
theorem i_list {K : PySem.W.Frag} {a : Addr} {xs : List V} {g : TG} {tt : TT} {te : TE} {vs : List Nat} {σ : L2.St} {H1 : Hp} {D : Addr} {Nx : Hp → Prop} (Pv : Nat → Hp → Prop) (h0 : Pv 0 H1) (hl : ∀ i H, i ≤ xs.length → Pv i H → SqL K H a xs)
    (hs : ∀ i x H, xs[i]? = some x → Pv i H → g x (wipe σ vs) H fun σ2 H2 => wipe σ2 vs = wipe σ vs ∧ tt σ2 H2 fun b H3 =>
      if b = true then te σ2 H3 fun y H4 => ∃ acc, H4 D = some (.lst acc) ∧ acc.length < sizeLine ∧ Pv (i + 1) (upd H4 D (.lst (acc ++ [y]))) else Pv (i + 1) H3) (hd : ∀ H, Pv xs.length H → Nx H) :
    ∃ W : Nat → Nat → Hp → Prop, (∃ m, W 0 m H1) ∧ ∀ i m H, W i m H →
      ((Itl K a).stop i H ∧ Nx H) ∨ ((Itl K a).go i H ∧ ∃ Nx1 : Hp → Prop, (∀ H', Nx1 H' → ∃ m', m' < m ∧ W (i + 1) m' H') ∧ ∀ x H', (Itl K a).yld i H x H' → g x (wipe σ vs) H' fun σ2 H2 => wipe σ2 vs = wipe σ vs ∧ tt σ2 H2 fun b H3 =>
        if b = true then te σ2 H3 fun y H4 => ∃ acc, H4 D = some (.lst acc) ∧ acc.length < sizeLine ∧ Nx1 (upd H4 D (.lst (acc ++ [y]))) else Nx1 H3) := by
  refine ⟨fun i m H => m = xs.length - i ∧ i ≤ xs.length ∧ Pv i H, ⟨xs.length, by simp, Nat.zero_le _, h0⟩, ?_⟩
  rintro i m H ⟨rfl, hi, p⟩
  have q := hl i H hi p
  by_cases hlt : i < xs.length
  · refine .inr ⟨⟨xs, xs[i], q, by simp [hlt]⟩, Pv (i + 1), fun H' p' => ⟨xs.length - (i + 1), by omega, rfl, hlt, p'⟩, fun x H' y => ?_⟩
    obtain ⟨e, y⟩ := y
    subst e
    exact hs i x _ (y xs q) p
  · have e : i = xs.length := by omega
    subst e
    exact .inl ⟨⟨xs, q, Nat.le_refl _⟩, hd H p⟩
theorem units65 {k : Nat} {A : Around} (r : Room k A) : A.units + 65 < cLine := by have := r.un; omega
end SL
/-! sums and slices of tuples that the heap tracks: the result is tracked, too. -/
namespace SL
open PySem PySem.Spec PyProof.Rows L2
section
variable {X : Cx}
def rCatX : R2 := fun x y H Q => ∃ a b xs ys, x = .ref a ∧ y = .ref b ∧ H a = some (.tup xs) ∧ H b = some (.tup ys) ∧ xs.length + ys.length ≤ 100000 ∧ ∀ c H', Same H H' → H' c = some (.tup (xs ++ ys)) → Q (.ref c) H'
theorem op_catX (K : PySem.W.Frag) (h : X.K = K := by rfl) : OpR X (binaryOp .Add) rCatX := by
  subst h
  intro pins s σ H x y v u Q I rx ry z
  obtain ⟨a, b, xs, ys, e1, e2, ha, hb, hz, q⟩ := z
  refine op_catA pins s σ H x y v u Q I rx ry ⟨a, b, xs, ys, e1, e2, SqT.of ha, SqT.of hb, Nat.le_of_lt (lineN hz), fun e => ?_, fun _ e => ?_, fun _ _ p np => ?_⟩
  · subst e
    exact q b H (Same.refl H) hb
  · subst e
    exact q a H (Same.refl H) (by rw [List.append_nil]; exact ha)
  · exact q p _ (same_upd np) upd_same
def rSlX : V → Option Int → Option Int → Hp → VK → Prop := fun x lo hi H Q => ∃ a xs, x = .ref a ∧ H a = some (.tup xs) ∧ ∀ c H', Same H H' → H' c = some (.tup (cutV xs lo hi)) → Q (.ref c) H'
theorem sl_tupX (K : PySem.W.Frag) (h : X.K = K := by rfl) : SlR X rSlX := by
  subst h
  intro pins s σ H x v vl vu lo hi sl Q I rx hs pl pu z
  obtain ⟨a, xs, e, hx, q⟩ := z
  refine sl_tupA pins s σ H x v vl vu lo hi sl Q I rx hs pl pu ⟨a, xs, e, SqT.of hx, fun w => q a H (Same.refl H) ?_, fun _ p np => q p _ (same_upd np) upd_same⟩
  unfold cutV
  rw [w.1, w.2, List.drop_zero, Nat.sub_zero, List.take_length]
  exact hx
end
end SL
/-! sum(d.values()) of a dict with int values. -/
namespace SL
open PySem PySem.Spec PyProof.Rows L2
def tSumVals (td : TE) : TE := fun σ H Q => td σ H fun x H1 => ∃ (a : Addr) (kvs : List (Key × V)) (is : List Int), x = V.ref a ∧ H1 a = some (.dK kvs) ∧ kvs.map (·.2) = is.map V.int ∧ Q (.int is.sum) H1
section
variable {X : Cx} {o : Expr} {p pos apos mpos : Pos} {td : TE}
theorem pre_getD (is : List Int) : ∀ j, j ≤ is.length → preSum (fun i => is.getD i 0) j = (is.take j).sum
  | 0, _ => by simp [preSum]
  | j + 1, h => by
    have e : is[j]? = some (is[j]'(by omega)) := List.getElem?_eq_getElem (by omega)
    rw [preSum, pre_getD is j (by omega), List.take_add_one, e, List.sum_append, List.getD_eq_getElem?_getD, e]
    simp
theorem sum_getD (is : List Int) : preSum (fun i => is.getD i 0) is.length = is.sum := by
  rw [pre_getD is _ (Nat.le_refl _), List.take_length]
theorem pe_sumVals (hc : X.calm = true) (hg : Gl X "sum") (hm : X.mg "sum" = none) (hd : PE X o td) (hbase : attributeBase o "values" X.env (eval o X.env) = eval o X.env := by rfl) (hline : (apos.endLine == mpos.line) = true := by rfl)
    (hse : starEach [Expr.Call (.Attribute o "values" apos) [] [] mpos] X.env = [(false, eval (Expr.Call (.Attribute o "values" apos) [] [] mpos) X.env)] := by rfl) :
    PE X (.Call (.Name "sum" p) [.Call (.Attribute o "values" apos) [] [] mpos] [] pos) (tSumVals td) := by
  refine ⟨fun pins s σ H Q I h => ?_⟩
  refine wpAny_Call_Name_kw (ld_blt I hg hm (u := .builtin "sum") (by first | rfl | decide +kernel) ?_ (by first | decide +kernel | decide) (by first | decide +kernel | decide))
  rw [hse]
  refine PySem.callWith_builtin1 (wpAny_Call_method0_late hbase hline (thn (hd.run pins s σ H _ I h) fun v s1 ⟨x, H1, I1, r1, a, kvs, is, ex, ha, hv, q⟩ => ?_))
  subst ex
  obtain rfl : v = Value.ref a := r1
  obtain ⟨_, hsys, vs, rel, dof⟩ := dk_of I1.hok ha
  obtain ⟨ep, dat⟩ := dof.dictAt
  obtain ⟨ob, es, ho, ex, _⟩ := id dat
  refine ⟨"dict", "dict.values", F.plainAttrs_dict, F.slot_dict_values, F.type_dict_values, ⟨ob, ho, ex.1⟩, fun b e => ?_, Calls.callWith_builtin rfl (PySem.evalArgs_none ?_)⟩
  · cases e
    exact ⟨ob, ho, ex.2.1⟩
  refine call_meetsIn F.slot_dict_values ⟨ob, ho, ex.1⟩ F.entry_dict_values (F.args_dict_values_1 _) (meets_dict_values (mixKind X.prog X.w) a hsys) ⟨⟨vs, dof⟩, ?_⟩
  have k1 : ∀ b u, s1.heap.get? b = some u → (s1.heap.push { cls := .type "dict_values", data := .fields #[.ref a] }).get? b = some u := fun b u e => Heap.get?_push_of_some _ e
  have dat1 : (s1.heap.push { cls := .type "dict_values", data := .fields #[.ref a] }).DictAt (mixKind X.prog X.w) a vs ep := dat.keep k1
  have hlv : vs.length = is.length := by
    have e1 := congrArg List.length hv
    rw [List.length_map, List.length_map] at e1
    rw [← e1]
    exact (KV.length rel).symm
  have hval : ∀ (i : Nat) (v : Value), (∃ k, vs[i]? = some (k, v)) → ∃ t, v = Value.int (is.getD i 0) t := fun i v ⟨k, hk⟩ => by
    obtain ⟨x, h1, h2⟩ := KV.at' rel hk
    have e1 : (kvs.map (·.2))[i]? = some x := by rw [List.getElem?_map, h1] <;> rfl
    rw [hv, List.getElem?_map] at e1
    obtain ⟨j, hj, e2⟩ := Option.map_eq_some_iff.mp e1
    subst e2
    obtain ⟨t, e3⟩ := h2
    refine ⟨t, ?_⟩
    rw [e3, List.getD_eq_getElem?_getD, hj] <;> rfl
  refine call_sum_walkAnyS (wpAny_pyIter_values (v := s1.heap.objs.size) (d := a) ⟨_, Heap.get?_push_size _ rfl, rfl, rfl⟩ dat1 ?_)
  have hlt : a < s1.heap.objs.size := Heap.lt_size ho
  have hsz : (s1.heap.push { cls := .type "dict_values", data := .fields #[.ref a] }).objs.size = s1.heap.objs.size + 1 := Heap.size_push _ _
  refine ⟨_, _, _, _, _, _, _, fun i => is.getD i 0, rfl, (Walks.dictValues (knd := mixKind X.prog X.w) (A := X.A.in1) (I.ok.hd hc) (s1.heap.push { cls := .type "dict_values", data := .fields #[.ref a] }).objs.size a (by rw [hsz]; exact Nat.ne_of_lt (Nat.lt_succ_of_lt hlt)) vs ep).toS,
    ⟨⟨_, Heap.get?_push_size _ rfl, rfl, rfl⟩, dat1.keep fun b u e => Heap.get?_push_of_some _ e⟩, fun b hb => ?_, hval, fun s' t' hm' => ?_⟩
  · show b < ((s1.heap.push _).push _).objs.size
    rw [Heap.size_push, Heap.size_push]
    rw [hsz] at hb
    rcases List.mem_cons.mp hb with e | hb
    · rw [e]
      exact Nat.lt_succ_self _
    · have e : b = a := List.mem_singleton.mp hb
      rw [e]
      exact Nat.lt_succ_of_lt (Nat.lt_succ_of_lt hlt)
  · obtain ⟨h', g', d', tk', os'⟩ := s'
    have e1 : g' = s1.gens := hm'.gens
    have e2 : d' = s1.drawn := hm'.drawn
    have e3 : os' = s1.os := hm'.os
    subst e1 e2 e3
    rw [hlv, sum_getD]
    refine ⟨.int _, H1, I1.kept (t' := tk') fun b u e => hm'.heap b u (fun hmem => ?_) (Heap.get?_push_of_some _ (k1 b u e)), ⟨_, rfl⟩, q⟩
    have e1 : b = (s1.heap.push { cls := .type "dict_values", data := .fields #[.ref a] }).objs.size := List.mem_singleton.mp hmem
    have e2 := Heap.lt_size e
    rw [hsz] at e1
    rw [e1] at e2
    exact absurd e2 (Nat.not_lt.mpr (Nat.le_succ _))
end
end SL
/-! min(d.values(), default=x) of a dict with int values. -/
namespace SL
open PySem PySem.Spec PyProof.Rows L2
section
variable {prog : Program} {w : World} {A : Around} {R : Result → Shared → Prop} {I : Addr} {fp wr : List Addr} {n : Nat} {P : Nat → Value → Prop} {St : Nat → Heap → Prop}
theorem min_bp (d : Value) : Builtin.Builtins.bindParams "min" ["key", "default"] 0 ⟨[], [(Str.ofString "default", d)]⟩ = pure [none, some d] := by
  rfl
theorem min_args (v d : Value) : argsOk "min" ⟨[v], [(Str.ofString "default", d)]⟩ := by
  rfl
theorem min_loopD {d : Value} (W : Walks prog w A.in1 I fp wr n P St) (bt : Nat → Nat → Bool) (hc : CmpOf prog w A.in1 CmpOp.Lt P bt) (S : Addr) (nS : ¬ S ∈ fp) :
    ∀ (k j : Nat) (s : Shared) (vb : Value) (c : Nat), n - (j + 1) = k → j + 1 ≤ n → St (j + 1) s.heap → P (argBest bt j) vb → s.heap.get? S = some { cls := .type "list", data := .seq #[vb, vb] c } →
      (∀ (v : Value) (h' : Heap) (tk : Nat), P (argBest bt (n - 1)) v → (∀ b o, ¬ b ∈ wr → b ≠ S → s.heap.get? b = some o → h'.get? b = some o) → R (.ok (.ret v)) { s with heap := h', toks := tk }) →
      codeAny (model prog w) A (.builtin "min.loop" ⟨[.ref I, .none, .ref S], [(Str.ofString "default", d)]⟩) R s := by
  have nSw : ¬ S ∈ wr := fun z => nS (W.sub _ z)
  intro k
  induction k with
  | zero =>
    intro j s vb c hk hj hst hP hS hR
    have hn : n = j + 1 := by omega
    subst hn
    refine codeAny_builtin F.entry_min_loop ?_
    rw [Around.under_plainId F.plain_min_loop _]
    show wpAny _ A.in1 (seqItems? (.ref S) >>= _) _ _ s
    refine wpAny_bind (wpAny_seqItems hS rfl ?_)
    show wpAny _ A.in1 (tryCatch (pyNext (.ref I)) _ >>= _) _ _ s
    refine wpAny_bind (wpAny_tryCatch (W.done s _ _ hst fun h' tk hk' => ?_))
    have hS' := hk' _ _ nSw hS
    show wpAny _ A.in1 (updateSeq S (fun _ => #[]) >>= fun _ => letGo [vb] [vb] >>= fun _ => ret vb) _ _ _
    refine wpAny_bind (wpAny_updateSeq hS' rfl (wpAny_bind (wpAny_letGo (wpAny_pure ?_))) (by show 2 ≤ sizeLine; decide) (by show 0 ≤ sizeLine + 1; exact Nat.zero_le _))
    refine hR vb _ tk hP fun b o hb hbS e => ?_
    exact (Heap.get?_update_other _ _ (Ne.symm hbS)).trans (hk' _ _ hb e)
  | succ k ih =>
    intro j s vb c hk hj hst hP hS hR
    refine codeAny_builtin F.entry_min_loop ?_
    rw [Around.under_plainId F.plain_min_loop _]
    show wpAny _ A.in1 (seqItems? (.ref S) >>= _) _ _ s
    refine wpAny_bind (wpAny_seqItems hS rfl ?_)
    show wpAny _ A.in1 (tryCatch (pyNext (.ref I)) _ >>= _) _ _ s
    refine wpAny_bind (wpAny_tryCatch (W.item (j + 1) s _ _ (by omega) hst fun v h' tk hv hst' hk' => ?_))
    have hS' := hk' _ _ nSw hS
    show wpAny _ A.in1 (tryCatch (holding [v, v] (richCompare CmpOp.Lt v vb >>= fun answer => holding [answer] (truthy answer) >>= fun yes => letGo [answer] >>= fun _ => pure yes)) _ >>= _) _ _ _
    refine wpAny_bind (wpAny_tryCatch (wpAny_holding (wpAny_bind (hc _ _ _ _ _ _ _ hv hP (wpAny_bind (wpAny_holding (wpAny_truthy_bool (wpAny_bind (wpAny_letGo (wpAny_pure ?_))))))))))
    have sub : ∀ b o, ¬ b ∈ wr → b ≠ S → s.heap.get? b = some o → (h'.update S (Obj.mapSeq fun _ => #[v, v])).get? b = some o := fun b o hb hbS e => (Heap.get?_update_other _ _ (Ne.symm hbS)).trans (hk' _ _ hb e)
    cases hb : bt (j + 1) (argBest bt j) with
    | true =>
      show wpAny _ A.in1 (updateSeq S (fun _ => #[v, v]) >>= fun _ => letGo [vb, vb] >>= fun _ => again (.builtin "min.loop" ⟨[.ref I, .none, .ref S], [(Str.ofString "default", d)]⟩)) _ _ _
      refine wpAny_bind (wpAny_updateSeq hS' rfl (wpAny_bind (wpAny_letGo (wpAny_pure ⟨plainId_quiet F.plain_min_loop _, ?_⟩))) (by show 2 ≤ sizeLine; decide) (by show 2 ≤ sizeLine + 1; decide))
      refine ih (j + 1) _ v _ (by omega) (by omega) (W.frame _ _ _ hst' fun b hb o e => (Heap.get?_update_other _ _ (fun z => nS (by rw [z]; exact hb))).trans e) ?_ (Heap.get?_update_self _ hS' rfl) fun u h2 tk2 h1 h3 => hR u h2 tk2 h1 fun b o q1 q2 e => h3 b o q1 q2 (sub b o q1 q2 e)
      rw [show argBest bt (j + 1) = j + 1 from if_pos hb]
      exact hv
    | false =>
      show wpAny _ A.in1 (letGo [v, v] >>= fun _ => again (.builtin "min.loop" ⟨[.ref I, .none, .ref S], [(Str.ofString "default", d)]⟩)) _ _ _
      refine wpAny_bind (wpAny_letGo (wpAny_pure ⟨plainId_quiet F.plain_min_loop _, ?_⟩))
      refine ih (j + 1) _ vb _ (by omega) (by omega) hst' ?_ hS' fun u h2 tk2 h1 h3 => hR u h2 tk2 h1 fun b o q1 q2 e => h3 b o q1 q2 (hk' _ _ q1 e)
      rw [show argBest bt (j + 1) = argBest bt j from if_neg (by rw [hb]; decide)]
      exact hP
theorem min_firstD {d : Value} (W : Walks prog w A.in1 I fp wr n P St) (bt : Nat → Nat → Bool) (hc : CmpOf prog w A.in1 CmpOp.Lt P bt) (S : Addr) (nS : ¬ S ∈ fp) {s : Shared} {c : Nat} (hst : St 0 s.heap)
    (hS : s.heap.get? S = some { cls := .type "list", data := .seq #[] c })
    (hR : ∀ (v : Value) (h' : Heap) (tk : Nat), (0 < n → P (argBest bt (n - 1)) v) → (n = 0 → v = d) → (∀ b o, ¬ b ∈ wr → b ≠ S → s.heap.get? b = some o → h'.get? b = some o) → R (.ok (.ret v)) { s with heap := h', toks := tk }) :
    codeAny (model prog w) A (.builtin "min.loop" ⟨[.ref I, .none, .ref S], [(Str.ofString "default", d)]⟩) R s := by
  have nSw : ¬ S ∈ wr := fun z => nS (W.sub _ z)
  refine codeAny_builtin F.entry_min_loop ?_
  rw [Around.under_plainId F.plain_min_loop _]
  show wpAny _ A.in1 (seqItems? (.ref S) >>= _) _ _ s
  refine wpAny_bind (wpAny_seqItems hS rfl ?_)
  show wpAny _ A.in1 (tryCatch (pyNext (.ref I)) _ >>= _) _ _ s
  by_cases hn : n = 0
  · subst hn
    refine wpAny_bind (wpAny_tryCatch (W.done s _ _ hst fun h' tk hk' => ?_))
    show wpAny _ A.in1 (rule "min.default" >>= fun _ => ret d) _ _ _
    exact wpAny_bind (wpAny_rule (wpAny_pure (hR d h' tk (fun z => absurd z (Nat.lt_irrefl _)) (fun _ => rfl) fun b o hb _ e => hk' b o hb e)))
  · refine wpAny_bind (wpAny_tryCatch (W.item 0 s _ _ (by omega) hst fun v h' tk hv hst' hk' => ?_))
    have hS' := hk' _ _ nSw hS
    show wpAny _ A.in1 (updateSeq S (fun _ => #[v, v]) >>= fun _ => again (.builtin "min.loop" ⟨[.ref I, .none, .ref S], [(Str.ofString "default", d)]⟩)) _ _ _
    refine wpAny_bind (wpAny_updateSeq hS' rfl (wpAny_pure ⟨plainId_quiet F.plain_min_loop _, ?_⟩) (by show 0 ≤ sizeLine; exact Nat.zero_le _) (by show 2 ≤ sizeLine + 1; decide))
    refine min_loopD W bt hc S nS (n - 1) 0 _ v _ (by omega) (by omega) (W.frame _ _ _ hst' fun b hb o e => (Heap.get?_update_other _ _ (fun z => nS (by rw [z]; exact hb))).trans e) hv (Heap.get?_update_self _ hS' rfl) fun u h2 tk2 h1 h3 => hR u h2 tk2 (fun _ => h1) (fun z => absurd z hn) fun b o q1 q2 e => h3 b o q1 q2 ((Heap.get?_update_other _ _ (Ne.symm q2)).trans (hk' _ _ q1 e))
theorem call_minD {s : Shared} {E : Value → Shared → Prop} {x d : Value} {Q : Value → Shared → Prop}
    (h : wpAny (model prog w) A.in1 (pyIter x) (fun it s₂ => ∃ I fp wr n P St bt, it = .ref I ∧ Walks prog w A.in1 I fp wr n P St ∧ St 0 s₂.heap ∧ (∀ b ∈ fp, b < s₂.heap.objs.size) ∧ CmpOf prog w A.in1 CmpOp.Lt P bt ∧
      ∀ (v : Value) (h' : Heap) (tk : Nat), (0 < n → P (argBest bt (n - 1)) v) → (n = 0 → v = d) → (∀ b o, ¬ b ∈ wr → s₂.heap.get? b = some o → h'.get? b = some o) → Q v { s₂ with heap := h', toks := tk }) E s) :
    wpAny (model prog w) A (call (.builtin "min") [x] [(Str.ofString "default", d)]) Q E s := by
  refine wpAny_call (codeAny_call_builtin F.plain_min F.entry_min ?_)
  show wpAny _ A.in1 (checkBuiltinCall "min" ⟨[x], [(Str.ofString "default", d)]⟩) _ _ _
  rw [show checkBuiltinCall "min" ⟨[x], [(Str.ofString "default", d)]⟩ = pure () from rfl]
  refine wpAny_pure ?_
  show wpAny _ A.in1 (Builtin.Builtins.bindParams "min" ["key", "default"] 0 ⟨[], [(Str.ofString "default", d)]⟩ >>= _) _ _ _
  rw [min_bp]
  show wpAny _ A.in1 (pyIter x >>= fun it => newList [] >>= fun S => again (.builtin "min.loop" ⟨[it, .none, S], [(Str.ofString "default", d)]⟩)) _ _ _
  refine wpAny_bind (wpAny_mono h (fun it s₂ q => ?_) fun e s' q => q)
  obtain ⟨I, fp, wr, n, P, St, bt, rfl, W, st, lt, hc, q⟩ := q
  refine wpAny_bind (wpAny_newList (wpAny_pure ⟨plainId_quiet F.plain_min_loop _, ?_⟩) (by show 0 ≤ sizeLine; exact Nat.zero_le _))
  have lt' : ∀ b o, s₂.heap.get? b = some o → b ≠ s₂.heap.objs.size := fun b o e => Nat.ne_of_lt (Heap.lt_size e)
  refine min_firstD W bt hc _ (fun z => Nat.lt_irrefl _ (lt _ z)) (W.frame _ _ _ st fun b hb o e => Heap.get?_push_of_some _ e) (Heap.get?_push_size _ rfl) fun v h' tk h1 h2 h3 => ?_
  exact q v h' tk h1 h2 fun b o hb e => h3 b o hb (lt' b o e) (Heap.get?_push_of_some _ e)
end
def tMinValsD (td : TE) : TE := fun σ H Q => td σ H fun x H1 => ∃ (a : Addr) (kvs : List (Key × V)) (is : List Int), x = V.ref a ∧ Rd H1 a (.dK kvs) ∧ kvs.map (·.2) = is.map V.int ∧ (is = [] → Q .non H1) ∧ ∀ m, m ∈ is → (∀ j ∈ is, m ≤ j) → Q (.int m) H1
section
variable {X : Cx} {o : Expr} {p pos apos mpos kpos kp : Pos} {k : Nat} {td : TE}
theorem pe_minValsD (hc : X.calm = true) (hg : Gl X "min") (hm : X.mg "min" = none) (hd : PE X o td) (hbase : attributeBase o "values" X.env (eval o X.env) = eval o X.env := by rfl) (hline : (apos.endLine == mpos.line) = true := by rfl)
    (hse : backTo pos (starEach [Expr.Call (.Attribute o "values" apos) [] [] mpos] X.env) = [(false, eval (Expr.Call (.Attribute o "values" apos) [] [] mpos) X.env)] := by rfl) :
    PE X (.Call (.Name "min" p) [.Call (.Attribute o "values" apos) [] [] mpos] [⟨some "default", .Constant .none k kp, kpos⟩] pos) (tMinValsD td) := by
  refine ⟨fun pins s σ H Q I h => ?_⟩
  refine wpAny_Call_Name_kw (ld_blt I hg hm (u := .builtin "min") (by first | rfl | decide +kernel) ?_ (by first | decide +kernel | decide) (by first | decide +kernel | decide))
  rw [hse]
  refine W.callWith_of (P := fun _ => True) rfl (fun h _ => ⟨.machine, Or.inr (Or.inl rfl), fun A Q E s _ q => wpAny_pure q⟩) (evalArgs_kw rfl (Calls.spliced_cons ?_))
  refine wpAny_Call_method0_late hbase hline (thn (hd.run pins s σ H _ I h) fun v s1 ⟨x, H1, I1, r1, a, kvs, is, ex, ha, hv, q0, q⟩ => ?_)
  subst ex
  obtain rfl : v = Value.ref a := r1
  obtain ⟨_, hsys, vs, rel, dof⟩ := dk_rd I1.hok ha
  obtain ⟨ep, dat⟩ := dof.dictAt
  obtain ⟨ob, es, ho, ex, _⟩ := id dat
  refine ⟨"dict", "dict.values", F.plainAttrs_dict, F.slot_dict_values, F.type_dict_values, ⟨ob, ho, ex.1⟩, fun b e => ?_, Calls.callWith_builtin rfl (PySem.evalArgs_none ?_)⟩
  · cases e
    exact ⟨ob, ho, ex.2.1⟩
  refine call_meetsIn F.slot_dict_values ⟨ob, ho, ex.1⟩ F.entry_dict_values (F.args_dict_values_1 _) (meets_dict_values (mixKind X.prog X.w) a hsys) ⟨⟨vs, dof⟩, ?_⟩
  refine Calls.spliced_nil (wpAny_evalAll_cons ?_)
  show wpAny _ _ (eval (.Constant .none k kp) X.env >>= fun v => standAt pos >>= fun _ => pure v) _ _ _
  refine wpAny_bind (wpAny_Constant_none (wpAny_bind (wpAny_standAt (wpAny_pure (wpAny_evalAll_nil ⟨trivial, ?_⟩)))))
  show wpAny _ _ (call (.builtin "min") [_] [(Str.ofString "default", Value.none)]) _ _ _
  have k1 : ∀ b u, s1.heap.get? b = some u → (s1.heap.push { cls := .type "dict_values", data := .fields #[.ref a] }).get? b = some u := fun b u e => Heap.get?_push_of_some _ e
  have dat1 : (s1.heap.push { cls := .type "dict_values", data := .fields #[.ref a] }).DictAt (mixKind X.prog X.w) a vs ep := dat.keep k1
  have hlv : vs.length = is.length := by
    have e1 := congrArg List.length hv
    rw [List.length_map, List.length_map] at e1
    rw [← e1]
    exact (KV.length rel).symm
  have hval : ∀ (i : Nat) (v : Value), (∃ k, vs[i]? = some (k, v)) → ∃ t, v = Value.int (is.getD i 0) t := fun i v ⟨k, hk⟩ => by
    obtain ⟨x, h1, h2⟩ := KV.at' rel hk
    have e1 : (kvs.map (·.2))[i]? = some x := by rw [List.getElem?_map, h1] <;> rfl
    rw [hv, List.getElem?_map] at e1
    obtain ⟨j, hj, e2⟩ := Option.map_eq_some_iff.mp e1
    subst e2
    obtain ⟨t, e3⟩ := h2
    refine ⟨t, ?_⟩
    rw [e3, List.getD_eq_getElem?_getD, hj] <;> rfl
  have hlt : a < s1.heap.objs.size := Heap.lt_size ho
  have hsz : (s1.heap.push { cls := .type "dict_values", data := .fields #[.ref a] }).objs.size = s1.heap.objs.size + 1 := Heap.size_push _ _
  refine call_minD (wpAny_pyIter_values (v := s1.heap.objs.size) (d := a) ⟨_, Heap.get?_push_size _ rfl, rfl, rfl⟩ dat1 ?_)
  refine ⟨_, _, _, _, _, _, _, rfl, Walks.dictValues (knd := mixKind X.prog X.w) (A := X.A.in1) (I.ok.hd hc) (s1.heap.push { cls := .type "dict_values", data := .fields #[.ref a] }).objs.size a (by rw [hsz]; exact Nat.ne_of_lt (Nat.lt_succ_of_lt hlt)) vs ep,
    ⟨⟨_, Heap.get?_push_size _ rfl, rfl, rfl⟩, dat1.keep fun b u e => Heap.get?_push_of_some _ e⟩, fun b hb => ?_, CmpOf.ints_lt (fun i => is.getD i 0) hval, fun u h' tk' h1 h0 hm' => ?_⟩
  · show b < ((s1.heap.push _).push _).objs.size
    rw [Heap.size_push, Heap.size_push]
    rw [hsz] at hb
    rcases List.mem_cons.mp hb with e | hb
    · rw [e]
      exact Nat.lt_succ_self _
    · have e : b = a := List.mem_singleton.mp hb
      rw [e]
      exact Nat.lt_succ_of_lt (Nat.lt_succ_of_lt hlt)
  · have kk : ∀ b u, s1.heap.get? b = some u → h'.get? b = some u := fun b u e => hm' b u (fun hmem => by
      have e1 : b = (s1.heap.push { cls := .type "dict_values", data := .fields #[.ref a] }).objs.size := List.mem_singleton.mp hmem
      have e2 := Heap.lt_size e
      rw [hsz] at e1
      rw [e1] at e2
      exact absurd e2 (Nat.not_lt.mpr (Nat.le_succ _))) (Heap.get?_push_of_some _ (k1 b u e))
    by_cases hz : vs.length = 0
    · rw [h0 hz]
      exact ⟨.non, H1, I1.kept (t' := tk') kk, rfl, q0 (List.eq_nil_of_length_eq_zero (by omega))⟩
    · obtain ⟨t, e⟩ := hval _ _ (h1 (by omega))
      obtain ⟨b1, b2⟩ := argBest_lt (fun i => is.getD i 0) (vs.length - 1)
      rw [e]
      refine ⟨.int _, H1, I1.kept (t' := tk') kk, ⟨_, rfl⟩, q _ ?_ fun j hj => ?_⟩
      · rw [List.getD_eq_getElem?_getD, List.getElem?_eq_getElem (by omega)]
        exact List.getElem_mem (by omega)
      · obtain ⟨i, hi, rfl⟩ := List.mem_iff_getElem.mp hj
        have := b2 i (by omega)
        rw [show is.getD i 0 = is[i] by rw [List.getD_eq_getElem?_getD, List.getElem?_eq_getElem hi]; rfl] at this
        exact this
end
end SL
/-! d.setdefault(t, x) of a dict whose keys are tuples. -/
namespace SL
open PySem PySem.Spec PyProof.Rows L2
def tDSetT (td ty tx : TE) : TE := fun σ H Q => td σ H fun x H1 => ∃ a, x = .ref a ∧ (∃ kvs, H1 a = some (.dT kvs)) ∧ ty σ H1 fun y H2 => tx σ H2 fun z H3 => ∃ (kvs : List (List Key × V)) (k : List Key) (b : Addr), H3 a = some (.dT kvs) ∧ y = .ref b ∧ H3 b = some (.tup (k.map kV)) ∧ kvs.length < sizeLine ∧
  (∀ v, valV kvs k = some v → Q v H3) ∧ (valV kvs k = none → Q z (upd H3 a (.dT (putK kvs k z))))
section
variable {X : Cx} {o e f : Expr} {apos cpos : Pos} {td ty tx : TE}
theorem obj_dT {P : Program} {w : World} {H : Hp} {h : Heap} {a : Addr} {kvs : List (List Key × V)} (h1 : kvs.length ≤ sizeLine) (h2 : (a == sysModules) = false) (h3 : ∃ xs, KT H kvs xs ∧ Heap.DictOfH (tupleKind (mixKind P w)) h a xs) : ObjOk P w H h a (.dT kvs) := by
  obtain ⟨xs, k, d⟩ := h3
  unfold ObjOk
  refine ⟨h1, h2, xs, k, ?_⟩
  obtain ⟨o, es, ep, a1, a2, a3, a4, _, a5⟩ := d
  exact ⟨o, es, ep, a1, a2, a3, a4, a5⟩
theorem putK_len {kvs : List (List Key × V)} {k : List Key} {z : V} : (putK kvs k z).length ≤ kvs.length + 1 := by
  unfold putK
  split
  · rw [List.length_map]
    exact Nat.le_succ _
  · rw [List.length_append]
    exact Nat.le_refl _
theorem pe_dsetT (hu : X.A.units + 1 < cLine) (hd : PE X o td) (he : PE X e ty) (hf : PE X f tx) (m : M2 X o "setdefault" apos e f cpos) : PE X (.Call (.Attribute o "setdefault" apos) [e, f] [] cpos) (tDSetT td ty tx) := by
  refine ⟨fun pins s σ H Q I h => ?_⟩
  refine wpAny_Call_method2_late m.base m.line m.trees (thn (hd.run pins s σ H _ I h) fun v s1 ⟨x, H1, I1, r1, a, ex, ⟨kvs1, ha1⟩, q1⟩ => ?_)
  subst ex
  obtain rfl : v = Value.ref a := r1
  obtain ⟨_, hsys, xs1, rel1, dof1⟩ := dt_of I1.hok ha1
  obtain ⟨ob, es, ep, ho, xd, dd, _⟩ := dof1
  refine ⟨"dict", "dict.setdefault", F.plainAttrs_dict, F.slot_dict_setdefault, F.type_dict_setdefault, ⟨ob, ho, xd.1⟩, fun b e => ?_, Calls.callWith_builtin rfl (Calls.evalArgs_plain (Calls.spliced_cons (thn (he.run pins s1 σ H1 _ I1 q1) fun v2 s2 ⟨y, H2, I2, r2, q2⟩ => Calls.spliced_cons (thn (hf.run pins s2 σ H2 _ I2 q2) fun v3 s3 ⟨z, H3, I3, r3, q3⟩ => Calls.spliced_nil ?_))))⟩
  · cases e
    exact ⟨ob, ho, xd.2.1⟩
  obtain ⟨kvs, k, b, ha, rfl, hb, hl, qa, qb⟩ := q3
  obtain rfl : v2 = Value.ref b := r2
  obtain ⟨hlen, _, xs, rel, dof⟩ := dt_of I3.hok ha
  have hk := key_of I3.hok hb
  have hv := KT.val rel k
  have hab : a ≠ b := fun z => by rw [z, hb] at ha; cases ha
  show wpAny _ _ (call (.builtin "dict.setdefault") [.ref a, .ref b, v3]) _ _ _
  refine call_setdefault_heap (knd := tupleKind (mixKind X.prog X.w)) (k := k) (xs := xs) ?_ hk hsys dof (fun p hp => ?_) (fun hn h' dof' sb => ?_) ?_
  · exact hu
  · rw [hp] at hv
    cases hv2 : valV kvs k with
    | none =>
      rw [hv2] at hv
      exact hv.elim
    | some u =>
      rw [hv2] at hv
      exact ⟨u, H3, I3.kept fun _ _ e => e, hv, qa u hv2⟩
  · have hv2 : valV kvs k = none := by
      rw [hn] at hv
      cases hv2 : valV kvs k with
      | none => rfl
      | some u =>
        rw [hv2] at hv
        exact hv.elim
    obtain ⟨ob2, es2, ep2, ho2, _⟩ := id dof'
    refine ⟨z, _, d_write I3 (by rw [ha]; trivial) sb ⟨_, ho2⟩ (obj_dT (Nat.le_trans putK_len hl) hsys ⟨storedH xs k b v3, KT.keeps (KT.put rel k hb r3) fun c ys e => ?_, dof'⟩), r3, qb hv2⟩
    rw [upd_ne fun z => by rw [z, ha] at e; cases e]
    exact e
  · rw [← Paired.length rel]
    exact hlen
end
end SL
/-! The value layer: what a reading asks, told of values without a heap. -/
namespace SV
open PySem PySem.Spec PyProof.Rows L2 SL
inductive U where
  | non
  | bl (b : Bool)
  | int (i : Int)
  | str (s : Str)
  | lst (us : List U)
  | tup (us : List U)
  | dic (kvs : List (Key × U))
  | dit (kvs : List (List Key × U))
  | ins (C : Addr) (fs : List (Str × U))
  | pool
  | ty (n : String)
mutual
inductive Rp (pp : Addr) (G : Hp) : V → U → Prop
  | non : Rp pp G .non .non
  | bl (b : Bool) : Rp pp G (.bl b) (.bl b)
  | int (i : Int) : Rp pp G (.int i) (.int i)
  | str (s : Str) (z : s.length ≤ 100000) : Rp pp G (.str s) (.str s)
  | lst {a : Addr} {vs : List V} {us : List U} (h : G a = some (.lst vs)) (k : RpL pp G vs us) (z : us.length ≤ 100000) : Rp pp G (.ref a) (.lst us)
  | tup {a : Addr} {vs : List V} {us : List U} (h : G a = some (.tup vs)) (k : RpL pp G vs us) (z : us.length ≤ 100000) : Rp pp G (.ref a) (.tup us)
  | dic {a : Addr} {kvs : List (Key × V)} {kus : List (Key × U)} (h : G a = some (.dK kvs)) (k : RpD pp G kvs kus) (z : kus.length ≤ 100000) : Rp pp G (.ref a) (.dic kus)
  | dit {a : Addr} {kvs : List (List Key × V)} {kus : List (List Key × U)} (h : G a = some (.dT kvs)) (k : RpT pp G kvs kus) (z : kus.length ≤ 100000) : Rp pp G (.ref a) (.dit kus)
  | ins {a C dx : Addr} {fs : List (Str × V)} {gs : List (Str × U)} (h : G a = some (.ins C dx fs)) (k : RpF pp G fs gs) : Rp pp G (.ref a) (.ins C gs)
  | pool : Rp pp G (.ref pp) .pool
  | ty (n : String) : Rp pp G (.ty n) (.ty n)
inductive RpL (pp : Addr) (G : Hp) : List V → List U → Prop
  | nil : RpL pp G [] []
  | cons {v : V} {u : U} {vs : List V} {us : List U} (h : Rp pp G v u) (t : RpL pp G vs us) : RpL pp G (v :: vs) (u :: us)
inductive RpD (pp : Addr) (G : Hp) : List (Key × V) → List (Key × U) → Prop
  | nil : RpD pp G [] []
  | cons {k : Key} {v : V} {u : U} {vs : List (Key × V)} {us : List (Key × U)} (h : Rp pp G v u) (t : RpD pp G vs us) : RpD pp G ((k, v) :: vs) ((k, u) :: us)
inductive RpT (pp : Addr) (G : Hp) : List (List Key × V) → List (List Key × U) → Prop
  | nil : RpT pp G [] []
  | cons {k : List Key} {v : V} {u : U} {vs : List (List Key × V)} {us : List (List Key × U)} (h : Rp pp G v u) (t : RpT pp G vs us) : RpT pp G ((k, v) :: vs) ((k, u) :: us)
inductive RpF (pp : Addr) (G : Hp) : List (Str × V) → List (Str × U) → Prop
  | nil : RpF pp G [] []
  | cons {k : Str} {v : V} {u : U} {vs : List (Str × V)} {us : List (Str × U)} (h : Rp pp G v u) (t : RpF pp G vs us) : RpF pp G ((k, v) :: vs) ((k, u) :: us)
end
section
variable {pp : Addr} {G G' H H' : Hp}
mutual
theorem Rp.same (s : Same G G') : ∀ {v : V} {u : U}, Rp pp G v u → Rp pp G' v u
  | _, _, .non => .non
  | _, _, .bl b => .bl b
  | _, _, .int i => .int i
  | _, _, .str x z => .str x z
  | _, _, .lst h k z => .lst (s _ _ h) (RpL.same s k) z
  | _, _, .tup h k z => .tup (s _ _ h) (RpL.same s k) z
  | _, _, .dic h k z => .dic (s _ _ h) (RpD.same s k) z
  | _, _, .dit h k z => .dit (s _ _ h) (RpT.same s k) z
  | _, _, .ins h k => .ins (s _ _ h) (RpF.same s k)
  | _, _, .pool => .pool
  | _, _, .ty n => .ty n
theorem RpL.same (s : Same G G') : ∀ {vs : List V} {us : List U}, RpL pp G vs us → RpL pp G' vs us
  | _, _, .nil => .nil
  | _, _, .cons h t => .cons (Rp.same s h) (RpL.same s t)
theorem RpD.same (s : Same G G') : ∀ {vs : List (Key × V)} {us : List (Key × U)}, RpD pp G vs us → RpD pp G' vs us
  | _, _, .nil => .nil
  | _, _, .cons h t => .cons (Rp.same s h) (RpD.same s t)
theorem RpT.same (s : Same G G') : ∀ {vs : List (List Key × V)} {us : List (List Key × U)}, RpT pp G vs us → RpT pp G' vs us
  | _, _, .nil => .nil
  | _, _, .cons h t => .cons (Rp.same s h) (RpT.same s t)
theorem RpF.same (s : Same G G') : ∀ {vs : List (Str × V)} {us : List (Str × U)}, RpF pp G vs us → RpF pp G' vs us
  | _, _, .nil => .nil
  | _, _, .cons h t => .cons (Rp.same s h) (RpF.same s t)
end
theorem RpL.length : ∀ {vs : List V} {us : List U}, RpL pp G vs us → vs.length = us.length
  | _, _, .nil => rfl
  | _, _, .cons _ t => congrArg (· + 1) (RpL.length t)
theorem RpL.get : ∀ {vs : List V} {us : List U} {i : Nat} {v : V}, RpL pp G vs us → vs[i]? = some v → ∃ u, us[i]? = some u ∧ Rp pp G v u
  | _, _, _, _, .nil, h => by simp at h
  | _, _, 0, _, .cons h _, e => by
    simp at e
    subst e
    exact ⟨_, rfl, h⟩
  | _, _, i + 1, _, .cons _ t, e => by
    obtain ⟨d, h1, h2⟩ := RpL.get (i := i) t (by simpa using e)
    exact ⟨d, by simpa using h1, h2⟩
theorem RpL.got : ∀ {vs : List V} {us : List U} {i : Nat} {u : U}, RpL pp G vs us → us[i]? = some u → ∃ v, vs[i]? = some v ∧ Rp pp G v u
  | _, _, _, _, .nil, h => by simp at h
  | _, _, 0, _, .cons h _, e => by
    simp at e
    subst e
    exact ⟨_, rfl, h⟩
  | _, _, i + 1, _, .cons _ t, e => by
    obtain ⟨v, h1, h2⟩ := RpL.got (i := i) t (by simpa using e)
    exact ⟨v, by simpa using h1, h2⟩
theorem RpL.append {ws : List V} {es : List U} (b : RpL pp G ws es) : ∀ {vs : List V} {us : List U}, RpL pp G vs us → RpL pp G (vs ++ ws) (us ++ es)
  | _, _, .nil => b
  | _, _, .cons h t => .cons h (RpL.append b t)
theorem RpL.snoc {v : V} {u : U} (h : Rp pp G v u) {vs : List V} {us : List U} (t : RpL pp G vs us) : RpL pp G (vs ++ [v]) (us ++ [u]) := RpL.append (.cons h .nil) t
theorem RpL.drop : ∀ {vs : List V} {us : List U} (n : Nat), RpL pp G vs us → RpL pp G (vs.drop n) (us.drop n)
  | _, _, 0, h => h
  | _, _, _ + 1, .nil => .nil
  | _, _, n + 1, .cons _ t => RpL.drop n t
theorem RpL.take : ∀ {vs : List V} {us : List U} (n : Nat), RpL pp G vs us → RpL pp G (vs.take n) (us.take n)
  | _, _, 0, _ => .nil
  | _, _, _ + 1, .nil => .nil
  | _, _, n + 1, .cons h t => .cons h (RpL.take n t)
theorem RpL.set {v : V} {u : U} (h : Rp pp G v u) : ∀ {vs : List V} {us : List U} (i : Nat), RpL pp G vs us → RpL pp G (vs.set i v) (us.set i u)
  | _, _, _, .nil => .nil
  | _, _, 0, .cons _ t => .cons h t
  | _, _, i + 1, .cons q t => .cons q (RpL.set h i t)
theorem RpL.rev : ∀ {vs : List V} {us : List U}, RpL pp G vs us → RpL pp G vs.reverse us.reverse
  | _, _, .nil => .nil
  | _, _, .cons h t => by
    rw [List.reverse_cons, List.reverse_cons]
    exact RpL.snoc h (RpL.rev t)
theorem RpF.get : ∀ {vs : List (Str × V)} {us : List (Str × U)} {f : Str} {u : U}, RpF pp G vs us → us.lookup f = some u → ∃ v, vs.lookup f = some v ∧ Rp pp G v u
  | _, _, _, _, .nil, h => by simp at h
  | _, _, f, u, .cons (k := k) h t, e => by
    by_cases c : (f == k) = true
    · simp only [List.lookup, c] at e ⊢
      cases e
      exact ⟨_, rfl, h⟩
    · have c' : (f == k) = false := by simpa using c
      simp only [List.lookup, c'] at e ⊢
      exact RpF.get t e
theorem RpD.length : ∀ {vs : List (Key × V)} {us : List (Key × U)}, RpD pp G vs us → vs.length = us.length
  | _, _, .nil => rfl
  | _, _, .cons _ t => congrArg (· + 1) (RpD.length t)
theorem RpT.length : ∀ {vs : List (List Key × V)} {us : List (List Key × U)}, RpT pp G vs us → vs.length = us.length
  | _, _, .nil => rfl
  | _, _, .cons _ t => congrArg (· + 1) (RpT.length t)
/-! ### heaps: what is frozen (G) in what is there (H) -/
def isD : HO → Bool
  | .dK _ => true
  | .dT _ => true
  | _ => false
def Vw (G H : Hp) : Prop := ∀ a o, G a = some o → H a = some o ∨ (isD o = true ∧ ∃ ob, H a = some (.frz ob o))
theorem Vw.rd (w : Vw G H) {a : Addr} {o : HO} (h : G a = some o) : Rd H a o := by
  rcases w a o h with e | ⟨_, e⟩
  · exact .inl e
  · exact .inr e
theorem Vw.lst (w : Vw G H) {a : Addr} {vs : List V} (h : G a = some (.lst vs)) : H a = some (.lst vs) := by
  rcases w a _ h with e | ⟨e, _⟩
  · exact e
  · cases e
theorem Vw.tup (w : Vw G H) {a : Addr} {vs : List V} (h : G a = some (.tup vs)) : H a = some (.tup vs) := by
  rcases w a _ h with e | ⟨e, _⟩
  · exact e
  · cases e
theorem Vw.ins (w : Vw G H) {a C dx : Addr} {fs : List (Str × V)} (h : G a = some (.ins C dx fs)) : H a = some (.ins C dx fs) := by
  rcases w a _ h with e | ⟨e, _⟩
  · exact e
  · cases e
theorem Vw.free (w : Vw G H) {a : Addr} (h : H a = none) : G a = none := by
  cases e : G a with
  | none => rfl
  | some o =>
    rcases w a o e with q | ⟨_, ob, q⟩ <;> rw [h] at q <;> cases q
theorem Vw.of (s : Same G H) : Vw G H := fun a o e => .inl (s a o e)
theorem Vw.refl : Vw G G := Vw.of (Same.refl G)
/-- a pool of numbers to draw from -/
def PoolAt (H : Hp) (p q : Addr) : Prop := ∃ (ms : List Int) (c u d e : Int), H p = some (.lst [.ref q, .int c, .int u, .int d, .int e]) ∧ H q = some (.lst (ms.map V.int)) ∧ p ≠ q ∧ 0 ≤ c ∧ 0 ≤ u ∧ 0 ≤ d ∧ 0 ≤ e ∧ e < 2147483629
theorem PoolAt.keep {p q : Addr} (h : PoolAt H p q) (h1 : H' p = H p) (h2 : H' q = H q) : PoolAt H' p q := by
  obtain ⟨ms, c, u, d, e, k1, k2, k3⟩ := h
  exact ⟨ms, c, u, d, e, h1.trans k1, h2.trans k2, k3⟩
/-- which part of the heap a def may change beside its own: a pool of numbers, tables of code objects -/
structure PT where
  b : Bool
  T : List (Addr × Str)
instance : Coe Bool PT := ⟨fun b => ⟨b, []⟩⟩
def Off (b : PT) (pp a : Addr) : Prop := (b.b = true → a ≠ pp) ∧ ∀ t ∈ b.T, a ≠ t.1
def Pl (b : PT) (pp q : Addr) (G H : Hp) : Prop := (b.b = true → PoolAt H pp q ∧ G pp = none ∧ G q = none) ∧ ∀ t ∈ b.T, LamX.TabS H t.1 t.2 ∧ G t.1 = none
theorem Pl.putG' {b : PT} {pp q : Addr} {G H : Hp} {a : Addr} {o x : HO} (p : Pl b pp q G (upd H a x)) (n : H a = none) (hp : Pl b pp q G H := by assumption) : Pl b pp q (upd G a o) (upd H a x) :=
  ⟨fun z => let ⟨P, n1, n2⟩ := p.1 z; let ⟨⟨_, _, _, _, _, k1, k2, _⟩, _⟩ := hp.1 z; ⟨P, by rw [upd_ne (ne_of_none k1 n)]; exact n1, by rw [upd_ne (ne_of_none k2 n)]; exact n2⟩,
   fun t ht => ⟨(p.2 t ht).1, by
    obtain ⟨⟨ps, k1, _⟩, g⟩ := hp.2 t ht
    rw [upd_ne (ne_of_none k1 n)]
    exact g⟩⟩
theorem Pl.same {b : PT} {pp q : Addr} {G H G' H' : Hp} (p : Pl b pp q G H) (s : Same H H') (hg : ∀ a, G' a = G a ∨ H a = none) : Pl b pp q G' H' := by
  refine ⟨fun z => ?_, fun t ht => ?_⟩
  · obtain ⟨P, n1, n2⟩ := p.1 z
    obtain ⟨ms, c', u, d, e', k1, k2, k3⟩ := id P
    refine ⟨P.keep ((s _ _ k1).trans k1.symm) ((s _ _ k2).trans k2.symm), ?_, ?_⟩
    · rcases hg pp with h | h
      · rw [h]; exact n1
      · rw [k1] at h; cases h
    · rcases hg q with h | h
      · rw [h]; exact n2
      · rw [k2] at h; cases h
  · obtain ⟨T, g⟩ := p.2 t ht
    refine ⟨T.ext s, ?_⟩
    obtain ⟨ps, k1, _⟩ := T
    rcases hg t.1 with h | h
    · rw [h]; exact g
    · rw [k1] at h; cases h
theorem off_none {b : PT} {pp q : Addr} {G H : Hp} (p : Pl b pp q G H) {a : Addr} (n : H a = none) : Off b pp a := by
  refine ⟨fun z e => ?_, fun t ht e => ?_⟩
  · obtain ⟨⟨ms, c, u, d, e', k1, _⟩, _⟩ := p.1 z
    rw [← e, n] at k1
    cases k1
  · obtain ⟨⟨ps, k1, _⟩, _⟩ := p.2 t ht
    rw [← e, n] at k1
    cases k1
/-- what is changed is no code object and no table -/
theorem tab_upd {H : Hp} {P : Addr} {q : Str} (t : LamX.TabS H P q) {a : Addr} {o : HO} (n : ∀ x, H a = some x → (∀ ps, x ≠ .tbl ps) ∧ ∀ φ, x ≠ .ext φ) : LamX.TabS (upd H a o) P q := by
  obtain ⟨ps, k1, k2, k3⟩ := t
  refine ⟨ps, by rw [upd_ne (fun e => (n _ (by rw [← e]; exact k1)).1 ps rfl)]; exact k1, k2, fun pos cv hc => ?_⟩
  obtain ⟨c, e1, e2⟩ := k3 pos cv hc
  refine ⟨c, e1, ?_⟩
  rw [upd_ne (fun e => (n _ (by rw [← e]; exact e2)).2 _ rfl)]
  exact e2
theorem Pl.put {b : PT} {pp q : Addr} {G H : Hp} (p : Pl b pp q G H) {a : Addr} {o : HO} (n : ∀ x, H a = some x → (∀ ps, x ≠ .tbl ps) ∧ ∀ φ, x ≠ .ext φ) (h1 : b.b = true → pp ≠ a) (h2 : b.b = true → q ≠ a) : Pl b pp q G (upd H a o) :=
  ⟨fun z => let ⟨P, n1, n2⟩ := p.1 z; ⟨P.keep (upd_ne (h1 z)) (upd_ne (h2 z)), n1, n2⟩, fun t ht => ⟨tab_upd (p.2 t ht).1 n, (p.2 t ht).2⟩⟩
theorem Pl.putN {b : PT} {pp q : Addr} {G H : Hp} (p : Pl b pp q G H) {a : Addr} {o : HO} (n : H a = none) : Pl b pp q G (upd H a o) :=
  p.put (fun x e => by rw [n] at e; cases e) (fun z => let ⟨⟨_, _, _, _, _, k1, _⟩, _⟩ := p.1 z; ne_of_none k1 n) (fun z => let ⟨⟨_, _, _, _, _, _, k2, _⟩, _⟩ := p.1 z; ne_of_none k2 n)
theorem Pl.putG {b : PT} {pp q : Addr} {G H : Hp} (p : Pl b pp q G H) {a : Addr} {o : HO} (n : ∀ x, H a = some x → ∀ ps, x ≠ .tbl ps) (h1 : b.b = true → pp ≠ a) (h2 : b.b = true → q ≠ a) : Pl b pp q (upd G a o) H :=
  ⟨fun z => let ⟨P, n1, n2⟩ := p.1 z; ⟨P, by rw [upd_ne (h1 z)]; exact n1, by rw [upd_ne (h2 z)]; exact n2⟩, fun t ht => ⟨(p.2 t ht).1, by
    obtain ⟨⟨ps, k1, _⟩, g⟩ := p.2 t ht
    rw [upd_ne (fun e => n _ (by rw [← e]; exact k1) ps rfl)]
    exact g⟩⟩
def isTp : HO → Bool
  | .tup _ => true
  | _ => false
/-- one step: G and H grow to G' and H'; what is not frozen stays as it is, the pool aside -/
structure Gr0 (b : PT) (pp q : Addr) (G H G' H' : Hp) : Prop where
  gg : Same G G'
  vw : Vw G' H'
  fr0 : ∀ a o, Off b pp a → H a = some o → G a = none → (isTp o = false → G' a = none) ∧ H' a = some o
  pl : Pl b pp q G' H'
/-- what is frozen is as it was, or a lock was laid on it -/
def Lk (H H' : Hp) (a : Addr) (o : HO) : Prop := H' a = H a ∨ (H a = some o ∧ isD o = true ∧ ∃ ob, H' a = some (.frz ob o))
theorem Lk.trans {H H1 H2 : Hp} {a : Addr} {o : HO} (x : Lk H H1 a o) (y : Lk H1 H2 a o) : Lk H H2 a o := by
  rcases x with x | ⟨x1, x2, ob, x3⟩
  · rcases y with y | ⟨y1, y2, ob, y3⟩
    · exact .inl (y.trans x)
    · exact .inr ⟨x.symm.trans y1, y2, ob, y3⟩
  · rcases y with y | ⟨y1, y2, ob', y3⟩
    · exact .inr ⟨x1, x2, ob, y.trans x3⟩
    · rw [x3] at y1
      cases y1
structure Gr (b : PT) (pp q : Addr) (G H G' H' : Hp) : Prop extends Gr0 b pp q G H G' H' where
  ge : ∀ a o, G a = some o → Lk H H' a o
variable {b : PT} {q : Addr} {G1 H1 G2 H2 : Hp}
theorem Gr.refl (w : Vw G H) (h : Pl b pp q G H) : Gr b pp q G H G H := ⟨⟨Same.refl _, w, fun _ _ _ e n => ⟨fun _ => n, e⟩, h⟩, fun _ _ _ => .inl rfl⟩
theorem Gr0.fr (x : Gr0 b pp q G H G1 H1) (a : Addr) (o : HO) (n : Off b pp a) (e : H a = some o) (g : G a = none) (nt : isTp o = false) : G1 a = none ∧ H1 a = some o := let ⟨h1, h2⟩ := x.fr0 a o n e g; ⟨h1 nt, h2⟩
theorem Gr.trans (x : Gr b pp q G H G1 H1) (y : Gr b pp q G1 H1 G2 H2) : Gr b pp q G H G2 H2 := by
  refine ⟨⟨x.gg.trans y.gg, y.vw, fun a o n e g => ?_, y.pl⟩, fun a o e => (x.ge a o e).trans (y.ge a o (x.gg a o e))⟩
  obtain ⟨g1, e1⟩ := x.fr0 a o n e g
  cases eg : G1 a with
  | none =>
    obtain ⟨g2, e2⟩ := y.fr0 a o n e1 eg
    exact ⟨g2, e2⟩
  | some o1 =>
    have nt : isTp o = true := by
      cases q : isTp o with
      | true => rfl
      | false => rw [g1 q] at eg; cases eg
    refine ⟨fun z => (by rw [nt] at z; cases z), ?_⟩
    have eo : o1 = o := by
      rcases x.vw a o1 eg with k | ⟨i, ob, k⟩
      · rw [e1] at k
        exact (Option.some.inj k).symm
      · rw [e1] at k
        rw [Option.some.inj k] at nt
        cases nt
    rcases y.ge a o1 eg with k | ⟨k, i, ob, k2⟩
    · exact k.trans e1
    · rw [eo] at i
      cases o <;> first | (cases nt; done) | (cases i; done)
/-- a new object, frozen at once -/
theorem Gr.new (w : Vw G H) (h : Pl b pp q G H) {p : Addr} {o : HO} (np : H p = none) : Gr b pp q G H (upd G p o) (upd H p o) := by
  have gp := w.free np
  refine ⟨⟨same_upd gp, fun a u e => ?_, fun a u n e g => ?_, (h.putN np).putG' np⟩, fun a u e => .inl (upd_ne (ne_of_none e gp))⟩
  · by_cases c : a = p
    · subst c
      rw [upd_same] at e
      cases e
      exact .inl upd_same
    · rw [upd_ne c] at e ⊢
      exact w a u e
  · have c : a ≠ p := ne_of_none e np
    rw [upd_ne c, upd_ne c]
    exact ⟨fun _ => g, e⟩
/-- a new object of one's own -/
theorem Gr.newH (w : Vw G H) (h : Pl b pp q G H) {p : Addr} {o : HO} (np : H p = none) : Gr b pp q G H G (upd H p o) := by
  have gp := w.free np
  refine ⟨⟨Same.refl _, fun a u e => ?_, fun a u n e g => ?_, h.putN np⟩, fun a u e => .inl (upd_ne (ne_of_none e gp))⟩
  · have c : a ≠ p := ne_of_none e gp
    rw [upd_ne c]
    exact w a u e
  · have c : a ≠ p := ne_of_none e np
    rw [upd_ne c]
    exact ⟨fun _ => g, e⟩
/-- what is new (behind G, H) is frozen -/
theorem Gr0.freeze (x : Gr0 b pp q G H G1 H1) {p : Addr} {o : HO} (np : H p = none) (g1 : G1 p = none) (e : H1 p = some o) (hp : Pl b pp q G H) : Gr0 b pp q G H (upd G1 p o) H1 := by
  refine ⟨x.gg.trans (same_upd g1), fun a u ea => ?_, fun a u n ea g => ?_, fun z => ?_, fun t ht => ?_⟩
  · by_cases c : a = p
    · subst c
      rw [upd_same] at ea
      cases ea
      exact .inl e
    · rw [upd_ne c] at ea
      exact x.vw a u ea
  · have c : a ≠ p := ne_of_none ea np
    rw [upd_ne c]
    exact x.fr0 a u n ea g
  · obtain ⟨P, n1, n2⟩ := x.pl.1 z
    obtain ⟨⟨ms, c, u, d, e, k1, k2, k3⟩, _⟩ := hp.1 z
    exact ⟨P, by rw [upd_ne (ne_of_none k1 np)]; exact n1, by rw [upd_ne (ne_of_none k2 np)]; exact n2⟩
  · obtain ⟨T, g⟩ := x.pl.2 t ht
    obtain ⟨⟨ps, k1, _⟩, _⟩ := hp.2 t ht
    exact ⟨T, by rw [upd_ne (ne_of_none k1 np)]; exact g⟩
theorem Gr.freeze (x : Gr b pp q G H G1 H1) {p : Addr} {o : HO} (np : H p = none) (g1 : G1 p = none) (e : H1 p = some o) (hp : Pl b pp q G H) : Gr b pp q G H (upd G1 p o) H1 := ⟨x.toGr0.freeze np g1 e hp, x.ge⟩
/-- a table that a step leaves alone -/
theorem Gr.tab {b0 : PT} {p0 q0 : Addr} (x : Gr b0 p0 q0 G H G1 H1) (hb : b0 = ⟨false, []⟩) {P : Addr} {nm : Str} (t : LamX.TabS H P nm) (g : G P = none) : LamX.TabS H1 P nm ∧ G1 P = none := by
  subst hb
  have off : ∀ a, Off ⟨false, []⟩ p0 a := fun a => ⟨(fun z => nomatch z), (fun _ z => nomatch z)⟩
  obtain ⟨ps, k1, k2, k3⟩ := t
  obtain ⟨g1, h1⟩ := x.fr P _ (off P) k1 g rfl
  refine ⟨⟨ps, h1, k2, fun pos cv hc => ?_⟩, g1⟩
  obtain ⟨c, e1, e2⟩ := k3 pos cv hc
  refine ⟨c, e1, ?_⟩
  cases e : G c with
  | none => exact (x.fr0 c _ (off c) e2 e).2
  | some o =>
    rcases x.ge c o e with h | ⟨h, i, _⟩
    · exact h.trans e2
    · rw [e2] at h
      cases h
      cases i
/-- which steps may be seen as which -/
def PLe (b c : PT) : Prop := (b.b = true → c.b = true) ∧ (b.T = [] ∨ b.T = c.T)
theorem noT {b : Bool} {c : PT} (h : c = (b : PT)) : c.T = [] := by rw [h]
theorem ple0 {c : PT} : PLe ⟨false, []⟩ c := ⟨(fun z => nomatch z), .inl rfl⟩
theorem ple1 {c : PT} (h : c.b = true) : PLe ⟨true, []⟩ c := ⟨fun _ => h, .inl rfl⟩
theorem pleT {T : List (Addr × Str)} {c : PT} (h : c.T = T) : PLe ⟨false, T⟩ c := ⟨(fun z => nomatch z), .inr h.symm⟩
theorem pleTT {T : List (Addr × Str)} {c : PT} (h : c = ⟨true, T⟩) : PLe ⟨true, T⟩ c := by rw [h]; exact ⟨id, .inr rfl⟩
theorem PLe.refl (b : PT) : PLe b b := ⟨id, .inr rfl⟩
theorem Pl.le {b c : PT} (h : PLe b c) {pp q : Addr} {G H : Hp} (p : Pl c pp q G H) : Pl b pp q G H := ⟨fun z => p.1 (h.1 z), fun t ht => by
  rcases h.2 with e | e
  · rw [e] at ht
    cases ht
  · rw [e] at ht
    exact p.2 t ht⟩
/-- a step of a def that may change less -/
theorem Gr.le {b c : PT} (h : PLe b c) (x : Gr b pp q G H G1 H1) (p : Pl c pp q G H) : Gr c pp q G H G1 H1 := by
  have offT : ∀ a, Off c pp a → (b.b = true → a ≠ pp) ∧ ∀ t ∈ b.T, a ≠ t.1 := fun a n => ⟨fun z => n.1 (h.1 z), fun t ht => by
    rcases h.2 with e | e
    · rw [e] at ht
      cases ht
    · rw [e] at ht
      exact n.2 t ht⟩
  -- what is no table of b's and no pool
  have keep : ∀ a o, Off b pp a → H a = some o → H1 a = some o ∨ ∃ o2, G a = some o2 ∧ isD o2 = true ∧ H a = some o2 := fun a o n e => by
    cases g : G a with
    | none => exact .inl (x.fr0 a o n e g).2
    | some o2 =>
      rcases x.ge a o2 g with k | ⟨k, i, _⟩
      · exact .inl (k.trans e)
      · exact .inr ⟨o2, rfl, i, k⟩
  refine ⟨⟨x.gg, x.vw, fun a o n e g => x.fr0 a o (offT a n) e g, fun z => ?_, fun t ht => ?_⟩, x.ge⟩
  · cases hb : b.b with
    | true => exact x.pl.1 hb
    | false =>
      obtain ⟨P, n1, n2⟩ := p.1 z
      obtain ⟨ms, c', u, d, e, k1, k2, k3⟩ := id P
      have o1 : Off b pp pp := ⟨(fun w => by rw [hb] at w; cases w), fun t ht => by
        rcases h.2 with e | e
        · rw [e] at ht
          cases ht
        · rw [e] at ht
          obtain ⟨⟨ps, t1, _⟩, _⟩ := p.2 t ht
          exact ne_of k1 t1 (fun z => nomatch z)⟩
      have o2 : Off b pp q := ⟨(fun w => by rw [hb] at w; cases w), fun t ht => by
        rcases h.2 with e | e
        · rw [e] at ht
          cases ht
        · rw [e] at ht
          obtain ⟨⟨ps, t1, _⟩, _⟩ := p.2 t ht
          exact ne_of k2 t1 (fun z => nomatch z)⟩
      obtain ⟨g1, h1⟩ := x.fr pp _ o1 k1 n1 rfl
      obtain ⟨g2, h2⟩ := x.fr q _ o2 k2 n2 rfl
      exact ⟨P.keep (h1.trans k1.symm) (h2.trans k2.symm), g1, g2⟩
  · rcases h.2 with e | e
    · obtain ⟨⟨ps, k1, k2, k3⟩, g⟩ := p.2 t ht
      have off : ∀ a o, H a = some o → (∀ xs, o ≠ .lst xs) → Off b pp a := fun a o ha nl => ⟨fun z w => by
        obtain ⟨⟨ms, c', u, d, e', k1, _⟩, _⟩ := p.1 (h.1 z)
        rw [w, k1] at ha
        cases ha
        exact nl _ rfl, fun t ht => by rw [e] at ht; cases ht⟩
      obtain ⟨g1, h1⟩ := x.fr t.1 _ (off _ _ k1 fun _ z => nomatch z) k1 g rfl
      refine ⟨⟨ps, h1, k2, fun pos cv hc => ?_⟩, g1⟩
      obtain ⟨cc, e1, e2⟩ := k3 pos cv hc
      refine ⟨cc, e1, ?_⟩
      rcases keep cc _ (off _ _ e2 fun _ z => nomatch z) e2 with k | ⟨o2, _, i, k⟩
      · exact k
      · rw [e2] at k
        cases k
        cases i
    · rw [← e] at ht
      exact x.pl.2 t ht
/-- what was frozen is as it was -/
structure Ex (G H G' H' : Hp) : Prop where
  gg : Same G G'
  ge : ∀ a o, G a = some o → Lk H H' a o
theorem Ex.refl : Ex G H G H := ⟨Same.refl _, fun _ _ _ => .inl rfl⟩
theorem Ex.trans (x : Ex G H G1 H1) (y : Ex G1 H1 G2 H2) : Ex G H G2 H2 := ⟨x.gg.trans y.gg, fun a o e => (x.ge a o e).trans (y.ge a o (x.gg a o e))⟩
theorem Gr.ex (x : Gr b pp q G H G1 H1) : Ex G H G1 H1 := ⟨x.gg, x.ge⟩
end
/-- one's own object: its parts are frozen -/
inductive Ow (pp : Addr) (G : Hp) : HO → U → Prop
  | lst {vs : List V} {us : List U} (k : RpL pp G vs us) (z : us.length ≤ 100000) : Ow pp G (.lst vs) (.lst us)
  | dic {kvs : List (Key × V)} {kus : List (Key × U)} (k : RpD pp G kvs kus) (z : kus.length ≤ 100000) : Ow pp G (.dK kvs) (.dic kus)
  | dit {kvs : List (List Key × V)} {kus : List (List Key × U)} (k : RpT pp G kvs kus) (z : kus.length ≤ 100000) : Ow pp G (.dT kvs) (.dit kus)
  | ins {C dx : Addr} {fs : List (Str × V)} {gs : List (Str × U)} (k : RpF pp G fs gs) : Ow pp G (.ins C dx fs) (.ins C gs)
theorem Ow.same {pp : Addr} {G G' : Hp} (s : Same G G') {o : HO} {u : U} (h : Ow pp G o u) : Ow pp G' o u := by
  cases h with
  | lst k z => exact .lst (k.same s) z
  | dic k z => exact .dic (k.same s) z
  | dit k z => exact .dit (k.same s) z
  | ins k => exact .ins (k.same s)
theorem Ow.no {pp : Addr} {G : Hp} {o : HO} {u : U} (h : Ow pp G o u) : (∀ ps, o ≠ .tbl ps) ∧ ∀ φ, o ≠ .ext φ := by
  cases h <;> exact ⟨(fun _ z => nomatch z), (fun _ z => nomatch z)⟩
theorem Ow.ntp {pp : Addr} {G : Hp} {o : HO} {u : U} (h : Ow pp G o u) : isTp o = false := by cases h <;> rfl
theorem Ow.rp {pp p : Addr} {G : Hp} {o : HO} {u : U} (h : Ow pp G o u) (g : G p = none) : Rp pp (upd G p o) (.ref p) u := by
  have s : Same G (upd G p o) := same_upd g
  cases h with
  | lst k z => exact .lst upd_same (k.same s) z
  | dic k z => exact .dic upd_same (k.same s) z
  | dit k z => exact .dit upd_same (k.same s) z
  | ins k => exact .ins upd_same (k.same s)
/-- a slot: nothing that is known, a frozen value, an object of one's own -/
inductive Cell where
  | no
  | fz (u : U)
  | ow (u : U)

abbrev EW := Addr → List (Str × U) → Prop
/-- a def that runs: how it began, what is wanted of what it raises -/
structure Zc where
  b : PT
  pp : Addr
  q : Addr
  G0 : Hp
  H0 : Hp
  E : XK
  ew : EW
  n : Nat
  me : Nat → Option V := fun _ => none
  pin : Hp := fun _ => none
/-- the slot may be stored (one that is held, as self, may not) -/
def Zc.may (Z : Zc) (i : Nat) : Prop := Z.me i = none
def Zc.mays (Z : Zc) (ok : Nat → Bool) : Prop := ∀ i, ok i = true → Z.me i = none
theorem Zc.may_of {Z : Zc} {ok : Nat → Bool} (h : Z.mays ok) {i : Nat} (e : ok i = true) : Z.may i := h i e
theorem Zc.mayL_of {Z : Zc} {ok : Nat → Bool} (h : Z.mays ok) {vs : List Nat} (e : vs.all ok = true) : ∀ v ∈ vs, Z.may v := fun v m => h v (List.all_eq_true.mp e v m)
abbrev Zc.gr (Z : Zc) (G H G' H' : Hp) : Prop := Gr Z.b Z.pp Z.q G H G' H'
abbrev Zc.gr0 (Z : Zc) (G H G' H' : Hp) : Prop := Gr Z.b Z.pp Z.q G H G' H'
/-- where an error keeps its fields -/
def XdAt (H : Hp) (od : Option Addr) (fs : List (Str × V)) : Prop := (∃ d, od = some d ∧ H d = some (.xd fs)) ∨ (od = none ∧ fs = [])
def isOw (ρ : List Cell) (i : Nat) : Prop := ∃ u, ρ[i]? = some (.ow u)
structure Sv (Z : Zc) (σ : L2.St) (ρ : List Cell) (G H : Hp) : Prop where
  gr : Z.gr0 Z.G0 Z.H0 G H
  w0 : Vw Z.G0 Z.H0
  p0 : Pl Z.b Z.pp Z.q Z.G0 Z.H0
  ex : ∀ C fs us od G' H', Z.ew C us → Z.gr0 Z.G0 Z.H0 G' H' → XdAt G' od fs → RpF Z.pp G' fs us → Z.E (.ref C) od H'
  ln : σ.length = Z.n ∧ ρ.length = Z.n
  fz : ∀ (i : Nat) (u : U), ρ[i]? = some (.fz u) → ∃ v, σ[i]? = some (some v) ∧ Rp Z.pp G v u
  ow : ∀ (i : Nat) (u : U), ρ[i]? = some (.ow u) → ∃ a o, σ[i]? = some (some (.ref a)) ∧ H a = some o ∧ G a = none ∧ Z.H0 a = none ∧ Ow Z.pp G o u
  me : ∀ i v, Z.me i = some v → σ[i]? = some (some v)
  pn : Same Z.pin G
  dis : ∀ (i j : Nat) (a : Addr), i ≠ j → isOw ρ i → isOw ρ j → σ[i]? = some (some (.ref a)) → σ[j]? ≠ some (some (.ref a))
section
variable {Z : Zc} {σ : L2.St} {ρ : List Cell} {G H G' H' : Hp}
theorem Sv.len (S : Sv Z σ ρ G H) : σ.length = ρ.length := S.ln.1.trans S.ln.2.symm
theorem Sv.vw (S : Sv Z σ ρ G H) : Vw G H := S.gr.vw
theorem Sv.pl (S : Sv Z σ ρ G H) : Pl Z.b Z.pp Z.q G H := S.gr.pl
theorem Sv.new0 (S : Sv Z σ ρ G H) {p : Addr} (n : H p = none) : Z.H0 p = none := by
  cases e : Z.H0 p with
  | none => rfl
  | some o =>
    have off : Off Z.b Z.pp p := off_none S.gr.pl n
    cases g : Z.G0 p with
    | none =>
      have := (S.gr.fr0 p o off e g).2
      rw [n] at this
      cases this
    | some o2 =>
      have := S.vw.free n
      rw [S.gr.gg _ _ g] at this
      cases this
theorem Sv.notPool (S : Sv Z σ ρ G H) {a : Addr} (n : Z.H0 a = none) : Off Z.b Z.pp a := off_none S.p0 n
theorem Sv.step (S : Sv Z σ ρ G H) (g : Z.gr G H G' H') : Sv Z σ ρ G' H' :=
  ⟨S.gr.trans g, S.w0, S.p0, S.ex, S.ln, fun i u e => let ⟨v, h1, h2⟩ := S.fz i u e; ⟨v, h1, h2.same g.gg⟩,
   fun i u e => by
    obtain ⟨a, o, h1, h2, h3, h4, h5⟩ := S.ow i u e
    obtain ⟨k1, k2⟩ := g.fr a o (S.notPool h4) h2 h3 h5.ntp
    exact ⟨a, o, h1, k2, k1, h4, h5.same g.gg⟩, S.me, S.pn.trans g.gg, S.dis⟩
/-- other slots: the same heap -/
theorem set_get {α : Type} {l : List α} {i j : Nat} {x y : α} (h : (l.set i x)[j]? = some y) : (j = i ∧ x = y) ∨ (j ≠ i ∧ l[j]? = some y) := by
  by_cases c : j = i
  · subst c
    by_cases hl : j < l.length
    · rw [List.getElem?_set_self hl] at h
      exact .inl ⟨rfl, Option.some.inj h⟩
    · rw [List.getElem?_eq_none (by simpa using hl)] at h
      cases h
  · rw [List.getElem?_set_ne (Ne.symm c)] at h
    exact .inr ⟨c, h⟩
theorem me_set {Z : Zc} {σ : L2.St} {i : Nat} {x : Option V} (hi : Z.may i) (h : ∀ j v, Z.me j = some v → σ[j]? = some (some v)) : ∀ j v, Z.me j = some v → (σ.set i x)[j]? = some (some v) := fun j v e => by
  have c : i ≠ j := fun z => by rw [← z, show Z.me i = none from hi] at e; cases e
  rw [List.getElem?_set_ne c]
  exact h j v e
theorem Sv.set (S : Sv Z σ ρ G H) {i : Nat} (hi : Z.may i) {v : V} {u : U} (h : Rp Z.pp G v u) : Sv Z (σ.set i (some v)) (ρ.set i (.fz u)) G H := by
  refine ⟨S.gr, S.w0, S.p0, S.ex, by simpa using S.ln, fun j u' e => ?_, fun j u' e => ?_, me_set hi S.me, S.pn, fun j k a n h1 h2 e => ?_⟩
  · rcases set_get e with ⟨rfl, e2⟩ | ⟨n, e⟩
    · have : j < ρ.length := by
        have := (List.getElem?_eq_some_iff.mp e).1
        simpa using this
      cases e2
      exact ⟨v, by rw [List.getElem?_set_self (by rw [S.len]; exact this)], h⟩
    · rw [List.getElem?_set_ne (Ne.symm n)]
      exact S.fz j u' e
  · rcases set_get e with ⟨rfl, e2⟩ | ⟨n, e⟩
    · cases e2
    · rw [List.getElem?_set_ne (Ne.symm n)]
      exact S.ow j u' e
  · obtain ⟨u1, e1⟩ := h1
    obtain ⟨u2, e2⟩ := h2
    rcases set_get e1 with ⟨_, z⟩ | ⟨n1, e1⟩
    · cases z
    rcases set_get e2 with ⟨_, z⟩ | ⟨n2, e2⟩
    · cases z
    rw [List.getElem?_set_ne (Ne.symm n1)] at e
    rw [List.getElem?_set_ne (Ne.symm n2)]
    exact S.dis j k a n ⟨_, e1⟩ ⟨_, e2⟩ e
theorem Sv.setO (S : Sv Z σ ρ G H) {i : Nat} (hi : Z.may i) {p : Addr} {o : HO} {u : U} (hp : H p = some o) (gp : G p = none) (n0 : Z.H0 p = none) (ho : Ow Z.pp G o u) (fr : ∀ (j : Nat), j ≠ i → isOw ρ j → σ[j]? ≠ some (some (.ref p))) : Sv Z (σ.set i (some (.ref p))) (ρ.set i (.ow u)) G H := by
  refine ⟨S.gr, S.w0, S.p0, S.ex, by simpa using S.ln, fun j u' e => ?_, fun j u' e => ?_, me_set hi S.me, S.pn, fun j k a n h1 h2 e => ?_⟩
  · rcases set_get e with ⟨rfl, e2⟩ | ⟨n, e⟩
    · cases e2
    · rw [List.getElem?_set_ne (Ne.symm n)]
      exact S.fz j u' e
  · rcases set_get e with ⟨rfl, e'⟩ | ⟨n, e⟩
    · have : j < ρ.length := by
        have := (List.getElem?_eq_some_iff.mp e).1
        simpa using this
      cases e'
      exact ⟨p, o, by rw [List.getElem?_set_self (by rw [S.len]; exact this)], hp, gp, n0, ho⟩
    · rw [List.getElem?_set_ne (Ne.symm n)]
      exact S.ow j u' e
  · obtain ⟨u1, e1⟩ := h1
    obtain ⟨u2, e2⟩ := h2
    rcases set_get e1 with ⟨rfl, z1⟩ | ⟨n1, e1'⟩
    · have jl : j < σ.length := by
        have := (List.getElem?_eq_some_iff.mp e1).1
        rw [S.len]
        simpa using this
      rw [List.getElem?_set_self jl] at e
      cases e
      rcases set_get e2 with ⟨rfl, z⟩ | ⟨n2, e2⟩
      · exact absurd rfl n
      · rw [List.getElem?_set_ne (Ne.symm n2)]
        exact fr k (Ne.symm n) ⟨_, e2⟩
    · rw [List.getElem?_set_ne (Ne.symm n1)] at e
      rcases set_get e2 with ⟨rfl, z⟩ | ⟨n2, e2'⟩
      · have kl : k < σ.length := by
          have := (List.getElem?_eq_some_iff.mp e2).1
          rw [S.len]
          simpa using this
        rw [List.getElem?_set_self kl]
        intro z
        cases z
        exact fr j n ⟨_, e1'⟩ e
      · rw [List.getElem?_set_ne (Ne.symm n2)]
        exact S.dis j k a n ⟨_, e1'⟩ ⟨_, e2'⟩ e
/-- one's own object is changed -/
theorem Sv.put (S : Sv Z σ ρ G H) {i : Nat} {a : Addr} {o' : HO} {u u' : U} (hi : ρ[i]? = some (.ow u)) (ha : σ[i]? = some (some (.ref a))) (ho : Ow Z.pp G o' u') : Sv Z σ (ρ.set i (.ow u')) G (upd H a o') := by
  obtain ⟨a1, o1, q1, h1, g1, z1, w1⟩ := S.ow i u hi
  rw [ha] at q1
  cases q1
  have il : i < ρ.length := (List.getElem?_eq_some_iff.mp hi).1
  have neG : ∀ c y, G c = some y → c ≠ a := fun c y e => ne_of_none e g1
  have ne0 : ∀ c y, Z.H0 c = some y → c ≠ a := fun c y e => ne_of_none e z1
  refine ⟨⟨⟨S.gr.gg, fun c y e => ?_, fun c y n e g => ?_, S.gr.pl.put (fun x e => by rw [h1] at e; cases e; exact w1.no) (fun z => let ⟨⟨_, _, _, _, _, k1, _⟩, _⟩ := S.p0.1 z; ne0 _ _ k1) (fun z => let ⟨⟨_, _, _, _, _, _, k2, _⟩, _⟩ := S.p0.1 z; ne0 _ _ k2)⟩, fun c y e => ?_⟩, S.w0, S.p0, S.ex, by simpa using S.ln, fun j u2 e => ?_, fun j u2 e => ?_, S.me, S.pn, fun j k c n h1 h2 e => ?_⟩
  · rw [upd_ne (neG c y e)]
    exact S.vw c y e
  · rw [upd_ne (ne0 c y e)]
    exact S.gr.fr0 c y n e g
  · have := S.gr.ge c y e
    unfold Lk at this ⊢
    rw [upd_ne (neG c y (S.gr.gg c y e))]
    exact this
  · rcases set_get e with ⟨_, z⟩ | ⟨_, e⟩
    · cases z
    · exact S.fz j u2 e
  · rcases set_get e with ⟨rfl, z⟩ | ⟨n, e⟩
    · cases z
      exact ⟨a, o', ha, upd_same, g1, z1, ho⟩
    · obtain ⟨a2, o2, q2, h2, g2, z2, w2⟩ := S.ow j u2 e
      have : a2 ≠ a := fun z => by
        subst z
        exact S.dis i j a2 (Ne.symm n) ⟨_, hi⟩ ⟨_, e⟩ ha q2
      exact ⟨a2, o2, q2, by rw [upd_ne this]; exact h2, g2, z2, w2⟩
  · have f : ∀ j, isOw (ρ.set i (.ow u')) j → isOw ρ j := fun j ⟨y, e⟩ => by
      rcases set_get e with ⟨rfl, _⟩ | ⟨_, e⟩
      · exact ⟨_, hi⟩
      · exact ⟨_, e⟩
    exact S.dis j k c n (f j h1) (f k h2) e
/-- one's own object is frozen -/
theorem Sv.frz (S : Sv Z σ ρ G H) {i : Nat} {u : U} (hi : ρ[i]? = some (.ow u)) : ∃ G', Same G G' ∧ Sv Z σ (ρ.set i (.fz u)) G' H := by
  obtain ⟨a, o, ha, h1, g1, z1, w1⟩ := S.ow i u hi
  have s : Same G (upd G a o) := same_upd g1
  have gr : Z.gr0 Z.G0 Z.H0 (upd G a o) H := S.gr.freeze z1 g1 h1 S.p0
  refine ⟨upd G a o, s, ⟨gr, S.w0, S.p0, S.ex, by simpa using S.ln, fun j u2 e => ?_, fun j u2 e => ?_, S.me, S.pn.trans s, fun j k c n h1 h2 e => ?_⟩⟩
  · rcases set_get e with ⟨rfl, z⟩ | ⟨_, e⟩
    · cases z
      exact ⟨_, ha, w1.rp g1⟩
    · obtain ⟨v, k1, k2⟩ := S.fz j u2 e
      exact ⟨v, k1, k2.same s⟩
  · rcases set_get e with ⟨rfl, z⟩ | ⟨n, e⟩
    · cases z
    · obtain ⟨a2, o2, q2, h2, g2, z2, w2⟩ := S.ow j u2 e
      have : a2 ≠ a := fun z => by
        subst z
        exact S.dis i j a2 (Ne.symm n) ⟨_, hi⟩ ⟨_, e⟩ ha q2
      exact ⟨a2, o2, q2, h2, by rw [upd_ne this]; exact g2, z2, w2.same s⟩
  · have f : ∀ j, isOw (ρ.set i (.fz u)) j → isOw ρ j := fun j ⟨y, e⟩ => by
      rcases set_get e with ⟨_, z⟩ | ⟨_, e⟩
      · cases z
      · exact ⟨_, e⟩
    exact S.dis j k c n (f j h1) (f k h2) e
end
end SV
/-! The value layer's judgements: expressions, arguments, tests, statements. -/
namespace SV
open PySem PySem.Spec PyProof.Rows L2 SL
/-- a value that is looked at: its own object may be one's own, its parts are frozen -/
inductive Bp (pp : Addr) (G H : Hp) : V → U → Prop
  | non : Bp pp G H .non .non
  | bl (b : Bool) : Bp pp G H (.bl b) (.bl b)
  | int (i : Int) : Bp pp G H (.int i) (.int i)
  | str (s : Str) (z : s.length ≤ 100000) : Bp pp G H (.str s) (.str s)
  | lst {a : Addr} {vs : List V} {us : List U} (h : H a = some (.lst vs)) (k : RpL pp G vs us) (z : us.length ≤ 100000) : Bp pp G H (.ref a) (.lst us)
  | tup {a : Addr} {vs : List V} {us : List U} (h : G a = some (.tup vs)) (k : RpL pp G vs us) (z : us.length ≤ 100000) : Bp pp G H (.ref a) (.tup us)
  | dic {a : Addr} {kvs : List (Key × V)} {kus : List (Key × U)} (h : Rd H a (.dK kvs)) (k : RpD pp G kvs kus) (z : kus.length ≤ 100000) : Bp pp G H (.ref a) (.dic kus)
  | dit {a : Addr} {kvs : List (List Key × V)} {kus : List (List Key × U)} (h : Rd H a (.dT kvs)) (k : RpT pp G kvs kus) (z : kus.length ≤ 100000) : Bp pp G H (.ref a) (.dit kus)
  | ins {a C dx : Addr} {fs : List (Str × V)} {gs : List (Str × U)} (h : H a = some (.ins C dx fs)) (k : RpF pp G fs gs) : Bp pp G H (.ref a) (.ins C gs)
  | pool : Bp pp G H (.ref pp) .pool
  | ty (n : String) : Bp pp G H (.ty n) (.ty n)
theorem Rp.bp {pp : Addr} {G H : Hp} (w : Vw G H) {v : V} {u : U} (h : Rp pp G v u) : Bp pp G H v u := by
  cases h with
  | non => exact .non
  | bl b => exact .bl b
  | int i => exact .int i
  | str s z => exact .str s z
  | lst h k z => exact .lst (w.lst h) k z
  | tup h k z => exact .tup h k z
  | dic h k z => exact .dic (w.rd h) k z
  | dit h k z => exact .dit (w.rd h) k z
  | ins h k => exact .ins (w.ins h) k
  | pool => exact .pool
  | ty n => exact .ty n
theorem Ow.bp {pp p : Addr} {G H : Hp} {o : HO} {u : U} (h : Ow pp G o u) (e : H p = some o) : Bp pp G H (.ref p) u := by
  cases h with
  | lst k z => exact .lst e k z
  | dic k z => exact .dic (.inl e) k z
  | dit k z => exact .dit (.inl e) k z
  | ins k => exact .ins e k
theorem keepO {b : PT} {pp q : Addr} {G H G' H' : Hp} (g : Gr b pp q G H G' H') (w : Vw G H) {a : Addr} {o : HO} (n : Off b pp a) (h : H a = some o) (nf : ∀ x y, o ≠ .frz x y) (nd : isD o = false) : H' a = some o := by
  cases e : G a with
  | none => exact (g.fr0 a o n h e).2
  | some o2 =>
    rcases w a o2 e with k | ⟨_, ob, k⟩
    · rw [h] at k
      cases k
      rcases g.vw a _ (g.gg a _ e) with k | ⟨k, _⟩
      · exact k
      · rw [nd] at k
        cases k
    · rw [h] at k
      cases k
      exact absurd rfl (nf _ _)
theorem keepD {b : PT} {pp q : Addr} {G H G' H' : Hp} (g : Gr b pp q G H G' H') (w : Vw G H) {a : Addr} {o : HO} (n : Off b pp a) (h : Rd H a o) (nf : ∀ x y, o ≠ .frz x y) : Rd H' a o := by
  cases e : G a with
  | none =>
    rcases h with h | ⟨ob, h⟩
    · exact .inl (g.fr0 a o n h e).2
    · exact .inr ⟨ob, (g.fr0 a _ n h e).2⟩
  | some o2 =>
    have k2 := g.vw.rd (g.gg a _ e)
    rcases w a o2 e with k | ⟨_, ob, k⟩
    · rcases h with h | ⟨ob, h⟩
      · rw [h] at k
        cases k
        exact k2
      · rw [h] at k
        cases k
        rcases g.vw a _ (g.gg a _ e) with k | ⟨k, _⟩
        · exact .inr ⟨_, k⟩
        · cases k
    · rcases h with h | ⟨ob, h⟩
      · rw [h] at k
        cases k
        exact absurd rfl (nf _ _)
      · rw [h] at k
        cases k
        exact k2
/-- the pool's list is none of data -/
theorem pool_no {b : PT} {pp q : Addr} {G H : Hp} {a : Addr} {vs : List V} {us : List U} (hp : Pl b pp q G H) (h : H a = some (.lst vs)) (k : RpL pp G vs us) : Off b pp a := by
  refine ⟨fun z e => ?_, fun t ht => ?_⟩
  · subst e
    obtain ⟨⟨ms, c, u, d, e, k1, _, k3, _⟩, n1, n2⟩ := hp.1 z
    rw [h] at k1
    cases k1
    cases k with
    | cons h t =>
      cases h with
      | lst h _ _ => rw [n2] at h; cases h
      | tup h _ _ => rw [n2] at h; cases h
      | dic h _ _ => rw [n2] at h; cases h
      | dit h _ _ => rw [n2] at h; cases h
      | ins h _ => rw [n2] at h; cases h
      | pool => exact k3 rfl
  · obtain ⟨⟨ps, k1, _⟩, _⟩ := hp.2 t ht
    exact ne_of h k1 fun z => nomatch z
theorem pool_nd {b : PT} {pp q : Addr} {G H : Hp} {o : HO} (hp : Pl b pp q G H) {a : Addr} (h : Rd H a o) (nl : ∀ vs, o ≠ .lst vs) (nt : ∀ ps, o ≠ .tbl ps := by exact fun _ e => nomatch e) : Off b pp a := by
  refine ⟨fun z e => ?_, fun t ht e => ?_⟩
  · obtain ⟨⟨ms, c, u, d, e', k1, _⟩, _⟩ := hp.1 z
    subst e
    rcases h with h | ⟨ob, h⟩
    · rw [h] at k1
      cases k1
      exact nl _ rfl
    · rw [h] at k1
      cases k1
  · obtain ⟨⟨ps, k1, _⟩, _⟩ := hp.2 t ht
    rw [← e] at k1
    rcases h with h | ⟨ob, h⟩
    · rw [h] at k1
      cases k1
      exact nt _ rfl
    · rw [h] at k1
      cases k1
theorem Bp.step {b : PT} {pp q : Addr} {G H G' H' : Hp} (g : Gr b pp q G H G' H') (w : Vw G H) (hp : Pl b pp q G H) {v : V} {u : U} (h : Bp pp G H v u) : Bp pp G' H' v u := by
  cases h with
  | non => exact .non
  | bl b => exact .bl b
  | int i => exact .int i
  | str s z => exact .str s z
  | lst h k z => exact .lst (keepO g w (pool_no hp h k) h (fun _ _ e => nomatch e) rfl) (k.same g.gg) z
  | tup h k z => exact .tup (g.gg _ _ h) (k.same g.gg) z
  | dic h k z => exact .dic (keepD g w (pool_nd hp h fun _ e => nomatch e) h (fun _ _ e => nomatch e)) (k.same g.gg) z
  | dit h k z => exact .dit (keepD g w (pool_nd hp h fun _ e => nomatch e) h (fun _ _ e => nomatch e)) (k.same g.gg) z
  | ins h k => exact .ins (keepO g w (pool_nd hp (.inl h) fun _ e => nomatch e) h (fun _ _ e => nomatch e) rfl) (k.same g.gg)
  | pool => exact .pool
  | ty n => exact .ty n
/-! ### the judgements -/
abbrev WE := List Cell → (U → Prop) → Prop
abbrev WA := List Cell → (List U → Prop) → Prop
abbrev WT := List Cell → (Bool → Prop) → Prop
structure V3 where
  nx : List Cell → Prop
  rt : U → Prop
  bk : List Cell → Prop := fun _ => False
  ct : List Cell → Prop := fun _ => False
abbrev WS := V3 → List Cell → Prop
def TrE (Z : Zc) (t : TE) (w : WE) : Prop := ∀ σ ρ G H (post : U → Prop) (Q : VK), Sv Z σ ρ G H → w ρ post → (∀ v u G' H', post u → Z.gr G H G' H' → Rp Z.pp G' v u → Q v H') → t σ H Q
def TrF (Z : Zc) (t : TE) (w : WE) : Prop := ∀ σ ρ G H (post : U → Prop) (Q : VK), Sv Z σ ρ G H → w ρ post → (∀ p o u G' H', post u → Z.gr G H G' H' → H p = none → G' p = none → H' p = some o → Ow Z.pp G' o u → Q (.ref p) H') → t σ H Q
def TrB (Z : Zc) (t : TE) (w : WE) : Prop := ∀ σ ρ G H (post : U → Prop) (Q : VK), Sv Z σ ρ G H → w ρ post → (∀ v u G' H', post u → Z.gr G H G' H' → Bp Z.pp G' H' v u → Q v H') → t σ H Q
def TrA (Z : Zc) (t : TA) (w : WA) : Prop := ∀ σ ρ G H (post : List U → Prop) (Q : List V → Hp → Prop), Sv Z σ ρ G H → w ρ post → (∀ vs us G' H', post us → Z.gr G H G' H' → RpL Z.pp G' vs us → Q vs H') → t σ H Q
def TrT (Z : Zc) (t : TT) (w : WT) : Prop := ∀ σ ρ G H (post : Bool → Prop) (Q : Bool → Hp → Prop), Sv Z σ ρ G H → w ρ post → (∀ c G' H', post c → Z.gr G H G' H' → Q c H') → t σ H Q
structure Br (Z : Zc) (V : V3) (D : Ends) (Gs Hs : Hp) : Prop where
  nx : ∀ σ ρ G H, Sv Z σ ρ G H → Ex Gs Hs G H → V.nx ρ → D.nx σ H
  rt : ∀ v u G H, Z.gr0 Z.G0 Z.H0 G H → Ex Gs Hs G H → Rp Z.pp G v u → V.rt u → D.rt v H
  bk : ∀ σ ρ G H, Sv Z σ ρ G H → Ex Gs Hs G H → V.bk ρ → D.bk σ H
  ct : ∀ σ ρ G H, Sv Z σ ρ G H → Ex Gs Hs G H → V.ct ρ → D.ct σ H
theorem Br.to {Z : Zc} {V : V3} {D : Ends} {G H G' H' : Hp} (B : Br Z V D G H) (e : Ex G H G' H') : Br Z V D G' H' :=
  ⟨fun σ ρ G1 H1 S x => B.nx σ ρ G1 H1 S (e.trans x), fun v u G1 H1 g x => B.rt v u G1 H1 g (e.trans x), fun σ ρ G1 H1 S x => B.bk σ ρ G1 H1 S (e.trans x), fun σ ρ G1 H1 S x => B.ct σ ρ G1 H1 S (e.trans x)⟩
def TrS (Z : Zc) (t : TS) (w : WS) : Prop := ∀ V D σ ρ G H, Sv Z σ ρ G H → w V ρ → Br Z V D G H → t D σ H
section
variable {Z : Zc} {t : TE} {w : WE}
theorem TrF.e (h : TrF Z t w) : TrE Z t w := fun σ ρ G H post Q S hw q => h σ ρ G H post Q S hw fun p o u G' H' pu g np gp hp ho =>
  q _ u (upd G' p o) H' pu (g.freeze np gp hp S.pl) (ho.rp gp)
theorem TrE.b (h : TrE Z t w) : TrB Z t w := fun σ ρ G H post Q S hw q => h σ ρ G H post Q S hw fun v u G' H' pu g hv => q v u G' H' pu g (hv.bp g.vw)
theorem TrF.b (h : TrF Z t w) : TrB Z t w := fun σ ρ G H post Q S hw q => h σ ρ G H post Q S hw fun p o u G' H' pu g np gp hp ho => q _ u G' H' pu g (ho.bp hp)
def wVar (i : Nat) : WE := fun ρ post => ∃ u, ρ[i]? = some (.fz u) ∧ post u
def wOwn (i : Nat) : WE := fun ρ post => ∃ u, ρ[i]? = some (.ow u) ∧ post u
def wC (u : U) : WE := fun _ post => post u
theorem v_var {i : Nat} : TrE Z (tVar i) (wVar i) := fun σ ρ G H post Q S hw q => by
  obtain ⟨u, e, p⟩ := hw
  obtain ⟨v, e1, hv⟩ := S.fz i u e
  exact ⟨v, e1, q v u G H p (Gr.refl S.vw S.pl) hv⟩
theorem v_own {i : Nat} : TrB Z (tVar i) (wOwn i) := fun σ ρ G H post Q S hw q => by
  obtain ⟨u, e, p⟩ := hw
  obtain ⟨a, o, e1, h1, g1, _, ho⟩ := S.ow i u e
  exact ⟨_, e1, q _ u G H p (Gr.refl S.vw S.pl) (ho.bp h1)⟩
theorem v_int {i : Int} : TrE Z (tC (.int i)) (wC (.int i)) := fun σ ρ G H post Q S hw q => q _ _ G H hw (Gr.refl S.vw S.pl) (.int i)
theorem v_bl {i : Bool} : TrE Z (tC (.bl i)) (wC (.bl i)) := fun σ ρ G H post Q S hw q => q _ _ G H hw (Gr.refl S.vw S.pl) (.bl i)
theorem v_non : TrE Z (tC .non) (wC .non) := fun σ ρ G H post Q S hw q => q _ _ G H hw (Gr.refl S.vw S.pl) .non
theorem v_str {x : Str} (z : x.length ≤ 100000 := by decide) : TrE Z (tC (.str x)) (wC (.str x)) := fun σ ρ G H post Q S hw q => q _ _ G H hw (Gr.refl S.vw S.pl) (.str x z)
theorem v_ty {n : String} : TrE Z (tC (.ty n)) (wC (.ty n)) := fun σ ρ G H post Q S hw q => q _ _ G H hw (Gr.refl S.vw S.pl) (.ty n)
/-! ### operators -/
variable {ta tb : TE} {wa wb : WE}
/-- what an operator's rule asks, by values -/
def OpOk (r : R2) (f : U → U → Option U) : Prop := ∀ {b : PT} {pp q : Addr} {G H : Hp} {v1 v2 : V} {x y u : U} {Q : VK}, Vw G H → (Pl b pp q G H) → Bp pp G H v1 x → Bp pp G H v2 y → f x y = some u →
  (∀ v G' H', Gr b pp q G H G' H' → Rp pp G' v u → Q v H') → r v1 v2 H Q
def OpOkF (r : R2) (f : U → U → Option U) : Prop := ∀ {b : PT} {pp q : Addr} {G H : Hp} {v1 v2 : V} {x y u : U} {Q : VK}, Vw G H → (Pl b pp q G H) → Bp pp G H v1 x → Bp pp G H v2 y → f x y = some u →
  (∀ p o H', Gr b pp q G H G H' → H p = none → G p = none → H' p = some o → Ow pp G o u → Q (.ref p) H') → r v1 v2 H Q
def wOp (f : U → U → Option U) (wa wb : WE) : WE := fun ρ post => wa ρ fun x => wb ρ fun y => ∃ u, f x y = some u ∧ post u
theorem v_op {r : R2} {f : U → U → Option U} (o : OpOk r f) (ha : TrB Z ta wa) (hb : TrB Z tb wb) : TrE Z (tOp r ta tb) (wOp f wa wb) := fun σ ρ G H post Q S hw q =>
  ha σ ρ G H _ _ S hw fun v1 x G1 H1 w1 g1 b1 => hb σ ρ G1 H1 _ _ (S.step g1) w1 fun v2 y G2 H2 w2 g2 b2 => by
    obtain ⟨u, e, p⟩ := w2
    have S2 := (S.step g1).step g2
    exact o S2.vw S2.pl (b1.step g2 (S.step g1).vw (S.step g1).pl) b2 e fun v G' H' g hv => q v u G' H' p ((g1.trans g2).trans g) hv
theorem v_opF {r : R2} {f : U → U → Option U} (o : OpOkF r f) (ha : TrB Z ta wa) (hb : TrB Z tb wb) : TrF Z (tOp r ta tb) (wOp f wa wb) := fun σ ρ G H post Q S hw q =>
  ha σ ρ G H _ _ S hw fun v1 x G1 H1 w1 g1 b1 => hb σ ρ G1 H1 _ _ (S.step g1) w1 fun v2 y G2 H2 w2 g2 b2 => by
    obtain ⟨u, e, p⟩ := w2
    have S2 := (S.step g1).step g2
    refine o S2.vw S2.pl (b1.step g2 (S.step g1).vw (S.step g1).pl) b2 e fun p' o' H' g np gp hp ho => ?_
    have np0 : H p' = none := by
      cases e0 : H p' with
      | none => rfl
      | some o0 =>
        have off : Off Z.b Z.pp p' := off_none S2.pl np
        cases g0 : G p' with
        | none =>
          have := ((g1.trans g2).fr0 p' o0 off e0 g0).2
          rw [np] at this
          cases this
        | some o2 =>
          rw [(g1.trans g2).gg _ _ g0] at gp
          cases gp
    exact q p' o' u G2 H' p ((g1.trans g2).trans g) np0 gp hp ho
def wUn (f : U → Option U) (wa : WE) : WE := fun ρ post => wa ρ fun x => ∃ u, f x = some u ∧ post u
/-! ### arguments -/
def wNil : WA := fun _ post => post []
def wCons (w : WE) (wr : WA) : WA := fun ρ post => w ρ fun x => wr ρ fun xs => post (x :: xs)
theorem v_nil : TrA Z tNil wNil := fun σ ρ G H post Q S hw q => q [] [] G H hw (Gr.refl S.vw S.pl) .nil
theorem v_cons {tr : TA} {wr : WA} (ha : TrE Z ta wa) (hr : TrA Z tr wr) : TrA Z (tCons ta tr) (wCons wa wr) := fun σ ρ G H post Q S hw q =>
  ha σ ρ G H _ _ S hw fun v x G1 H1 w1 g1 h1 => hr σ ρ G1 H1 _ _ (S.step g1) w1 fun vs us G2 H2 w2 g2 h2 => q _ _ G2 H2 w2 (g1.trans g2) (.cons (h1.same g2.gg) h2)
variable {tA : TA} {wA : WA}
def wTup (wA : WA) : WE := fun ρ post => wA ρ fun us => us.length ≤ 100000 ∧ post (.tup us)
def wLst (wA : WA) : WE := fun ρ post => wA ρ fun us => us.length ≤ 100000 ∧ post (.lst us)
theorem v_tup (h : TrA Z tA wA) : TrE Z (tTup tA) (wTup wA) := fun σ ρ G H post Q S hw q =>
  h σ ρ G H _ _ S hw fun vs us G1 H1 w1 g1 h1 => ⟨Nat.le_of_lt (lineN (by rw [h1.length]; exact w1.1)), fun p np => by
    have S1 := S.step g1
    exact q _ _ (upd G1 p (.tup vs)) _ w1.2 (g1.trans (Gr.new S1.vw S1.pl np)) (.tup upd_same (h1.same (same_upd (S1.vw.free np))) w1.1)⟩
theorem free_back {Z : Zc} {σ : L2.St} {ρ : List Cell} {G H G1 H1 : Hp} (S : Sv Z σ ρ G H) (g1 : Z.gr G H G1 H1) {p : Addr} (np : H1 p = none) : H p = none := by
  have S1 := S.step g1
  cases e0 : H p with
  | none => rfl
  | some o0 =>
    have off : Off Z.b Z.pp p := off_none S1.pl np
    cases g0 : G p with
    | none =>
      have := (g1.fr0 p o0 off e0 g0).2
      rw [np] at this
      cases this
    | some o2 =>
      have := S1.vw.free np
      rw [g1.gg _ _ g0] at this
      cases this
/-- a new object is changed -/
theorem gr_own {Z : Zc} {G1 H1 G2 H2 : Hp} (gt : Z.gr G1 H1 G2 H2) (w1 : Vw G1 H1) (pl : Pl Z.b Z.pp Z.q G1 H1) {D : Addr} (nD : H1 D = none) (gD : G2 D = none) (o : HO) (no : Z.b.T = [] ∨ ∀ x, H2 D = some x → (∀ ps, x ≠ .tbl ps) ∧ ∀ φ, x ≠ .ext φ) : Z.gr G1 H1 G2 (upd H2 D o) := by
  refine ⟨⟨gt.gg, fun a x e => ?_, fun a x n e g => ?_, ?_⟩, fun a x e => ?_⟩
  · rw [upd_ne (ne_of_none e gD)]
    exact gt.vw a x e
  · obtain ⟨z1, z2⟩ := gt.fr0 a x n e g
    exact ⟨z1, by rw [upd_ne (ne_of_none e nD)]; exact z2⟩
  · refine ⟨fun z => ?_, fun t ht => ?_⟩
    · obtain ⟨P, n1, n2⟩ := gt.pl.1 z
      obtain ⟨⟨ms, c', u', d', e', k1, k2, k3⟩, _⟩ := pl.1 z
      exact ⟨P.keep (upd_ne (ne_of_none k1 nD)) (upd_ne (ne_of_none k2 nD)), n1, n2⟩
    · rcases no with no | no
      · rw [no] at ht
        cases ht
      · exact ⟨tab_upd (gt.pl.2 t ht).1 no, (gt.pl.2 t ht).2⟩
  · have := gt.ge a x e
    unfold Lk at this ⊢
    rw [upd_ne (ne_of_none e (w1.free nD))]
    exact this
theorem lst_no {H : Hp} {D : Addr} {vs : List V} (e : H D = some (.lst vs)) : ∀ x, H D = some x → (∀ ps, x ≠ .tbl ps) ∧ ∀ φ, x ≠ .ext φ := fun x h => by
  rw [e] at h
  cases h
  exact ⟨(fun _ z => nomatch z), (fun _ z => nomatch z)⟩
theorem dic_no {H : Hp} {D : Addr} {kvs : List (Key × V)} (e : H D = some (.dK kvs)) : ∀ x, H D = some x → (∀ ps, x ≠ .tbl ps) ∧ ∀ φ, x ≠ .ext φ := fun x h => by
  rw [e] at h
  cases h
  exact ⟨(fun _ z => nomatch z), (fun _ z => nomatch z)⟩
theorem v_lst (h : TrA Z tA wA) : TrF Z (tLst tA) (wLst wA) := fun σ ρ G H post Q S hw q =>
  h σ ρ G H _ _ S hw fun vs us G1 H1 w1 g1 h1 => ⟨Nat.le_of_lt (lineN (by rw [h1.length]; exact w1.1)), fun p np => by
    have S1 := S.step g1
    exact q p _ _ G1 _ w1.2 (g1.trans (Gr.newH S1.vw S1.pl np)) (free_back S g1 np) (S1.vw.free np) upd_same (.lst h1 w1.1)⟩
/-! ### tests, and, or -/
variable {tA' tB' : TT} {wA' wB' : WT}
def wTest (w : WE) : WT := fun ρ post => w ρ fun x => ∃ c, x = .bl c ∧ post c
theorem v_test (h : TrE Z t w) : TrT Z (tTest t) (wTest w) := fun σ ρ G H post Q S hw q => h σ ρ G H _ _ S hw fun v x G1 H1 w1 g1 h1 => by
  obtain ⟨c, rfl, p⟩ := w1
  cases h1
  exact ⟨c, rfl, q c G1 H1 p g1⟩
theorem v_tB (h : TrE Z t w) : TrT Z (tB t) (wTest w) := v_test h
def wAnd (a b : WT) : WT := fun ρ post => a ρ fun c => if c = true then b ρ post else post false
def wOr (a b : WT) : WT := fun ρ post => a ρ fun c => if c = true then post true else b ρ post
def wNot (a : WT) : WT := fun ρ post => a ρ fun c => post (!c)
theorem v_and (ha : TrT Z tA' wA') (hb : TrT Z tB' wB') : TrT Z (tAnd tA' tB') (wAnd wA' wB') := fun σ ρ G H post Q S hw q => ha σ ρ G H _ _ S hw fun c G1 H1 w1 g1 => by
  cases c with
  | true => exact iteT (hb σ ρ G1 H1 _ _ (S.step g1) w1 fun c' G2 H2 p g2 => q c' G2 H2 p (g1.trans g2))
  | false => exact iteF (q false G1 H1 w1 g1)
theorem v_or (ha : TrT Z tA' wA') (hb : TrT Z tB' wB') : TrT Z (tOr tA' tB') (wOr wA' wB') := fun σ ρ G H post Q S hw q => ha σ ρ G H _ _ S hw fun c G1 H1 w1 g1 => by
  cases c with
  | true => exact iteT (q true G1 H1 w1 g1)
  | false => exact iteF (hb σ ρ G1 H1 _ _ (S.step g1) w1 fun c' G2 H2 p g2 => q c' G2 H2 p (g1.trans g2))
theorem v_not (ha : TrT Z tA' wA') : TrT Z (tNot tA') (wNot wA') := fun σ ρ G H post Q S hw q => ha σ ρ G H _ _ S hw fun c G1 H1 w1 g1 => q (!c) G1 H1 w1 g1
def wAndV (a b : WE) : WE := fun ρ post => a ρ fun x => ∃ c, x = .bl c ∧ if c = true then b ρ post else post (.bl false)
def wOrV (a b : WE) : WE := fun ρ post => a ρ fun x => ∃ c, x = .bl c ∧ if c = true then post (.bl true) else b ρ post
def wNotV (a : WE) : WE := fun ρ post => a ρ fun x => ∃ c, x = .bl c ∧ post (.bl (!c))
theorem v_andV (ha : TrE Z ta wa) (hb : TrE Z tb wb) : TrE Z (tAndV ta tb) (wAndV wa wb) := fun σ ρ G H post Q S hw q => ha σ ρ G H _ _ S hw fun v x G1 H1 w1 g1 h1 => by
  obtain ⟨c, rfl, p⟩ := w1
  cases h1
  refine ⟨c, rfl, ?_⟩
  cases c with
  | true => exact iteT (hb σ ρ G1 H1 _ _ (S.step g1) p fun v' u G2 H2 p g2 => q v' u G2 H2 p (g1.trans g2))
  | false => exact iteF (q _ _ G1 H1 p g1 (.bl false))
theorem v_orV (ha : TrE Z ta wa) (hb : TrE Z tb wb) : TrE Z (tOrV ta tb) (wOrV wa wb) := fun σ ρ G H post Q S hw q => ha σ ρ G H _ _ S hw fun v x G1 H1 w1 g1 h1 => by
  obtain ⟨c, rfl, p⟩ := w1
  cases h1
  refine ⟨c, rfl, ?_⟩
  cases c with
  | true => exact iteT (q _ _ G1 H1 p g1 (.bl true))
  | false => exact iteF (hb σ ρ G1 H1 _ _ (S.step g1) p fun v' u G2 H2 p g2 => q v' u G2 H2 p (g1.trans g2))
theorem v_notV (ha : TrE Z ta wa) : TrE Z (tNotV ta) (wNotV wa) := fun σ ρ G H post Q S hw q => ha σ ρ G H _ _ S hw fun v x G1 H1 w1 g1 h1 => by
  obtain ⟨c, rfl, p⟩ := w1
  cases h1
  exact ⟨c, rfl, q _ _ G1 H1 p g1 (.bl _)⟩
def wIf (c : WT) (a b : WE) : WE := fun ρ post => c ρ fun k => if k = true then a ρ post else b ρ post
theorem v_if (hc : TrT Z tA' wA') (ha : TrE Z ta wa) (hb : TrE Z tb wb) : TrE Z (tIf tA' ta tb) (wIf wA' wa wb) := fun σ ρ G H post Q S hw q => hc σ ρ G H _ _ S hw fun c G1 H1 w1 g1 => by
  cases c with
  | true => exact iteT (ha σ ρ G1 H1 _ _ (S.step g1) w1 fun v' u G2 H2 p g2 h => q v' u G2 H2 p (g1.trans g2) h)
  | false => exact iteF (hb σ ρ G1 H1 _ _ (S.step g1) w1 fun v' u G2 H2 p g2 h => q v' u G2 H2 p (g1.trans g2) h)
def wChain (f g : U → U → Option U) (wa wb wc : WE) : WE := fun ρ post => wa ρ fun x => wb ρ fun y => ∃ z, f x y = some z ∧ ∃ k, z = .bl k ∧ if k = true then wc ρ fun u => ∃ r, g y u = some r ∧ post r else post (.bl false)
theorem v_chain {r r' : R2} {f g : U → U → Option U} {tc : TE} {wc : WE} (o : OpOk r f) (o' : OpOk r' g) (ha : TrB Z ta wa) (hb : TrB Z tb wb) (hc : TrB Z tc wc) : TrE Z (tChain r r' ta tb tc) (wChain f g wa wb wc) := fun σ ρ G H post Q S hw q =>
  ha σ ρ G H _ _ S hw fun v1 x G1 H1 w1 g1 b1 => hb σ ρ G1 H1 _ _ (S.step g1) w1 fun v2 y G2 H2 w2 g2 b2 => by
    obtain ⟨u, e, k, rfl, p⟩ := w2
    have S1 := S.step g1
    have S2 := S1.step g2
    refine o S2.vw S2.pl (b1.step g2 S1.vw S1.pl) b2 e fun v G3 H3 g3 hv => ?_
    cases hv
    have S3 := S2.step g3
    refine ⟨k, rfl, ?_⟩
    cases k with
    | true =>
      refine iteT (hc σ ρ G3 H3 _ _ S3 p fun v3 z G4 H4 w4 g4 b4 => ?_)
      obtain ⟨r, e4, p4⟩ := w4
      have S4 := S3.step g4
      exact o' S4.vw S4.pl ((b2.step g3 S2.vw S2.pl).step g4 S3.vw S3.pl) b4 e4 fun v G' H' g hv => q v r G' H' p4 ((((g1.trans g2).trans g3).trans g4).trans g) hv
    | false => exact iteF (q _ _ G3 H3 p ((g1.trans g2).trans g3) (.bl false))
end
/-! ### statements -/
section
variable {Z : Zc} {t u : TS} {w x : WS} {te : TE} {we : WE} {tt : TT} {wt : WT}
def wNext : WS := fun V ρ => V.nx ρ
def wSeq (w x : WS) : WS := fun V ρ => w { V with nx := x V } ρ
theorem s_nil : TrS Z tNext wNext := fun V D σ ρ G H S hw B => B.nx σ ρ G H S Ex.refl hw
theorem s_seq (h : TrS Z t w) (k : TrS Z u x) : TrS Z (tSeq t u) (wSeq w x) := fun V D σ ρ G H S hw B =>
  h _ _ σ ρ G H S hw ⟨fun σ' ρ' G' H' S' x p => k V D σ' ρ' G' H' S' p (B.to x), B.rt, B.bk, B.ct⟩
/-- what is known between two statements is named -/
def wCut (w x : WS) : WS := fun V ρ => ∃ Mid : List Cell → Prop, w { V with nx := Mid } ρ ∧ ∀ ρ', Mid ρ' → x V ρ'
theorem s_cut (h : TrS Z t w) (k : TrS Z u x) : TrS Z (tSeq t u) (wCut w x) := fun V D σ ρ G H S hw B => by
  obtain ⟨Mid, h1, h2⟩ := hw
  exact h _ _ σ ρ G H S h1 ⟨fun σ' ρ' G' H' S' x p => k V D σ' ρ' G' H' S' (h2 ρ' p) (B.to x), B.rt, B.bk, B.ct⟩
def wBreak : WS := fun V ρ => V.bk ρ
def wCont : WS := fun V ρ => V.ct ρ
theorem s_break : TrS Z tBreak wBreak := fun V D σ ρ G H S hw B => B.bk σ ρ G H S Ex.refl hw
theorem s_cont : TrS Z tCont wCont := fun V D σ ρ G H S hw B => B.ct σ ρ G H S Ex.refl hw
def wDrop (we : WE) : WS := fun V ρ => we ρ fun _ => V.nx ρ
theorem s_drop (h : TrB Z te we) : TrS Z (tDrop te) (wDrop we) := fun V D σ ρ G H S hw B => h σ ρ G H _ _ S hw fun v u G1 H1 p g _ => B.nx σ ρ G1 H1 (S.step g) g.ex p
def wRet (we : WE) : WS := fun V ρ => we ρ V.rt
theorem s_ret (h : TrE Z te we) : TrS Z (tRet te) (wRet we) := fun V D σ ρ G H S hw B => h σ ρ G H _ _ S hw fun v u G1 H1 p g hv => B.rt v u G1 H1 (S.step g).gr g.ex hv p
def wRetN : WS := fun V _ => V.rt .non
theorem s_retN : TrS Z tRetN wRetN := fun V D σ ρ G H S hw B => B.rt _ _ G H S.gr Ex.refl .non hw
def wIfS (c : WT) (a b : WS) : WS := fun V ρ => c ρ fun k => if k = true then a V ρ else b V ρ
theorem s_if (hc : TrT Z tt wt) (ha : TrS Z t w) (hb : TrS Z u x) : TrS Z (tIfS tt t u) (wIfS wt w x) := fun V D σ ρ G H S hw B => hc σ ρ G H _ _ S hw fun c G1 H1 p g => by
  cases c with
  | true => exact iteT (ha V D σ ρ G1 H1 (S.step g) p (B.to g.ex))
  | false => exact iteF (hb V D σ ρ G1 H1 (S.step g) p (B.to g.ex))
def wNever : WS := fun _ _ => False
theorem s_dead {t : TS} : TrS Z t wNever := fun V D σ ρ G H S hw B => hw.elim
/-- name = value -/
def wSet (i : Nat) (we : WE) : WS := fun V ρ => we ρ fun u => V.nx (ρ.set i (.fz u))
theorem s_set {i : Nat} (h : TrE Z te we) (hi : Z.may i := by exact Zc.may_of (by assumption) (by decide)) : TrS Z (tAsg te (gName i)) (wSet i we) := fun V D σ ρ G H S hw B => h σ ρ G H _ _ S hw fun v u G1 H1 p g hv => B.nx _ _ G1 H1 ((S.step g).set hi hv) g.ex p
/-- name = a new object, one's own -/
def wSetO (i : Nat) (we : WE) : WS := fun V ρ => we ρ fun u => V.nx (ρ.set i (.ow u))
theorem s_setO {i : Nat} (h : TrF Z te we) (hi : Z.may i := by exact Zc.may_of (by assumption) (by decide)) : TrS Z (tAsg te (gName i)) (wSetO i we) := fun V D σ ρ G H S hw B => h σ ρ G H _ _ S hw fun p o u G1 H1 pu g np gp hp ho => by
  have S1 := S.step g
  refine B.nx _ _ G1 H1 (S1.setO hi hp gp (S.new0 np) ho fun j _ hj e => ?_) g.ex pu
  obtain ⟨u2, e2⟩ := hj
  obtain ⟨a, o2, k1, k2, _⟩ := S.ow j u2 e2
  rw [e] at k1
  cases k1
  rw [np] at k2
  cases k2
/-- from here on one's own object stays as it is -/
def wFrz (i : Nat) (w : WS) : WS := fun V ρ => ∃ u, ρ[i]? = some (.ow u) ∧ w V (ρ.set i (.fz u))
theorem s_frz {i : Nat} (h : TrS Z t w) : TrS Z t (wFrz i w) := fun V D σ ρ G H S hw B => by
  obtain ⟨u, e, p⟩ := hw
  obtain ⟨G', s, S'⟩ := S.frz e
  exact h V D σ _ G' H S' p (B.to ⟨s, fun _ _ _ => .inl rfl⟩)
end
end SV
/-! The value layer: operators, calls, walks. -/
namespace SV
open PySem PySem.Spec PyProof.Rows L2 SL
/-! ### data of the library -/
mutual
def toPy : U → Option PyData
  | .non => some .none
  | .bl b => some (.bool b)
  | .int i => some (.int i)
  | .str s => some (.str s)
  | .lst us => (toPys us).map .list
  | .tup us => (toPys us).map .tuple
  | .dic _ => none
  | .dit _ => none
  | .ins _ _ => none
  | .pool => none
  | .ty _ => none
def toPys : List U → Option (List PyData)
  | [] => some []
  | u :: us => match toPy u, toPys us with
    | some d, some ds => some (d :: ds)
    | _, _ => none
end
section
variable {K : PySem.W.Frag} {pp : Addr} {G H : Hp}
mutual
theorem Rp.dp (w : Vw G H) : ∀ {v : V} {u : U} {d : PyData}, Rp pp G v u → toPy u = some d → Dp K H v d
  | _, _, _, .non, e => by simp only [toPy, Option.some.injEq] at e; subst e; exact .non
  | _, _, _, .bl b, e => by simp only [toPy, Option.some.injEq] at e; subst e; exact .bl b
  | _, _, _, .int i, e => by simp only [toPy, Option.some.injEq] at e; subst e; exact .int i
  | _, _, _, .str s _, e => by simp only [toPy, Option.some.injEq] at e; subst e; exact .str s
  | _, _, _, .lst (us := us) h k _, e => by
    cases q : toPys us with
    | none => simp [toPy, q] at e
    | some ds => simp only [toPy, q, Option.map_some, Option.some.injEq] at e; subst e; exact .lst (SqL.of (w.lst h)) (RpL.dp w k q)
  | _, _, _, .tup (us := us) h k _, e => by
    cases q : toPys us with
    | none => simp [toPy, q] at e
    | some ds => simp only [toPy, q, Option.map_some, Option.some.injEq] at e; subst e; exact .tup (SqT.of (w.tup h)) (RpL.dp w k q)
  | _, _, _, .dic _ _ _, e => by simp [toPy] at e
  | _, _, _, .dit _ _ _, e => by simp [toPy] at e
  | _, _, _, .ins _ _, e => by simp [toPy] at e
  | _, _, _, .pool, e => by simp [toPy] at e
  | _, _, _, .ty _, e => by simp [toPy] at e
theorem RpL.dp (w : Vw G H) : ∀ {vs : List V} {us : List U} {ds : List PyData}, RpL pp G vs us → toPys us = some ds → DpAll K H vs ds
  | _, _, _, .nil, e => by simp only [toPys, Option.some.injEq] at e; subst e; exact .nil
  | _, _, _, .cons (u := u) (us := us) h t, e => by
    cases q : toPy u with
    | none => simp [toPys, q] at e
    | some d =>
      cases r : toPys us with
      | none => simp [toPys, q, r] at e
      | some ds => simp only [toPys, q, r, Option.some.injEq] at e; subst e; exact .cons (Rp.dp w h q) (RpL.dp w t r)
end
theorem Bp.dp (w : Vw G H) {v : V} {u : U} {d : PyData} (h : Bp pp G H v u) (e : toPy u = some d) : Dp K H v d := by
  cases h with
  | lst h k z =>
    rename_i a vs us
    cases q : toPys us with
    | none => simp [toPy, q] at e
    | some ds => simp only [toPy, q, Option.map_some, Option.some.injEq] at e; subst e; exact .lst (SqL.of h) (k.dp w q)
  | tup h k z => exact (Rp.tup h k z).dp w e
  | non => exact Rp.dp w (pp := pp) .non e
  | bl b => exact Rp.dp w (pp := pp) (.bl b) e
  | int b => exact Rp.dp w (pp := pp) (.int b) e
  | str b z => exact Rp.dp w (pp := pp) (.str b z) e
  | dic _ _ _ => simp [toPy] at e
  | dit _ _ _ => simp [toPy] at e
  | ins _ _ => simp [toPy] at e
  | pool => simp [toPy] at e
  | ty _ => simp [toPy] at e
end
def eqU (x y : U) : Option Bool := match toPy x, toPy y with
  | some d, some e => if SeqAt.shaped d && SeqAt.shaped e then some (PyData.eqv d e) else none
  | _, _ => none
theorem eqU_get {x y : U} {c : Bool} (h : eqU x y = some c) : ∃ d e, toPy x = some d ∧ toPy y = some e ∧ SeqAt.shaped d = true ∧ SeqAt.shaped e = true ∧ PyData.eqv d e = c := by
  unfold eqU at h
  cases e1 : toPy x with
  | none => rw [e1] at h; cases h
  | some d =>
    cases e2 : toPy y with
    | none => rw [e1, e2] at h; cases h
    | some e =>
      simp only [e1, e2] at h
      by_cases c : (SeqAt.shaped d && SeqAt.shaped e) = true
      · rw [if_pos c] at h
        rw [Bool.and_eq_true] at c
        exact ⟨d, e, rfl, rfl, c.1, c.2, Option.some.inj h⟩
      · rw [if_neg c] at h
        cases h
/-! ### operators -/
def fII (g : Int → Int → U) : U → U → Option U
  | .int i, .int j => some (g i j)
  | _, _ => none
def fIIc (C : Int → Int → Bool) (g : Int → Int → U) : U → U → Option U
  | .int i, .int j => if C i j then some (g i j) else none
  | _, _ => none
theorem o_II {g : Int → Int → Int} : OpOk (rI0 fun i j => .int (g i j)) (fII fun i j => .int (g i j)) := by
  intro b pp q G H v1 v2 x y u Q w p h1 h2 e k
  cases h1 <;> first | cases e | skip
  cases h2 <;> first | cases e | skip
  exact ⟨_, _, rfl, rfl, k _ G H (Gr.refl w p) (.int _)⟩
theorem o_IB {g : Int → Int → Bool} : OpOk (rI0 fun i j => .bl (g i j)) (fII fun i j => .bl (g i j)) := by
  intro b pp q G H v1 v2 x y u Q w p h1 h2 e k
  cases h1 <;> first | cases e | skip
  cases h2 <;> first | cases e | skip
  exact ⟨_, _, rfl, rfl, k _ G H (Gr.refl w p) (.bl _)⟩
theorem o_IIc {C : Int → Int → Prop} {c : Int → Int → Bool} {g : Int → Int → Int} (hc : ∀ i j, c i j = true → C i j) : OpOk (rI C fun i j => .int (g i j)) (fIIc c fun i j => .int (g i j)) := by
  intro b pp q G H v1 v2 x y u Q w p h1 h2 e k
  cases h1 <;> first | cases e | skip
  cases h2 <;> first | cases e | skip
  rename_i i j
  have e' : (if c i j then some (U.int (g i j)) else none) = some u := e
  by_cases z : c i j = true
  · rw [if_pos z] at e'
    cases e'
    exact ⟨_, _, rfl, rfl, hc _ _ z, k _ G H (Gr.refl w p) (.int _)⟩
  · rw [if_neg z] at e'
    cases e'
def cMul (i j : Int) : Bool := decide (-(2 ^ 64) < i ∧ i < 2 ^ 64) || decide (-(2 ^ 64) < j ∧ j < 2 ^ 64)
theorem cMul_ok (i j : Int) (h : cMul i j = true) : CMul i j := by
  unfold cMul at h
  rw [Bool.or_eq_true, decide_eq_true_eq, decide_eq_true_eq] at h
  exact h
abbrev fMul : U → U → Option U := fIIc cMul fun i j => .int (i * j)
theorem o_mul : OpOk (rI CMul fun i j => .int (i * j)) fMul := o_IIc cMul_ok
theorem o_mod : OpOk (rI (fun _ j => 0 < j) fun i j => .int (i % j)) (fIIc (fun _ j => decide (0 < j)) fun i j => .int (i % j)) := o_IIc fun _ _ h => of_decide_eq_true h
theorem o_fdiv : OpOk (rI CDiv fun i j => .int (i / j)) (fIIc (fun _ j => decide (0 < j ∧ j < 1073741824)) fun i j => .int (i / j)) := o_IIc fun _ _ h => of_decide_eq_true h
theorem o_shl : OpOk (rI CPow fun i j => .int (i * 2 ^ j.toNat)) (fIIc (fun i j => decide (0 ≤ j ∧ j ≤ 1000000 ∧ i.natAbs < 2 ^ 64)) fun i j => .int (i * 2 ^ j.toNat)) := o_IIc fun _ _ h => of_decide_eq_true h
theorem o_pow : OpOk (rI CPow fun i j => .int (i ^ j.toNat)) (fIIc (fun i j => decide (0 ≤ j ∧ j ≤ 1000000 ∧ i.natAbs < 2 ^ 64)) fun i j => .int (i ^ j.toNat)) := o_IIc fun _ _ h => of_decide_eq_true h
theorem o_shr : OpOk (rI (fun _ j => 0 ≤ j) fun i j => .int (i / 2 ^ j.toNat)) (fIIc (fun _ j => decide (0 ≤ j)) fun i j => .int (i / 2 ^ j.toNat)) := o_IIc fun _ _ h => of_decide_eq_true h
def fEq : U → U → Option U := fun x y => (eqU x y).map .bl
def fNe : U → U → Option U := fun x y => (eqU x y).map fun c => .bl (!c)
theorem o_eq {K : PySem.W.Frag} : OpOk (rEqD K) fEq := by
  intro b pp q G H v1 v2 x y u Q w p h1 h2 e k
  unfold fEq at e
  cases c : eqU x y with
  | none => rw [c] at e; cases e
  | some c0 =>
    rw [c] at e
    cases e
    obtain ⟨d, d', e1, e2, s1, s2, rfl⟩ := eqU_get c
    exact ⟨d, d', h1.dp w e1, h2.dp w e2, s1, s2, k _ G H (Gr.refl w p) (.bl _)⟩
theorem o_ne {K : PySem.W.Frag} : OpOk (rNeD K) fNe := by
  intro b pp q G H v1 v2 x y u Q w p h1 h2 e k
  unfold fNe at e
  cases c : eqU x y with
  | none => rw [c] at e; cases e
  | some c0 =>
    rw [c] at e
    cases e
    obtain ⟨d, d', e1, e2, s1, s2, rfl⟩ := eqU_get c
    exact ⟨d, d', h1.dp w e1, h2.dp w e2, s1, s2, k _ G H (Gr.refl w p) (.bl _)⟩
theorem op_eqV {X : Cx} (K : PySem.W.Frag) (hu : X.A.units + 64 < cLine) (h : X.K = K := by rfl) : OpR X (compareOp .Eq) (rEqD K) := by subst h; exact op_eqD hu
theorem op_neV {X : Cx} (K : PySem.W.Frag) (hu : X.A.units + 64 < cLine) (h : X.K = K := by rfl) : OpR X (compareOp .NotEq) (rNeD K) := by subst h; exact op_neD hu
def isNon : U → Bool
  | .non => true
  | _ => false
def fIsN : U → U → Option U
  | x, .non => some (.bl (isNon x))
  | _, _ => none
def fNotN : U → U → Option U
  | x, .non => some (.bl (!isNon x))
  | _, _ => none
theorem isNon_bp {pp : Addr} {G H : Hp} {v : V} {x : U} (h : Bp pp G H v x) : decide (v = .non) = isNon x := by
  cases h <;> rfl
theorem o_isN : OpOk (fun x y H Q => y = .non ∧ Q (.bl (decide (x = .non))) H) fIsN := by
  intro b pp q G H v1 v2 x y u Q w p h1 h2 e k
  cases h2 <;> first | (cases x <;> cases e <;> done) | skip
  have e' : some (U.bl (isNon x)) = some u := by cases x <;> exact e
  cases e'
  exact ⟨rfl, k _ G H (Gr.refl w p) (by rw [isNon_bp h1]; exact .bl _)⟩
theorem o_notN : OpOk (fun x y H Q => y = .non ∧ Q (.bl (!decide (x = .non))) H) fNotN := by
  intro b pp q G H v1 v2 x y u Q w p h1 h2 e k
  cases h2 <;> first | (cases x <;> cases e <;> done) | skip
  have e' : some (U.bl (!isNon x)) = some u := by cases x <;> exact e
  cases e'
  exact ⟨rfl, k _ G H (Gr.refl w p) (by rw [isNon_bp h1]; exact .bl _)⟩
/-- + of ints, tuples, texts -/
def rCatV : R2 := fun x y H Q => ∃ a b xs ys, x = .ref a ∧ y = .ref b ∧ H a = some (.tup xs) ∧ H b = some (.tup ys) ∧ xs.length + ys.length ≤ 100000 ∧ ∀ c H', Same H H' → H' c = some (.tup (xs ++ ys)) → (H c = none ∨ (c = a ∧ ys = []) ∨ (c = b ∧ xs = [])) → Q (.ref c) H'
theorem op_catV {X : Cx} (K : PySem.W.Frag) (h : X.K = K := by rfl) : OpR X (binaryOp .Add) rCatV := by
  subst h
  intro pins s σ H x y v u Q I rx ry z
  obtain ⟨a, b, xs, ys, e1, e2, ha, hb, hz, q⟩ := z
  refine op_catA pins s σ H x y v u Q I rx ry ⟨a, b, xs, ys, e1, e2, SqT.of ha, SqT.of hb, Nat.le_of_lt (lineN hz), fun e => ?_, fun _ e => ?_, fun _ _ p np => ?_⟩
  · subst e
    exact q b H (Same.refl H) hb (.inr (.inr ⟨rfl, rfl⟩))
  · subst e
    exact q a H (Same.refl H) (by rw [List.append_nil]; exact ha) (.inr (.inl ⟨rfl, rfl⟩))
  · exact q p _ (same_upd np) upd_same (.inl np)
def rSlV : V → Option Int → Option Int → Hp → VK → Prop := fun x lo hi H Q => ∃ a xs, x = .ref a ∧ H a = some (.tup xs) ∧ ∀ c H', Same H H' → H' c = some (.tup (cutV xs lo hi)) → (H c = none ∨ (c = a ∧ cutV xs lo hi = xs)) → Q (.ref c) H'
theorem sl_tupV {X : Cx} (K : PySem.W.Frag) (h : X.K = K := by rfl) : SlR X rSlV := by
  subst h
  intro pins s σ H x v vl vu lo hi sl Q I rx hs pl pu z
  obtain ⟨a, xs, e, hx, q⟩ := z
  refine sl_tupA pins s σ H x v vl vu lo hi sl Q I rx hs pl pu ⟨a, xs, e, SqT.of hx, fun w => ?_, fun _ p np => q p _ (same_upd np) upd_same (.inl np)⟩
  have z : cutV xs lo hi = xs := by
    unfold cutV
    rw [w.1, w.2, List.drop_zero, Nat.sub_zero, List.take_length]
  exact q a H (Same.refl H) (by rw [z]; exact hx) (.inr ⟨rfl, z⟩)
def rAddU : R2 := fun x y H Q => rI0 (fun i j => .int (i + j)) x y H Q ∨ rCatV x y H Q ∨ (∃ i j, x = .str i ∧ y = .str j ∧ i.length + j.length ≤ sizeLine ∧ Q (.str (i ++ j)) H)
theorem op_addU {X : Cx} (K : PySem.W.Frag) (h : X.K = K := by rfl) : OpR X (binaryOp .Add) rAddU := op_add.or ((op_catV K h).or op_add_str)
def fAdd : U → U → Option U
  | .int i, .int j => some (.int (i + j))
  | .tup xs, .tup ys => if xs.length + ys.length ≤ 100000 then some (.tup (xs ++ ys)) else none
  | .str s, .str t => if s.length + t.length ≤ 100000 then some (.str (s ++ t)) else none
  | _, _ => none
theorem str_app_len (a b : Str) : (a ++ b).length = a.length + b.length := by
  show (a.cps ++ b.cps).size = a.cps.size + b.cps.size
  exact Array.size_append
/-- a step of L2 that lays new objects alone, one of them the answer -/
theorem grow {b : PT} {pp q : Addr} {G H H' : Hp} (w : Vw G H) (p : Pl b pp q G H) (s : Same H H') {c : Addr} {o : HO} (e : H' c = some o) (hn : H c = none ∨ G c = some o) : ∃ G', Gr b pp q G H G' H' ∧ G' c = some o ∧ Same G G' := by
  have pl : ∀ G' : Hp, (∀ a, G' a = G a ∨ (a = c ∧ H c = none)) → Pl b pp q G' H' := fun G' hg => p.same s fun a => (hg a).imp id fun h => by rw [h.1]; exact h.2
  rcases hn with hn | hn
  · have gn := w.free hn
    refine ⟨upd G c o, ⟨⟨same_upd gn, fun a u ea => ?_, fun a u _ ea g => ?_, pl _ fun a => ?_⟩, fun a u ea => ?_⟩, upd_same, same_upd gn⟩
    · by_cases h : a = c
      · subst h
        rw [upd_same] at ea
        cases ea
        exact .inl e
      · rw [upd_ne h] at ea
        rcases w a u ea with k | ⟨k1, ob, k⟩
        · exact .inl (s _ _ k)
        · exact .inr ⟨k1, ob, s _ _ k⟩
    · have h : a ≠ c := ne_of_none ea hn
      rw [upd_ne h]
      exact ⟨fun _ => g, s _ _ ea⟩
    · by_cases h : a = c
      · exact .inr ⟨h, hn⟩
      · exact .inl (upd_ne h)
    · rcases w a u ea with k | ⟨k1, ob, k⟩
      · exact .inl ((s _ _ k).trans k.symm)
      · exact .inl ((s _ _ k).trans k.symm)
  · refine ⟨G, ⟨⟨Same.refl _, fun a u ea => ?_, fun a u _ ea g => ⟨fun _ => g, s _ _ ea⟩, pl _ fun a => .inl rfl⟩, fun a u ea => ?_⟩, hn, Same.refl _⟩
    · rcases w a u ea with k | ⟨k1, ob, k⟩
      · exact .inl (s _ _ k)
      · exact .inr ⟨k1, ob, s _ _ k⟩
    · rcases w a u ea with k | ⟨k1, ob, k⟩
      · exact .inl ((s _ _ k).trans k.symm)
      · exact .inl ((s _ _ k).trans k.symm)
theorem o_add : OpOk rAddU fAdd := by
  intro b pp q G H v1 v2 x y u Q w p h1 h2 e k
  cases h1 <;> first | cases e | skip
  · cases h2 <;> first | cases e | skip
    exact .inl ⟨_, _, rfl, rfl, k _ G H (Gr.refl w p) (.int _)⟩
  · rename_i s zs
    cases h2 <;> first | cases e | skip
    rename_i t zt
    by_cases c : s.length + t.length ≤ 100000
    · have e' : (if s.length + t.length ≤ 100000 then some (U.str (s ++ t)) else none) = some u := e
      rw [if_pos c] at e'
      cases e'
      exact .inr (.inr ⟨_, _, rfl, rfl, Nat.le_of_lt (lineN c), k _ G H (Gr.refl w p) (.str _ (by rw [str_app_len]; exact c))⟩)
    · have e' : (if s.length + t.length ≤ 100000 then some (U.str (s ++ t)) else none) = some u := e
      rw [if_neg c] at e'
      cases e'
  · rename_i a vs us h kk z
    cases h2 <;> first | cases e | skip
    rename_i a2 vs2 us2 h' k' z'
    by_cases c : us.length + us2.length ≤ 100000
    · have e' : (if us.length + us2.length ≤ 100000 then some (U.tup (us ++ us2)) else none) = some u := e
      rw [if_pos c] at e'
      cases e'
      refine .inr (.inl ⟨a, a2, vs, vs2, rfl, rfl, w.tup h, w.tup h', by rw [kk.length, k'.length]; exact c, fun d H' s ed hn => ?_⟩)
      have hn' : H d = none ∨ G d = some (.tup (vs ++ vs2)) := by
        rcases hn with hn | ⟨rfl, rfl⟩ | ⟨rfl, rfl⟩
        · exact .inl hn
        · exact .inr (by rw [List.append_nil]; exact h)
        · exact .inr h'
      obtain ⟨G', g, gd, sg⟩ := grow w p s ed hn'
      exact k _ G' H' g (.tup gd ((k'.same sg).append (kk.same sg)) (by rw [List.length_append]; exact c))
    · have e' : (if us.length + us2.length ≤ 100000 then some (U.tup (us ++ us2)) else none) = some u := e
      rw [if_neg c] at e'
      cases e'
/-- + of lists: a new one -/
def fCatL : U → U → Option U
  | .lst xs, .lst ys => if xs.length + ys.length ≤ 100000 then some (.lst (xs ++ ys)) else none
  | _, _ => none
theorem o_catL : OpOkF rCat fCatL := by
  intro b pp q G H v1 v2 x y u Q w p h1 h2 e k
  cases h1 <;> first | cases e | skip
  rename_i a vs us h kk z
  cases h2 <;> first | cases e | skip
  rename_i a2 vs2 us2 h' k' z'
  by_cases c : us.length + us2.length ≤ 100000
  · have e' : (if us.length + us2.length ≤ 100000 then some (U.lst (us ++ us2)) else none) = some u := e
    rw [if_pos c] at e'
    cases e'
    refine ⟨a, a2, vs, vs2, rfl, rfl, h, h', by rw [kk.length, k'.length]; exact Nat.le_of_lt (lineN c), fun d nd => ?_⟩
    exact k d _ _ (Gr.newH w p nd) nd (w.free nd) upd_same (.lst (k'.append kk) (by rw [List.length_append]; exact c))
  · have e' : (if us.length + us2.length ≤ 100000 then some (U.lst (us ++ us2)) else none) = some u := e
    rw [if_neg c] at e'
    cases e'
/-! ### subscripts, slices -/
theorem RpL.atI {pp : Addr} {G : Hp} {vs : List V} {us : List U} {i : Int} {u : U} (k : RpL pp G vs us) (e : L2.atI us i = some u) : ∃ v, L2.atI vs i = some v ∧ Rp pp G v u := by
  unfold L2.atI at e ⊢
  rw [k.length]
  cases c : ixN us.length i with
  | none => rw [c] at e; cases e
  | some j =>
    rw [c] at e
    exact k.got e
def fIx : U → U → Option U
  | .lst us, .int i => L2.atI us i
  | .tup us, .int i => L2.atI us i
  | .str z, .int i => (L2.atI z.cps.toList i).map fun c => .str ⟨#[c]⟩
  | _, _ => none
theorem o_ix {K : PySem.W.Frag} : OpOk (rIx K) fIx := by
  intro b pp q G H v1 v2 x y u Q w p h1 h2 e k
  cases h1 <;> first | cases e | skip
  · rename_i s z
    cases h2 <;> first | cases e | skip
    rename_i i
    have e' : ((L2.atI s.cps.toList i).map fun c => U.str ⟨#[c]⟩) = some u := e
    cases c : L2.atI s.cps.toList i with
    | none => rw [c] at e'; cases e'
    | some c0 =>
      rw [c] at e'
      cases e'
      exact .inr (.inr ⟨s, i, c0, rfl, rfl, Nat.le_of_lt (lineN z), c, k _ G H (Gr.refl w p) (.str _ (by show (1 : Nat) ≤ 100000; decide))⟩)
  · rename_i a vs us h kk z
    cases h2 <;> first | cases e | skip
    obtain ⟨v, e1, hv⟩ := kk.atI e
    exact .inl ⟨_, _, _, _, rfl, rfl, SqL.of h, e1, k _ G H (Gr.refl w p) hv⟩
  · rename_i a vs us h kk z
    cases h2 <;> first | cases e | skip
    obtain ⟨v, e1, hv⟩ := kk.atI e
    exact .inr (.inl ⟨_, _, _, _, rfl, rfl, SqT.of (w.tup h), e1, k _ G H (Gr.refl w p) hv⟩)
/-- xs[lo:hi] of values -/
def cutU (us : List U) (lo hi : Option Int) : List U := (us.drop (HT.sIx us.length 0 lo)).take (HT.sIx us.length us.length hi - HT.sIx us.length 0 lo)
theorem RpL.cut {pp : Addr} {G : Hp} {vs : List V} {us : List U} (k : RpL pp G vs us) (lo hi : Option Int) : RpL pp G (cutV vs lo hi) (cutU us lo hi) := by
  unfold cutV cutU
  rw [k.length]
  exact (k.drop _).take _
theorem cutU_le (us : List U) (lo hi : Option Int) : (cutU us lo hi).length ≤ us.length := by
  unfold cutU
  rw [List.length_take, List.length_drop]
  omega
section
variable {Z : Zc} {te : TE} {we : WE}
abbrev WO := List Cell → (Option Int → Prop) → Prop
def TrO (Z : Zc) (t : TO) (w : WO) : Prop := ∀ σ ρ G H (post : Option Int → Prop) (Q : Option Int → Hp → Prop), Sv Z σ ρ G H → w ρ post → (∀ o G' H', post o → Z.gr G H G' H' → Q o H') → t σ H Q
def wNoPart : WO := fun _ post => post none
def wPart (we : WE) : WO := fun ρ post => we ρ fun x => ∃ i, x = .int i ∧ post (some i)
theorem v_noPart : TrO Z tNoPart wNoPart := fun σ ρ G H post Q S hw q => q none G H hw (Gr.refl S.vw S.pl)
theorem v_part (h : TrE Z te we) : TrO Z (tPart te) (wPart we) := fun σ ρ G H post Q S hw q => h σ ρ G H _ _ S hw fun v x G1 H1 w1 g1 h1 => by
  obtain ⟨i, rfl, p⟩ := w1
  cases h1
  exact ⟨i, rfl, q _ G1 H1 p g1⟩
def wSl (f : U → Option Int → Option Int → Option U) (we : WE) (wl wh : WO) : WE := fun ρ post => we ρ fun x => wl ρ fun lo => wh ρ fun hi => ∃ u, f x lo hi = some u ∧ post u
def fSlT : U → Option Int → Option Int → Option U
  | .tup us, lo, hi => some (.tup (cutU us lo hi))
  | _, _, _ => none
def fSlL : U → Option Int → Option Int → Option U
  | .lst us, lo, hi => some (.lst (cutU us lo hi))
  | _, _, _ => none
def fSlS : U → Option Int → Option Int → Option U
  | .str s, lo, hi => some (.str (cutS s lo hi))
  | _, _, _ => none
variable {tl th : TO} {wl wh : WO}
theorem v_slT (h : TrE Z te we) (hl : TrO Z tl wl) (hh : TrO Z th wh) : TrE Z (tSl rSlV te tl th) (wSl fSlT we wl wh) := fun σ ρ G H post Q S hw q =>
  h σ ρ G H _ _ S hw fun v x G1 H1 w1 g1 h1 => hl σ ρ G1 H1 _ _ (S.step g1) w1 fun lo G2 H2 w2 g2 => hh σ ρ G2 H2 _ _ ((S.step g1).step g2) w2 fun hi G3 H3 w3 g3 => by
    obtain ⟨u, e, p⟩ := w3
    have S3 := ((S.step g1).step g2).step g3
    have h3 := h1.same (g2.gg.trans g3.gg)
    cases h3 <;> first | cases e | skip
    rename_i a vs us hh' kk z
    refine ⟨a, vs, rfl, S3.vw.tup hh', fun c H' s ec hn => ?_⟩
    have hn' : H3 c = none ∨ G3 c = some (.tup (cutV vs lo hi)) := by
      rcases hn with hn | ⟨rfl, e2⟩
      · exact .inl hn
      · exact .inr (by rw [e2]; exact hh')
    obtain ⟨G', g, gd, sg⟩ := grow S3.vw S3.pl s ec hn'
    exact q _ _ G' H' p (((g1.trans g2).trans g3).trans g) (.tup gd ((kk.cut lo hi).same sg) (Nat.le_trans (cutU_le _ _ _) z))
theorem v_slL {K : PySem.W.Frag} (h : TrB Z te we) (hl : TrO Z tl wl) (hh : TrO Z th wh) : TrF Z (tSl (rSlL K) te tl th) (wSl fSlL we wl wh) := fun σ ρ G H post Q S hw q =>
  h σ ρ G H _ _ S hw fun v x G1 H1 w1 g1 h1 => hl σ ρ G1 H1 _ _ (S.step g1) w1 fun lo G2 H2 w2 g2 => hh σ ρ G2 H2 _ _ ((S.step g1).step g2) w2 fun hi G3 H3 w3 g3 => by
    obtain ⟨u, e, p⟩ := w3
    have S1 := S.step g1
    have S2 := S1.step g2
    have S3 := S2.step g3
    have h3 := (h1.step g2 S1.vw S1.pl).step g3 S2.vw S2.pl
    cases h3 <;> first | cases e | skip
    rename_i a vs us hh' kk z
    refine ⟨a, vs, rfl, SqL.of hh', fun c nc => ?_⟩
    exact q c _ _ G3 _ p (((g1.trans g2).trans g3).trans (Gr.newH S3.vw S3.pl nc)) (free_back S ((g1.trans g2).trans g3) nc) (S3.vw.free nc) upd_same (.lst (kk.cut lo hi) (Nat.le_trans (cutU_le _ _ _) z))
theorem cutS_len (s : Str) (lo hi : Option Int) : (cutS s lo hi).length ≤ s.length := by
  show (Array.size _) ≤ s.cps.size
  unfold cutS
  simp only [List.size_toArray, List.length_take, List.length_drop, Array.length_toList]
  omega
theorem v_slS (h : TrE Z te we) (hl : TrO Z tl wl) (hh : TrO Z th wh) : TrE Z (tSl rSlS te tl th) (wSl fSlS we wl wh) := fun σ ρ G H post Q S hw q =>
  h σ ρ G H _ _ S hw fun v x G1 H1 w1 g1 h1 => hl σ ρ G1 H1 _ _ (S.step g1) w1 fun lo G2 H2 w2 g2 => hh σ ρ G2 H2 _ _ ((S.step g1).step g2) w2 fun hi G3 H3 w3 g3 => by
    obtain ⟨u, e, p⟩ := w3
    cases h1 <;> first | cases e | skip
    rename_i s z
    exact ⟨s, rfl, Nat.le_of_lt (lineN z), q _ _ G3 H3 p ((g1.trans g2).trans g3) (.str _ (Nat.le_trans (cutS_len _ _ _) z))⟩
end
end SV
/-! The value layer: defs called and proved, targets, loops, comprehensions. -/
namespace SV
open PySem PySem.Spec PyProof.Rows L2 SL
/-! ### a def's promise by values -/
abbrev Wf := List U → (U → Prop) → EW → Prop
def spV (b : PT) (n : Nat) (W : Wf) : Sp := fun vs H Q E => ∃ us pp q G post ew, RpL pp G vs us ∧ us.length = n ∧ Vw G H ∧ (Pl b pp q G H) ∧ W us post ew ∧
  (∀ v u G' H', post u → Gr b pp q G H G' H' → Rp pp G' v u → Q v H') ∧ (∀ C fs gs od G' H', ew C gs → Gr b pp q G H G' H' → XdAt G' od fs → RpF pp G' fs gs → E (.ref C) od H')
theorem spV_len {b : PT} {n : Nat} {W : Wf} {vs : List V} {H : Hp} {Q : VK} {E : XK} (h : spV b n W vs H Q E) : vs.length = n := by
  obtain ⟨us, pp, q, G, post, ew, k, l, _⟩ := h
  rw [k.length, l]
theorem start_get {N : List Str} {vs : List V} {us : List U} {pp : Addr} {G : Hp} (k : RpL pp G vs us) {i : Nat} {u : U} (e : (us.map Cell.fz ++ List.replicate (N.length - us.length) Cell.no)[i]? = some (.fz u)) : ∃ v, (L2.start N vs)[i]? = some (some v) ∧ Rp pp G v u := by
  by_cases c : i < us.length
  · rw [List.getElem?_append_left (by rw [List.length_map]; exact c), List.getElem?_map, List.getElem?_eq_getElem c] at e
    have e' : us[i] = u := by simpa using e
    obtain ⟨v, e1, hv⟩ := k.got (i := i) (u := u) (by rw [List.getElem?_eq_getElem c, e'])
    refine ⟨v, ?_, hv⟩
    unfold L2.start
    rw [List.getElem?_append_left (by rw [List.length_map, k.length]; exact c), List.getElem?_map, e1]
    rfl
  · rw [List.getElem?_append_right (by rw [List.length_map]; omega)] at e
    have := List.mem_of_getElem? e
    rw [List.mem_replicate] at this
    exact nomatch this.2
theorem start_ow {N : List Str} {us : List U} {i : Nat} {u : U} (e : (us.map Cell.fz ++ List.replicate (N.length - us.length) Cell.no)[i]? = some (.ow u)) : False := by
  have := List.mem_of_getElem? e
  rw [List.mem_append, List.mem_map, List.mem_replicate] at this
  rcases this with ⟨a, _, z⟩ | ⟨_, z⟩ <;> cases z
section
variable {P : Program} {w : World} {K : PySem.W.Frag} {mg : Str → Option Value} {base : Heap}
theorem body_of {b : PT} {n : Nat} {W : Wf} {N : List Str} {t : TS} {E : XK} (hN : n ≤ N.length)
    (tr : ∀ Z : Zc, Z.b = b → Z.E = E → Z.mays (fun _ => true) → ∃ w, TrS Z t w ∧ ∀ us post, us.length = n → W us post Z.ew → w { nx := fun _ => post .non, rt := post } (us.map Cell.fz ++ List.replicate (N.length - us.length) Cell.no))
    {vs : List V} {H : Hp} {Q : VK} (h : spV b n W vs H Q E) : t { nx := fun _ H' => Q .non H', rt := Q } (L2.start N vs) H := by
  obtain ⟨us, pp, q, G, post, ew, k, l, vw, pl, hw, hq, he⟩ := h
  obtain ⟨w, T, hb⟩ := tr ⟨b, pp, q, G, H, E, ew, N.length, fun _ => none, fun _ => none⟩ rfl rfl fun _ _ => rfl
  have g0 : Gr b pp q G H G H := Gr.refl vw pl
  refine T _ _ (L2.start N vs) _ G H ⟨g0, vw, pl, fun C fs us od G' H' a g x r => he C fs us od G' H' a g x r, ⟨?_, ?_⟩, fun i u e => start_get k e, fun i u e => (start_ow e).elim, (fun _ _ e => nomatch e), (fun _ _ e => nomatch e), fun i j a _ h1 _ => by obtain ⟨u, e⟩ := h1; exact (start_ow e).elim⟩ (hb us post l hw)
    ⟨fun σ ρ G' H' S x p => hq .non .non G' H' p S.gr .non, fun v u G' H' g x r p => hq v u G' H' p g r, fun _ _ _ _ _ _ z => z.elim, fun _ _ _ _ _ _ z => z.elim⟩
  · unfold L2.start
    rw [List.length_append, List.length_map, List.length_replicate, k.length, l]
    show n + (N.length - n) = N.length
    omega
  · rw [List.length_append, List.length_map, List.length_replicate, l]
    show n + (N.length - n) = N.length
    omega
/-- a def that raises nothing -/
theorem okV {b : PT} {n : Nat} {W : Wf} {x qual : Str} {st : Stmt} {f : Addr} {fd : FuncData} {N ps : List Str} {k : Nat} (F : Fun K x qual st f fd) (S : FnScope N ps (defScope st)) (hn : ps.length = n) (hN : n ≤ N.length)
    (hbody : ∀ (cdv : Value) (A : Around) (outer : List Env) (s : Shared) (H : Hp) (E : XK), Room k (A.deeper (envOfC qual (defScope st) s.heap.objs.size f cdv)) →
      ∃ t, PSs (cxOf CX0 P w K mg base N qual (defScope st) f cdv A outer s H E).nox (defBody st) t ∧ ∀ Z : Zc, Z.b = b → Z.E = E → Z.mays (fun _ => true) → ∃ w, TrS Z t w ∧ ∀ us post, us.length = n → W us post Z.ew → w { nx := fun _ => post .non, rt := post } (us.map Cell.fz ++ List.replicate (N.length - us.length) Cell.no)) :
    FnOk P w K mg base CX0 (k + 1) f fd ps (spV b n W) :=
  F.ok S (fun vs H Q E h => (spV_len h).trans hn.symm) fun cdv A outer s H vs Q E hr h =>
    let ⟨t, ht, tr⟩ := hbody cdv A outer s H E hr
    ⟨t, ht, body_of hN tr h⟩
/-- a def that may raise -/
theorem okVX {b : PT} {n : Nat} {W : Wf} {x qual : Str} {st : Stmt} {f : Addr} {fd : FuncData} {N ps : List Str} {k : Nat} (F : Fun K x qual st f fd) (S : FnScope N ps (defScope st)) (hn : ps.length = n) (hN : n ≤ N.length)
    (hbody : ∀ (cdv : Value) (A : Around) (outer : List Env) (s : Shared) (H : Hp) (E : XK), Room k (A.deeper (envOfC qual (defScope st) s.heap.objs.size f cdv)) →
      ∃ t, PSs (cxOf (L2.CX P w) P w K mg base N qual (defScope st) f cdv A outer s H E) (defBody st) t ∧ ∀ Z : Zc, Z.b = b → Z.E = E → Z.mays (fun _ => true) → ∃ w, TrS Z t w ∧ ∀ us post, us.length = n → W us post Z.ew → w { nx := fun _ => post .non, rt := post } (us.map Cell.fz ++ List.replicate (N.length - us.length) Cell.no)) :
    FnOk P w K mg base (L2.CX P w) (k + 1) f fd ps (spV b n W) :=
  F.okX S (fun vs H Q E h => (spV_len h).trans hn.symm) fun cdv A outer s H vs Q E hr h =>
    let ⟨t, ht, tr⟩ := hbody cdv A outer s H E hr
    ⟨t, ht, body_of hN tr h⟩
end
section
variable {Z : Zc} {tA : TA} {wA : WA}
def wCall (n : Nat) (W : Wf) (ew : EW) (wA : WA) : WE := fun ρ post => wA ρ fun us => us.length = n ∧ W us post ew
theorem call_run {b : PT} {n : Nat} {W : Wf} {E : XK} {ew : EW} (hb : PLe b Z.b) (hE : ∀ σ ρ G H, Sv Z σ ρ G H → ∀ C fs gs od G' H', ew C gs → Z.gr0 G H G' H' → XdAt G' od fs → RpF Z.pp G' fs gs → E (.ref C) od H') (h : TrA Z tA wA) :
    TrE Z (tCall (spV b n W) [] E tA) (wCall n W ew wA) := fun σ ρ G H post Q S hw q => h σ ρ G H _ _ S hw fun vs us G1 H1 w1 g1 h1 => by
  obtain ⟨l, w2⟩ := w1
  have S1 := S.step g1
  have up : ∀ {G' H'}, Gr b Z.pp Z.q G1 H1 G' H' → Z.gr G1 H1 G' H' := fun {G' H'} g => g.le hb S1.pl
  show spV b n W (vs ++ []) H1 Q E
  rw [List.append_nil]
  exact ⟨us, Z.pp, Z.q, G1, post, ew, h1, l, S1.vw, S1.pl.le hb, w2, fun v u G' H' p g r => q v u G' H' p (g1.trans (up g)) r, fun C fs gs od G' H' a g x r => hE σ ρ G1 H1 S1 C fs gs od G' H' a (up g) x r⟩
/-- a call that raises nothing -/
theorem v_call {b : PT} {n : Nat} {W : Wf} (hb : PLe b Z.b) (h : TrA Z tA wA) : TrE Z (tCall (spV b n W) [] E0 tA) (wCall n W (fun _ _ => False) wA) := call_run hb (fun _ _ _ _ _ _ _ _ _ _ _ a => a.elim) h
/-- a call that may raise, in a def that may -/
theorem v_callX {b : PT} {n : Nat} {W : Wf} {E : XK} (hE : Z.E = E) (hb : PLe b Z.b) (h : TrA Z tA wA) : TrE Z (tCall (spV b n W) [] E tA) (wCall n W Z.ew wA) :=
  call_run hb (fun σ ρ G H S C fs gs od G' H' a g x r => by rw [← hE]; exact S.ex C fs gs od G' H' a (S.gr.trans g) x r) h
/-! ### targets -/
abbrev WG := U → List Cell → (List Cell → Prop) → Prop
abbrev WGs := List U → List Cell → (List Cell → Prop) → Prop
theorem wipe_at : ∀ (vs : List Nat) (σ : L2.St) (j : Nat), (wipe σ vs)[j]? = if j ∈ vs then (if j < σ.length then some none else none) else σ[j]?
  | [], σ, j => by simp [wipe]
  | v :: vs, σ, j => by
    unfold wipe
    by_cases c : v = j
    · subst c
      rw [if_pos (List.mem_cons_self ..)]
      by_cases l : v < σ.length
      · rw [if_pos l, List.getElem?_set_self (by rw [wipe_length]; exact l)]
      · rw [if_neg l, List.getElem?_eq_none (by rw [List.length_set, wipe_length]; omega)]
    · rw [List.getElem?_set_ne c, wipe_at vs σ j]
      by_cases m : j ∈ vs
      · rw [if_pos m, if_pos (List.mem_cons_of_mem _ m)]
      · rw [if_neg m, if_neg fun z => by rcases List.mem_cons.mp z with h | h; exact c h.symm; exact m h]
theorem wipe_set {vs : List Nat} {σ : L2.St} {i : Nat} {x : Option V} (h : i ∈ vs) : wipe (σ.set i x) vs = wipe σ vs := by
  refine List.ext_getElem? fun j => ?_
  rw [wipe_at, wipe_at, List.length_set]
  by_cases m : j ∈ vs
  · rw [if_pos m, if_pos m]
  · rw [if_neg m, if_neg m, List.getElem?_set_ne fun z => m (by rw [← z]; exact h)]
def TrG (Z : Zc) (g : TG) (w : WG) (vs : List Nat) : Prop := ∀ v u σ ρ G H (post : List Cell → Prop) (Q : L2.St → Hp → Prop), Sv Z σ ρ G H → Rp Z.pp G v u → w u ρ post → (∀ σ' ρ', Sv Z σ' ρ' G H → wipe σ' vs = wipe σ vs → post ρ' → Q σ' H) → g v σ H Q
def TrGs (Z : Zc) (g : TGs) (w : WGs) (vs : List Nat) : Prop := ∀ xs us σ ρ G H (post : List Cell → Prop) (Q : L2.St → Hp → Prop), Sv Z σ ρ G H → RpL Z.pp G xs us → w us ρ post → (∀ σ' ρ', Sv Z σ' ρ' G H → wipe σ' vs = wipe σ vs → post ρ' → Q σ' H) → g xs σ H Q
def wgName (i : Nat) : WG := fun u ρ post => post (ρ.set i (.fz u))
theorem g_name {i : Nat} {vs : List Nat} (h : i ∈ vs) (hi : Z.may i := by exact Zc.may_of (by assumption) (by decide)) : TrG Z (gName i) (wgName i) vs := fun v u σ ρ G H post Q S r hw q => q _ _ (S.set hi r) (wipe_set h) hw
def wgNil : WGs := fun us ρ post => us = [] ∧ post ρ
def wgCons (w : WG) (ws : WGs) : WGs := fun us ρ post => ∃ u r, us = u :: r ∧ w u ρ fun ρ' => ws r ρ' post
theorem gs_nil {vs : List Nat} : TrGs Z gNil wgNil vs := fun xs us σ ρ G H post Q S r hw q => by
  obtain ⟨rfl, p⟩ := hw
  cases r
  exact ⟨rfl, q σ ρ S rfl p⟩
theorem gs_cons {g : TG} {gs : TGs} {w : WG} {ws : WGs} {vs : List Nat} (h : TrG Z g w vs) (hs : TrGs Z gs ws vs) : TrGs Z (gCons g gs) (wgCons w ws) vs := fun xs us σ ρ G H post Q S r hw q => by
  obtain ⟨u, us', rfl, p⟩ := hw
  cases r with
  | cons r1 r2 => exact ⟨_, _, rfl, h _ u σ ρ G H _ _ S r1 p fun σ' ρ' S' e p' => hs _ us' σ' ρ' G H _ _ S' r2 p' fun σ2 ρ2 S2 e2 p2 => q σ2 ρ2 S2 (e2.trans e) p2⟩
def wgTup (n : Nat) (ws : WGs) : WG := fun u ρ post => ∃ us, u = .tup us ∧ us.length = n ∧ ws us ρ post
theorem g_tup {K : PySem.W.Frag} {n : Nat} {gs : TGs} {ws : WGs} {vs : List Nat} (hs : TrGs Z gs ws vs) : TrG Z (gTup K n gs) (wgTup n ws) vs := fun v u σ ρ G H post Q S r hw q => by
  obtain ⟨us, rfl, l, p⟩ := hw
  cases r with
  | tup h k z => exact ⟨_, _, rfl, SqT.of (S.vw.tup h), by rw [k.length, l], hs _ us σ ρ G H _ _ S k p q⟩
def wAsg (we : WE) (wg : WG) : WS := fun V ρ => we ρ fun u => wg u ρ V.nx
theorem s_asg {te : TE} {we : WE} {g : TG} {wg : WG} {vs : List Nat} (h : TrE Z te we) (hg : TrG Z g wg vs) : TrS Z (tAsg te g) (wAsg we wg) := fun V D σ ρ G H S hw B => h σ ρ G H _ _ S hw fun v u G1 H1 p g1 r =>
  hg v u σ ρ G1 H1 _ _ (S.step g1) r p fun σ' ρ' S' _ p' => B.nx σ' ρ' G1 H1 S' g1.ex p'
/-! ### what is walked -/
def TrIat (Z : Zc) (σ : L2.St) (ρ : List Cell) (G H : Hp) (ti : TI) (w : WA) : Prop := ∀ (post : List U → Prop) (R : It → Hp → Prop), w ρ post →
  (∀ J n Gd Y us G1 H1, post us → Z.gr G H G1 H1 → us.length = n → n ≤ 100000 → Walk J n Gd Y → (∀ G' H', Ex G1 H1 G' H' → Vw G' H' → Gd H') →
    (∀ i x G' H' H'', i < n → Ex G1 H1 G' H' → Vw G' H' → (Pl Z.b Z.pp Z.q G' H') → Y i H' x H'' → ∃ u G'', us[i]? = some u ∧ Z.gr G' H' G'' H'' ∧ Rp Z.pp G'' x u) → R J H1) → ti σ H R
def TrI (Z : Zc) (ti : TI) (w : WA) : Prop := ∀ σ ρ G H, Sv Z σ ρ G H → TrIat Z σ ρ G H ti w
def wFor (wi : WA) (wg : WG) (wb : WS) : WS := fun V ρ => wi ρ fun us => ∃ Iv : Nat → List Cell → Prop, Iv 0 ρ ∧
  (∀ (i : Nat) u ρ', us[i]? = some u → Iv i ρ' → wg u ρ' fun ρ2 => wb { V with nx := Iv (i + 1), ct := Iv (i + 1), bk := V.nx } ρ2) ∧ ∀ ρ', Iv us.length ρ' → V.nx ρ'
theorem for_at {ti : TI} {g : TG} {tb : TS} {wi : WA} {wg : WG} {wb : WS} {vs : List Nat} (hg : TrG Z g wg vs) (hb : TrS Z tb wb) {V : V3} {D : Ends} {σ : L2.St} {ρ : List Cell} {G H : Hp} (S : Sv Z σ ρ G H) (hi : TrIat Z σ ρ G H ti wi) (hw : wFor wi wg wb V ρ) (B : Br Z V D G H) : tFor ti g tb D σ H :=
  hi _ _ hw fun J n Gd Y us G1 H1 p g1 hl hz wk hG hY => by
    obtain ⟨Iv, i0, is, ie⟩ := p
    refine for_it wk (fun i σ' H' => ∃ ρ' G', Sv Z σ' ρ' G' H' ∧ Ex G1 H1 G' H' ∧ Iv i ρ') ⟨ρ, G1, S.step g1, Ex.refl, i0⟩ (fun i σ' H' _ ⟨ρ', G', S', x, _⟩ => hG G' H' x S'.vw) (fun i x σ' H' H'' hlt ⟨ρ', G', S', e, iv⟩ y => ?_) (fun σ' H' ⟨ρ', G', S', e, iv⟩ => ?_)
    · obtain ⟨u, G'', eu, g2, r⟩ := hY i x G' H' H'' hlt e S'.vw S'.pl y
      have S2 := S'.step g2
      refine hg x u σ' ρ' G'' H'' _ _ S2 r (is i u ρ' eu iv) fun σ2 ρ2 S3 _ p2 => ?_
      have e2 : Ex G1 H1 G'' H'' := e.trans g2.ex
      exact hb _ _ σ2 ρ2 G'' H'' S3 p2 ⟨fun σ3 ρ3 G3 H3 S4 x3 p3 => ⟨ρ3, G3, S4, e2.trans x3, p3⟩, fun v u G3 H3 g3 x3 => B.rt v u G3 H3 g3 ((g1.ex.trans e2).trans x3), fun σ3 ρ3 G3 H3 S4 x3 p3 => B.nx σ3 ρ3 G3 H3 S4 ((g1.ex.trans e2).trans x3) p3, fun σ3 ρ3 G3 H3 S4 x3 p3 => ⟨ρ3, G3, S4, e2.trans x3, p3⟩⟩
    · rw [← hl] at iv
      exact B.nx σ' ρ' G' H' S' (g1.ex.trans e) (ie ρ' iv)
theorem s_for {ti : TI} {g : TG} {tb : TS} {wi : WA} {wg : WG} {wb : WS} {vs : List Nat} (hi : TrI Z ti wi) (hg : TrG Z g wg vs) (hb : TrS Z tb wb) : TrS Z (tFor ti g tb) (wFor wi wg wb) := fun V D σ ρ G H S hw B => for_at hg hb S (hi σ ρ G H S) hw B
/-! ### comprehensions -/
def wipeR (ρ : List Cell) : List Nat → List Cell
  | [] => ρ
  | v :: vs => (wipeR ρ vs).set v .no
theorem Sv.no {σ : L2.St} {ρ : List Cell} {G H : Hp} (S : Sv Z σ ρ G H) (i : Nat) (hi : Z.may i) : Sv Z (σ.set i none) (ρ.set i .no) G H := by
  have f : ∀ {j : Nat} {c : Cell}, (ρ.set i .no)[j]? = some c → c ≠ .no → j ≠ i ∧ ρ[j]? = some c := fun {j c} e n => by
    rcases set_get e with ⟨_, z⟩ | ⟨h, e⟩
    · exact absurd z.symm n
    · exact ⟨h, e⟩
  refine ⟨S.gr, S.w0, S.p0, S.ex, by simpa using S.ln, fun j u e => ?_, fun j u e => ?_, me_set hi S.me, S.pn, fun j k a n h1 h2 e => ?_⟩
  · obtain ⟨h, e⟩ := f e (fun z => nomatch z)
    rw [List.getElem?_set_ne (Ne.symm h)]
    exact S.fz j u e
  · obtain ⟨h, e⟩ := f e (fun z => nomatch z)
    rw [List.getElem?_set_ne (Ne.symm h)]
    exact S.ow j u e
  · obtain ⟨u1, e1⟩ := h1
    obtain ⟨u2, e2⟩ := h2
    obtain ⟨h1, e1⟩ := f e1 (fun z => nomatch z)
    obtain ⟨h2, e2⟩ := f e2 (fun z => nomatch z)
    rw [List.getElem?_set_ne (Ne.symm h1)] at e
    rw [List.getElem?_set_ne (Ne.symm h2)]
    exact S.dis j k a n ⟨_, e1⟩ ⟨_, e2⟩ e
theorem Sv.wipe {σ : L2.St} {ρ : List Cell} {G H : Hp} (S : Sv Z σ ρ G H) : ∀ vs : List Nat, (∀ v ∈ vs, Z.may v) → Sv Z (L2.wipe σ vs) (wipeR ρ vs) G H
  | [], _ => S
  | v :: vs, h => (Sv.wipe S vs fun u m => h u (List.mem_cons_of_mem _ m)).no v (h v List.mem_cons_self)
def TrTs := TrT
def wYes : WT := fun _ post => post true
theorem v_yes : TrT Z tYes wYes := fun σ ρ G H post Q S hw q => q true G H hw (Gr.refl S.vw S.pl)
def wLc (wi : WA) (wg : WG) (wt : WT) (we : WE) (vs : List Nat) : WE := fun ρ post => wi ρ fun us => ∃ Iv : Nat → List U → Prop, Iv 0 [] ∧
  (∀ (i : Nat) u acc, us[i]? = some u → Iv i acc → wg u (wipeR ρ vs) fun ρ2 => wt ρ2 fun c => if c = true then we ρ2 fun y => Iv (i + 1) (acc ++ [y]) else Iv (i + 1) acc) ∧ ∀ acc, Iv us.length acc → post (.lst acc)
theorem lc_at {ti : TI} {g : TG} {tt : TT} {te : TE} {wi : WA} {wg : WG} {wt : WT} {we : WE} {vs : List Nat} (hg : TrG Z g wg vs) (ht : TrT Z tt wt) (he : TrE Z te we) (h0 : ∀ v ∈ vs, Z.may v) {σ : L2.St} {ρ : List Cell} {G H : Hp} {post : U → Prop} {Q : VK} (S : Sv Z σ ρ G H) (hi : TrIat Z σ ρ G H ti wi) (hw : wLc wi wg wt we vs ρ post)
    (q : ∀ p o u G' H', post u → Z.gr G H G' H' → H p = none → G' p = none → H' p = some o → Ow Z.pp G' o u → Q (.ref p) H') : tLc ti g tt te vs σ H Q :=
  hi _ _ hw fun J n Gd Y us G1 H1 p g1 hl hz wk hG hY D nD => by
    obtain ⟨Iv, i0, is, ie⟩ := p
    have S1 := S.step g1
    have gN := Gr.newH (o := .lst []) S1.vw S1.pl nD
    refine lc_it wk (fun i H' => ∃ G' acc us', Z.gr G1 H1 G' H' ∧ H' D = some (.lst acc) ∧ G' D = none ∧ RpL Z.pp G' acc us' ∧ us'.length ≤ i ∧ Iv i us') ⟨G1, [], [], gN, upd_same, S1.vw.free nD, .nil, Nat.zero_le _, i0⟩ (fun i H' _ ⟨G', acc, us', g', _⟩ => hG G' H' g'.ex g'.vw) (fun i x H' H'' hlt ⟨G', acc, us', g', eD, gD, kA, lA, iv⟩ y => ?_) (fun H' ⟨G', acc, us', g', eD, gD, kA, lA, iv⟩ => ?_)
    · have S' := S1.step g'
      obtain ⟨u, G'', eu, g2, r⟩ := hY i x G' H' H'' hlt g'.ex S'.vw S'.pl y
      have Sw := (S'.step g2).wipe vs h0
      have nDp : Off Z.b Z.pp D := off_none S1.pl nD
      refine hg x u _ _ G'' H'' _ _ Sw r (is i u us' eu iv) fun σ2 ρ2 S3 ew p2 => ⟨ew.trans ?_, ?_⟩
      · refine List.ext_getElem? fun j => ?_
        rw [wipe_at, wipe_at, wipe_length]
        by_cases m : j ∈ vs
        · rw [if_pos m, if_pos m]
        · rw [if_neg m, if_neg m]
      refine ht σ2 ρ2 G'' H'' _ _ S3 p2 fun c G3 H3 p3 g3 => ?_
      obtain ⟨gD2, eD2⟩ := g2.fr D _ nDp eD gD rfl
      obtain ⟨gD3, eD3⟩ := g3.fr D _ nDp eD2 gD2 rfl
      cases c with
      | false => exact iteF ⟨G3, acc, us', (g'.trans g2).trans g3, eD3, gD3, (kA.same g2.gg).same g3.gg, Nat.le_succ_of_le lA, p3⟩
      | true =>
        refine iteT (he σ2 ρ2 G3 H3 _ _ (S3.step g3) p3 fun v yv G4 H4 p4 g4 r4 => ?_)
        obtain ⟨gD4, eD4⟩ := g4.fr D _ nDp eD3 gD3 rfl
        have kA4 := ((kA.same g2.gg).same g3.gg).same g4.gg
        have gt := ((g'.trans g2).trans g3).trans g4
        exact ⟨acc, eD4, lineN (by rw [kA4.length]; omega), G4, acc ++ [v], us' ++ [yv], gr_own gt S1.vw S1.pl nD gD4 _ (.inr (lst_no eD4)), upd_same, gD4, kA4.snoc r4, by rw [List.length_append]; exact Nat.succ_le_succ lA, p4⟩
    · rw [← hl] at iv
      exact q D _ _ G' H' (ie us' iv) (g1.trans g') (free_back S g1 nD) gD eD (.lst kA (Nat.le_trans lA (by omega)))
theorem v_lc {ti : TI} {g : TG} {tt : TT} {te : TE} {wi : WA} {wg : WG} {wt : WT} {we : WE} {vs : List Nat} (hi : TrI Z ti wi) (hg : TrG Z g wg vs) (ht : TrT Z tt wt) (he : TrE Z te we) (h0 : ∀ v ∈ vs, Z.may v := by exact Zc.mayL_of (by assumption) (by decide)) : TrF Z (tLc ti g tt te vs) (wLc wi wg wt we vs) := fun σ ρ G H post Q S hw q => lc_at hg ht he h0 S (hi σ ρ G H S) hw q
end
/-- a comprehension without an if -/
theorem lcI {wg : WG} {u : U} {ρ : List Cell} {A B : List Cell → Prop} (h : wg u ρ A) : wg u ρ fun ρ2 => wYes ρ2 fun c => if c = true then A ρ2 else B ρ2 := by
  have e : (fun ρ2 => wYes ρ2 fun c => if c = true then A ρ2 else B ρ2) = A := funext fun ρ2 => by
    show (if true = true then A ρ2 else B ρ2) = A ρ2
    exact if_pos rfl
  rw [e]
  exact h
theorem take_more {α : Type} {l : List α} {i : Nat} {x : α} (h : l[i]? = some x) : l.take (i + 1) = l.take i ++ [x] := by rw [List.take_add_one, h]; rfl
theorem map_more {α β : Type} (f : α → β) {l : List α} {i : Nat} {x : α} (h : l[i]? = some x) : (l.take (i + 1)).map f = (l.take i).map f ++ [f x] := by rw [take_more h, List.map_append]; rfl
theorem map_step {α β : Type} (f : α → β) {l : List α} {i : Nat} {x : α} {acc : List β} (h : acc = (l.take i).map f) (e : l[i]? = some x) : acc ++ [f x] = (l.take (i + 1)).map f := by rw [h, map_more f e]
theorem map_end {α β : Type} {f : α → β} {l : List α} {acc : List β} (h : acc = (l.take l.length).map f) : acc = l.map f := by rw [h, List.take_length]
theorem fm_more {α β : Type} (f : α → Option β) {l : List α} {i : Nat} {x : α} (h : l[i]? = some x) : (l.take (i + 1)).filterMap f = (l.take i).filterMap f ++ (f x).toList := by
  rw [take_more h, List.filterMap_append, List.filterMap_cons]
  cases f x <;> rfl
theorem fm_step {α β : Type} (f : α → Option β) {l : List α} {i : Nat} {x : α} {y : β} {acc : List β} (h : acc = (l.take i).filterMap f) (e : l[i]? = some x) (q : f x = some y) : acc ++ [y] = (l.take (i + 1)).filterMap f := by rw [h, fm_more f e, q]; rfl
theorem fm_skip {α β : Type} (f : α → Option β) {l : List α} {i : Nat} {x : α} {acc : List β} (h : acc = (l.take i).filterMap f) (e : l[i]? = some x) (q : f x = none) : acc = (l.take (i + 1)).filterMap f := by rw [h, fm_more f e, q]; simp
theorem fm_end {α β : Type} {f : α → Option β} {l : List α} {acc : List β} (h : acc = (l.take l.length).filterMap f) : acc = l.filterMap f := by rw [h, List.take_length]
end SV
/-! The value layer: what is walked, built-in functions, dicts, lists of one's own. -/
namespace SV
open PySem PySem.Spec PyProof.Rows L2 SL
/-! ### over a list, a tuple or a text -/
def iSeq (K : PySem.W.Frag) (tl : TE) : TI := fun σ H R => tl σ H fun x H1 => (∃ a xs, x = .ref a ∧ SqL K H1 a xs ∧ R (Itl K a) H1) ∨ (∃ a xs, x = .ref a ∧ SqT K H1 a xs ∧ R (Itt K a) H1) ∨ ∃ z, x = .str z ∧ R (Its z) H1
theorem pi_seq {X : Cx} {tg l : Expr} {tl : TE} (K : PySem.W.Frag) (hl : PE X l tl) (hK : X.K = K := by rfl) : PI X tg l (iSeq K tl) := by
  subst hK
  refine ⟨fun pins s σ H R I h => thn (hl.run pins s σ H _ I h) fun v s1 hv => ?_⟩
  obtain ⟨_, H1, I1, r1, q⟩ := hv
  have fp : ∀ b, b ∈ [s1.heap.objs.size] → FpOk X pins H1 b := fun b hb => by
    rw [List.mem_singleton.mp hb]
    exact I1.fpOk (Nat.le_refl _) (I1.hok.fresh (Nat.le_refl _))
  have up : ∀ o : Obj, Inv X pins σ H1 { s1 with heap := s1.heap.push o } := fun o => I1.kept (t' := s1.toks) fun b z e => Heap.get?_push_of_some _ e
  rcases q with ⟨a, xs, rfl, hq, q⟩ | ⟨a, xs, rfl, hq, q⟩ | ⟨x, rfl, q⟩
  · cases r1
    obtain ⟨its, _, p, _⟩ := I1.list hq
    exact wpAny_pyIter_list p.isList ⟨_, _, _, _, H1, rfl, up _, turn_list a _, ⟨_, Heap.get?_push_size _ rfl, rfl, rfl⟩, fp, q⟩
  · cases r1
    obtain ⟨its, _, p, _⟩ := I1.tuple hq
    exact wpAny_pyIter_tuple (show s1.heap.IsTuple a its.toArray from p) ⟨_, _, _, _, H1, rfl, up _, turn_tuple a _, ⟨_, Heap.get?_push_size _ rfl, rfl, rfl⟩, fp, q⟩
  · obtain ⟨t, rfl⟩ := r1
    cases ha : x.cps.all (· < 128)
    · exact wpAny_pyIter_wide ha (pi_one (tk := s1.toks) I1 _ (turn_str _ x t "str_iterator" (.inr rfl)) ⟨_, Heap.get?_push_size _ rfl, rfl, rfl⟩ q)
    · exact wpAny_pyIter_ascii ha (pi_one (tk := s1.toks) I1 _ (turn_str _ x t "str_ascii_iterator" (.inl rfl)) ⟨_, Heap.get?_push_size _ rfl, rfl, rfl⟩ q)
def chU (c : Nat) : U := .str ⟨#[c]⟩
/-- the things of a list, a tuple, a text -/
def seqU : U → Option (List U)
  | .lst us => some us
  | .tup us => some us
  | .str s => some (s.cps.toList.map chU)
  | _ => none
section
variable {Z : Zc} {te : TE} {we : WE} {tA : TA} {wA : WA}
def wSeqI (we : WE) : WA := fun ρ post => we ρ fun x => ∃ us, seqU x = some us ∧ post us
theorem i_seq {K : PySem.W.Frag} (h : TrE Z te we) : TrI Z (iSeq K te) (wSeqI we) := fun σ ρ G H S post R hw q => h σ ρ G H _ _ S hw fun v x G1 H1 w1 g1 h1 => by
  obtain ⟨us, e, p⟩ := w1
  cases h1 <;> first | cases e | skip
  · rename_i s z
    refine .inr (.inr ⟨s, rfl, q _ _ _ _ _ G1 H1 p g1 (by rw [List.length_map]; rfl) z walk_str (fun _ _ _ _ => trivial) fun i x G' H' H'' hi s' w' pl y => ?_⟩)
    obtain ⟨rfl, c, ec, rfl⟩ := y
    refine ⟨chU c, G', ?_, Gr.refl w' pl, .str _ (by show (1 : Nat) ≤ 100000; decide)⟩
    rw [List.getElem?_map, Array.getElem?_toList, ec]
    rfl
  · rename_i a vs hh kk z
    refine .inl ⟨a, vs, rfl, SqL.of ((S.step g1).vw.lst hh), q _ _ _ _ _ G1 H1 p g1 kk.length.symm (by rw [kk.length]; exact z) walk_list (fun G' H' s' w' => SqL.of (w'.lst (s'.gg _ _ hh))) fun i x G' H' H'' hi s' w' pl y => ?_⟩
    obtain ⟨rfl, ex⟩ := y
    obtain ⟨u, eu, r⟩ := kk.get ex
    exact ⟨u, G', eu, Gr.refl w' pl, r.same s'.gg⟩
  · rename_i a vs hh kk z
    refine .inr (.inl ⟨a, vs, rfl, SqT.of ((S.step g1).vw.tup hh), q _ _ _ _ _ G1 H1 p g1 kk.length.symm (by rw [kk.length]; exact z) walk_tup (fun G' H' s' w' => SqT.of (w'.tup (s'.gg _ _ hh))) fun i x G' H' H'' hi s' w' pl y => ?_⟩)
    obtain ⟨rfl, ex⟩ := y
    obtain ⟨u, eu, r⟩ := kk.get ex
    exact ⟨u, G', eu, Gr.refl w' pl, r.same s'.gg⟩
/-! ### ranges -/
def upto (lo : Int) (n : Nat) : List U := (List.range n).map fun (k : Nat) => U.int (lo + (k : Int))
theorem upto_len (lo : Int) (n : Nat) : (upto lo n).length = n := by simp [upto]
theorem upto_get {lo : Int} {n i : Nat} (h : i < n) : (upto lo n)[i]? = some (.int (lo + (i : Int))) := by
  unfold upto
  rw [List.getElem?_map, List.getElem?_range h]
  rfl
def wRng1 (wA : WA) : WA := fun ρ post => wA ρ fun us => ∃ j : Int, us = [.int j] ∧ j ≤ 100000 ∧ -(2 ^ 62) ≤ j ∧ post (upto 0 j.toNat)
def wRng2 (wA : WA) : WA := fun ρ post => wA ρ fun us => ∃ i j : Int, us = [.int i, .int j] ∧ (-100000 ≤ i ∧ i ≤ 100000 ∧ -100000 ≤ j ∧ j ≤ 100000 ∧ j - i ≤ 100000) ∧ post (upto i (j - i).toNat)
theorem i_rng1 (h : TrA Z tA wA) : TrI Z (iRng1 tA) (wRng1 wA) := fun σ ρ G H S post R hw q => h σ ρ G H _ _ S hw fun vs us G1 H1 w1 g1 h1 => by
  obtain ⟨j, rfl, hj, hl, p⟩ := w1
  cases h1 with
  | cons r t =>
    cases t
    cases r
    refine ⟨j, rfl, hl, by omega, q _ _ _ _ _ G1 H1 p g1 (upto_len 0 _) (by omega) walk_range (fun _ _ _ _ => trivial) fun i x G' H' H'' hi s' w' pl y => ?_⟩
    obtain ⟨rfl, rfl⟩ := y
    exact ⟨_, G', upto_get hi, Gr.refl w' pl, .int _⟩
theorem i_rng2 (h : TrA Z tA wA) : TrI Z (iRng2 tA) (wRng2 wA) := fun σ ρ G H S post R hw q => h σ ρ G H _ _ S hw fun vs us G1 H1 w1 g1 h1 => by
  obtain ⟨i, j, rfl, ⟨a1, a2, a3, a4, a5⟩, p⟩ := w1
  cases h1 with
  | cons r t =>
    cases t with
    | cons r2 t =>
      cases t
      cases r
      cases r2
      refine ⟨i, j, rfl, ⟨by omega, by omega, by omega, by omega⟩, q _ _ _ _ _ G1 H1 p g1 (upto_len i _) (by omega) walk_range (fun _ _ _ _ => trivial) fun k x G' H' H'' hi s' w' pl y => ?_⟩
      obtain ⟨rfl, rfl⟩ := y
      exact ⟨_, G', upto_get hi, Gr.refl w' pl, .int _⟩
/-! ### pairs: enumerate, zip -/
theorem pair_new {b : PT} {pp q : Addr} {G H : Hp} {T : Addr} {x y : V} {c d : U} (w : Vw G H) (p : Pl b pp q G H) (nT : H T = none) (hx : Rp pp G x c) (hy : Rp pp G y d) :
    ∃ G'', Gr b pp q G H G'' (upd H T (.tup [x, y])) ∧ Rp pp G'' (.ref T) (.tup [c, d]) :=
  ⟨upd G T (.tup [x, y]), Gr.new w p nT, .tup upd_same (.cons (hx.same (same_upd (w.free nT))) (.cons (hy.same (same_upd (w.free nT))) .nil)) (by show 2 ≤ 100000; decide)⟩
def numd : List U → Nat → List U
  | [], _ => []
  | u :: us, k => .tup [.int (k : Int), u] :: numd us (k + 1)
theorem numd_len : ∀ (us : List U) (k : Nat), (numd us k).length = us.length
  | [], _ => rfl
  | _ :: us, k => congrArg (· + 1) (numd_len us (k + 1))
theorem numd_get : ∀ {us : List U} {i k : Nat} {u : U}, us[i]? = some u → (numd us k)[i]? = some (.tup [.int ((k + i : Nat) : Int), u])
  | [], _, _, _, h => by simp at h
  | a :: us, 0, k, u, h => by
    simp at h
    subst h
    rfl
  | a :: us, i + 1, k, u, h => by
    have := numd_get (k := k + 1) (i := i) (by simpa using h : us[i]? = some u)
    rw [show k + (i + 1) = k + 1 + i by omega]
    simpa [numd] using this
def wEnumL (we : WE) : WA := fun ρ post => we ρ fun x => ∃ xs, x = .lst xs ∧ post (numd xs 0)
def wEnumT (we : WE) : WA := fun ρ post => we ρ fun x => ∃ xs, x = .tup xs ∧ post (numd xs 0)
def wEnumS (we : WE) : WA := fun ρ post => we ρ fun x => ∃ s, x = .str s ∧ post (numd (s.cps.toList.map chU) 0)
theorem i_enumL {K : PySem.W.Frag} (h : TrE Z te we) : TrI Z (iEnum K (tCons te tNil)) (wEnumL we) := fun σ ρ G H S post R hw q => h σ ρ G H _ _ S hw fun v x G1 H1 w1 g1 h1 => by
  obtain ⟨xs, rfl, p⟩ := w1
  cases h1 with
  | lst hh kk z =>
    refine ⟨_, _, rfl, SqL.of ((S.step g1).vw.lst hh), q _ _ _ _ _ G1 H1 p g1 (by rw [numd_len, kk.length]) (by rw [kk.length]; exact z) walk_enum (fun G' H' s' w' => SqL.of (w'.lst (s'.gg _ _ hh))) fun i x G' H' H'' hi s' w' pl y => ?_⟩
    obtain ⟨T, u1, u2, rfl, nT, rfl, y1, y2⟩ := y
    cases y1
    obtain ⟨u, eu, r⟩ := kk.get y2
    obtain ⟨G'', g, r'⟩ := pair_new w' pl nT (.int _) (r.same s'.gg)
    exact ⟨_, G'', numd_get eu, g, by rw [Nat.zero_add]; exact r'⟩
theorem i_enumT {K : PySem.W.Frag} (h : TrE Z te we) : TrI Z (iEnumT K (tCons te tNil)) (wEnumT we) := fun σ ρ G H S post R hw q => h σ ρ G H _ _ S hw fun v x G1 H1 w1 g1 h1 => by
  obtain ⟨xs, rfl, p⟩ := w1
  cases h1 with
  | tup hh kk z =>
    refine ⟨_, _, rfl, SqT.of ((S.step g1).vw.tup hh), q _ _ _ _ _ G1 H1 p g1 (by rw [numd_len, kk.length]) (by rw [kk.length]; exact z) walk_enumT (fun G' H' s' w' => SqT.of (w'.tup (s'.gg _ _ hh))) fun i x G' H' H'' hi s' w' pl y => ?_⟩
    obtain ⟨T, u1, u2, rfl, nT, rfl, y1, y2⟩ := y
    cases y1
    obtain ⟨u, eu, r⟩ := kk.get y2
    obtain ⟨G'', g, r'⟩ := pair_new w' pl nT (.int _) (r.same s'.gg)
    exact ⟨_, G'', numd_get eu, g, by rw [Nat.zero_add]; exact r'⟩
theorem i_enumS (h : TrE Z te we) : TrI Z (iEnumS (tCons te tNil)) (wEnumS we) := fun σ ρ G H S post R hw q => h σ ρ G H _ _ S hw fun v x G1 H1 w1 g1 h1 => by
  obtain ⟨s, rfl, p⟩ := w1
  cases h1 with
  | str _ z =>
    refine ⟨s, rfl, q _ _ _ _ _ G1 H1 p g1 (by rw [numd_len, List.length_map]; rfl) z walk_enumS (fun _ _ _ _ => trivial) fun i x G' H' H'' hi s' w' pl y => ?_⟩
    obtain ⟨T, u1, u2, rfl, nT, rfl, y1, y2⟩ := y
    cases y1
    have y2 : (s.cps[i]?.map fun c => V.str ⟨#[c]⟩) = some u2 := y2
    cases ec : s.cps[i]? with
    | none => rw [ec] at y2; cases y2
    | some c =>
      rw [ec] at y2
      cases y2
      obtain ⟨G'', g, r'⟩ := pair_new w' pl nT (.int _) (Rp.str (pp := Z.pp) (G := G') ⟨#[c]⟩ (by show (1 : Nat) ≤ 100000; decide))
      refine ⟨_, G'', numd_get (u := chU c) ?_, g, by rw [Nat.zero_add]; exact r'⟩
      rw [List.getElem?_map, Array.getElem?_toList, ec]
      rfl
def zipU (xs ys : List U) : List U := (xs.zip ys).map fun p => .tup [p.1, p.2]
/-- both lists, or both tuples -/
def wZip (wA : WA) : WA := fun ρ post => wA ρ fun us => ∃ xs ys, (us = [.lst xs, .lst ys] ∨ us = [.tup xs, .tup ys]) ∧ post (zipU xs ys)
theorem zipU_len (xs ys : List U) : (zipU xs ys).length = min xs.length ys.length := by simp [zipU]
theorem zipU_get {xs ys : List U} {i : Nat} {x y : U} (h1 : xs[i]? = some x) (h2 : ys[i]? = some y) : (zipU xs ys)[i]? = some (.tup [x, y]) := by
  unfold zipU
  rw [List.getElem?_map, (List.getElem?_zip_eq_some (z := (x, y))).mpr ⟨h1, h2⟩]
  rfl
theorem i_zip {K : PySem.W.Frag} (h : TrA Z tA wA) : TrI Z (RZ.iZipA K tA) (wZip wA) := fun σ ρ G H S post R hw q => h σ ρ G H _ _ S hw fun vs us G1 H1 w1 g1 h1 => by
  obtain ⟨xs, ys, e, p⟩ := w1
  have S1 := S.step g1
  rcases e with rfl | rfl
  · cases h1 with
    | cons r t =>
      cases t with
      | cons r2 t =>
        cases t
        cases r with
        | lst h1 k1 z1 =>
          cases r2 with
          | lst h2 k2 z2 =>
            rename_i a vs b ws
            refine ⟨a, b, _, _, rfl, .inl ⟨SqL.of (S1.vw.lst h1), SqL.of (S1.vw.lst h2), q _ _ _ _ _ G1 H1 p g1 (zipU_len _ _) (by omega) (walk_zip (by rw [k1.length, k2.length])) (fun G' H' s' w' => ⟨SqL.of (w'.lst (s'.gg _ _ h1)), SqL.of (w'.lst (s'.gg _ _ h2))⟩) fun i x G' H' H'' hi s' w' pl y => ?_⟩⟩
            obtain ⟨T, u1, u2, rfl, nT, rfl, y1, y2⟩ := y
            obtain ⟨c1, e1, r1⟩ := k1.get y1
            obtain ⟨c2, e2, r2⟩ := k2.get y2
            obtain ⟨G'', g, r'⟩ := pair_new w' pl nT (r1.same s'.gg) (r2.same s'.gg)
            exact ⟨_, G'', zipU_get e1 e2, g, r'⟩
  · cases h1 with
    | cons r t =>
      cases t with
      | cons r2 t =>
        cases t
        cases r with
        | tup h1 k1 z1 =>
          cases r2 with
          | tup h2 k2 z2 =>
            rename_i a vs b ws
            refine ⟨a, b, _, _, rfl, .inr ⟨SqT.of (S1.vw.tup h1), SqT.of (S1.vw.tup h2), q _ _ _ _ _ G1 H1 p g1 (zipU_len _ _) (by omega) (walk_zipT (by rw [k1.length, k2.length])) (fun G' H' s' w' => ⟨SqT.of (w'.tup (s'.gg _ _ h1)), SqT.of (w'.tup (s'.gg _ _ h2))⟩) fun i x G' H' H'' hi s' w' pl y => ?_⟩⟩
            obtain ⟨T, u1, u2, rfl, nT, rfl, y1, y2⟩ := y
            obtain ⟨c1, e1, r1⟩ := k1.get y1
            obtain ⟨c2, e2, r2⟩ := k2.get y2
            obtain ⟨G'', g, r'⟩ := pair_new w' pl nT (r1.same s'.gg) (r2.same s'.gg)
            exact ⟨_, G'', zipU_get e1 e2, g, r'⟩
/-! ### built-in functions -/
def TrAB (Z : Zc) (t : TA) (w : WA) : Prop := ∀ σ ρ G H (post : List U → Prop) (Q : List V → Hp → Prop), Sv Z σ ρ G H → w ρ post → (∀ vs us G' H', post us → Z.gr G H G' H' → Paired (Bp Z.pp G' H') vs us → Q vs H') → t σ H Q
theorem v_nilB : TrAB Z tNil wNil := fun σ ρ G H post Q S hw q => q [] [] G H hw (Gr.refl S.vw S.pl) .nil
theorem v_consB {ta : TE} {wa : WE} {tr : TA} {wr : WA} (ha : TrB Z ta wa) (hr : TrAB Z tr wr) : TrAB Z (tCons ta tr) (wCons wa wr) := fun σ ρ G H post Q S hw q =>
  ha σ ρ G H _ _ S hw fun v x G1 H1 w1 g1 h1 => hr σ ρ G1 H1 _ _ (S.step g1) w1 fun vs us G2 H2 w2 g2 h2 => q _ _ G2 H2 w2 (g1.trans g2) (.cons (h1.step g2 (S.step g1).vw (S.step g1).pl) h2)
abbrev FB := List U → (U → Prop) → Prop
def CallOk (r : List V → Hp → VK → Prop) (F : FB) : Prop := ∀ (b : PT) (pp q : Addr) (G H : Hp) (vs : List V) (us : List U) (Q : VK) (post : U → Prop), Vw G H → (Pl b pp q G H) → Paired (Bp pp G H) vs us → F us post →
  (∀ v u G' H', post u → Gr b pp q G H G' H' → Rp pp G' v u → Q v H') → r vs H Q
def CallOkF (r : List V → Hp → VK → Prop) (F : FB) : Prop := ∀ (b : PT) (pp q : Addr) (G H : Hp) (vs : List V) (us : List U) (Q : VK) (post : U → Prop), Vw G H → (Pl b pp q G H) → Paired (Bp pp G H) vs us → F us post →
  (∀ p o u H', post u → Gr b pp q G H G H' → H p = none → G p = none → H' p = some o → Ow pp G o u → Q (.ref p) H') → r vs H Q
def wCB (F : FB) (wA : WA) : WE := fun ρ post => wA ρ fun us => F us post
theorem v_cb {r : List V → Hp → VK → Prop} {F : FB} (o : CallOk r F) (h : TrAB Z tA wA) : TrE Z (tCB r tA) (wCB F wA) := fun σ ρ G H post Q S hw q => h σ ρ G H _ _ S hw fun vs us G1 H1 w1 g1 h1 =>
  o Z.b Z.pp Z.q G1 H1 vs us Q post (S.step g1).vw (S.step g1).pl h1 w1 fun v u G' H' p g r => q v u G' H' p (g1.trans g) r
theorem v_cbF {r : List V → Hp → VK → Prop} {F : FB} (o : CallOkF r F) (h : TrAB Z tA wA) : TrF Z (tCB r tA) (wCB F wA) := fun σ ρ G H post Q S hw q => h σ ρ G H _ _ S hw fun vs us G1 H1 w1 g1 h1 =>
  o Z.b Z.pp Z.q G1 H1 vs us Q post (S.step g1).vw (S.step g1).pl h1 w1 fun p o' u H' pu g np gp hp ho => q p o' u G1 H' pu (g1.trans g) (free_back S g1 np) gp hp ho
end
end SV
/-! The value layer: built-in functions, dicts, lists of one's own. -/
namespace SV
open PySem PySem.Spec PyProof.Rows L2 SL
/-! ### calls of built-in functions -/
section
variable {X : Cx}
theorem CallR.or {f : Value} {r r' : List V → Hp → VK → Prop} (h : CallR X f r) (h' : CallR X f r') : CallR X f (fun xs H Q => r xs H Q ∨ r' xs H Q) := by
  intro pins s σ H xs us Q I rv z
  rcases z with z | z
  · exact h pins s σ H xs us Q I rv z
  · exact h' pins s σ H xs us Q I rv z
def rLenV (K : PySem.W.Frag) : List V → Hp → VK → Prop := fun xs H Q => (∃ x n, xs = [x] ∧ LenV K x H n ∧ Q (.int n) H) ∨ ∃ a kvs, xs = [V.ref a] ∧ Rd H a (.dK kvs) ∧ Q (.int kvs.length) H
theorem call_lenDR : CallR X (.builtin "len") (fun xs H Q => ∃ a kvs, xs = [V.ref a] ∧ Rd H a (.dK kvs) ∧ Q (.int kvs.length) H) := by
  intro pins s σ H xs us Q I r h
  obtain ⟨a, kvs, rfl, ha, q⟩ := h
  obtain ⟨u, rfl, ru⟩ := vals1 r
  cases ru
  exact d_len I ha fun t s' I' => ⟨.int kvs.length, H, I', ⟨t, rfl⟩, q⟩
theorem call_lenV (K : PySem.W.Frag) (h : X.K = K := by rfl) : CallR X (.builtin "len") (rLenV K) := by subst h; exact CallR.or call_len call_lenDR
theorem cr_sumK (K : PySem.W.Frag) (hc : X.calm = true) (h : X.K = K := by rfl) : CallR X (.builtin "sum") (rSum K) := by subst h; exact cr_sum hc
theorem cr_allK (K : PySem.W.Frag) (hc : X.calm = true) (h : X.K = K := by rfl) : CallR X (.builtin "all") (rAll K) := by subst h; exact cr_all hc
theorem cr_anyK (K : PySem.W.Frag) (hc : X.calm = true) (h : X.K = K := by rfl) : CallR X (.builtin "any") (rAny K) := by subst h; exact cr_any hc
theorem cr_maxK (K : PySem.W.Frag) (hc : X.calm = true) (h : X.K = K := by rfl) : CallR X (.builtin "max") (rMax K) := by subst h; exact cr_max hc
theorem cr_minK (K : PySem.W.Frag) (hc : X.calm = true) (h : X.K = K := by rfl) : CallR X (.builtin "min") (rMin K) := by subst h; exact cr_min hc
theorem cr_sortIK (K : PySem.W.Frag) (h : X.K = K := by rfl) : CallR X (.builtin "sorted") (rSortedI K) := by subst h; exact cr_sortedI
theorem cr_sortSK (K : PySem.W.Frag) (h : X.K = K := by rfl) : CallR X (.builtin "sorted") (rSortedS K) := by subst h; exact cr_sortedS
end
def lenU : U → Option Nat
  | .lst us => some us.length
  | .tup us => some us.length
  | .str s => some s.length
  | .dic kvs => some kvs.length
  | _ => none
def bLen : FB := fun us post => ∃ x n, us = [x] ∧ lenU x = some n ∧ post (.int (n : Int))
theorem b_len {K : PySem.W.Frag} : CallOk (rLenV K) bLen := by
  intro b pp q G H vs us Q post w p hv hF k
  obtain ⟨x, n, rfl, e, hp⟩ := hF
  cases hv with
  | cons r t =>
    cases t
    cases r <;> first | cases e | skip
    · rename_i s z
      exact .inl ⟨_, _, rfl, ⟨Nat.le_of_lt (lineN z), rfl⟩, k _ _ G H hp (Gr.refl w p) (.int _)⟩
    · rename_i a vs us h kk z
      refine .inl ⟨_, _, rfl, .inl ⟨_, SqL.of h, kk.length.symm⟩, k _ _ G H hp (Gr.refl w p) (.int _)⟩
    · rename_i a vs us h kk z
      refine .inl ⟨_, _, rfl, .inr ⟨_, SqT.of (w.tup h), kk.length.symm⟩, k _ _ G H hp (Gr.refl w p) (.int _)⟩
    · rename_i a kvs kus h kk z
      refine .inr ⟨a, kvs, rfl, h, ?_⟩
      rw [kk.length]
      exact k _ _ G H hp (Gr.refl w p) (.int _)
/-! ### isinstance -/
structure KindC (K : PySem.W.Frag) (C : Addr) : Prop where
  ic : C8.InsC K C
  no : ∀ T ∈ ["int", "bool", "str", "list", "tuple", "dict"], PySem.W.kitOne K (.ref C) (.type T) = some false
/-- whether a thing is of the built-in class -/
def isK (T : String) : U → Bool
  | .non => false
  | .bl _ => T == "bool" || T == "int"
  | .int _ => T == "int"
  | .str _ => T == "str"
  | .lst _ => T == "list"
  | .tup _ => T == "tuple"
  | .dic _ => T == "dict"
  | .dit _ => T == "dict"
  | _ => false
/-- what isinstance may be asked of -/
def asks (cs : List Addr) : U → Prop
  | .ins C _ => C ∈ cs
  | .pool => False
  | .ty _ => False
  | .dit _ => False
  | _ => True
theorem isK_kit {K : PySem.W.Frag} {cs : List Addr} (hc : ∀ C ∈ cs, KindC K C) {pp : Addr} {G H : Hp} {v : V} {x : U} (r : Bp pp G H v x) (w : Vw G H) (ha : asks cs x) : ∃ t, TyX K H v t ∧ ∀ T ∈ ["int", "bool", "str", "list", "tuple", "dict"], PySem.W.kitOne K t (.type T) = some (isK T x) := by
  have six : ∀ {n : String} {f : String → Bool}, (∀ T ∈ ["int", "bool", "str", "list", "tuple", "dict"], kitB n T = some (f T)) → ∀ T ∈ ["int", "bool", "str", "list", "tuple", "dict"], PySem.W.kitOne K (.type n) (.type T) = some (f T) := fun h T hT => kit_ty (h T hT)
  cases r with
  | non => exact ⟨_, .base .non, six (by decide +kernel)⟩
  | bl b => exact ⟨_, .base (.bl b), six (f := fun T => T == "bool" || T == "int") (by decide +kernel)⟩
  | int i => exact ⟨_, .base (.int i), six (f := fun T => T == "int") (by decide +kernel)⟩
  | str s _ => exact ⟨_, .base (.str s), six (f := fun T => T == "str") (by decide +kernel)⟩
  | lst h _ _ => exact ⟨_, .base (.lst h), six (f := fun T => T == "list") (by decide +kernel)⟩
  | tup h _ _ => exact ⟨_, .base (.tup (w.tup h)), six (f := fun T => T == "tuple") (by decide +kernel)⟩
  | dic h _ _ =>
    refine ⟨.type "dict", ?_, six (f := fun T => T == "dict") (by decide +kernel)⟩
    rcases h with h | ⟨ob, h⟩
    · exact .base (.dK h)
    · exact .fDict h
  | dit _ _ _ => exact ha.elim
  | ins h _ =>
    have c := hc _ ha
    exact ⟨_, .base (.ins h c.ic.cl c.ic.ha c.ic.hn c.ic.htk c.ic.hm), c.no⟩
  | pool => exact ha.elim
  | ty _ => exact ha.elim
def bIsi (cs : List Addr) (T : String) : FB := fun us post => ∃ x, us = [x, .ty T] ∧ asks cs x ∧ post (.bl (isK T x))
theorem b_isi {K : PySem.W.Frag} {T : String} (hT : T ∈ ["int", "bool", "str", "list", "tuple", "dict"] := by decide) (cs : List Addr := []) (hc : ∀ C ∈ cs, KindC K C := by exact fun _ z => nomatch z) : CallOk (rIsi K) (bIsi cs T) := by
  intro b pp q G H vs us Q post w p hv hF k
  obtain ⟨x, rfl, ha, hp⟩ := hF
  cases hv with
  | cons r t =>
    cases t with
    | cons r2 t =>
      cases t
      cases r2
      obtain ⟨ty, h1, h2⟩ := isK_kit hc r w ha
      exact ⟨_, _, ty, _, _, rfl, .ty _, h1, h2 T hT, k _ _ G H hp (Gr.refl w p) (.bl _)⟩
theorem Paired.two {α β : Type} {F : α → β → Prop} {xs : List α} {y1 y2 : β} (h : Paired F xs [y1, y2]) : ∃ x1 x2, xs = [x1, x2] ∧ F x1 y1 ∧ F x2 y2 := by
  cases h with
  | cons a t => cases t with
    | cons b t => cases t; exact ⟨_, _, rfl, a, b⟩
def bIsi2 (cs : List Addr) (T1 T2 : String) : FB := fun us post => ∃ x, us = [x, .tup [.ty T1, .ty T2]] ∧ asks cs x ∧ post (.bl (isK T1 x || isK T2 x))
theorem b_isi2 {K : PySem.W.Frag} {T1 T2 : String} (h1 : T1 ∈ ["int", "bool", "str", "list", "tuple", "dict"] := by decide) (h2 : T2 ∈ ["int", "bool", "str", "list", "tuple", "dict"] := by decide) (cs : List Addr := []) (hc : ∀ C ∈ cs, KindC K C := by exact fun _ z => nomatch z) : CallOk (rIsiT K) (bIsi2 cs T1 T2) := by
  intro b pp q G H vs us Q post w p hv hF k
  obtain ⟨x, rfl, ha, hp⟩ := hF
  obtain ⟨x1, x2, rfl, r, r2⟩ := Paired.two hv
  cases r2 with
  | tup h kk z =>
    cases kk with
    | cons a1 kk =>
      cases kk with
      | cons a2 kk =>
        cases kk
        cases a1
        cases a2
        obtain ⟨ty, z1, z2⟩ := isK_kit hc r w ha
        have any : ∀ {t : Value} {A B : String} {a b : Bool}, PySem.W.kitOne K t (.type A) = some a → PySem.W.kitOne K t (.type B) = some b → PySem.W.kitAny K t [.type A, .type B] = some (a || b) := fun {t A B a b} h1 h2 => by
          cases a with
          | true => exact kitAny_cons h1 (fun z => nomatch z) fun _ => rfl
          | false =>
            refine kitAny_cons h1 (fun _ => ?_) fun z => nomatch z
            cases b with
            | true => exact kitAny_cons h2 (fun z => nomatch z) fun _ => rfl
            | false => exact kitAny_cons h2 (fun _ => kitAny_nil) fun z => nomatch z
        exact ⟨_, _, _, ty, _, _, rfl, w.tup h, .cons (.ty _) (.cons (.ty _) .nil), z1, any (z2 T1 h1) (z2 T2 h2), k _ _ G H hp (Gr.refl w p) (.bl _)⟩
/-! ### tuple, list, int, sum, all, any, min, max, sorted -/
abbrev rTupleOf (K : PySem.W.Frag) : List V → Hp → VK → Prop := fun xs H Q => ∃ p ys, xs = [.ref p] ∧ ((SqL K H p ys ∧ ∀ l, H l = none → Q (.ref l) (upd H l (.tup ys))) ∨ (SqT K H p ys ∧ Q (.ref p) H))
def bTuple : FB := fun us post => ∃ xs, (us = [.lst xs] ∨ us = [.tup xs]) ∧ post (.tup xs)
theorem b_tuple {K : PySem.W.Frag} : CallOk (rTupleOf K) bTuple := by
  intro b pp q G H vs us Q post w p hv hF k
  obtain ⟨xs, e, hp⟩ := hF
  rcases e with rfl | rfl
  · cases hv with
    | cons r t =>
      cases t
      cases r with
      | lst h kk z => exact ⟨_, _, rfl, .inl ⟨SqL.of h, fun l nl => k _ _ _ _ hp (Gr.new w p nl) (.tup upd_same (kk.same (same_upd (w.free nl))) z)⟩⟩
  · cases hv with
    | cons r t =>
      cases t
      cases r with
      | tup h kk z => exact ⟨_, _, rfl, .inr ⟨SqT.of (w.tup h), k _ _ G H hp (Gr.refl w p) (.tup h kk z)⟩⟩
abbrev rListOf (K : PySem.W.Frag) : List V → Hp → VK → Prop := fun xs H Q => ∃ p ys, xs = [.ref p] ∧ (SqL K H p ys ∨ SqT K H p ys) ∧ ∀ l, H l = none → Q (.ref l) (upd H l (.lst ys))
def bList : FB := fun us post => ∃ xs, (us = [.lst xs] ∨ us = [.tup xs]) ∧ post (.lst xs)
theorem b_list {K : PySem.W.Frag} : CallOkF (rListOf K) bList := by
  intro b pp q G H vs us Q post w p hv hF k
  obtain ⟨xs, e, hp⟩ := hF
  rcases e with rfl | rfl
  · cases hv with
    | cons r t =>
      cases t
      cases r with
      | lst h kk z => exact ⟨_, _, rfl, .inl (SqL.of h), fun l nl => k _ _ _ _ hp (Gr.newH w p nl) nl (w.free nl) upd_same (.lst kk z)⟩
  · cases hv with
    | cons r t =>
      cases t
      cases r with
      | tup h kk z => exact ⟨_, _, rfl, .inr (SqT.of (w.tup h)), fun l nl => k _ _ _ _ hp (Gr.newH w p nl) nl (w.free nl) upd_same (.lst kk z)⟩
theorem RpL.ints {pp : Addr} {G : Hp} : ∀ {vs : List V} {ns : List Int}, RpL pp G vs (ns.map U.int) → vs = ns.map V.int
  | _, [], h => by cases h; rfl
  | _, n :: ns, h => by
    cases h with
    | cons a t =>
      cases a
      rw [RpL.ints t]
      rfl
theorem RpL.toInts {pp : Addr} {G : Hp} : ∀ ns : List Int, RpL pp G (ns.map V.int) (ns.map U.int)
  | [] => .nil
  | n :: ns => .cons (.int n) (RpL.toInts ns)
theorem RpL.bls {pp : Addr} {G : Hp} : ∀ {vs : List V} {ns : List Bool}, RpL pp G vs (ns.map U.bl) → vs = ns.map V.bl
  | _, [], h => by cases h; rfl
  | _, n :: ns, h => by
    cases h with
    | cons a t =>
      cases a
      rw [RpL.bls t]
      rfl
theorem RpL.strs' {pp : Addr} {G : Hp} : ∀ {vs : List V} {ns : List Str}, RpL pp G vs (ns.map U.str) → vs = ns.map V.str ∧ ∀ x ∈ ns, x.length ≤ 100000
  | _, [], h => by cases h; exact ⟨rfl, fun _ z => nomatch z⟩
  | _, n :: ns, h => by
    cases h with
    | cons a t =>
      cases a with
      | str _ z =>
        obtain ⟨h1, h2⟩ := RpL.strs' t
        rw [h1]
        exact ⟨rfl, fun x hx => by rcases List.mem_cons.mp hx with rfl | hx; exact z; exact h2 x hx⟩
theorem RpL.toStrs {pp : Addr} {G : Hp} : ∀ {ns : List Str}, (∀ x ∈ ns, x.length ≤ 100000) → RpL pp G (ns.map V.str) (ns.map U.str)
  | [], _ => .nil
  | n :: ns, h => .cons (.str n (h n (List.mem_cons_self ..))) (RpL.toStrs fun x hx => h x (List.mem_cons_of_mem _ hx))
def bSum : FB := fun us post => ∃ ns : List Int, us = [.lst (ns.map U.int)] ∧ post (.int ns.sum)
theorem b_sum {K : PySem.W.Frag} : CallOk (rSum K) bSum := by
  intro b pp q G H vs us Q post w p hv hF k
  obtain ⟨ns, rfl, hp⟩ := hF
  cases hv with
  | cons r t =>
    cases t
    cases r with
    | lst h kk z =>
      obtain rfl := kk.ints
      exact ⟨_, ns, rfl, SqL.of h, k _ _ G H hp (Gr.refl w p) (.int _)⟩
def bAll : FB := fun us post => ∃ ns : List Bool, us = [.lst (ns.map U.bl)] ∧ post (.bl (ns.all id))
theorem b_all {K : PySem.W.Frag} : CallOk (rAll K) bAll := by
  intro b pp q G H vs us Q post w p hv hF k
  obtain ⟨ns, rfl, hp⟩ := hF
  cases hv with
  | cons r t =>
    cases t
    cases r with
    | lst h kk z =>
      obtain rfl := kk.bls
      exact ⟨_, ns, rfl, SqL.of h, k _ _ G H hp (Gr.refl w p) (.bl _)⟩
def bAny : FB := fun us post => ∃ ns : List Bool, us = [.lst (ns.map U.bl)] ∧ post (.bl (ns.any id))
theorem b_any {K : PySem.W.Frag} : CallOk (rAny K) bAny := by
  intro b pp q G H vs us Q post w p hv hF k
  obtain ⟨ns, rfl, hp⟩ := hF
  cases hv with
  | cons r t =>
    cases t
    cases r with
    | lst h kk z =>
      obtain rfl := kk.bls
      exact ⟨_, ns, rfl, SqL.of h, k _ _ G H hp (Gr.refl w p) (.bl _)⟩
def bMaxL : FB := fun us post => ∃ ns : List Int, us = [.lst (ns.map U.int)] ∧ 0 < ns.length ∧ ∀ m, m ∈ ns → (∀ y ∈ ns, y ≤ m) → post (.int m)
theorem b_maxL {K : PySem.W.Frag} : CallOk (rMax K) bMaxL := by
  intro b pp q G H vs us Q post w p hv hF k
  obtain ⟨ns, rfl, hl, hp⟩ := hF
  cases hv with
  | cons r t =>
    cases t
    cases r with
    | lst h kk z =>
      obtain rfl := kk.ints
      exact ⟨_, ns, rfl, SqL.of h, hl, fun m h1 h2 => k _ _ G H (hp m h1 h2) (Gr.refl w p) (.int _)⟩
def bMinL : FB := fun us post => ∃ ns : List Int, us = [.lst (ns.map U.int)] ∧ 0 < ns.length ∧ ∀ m, m ∈ ns → (∀ y ∈ ns, m ≤ y) → post (.int m)
theorem b_minL {K : PySem.W.Frag} : CallOk (rMin K) bMinL := by
  intro b pp q G H vs us Q post w p hv hF k
  obtain ⟨ns, rfl, hl, hp⟩ := hF
  cases hv with
  | cons r t =>
    cases t
    cases r with
    | lst h kk z =>
      obtain rfl := kk.ints
      exact ⟨_, ns, rfl, SqL.of h, hl, fun m h1 h2 => k _ _ G H (hp m h1 h2) (Gr.refl w p) (.int _)⟩
def bMin2 : FB := fun us post => ∃ i j, us = [.int i, .int j] ∧ post (.int (if j < i then j else i))
theorem b_min2 : CallOk (fun xs H Q => ∃ i j, xs = [.int i, .int j] ∧ Q (.int (if j < i then j else i)) H) bMin2 := by
  intro b pp q G H vs us Q post w p hv hF k
  obtain ⟨i, j, rfl, hp⟩ := hF
  obtain ⟨x1, x2, rfl, r, r2⟩ := Paired.two hv
  cases r
  cases r2
  exact ⟨i, j, rfl, k _ _ G H hp (Gr.refl w p) (.int _)⟩
def bMax2 : FB := fun us post => ∃ i j, us = [.int i, .int j] ∧ post (.int (if j > i then j else i))
theorem b_max2 : CallOk (fun xs H Q => ∃ i j, xs = [.int i, .int j] ∧ Q (.int (if j > i then j else i)) H) bMax2 := by
  intro b pp q G H vs us Q post w p hv hF k
  obtain ⟨i, j, rfl, hp⟩ := hF
  obtain ⟨x1, x2, rfl, r, r2⟩ := Paired.two hv
  cases r
  cases r2
  exact ⟨i, j, rfl, k _ _ G H hp (Gr.refl w p) (.int _)⟩
def bInt1 : FB := fun us post => (∃ i, us = [.int i] ∧ post (.int i)) ∨ ∃ k, us = [.bl k] ∧ post (.int (if k then 1 else 0))
theorem b_int1 : CallOk (fun xs H Q => (∃ i, xs = [.int i] ∧ Q (.int i) H) ∨ ∃ k, xs = [.bl k] ∧ Q (.int (if k then 1 else 0)) H) bInt1 := by
  intro b pp q G H vs us Q post w p hv hF k
  rcases hF with ⟨i, rfl, hp⟩ | ⟨i, rfl, hp⟩
  · cases hv with
    | cons r t =>
      cases t
      cases r
      exact .inl ⟨i, rfl, k _ _ G H hp (Gr.refl w p) (.int _)⟩
  · cases hv with
    | cons r t =>
      cases t
      cases r
      exact .inr ⟨i, rfl, k _ _ G H hp (Gr.refl w p) (.int _)⟩
def bSortI : FB := fun us post => ∃ ns : List Int, us = [.lst (ns.map U.int)] ∧ ∀ ms : List Int, ms.Perm ns → ms.Pairwise (· ≤ ·) → post (.lst (ms.map U.int))
theorem b_sortI {K : PySem.W.Frag} : CallOkF (rSortedI K) bSortI := by
  intro b pp q G H vs us Q post w p hv hF k
  obtain ⟨ns, rfl, hp⟩ := hF
  cases hv with
  | cons r t =>
    cases t
    cases r with
    | lst h kk z =>
      obtain rfl := kk.ints
      refine ⟨_, ns, rfl, SqL.of h, fun ms d pm pw nd => k d _ _ _ (hp ms pm pw) (Gr.newH w p nd) nd (w.free nd) upd_same (.lst (RpL.toInts ms) ?_)⟩
      rw [List.length_map, pm.length_eq]
      rw [List.length_map] at z
      exact z
def bSortS : FB := fun us post => ∃ ns : List Str, us = [.lst (ns.map U.str)] ∧ ns.length < 64 ∧ ∀ ms : List Str, ms.Perm ns → sortedS ms = true → post (.lst (ms.map U.str))
theorem b_sortS {K : PySem.W.Frag} : CallOkF (rSortedS K) bSortS := by
  intro b pp q G H vs us Q post w p hv hF k
  obtain ⟨ns, rfl, hl, hp⟩ := hF
  cases hv with
  | cons r t =>
    cases t
    cases r with
    | lst h kk z =>
      obtain ⟨rfl, hz⟩ := kk.strs'
      refine ⟨_, ns, rfl, SqL.of h, hl, fun ms d pm pw nd => k d _ _ _ (hp ms pm pw) (Gr.newH w p nd) nd (w.free nd) upd_same (.lst (RpL.toStrs fun x hx => hz x (pm.mem_iff.mp hx)) ?_)⟩
      rw [List.length_map, pm.length_eq]
      rw [List.length_map] at z
      exact z
/-! ### lists of one's own -/
section
variable {Z : Zc} {tA : TA} {wA : WA} {te : TE} {we : WE}
theorem ow_lst {Z : Zc} {σ : L2.St} {ρ : List Cell} {G H : Hp} (S : Sv Z σ ρ G H) {i : Nat} {us : List U} (e : ρ[i]? = some (.ow (.lst us))) : ∃ a vs, σ[i]? = some (some (.ref a)) ∧ H a = some (.lst vs) ∧ RpL Z.pp G vs us ∧ us.length ≤ 100000 := by
  obtain ⟨a, o, e1, h1, g1, z1, ho⟩ := S.ow i _ e
  cases ho with
  | lst k z => exact ⟨a, _, e1, h1, k, z⟩
theorem ow_ex {Z : Zc} {σ : L2.St} {ρ : List Cell} {G H : Hp} (S : Sv Z σ ρ G H) {i : Nat} {u : U} {a : Addr} {o : HO} (e : ρ[i]? = some (.ow u)) (ha : σ[i]? = some (some (.ref a))) : Ex G H G (upd H a o) := by
  obtain ⟨a1, o1, q1, h1, g1, z1, w1⟩ := S.ow i u e
  rw [ha] at q1
  cases q1
  exact ⟨Same.refl _, fun b x e => .inl (upd_ne (ne_of_none e g1))⟩
/-- xs.append(e) -/
def wAppend (i : Nat) (we : WE) : WS := fun V ρ => ∃ us, ρ[i]? = some (.ow (.lst us)) ∧ us.length < 100000 ∧ we ρ fun u => V.nx (ρ.set i (.ow (.lst (us ++ [u]))))
theorem s_append {K : PySem.W.Frag} {i : Nat} (h : TrE Z te we) : TrS Z (tDrop (tBM K "list" rAppend (tVar i) (tCons te tNil))) (wAppend i we) := fun V D σ ρ G H S hw B => by
  obtain ⟨us, e, hl, p⟩ := hw
  obtain ⟨a, vs, e1, h1, _, _⟩ := ow_lst S e
  refine ⟨_, e1, .inl ⟨rfl, vs, SqL.of h1⟩, h σ ρ G H _ _ S p fun v u G1 H1 p1 g1 r1 => ?_⟩
  have S1 := S.step g1
  obtain ⟨a', vs', e1', h1', k', z'⟩ := ow_lst S1 e
  rw [e1] at e1'
  cases e1'
  refine ⟨a, vs', v, rfl, rfl, h1', lineN (by rw [k'.length]; omega), ?_⟩
  exact B.nx _ _ G1 _ (S1.put e e1 (.lst (k'.snoc r1) (by rw [List.length_append]; exact hl))) (g1.ex.trans (ow_ex S1 e e1)) p1
/-- xs[i] = e -/
def wSetIx (i : Nat) (wi we : WE) : WS := fun V ρ => ∃ us, ρ[i]? = some (.ow (.lst us)) ∧ we ρ fun u => wi ρ fun x => ∃ n j, x = .int n ∧ ixN us.length n = some j ∧ V.nx (ρ.set i (.ow (.lst (us.set j u))))
theorem s_setIx {i : Nat} {ti : TE} {wi : WE} (h : TrE Z te we) (hi : TrE Z ti wi) : TrS Z (tAsg te (gSub (tVar i) ti rSetL)) (wSetIx i wi we) := fun V D σ ρ G H S hw B => by
  obtain ⟨us, e, p⟩ := hw
  obtain ⟨a, vs, e1, h1, _, _⟩ := ow_lst S e
  refine h σ ρ G H _ _ S p fun v u G1 H1 p1 g1 r1 => ⟨_, e1, hi σ ρ G1 H1 _ _ (S.step g1) p1 fun iv x G2 H2 p2 g2 r2 => ?_⟩
  obtain ⟨n, j, rfl, hj, p3⟩ := p2
  cases r2
  have S2 := (S.step g1).step g2
  obtain ⟨a', vs', e1', h1', k', z'⟩ := ow_lst S2 e
  rw [e1] at e1'
  cases e1'
  refine ⟨a, vs', n, j, rfl, rfl, h1', by rw [k'.length]; exact hj, ?_⟩
  exact B.nx _ _ G2 _ (S2.put e e1 (.lst (k'.set (r1.same g2.gg) j) (by rw [List.length_set]; exact z'))) ((g1.ex.trans g2.ex).trans (ow_ex S2 e e1)) p3
/-- xs.insert(i, e) -/
abbrev rInsert : V → List V → Hp → VK → Prop := fun x vs H Q => ∃ (l : Addr) (xs : List V) (i : Int) (y : V), x = .ref l ∧ vs = [.int i, y] ∧ H l = some (.lst xs) ∧ xs.length < sizeLine ∧ 0 ≤ i ∧ i < 2 ^ 63 ∧ Q .non (upd H l (.lst (xs.take i.toNat ++ [y] ++ xs.drop i.toNat)))
def wInsert (i : Nat) (wi we : WE) : WS := fun V ρ => ∃ us, ρ[i]? = some (.ow (.lst us)) ∧ us.length < 100000 ∧ wi ρ fun x => we ρ fun u => ∃ n : Int, x = .int n ∧ 0 ≤ n ∧ n ≤ 100000 ∧ V.nx (ρ.set i (.ow (.lst (us.take n.toNat ++ [u] ++ us.drop n.toNat))))
theorem s_insert {K : PySem.W.Frag} {i : Nat} {ti : TE} {wi : WE} (hi : TrE Z ti wi) (h : TrE Z te we) : TrS Z (tDrop (tBM K "list" rInsert (tVar i) (tCons ti (tCons te tNil)))) (wInsert i wi we) := fun V D σ ρ G H S hw B => by
  obtain ⟨us, e, hl, p⟩ := hw
  obtain ⟨a, vs, e1, h1, _, _⟩ := ow_lst S e
  refine ⟨_, e1, .inl ⟨rfl, vs, SqL.of h1⟩, hi σ ρ G H _ _ S p fun iv x G1 H1 p1 g1 r1 => h σ ρ G1 H1 _ _ (S.step g1) p1 fun v u G2 H2 p2 g2 r2 => ?_⟩
  obtain ⟨n, rfl, n0, n1, p3⟩ := p2
  cases r1
  have S2 := (S.step g1).step g2
  obtain ⟨a', vs', e1', h1', k', z'⟩ := ow_lst S2 e
  rw [e1] at e1'
  cases e1'
  refine ⟨a, vs', n, v, rfl, rfl, h1', lineN (by rw [k'.length]; omega), n0, by omega, ?_⟩
  refine B.nx _ _ G2 _ (S2.put e e1 (.lst (((k'.drop _)).append ((k'.take _).snoc r2)) ?_)) ((g1.ex.trans g2.ex).trans (ow_ex S2 e e1)) p3
  rw [List.length_append, List.length_append, List.length_take, List.length_drop]
  show min n.toNat us.length + 1 + (us.length - n.toNat) ≤ 100000
  omega
/-- y = xs.pop(k), of a list of one's own; y in slot j -/
def wPopAt (j i : Nat) (we : WE) : WS := fun V ρ => ∃ us, ρ[i]? = some (.ow (.lst us)) ∧ i ≠ j ∧ we ρ fun x => ∃ n k u, x = .int n ∧ seqIndex? n us.length = some k ∧ us.length ≤ 100000 ∧ us[k]? = some u ∧ V.nx ((ρ.set i (.ow (.lst (us.eraseIdx k)))).set j (.fz u))
end
end SV
/-! The value layer: x op= e, while, raise, fields, own classes, dicts. -/
namespace SV
open PySem PySem.Spec PyProof.Rows L2 SL
section
variable {Z : Zc} {tA : TA} {wA : WA} {te : TE} {we : WE} {t u : TS} {w x : WS} {tt : TT} {wt : WT}
def wAug (i : Nat) (f : Int → Int → Int) (we : WE) : WS := fun V ρ => ∃ n, ρ[i]? = some (.fz (.int n)) ∧ we ρ fun y => ∃ m, y = .int m ∧ V.nx (ρ.set i (.fz (.int (f n m))))
theorem s_aug {i : Nat} {f : Int → Int → Int} (h : TrE Z te we) (hi : Z.may i := by exact Zc.may_of (by assumption) (by decide)) : TrS Z (tAug i te (ipI f)) (wAug i f we) := fun V D σ ρ G H S hw B => by
  obtain ⟨n, e, p⟩ := hw
  obtain ⟨v, e1, r⟩ := S.fz i _ e
  cases r
  refine ⟨_, e1, h σ ρ G H _ _ S p fun v y G1 H1 p1 g1 r1 => ?_⟩
  obtain ⟨m, rfl, p2⟩ := p1
  cases r1
  exact ⟨n, m, rfl, rfl, B.nx _ _ G1 H1 ((S.step g1).set hi (.int _)) g1.ex p2⟩
def wWhile (c : WT) (b : WS) : WS := fun V ρ => ∃ Iv : Nat → List Cell → Prop, (∃ m, Iv m ρ) ∧ ∀ m ρ', Iv m ρ' → c ρ' fun k => if k = true then b { V with nx := fun ρ2 => ∃ m', m' < m ∧ Iv m' ρ2, ct := fun ρ2 => ∃ m', m' < m ∧ Iv m' ρ2, bk := V.nx } ρ' else V.nx ρ'
theorem s_while (hc : TrT Z tt wt) (hb : TrS Z t w) : TrS Z (tWhile tt t) (wWhile wt w) := fun V D σ ρ G H S hw B => by
  obtain ⟨Iv, ⟨m0, i0⟩, is⟩ := hw
  refine ⟨fun m σ' H' => ∃ ρ' G', Sv Z σ' ρ' G' H' ∧ Ex G H G' H' ∧ Iv m ρ', ⟨m0, ρ, G, S, Ex.refl, i0⟩, fun m σ' H' ⟨ρ', G', S', e, iv⟩ => hc σ' ρ' G' H' _ _ S' (is m ρ' iv) fun c G1 H1 p1 g1 => ?_⟩
  have e1 := e.trans g1.ex
  cases c with
  | true =>
    refine iteT ⟨fun σ2 H2 => ∃ m', m' < m ∧ ∃ ρ2 G2, Sv Z σ2 ρ2 G2 H2 ∧ Ex G H G2 H2 ∧ Iv m' ρ2, fun _ _ z => z, hb _ _ σ' ρ' G1 H1 (S'.step g1) p1 ⟨fun σ2 ρ2 G2 H2 S2 x2 ⟨m', l, iv2⟩ => ⟨m', l, ρ2, G2, S2, e1.trans x2, iv2⟩, fun v u G2 H2 g2 x2 => B.rt v u G2 H2 g2 (e1.trans x2), fun σ2 ρ2 G2 H2 S2 x2 p2 => B.nx σ2 ρ2 G2 H2 S2 (e1.trans x2) p2, fun σ2 ρ2 G2 H2 S2 x2 ⟨m', l, iv2⟩ => ⟨m', l, ρ2, G2, S2, e1.trans x2, iv2⟩⟩⟩
  | false => exact iteF (B.nx σ' ρ' G1 H1 (S'.step g1) e1 p1)
/-! ### raise -/
/-- the values whose text an error's message can show -/
def okMsg (vok : Value → Prop) (u : U) : Prop := ∀ (v : V) (pp : Addr) (G : Hp) (val : Value), Rp pp G v u → RelV v val → vok val
theorem okMsg_str {s : Str} (h : (reprText s).length ≤ 1000 := by decide +kernel) : okMsg (fun v => ∃ (y : Str) (t : Tok), v = .str y t ∧ (reprText y).length ≤ 1000) (.str s) := fun v pp G val r e => by
  cases r
  obtain ⟨t, rfl⟩ := e
  exact ⟨_, _, rfl, h⟩
def wRaise (C : Addr) (fld : Str) (vok : Value → Prop) (ew : EW) (wA : WA) : WS := fun _ ρ => wA ρ fun us => ∃ u, us = [u] ∧ okMsg vok u ∧ ew C [(fld, u)]
theorem s_raise {C : Addr} {fld : Str} {vok : Value → Prop} {E : XK} (hE : Z.E = E) (h : TrA Z tA wA) : TrS Z (fun _ σ H => tMkEx C fld vok tA σ H fun cls d H' => E cls d H') (wRaise C fld vok Z.ew wA) := fun V D σ ρ G H S hw B => h σ ρ G H _ _ S hw fun vs us G1 H1 p1 g1 r1 => by
  obtain ⟨u, rfl, ok, p2⟩ := p1
  cases r1 with
  | @cons v0 _ _ _ r t =>
    cases t
    refine ⟨_, rfl, fun val rv => ok _ _ _ val r rv, fun d nd => ?_⟩
    have S1 := S.step g1
    have g2 := Gr.new (b := Z.b) (o := .xd [(fld, v0)]) S1.vw S1.pl nd
    subst hE
    exact S.ex C [(fld, _)] [(fld, u)] (some d) _ _ p2 (S.gr.trans (g1.trans g2)) (.inl ⟨d, rfl, upd_same⟩) (.cons (r.same (same_upd (S1.vw.free nd))) .nil)
/-! ### fields -/
def wFld (K : PySem.W.Frag) (f : Str) (we : WE) : WE := fun ρ post => we ρ fun x => ∃ C gs u, x = .ins C gs ∧ Cls K C ∧ NoAttr K C f ∧ gs.lookup f = some u ∧ post u
theorem v_fld {K : PySem.W.Frag} {f : Str} (h : TrB Z te we) : TrE Z (tFld K te f) (wFld K f we) := fun σ ρ G H post Q S hw q => h σ ρ G H _ _ S hw fun v x G1 H1 p1 g1 r1 => by
  obtain ⟨C, gs, u, rfl, c, n, e, p⟩ := p1
  cases r1 with
  | ins h k =>
    obtain ⟨y, e1, r⟩ := k.get e
    exact ⟨_, C, _, _, y, rfl, h, c, n, e1, q y u G1 H1 p g1 r⟩
def putFU (f : Str) (u : U) : List (Str × U) → List (Str × U)
  | [] => [(f, u)]
  | (g, x) :: r => if g = f then (g, u) :: r else (g, x) :: putFU f u r
theorem RpF.put {pp : Addr} {G : Hp} {f : Str} {v : V} {u : U} (h : Rp pp G v u) : ∀ {vs : List (Str × V)} {us : List (Str × U)}, RpF pp G vs us → RpF pp G (putF f v vs) (putFU f u us)
  | _, _, .nil => .cons h .nil
  | _, _, .cons (k := k) r t => by
    unfold putF putFU
    by_cases c : k = f
    · rw [if_pos c, if_pos c]
      exact .cons h t
    · rw [if_neg c, if_neg c]
      exact .cons r (RpF.put h t)
theorem RpF.length {pp : Addr} {G : Hp} : ∀ {vs : List (Str × V)} {us : List (Str × U)}, RpF pp G vs us → vs.length = us.length
  | _, _, .nil => rfl
  | _, _, .cons _ t => congrArg (· + 1) (RpF.length t)
/-- o.f = e, o one's own (an __init__'s self) -/
def wFldSet (K : PySem.W.Frag) (i : Nat) (f : Str) (we : WE) : WS := fun V ρ => ∃ C gs, ρ[i]? = some (.ow (.ins C gs)) ∧ Cls K C ∧ NoAttr K C f ∧ gs.length < 1000 ∧ we ρ fun u => V.nx (ρ.set i (.ow (.ins C (putFU f u gs))))
theorem s_fld {K : PySem.W.Frag} {i : Nat} {f : Str} (h : TrE Z te we) : TrS Z (sFld K (tVar i) te f) (wFldSet K i f we) := fun V D σ ρ G H S hw B => by
  obtain ⟨C, gs, e, c, n, l, p⟩ := hw
  refine h σ ρ G H _ _ S p fun v u G1 H1 p1 g1 r1 => ?_
  have S1 := S.step g1
  obtain ⟨a, o, e1, h1, _, _, ho⟩ := S1.ow i _ e
  cases ho with
  | ins k =>
    rename_i dx fs
    refine ⟨_, e1, a, C, dx, fs, rfl, h1, c, n, by rw [k.length]; exact l, ?_⟩
    exact B.nx _ _ G1 _ (S1.put e e1 (.ins (k.put r1))) (g1.ex.trans (ow_ex S1 e e1)) p1
/-! ### methods -/
def wMeth (C : Addr) (m : Str) (n : Nat) (W : Wf) (ew : EW) (wo : WE) (wA : WA) : WE := fun ρ post => wo ρ fun x => ∃ gs, x = .ins C gs ∧ gs.lookup m = none ∧ wA ρ fun us => (x :: us).length = n ∧ W (x :: us) post ew
theorem RpF.none {pp : Addr} {G : Hp} {f : Str} : ∀ {vs : List (Str × V)} {us : List (Str × U)}, RpF pp G vs us → us.lookup f = none → vs.lookup f = none
  | _, _, .nil, _ => rfl
  | _, _, .cons (k := k) h t, e => by
    by_cases c : (f == k) = true
    · simp only [List.lookup, c] at e
      cases e
    · have c' : (f == k) = false := by simpa using c
      simp only [List.lookup, c'] at e ⊢
      exact RpF.none t e
theorem spV_of {b : PT} {n : Nat} {W : Wf} {E : XK} {ew : EW} {σ : L2.St} {ρ : List Cell} {G H : Hp} (S : Sv Z σ ρ G H) (hb : PLe b Z.b) (hE : ∀ C fs gs od G' H', ew C gs → Z.gr0 G H G' H' → XdAt G' od fs → RpF Z.pp G' fs gs → E (.ref C) od H') {vs : List V} {us : List U} {post : U → Prop} {Q : VK}
    (h1 : RpL Z.pp G vs us) (l : us.length = n) (w2 : W us post ew) (q : ∀ v u G' H', post u → Z.gr G H G' H' → Rp Z.pp G' v u → Q v H') : spV b n W vs H Q E := by
  have up : ∀ {G' H'}, Gr b Z.pp Z.q G H G' H' → Z.gr G H G' H' := fun {G' H'} g => g.le hb S.pl
  have up0 : ∀ {G' H'}, Gr b Z.pp Z.q G H G' H' → Z.gr0 G H G' H' := fun {G' H'} g => g.le hb S.pl
  exact ⟨us, Z.pp, Z.q, G, post, ew, h1, l, S.vw, S.pl.le hb, w2, fun v u G' H' p g r => q v u G' H' p (up g) r, fun C fs gs od G' H' a g x r => hE C fs gs od G' H' a (up0 g) x r⟩
theorem meth_run {b : PT} {n : Nat} {W : Wf} {C : Addr} {m : Str} {E : XK} {ew : EW} {to : TE} {wo : WE} (hb : PLe b Z.b) (hE : ∀ σ ρ G H, Sv Z σ ρ G H → ∀ C fs gs od G' H', ew C gs → Z.gr0 G H G' H' → XdAt G' od fs → RpF Z.pp G' fs gs → E (.ref C) od H') (ho : TrE Z to wo) (h : TrA Z tA wA) :
    TrE Z (tMeth C m (spV b n W) [] E to tA) (wMeth C m n W ew wo wA) := fun σ ρ G H post Q S hw q => ho σ ρ G H _ _ S hw fun v x G1 H1 p1 g1 r1 => by
  obtain ⟨gs, rfl, nm, p2⟩ := p1
  have S1 := S.step g1
  cases r1 with
  | ins hh k =>
    refine ⟨_, _, _, rfl, S1.vw.ins hh, k.none nm, h σ ρ G1 H1 _ _ S1 p2 fun vs us G2 H2 p3 g2 r2 => ?_⟩
    have S2 := S1.step g2
    show spV b n W (_ :: (vs ++ [])) H2 Q E
    rw [List.append_nil]
    exact spV_of S2 hb (hE σ ρ G2 H2 S2) (.cons ((Rp.ins hh k).same g2.gg) r2) p3.1 p3.2 fun v u G' H' p g r => q v u G' H' p ((g1.trans g2).trans g) r
theorem v_meth {b : PT} {n : Nat} {W : Wf} {C : Addr} {m : Str} {to : TE} {wo : WE} (hb : PLe b Z.b) (ho : TrE Z to wo) (h : TrA Z tA wA) : TrE Z (tMeth C m (spV b n W) [] E0 to tA) (wMeth C m n W (fun _ _ => False) wo wA) := meth_run hb (fun _ _ _ _ _ _ _ _ _ _ _ a => a.elim) ho h
theorem v_methX {b : PT} {n : Nat} {W : Wf} {C : Addr} {m : Str} {E : XK} {to : TE} {wo : WE} (hE : Z.E = E) (hb : PLe b Z.b) (ho : TrE Z to wo) (h : TrA Z tA wA) : TrE Z (tMeth C m (spV b n W) [] E to tA) (wMeth C m n W Z.ew wo wA) :=
  meth_run hb (fun σ ρ G H S C fs gs od G' H' a g x r => by rw [← hE]; exact S.ex C fs gs od G' H' a (S.gr.trans g) x r) ho h
/-! ### C(..) -/
/-- __init__'s promise: what is made of the arguments -/
def spI (C : Addr) (b : PT) (n : Nat) (W : Wf) : Sp := fun vs H Q E => ∃ x dx H1 ws us pp q G post ew, vs = .ref x :: ws ∧ H = upd (upd H1 dx (.own x)) x (.ins C dx []) ∧ H1 x = none ∧ H1 dx = none ∧ dx ≠ x ∧ RpL pp G ws us ∧ us.length = n ∧ Vw G H1 ∧ (Pl b pp q G H1) ∧ W us post ew ∧
  (∀ u G' H', post u → Gr b pp q G H1 G' H' → Rp pp G' (.ref x) u → Q .non H') ∧ (∀ C fs gs od G' H', ew C gs → Gr b pp q G H1 G' H' → XdAt G' od fs → RpF pp G' fs gs → E (.ref C) od H')
theorem make_run {C : Addr} {b : PT} {n : Nat} {W : Wf} {E : XK} {ew : EW} (hb : PLe b Z.b) (hE : ∀ σ ρ G H, Sv Z σ ρ G H → ∀ C fs gs od G' H', ew C gs → Z.gr0 G H G' H' → XdAt G' od fs → RpF Z.pp G' fs gs → E (.ref C) od H') (h : TrA Z tA wA) :
    TrE Z (tMake C (spI C b n W) [] E tA) (wCall n W ew wA) := fun σ ρ G H post Q S hw q => h σ ρ G H _ _ S hw fun vs us G1 H1 p1 g1 r1 x dx nx ndx ne => by
  obtain ⟨l, w2⟩ := p1
  have S1 := S.step g1
  have up : ∀ {G' H'}, Gr b Z.pp Z.q G1 H1 G' H' → Z.gr G1 H1 G' H' := fun {G' H'} g => g.le hb S1.pl
  have up0 : ∀ {G' H'}, Gr b Z.pp Z.q G1 H1 G' H' → Z.gr0 G1 H1 G' H' := fun {G' H'} g => g.le hb S1.pl
  rw [List.append_nil]
  exact ⟨x, dx, H1, vs, us, Z.pp, Z.q, G1, post, ew, rfl, rfl, nx, ndx, ne, r1, l, S1.vw, S1.pl.le hb, w2, fun u G' H' p g r => ⟨rfl, q _ u G' H' p (g1.trans (up g)) r⟩, fun C fs gs od G' H' a g y r => hE σ ρ G1 H1 S1 C fs gs od G' H' a (up0 g) y r⟩
theorem v_make {C : Addr} {b : PT} {n : Nat} {W : Wf} (hb : PLe b Z.b) (h : TrA Z tA wA) : TrE Z (tMake C (spI C b n W) [] E0 tA) (wCall n W (fun _ _ => False) wA) := make_run hb (fun _ _ _ _ _ _ _ _ _ _ _ a => a.elim) h
theorem v_makeX {C : Addr} {b : PT} {n : Nat} {W : Wf} {E : XK} (hE : Z.E = E) (hb : PLe b Z.b) (h : TrA Z tA wA) : TrE Z (tMake C (spI C b n W) [] E tA) (wCall n W Z.ew wA) :=
  make_run hb (fun σ ρ G H S C fs gs od G' H' a g x r => by rw [← hE]; exact S.ex C fs gs od G' H' a (S.gr.trans g) x r) h
end
/-- __init__ itself: self is one's own at the start, and is frozen at the end -/
theorem init_of {C : Addr} {b : PT} {n : Nat} {W : Wf} {N : List Str} {t : TS} {E : XK} (hN : n + 1 ≤ N.length)
    (tr : ∀ Z : Zc, Z.b = b → Z.E = E → Z.mays (fun i => i != 0) → ∃ w, TrS Z t w ∧ ∀ us post, us.length = n → W us post Z.ew → w { nx := fun ρ => ∃ gs, ρ[0]? = some (.ow (.ins C gs)) ∧ post (.ins C gs), rt := fun _ => False } (.ow (.ins C []) :: (us.map Cell.fz ++ List.replicate (N.length - (us.length + 1)) Cell.no)))
    {vs : List V} {H : Hp} {Q : VK} (h : spI C b n W vs H Q E) : t { nx := fun _ H' => Q .non H', rt := Q } (L2.start N vs) H := by
  obtain ⟨x, dx, H1, ws, us, pp, q, G, post, ew, rfl, rfl, nx, ndx, ne, k, l, vw, pl, hw, hq, he⟩ := h
  obtain ⟨w, T, hb⟩ := tr ⟨b, pp, q, G, H1, E, ew, N.length, fun i => if i = 0 then some (.ref x) else none, fun _ => none⟩ rfl rfl fun i e => if_neg (by simpa using e)
  have g1 : Gr b pp q G H1 G (upd H1 dx (.own x)) := Gr.newH vw pl ndx
  have nx1 : (upd H1 dx (.own x)) x = none := by rw [upd_ne (Ne.symm ne)]; exact nx
  have g2 : Gr b pp q G H1 G (upd (upd H1 dx (.own x)) x (.ins C dx [])) := g1.trans (Gr.newH g1.vw g1.pl nx1)
  have hx : (upd (upd H1 dx (.own x)) x (.ins C dx [])) x = some (.ins C dx []) := upd_same
  have gx : G x = none := vw.free nx
  have sw : L2.start N (.ref x :: ws) = some (.ref x) :: (ws.map some ++ List.replicate (N.length - (ws.length + 1)) none) := by
    unfold L2.start
    rfl
  have low : ∀ {i : Nat} {u : U}, (Cell.ow (.ins C []) :: (us.map Cell.fz ++ List.replicate (N.length - (us.length + 1)) Cell.no))[i]? = some (.ow u) → i = 0 ∧ u = .ins C [] := fun {i u} e => by
    cases i with
    | zero => simp at e; exact ⟨rfl, e.symm⟩
    | succ i =>
      rw [List.getElem?_cons_succ] at e
      have := List.mem_of_getElem? e
      rw [List.mem_append, List.mem_map, List.mem_replicate] at this
      rcases this with ⟨a, _, z⟩ | ⟨_, z⟩ <;> cases z
  refine T _ _ _ _ G _ ⟨g2, vw, pl, fun C fs us od G' H' a g x r => he C fs us od G' H' a g x r, ⟨?_, ?_⟩, fun i u e => ?_, fun i u e => ?_, (fun i v e => ?_), (fun _ _ e => nomatch e), fun i j a hij h1 h2 => ?_⟩ (hb us post l hw) ⟨fun σ ρ G' H' S y p => ?_, fun _ _ _ _ _ _ _ z => z.elim, fun _ _ _ _ _ _ z => z.elim, fun _ _ _ _ _ _ z => z.elim⟩
  · rw [sw, List.length_cons, List.length_append, List.length_map, List.length_replicate, k.length, l]
    show n + (N.length - (n + 1)) + 1 = N.length
    omega
  · rw [List.length_cons, List.length_append, List.length_map, List.length_replicate, l]
    show n + (N.length - (n + 1)) + 1 = N.length
    omega
  · rw [sw]
    cases i with
    | zero => simp at e
    | succ i =>
      rw [List.getElem?_cons_succ] at e ⊢
      by_cases c : i < us.length
      · rw [List.getElem?_append_left (by rw [List.length_map]; exact c), List.getElem?_map, List.getElem?_eq_getElem c] at e
        have e' : us[i] = u := by simpa using e
        obtain ⟨v, e1, hv⟩ := k.got (i := i) (u := u) (by rw [List.getElem?_eq_getElem c, e'])
        refine ⟨v, ?_, hv⟩
        rw [List.getElem?_append_left (by rw [List.length_map, k.length]; exact c), List.getElem?_map, e1]
        rfl
      · rw [List.getElem?_append_right (by rw [List.length_map]; omega)] at e
        have := List.mem_of_getElem? e
        rw [List.mem_replicate] at this
        exact nomatch this.2
  · obtain ⟨rfl, rfl⟩ := low e
    exact ⟨x, _, by rw [sw]; rfl, hx, gx, nx, .ins .nil⟩
  · by_cases c : i = 0
    · subst c
      cases e
      rw [sw]
      rfl
    · have e' : (if i = 0 then some (V.ref x) else none) = some v := e
      rw [if_neg c] at e'
      cases e'
  · obtain ⟨u1, e1⟩ := h1
    obtain ⟨u2, e2⟩ := h2
    exact absurd ((low e1).1.trans (low e2).1.symm) hij
  · obtain ⟨gs, e, p'⟩ := p
    obtain ⟨a, o, e1, h1, ga, z1, ho⟩ := S.ow 0 _ e
    have e2 := S.me 0 (.ref x) rfl
    rw [e1] at e2
    cases e2
    exact hq _ (upd G' x o) H' p' (S.gr.freeze z1 ga h1 pl) (ho.rp ga)
section
variable {P : Program} {w : World} {K : PySem.W.Frag} {mg : Str → Option Value} {base : Heap}
theorem spI_len {C : Addr} {b : PT} {n : Nat} {W : Wf} {vs : List V} {H : Hp} {Q : VK} {E : XK} (h : spI C b n W vs H Q E) : vs.length = n + 1 := by
  obtain ⟨x, dx, H1, ws, us, pp, q, G, post, ew, rfl, _, _, _, _, k, l, _⟩ := h
  rw [List.length_cons, k.length, l]
/-- an __init__ that raises nothing -/
theorem okI {C : Addr} {b : PT} {n : Nat} {W : Wf} {x qual : Str} {st : Stmt} {f : Addr} {fd : FuncData} {N ps : List Str} {k : Nat} (F : Fun K x qual st f fd) (S : FnScope N ps (defScope st)) (hn : ps.length = n + 1) (hN : n + 1 ≤ N.length)
    (hbody : ∀ (cdv : Value) (A : Around) (outer : List Env) (s : Shared) (H : Hp) (E : XK), Room k (A.deeper (envOfC qual (defScope st) s.heap.objs.size f cdv)) →
      ∃ t, PSs (cxOf CX0 P w K mg base N qual (defScope st) f cdv A outer s H E).nox (defBody st) t ∧ ∀ Z : Zc, Z.b = b → Z.E = E → Z.mays (fun i => i != 0) → ∃ w, TrS Z t w ∧ ∀ us post, us.length = n → W us post Z.ew → w { nx := fun ρ => ∃ gs, ρ[0]? = some (.ow (.ins C gs)) ∧ post (.ins C gs), rt := fun _ => False } (.ow (.ins C []) :: (us.map Cell.fz ++ List.replicate (N.length - (us.length + 1)) Cell.no))) :
    FnOk P w K mg base CX0 (k + 1) f fd ps (spI C b n W) :=
  F.ok S (fun vs H Q E h => (spI_len h).trans hn.symm) fun cdv A outer s H vs Q E hr h =>
    let ⟨t, ht, tr⟩ := hbody cdv A outer s H E hr
    ⟨t, ht, init_of hN tr h⟩
/-- an __init__ that may raise -/
theorem okIX {C : Addr} {b : PT} {n : Nat} {W : Wf} {x qual : Str} {st : Stmt} {f : Addr} {fd : FuncData} {N ps : List Str} {k : Nat} (F : Fun K x qual st f fd) (S : FnScope N ps (defScope st)) (hn : ps.length = n + 1) (hN : n + 1 ≤ N.length)
    (hbody : ∀ (cdv : Value) (A : Around) (outer : List Env) (s : Shared) (H : Hp) (E : XK), Room k (A.deeper (envOfC qual (defScope st) s.heap.objs.size f cdv)) →
      ∃ t, PSs (cxOf (L2.CX P w) P w K mg base N qual (defScope st) f cdv A outer s H E) (defBody st) t ∧ ∀ Z : Zc, Z.b = b → Z.E = E → Z.mays (fun i => i != 0) → ∃ w, TrS Z t w ∧ ∀ us post, us.length = n → W us post Z.ew → w { nx := fun ρ => ∃ gs, ρ[0]? = some (.ow (.ins C gs)) ∧ post (.ins C gs), rt := fun _ => False } (.ow (.ins C []) :: (us.map Cell.fz ++ List.replicate (N.length - (us.length + 1)) Cell.no))) :
    FnOk P w K mg base (L2.CX P w) (k + 1) f fd ps (spI C b n W) :=
  F.okX S (fun vs H Q E h => (spI_len h).trans hn.symm) fun cdv A outer s H vs Q E hr h =>
    let ⟨t, ht, tr⟩ := hbody cdv A outer s H E hr
    ⟨t, ht, init_of hN tr h⟩
end
end SV
/-! The value layer: dicts. -/
namespace SV
open PySem PySem.Spec PyProof.Rows L2 SL
/-! ### dicts of values -/
section
variable {κ : Type} [DecidableEq κ]
def valU {α : Type} (kvs : List (κ × α)) (k : κ) : Option α := (kvs.find? fun kv => decide (kv.1 = k)).map (·.2)
def putU {α : Type} (kvs : List (κ × α)) (k : κ) (v : α) : List (κ × α) :=
  if (kvs.any fun kv => decide (kv.1 = k)) = true then kvs.map (fun kv => if kv.1 = k then (kv.1, v) else kv) else kvs ++ [(k, v)]
variable {α : Type}
theorem valU_nil {k : κ} : valU ([] : List (κ × α)) k = none := rfl
theorem valU_pos {p : κ × α} {r : List (κ × α)} {k : κ} (e : p.1 = k) : valU (p :: r) k = some p.2 := by simp [valU, List.find?_cons, e]
theorem valU_neg {p : κ × α} {r : List (κ × α)} {k : κ} (e : ¬ p.1 = k) : valU (p :: r) k = valU r k := by simp [valU, List.find?_cons, e]
theorem valU_any (k : κ) : ∀ kvs : List (κ × α), (kvs.any fun kv => decide (kv.1 = k)) = (valU kvs k).isSome
  | [] => rfl
  | p :: r => by
    by_cases e : p.1 = k
    · rw [valU_pos e]; simp [e]
    · rw [valU_neg e, ← valU_any k r]; simp [e]
theorem valU_map (k j : κ) (y : α) : ∀ kvs : List (κ × α), valU (kvs.map fun kv => if kv.1 = k then (kv.1, y) else kv) j = (valU kvs j).map fun x => if j = k then y else x
  | [] => rfl
  | p :: r => by
    rw [List.map_cons]
    by_cases e : p.1 = j
    · rw [valU_pos (p := p) e]
      by_cases c : p.1 = k
      · rw [if_pos c, valU_pos (by exact e)]
        simp [e ▸ c]
      · rw [if_neg c, valU_pos e]
        have : ¬ j = k := fun z => c (e.trans z)
        simp [this]
    · rw [valU_neg (p := p) e, ← valU_map k j y r]
      by_cases c : p.1 = k
      · rw [if_pos c, valU_neg (by exact e)]
      · rw [if_neg c, valU_neg e]
theorem valU_snoc (k j : κ) (y : α) : ∀ kvs : List (κ × α), valU (kvs ++ [(k, y)]) j = (valU kvs j).or (if j = k then some y else none)
  | [] => by
    by_cases c : j = k
    · subst c; simp [valU]
    · have : ¬ k = j := fun z => c z.symm
      simp [valU, this, c]
  | p :: r => by
    rw [List.cons_append]
    by_cases e : p.1 = j
    · rw [valU_pos e, valU_pos e]; rfl
    · rw [valU_neg e, valU_neg e, valU_snoc k j y r]
theorem valU_put (kvs : List (κ × α)) (k j : κ) (y : α) : valU (putU kvs k y) j = if j = k then some y else valU kvs j := by
  unfold putU
  rw [valU_any]
  cases c : valU kvs k with
  | none =>
    rw [if_neg (by simp), valU_snoc]
    by_cases e : j = k
    · subst e; rw [c, if_pos rfl]; simp
    · rw [if_neg e, if_neg e, Option.or_none]
  | some v =>
    rw [if_pos (by simp), valU_map]
    by_cases e : j = k
    · subst e; rw [c, if_pos rfl]; simp
    · simp [e]
theorem putU_len (kvs : List (κ × α)) (k : κ) (v : α) : (putU kvs k v).length ≤ kvs.length + 1 := by
  unfold putU
  split
  · rw [List.length_map]; omega
  · rw [List.length_append]; exact Nat.le_refl _
/-- the keys in their order -/
def keysOf (kvs : List (κ × α)) : List κ := kvs.map (·.1)
theorem keys_put (kvs : List (κ × α)) (k : κ) (v : α) : keysOf (putU kvs k v) = if k ∈ keysOf kvs then keysOf kvs else keysOf kvs ++ [k] := by
  have h : (kvs.any fun kv => decide (kv.1 = k)) = decide (k ∈ keysOf kvs) := by
    unfold keysOf
    rw [Bool.eq_iff_iff, List.any_eq_true, decide_eq_true_eq, List.mem_map]
    exact ⟨fun ⟨x, h1, h2⟩ => ⟨x, h1, of_decide_eq_true h2⟩, fun ⟨x, h1, h2⟩ => ⟨x, h1, decide_eq_true h2⟩⟩
  unfold putU
  rw [h]
  by_cases c : k ∈ keysOf kvs
  · rw [if_pos (decide_eq_true c), if_pos c]
    unfold keysOf
    rw [List.map_map]
    refine List.map_congr_left fun x _ => ?_
    show (if x.1 = k then (x.1, v) else x).1 = x.1
    by_cases e : x.1 = k
    · rw [if_pos e]
    · rw [if_neg e]
  · rw [if_neg (by simpa using c), if_neg c]
    unfold keysOf
    rw [List.map_append]
    rfl
theorem val_mem {kvs : List (κ × α)} {k : κ} {v : α} (h : valU kvs k = some v) : (k, v) ∈ kvs := by
  unfold valU at h
  cases c : kvs.find? fun kv => decide (kv.1 = k) with
  | none => rw [c] at h; cases h
  | some p =>
    rw [c] at h
    cases h
    have h1 := List.find?_some c
    have h2 := List.mem_of_find?_eq_some c
    have : p.1 = k := of_decide_eq_true h1
    rw [← this]
    exact h2
theorem val_none {kvs : List (κ × α)} {k : κ} : valU kvs k = none ↔ k ∉ keysOf kvs := by
  unfold valU keysOf
  rw [Option.map_eq_none_iff, List.find?_eq_none, List.mem_map]
  refine ⟨fun h ⟨x, h1, h2⟩ => h x h1 (decide_eq_true h2), fun h x h1 h2 => h ⟨x, h1, of_decide_eq_true h2⟩⟩
theorem val_at {kvs : List (κ × α)} (nd : (keysOf kvs).Nodup) {i : Nat} {k : κ} {v : α} (h : kvs[i]? = some (k, v)) : valU kvs k = some v := by
  induction kvs generalizing i with
  | nil => simp at h
  | cons p r ih =>
    have nd' : p.1 ∉ keysOf r ∧ (keysOf r).Nodup := List.nodup_cons.mp nd
    cases i with
    | zero =>
      simp at h
      subst h
      exact valU_pos rfl
    | succ i =>
      have h' : r[i]? = some (k, v) := by simpa using h
      have : p.1 ≠ k := fun e => nd'.1 (by rw [e]; exact List.mem_map.mpr ⟨_, List.mem_of_getElem? h', rfl⟩)
      rw [valU_neg this]
      exact ih nd'.2 h'
end
def keyU : U → Option Key
  | .int i => some (.inl i)
  | .str s => some (.inr s)
  | _ => none
def uKey : Key → U
  | .inl i => .int i
  | .inr s => .str s
def keysU : List U → Option (List Key)
  | [] => some []
  | u :: us => match keyU u, keysU us with
    | some k, some ks => some (k :: ks)
    | _, _ => none
section
variable {pp : Addr} {G H : Hp}
theorem Rp.key {v : V} {u : U} {k : Key} (h : Rp pp G v u) (e : keyU u = some k) : v = kV k := by
  cases h <;> first | cases e | skip
  · rfl
  · rfl
theorem RpL.keys : ∀ {vs : List V} {us : List U} {ks : List Key}, RpL pp G vs us → keysU us = some ks → vs = ks.map kV
  | _, _, ks, .nil, e => by
    simp only [keysU, Option.some.injEq] at e
    subst e
    rfl
  | _, _, ks, .cons (u := u) (us := us) h t, e => by
    cases c : keyU u with
    | none => simp [keysU, c] at e
    | some k =>
      cases d : keysU us with
      | none => simp [keysU, c, d] at e
      | some ks' =>
        simp only [keysU, c, d, Option.some.injEq] at e
        subst e
        rw [h.key c, RpL.keys t d]
        rfl
theorem Rp.uKey (k : Key) (h : ∀ s, k = .inr s → s.length ≤ 100000) : Rp pp G (kV k) (uKey k) := by
  cases k with
  | inl i => exact .int i
  | inr s => exact .str s (h s rfl)
theorem RpD.val : ∀ {kvs : List (Key × V)} {kus : List (Key × U)}, RpD pp G kvs kus → ∀ k, (valV kvs k = none ∧ valU kus k = none) ∨ ∃ v u, valV kvs k = some v ∧ valU kus k = some u ∧ Rp pp G v u
  | _, _, .nil, k => .inl ⟨rfl, rfl⟩
  | _, _, .cons (k := j) h t, k => by
    by_cases c : j = k
    · rw [valV_pos (by exact c), valU_pos (by exact c)]
      exact .inr ⟨_, _, rfl, rfl, h⟩
    · rw [valV_neg (by exact c), valU_neg (by exact c)]
      exact RpD.val t k
theorem RpT.val : ∀ {kvs : List (List Key × V)} {kus : List (List Key × U)}, RpT pp G kvs kus → ∀ k, (valV kvs k = none ∧ valU kus k = none) ∨ ∃ v u, valV kvs k = some v ∧ valU kus k = some u ∧ Rp pp G v u
  | _, _, .nil, k => .inl ⟨rfl, rfl⟩
  | _, _, .cons (k := j) h t, k => by
    by_cases c : j = k
    · rw [valV_pos (by exact c), valU_pos (by exact c)]
      exact .inr ⟨_, _, rfl, rfl, h⟩
    · rw [valV_neg (by exact c), valU_neg (by exact c)]
      exact RpT.val t k
theorem RpD.any : ∀ {kvs : List (Key × V)} {kus : List (Key × U)}, RpD pp G kvs kus → ∀ k, (kvs.any fun kv => decide (kv.1 = k)) = kus.any fun kv => decide (kv.1 = k)
  | _, _, .nil, k => rfl
  | _, _, .cons h t, k => by rw [List.any_cons, List.any_cons, RpD.any t k]
theorem RpD.map {v : V} {u : U} (h : Rp pp G v u) (k : Key) : ∀ {kvs : List (Key × V)} {kus : List (Key × U)}, RpD pp G kvs kus → RpD pp G (kvs.map fun kv => if kv.1 = k then (kv.1, v) else kv) (kus.map fun kv => if kv.1 = k then (kv.1, u) else kv)
  | _, _, .nil => .nil
  | _, _, .cons (k := j) r t => by
    rw [List.map_cons, List.map_cons]
    by_cases c : j = k
    · rw [if_pos (by exact c), if_pos (by exact c)]
      exact .cons h (RpD.map h k t)
    · rw [if_neg (by exact c), if_neg (by exact c)]
      exact .cons r (RpD.map h k t)
theorem RpD.snoc {k : Key} {v : V} {u : U} (h : Rp pp G v u) : ∀ {kvs : List (Key × V)} {kus : List (Key × U)}, RpD pp G kvs kus → RpD pp G (kvs ++ [(k, v)]) (kus ++ [(k, u)])
  | _, _, .nil => .cons h .nil
  | _, _, .cons r t => .cons r (RpD.snoc h t)
theorem RpD.put {k : Key} {v : V} {u : U} (h : Rp pp G v u) {kvs : List (Key × V)} {kus : List (Key × U)} (r : RpD pp G kvs kus) : RpD pp G (putK kvs k v) (putU kus k u) := by
  unfold putK putU
  rw [r.any k]
  by_cases c : (kus.any fun kv => decide (kv.1 = k)) = true
  · rw [if_pos c, if_pos c]
    exact r.map h k
  · rw [if_neg c, if_neg c]
    exact r.snoc h
theorem RpT.any : ∀ {kvs : List (List Key × V)} {kus : List (List Key × U)}, RpT pp G kvs kus → ∀ k, (kvs.any fun kv => decide (kv.1 = k)) = kus.any fun kv => decide (kv.1 = k)
  | _, _, .nil, k => rfl
  | _, _, .cons h t, k => by rw [List.any_cons, List.any_cons, RpT.any t k]
theorem RpT.map {v : V} {u : U} (h : Rp pp G v u) (k : List Key) : ∀ {kvs : List (List Key × V)} {kus : List (List Key × U)}, RpT pp G kvs kus → RpT pp G (kvs.map fun kv => if kv.1 = k then (kv.1, v) else kv) (kus.map fun kv => if kv.1 = k then (kv.1, u) else kv)
  | _, _, .nil => .nil
  | _, _, .cons (k := j) r t => by
    rw [List.map_cons, List.map_cons]
    by_cases c : j = k
    · rw [if_pos (by exact c), if_pos (by exact c)]
      exact .cons h (RpT.map h k t)
    · rw [if_neg (by exact c), if_neg (by exact c)]
      exact .cons r (RpT.map h k t)
theorem RpT.snoc {k : List Key} {v : V} {u : U} (h : Rp pp G v u) : ∀ {kvs : List (List Key × V)} {kus : List (List Key × U)}, RpT pp G kvs kus → RpT pp G (kvs ++ [(k, v)]) (kus ++ [(k, u)])
  | _, _, .nil => .cons h .nil
  | _, _, .cons r t => .cons r (RpT.snoc h t)
theorem RpT.put {k : List Key} {v : V} {u : U} (h : Rp pp G v u) {kvs : List (List Key × V)} {kus : List (List Key × U)} (r : RpT pp G kvs kus) : RpT pp G (putK kvs k v) (putU kus k u) := by
  unfold putK putU
  rw [r.any k]
  by_cases c : (kus.any fun kv => decide (kv.1 = k)) = true
  · rw [if_pos c, if_pos c]
    exact r.map h k
  · rw [if_neg c, if_neg c]
    exact r.snoc h
theorem RpD.get : ∀ {kvs : List (Key × V)} {kus : List (Key × U)} {i : Nat} {k : Key} {v : V}, RpD pp G kvs kus → kvs[i]? = some (k, v) → ∃ u, kus[i]? = some (k, u) ∧ Rp pp G v u
  | _, _, _, _, _, .nil, h => by simp at h
  | _, _, 0, _, _, .cons h _, e => by
    simp at e
    obtain ⟨rfl, rfl⟩ := e
    exact ⟨_, rfl, h⟩
  | _, _, i + 1, _, _, .cons _ t, e => by
    obtain ⟨u, h1, h2⟩ := RpD.get (i := i) t (by simpa using e)
    exact ⟨u, by simpa using h1, h2⟩
end
/-- d looked up at y: none where it is no key of such a dict -/
def lookU : U → U → Option (Option U)
  | .dic kus, y => (keyU y).map (valU kus)
  | .dit kus, .tup us => (keysU us).map (valU kus)
  | _, _ => none
theorem look_get {pp : Addr} {G H : Hp} (w : Vw G H) {v1 v2 : V} {x y : U} {o : Option U} (h1 : Bp pp G H v1 x) (h2 : Rp pp G v2 y) (e : lookU x y = some o) : ∃ a r, v1 = .ref a ∧ IsD H a ∧ DGet H a v2 r ∧ ((r = none ∧ o = none) ∨ ∃ v u, r = some v ∧ o = some u ∧ Rp pp G v u) := by
  cases h1 <;> first | cases e | skip
  · rename_i a kvs kus h k z
    have e' : (keyU y).map (valU kus) = some o := e
    cases c : keyU y with
    | none => rw [c] at e'; cases e'
    | some kk =>
      rw [c] at e'
      cases e'
      refine ⟨a, _, rfl, .inl ⟨_, h⟩, .inl ⟨kvs, kk, h, h2.key c, rfl⟩, ?_⟩
      rcases k.val kk with ⟨q1, q2⟩ | ⟨v, u, q1, q2, r⟩
      · exact .inl ⟨q1, q2⟩
      · exact .inr ⟨v, u, q1, q2, r⟩
  · rename_i a kvs kus h k z
    cases h2 <;> first | cases e | skip
    rename_i b vs us hh kk z2
    have e' : (keysU us).map (valU kus) = some o := e
    cases c : keysU us with
    | none => rw [c] at e'; cases e'
    | some ks =>
      rw [c] at e'
      cases e'
      refine ⟨a, _, rfl, .inr ⟨_, h⟩, .inr ⟨kvs, ks, b, h, rfl, by rw [w.tup hh, kk.keys c], rfl⟩, ?_⟩
      rcases k.val ks with ⟨q1, q2⟩ | ⟨v, u, q1, q2, r⟩
      · exact .inl ⟨q1, q2⟩
      · exact .inr ⟨v, u, q1, q2, r⟩
section
variable {Z : Zc} {ta tb tc : TE} {wa wb wc : WE}
def wDGet (wa wb : WE) : WE := fun ρ post => wa ρ fun x => wb ρ fun y => ∃ u, lookU x y = some (some u) ∧ post u
theorem v_dget (ha : TrB Z ta wa) (hb : TrE Z tb wb) : TrE Z (tDGet ta tb) (wDGet wa wb) := fun σ ρ G H post Q S hw q =>
  ha σ ρ G H _ _ S hw fun v1 x G1 H1 w1 g1 b1 => hb σ ρ G1 H1 _ _ (S.step g1) w1 fun v2 y G2 H2 w2 g2 r2 => by
    obtain ⟨u, e, p⟩ := w2
    have S1 := S.step g1
    have S2 := S1.step g2
    obtain ⟨a, r, rfl, _, dg, c⟩ := look_get S2.vw (b1.step g2 S1.vw S1.pl) r2 e
    rcases c with ⟨_, z⟩ | ⟨v, u', rfl, z, r⟩
    · cases z
    · cases z
      exact ⟨a, v, rfl, dg, q v u G2 H2 p (g1.trans g2) r⟩
def isDic : U → Prop
  | .dic _ => True
  | .dit _ => True
  | _ => False
theorem isDic_bp {pp : Addr} {G H : Hp} {v : V} {x : U} (h : isDic x) (b : Bp pp G H v x) : ∃ a, v = .ref a ∧ IsD H a := by
  cases b <;> first | exact h.elim | skip
  · rename_i a kvs kus hh k z
    exact ⟨a, rfl, .inl ⟨_, hh⟩⟩
  · rename_i a kvs kus hh k z
    exact ⟨a, rfl, .inr ⟨_, hh⟩⟩
def wDGet2 (wa wb wc : WE) : WE := fun ρ post => wa ρ fun x => isDic x ∧ wb ρ fun y => wc ρ fun z => ∃ o, lookU x y = some o ∧ post (o.getD z)
theorem v_dget2 (ha : TrB Z ta wa) (hb : TrE Z tb wb) (hc : TrE Z tc wc) : TrE Z (tDGet2 ta tb tc) (wDGet2 wa wb wc) := fun σ ρ G H post Q S hw q =>
  ha σ ρ G H _ _ S hw fun v1 x G1 H1 w1 g1 b1 => by
    have S1 := S.step g1
    obtain ⟨d, w1⟩ := w1
    obtain ⟨a, rfl, isd⟩ := isDic_bp d b1
    refine ⟨a, rfl, isd, hb σ ρ G1 H1 _ _ S1 w1 fun v2 y G2 H2 w2 g2 r2 => hc σ ρ G2 H2 _ _ (S1.step g2) w2 fun v3 z G3 H3 w3 g3 r3 => ?_⟩
    obtain ⟨o, e, p⟩ := w3
    have S2 := S1.step g2
    have S3 := S2.step g3
    obtain ⟨a', r, ea, _, dg, c⟩ := look_get S3.vw ((b1.step g2 S1.vw S1.pl).step g3 S2.vw S2.pl) (r2.same g3.gg) e
    cases ea
    refine ⟨r, dg, ?_⟩
    rcases c with ⟨rfl, rfl⟩ | ⟨v, u', rfl, rfl, r⟩
    · exact q _ _ G3 H3 p ((g1.trans g2).trans g3) r3
    · exact q _ _ G3 H3 p ((g1.trans g2).trans g3) r
def wDGet1 (wa wb : WE) : WE := fun ρ post => wa ρ fun x => isDic x ∧ wb ρ fun y => ∃ o, lookU x y = some o ∧ post (o.getD .non)
theorem v_dget1 (ha : TrB Z ta wa) (hb : TrE Z tb wb) : TrE Z (tDGet1 ta tb) (wDGet1 wa wb) := fun σ ρ G H post Q S hw q =>
  ha σ ρ G H _ _ S hw fun v1 x G1 H1 w1 g1 b1 => by
    have S1 := S.step g1
    obtain ⟨d, w1⟩ := w1
    obtain ⟨a, rfl, isd⟩ := isDic_bp d b1
    refine ⟨a, rfl, isd, hb σ ρ G1 H1 _ _ S1 w1 fun v2 y G2 H2 w2 g2 r2 => ?_⟩
    obtain ⟨o, e, p⟩ := w2
    have S2 := S1.step g2
    obtain ⟨a', r, ea, _, dg, c⟩ := look_get S2.vw (b1.step g2 S1.vw S1.pl) r2 e
    cases ea
    refine ⟨r, dg, ?_⟩
    rcases c with ⟨rfl, rfl⟩ | ⟨v, u', rfl, rfl, r⟩
    · exact q _ _ G2 H2 p (g1.trans g2) .non
    · exact q _ _ G2 H2 p (g1.trans g2) r
/-- k in d -/
def wDIn (wb wa : WE) : WE := fun ρ post => wb ρ fun y => wa ρ fun x => ∃ o, lookU x y = some o ∧ post (.bl o.isSome)
def wDNotIn (wb wa : WE) : WE := fun ρ post => wb ρ fun y => wa ρ fun x => ∃ o, lookU x y = some o ∧ post (.bl (!o.isSome))
theorem v_din (hb : TrE Z tb wb) (ha : TrB Z ta wa) : TrE Z (tDIn tb ta) (wDIn wb wa) := fun σ ρ G H post Q S hw q =>
  hb σ ρ G H _ _ S hw fun v2 y G1 H1 w1 g1 r1 => ha σ ρ G1 H1 _ _ (S.step g1) w1 fun v1 x G2 H2 w2 g2 b2 => by
    obtain ⟨o, e, p⟩ := w2
    obtain ⟨a, r, rfl, _, dg, c⟩ := look_get ((S.step g1).step g2).vw b2 (r1.same g2.gg) e
    refine ⟨a, r, rfl, dg, ?_⟩
    rcases c with ⟨rfl, rfl⟩ | ⟨v, u', rfl, rfl, r⟩
    · exact q _ _ G2 H2 p (g1.trans g2) (.bl _)
    · exact q _ _ G2 H2 p (g1.trans g2) (.bl _)
theorem v_dnotin (hb : TrE Z tb wb) (ha : TrB Z ta wa) : TrE Z (tDNotIn tb ta) (wDNotIn wb wa) := fun σ ρ G H post Q S hw q =>
  hb σ ρ G H _ _ S hw fun v2 y G1 H1 w1 g1 r1 => ha σ ρ G1 H1 _ _ (S.step g1) w1 fun v1 x G2 H2 w2 g2 b2 => by
    obtain ⟨o, e, p⟩ := w2
    obtain ⟨a, r, rfl, _, dg, c⟩ := look_get ((S.step g1).step g2).vw b2 (r1.same g2.gg) e
    refine ⟨a, r, rfl, dg, ?_⟩
    rcases c with ⟨rfl, rfl⟩ | ⟨v, u', rfl, rfl, r⟩
    · exact q _ _ G2 H2 p (g1.trans g2) (.bl _)
    · exact q _ _ G2 H2 p (g1.trans g2) (.bl _)
/-! ### new dicts, d[k] = v -/
theorem v_dnew : TrF Z tDNewK (wC (.dic [])) := fun σ ρ G H post Q S hw q p np => q p _ _ G _ hw (Gr.newH S.vw S.pl np) np (S.vw.free np) upd_same (.dic .nil (Nat.zero_le _))
theorem v_dnewT : TrF Z tDNewT (wC (.dit [])) := fun σ ρ G H post Q S hw q p np => q p _ _ G _ hw (Gr.newH S.vw S.pl np) np (S.vw.free np) upd_same (.dit .nil (Nat.zero_le _))
def wDPut (i : Nat) (wk we : WE) : WS := fun V ρ => ∃ d, ρ[i]? = some (.ow d) ∧ isDic d ∧ we ρ fun u => wk ρ fun y =>
  (∃ kus k, d = .dic kus ∧ keyU y = some k ∧ kus.length < 100000 ∧ V.nx (ρ.set i (.ow (.dic (putU kus k u))))) ∨ ∃ kus us ks, d = .dit kus ∧ y = .tup us ∧ keysU us = some ks ∧ kus.length < 100000 ∧ V.nx (ρ.set i (.ow (.dit (putU kus ks u))))
theorem s_dput {i : Nat} {tk te : TE} {wk we : WE} (h : TrE Z te we) (hk : TrE Z tk wk) : TrS Z (tAsg te (gSub (tVar i) tk rSetD)) (wDPut i wk we) := fun V D σ ρ G H S hw B => by
  obtain ⟨d, e, _, p⟩ := hw
  obtain ⟨a, o, e1, _⟩ := S.ow i _ e
  refine h σ ρ G H _ _ S p fun v u G1 H1 p1 g1 r1 => ⟨_, e1, hk σ ρ G1 H1 _ _ (S.step g1) p1 fun kv y G2 H2 p2 g2 r2 => ?_⟩
  have S2 := (S.step g1).step g2
  obtain ⟨a', o', e1', h1, ga, z1, ho⟩ := S2.ow i _ e
  rw [e1] at e1'
  cases e1'
  rcases p2 with ⟨kus, k, rfl, ek, l, p3⟩ | ⟨kus, us, ks, rfl, rfl, ek, l, p3⟩
  · cases ho with
    | dic kk z =>
      rename_i kvs
      refine ⟨a, _, rfl, .inl ⟨kvs, k, h1, r2.key ek, lineN (by rw [kk.length]; omega), rfl⟩, ?_⟩
      exact B.nx _ _ G2 _ (S2.put e e1 (.dic (kk.put (r1.same g2.gg)) (Nat.le_trans (putU_len _ _ _) l))) ((g1.ex.trans g2.ex).trans (ow_ex S2 e e1)) p3
  · cases ho with
    | dit kk z =>
      rename_i kvs
      cases r2 with
      | tup hh kl zl =>
        refine ⟨a, _, rfl, .inr ⟨kvs, ks, _, h1, rfl, by rw [S2.vw.tup hh, kl.keys ek], lineN (by rw [kk.length]; omega), rfl⟩, ?_⟩
        exact B.nx _ _ G2 _ (S2.put e e1 (.dit (kk.put (r1.same g2.gg)) (Nat.le_trans (putU_len _ _ _) l))) ((g1.ex.trans g2.ex).trans (ow_ex S2 e e1)) p3
/-! ### {k: v, ..} -/
abbrev WP := List Cell → (List (Key × U) → Prop) → Prop
def TrP (Z : Zc) (trs : List (TE × TE)) (w : WP) : Prop := ∀ σ ρ G H (post : List (Key × U) → Prop) (Q : List (V × V) → Hp → Prop), Sv Z σ ρ G H → w ρ post → (∀ kvs kus G' H', post kus → Z.gr G H G' H' → RpD Z.pp G' kvs kus → Q (kvs.map fun kv => (kV kv.1, kv.2)) H') → tPairs trs σ H Q
def wPNil : WP := fun _ post => post []
def wPCons (wk wv : WE) (wr : WP) : WP := fun ρ post => wk ρ fun y => wv ρ fun u => wr ρ fun kus => ∃ k, keyU y = some k ∧ post ((k, u) :: kus)
theorem v_pnil : TrP Z [] wPNil := fun σ ρ G H post Q S hw q => q [] [] G H hw (Gr.refl S.vw S.pl) .nil
theorem v_pcons {tk tv : TE} {wk wv : WE} {trs : List (TE × TE)} {wr : WP} (hk : TrE Z tk wk) (hv : TrE Z tv wv) (hr : TrP Z trs wr) : TrP Z ((tk, tv) :: trs) (wPCons wk wv wr) := fun σ ρ G H post Q S hw q =>
  hk σ ρ G H _ _ S hw fun kv y G1 H1 w1 g1 r1 => hv σ ρ G1 H1 _ _ (S.step g1) w1 fun v u G2 H2 w2 g2 r2 => hr σ ρ G2 H2 _ _ ((S.step g1).step g2) w2 fun kvs kus G3 H3 w3 g3 r3 => by
    obtain ⟨k, ek, p⟩ := w3
    rw [r1.key ek]
    exact q ((k, v) :: kvs) _ G3 H3 p ((g1.trans g2).trans g3) (.cons (r2.same g3.gg) r3)
def mergeU (kus more : List (Key × U)) : List (Key × U) := more.foldl (fun acc kv => putU acc kv.1 kv.2) kus
theorem RpD.merge {pp : Addr} {G : Hp} : ∀ {more : List (Key × V)} {mus : List (Key × U)}, RpD pp G more mus → ∀ {kvs : List (Key × V)} {kus : List (Key × U)}, RpD pp G kvs kus → RpD pp G (mergeK kvs more) (mergeU kus mus)
  | _, _, .nil, _, _, r => r
  | _, _, .cons h t, _, _, r => RpD.merge t (r.put h)
theorem mergeU_len : ∀ (more kus : List (Key × U)), (mergeU kus more).length ≤ kus.length + more.length
  | [], kus => Nat.le_refl _
  | p :: r, kus => by
    have h1 := mergeU_len r (putU kus p.1 p.2)
    have h2 := putU_len kus p.1 p.2
    show (mergeU (putU kus p.1 p.2) r).length ≤ kus.length + (r.length + 1)
    omega
def wDisp (wp : WP) : WE := fun ρ post => wp ρ fun kus => kus.length ≤ 15 ∧ post (.dic (mergeU [] kus))
theorem v_disp {trs : List (TE × TE)} {wp : WP} (h : TrP Z trs wp) : TrF Z (tDisp trs) (wDisp wp) := fun σ ρ G H post Q S hw q p np => by
  have gN := Gr.newH (b := Z.b) (o := .dK []) S.vw S.pl np
  have S1 := S.step gN
  refine h σ ρ G _ _ _ S1 hw fun kvs kus G2 H2 w2 g2 r2 => ?_
  have nDp : Off Z.b Z.pp p := off_none S.pl np
  obtain ⟨gp, hp⟩ := g2.fr p _ nDp upd_same (S.vw.free np) rfl
  refine ⟨hp, kvs, rfl, by rw [r2.length]; exact w2.1, ?_⟩
  refine q p _ _ G2 _ w2.2 ?_ np gp upd_same (.dic (r2.merge .nil) ?_)
  · exact gr_own (gN.trans g2) S.vw S.pl np gp _ (.inr (dic_no hp))
  · have := mergeU_len kus []
    have := w2.1
    show (mergeU [] kus).length ≤ 100000
    simp only [List.length_nil] at *
    omega
/-! ### {k: v for ..} -/
def wDc (wi : WA) (wg : WG) (wt : WT) (wk wv : WE) (vs : List Nat) : WE := fun ρ post => wi ρ fun us => ∃ Iv : Nat → List (Key × U) → Prop, Iv 0 [] ∧
  (∀ (i : Nat) u acc, us[i]? = some u → Iv i acc → wg u (wipeR ρ vs) fun ρ2 => wt ρ2 fun c => if c = true then wk ρ2 fun y => wv ρ2 fun z => ∃ k, keyU y = some k ∧ Iv (i + 1) (putU acc k z) else Iv (i + 1) acc) ∧ ∀ acc, Iv us.length acc → post (.dic acc)
theorem dc_at {ti : TI} {g : TG} {tt : TT} {tk tv : TE} {wi : WA} {wg : WG} {wt : WT} {wk wv : WE} {vs : List Nat} (hg : TrG Z g wg vs) (ht : TrT Z tt wt) (hk : TrE Z tk wk) (he : TrE Z tv wv) (h0 : ∀ v ∈ vs, Z.may v) {σ : L2.St} {ρ : List Cell} {G H : Hp} {post : U → Prop} {Q : VK} (S : Sv Z σ ρ G H) (hi : TrIat Z σ ρ G H ti wi) (hw : wDc wi wg wt wk wv vs ρ post)
    (q : ∀ p o u G' H', post u → Z.gr G H G' H' → H p = none → G' p = none → H' p = some o → Ow Z.pp G' o u → Q (.ref p) H') : tDc ti g tt tk tv vs σ H Q :=
  hi _ _ hw fun J n Gd Y us G1 H1 p g1 hl hz wk' hG hY D nD => by
    obtain ⟨Iv, i0, is, ie⟩ := p
    have S1 := S.step g1
    have gN := Gr.newH (b := Z.b) (o := .dK []) S1.vw S1.pl nD
    refine dc_it wk' (fun i H' => ∃ G' acc us', Z.gr G1 H1 G' H' ∧ H' D = some (.dK acc) ∧ G' D = none ∧ RpD Z.pp G' acc us' ∧ us'.length ≤ i ∧ Iv i us') ⟨G1, [], [], gN, upd_same, S1.vw.free nD, .nil, Nat.zero_le _, i0⟩ (fun i H' _ ⟨G', acc, us', g', _⟩ => hG G' H' g'.ex g'.vw) (fun i x H' H'' hlt ⟨G', acc, us', g', eD, gD, kA, lA, iv⟩ y => ?_) (fun H' ⟨G', acc, us', g', eD, gD, kA, lA, iv⟩ => ?_)
    · have S' := S1.step g'
      obtain ⟨u, G'', eu, g2, r⟩ := hY i x G' H' H'' hlt g'.ex S'.vw S'.pl y
      have Sw := (S'.step g2).wipe vs h0
      have nDp : Off Z.b Z.pp D := off_none S1.pl nD
      refine hg x u _ _ G'' H'' _ _ Sw r (is i u us' eu iv) fun σ2 ρ2 S3 ew p2 => ⟨ew.trans ?_, ?_⟩
      · refine List.ext_getElem? fun j => ?_
        rw [wipe_at, wipe_at, wipe_length]
        by_cases m : j ∈ vs
        · rw [if_pos m, if_pos m]
        · rw [if_neg m, if_neg m]
      refine ht σ2 ρ2 G'' H'' _ _ S3 p2 fun c G3 H3 p3 g3 => ?_
      obtain ⟨gD2, eD2⟩ := g2.fr D _ nDp eD gD rfl
      obtain ⟨gD3, eD3⟩ := g3.fr D _ nDp eD2 gD2 rfl
      cases c with
      | false => exact iteF ⟨G3, acc, us', (g'.trans g2).trans g3, eD3, gD3, (kA.same g2.gg).same g3.gg, Nat.le_succ_of_le lA, p3⟩
      | true =>
        refine iteT (hk σ2 ρ2 G3 H3 _ _ (S3.step g3) p3 fun kv ky G4 H4 p4 g4 r4 => he σ2 ρ2 G4 H4 _ _ ((S3.step g3).step g4) p4 fun v yv G5 H5 p5 g5 r5 => ?_)
        obtain ⟨k, ek, p6⟩ := p5
        obtain ⟨gD4, eD4⟩ := g4.fr D _ nDp eD3 gD3 rfl
        obtain ⟨gD5, eD5⟩ := g5.fr D _ nDp eD4 gD4 rfl
        have kA5 := (((kA.same g2.gg).same g3.gg).same g4.gg).same g5.gg
        refine ⟨acc, k, r4.key ek, eD5, lineN (by rw [kA5.length]; omega), G5, putK acc k v, putU us' k yv, gr_own ((((g'.trans g2).trans g3).trans g4).trans g5) S1.vw S1.pl nD gD5 _ (.inr (dic_no eD5)), upd_same, gD5, kA5.put r5, Nat.le_trans (putU_len _ _ _) (Nat.succ_le_succ lA), p6⟩
    · rw [← hl] at iv
      exact q D _ _ G' H' (ie us' iv) (g1.trans g') (free_back S g1 nD) gD eD (.dic kA (Nat.le_trans lA (by omega)))
theorem v_dc {ti : TI} {g : TG} {tt : TT} {tk tv : TE} {wi : WA} {wg : WG} {wt : WT} {wk wv : WE} {vs : List Nat} (hi : TrI Z ti wi) (hg : TrG Z g wg vs) (ht : TrT Z tt wt) (hk : TrE Z tk wk) (he : TrE Z tv wv) (h0 : ∀ v ∈ vs, Z.may v := by exact Zc.mayL_of (by assumption) (by decide)) : TrF Z (tDc ti g tt tk tv vs) (wDc wi wg wt wk wv vs) := fun σ ρ G H post Q S hw q => dc_at hg ht hk he h0 S (hi σ ρ G H S) hw q
/-! ### a dict walked by its keys -/
theorem isD_no {u : HO} (i : isD u = true) : (∀ ps, u ≠ .tbl ps) ∧ ∀ φ, u ≠ .ext φ := by
  cases u with
  | dK k => exact ⟨(fun _ z => nomatch z), (fun _ z => nomatch z)⟩
  | dT k => exact ⟨(fun _ z => nomatch z), (fun _ z => nomatch z)⟩
  | _ => cases i
theorem gr_lock {b : PT} {pp q : Addr} {G0 H0 G H : Hp} (g : Gr b pp q G0 H0 G H) {d : Addr} {u : HO} {od : Obj} (hd : G d = some u) (iu : isD u = true) (hu : H d = some u) : Gr b pp q G0 H0 G (upd H d (.frz od u)) := by
  have ne : ∀ {a : Addr}, G a = none → a ≠ d := fun {a} n e => by rw [e, hd] at n; cases n
  refine ⟨⟨g.gg, fun a o e => ?_, fun a o n e g' => ?_, g.pl.put (fun x e => by rw [hu] at e; cases e; exact isD_no iu) (fun z => let ⟨_, n1, _⟩ := g.pl.1 z; ne n1) (fun z => let ⟨_, _, n2⟩ := g.pl.1 z; ne n2)⟩, fun a o e => ?_⟩
  · by_cases c : a = d
    · subst c
      rw [hd] at e
      cases e
      exact .inr ⟨iu, od, upd_same⟩
    · rw [upd_ne c]
      exact g.vw a o e
  · obtain ⟨z1, z2⟩ := g.fr0 a o n e g'
    have ne2 : a ≠ d := fun ea => by
      subst ea
      cases q : isTp o with
      | false => rw [z1 q] at hd; cases hd
      | true =>
        rcases g.vw a u hd with k | ⟨_, ob, k⟩
        · rw [z2] at k
          cases k
          cases u <;> first | (cases iu; done) | (cases q; done)
        · rw [z2] at k
          cases k
          cases q
    exact ⟨z1, by rw [upd_ne ne2]; exact z2⟩
  · by_cases c : a = d
    · subst c
      have e2 := g.gg _ _ e
      rw [hd] at e2
      cases e2
      rcases g.ge a _ e with k | ⟨_, _, ob, k⟩
      · exact .inr ⟨k.symm.trans hu, iu, od, upd_same⟩
      · rw [hu] at k
        cases k
    · have := g.ge a o e
      unfold Lk at this ⊢
      rw [upd_ne c]
      exact this
theorem Sv.lock {σ : L2.St} {ρ : List Cell} {G H : Hp} (S : Sv Z σ ρ G H) {d : Addr} {u : HO} {od : Obj} (hd : G d = some u) (iu : isD u = true) (hu : H d = some u) : Sv Z σ ρ G (upd H d (.frz od u)) := by
  have ne : ∀ {a : Addr}, G a = none → a ≠ d := fun {a} n e => by rw [e, hd] at n; cases n
  refine ⟨gr_lock S.gr hd iu hu, S.w0, S.p0, S.ex, S.ln, S.fz, fun i w e => ?_, S.me, S.pn, S.dis⟩
  obtain ⟨a, o, h1, h2, h3, h4, h5⟩ := S.ow i w e
  exact ⟨a, o, h1, by rw [upd_ne (ne h3)]; exact h2, h3, h4, h5⟩
/-- the lock is taken away again: H1 was there ahead of it -/
theorem gr_unlock {b : PT} {pp q : Addr} {G0 H0 G1 H1 G H : Hp} (g0 : Gr b pp q G0 H0 G1 H1) (g : Gr b pp q G0 H0 G H) {d : Addr} {u : HO} (hd : G d = some u) (hd1 : G1 d = some u) (iu : isD u = true) (hu : H1 d = some u) : Gr b pp q G0 H0 G (upd H d u) := by
  have ne : ∀ {a : Addr}, G a = none → a ≠ d := fun {a} n e => by rw [e, hd] at n; cases n
  refine ⟨⟨g.gg, fun a o e => ?_, fun a o n e g' => ?_, g.pl.put (fun x e => by
    rcases g.vw d u hd with k | ⟨_, ob, k⟩
    · rw [k] at e; cases e; exact isD_no iu
    · rw [k] at e; cases e; exact ⟨(fun _ z => nomatch z), (fun _ z => nomatch z)⟩) (fun z => let ⟨_, n1, _⟩ := g.pl.1 z; ne n1) (fun z => let ⟨_, _, n2⟩ := g.pl.1 z; ne n2)⟩, fun a o e => ?_⟩
  · by_cases c : a = d
    · subst c
      rw [hd] at e
      cases e
      exact .inl upd_same
    · rw [upd_ne c]
      exact g.vw a o e
  · obtain ⟨z1, z2⟩ := g.fr0 a o n e g'
    have ne2 : a ≠ d := fun ea => by
      subst ea
      cases q : isTp o with
      | false => rw [z1 q] at hd; cases hd
      | true =>
        rcases g.vw a u hd with k | ⟨_, ob, k⟩
        · rw [z2] at k
          cases k
          cases u <;> first | (cases iu; done) | (cases q; done)
        · rw [z2] at k
          cases k
          cases q
    exact ⟨z1, by rw [upd_ne ne2]; exact z2⟩
  · by_cases c : a = d
    · subst c
      rcases g0.ge a o e with k | ⟨_, _, ob, k⟩
      · exact .inl (upd_same.trans (hu.symm.trans k))
      · rw [hu] at k
        cases k
        cases iu
    · have := g.ge a o e
      unfold Lk at this ⊢
      rw [upd_ne c]
      exact this
theorem Sv.unlock {σ σ1 : L2.St} {ρ ρ1 : List Cell} {G H G1 H1 : Hp} (S1 : Sv Z σ1 ρ1 G1 H1) (S : Sv Z σ ρ G H) {d : Addr} {u : HO} (hd : G d = some u) (hd1 : G1 d = some u) (iu : isD u = true) (hu : H1 d = some u) : Sv Z σ ρ G (upd H d u) := by
  have ne : ∀ {a : Addr}, G a = none → a ≠ d := fun {a} n e => by rw [e, hd] at n; cases n
  refine ⟨gr_unlock S1.gr S.gr hd hd1 iu hu, S.w0, S.p0, S.ex, S.ln, S.fz, fun i w e => ?_, S.me, S.pn, S.dis⟩
  obtain ⟨a, o, h1, h2, h3, h4, h5⟩ := S.ow i w e
  exact ⟨a, o, h1, by rw [upd_ne (ne h3)]; exact h2, h3, h4, h5⟩
theorem ex_unlock {G H G' H' : Hp} {d : Addr} {u : HO} {od : Obj} (hd : G d = some u) (hu : H d = some u) (x : Ex G (upd H d (.frz od u)) G' H') : H' d = some (.frz od u) ∧ Ex G H G' (upd H' d u) := by
  refine ⟨?_, x.gg, fun a o e => ?_⟩
  · rcases x.ge d u hd with k | ⟨k, iu, _⟩
    · exact k.trans upd_same
    · rw [upd_same] at k
      cases k
  by_cases c : a = d
  · subst c
    exact .inl (upd_same.trans hu.symm)
  · have := x.ge a o e
    unfold Lk at this ⊢
    rw [upd_ne c] at this
    rw [upd_ne c]
    exact this
/-- a lock that was there stays -/
theorem ex_locked {G H G' H' : Hp} {d : Addr} {u : HO} {ob : Obj} (hd : G d = some u) (hl : H d = some (.frz ob u)) (x : Ex G H G' H') : H' d = some (.frz ob u) := by
  rcases x.ge d u hd with k | ⟨k, iu, _⟩
  · exact k.trans hl
  · rw [hl] at k
    cases k
def tLockU (t : TS) : TS := fun D σ H => tLock t D σ H ∨ t D σ H
theorem ps_lockU {X : Cx} {st : Stmt} {t : TS} (h : PS X st t) : PS X st (tLockU t) := by
  refine ⟨fun pins s σ H D I hw => ?_⟩
  rcases hw with hw | hw
  · exact (ps_lock h).run pins s σ H D I hw
  · exact h.run pins s σ H D I hw
def tLockEU (t : TE) : TE := fun σ H Q => tLockE t σ H Q ∨ t σ H Q
theorem pe_lockU {X : Cx} {e : Expr} {t : TE} (h : PE X e t) : PE X e (tLockEU t) := by
  refine ⟨fun pins s σ H Q I hw => ?_⟩
  rcases hw with hw | hw
  · exact (pe_lock h).run pins s σ H Q I hw
  · exact h.run pins s σ H Q I hw
def wKeys (i : Nat) : WA := fun ρ post => ∃ kus, ρ[i]? = some (.fz (.dic kus)) ∧ (∀ s, Sum.inr s ∈ keysOf kus → s.length ≤ 100000) ∧ post ((keysOf kus).map uKey)
theorem i_keys_at {i : Nat} {σ : L2.St} {ρ : List Cell} {G H : Hp} (S : Sv Z σ ρ G H) (lk : ∀ d kvs, σ[i]? = some (some (.ref d)) → G d = some (.dK kvs) → ∃ ob, H d = some (.frz ob (.dK kvs))) : TrIat Z σ ρ G H (iKeys (tVar i)) (wKeys i) := fun post R hw q => by
  obtain ⟨kus, e, hs, p⟩ := hw
  obtain ⟨v, e1, r⟩ := S.fz i _ e
  cases r with
  | @dic d kvs _ hd k z =>
    obtain ⟨ob, hl⟩ := lk d kvs e1 hd
    refine ⟨_, e1, d, ob, rfl, .inl ⟨kvs, hl, q _ _ _ _ _ G H p (Gr.refl S.vw S.pl) (by rw [List.length_map]; unfold keysOf; rw [List.length_map, k.length]) (by rw [k.length]; exact z) walk_keys (fun G' H' x _ => ex_locked hd hl x) fun j x G' H' H'' hj x' w' pl y => ?_⟩⟩
    obtain ⟨rfl, kk, vv, ek, rfl⟩ := y
    obtain ⟨u, eu, _⟩ := k.get ek
    have ej : (keysOf kus)[j]? = some kk := by unfold keysOf; rw [List.getElem?_map, eu]; rfl
    refine ⟨uKey kk, G', by rw [List.getElem?_map, ej]; rfl, Gr.refl w' pl, Rp.uKey kk fun s es => hs s (es ▸ List.mem_of_getElem? ej)⟩
theorem s_keys {i : Nat} {g : TG} {tb : TS} {wg : WG} {wb : WS} {vs : List Nat} (hg : TrG Z g wg vs) (hb : TrS Z tb wb) : TrS Z (tLockU (tFor (iKeys (tVar i)) g tb)) (wFor (wKeys i) wg wb) := fun V D σ ρ G H S hw B => by
  have hw' := hw
  obtain ⟨kus, e, _⟩ := hw
  obtain ⟨v, e1, r⟩ := S.fz i _ e
  cases r with
  | @dic d kvs _ hd k z =>
    rcases S.vw d _ hd with h | ⟨_, ob, h⟩
    · refine .inl ⟨d, .dK kvs, h, trivial, fun od => ?_⟩
      have SL := S.lock (od := od) hd rfl h
      refine for_at hg hb SL (i_keys_at SL fun d' kvs' e2 hd' => ?_) hw' ⟨fun σ' ρ' G' H' S' x p => ?_, fun v u G' H' g' x r p => ?_, fun σ' ρ' G' H' S' x p => ?_, fun σ' ρ' G' H' S' x p => ?_⟩
      · rw [e1] at e2
        cases e2
        rw [hd] at hd'
        cases hd'
        exact ⟨od, upd_same⟩
      · obtain ⟨hl, x'⟩ := ex_unlock hd h x
        exact ⟨hl, B.nx σ' ρ' G' _ (Sv.unlock S S' (x.gg _ _ hd) hd rfl h) x' p⟩
      · obtain ⟨hl, x'⟩ := ex_unlock hd h x
        exact ⟨hl, B.rt v u G' _ (gr_unlock S.gr g' (x.gg _ _ hd) hd rfl h) x' r p⟩
      · obtain ⟨hl, x'⟩ := ex_unlock hd h x
        exact ⟨hl, B.bk σ' ρ' G' _ (Sv.unlock S S' (x.gg _ _ hd) hd rfl h) x' p⟩
      · obtain ⟨hl, x'⟩ := ex_unlock hd h x
        exact ⟨hl, B.ct σ' ρ' G' _ (Sv.unlock S S' (x.gg _ _ hd) hd rfl h) x' p⟩
    · refine .inr (for_at hg hb S (i_keys_at S fun d' kvs' e2 hd' => ?_) hw' B)
      rw [e1] at e2
      cases e2
      rw [hd] at hd'
      cases hd'
      exact ⟨ob, h⟩
theorem v_lcKeys {i : Nat} {g : TG} {tt : TT} {te : TE} {wg : WG} {wt : WT} {we : WE} {vs : List Nat} (hg : TrG Z g wg vs) (ht : TrT Z tt wt) (he : TrE Z te we) (h0 : ∀ v ∈ vs, Z.may v := by exact Zc.mayL_of (by assumption) (by decide)) : TrF Z (tLockEU (tLc (iKeys (tVar i)) g tt te vs)) (wLc (wKeys i) wg wt we vs) := fun σ ρ G H post Q S hw q => by
  have hw' := hw
  obtain ⟨kus, e, _⟩ := hw
  obtain ⟨v, e1, r⟩ := S.fz i _ e
  cases r with
  | @dic d kvs _ hd k z =>
    rcases S.vw d _ hd with h | ⟨_, ob, h⟩
    · refine .inl ⟨d, .dK kvs, h, trivial, fun od => ?_⟩
      have SL := S.lock (od := od) hd rfl h
      refine lc_at hg ht he h0 SL (i_keys_at SL fun d' kvs' e2 hd' => ?_) hw' fun p o u G' H' pu g' np gp hp ho => ?_
      · rw [e1] at e2
        cases e2
        rw [hd] at hd'
        cases hd'
        exact ⟨od, upd_same⟩
      · obtain ⟨hl, x'⟩ := ex_unlock hd h g'.ex
        have hd' := g'.gg _ _ hd
        have nd : p ≠ d := fun z => by rw [z, hd'] at gp; cases gp
        refine ⟨hl, q p o u G' _ pu (gr_unlock (Gr.refl S.vw S.pl) ⟨⟨g'.gg, g'.vw, fun a o' n ea ga => ?_, g'.pl⟩, fun a o' ea => ?_⟩ hd' hd rfl h) (by rw [upd_ne nd] at np; exact np) gp (by rw [upd_ne nd]; exact hp) ho⟩
        · have na : a ≠ d := fun z => by rw [z, hd] at ga; cases ga
          exact g'.fr0 a o' n (by rw [upd_ne na]; exact ea) ga
        · by_cases c : a = d
          · subst c
            rw [hd] at ea
            cases ea
            exact .inr ⟨h, rfl, od, hl⟩
          · have := g'.ge a o' ea
            unfold Lk at this ⊢
            rw [upd_ne c] at this
            exact this
    · refine .inr (lc_at hg ht he h0 S (i_keys_at S fun d' kvs' e2 hd' => ?_) hw' q)
      rw [e1] at e2
      cases e2
      rw [hd] at hd'
      cases hd'
      exact ⟨ob, h⟩
end
end SV
/-! The value layer: the rest. -/
namespace SV
open PySem PySem.Spec PyProof.Rows L2 SL
section
variable {X : Cx}
theorem call_isiTK (K : PySem.W.Frag) (h : X.K = K := by rfl) : CallR X (.builtin "isinstance") (rIsiT K) := by subst h; exact call_isiT
/-- isinstance(x, C), C an own class: of data and of own objects -/
def rIsCV (K : PySem.W.Frag) (C : Addr) : List V → Hp → VK → Prop := fun xs H Q => ∃ (x : V) (t : Value) (b : Bool), xs = [x, .ref C] ∧ TyX K H x t ∧ PySem.W.kitOne K t (.ref C) = some b ∧ Q (.bl b) H
end
section
variable {Z : Zc} {te : TE} {we : WE} {tA : TA} {wA : WA}
def fNeg : U → Option U
  | .int i => some (.int (-i))
  | _ => none
theorem v_neg (h : TrB Z te we) : TrE Z (tUn (rU fun i => .int (-i)) te) (wUn fNeg we) := fun σ ρ G H post Q S hw q => h σ ρ G H _ _ S hw fun v x G1 H1 w1 g1 b1 => by
  obtain ⟨u, e, p⟩ := w1
  cases b1 <;> first | cases e | skip
  exact ⟨_, rfl, q _ _ G1 H1 p g1 (.int _)⟩
/-- t[::-1] -/
def fRevT : U → Option U
  | .tup us => some (.tup us.reverse)
  | _ => none
theorem v_revT {K : PySem.W.Frag} (h : TrE Z te we) : TrE Z (tRevT K te) (wUn fRevT we) := fun σ ρ G H post Q S hw q => h σ ρ G H _ _ S hw fun v x G1 H1 w1 g1 r1 => by
  obtain ⟨u, e, p⟩ := w1
  have S1 := S.step g1
  cases r1 <;> first | cases e | skip
  rename_i a vs us h k z
  exact ⟨a, vs, rfl, SqT.of (S1.vw.tup h), fun c nc => q _ _ _ _ p (g1.trans (Gr.new S1.vw S1.pl nc)) (.tup upd_same (k.rev.same (same_upd (S1.vw.free nc))) (by rw [List.length_reverse]; exact z))⟩
/-- the truth of a value -/
def truU : U → Option Bool
  | .non => some false
  | .bl b => some b
  | .int i => some (i != 0)
  | .str s => some ((s.length : Int) != 0)
  | .lst us => some (!us.isEmpty)
  | .tup us => some (!us.isEmpty)
  | _ => none
theorem RpL.isEmpty {pp : Addr} {G : Hp} {vs : List V} {us : List U} (h : RpL pp G vs us) : vs.isEmpty = us.isEmpty := by
  cases h <;> rfl
theorem RpD.ints {pp : Addr} {G : Hp} : ∀ {kvs : List (Key × V)} {kus : List (Key × U)} {is : List Int}, RpD pp G kvs kus → kus.map (·.2) = is.map U.int → kvs.map (·.2) = is.map V.int
  | _, _, [], .nil, _ => rfl
  | _, _, _ :: _, .nil, e => nomatch e
  | _, _, [], .cons _ _, e => nomatch e
  | _, _, i :: is, .cons (u := u) h t, e => by
    have e1 : u = U.int i := (List.cons.inj e).1
    subst e1
    cases h
    rw [List.map_cons, RpD.ints t (List.cons.inj e).2]
    rfl
def wMinVals (we : WE) : WE := fun ρ post => we ρ fun x => ∃ kus is, x = .dic kus ∧ kus.map (·.2) = is.map U.int ∧ (is = [] → post .non) ∧ ∀ m, m ∈ is → (∀ j ∈ is, m ≤ j) → post (.int m)
theorem v_minVals (h : TrB Z te we) : TrE Z (tMinValsD te) (wMinVals we) := fun σ ρ G H post Q S hw q => h σ ρ G H _ _ S hw fun v x G1 H1 w1 g1 b1 => by
  obtain ⟨kus, is, rfl, e, p0, p1⟩ := w1
  cases b1 with
  | dic hh k z => exact ⟨_, _, is, rfl, hh, k.ints e, fun e0 => q _ _ G1 H1 (p0 e0) g1 .non, fun m h1 h2 => q _ _ G1 H1 (p1 m h1 h2) g1 (.int m)⟩
end
end SV
/-! The value layer: try with except clauses; calls, makings in its body; an error's field. -/
namespace SV
open PySem PySem.Spec PyProof.Rows L2 SL
/-- the slots that are held, as they are held -/
def Zc.keeps (Z : Zc) (σ : L2.St) : Prop := (∀ i v, Z.me i = some v → σ[i]? = some (some v)) ∧ σ.length = Z.n
/-- what the landed error holds -/
def ErrAt (Z : Zc) (od : Option Addr) (us : List (Str × U)) : Prop := ∃ fs, XdAt Z.pin od fs ∧ RpF Z.pp Z.pin fs us
section
variable {Z : Zc} {tA : TA} {wA : WA}
theorem errS {σ : L2.St} {ρ : List Cell} {G H : Hp} (S : Sv Z σ ρ G H) {W : WX} {ew : EW} (hE : Z.E = fun c od H' => ∀ σ', Z.keeps σ' → W c od σ' H') (he : Z.ew = ew) : ∀ C fs gs od G' H', ew C gs → Z.gr0 G H G' H' → XdAt G' od fs → RpF Z.pp G' fs gs → W (.ref C) od σ H' := fun C fs gs od G' H' a g x r => by
  subst he
  have e := S.ex C fs gs od G' H' a (S.gr.trans g) x r
  rw [hE] at e
  exact e σ ⟨S.me, S.ln.1⟩
/-- a call in a try's body -/
theorem v_callS {b : PT} {n : Nat} {W0 : Wf} {W : WX} {ew : EW} (hE : Z.E = fun c od H' => ∀ σ', Z.keeps σ' → W c od σ' H') (he : Z.ew = ew) (hb : PLe b Z.b) (h : TrA Z tA wA) : TrE Z (tCallS (spV b n W0) (L2.WE W) tA) (wCall n W0 ew wA) := fun σ ρ G H post Q S hw q =>
  h σ ρ G H _ _ S hw fun vs us G1 H1 p1 g1 r1 => spV_of (S.step g1) hb (errS (S.step g1) hE he) r1 p1.1 p1.2 fun v u G' H' p g r => q v u G' H' p (g1.trans g) r
theorem v_makeS {C : Addr} {b : PT} {n : Nat} {W0 : Wf} {W : WX} {ew : EW} (hE : Z.E = fun c od H' => ∀ σ', Z.keeps σ' → W c od σ' H') (he : Z.ew = ew) (hb : PLe b Z.b) (h : TrA Z tA wA) : TrE Z (tMakeS C (spI C b n W0) (L2.WE W) tA) (wCall n W0 ew wA) := fun σ ρ G H post Q S hw q =>
  h σ ρ G H _ _ S hw fun vs us G1 H1 p1 g1 r1 x dx nx ndx ne => by
    have S1 := S.step g1
    have up : ∀ {G' H'}, Gr b Z.pp Z.q G1 H1 G' H' → Z.gr G1 H1 G' H' := fun {G' H'} g => g.le hb S1.pl
    exact ⟨x, dx, H1, vs, us, Z.pp, Z.q, G1, post, ew, rfl, rfl, nx, ndx, ne, r1, p1.1, S1.vw, S1.pl.le hb, p1.2, fun u G' H' p g r => ⟨rfl, q _ u G' H' p (g1.trans (up g)) r⟩, fun C fs gs od G' H' a g y r => errS S1 hE he C fs gs od G' H' a (up g) y r⟩
/-- e.fld of the landed error -/
def wExF (C0 : Addr) (fld : Str) (C : Addr) (us : List (Str × U)) : WE := fun _ post => C = C0 ∧ ∃ u, us = [(fld, u)] ∧ post u
theorem v_exf {C0 a : Addr} {fld : Str} {C : Addr} {od : Option Addr} {us : List (Str × U)} {i : Nat} (hx : ErrAt Z od us) (hm : Z.me i = some (.ref a)) : TrE Z (tExF C0 fld a (.ref C) od (tVar i)) (wExF C0 fld C us) := fun σ ρ G H post Q S hw q => by
  obtain ⟨rfl, u, rfl, p⟩ := hw
  obtain ⟨fs, x, r⟩ := hx
  cases r with
  | @cons k v _ _ _ h t =>
    cases t
    rcases x with ⟨d, rfl, hd⟩ | ⟨_, z⟩
    · refine ⟨_, S.me i _ hm, rfl, rfl, d, v, rfl, ?_, q v u G H p (Gr.refl S.vw S.pl) (h.same S.pn)⟩
      rcases S.vw d _ (S.pn d _ hd) with k | ⟨k, _⟩
      · exact k
      · cases k
    · cases z
end
/-! ### try -/
structure WC where
  c : Value
  i : Option Nat
  w : Addr → List (Str × U) → WS
/-- what the clauses wish of an error, one behind the other -/
def wHandle (K : PySem.W.Frag) (Eo : EW) (V : V3) (ρ : List Cell) : List WC → EW
  | [] => Eo
  | ⟨c, none, w⟩ :: r => fun C us => ∃ b, PySem.W.exmOne K (.ref C) c = some b ∧ (b = true → w C us V ρ) ∧ (b = false → wHandle K Eo V ρ r C us)
  | ⟨c, some i, w⟩ :: r => fun C us => ∃ b, PySem.W.exmOne K (.ref C) c = some b ∧ (b = true → w C us { nx := fun ρ' => V.nx (ρ'.set i .no), rt := V.rt, bk := fun ρ' => V.bk (ρ'.set i .no), ct := fun ρ' => V.ct (ρ'.set i .no) } (ρ.set i .no)) ∧ (b = false → wHandle K Eo V ρ r C us)
def hideO : List Cell → List Cell
  | [] => []
  | .ow _ :: r => .no :: hideO r
  | c :: r => c :: hideO r
theorem hideO_len : ∀ ρ : List Cell, (hideO ρ).length = ρ.length
  | [] => rfl
  | .ow _ :: r => congrArg (· + 1) (hideO_len r)
  | .no :: r => congrArg (· + 1) (hideO_len r)
  | .fz _ :: r => congrArg (· + 1) (hideO_len r)
theorem hideO_fz : ∀ {ρ : List Cell} {i : Nat} {u : U}, (hideO ρ)[i]? = some (.fz u) → ρ[i]? = some (.fz u)
  | [], _, _, h => by simp [hideO] at h
  | .ow _ :: r, 0, _, h => by simp [hideO] at h
  | .ow _ :: r, i + 1, _, h => by
    rw [List.getElem?_cons_succ]
    exact hideO_fz (by simpa [hideO] using h)
  | .no :: r, 0, _, h => by simp [hideO] at h
  | .no :: r, i + 1, _, h => by
    rw [List.getElem?_cons_succ]
    exact hideO_fz (by simpa [hideO] using h)
  | .fz _ :: r, 0, _, h => by simpa [hideO] using h
  | .fz _ :: r, i + 1, _, h => by
    rw [List.getElem?_cons_succ]
    exact hideO_fz (by simpa [hideO] using h)
theorem hideO_ow : ∀ {ρ : List Cell} {i : Nat} {u : U}, (hideO ρ)[i]? = some (.ow u) → False
  | [], _, _, h => by simp [hideO] at h
  | .ow _ :: r, 0, _, h => by simp [hideO] at h
  | .ow _ :: r, i + 1, _, h => hideO_ow (ρ := r) (i := i) (by simpa [hideO] using h)
  | .no :: r, 0, _, h => by simp [hideO] at h
  | .no :: r, i + 1, _, h => hideO_ow (ρ := r) (i := i) (by simpa [hideO] using h)
  | .fz _ :: r, 0, _, h => by simp [hideO] at h
  | .fz _ :: r, i + 1, _, h => hideO_ow (ρ := r) (i := i) (by simpa [hideO] using h)
theorem wipeR_at : ∀ (vs : List Nat) (ρ : List Cell) {i : Nat} {c : Cell}, (wipeR ρ vs)[i]? = some c → c ≠ .no → i ∉ vs ∧ ρ[i]? = some c
  | [], ρ, i, c, h, _ => ⟨List.not_mem_nil, h⟩
  | v :: vs, ρ, i, c, h, n => by
    rcases set_get h with ⟨_, z⟩ | ⟨ne, h⟩
    · exact absurd z.symm n
    · obtain ⟨a, b⟩ := wipeR_at vs ρ h n
      exact ⟨fun m => (List.mem_cons.mp m).elim ne a, b⟩
theorem wipeR_len : ∀ (vs : List Nat) (ρ : List Cell), (wipeR ρ vs).length = ρ.length
  | [], _ => rfl
  | v :: vs, ρ => by
    unfold wipeR
    rw [List.length_set, wipeR_len vs]
/-- what is raised and not caught -/
def OutOk (Z : Zc) (Wo : WX) (Eo : EW) : Prop := ∀ σ ρ G H, Sv Z σ ρ G H → ∀ C us od fs, Eo C us → XdAt G od fs → RpF Z.pp G fs us → Wo (.ref C) od σ H
theorem out0 {Z : Zc} : OutOk Z (fun _ _ _ _ => False) (fun _ _ => False) := fun _ _ _ _ _ _ _ _ _ z _ _ => z
theorem outX {Z : Zc} {E : XK} (hE : Z.E = E) : OutOk Z (fun cls d _ H => E cls d H) Z.ew := fun σ ρ G H S C us od fs a x r => by
  subst hE
  exact S.ex C fs us od G H a S.gr x r
inductive TrC (Z : Zc) (ok : Nat → Bool) : List Clause → List WC → Prop
  | nil : TrC Z ok [] []
  | only {c : Value} {ts : Addr → Value → Option Addr → TS} {w : Addr → List (Str × U) → WS} {l : List Clause} {ws : List WC} (h : ∀ (a C : Addr) (od : Option Addr) (us : List (Str × U)) (Z' : Zc), Z'.b = Z.b → ErrAt Z' od us → Z'.mays ok → TrS Z' (ts a (.ref C) od) (w C us)) (r : TrC Z ok l ws) : TrC Z ok ((c, none, ts) :: l) (⟨c, none, w⟩ :: ws)
  | named {c : Value} {i : Nat} {ts : Addr → Value → Option Addr → TS} {w : Addr → List (Str × U) → WS} {l : List Clause} {ws : List WC} (hi : ok i = true) (h : ∀ (a C : Addr) (od : Option Addr) (us : List (Str × U)) (Z' : Zc), Z'.b = Z.b → ErrAt Z' od us → Z'.me i = some (.ref a) → Z'.mays (fun j => j != i && ok j) → TrS Z' (ts a (.ref C) od) (w C us)) (r : TrC Z ok l ws) : TrC Z ok ((c, some i, ts) :: l) (⟨c, some i, w⟩ :: ws)
section
variable {Z : Zc}
/-- the same def, with more that is held -/
theorem Sv.hold {σ : L2.St} {ρ : List Cell} {G H : Hp} (S : Sv Z σ ρ G H) {me : Nat → Option V} (hm : ∀ i v, me i = some v → σ[i]? = some (some v)) : Sv { Z with me := me, pin := G } σ ρ G H :=
  ⟨S.gr, S.w0, S.p0, S.ex, S.ln, S.fz, S.ow, hm, Same.refl _, S.dis⟩
theorem Sv.unhold {σ : L2.St} {ρ : List Cell} {G H G1 : Hp} {me : Nat → Option V} (hp : Same Z.pin G1) (S : Sv { Z with me := me, pin := G1 } σ ρ G H) (hm : ∀ i v, Z.me i = some v → σ[i]? = some (some v)) : Sv Z σ ρ G H :=
  ⟨S.gr, S.w0, S.p0, S.ex, S.ln, S.fz, S.ow, hm, hp.trans S.pn, S.dis⟩
def inR (n : Nat) : List WC → Bool
  | [] => true
  | ⟨_, none, _⟩ :: r => inR n r
  | ⟨_, some i, _⟩ :: r => decide (i < n) && inR n r
theorem handle_ok {K : PySem.W.Frag} {Wo : WX} {Eo : EW} {ok : Nat → Bool} (hs : Z.mays ok) (ho : OutOk Z Wo Eo) {VV : V3} {D : Ends} {σ : L2.St} {ρ : List Cell} {G H : Hp} (S : Sv Z σ ρ G H) (B : Br Z VV D G H) {C : Addr} {us : List (Str × U)} {od : Option Addr} {fs : List (Str × V)} (x : XdAt G od fs) (r : RpF Z.pp G fs us) :
    ∀ {l : List Clause} {ws : List WC}, TrC Z ok l ws → inR ρ.length ws = true → wHandle K Eo VV ρ ws C us → wClauses K Wo D l (.ref C) od σ H := by
  intro l ws hc hr
  induction hc with
  | nil => intro hw; exact ho σ ρ G H S C us od fs hw x r
  | only h _ ih =>
    have ih := ih hr
    rintro ⟨b, e, hy, hn⟩
    refine ⟨b, e, fun hb a _ => ?_, fun hb => ih (hn hb)⟩
    have S2 := S.hold S.me
    exact h a C od us { Z with pin := G } rfl ⟨fs, x, r⟩ hs VV D σ ρ G H S2 (hy hb) ⟨fun σ' ρ' G' H' S' e p => B.nx σ' ρ' G' H' (Sv.unhold S.pn S' S'.me) e p, fun v u G' H' g e r p => B.rt v u G' H' g e r p, fun σ' ρ' G' H' S' e p => B.bk σ' ρ' G' H' (Sv.unhold S.pn S' S'.me) e p, fun σ' ρ' G' H' S' e p => B.ct σ' ρ' G' H' (Sv.unhold S.pn S' S'.me) e p⟩
  | @named c i ts w l ws hi h _ ih =>
    have hr' : decide (i < ρ.length) = true ∧ inR ρ.length ws = true := (Bool.and_eq_true _ _).mp hr
    have ih := ih hr'.2
    have il : i < σ.length := by rw [S.len]; exact of_decide_eq_true hr'.1
    rintro ⟨b, e, hy, hn⟩
    refine ⟨b, e, fun hb a _ => ?_, fun hb => ih (hn hb)⟩
    have hi' : Z.may i := hs i hi
    have ml : ∀ (x : Option V), (σ.set i x).length = Z.n := fun x => by rw [List.length_set]; exact S.ln.1
    have S1 : Sv Z (σ.set i (some (.ref a))) (ρ.set i .no) G H := by
      have S0 := S.no i hi'
      refine ⟨S0.gr, S0.w0, S0.p0, S0.ex, ⟨ml _, S0.ln.2⟩, fun j u e => ?_, fun j u e => ?_, me_set hi' S.me, S0.pn, fun j k a n h1 h2 e => ?_⟩
      · have c : i ≠ j := fun z => by
          subst z
          rcases set_get e with ⟨_, z⟩ | ⟨z, _⟩
          · cases z
          · exact z rfl
        obtain ⟨v, e1, hv⟩ := S0.fz j u e
        rw [List.getElem?_set_ne c] at e1 ⊢
        exact ⟨v, e1, hv⟩
      · have c : i ≠ j := fun z => by
          subst z
          rcases set_get e with ⟨_, z⟩ | ⟨z, _⟩
          · cases z
          · exact z rfl
        obtain ⟨a, o, e1, hv⟩ := S0.ow j u e
        rw [List.getElem?_set_ne c] at e1 ⊢
        exact ⟨a, o, e1, hv⟩
      · have f : ∀ {j : Nat}, isOw (ρ.set i .no) j → i ≠ j := fun {j} ⟨u, e⟩ z => by
          subst z
          rcases set_get e with ⟨_, z⟩ | ⟨z, _⟩
          · cases z
          · exact z rfl
        have d := S0.dis j k a n h1 h2
        rw [List.getElem?_set_ne (f h1)] at d e
        rw [List.getElem?_set_ne (f h2)] at d ⊢
        exact d e
    have S2 : Sv { Z with me := fun j => if j = i then some (.ref a) else Z.me j, pin := G } (σ.set i (some (.ref a))) (ρ.set i .no) G H := S1.hold fun j v e => by
      have e' : (if j = i then some (V.ref a) else Z.me j) = some v := e
      by_cases c : j = i
      · rw [if_pos c] at e'
        cases e'
        rw [c, List.getElem?_set_self il]
      · rw [if_neg c] at e'
        exact S1.me j v e'
    have fin : ∀ {σ' : L2.St} {ρ' : List Cell} {G' H' : Hp}, Sv { Z with me := fun j => if j = i then some (.ref a) else Z.me j, pin := G } σ' ρ' G' H' → Sv Z (σ'.set i none) (ρ'.set i .no) G' H' := fun {σ' ρ' G' H'} S' => by
      refine (Sv.unhold S.pn S' fun j v e => ?_).no i hi'
      have c : ¬ (j = i) := fun z => by
        rw [z, show Z.me i = none from hi'] at e
        cases e
      exact S'.me j v (show (if j = i then some (V.ref a) else Z.me j) = some v by rw [if_neg c]; exact e)
    exact h a C od us { Z with me := fun j => if j = i then some (.ref a) else Z.me j, pin := G } rfl ⟨fs, x, r⟩ (if_pos rfl) (fun j e => by
        have e' : j ≠ i ∧ ok j = true := by simpa using e
        show (if j = i then some (V.ref a) else Z.me j) = none
        rw [if_neg e'.1]
        exact hs j e'.2) _ _ _ _ G H S2 (hy hb) ⟨fun σ' ρ' G' H' S' e p => B.nx _ _ G' H' (fin S') e p, fun v u G' H' g e r p => B.rt v u G' H' g e r p, fun σ' ρ' G' H' S' e p => B.bk _ _ G' H' (fin S') e p, fun σ' ρ' G' H' S' e p => B.ct _ _ G' H' (fin S') e p⟩
def wTry (K : PySem.W.Frag) (vs : List Nat) (Eo : EW) (ws : List WC) (wb : EW → WS) : WS := fun V ρ => inR ρ.length ws = true ∧ wb (wHandle K Eo V (wipeR (hideO ρ) vs) ws) V (hideO ρ)
/-- try, told in one word -/
def tTry (K : PySem.W.Frag) (Wo : WX) (l : List Clause) (tb : WX → TS) : TS := fun D σ H => tb (wClauses K Wo D l) D σ H
theorem ps_tryU {X : Cx} {body : List Stmt} {h₀ : ExceptHandler} {hds : List ExceptHandler} {l : List Clause} {pos : Pos} {tb : WX → TS} {Wout : WX} (hs : X.stack = X.env :: X.outer) (hf : X.env.frame = some X.env.locals) (hN : X.N.Nodup) (tk : Takes X Wout)
    (hb : ∀ (W : WX) (pn : List (Addr × Obj)) (xe : Value → Shared → Prop), Takes (X.tr pn xe) W → PassesOwn (model X.prog X.w) X.A X.env xe → PSs (X.tr pn xe) body (tb W))
    (hh : ClausesOk X (h₀ :: hds) l) : PS X (.Try body (h₀ :: hds) [] [] pos) (tTry X.K Wout l tb) := ps_clauses hs hf hN tk hb hh
theorem s_try {K : PySem.W.Frag} {tb : WX → TS} {Wo : WX} {Eo : EW} {l : List Clause} {ws : List WC} {wb : EW → WS} {ok : Nat → Bool} (vs : List Nat) (hs : Z.mays ok) (ho : OutOk Z Wo Eo)
    (hb : ∀ (W : WX) (ew : EW) (Z' : Zc), Z'.ew = ew → Z'.b = Z.b → (Z'.E = fun c od H' => ∀ σ', Z'.keeps σ' → W c od σ' H') → Z'.mays (fun i => vs.contains i) → TrS Z' (tb W) (wb ew))
    (hc : TrC Z ok l ws) (hv : vs.all ok = true := by decide) : TrS Z (tTry K Wo l tb) (wTry K vs Eo ws wb) := fun V D σ ρ G H S hw B => by
  obtain ⟨hr, hw⟩ := hw
  show tb (wClauses K Wo D l) D σ H
  generalize eW : wClauses K Wo D l = W
  generalize eE : wHandle K Eo V (wipeR (hideO ρ) vs) ws = ew at hw
  generalize eM : (fun i => if vs.contains i then none else (σ[i]?).join : Nat → Option L2.V) = me
  have hme : ∀ i v, me i = some v → i ∉ vs ∧ σ[i]? = some (some v) := fun i v e => by
    subst eM
    have e' : (if vs.contains i then none else (σ[i]?).join) = some v := e
    by_cases c : vs.contains i = true
    · rw [if_pos c] at e'
      cases e'
    · rw [if_neg c] at e'
      exact ⟨fun m => c (List.contains_iff_mem.mpr m), by
        cases q : σ[i]? with
        | none => rw [q] at e'; cases e'
        | some y => rw [q] at e'; exact congrArg some e'⟩
  have hme2 : ∀ i v, i ∉ vs → σ[i]? = some (some v) → me i = some v := fun i v n e => by
    subst eM
    show (if vs.contains i then none else (σ[i]?).join) = some v
    rw [if_neg fun c => n (List.contains_iff_mem.mp c), e]
    rfl
  let Z' : Zc := ⟨Z.b, Z.pp, Z.q, G, H, fun c od H' => ∀ σ', ((∀ i v, me i = some v → σ'[i]? = some (some v)) ∧ σ'.length = Z.n) → W c od σ' H', ew, Z.n, me, Z.pin⟩
  have zme : ∀ {i : Nat} {v : L2.V}, Z.me i = some v → i ∉ vs := fun {i v} e m => by
    rw [hs i (List.all_eq_true.mp hv i m)] at e
    cases e
  have S' : Sv Z' σ (hideO ρ) G H := by
    refine ⟨Gr.refl S.vw S.pl, S.vw, S.pl, fun C us fs od G1 H1 a g x r σ' kp => ?_, ⟨S.ln.1, (hideO_len ρ).trans S.ln.2⟩, fun i u e => S.fz i u (hideO_fz e), fun i u e => (hideO_ow e).elim, fun i v e => (hme i v e).2, S.pn, fun i j a _ h1 _ => by obtain ⟨u, e⟩ := h1; exact (hideO_ow e).elim⟩
    have g' : Z.gr G H G1 H1 := g
    subst eW
    subst eE
    have S1 : Sv Z σ' (wipeR (hideO ρ) vs) G1 H1 := by
      refine ⟨S.gr.trans g', S.w0, S.p0, S.ex, ⟨kp.2, by rw [wipeR_len, hideO_len]; exact S.ln.2⟩, fun i u e => ?_, fun i u e => ?_, fun i v e => ?_, S.pn.trans g'.gg, fun i j a _ h1 _ => ?_⟩
      · obtain ⟨n, e2⟩ := wipeR_at vs _ e (fun z => nomatch z)
        obtain ⟨v, e3, hv⟩ := S.fz i u (hideO_fz e2)
        exact ⟨v, kp.1 i v (hme2 i v n e3), hv.same g'.gg⟩
      · exact (hideO_ow (wipeR_at vs _ e (fun z => nomatch z)).2).elim
      · exact kp.1 i v (hme2 i v (zme e) (S.me i v e))
      · obtain ⟨u, e⟩ := h1
        exact (hideO_ow (wipeR_at vs _ e (fun z => nomatch z)).2).elim
    exact handle_ok hs ho S1 (B.to g'.ex) x r hc (by rw [wipeR_len, hideO_len]; exact hr) a
  have back : ∀ {σ2 : L2.St} {ρ2 : List Cell} {G2 H2 : Hp}, Sv Z' σ2 ρ2 G2 H2 → Sv Z σ2 ρ2 G2 H2 := fun {σ2 ρ2 G2 H2} S2 =>
    ⟨S.gr.trans S2.gr, S.w0, S.p0, S.ex, S2.ln, S2.fz, fun i u e => let ⟨a, o, h1, h2, h3, h4, h5⟩ := S2.ow i u e; ⟨a, o, h1, h2, h3, S.new0 h4, h5⟩, fun i v e => S2.me i v (hme2 i v (zme e) (S.me i v e)), S2.pn, S2.dis⟩
  exact hb W ew Z' rfl rfl rfl (fun i e => by
    subst eM
    exact if_pos e) V D σ (hideO ρ) G H S' hw ⟨fun σ2 ρ2 G2 H2 S2 x p => B.nx σ2 ρ2 G2 H2 (back S2) x p, fun v u G2 H2 g x r p => B.rt v u G2 H2 (S.gr.trans g) x r p, fun σ2 ρ2 G2 H2 S2 x p => B.bk σ2 ρ2 G2 H2 (back S2) x p, fun σ2 ρ2 G2 H2 S2 x p => B.ct σ2 ρ2 G2 H2 (back S2) x p⟩
end
end SV
/-! A law's body behind its first statement: nothing is frozen yet, the pool is there. -/
namespace SV
open PySem PySem.Spec PyProof.Rows L2 SL
theorem pool_runT {T : List (Addr × Str)} {t : TS} {n : Nat} {x : Option V} {p q : Addr} {H : Hp} {D : Ends} {post : U → Prop} (P : PoolAt H p q) (hT : ∀ x ∈ T, LamX.TabS H x.1 x.2) (hq : ∀ v u G' H', post u → Rp p G' v u → D.rt v H')
    (tr : ∀ Z : Zc, Z.b = ⟨true, T⟩ → Z.mays (fun _ => true) → ∃ w, TrS Z t w ∧ w { nx := fun _ => False, rt := post } (.no :: .fz .pool :: List.replicate n .no)) :
    t D (x :: some (.ref p) :: List.replicate n none) H := by
  obtain ⟨w, tR, hw⟩ := tr ⟨⟨true, T⟩, p, q, fun _ => none, H, fun _ _ _ => False, fun _ _ => False, n + 2, fun _ => none, fun _ => none⟩ rfl (fun _ _ => rfl)
  have vw : Vw (fun _ => none) H := fun _ _ e => nomatch e
  have P2 : Pl ⟨true, T⟩ p q (fun _ => none) H := ⟨fun _ => ⟨P, rfl, rfl⟩, fun x hx => ⟨hT x hx, rfl⟩⟩
  refine tR _ D _ _ (fun _ => none) H ⟨Gr.refl vw P2, vw, P2, fun _ _ _ _ _ _ z => z.elim, ⟨by simp, by simp⟩, fun i u e => ?_, fun i u e => ?_, (fun _ _ e => nomatch e), (fun _ _ e => nomatch e), fun i j a _ h1 _ => ?_⟩ hw ⟨fun _ _ _ _ _ _ z => z.elim, fun v u G' H' _ _ r pu => hq v u G' H' pu r, fun _ _ _ _ _ _ z => z.elim, fun _ _ _ _ _ _ z => z.elim⟩
  · match i with
    | 0 => cases e
    | 1 => cases e; exact ⟨_, rfl, .pool⟩
    | i + 2 =>
      have e' : (List.replicate n Cell.no)[i]? = some (.fz u) := e
      have := List.mem_of_getElem? e'
      rw [List.mem_replicate] at this
      cases this.2
  · match i with
    | 0 => cases e
    | 1 => cases e
    | i + 2 =>
      have e' : (List.replicate n Cell.no)[i]? = some (.ow u) := e
      have := List.mem_of_getElem? e'
      rw [List.mem_replicate] at this
      cases this.2
  · obtain ⟨u, e⟩ := h1
    match i with
    | 0 => cases e
    | 1 => cases e
    | i + 2 =>
      have e' : (List.replicate n Cell.no)[i]? = some (.ow u) := e
      have := List.mem_of_getElem? e'
      rw [List.mem_replicate] at this
      cases this.2
theorem pool_run {t : TS} {n : Nat} {x : Option V} {p q : Addr} {H : Hp} {D : Ends} {post : U → Prop} (P : PoolAt H p q) (hq : ∀ v u G' H', post u → Rp p G' v u → D.rt v H')
    (tr : ∀ Z : Zc, Z.b = (true : Bool) → Z.mays (fun _ => true) → ∃ w, TrS Z t w ∧ w { nx := fun _ => False, rt := post } (.no :: .fz .pool :: List.replicate n .no)) :
    t D (x :: some (.ref p) :: List.replicate n none) H := pool_runT (T := []) P (fun _ z => nomatch z) hq tr
theorem pool_runN {t : TS} {n : Nat} {x : Option V} {p q : Addr} {H : Hp} {D : Ends} {rt : VK} {bk ct : L2.St → Hp → Prop} {post : U → Prop} (P : PoolAt H p q) (hq : ∀ v u G' H', post u → Rp p G' v u → D.rt v H')
    (tr : ∀ Z : Zc, Z.b = (true : Bool) → Z.mays (fun _ => true) → ∃ w, TrS Z t w ∧ w { nx := fun _ => False, rt := post } (.no :: .fz .pool :: List.replicate n .no)) :
    (Ends.mk (t D) rt bk ct).nx (x :: some (.ref p) :: List.replicate n none) H := pool_run (t := t) (D := D) P hq tr
theorem pool_runNT {T : List (Addr × Str)} {t : TS} {n : Nat} {x : Option V} {p q : Addr} {H : Hp} {D : Ends} {rt : VK} {bk ct : L2.St → Hp → Prop} {post : U → Prop} (P : PoolAt H p q) (hT : ∀ x ∈ T, LamX.TabS H x.1 x.2) (hq : ∀ v u G' H', post u → Rp p G' v u → D.rt v H')
    (tr : ∀ Z : Zc, Z.b = ⟨true, T⟩ → Z.mays (fun _ => true) → ∃ w, TrS Z t w ∧ w { nx := fun _ => False, rt := post } (.no :: .fz .pool :: List.replicate n .no)) :
    (Ends.mk (t D) rt bk ct).nx (x :: some (.ref p) :: List.replicate n none) H := pool_runT (t := t) (D := D) P hT hq tr
end SV
/-! What this program's checks tell of values. -/
namespace SV
open PySem PySem.Spec PyProof.Rows L2 SL
def wholeU : U → Bool
  | .int _ => true
  | _ => false
def withinU (lo hi : Int) : U → Bool
  | .int i => decide (lo ≤ i) && decide (i ≤ hi)
  | _ => false
def fromU (lo : Int) : U → Bool
  | .int i => decide (lo ≤ i)
  | _ => false
def itemsU : U → Option (List U)
  | .lst us => some us
  | .tup us => some us
  | _ => none
def optU : Option (List U) → U
  | some us => .tup us
  | none => .non
def isTup : U → Bool
  | .tup _ => true
  | _ => false
def rowU : U → Bool
  | .tup us => us.all (withinU 0 1)
  | _ => false
/-- the value of a row of cells -/
abbrev rowV (cs : List Int) : U := .tup (cs.map U.int)
def WWhole (cs : List Addr) : Wf := fun us post _ => ∃ x, us = [x] ∧ asks cs x ∧ post (.bl (wholeU x))
def WWithin (cs : List Addr) : Wf := fun us post _ => ∃ x lo hi, us = [x, .int lo, .int hi] ∧ asks cs x ∧ post (.bl (withinU lo hi x))
def WFrom (cs : List Addr) : Wf := fun us post _ => ∃ x lo, us = [x, .int lo] ∧ asks cs x ∧ post (.bl (fromU lo x))
def WItems (cs : List Addr) : Wf := fun us post _ => ∃ x, us = [x] ∧ asks cs x ∧ post (optU (itemsU x))
/-- whatever is asked of the parts, too -/
def asksT (cs : List Addr) : U → Prop
  | .tup us => ∀ u ∈ us, asks cs u
  | _ => True
def WIsRow (cs : List Addr) : Wf := fun us post _ => ∃ x, us = [x] ∧ asks cs x ∧ asksT cs x ∧ post (.bl (rowU x))
def WCheckRow (cs : List Addr) (cR : Addr) : Wf := fun us post ew => ∃ x s, us = [x, .str s] ∧ asks cs x ∧ asksT cs x ∧ (reprText s).length ≤ 1000 ∧ (rowU x = true → post .non) ∧ (rowU x = false → ew cR [("part", .str s)])
def bits (ns : List Int) : Prop := ∀ c ∈ ns, c = 0 ∨ c = 1
theorem asks_int {cs : List Addr} (i : Int) : asks cs (.int i) := trivial
theorem rowU_ints {cs : List Int} : rowU (rowV cs) = cs.all fun c => decide (0 ≤ c) && decide (c ≤ 1) := by
  show (cs.map U.int).all (withinU 0 1) = _
  rw [List.all_map]
  rfl
theorem row_ints {us : List U} (h : us.all (withinU 0 1) = true) : ∃ cs : List Int, us = cs.map U.int ∧ bits cs := by
  induction us with
  | nil => exact ⟨[], rfl, fun _ z => nomatch z⟩
  | cons u r ih =>
    rw [List.all_cons, Bool.and_eq_true] at h
    obtain ⟨cs, rfl, hb⟩ := ih h.2
    cases u <;> first | cases h.1 | skip
    rename_i i
    have h1 : (decide (0 ≤ i) && decide (i ≤ 1)) = true := h.1
    rw [Bool.and_eq_true, decide_eq_true_eq, decide_eq_true_eq] at h1
    refine ⟨i :: cs, rfl, fun c hc => ?_⟩
    rcases List.mem_cons.mp hc with rfl | hc
    · omega
    · exact hb c hc
def WDraw : Wf := fun us post _ => ∃ m : Int, us = [.pool, .int m] ∧ 0 < m ∧ m < 1073741824 ∧ ∀ d : Int, 0 ≤ d → d < m → post (.int d)
/-- a row of drawn cells -/
def WRowD : Wf := fun us post _ => ∃ n : Nat, us = [.pool, .int (n : Int)] ∧ n ≤ 100000 ∧ ∀ cs : List Int, cs.length = n → bits cs → post (rowV cs)
theorem bits_snoc' {ts : List Int} {b : Int} (h : bits ts) (h0 : 0 ≤ b) (h2 : b < 2) : bits (ts ++ [b]) := fun c hc => by
  rcases List.mem_append.mp hc with hc | hc
  · exact h c hc
  · rw [List.mem_singleton.mp hc]; omega
end SV
/-! Wear, by values: moves, prices. -/
namespace SV
open PySem PySem.Spec PyProof.Rows L2 SL
structure Mv where
  c : Int
  w : Int
  p : Int
  n : Int
  deriving DecidableEq
def mvL (m : Mv) : List U := [.int m.c, .int m.w, .int m.p, .int m.n]
def mvU (m : Mv) : U := .tup (mvL m)
def lineU (l : List Mv) : U := .tup (l.map mvU)
def movesU (ms : List (List Mv)) : U := .tup (ms.map lineU)
/-- the four numbers of what is like a move -/
def mvOf (x : U) : Option Mv := match itemsU x with
  | some [.int a, .int b, .int p, .int n] => some ⟨a, b, p, n⟩
  | _ => none
theorem mvOf_items {x : U} {m : Mv} (h : mvOf x = some m) : itemsU x = some (mvL m) := by
  unfold mvOf at h
  split at h
  · rename_i a b p n e
    cases h
    exact e
  · cases h
theorem mvOf_U (m : Mv) : mvOf (mvU m) = some m := rfl
structure MvOk (many : Int) (m : Mv) : Prop where
  c : m.c = 0 ∨ m.c = 1
  w : m.w = 0 ∨ m.w = 1
  p : 0 ≤ m.p
  n0 : 0 ≤ m.n
  n1 : m.n < many
structure WearOk (ms : List (List Mv)) : Prop where
  lo : 1 ≤ ms.length
  hi : ms.length ≤ 6
  mv : ∀ l ∈ ms, ∀ m ∈ l, MvOk ms.length m
  stay : ∀ l ∈ ms, ∀ c : Int, c = 0 ∨ c = 1 → ∃ m ∈ l, m.c = c ∧ m.w = c ∧ m.p = 0
/-! ### dicts of numbers by numbers -/
def pd (P : List (Int × Int)) : List (Key × U) := P.map fun kv => (Sum.inl kv.1, U.int kv.2)
theorem pd_val (P : List (Int × Int)) (s : Int) : valU (pd P) (Sum.inl s) = (valU P s).map U.int := by
  induction P with
  | nil => rfl
  | cons p r ih =>
    show valU ((Sum.inl p.1, U.int p.2) :: pd r) (Sum.inl s) = _
    by_cases c : p.1 = s
    · rw [valU_pos (by show (Sum.inl p.1 : Key) = _; rw [c]), valU_pos c]
      rfl
    · rw [valU_neg (by show ¬ (Sum.inl p.1 : Key) = _; exact fun z => c (Sum.inl.inj z)), valU_neg c, ih]
theorem pd_any (P : List (Int × Int)) (s : Int) : ((pd P).any fun kv => decide (kv.1 = Sum.inl s)) = P.any fun kv => decide (kv.1 = s) := by
  induction P with
  | nil => rfl
  | cons p r ih =>
    show (decide ((Sum.inl p.1 : Key) = Sum.inl s) || (pd r).any _) = (decide (p.1 = s) || r.any _)
    rw [ih, key_ll]
    rw [Bool.beq_eq_decide_eq]
theorem pd_put (P : List (Int × Int)) (s v : Int) : putU (pd P) (Sum.inl s) (.int v) = pd (putU P s v) := by
  unfold putU
  rw [pd_any]
  by_cases c : (P.any fun kv => decide (kv.1 = s)) = true
  · rw [if_pos c, if_pos c]
    unfold pd
    rw [List.map_map, List.map_map]
    refine List.map_congr_left fun p _ => ?_
    show (if (Sum.inl p.1 : Key) = Sum.inl s then ((Sum.inl p.1 : Key), U.int v) else _) = _
    by_cases e : p.1 = s
    · rw [if_pos (by rw [e])]
      show _ = ((fun kv : Int × Int => ((Sum.inl kv.1 : Key), U.int kv.2)) (if p.1 = s then (p.1, v) else p))
      rw [if_pos e]
    · rw [if_neg fun z => e (Sum.inl.inj z)]
      show _ = ((fun kv : Int × Int => ((Sum.inl kv.1 : Key), U.int kv.2)) (if p.1 = s then (p.1, v) else p))
      rw [if_neg e]
  · rw [if_neg c, if_neg c]
    unfold pd
    rw [List.map_append]
    rfl
theorem pd_keys (P : List (Int × Int)) : keysOf (pd P) = (keysOf P).map Sum.inl := by
  unfold keysOf pd
  rw [List.map_map, List.map_map]
  rfl
theorem nodup_put {κ α : Type} [DecidableEq κ] {P : List (κ × α)} (h : (keysOf P).Nodup) (k : κ) (v : α) : (keysOf (putU P k v)).Nodup := by
  rw [keys_put]
  by_cases c : k ∈ keysOf P
  · rw [if_pos c]; exact h
  · rw [if_neg c]
    refine List.nodup_append.mpr ⟨h, by simp, fun a ha b hb e => c ?_⟩
    rw [List.mem_singleton] at hb
    rw [← hb, ← e]
    exact ha
/-! ### the least of what can be -/
/-- o is the least number of S, or S is empty -/
def IsMin (S : Int → Prop) : Option Int → Prop
  | none => ∀ x, ¬ S x
  | some v => S v ∧ ∀ x, S x → v ≤ x
theorem IsMin.uniq {S : Int → Prop} {o o' : Option Int} (h : IsMin S o) (h' : IsMin S o') : o = o' := by
  cases o with
  | none =>
    cases o' with
    | none => rfl
    | some v => exact absurd h'.1 (h v)
  | some v =>
    cases o' with
    | none => exact absurd h.1 (h' v)
    | some v' => exact congrArg some (Int.le_antisymm (h.2 v' h'.1) (h'.2 v h.1))
theorem IsMin.congr {S T : Int → Prop} {o : Option Int} (h : IsMin S o) (e : ∀ x, S x ↔ T x) : IsMin T o := by
  cases o with
  | none => exact fun x t => h x ((e x).mpr t)
  | some v => exact ⟨(e v).mp h.1, fun x t => h.2 x ((e x).mpr t)⟩
/-- one more is met -/
theorem IsMin.meet {S : Int → Prop} {o : Option Int} (h : IsMin S o) (x : Int) : IsMin (fun y => S y ∨ y = x) (some (if o.getD x < x then o.getD x else x)) := by
  cases o with
  | none =>
    show IsMin _ (some (if x < x then x else x))
    rw [if_neg (Int.lt_irrefl x)]
    exact ⟨.inr rfl, fun y q => by rcases q with q | q; exact absurd q (h y); omega⟩
  | some v =>
    show IsMin _ (some (if v < x then v else x))
    by_cases c : v < x
    · rw [if_pos c]
      exact ⟨.inl h.1, fun y q => by rcases q with q | q; exact h.2 y q; omega⟩
    · rw [if_neg c]
      exact ⟨.inr rfl, fun y q => by rcases q with q | q; have := h.2 y q; omega; omega⟩
/-- which sums moves can have: to the standing place a, behind a row that becomes worn -/
inductive Cost (ms : List (List Mv)) : List (Int × Int) → Int → Int → Prop
  | nil : Cost ms [] 0 0
  | snoc {ps : List (Int × Int)} {s v : Int} {c w : Int} {line : List Mv} {m : Mv} (h : Cost ms ps s v) (hl : ms[s.toNat]? = some line) (hs : 0 ≤ s) (hm : m ∈ line) (hc : m.c = c) (hw : m.w = w) : Cost ms (ps ++ [(c, w)]) m.n (v + m.p)
theorem Cost.place {ms : List (List Mv)} (ok : WearOk ms) {ps : List (Int × Int)} {s v : Int} (h : Cost ms ps s v) : 0 ≤ s ∧ s < ms.length ∧ 0 ≤ v := by
  induction h with
  | nil => exact ⟨Int.le_refl _, by have := ok.lo; omega, Int.le_refl _⟩
  | snoc h hl hs hm hc hw ih =>
    have := ok.mv _ (List.mem_of_getElem? hl) _ hm
    exact ⟨this.n0, this.n1, by have := this.p; omega⟩
theorem cost_snoc {ms : List (List Mv)} {ps : List (Int × Int)} {c w a x : Int} : Cost ms (ps ++ [(c, w)]) a x ↔ ∃ s v line m, Cost ms ps s v ∧ 0 ≤ s ∧ ms[s.toNat]? = some line ∧ m ∈ line ∧ m.c = c ∧ m.w = w ∧ m.n = a ∧ x = v + m.p := by
  constructor
  · intro h
    generalize e : ps ++ [(c, w)] = qs at h
    cases h with
    | nil => exact absurd e (by simp)
    | snoc h hl hs hm hc hw =>
      obtain ⟨e1, e2⟩ := List.append_inj' e rfl
      subst e1
      simp only [List.cons.injEq, Prod.mk.injEq, and_true] at e2
      exact ⟨_, _, _, _, h, hs, hl, hm, hc.trans e2.1.symm, hw.trans e2.2.symm, rfl, rfl⟩
  · rintro ⟨s, v, line, m, h, hs, hl, hm, hc, hw, rfl, rfl⟩
    exact .snoc h hl hs hm hc hw
theorem cost_nil {ms : List (List Mv)} {a x : Int} : Cost ms [] a x ↔ a = 0 ∧ x = 0 := by
  constructor
  · intro h
    generalize e : ([] : List (Int × Int)) = qs at h
    cases h with
    | nil => exact ⟨rfl, rfl⟩
    | snoc => exact absurd e (by simp)
  · rintro ⟨rfl, rfl⟩
    exact .nil
/-- a dict of the least sums by standing places -/
structure Front (ms : List (List Mv)) (ps : List (Int × Int)) (P : List (Int × Int)) : Prop where
  nd : (keysOf P).Nodup
  least : ∀ a, IsMin (Cost ms ps a) (valU P a)
theorem Front.key {ms : List (List Mv)} (ok : WearOk ms) {ps P : List (Int × Int)} (h : Front ms ps P) {s : Int} (hs : s ∈ keysOf P) : ∃ v, valU P s = some v ∧ Cost ms ps s v ∧ 0 ≤ s ∧ s < ms.length := by
  cases e : valU P s with
  | none => exact absurd hs (val_none.mp e)
  | some v =>
    have := h.least s
    rw [e] at this
    have z := this.1.place ok
    exact ⟨v, rfl, this.1, z.1, z.2.1⟩
theorem Front.nil (ms : List (List Mv)) : Front ms [] [(0, 0)] := by
  refine ⟨by simp [keysOf], fun a => ?_⟩
  by_cases c : 0 = a
  · rw [valU_pos (by exact c)]
    exact ⟨cost_nil.mpr ⟨c.symm, rfl⟩, fun x h => by have := (cost_nil.mp h).2; show (0 : Int) ≤ x; omega⟩
  · rw [valU_neg (by exact c)]
    exact fun x h => c (cost_nil.mp h).1.symm
/-- all sums, to whatever place -/
def Total (ms : List (List Mv)) (ps : List (Int × Int)) (x : Int) : Prop := ∃ a, Cost ms ps a x
/-- the least of the values -/
theorem Front.total {ms : List (List Mv)} {ps P : List (Int × Int)} (h : Front ms ps P) {o : Option Int} (ho : IsMin (fun x => x ∈ P.map (·.2)) o) : IsMin (Total ms ps) o := by
  have mem : ∀ x, x ∈ P.map (·.2) ↔ ∃ a, valU P a = some x := fun x => by
    rw [List.mem_map]
    constructor
    · rintro ⟨⟨a, y⟩, hp, rfl⟩
      obtain ⟨i, hi, e⟩ := List.mem_iff_getElem.mp hp
      exact ⟨a, val_at h.nd (i := i) (by rw [List.getElem?_eq_getElem hi, e])⟩
    · rintro ⟨a, e⟩
      exact ⟨(a, x), val_mem e, rfl⟩
  cases o with
  | none =>
    rintro x ⟨a, hx⟩
    have := h.least a
    cases e : valU P a with
    | none => rw [e] at this; exact this x hx
    | some v => exact ho v ((mem v).mpr ⟨a, e⟩)
  | some v =>
    obtain ⟨a, e⟩ := (mem v).mp ho.1
    have ha := h.least a
    rw [e] at ha
    refine ⟨⟨a, ha.1⟩, ?_⟩
    rintro x ⟨b, hx⟩
    have hb := h.least b
    cases e2 : valU P b with
    | none => rw [e2] at hb; exact absurd hx (hb x)
    | some u =>
      rw [e2] at hb
      have h1 := hb.2 x hx
      have h2 := ho.2 u ((mem u).mpr ⟨b, e2⟩)
      omega
def oU : Option Int → U
  | none => .non
  | some v => .int v
end SV
namespace SV
open PySem PySem.Spec PyProof.Rows L2 SL
/-! ### a def proved by hand: what is new is frozen at its end -/
open Classical in
noncomputable def landG (G H H' : Hp) (S : Addr → Prop) : Hp := fun b => if H b = none ∧ S b then H' b else G b
theorem landG_new {G H H' : Hp} {S : Addr → Prop} {b : Addr} (n : H b = none) (s : S b) : landG G H H' S b = H' b := if_pos ⟨n, s⟩
theorem landG_old {G H H' : Hp} {S : Addr → Prop} {b : Addr} {o : HO} (h : H b = some o) : landG G H H' S b = G b := if_neg fun z => by rw [h] at z; cases z.1
theorem landG_same {G H H' : Hp} {S : Addr → Prop} (w : Vw G H) : Same G (landG G H H' S) := fun b o e => by
  cases h : H b with
  | none => rw [w.free h] at e; cases e
  | some x => rw [landG_old h]; exact e
theorem land {b : PT} {pp q : Addr} {G H H' : Hp} (w : Vw G H) (p : Pl b pp q G H) (s : Same H H') (S : Addr → Prop) : Gr b pp q G H (landG G H H' S) H' := by
  refine ⟨⟨landG_same w, fun a o e => ?_, fun a o _ e g => ⟨fun _ => by rw [landG_old e]; exact g, s _ _ e⟩, p.same s fun a => ?_⟩, fun a o e => ?_⟩
  · cases h : H a with
    | none =>
      unfold landG at e
      split at e
      · exact .inl e
      · rw [w.free h] at e; cases e
    | some x =>
      rw [landG_old h] at e
      rcases w a o e with k | ⟨k1, ob, k⟩
      · exact .inl (s _ _ k)
      · exact .inr ⟨k1, ob, s _ _ k⟩
  · cases e : H a with
    | none => exact .inr rfl
    | some x => exact .inl (landG_old e)
  · rcases w a o e with k | ⟨k1, ob, k⟩
    · exact .inl ((s _ _ k).trans k.symm)
    · exact .inl ((s _ _ k).trans k.symm)
/-! ### the ways of one standing place -/
def wKey (m : Mv) : List Key := [.inl m.c, .inl m.w]
def waysStep (acc : List (List Key × List (Int × Int))) (m : Mv) : List (List Key × List (Int × Int)) :=
  let ps := (valU acc (wKey m)).getD []
  let g := (valU ps m.n).getD m.p
  putU acc (wKey m) (putU ps m.n (if g < m.p then g else m.p))
def waysL (l : List Mv) : List (List Key × List (Int × Int)) := l.foldl waysStep []
def waysU (l : List Mv) : U := .dit ((waysL l).map fun kv => (kv.1, .dic (pd kv.2)))
theorem waysL_snoc (l : List Mv) (m : Mv) : waysL (l ++ [m]) = waysStep (waysL l) m := by
  unfold waysL
  rw [List.foldl_append]
  rfl
/-- the prices from one cell to another, by the next standing place -/
def Ways (l : List Mv) (c w a x : Int) : Prop := ∃ m ∈ l, m.c = c ∧ m.w = w ∧ m.n = a ∧ x = m.p
theorem waysStep_val (acc : List (List Key × List (Int × Int))) (m : Mv) (k : List Key) : valU (waysStep acc m) k = if k = wKey m then some (putU ((valU acc (wKey m)).getD []) m.n (if ((valU ((valU acc (wKey m)).getD []) m.n).getD m.p) < m.p then ((valU ((valU acc (wKey m)).getD []) m.n).getD m.p) else m.p)) else valU acc k := valU_put _ _ _ _
theorem rev_ind {α : Type} {p : List α → Prop} (h0 : p []) (h1 : ∀ l x, p l → p (l ++ [x])) (l : List α) : p l := by
  rw [← List.reverse_reverse l]
  generalize l.reverse = r
  induction r with
  | nil => exact h0
  | cons x r ih =>
    rw [List.reverse_cons]
    exact h1 _ _ ih
theorem ways_ok (l : List Mv) (c w : Int) : (keysOf ((valU (waysL l) [.inl c, .inl w]).getD [])).Nodup ∧ ∀ a, IsMin (Ways l c w a) (valU ((valU (waysL l) [.inl c, .inl w]).getD []) a) := by
  revert l
  refine rev_ind ?_ fun l m ih => ?_
  · exact ⟨List.nodup_nil, fun a x h => by obtain ⟨m, hm, _⟩ := h; cases hm⟩
  · rw [waysL_snoc, waysStep_val]
    by_cases e : ([.inl c, .inl w] : List Key) = wKey m
    · have ec : c = m.c := Sum.inl.inj (List.cons.inj e).1
      have ew : w = m.w := Sum.inl.inj (List.cons.inj (List.cons.inj e).2).1
      rw [if_pos e, ← e]
      obtain ⟨h1, h2⟩ := ih
      refine ⟨nodup_put h1 _ _, fun a => ?_⟩
      show IsMin _ (valU (putU _ _ _) a)
      rw [valU_put]
      by_cases ea : a = m.n
      · subst ea
        rw [if_pos rfl]
        refine ((h2 m.n).meet m.p).congr fun x => ?_
        constructor
        · rintro (⟨m', hm, q⟩ | rfl)
          · exact ⟨m', List.mem_append_left _ hm, q⟩
          · exact ⟨m, List.mem_append_right _ (List.mem_singleton.mpr rfl), ec.symm, ew.symm, rfl, rfl⟩
        · rintro ⟨m', hm, q⟩
          rcases List.mem_append.mp hm with hm | hm
          · exact .inl ⟨m', hm, q⟩
          · rw [List.mem_singleton.mp hm] at q
            exact .inr q.2.2.2
      · rw [if_neg ea]
        refine (h2 a).congr fun x => ⟨fun ⟨m', hm, q⟩ => ⟨m', List.mem_append_left _ hm, q⟩, fun ⟨m', hm, q⟩ => ?_⟩
        rcases List.mem_append.mp hm with hm | hm
        · exact ⟨m', hm, q⟩
        · rw [List.mem_singleton.mp hm] at q
          exact absurd q.2.2.1.symm ea
    · rw [if_neg e]
      refine ⟨ih.1, fun a => (ih.2 a).congr fun x => ⟨fun ⟨m', hm, q⟩ => ⟨m', List.mem_append_left _ hm, q⟩, fun ⟨m', hm, q⟩ => ?_⟩⟩
      rcases List.mem_append.mp hm with hm | hm
      · exact ⟨m', hm, q⟩
      · rw [List.mem_singleton.mp hm] at q
        exact absurd (by unfold wKey; rw [q.1, q.2.1]) e
theorem map_put {κ α β : Type} [DecidableEq κ] (f : α → β) (P : List (κ × α)) (k : κ) (v : α) : (putU P k v).map (fun kv => (kv.1, f kv.2)) = putU (P.map fun kv => (kv.1, f kv.2)) k (f v) := by
  unfold putU
  rw [List.any_map]
  by_cases c : (P.any fun kv => decide (kv.1 = k)) = true
  · rw [if_pos c, if_pos (by exact c), List.map_map, List.map_map]
    refine List.map_congr_left fun x _ => ?_
    show (fun kv : κ × α => (kv.1, f kv.2)) (if x.1 = k then (x.1, v) else x) = if x.1 = k then (x.1, f v) else (x.1, f x.2)
    by_cases e : x.1 = k
    · rw [if_pos e, if_pos e]
    · rw [if_neg e, if_neg e]
  · rw [if_neg c, if_neg (by exact c), List.map_append]
    rfl
theorem map_val {κ α β : Type} [DecidableEq κ] (f : α → β) (P : List (κ × α)) (k : κ) : valU (P.map fun kv => (kv.1, f kv.2)) k = (valU P k).map f := by
  induction P with
  | nil => rfl
  | cons p r ih =>
    rw [List.map_cons]
    by_cases c : p.1 = k
    · rw [valU_pos (by exact c), valU_pos c]; rfl
    · rw [valU_neg (by exact c), valU_neg c, ih]
/-- a dict of numbers, by L2's values -/
def pdV (P : List (Int × Int)) : List (Key × V) := P.map fun kv => (Sum.inl kv.1, V.int kv.2)
theorem pdV_rp {pp : Addr} {G : Hp} : ∀ P : List (Int × Int), RpD pp G (pdV P) (pd P)
  | [] => .nil
  | _ :: r => .cons (.int _) (pdV_rp r)
theorem valV_eq {κ : Type} [DecidableEq κ] (kvs : List (κ × V)) (k : κ) : valV kvs k = valU kvs k := rfl
theorem putK_eq {κ : Type} [DecidableEq κ] (kvs : List (κ × V)) (k : κ) (v : V) : putK kvs k v = putU kvs k v := rfl
theorem pdV_val (P : List (Int × Int)) (s : Int) : valV (pdV P) (Sum.inl s) = (valU P s).map V.int := by
  induction P with
  | nil => rfl
  | cons p r ih =>
    show valV ((Sum.inl p.1, V.int p.2) :: pdV r) (Sum.inl s) = _
    by_cases c : p.1 = s
    · rw [valV_pos (by show (Sum.inl p.1 : Key) = _; rw [c]), valU_pos c]
      rfl
    · rw [valV_neg (by show ¬ (Sum.inl p.1 : Key) = _; exact fun z => c (Sum.inl.inj z)), valU_neg c, ih]
theorem pdV_put (P : List (Int × Int)) (s v : Int) : putK (pdV P) (Sum.inl s) (.int v) = pdV (putU P s v) := by
  have an : ∀ Q : List (Int × Int), ((pdV Q).any fun kv => decide (kv.1 = Sum.inl s)) = Q.any fun kv => decide (kv.1 = s) := fun Q => by
    induction Q with
    | nil => rfl
    | cons p r ih =>
      show (decide ((Sum.inl p.1 : Key) = Sum.inl s) || (pdV r).any _) = (decide (p.1 = s) || r.any _)
      rw [ih, key_ll, Bool.beq_eq_decide_eq]
  unfold putK putU
  rw [an]
  by_cases c : (P.any fun kv => decide (kv.1 = s)) = true
  · rw [if_pos c, if_pos c]
    unfold pdV
    rw [List.map_map, List.map_map]
    refine List.map_congr_left fun p _ => ?_
    show (if (Sum.inl p.1 : Key) = Sum.inl s then ((Sum.inl p.1 : Key), V.int v) else _) = ((fun kv : Int × Int => ((Sum.inl kv.1 : Key), V.int kv.2)) (if p.1 = s then (p.1, v) else p))
    by_cases e : p.1 = s
    · rw [if_pos (by rw [e]), if_pos e]
    · rw [if_neg fun z => e (Sum.inl.inj z), if_neg e]
  · rw [if_neg c, if_neg c]
    unfold pdV
    rw [List.map_append]
    rfl
theorem pdV_len (P : List (Int × Int)) : (pdV P).length = P.length := by unfold pdV; rw [List.length_map]
theorem atI_int {α : Type} {xs : List α} {s : Int} {x : α} (h : 0 ≤ s) (e : xs[s.toNat]? = some x) : L2.atI xs s = some x := by
  have l := (List.getElem?_eq_some_iff.mp e).1
  unfold L2.atI ixN
  rw [if_pos h, if_pos (by omega)]
  exact e
theorem nodup_le : ∀ (n : Nat) (l : List Int), l.Nodup → (∀ x ∈ l, 0 ≤ x ∧ x < n) → l.length ≤ n
  | 0, l, _, h => by
    cases l with
    | nil => exact Nat.le_refl _
    | cons x r => have := h x (List.mem_cons_self ..); omega
  | n + 1, l, nd, h => by
    by_cases c : (n : Int) ∈ l
    · have e := List.length_erase_of_mem c
      have ih := nodup_le n (l.erase (n : Int)) (nd.erase _) fun x hx => by
        have hx' := (nd.mem_erase_iff).mp hx
        have := h x hx'.2
        have := hx'.1
        omega
      omega
    · have ih := nodup_le n l nd fun x hx => by
        have := h x hx
        have : x ≠ n := fun e => c (e ▸ hx)
        omega
      omega
theorem val_key {κ α : Type} [DecidableEq κ] {P : List (κ × α)} {k : κ} {v : α} (h : valU P k = some v) : k ∈ keysOf P := Classical.byContradiction fun z => by rw [val_none.mpr z] at h; cases h
/-- only the least of W is met, each a little later -/
theorem IsMin.swap {S W : Int → Prop} {o m : Option Int} {v : Int} (hm : IsMin W m) (h : IsMin (fun x => S x ∨ ∃ y, m = some y ∧ x = v + y) o) : IsMin (fun x => S x ∨ ∃ y, W y ∧ x = v + y) o := by
  cases o with
  | none =>
    rintro x (hx | ⟨y, hy, _⟩)
    · exact h x (.inl hx)
    · cases m with
      | none => exact hm y hy
      | some y0 => exact h (v + y0) (.inr ⟨y0, rfl, rfl⟩)
  | some v0 =>
    refine ⟨?_, ?_⟩
    · rcases h.1 with hx | ⟨y, rfl, e⟩
      · exact .inl hx
      · exact .inr ⟨y, hm.1, e⟩
    · rintro x (hx | ⟨y, hy, rfl⟩)
      · exact h.2 x (.inl hx)
      · cases m with
        | none => exact absurd hy (hm y)
        | some y0 =>
          have h1 := h.2 (v + y0) (.inr ⟨y0, rfl, rfl⟩)
          have h2 := hm.2 y hy
          omega
end SV
/-! Short facts of values: ints compared, rows, ranges. -/
namespace SV
open PySem PySem.Spec PyProof.Rows L2 SL
theorem fEq_int (a b : Int) : fEq (.int a) (.int b) = some (.bl (decide (a = b))) := by
  rfl
theorem fNe_int (a b : Int) : fNe (.int a) (.int b) = some (.bl (!decide (a = b))) := by
  rfl
theorem rowIx {r : List Int} {i : Nat} {c : Int} (e : r[i]? = some c) : fIx (rowV r) (.int (i : Int)) = some (.int c) :=
  atI_int (xs := r.map U.int) (by omega) (by rw [List.getElem?_map, Int.toNat_natCast, e]; rfl)
theorem lstIx {us : List U} {i : Nat} {u : U} (e : us[i]? = some u) : fIx (.lst us) (.int (i : Int)) = some u :=
  atI_int (by omega) (by rw [Int.toNat_natCast]; exact e)
theorem upto_at {lo : Int} {n i : Nat} {u : U} (h : (upto lo n)[i]? = some u) : i < n ∧ u = .int (lo + (i : Int)) := by
  have l : i < n := by
    have := (List.getElem?_eq_some_iff.mp h).1
    rwa [upto_len] at this
  rw [upto_get l] at h
  cases h
  exact ⟨l, rfl⟩
theorem upto_at0 {n i : Nat} {u : U} (h : (upto 0 n)[i]? = some u) : i < n ∧ u = .int (i : Int) := by
  obtain ⟨a, b⟩ := upto_at h
  rw [Int.zero_add] at b
  exact ⟨a, b⟩
theorem rowV_inj {r s : List Int} (h : rowV r = rowV s) : r = s := by
  have h' : r.map U.int = s.map U.int := U.tup.inj h
  exact List.map_inj_right (fun _ _ e => U.int.inj e) |>.mp h'
theorem rowV_asks {cs : List Addr} (r : List Int) : asksT cs (rowV r) := fun u hu => by
  obtain ⟨i, _, rfl⟩ := List.mem_map.mp hu
  trivial
theorem rowV_row {r : List Int} (h : bits r) : rowU (rowV r) = true := by
  rw [rowU_ints]
  refine List.all_eq_true.mpr fun c hc => ?_
  rcases h c hc with rfl | rfl <;> rfl
theorem fNe_of {x y : U} (h : eqU x y = some true) : fNe x y = some (.bl false) := by
  unfold fNe
  rw [h]
  rfl
theorem fEq_of {x y : U} (h : eqU x y = some true) : fEq x y = some (.bl true) := by
  unfold fEq
  rw [h]
  rfl
theorem lineIx {us : List U} {i : Nat} {u : U} (e : us[i]? = some u) : fIx (.tup us) (.int (i : Int)) = some u :=
  atI_int (by omega) (by rw [Int.toNat_natCast]; exact e)
def bMinT : FB := fun us post => ∃ ns : List Int, us = [.tup (ns.map U.int)] ∧ 0 < ns.length ∧ ∀ m, m ∈ ns → (∀ y ∈ ns, m ≤ y) → post (.int m)
theorem b_minT {K : PySem.W.Frag} : CallOk (rMinT K) bMinT := by
  intro b pp q G H vs us Q post w p hv hF k
  obtain ⟨ns, rfl, hl, hp⟩ := hF
  cases hv with
  | cons r t =>
    cases t
    cases r with
    | tup h kk z =>
      obtain rfl := kk.ints
      exact ⟨_, ns, rfl, SqT.of (w.tup h), hl, fun m h1 h2 => k _ _ G H (hp m h1 h2) (Gr.refl w p) (.int _)⟩
def bMaxT : FB := fun us post => ∃ ns : List Int, us = [.tup (ns.map U.int)] ∧ 0 < ns.length ∧ ∀ m, m ∈ ns → (∀ y ∈ ns, y ≤ m) → post (.int m)
theorem b_maxT {K : PySem.W.Frag} : CallOk (rMaxT K) bMaxT := by
  intro b pp q G H vs us Q post w p hv hF k
  obtain ⟨ns, rfl, hl, hp⟩ := hF
  cases hv with
  | cons r t =>
    cases t
    cases r with
    | tup h kk z =>
      obtain rfl := kk.ints
      exact ⟨_, ns, rfl, SqT.of (w.tup h), hl, fun m h1 h2 => k _ _ G H (hp m h1 h2) (Gr.refl w p) (.int _)⟩
/-- a part of a row -/
theorem rowCut {r : List Int} {lo hi : Nat} (h1 : lo ≤ hi) (h2 : hi ≤ r.length) : fSlT (rowV r) (some (lo : Int)) (some (hi : Int)) = some (rowV ((r.drop lo).take (hi - lo))) := by
  show some (U.tup (cutU (r.map U.int) (some (lo : Int)) (some (hi : Int)))) = _
  unfold cutU
  rw [HT.sIx_nat, HT.sIx_nat, List.length_map, Nat.min_eq_left h2, Nat.min_eq_left (Nat.le_trans h1 h2), ← List.map_drop, ← List.map_take]
end SV
/-! The value layer: x in y, of texts and of lists and tuples of short things; texts ordered. -/
namespace SV
open PySem PySem.Spec PyProof.Rows L2 SL
def strIn (i j : Str) : Bool := !(Builtin.Str.occurrences j i 0 j.length 1).isEmpty
def rInV (K : PySem.W.Frag) (neg : Bool) : R2 := fun x y H Q => (∃ i j, x = .str i ∧ y = .str j ∧ Q (.bl (if neg then !strIn i j else strIn i j)) H) ∨ rIn K neg x y H Q
theorem op_inV {X : Cx} (K : PySem.W.Frag) (hK : X.K = K := by rfl) : OpR X (compareOp .In) (rInV K false) := by
  subst hK
  intro pins s σ H x y v u Q I rx ry h
  rcases h with ⟨i, j, e1, e2, q⟩ | h
  · exact op_in_str pins s σ H x y v u Q I rx ry ⟨i, j, e1, e2, q⟩
  · exact op_in_seq pins s σ H x y v u Q I rx ry h
theorem op_notInV {X : Cx} (K : PySem.W.Frag) (hK : X.K = K := by rfl) : OpR X (compareOp .NotIn) (rInV K true) := by
  subst hK
  intro pins s σ H x y v u Q I rx ry h
  rcases h with ⟨i, j, e1, e2, q⟩ | h
  · exact op_notin_str pins s σ H x y v u Q I rx ry ⟨i, j, e1, e2, q⟩
  · exact op_notIn_seq pins s σ H x y v u Q I rx ry h
/-- a short thing, as the heap has it -/
def flatU : U → Option V
  | .non => some .non
  | .bl b => some (.bl b)
  | .int i => some (.int i)
  | .str s => some (.str s)
  | _ => none
def flatsU : List U → Option (List V)
  | [] => some []
  | u :: us => match flatU u, flatsU us with
    | some v, some vs => some (v :: vs)
    | _, _ => none
theorem flat_rp {pp : Addr} {G : Hp} {v v' : V} {u : U} (h : Rp pp G v u) (e : flatU u = some v') : v = v' ∧ flatV v = true := by
  cases h <;> cases e <;> exact ⟨rfl, rfl⟩
theorem flat_bp {pp : Addr} {G H : Hp} {v v' : V} {u : U} (h : Bp pp G H v u) (e : flatU u = some v') : v = v' ∧ flatV v = true := by
  cases h <;> cases e <;> exact ⟨rfl, rfl⟩
theorem flats_rp {pp : Addr} {G : Hp} : ∀ {vs vs' : List V} {us : List U}, RpL pp G vs us → flatsU us = some vs' → vs = vs' ∧ vs.all flatV = true
  | _, _, _, .nil, e => by cases e; exact ⟨rfl, rfl⟩
  | _, _, _, .cons (u := u) (us := us) h t, e => by
    unfold flatsU at e
    cases q1 : flatU u with
    | none => rw [q1] at e; cases e
    | some v =>
      cases q2 : flatsU us with
      | none => rw [q1, q2] at e; cases e
      | some vs =>
        rw [q1, q2] at e
        cases e
        obtain ⟨rfl, f1⟩ := flat_rp h q1
        obtain ⟨rfl, f2⟩ := flats_rp t q2
        exact ⟨rfl, by rw [List.all_cons, f1, f2]; rfl⟩
def seqIn (neg : Bool) (x : U) (us : List U) : Option U := match flatU x, flatsU us with
  | some v, some vs => some (.bl (if neg then !inV v vs else inV v vs))
  | _, _ => none
def fIn (neg : Bool) : U → U → Option U
  | .str i, .str j => some (.bl (if neg then !strIn i j else strIn i j))
  | x, .lst us => seqIn neg x us
  | x, .tup us => seqIn neg x us
  | _, _ => none
theorem in_run {K : PySem.W.Frag} {neg : Bool} : OpOk (rInV K neg) (fIn neg) := by
  intro b pp q G H v1 v2 x y u Q w p h1 h2 e k
  have seq : ∀ {a : Addr} {vs : List V} {us : List U}, (SqL K H a vs ∨ SqT K H a vs) → RpL pp G vs us → seqIn neg x us = some u → v2 = .ref a → rInV K neg v1 v2 H Q := fun {a vs us} hs kk e e2 => by
    unfold seqIn at e
    cases q1 : flatU x with
    | none => rw [q1] at e; cases e
    | some v =>
      cases q2 : flatsU us with
      | none => rw [q1, q2] at e; cases e
      | some vs' =>
        rw [q1, q2] at e
        cases e
        obtain ⟨rfl, f1⟩ := flat_bp h1 q1
        obtain ⟨rfl, f2⟩ := flats_rp kk q2
        exact .inr ⟨a, vs, e2, hs, f1, f2, k _ G H (Gr.refl w p) (.bl _)⟩
  cases h2 with
  | @lst a vs us h kk z =>
    have e' : seqIn neg x us = some u := by cases x <;> exact e
    exact seq (.inl (SqL.of h)) kk e' rfl
  | @tup a vs us h kk z =>
    have e' : seqIn neg x us = some u := by cases x <;> exact e
    exact seq (.inr (SqT.of (w.tup h))) kk e' rfl
  | str s z =>
    cases x with
    | str i =>
      cases e
      cases h1
      exact .inl ⟨_, _, rfl, rfl, k _ G H (Gr.refl w p) (.bl _)⟩
    | _ => cases e
  | _ => cases x <;> cases e
theorem o_in {K : PySem.W.Frag} : OpOk (rInV K false) (fIn false) := in_run
theorem o_notIn {K : PySem.W.Frag} : OpOk (rInV K true) (fIn true) := in_run
theorem flats_int (ns : List Int) : flatsU (ns.map U.int) = some (ns.map V.int) := by
  induction ns with
  | nil => rfl
  | cons n ns ih =>
    show (match flatU (.int n), flatsU (ns.map U.int) with | some v, some vs => some (v :: vs) | _, _ => none) = _
    rw [ih]
    rfl
theorem flats_str (ns : List Str) : flatsU (ns.map U.str) = some (ns.map V.str) := by
  induction ns with
  | nil => rfl
  | cons n ns ih =>
    show (match flatU (.str n), flatsU (ns.map U.str) with | some v, some vs => some (v :: vs) | _, _ => none) = _
    rw [ih]
    rfl
theorem inV_int (i : Int) (ns : List Int) : inV (.int i) (ns.map V.int) = decide (i ∈ ns) := by
  unfold inV
  rw [List.any_map, Bool.eq_iff_iff, decide_eq_true_eq, List.any_eq_true]
  refine ⟨fun ⟨y, hy, e⟩ => ?_, fun h => ⟨i, h, beq_self_eq_true i⟩⟩
  have e' : (y == i) = true := e
  rw [← eq_of_beq e']
  exact hy
theorem inV_str (i : Str) (ns : List Str) : inV (.str i) (ns.map V.str) = decide (i ∈ ns) := by
  unfold inV
  rw [List.any_map, Bool.eq_iff_iff, decide_eq_true_eq, List.any_eq_true]
  refine ⟨fun ⟨y, hy, e⟩ => ?_, fun h => ⟨i, h, beq_self_eq_true i⟩⟩
  have e' : (y == i) = true := e
  rw [← eq_of_beq e']
  exact hy
theorem in_ints (i : Int) (ns : List Int) : fIn false (.int i) (.tup (ns.map U.int)) = some (.bl (decide (i ∈ ns))) := by
  show seqIn false (.int i) (ns.map U.int) = _
  unfold seqIn
  rw [flats_int]
  show some (U.bl (inV (.int i) (ns.map V.int))) = _
  rw [inV_int]
theorem in_strs (i : Str) (ns : List Str) : fIn false (.str i) (.tup (ns.map U.str)) = some (.bl (decide (i ∈ ns))) := by
  show seqIn false (.str i) (ns.map U.str) = _
  unfold seqIn
  rw [flats_str]
  show some (U.bl (inV (.str i) (ns.map V.str))) = _
  rw [inV_str]
theorem notin_strs (i : Str) (ns : List Str) : fIn true (.str i) (.tup (ns.map U.str)) = some (.bl (!decide (i ∈ ns))) := by
  show seqIn true (.str i) (ns.map U.str) = _
  unfold seqIn
  rw [flats_str]
  show some (U.bl (!inV (.str i) (ns.map V.str))) = _
  rw [inV_str]
end SV
namespace SV
open PySem PySem.Spec PyProof.Rows L2 SL
abbrev SG : Str := "0123456789abcdefghijklmnopqrstuvwxyz"
/-- < of two ints or two texts -/
def ltU : U → U → Option Bool
  | .int i, .int j => some (decide (i < j))
  | .str s, .str t => some (decide (s.cps.toList < t.cps.toList))
  | _, _ => none
def fLtD : U → U → Option U := fun x y => (ltU x y).map .bl
theorem o_ltD : OpOk rLtD fLtD := by
  intro b pp q G H v1 v2 x y u Q w p h1 h2 e k
  unfold fLtD at e
  cases h1 with
  | int i =>
    cases h2 with
    | int j =>
      cases e
      exact .inl ⟨_, _, rfl, rfl, k _ G H (Gr.refl w p) (.bl _)⟩
    | _ => cases e
  | str s z =>
    cases h2 with
    | str t z2 =>
      cases e
      exact .inr ⟨_, _, rfl, rfl, k _ G H (Gr.refl w p) (.bl _)⟩
    | _ => cases e
  | _ => cases h2 <;> cases e
/-- each lies below the next -/
def risU (xs : List U) : Bool := (xs.zip (xs.drop 1)).all fun p => (ltU p.1 p.2).getD false
/-- one sign of the alphabet -/
def signU : U → Bool
  | .str s => decide (s.length = 1) && strIn s SG
  | _ => false
theorem tailU (us : List U) : fSlT (.tup us) (some 1) none = some (.tup (us.drop 1)) := by
  show some (U.tup (cutU us (some 1) none)) = _
  unfold cutU
  rw [show HT.sIx us.length us.length none = us.length from rfl, show HT.sIx us.length 0 (some 1) = min 1 us.length from HT.sIx_nat _ _ 1, List.take_of_length_le (by rw [List.length_drop]; exact Nat.le_refl _)]
  cases us <;> rfl
/-- len of a text -/
def bLenS : FB := fun us post => ∃ s : Str, us = [.str s] ∧ post (.int (s.length : Int))
end SV
namespace SV
open PySem PySem.Spec PyProof.Rows L2 SL
/-- products and quotients of great numbers -/
theorem o_mulW : OpOk (rI CMulW fun i j => .int (i * j)) (fIIc (fun i j => decide (i.natAbs.log2 + j.natAbs.log2 < 1000000)) fun i j => .int (i * j)) := o_IIc fun _ _ h => of_decide_eq_true h
theorem o_fdivW : OpOk (rI CDivW fun i j => .int (i / j)) (fIIc (fun _ j => decide (0 < j ∧ j.natAbs.log2 < 9000)) fun i j => .int (i / j)) := o_IIc fun _ _ h => of_decide_eq_true h
end SV
/-! The value layer: xs.append(ys.pop(e)), both one's own. -/
namespace SV
open PySem PySem.Spec PyProof.Rows L2 SL
theorem RpL.erase {pp : Addr} {G : Hp} {vs : List V} {us : List U} (k : RpL pp G vs us) (i : Nat) : RpL pp G (vs.eraseIdx i) (us.eraseIdx i) := by
  rw [List.eraseIdx_eq_take_drop_succ, List.eraseIdx_eq_take_drop_succ]
  exact (k.drop _).append (k.take _)
theorem seqIx {n : Int} {l : Nat} (h0 : 0 ≤ n) (h1 : n < l) : seqIndex? n l = some n.toNat := by
  have e : (if n < 0 then n + (l : Int) else n) = n := if_neg (by omega)
  show (if (decide (0 ≤ (if n < 0 then n + (l : Int) else n)) && decide ((if n < 0 then n + (l : Int) else n) < (l : Int))) = true then some (if n < 0 then n + (l : Int) else n).toNat else none) = _
  rw [e, decide_eq_true h0, decide_eq_true h1]
  rfl
section
variable {Z : Zc} {te : TE} {we : WE}
def wAppPop (i j : Nat) (we : WE) : WS := fun V ρ => i ≠ j ∧ ∃ xs ys, ρ[i]? = some (.ow (.lst xs)) ∧ xs.length < 100000 ∧ ρ[j]? = some (.ow (.lst ys)) ∧ we ρ fun x => ∃ (n : Int) (u : U), x = .int n ∧ 0 ≤ n ∧ n ≤ 100000 ∧ ys[n.toNat]? = some u ∧ V.nx ((ρ.set j (.ow (.lst (ys.eraseIdx n.toNat)))).set i (.ow (.lst (xs ++ [u]))))
theorem s_appPop {K : PySem.W.Frag} {i j : Nat} (h : TrE Z te we) : TrS Z (tDrop (tBM K "list" rAppend (tVar i) (tCons (tBM K "list" rPopAt (tVar j) (tCons te tNil)) tNil))) (wAppPop i j we) := fun V D σ ρ G H S hw B => by
  obtain ⟨ij, xs, ys, ei, lx, ej, p⟩ := hw
  obtain ⟨a, vs, e1, h1, _, _⟩ := ow_lst S ei
  obtain ⟨b, ws, e2, h2, _, _⟩ := ow_lst S ej
  refine ⟨_, e1, .inl ⟨rfl, vs, SqL.of h1⟩, _, e2, .inl ⟨rfl, ws, SqL.of h2⟩, h σ ρ G H _ _ S p fun iv x G1 H1 p1 g1 r1 => ?_⟩
  obtain ⟨n, u, rfl, n0, n1, eu, p3⟩ := p1
  cases r1
  have S1 := S.step g1
  obtain ⟨b', ws', e2', h2', k2, z2⟩ := ow_lst S1 ej
  rw [e2] at e2'
  cases e2'
  obtain ⟨y, ey, ry⟩ := k2.got eu
  have ln : n.toNat < ys.length := (List.getElem?_eq_some_iff.mp eu).1
  have lw : ws'.length = ys.length := k2.length
  refine ⟨b, ws', n, n.toNat, y, rfl, rfl, h2', by omega, by omega, seqIx n0 (by omega), ey, ?_⟩
  have S2 := S1.put ej e2 (.lst (k2.erase n.toNat) (by have := List.length_eraseIdx_le ys n.toNat; omega))
  have ei2 : (ρ.set j (.ow (.lst (ys.eraseIdx n.toNat))))[i]? = some (.ow (.lst xs)) := by
    rw [List.getElem?_set_ne (Ne.symm ij)]
    exact ei
  obtain ⟨a', vs', e1', h1', k1, z1⟩ := ow_lst S2 ei2
  rw [e1] at e1'
  cases e1'
  refine ⟨a, vs', y, rfl, rfl, h1', lineN (by rw [k1.length]; omega), ?_⟩
  exact B.nx _ _ G1 _ (S2.put ei2 e1 (.lst (k1.snoc ry) (by rw [List.length_append]; exact lx))) ((g1.ex.trans (ow_ex S1 ej e2)).trans (ow_ex S2 ei2 e1)) p3
end
end SV
namespace SV
open PySem PySem.Spec PyProof.Rows L2 SL
def bListS : FB := fun us post => ∃ s : Str, us = [.str s] ∧ post (.lst (s.cps.toList.map chU))
theorem chs_rp {pp : Addr} {G : Hp} : ∀ cs : List Nat, RpL pp G (cs.map chV) (cs.map chU)
  | [] => .nil
  | c :: cs => .cons (.str ⟨#[c]⟩ (by show 1 ≤ 100000; decide)) (chs_rp cs)
theorem b_listS : CallOkF (fun xs H Q => ∃ z : Str, xs = [.str z] ∧ z.cps.size ≤ 100000 ∧ ∀ l, H l = none → Q (.ref l) (upd H l (.lst (z.cps.toList.map chV)))) bListS := by
  intro b pp q G H vs us Q post w p hv hF k
  obtain ⟨s, rfl, hp⟩ := hF
  cases hv with
  | cons r t =>
    cases t
    cases r with
    | str _ z =>
      refine ⟨s, rfl, z, fun l nl => ?_⟩
      exact k l _ _ _ hp (Gr.newH w p nl) nl (w.free nl) upd_same (.lst (chs_rp _) (by rw [List.length_map]; exact z))
end SV
namespace SV
open PySem PySem.Spec PyProof.Rows L2 SL
section
variable {Z : Zc} {to te : TE} {wo we : WE}
/-- a.join(ys) -/
def wJoin (wo we : WE) : WE := fun ρ post => wo ρ fun x => (∃ a : Str, x = .str a) ∧ we ρ fun y => ∃ (a : Str) (ys : List Str), x = .str a ∧ (y = .lst (ys.map U.str) ∨ y = .tup (ys.map U.str)) ∧ (ys.map (·.length)).sum + ys.length * a.length ≤ 16777216 ∧ (Txt.join a ys).length ≤ 100000 ∧ post (.str (Txt.join a ys))
theorem v_join {K : PySem.W.Frag} (ho : TrE Z to wo) (he : TrB Z te we) : TrE Z (tM1 (fun x xs H Q => ∃ a p, ∃ ys : List Str, x = .str a ∧ xs = [.ref p] ∧ (SqL K H p (ys.map V.str) ∨ SqT K H p (ys.map V.str)) ∧ (ys.map (·.length)).sum + ys.length * a.length ≤ 16777216 ∧ Q (.str (Txt.join a ys)) H) to te) (wJoin wo we) := fun σ ρ G H post Q S hw q =>
  ho σ ρ G H _ _ S hw fun v x G1 H1 w1 g1 r1 => by
    obtain ⟨⟨a, rfl⟩, w1⟩ := w1
    cases r1
    refine ⟨⟨a, rfl⟩, he σ ρ G1 H1 _ _ (S.step g1) w1 fun u y G2 H2 w2 g2 r2 => ?_⟩
    obtain ⟨a', ys, e, hy, h1, h2, p⟩ := w2
    cases e
    have vw := ((S.step g1).step g2).vw
    rcases hy with rfl | rfl
    · cases r2 with
      | lst h k z =>
        obtain ⟨rfl, _⟩ := k.strs'
        exact ⟨a, _, ys, rfl, rfl, .inl (SqL.of h), h1, q _ _ G2 H2 p (g1.trans g2) (.str _ h2)⟩
    · cases r2 with
      | tup h k z =>
        obtain ⟨rfl, _⟩ := k.strs'
        exact ⟨a, _, ys, rfl, rfl, .inr (SqT.of (vw.tup h)), h1, q _ _ G2 H2 p (g1.trans g2) (.str _ h2)⟩
/-- xs.index(e), of short things -/
def wIndex (wo we : WE) : WE := fun ρ post => wo ρ fun x => ∃ us vs, x = .lst us ∧ flatsU us = some vs ∧ we ρ fun y => ∃ (w : V) (j : Nat) (z : V), flatU y = some w ∧ vs[j]? = some z ∧ eqV z w = true ∧ (∀ (m : Nat) (z' : V), m < j → vs[m]? = some z' → eqV z' w = false) ∧ post (.int (j : Nat))
theorem v_index {K : PySem.W.Frag} (ho : TrE Z to wo) (he : TrE Z te we) : TrE Z (tBM K "list" (rIndex K) to (tCons te tNil)) (wIndex wo we) := fun σ ρ G H post Q S hw q =>
  ho σ ρ G H _ _ S hw fun v x G1 H1 w1 g1 r1 => by
    obtain ⟨us, vs, rfl, fe, w1⟩ := w1
    have S1 := S.step g1
    cases r1 with
    | @lst a vs' _ h k zz =>
      obtain ⟨rfl, fl⟩ := flats_rp k fe
      refine ⟨.inl ⟨rfl, _, SqL.of (S1.vw.lst h)⟩, he σ ρ G1 H1 _ _ S1 w1 fun u y G2 H2 w2 g2 r2 => ?_⟩
      obtain ⟨w, j, z, f2, e1, e2, e3, p⟩ := w2
      obtain ⟨rfl, ff⟩ := flat_rp r2 f2
      exact ⟨a, _, u, j, z, rfl, rfl, SqL.of ((S1.step g2).vw.lst (g2.gg _ _ h)), ff, fl, e1, e2, e3, q _ _ G2 H2 p (g1.trans g2) (.int _)⟩
end
end SV
namespace SV
open PySem PySem.Spec PyProof.Rows L2 SL
/-- a def called with its last arguments left out -/
structure FnD (P : Program) (w : World) (K : PySem.W.Frag) (mg : Str → Option Value) (base : Heap) (CX : CXT) (k : Nat) (x : Str) (ps : List Str) (ds : List Value) (sp : Sp) : Prop where
  ex : ∃ (f : Addr) (fd : FuncData), FnOk P w K mg base CX k f fd ps sp ∧ mg x = some (.ref f) ∧ PySem.W.keepIn K (.ref f) = true ∧ L2.Binds K fd ps ds
section
variable {X : Cx} {CX : CXT} {k j : Nat} {x : Str} {ps : List Str} {ds : List Value} {dvs : List V} {sp : Sp} {e : Expr} {es : List Expr} {t : TA} {p pos : Pos}
theorem pe_fD {E : XK} (c : FnD X.prog X.w X.K X.mg X.base CX k x ps ds sp) (hd : Vals dvs ds) (hr : Room j X.A) (hk : k ≤ j) (hx : Passes CX X E) (ha : PA X (e :: es) t) (hg : Gl X x := by rfl) (hdb : (x == ("__debug__" : Str)) = false := by decide)
    (he : starEach (e :: es) X.env = (false, eval e X.env) :: starEach es X.env := by rfl) (hpl : (backTo pos (starEach es X.env)).any (·.1) = false := by rfl) : PE X (.Call (.Name x p) (e :: es) [] pos) (tCall sp dvs E t) := by
  obtain ⟨f, fd, F, hm, hkp, hb⟩ := c.ex
  exact pe_call F (hr.mono hk) hg hm hkp hb hd hx ha hdb he hpl
end
section
variable {Z : Zc} {tA : TA} {wA : WA}
def wCallD (n : Nat) (W : Wf) (ew : EW) (dus : List U) (wA : WA) : WE := fun ρ post => wA ρ fun us => (us ++ dus).length = n ∧ W (us ++ dus) post ew
theorem v_callD {b : PT} {n : Nat} {W : Wf} {dvs : List V} {dus : List U} (hd : ∀ pp G, RpL pp G dvs dus) (hb : PLe b Z.b) (h : TrA Z tA wA) : TrE Z (tCall (spV b n W) dvs E0 tA) (wCallD n W (fun _ _ => False) dus wA) := fun σ ρ G H post Q S hw q =>
  h σ ρ G H _ _ S hw fun vs us G1 H1 p1 g1 r1 => spV_of (S.step g1) hb (fun _ _ _ _ _ _ a => a.elim) (RpL.append (hd _ _) r1) p1.1 p1.2 fun v u G' H' p g r => q v u G' H' p (g1.trans g) r
end
end SV
/-! The value layer: defs with defaults. -/
namespace SV
open PySem PySem.Spec PyProof.Rows L2 SL
abbrev FunV (K : PySem.W.Frag) (x qual : Str) (st : Stmt) (dvs : List V) (f : Addr) (fd : FuncData) : Prop := FunD K x qual (defArgs st) (defBody st) (defScope st) dvs [] f fd
section
variable {P : Program} {w : World} {K : PySem.W.Frag} {mg : Str → Option Value} {base : Heap}
theorem funv_mk {x qual : Str} {st : Stmt} {f T : Addr} {oc ocT : Value} {od an odT : Option Addr} {osl slT : Array (Option Value)} {kV doc pm cdv ct : Value} {its : List Value} {n : Nat} {dvs : List V} (l : K.lookup f = some ⟨oc, od, .func (PySem.W.fnOf x qual (defArgs st) (defBody st) (defScope st) (.ref T) kV doc pm an cdv ct), osl⟩)
    (c : PySem.W.codeIn K cdv qual = true) (k : PySem.W.keepIn K (.ref f) = true) (hd : dvs ≠ []) (lT : K.lookup T = some ⟨ocT, odT, .seq its.toArray n, slT⟩) (r : Vals dvs its) : FunV K x qual st dvs f (PySem.W.fnOf x qual (defArgs st) (defBody st) (defScope st) (.ref T) kV doc pm an cdv ct) :=
  ⟨⟨oc, od, _, kV, doc, pm, an, cdv, ct, osl, rfl, l, c, .inr ⟨hd, T, _, its, n, rfl, lT, rfl, r⟩, .inl rfl⟩, k⟩
/-- a def with defaults that raises nothing -/
theorem okVD {b : PT} {n : Nat} {W : Wf} {x qual : Str} {st : Stmt} {f : Addr} {fd : FuncData} {N ps : List Str} {k : Nat} {dvs : List V} (F : FunV K x qual st dvs f fd) (S : FnScope N ps (defScope st)) (hn : ps.length = n) (hN : n ≤ N.length)
    (hbody : ∀ (cdv : Value) (A : Around) (outer : List Env) (s : Shared) (H : Hp) (E : XK), Room k (A.deeper (envOfC qual (defScope st) s.heap.objs.size f cdv)) →
      ∃ t, PSs (cxOf CX0 P w K mg base N qual (defScope st) f cdv A outer s H E).nox (defBody st) t ∧ ∀ Z : Zc, Z.b = b → Z.E = E → Z.mays (fun _ => true) → ∃ w, TrS Z t w ∧ ∀ us post, us.length = n → W us post Z.ew → w { nx := fun _ => post .non, rt := post } (us.map Cell.fz ++ List.replicate (N.length - us.length) Cell.no)) :
    FnOk P w K mg base CX0 (k + 1) f fd ps (spV b n W) :=
  FunD.ok F S (fun vs H Q E h => (spV_len h).trans hn.symm) fun cdv A outer s H vs Q E hr h =>
    let ⟨t, ht, tr⟩ := hbody cdv A outer s H E hr
    ⟨t, ht.nox, body_of hN tr h⟩
/-- a def with defaults that may raise -/
theorem okVXD {b : PT} {n : Nat} {W : Wf} {x qual : Str} {st : Stmt} {f : Addr} {fd : FuncData} {N ps : List Str} {k : Nat} {dvs : List V} (F : FunV K x qual st dvs f fd) (S : FnScope N ps (defScope st)) (hn : ps.length = n) (hN : n ≤ N.length)
    (hbody : ∀ (cdv : Value) (A : Around) (outer : List Env) (s : Shared) (H : Hp) (E : XK), Room k (A.deeper (envOfC qual (defScope st) s.heap.objs.size f cdv)) →
      ∃ t, PSs (cxOf (L2.CX P w) P w K mg base N qual (defScope st) f cdv A outer s H E) (defBody st) t ∧ ∀ Z : Zc, Z.b = b → Z.E = E → Z.mays (fun _ => true) → ∃ w, TrS Z t w ∧ ∀ us post, us.length = n → W us post Z.ew → w { nx := fun _ => post .non, rt := post } (us.map Cell.fz ++ List.replicate (N.length - us.length) Cell.no)) :
    FnOk P w K mg base (L2.CX P w) (k + 1) f fd ps (spV b n W) :=
  FunD.ok F S (fun vs H Q E h => (spV_len h).trans hn.symm) fun cdv A outer s H vs Q E hr h =>
    let ⟨t, ht, tr⟩ := hbody cdv A outer s H E hr
    ⟨t, ht, body_of hN tr h⟩
theorem vals0 {ds : List Value} (h : Vals [] ds) : ds = [] := by cases h; rfl
end
end SV
/-! set comprehensions over any rule of set.add. -/
namespace SL
open PySem PySem.Spec PyProof.Rows L2 PpSet
/-- the reading: S0 tells the empty set at D, r what an add asks -/
def tScG (S0 : Addr → HO) (r : V → List V → Hp → VK → Prop) (wi : TI) (g : TG) (tt : TT) (te : TE) (vs : List Nat) : TE := fun σ H Q =>
  wi σ H fun J H1 => ∀ D, H1 D = none → ∃ W : Nat → Nat → Hp → Prop, (∃ m, W 0 m (upd H1 D (S0 D))) ∧
    ∀ i m H', W i m H' → (J.stop i H' ∧ Q (.ref D) H') ∨
      (J.go i H' ∧ ∃ Nx : Hp → Prop, (∀ H2, Nx H2 → ∃ k, k < m ∧ W (i + 1) k H2) ∧
        ∀ x H2, J.yld i H' x H2 → g x (wipe σ vs) H2 fun σ2 H3 => wipe σ2 vs = wipe σ vs ∧
          tt σ2 H3 fun b H4 => if b = true then te σ2 H4 fun y H5 => r (.ref D) [y] H5 fun _ H6 => Nx H6 else Nx H4)
section
variable {X : Cx}
abbrev freshSet (w : World) : Obj := { cls := .type "set", dict := none, data := .set #[] 0 (.fresh 0 0 (!w.params.followText "set-order")) }
theorem scG_core {S0 : Addr → HO} {r : V → List V → Hp → VK → Prop} (hnew : ∀ (H : Hp) (h : Heap), ObjOk X.prog X.w H (h.push (freshSet X.w)) h.objs.size (S0 h.objs.size))
    (hadd : ∀ Y : Cx, Y.prog = X.prog → Y.w = X.w → Y.K = X.K → Y.A = X.A → MtR Y "set.add" r)
    {pins : List (Addr × Obj)} {s : Shared} {σ : L2.St} {H : Hp} {Q : VK} {elt tg iter : Expr} {ifs : List Expr} {scope : Scope} {own : List (PySem.Str × Nat)} {pos pos' : Pos} {wi : TI} {g : TG} {tt : TT} {te : TE} {use : Option (Value → Sem Unit)} {Qf : Value → Shared → Prop}
    (calm : X.calm = true) (ndN : X.N.Nodup) (I0 : Inv X pins σ H s) (hi : PI X tg iter wi) (bk : BlkOk X.N X.env.scope scope own)
    (rg : ∀ (s : Shared) (H : Hp) (C : Addr) (cl : List (PySem.Str × Addr)) (fp : List Addr), PG (X.blk s H scope (compEnvC scope cl C X.env) fp) tg g)
    (rt : ∀ (s : Shared) (H : Hp) (C : Addr) (cl : List (PySem.Str × Addr)) (fp : List Addr), PTs (X.blk s H scope (compEnvC scope cl C X.env) fp) ifs tt)
    (re : ∀ (s : Shared) (H : Hp) (C : Addr) (cl : List (PySem.Str × Addr)) (fp : List Addr), PE (X.blk s H scope (compEnvC scope cl C X.env) fp) elt te)
    (fold : ∀ x, foldedSetIterable iter X.env x = pure x) (hq : tScG S0 r wi g tt te (own.map (·.2)) σ H Q)
    (fin : ∀ D C s' m H', Inv X pins σ H' s' → Q (.ref D) H' → s'.heap.Ns C m → FpOk X pins H' C → compPost (model X.prog X.w) X.A X.xe use Qf (.ref D) C (.ok .next) s') :
    wpAny (model X.prog X.w) X.A (comprehension (.SetComp elt [⟨tg, iter, ifs, 0⟩] scope pos) scope X.env pos' (newSet (.type "set")) false (eval iter X.env) use) Qf X.xe s := by
  have hasFree : ∀ y ∈ scope.names, y.2 = .free → ∃ c, X.env.cells.lookup y.1 = some c := by
    intro y hy e
    exact (bk.free y hy e).elim (fun z => I0.ok.has _ (.inl z)) (fun z => I0.ok.has _ (.inr z))
  refine wpAny_comprehension_free (use := use) rfl fold (closure_ok hasFree) bk.kind (fun y hy e => by rw [bk.uniq y hy, e]) ?_
  refine thn (hi.run pins s σ H _ I0 hq) fun itV sA hA => thn hA fun itW sB hB => ?_
  obtain ⟨it, fp, tn, J, HB, eIt, IB, T, stB, fB, qq⟩ := hB
  subst eIt
  refine newSet_ok (newEnv_comp ?_)
  -- D: where the set is laid
  obtain ⟨D, hD⟩ : ∃ D, sB.heap.objs.size = D := ⟨_, rfl⟩
  rw [hD]
  have freeD : HB D = none := IB.hok.fresh (by rw [hD]; exact Nat.le_refl _)
  obtain ⟨W, ⟨m0, w0⟩, turn⟩ := qq D freeD
  obtain ⟨sC, hC⟩ : ∃ sC : Shared, ({ sB with heap := sB.heap.push (freshSet X.w) } : Shared) = sC := ⟨_, rfl⟩
  have heapC : sC.heap = sB.heap.push (freshSet X.w) := by rw [← hC]
  have IC : Inv X pins σ (upd HB D (S0 D)) sC := by
    rw [← hC, ← hD]
    exact IB.laid (t' := sB.toks) (fun b o e => Heap.get?_push_of_some _ e) (Nat.le_refl _) (hnew _ _)
  have fC : ∀ b ∈ fp, FpOk X pins (upd HB D (S0 D)) b ∧ b < sC.heap.objs.size := by
    intro b hb
    obtain ⟨o, e, _⟩ := T.obj _ _ stB b hb
    have lt := Heap.lt_size e
    have neD : b ≠ D := fun z => by rw [z, ← hD] at lt; exact Nat.lt_irrefl _ lt
    exact ⟨⟨(upd_ne neD).trans (fB b hb).1, (fB b hb).2⟩, by rw [heapC, Heap.size_push]; exact Nat.lt_succ_of_lt lt⟩
  have stC : tn 0 sC.heap := T.keep _ _ _ stB fun b _ o e => by rw [heapC]; exact Heap.get?_push_of_some _ e
  have ID := block_start IC bk ndN fC
  have pg := rg sC (upd HB D (S0 D)) sC.heap.objs.size (cellsFrom (sC.heap.objs.size + 1) scope.names (cloFrom X.env.cells scope.names [])) fp
  have pt := rt sC (upd HB D (S0 D)) sC.heap.objs.size (cellsFrom (sC.heap.objs.size + 1) scope.names (cloFrom X.env.cells scope.names [])) fp
  have pe := re sC (upd HB D (S0 D)) sC.heap.objs.size (cellsFrom (sC.heap.objs.size + 1) scope.names (cloFrom X.env.cells scope.names [])) fp
  have goal : codeAny (model X.prog X.w) X.A (.compStart (.SetComp elt [⟨tg, iter, ifs, 0⟩] scope pos) 0 (.ref it) (.ref D) (compEnvC scope (cellsFrom (sC.heap.objs.size + 1) scope.names (cloFrom X.env.cells scope.names [])) sC.heap.objs.size X.env))
      (compPost (model X.prog X.w) X.A X.xe use Qf (.ref D) sC.heap.objs.size) { sC with heap := pushCells (sC.heap.push { cls := .type "dict", data := .dict #[] }) scope.names } := by
    have empty : ∀ b ∈ fp, (upd HB D (S0 D)) b = none := fun b hb => (fC b hb).1.1
    generalize hE : compEnvC scope (cellsFrom (sC.heap.objs.size + 1) scope.names (cloFrom X.env.cells scope.names [])) sC.heap.objs.size X.env = ev at ID pg pt pe ⊢
    have evL : ev.locals = sC.heap.objs.size := by rw [← hE]; rfl
    generalize upd HB D (S0 D) = HC at IC ID pg pt pe w0 empty fC
    generalize hS : ({ sC with heap := pushCells (sC.heap.push { cls := .type "dict", data := .dict #[] }) scope.names } : Shared) = sD at ID ⊢
    have stD : tn 0 sD.heap := T.keep _ _ _ stC fun b _ o e => by rw [← hS]; exact pushCells_keeps _ _ _ _ (Heap.get?_push_of_some _ e)
    -- the walk's own objects, within the block
    have inBlk : ∀ {σ' : L2.St} {H' : Hp} {s' : Shared}, Inv (X.blk sC HC scope ev fp) [] σ' H' s' → (∀ b ∈ fp, H' b = none) → ∀ b ∈ fp, FpOk (X.blk sC HC scope ev fp) [] H' b := by
      intro σ' H' s' J' hn b hb
      refine ⟨hn b hb, (J'.ok.exf b hb).1, J'.ok.exfs b hb, .inl hb, fun x c e => (J'.ok.exf b hb).2 x c e, fun p hp => ?_⟩
      exact nomatch (show p ∈ ([] : List (Addr × Obj)) ++ [] from hp)
    have loop : codeAny (model X.prog X.w) X.A (.compLoop (.SetComp elt [⟨tg, iter, ifs, 0⟩] scope pos) 0 (.ref it) (.ref D) ev) (compPost (model X.prog X.w) X.A X.xe use Qf (.ref D) sC.heap.objs.size) sD := by
      refine compLoopS_any (fun n s' => ∃ i H', Inv (X.blk sC HC scope ev fp) [] (wipe σ (own.map (·.2))) H' s' ∧ tn i s'.heap ∧ (∀ b ∈ fp, H' b = none) ∧ W i n H') (fun n sE hn => ?_) m0 ⟨0, HC, ID, stD, empty, w0⟩
      obtain ⟨i, HE, IE, stE, nE, wE⟩ := hn
      rcases turn i n HE wE with ⟨stop, done⟩ | ⟨go, Nx, less, step⟩
      · refine thnF (T.done (X.blk sC HC scope ev fp) rfl rfl rfl calm i [] sE _ HE (fun _ _ => False) IE (inBlk IE nE) stE stop) fun res sF hF => ?_
        obtain ⟨rfl, IF⟩ := hF
        have back : Inv X pins σ HE sF := IC.call' (ch := fp) IF.os IF.base IF.hok IF.bare fun b hb =>
          let z := (fC b hb).1.2
          ⟨z.2.2.1, z.1, z.2.2.2.1, z.2.2.2.2⟩
        have freeL : HE sC.heap.objs.size = none := by
          rw [← evL]
          exact IF.free
        obtain ⟨m, hns, _⟩ := IF.loc
        exact fin D _ sF m HE back done (by rw [← evL]; exact hns) (IC.fpOk (Nat.le_refl _) freeL)
      · refine thnF (T.item (X.blk sC HC scope ev fp) rfl rfl rfl calm i [] sE _ HE (fun _ _ => False) IE (inBlk IE nE) stE go) fun res sF hF => ?_
        obtain ⟨u, rfl, hu⟩ := hF
        refine thnF hu fun _ sG hG => ?_
        obtain ⟨x, HG, IG, rx, yx, stG, nG⟩ := hG
        have IG' := IG.pinned (inBlk IG nG) (T.obj _ _ stG)
        refine thnF (pg.run _ sG _ HG x u _ IG' rx (step x HG yx)) fun _ sH hH => ?_
        obtain ⟨σH, HH, IH, wH, qH⟩ := hH
        refine thnF (pt.run _ sH σH HH _ IH qH) fun b sK hK => ?_
        obtain ⟨HK, IK, qK⟩ := hK
        have next : ∀ {s' : Shared} {H' : Hp}, Inv (X.blk sC HC scope ev fp) ([] ++ pinsAt fp sG.heap) σH H' s' → Nx H' →
            ∃ m, m < n ∧ ∃ i H', Inv (X.blk sC HC scope ev fp) [] (wipe σ (own.map (·.2))) H' s' ∧ tn i s'.heap ∧ (∀ b ∈ fp, H' b = none) ∧ W i m H' := by
          intro s' H' J' nx
          obtain ⟨m', lt', w'⟩ := less H' nx
          have pinned : ∀ b ∈ fp, ∀ o, sG.heap.get? b = some o → s'.heap.get? b = some o ∧ H' b = none := by
            intro b hb o e
            have z := J'.pin (b, o) (List.mem_append_right _ (List.mem_append_right _ (mem_pinsAt hb e)))
            exact ⟨z.1, z.2.1⟩
          refine ⟨m', lt', i + 1, H', (J'.unpinned (pins := [])).weak ?_ ?_, ?_, ?_, w'⟩
          · rw [← wH, wipe_length]
          · intro j v e
            rw [← wH] at e
            exact (wipe_some e).1
          · exact T.keep _ _ _ stG fun b hb o e => (pinned b hb o e).1
          · intro b hb
            obtain ⟨o, e, _⟩ := T.obj _ _ stG b hb
            exact (pinned b hb o e).2
        cases b with
        | false => exact next IK qK
        | true =>
          refine thnF (pe.run _ sK σH HK _ IK qK) fun z sL hL => ?_
          obtain ⟨y, HL, IL, ry, qL⟩ := hL
          refine thnF (hadd (X.blk sC HC scope ev fp) rfl rfl rfl rfl _ sL σH HL (.ref D) [y] (.ref D) [z] _ IL rfl (.cons ry .nil) qL) fun v sM hM => ?_
          obtain ⟨_, HM, IM, _, nx⟩ := hM
          exact next IM nx
    exact codeAny_compStart_set loop (T.self X.A 0 _ _ _ stD loop)
  subst hC
  exact goal
/-- as a value -/
theorem pe_scG {S0 : Addr → HO} {r : V → List V → Hp → VK → Prop} (hnew : ∀ (H : Hp) (h : Heap), ObjOk X.prog X.w H (h.push (freshSet X.w)) h.objs.size (S0 h.objs.size))
    (hadd : ∀ Y : Cx, Y.prog = X.prog → Y.w = X.w → Y.K = X.K → Y.A = X.A → MtR Y "set.add" r)
    {elt tg iter : Expr} {ifs : List Expr} {scope : Scope} {own : List (PySem.Str × Nat)} {pos : Pos} {wi : TI} {g : TG} {tt : TT} {te : TE} (calm : X.calm = true) (ndN : X.N.Nodup) (hi : PI X tg iter wi) (bk : BlkOk X.N X.env.scope scope own)
    (rg : ∀ (s : Shared) (H : Hp) (C : Addr) (cl : List (PySem.Str × Addr)) (fp : List Addr), PG (X.blk s H scope (compEnvC scope cl C X.env) fp) tg g)
    (rt : ∀ (s : Shared) (H : Hp) (C : Addr) (cl : List (PySem.Str × Addr)) (fp : List Addr), PTs (X.blk s H scope (compEnvC scope cl C X.env) fp) ifs tt)
    (re : ∀ (s : Shared) (H : Hp) (C : Addr) (cl : List (PySem.Str × Addr)) (fp : List Addr), PE (X.blk s H scope (compEnvC scope cl C X.env) fp) elt te)
    (fold : ∀ x, foldedSetIterable iter X.env x = pure x := by intro _; rfl) : PE X (.SetComp elt [⟨tg, iter, ifs, 0⟩] scope pos) (tScG S0 r wi g tt te (own.map (·.2))) := by
  refine ⟨fun pins s σ H Q I h => ?_⟩
  rw [eval_SetComp]
  refine scG_core hnew hadd calm ndN I hi bk rg rt re fold h fun D C s' m H' J' q hn f => ⟨m, hn, fun h2 sb => ?_⟩
  obtain ⟨a1, a2, a3, a4, a5, a6⟩ := f
  exact ⟨.ref D, H', J'.turned (t' := s'.toks) (fun b o hb e => (sb.2 b hb).trans e) a1 a2 a4 a5 a6, rfl, q⟩
end
end SL
namespace SL
open PySem PySem.Spec PyProof.Rows L2 PpSet
/-! ### sets of ints -/
section
variable {X : Cx}
theorem new_ints (P : Program) (w : World) (H : Hp) (h : Heap) : ObjOk P w H (h.push (freshSet w)) h.objs.size (SetO w h.objs.size (fun _ => false) 0) := setO_new (setR_fresh w)
theorem add_ints (Y : Cx) (_ : Y.prog = X.prog) (e : Y.w = X.w) (_ : Y.K = X.K) (_ : Y.A = X.A) : MtR Y "set.add" (rSAdd X.w) := by
  rw [← e]
  exact mt_sadd
/-! ### sets of ints and texts -/
theorem new_keys (P : Program) (w : World) (H : Hp) (h : Heap) : ObjOk P w H (h.push (freshSet w)) h.objs.size (SetK P w h.objs.size (fun _ => false) 0) :=
  setK_new ⟨_, #[], 0, _, Heap.get?_push_size _ rfl, ⟨rfl, rfl, rfl⟩, rfl, fun e z => by simp at z, fun k => by simp, by decide, rfl, rfl⟩
theorem add_keys (Y : Cx) (e1 : Y.prog = X.prog) (e : Y.w = X.w) (_ : Y.K = X.K) (_ : Y.A = X.A) : MtR Y "set.add" (rSAddK X.prog X.w) := by
  rw [← e, ← e1]
  exact mt_saddK
/-! ### sets of tuples of ints -/
theorem new_tups (P : Program) (w : World) (H : Hp) (h : Heap) : ObjOk P w H (h.push (freshSet w)) h.objs.size (SetTO P w h.objs.size []) := setTO_new (setTR_fresh (Heap.get?_push_size _ rfl)).t0
def rSAddT (K : PySem.W.Frag) (P : Program) (w : World) : V → List V → Hp → VK → Prop := fun x xs H Q => ∃ (a p : Addr) (k : List Int) (L : List (Addr × List Int)), x = V.ref a ∧ xs = [V.ref p] ∧ H a = some (SetTO P w a L) ∧
  SqT K H p (k.map V.int) ∧ (∀ q ∈ L, SqT K H q.1 (q.2.map V.int)) ∧ L.length + 1 < 64 ∧ ∀ L', (k ∈ L.map (·.2) → L' = L) → (k ∉ L.map (·.2) → L'.Perm ((p, k) :: L)) → Q .non (upd H a (SetTO P w a L'))
theorem mt_saddT (hu0 : X.A.units + 64 < cLine) : MtR X "set.add" (rSAddT X.K X.prog X.w) := by
  have hu : X.A.in1.units < cLine := by
    rw [Around.in1_units]
    omega
  intro pins s σ H x xs v us Q I rx rxs h
  obtain ⟨a, p, k, L, rfl, rfl, ha, hp, hL, few, q⟩ := h
  cases rx
  cases rxs with
  | cons r1 r2 =>
    cases r2
    cases r1
    have R0 : SetT0 X.prog X.w s.heap a L := (I.hok a _ ha).1
    obtain ⟨es, ep, t, R⟩ := R0.full fun q hq => I.isT (hL q hq)
    obtain ⟨o, ho, hex, hd⟩ := R.ob
    have ip := I.isT hp
    have ty : s.TypeIs (.ref a) "set" := ⟨o, ho, hex.1⟩
    refine wpAny_call_entry F.slot_set_add ty F.entry_set_add ?_ (F.args_set_add_2 _ _)
    unfold Builtin.«set.add» Builtin.Frozenset.oneOther
    simp only [List.isEmpty_nil, bind_assoc]
    unfold Builtin.Frozenset.addrOf setAdd
    refine wpAny_bind (wpAny_pure ?_)
    try dsimp only
    refine wpAny_bind (wpAny_pure ?_)
    try dsimp only
    refine wpAny_bind ?_
    refine wpAny_holding ?_
    refine wpAny_bind (wpAny_pyHash_tuple hu ip ?_)
    refine add_at (A := X.A.in1) (s := { s with toks := s.toks + (k.length + 1) }) R ip hu few fun b h' L' es' ep' t' sb R' c1 c2 => ?_
    show wpAny _ _ (ret Value.none) _ _ _
    refine wpAny_pure ⟨_, rfl, .non, upd H a (SetTO X.prog X.w a L'), I.write (e := a) (t' := s.toks + (k.length + 1)) (by rw [ha]; trivial) (.inl rfl) (fun b u hb hu => (sb.2 b hb).trans hu) ?_ (setTO_new R'.t0), rfl, q L' c1 c2⟩
    obtain ⟨o2, ho2, _⟩ := R'.ob
    exact ⟨o2, ho2⟩
theorem add_tups (hu : X.A.units + 64 < cLine) (Y : Cx) (e1 : Y.prog = X.prog) (e : Y.w = X.w) (e2 : Y.K = X.K) (e3 : Y.A = X.A) : MtR Y "set.add" (rSAddT X.K X.prog X.w) := by
  rw [← e, ← e1, ← e2]
  exact mt_saddT (by rw [e3]; exact hu)
/-- len of such a set -/
def rLenT (P : Program) (w : World) (K : PySem.W.Frag) : List V → Hp → VK → Prop := fun xs H Q => ∃ (a : Addr) (L : List (Addr × List Int)), xs = [.ref a] ∧ H a = some (SetTO P w a L) ∧ (∀ q ∈ L, SqT K H q.1 (q.2.map V.int)) ∧ ((L.map (·.2)).Nodup → Q (.int (L.length : Nat)) H)
theorem cr_lenT : CallR X (.builtin "len") (rLenT X.prog X.w X.K) := by
  intro pins s σ H xs us Q I r h
  obtain ⟨a, L, rfl, ha, hL, q⟩ := h
  rw [Vals.ref1 r]
  have R0 : SetT0 X.prog X.w s.heap a L := (I.hok a _ ha).1
  obtain ⟨es, ep, t, R⟩ := R0.full fun q hq => I.isT (hL q hq)
  obtain ⟨o, ho, hex, hd⟩ := R.ob
  have sz := R.size
  have few := R.few
  refine call_len_set ho hex hd R.fits (by rw [sz]; omega) ⟨.int (L.length : Nat), H, I.tok _, ⟨_, by rw [sz]⟩, q R.nd⟩
end
end SL
/-! The value layer: set comprehensions, sorted and len of them, len(set(..)). -/
namespace SV
open PySem PySem.Spec PyProof.Rows L2 SL
/-- what a set object tells of what was added -/
structure SetFam (pp : Addr) (r : V → List V → Hp → VK → Prop) (S0 : Addr → HO) {κ : Type} (conv : U → κ → Prop) where
  At : Addr → Hp → List κ → HO → Prop
  zero : ∀ D G, At D G [] (S0 D)
  mono : ∀ {D G G' acc o}, Same G G' → At D G acc o → At D G' acc o
  ntp : ∀ {D G acc o}, At D G acc o → isTp o = false
  step : ∀ {D : Addr} {G H : Hp} {acc : List κ} {o : HO} {v : V} {u : U} {k : κ} {Q : VK}, Vw G H → H D = some o → At D G acc o → Rp pp G v u → conv u k → acc.length < 60 → (∀ o', At D G (acc ++ [k]) o' → Q .non (upd H D o')) → r (.ref D) [v] H Q
def wSc {κ : Type} (conv : U → κ → Prop) (wi : WA) (wg : WG) (wt : WT) (we : WE) (vs : List Nat) : List Cell → (List κ → Prop) → Prop := fun ρ post => wi ρ fun us => us.length ≤ 60 ∧ ∃ Iv : Nat → List κ → Prop, Iv 0 [] ∧
  (∀ (i : Nat) u acc, us[i]? = some u → Iv i acc → wg u (wipeR ρ vs) fun ρ2 => wt ρ2 fun c => if c = true then we ρ2 fun y => ∃ k, conv y k ∧ Iv (i + 1) (acc ++ [k]) else Iv (i + 1) acc) ∧ ∀ acc, Iv us.length acc → post acc
section
variable {Z : Zc} {κ : Type} {conv : U → κ → Prop} {r : V → List V → Hp → VK → Prop} {S0 : Addr → HO}
theorem sc_at (hT : Z.b.T = []) (F : SetFam Z.pp r S0 conv) {ti : TI} {g : TG} {tt : TT} {te : TE} {wi : WA} {wg : WG} {wt : WT} {we : WE} {vs : List Nat} (hg : TrG Z g wg vs) (ht : TrT Z tt wt) (he : TrE Z te we) (h0 : ∀ v ∈ vs, Z.may v) {σ : L2.St} {ρ : List Cell} {G H : Hp} {post : List κ → Prop} {Q : VK} (S : Sv Z σ ρ G H) (hi : TrIat Z σ ρ G H ti wi) (hw : wSc conv wi wg wt we vs ρ post)
    (q : ∀ D o acc G' H', post acc → acc.length ≤ 60 → Z.gr G H G' H' → H D = none → G' D = none → H' D = some o → F.At D G' acc o → Q (.ref D) H') : tScG S0 r ti g tt te vs σ H Q :=
  hi _ _ hw fun J n Gd Y us G1 H1 p g1 hl hz wk hG hY D nD => by
    obtain ⟨l60, Iv, i0, is, ie⟩ := p
    have S1 := S.step g1
    have gN := Gr.newH (o := S0 D) S1.vw S1.pl nD
    let Pv : Nat → Hp → Prop := fun i H' => ∃ G' acc o, Z.gr G1 H1 G' H' ∧ H' D = some o ∧ G' D = none ∧ F.At D G' acc o ∧ acc.length ≤ i ∧ Iv i acc
    refine ⟨fun i m H' => m = n - i ∧ i ≤ n ∧ Pv i H', ⟨n, by simp, Nat.zero_le _, G1, [], S0 D, gN, upd_same, S1.vw.free nD, F.zero D G1, Nat.zero_le _, i0⟩, ?_⟩
    rintro i m H' ⟨rfl, hin, G', acc, o, g', eD, gD, aD, lA, iv⟩
    by_cases hlt : i < n
    · refine .inr ⟨wk.goes i H' hlt (hG G' H' g'.ex g'.vw), Pv (i + 1), fun H2 p' => ⟨n - (i + 1), by omega, rfl, hlt, p'⟩, fun x H'' y => ?_⟩
      have S' := S1.step g'
      obtain ⟨u, G'', eu, g2, rx⟩ := hY i x G' H' H'' hlt g'.ex S'.vw S'.pl (wk.yields i H' x H'' hlt (hG G' H' g'.ex g'.vw) y)
      have Sw := (S'.step g2).wipe vs h0
      have nDp : Off Z.b Z.pp D := off_none S1.pl nD
      refine hg x u _ _ G'' H'' _ _ Sw rx (is i u acc eu iv) fun σ2 ρ2 S3 ew p2 => ⟨ew.trans ?_, ?_⟩
      · refine List.ext_getElem? fun j => ?_
        rw [wipe_at, wipe_at, wipe_length]
        by_cases m : j ∈ vs
        · rw [if_pos m, if_pos m]
        · rw [if_neg m, if_neg m]
      refine ht σ2 ρ2 G'' H'' _ _ S3 p2 fun c G3 H3 p3 g3 => ?_
      obtain ⟨gD2, eD2⟩ := g2.fr D _ nDp eD gD (F.ntp aD)
      obtain ⟨gD3, eD3⟩ := g3.fr D _ nDp eD2 gD2 (F.ntp aD)
      cases c with
      | false => exact iteF ⟨G3, acc, o, (g'.trans g2).trans g3, eD3, gD3, F.mono (g2.gg.trans g3.gg) aD, Nat.le_succ_of_le lA, p3⟩
      | true =>
        refine iteT (he σ2 ρ2 G3 H3 _ _ (S3.step g3) p3 fun v yv G4 H4 p4 g4 r4 => ?_)
        obtain ⟨gD4, eD4⟩ := g4.fr D _ nDp eD3 gD3 (F.ntp aD)
        obtain ⟨k, ck, ik⟩ := p4
        have gt := ((g'.trans g2).trans g3).trans g4
        refine F.step gt.vw eD4 (F.mono ((g2.gg.trans g3.gg).trans g4.gg) aD) r4 ck (by omega) fun o' a' => ?_
        exact ⟨G4, acc ++ [k], o', gr_own gt S1.vw S1.pl nD gD4 o' (.inl hT), upd_same, gD4, a', by rw [List.length_append]; exact Nat.succ_le_succ lA, ik⟩
    · have e : i = n := by omega
      subst e
      refine .inl ⟨wk.stops H' (hG G' H' g'.ex g'.vw), ?_⟩
      rw [← hl] at iv
      exact q D o acc G' H' (ie acc iv) (by omega) (g1.trans g') (free_back S g1 nD) gD eD aD
end
/-! ### sets of ints, sorted -/
def convI : U → Int → Prop := fun u k => u = .int k
def famI (pp : Addr) (w : World) : SetFam pp (rSAdd w) (fun a => SetO w a (fun _ => false) 0) convI where
  At D _ acc o := ∃ S n, o = SetO w D S n ∧ (∀ k, S k = true ↔ k ∈ acc) ∧ n ≤ acc.length
  zero D G := ⟨_, _, rfl, fun k => by simp, Nat.le_refl _⟩
  mono _ h := h
  ntp h := by
    obtain ⟨S, n, rfl, _⟩ := h
    rfl
  step := fun {D G H acc o v u k Q} w hD hA hv hc hl hq => by
    obtain ⟨S, n, rfl, hS, hn⟩ := hA
    cases hc
    cases hv
    refine ⟨D, k, S, n, rfl, rfl, hD, by unfold scanBound; omega, hq _ ⟨_, _, rfl, fun j => ?_, ?_⟩⟩
    · rw [Bool.or_eq_true, decide_eq_true_eq, hS j, List.mem_append, List.mem_singleton]
    · rw [List.length_append, List.length_singleton]
      split <;> omega
def wSortSc (wi : WA) (wg : WG) (wt : WT) (we : WE) (vs : List Nat) : WE := fun ρ post => wSc convI wi wg wt we vs ρ fun acc => ∀ ns : List Int, ns.Pairwise (· < ·) → (∀ k, k ∈ ns ↔ k ∈ acc) → post (.lst (ns.map U.int))
section
variable {Z : Zc}
theorem v_sortSc {w : World} {ti : TI} {g : TG} {tt : TT} {te : TE} {wi : WA} {wg : WG} {wt : WT} {we : WE} {vs : List Nat} (hi : TrI Z ti wi) (hg : TrG Z g wg vs) (ht : TrT Z tt wt) (he : TrE Z te we) (h0 : ∀ v ∈ vs, Z.may v := by exact Zc.mayL_of (by assumption) (by decide)) (hT : Z.b.T = [] := by exact noT (by assumption)) :
    TrF Z (tCB (rSortedSet w) (tCons (tScG (fun a => SetO w a (fun _ => false) 0) (rSAdd w) ti g tt te vs) tNil)) (wSortSc wi wg wt we vs) := fun σ ρ G H post Q S hw q => by
  refine sc_at hT (Q := fun v H1 => rSortedSet w [v] H1 Q) (famI Z.pp w) hg ht he h0 S (hi σ ρ G H S) hw fun D o acc G' H' p l60 g nD gD eD ⟨Sf, n, eo, hS, hn⟩ => ?_
  subst eo
  refine ⟨D, Sf, n, rfl, eD, by omega, fun ns a up mem ln na => ?_⟩
  have S' := S.step g
  have gN := Gr.newH (o := .lst (ns.map V.int)) S'.vw S'.pl na
  exact q a _ _ G' _ (p ns up fun k => (mem k).trans (hS k)) (g.trans gN) (free_back S g na) (S'.vw.free na) upd_same (.lst (RpL.toInts ns) (by rw [List.length_map]; omega))
end
/-! ### sets of tuples of ints -/
def convT : U → List Int → Prop := fun u k => u = rowV k
def famT (pp : Addr) (K : PySem.W.Frag) (P : Program) (w : World) : SetFam pp (rSAddT K P w) (fun a => SetTO P w a []) convT where
  At D G acc o := ∃ L, o = SetTO P w D L ∧ (∀ q ∈ L, G q.1 = some (.tup (q.2.map V.int))) ∧ (∀ k, k ∈ L.map (·.2) ↔ k ∈ acc) ∧ L.length ≤ acc.length
  zero D G := ⟨[], rfl, fun q z => (by cases z), fun k => by simp, Nat.le_refl _⟩
  mono s h := by
    obtain ⟨L, e, a, b, c⟩ := h
    exact ⟨L, e, fun q hq => s _ _ (a q hq), b, c⟩
  ntp h := by
    obtain ⟨L, rfl, _⟩ := h
    rfl
  step := fun {D G H acc o v u k Q} w hD hA hv hc hl hq => by
    obtain ⟨L, rfl, hL, hm, hn⟩ := hA
    cases hc
    cases hv with
    | tup ha kk z =>
      rename_i a vs
      cases kk.ints
      refine ⟨D, a, k, L, rfl, rfl, hD, SqT.of (w.tup ha), fun q hq => SqT.of (w.tup (hL q hq)), by omega, fun L' c1 c2 => hq _ ⟨L', rfl, ?_⟩⟩
      by_cases c : k ∈ L.map (·.2)
      · rw [c1 c]
        refine ⟨hL, fun j => ?_, by rw [List.length_append]; omega⟩
        rw [List.mem_append, List.mem_singleton, ← hm j]
        exact ⟨.inl, fun z => z.elim id fun e => by rw [e]; exact c⟩
      · have pm := c2 c
        refine ⟨fun q hq => ?_, fun j => ?_, by rw [pm.length_eq, List.length_append, List.length_singleton, List.length_cons]; omega⟩
        · rcases List.mem_cons.mp (pm.mem_iff.mp hq) with rfl | h
          · exact ha
          · exact hL q h
        · rw [(pm.map (·.2)).mem_iff, List.map_cons, List.mem_cons, List.mem_append, List.mem_singleton, hm j]
          exact Or.comm
def wLenSc (wi : WA) (wg : WG) (wt : WT) (we : WE) (vs : List Nat) : WE := fun ρ post => wSc convT wi wg wt we vs ρ fun acc => ∀ L : List (List Int), L.Nodup → (∀ k, k ∈ L ↔ k ∈ acc) → post (.int (L.length : Nat))
def wLenSet (we : WE) : WE := fun ρ post => we ρ fun x => ∃ ks : List (List Int), x = .lst (ks.map rowV) ∧ ks.length < 64 ∧ ∀ L : List (List Int), L.Nodup → (∀ k, k ∈ L ↔ k ∈ ks) → post (.int (L.length : Nat))
section
variable {Z : Zc}
theorem v_lenSc {P : Program} {w : World} {K : PySem.W.Frag} {ti : TI} {g : TG} {tt : TT} {te : TE} {wi : WA} {wg : WG} {wt : WT} {we : WE} {vs : List Nat} (hi : TrI Z ti wi) (hg : TrG Z g wg vs) (ht : TrT Z tt wt) (he : TrE Z te we) (h0 : ∀ v ∈ vs, Z.may v := by exact Zc.mayL_of (by assumption) (by decide)) (hT : Z.b.T = [] := by exact noT (by assumption)) :
    TrE Z (tCB (rLenT P w K) (tCons (tScG (fun a => SetTO P w a []) (rSAddT K P w) ti g tt te vs) tNil)) (wLenSc wi wg wt we vs) := fun σ ρ G H post Q S hw q => by
  refine sc_at hT (Q := fun v H1 => rLenT P w K [v] H1 Q) (famT Z.pp K P w) hg ht he h0 S (hi σ ρ G H S) hw fun D o acc G' H' p l60 g nD gD eD ⟨L, eo, hL, hm, hn⟩ => ?_
  subst eo
  refine ⟨D, L, rfl, eD, fun x hx => SqT.of (g.vw.tup (hL x hx)), fun nd => ?_⟩
  have := p (L.map (·.2)) nd hm
  rw [List.length_map] at this
  exact q _ _ G' H' this g (.int _)
theorem rows_at {pp : Addr} {G : Hp} : ∀ {vs : List V} {ks : List (List Int)}, RpL pp G vs (ks.map rowV) → ∃ ps : List (Addr × List Int), vs = (ps.map fun p => V.ref p.1) ∧ ps.map (·.2) = ks ∧ ∀ p ∈ ps, G p.1 = some (.tup (p.2.map V.int))
  | _, [], .nil => ⟨[], rfl, rfl, fun _ z => nomatch z⟩
  | _, k :: ks, .cons (v := v) h t => by
    obtain ⟨ps, rfl, e2, hp⟩ := rows_at t
    cases h with
    | tup ha kk z =>
      rename_i a ws
      cases kk.ints
      exact ⟨(a, k) :: ps, rfl, by rw [List.map_cons, e2], fun p hq => by rcases List.mem_cons.mp hq with rfl | h; exact ha; exact hp p h⟩
theorem v_lenSet {P : Program} {w : World} {K : PySem.W.Frag} {te : TE} {we : WE} (he : TrB Z te we) :
    TrE Z (tCB (rLenT P w K) (tCons (tCB (rSetOfT K P w) (tCons te tNil)) tNil)) (wLenSet we) := fun σ ρ G H post Q S hw q =>
  he σ ρ G H _ _ S hw fun v x G1 H1 p g b => by
    obtain ⟨ks, rfl, few, p⟩ := p
    cases b with
    | lst h k z =>
      rename_i a vs
      obtain ⟨ps, rfl, e2, hp⟩ := rows_at k
      have l2 : ps.length = ks.length := by rw [← e2, List.length_map]
      refine ⟨a, ps, rfl, SqL.of h, fun y hy => SqT.of (g.vw.tup (hp y hy)), by omega, fun D L nD hL1 hL2 => ?_⟩
      have S1 := S.step g
      have gN := Gr.newH (o := SetTO P w D L) S1.vw S1.pl nD
      refine ⟨D, L, rfl, upd_same, fun y hy => SqT.of (gN.vw.tup (hp y (hL1 y hy))), fun nd => ?_⟩
      have := p (L.map (·.2)) nd fun k' => by
        rw [← e2]
        refine ⟨fun hk => ?_, fun hk => ?_⟩
        · obtain ⟨y, hy, rfl⟩ := List.mem_map.mp hk
          exact List.mem_map.mpr ⟨y, hL1 y hy, rfl⟩
        · obtain ⟨y, hy, rfl⟩ := List.mem_map.mp hk
          exact hL2 y hy
      rw [List.length_map] at this
      exact q _ _ G1 _ this (g.trans gN) (.int _)
end
section
variable {X : Cx}
theorem cr_lenTK (K : PySem.W.Frag) (h : X.K = K := by rfl) : CallR X (.builtin "len") (rLenT X.prog X.w K) := by subst h; exact cr_lenT
theorem cr_setOfTK (K : PySem.W.Frag) (hu : X.A.units + 64 < cLine) (hc : X.calm = true := by rfl) (h : X.K = K := by rfl) : CallR X (.type "set") (rSetOfT K X.prog X.w) := by subst h; exact cr_setOfT hc hu
theorem pe_scI {elt tg iter : Expr} {ifs : List Expr} {scope : Scope} {own : List (PySem.Str × Nat)} {pos : Pos} {wi : TI} {g : TG} {tt : TT} {te : TE} (calm : X.calm = true) (ndN : X.N.Nodup) (hi : PI X tg iter wi) (bk : BlkOk X.N X.env.scope scope own)
    (rg : ∀ (s : Shared) (H : Hp) (C : Addr) (cl : List (PySem.Str × Addr)) (fp : List Addr), PG (X.blk s H scope (compEnvC scope cl C X.env) fp) tg g)
    (rt : ∀ (s : Shared) (H : Hp) (C : Addr) (cl : List (PySem.Str × Addr)) (fp : List Addr), PTs (X.blk s H scope (compEnvC scope cl C X.env) fp) ifs tt)
    (re : ∀ (s : Shared) (H : Hp) (C : Addr) (cl : List (PySem.Str × Addr)) (fp : List Addr), PE (X.blk s H scope (compEnvC scope cl C X.env) fp) elt te)
    (fold : ∀ x, foldedSetIterable iter X.env x = pure x := by intro _; rfl) : PE X (.SetComp elt [⟨tg, iter, ifs, 0⟩] scope pos) (tScG (fun a => SetO X.w a (fun _ => false) 0) (rSAdd X.w) wi g tt te (own.map (·.2))) :=
  pe_scG (fun H h => new_ints X.prog X.w H h) (fun Y e1 e2 e3 e4 => add_ints Y e1 e2 e3 e4) calm ndN hi bk rg rt re fold
theorem pe_scT (K : PySem.W.Frag) (hu : X.A.units + 64 < cLine) {elt tg iter : Expr} {ifs : List Expr} {scope : Scope} {own : List (PySem.Str × Nat)} {pos : Pos} {wi : TI} {g : TG} {tt : TT} {te : TE} (calm : X.calm = true) (ndN : X.N.Nodup) (hi : PI X tg iter wi) (bk : BlkOk X.N X.env.scope scope own)
    (rg : ∀ (s : Shared) (H : Hp) (C : Addr) (cl : List (PySem.Str × Addr)) (fp : List Addr), PG (X.blk s H scope (compEnvC scope cl C X.env) fp) tg g)
    (rt : ∀ (s : Shared) (H : Hp) (C : Addr) (cl : List (PySem.Str × Addr)) (fp : List Addr), PTs (X.blk s H scope (compEnvC scope cl C X.env) fp) ifs tt)
    (re : ∀ (s : Shared) (H : Hp) (C : Addr) (cl : List (PySem.Str × Addr)) (fp : List Addr), PE (X.blk s H scope (compEnvC scope cl C X.env) fp) elt te)
    (fold : ∀ x, foldedSetIterable iter X.env x = pure x := by intro _; rfl) (hK : X.K = K := by rfl) : PE X (.SetComp elt [⟨tg, iter, ifs, 0⟩] scope pos) (tScG (fun a => SetTO X.prog X.w a []) (rSAddT K X.prog X.w) wi g tt te (own.map (·.2))) := by
  subst hK
  exact pe_scG (fun H h => new_tups X.prog X.w H h) (fun Y e1 e2 e3 e4 => add_tups hu Y e1 e2 e3 e4) calm ndN hi bk rg rt re fold
end
end SV
/-! A lambda with parameters: made, handed to a def with what it captured, run there. -/
namespace SL
open PySem PySem.Spec PyProof.Rows L2 LamX NdefX
/-- a lambda's words -/
structure LamD where
  qual : Str
  prm : Arguments
  body : Expr
  scope : Scope
def LamD.of (q : Str) (e : Expr) : LamD := match e with
  | .Lambda p b sc _ => ⟨q, p, b, sc⟩
  | e => ⟨q, { posonlyargs := [], args := [], vararg := none, kwonlyargs := [], kw_defaults := [], kwarg := none, defaults := [] }, e, { kind := .function, names := [], isGenerator := false, isCoroutine := false }⟩
/-- places in the text -/
def sExpr : Stmt → Expr
  | .Return (some e) _ => e
  | .Assign _ e _ => e
  | .Expr e _ => e
  | _ => .Constant .none 0 ⟨0, 0, 0, 0⟩
def eArg (i : Nat) (e : Expr) : Expr := match e with
  | .Call _ as _ _ => as.getD i e
  | e => e
abbrev LamD.nf (D : LamD) (cl : List (Str × Addr)) (c : Addr) : NF := ⟨"<lambda>", D.qual, D.prm, [], D.scope, cl, c⟩
/-- what stands at f is the lambda D; cl: the cells that it captured; c: its code object -/
def LamO (f : Addr) (D : LamD) (cl : List (Str × Addr)) (c : Addr) : HO := .ext fun h => ∃ pm ctv, h.get? f = some (PySem.W.kla_obj "<lambda>" D.qual D.prm D.body D.scope cl pm c ctv)
theorem lamO_ext (f : Addr) (D : LamD) (cl : List (Str × Addr)) (c : Addr) : ∃ φ, LamO f D cl c = .ext φ := ⟨_, rfl⟩
section
variable {X : Cx} {pins : List (Addr × Obj)} {σ : L2.St} {H : Hp} {s : Shared}
/-- the new object is known from now on -/
theorem lam_lay {D : LamD} {cl : List (Str × Addr)} {c : Addr} {pm ctv : Value} {t' : Nat} (I : Inv X pins σ H s) :
    Inv X pins σ (upd H s.heap.objs.size (LamO s.heap.objs.size D cl c)) { s with heap := s.heap.push (PySem.W.kla_obj "<lambda>" D.qual D.prm D.body D.scope cl pm c ctv), toks := t' } := by
  have there : (s.heap.push (PySem.W.kla_obj "<lambda>" D.qual D.prm D.body D.scope cl pm c ctv)).get? s.heap.objs.size = some (PySem.W.kla_obj "<lambda>" D.qual D.prm D.body D.scope cl pm c ctv) := Heap.get?_push_size _ rfl
  exact I.laid (a := s.heap.objs.size) (fun _ _ q => Heap.get?_push_of_some _ q) (Nat.le_refl _) ⟨⟨pm, ctv, there⟩, ⟨_, there⟩, fun _ _ ⟨pm, ctv, z⟩ st => ⟨pm, ctv, st _ z⟩⟩
/-- a table that tells one more -/
theorem tabs_more {T : List (Addr × Str)} {P c : Addr} {q : Str} {ps : Array Value} {pos : Pos} (hT : Tabs T H) (hP : H P = some (.tbl ps)) (nc : H c = none) (ht : TriplesOk ps.toList) (hu : ∀ p ∈ T, p.1 = P → p.2 = q) :
    Tabs T (upd (upd H P (.tbl (ps ++ #[rawInt pos.line, rawInt pos.col, .ref c]))) c (CodeO c q)) := by
  intro p hp
  obtain ⟨ps2, a1, a2, a3⟩ := hT p hp
  have stay : ∀ d w, H d = some (CodeO d w) → upd (upd H P (.tbl (ps ++ #[rawInt pos.line, rawInt pos.col, .ref c]))) c (CodeO c q) d = some (CodeO d w) := fun d w e => by
    have n1 : d ≠ c := ne_of_none e nc
    have n2 : d ≠ P := fun z => by
      rw [z, hP] at e
      exact codeO_ne ps (Option.some.inj e).symm
    rw [upd_ne n1, upd_ne n2]
    exact e
  by_cases eq : p.1 = P
  · rw [eq, hP] at a1
    cases a1
    refine ⟨ps ++ #[rawInt pos.line, rawInt pos.col, .ref c], ?_, ?_, fun pos2 cv k => ?_⟩
    · rw [eq, upd_ne (ne_of_none hP nc), upd_same]
    · rw [Array.toList_append]
      exact PySem.TriplesOk_snoc _ _ _ _ ht
    · rw [Array.toList_append] at k
      rcases among_app _ ht k with k | rfl
      · obtain ⟨d, e1, e2⟩ := a3 pos2 cv k
        exact ⟨d, e1, stay d _ e2⟩
      · refine ⟨c, rfl, ?_⟩
        rw [hu p hp eq, upd_same]
  · refine ⟨ps2, ?_, a2, fun pos2 cv k => ?_⟩
    · rw [upd_ne (ne_of_none a1 nc), upd_ne eq]
      exact a1
    · obtain ⟨d, e1, e2⟩ := a3 pos2 cv k
      exact ⟨d, e1, stay d _ e2⟩
/-- what the making of D asks; P: the table of the def that makes it -/
structure Maker (X : Cx) (T : List (Addr × Str)) (P : Addr) (D : LamD) : Prop where
  tab : ∃ c, TabB X.base X.mg c P ∧ X.env.code = .ref c
  qual : D.qual = X.env.qual ++ "<lambda>"
  mem : (P, D.qual) ∈ T
  one : ∀ p ∈ T, p.1 = P → p.2 = D.qual
/-- .. told of the def that makes it -/
structure MakerAt (base : Heap) (mg : Str → Option Value) (T : List (Addr × Str)) (c P : Addr) (q : Str) : Prop where
  tb : TabB base mg c P
  mem : (P, q) ∈ T
  one : ∀ p ∈ T, p.1 = P → p.2 = q
theorem mk_of {X : Cx} {T : List (Addr × Str)} {P c : Addr} {D : LamD} {q : Str} (m : MakerAt X.base X.mg T c P q) (hc : X.env.code = .ref c) (hq : D.qual = q) (hx : q = X.env.qual ++ "<lambda>") : Maker X T P D := ⟨⟨c, m.tb, hc⟩, hq.trans hx, by rw [hq]; exact m.mem, by rw [hq]; exact m.one⟩
/-- the reading of an argument that is a lambda, the last one -/
def tLamA (T : List (Addr × Str)) (P : Addr) (D : LamD) (cl : List (Str × Addr)) : TA := fun _ H Q => Tabs T H ∧ ∀ f c H1, (∀ b o, H b = some o → b ≠ P → H1 b = some o) → Tabs T H1 → H f = none → H1 f = some (LamO f D cl c) → H1 c = some (CodeO c D.qual) → Q [.ref f] H1
theorem lam_new {T : List (Addr × Str)} {P : Addr} {D : LamD} {pos : Pos} {E : Value → Shared → Prop} {Q : Value → Shared → Prop} (m : Maker X T P D) (I : Inv X pins σ H s) (hT : Tabs T H) (hdef : defaultsOf D.prm X.env = ([], [])) (hfree : ∀ y ∈ D.scope.names, y.2 = .free → ∃ c, X.env.cells.lookup y.1 = some c)
    (h : ∀ f c H1 s', Inv X pins σ H1 s' → (∀ b o, H b = some o → b ≠ P → H1 b = some o) → Tabs T H1 → H f = none → H1 f = some (LamO f D (cloFrom X.env.cells D.scope.names []) c) → H1 c = some (CodeO c D.qual) → Q (.ref f) s') :
    wpAny (model X.prog X.w) X.A (eval (.Lambda D.prm D.body D.scope pos) X.env) Q E s := by
  obtain ⟨c0, TB, hcode⟩ := m.tab
  have hq := m.qual
  obtain ⟨ps, hP, ht, ha⟩ := hT _ m.mem
  have hP : H P = some (.tbl ps) := hP
  have inHeap : s.heap.get? P = some { cls := .none, data := .fields ps } := I.hok P _ hP
  refine PySem.W.kla_eval hdef ?_
  rw [← hq]
  cases hc : codeAmong pos ps.toList with
  | some cv =>
    obtain ⟨c, rfl, hco⟩ := ha pos cv hc
    refine PySem.W.kla_makeFunctionHit (mg := X.mg) (c := c0) (P := P) (ps := ps) (closure_ok hfree) I.ok.glob (I.mod.glob.keeps I.bk) hcode (TB.code.keeps I.bk) inHeap ht hc (TB.bm.keeps I.bk) fun ctv h' tk k _ => ?_
    have J : Inv X pins σ H { s with heap := h', toks := tk } := I.kept k
    have nf := J.hok.fresh (Nat.le_refl _)
    have up : ∀ b o, H b = some o → upd H h'.objs.size (LamO h'.objs.size D (cloFrom X.env.cells D.scope.names []) c) b = some o := fun b o e => by
      rw [upd_ne (ne_of_none e nf)]
      exact e
    exact h h'.objs.size c _ _ (lam_lay (t' := tk) J) (fun b o e _ => up b o e) (hT.ext up) nf upd_same (up _ _ hco)
  | none =>
    refine PySem.W.kla_makeFunction (mg := X.mg) (c := c0) (P := P) (ps := ps) (closure_ok hfree) I.ok.glob (I.mod.glob.keeps I.bk) hcode (TB.code.keeps I.bk) inHeap ht hc TB.gP (TB.bm.keeps I.bk) fun c ctv h' tk k hge hlt rec htb => ?_
    obtain ⟨c2, oc, vs, t, e2, hoc, hd, hv⟩ := rec
    cases e2
    have nc : H c = none := I.hok.fresh hge
    have J : Inv X pins σ (upd (upd H P (.tbl (ps ++ #[rawInt pos.line, rawInt pos.col, .ref c]))) c (CodeO c D.qual)) { s with heap := h', toks := tk } := inv_table I hP k htb hge ⟨oc, vs, t, hoc, hd, hv⟩
    have T1 := tabs_more (pos := pos) hT hP nc ht m.one
    have nf := J.hok.fresh (Nat.le_refl _)
    have up : ∀ b o, upd (upd H P (.tbl (ps ++ #[rawInt pos.line, rawInt pos.col, .ref c]))) c (CodeO c D.qual) b = some o → upd (upd (upd H P (.tbl (ps ++ #[rawInt pos.line, rawInt pos.col, .ref c]))) c (CodeO c D.qual)) h'.objs.size (LamO h'.objs.size D (cloFrom X.env.cells D.scope.names []) c) b = some o := fun b o e => by
      rw [upd_ne (ne_of_none e nf)]
      exact e
    exact h h'.objs.size c _ _ (lam_lay (t' := tk) J) (fun b o e n => up b o (by rw [upd_ne (ne_of_none e nc), upd_ne n]; exact e)) (T1.ext up) (I.hok.fresh (Nat.le_trans hge (Nat.le_of_lt hlt))) upd_same (up _ _ upd_same)
theorem pa_lam {T : List (Addr × Str)} {P : Addr} {D : LamD} {ps : Arguments} {body : Expr} {scope : Scope} {pos : Pos} (m : Maker X T P D) (hD : D.prm = ps ∧ D.body = body ∧ D.scope = scope) (hdef : defaultsOf ps X.env = ([], []))
    (hfree : ∀ y ∈ scope.names, y.2 = .free → X.env.scope.names.lookup y.1 = some .cell ∨ X.env.scope.names.lookup y.1 = some .free) : PA X [.Lambda ps body scope pos] (tLamA T P D (cloFrom X.env.cells scope.names [])) := by
  obtain ⟨rfl, rfl, rfl⟩ := hD
  refine ⟨fun pos pins s σ H Q I h => ?_⟩
  obtain ⟨hT, k⟩ := h
  have hfr : ∀ y ∈ D.scope.names, y.2 = .free → ∃ c, X.env.cells.lookup y.1 = some c := fun y hy e => (hfree y hy e).elim (fun z => I.ok.has _ (.inl z)) fun z => I.ok.has _ (.inr z)
  refine Calls.spliced_cons (lam_new m I hT hdef hfr fun f c H1 s1 I1 e1 e2 e3 e4 e5 => ?_)
  exact Calls.spliced_nil ⟨[.ref f], H1, I1, .cons rfl .nil, k f c H1 e1 e2 e3 e4 e5⟩
end
/-! ### the captured cells -/
def inCl (cl : List (Str × Addr)) (b : Addr) : Prop := ∃ y, cl.lookup y = some b
open Classical in
/-- the heap without the cells -/
noncomputable def dropC (cl : List (Str × Addr)) (H : Hp) : Hp := fun b => if inCl cl b then none else H b
open Classical in
/-- the heap with the cells as they are in H0 -/
noncomputable def backC (cl : List (Str × Addr)) (H0 H : Hp) : Hp := fun b => if inCl cl b then H0 b else H b
section
variable {cl : List (Str × Addr)} {H H0 : Hp} {b : Addr} {o : HO}
theorem dropC_in (h : inCl cl b) : dropC cl H b = none := if_pos h
theorem dropC_out (h : ¬ inCl cl b) : dropC cl H b = H b := if_neg h
theorem backC_in (h : inCl cl b) : backC cl H0 H b = H0 b := if_pos h
theorem backC_out (h : ¬ inCl cl b) : backC cl H0 H b = H b := if_neg h
end
/-- H knows the cells of cl; at the names fr they hold the values ws -/
structure CellsT (H : Hp) (cl : List (Str × Addr)) (fr : List Str) (ws : List V) : Prop where
  len : ws.length = fr.length
  all : ∀ y c, cl.lookup y = some c → ∃ o v, H c = some (.frz o (.own c)) ∧ o.data = .cell v
  inj : ∀ x y c, cl.lookup x = some c → cl.lookup y = some c → x = y
  has : ∀ (i : Nat) (y : Str) (v : V), fr[i]? = some y → ws[i]? = some v → ∃ c o u, cl.lookup y = some c ∧ H c = some (.frz o (.own c)) ∧ o.data = .cell (some u) ∧ L2.RelV v u
theorem CellsT.at_ {H : Hp} {cl : List (Str × Addr)} {fr : List Str} {ws : List V} (C : CellsT H cl fr ws) {b : Addr} (h : inCl cl b) : ∃ o v, H b = some (.frz o (.own b)) ∧ o.data = .cell v := let ⟨y, e⟩ := h; C.all y b e
theorem CellsT.not {H : Hp} {cl : List (Str × Addr)} {fr : List Str} {ws : List V} (C : CellsT H cl fr ws) {b : Addr} {o : HO} (e : H b = some o) (n : ∀ ob, o ≠ .frz ob (.own b)) : ¬ inCl cl b := fun z => by
  obtain ⟨ob, v, h, _⟩ := C.at_ z
  rw [h] at e
  cases e
  exact n ob rfl
theorem CellsT.keep {H H' : Hp} {cl : List (Str × Addr)} {fr : List Str} {ws : List V} (C : CellsT H cl fr ws) (k : ∀ c ob, H c = some (.frz ob (.own c)) → inCl cl c → H' c = some (.frz ob (.own c))) : CellsT H' cl fr ws :=
  ⟨C.len, fun y c e => let ⟨o, v, h1, h2⟩ := C.all y c e; ⟨o, v, k c o h1 ⟨y, e⟩, h2⟩, C.inj, fun i y v e1 e2 => let ⟨c, o, u, h1, h2, h3, h4⟩ := C.has i y v e1 e2; ⟨c, o, u, h1, k c o h2 ⟨y, h1⟩, h3, h4⟩⟩
section
variable {P : Program} {w : World} {H : Hp} {h : Heap} {cl : List (Str × Addr)} {fr : List Str} {ws : List V}
theorem hok_drop (C : CellsT H cl fr ws) (k : HOk P w H h) : HOk P w (dropC cl H) h := fun a o e => by
  have na : ¬ inCl cl a := fun z => by rw [dropC_in z] at e; cases e
  rw [dropC_out na] at e
  refine (k a o e).stay (fun _ _ _ q => q) (fun b q => ?_) fun b xs q => ?_
  · rw [dropC_out (C.not q fun _ z => nomatch z)]
    exact q
  · rw [dropC_out (C.not q fun _ z => nomatch z)]
    exact q
theorem cellsAt_of (C : CellsT H cl fr ws) (k : HOk P w H h) : CellsAt cl fr (ws.map some) h (dropC cl H) := by
  have cell : ∀ c o v, H c = some (.frz o (.own c)) → o.data = .cell v → h.IsCell c v := fun c o v e d => by
    obtain ⟨q, _⟩ := k c _ e
    exact ⟨o, q, d⟩
  refine ⟨by rw [List.length_map]; exact C.len, fun y c e => ?_, C.inj, fun i y e => ?_⟩
  · obtain ⟨o, v, h1, h2⟩ := C.all y c e
    exact ⟨dropC_in ⟨y, e⟩, v, cell c o v h1 h2⟩
  · obtain ⟨v, ev⟩ : ∃ v, ws[i]? = some v := by
      have := (List.getElem?_eq_some_iff.mp e).1
      exact ⟨ws[i]'(by rw [C.len]; exact this), List.getElem?_eq_getElem _⟩
    obtain ⟨c, o, u, h1, h2, h3, h4⟩ := C.has i y v e ev
    refine ⟨c, h1, fun v2 e2 => ?_⟩
    rw [List.getElem?_map, ev] at e2
    cases e2
    exact ⟨u, h4, cell c o _ h2 h3⟩
end
/-- the cells are lent: Hc is H with them -/
structure Lent (H Hc : Hp) (cl : List (Str × Addr)) : Prop where
  out : ∀ b, ¬ inCl cl b → Hc b = H b
  new : ∀ b, inCl cl b → H b = none
section
variable {X : Cx} {pins : List (Addr × Obj)} {σ : L2.St} {H : Hp} {s : Shared} {cl : List (Str × Addr)} {fr : List Str} {js : List Nat} {ws : List V}
open Classical in
/-- what a def that gets the lambda may know of the heap -/
theorem lend (I : Inv X pins σ H s) (C : Caps X cl fr js) (hw : js.map (slotAt σ) = ws.map some) : ∃ Hc, Lent H Hc cl ∧ CellsT Hc cl fr ws ∧ HOk X.prog X.w Hc s.heap := by
  have A := cells_of I C
  have obj : ∀ b, inCl cl b → ∃ o v, s.heap.get? b = some o ∧ o.data = .cell v := fun b ⟨y, e⟩ => by
    obtain ⟨_, v, o, h1, h2⟩ := A.all y b e
    exact ⟨o, v, h1, h2⟩
  let Hc : Hp := fun b => if inCl cl b then (s.heap.get? b).map fun o => .frz o (.own b) else H b
  have hin : ∀ b o, inCl cl b → s.heap.get? b = some o → Hc b = some (.frz o (.own b)) := fun b o z e => by
    show (if inCl cl b then (s.heap.get? b).map (fun o => HO.frz o (.own b)) else H b) = _
    rw [if_pos z, e]
    rfl
  have hout : ∀ b, ¬ inCl cl b → Hc b = H b := fun b z => if_neg z
  have new : ∀ b, inCl cl b → H b = none := fun b ⟨y, e⟩ => (A.all y b e).1
  refine ⟨Hc, ⟨hout, new⟩, ⟨?_, fun y c e => ?_, A.inj, fun i y v e1 e2 => ?_⟩, fun a o e => ?_⟩
  · have := A.len
    rw [hw, List.length_map] at this
    exact this
  · obtain ⟨o, v, h1, h2⟩ := obj c ⟨y, e⟩
    exact ⟨o, v, hin c o ⟨y, e⟩ h1, h2⟩
  · obtain ⟨c, h1, h2⟩ := A.has i y e1
    obtain ⟨u, r, o, h3, h4⟩ := h2 v (by rw [hw, List.getElem?_map, e2]; rfl)
    exact ⟨c, o, u, h1, hin c o ⟨y, h1⟩ h3, h4, r⟩
  · by_cases z : inCl cl a
    · obtain ⟨ob, v, h1, _⟩ := obj a z
      rw [hin a ob z h1] at e
      cases e
      exact ⟨h1, _, h1⟩
    · rw [hout a z] at e
      have nin : ∀ b x, H b = some x → ¬ inCl cl b := fun b x q z => by rw [new b z] at q; cases q
      refine (I.hok a o e).stay (fun _ _ _ q => q) (fun b q => ?_) fun b xs q => ?_
      · rw [hout b (nin b _ q)]
        exact q
      · rw [hout b (nin b _ q)]
        exact q
end
section
variable {P : Program} {w : World} {outer : List Env} {H Hc : Hp} {s s' : Shared} {cl : List (Str × Addr)} {fr : List Str} {ws : List V}
theorem drop_un {fs : List Addr} {H2 : Hp} (L : Lent H Hc cl) (C : CellsT Hc cl fr ws) (k : HOk P w Hc s.heap) (k2 : HOk P w H2 s'.heap) (u : Un fs [] Hc H2 s.heap s'.heap) : Un fs [] H (dropC cl H2) s.heap s'.heap := by
  have inH : ∀ b x, H b = some x → ¬ inCl cl b := fun b x q z => by rw [L.new b z] at q; cases q
  have same : ∀ b, inCl cl b → ∀ o, s.heap.get? b = some o → s'.heap.get? b = some o := fun b z o e => by
    obtain ⟨ob, v, h1, _⟩ := C.at_ z
    obtain ⟨q1, _⟩ := k b _ h1
    obtain ⟨q2, _⟩ := k2 b _ (u.frzs b ob _ h1)
    rw [e] at q1
    cases q1
    exact q2
  refine ⟨fun b o e n hb hx => ?_, fun b o e n hb hx => ?_, fun b o e n hx => ?_, u.there, fun b xs e => ?_, fun b o x e => ?_, fun b ps e => ?_⟩
  · by_cases z : inCl cl b
    · exact same b z o e
    · exact u.keep b o e (by rw [L.out b z]; exact n) hb hx
  · by_cases z : inCl cl b
    · exact ⟨o.slots, same b z o e⟩
    · exact u.slot b o e (by rw [L.out b z]; exact n) hb hx
  · by_cases z : inCl cl b
    · exact dropC_in z
    · rw [dropC_out z]
      exact u.free b o e (by rw [L.out b z]; exact n) hx
  · have z := inH b _ e
    rw [dropC_out z]
    exact u.tups b xs (by rw [L.out b z]; exact e)
  · have z := inH b _ e
    rw [dropC_out z]
    exact u.frzs b o x (by rw [L.out b z]; exact e)
  · have z := inH b _ e
    rw [dropC_out z]
    exact u.tbls b ps (by rw [L.out b z]; exact e)
/-- the cells as a call left them: as they were -/
theorem cells_kept {fs : List Addr} {H2 : Hp} {h h' : Heap} (C : CellsT Hc cl fr ws) (u : Un fs [] Hc H2 h h') : CellsT H2 cl fr ws := C.keep fun c ob e _ => u.frzs c ob _ e
end
section
variable {P : Program} {w : World} {outer : List Env} {H Hc : Hp} {s s' : Shared} {cl : List (Str × Addr)} {fr : List Str} {ws : List V}
theorem drop_ub {fs : List Addr} {H2 : Hp} {B h' : Heap} (L : Lent H Hc cl) (C : CellsT Hc cl fr ws) (k : HOk P w Hc s.heap) (k2 : HOk P w H2 B) (u : UB fs Hc H2 s.heap B h') : UB fs H (dropC cl H2) s.heap B h' := by
  have inH : ∀ b x, H b = some x → ¬ inCl cl b := fun b x q z => by rw [L.new b z] at q; cases q
  refine ⟨fun b o e n hb => ?_, u.slot, fun b o e n => ?_, u.there, fun b xs e => ?_, fun b o x e => ?_, fun b ps e => ?_⟩
  · by_cases z : inCl cl b
    · obtain ⟨ob, v, h1, _⟩ := C.at_ z
      obtain ⟨q1, _⟩ := k b _ h1
      obtain ⟨q2, _⟩ := k2 b _ (u.frzs b ob _ h1)
      rw [e] at q1
      cases q1
      exact q2
    · exact u.keep b o e (by rw [L.out b z]; exact n) hb
  · by_cases z : inCl cl b
    · exact dropC_in z
    · rw [dropC_out z]
      exact u.free b o e (by rw [L.out b z]; exact n)
  · have z := inH b _ e
    rw [dropC_out z]
    exact u.tups b xs (by rw [L.out b z]; exact e)
  · have z := inH b _ e
    rw [dropC_out z]
    exact u.frzs b o x (by rw [L.out b z]; exact e)
  · have z := inH b _ e
    rw [dropC_out z]
    exact u.tbls b ps (by rw [L.out b z]; exact e)
/-- how an exception behind a call with lent cells is seen without them -/
def DropX (CX : CXT) (P : Program) (w : World) : Prop := ∀ (outer : List Env) (H Hc : Hp) (s : Shared) (cl : List (Str × Addr)) (fr : List Str) (ws : List V) (E : XK) (e : Value) (s' : Shared), Lent H Hc cl → CellsT Hc cl fr ws → HOk P w Hc s.heap →
  CX outer Hc s (fun C d H2 => CellsT H2 cl fr ws → E C d (dropC cl H2)) e s' → CX outer H s E e s'
theorem dropX0 : DropX CX0 P w := fun _ _ _ _ _ _ _ _ _ _ _ _ _ h => h
theorem dropX : DropX (L2.CX P w) P w := fun outer H Hc s cl fr ws E e s' L C k h => by
  obtain ⟨a, B, H2, cls, d, e1, e2, e3, e4, e5, e6, e7, e8⟩ := h
  have C2 : CellsT H2 cl fr ws := C.keep fun c ob q _ => e4.frzs c ob _ q
  refine ⟨a, B, dropC cl H2, cls, d, e1, e2, hok_drop C2 e3, drop_ub L C k e3 e4, ?_, e6, e7, e8 C2⟩
  by_cases z : inCl cl a
  · exact dropC_in z
  · rw [dropC_out z]
    exact e5
theorem ce_drop {Q : VK} {u : Value} (L : Lent H Hc cl) (C : CellsT Hc cl fr ws) (k : HOk P w Hc s.heap) (h : CE outer P w Hc s (fun v H2 => CellsT H2 cl fr ws → Q v (dropC cl H2)) u s') : CE outer P w H s Q u s' := by
  obtain ⟨v, H2, e1, e2, e3, e4, e5, e6⟩ := h
  have C2 := cells_kept C e3
  exact ⟨v, dropC cl H2, e1, e2, drop_un L C k e4 e3, hok_drop C2 e4, e5, e6 C2⟩
/-- behind a call that ran without the cells -/
theorem ce_back {Q : VK} {u : Value} (C : CellsT H cl fr ws) (k : HOk P w H s.heap) (nf : ∀ b ∈ frs outer, H b = none) (h : CE outer P w (dropC cl H) s (fun v H2 => (∀ b, inCl cl b → H2 b = none) → Q v (backC cl H H2)) u s') : CE outer P w H s Q u s' := by
  obtain ⟨v, H2, e1, e2, un, hok, r, q⟩ := h
  have obj : ∀ b, inCl cl b → ∃ o, H b = some (.frz o (.own b)) ∧ s.heap.get? b = some o ∧ s'.heap.get? b = some o := fun b z => by
    obtain ⟨o, v, h1, _⟩ := C.at_ z
    obtain ⟨h2, _⟩ := k b _ h1
    exact ⟨o, h1, h2, un.keep b o h2 (dropC_in z) (fun y => by rw [nf b y] at h1; cases h1) (by simp)⟩
  have gone : ∀ b, inCl cl b → H2 b = none := fun b z => by
    obtain ⟨o, _, h2, _⟩ := obj b z
    exact un.free b o h2 (dropC_in z) (by simp)
  have away : ∀ b, H b = none → ¬ inCl cl b := fun b e z => by
    obtain ⟨o, h1, _⟩ := obj b z
    rw [e] at h1
    cases h1
  have out2 : ∀ b x, H2 b = some x → backC cl H H2 b = some x := fun b x e => by
    rw [backC_out fun z => by rw [gone b z] at e; cases e]
    exact e
  refine ⟨v, backC cl H H2, e1, e2, ⟨fun b o e n hb hx => ?_, fun b o e n hb hx => ?_, fun b o e n hx => ?_, un.there, fun b xs e => ?_, fun b o x e => ?_, fun b ps e => ?_⟩, fun a o e => ?_, r, q gone⟩
  · exact un.keep b o e (by rw [dropC_out (away b n)]; exact n) hb hx
  · exact un.slot b o e (by rw [dropC_out (away b n)]; exact n) hb hx
  · rw [backC_out (away b n)]
    exact un.free b o e (by rw [dropC_out (away b n)]; exact n) hx
  · exact out2 b _ (un.tups b xs (by rw [dropC_out (C.not e fun _ z => nomatch z)]; exact e))
  · by_cases z : inCl cl b
    · rw [backC_in z]
      exact e
    · exact out2 b _ (un.frzs b o x (by rw [dropC_out z]; exact e))
  · obtain ⟨more, h1⟩ := un.tbls b ps (by rw [dropC_out (C.not e fun _ z => nomatch z)]; exact e)
    exact ⟨more, out2 b _ h1⟩
  · by_cases z : inCl cl a
    · obtain ⟨ob, h1, _, h3⟩ := obj a z
      rw [backC_in z, h1] at e
      cases e
      exact ⟨h3, _, h3⟩
    · rw [backC_out z] at e
      exact (hok a o e).stay (fun _ _ _ q => q) (fun b q => out2 b _ q) fun b xs q => out2 b _ q
end
/-! ### a def that gets a lambda -/
/-- f(.., lambda ..): js: the captured names' slots -/
def tCallL (sp : Sp) (E : XK) (fr : List Str) (js : List Nat) (cl : List (Str × Addr)) (t : TA) : TE := fun σ H Q => t σ H fun vs H1 => ∃ ws : List V, js.map (slotAt σ) = ws.map some ∧
  ∀ Hc, Lent H1 Hc cl → CellsT Hc cl fr ws → sp vs Hc (fun v H2 => CellsT H2 cl fr ws → Q v (dropC cl H2)) fun C d H2 => CellsT H2 cl fr ws → E C d (dropC cl H2)
section
variable {X : Cx} {CX : CXT} {k j : Nat} {x : Str} {ps : List Str} {sp : Sp} {e : Expr} {es : List Expr} {t : TA} {p pos : Pos}
theorem pe_fL {E : XK} {scope : Scope} {fr : List Str} {js : List Nat} (c : FnC X.prog X.w X.K X.mg X.base CX k x ps sp) (hr : Room j X.A) (hk : k ≤ j) (hx : Passes CX X E) (hc : DropX CX X.prog X.w) (hfn : ∀ y, X.fn y = true)
    (hfree : ∀ y ∈ scope.names, y.2 = .free → X.env.scope.names.lookup y.1 = some .cell ∨ X.env.scope.names.lookup y.1 = some .free) (hfr : ∀ y ∈ fr, (y, NameKind.free) ∈ scope.names) (hjs : js.map (fun j => X.N[j]?) = fr.map some)
    (ha : PA X (e :: es) t) (hg : Gl X x := by rfl) (hdb : (x == ("__debug__" : Str)) = false := by decide)
    (he : starEach (e :: es) X.env = (false, eval e X.env) :: starEach es X.env := by rfl) (hpl : (backTo pos (starEach es X.env)).any (·.1) = false := by rfl) : PE X (.Call (.Name x p) (e :: es) [] pos) (tCallL sp E fr js (cloFrom X.env.cells scope.names []) t) := by
  obtain ⟨f, fd, F, hm, hkp, hb⟩ := c.ex
  refine ⟨fun pins s σ H Q I h => ?_⟩
  refine wpAny_Call_Name_kw (ld_glob I hg hm ?_ hdb)
  refine PySem.W.callWith_K (h₀ := X.base) I.ok.mod.kin hkp (thn (ha.run pos pins s σ H _ I h) fun us s1 ⟨vs, H1, I1, r, ws, hw, q⟩ => ⟨I1.kIn, ?_⟩) he hpl
  have cp := Caps.made I1.ok hfree hfr hjs
  obtain ⟨Hc, L, C, hok⟩ := lend I1 cp hw
  have q := q Hc L C
  have e0 := I1.env0
  have late : ∀ b, inCl (cloFrom X.env.cells scope.names []) b → X.s_0.heap.objs.size ≤ b := fun b ⟨y, e⟩ => I1.ok.cab y b (hfn y) (cp.sub y b e)
  have nbase : ∀ b o, X.base.get? b = some o → ¬ inCl (cloFrom X.env.cells scope.names []) b := fun b o e z => absurd (Nat.lt_of_lt_of_le (Nat.lt_of_lt_of_le (Heap.lt_size e) I1.ok.bsz) (late b z)) (Nat.lt_irrefl _)
  have nfr : ∀ b ∈ frs X.stack, ¬ inCl (cloFrom X.env.cells scope.names []) b := fun b hb z => by
    rcases List.mem_cons.mp (I1.stkSub b hb) with rfl | hb
    · obtain ⟨y, e⟩ := z
      exact I1.cne y _ (cp.sub y _ e) rfl
    · obtain ⟨_, o, ho, _⟩ := I1.ok.funs.mem hb
      exact absurd (Nat.lt_of_lt_of_le (Heap.lt_size ho) (late b z)) (Nat.lt_irrefl _)
  have e1 : Env0 X.prog X.w X.K X.mg X.base X.A X.stack s1 Hc := ⟨e0.frames, e0.mod, fun b o e => ⟨(e0.bs b o e).1, by rw [L.out b (nbase b o e)]; exact (e0.bs b o e).2⟩, e0.bsz, e0.funs, fun b hb => by rw [L.out b (nfr b hb)]; exact e0.frf b hb, hok, e0.bare⟩
  have hl : us.length = ps.length := by rw [← r.length]; exact F.len _ _ _ _ q
  have bind := hb s1 us I1.kIn (by rw [List.append_nil]; exact hl)
  rw [List.append_nil] at bind
  refine wpAny_call (codeAny_mono (F.run X.A X.stack s1 Hc ⟨us, []⟩ us vs _ _ (hr.mono hk) e1 bind r q) fun r s' hq => ?_)
  cases r with
  | error e => exact hx pins σ H1 s1 e s' I1 (hc _ _ _ _ _ _ _ _ _ _ L C hok hq)
  | ok fl =>
    cases fl with
    | ret u => exact I1.after (ce_drop L C hok hq)
    | next => exact False.elim hq
    | brk => exact False.elim hq
    | cont => exact False.elim hq
end
/-! ### the lambda runs -/
/-- what the lambda D promises; its parameters' values, then those of what it captured -/
structure LamC (P : Program) (w : World) (K : PySem.W.Frag) (mg : Str → Option Value) (base : Heap) (k : Nat) (D : LamD) (ps fr : List Str) (sp : Sp) : Prop where
  len : ∀ vs H Q E, sp vs H Q E → vs.length = ps.length + fr.length
  run : ∀ (A : Around) (outer : List Env) (s : Shared) (H : Hp) (f c : Addr) (cl : List (Str × Addr)) (pm ctv : Value) (us : List Value) (vs ws : List V) (Q : VK), Room k A → Env0 P w K mg base A outer s H →
    s.heap.get? f = some (PySem.W.kla_obj "<lambda>" D.qual D.prm D.body D.scope cl pm c ctv) → s.heap.CodeRec (.ref c) D.qual → CellsAt cl fr (ws.map some) s.heap H → Vals vs us → vs.length = ps.length → sp (vs ++ ws) H Q E0 →
    codeAny (model P w) A (.call (.ref f) ⟨us, []⟩) (CR CX0 outer P w H s Q E0) s
theorem startF_eq {N : List Str} {vs ws : List V} : startF N vs (ws.map some) = L2.start N (vs ++ ws) := by
  unfold startF L2.start
  rw [List.map_append, List.append_assoc, List.length_map, List.length_append, Nat.sub_sub]
section
variable {P : Program} {w : World} {K : PySem.W.Frag} {mg : Str → Option Value} {base : Heap} {k : Nat} {D : LamD} {N ps fr : List Str} {sp : Sp}
theorem LamC.mono {j : Nat} (o : LamC P w K mg base j D ps fr sp) (h : j ≤ k) : LamC P w K mg base k D ps fr sp := ⟨o.len, fun A outer s H f c cl pm ctv us vs ws Q hr => o.run A outer s H f c cl pm ctv us vs ws Q (hr.mono h)⟩
theorem LamC.imp {sp' : Sp} (o : LamC P w K mg base k D ps fr sp) (h : ∀ vs H Q E, sp' vs H Q E → sp vs H Q E) : LamC P w K mg base k D ps fr sp' :=
  ⟨fun vs H Q E q => o.len vs H Q E (h _ _ _ _ q), fun A outer s H f c cl pm ctv us vs ws Q hr e0 hf hc C r l q => o.run A outer s H f c cl pm ctv us vs ws Q hr e0 hf hc C r l (h _ _ _ _ q)⟩
theorem lamC_of (S : NScope N ps fr D.scope) (co : D.scope.isCoroutine = false) (hb : ∀ (cl : List (Str × Addr)) (c : Addr) (pm ctv : Value) (us : List Value), us.length = ps.length → bindArgs (PySem.W.kla_fn "<lambda>" D.qual D.prm D.body D.scope cl pm (.ref c) ctv) ⟨us, []⟩ = pure (ps.zip us)) (len : ∀ vs H Q E, sp vs H Q E → vs.length = ps.length + fr.length)
    (hbody : ∀ (A : Around) (outer : List Env) (s : Shared) (H : Hp) (f c : Addr) (cl : List (Str × Addr)) (vs : List V) (Q : VK), Room k (A.deeper (envF (D.nf cl c) f s.heap.objs.size)) → sp vs H Q E0 →
      ∃ t, PE (ncx CX0 P w K mg base N (D.nf cl c) f A outer s H E0).nox D.body t ∧ t (L2.start N vs) H Q) : LamC P w K mg base (k + 1) D ps fr sp := by
  refine ⟨len, fun A outer s H f c cl pm ctv us vs ws Q hr e0 hf hc C r hl hsp => ?_⟩
  have lim : s.heap.NoLimit := e0.mod.nolimit.keeps fun b o e => (e0.bs b o e).1
  refine PySem.W.kla_callFunE hr.depth hf rfl S.co S.gen rfl hc ?_
  rw [hb cl c pm ctv us (by rw [← r.length]; exact hl)]
  refine wpAny_pure (wpAny_newFunctionEnv S.nocell (fun ⟨n, _⟩ hy => S.par n (List.of_mem_zip hy).1) (fun h₁ hns hsb => ⟨lim.fresh _ hsb, ?_⟩) S.kind)
  show codeAny _ _ (.expr D.body (envF (D.nf cl c) f s.heap.objs.size)) _ _
  have kp : ∀ b o, s.heap.get? b = some o → h₁.get? b = some o := fun b o e => hsb.extBut b o (Nat.ne_of_lt (Heap.lt_size e)) (Heap.get?_push_of_some _ e)
  obtain ⟨t, ht, hq⟩ := hbody A outer s H f c cl (vs ++ ws) Q (hr.deeper _) hsp
  have I : Inv (ncx CX0 P w K mg base N (D.nf cl c) f A outer s H E0) [] (startF N vs (ws.map some)) H { s with heap := h₁, toks := s.toks + (ps.zip us).length } := inv_startN (F := D.nf cl c) S hr.hd e0 hl r C hns kp
  rw [startF_eq] at I
  refine PySem.W.kla_codeExpr (wpAny_mono (ht.nox.run [] _ _ H _ I hq) (fun v s' hs => ?_) fun e s' hs => hs)
  obtain ⟨v2, H2, J, rv, q⟩ := hs
  exact ⟨v2, H2, J.os, J.bare, J.base, J.hok, rv, q⟩
end
/-- g(..), g a slot that holds the lambda D -/
def tCallH (i n : Nat) (D : LamD) (fr : List Str) (sp : Sp) (t : TA) : TE := fun σ H Q => ∃ f cl c ws, σ[i]? = some (some (.ref f)) ∧ H f = some (LamO f D cl c) ∧
  t σ H fun vs H1 => H1 f = some (LamO f D cl c) ∧ H1 c = some (CodeO c D.qual) ∧ CellsT H1 cl fr ws ∧ vs.length = n ∧ sp (vs ++ ws) (dropC cl H1) (fun v H2 => (∀ b, inCl cl b → H2 b = none) → Q v (backC cl H1 H2)) E0
section
variable {X : Cx} {k j i n : Nat} {x : Str} {D : LamD} {ps fr : List Str} {sp : Sp} {e : Expr} {es : List Expr} {t : TA} {p pos : Pos}
theorem lamO_at {pins : List (Addr × Obj)} {σ : L2.St} {H : Hp} {s : Shared} {f c : Addr} {cl : List (Str × Addr)} (I : Inv X pins σ H s) (e : H f = some (LamO f D cl c)) : ∃ pm ctv, s.heap.get? f = some (PySem.W.kla_obj "<lambda>" D.qual D.prm D.body D.scope cl pm c ctv) := (I.hok f _ e).1
theorem pe_lamG (c : LamC X.prog X.w X.K X.mg X.base k D ps fr sp) (hr : Room j X.A) (hk : k ≤ j) (hn : ps.length = n) (hN : X.N[i]? = some x) (hv : Vis X.env.scope x) (ha : PA X (e :: es) t) (hd : (x == ("__debug__" : Str)) = false := by decide) (hcd : (x == ("__classdict__" : Str)) = false := by decide)
    (he : starEach (e :: es) X.env = (false, eval e X.env) :: starEach es X.env := by rfl) (hpl : (backTo pos (starEach es X.env)).any (·.1) = false := by rfl) : PE X (.Call (.Name x p) (e :: es) [] pos) (tCallH i n D fr sp t) := by
  refine ⟨fun pins s σ H Q I h => ?_⟩
  obtain ⟨f, cl, cc, ws, hs, hf, ht⟩ := h
  refine wpAny_Call_Name_kw (thn ((pe_var (pos := p) hN hv hd hcd).run pins s σ H (fun v H1 => v = .ref f ∧ H1 = H) I ⟨.ref f, hs, rfl, rfl⟩) fun u s1 ⟨v, H1, I1, r1, q1⟩ => ?_)
  obtain ⟨rfl, rfl⟩ := q1
  obtain rfl : u = Value.ref f := r1
  have fa : ∀ {H : Hp} {s : Shared}, Inv X pins σ H s → H f = some (LamO f D cl cc) → PySem.W.FnAt f s.heap := fun {H s} I e => let ⟨pm, ctv, ho⟩ := lamO_at I e; ⟨_, _, _, _, ho⟩
  refine PySem.W.callWith_F (first := []) (fa I1 hf) (thn (ha.run pos pins s1 σ _ _ I1 ht) fun us s2 ⟨vs, H2, I2, r, h1, h2, C, hl, q⟩ => ⟨fa I2 h1, ?_⟩) he hpl
  show wpAny _ _ (call (.ref f) us) _ _ _
  obtain ⟨pm, ctv, ho⟩ := lamO_at I2 h1
  have e0 := I2.env0
  have sub : ∀ b, H2 b = none → dropC cl H2 b = none := fun b e => by
    by_cases z : inCl cl b
    · exact dropC_in z
    · rw [dropC_out z]
      exact e
  have e1 : Env0 X.prog X.w X.K X.mg X.base X.A X.stack s2 (dropC cl H2) := ⟨e0.frames, e0.mod, fun b o e => ⟨(e0.bs b o e).1, sub b (e0.bs b o e).2⟩, e0.bsz, e0.funs, fun b hb => sub b (e0.frf b hb), hok_drop C I2.hok, e0.bare⟩
  refine wpAny_call (codeAny_mono (c.run X.A X.stack s2 _ f cc cl pm ctv us vs ws _ (hr.mono hk) e1 ho (codeO_at I2.hok h2) (cellsAt_of C I2.hok) r (hl.trans hn.symm) q) fun r s' hq => ?_)
  cases r with
  | error e => exact False.elim hq
  | ok fl =>
    cases fl with
    | ret u => exact I2.after (ce_back C I2.hok e0.frf hq)
    | next => exact False.elim hq
    | brk => exact False.elim hq
    | cont => exact False.elim hq
end
end SL
/-! sorted(t), t a tuple of ints. -/
namespace SL
open PySem PySem.Spec PyProof.Rows L2
section
variable {prog : Program} {w : World} {A : Around} {E : Value → Shared → Prop} {s : Shared}
/-- the items of a tuple, gathered -/
theorem gather_tuple {t : Addr} {ys : List Value} {Q : List Value → Shared → Prop} (ht : s.heap.IsTuple t ys.toArray) (hz : ys.length ≤ sizeLine)
    (k : Q ys { s with heap := (s.heap.push (seqObj "list" #[] 0)).update s.heap.objs.size (Obj.mapSeq (· ++ ys.toArray)) }) : wpAny (model prog w) A (collect (.ref t)) Q E s := by
  obtain ⟨ob, hob, hcls, m, hdat⟩ := id ht
  have keep : (s.heap.push (seqObj "list" #[] 0)).get? t = some ob := Heap.get?_push_of_some _ hob
  have there : (s.heap.push (seqObj "list" #[] 0)).get? s.heap.objs.size = some (seqObj "list" #[] 0) := Heap.get?_push_size _ rfl
  have small : ((#[] : Array Value) ++ ys.toArray).size ≤ sizeLine + 1 := by
    rw [Array.size_append, List.size_toArray]
    show 0 + ys.length ≤ _
    omega
  have all : ((#[] : Array Value) ++ ys.toArray).toList = ys := by simp
  unfold collect
  refine wpAny_bind (m := runValue _) (wpAny_runValue (codeAny_builtin entry_proto_collect' ?_))
  show wpAny _ _ (newList [] >>= fun l => again (.builtin "list.__iadd__" ⟨[l, .ref t], []⟩)) _ _ s
  refine wpAny_bind (m := newList []) (wpAny_newList (wpAny_pure ⟨Code.quiet_builtin _ (by decide +kernel), codeAny_builtin entry_list_iadd' ?_⟩))
  show wpAny _ _ (Builtin.List.listExtendWith (.ref s.heap.objs.size) (.ref t) (.ref s.heap.objs.size)) _ _ ⟨s.heap.push (seqObj "list" #[] 0), s.gens, s.drawn, s.toks, s.os⟩
  unfold Builtin.List.listExtendWith
  refine wpAny_bind (m := typeOf _) (wpAny_typeOf (T := "tuple") ⟨ob, keep, hcls⟩ ?_)
  rw [if_pos (show _ = true by rw [show (Value.type "tuple" == Value.type "tuple") = true from rfl, Bool.or_true])]
  refine wpAny_bind (listItems_at keep hdat ?_)
  refine wpAny_bind (listItems_at (xs := #[]) (n := 0) there rfl ?_)
  rw [if_neg (show ¬ _ by simp)]
  refine wpAny_bind (listUpdate_at (xs := #[]) (n := 0) there rfl ?_ (Nat.zero_le _) small)
  refine wpAny_pure ?_
  show wpAny (model prog w) A (load s.heap.objs.size >>= fun o => match o.data with
      | .seq xs _ => pure xs.toList
      | _ => unsupported "internal:collect") Q E _
  refine wpAny_bind (m := load _) (wpAny_load (get?_update_seq there _) ?_)
  show wpAny _ _ (pure ((#[] : Array Value) ++ ys.toArray).toList) Q E _
  rw [all]
  exact wpAny_pure k
theorem size_grown (h : Heap) (ys : List Value) : ((h.push (seqObj "list" #[] 0)).update h.objs.size (Obj.mapSeq (· ++ ys.toArray))).objs.size = h.objs.size + 1 := by rw [Heap.size_update, size_push']
open SrtO in
/-- .. sorted: two new lists, the second one is the answer -/
theorem sorted_tuple {t : Addr} {ys : List Value} {lt : Value → Value → Bool} {Q : Value → Shared → Prop} (O : Swo lt) (ht : s.heap.IsTuple t ys.toArray) (hz : ys.length ≤ sizeLine)
    (can : 2 ≤ ys.length → ∀ (g : Heap) (a : Addr), g.get? a = some (seqObj "list" ys.toArray 0) → SortableO prog w A.in1.in1 { s with heap := g } a ys lt)
    (k : ∀ out : List Value, Srtd lt out → Stb lt out ys → Q (.ref (s.heap.objs.size + 1)) { s with heap := PyProof.Rows.sortedAll s.heap ys out.toArray }) : wpAny (model prog w) A (call (.builtin "sorted") [.ref t]) Q E s := by
  have e1 := size_grown s.heap ys
  have at1 : (((s.heap.push (seqObj "list" #[] 0)).update s.heap.objs.size (Obj.mapSeq (· ++ ys.toArray))).push (seqObj "list" ys.toArray 0)).get? (s.heap.objs.size + 1) = some (seqObj "list" ys.toArray 0) := by
    rw [← e1]
    exact Heap.get?_push_size _ rfl
  refine Calls.call_function_entry (by exact kind_sorted) (by exact plain_sorted) (by exact entry_sorted) (by exact args_sorted1 _) ?_
  unfold Builtin.«sorted»
  refine wpAny_bind (m := checkCount "sorted" 1 1 _) (wpAny_pure (wpAny_bind (m := collect (.ref t)) (gather_tuple ht hz ?_)))
  refine wpAny_bind (m := newList ys) (wpAny_newList ?_ hz)
  show wpAny _ _ _ _ _ ⟨((s.heap.push (seqObj "list" #[] 0)).update s.heap.objs.size (Obj.mapSeq (· ++ ys.toArray))).push (seqObj "list" ys.toArray 0), s.gens, s.drawn, s.toks, s.os⟩
  rw [e1]
  refine wpAny_bind (m := holding _ _) (wpAny_holding (wpAny_call_entry (by exact slot_list_sort) ⟨_, at1, rfl⟩ (by exact entry_list_sort) (list_sort_ord O at1 hz (fun h2 => can h2 _ _ at1) fun out a b => ⟨_, rfl, ?_⟩) (args_list_sort _)))
  exact wpAny_pure ⟨_, rfl, k out a b⟩
end
def rSortTI (K : PySem.W.Frag) : List V → Hp → VK → Prop := fun vs H Q => ∃ (a : Addr) (ns : List Int), vs = [V.ref a] ∧ SqT K H a (ns.map V.int) ∧ ∀ (ms : List Int) (p : Addr), ms.Perm ns → ms.Pairwise (· ≤ ·) → H p = none → Q (.ref p) (upd H p (.lst (ms.map V.int)))
theorem cr_sortTI {X : Cx} (K : PySem.W.Frag) (hK : X.K = K := by rfl) : CallR X (.builtin "sorted") (rSortTI K) := by
  subst hK
  intro pins s σ H vs us Q I r h
  obtain ⟨a, ns, rfl, hs, q⟩ := h
  obtain ⟨its, rv, hl, hz⟩ := I.tuple hs
  rw [Vals.ref1 r]
  have ri := rv.ints
  have lz : its.length ≤ sizeLine := by rw [← rv.length]; exact hz
  refine sorted_tuple SrtO.swo_int hl lz (fun h2 g a2 _ => SrtO.ints_sortable ri h2) fun out o1 o2 => ?_
  obtain ⟨k1, k2, k3⟩ := SrtO.ints_out ri o1 o2
  obtain ⟨ep, there⟩ := PyProof.Rows.sortedAll_at s.heap its out.toArray
  have lo : ((out.map SrtO.iv).map V.int).length ≤ sizeLine := by
    rw [List.length_map, k2.length_eq]
    rw [List.length_map] at hz
    exact hz
  have J : Inv X pins σ (upd H (s.heap.objs.size + 1) (.lst ((out.map SrtO.iv).map V.int))) { s with heap := PyProof.Rows.sortedAll s.heap its out.toArray, toks := s.toks } :=
    I.laid (t' := s.toks) (fun _ _ => PyProof.Rows.sortedAll_old) (Nat.le_succ _) ⟨lo, out, ep, vals_of_ints k1, there⟩
  exact ⟨.ref _, _, J, rfl, q _ _ k2 k3 (I.hok.fresh (Nat.le_succ _))⟩
end SL
/-! The value layer: lambdas that are handed to a def, and run there. -/
namespace SV
open PySem PySem.Spec PyProof.Rows L2 SL LamX NdefX
section
variable {b : PT} {pp q : Addr} {G H Hc G' H2 : Hp} {cl : List (Str × Addr)} {fr : List Str} {ws : List V}
theorem off_obj (p : Pl b pp q G H) {a : Addr} {o : HO} (e : H a = some o) (n1 : ∀ xs, o ≠ .lst xs) (n2 : ∀ ps, o ≠ .tbl ps) : Off b pp a := by
  refine ⟨fun z w => ?_, fun t ht w => ?_⟩
  · obtain ⟨⟨ms, c, u, d, e', k1, _⟩, _⟩ := p.1 z
    rw [w, k1] at e
    cases e
    exact n1 _ rfl
  · obtain ⟨⟨ps, k1, _⟩, _⟩ := p.2 t ht
    rw [w, k1] at e
    cases e
    exact n2 _ rfl
/-- a pool and tables stay what they are where what they lean on does -/
theorem Pl.move {H' : Hp} (p : Pl b pp q G H) (k : ∀ a o, H a = some o → (∀ ob, o ≠ .frz ob (.own a)) → H' a = some o) : Pl b pp q G H' := by
  refine ⟨fun z => ?_, fun t ht => ?_⟩
  · obtain ⟨P, n1, n2⟩ := p.1 z
    obtain ⟨ms, c, u, d, e, k1, k2, k3⟩ := id P
    exact ⟨P.keep ((k _ _ k1 fun _ z => nomatch z).trans k1.symm) ((k _ _ k2 fun _ z => nomatch z).trans k2.symm), n1, n2⟩
  · obtain ⟨⟨ps, k1, k2, k3⟩, g⟩ := p.2 t ht
    refine ⟨⟨ps, k _ _ k1 (fun _ z => nomatch z), k2, fun pos cv hc => ?_⟩, g⟩
    obtain ⟨c, e1, e2⟩ := k3 pos cv hc
    exact ⟨c, e1, k _ _ e2 fun ob z => by unfold CodeO at z; cases z⟩
theorem vw_drop (w : Vw G H) (gn : ∀ a, inCl cl a → G a = none) : Vw G (dropC cl H) := fun a o e => by
  rw [dropC_out fun z => by rw [gn a z] at e; cases e]
  exact w a o e
theorem gr_drop (L : Lent H Hc cl) (C : CellsT Hc cl fr ws) (gn : ∀ a, inCl cl a → G a = none) (p : Pl b pp q G Hc) (C2 : CellsT H2 cl fr ws) (g : Gr b pp q G Hc G' H2) : Gr b pp q G H G' (dropC cl H2) := by
  have gn2 : ∀ a, inCl cl a → G' a = none := fun a z => by
    obtain ⟨o, v, h1, _⟩ := C.at_ z
    exact (g.fr a _ (off_obj p h1 (fun _ z => nomatch z) fun _ z => nomatch z) h1 (gn a z) rfl).1
  refine ⟨⟨g.gg, vw_drop g.vw gn2, fun a o n e g1 => ?_, g.pl.move fun a o e n => ?_⟩, fun a o e => ?_⟩
  · have z : ¬ inCl cl a := fun z => by rw [L.new a z] at e; cases e
    obtain ⟨k1, k2⟩ := g.fr0 a o n (by rw [L.out a z]; exact e) g1
    exact ⟨k1, by rw [dropC_out z]; exact k2⟩
  · rw [dropC_out (C2.not e n)]
    exact e
  · have z : ¬ inCl cl a := fun z => by rw [gn a z] at e; cases e
    have := g.ge a o e
    unfold Lk at this ⊢
    rw [dropC_out z, ← L.out a z]
    exact this
theorem gr_back (C : CellsT H cl fr ws) (gn : ∀ a, inCl cl a → G a = none) (p : Pl b pp q G H) (g : Gr b pp q G (dropC cl H) G' H2) (n2 : ∀ a, inCl cl a → H2 a = none) : Gr b pp q G H G' (backC cl H H2) := by
  have out2 : ∀ a o, H2 a = some o → backC cl H H2 a = some o := fun a o e => by
    rw [backC_out fun z => by rw [n2 a z] at e; cases e]
    exact e
  refine ⟨⟨g.gg, fun a o e => ?_, fun a o n e g1 => ?_, g.pl.move fun a o e _ => out2 a o e⟩, fun a o e => ?_⟩
  · rcases g.vw a o e with k | ⟨k, ob, k2⟩
    · exact .inl (out2 a o k)
    · exact .inr ⟨k, ob, out2 a _ k2⟩
  · by_cases z : inCl cl a
    · rw [backC_in z]
      exact ⟨fun _ => g.vw.free (n2 a z), e⟩
    · obtain ⟨k1, k2⟩ := g.fr0 a o n (by rw [dropC_out z]; exact e) g1
      exact ⟨k1, out2 a o k2⟩
  · have z : ¬ inCl cl a := fun z => by rw [gn a z] at e; cases e
    have := g.ge a o e
    unfold Lk at this ⊢
    rw [backC_out z, ← dropC_out (cl := cl) (H := H) z]
    exact this
end
/-- the lambda D at f, as a def that gets it knows it -/
structure LamIn (pp : Addr) (G H : Hp) (f : Addr) (D : LamD) (fr : List Str) (cl : List (Str × Addr)) (c : Addr) (ws : List V) (caps : List U) : Prop where
  ob : H f = some (LamO f D cl c)
  gf : G f = none
  co : H c = some (CodeO c D.qual)
  ce : CellsT H cl fr ws
  gc : ∀ a, inCl cl a → G a = none
  rp : RpL pp G ws caps
/-- the slot i holds the lambda D; caps: what it captured -/
def Held (Z : Zc) (i : Nat) (D : LamD) (fr : List Str) (caps : List U) : Prop := ∃ f cl c ws, Z.me i = some (.ref f) ∧ LamIn Z.pp Z.G0 Z.H0 f D fr cl c ws caps
theorem LamIn.step {b : PT} {pp q : Addr} {G H G' H' : Hp} {f c : Addr} {D : LamD} {fr : List Str} {cl : List (Str × Addr)} {ws : List V} {caps : List U} (L : LamIn pp G H f D fr cl c ws caps) (p : Pl b pp q G H) (g : Gr b pp q G H G' H') : LamIn pp G' H' f D fr cl c ws caps := by
  have own : ∀ a o, H a = some o → G a = none → (∀ xs, o ≠ .lst xs) → (∀ ps, o ≠ .tbl ps) → isTp o = false → G' a = none ∧ H' a = some o := fun a o e n n1 n2 nt => g.fr a o (off_obj p e n1 n2) e n nt
  obtain ⟨h1, h2⟩ := own f _ L.ob L.gf (fun _ z => by unfold LamO at z; cases z) (fun _ z => by unfold LamO at z; cases z) rfl
  have cell : ∀ a, inCl cl a → ∀ o, H a = some (.frz o (.own a)) → G' a = none ∧ H' a = some (.frz o (.own a)) := fun a z o e => own a _ e (L.gc a z) (fun _ z => nomatch z) (fun _ z => nomatch z) rfl
  refine ⟨h2, h1, ?_, L.ce.keep fun a o e z => (cell a z o e).2, fun a z => ?_, L.rp.same g.gg⟩
  · cases e : G c with
    | none => exact (own c _ L.co e (fun _ z => by unfold CodeO at z; cases z) codeO_ne rfl).2
    | some o =>
      rcases g.ge c o e with k | ⟨k, i, _⟩
      · exact k.trans L.co
      · rw [L.co] at k
        cases k
        cases i
  · obtain ⟨o, v, h1, _⟩ := L.ce.at_ z
    exact (cell a z o h1).1
/-! ### a def whose last parameter is a lambda -/
def spL (b : PT) (n : Nat) (D : LamD) (fr : List Str) (W : Wf) : Sp := fun vs H Q E => ∃ vs1 f cl c ws caps us pp q G post ew, vs = vs1 ++ [.ref f] ∧ LamIn pp G H f D fr cl c ws caps ∧ RpL pp G vs1 us ∧ us.length = n ∧ Vw G H ∧ Pl b pp q G H ∧ W (us ++ caps) post ew ∧
  (∀ v u G' H', post u → Gr b pp q G H G' H' → Rp pp G' v u → Q v H') ∧ (∀ C fs gs od G' H', ew C gs → Gr b pp q G H G' H' → XdAt G' od fs → RpF pp G' fs gs → E (.ref C) od H')
theorem spL_len {b : PT} {n : Nat} {D : LamD} {fr : List Str} {W : Wf} {vs : List V} {H : Hp} {Q : VK} {E : XK} (h : spL b n D fr W vs H Q E) : vs.length = n + 1 := by
  obtain ⟨vs1, f, cl, c, ws, caps, us, pp, q, G, post, ew, rfl, _, k, l, _⟩ := h
  rw [List.length_append, k.length, l]
  rfl
section
variable {P : Program} {w : World} {K : PySem.W.Frag} {mg : Str → Option Value} {base : Heap}
theorem bodyL_of {b : PT} {n : Nat} {D : LamD} {fr : List Str} {W : Wf} {N : List Str} {t : TS} {E : XK} (hN : n + 1 ≤ N.length)
    (tr : ∀ Z : Zc, Z.b = b → Z.E = E → Z.mays (fun i => i != n) → ∀ caps, Held Z n D fr caps → ∃ w, TrS Z t w ∧ ∀ us post, us.length = n → W (us ++ caps) post Z.ew → w { nx := fun _ => post .non, rt := post } (us.map Cell.fz ++ List.replicate (N.length - us.length) Cell.no))
    {vs : List V} {H : Hp} {Q : VK} (h : spL b n D fr W vs H Q E) : t { nx := fun _ H' => Q .non H', rt := Q } (L2.start N vs) H := by
  obtain ⟨vs1, f, cl, c, ws, caps, us, pp, q, G, post, ew, rfl, L, k, l, vw, pl, hw, hq, he⟩ := h
  have lv : vs1.length = n := by rw [k.length, l]
  obtain ⟨w, T, hb⟩ := tr ⟨b, pp, q, G, H, E, ew, N.length, fun i => if i = n then some (.ref f) else none, fun _ => none⟩ rfl rfl (fun i e => if_neg (by simpa using e)) caps ⟨f, cl, c, ws, if_pos rfl, L⟩
  have g0 : Gr b pp q G H G H := Gr.refl vw pl
  have st : L2.start N (vs1 ++ [.ref f]) = vs1.map some ++ (some (.ref f) :: List.replicate (N.length - (n + 1)) none) := by
    unfold L2.start
    rw [List.map_append, List.length_append, lv, List.append_assoc]
    rfl
  have atn : (L2.start N (vs1 ++ [.ref f]))[n]? = some (some (.ref f)) := by
    rw [st, List.getElem?_append_right (by rw [List.length_map, lv]; exact Nat.le_refl _), List.length_map, lv, Nat.sub_self]
    rfl
  refine T _ _ _ _ G H ⟨g0, vw, pl, fun C fs us od G' H' a g x r => he C fs us od G' H' a g x r, ⟨?_, ?_⟩, fun i u e => ?_, fun i u e => (start_ow e).elim, fun i v e => ?_, (fun _ _ e => nomatch e), fun i j a _ h1 _ => by obtain ⟨u, e⟩ := h1; exact (start_ow e).elim⟩ (hb us post l hw)
    ⟨fun σ ρ G' H' S x p => hq .non .non G' H' p S.gr .non, fun v u G' H' g x r p => hq v u G' H' p g r, fun _ _ _ _ _ _ z => z.elim, fun _ _ _ _ _ _ z => z.elim⟩
  · rw [st, List.length_append, List.length_map, List.length_cons, List.length_replicate, lv]
    show n + (N.length - (n + 1) + 1) = N.length
    omega
  · rw [List.length_append, List.length_map, List.length_replicate, l]
    show n + (N.length - n) = N.length
    omega
  · obtain ⟨v, e1, r⟩ := start_get k e
    refine ⟨v, ?_, r⟩
    have il : i < vs1.length := by
      have : i < us.length := by
        rcases Nat.lt_or_ge i us.length with h | h
        · exact h
        · rw [List.getElem?_append_right (by rw [List.length_map]; exact h)] at e
          have := List.mem_of_getElem? e
          rw [List.mem_replicate] at this
          exact nomatch this.2
      rw [k.length]
      exact this
    unfold L2.start at e1
    rw [List.getElem?_append_left (by rw [List.length_map]; exact il)] at e1
    rw [st, List.getElem?_append_left (by rw [List.length_map]; exact il)]
    exact e1
  · have e' : (if i = n then some (V.ref f) else none) = some v := e
    by_cases z : i = n
    · rw [if_pos z] at e'
      cases e'
      rw [z]
      exact atn
    · rw [if_neg z] at e'
      cases e'
/-- a def that gets a lambda; it raises nothing -/
theorem okL {b : PT} {n : Nat} {D : LamD} {fr : List Str} {W : Wf} {x qual : Str} {st : Stmt} {f : Addr} {fd : FuncData} {N ps : List Str} {k : Nat} (F : Fun K x qual st f fd) (S : FnScope N ps (defScope st)) (hn : ps.length = n + 1) (hN : n + 1 ≤ N.length)
    (hbody : ∀ (cdv : Value) (A : Around) (outer : List Env) (s : Shared) (H : Hp) (E : XK), Room k (A.deeper (envOfC qual (defScope st) s.heap.objs.size f cdv)) →
      ∃ t, PSs (cxOf CX0 P w K mg base N qual (defScope st) f cdv A outer s H E).nox (defBody st) t ∧ ∀ Z : Zc, Z.b = b → Z.E = E → Z.mays (fun i => i != n) → ∀ caps, Held Z n D fr caps → ∃ w, TrS Z t w ∧ ∀ us post, us.length = n → W (us ++ caps) post Z.ew → w { nx := fun _ => post .non, rt := post } (us.map Cell.fz ++ List.replicate (N.length - us.length) Cell.no)) :
    FnOk P w K mg base CX0 (k + 1) f fd ps (spL b n D fr W) :=
  F.ok S (fun vs H Q E h => (spL_len h).trans hn.symm) fun cdv A outer s H vs Q E hr h =>
    let ⟨t, ht, tr⟩ := hbody cdv A outer s H E hr
    ⟨t, ht, bodyL_of hN tr h⟩
/-- .. that may raise -/
theorem okLX {b : PT} {n : Nat} {D : LamD} {fr : List Str} {W : Wf} {x qual : Str} {st : Stmt} {f : Addr} {fd : FuncData} {N ps : List Str} {k : Nat} (F : Fun K x qual st f fd) (S : FnScope N ps (defScope st)) (hn : ps.length = n + 1) (hN : n + 1 ≤ N.length)
    (hbody : ∀ (cdv : Value) (A : Around) (outer : List Env) (s : Shared) (H : Hp) (E : XK), Room k (A.deeper (envOfC qual (defScope st) s.heap.objs.size f cdv)) →
      ∃ t, PSs (cxOf (L2.CX P w) P w K mg base N qual (defScope st) f cdv A outer s H E) (defBody st) t ∧ ∀ Z : Zc, Z.b = b → Z.E = E → Z.mays (fun i => i != n) → ∀ caps, Held Z n D fr caps → ∃ w, TrS Z t w ∧ ∀ us post, us.length = n → W (us ++ caps) post Z.ew → w { nx := fun _ => post .non, rt := post } (us.map Cell.fz ++ List.replicate (N.length - us.length) Cell.no)) :
    FnOk P w K mg base (L2.CX P w) (k + 1) f fd ps (spL b n D fr W) :=
  F.okX S (fun vs H Q E h => (spL_len h).trans hn.symm) fun cdv A outer s H vs Q E hr h =>
    let ⟨t, ht, tr⟩ := hbody cdv A outer s H E hr
    ⟨t, ht, bodyL_of hN tr h⟩
/-- the lambda itself -/
theorem okLam {b : PT} {n k : Nat} {D : LamD} {N ps fr : List Str} {W : Wf} (S : NScope N ps fr D.scope) (hb : ∀ (cl : List (Str × Addr)) (c : Addr) (pm ctv : Value) (us : List Value), us.length = ps.length → bindArgs (PySem.W.kla_fn "<lambda>" D.qual D.prm D.body D.scope cl pm (.ref c) ctv) ⟨us, []⟩ = pure (ps.zip us)) (hn : ps.length + fr.length = n) (hN : n ≤ N.length)
    (hbody : ∀ (A : Around) (outer : List Env) (s : Shared) (H : Hp) (f c : Addr) (cl : List (Str × Addr)), Room k (A.deeper (envF (D.nf cl c) f s.heap.objs.size)) →
      ∃ t, PE (ncx CX0 P w K mg base N (D.nf cl c) f A outer s H E0).nox D.body t ∧ ∀ Z : Zc, Z.b = b → Z.mays (fun _ => true) → ∃ w, TrE Z t w ∧ ∀ us post, us.length = n → W us post Z.ew → w (us.map Cell.fz ++ List.replicate (N.length - us.length) Cell.no) post) : LamC P w K mg base (k + 1) D ps fr (spV b n W) :=
  lamC_of S S.co hb (fun vs H Q E h => (spV_len h).trans hn.symm) fun A outer s H f c cl vs Q hr h => by
    obtain ⟨t, ht, tr⟩ := hbody A outer s H f c cl hr
    refine ⟨t, ht, ?_⟩
    obtain ⟨us, pp, q, G, post, ew, k, l, vw, pl, hw, hq, he⟩ := h
    obtain ⟨w, T, hb⟩ := tr ⟨b, pp, q, G, H, E0, ew, N.length, fun _ => none, fun _ => none⟩ rfl fun _ _ => rfl
    have g0 : Gr b pp q G H G H := Gr.refl vw pl
    refine T (L2.start N vs) _ G H post Q ⟨g0, vw, pl, fun C fs us od G' H' a g x r => he C fs us od G' H' a g x r, ⟨?_, ?_⟩, fun i u e => start_get k e, fun i u e => (start_ow e).elim, (fun _ _ e => nomatch e), (fun _ _ e => nomatch e), fun i j a _ h1 _ => by obtain ⟨u, e⟩ := h1; exact (start_ow e).elim⟩ (hb us post l hw)
      fun v u G' H' p g r => hq v u G' H' p g r
    · unfold L2.start
      rw [List.length_append, List.length_map, List.length_replicate, k.length, l]
      show n + (N.length - n) = N.length
      omega
    · rw [List.length_append, List.length_map, List.length_replicate, l]
      show n + (N.length - n) = N.length
      omega
end
section
variable {Z : Zc} {tA : TA} {wA : WA}
/-! ### the held lambda is called -/
def wCallG (n : Nat) (caps : List U) (W : Wf) (wA : WA) : WE := fun ρ post => wA ρ fun us => us.length = n ∧ W (us ++ caps) post fun _ _ => False
theorem v_callG {b : PT} {i n m : Nat} {D : LamD} {fr : List Str} {caps : List U} {W : Wf} (hl : Held Z i D fr caps) (hb : PLe b Z.b) (hm : n + fr.length = m) (h : TrA Z tA wA) : TrE Z (tCallH i n D fr (spV b m W) tA) (wCallG n caps W wA) := fun σ ρ G H post Q S hw q => by
  obtain ⟨f, cl, c, ws, e1, L0⟩ := hl
  have L1 := L0.step S.p0 S.gr
  refine ⟨f, cl, c, ws, S.me i _ e1, L1.ob, h σ ρ G H _ _ S hw fun vs us G1 H1 w1 g1 h1 => ?_⟩
  obtain ⟨l, w2⟩ := w1
  have S1 := S.step g1
  have L2 := L1.step S.pl g1
  have pd : Pl Z.b Z.pp Z.q G1 (dropC cl H1) := S1.pl.move fun a o e n => by rw [dropC_out (L2.ce.not e n)]; exact e
  have vd : Vw G1 (dropC cl H1) := vw_drop S1.vw L2.gc
  refine ⟨L2.ob, L2.co, L2.ce, by rw [h1.length, l], us ++ caps, Z.pp, Z.q, G1, post, fun _ _ => False, L2.rp.append h1, ?_, vd, pd.le hb, w2, fun v u G' H' p g r n2 => ?_, fun _ _ _ _ _ _ z => z.elim⟩
  · rw [List.length_append, l, ← L2.rp.length, L2.ce.len]
    exact hm
  · exact q v u G' _ p (g1.trans (gr_back L2.ce L2.gc S1.pl (g.le hb pd) n2)) r
/-! ### a lambda is made and handed on -/
/-- arguments, the last one a lambda -/
def TrAL (Z : Zc) (D : LamD) (cl : List (Str × Addr)) (t : TA) (w : WA) : Prop := ∀ σ ρ G H (post : List U → Prop) (Q : List V → Hp → Prop), Sv Z σ ρ G H → w ρ post →
  (∀ vs us f c G' H', post us → Z.gr G H G' H' → RpL Z.pp G' vs us → H' f = some (LamO f D cl c) → G' f = none → H' c = some (CodeO c D.qual) → Q (vs ++ [.ref f]) H') → t σ H Q
theorem v_lam {T : List (Addr × Str)} {P : Addr} {D : LamD} {cl : List (Str × Addr)} (hT : Z.b.T = T) (hP : (P, D.qual) ∈ T) : TrAL Z D cl (tLamA T P D cl) wNil := fun σ ρ G H post Q S hw q => by
  subst hT
  refine ⟨fun t ht => (S.pl.2 t ht).1, fun f c H1 k T1 nf e1 e2 => ?_⟩
  obtain ⟨⟨ps, tP, _⟩, gP⟩ := S.pl.2 _ hP
  have neP : ∀ a o, G a = some o → a ≠ P := fun a o e z => by
    rw [z] at e
    rw [show G P = none from gP] at e
    cases e
  refine q [] [] f c G H1 hw ⟨⟨Same.refl _, fun a o e => ?_, fun a o n e g => ⟨fun _ => g, k a o e (n.2 _ hP)⟩, fun z => ?_, fun t ht => ⟨T1 t ht, (S.pl.2 t ht).2⟩⟩, fun a o e => ?_⟩ .nil e1 (S.vw.free nf) e2
  · rcases S.vw a o e with h | ⟨h, ob, h2⟩
    · exact .inl (k a o h (neP a o e))
    · exact .inr ⟨h, ob, k a _ h2 (neP a o e)⟩
  · obtain ⟨Pp, n1, n2⟩ := S.pl.1 z
    obtain ⟨ms, c', u, d, e', k1, k2, _⟩ := id Pp
    have away : ∀ a xs, H a = some (.lst xs) → a ≠ P := fun a xs e z => by
      rw [z, show H P = some (.tbl ps) from tP] at e
      cases e
    exact ⟨Pp.keep ((k _ _ k1 (away _ _ k1)).trans k1.symm) ((k _ _ k2 (away _ _ k2)).trans k2.symm), n1, n2⟩
  · left
    rcases S.vw a o e with h | ⟨h, ob, h2⟩
    · exact (k a o h (neP a o e)).trans h.symm
    · exact (k a _ h2 (neP a o e)).trans h2.symm
theorem v_consL {D : LamD} {cl : List (Str × Addr)} {ta : TE} {wa : WE} {tr : TA} {wr : WA} (ha : TrE Z ta wa) (hr : TrAL Z D cl tr wr) : TrAL Z D cl (tCons ta tr) (wCons wa wr) := fun σ ρ G H post Q S hw q =>
  ha σ ρ G H _ _ S hw fun v u G1 H1 p1 g1 r1 => hr σ ρ G1 H1 _ _ (S.step g1) p1 fun vs us f c G2 H2 p2 g2 r2 h1 h2 h3 => q (v :: vs) (u :: us) f c G2 H2 p2 (g1.trans g2) (.cons (r1.same g2.gg) r2) h1 h2 h3
/-- the frozen values in some slots -/
def capsAt (ρ : List Cell) : List Nat → Option (List U)
  | [] => some []
  | j :: js => match ρ[j]? with
    | some (.fz u) => (capsAt ρ js).map (u :: ·)
    | _ => none
theorem caps_get {σ : L2.St} {ρ : List Cell} {G H : Hp} (S : Sv Z σ ρ G H) : ∀ {js : List Nat} {caps : List U}, capsAt ρ js = some caps → ∃ ws : List V, js.map (slotAt σ) = ws.map some ∧ RpL Z.pp G ws caps
  | [], caps, h => by
    cases h
    exact ⟨[], rfl, .nil⟩
  | j :: js, caps, h => by
    unfold capsAt at h
    split at h
    · rename_i u e
      cases e2 : capsAt ρ js with
      | none => rw [e2] at h; cases h
      | some cs =>
        rw [e2] at h
        cases h
        obtain ⟨ws, h1, h2⟩ := caps_get S e2
        obtain ⟨v, h3, h4⟩ := S.fz j u e
        refine ⟨v :: ws, ?_, .cons h4 h2⟩
        rw [List.map_cons, List.map_cons, h1, slotAt_of h3]
    · cases h
def wCallL (n : Nat) (js : List Nat) (W : Wf) (ew : EW) (wA : WA) : WE := fun ρ post => wA ρ fun us => us.length = n ∧ ∃ caps, capsAt ρ js = some caps ∧ W (us ++ caps) post ew
theorem callL_run {b : PT} {n : Nat} {D : LamD} {fr : List Str} {js : List Nat} {cl : List (Str × Addr)} {W : Wf} {E : XK} {ew : EW} (hb : PLe b Z.b) (hE : ∀ σ ρ G H, Sv Z σ ρ G H → ∀ C fs gs od G' H', ew C gs → Z.gr0 G H G' H' → XdAt G' od fs → RpF Z.pp G' fs gs → E (.ref C) od H') (h : TrAL Z D cl tA wA) :
    TrE Z (tCallL (spL b n D fr W) E fr js cl tA) (wCallL n js W ew wA) := fun σ ρ G H post Q S hw q => h σ ρ G H _ _ S hw fun vs us f c G1 H1 w1 g1 h1 e1 e2 e3 => by
  obtain ⟨l, caps, ec, w2⟩ := w1
  have S1 := S.step g1
  obtain ⟨ws, hws, hr⟩ := caps_get S1 ec
  refine ⟨ws, hws, fun Hc L C => ?_⟩
  have gn : ∀ a, inCl cl a → G1 a = none := fun a z => S1.vw.free (L.new a z)
  have up : ∀ a o, H1 a = some o → Hc a = some o := fun a o e => by
    rw [L.out a fun z => by rw [L.new a z] at e; cases e]
    exact e
  have vc : Vw G1 Hc := fun a o e => by
    rcases S1.vw a o e with k | ⟨k, ob, k2⟩
    · exact .inl (up a o k)
    · exact .inr ⟨k, ob, up a _ k2⟩
  have pc : Pl Z.b Z.pp Z.q G1 Hc := S1.pl.move fun a o e _ => up a o e
  exact ⟨vs, f, cl, c, ws, caps, us, Z.pp, Z.q, G1, post, ew, rfl, ⟨up _ _ e1, e2, up _ _ e3, C, gn, hr⟩, h1, l, vc, pc.le hb, w2, fun v u G' H' p g r C2 => q v u G' _ p (g1.trans (gr_drop L C gn pc C2 (g.le hb pc))) r,
    fun X fs gs od G' H' a g x r C2 => hE σ ρ G1 H1 S1 X fs gs od G' _ a (gr_drop L C gn pc C2 (g.le hb pc)) x r⟩
theorem v_callL {b : PT} {n : Nat} {D : LamD} {fr : List Str} {js : List Nat} {cl : List (Str × Addr)} {W : Wf} (hb : PLe b Z.b) (h : TrAL Z D cl tA wA) : TrE Z (tCallL (spL b n D fr W) E0 fr js cl tA) (wCallL n js W (fun _ _ => False) wA) := callL_run hb (fun _ _ _ _ _ _ _ _ _ _ _ a => a.elim) h
theorem v_callLX {b : PT} {n : Nat} {D : LamD} {fr : List Str} {js : List Nat} {cl : List (Str × Addr)} {W : Wf} {E : XK} (hE : Z.E = E) (hb : PLe b Z.b) (h : TrAL Z D cl tA wA) : TrE Z (tCallL (spL b n D fr W) E fr js cl tA) (wCallL n js W Z.ew wA) :=
  callL_run hb (fun σ ρ G H S C fs gs od G' H' a g x r => by rw [← hE]; exact S.ex C fs gs od G' H' a (S.gr.trans g) x r) h
end
end SV
/-! The value layer: defs that make lambdas (their code object is told). -/
namespace SV
open PySem PySem.Spec PyProof.Rows L2 SL LamX NdefX
section
variable {P : Program} {w : World} {K : PySem.W.Frag} {mg : Str → Option Value} {base : Heap}
theorem okC {b : PT} {n : Nat} {W : Wf} {x qual : Str} {st : Stmt} {f c : Addr} {fd : FuncData} {N ps : List Str} {k : Nat} (hc : fd.code = .ref c) (F : Fun K x qual st f fd) (S : FnScope N ps (defScope st)) (hn : ps.length = n) (hN : n ≤ N.length)
    (hbody : ∀ (A : Around) (outer : List Env) (s : Shared) (H : Hp) (E : XK), Room k (A.deeper (envOfC qual (defScope st) s.heap.objs.size f (.ref c))) →
      ∃ t, PSs (cxOf CX0 P w K mg base N qual (defScope st) f (.ref c) A outer s H E).nox (defBody st) t ∧ ∀ Z : Zc, Z.b = b → Z.E = E → Z.mays (fun _ => true) → ∃ w, TrS Z t w ∧ ∀ us post, us.length = n → W us post Z.ew → w { nx := fun _ => post .non, rt := post } (us.map Cell.fz ++ List.replicate (N.length - us.length) Cell.no)) :
    FnOk P w K mg base CX0 (k + 1) f fd ps (spV b n W) := by
  obtain ⟨oc, od, kV, doc, pm, an, cdv, ct, osl, rfl, lk, hcd⟩ := F.ex
  obtain rfl : cdv = .ref c := hc
  refine fn_of lk hcd S (fun vs H Q E h => (spV_len h).trans hn.symm) fun A outer s H vs Q E hr h => ?_
  obtain ⟨t, ht, tr⟩ := hbody A outer s H E hr
  exact ⟨t, ht.nox, body_of hN tr h⟩
theorem okCX {b : PT} {n : Nat} {W : Wf} {x qual : Str} {st : Stmt} {f c : Addr} {fd : FuncData} {N ps : List Str} {k : Nat} (hc : fd.code = .ref c) (F : Fun K x qual st f fd) (S : FnScope N ps (defScope st)) (hn : ps.length = n) (hN : n ≤ N.length)
    (hbody : ∀ (A : Around) (outer : List Env) (s : Shared) (H : Hp) (E : XK), Room k (A.deeper (envOfC qual (defScope st) s.heap.objs.size f (.ref c))) →
      ∃ t, PSs (cxOf (L2.CX P w) P w K mg base N qual (defScope st) f (.ref c) A outer s H E) (defBody st) t ∧ ∀ Z : Zc, Z.b = b → Z.E = E → Z.mays (fun _ => true) → ∃ w, TrS Z t w ∧ ∀ us post, us.length = n → W us post Z.ew → w { nx := fun _ => post .non, rt := post } (us.map Cell.fz ++ List.replicate (N.length - us.length) Cell.no)) :
    FnOk P w K mg base (L2.CX P w) (k + 1) f fd ps (spV b n W) := by
  obtain ⟨oc, od, kV, doc, pm, an, cdv, ct, osl, rfl, lk, hcd⟩ := F.ex
  obtain rfl : cdv = .ref c := hc
  refine fn_of lk hcd S (fun vs H Q E h => (spV_len h).trans hn.symm) fun A outer s H vs Q E hr h => ?_
  obtain ⟨t, ht, tr⟩ := hbody A outer s H E hr
  exact ⟨t, ht, body_of hN tr h⟩
end
end SV
/-! Messages that show a number. -/
namespace PySem
namespace SLX
open PySem.W PySem.Calls PyProof.Rows PySem.HandSPX
def okInt (v : Value) : Prop := ∃ (n : Int) (t : Tok), v = .int n t ∧ n.natAbs.log2 < 1000 ∧ (Str.ofString (toString n)).length ≤ 1000
/-- f'..{part!r}', part an int -/
theorem msg_int {prog : Program} {w : World} {sc : Scope} {par x : Str} {j : Nat} {p1 p2 p3 p4 : Pos} (hk : sc.kind = .function) (hl : sc.names.lookup par = some .local) (hd : (par == ("__debug__" : Str)) = false) (hx : x.length ≤ 1000) :
    MsgOk prog w sc par (.JoinedStr [.Constant (.str x) j p1, .FormattedValue (.Name par p2) 114 none p3] p4) okInt := by
  intro A E s env m v Q hs hn hv ho h
  obtain ⟨n, t, rfl, hb, hz⟩ := ho
  subst hs
  have app : ∀ a b : Str, (a ++ b).length = a.length + b.length := fun a b => by
    show (a.cps ++ b.cps).size = a.cps.size + b.cps.size
    exact Array.size_append
  have e0 : (Str.empty : Str).length = 0 := rfl
  have big : (2000 : Nat) ≤ sizeLine := by rw [sizeLine_eq]; decide
  have hzl : (Str.ofString (toString n)).length ≤ sizeLine := by omega
  refine wpAny_JoinedStr ?_
  show wpAny _ _ (eval (.Constant (.str x) j p1) env) _ _ _
  refine Calls.Constant_str ⟨x, s.toks, rfl, by rw [app, e0]; omega, ?_⟩
  show wpAny _ _ (eval (.FormattedValue (.Name par p2) 114 none p3) env) _ _ _
  refine wpAny_FormattedValue_repr (wpAny_Name (wpAny_loadName_local hk hl hn hv ?_) hd)
  refine pyReprObj_int (by omega) ?_
  refine wpAny_formatField_str ?_ ?_ hzl
  · exact ⟨Str.ofString (toString n), _, rfl, by rw [app, app, e0]; omega, by rw [app, app, e0]; omega, h _ _⟩
  · exact ⟨Str.ofString (toString n), _, rfl, by rw [app, app, e0]; omega, by rw [app, app, e0]; omega, h _ _⟩
end SLX
end PySem
/-! t * n of a tuple that is known. -/
namespace SL
open PySem PySem.Spec PyProof.Rows L2
def rRepV : R2 := fun x y H Q => ∃ (l : Addr) (k : Nat) (xs : List V), x = .ref l ∧ y = .int (k : Int) ∧ H l = some (.tup xs) ∧ xs ≠ [] ∧ k ≤ 1000 ∧ xs.length ≤ 1000 ∧ ∀ p H', Same H H' → H' p = some (.tup (List.replicate k xs).flatten) → (H p = none ∨ (p = l ∧ (List.replicate k xs).flatten = xs)) → Q (.ref p) H'
theorem op_repV {X : Cx} : OpR X (binaryOp .Mult) rRepV := by
  intro pins s σ H x y v u Q I rx ry h
  obtain ⟨l, k, xs, rfl, rfl, hH, hne, hk, hz, q⟩ := h
  have hT : SqT X.K H l xs := SqT.of hH
  by_cases k2 : 2 ≤ k
  · refine op_repT pins s σ H _ _ v u Q I rx ry ⟨l, k, xs, rfl, rfl, hT, hne, by omega, by omega, hz, fun p np => ?_⟩
    have e : ((k : Int)).toNat = k := by omega
    rw [e]
    exact q p _ (same_upd np) upd_same (.inl np)
  · cases rx
    obtain ⟨t, rfl⟩ := ry
    have hT' := hT
    obtain ⟨its, r, ⟨⟨cls, dd, data, sl⟩, ho, hc, n, hd⟩, hs⟩ := I.tuple hT
    simp only at hc hd
    subst hc hd
    have hle : its.length = xs.length := r.length.symm
    have hi : its.toArray.isEmpty = false := by
      cases its with
      | nil =>
        refine absurd (List.eq_nil_of_length_eq_zero ?_) hne
        rw [← hle]
        rfl
      | cons a b => rfl
    have go : ∀ (R : Result → Shared → Prop), True := fun _ => trivial
    by_cases k1 : k = 1
    · subst k1
      refine wpAny_binaryOp_repeat_ref (T := "tuple") (U := "int") (by decide) ⟨_, ho, rfl⟩ (fun s' => typeIs_int s' _ t) noFill_tuple_mul F.fills_int_mul F.slot_int_rmul repeat_tuple F.slot_int_index.lookup
        (call_meets F.slot_int_rmul (typeIs_int s _ t) F.entry_int_rmul (F.args_int_rmul_2 _ _) (int_rmul_tuple _ t l its.toArray n dd sl)
          ⟨ho, rfl, ⟨_, ho, rfl⟩, call_meets F.slot_tuple_mul ⟨_, ho, rfl⟩ F.entry_tuple_mul (F.args_tuple_mul_2 _ _) (tuple_mul1 l its.toArray n dd sl t hi) ⟨ho, ?_⟩⟩)
      have e1 : (List.replicate 1 xs).flatten = xs := by simp
      exact ⟨.ref l, H, I, rfl, q l H (Same.refl H) (by rw [e1]; exact hH) (.inr ⟨rfl, e1⟩)⟩
    · have k0 : k = 0 := by omega
      subst k0
      refine wpAny_binaryOp_repeat_ref (T := "tuple") (U := "int") (by decide) ⟨_, ho, rfl⟩ (fun s' => typeIs_int s' _ t) noFill_tuple_mul F.fills_int_mul F.slot_int_rmul repeat_tuple F.slot_int_index.lookup
        (call_meets F.slot_int_rmul (typeIs_int s _ t) F.entry_int_rmul (F.args_int_rmul_2 _ _) (int_rmul_tuple _ t l its.toArray n dd sl)
          ⟨ho, rfl, ⟨_, ho, rfl⟩, call_meets F.slot_tuple_mul ⟨_, ho, rfl⟩ F.entry_tuple_mul (F.args_tuple_mul_2 _ _) (tuple_mul0 l its.toArray n dd sl t hi) ⟨ho, ?_⟩⟩)
      refine ⟨.ref s.heap.objs.size, _, I.laid (t' := s.toks) (o := .tup []) (fun b ob q => Heap.get?_push_of_some _ q) (Nat.le_refl _) ⟨Nat.zero_le _, _, .nil, IsTup.new _ _⟩, rfl, q _ _ (same_upd (I.hok.fresh (Nat.le_refl _))) upd_same (.inl (I.hok.fresh (Nat.le_refl _)))⟩
end SL
/-! Rows of cells and windows, without heaps. -/
namespace SV
open PySem PySem.Spec PyProof.Rows L2 SL
theorem bits.nil : bits [] := fun _ h => nomatch h
theorem bits.cons {c : Int} {ns : List Int} (h : c = 0 ∨ c = 1) (t : bits ns) : bits (c :: ns) := fun x hx => by
  rcases List.mem_cons.mp hx with rfl | hx
  · exact h
  · exact t x hx
theorem bits.app {ms ns : List Int} (h : bits ms) (t : bits ns) : bits (ms ++ ns) := fun x hx => (List.mem_append.mp hx).elim (h x) (t x)
def numOf (ns : List Int) : Int := ns.foldl (fun n c => 2 * n + c) 0
def digits (N W : Nat) : List Int := (List.range W).map fun i => ((N / 2 ^ (W - 1 - i) % 2 : Nat) : Int)
theorem pow_cast (k : Nat) : ((2 ^ k : Nat) : Int) = 2 ^ k := by rw [Int.natCast_pow]; rfl
theorem numOf_le (ns : List Int) : ∀ (h : bits ns) (n0 : Int) (k : Nat), 0 ≤ n0 → n0 < 2 ^ k → 0 ≤ ns.foldl (fun n c => 2 * n + c) n0 ∧ ns.foldl (fun n c => 2 * n + c) n0 < 2 ^ (k + ns.length) := by
  induction ns with
  | nil => exact fun _ n0 k h1 h2 => ⟨h1, h2⟩
  | cons c r ih =>
    intro h n0 k h1 h2
    have hc := h c (List.mem_cons_self ..)
    have hr : bits r := fun x hx => h x (List.mem_cons_of_mem _ hx)
    have p : (2 : Int) ^ (k + 1) = 2 ^ k * 2 := Int.pow_succ ..
    have := ih hr (2 * n0 + c) (k + 1) (by omega) (by omega)
    rw [List.foldl_cons, List.length_cons, show k + (r.length + 1) = k + 1 + r.length by omega]
    exact this
theorem numOf_at {ns : List Int} (h : bits ns) : 0 ≤ numOf ns ∧ numOf ns < 2 ^ ns.length := by
  have := numOf_le ns h 0 0 (by decide) (by decide)
  rw [Nat.zero_add] at this
  exact this
theorem bits_take {ns : List Int} (h : bits ns) (k : Nat) : bits (ns.take k) := fun x hx => h x (List.mem_of_mem_take hx)
theorem bits_drop {ns : List Int} (h : bits ns) (k : Nat) : bits (ns.drop k) := fun x hx => h x (List.mem_of_mem_drop hx)
def cellAt (r : Nat) (ts cs : List Int) (i : Nat) : Int := ts.getD (numOf ((cs.drop i).take (2 * r + 1))).toNat 0
def sweepOf (r : Nat) (ts cs : List Int) : List Int := (List.range (cs.length - 2 * r)).map (cellAt r ts cs)
theorem cellAt_bit {r : Nat} {ts cs : List Int} {i : Nat} (hb : bits ts) : cellAt r ts cs i = 0 ∨ cellAt r ts cs i = 1 := by
  unfold cellAt
  rw [List.getD_eq_getElem?_getD]
  cases e : ts[(numOf ((cs.drop i).take (2 * r + 1))).toNat]? with
  | none => exact .inl rfl
  | some c => exact hb c (List.mem_of_getElem? e)
theorem sweep_bits {r : Nat} {ts cs : List Int} (hb : bits ts) : bits (sweepOf r ts cs) := fun c hc => by
  obtain ⟨i, _, rfl⟩ := List.mem_map.mp hc
  exact cellAt_bit hb
theorem sweep_len (r : Nat) (ts cs : List Int) : (sweepOf r ts cs).length = cs.length - 2 * r := by
  unfold sweepOf
  rw [List.length_map, List.length_range]
theorem map_range_more {α : Type} (g : Nat → α) (i : Nat) : (List.range (i + 1)).map g = (List.range i).map g ++ [g i] := by
  rw [List.range_succ, List.map_append]
  rfl
def zeros (r : Nat) : List Int := List.replicate r 0
theorem zeros_bits (r : Nat) : bits (zeros r) := fun c hc => .inl (List.eq_of_mem_replicate hc)
def sweptOf (r : Nat) (ts cs : List Int) : List Int := sweepOf r ts (zeros r ++ cs ++ zeros r)
theorem swept_len (r : Nat) (ts cs : List Int) : (sweptOf r ts cs).length = cs.length := by
  unfold sweptOf zeros
  rw [sweep_len, List.length_append, List.length_append, List.length_replicate]
  omega
/-! ### rows of cells swept once and again -/
theorem digits_succ (N k : Nat) : digits N (k + 1) = ((N / 2 ^ k % 2 : Nat) : Int) :: digits N k := by
  unfold digits
  rw [List.range_succ_eq_map, List.map_cons, List.map_map]
  have a : ((N / 2 ^ (k + 1 - 1 - 0) % 2 : Nat) : Int) = ((N / 2 ^ k % 2 : Nat) : Int) := by rw [show k + 1 - 1 - 0 = k by omega]
  have b : (List.range k).map ((fun i => ((N / 2 ^ (k + 1 - 1 - i) % 2 : Nat) : Int)) ∘ Nat.succ) = (List.range k).map fun i => ((N / 2 ^ (k - 1 - i) % 2 : Nat) : Int) := List.map_congr_left fun i hi => by
    show ((N / 2 ^ (k + 1 - 1 - (i + 1)) % 2 : Nat) : Int) = _
    rw [show k + 1 - 1 - (i + 1) = k - 1 - i by omega]
  rw [a, b]
theorem digits_len (N k : Nat) : (digits N k).length = k := by
  unfold digits
  rw [List.length_map, List.length_range]
theorem digits_bits (N k : Nat) : bits (digits N k) := fun c hc => by
  unfold digits at hc
  obtain ⟨i, _, rfl⟩ := List.mem_map.mp hc
  omega
theorem numOf_app (a b : List Int) : numOf (a ++ b) = numOf a * 2 ^ b.length + numOf b := by
  have key : ∀ (b : List Int) (n : Int), b.foldl (fun n c => 2 * n + c) n = n * 2 ^ b.length + b.foldl (fun n c => 2 * n + c) 0 := by
    intro b
    induction b with
    | nil => intro n; simp
    | cons c r ih =>
      intro n
      rw [List.foldl_cons, List.foldl_cons, ih (2 * n + c), ih (2 * 0 + c), List.length_cons]
      have e : (2 : Int) ^ (r.length + 1) = 2 * 2 ^ r.length := by rw [Int.pow_succ, Int.mul_comm]
      rw [e]
      generalize (2 : Int) ^ r.length = z
      generalize List.foldl (fun n c => 2 * n + c) 0 r = y
      rw [Int.add_mul, Int.mul_zero, Int.zero_add, Int.mul_comm 2 n, Int.mul_assoc n 2 z]
      omega
  unfold numOf
  rw [List.foldl_append]
  exact key b _
theorem numOf_one (c : Int) : numOf [c] = c := by
  unfold numOf
  simp
theorem numOf_cons (c : Int) (r : List Int) : numOf (c :: r) = c * 2 ^ r.length + numOf r := by
  rw [show c :: r = [c] ++ r from rfl, numOf_app, numOf_one]
theorem numOf_digits (N : Nat) : ∀ W : Nat, numOf (digits N W) = ((N % 2 ^ W : Nat) : Int)
  | 0 => by
    rw [Nat.pow_zero, Nat.mod_one]
    rfl
  | k + 1 => by
    rw [digits_succ, numOf_cons, numOf_digits N k, digits_len, Nat.mod_pow_succ, Int.natCast_add, Int.natCast_mul, Int.natCast_pow]
    rw [Int.mul_comm, Int.add_comm]
    rfl
theorem numOf_inj : ∀ {a b : List Int}, bits a → bits b → a.length = b.length → numOf a = numOf b → a = b
  | [], [], _, _, _, _ => rfl
  | [], _ :: _, _, _, h, _ => by cases h
  | _ :: _, [], _, _, h, _ => by cases h
  | c :: r, d :: t, ha, hb, h, e => by
    have hr : bits r := fun x hx => ha x (List.mem_cons_of_mem _ hx)
    have ht : bits t := fun x hx => hb x (List.mem_cons_of_mem _ hx)
    have hl : r.length = t.length := by simpa using h
    rw [numOf_cons, numOf_cons, hl] at e
    have n1 := numOf_at hr
    have n2 := numOf_at ht
    rw [hl] at n1
    have hc := ha c (List.mem_cons_self ..)
    have hd := hb d (List.mem_cons_self ..)
    have p0 : (0 : Int) < 2 ^ t.length := Int.pow_pos (by decide)
    generalize (2 : Int) ^ t.length = z at e n1 n2 p0
    have cd : c = d := by
      rcases hc with rfl | rfl <;> rcases hd with rfl | rfl <;> first | rfl | (exfalso; omega)
    subst cd
    rw [numOf_inj hr ht hl (by omega)]
theorem digits_num {ns : List Int} (h : bits ns) : digits (numOf ns).toNat ns.length = ns := by
  have n := numOf_at h
  refine numOf_inj (digits_bits _ _) h (digits_len _ _) ?_
  rw [numOf_digits, Nat.mod_eq_of_lt]
  · omega
  · rw [← pow_cast] at n
    omega
theorem sweep_get {r : Nat} {ts cs : List Int} {i : Nat} (h : i < cs.length - 2 * r) : (sweepOf r ts cs)[i]? = some (cellAt r ts cs i) := by
  unfold sweepOf
  rw [List.getElem?_map, List.getElem?_range h]
  rfl
theorem list_same {α : Type} {a b : List α} {n : Nat} (ha : a.length = n) (hb : b.length = n) (h : ∀ i, i < n → a[i]? = b[i]?) : a = b := by
  refine List.ext_getElem? fun i => ?_
  by_cases c : i < n
  · exact h i c
  · rw [List.getElem?_eq_none (by omega), List.getElem?_eq_none (by omega)]
theorem win_cut {cs : List Int} {i j m k : Nat} (h : j + k ≤ m) : ((((cs.drop i).take m).drop j).take k) = (cs.drop (i + j)).take k := by
  rw [List.drop_take, List.take_take, List.drop_drop, Nat.min_eq_left (by omega)]
theorem cell_cut {r : Nat} {ts cs : List Int} {i j m : Nat} (h : j + (2 * r + 1) ≤ m) : cellAt r ts ((cs.drop i).take m) j = cellAt r ts cs (i + j) := by
  unfold cellAt
  rw [win_cut h]
theorem sweep_cut {r : Nat} {ts cs : List Int} {i m : Nat} (h : i + m + 2 * r ≤ cs.length) : ((sweepOf r ts cs).drop i).take m = sweepOf r ts ((cs.drop i).take (m + 2 * r)) := by
  have l1 : ((cs.drop i).take (m + 2 * r)).length = m + 2 * r := by
    rw [List.length_take, List.length_drop]
    omega
  refine list_same (n := m) ?_ ?_ fun j hj => ?_
  · rw [List.length_take, List.length_drop, sweep_len]
    omega
  · rw [sweep_len, l1]
    omega
  · rw [List.getElem?_take_of_lt hj, List.getElem?_drop, sweep_get (by omega), sweep_get (by rw [l1]; omega), cell_cut (by omega)]
def g2 (r : Nat) (ts : List Int) (s : Nat) (us cs : List Int) : Int := (sweepOf s us (sweepOf r ts cs)).getD 0 0
def behindT (r : Nat) (ts : List Int) (s : Nat) (us : List Int) : List Int := (List.range (2 ^ (2 * (r + s) + 1))).map fun n => g2 r ts s us (digits n (2 * (r + s) + 1))
theorem behind_len (r : Nat) (ts : List Int) (s : Nat) (us : List Int) : (behindT r ts s us).length = 2 ^ (2 * (r + s) + 1) := by
  unfold behindT
  rw [List.length_map, List.length_range]
theorem g2_bit {r : Nat} {ts : List Int} {s : Nat} {us cs : List Int} (h : bits us) : g2 r ts s us cs = 0 ∨ g2 r ts s us cs = 1 := by
  unfold g2
  rw [List.getD_eq_getElem?_getD]
  cases e : (sweepOf s us (sweepOf r ts cs))[0]? with
  | none => exact .inl rfl
  | some c => exact sweep_bits h c (List.mem_of_getElem? e)
theorem behind_bits {r : Nat} {ts : List Int} {s : Nat} {us : List Int} (h : bits us) : bits (behindT r ts s us) := fun c hc => by
  obtain ⟨n, _, rfl⟩ := List.mem_map.mp hc
  exact g2_bit h
theorem getD_of {ts : List Int} {i : Nat} {c : Int} (h : ts[i]? = some c) : ts.getD i 0 = c := by
  rw [List.getD_eq_getElem?_getD, h]
  rfl
theorem g2_one {r : Nat} {ts : List Int} {s : Nat} {us cs : List Int} (h : cs.length = 2 * (r + s) + 1) : sweepOf s us (sweepOf r ts cs) = [g2 r ts s us cs] := by
  have l1 : (sweepOf s us (sweepOf r ts cs)).length = 1 := by
    rw [sweep_len, sweep_len]
    omega
  unfold g2
  match h : sweepOf s us (sweepOf r ts cs), l1 with
  | [c], _ => rfl
theorem sweep_sweep {r : Nat} {ts : List Int} {s : Nat} {us cs : List Int} (hb : bits cs) : sweepOf (r + s) (behindT r ts s us) cs = sweepOf s us (sweepOf r ts cs) := by
  refine list_same (n := cs.length - 2 * (r + s)) (sweep_len ..) (by rw [sweep_len, sweep_len]; omega) fun i hi => ?_
  rw [sweep_get hi, sweep_get (by rw [sweep_len]; omega)]
  refine congrArg some ?_
  have lw : ((cs.drop i).take (2 * (r + s) + 1)).length = 2 * (r + s) + 1 := by
    rw [List.length_take, List.length_drop]
    omega
  have hw := bits_take (bits_drop hb i) (2 * (r + s) + 1)
  have e1 : cellAt (r + s) (behindT r ts s us) cs i = g2 r ts s us ((cs.drop i).take (2 * (r + s) + 1)) := by
    have nl := numOf_at hw
    have dn := digits_num hw
    rw [lw, ← pow_cast] at nl
    rw [lw] at dn
    unfold cellAt
    refine getD_of ?_
    unfold behindT
    rw [List.getElem?_map, List.getElem?_range (by omega)]
    show some (g2 r ts s us (digits _ _)) = _
    rw [dn]
  rw [e1]
  unfold g2
  refine getD_of ?_
  rw [sweep_get (by rw [sweep_len, lw]; omega)]
  refine congrArg some ?_
  have e2 : sweepOf r ts ((cs.drop i).take (2 * (r + s) + 1)) = ((sweepOf r ts cs).drop i).take (2 * s + 1) := by
    rw [sweep_cut (by omega), show 2 * s + 1 + 2 * r = 2 * (r + s) + 1 by omega]
  rw [e2, cell_cut (by omega), Nat.add_zero]
theorem behind_assoc {r s u : Nat} {ts us vs : List Int} (ht : bits ts) : behindT (r + s) (behindT r ts s us) u vs = behindT r ts (s + u) (behindT s us u vs) := by
  unfold behindT
  rw [Nat.add_assoc]
  refine List.map_congr_left fun n _ => ?_
  show g2 (r + s) (behindT r ts s us) u vs _ = g2 r ts (s + u) (behindT s us u vs) _
  unfold g2
  rw [sweep_sweep (digits_bits _ _), sweep_sweep (sweep_bits ht)]
theorem sweep_same {cs : List Int} (hb : bits cs) : sweepOf 0 [0, 1] cs = cs := by
  refine list_same (n := cs.length) (sweep_len ..) rfl fun i hi => ?_
  rw [sweep_get (by omega), List.getElem?_eq_getElem hi]
  refine congrArg some ?_
  unfold cellAt
  rw [show (cs.drop i).take (2 * 0 + 1) = [cs[i]] by rw [List.drop_eq_getElem_cons hi]; rfl, numOf_one]
  rcases hb _ (List.getElem_mem hi) with e | e <;> rw [e] <;> rfl
theorem digit_cell {r : Nat} {ts : List Int} {n : Nat} (h : n < 2 ^ (2 * r + 1)) : (sweepOf r ts (digits n (2 * r + 1))).getD 0 0 = ts.getD n 0 := by
  refine getD_of ?_
  rw [sweep_get (by rw [digits_len]; omega)]
  refine congrArg some ?_
  unfold cellAt
  rw [List.drop_zero, List.take_of_length_le (by rw [digits_len]; exact Nat.le_refl _), numOf_digits, Nat.mod_eq_of_lt h]
  rfl
theorem tab_back {r : Nat} {ts : List Int} (lt : ts.length = 2 ^ (2 * r + 1)) : (List.range (2 ^ (2 * r + 1))).map (fun n => ts.getD n 0) = ts := by
  refine list_same (n := 2 ^ (2 * r + 1)) (by rw [List.length_map, List.length_range]) lt fun i hi => ?_
  rw [List.getElem?_map, List.getElem?_range hi, List.getElem?_eq_getElem (by omega)]
  show some (ts.getD i 0) = _
  rw [List.getD_eq_getElem?_getD, List.getElem?_eq_getElem (by omega)]
  rfl
theorem behind_same {r : Nat} {ts : List Int} (lt : ts.length = 2 ^ (2 * r + 1)) (ht : bits ts) : behindT r ts 0 [0, 1] = ts := by
  refine Eq.trans ?_ (tab_back lt)
  unfold behindT
  rw [Nat.add_zero]
  refine List.map_congr_left fun n hn => ?_
  unfold g2
  rw [sweep_same (sweep_bits ht)]
  exact digit_cell (List.mem_range.mp hn)
theorem same_behind {r : Nat} {ts : List Int} (lt : ts.length = 2 ^ (2 * r + 1)) : behindT 0 [0, 1] r ts = ts := by
  refine Eq.trans ?_ (tab_back lt)
  unfold behindT
  rw [Nat.zero_add]
  refine List.map_congr_left fun n hn => ?_
  unfold g2
  rw [sweep_same (digits_bits _ _)]
  exact digit_cell (List.mem_range.mp hn)
/-! ### light cells around -/
def pad (a b : Nat) (cs : List Int) : List Int := zeros a ++ cs ++ zeros b
theorem pad_len (a b : Nat) (cs : List Int) : (pad a b cs).length = a + cs.length + b := by
  unfold pad zeros
  rw [List.length_append, List.length_append, List.length_replicate, List.length_replicate]
theorem zeros_add (a b : Nat) : zeros (a + b) = zeros a ++ zeros b := by
  unfold zeros
  rw [List.replicate_append_replicate]
theorem pad_drop (k a b : Nat) (cs : List Int) : (pad (k + a) b cs).drop k = pad a b cs := by
  unfold pad
  rw [zeros_add, List.append_assoc, List.append_assoc, List.drop_append_of_le_length (by unfold zeros; rw [List.length_replicate]; exact Nat.le_refl _), List.drop_of_length_le (by unfold zeros; rw [List.length_replicate]; exact Nat.le_refl _), List.nil_append, List.append_assoc]
theorem pad_take {a b k m : Nat} {cs : List Int} (h : m ≤ a + cs.length + b) : (pad a (b + k) cs).take m = (pad a b cs).take m := by
  have e : pad a (b + k) cs = pad a b cs ++ zeros k := by
    unfold pad
    rw [zeros_add]
    simp only [List.append_assoc]
  rw [e, List.take_append_of_le_length (by rw [pad_len]; exact h)]
theorem pad_pad (a b c d : Nat) (cs : List Int) : pad a b (pad c d cs) = pad (a + c) (d + b) cs := by
  unfold pad
  rw [zeros_add, zeros_add]
  simp only [List.append_assoc]
theorem pad_bits {a b : Nat} {cs : List Int} (h : bits cs) : bits (pad a b cs) := ((zeros_bits a).app h).app (zeros_bits b)
theorem mid_cut {S : List Int} {s i m : Nat} (h1 : s ≤ i) (h2 : i - s + m ≤ S.length) : ((pad s s S).drop i).take m = (S.drop (i - s)).take m := by
  rw [show i = s + (i - s) by omega, ← List.drop_drop, show pad s s S = pad (s + 0) s S by rw [Nat.add_zero], pad_drop, show s + (i - s) - s = i - s by omega]
  unfold pad
  rw [show zeros 0 = [] from rfl, List.nil_append, List.drop_append_of_le_length (by omega), List.take_append_of_le_length (by rw [List.length_drop]; omega)]
theorem swept_pad (r : Nat) (ts cs : List Int) : sweptOf r ts cs = sweepOf r ts (pad r r cs) := rfl
theorem two_same {r s : Nat} {ts us cs : List Int} (hs : s ≤ 8) (hb : bits cs) : ((sweptOf s us (sweptOf r ts (zeros 8 ++ cs ++ zeros 8))).drop 8).take cs.length = sweptOf (r + s) (behindT r ts s us) cs := by
  rw [swept_pad (r + s), sweep_sweep (pad_bits hb)]
  show ((sweepOf s us (pad s s (sweepOf r ts (pad r r (pad 8 8 cs))))).drop 8).take cs.length = _
  rw [pad_pad]
  have lA : (sweepOf r ts (pad (r + 8) (8 + r) cs)).length = cs.length + 16 := by
    rw [sweep_len, pad_len]
    omega
  rw [sweep_cut (by rw [pad_len, lA]; omega), mid_cut hs (by rw [lA]; omega), sweep_cut (by rw [pad_len]; omega)]
  have e : ((pad (r + 8) (8 + r) cs).drop (8 - s)).take (cs.length + 2 * s + 2 * r) = pad (r + s) (r + s) cs := by
    rw [show r + 8 = (8 - s) + (r + s) by omega, pad_drop, show 8 + r = (r + s) + (8 - s) by omega, pad_take (by omega), List.take_of_length_le]
    rw [pad_len]
    omega
  rw [e]
theorem plain_same {r s : Nat} {ts us cs : List Int} {i : Nat} (hb : bits cs) (h1 : s ≤ i) (h2 : i + s < cs.length) : (sweptOf s us (sweptOf r ts cs))[i]? = (sweptOf (r + s) (behindT r ts s us) cs)[i]? := by
  rw [swept_pad (r + s), sweep_sweep (pad_bits hb)]
  show (sweepOf s us (pad s s (sweepOf r ts (pad r r cs))))[i]? = _
  have lA : (sweepOf r ts (pad r r cs)).length = cs.length := by
    rw [sweep_len, pad_len]
    omega
  rw [sweep_get (by rw [pad_len, lA]; omega), sweep_get (by rw [sweep_len, pad_len]; omega)]
  refine congrArg some ?_
  unfold cellAt
  rw [mid_cut h1 (by rw [lA]; omega), sweep_cut (by rw [pad_len]; omega), sweep_cut (by rw [pad_len]; omega)]
  have e : ((pad r r cs).drop (i - s)).take (2 * s + 1 + 2 * r) = ((pad (r + s) (r + s) cs).drop i).take (2 * s + 1 + 2 * r) := by
    rw [show i = s + (i - s) by omega, show r + s = s + r by omega, ← List.drop_drop, pad_drop, show s + (i - s) - s = i - s by omega]
    have t1 : ∀ (l : List Int) (a b : Nat), (l.drop a).take b = (l.take (a + b)).drop a := fun l a b => by rw [List.drop_take]; congr 1; omega
    rw [t1, t1, show s + r = r + s by omega, pad_take (by omega)]
  rw [e]

def genRows : Nat → List (List Int)
  | 0 => [[]]
  | n + 1 => (genRows n).map (· ++ [0]) ++ (genRows n).map (· ++ [1])
theorem gen_len : ∀ n, (genRows n).length = 2 ^ n
  | 0 => rfl
  | n + 1 => by
    show ((genRows n).map (· ++ [0]) ++ (genRows n).map (· ++ [1])).length = _
    rw [List.length_append, List.length_map, List.length_map, gen_len n, Nat.pow_succ]
    omega
theorem gen_row : ∀ {n : Nat} {r : List Int}, r ∈ genRows n → r.length = n ∧ bits r
  | 0, r, h => by
    rw [List.mem_singleton.mp h]
    exact ⟨rfl, bits.nil⟩
  | n + 1, r, h => by
    rcases List.mem_append.mp h with h | h
    · obtain ⟨s, hs, rfl⟩ := List.mem_map.mp h
      obtain ⟨l, b⟩ := gen_row hs
      exact ⟨by rw [List.length_append, l]; rfl, b.app (bits.cons (.inl rfl) bits.nil)⟩
    · obtain ⟨s, hs, rfl⟩ := List.mem_map.mp h
      obtain ⟨l, b⟩ := gen_row hs
      exact ⟨by rw [List.length_append, l]; rfl, b.app (bits.cons (.inr rfl) bits.nil)⟩
theorem pow_small {n : Nat} (h : n ≤ 13) : 2 ^ n ≤ 8192 := Nat.le_trans (Nat.pow_le_pow_right (by decide) h) (by decide)
def rowsN (L : Nat) : List (List Int) := (List.range (2 ^ L)).map fun n => digits n L
theorem rowsN_len (L : Nat) : (rowsN L).length = 2 ^ L := by
  unfold rowsN
  rw [List.length_map, List.length_range]
theorem rowsN_get {L n : Nat} (h : n < 2 ^ L) : (rowsN L)[n]? = some (digits n L) := by
  unfold rowsN
  rw [List.getElem?_map, List.getElem?_range h]
  rfl
theorem rowsN_row {L : Nat} {r : List Int} (h : r ∈ rowsN L) : r.length = L ∧ bits r := by
  obtain ⟨n, _, rfl⟩ := List.mem_map.mp h
  exact ⟨digits_len _ _, digits_bits _ _⟩
theorem num_lt {r : List Int} (h : bits r) : (numOf r).toNat < 2 ^ r.length := by
  obtain ⟨h0, h1⟩ := numOf_at h
  rw [← pow_cast] at h1
  omega
theorem rowsN_mem {L : Nat} {r : List Int} (l : r.length = L) (b : bits r) : r ∈ rowsN L := by
  subst l
  exact List.mem_map.mpr ⟨(numOf r).toNat, List.mem_range.mpr (num_lt b), digits_num b⟩
theorem num_digits {n L : Nat} (h : n < 2 ^ L) : numOf (digits n L) = (n : Int) := by
  rw [numOf_digits, Nat.mod_eq_of_lt h]
theorem code_num : ∀ r : List Int, TS.code 2 r = numOf r
  | [] => rfl
  | c :: r => by
    show c * 2 ^ r.length + TS.code 2 r = _
    rw [code_num r, numOf_cons]
theorem rowsN_up (L : Nat) : (rowsN L).Pairwise (fun a b => TS.code 2 a < TS.code 2 b) := by
  unfold rowsN
  rw [List.pairwise_map]
  refine List.Pairwise.imp_of_mem ?_ List.pairwise_lt_range
  intro a b ha hb lt
  rw [code_num, code_num, num_digits (List.mem_range.mp ha), num_digits (List.mem_range.mp hb)]
  omega
theorem gen_nodup : ∀ n, (genRows n).Nodup
  | 0 => by simp [genRows]
  | n + 1 => by
    show ((genRows n).map (· ++ [0]) ++ (genRows n).map (· ++ [1])).Nodup
    have one : ∀ c : Int, ((genRows n).map (· ++ [c])).Nodup := fun c => by
      show List.Pairwise _ _
      rw [List.pairwise_map]
      exact (gen_nodup n).imp fun {a b} ne e => ne (List.append_cancel_right e)
    rw [List.nodup_append]
    refine ⟨one 0, one 1, fun a ha b hb e => ?_⟩
    obtain ⟨x, _, rfl⟩ := List.mem_map.mp ha
    obtain ⟨y, _, rfl⟩ := List.mem_map.mp hb
    have z := (List.append_inj' e rfl).2
    cases z
theorem gen_mem : ∀ {n : Nat} {r : List Int}, r.length = n → bits r → r ∈ genRows n
  | 0, r, l, _ => by
    rw [List.eq_nil_of_length_eq_zero l]
    exact List.mem_singleton.mpr rfl
  | n + 1, r, l, b => by
    have ne : r ≠ [] := fun z => by rw [z] at l; cases l
    have e := List.dropLast_concat_getLast ne
    have ih := gen_mem (n := n) (r := r.dropLast) (by rw [List.length_dropLast]; omega) fun x hx => b x (List.mem_of_mem_take (by rw [List.dropLast_eq_take] at hx; exact hx))
    show r ∈ (genRows n).map (· ++ [0]) ++ (genRows n).map (· ++ [1])
    rcases b _ (List.getLast_mem ne) with q | q
    · exact List.mem_append.mpr (.inl (List.mem_map.mpr ⟨_, ih, by rw [← q]; exact e⟩))
    · exact List.mem_append.mpr (.inr (List.mem_map.mpr ⟨_, ih, by rw [← q]; exact e⟩))
theorem rows_eq {n : Nat} {rs : List (List Int)} (pm : rs.Perm (genRows n)) (pw : rs.Pairwise (fun a b => TS.code 2 a ≤ TS.code 2 b)) : rs = rowsN n := by
  have nd : (rowsN n).Nodup := (rowsN_up n).imp fun {a b} lt e => by rw [e] at lt; omega
  have p2 : (genRows n).Perm (rowsN n) := (List.perm_ext_iff_of_nodup (gen_nodup n) nd).mpr fun r => ⟨fun h => rowsN_mem (gen_row h).1 (gen_row h).2, fun h => gen_mem (rowsN_row h).1 (rowsN_row h).2⟩
  refine List.Perm.eq_of_pairwise (le := fun a b => TS.code 2 a ≤ TS.code 2 b) (fun a b ha hb h1 h2 => ?_) pw ((rowsN_up n).imp fun {a b} lt => Int.le_of_lt lt) (pm.trans p2)
  obtain ⟨l1, b1⟩ := gen_row (pm.mem_iff.mp ha)
  obtain ⟨l2, b2⟩ := rowsN_row hb
  rw [code_num, code_num] at h1 h2
  exact numOf_inj b1 b2 (by omega) (by omega)
def rowsTill (m : Nat) : List (List Int) := (List.range m).flatMap rowsN
theorem rowsTill_succ (m : Nat) : rowsTill (m + 1) = rowsTill m ++ rowsN m := by
  unfold rowsTill
  rw [List.range_succ, List.flatMap_append]
  simp
theorem rowsTill_len : ∀ m, (rowsTill m).length + 1 = 2 ^ m
  | 0 => rfl
  | m + 1 => by
    have ih := rowsTill_len m
    rw [rowsTill_succ, List.length_append, rowsN_len, Nat.pow_succ]
    omega
theorem rowsTill_row {m : Nat} {r : List Int} (h : r ∈ rowsTill m) : r.length < m ∧ bits r := by
  obtain ⟨L, hL, hr⟩ := List.mem_flatMap.mp h
  obtain ⟨l, b⟩ := rowsN_row hr
  have := List.mem_range.mp hL
  exact ⟨by omega, b⟩
theorem len256 {m : Nat} (h : m ≤ 8) : 2 ^ m ≤ 256 := Nat.le_trans (Nat.pow_le_pow_right (by decide) h) (by decide)
theorem numOf_snoc (a : List Int) (c : Int) : numOf (a ++ [c]) = 2 * numOf a + c := by
  unfold numOf
  rw [List.foldl_append]
  rfl
end SV
/-! The value layer: rows of cells sorted, xs.extend(t), sums of tuples. -/
namespace SV
open PySem PySem.Spec PyProof.Rows L2 SL
theorem paired_perm {α β : Type} {F : α → β → Prop} {ys vs : List α} (p : ys.Perm vs) : ∀ {rs : List β}, Paired F vs rs → ∃ rs', rs'.Perm rs ∧ Paired F ys rs' := by
  induction p with
  | nil => exact fun h => ⟨_, List.Perm.refl _, h⟩
  | cons x _ ih =>
    intro rs h
    cases h with
    | cons a t =>
      obtain ⟨r, h1, h2⟩ := ih t
      exact ⟨_ :: r, h1.cons _, .cons a h2⟩
  | swap x y l =>
    intro rs h
    cases h with
    | cons a t =>
      cases t with
      | cons b t => exact ⟨_ :: _ :: _, List.Perm.swap _ _ _, .cons b (.cons a t)⟩
  | trans _ _ i1 i2 =>
    intro rs h
    obtain ⟨r1, h1, h2⟩ := i2 h
    obtain ⟨r2, h3, h4⟩ := i1 h2
    exact ⟨r2, h3.trans h1, h4⟩
/-- rows at their addresses -/
abbrev RowsAt (G : Hp) : List V → List (List Int) → Prop := Paired fun v r => ∃ a, v = V.ref a ∧ G a = some (.tup (r.map V.int)) ∧ r.length ≤ 100000
theorem RpL.rows {pp : Addr} {G : Hp} : ∀ {rs : List (List Int)} {vs : List V}, RpL pp G vs (rs.map rowV) → RowsAt G vs rs
  | [], _, h => by
    cases h
    exact .nil
  | r :: rs, _, h => by
    cases h with
    | cons a t =>
      cases a with
      | tup h k z =>
        obtain rfl := k.ints
        rw [List.length_map] at z
        exact .cons ⟨_, rfl, h, z⟩ (RpL.rows t)
theorem RowsAt.rp {pp : Addr} {G : Hp} : ∀ {rs : List (List Int)} {vs : List V}, RowsAt G vs rs → RpL pp G vs (rs.map rowV)
  | _, _, .nil => .nil
  | r :: _, _, .cons ⟨a, e, h, z⟩ t => by
    rw [e]
    exact .cons (.tup h (RpL.toInts r) (by rw [List.length_map]; exact z)) (RowsAt.rp t)
theorem RowsAt.pw {K : PySem.W.Frag} {G H : Hp} (w : Vw G H) {R : List Int → List Int → Prop} : ∀ {vs : List V} {rs : List (List Int)}, RowsAt G vs rs → vs.Pairwise (fun x y => ∀ n m, TupI K H x n → TupI K H y m → R n m) → rs.Pairwise R
  | _, _, .nil, _ => List.Pairwise.nil
  | _, _, .cons (l₁ := vs) (l₂ := rs) ⟨a, e, h, _⟩ t, p => by
    subst e
    have p' := List.pairwise_cons.mp p
    refine List.pairwise_cons.mpr ⟨fun r hr => ?_, RowsAt.pw w t p'.2⟩
    have key : ∀ {vs : List V} {rs : List (List Int)}, RowsAt G vs rs → ∀ r ∈ rs, ∃ v ∈ vs, TupI K H v r := by
      intro vs rs t
      induction t with
      | nil => exact fun _ z => nomatch z
      | cons x t ih =>
        intro r hr
        obtain ⟨b, rfl, hb, _⟩ := x
        rcases List.mem_cons.mp hr with rfl | hr
        · exact ⟨_, List.mem_cons_self, b, rfl, SqT.of (w.tup hb)⟩
        · obtain ⟨v, h1, h2⟩ := ih r hr
          exact ⟨v, List.mem_cons_of_mem _ h1, h2⟩
    obtain ⟨v, h1, h2⟩ := key t r hr
    exact p'.1 v h1 _ _ ⟨a, rfl, SqT.of (w.tup h)⟩ h2
theorem cr_sortRK {X : Cx} (K : PySem.W.Frag) (h : X.K = K := by rfl) : CallR X (.builtin "sorted") (rSortTA K) := by subst h; exact cr_sortTA
/-- sorted(rows): rows of cells, all of one length -/
def bSortR : FB := fun us post => ∃ (rs : List (List Int)) (d : Nat), us = [.lst (rs.map rowV)] ∧ (2 ≤ rs.length → 1 ≤ d) ∧ (∀ r ∈ rs, r.length = d ∧ bits r) ∧ ∀ rs' : List (List Int), rs'.Perm rs → rs'.Pairwise (fun a b => TS.code 2 a ≤ TS.code 2 b) → post (.lst (rs'.map rowV))
theorem b_sortR {K : PySem.W.Frag} : CallOkF (rSortTA K) bSortR := by
  intro b pp q G H vs us Q post w p hv hF k
  obtain ⟨rs, d, rfl, hd, hr, hp⟩ := hF
  cases hv with
  | cons r t =>
    cases t
    cases r with
    | lst h kk z =>
      have ra := kk.rows
      refine ⟨_, _, d, 2, rfl, SqL.of h, fun l => hd (by rw [kk.length, List.length_map] at l; exact l), fun x hx => ?_, fun ys l pm pw nl => ?_⟩
      · obtain ⟨i, e⟩ := List.mem_iff_getElem?.mp hx
        obtain ⟨u, eu, hu⟩ := kk.get e
        rw [List.getElem?_map] at eu
        cases er : rs[i]? with
        | none => rw [er] at eu; cases eu
        | some r =>
          rw [er] at eu
          cases eu
          obtain ⟨l1, b1⟩ := hr r (List.mem_of_getElem? er)
          cases hu with
          | tup h2 k2 z2 =>
            obtain rfl := k2.ints
            refine ⟨r, ⟨_, rfl, SqT.of (w.tup h2)⟩, l1, fun c hc => ?_⟩
            rcases b1 c hc with rfl | rfl <;> decide
      · obtain ⟨rs', h1, h2⟩ := paired_perm pm ra
        refine k l _ _ _ (hp rs' h1 (RowsAt.pw w h2 pw)) (Gr.newH w p nl) nl (w.free nl) upd_same (.lst (RowsAt.rp h2) ?_)
        rw [List.length_map, h1.length_eq]
        rw [List.length_map] at z
        exact z
def bSortT : FB := fun us post => ∃ ns : List Int, us = [.tup (ns.map U.int)] ∧ ∀ ms : List Int, ms.Perm ns → ms.Pairwise (· ≤ ·) → post (.lst (ms.map U.int))
theorem b_sortT {K : PySem.W.Frag} : CallOkF (rSortTI K) bSortT := by
  intro b pp q G H vs us Q post w p hv hF k
  obtain ⟨ns, rfl, hp⟩ := hF
  cases hv with
  | cons r t =>
    cases t
    cases r with
    | tup h kk z =>
      obtain rfl := kk.ints
      refine ⟨_, ns, rfl, SqT.of (w.tup h), fun ms d pm pw nd => k d _ _ _ (hp ms pm pw) (Gr.newH w p nd) nd (w.free nd) upd_same (.lst (RpL.toInts ms) ?_)⟩
      rw [List.length_map, pm.length_eq]
      rw [List.length_map] at z
      exact z
def bSumT : FB := fun us post => ∃ ns : List Int, us = [.tup (ns.map U.int)] ∧ post (.int ns.sum)
theorem b_sumT {K : PySem.W.Frag} : CallOk (rSumT K) bSumT := by
  intro b pp q G H vs us Q post w p hv hF k
  obtain ⟨ns, rfl, hp⟩ := hF
  cases hv with
  | cons r t =>
    cases t
    cases r with
    | tup h kk z =>
      obtain rfl := kk.ints
      exact ⟨_, ns, rfl, SqT.of (w.tup h), k _ _ G H hp (Gr.refl w p) (.int _)⟩
section
variable {Z : Zc} {te : TE} {we : WE}
/-- xs.extend(t), t a tuple -/
def wExtendT (i : Nat) (we : WE) : WS := fun V ρ => ∃ us, ρ[i]? = some (.ow (.lst us)) ∧ we ρ fun x => ∃ ws, x = .tup ws ∧ us.length + ws.length ≤ 100000 ∧ V.nx (ρ.set i (.ow (.lst (us ++ ws))))
theorem s_extendT {K : PySem.W.Frag} {i : Nat} (h : TrE Z te we) : TrS Z (tDrop (tBM K "list" (rExtendT K) (tVar i) (tCons te tNil))) (wExtendT i we) := fun V D σ ρ G H S hw B => by
  obtain ⟨us, e, p⟩ := hw
  obtain ⟨a, vs, e1, h1, _, _⟩ := ow_lst S e
  refine ⟨_, e1, .inl ⟨rfl, vs, SqL.of h1⟩, h σ ρ G H _ _ S p fun v u G1 H1 p1 g1 r1 => ?_⟩
  obtain ⟨ws, rfl, hl, p2⟩ := p1
  have S1 := S.step g1
  obtain ⟨a', vs', e1', h1', k', z'⟩ := ow_lst S1 e
  rw [e1] at e1'
  cases e1'
  cases r1 with
  | tup h2 k2 z2 =>
    refine ⟨a, _, vs', _, rfl, rfl, h1', SqT.of (S1.vw.tup h2), Nat.le_of_lt (lineN (by rw [k'.length, k2.length]; exact hl)), ?_⟩
    exact B.nx _ _ G1 _ (S1.put e e1 (.lst (RpL.append k2 k') (by rw [List.length_append]; exact hl))) (g1.ex.trans (ow_ex S1 e e1)) p2
end
/-- reversed(range(n)) -/
def downto (n : Nat) : List U := (List.range n).map fun (k : Nat) => U.int ((n : Int) - 1 - (k : Int))
theorem downto_len (n : Nat) : (downto n).length = n := by simp [downto]
theorem downto_get {n i : Nat} (h : i < n) : (downto n)[i]? = some (.int ((n : Int) - 1 - (i : Int))) := by
  unfold downto
  rw [List.getElem?_map, List.getElem?_range h]
  rfl
theorem downto_at {n i : Nat} {u : U} (h : (downto n)[i]? = some u) : i < n ∧ u = .int ((n - 1 - i : Nat) : Int) := by
  have l : i < n := by
    have := (List.getElem?_eq_some_iff.mp h).1
    rwa [downto_len] at this
  rw [downto_get l] at h
  cases h
  exact ⟨l, congrArg U.int (by omega)⟩
section
variable {Z : Zc} {te : TE} {we : WE}
def wRevR (we : WE) : WA := fun ρ post => we ρ fun x => ∃ n : Nat, x = .int (n : Int) ∧ n ≤ 100000 ∧ post (downto n)
theorem i_revR (h : TrE Z te we) : TrI Z (iRevR (tRg1 te)) (wRevR we) := fun σ ρ G H S post R hw q => h σ ρ G H _ _ S hw fun v x G1 H1 w1 g1 h1 => by
  obtain ⟨n, rfl, hn, p⟩ := w1
  cases h1
  have e1 : ((n : Int) - 0).toNat = n := by omega
  have e2 : (0 : Int) + (n : Int) - 1 = (n : Int) - 1 := by omega
  refine ⟨(n : Int), rfl, by omega, by omega, by omega, by omega, ?_⟩
  rw [e1, e2]
  refine q _ _ _ _ _ G1 H1 p g1 (downto_len n) hn walk_rangeC (fun _ _ _ _ => trivial) fun i x G' H' H'' hi s' w' pl y => ?_
  obtain ⟨rfl, rfl⟩ := y
  refine ⟨_, G', downto_get hi, Gr.refl w' pl, ?_⟩
  show Rp Z.pp G' (V.int ((n : Int) - 1 + (i : Nat) * -1)) _
  rw [show (n : Int) - 1 + (i : Nat) * -1 = (n : Int) - 1 - (i : Nat) by omega]
  exact .int _
end
theorem okMsg_int {n : Int} (h : n.natAbs.log2 < 1000 := by decide) (h2 : (Str.ofString (toString n)).length ≤ 1000 := by decide +kernel) : okMsg PySem.SLX.okInt (.int n) := fun v pp G val r e => by
  cases r
  obtain ⟨t, rfl⟩ := e
  exact ⟨_, _, rfl, h, h2⟩
theorem fadd_row {r s : List Int} (h : r.length + s.length ≤ 100000) : fAdd (rowV r) (rowV s) = some (rowV (r ++ s)) := by
  show (if (r.map U.int).length + (s.map U.int).length ≤ 100000 then some (U.tup (r.map U.int ++ s.map U.int)) else none) = _
  rw [if_pos (by rw [List.length_map, List.length_map]; exact h), ← List.map_append]
/-- a thing picked from a menu -/
theorem pickU (P : U → Prop) {us : List U} {n : Nat} {post : U → Prop} {d : Int} (d0 : 0 ≤ d) (d1 : d < n) (hl : us.length = n) (h : ∀ u ∈ us, P u) (k : ∀ u, P u → post u) : ∃ u, fIx (.lst us) (.int d) = some u ∧ post u := by
  obtain ⟨u, hu⟩ : ∃ u, us[d.toNat]? = some u := ⟨_, List.getElem?_eq_getElem (by omega)⟩
  exact ⟨u, atI_int d0 hu, k u (h u (List.mem_of_getElem? hu))⟩
/-! ### a list taken apart -/
theorem pg_lstK {X : Cx} {pos : Pos} {es : List Expr} {k : Nat} {t : TGs} {n : Nat} (K : PySem.W.Frag) (hc : X.calm = true) (h : PGs X es t) (e : X.K = K := by rfl) (hn : (assignEach es X.env).length = n := by rfl) (hst : (assignEach es X.env).findIdx? (·.1) = none := by rfl) : PG X (.Tuple es k pos) (gLst K n t) := by
  subst e
  exact pg_lst hc h hn hst
section
variable {Z : Zc}
def wgLst (n : Nat) (ws : WGs) : WG := fun u ρ post => ∃ us, u = .lst us ∧ us.length = n ∧ ws us ρ post
theorem g_lst {K : PySem.W.Frag} {n : Nat} {gs : TGs} {ws : WGs} {vs : List Nat} (hs : TrGs Z gs ws vs) : TrG Z (gLst K n gs) (wgLst n ws) vs := fun v u σ ρ G H post Q S r hw q => by
  obtain ⟨us, rfl, l, p⟩ := hw
  cases r with
  | lst h k z => exact ⟨_, _, rfl, SqL.of (S.vw.lst h), by rw [k.length, l], hs _ us σ ρ G H _ _ S k p q⟩
end
/-! ### a list, a tuple some times -/
def repU (us : List U) : Nat → List U
  | 0 => []
  | k + 1 => us ++ repU us k
theorem repU_len (us : List U) : ∀ k, (repU us k).length = k * us.length
  | 0 => by rw [Nat.zero_mul]; rfl
  | k + 1 => by
    show (us ++ repU us k).length = _
    rw [List.length_append, repU_len us k, Nat.succ_mul, Nat.add_comm]
theorem RpL.rep {pp : Addr} {G : Hp} {vs : List V} {us : List U} (h : RpL pp G vs us) : ∀ k, RpL pp G (List.replicate k vs).flatten (repU us k)
  | 0 => .nil
  | k + 1 => by
    rw [List.replicate_succ, List.flatten_cons]
    exact RpL.append (RpL.rep h k) h
def fRepL : U → U → Option U
  | .lst us, .int k => if 0 ≤ k ∧ k ≤ 1000 ∧ us.length ≤ 100 then some (.lst (repU us k.toNat)) else none
  | _, _ => none
theorem rep_small {n k : Nat} (h1 : n ≤ 100) (h2 : k ≤ 1000) : k * n ≤ 100000 := Nat.mul_le_mul h2 h1
theorem o_repL : OpOkF rRep fRepL := by
  intro b pp q G H v1 v2 x y u Q w p h1 h2 e k
  cases h1 <;> first | cases e | skip
  rename_i a vs us h kk z
  cases h2 <;> first | cases e | skip
  rename_i n
  have e' : (if 0 ≤ n ∧ n ≤ 1000 ∧ us.length ≤ 100 then some (U.lst (repU us n.toNat)) else none) = some u := e
  by_cases c : 0 ≤ n ∧ n ≤ 1000 ∧ us.length ≤ 100
  · rw [if_pos c] at e'
    cases e'
    have sm : n.toNat * us.length ≤ 100000 := rep_small c.2.2 (by omega)
    exact ⟨a, n, vs, rfl, rfl, h, by omega, by omega, by rw [kk.length, Nat.mul_comm]; exact Nat.le_of_lt (lineN sm), fun d nd => k d _ _ (Gr.newH w p nd) nd (w.free nd) upd_same (.lst (RpL.rep kk _) (by rw [repU_len]; exact sm))⟩
  · rw [if_neg c] at e'
    cases e'
def fRepT : U → U → Option U
  | .tup us, .int k => if 0 ≤ k ∧ k ≤ 1000 ∧ us.length ≤ 100 ∧ us ≠ [] then some (.tup (repU us k.toNat)) else none
  | _, _ => none
theorem o_repT : OpOk rRepV fRepT := by
  intro b pp q G H v1 v2 x y u Q w p h1 h2 e k
  cases h1 <;> first | cases e | skip
  rename_i a vs us h kk z
  cases h2 <;> first | cases e | skip
  rename_i n
  have e' : (if 0 ≤ n ∧ n ≤ 1000 ∧ us.length ≤ 100 ∧ us ≠ [] then some (U.tup (repU us n.toNat)) else none) = some u := e
  by_cases c : 0 ≤ n ∧ n ≤ 1000 ∧ us.length ≤ 100 ∧ us ≠ []
  · rw [if_pos c] at e'
    cases e'
    have sm : n.toNat * us.length ≤ 100000 := rep_small c.2.2.1 (by omega)
    have ne : vs ≠ [] := fun z => by
      subst z
      cases kk
      exact c.2.2.2 rfl
    refine ⟨a, n.toNat, vs, rfl, congrArg V.int (by omega), w.tup h, ne, by omega, by rw [kk.length]; omega, fun d H' s ed hn => ?_⟩
    have hn' : H d = none ∨ G d = some (.tup (List.replicate n.toNat vs).flatten) := by
      rcases hn with hn | ⟨rfl, er⟩
      · exact .inl hn
      · exact .inr (by rw [er]; exact h)
    obtain ⟨G', g, gd, sg⟩ := grow w p s ed hn'
    exact k _ G' H' g (.tup gd (RpL.rep (kk.same sg) _) (by rw [repU_len]; exact sm))
  · rw [if_neg c] at e'
    cases e'
/-! ### numbers, short -/
theorem shl_one {k : Nat} (h : k ≤ 1000000) : fIIc (fun i j => decide (0 ≤ j ∧ j ≤ 1000000 ∧ i.natAbs < 2 ^ 64)) (fun i j => U.int (i * 2 ^ j.toNat)) (.int 1) (.int (k : Int)) = some (.int ((2 ^ k : Nat) : Int)) := by
  show (if decide ((0 : Int) ≤ (k : Int) ∧ (k : Int) ≤ 1000000 ∧ (1 : Int).natAbs < 2 ^ 64) = true then some (U.int (1 * 2 ^ (k : Int).toNat)) else none) = _
  rw [if_pos (decide_eq_true ⟨Int.natCast_nonneg k, by omega, by decide⟩), Int.one_mul, Int.toNat_natCast, pow_cast]
theorem shl_of {z : Int} {k : Nat} (e : z = (k : Int)) (h : k ≤ 1000000) : fIIc (fun i j => decide (0 ≤ j ∧ j ≤ 1000000 ∧ i.natAbs < 2 ^ 64)) (fun i j => U.int (i * 2 ^ j.toNat)) (.int 1) (.int z) = some (.int ((2 ^ k : Nat) : Int)) := by
  rw [e]
  exact shl_one h
theorem shr_nat (n k : Nat) : fIIc (fun _ j => decide (0 ≤ j)) (fun i j => U.int (i / 2 ^ j.toNat)) (.int (n : Int)) (.int (k : Int)) = some (.int ((n / 2 ^ k : Nat) : Int)) := by
  show (if decide ((0 : Int) ≤ (k : Int)) = true then some (U.int ((n : Int) / 2 ^ (k : Int).toNat)) else none) = _
  rw [if_pos (decide_eq_true (Int.natCast_nonneg k)), Int.toNat_natCast, ← pow_cast, ← Int.natCast_ediv]
theorem one_bit (n : Nat) : Builtin.bitAnd (n : Int) 1 = ((n % 2 : Nat) : Int) := by
  rw [bitAnd_m1]
  omega
/-- a digit of a number -/
theorem digit_at {N W i : Nat} (h : i < W) : (digits N W)[i]? = some ((N / 2 ^ (W - 1 - i) % 2 : Nat) : Int) := by
  unfold digits
  rw [List.getElem?_map, List.getElem?_range h]
  rfl
theorem within_nat {hi : Int} {x : U} (h : withinU 0 hi x = true) : ∃ n : Nat, x = .int (n : Int) ∧ (n : Int) ≤ hi := by
  cases x <;> first | cases h | skip
  rename_i i
  have h' : (decide (0 ≤ i) && decide (i ≤ hi)) = true := h
  rw [Bool.and_eq_true, decide_eq_true_eq, decide_eq_true_eq] at h'
  exact ⟨i.toNat, congrArg U.int (by omega), by omega⟩
theorem withinI {lo hi i : Int} (h1 : lo ≤ i) (h2 : i ≤ hi) : withinU lo hi (.int i) = true := by
  show (decide (lo ≤ i) && decide (i ≤ hi)) = true
  rw [decide_eq_true h1, decide_eq_true h2]
  rfl
theorem mt_extendTK {X : Cx} (K : PySem.W.Frag) (h : X.K = K := by rfl) : MtM X "list.extend" (rExtendT K) := by subst h; exact mt_extendT
end SV
/-! The end of a law whose defs make code objects: the tables are read off the top. -/
namespace SLEnd
open PySem PySem.Spec PyProof.Rows L2 LamX
theorem walk_tab {l : PySem.W.OpenLaw} {n k : Nat} {q : Program} {loose : List Str} {XP : (Str → Option Value) → Heap → Prop} {YP : World → Heap → Prop} {d : DefRec} {K : Params → PySem.W.Frag} {CX : World → CXT} {x : Str}
    (hn : l.most = some n) (hn2 : n ≤ sizeLine) (hdf : d.params.defaults = []) (hr : Room k callerA) (hY : ∀ (w : World) (h : Heap), YP w h → (K w.params).In h)
    (F : ∀ (w : World) (mg : Str → Option Value) (fa : Addr) (h : Heap), (K w.params).In h → (∃ lo me mb, Top q lo me mg mb h) → h.Ns mainGlobals mg → mg d.name = some (.ref fa) → LawAtS l w (K w.params) (CX w) k n x mg fa h)
    (hCX : ∀ (w : World) (H : Hp) (s : Shared) (e : Value) (s' : Shared), CX w [] H s (fun _ _ _ => False) e s' → False) :
    PySem.W.WalkO q loose XP YP l.row.toRowW d [] (fun f vs => PySem.call f vs) := by
  refine Att.attach_callB hn hdf fun w s₀ s₁ mg mb fa o pm cd doc a vs ns G Y ho hd hcd hmg hobj hints hlen hbits hg => ?_
  have KX := hY w _ Y
  obtain ⟨fd, cs, sp, hT, nT, C, hb, hsp, hF⟩ := F w mg fa _ KX ⟨_, _, _, G.T⟩ G.T.g hmg
  exact law_callTs KX G.T.g G.T.b G.T.builtins G.T.nolimit hg hT nT C G.T.bmain hobj hints (Nat.le_trans hlen hn2) hr hF hb (fun H hH hS => hsp H a ns hlen hbits hH hS) fun H e s' => hCX w H s₁ e s'
theorem tab_at {q : Program} {mg : Str → Option Value} {h : Heap} {K : PySem.W.Frag} {x : Str} {d : DefRec} {f c P : Addr} {oc c2 : Value} {od cl2 : Option Addr} {fd : FuncData} {sl s2 : Array (Option Value)} {vs : Array Value}
    (T : ∃ lo me mb, Top q lo me mg mb h) (X : K.In h) (hr : (recsOf q).find? (fun e => e.name == x) = some d) (hx : PySem.W.nsIn K mainGlobals x = some (some (.ref f))) (hl : K.lookup f = some ⟨oc, od, .func fd, sl⟩) (hc : fd.code = .ref c)
    (hv : K.lookup c = some ⟨c2, cl2, .fields vs, s2⟩) (h11 : vs[11]? = some (.ref P)) : PySem.W.CodeHd h c P ∧ h.get? P = some { cls := .none, data := .fields #[] } := by
  obtain ⟨lo, me, mb, T⟩ := T
  refine PySem.W.tab_of T X hr ?_
  unfold PySem.W.tabIn
  rw [hx]
  show (match K.lookup f with
    | some ⟨_, _, .func fd, _⟩ => (match fd.code with
      | .ref c => (match K.lookup c with
        | some ⟨_, _, .fields vs, _⟩ => (match (vs[11]? : Option Value) with
          | some (.ref P) => some (c, P)
          | _ => none)
        | _ => none)
      | _ => none)
    | _ => none) = some (c, P)
  rw [hl]
  show (match fd.code with
      | .ref c => (match K.lookup c with
        | some ⟨_, _, .fields vs, _⟩ => (match (vs[11]? : Option Value) with
          | some (.ref P) => some (c, P)
          | _ => none)
        | _ => none)
      | _ => none) = some (c, P)
  rw [hc]
  show (match K.lookup c with
        | some ⟨_, _, .fields vs, _⟩ => (match (vs[11]? : Option Value) with
          | some (.ref P) => some (c, P)
          | _ => none)
        | _ => none) = some (c, P)
  rw [hv]
  show (match (vs[11]? : Option Value) with
          | some (.ref P) => some (c, P)
          | _ => none) = some (c, P)
  rw [h11]
end SLEnd
/-! enumerate of a dict (its keys), the dict locked. -/
namespace SL
open PySem PySem.Spec PyProof.Rows L2
section
variable {prog : Program} {w : World} {A : Around} {E : Value → Shared → Prop} {s : Shared} {it d : Addr} {i n ep : Nat} {od : Obj} {es : Array DictEntry}
local macro_rules | `(tactic| ac_rfl) => `(tactic| (first | refine wpAny_bind (wpAny_typeNameOfWhole_keyiter (by assumption) (wpAny_pure ?_)) | refine wpAny_bind (wpAny_typeNameOf_keyiter (by assumption) (wpAny_pure ?_))))
theorem keyNext_item {en : DictEntry} {Q : Value → Shared → Prop} (hit : s.heap.IsKeyIter it d i n ep) (hod : s.heap.get? d = some od) (hdd : od.data = .dict es ep) (hsz : es.size = n) (hx : es[i]? = some en)
    (hQ : ∀ h', h'.IsKeyIter it d (i + 1) n ep → Heap.SameBut it s.heap h' → Q en.key { s with heap := h' }) : wpAny (model prog w) A (Builtin.SmallTypes.nextOf (.ref it)) Q E s := by
  have ty := hit.typeIs
  obtain ⟨o, ho, hc, hd⟩ := id hit
  unfold Builtin.SmallTypes.nextOf
  refine wpAny_bind (wpAny_callSpecial?_slot (name := Str.ofString "__next__") ty F.slot_dict_keyiterator_next (wpAny_call_entry F.slot_dict_keyiterator_next ty F.entry_dict_keyiterator_next ?_ (F.args_dict_keyiterator_next_1 _)))
  refine wpAny_bind (wpAny_pure ?_); refine wpAny_bind ?_; refine wpAny_bind ?_; ac_rfl
  refine wpAny_bind (wpAny_fieldsOf ho hd ?_); simp only [show Builtin.Dict_items.ownsTuple "dict_keyiterator" = false by decide, Bool.false_eq_true, if_false]
  have nn : ¬ ((Value.ref d == Value.none) = true) := Bool.false_ne_true
  show wpAny _ _ (if (Value.ref d == Value.none) = true then _ else _) _ _ s; rw [if_neg nn]
  refine wpAny_bind (wpAny_pure ?_); refine wpAny_bind (wpAny_dictEntries hod hdd ?_); rw [if_neg (by rw [hsz]; simp)]
  refine wpAny_bind (wpAny_pure ?_); refine wpAny_bind (wpAny_dictEpoch hod hdd ?_); rw [if_neg (by simp)]; refine wpAny_pure ?_
  obtain ⟨hlt, hen⟩ := Array.getElem?_eq_some_iff.mp hx
  have i0 : ¬ ((i : Int) < 0) := by omega
  simp only [i0, if_false, Int.toNat_natCast, Array.getElem?_eq_getElem hlt]; refine wpAny_bind ?_; ac_rfl; refine wpAny_bind (wpAny_isOneOf_keyiter ty ?_)
  show wpAny _ _ (setField (.ref it) 1 (rawInt ((i : Int) + 1)) >>= _) _ _ s; refine wpAny_bind (wpAny_setField ho hd (by simp) ?_)
  have next : (s.heap.update it (Obj.mapFields (·.setIfInBounds 1 (rawInt ((i : Int) + 1))))).IsKeyIter it d (i + 1) n ep := ⟨_, Heap.get?_update_self _ ho (Obj.isFreed_of_fields (Obj.data_mapFields hd _)), (Obj.cls_mapFields ..).trans hc, by rw [Obj.data_mapFields hd]; simp [rawInt]⟩
  refine wpAny_bind (wpAny_holding ?_)
  refine wpAny_bind (wpAny_isOneOf_keyiter (s := { s with heap := s.heap.update it (Obj.mapFields (·.setIfInBounds 1 (rawInt ((i : Int) + 1)))) }) next.typeIs ?_); show wpAny _ _ (pure es[i].key) _ _ _; rw [hen]
  exact wpAny_pure (wpAny_pure ⟨_, rfl, wpAny_pure (hQ _ next (Heap.SameBut.update ..))⟩)
theorem keyNext_end {Q : Value → Shared → Prop} (hh : A.handled = none) (hit : s.heap.IsKeyIter it d i n ep) (hod : s.heap.get? d = some od) (hdd : od.data = .dict es ep) (hsz : es.size = n) (hge : n ≤ i)
    (hE : ∀ h' e, Heap.ExtBut it s.heap h' → (∃ o, h'.get? e = some o ∧ o.cls = .type "StopIteration") → E (.ref e) { s with heap := h' }) : wpAny (model prog w) A (Builtin.SmallTypes.nextOf (.ref it)) Q E s := by
  have ty := hit.typeIs
  obtain ⟨o, ho, hc, hd⟩ := id hit
  unfold Builtin.SmallTypes.nextOf
  refine wpAny_bind (wpAny_callSpecial?_slot (name := Str.ofString "__next__") ty F.slot_dict_keyiterator_next (wpAny_call_entry F.slot_dict_keyiterator_next ty F.entry_dict_keyiterator_next ?_ (F.args_dict_keyiterator_next_1 _)))
  refine wpAny_bind (wpAny_pure ?_); refine wpAny_bind ?_; refine wpAny_bind ?_; ac_rfl
  refine wpAny_bind (wpAny_fieldsOf ho hd ?_); simp only [show Builtin.Dict_items.ownsTuple "dict_keyiterator" = false by decide, Bool.false_eq_true, if_false]
  have nn : ¬ ((Value.ref d == Value.none) = true) := Bool.false_ne_true
  show wpAny _ _ (if (Value.ref d == Value.none) = true then _ else _) _ _ s; rw [if_neg nn]
  refine wpAny_bind (wpAny_pure ?_); refine wpAny_bind (wpAny_dictEntries hod hdd ?_); rw [if_neg (by rw [hsz]; simp)]
  refine wpAny_bind (wpAny_pure ?_); refine wpAny_bind (wpAny_dictEpoch hod hdd ?_); rw [if_neg (by simp)]; refine wpAny_pure ?_
  have i0 : ¬ ((i : Int) < 0) := by omega
  have past : es.size ≤ i := by omega
  simp only [i0, if_false, Int.toNat_natCast, Array.getElem?_eq_none past]; refine wpAny_bind ?_; ac_rfl
  show wpAny _ _ (setField (.ref it) 0 .none >>= _) _ _ s; refine wpAny_bind (wpAny_setField ho hd (by simp) ?_)
  show wpAny _ _ (newExc (.type "StopIteration") [] >>= _) _ _ _; refine wpAny_bind ?_; simp only [newExc, newTuple]; refine wpAny_bind (wpAny_newObj_type ?_ (by size_fits))
  refine wpAny_bind (m := firstArgMember _ _) (wpAny_of_eq (a := Value.none) (by first | rfl | (simp only [firstArgMember]; rfl)) ?_); refine wpAny_newObj_type ?_ (by size_fits)
  simp only [raiseNew]; refine wpAny_bind (wpAny_handled ?_); rw [show A.in1.handled = none from hh]; refine wpAny_bind (wpAny_pure (wpAny_throw ?_))
  exact hE _ _ (((Heap.SameBut.update ..).extBut.push _).push _) ⟨_, Heap.get?_push_size _ rfl, rfl⟩
end

theorem drawsKeys {prog : Program} {w : World} {A : Around} {it d : Addr} {od : Obj} {es : Array DictEntry} {ep : Nat} (hh : A.handled = none) (hne : d ≠ it) (hdd : od.data = .dict es ep) :
    Draws prog w A it [it, d] es.size (fun i v => ∃ en : DictEntry, es[i]? = some en ∧ v = en.key) (fun i h => h.IsKeyIter it d i es.size ep ∧ h.get? d = some od) where
  live := fun i h st => let ⟨o, e, _⟩ := st.1; ⟨o, e⟩
  frame := fun i h h' st k => ⟨st.1.at fun ob e => k it (by simp) ob e, k d (by simp) _ st.2⟩
  item := fun i s Q E hi st hQ => by
    have hx : es[i]? = some es[i] := Array.getElem?_eq_getElem hi
    exact keyNext_item st.1 st.2 hdd rfl hx fun h' st' sb => hQ _ h' s.toks ⟨_, hx, rfl⟩ ⟨st', (sb.2 d hne).trans st.2⟩ sb
  done := fun s Q E st hE => keyNext_end hh st.1 st.2 hdd rfl (Nat.le_refl _) hE
theorem enumK_new {d : Addr} {od : Obj} {es : Array DictEntry} {ep : Nat} (lo : (d == sysModules) = false) (hx : od.ExactDict) (hdd : od.data = .dict es ep) :
    Meets (Builtin.«enumerate.__new__» ⟨[.type "enumerate", .ref d], []⟩) (fun _ R s => s.heap.get? d = some od ∧
      R (.ok (.ret (.ref (s.heap.push { cls := .type "dict_keyiterator", data := .fields #[.ref d, .int 0 0, .int es.size 0, .int ep 0] }).objs.size)))
        { s with heap := (s.heap.push { cls := .type "dict_keyiterator", data := .fields #[.ref d, .int 0 0, .int es.size 0, .int ep 0] }).push { cls := .type "enumerate", data := .fields #[.none, .bool false, .ref s.heap.objs.size, rawInt 0, .none, .none] } }) :=
  .of_wp fun prog w A R s h => by
    obtain ⟨hp, g, dr, tk, os⟩ := s
    obtain ⟨hl, h⟩ := h
    have hsub := sub_enumerate
    have hL : Heap.get? (Shared.heap ⟨hp, g, dr, tk, os⟩) d = some od := hl
    have q1 : ∀ {A' : Around} {E : Value → Shared → Prop} {Q : Value → Shared → Prop}, Q (.ref hp.objs.size) ⟨hp.push { cls := .type "dict_keyiterator", data := .fields #[.ref d, .int 0 0, .int es.size 0, .int ep 0] }, g, dr, tk, os⟩ → wpAny (model prog w) A' (pyIter (.ref d)) Q E ⟨hp, g, dr, tk, os⟩ :=
      fun q => iter_keys lo hL hx hdd q
    wp_walk
    refine wpAny_stack_any fun st => wpAny_pure ?_
    split
    · rename_i c _ _ _ _ _
      cases (c == Value.type "enumerate") <;> (wp_walk using q1; exact ⟨_, rfl, h⟩)
    · wp_walk using q1
      exact ⟨_, rfl, h⟩
theorem call_enumK {prog : Program} {w : World} {A : Around} {E : Value → Shared → Prop} {s : Shared} {d : Addr} {od : Obj} {es : Array DictEntry} {ep : Nat} {Q : Value → Shared → Prop} (lo : (d == sysModules) = false) (hx : od.ExactDict) (hdd : od.data = .dict es ep) (hL : s.heap.get? d = some od)
    (h : ∀ h', IsEnum h' (s.heap.objs.size + 1) s.heap.objs.size 0 .none → h'.IsKeyIter s.heap.objs.size d 0 es.size ep → h'.objs.size = s.heap.objs.size + 2 →
      (∀ b o, s.heap.get? b = some o → h'.get? b = some o) → Q (.ref (s.heap.objs.size + 1)) { s with heap := h' }) :
    wpAny (model prog w) A (call (.type "enumerate") [.ref d]) Q E s := by
  refine callType_new F.called_enumerate (by decide) (F.typeCall_enumerate_1 _) (F.newCall_enumerate_1 _) (fun obj => F.args_object_init_2 obj _) F.entry_enumerate_new (enumK_new lo hx hdd) ⟨hL, ?_⟩
  have hz : (s.heap.push { cls := .type "dict_keyiterator", data := .fields #[.ref d, .int 0 0, .int es.size 0, .int ep 0] }).objs.size = s.heap.objs.size + 1 := Heap.size_push ..
  show _ ∧ _; rw [hz]
  have he : IsEnum ((s.heap.push { cls := .type "dict_keyiterator", data := .fields #[.ref d, .int 0 0, .int es.size 0, .int ep 0] }).push
      { cls := .type "enumerate", data := .fields #[.none, .bool false, .ref s.heap.objs.size, rawInt 0, .none, .none] }) (s.heap.objs.size + 1) s.heap.objs.size 0 .none := by
    have q := Heap.get?_push_size (s.heap.push { cls := .type "dict_keyiterator", data := .fields #[.ref d, .int 0 0, .int es.size 0, .int ep 0] })
      (o := { cls := .type "enumerate", data := .fields #[.none, .bool false, .ref s.heap.objs.size, rawInt 0, .none, .none] }) rfl
    rw [hz] at q; exact q
  exact ⟨⟨_, he, rfl⟩, h _ he ⟨_, Heap.get?_push_of_some _ (Heap.get?_push_size _ rfl), rfl, rfl⟩ (by rw [Heap.size_push, hz]) fun b o x => Heap.get?_push_of_some _ (Heap.get?_push_of_some _ x)⟩
/-- index and key of a locked dict, the keys tuples -/
def IteD (d : Addr) (o : Obj) (kvs : List (List Key × V)) : It :=
  ⟨fun i H => H d = some (.frz o (.dT kvs)) ∧ i < kvs.length, fun i H x H' => ∃ T k v q, kvs[i]? = some (k, v) ∧ x = .ref T ∧ H T = none ∧ H q = some (.tup (k.map kV)) ∧ H' = upd H T (.tup [.int (i : Nat), .ref q]), fun i H => H d = some (.frz o (.dT kvs)) ∧ kvs.length ≤ i⟩
theorem turn_enumD {P : Program} {w : World} {K : PySem.W.Frag} {elts : List Expr} {kk : Nat} {tpos : Pos} {d : Addr} {o : Obj} {kvs : List (List Key × V)} {es : Array DictEntry} {ep : Nat} (e it : Addr) (hde : d ≠ e) (hdi : d ≠ it) (hod : o.data = .dict es ep) :
    Turn P w K (.Tuple elts kk tpos) (IteD d o kvs) [e, it] e (fun i h => (∃ old, IsEnum h e it ((i : Nat) : Int) old) ∧ h.IsKeyIter it d i kvs.length ep ∧ e ≠ it) where
  mem := by simp
  obj := fun i h st b hb => by
    obtain ⟨⟨old, he⟩, ⟨oi, ho, hc, hd⟩, _⟩ := st
    have e' : b = e ∨ b = it := by simpa using hb
    rcases e' with rfl | rfl
    · exact ⟨_, he, fun v q => nomatch q⟩
    · exact ⟨oi, ho, fun v q => by rw [hd] at q; cases q⟩
  keep := fun i h h' st k => let ⟨⟨old, he⟩, hi, hne⟩ := st; ⟨⟨old, k e (by simp) _ he⟩, hi.at fun o q => k it (by simp) o q, hne⟩
  item := by
    intro X hP hw hK hc i pins s σ H E I hf st hg
    subst hP hw hK
    obtain ⟨⟨old, he⟩, hit, hne⟩ := st
    obtain ⟨hd, hi⟩ := hg
    obtain ⟨hs, hgd, hx, es', ep', hdt, hsz, ent⟩ := I.frzT hd
    obtain ⟨rfl, rfl⟩ := dict_ep hod hdt
    obtain ⟨⟨k, v⟩, hkv⟩ : ∃ p, kvs[i]? = some p := ⟨kvs[i], List.getElem?_eq_getElem hi⟩
    obtain ⟨en, q, hen, hkey, hq⟩ := ent i k v hkv
    have hel : e < s.heap.objs.size := Heap.lt_size he
    have hil : it < s.heap.objs.size := by obtain ⟨_, q, _⟩ := hit; exact Heap.lt_size q
    have D := drawsKeys (prog := X.prog) (w := X.w) (A := X.A.in1) (it := it) (by rw [show X.A.in1.handled = X.A.handled from rfl]; exact I.ok.hd hc) hdi hdt
    rw [hsz] at D
    refine wpAny_pyNext_enum_itemD D he ⟨hit, hgd⟩ hi hne (by simp [hne, Ne.symm hde]) fun u h' tk hv ho hit' hT hsz' hk => ?_
    obtain ⟨en', hen', rfl⟩ := hv
    obtain rfl : en' = en := by rw [hen] at hen'; exact (Option.some.inj hen').symm
    refine ⟨_, rfl, wpAny_letOwnedTupleGo_enum (s := { s with heap := h', toks := tk + 1 }) ho fun h'' he' sb => ?_⟩
    have hT2 := (sb.2 _ (Nat.ne_of_gt hel)).trans hT
    have new : ObjOk X.prog X.w (upd H s.heap.objs.size (.tup [.int (i : Nat), .ref q])) h'' s.heap.objs.size (.tup [.int (i : Nat), .ref q]) :=
      ⟨by show 2 ≤ sizeLine; decide, _, .cons ⟨_, rfl⟩ (.cons hkey .nil), ⟨_, hT2, rfl, _, rfl⟩⟩
    have I1 : Inv X pins σ (upd H s.heap.objs.size (.tup [.int (i : Nat), .ref q])) { s with heap := h'', toks := tk + 1 } :=
      I.turnedNew (ch := [e, it]) (fun b ob hb q => (sb.2 b (fun z => hb (by simp [z]))).trans (hk b ob (fun z => hb (by simp [z])) (fun z => hb (by simp [z])) q)) hf (Nat.le_refl _) new
    refine ⟨.ref s.heap.objs.size, _, I1, rfl, ⟨_, k, v, q, hkv, rfl, I.hok.fresh (Nat.le_refl _), hq, rfl⟩, ⟨⟨en'.key, ?_⟩, hit'.1.at fun o q => (sb.2 it (Ne.symm hne)).trans q, hne⟩, fun b hb => ?_⟩
    · rw [show ((i + 1 : Nat) : Int) = (i : Int) + 1 by omega]; exact he'
    · have hb' : b < s.heap.objs.size := by
        have e' : b = e ∨ b = it := by simpa using hb
        rcases e' with z | z <;> (rw [z]; assumption)
      rw [upd_ne (Nat.ne_of_lt hb')]; exact (hf b hb).1
  done := by
    intro X hP hw hK hc i pins s σ H E I hf st hg
    subst hP hw hK
    obtain ⟨⟨old, he⟩, hit, hne⟩ := st
    obtain ⟨hd, hi⟩ := hg
    obtain ⟨hs, hgd, hx, es', ep', hdt, hsz, ent⟩ := I.frzT hd
    obtain ⟨rfl, rfl⟩ := dict_ep hod hdt
    obtain ⟨f0, f1, f2, f3, f4, f5⟩ := hf it (by simp)
    have hT : s.TypeIs (.ref e) "enumerate" := ⟨_, he, rfl⟩
    unfold pyNext
    refine wpAny_bind (wpAny_attempt (wpAny_callSpecial?_slot (name := Str.ofString "__next__") hT F.slot_enumerate_next (wpAny_call_entry F.slot_enumerate_next hT F.entry_enumerate_next ?_ (F.args_enumerate_next_1 _)))); show wpAny _ _ (field (.ref e) 2 >>= _) _ _ _
    refine wpAny_bind (wpAny_field he rfl (x := .ref it) rfl ?_)
    refine wpAny_bind (keyNext_end (by rw [show X.A.in1.in1.handled = X.A.handled from rfl]; exact I.ok.hd hc) hit hgd hdt hsz hi fun h' x he' hx' => ?_)
    obtain ⟨o, ho, hcl⟩ := hx'
    refine wpAny_bind (wpAny_isInstance (T := "StopIteration") (b := true) ⟨o, ho, hcl⟩ isSubtype_stop ?_)
    exact wpAny_pure ⟨rfl, I.turned (t' := s.toks) (fun b o hb q => he' b o hb q) f0 f1 f3 f4 f5⟩
  self := fun A i s Q E st h => let ⟨⟨_, he⟩, _⟩ := st; wpAny_pyIter_enum he h
def iEnumD (ta : TA) : TI := fun σ H R => ta σ H fun vs H1 => ∃ d o kvs, vs = [.ref d] ∧ H1 d = some (.frz o (.dT kvs)) ∧ R (IteD d o kvs) H1
theorem pi_enumD {X : Cx} {e : Expr} {ta : TA} {p pos tpos : Pos} {elts : List Expr} {kk : Nat} (hg : Gl X "enumerate") (hm : X.mg "enumerate" = none) (ha : PA X [e] ta) (hs : starEach [e] X.env = [(false, eval e X.env)] := by rfl) :
    PI X (.Tuple elts kk tpos) (.Call (.Name "enumerate" p) [e] [] pos) (iEnumD ta) := by
  refine ⟨fun pins s σ H R I h => ?_⟩
  refine Call_ (ld_blt I hg hm boot_enumerate (PyProof.Rows.callWith_type1 (thn (ha.run pos pins s σ H _ I h) fun us s1 ⟨vs, H1, I1, r1, q1⟩ => ?_) hs rfl))
  obtain ⟨d, o, kvs, ex, hq, q⟩ := q1
  subst ex
  cases r1 with
  | cons r rr =>
    cases rr
    cases r
    obtain ⟨lo, hgd, hx, es, ep, hdt, hsz, ent⟩ := I1.frzT hq
    have hla : d < s1.heap.objs.size := Heap.lt_size hgd
    refine call_enumK lo hx hdt hgd fun h' he hit hsz' hk => wpAny_pyIter_enum he ?_
    have I2 : Inv X pins σ H1 { s1 with heap := h' } := I1.kept (t' := s1.toks) hk
    refine ⟨s1.heap.objs.size + 1, [s1.heap.objs.size + 1, s1.heap.objs.size], _, _, H1, rfl, I2, turn_enumD (s1.heap.objs.size + 1) s1.heap.objs.size (Nat.ne_of_lt (Nat.lt_succ_of_lt hla)) (Nat.ne_of_lt hla) hdt, ⟨⟨.none, he⟩, by rw [← hsz]; exact hit, Nat.succ_ne_self _⟩, fun b hb => ?_, q⟩
    have hle : s1.heap.objs.size ≤ b := by
      have e' : b = s1.heap.objs.size + 1 ∨ b = s1.heap.objs.size := by simpa using hb
      rcases e' with z | z
      · rw [z]; exact Nat.le_add_right _ _
      · rw [z]; exact Nat.le_refl _
    exact I1.fpOk hle (I1.hok.fresh hle)
theorem walk_enumD {d : Addr} {o : Obj} {kvs : List (List Key × V)} : Walk (IteD d o kvs) kvs.length (fun H => H d = some (.frz o (.dT kvs))) (fun i H x H' => ∃ T k v q, kvs[i]? = some (k, v) ∧ x = .ref T ∧ H T = none ∧ H q = some (.tup (k.map kV)) ∧ H' = upd H T (.tup [.int (i : Nat), .ref q])) :=
  ⟨fun i _ hi q => ⟨q, hi⟩, fun _ q => ⟨q, Nat.le_refl _⟩, fun i H v H' _ q y => y⟩
end SL
/-! {k: v for .. in ..}, the keys tuples of ints and texts. -/
namespace SL
open PySem PySem.Spec PyProof.Rows L2
theorem dT_set {X : Cx} {pins : List (Addr × Obj)} {σ : L2.St} {H : Hp} {s : Shared} {E : Value → Shared → Prop} {D b : Addr} {kvs : List (List Key × V)} {k : List Key} {v : V} {r : Value} {Q : Unit → Shared → Prop} (hu : X.A.units < cLine) (I : Inv X pins σ H s) (hD : H D = some (.dT kvs)) (hz : kvs.length < sizeLine)
    (eb : H b = some (.tup (k.map kV))) (rv : RelV v r) (h : ∀ s', Inv X pins σ (upd H D (.dT (putK kvs k v))) s' → Q () s') : wpAny (model X.prog X.w) X.A (dictSet D (.ref b) r) Q E s := by
  obtain ⟨z, hd, xs, rel, dd⟩ := dt_of I.hok hD
  have hx : xs.length ≤ sizeLine := by rw [← Paired.length rel]; exact z
  have lp := length_putK kvs k v
  refine wpAny_dictSet_heap (hsz := hx) (by first | exact tupleKind_room hu | exact hu) (key_of I.hok eb) dd fun h' dd' hs => h _ ?_
  obtain ⟨q, es, ep, hq, h2, h3, h4, _, h5⟩ := dd'
  refine d_write I (by rw [hD]; exact True.intro) hs ⟨q, hq⟩ ⟨by omega, hd, _, (rel.put k eb rv).keeps fun c ys ec => ?_, q, es, ep, hq, h2, h3, h4, h5⟩
  rw [upd_ne (ne_of ec hD (fun z => nomatch z))]; exact ec
/-- the reading: D the new dict, its keys tuples -/
def tDcT (wi : TI) (g : TG) (tt : TT) (tk tv : TE) (vs : List Nat) : TE := fun σ H Q => wi σ H fun J H1 => ∀ D, H1 D = none → ∃ W : Nat → Nat → Hp → Prop, (∃ m, W 0 m (upd H1 D (.dT []))) ∧ ∀ i m H, W i m H →
  (J.stop i H ∧ Q (.ref D) H) ∨ (J.go i H ∧ ∃ Nx : Hp → Prop, (∀ H', Nx H' → ∃ m', m' < m ∧ W (i + 1) m' H') ∧ ∀ x H', J.yld i H x H' → g x (wipe σ vs) H' fun σ2 H2 => wipe σ2 vs = wipe σ vs ∧ tt σ2 H2 fun b H3 =>
    if b = true then tk σ2 H3 fun y H4 => tv σ2 H4 fun z H5 => ∃ kvs k a, y = .ref a ∧ H5 a = some (.tup (k.map kV)) ∧ H5 D = some (.dT kvs) ∧ kvs.length < sizeLine ∧ Nx (upd H5 D (.dT (putK kvs k z))) else Nx H3)
section
variable {X : Cx}
theorem dcT_core {pins : List (Addr × Obj)} {s : Shared} {σ : L2.St} {H : Hp} {Q : VK} (hu : X.A.units + 64 < cLine) {kx vx tg iter : Expr} {ifs : List Expr} {scope : Scope} {own : List (Str × Nat)} {pos pos' : Pos} {wi : TI} {g : TG} {tt : TT} {tk tv : TE} {use : Option (Value → Sem Unit)} {Qf : Value → Shared → Prop}
    (hc : X.calm = true) (hN : X.N.Nodup) (I : Inv X pins σ H s) (hi : PI X tg iter wi) (ok : BlkOk X.N X.env.scope scope own)
    (hg : ∀ (s : Shared) (H : Hp) (C : Addr) (cl : List (Str × Addr)) (fp : List Addr), PG (X.blk s H scope (compEnvC scope cl C X.env) fp) tg g)
    (ht : ∀ (s : Shared) (H : Hp) (C : Addr) (cl : List (Str × Addr)) (fp : List Addr), PTs (X.blk s H scope (compEnvC scope cl C X.env) fp) ifs tt)
    (hk : ∀ (s : Shared) (H : Hp) (C : Addr) (cl : List (Str × Addr)) (fp : List Addr), PE (X.blk s H scope (compEnvC scope cl C X.env) fp) kx tk) (he : ∀ (s : Shared) (H : Hp) (C : Addr) (cl : List (Str × Addr)) (fp : List Addr), PE (X.blk s H scope (compEnvC scope cl C X.env) fp) vx tv)
    (hs : ∀ x, foldedSetIterable iter X.env x = pure x) (h : tDcT wi g tt tk tv (own.map (·.2)) σ H Q)
    (hRR : ∀ D C t m G, Inv X pins σ G t → Q (.ref D) G → t.heap.Ns C m → FpOk X pins G C → compPost (model X.prog X.w) X.A X.xe use Qf (.ref D) C (.ok .next) t) :
    wpAny (model X.prog X.w) X.A (comprehension (.DictComp kx vx [⟨tg, iter, ifs, 0⟩] scope pos) scope X.env pos' newDict false (eval iter X.env) use) Qf X.xe s := by
  have caught : ∀ y ∈ scope.names, y.2 = .free → ∃ c, X.env.cells.lookup y.1 = some c := fun y hy e => (ok.free y hy e).elim (fun k => I.ok.has _ (.inl k)) fun k => I.ok.has _ (.inr k)
  refine wpAny_comprehension_free (use := use) rfl hs (closure_ok caught) ok.kind (fun y hy e => by rw [ok.uniq y hy, e]) (thn (hi.run pins s σ H _ I h) fun _ _ h1 => thn h1 fun _ t h2 => ?_)
  obtain ⟨it, fp, tn, J, G, rfl, IG, T, stG, fG, q⟩ := h2
  refine wpAny_newObj_type (newEnv_comp ?_)
  generalize eD : t.heap.objs.size = D
  have nD : G D = none := IG.hok.fresh (Nat.le_of_eq eD)
  obtain ⟨W, ⟨m0, w0⟩, turn⟩ := q D nD
  generalize et : ({ t with heap := t.heap.push { cls := .type "dict", data := .dict #[] } } : Shared) = t1
  have ht1 : t1.heap = t.heap.push { cls := .type "dict", data := .dict #[] } := by rw [← et]
  have I1 : Inv X pins σ (upd G D (.dT [])) t1 := by rw [← et]; exact IG.laid (t' := t.toks) (fun b o e => Heap.get?_push_of_some _ e) (Nat.le_of_eq eD) (by rw [← eD]; exact dt_empty t.heap IG.big)
  have below : ∀ b ∈ fp, b < t.heap.objs.size := fun b hb => let ⟨o, e, _⟩ := T.obj _ _ stG b hb; Heap.lt_size e
  have f1 : ∀ b ∈ fp, FpOk X pins (upd G D (.dT [])) b ∧ b < t1.heap.objs.size := fun b hb =>
    ⟨⟨by rw [upd_ne (by rw [← eD]; exact Nat.ne_of_lt (below b hb))]; exact (fG b hb).1, (fG b hb).2⟩, by rw [ht1, Heap.size_push]; exact Nat.lt_succ_of_lt (below b hb)⟩
  have st1 : tn 0 t1.heap := T.keep _ _ _ stG fun b _ o e => by rw [ht1]; exact Heap.get?_push_of_some _ e
  have I2 := block_start I1 ok hN f1
  have pg := hg t1 (upd G D (.dT [])) t1.heap.objs.size (cellsFrom (t1.heap.objs.size + 1) scope.names (cloFrom X.env.cells scope.names [])) fp; have pt := ht t1 (upd G D (.dT [])) t1.heap.objs.size (cellsFrom (t1.heap.objs.size + 1) scope.names (cloFrom X.env.cells scope.names [])) fp
  have pk := hk t1 (upd G D (.dT [])) t1.heap.objs.size (cellsFrom (t1.heap.objs.size + 1) scope.names (cloFrom X.env.cells scope.names [])) fp; have pe := he t1 (upd G D (.dT [])) t1.heap.objs.size (cellsFrom (t1.heap.objs.size + 1) scope.names (cloFrom X.env.cells scope.names [])) fp
  suffices loop : codeAny (model X.prog X.w) X.A (.compLoop (.DictComp kx vx [⟨tg, iter, ifs, 0⟩] scope pos) 0 (.ref it) (.ref D) (compEnvC scope (cellsFrom (t1.heap.objs.size + 1) scope.names (cloFrom X.env.cells scope.names [])) t1.heap.objs.size X.env)) (compPost (model X.prog X.w) X.A X.xe use Qf (.ref D) t1.heap.objs.size) { t1 with heap := pushCells (t1.heap.push { cls := .type "dict", data := .dict #[] }) scope.names } from
    codeAny_compStart_dict loop (T.self X.A 0 _ _ _ (T.keep _ _ _ st1 fun b _ o e => pushCells_keeps _ _ _ _ (Heap.get?_push_of_some _ e)) loop)
  have hidden : ∀ b ∈ fp, (upd G D (.dT [])) b = none := fun b hb => (f1 b hb).1.1
  have st2 : tn 0 (pushCells (t1.heap.push { cls := .type "dict", data := .dict #[] }) scope.names) := T.keep _ _ _ st1 fun b _ o e => pushCells_keeps _ _ _ _ (Heap.get?_push_of_some _ e)
  generalize ece : compEnvC scope (cellsFrom (t1.heap.objs.size + 1) scope.names (cloFrom X.env.cells scope.names [])) t1.heap.objs.size X.env = ce at I2 pg pt pk pe ⊢
  have lce : ce.locals = t1.heap.objs.size := by subst ece; rfl
  generalize eG : upd G D (.dT []) = G1 at I1 I2 pg pt pk pe w0 hidden f1
  generalize es2 : ({ t1 with heap := pushCells (t1.heap.push { cls := .type "dict", data := .dict #[] }) scope.names } : Shared) = t2 at I2 ⊢
  have st2 : tn 0 t2.heap := by rw [← es2]; exact st2
  have foot : ∀ {σ' : L2.St} {H' : Hp} {s' : Shared}, Inv (X.blk t1 G1 scope ce fp) [] σ' H' s' → (∀ b ∈ fp, H' b = none) → ∀ b ∈ fp, FpOk (X.blk t1 G1 scope ce fp) [] H' b := fun {σ' H' s'} J' hn b hb =>
    ⟨hn b hb, (J'.ok.exf b hb).1, J'.ok.exfs b hb, .inl hb, fun x c e => (J'.ok.exf b hb).2 x c e, fun p hp => absurd (show p ∈ ([] : List (Addr × Obj)) ++ [] from hp) (by simp)⟩
  refine compLoop_anyD (fun n s' => ∃ i H', Inv (X.blk t1 G1 scope ce fp) [] (wipe σ (own.map (·.2))) H' s' ∧ tn i s'.heap ∧ (∀ b ∈ fp, H' b = none) ∧ W i n H') ?_ m0 ⟨0, G1, I2, st2, hidden, w0⟩
  rintro n t3 ⟨i, G3, I3, st3, n3, w3⟩
  rcases turn i n G3 w3 with ⟨stop, fin⟩ | ⟨go, Nx, dec, step⟩
  · refine thnF (T.done (X.blk t1 G1 scope ce fp) rfl rfl rfl hc i [] t3 _ G3 (fun _ _ => False) I3 (foot I3 n3) st3 stop) fun r t4 ⟨hr, I4⟩ => ?_
    subst hr
    have back : Inv X pins σ G3 t4 := I1.call' (ch := fp) I4.os I4.base I4.hok I4.bare fun b hb => let ⟨⟨_, z2, _, z4, z5, z6⟩, _⟩ := f1 b hb; ⟨z4, z2, z5, z6⟩
    have nL : G3 ce.locals = none := I4.free
    obtain ⟨m, hn, _⟩ := I4.loc
    have hn : t4.heap.Ns ce.locals m := hn
    rw [lce] at nL hn
    exact hRR D t1.heap.objs.size t4 m G3 back fin hn (I1.fpOk (Nat.le_refl _) nL)
  · refine thnF (T.item (X.blk t1 G1 scope ce fp) rfl rfl rfl hc i [] t3 _ G3 (fun _ _ => False) I3 (foot I3 n3) st3 go) fun r t4 ⟨u, hr, h4⟩ => ?_
    subst hr
    refine thnF h4 fun _ t5 ⟨x, G5, I5, r5, y5, st5, n5⟩ => ?_
    have I5p := I5.pinned (foot I5 n5) (T.obj _ _ st5)
    refine thnF (pg.run _ t5 _ G5 x u _ I5p r5 (step x G5 y5)) fun _ t6 ⟨σ6, G6, I6, ew, h6⟩ => thnF (pt.run _ t6 σ6 G6 _ I6 h6) fun b t7 ⟨G7, I7, h7⟩ => ?_
    have again : ∀ {s' : Shared} {H' : Hp}, Inv (X.blk t1 G1 scope ce fp) ([] ++ pinsAt fp t5.heap) σ6 H' s' → Nx H' → ∃ m, m < n ∧ ∃ i H', Inv (X.blk t1 G1 scope ce fp) [] (wipe σ (own.map (·.2))) H' s' ∧ tn i s'.heap ∧ (∀ b ∈ fp, H' b = none) ∧ W i m H' := fun {s' H'} J' nx => by
      obtain ⟨m', lt, w'⟩ := dec H' nx
      have stays : ∀ b ∈ fp, ∀ o, t5.heap.get? b = some o → s'.heap.get? b = some o ∧ H' b = none := fun b hb o e => let z := J'.pin (b, o) (List.mem_append_right _ (List.mem_append_right _ (mem_pinsAt hb e))); ⟨z.1, z.2.1⟩
      refine ⟨m', lt, i + 1, H', (J'.unpinned (pins := [])).weak (by rw [← ew, wipe_length]) (fun j v e => ?_), T.keep _ _ _ st5 fun b hb o e => (stays b hb o e).1, fun b hb => let ⟨o, e, _⟩ := T.obj _ _ st5 b hb; (stays b hb o e).2, w'⟩
      rw [← ew] at e; exact (wipe_some e).1
    cases b with
    | false => exact again I7 h7
    | true =>
      refine thnF (pk.run _ t7 σ6 G7 _ I7 h7) fun _ t8 ⟨yk, G8, I8, r8, h8⟩ => thnF (pe.run _ t8 σ6 G8 _ I8 h8) fun _ t9 ⟨yv, G9, I9, r9, kvs, k, a, ek, ha, hD, hz, nx⟩ => ?_
      subst ek
      cases r8
      exact dT_set (X := X.blk t1 G1 scope ce fp) (by have : (X.blk t1 G1 scope ce fp).A.units = X.A.units := rfl; omega) I9 hD hz ha r9 fun t10 I10 => again I10 nx
theorem pe_dcT (hu : X.A.units + 64 < cLine) {kx vx tg iter : Expr} {ifs : List Expr} {scope : Scope} {own : List (Str × Nat)} {pos : Pos} {wi : TI} {g : TG} {tt : TT} {tk tv : TE} (hc : X.calm = true) (hN : X.N.Nodup) (hi : PI X tg iter wi) (ok : BlkOk X.N X.env.scope scope own)
    (hg : ∀ (s : Shared) (H : Hp) (C : Addr) (cl : List (Str × Addr)) (fp : List Addr), PG (X.blk s H scope (compEnvC scope cl C X.env) fp) tg g)
    (ht : ∀ (s : Shared) (H : Hp) (C : Addr) (cl : List (Str × Addr)) (fp : List Addr), PTs (X.blk s H scope (compEnvC scope cl C X.env) fp) ifs tt)
    (hk : ∀ (s : Shared) (H : Hp) (C : Addr) (cl : List (Str × Addr)) (fp : List Addr), PE (X.blk s H scope (compEnvC scope cl C X.env) fp) kx tk) (he : ∀ (s : Shared) (H : Hp) (C : Addr) (cl : List (Str × Addr)) (fp : List Addr), PE (X.blk s H scope (compEnvC scope cl C X.env) fp) vx tv)
    (hs : ∀ x, foldedSetIterable iter X.env x = pure x := by intro _; rfl) : PE X (.DictComp kx vx [⟨tg, iter, ifs, 0⟩] scope pos) (tDcT wi g tt tk tv (own.map (·.2))) := by
  refine ⟨fun pins s σ H Q I h => ?_⟩
  rw [arm_eval_DictComp]
  refine dcT_core hu hc hN I hi ok hg ht hk he hs h fun D C t m G J q hn f => ⟨m, hn, fun h' sb => ?_⟩
  obtain ⟨f0, g1, _, g3, g4, g5⟩ := f
  exact ⟨.ref D, G, J.turned (t' := t.toks) (fun b o hb e => (sb.2 b hb).trans e) f0 g1 g3 g4 g5, rfl, q⟩
theorem sw_trueD {kx vx : Expr} {gs : List Comprehension} {scope : Scope} {pos py : Pos} {y : Str} {l : Nat} {env : Env} (hk : env.scope.kind = .function) (hy : env.scope.names.lookup y = some .local) (hl : (py.line == pos.line) = true)
    (ha : (scope.names.any fun (n, k) => n == y && (k == .local || k == .cell)) = false) : swapsWith (.DictComp kx vx gs scope pos) (some (.Name y py)) l env = pure true := by
  have ky : env.kindOf y = some .local := hy
  unfold swapsWith; simp only [show env.blockKind = .function from by unfold Env.blockKind; rw [hk]; rfl, ky, ha, Expr.pos, hl]; rfl
/-- as a name's new value -/
theorem ps_setDcT {i : Nat} {y : Str} {py spos : Pos} (hy : X.N[i]? = some y) (hyl : X.env.scope.names.lookup y = some .local) (hu : X.A.units + 64 < cLine) {kx vx tg iter : Expr} {ifs : List Expr} {scope : Scope} {own : List (Str × Nat)} {pos : Pos} {wi : TI} {g : TG} {tt : TT} {tk tv : TE} (hc : X.calm = true) (hN : X.N.Nodup) (hsw : swapsWith (.DictComp kx vx [⟨tg, iter, ifs, 0⟩] scope pos) (some (.Name y py)) spos.line X.env = pure true) (hi : PI X tg iter wi) (ok : BlkOk X.N X.env.scope scope own)
    (hg : ∀ (s : Shared) (H : Hp) (C : Addr) (cl : List (Str × Addr)) (fp : List Addr), PG (X.blk s H scope (compEnvC scope cl C X.env) fp) tg g)
    (ht : ∀ (s : Shared) (H : Hp) (C : Addr) (cl : List (Str × Addr)) (fp : List Addr), PTs (X.blk s H scope (compEnvC scope cl C X.env) fp) ifs tt)
    (hk : ∀ (s : Shared) (H : Hp) (C : Addr) (cl : List (Str × Addr)) (fp : List Addr), PE (X.blk s H scope (compEnvC scope cl C X.env) fp) kx tk) (he : ∀ (s : Shared) (H : Hp) (C : Addr) (cl : List (Str × Addr)) (fp : List Addr), PE (X.blk s H scope (compEnvC scope cl C X.env) fp) vx tv)
    (hs : ∀ x, foldedSetIterable iter X.env x = pure x := by intro _; rfl) : PS X (.Assign [.Name y py] (.DictComp kx vx [⟨tg, iter, ifs, 0⟩] scope pos) spos) (tAsg (tDcT wi g tt tk tv (own.map (·.2))) (gName i)) := by
  refine ⟨fun pins s σ H D I h => ?_⟩
  rw [exec_Assign_Name_used _ _ _ _ hsw]; refine wpAny_bind (wpAny_standAt (wpAny_bind ?_))
  have h : tDcT wi g tt tk tv (own.map (·.2)) σ H (fun x H1 => gName i x σ H1 D.nx) := h
  refine wpAny_bind (thn (dcT_core (Qf := fun _ t => SP X pins D .next t) hu hc hN I hi ok hg ht hk he hs h fun L C t m G J q hn f => ?_) fun _ t hq => wpAny_pure (wpAny_pure hq))
  show wpAny _ _ (assign (.Name y py) X.env (.ref L)) _ _ _; refine wpAny_assign_Name (store_ok2 (v := V.ref L) J hN hy (.inl hyl) rfl (fun s2 I2 ⟨a, sb, ha⟩ => ?_) (.inr hyl))
  obtain ⟨f0, f1, _, f3, f4, f5⟩ := f
  have apart : C ≠ a := ha.elim (fun z => by rw [z]; exact f1) fun z e => f4 y a z e.symm
  exact ⟨m, hn.sameBut sb apart, fun h3 sb3 => ⟨_, G, I2.turned (t' := s2.toks) (fun b o hb e => (sb3.2 b hb).trans e) f0 f1 f3 f4 f5, q⟩⟩
end
end SL
/-! The value layer: dicts by tuples walked, told as lists, made by a comprehension; `in` and index over nested things; list(zip(t, u)); an error class without fields; a def that gets a lambda and makes one. -/
namespace SV
open PySem PySem.Spec PyProof.Rows L2 SL LamX NdefX
section
variable {b : PT} {pp q : Addr} {G H G' H' : Hp}
/-- a tuple that is there may be frozen -/
theorem gr_frzT (w : Vw G H) (p : Pl b pp q G H) {a : Addr} {vs : List V} (e : H a = some (.tup vs)) : ∃ G', Gr b pp q G H G' H ∧ G' a = some (.tup vs) := by
  cases g : G a with
  | some o =>
    rcases w a o g with k | ⟨_, ob, k⟩
    · rw [e] at k
      cases k
      exact ⟨G, Gr.refl w p, g⟩
    · rw [e] at k
      cases k
  | none =>
    refine ⟨upd G a (.tup vs), ⟨⟨same_upd g, fun c o ec => ?_, fun c o _ ec gc => ⟨fun nt => ?_, ec⟩, p.putG (fun x ex => by rw [e] at ex; cases ex; exact fun _ z => nomatch z) (fun z => ?_) (fun z => ?_)⟩, fun c o _ => .inl rfl⟩, upd_same⟩
    · by_cases z : c = a
      · subst z
        rw [upd_same] at ec
        cases ec
        exact .inl e
      · rw [upd_ne z] at ec
        exact w c o ec
    · by_cases z : c = a
      · subst z
        rw [e] at ec
        cases ec
        cases nt
      · rw [upd_ne z]
        exact gc
    · obtain ⟨⟨_, _, _, _, _, k1, _⟩, _⟩ := p.1 z
      exact ne_of k1 e fun z => nomatch z
    · obtain ⟨⟨_, _, _, _, _, _, k2, _⟩, _⟩ := p.1 z
      exact ne_of k2 e fun z => nomatch z
/-! ### keys that are tuples -/
def tKey (k : List Key) : U := .tup (k.map uKey)
def okKey (k : List Key) : Prop := k.length ≤ 100000 ∧ ∀ s : Str, Sum.inr s ∈ k → s.length ≤ 100000
theorem rpL_key : ∀ {k : List Key}, (∀ s : Str, Sum.inr s ∈ k → s.length ≤ 100000) → RpL pp G (k.map kV) (k.map uKey)
  | [], _ => .nil
  | x :: r, h => .cons (Rp.uKey x fun s e => h s (e ▸ List.mem_cons_self)) (rpL_key fun s hs => h s (List.mem_cons_of_mem _ hs))
theorem rp_key {a : Addr} {k : List Key} (ok : okKey k) (e : G a = some (.tup (k.map kV))) : Rp pp G (.ref a) (tKey k) := .tup e (rpL_key ok.2) (by rw [List.length_map]; exact ok.1)
theorem RpT.get : ∀ {kvs : List (List Key × V)} {kus : List (List Key × U)} {i : Nat} {k : List Key} {v : V}, RpT pp G kvs kus → kvs[i]? = some (k, v) → ∃ u, kus[i]? = some (k, u) ∧ Rp pp G v u
  | _, _, _, _, _, .nil, h => by simp at h
  | _, _, 0, _, _, .cons h _, e => by
    cases e
    exact ⟨_, rfl, h⟩
  | _, _, i + 1, _, _, .cons _ t, e => RpT.get t (i := i) e
theorem freezeKeys (w : Vw G H) : ∀ {kvs : List (List Key × V)} {bs : List Addr} {G0 : Hp}, Pl b pp q G0 H → Vw G0 H → IsKeys H kvs bs → (∀ k ∈ keysOf kvs, okKey k) → ∃ G', Gr b pp q G0 H G' H ∧ RpL pp G' (bs.map V.ref) ((keysOf kvs).map tKey)
  | [], [], G0, p, w0, _, _ => ⟨G0, Gr.refl w0 p, .nil⟩
  | [], _ :: _, _, _, _, h, _ => nomatch h
  | _ :: _, [], _, _, _, h, _ => nomatch h
  | (k, v) :: r, a :: bs, G0, p, w0, .cons h t, ok => by
    obtain ⟨G1, g1, e1⟩ := gr_frzT w0 p h
    obtain ⟨G2, g2, k2⟩ := freezeKeys w (kvs := r) (bs := bs) g1.pl g1.vw t fun k hk => ok k (List.mem_cons_of_mem _ hk)
    exact ⟨G2, g1.trans g2, .cons (rp_key (ok k List.mem_cons_self) (g2.gg _ _ e1)) k2⟩
end
section
variable {Z : Zc}
/-! ### a dict by tuples walked -/
def wKeysT (i : Nat) : WA := fun ρ post => ∃ kus, ρ[i]? = some (.fz (.dit kus)) ∧ (∀ k ∈ keysOf kus, okKey k) ∧ post ((keysOf kus).map tKey)
def LockedT (σ : L2.St) (G H : Hp) (i : Nat) : Prop := ∀ d kvs, σ[i]? = some (some (.ref d)) → G d = some (.dT kvs) → ∃ ob, H d = some (.frz ob (.dT kvs))
theorem keysOf_rp {pp : Addr} {G : Hp} : ∀ {kvs : List (List Key × V)} {kus : List (List Key × U)}, RpT pp G kvs kus → keysOf kvs = keysOf kus
  | _, _, .nil => rfl
  | _, _, .cons _ t => congrArg (_ :: ·) (keysOf_rp t)
theorem i_keysT_at {i : Nat} {σ : L2.St} {ρ : List Cell} {G H : Hp} (S : Sv Z σ ρ G H) (lk : LockedT σ G H i) : TrIat Z σ ρ G H (iKeys (tVar i)) (wKeysT i) := fun post R hw q => by
  obtain ⟨kus, e, hs, p⟩ := hw
  obtain ⟨v, e1, r⟩ := S.fz i _ e
  cases r with
  | @dit d kvs _ hd k z =>
    obtain ⟨ob, hl⟩ := lk d kvs e1 hd
    refine ⟨_, e1, d, ob, rfl, .inr ⟨kvs, hl, q _ _ _ _ _ G H p (Gr.refl S.vw S.pl) (by rw [List.length_map]; unfold keysOf; rw [List.length_map, k.length]) (by rw [k.length]; exact z) walk_keysT (fun G' H' x _ => ex_locked hd hl x) fun j x G' H' H'' hj x' w' pl y => ?_⟩⟩
    obtain ⟨rfl, kk, vv, a, ek, rfl, ea⟩ := y
    obtain ⟨u, eu, _⟩ := k.get ek
    have ej : (keysOf kus)[j]? = some kk := by unfold keysOf; rw [List.getElem?_map, eu]; rfl
    obtain ⟨G1, g1, e1⟩ := gr_frzT w' pl ea
    exact ⟨tKey kk, G1, by rw [List.getElem?_map, ej]; rfl, g1, rp_key (hs kk (List.mem_of_getElem? ej)) e1⟩
/-- an expression that walks the dict in slot i, which is locked -/
def TrFL (Z : Zc) (i : Nat) (t : TE) (w : WE) : Prop := ∀ σ ρ G H (post : U → Prop) (Q : VK), Sv Z σ ρ G H → LockedT σ G H i → w ρ post → (∀ p o u G' H', post u → Z.gr G H G' H' → H p = none → G' p = none → H' p = some o → Ow Z.pp G' o u → Q (.ref p) H') → t σ H Q
theorem lock_S {t : TS} {w : WS} {i : Nat} (hd : ∀ V ρ, w V ρ → ∃ kus, ρ[i]? = some (.fz (.dit kus))) (run : ∀ V D σ ρ G H, Sv Z σ ρ G H → LockedT σ G H i → w V ρ → Br Z V D G H → t D σ H) : TrS Z (tLockU t) w := fun V D σ ρ G H S hw B => by
  obtain ⟨kus, e⟩ := hd _ _ hw
  obtain ⟨v, e1, r⟩ := S.fz i _ e
  cases r with
  | @dit d kvs _ hd k z =>
    rcases S.vw d _ hd with h | ⟨_, ob, h⟩
    · refine .inl ⟨d, .dT kvs, h, trivial, fun od => ?_⟩
      have SL := S.lock (od := od) hd rfl h
      refine run V _ σ ρ G _ SL (fun d' kvs' e2 hd' => ?_) hw ⟨fun σ' ρ' G' H' S' x p => ?_, fun v u G' H' g' x r p => ?_, fun σ' ρ' G' H' S' x p => ?_, fun σ' ρ' G' H' S' x p => ?_⟩
      · rw [e1] at e2
        cases e2
        rw [hd] at hd'
        cases hd'
        exact ⟨od, upd_same⟩
      · obtain ⟨hl, x'⟩ := ex_unlock hd h x
        exact ⟨hl, B.nx σ' ρ' G' _ (Sv.unlock S S' (x.gg _ _ hd) hd rfl h) x' p⟩
      · obtain ⟨hl, x'⟩ := ex_unlock hd h x
        exact ⟨hl, B.rt v u G' _ (gr_unlock S.gr g' (x.gg _ _ hd) hd rfl h) x' r p⟩
      · obtain ⟨hl, x'⟩ := ex_unlock hd h x
        exact ⟨hl, B.bk σ' ρ' G' _ (Sv.unlock S S' (x.gg _ _ hd) hd rfl h) x' p⟩
      · obtain ⟨hl, x'⟩ := ex_unlock hd h x
        exact ⟨hl, B.ct σ' ρ' G' _ (Sv.unlock S S' (x.gg _ _ hd) hd rfl h) x' p⟩
    · refine .inr (run V D σ ρ G H S (fun d' kvs' e2 hd' => ?_) hw B)
      rw [e1] at e2
      cases e2
      rw [hd] at hd'
      cases hd'
      exact ⟨ob, h⟩
theorem lock_T {t : TE} {w : WE} {i : Nat} (hd : ∀ ρ post, w ρ post → ∃ kus, ρ[i]? = some (.fz (.dit kus)))
    (run : TrFL Z i t w) : TrF Z (tLockEU t) w := fun σ ρ G H post Q S hw q => by
  obtain ⟨kus, e⟩ := hd _ _ hw
  obtain ⟨v, e1, r⟩ := S.fz i _ e
  cases r with
  | @dit d kvs _ hd k z =>
    rcases S.vw d _ hd with h | ⟨_, ob, h⟩
    · refine .inl ⟨d, .dT kvs, h, trivial, fun od => ?_⟩
      have SL := S.lock (od := od) hd rfl h
      refine run σ ρ G _ post _ SL (fun d' kvs' e2 hd' => ?_) hw fun p o u G' H' pu g' np gp hp ho => ?_
      · rw [e1] at e2
        cases e2
        rw [hd] at hd'
        cases hd'
        exact ⟨od, upd_same⟩
      · obtain ⟨hl, x'⟩ := ex_unlock hd h g'.ex
        have hd' := g'.gg _ _ hd
        have nd : p ≠ d := fun z => by rw [z, hd'] at gp; cases gp
        refine ⟨hl, q p o u G' _ pu (gr_unlock (Gr.refl S.vw S.pl) ⟨⟨g'.gg, g'.vw, fun a o' n ea ga => ?_, g'.pl⟩, fun a o' ea => ?_⟩ hd' hd rfl h) (by rw [upd_ne nd] at np; exact np) gp (by rw [upd_ne nd]; exact hp) ho⟩
        · have na : a ≠ d := fun z => by rw [z, hd] at ga; cases ga
          exact g'.fr0 a o' n (by rw [upd_ne na]; exact ea) ga
        · by_cases c : a = d
          · subst c
            rw [hd] at ea
            cases ea
            exact .inr ⟨h, rfl, od, hl⟩
          · have := g'.ge a o' ea
            unfold Lk at this ⊢
            rw [upd_ne c] at this
            exact this
    · refine run σ ρ G H post Q S (fun d' kvs' e2 hd' => ?_) hw q |> .inr
      rw [e1] at e2
      cases e2
      rw [hd] at hd'
      cases hd'
      exact ⟨ob, h⟩
/-- .. as a name's new value -/
theorem s_setL {te : TE} {we : WE} {i j : Nat} (hd : ∀ ρ post, we ρ post → ∃ kus, ρ[i]? = some (.fz (.dit kus))) (h : TrFL Z i te we) (hi : Z.may j := by exact Zc.may_of (by assumption) (by decide)) : TrS Z (tLockU (tAsg te (gName j))) (wSet j we) :=
  lock_S (i := i) (fun V ρ hw => hd ρ _ hw) fun V D σ ρ G H S lk hw B => h σ ρ G H _ _ S lk hw fun p o u G1 H1 pu g np gp hp ho => by
    have g1 := g.freeze np gp hp S.pl
    exact B.nx _ _ _ H1 ((S.step g1).set hi (ho.rp gp)) g1.ex pu
theorem l_lcKeysT {i : Nat} {g : TG} {tt : TT} {te : TE} {wg : WG} {wt : WT} {we : WE} {vs : List Nat} (hg : TrG Z g wg vs) (ht : TrT Z tt wt) (he : TrE Z te we) (h0 : ∀ v ∈ vs, Z.may v := by exact Zc.mayL_of (by assumption) (by decide)) : TrFL Z i (tLc (iKeys (tVar i)) g tt te vs) (wLc (wKeysT i) wg wt we vs) :=
  fun σ ρ G H post Q S lk hw q => lc_at hg ht he h0 S (i_keysT_at S lk) hw q
theorem d_keysT {i : Nat} {wg : WG} {wt : WT} {we : WE} {vs : List Nat} : ∀ ρ post, wLc (wKeysT i) wg wt we vs ρ post → ∃ kus, ρ[i]? = some (.fz (.dit kus)) := fun _ _ ⟨kus, e, _⟩ => ⟨kus, e⟩
theorem v_lcKeysT {i : Nat} {g : TG} {tt : TT} {te : TE} {wg : WG} {wt : WT} {we : WE} {vs : List Nat} (hg : TrG Z g wg vs) (ht : TrT Z tt wt) (he : TrE Z te we) (h0 : ∀ v ∈ vs, Z.may v := by exact Zc.mayL_of (by assumption) (by decide)) : TrF Z (tLockEU (tLc (iKeys (tVar i)) g tt te vs)) (wLc (wKeysT i) wg wt we vs) := lock_T d_keysT (l_lcKeysT hg ht he h0)
theorem s_keysT {i : Nat} {g : TG} {tb : TS} {wg : WG} {wb : WS} {vs : List Nat} (hg : TrG Z g wg vs) (hb : TrS Z tb wb) : TrS Z (tLockU (tFor (iKeys (tVar i)) g tb)) (wFor (wKeysT i) wg wb) := fun V D σ ρ G H S hw B => by
  have hw' := hw
  obtain ⟨kus, e, _⟩ := hw
  obtain ⟨v, e1, r⟩ := S.fz i _ e
  cases r with
  | @dit d kvs _ hd k z =>
    rcases S.vw d _ hd with h | ⟨_, ob, h⟩
    · refine .inl ⟨d, .dT kvs, h, trivial, fun od => ?_⟩
      have SL := S.lock (od := od) hd rfl h
      refine for_at hg hb SL (i_keysT_at SL fun d' kvs' e2 hd' => ?_) hw' ⟨fun σ' ρ' G' H' S' x p => ?_, fun v u G' H' g' x r p => ?_, fun σ' ρ' G' H' S' x p => ?_, fun σ' ρ' G' H' S' x p => ?_⟩
      · rw [e1] at e2
        cases e2
        rw [hd] at hd'
        cases hd'
        exact ⟨od, upd_same⟩
      · obtain ⟨hl, x'⟩ := ex_unlock hd h x
        exact ⟨hl, B.nx σ' ρ' G' _ (Sv.unlock S S' (x.gg _ _ hd) hd rfl h) x' p⟩
      · obtain ⟨hl, x'⟩ := ex_unlock hd h x
        exact ⟨hl, B.rt v u G' _ (gr_unlock S.gr g' (x.gg _ _ hd) hd rfl h) x' r p⟩
      · obtain ⟨hl, x'⟩ := ex_unlock hd h x
        exact ⟨hl, B.bk σ' ρ' G' _ (Sv.unlock S S' (x.gg _ _ hd) hd rfl h) x' p⟩
      · obtain ⟨hl, x'⟩ := ex_unlock hd h x
        exact ⟨hl, B.ct σ' ρ' G' _ (Sv.unlock S S' (x.gg _ _ hd) hd rfl h) x' p⟩
    · refine .inr (for_at hg hb S (i_keysT_at S fun d' kvs' e2 hd' => ?_) hw' B)
      rw [e1] at e2
      cases e2
      rw [hd] at hd'
      cases hd'
      exact ⟨ob, h⟩
/-! ### enumerate of such a dict -/
def wEnumD (i : Nat) : WA := fun ρ post => ∃ kus, ρ[i]? = some (.fz (.dit kus)) ∧ (∀ k ∈ keysOf kus, okKey k) ∧ post (numd ((keysOf kus).map tKey) 0)
theorem i_enumD_at {i : Nat} {σ : L2.St} {ρ : List Cell} {G H : Hp} (S : Sv Z σ ρ G H) (lk : LockedT σ G H i) : TrIat Z σ ρ G H (iEnumD (tCons (tVar i) tNil)) (wEnumD i) := fun post R hw q => by
  obtain ⟨kus, e, hs, p⟩ := hw
  obtain ⟨v, e1, r⟩ := S.fz i _ e
  cases r with
  | @dit d kvs _ hd k z =>
    obtain ⟨ob, hl⟩ := lk d kvs e1 hd
    refine ⟨_, e1, d, ob, kvs, rfl, hl, q _ _ _ _ _ G H p (Gr.refl S.vw S.pl) (by rw [numd_len, List.length_map]; unfold keysOf; rw [List.length_map, k.length]) (by rw [k.length]; exact z) walk_enumD (fun G' H' x _ => ex_locked hd hl x) fun j x G' H' H'' hj x' w' pl y => ?_⟩
    obtain ⟨T, kk, vv, a, ek, rfl, nT, ea, rfl⟩ := y
    obtain ⟨u, eu, _⟩ := k.get ek
    have ej : ((keysOf kus).map tKey)[j]? = some (tKey kk) := by rw [List.getElem?_map]; unfold keysOf; rw [List.getElem?_map, eu]; rfl
    have mk : kk ∈ keysOf kus := by
      unfold keysOf
      exact List.mem_map.mpr ⟨_, List.mem_of_getElem? eu, rfl⟩
    obtain ⟨G1, g1, e1⟩ := gr_frzT w' pl ea
    obtain ⟨G2, g2, r2⟩ := pair_new (x := .int (j : Int)) (c := .int (j : Int)) g1.vw g1.pl nT (.int _) (rp_key (hs kk mk) e1)
    exact ⟨_, _, by rw [numd_get (k := 0) ej, Nat.zero_add], g1.trans g2, r2⟩
/-! ### {k: v for ..}, the keys tuples -/
def wDcT (wi : WA) (wg : WG) (wt : WT) (wk wv : WE) (vs : List Nat) : WE := fun ρ post => wi ρ fun us => ∃ Iv : Nat → List (List Key × U) → Prop, Iv 0 [] ∧
  (∀ (i : Nat) u acc, us[i]? = some u → Iv i acc → wg u (wipeR ρ vs) fun ρ2 => wt ρ2 fun c => if c = true then wk ρ2 fun y => wv ρ2 fun z => ∃ k, y = tKey k ∧ Iv (i + 1) (putU acc k z) else Iv (i + 1) acc) ∧ ∀ acc, Iv us.length acc → post (.dit acc)
theorem key_back {pp : Addr} {G : Hp} : ∀ {k : List Key} {vs : List V}, RpL pp G vs (k.map uKey) → vs = k.map kV
  | [], _, .nil => rfl
  | x :: r, _, .cons h t => by
    have e : (x :: r).map kV = kV x :: r.map kV := rfl
    rw [e, ← key_back t]
    congr 1
    cases x with
    | inl n => cases h; rfl
    | inr n => cases h; rfl
theorem dcT_it {J : It} {n : Nat} {Gd : Hp → Prop} {Y : Nat → Hp → V → Hp → Prop} {g : TG} {tt : TT} {tk tv : TE} {vs : List Nat} {σ : L2.St} {H1 : Hp} {D : Addr} {Qd : Hp → Prop} (wk : Walk J n Gd Y) (Pv : Nat → Hp → Prop) (h0 : Pv 0 (upd H1 D (.dT []))) (hl : ∀ i H, i ≤ n → Pv i H → Gd H)
    (hs : ∀ i x H H', i < n → Pv i H → Y i H x H' → g x (wipe σ vs) H' fun σ2 H2 => wipe σ2 vs = wipe σ vs ∧ tt σ2 H2 fun b H3 => if b = true then tk σ2 H3 fun y H4 => tv σ2 H4 fun z H5 => ∃ kvs k a, y = .ref a ∧ H5 a = some (.tup (k.map kV)) ∧ H5 D = some (.dT kvs) ∧ kvs.length < sizeLine ∧ Pv (i + 1) (upd H5 D (.dT (putK kvs k z))) else Pv (i + 1) H3)
    (hd : ∀ H, Pv n H → Qd H) : ∃ W : Nat → Nat → Hp → Prop, (∃ m, W 0 m (upd H1 D (.dT []))) ∧ ∀ i m H, W i m H → (J.stop i H ∧ Qd H) ∨ (J.go i H ∧ ∃ Nx : Hp → Prop, (∀ H', Nx H' → ∃ m', m' < m ∧ W (i + 1) m' H') ∧ ∀ x H', J.yld i H x H' → g x (wipe σ vs) H' fun σ2 H2 => wipe σ2 vs = wipe σ vs ∧ tt σ2 H2 fun b H3 =>
        if b = true then tk σ2 H3 fun y H4 => tv σ2 H4 fun z H5 => ∃ kvs k a, y = .ref a ∧ H5 a = some (.tup (k.map kV)) ∧ H5 D = some (.dT kvs) ∧ kvs.length < sizeLine ∧ Nx (upd H5 D (.dT (putK kvs k z))) else Nx H3) := by
  refine ⟨fun i m H => m = n - i ∧ i ≤ n ∧ Pv i H, ⟨n, by simp, Nat.zero_le _, h0⟩, ?_⟩
  rintro i m H ⟨rfl, hi, p⟩
  by_cases hlt : i < n
  · exact .inr ⟨wk.goes i H hlt (hl i H hi p), Pv (i + 1), fun H' p' => ⟨n - (i + 1), by omega, rfl, hlt, p'⟩, fun x H' y => hs i x H H' hlt p (wk.yields i H x H' hlt (hl i H hi p) y)⟩
  · obtain rfl : i = n := by omega
    exact .inl ⟨wk.stops H (hl _ H hi p), hd H p⟩
theorem dcT_at {ti : TI} {g : TG} {tt : TT} {tk tv : TE} {wi : WA} {wg : WG} {wt : WT} {wk wv : WE} {vs : List Nat} (hg : TrG Z g wg vs) (ht : TrT Z tt wt) (hk : TrE Z tk wk) (he : TrE Z tv wv) (h0 : ∀ v ∈ vs, Z.may v) {σ : L2.St} {ρ : List Cell} {G H : Hp} {post : U → Prop} {Q : VK} (S : Sv Z σ ρ G H) (hi : TrIat Z σ ρ G H ti wi) (hw : wDcT wi wg wt wk wv vs ρ post)
    (q : ∀ p o u G' H', post u → Z.gr G H G' H' → H p = none → G' p = none → H' p = some o → Ow Z.pp G' o u → Q (.ref p) H') : tDcT ti g tt tk tv vs σ H Q :=
  hi _ _ hw fun J n Gd Y us G1 H1 p g1 hl hz wk' hG hY D nD => by
    obtain ⟨Iv, i0, is, ie⟩ := p
    have S1 := S.step g1
    have gN := Gr.newH (b := Z.b) (o := .dT []) S1.vw S1.pl nD
    refine dcT_it wk' (fun i H' => ∃ G' acc us', Z.gr G1 H1 G' H' ∧ H' D = some (.dT acc) ∧ G' D = none ∧ RpT Z.pp G' acc us' ∧ us'.length ≤ i ∧ Iv i us') ⟨G1, [], [], gN, upd_same, S1.vw.free nD, .nil, Nat.zero_le _, i0⟩ (fun i H' _ ⟨G', acc, us', g', _⟩ => hG G' H' g'.ex g'.vw) (fun i x H' H'' hlt ⟨G', acc, us', g', eD, gD, kA, lA, iv⟩ y => ?_) (fun H' ⟨G', acc, us', g', eD, gD, kA, lA, iv⟩ => ?_)
    · have S' := S1.step g'
      obtain ⟨u, G'', eu, g2, r⟩ := hY i x G' H' H'' hlt g'.ex S'.vw S'.pl y
      have Sw := (S'.step g2).wipe vs h0
      have nDp : Off Z.b Z.pp D := off_none S1.pl nD
      refine hg x u _ _ G'' H'' _ _ Sw r (is i u us' eu iv) fun σ2 ρ2 S3 ew p2 => ⟨ew.trans ?_, ?_⟩
      · refine List.ext_getElem? fun j => ?_
        rw [wipe_at, wipe_at, wipe_length]
        by_cases m : j ∈ vs
        · rw [if_pos m, if_pos m]
        · rw [if_neg m, if_neg m]
      refine ht σ2 ρ2 G'' H'' _ _ S3 p2 fun c G3 H3 p3 g3 => ?_
      obtain ⟨gD2, eD2⟩ := g2.fr D _ nDp eD gD rfl
      obtain ⟨gD3, eD3⟩ := g3.fr D _ nDp eD2 gD2 rfl
      cases c with
      | false => exact iteF ⟨G3, acc, us', (g'.trans g2).trans g3, eD3, gD3, (kA.same g2.gg).same g3.gg, Nat.le_succ_of_le lA, p3⟩
      | true =>
        refine iteT (hk σ2 ρ2 G3 H3 _ _ (S3.step g3) p3 fun kv ky G4 H4 p4 g4 r4 => he σ2 ρ2 G4 H4 _ _ ((S3.step g3).step g4) p4 fun v yv G5 H5 p5 g5 r5 => ?_)
        obtain ⟨k, rfl, p6⟩ := p5
        obtain ⟨gD4, eD4⟩ := g4.fr D _ nDp eD3 gD3 rfl
        obtain ⟨gD5, eD5⟩ := g5.fr D _ nDp eD4 gD4 rfl
        have kA5 := (((kA.same g2.gg).same g3.gg).same g4.gg).same g5.gg
        have lk : acc.length = us'.length := kA5.length
        have r4' := r4.same g5.gg
        unfold tKey at r4'
        cases r4' with
        | @tup ak vsk _ hk' kk _ =>
          cases key_back kk
          exact ⟨acc, k, ak, rfl, g5.vw.tup hk', eD5, lineN (by omega), G5, putK acc k v, putU us' k yv, gr_own ((((g'.trans g2).trans g3).trans g4).trans g5) S1.vw S1.pl nD gD5 _ (.inr fun x ex => (by rw [eD5] at ex; cases ex; exact ⟨(fun _ z => nomatch z), (fun _ z => nomatch z)⟩)), upd_same, gD5, kA5.put r5, Nat.le_trans (putU_len _ _ _) (Nat.succ_le_succ lA), p6⟩
    · rw [← hl] at iv
      exact q D _ _ G' H' (ie us' iv) (g1.trans g') (free_back S g1 nD) gD eD (.dit kA (Nat.le_trans lA (by omega)))
theorem v_dcT {ti : TI} {g : TG} {tt : TT} {tk tv : TE} {wi : WA} {wg : WG} {wt : WT} {wk wv : WE} {vs : List Nat} (hi : TrI Z ti wi) (hg : TrG Z g wg vs) (ht : TrT Z tt wt) (hk : TrE Z tk wk) (he : TrE Z tv wv) (h0 : ∀ v ∈ vs, Z.may v := by exact Zc.mayL_of (by assumption) (by decide)) : TrF Z (tDcT ti g tt tk tv vs) (wDcT wi wg wt wk wv vs) :=
  fun σ ρ G H post Q S hw q => dcT_at hg ht hk he h0 S (hi σ ρ G H S) hw q
/-- .. over enumerate(a dict by tuples) -/
theorem l_dcEnumD {i : Nat} {g : TG} {tt : TT} {tk tv : TE} {wg : WG} {wt : WT} {wk wv : WE} {vs : List Nat} (hg : TrG Z g wg vs) (ht : TrT Z tt wt) (hk : TrE Z tk wk) (he : TrE Z tv wv) (h0 : ∀ v ∈ vs, Z.may v := by exact Zc.mayL_of (by assumption) (by decide)) : TrFL Z i (tDcT (iEnumD (tCons (tVar i) tNil)) g tt tk tv vs) (wDcT (wEnumD i) wg wt wk wv vs) :=
  fun σ ρ G H post Q S lk hw q => dcT_at hg ht hk he h0 S (i_enumD_at S lk) hw q
theorem d_enumD {i : Nat} {wg : WG} {wt : WT} {wk wv : WE} {vs : List Nat} : ∀ ρ post, wDcT (wEnumD i) wg wt wk wv vs ρ post → ∃ kus, ρ[i]? = some (.fz (.dit kus)) := fun _ _ ⟨kus, e, _⟩ => ⟨kus, e⟩
/-! ### list(d), len(d) -/
def rListDT : List V → Hp → VK → Prop := fun xs H Q => ∃ d kvs, xs = [V.ref d] ∧ Rd H d (.dT kvs) ∧ ∀ p bs, H p = none → IsKeys H kvs bs → Q (.ref p) (upd H p (.lst (bs.map V.ref)))
def wListD (wA : WA) : WE := fun ρ post => wA ρ fun us => ∃ kus, us = [.dit kus] ∧ (∀ k ∈ keysOf kus, okKey k) ∧ post (.lst ((keysOf kus).map tKey))
theorem v_listD {tA : TA} {wA : WA} (h : TrAB Z tA wA) : TrF Z (tCB rListDT tA) (wListD wA) := fun σ ρ G H post Q S hw q => h σ ρ G H _ _ S hw fun vs us G1 H1 w1 g1 h1 => by
  obtain ⟨kus, rfl, ok, hp⟩ := w1
  cases h1 with
  | cons r t =>
    cases t
    cases r with
    | @dit a kvs _ hd k z =>
      have S1 := S.step g1
      refine ⟨a, kvs, rfl, hd, fun p bs np hk => ?_⟩
      obtain ⟨G2, g2, r2⟩ := freezeKeys (G := G1) S1.vw S1.pl S1.vw hk (by rw [keysOf_rp k]; exact ok)
      rw [keysOf_rp k] at r2
      have z2 : ((keysOf kus).map tKey).length ≤ 100000 := by rw [List.length_map]; unfold keysOf; rw [List.length_map]; exact z
      exact q p _ _ G2 _ hp ((g1.trans g2).trans (Gr.newH g2.vw g2.pl np)) (free_back S g1 np) (g2.vw.free np) upd_same (.lst r2 z2)
end
def rLenW (K : PySem.W.Frag) : List V → Hp → VK → Prop := fun xs H Q => rLenV K xs H Q ∨ ∃ a kvs, xs = [V.ref a] ∧ Rd H a (.dT kvs) ∧ Q (.int kvs.length) H
theorem call_lenDTR {X : Cx} : CallR X (.builtin "len") (fun xs H Q => ∃ a kvs, xs = [V.ref a] ∧ Rd H a (.dT kvs) ∧ Q (.int kvs.length) H) := by
  intro pins s σ H xs us Q I r h
  obtain ⟨p, kvs, rfl, hp, q⟩ := h
  obtain ⟨u, rfl, rx⟩ := vals1 r
  obtain rfl : u = .ref p := rx
  obtain ⟨z, hd, ys, rel, dd⟩ := dt_rd I.hok hp
  have hl : kvs.length = ys.length := Paired.length rel
  refine call_len_dictH hd dd (by rw [← hl]; rw [sizeLine_eq] at z; omega) ?_
  rw [← hl]
  exact ⟨.int ((kvs.length : Nat) : Int), H, I.tok _, ⟨_, rfl⟩, q⟩
theorem call_lenW {X : Cx} (K : PySem.W.Frag) (h : X.K = K := by rfl) : CallR X (.builtin "len") (rLenW K) := by subst h; exact CallR.or (call_lenV X.K) call_lenDTR
def bLenW : FB := fun us post => bLen us post ∨ ∃ kus, us = [.dit kus] ∧ post (.int (kus.length : Nat))
theorem b_lenW {K : PySem.W.Frag} : CallOk (rLenW K) bLenW := by
  intro b pp q G H vs us Q post w p hv hF k
  rcases hF with hF | ⟨kus, rfl, hp⟩
  · exact .inl (b_len b pp q G H vs us Q post w p hv hF k)
  · cases hv with
    | cons r t =>
      cases t
      cases r with
      | @dit a kvs _ h kk z =>
        refine .inr ⟨a, kvs, rfl, h, ?_⟩
        rw [kk.length]
        exact k _ _ G H hp (Gr.refl w p) (.int _)
/-! ### `in` and index over nested things -/
def inD (neg : Bool) (x : U) (us : List U) : Option U := match toPy x, toPys us with
  | some d, some ds => if SeqAt.shaped d && SeqAt.shaped (.list ds) then some (.bl (let c := ds.any fun z => PyData.eqv z d; if neg then !c else c)) else none
  | _, _ => none
def fInD (neg : Bool) : U → U → Option U := fun x y => match y with
  | .lst us => inD neg x us
  | _ => none
def rInDV (K : PySem.W.Frag) (neg : Bool) : R2 := if neg then rNotInD K else rInD K
theorem op_inDV {X : Cx} (K : PySem.W.Frag) (hu : X.A.units + 128 < cLine) (h : X.K = K := by rfl) : OpR X (compareOp .In) (rInDV K false) := by subst h; exact op_inD (by omega)
theorem op_notInDV {X : Cx} (K : PySem.W.Frag) (hu : X.A.units + 128 < cLine) (h : X.K = K := by rfl) : OpR X (compareOp .NotIn) (rInDV K true) := by subst h; exact op_notInD (by omega)
theorem o_inD {K : PySem.W.Frag} {neg : Bool} : OpOk (rInDV K neg) (fInD neg) := by
  intro b pp q G H v1 v2 x y u Q w p h1 h2 e k
  unfold fInD at e
  split at e
  · rename_i us
    unfold inD at e
    split at e
    · rename_i d ds e1 e2
      split at e
      · rename_i sh
        obtain ⟨s1, s2⟩ := Bool.and_eq_true_iff.mp sh
        cases e
        have dy : Dp K H v2 (.list ds) := h2.dp w (by unfold toPy; rw [e2]; rfl)
        cases neg with
        | true => exact ⟨d, ds, h1.dp w e1, dy, s1, s2, k _ G H (Gr.refl w p) (.bl _)⟩
        | false => exact ⟨d, ds, h1.dp w e1, dy, s1, s2, k _ G H (Gr.refl w p) (.bl _)⟩
      · cases e
    · cases e
  · cases e
end SV
/-! The value layer: index over nested things, list(zip(t, u)), an error class without fields, a def that gets a lambda and makes one. -/
namespace SV
open PySem PySem.Spec PyProof.Rows L2 SL LamX NdefX
section
variable {Z : Zc} {to te : TE} {wo we : WE}
/-- xs.index(e), of things of any depth -/
def wIndexD (wo we : WE) : WE := fun ρ post => wo ρ fun x => ∃ us ds, x = .lst us ∧ toPys us = some ds ∧ SeqAt.shaped (.list ds) = true ∧ we ρ fun y => ∃ (d : PyData) (j : Nat) (z : PyData), toPy y = some d ∧ SeqAt.shaped d = true ∧ ds[j]? = some z ∧ PyData.eqv z d = true ∧ (∀ (m : Nat) (z' : PyData), m < j → ds[m]? = some z' → PyData.eqv z' d = false) ∧ post (.int (j : Nat))
theorem v_indexD {K : PySem.W.Frag} (ho : TrB Z to wo) (he : TrE Z te we) : TrE Z (tBM K "list" (rIndexD K) to (tCons te tNil)) (wIndexD wo we) := fun σ ρ G H post Q S hw q =>
  ho σ ρ G H _ _ S hw fun v x G1 H1 w1 g1 r1 => by
    obtain ⟨us, ds, rfl, fe, sh, w1⟩ := w1
    have S1 := S.step g1
    have r1' := r1
    cases r1 with
    | @lst a vs' _ h k zz =>
      refine ⟨.inl ⟨rfl, _, SqL.of h⟩, he σ ρ G1 H1 _ _ S1 w1 fun u y G2 H2 w2 g2 r2 => ?_⟩
      obtain ⟨d, j, z, f2, sd, e1, e2, e3, p⟩ := w2
      have S2 := S1.step g2
      have r3 := r1'.step g2 S1.vw S1.pl
      exact ⟨a, u, d, ds, j, z, rfl, rfl, r3.dp S2.vw (by unfold toPy; rw [fe]; rfl), r2.dp S2.vw f2, sh, sd, e1, e2, e3, q _ _ G2 H2 p (g1.trans g2) (.int _)⟩
theorem mt_indexDK {X : Cx} (K : PySem.W.Frag) (hu : X.A.units + 128 < cLine) (h : X.K = K := by rfl) : MtR X "list.index" (rIndexD K) := by subst h; exact mt_indexD (by omega)
theorem room128 {k : Nat} {A : Around} (r : Room k A) : A.units + 128 < cLine := by have := r.un; omega
/-! ### list(zip(t, u)) -/
def wListZip (wA : WA) : WE := fun ρ post => wA ρ fun us => ∃ xs ys : List U, us = [.tup xs, .tup ys] ∧ xs.length = ys.length ∧ post (.lst (zipU xs ys))
theorem zip_rp {pp : Addr} {G : Hp} : ∀ {vs ws : List V} {xs ys : List U} {ps : List V}, RpL pp G vs xs → RpL pp G ws ys → Paired (fun p (c : List V) => ∃ a, p = V.ref a ∧ G a = some (.tup c)) ps ((vs.zip ws).map fun p => [p.1, p.2]) → RpL pp G ps (zipU xs ys)
  | _, _, _, _, _, .nil, _, h => by
    cases h
    exact .nil
  | _, _, _, _, _, .cons _ _, .nil, h => by
    cases h
    exact .nil
  | _, _, _, _, _, .cons h1 t1, .cons h2 t2, h => by
    cases h with
    | cons h t =>
      obtain ⟨a, rfl, e⟩ := h
      exact .cons (.tup e (.cons h1 (.cons h2 .nil)) (by show 2 ≤ 100000; decide)) (zip_rp t1 t2 t)
theorem paired_imp {α β : Type} {F F' : α → β → Prop} (f : ∀ x y, F x y → F' x y) : ∀ {xs : List α} {ys : List β}, Paired F xs ys → Paired F' xs ys
  | _, _, .nil => .nil
  | _, _, .cons h t => .cons (f _ _ h) (paired_imp f t)
theorem paired_mem {α β : Type} {F : α → β → Prop} : ∀ {xs : List α} {ys : List β}, Paired F xs ys → Paired (fun x y => F x y ∧ x ∈ xs) xs ys
  | _, _, .nil => .nil
  | _, _, .cons h t => .cons ⟨h, List.mem_cons_self⟩ (paired_imp (fun x y z => ⟨z.1, List.mem_cons_of_mem _ z.2⟩) (paired_mem t))
theorem paired_at {α β : Type} {F : α → β → Prop} {x : α} : ∀ {xs : List α} {ys : List β}, Paired F xs ys → x ∈ xs → ∃ y, F x y
  | _, _, .nil, h => nomatch h
  | _, _, .cons h t, m => by
    rcases List.mem_cons.mp m with rfl | m
    · exact ⟨_, h⟩
    · exact paired_at t m
theorem v_listZip {K : PySem.W.Frag} {tA : TA} {wA : WA} (h : TrA Z tA wA) : TrF Z (tListZip K tA) (wListZip wA) := fun σ ρ G H post Q S hw q => h σ ρ G H _ _ S hw fun vs us G1 H1 w1 g1 h1 => by
  obtain ⟨xs, ys, rfl, l, hp⟩ := w1
  have S1 := S.step g1
  cases h1 with
  | cons r t =>
    cases t with
    | cons r2 t =>
      cases t
      cases r with
      | @tup a vx _ ha ka za =>
        cases r2 with
        | @tup b vy _ hb kb zb =>
          have lx : vx.length = vy.length := by rw [ka.length, kb.length, l]
          refine ⟨a, b, vx, vy, rfl, SqT.of (S1.vw.tup ha), SqT.of (S1.vw.tup hb), lx, by rw [ka.length]; exact za, fun H2 l' ps s nl el _ nt => ?_⟩
          have g2 := land (pp := Z.pp) (q := Z.q) S1.vw S1.pl s (fun c => V.ref c ∈ ps)
          have nin : V.ref l' ∉ ps := fun m => by
            obtain ⟨c, a', e1, _, e2⟩ := paired_at nt m
            cases e1
            rw [el] at e2
            cases e2
          have gl : landG G1 H1 H2 (fun c => V.ref c ∈ ps) l' = none := by
            unfold landG
            rw [if_neg fun z => nin z.2]
            exact S1.vw.free nl
          have rz := zip_rp (ka.same g2.gg) (kb.same g2.gg) (ps := ps) (paired_imp (fun p c z => by
            obtain ⟨⟨a', rfl, n1, e1⟩, m⟩ := z
            exact ⟨a', rfl, by rw [landG_new n1 m]; exact e1⟩) (paired_mem nt))
          exact q l' _ _ _ H2 hp (g1.trans g2) (free_back S g1 nl) gl el (.lst rz (by rw [zipU_len]; omega))
/-! ### raise C(), C an own error class without __init__ -/
theorem pmk_own0 {X : Cx} {C : Addr} {bmB : List Value} {B newId initId : String} {x : Str} {p pos : Pos} (F : ExcBaseFacts B newId initId bmB) (q : PySem.W.excIn X.K C bmB newId = true) (gC : X.mg x = some (.ref C)) (kC : PySem.W.keepIn X.K (.ref C) = true) (r : Raises X (.ref C)) (hg : Gl X x := by rfl)
    (hdb : (x == ("__debug__" : Str)) = false := by decide) : PMk X (.Call (.Name x p) [] [] pos) (fun _ H Q => Q (.ref C) none H) := by
  intro pins s σ H Q I h
  refine wpAny_Call_Name_kw (ld_glob I hg gC ?_ hdb)
  refine PySem.W.callWith_K0 I.kIn kC ?_
  show wpAny _ _ (call (.ref C) []) _ _ _
  obtain ⟨bm, N, nm, qn, bs, hdct, sn, sub, ab, col, dd, k0, k1, k2, k3, k5, mN, hC, hN, hni, T⟩ := exc_obj I.kIn q
  refine wpAny_call_exc_subT F T hC hN hni (fun h' e hm => ?_) (Nat.zero_le _)
  exact mk_of I hm r h (I.hok.gone hm.new)
def wRaise0 (C : Addr) (ew : EW) : WS := fun _ _ => ew C []
theorem s_raise0 {C : Addr} {E : XK} (hE : Z.E = E) : TrS Z (fun _ _ H => E (.ref C) none H) (wRaise0 C Z.ew) := fun V D σ ρ G H S hw B => by
  subst hE
  exact S.ex C [] [] none _ _ hw S.gr (.inr ⟨rfl, rfl⟩) .nil
end
section
variable {Z : Zc} {ta tb : TE} {wa wb : WE}
/-! ### == by an own __eq__; is True -/
def wOwnEq (C : Addr) (W : Wf) (wa wb : WE) : WE := fun ρ post => wa ρ fun x => wb ρ fun y => ∃ fs gs, x = .ins C fs ∧ y = .ins C gs ∧ W [x, y] (fun u => ∃ r, u = .bl r ∧ post u) fun _ _ => False
theorem v_ownEq {b : PT} {C : Addr} {W : Wf} (hp : PLe b Z.b) (ha : TrE Z ta wa) (hb : TrE Z tb wb) : TrE Z (tOp (rOwnEq C (spV b 2 W) E0) ta tb) (wOwnEq C W wa wb) := fun σ ρ G H post Q S hw q =>
  ha σ ρ G H _ _ S hw fun v x G1 H1 w1 g1 r1 => hb σ ρ G1 H1 _ _ (S.step g1) w1 fun u y G2 H2 w2 g2 r2 => by
    obtain ⟨fs, gs, rfl, rfl, hW⟩ := w2
    have S2 := (S.step g1).step g2
    have r1' := r1.same g2.gg
    have k1 := r1'
    have k2 := r2
    cases r1' with
    | ins h1 _ =>
      cases r2 with
      | ins h2 _ =>
        refine ⟨_, _, _, _, _, _, rfl, rfl, S2.vw.ins h1, S2.vw.ins h2, _, Z.pp, Z.q, G2, _, fun _ _ => False, .cons k1 (.cons k2 .nil), rfl, S2.vw, S2.pl.le hp, hW, fun v u G' H' p g r => ?_, fun _ _ _ _ _ _ z => z.elim⟩
        obtain ⟨c, rfl, p⟩ := p
        cases r
        exact ⟨c, rfl, q _ _ G' H' p ((g1.trans g2).trans (g.le hp S2.pl)) (.bl c)⟩
def rIsC (C : Addr) : List V → Hp → VK → Prop := fun xs H Q => ∃ a dx fs, xs = [.ref a, .ref C] ∧ H a = some (.ins C dx fs) ∧ Q (.bl true) H
theorem call_isCK {X : Cx} {C : Addr} (K : PySem.W.Frag) (c : C8.InsC K C) (h : X.K = K := by rfl) : CallR X (.builtin "isinstance") (rIsC C) := by subst h; exact C8.call_isC c
def wIsC (C : Addr) (wa : WE) : WE := fun ρ post => wa ρ fun x => ∃ fs, x = .ins C fs ∧ post (.bl true)
theorem v_isC {C : Addr} (ha : TrB Z ta wa) : TrE Z (tCB (rIsC C) (tCons ta (tCons (tC (.ref C)) tNil))) (wIsC C wa) := fun σ ρ G H post Q S hw q => ha σ ρ G H _ _ S hw fun v x G1 H1 w1 g1 r1 => by
  obtain ⟨fs, rfl, p⟩ := w1
  cases r1 with
  | ins h k => exact ⟨_, _, _, rfl, h, q _ _ G1 H1 p g1 (.bl true)⟩
def fIsB : U → U → Option U
  | .bl a, .bl b => some (.bl (decide (a = b)))
  | _, _ => none
theorem o_isB : OpOk rIsB fIsB := by
  intro b pp q G H v1 v2 x y u Q w p h1 h2 e k
  unfold fIsB at e
  split at e
  · cases e
    cases h1
    cases h2
    exact ⟨_, _, rfl, rfl, k _ G H (Gr.refl w p) (.bl _)⟩
  · cases e
end
section
variable {P : Program} {w : World} {K : PySem.W.Frag} {mg : Str → Option Value} {base : Heap}
/-! ### a def that gets a lambda and makes one -/
theorem okLC {b : PT} {n : Nat} {D : LamD} {fr : List Str} {W : Wf} {x qual : Str} {st : Stmt} {f c : Addr} {fd : FuncData} {N ps : List Str} {k : Nat} (hc : fd.code = .ref c) (F : Fun K x qual st f fd) (S : FnScope N ps (defScope st)) (hn : ps.length = n + 1) (hN : n + 1 ≤ N.length)
    (hbody : ∀ (A : Around) (outer : List Env) (s : Shared) (H : Hp) (E : XK), Room k (A.deeper (envOfC qual (defScope st) s.heap.objs.size f (.ref c))) →
      ∃ t, PSs (cxOf CX0 P w K mg base N qual (defScope st) f (.ref c) A outer s H E).nox (defBody st) t ∧ ∀ Z : Zc, Z.b = b → Z.E = E → Z.mays (fun i => i != n) → ∀ caps, Held Z n D fr caps → ∃ w, TrS Z t w ∧ ∀ us post, us.length = n → W (us ++ caps) post Z.ew → w { nx := fun _ => post .non, rt := post } (us.map Cell.fz ++ List.replicate (N.length - us.length) Cell.no)) :
    FnOk P w K mg base CX0 (k + 1) f fd ps (spL b n D fr W) := by
  obtain ⟨oc, od, kV, doc, pm, an, cdv, ct, osl, rfl, lk, hcd⟩ := F.ex
  obtain rfl : cdv = .ref c := hc
  refine fn_of lk hcd S (fun vs H Q E h => (spL_len h).trans hn.symm) fun A outer s H vs Q E hr h => ?_
  obtain ⟨t, ht, tr⟩ := hbody A outer s H E hr
  exact ⟨t, ht.nox, bodyL_of hN tr h⟩
theorem okLCX {b : PT} {n : Nat} {D : LamD} {fr : List Str} {W : Wf} {x qual : Str} {st : Stmt} {f c : Addr} {fd : FuncData} {N ps : List Str} {k : Nat} (hc : fd.code = .ref c) (F : Fun K x qual st f fd) (S : FnScope N ps (defScope st)) (hn : ps.length = n + 1) (hN : n + 1 ≤ N.length)
    (hbody : ∀ (A : Around) (outer : List Env) (s : Shared) (H : Hp) (E : XK), Room k (A.deeper (envOfC qual (defScope st) s.heap.objs.size f (.ref c))) →
      ∃ t, PSs (cxOf (L2.CX P w) P w K mg base N qual (defScope st) f (.ref c) A outer s H E) (defBody st) t ∧ ∀ Z : Zc, Z.b = b → Z.E = E → Z.mays (fun i => i != n) → ∀ caps, Held Z n D fr caps → ∃ w, TrS Z t w ∧ ∀ us post, us.length = n → W (us ++ caps) post Z.ew → w { nx := fun _ => post .non, rt := post } (us.map Cell.fz ++ List.replicate (N.length - us.length) Cell.no)) :
    FnOk P w K mg base (L2.CX P w) (k + 1) f fd ps (spL b n D fr W) := by
  obtain ⟨oc, od, kV, doc, pm, an, cdv, ct, osl, rfl, lk, hcd⟩ := F.ex
  obtain rfl : cdv = .ref c := hc
  refine fn_of lk hcd S (fun vs H Q E h => (spL_len h).trans hn.symm) fun A outer s H vs Q E hr h => ?_
  obtain ⟨t, ht, tr⟩ := hbody A outer s H E hr
  exact ⟨t, ht, bodyL_of hN tr h⟩
end
end SV
/-! What is met from some first things on, in the order of the meeting; dicts of what was met. -/
namespace SV
open PySem PySem.Spec PyProof.Rows L2 SL
section
variable {α : Type} [DecidableEq α]
def addOne (m : List α) (x : α) : List α := if x ∈ m then m else m ++ [x]
def addNew (m f : List α) : List α := f.foldl addOne m
theorem addNew_nil (m : List α) : addNew m [] = m := rfl
theorem addNew_cons (m : List α) (x : α) (f : List α) : addNew m (x :: f) = addNew (addOne m x) f := rfl
theorem addNew_snoc (m f : List α) (x : α) : addNew m (f ++ [x]) = addOne (addNew m f) x := by
  unfold addNew
  rw [List.foldl_append]
  rfl
theorem addOne_pre (m : List α) (x : α) : m <+: addOne m x := by
  unfold addOne
  split
  · exact List.prefix_refl m
  · exact List.prefix_append m [x]
theorem addNew_pre : ∀ (f m : List α), m <+: addNew m f
  | [], m => List.prefix_refl m
  | x :: f, m => (addOne_pre m x).trans (addNew_pre f (addOne m x))
theorem mem_addOne {m : List α} {x y : α} : y ∈ addOne m x ↔ y ∈ m ∨ y = x := by
  unfold addOne
  split
  · rename_i h
    exact ⟨.inl, fun z => z.elim id fun e => e ▸ h⟩
  · rw [List.mem_append, List.mem_singleton]
theorem mem_addNew : ∀ {f m : List α} {y : α}, y ∈ addNew m f ↔ y ∈ m ∨ y ∈ f
  | [], m, y => by
    rw [addNew_nil]
    simp
  | x :: f, m, y => by
    rw [addNew_cons, mem_addNew, mem_addOne, List.mem_cons]
    constructor
    · rintro ((h | h) | h)
      · exact .inl h
      · exact .inr (.inl h)
      · exact .inr (.inr h)
    · rintro (h | h | h)
      · exact .inl (.inl h)
      · exact .inl (.inr h)
      · exact .inr h
theorem addOne_nd {m : List α} (h : m.Nodup) (x : α) : (addOne m x).Nodup := by
  unfold addOne
  split
  · exact h
  · rename_i n
    rw [List.nodup_append]
    refine ⟨h, by simp, fun a ha b hb e => n ?_⟩
    rw [List.mem_singleton.mp hb] at e
    rw [← e]
    exact ha
theorem addNew_nd : ∀ {f m : List α}, m.Nodup → (addNew m f).Nodup
  | [], _, h => h
  | x :: f, m, h => addNew_nd (f := f) (addOne_nd h x)
theorem addNew_of_nd : ∀ {f m : List α}, f.Nodup → (∀ x ∈ f, x ∉ m) → addNew m f = m ++ f
  | [], m, _, _ => by rw [addNew_nil, List.append_nil]
  | x :: f, m, nd, h => by
    obtain ⟨h1, h2⟩ := List.nodup_cons.mp nd
    rw [addNew_cons, show addOne m x = m ++ [x] from if_neg (h x List.mem_cons_self), addNew_of_nd h2 fun y hy hm => ?_]
    · rw [List.append_assoc]
      rfl
    · rcases List.mem_append.mp hm with hm | hm
      · exact h y (List.mem_cons_of_mem _ hy) hm
      · rw [List.mem_singleton.mp hm] at hy
        exact h1 hy
/-- i of what was met are done; at most n more are -/
def metN (g : α → List α) : Nat → Nat → List α → List α
  | 0, _, m => m
  | n + 1, i, m => match m[i]? with
    | some x => metN g n (i + 1) (addNew m (g x))
    | none => m
theorem metN_pre (g : α → List α) : ∀ (n i : Nat) (m : List α), m <+: metN g n i m
  | 0, _, m => List.prefix_refl m
  | n + 1, i, m => by
    unfold metN
    split
    · exact (addNew_pre _ m).trans (metN_pre g n (i + 1) _)
    · exact List.prefix_refl m
theorem metN_nd {g : α → List α} : ∀ {n i : Nat} {m : List α}, m.Nodup → (metN g n i m).Nodup
  | 0, _, _, h => h
  | n + 1, i, m, h => by
    unfold metN
    split
    · exact metN_nd (addNew_nd h)
    · exact h
theorem metN_sub {g : α → List α} {D : List α} (cl : ∀ x ∈ D, ∀ y ∈ g x, y ∈ D) : ∀ {n i : Nat} {m : List α}, (∀ x ∈ m, x ∈ D) → ∀ x ∈ metN g n i m, x ∈ D
  | 0, _, _, h => h
  | n + 1, i, m, h => by
    unfold metN
    split
    · rename_i x e
      exact metN_sub cl fun y hy => (mem_addNew.mp hy).elim (h y) (cl x (h x (List.mem_of_getElem? e)) y)
    · exact h
theorem nd_len {D m : List α} (nd : m.Nodup) (h : ∀ x ∈ m, x ∈ D) : m.length ≤ D.length := by
  induction m generalizing D with
  | nil => exact Nat.zero_le _
  | cons x r ih =>
    obtain ⟨n1, n2⟩ := List.nodup_cons.mp nd
    have hx := h x List.mem_cons_self
    have := ih (D := D.erase x) n2 fun y hy => (List.mem_erase_of_ne (fun e => n1 (by rw [← e]; exact hy))).mpr (h y (List.mem_cons_of_mem _ hy))
    rw [List.length_erase_of_mem hx] at this
    have pos : 0 < D.length := List.length_pos_of_mem hx
    show r.length + 1 ≤ D.length
    omega
/-- what is met is closed once enough are done -/
theorem metN_closed {g : α → List α} {D : List α} (cl : ∀ x ∈ D, ∀ y ∈ g x, y ∈ D) : ∀ {n i : Nat} {m : List α}, m.Nodup → (∀ x ∈ m, x ∈ D) → i ≤ m.length → D.length ≤ i + n → (∀ j x, j < i → m[j]? = some x → ∀ y ∈ g x, y ∈ m) → ∀ x ∈ metN g n i m, ∀ y ∈ g x, y ∈ metN g n i m
  | 0, i, m, nd, sub, hi, hn, done => fun x hx y hy => by
    have hx : x ∈ m := hx
    obtain ⟨j, hj⟩ := List.mem_iff_getElem?.mp hx
    have := nd_len nd sub
    have jl := (List.getElem?_eq_some_iff.mp hj).1
    exact done j x (by omega) hj y hy
  | n + 1, i, m, nd, sub, hi, hn, done => by
    unfold metN
    split
    · rename_i x e
      have il := (List.getElem?_eq_some_iff.mp e).1
      have pre := addNew_pre (g x) m
      refine metN_closed cl (addNew_nd nd) (fun y hy => (mem_addNew.mp hy).elim (sub y) (cl x (sub x (List.mem_of_getElem? e)) y)) (Nat.le_trans il pre.length_le) (by omega) fun j y hj hy z hz => ?_
      have jl : j < m.length := by omega
      have ej : m[j]? = some y := by
        obtain ⟨t, ht⟩ := pre
        rw [← ht, List.getElem?_append_left jl] at hy
        exact hy
      rw [mem_addNew]
      by_cases c : j = i
      · subst c
        rw [e] at ej
        cases ej
        exact .inr hz
      · exact .inl (done j y (by omega) ej z hz)
    · rename_i e
      have := List.getElem?_eq_none_iff.mp e
      intro x hx y hy
      obtain ⟨j, hj⟩ := List.mem_iff_getElem?.mp hx
      have jl := (List.getElem?_eq_some_iff.mp hj).1
      exact done j x (by omega) hj y hy
/-! ### dicts of what was met -/
variable {κ : Type} [DecidableEq κ] {pk : α → κ}
theorem keys_map {β : Type} (pk : α → κ) (f : α → β) (m : List α) : keysOf (m.map fun x => (pk x, f x)) = m.map pk := by
  unfold keysOf
  rw [List.map_map]
  rfl
theorem val_map {β : Type} (inj : ∀ x y : α, pk x = pk y → x = y) (f : α → β) : ∀ (m : List α) (x : α), valU (m.map fun x => (pk x, f x)) (pk x) = if x ∈ m then some (f x) else none
  | [], x => by
    rw [if_neg (fun h => nomatch h)]
    rfl
  | y :: m, x => by
    rw [List.map_cons]
    by_cases c : y = x
    · subst c
      rw [valU_pos rfl, if_pos List.mem_cons_self]
    · rw [valU_neg fun e => c (inj _ _ e), val_map inj f m x]
      by_cases h : x ∈ m
      · rw [if_pos h, if_pos (List.mem_cons_of_mem _ h)]
      · rw [if_neg h, if_neg fun z => (List.mem_cons.mp z).elim (fun e => c e.symm) h]
theorem put_new {β : Type} {kvs : List (κ × β)} {k : κ} {v : β} (h : k ∉ keysOf kvs) : putU kvs k v = kvs ++ [(k, v)] := by
  unfold putU
  rw [valU_any, val_none.mpr h]
  rfl
theorem put_map {β : Type} (inj : ∀ x y : α, pk x = pk y → x = y) (f : α → β) {m : List α} {x : α} (h : x ∉ m) : putU (m.map fun x => (pk x, f x)) (pk x) (f x) = (m ++ [x]).map fun x => (pk x, f x) := by
  rw [put_new, List.map_append]
  · rfl
  · rw [keys_map]
    intro z
    obtain ⟨y, hy, e⟩ := List.mem_map.mp z
    rw [inj _ _ e] at hy
    exact h hy
/-- a dict comprehension over things that may come twice -/
theorem put_one {β : Type} (inj : ∀ x y : α, pk x = pk y → x = y) (v : β) (m : List α) (x : α) : putU (m.map fun x => (pk x, v)) (pk x) v = (addOne m x).map fun x => (pk x, v) := by
  unfold addOne
  by_cases h : x ∈ m
  · rw [if_pos h]
    unfold putU
    rw [valU_any, val_map inj (fun _ => v), if_pos h]
    rw [if_pos (show (some v).isSome = true from rfl), List.map_map]
    refine List.map_congr_left fun y _ => ?_
    show (if pk y = pk x then (pk y, v) else (pk y, v)) = _
    split <;> rfl
  · rw [if_neg h]
    exact put_map inj (fun _ => v) h
end
/-! ### pairs of whole numbers -/
abbrev IP := Int × Int
def ipU (p : IP) : U := .tup [.int p.1, .int p.2]
def ipK (p : IP) : List Key := [.inl p.1, .inl p.2]
theorem ipK_inj (p q : IP) (h : ipK p = ipK q) : p = q := by
  obtain ⟨a, b⟩ := p
  obtain ⟨c, d⟩ := q
  unfold ipK at h
  injection h with h1 h2
  injection h2 with h2 h3
  injection h1 with h1
  injection h2 with h2
  simp only at h1 h2
  rw [h1, h2]
theorem ipU_key (p : IP) : ipU p = tKey (ipK p) := rfl
theorem ipK_ok (p : IP) : okKey (ipK p) := ⟨by show 2 ≤ 100000; decide, fun s h => by
  unfold ipK at h
  rcases List.mem_cons.mp h with h | h
  · cases h
  · rcases List.mem_cons.mp h with h | h
    · cases h
    · cases h⟩
theorem ip_look (kus : List (List Key × U)) (p : IP) : lookU (.dit kus) (ipU p) = some (valU kus (ipK p)) := rfl
/-! ### equality of nested things -/
def niceU : Nat → U → Bool
  | _, .non => true
  | _, .int _ => true
  | _, .str s => PyData.strOk s
  | n + 1, .lst us => us.all (niceU n)
  | n + 1, .tup us => us.all (niceU n)
  | _, _ => false
theorem nice_list {n : Nat} (ih : ∀ u, niceU n u = true → ∃ d, toPy u = some d ∧ d.canLay0 = true ∧ d.depth ≤ n ∧ ∀ m v e, niceU m v = true → toPy v = some e → (PyData.eqv d e = true ↔ u = v)) : ∀ us : List U, us.all (niceU n) = true →
    ∃ ds, toPys us = some ds ∧ PyData.canLayAll0 ds = true ∧ PyData.depthAll ds ≤ n ∧ ∀ m (vs : List U) es, vs.all (niceU m) = true → toPys vs = some es → (PyData.eqvAll ds es = true ↔ us = vs)
  | [], _ => by
    refine ⟨[], rfl, by simp only [PyData.canLayAll0], by simp only [PyData.depthAll]; exact Nat.zero_le _, fun m vs es _ he => ?_⟩
    cases vs with
    | nil => cases he; simp only [PyData.eqvAll]
    | cons v vs =>
      unfold toPys at he
      split at he
      · cases he
        simp only [PyData.eqvAll]
        exact ⟨fun z => (nomatch z), fun z => (nomatch z)⟩
      · cases he
  | u :: us, h => by
    rw [List.all_cons, Bool.and_eq_true] at h
    obtain ⟨d, d1, d2, d3, d4⟩ := ih u h.1
    obtain ⟨ds, e1, e2, e3, e4⟩ := nice_list ih us h.2
    refine ⟨d :: ds, by unfold toPys; rw [d1, e1], by simp only [PyData.canLayAll0, d2, e2]; rfl, by simp only [PyData.depthAll]; omega, fun m vs es hv he => ?_⟩
    cases vs with
    | nil =>
      cases he
      simp only [PyData.eqvAll]
      exact ⟨fun z => (nomatch z), fun z => (nomatch z)⟩
    | cons v vs =>
      rw [List.all_cons, Bool.and_eq_true] at hv
      unfold toPys at he
      split at he
      · rename_i e es' q1 q2
        cases he
        simp only [PyData.eqvAll, Bool.and_eq_true]
        rw [d4 m v e hv.1 q1, e4 m vs es' hv.2 q2, List.cons.injEq]
      · cases he
theorem nice_py : ∀ (n : Nat) (u : U), niceU n u = true → ∃ d, toPy u = some d ∧ d.canLay0 = true ∧ d.depth ≤ n ∧ ∀ m v e, niceU m v = true → toPy v = some e → (PyData.eqv d e = true ↔ u = v) := by
  have other : ∀ {d : PyData} {u : U}, (∀ v e, toPy v = some e → (PyData.eqv d e = true ↔ u = v)) → ∀ (m : Nat) v e, niceU m v = true → toPy v = some e → (PyData.eqv d e = true ↔ u = v) := fun h m v e _ q => h v e q
  have flat : ∀ (n : Nat) (u : U), (u = .non ∨ (∃ i, u = .int i) ∨ ∃ s, u = .str s) → niceU n u = true → ∃ d, toPy u = some d ∧ d.canLay0 = true ∧ d.depth ≤ n ∧ ∀ m v e, niceU m v = true → toPy v = some e → (PyData.eqv d e = true ↔ u = v) := by
    intro n u hu h
    rcases hu with rfl | ⟨i, rfl⟩ | ⟨s, rfl⟩
    · refine ⟨.none, rfl, by simp only [PyData.canLay0], by simp only [PyData.depth]; exact Nat.zero_le _, fun m v e hv q => ?_⟩
      cases v with
      | non => cases q; simp only [PyData.eqv]
      | bl b => cases m <;> cases hv
      | int j => cases q; simp only [PyData.eqv]; exact ⟨fun z => (nomatch z), fun z => (nomatch z)⟩
      | str t => cases q; simp only [PyData.eqv]; exact ⟨fun z => (nomatch z), fun z => (nomatch z)⟩
      | lst vs => unfold toPy at q; cases w : toPys vs <;> rw [w] at q <;> cases q; simp only [PyData.eqv]; exact ⟨fun z => (nomatch z), fun z => (nomatch z)⟩
      | tup vs => unfold toPy at q; cases w : toPys vs <;> rw [w] at q <;> cases q; simp only [PyData.eqv]; exact ⟨fun z => (nomatch z), fun z => (nomatch z)⟩
      | _ => cases q
    · refine ⟨.int i, rfl, by simp only [PyData.canLay0], by simp only [PyData.depth]; exact Nat.zero_le _, fun m v e hv q => ?_⟩
      cases v with
      | non => cases q; simp only [PyData.eqv]; exact ⟨fun z => (nomatch z), fun z => (nomatch z)⟩
      | bl b => cases m <;> cases hv
      | int j => cases q; simp only [PyData.eqv]; rw [beq_iff_eq]; exact ⟨fun z => by rw [z], fun z => U.int.inj z⟩
      | str t => cases q; simp only [PyData.eqv]; exact ⟨fun z => (nomatch z), fun z => (nomatch z)⟩
      | lst vs => unfold toPy at q; cases w : toPys vs <;> rw [w] at q <;> cases q; simp only [PyData.eqv]; exact ⟨fun z => (nomatch z), fun z => (nomatch z)⟩
      | tup vs => unfold toPy at q; cases w : toPys vs <;> rw [w] at q <;> cases q; simp only [PyData.eqv]; exact ⟨fun z => (nomatch z), fun z => (nomatch z)⟩
      | _ => cases q
    · refine ⟨.str s, rfl, by simp only [PyData.canLay0]; cases n <;> exact h, by simp only [PyData.depth]; exact Nat.zero_le _, fun m v e hv q => ?_⟩
      cases v with
      | non => cases q; simp only [PyData.eqv]; exact ⟨fun z => (nomatch z), fun z => (nomatch z)⟩
      | bl b => cases m <;> cases hv
      | int j => cases q; simp only [PyData.eqv]; exact ⟨fun z => (nomatch z), fun z => (nomatch z)⟩
      | str t => cases q; simp only [PyData.eqv]; rw [beq_iff_eq]; exact ⟨fun z => by rw [z], fun z => U.str.inj z⟩
      | lst vs => unfold toPy at q; cases w : toPys vs <;> rw [w] at q <;> cases q; simp only [PyData.eqv]; exact ⟨fun z => (nomatch z), fun z => (nomatch z)⟩
      | tup vs => unfold toPy at q; cases w : toPys vs <;> rw [w] at q <;> cases q; simp only [PyData.eqv]; exact ⟨fun z => (nomatch z), fun z => (nomatch z)⟩
      | _ => cases q
  intro n
  induction n with
  | zero =>
    intro u h
    cases u with
    | non => exact flat 0 _ (.inl rfl) h
    | int i => exact flat 0 _ (.inr (.inl ⟨_, rfl⟩)) h
    | str s => exact flat 0 _ (.inr (.inr ⟨_, rfl⟩)) h
    | _ => cases h
  | succ n ih =>
    intro u h
    cases u with
    | non => exact flat _ _ (.inl rfl) h
    | int i => exact flat _ _ (.inr (.inl ⟨_, rfl⟩)) h
    | str s => exact flat _ _ (.inr (.inr ⟨_, rfl⟩)) h
    | lst us =>
      obtain ⟨ds, e1, e2, e3, e4⟩ := nice_list ih us h
      refine ⟨.list ds, by unfold toPy; rw [e1]; rfl, by simp only [PyData.canLay0, e2], by simp only [PyData.depth]; omega, fun m v e hv q => ?_⟩
      cases v with
      | lst vs =>
        cases m with
        | zero => cases hv
        | succ m =>
          unfold toPy at q
          cases w : toPys vs with
          | none => rw [w] at q; cases q
          | some es =>
            rw [w] at q
            cases q
            simp only [PyData.eqv]
            rw [e4 m vs es hv w]
            exact ⟨fun z => by rw [z], fun z => U.lst.inj z⟩
      | bl b => cases m <;> cases hv
      | tup vs => unfold toPy at q; cases w : toPys vs <;> rw [w] at q <;> cases q; simp only [PyData.eqv]; exact ⟨fun z => (nomatch z), fun z => (nomatch z)⟩
      | non => cases q; simp only [PyData.eqv]; exact ⟨fun z => (nomatch z), fun z => (nomatch z)⟩
      | int j => cases q; simp only [PyData.eqv]; exact ⟨fun z => (nomatch z), fun z => (nomatch z)⟩
      | str j => cases q; simp only [PyData.eqv]; exact ⟨fun z => (nomatch z), fun z => (nomatch z)⟩
      | _ => cases q
    | tup us =>
      obtain ⟨ds, e1, e2, e3, e4⟩ := nice_list ih us h
      refine ⟨.tuple ds, by unfold toPy; rw [e1]; rfl, by simp only [PyData.canLay0, e2], by simp only [PyData.depth]; omega, fun m v e hv q => ?_⟩
      cases v with
      | tup vs =>
        cases m with
        | zero => cases hv
        | succ m =>
          unfold toPy at q
          cases w : toPys vs with
          | none => rw [w] at q; cases q
          | some es =>
            rw [w] at q
            cases q
            simp only [PyData.eqv]
            rw [e4 m vs es hv w]
            exact ⟨fun z => by rw [z], fun z => U.tup.inj z⟩
      | bl b => cases m <;> cases hv
      | lst vs => unfold toPy at q; cases w : toPys vs <;> rw [w] at q <;> cases q; simp only [PyData.eqv]; exact ⟨fun z => (nomatch z), fun z => (nomatch z)⟩
      | non => cases q; simp only [PyData.eqv]; exact ⟨fun z => (nomatch z), fun z => (nomatch z)⟩
      | int j => cases q; simp only [PyData.eqv]; exact ⟨fun z => (nomatch z), fun z => (nomatch z)⟩
      | str j => cases q; simp only [PyData.eqv]; exact ⟨fun z => (nomatch z), fun z => (nomatch z)⟩
      | _ => cases q
    | _ => cases h
/-- nested things are equal as they look -/
theorem eqU_nice {n m : Nat} {x y : U} (hn : n ≤ 60) (hm : m ≤ 60) (hx : niceU n x = true) (hy : niceU m y = true) : ∃ c, eqU x y = some c ∧ (c = true ↔ x = y) := by
  obtain ⟨d, d1, d2, d3, d4⟩ := nice_py n x hx
  obtain ⟨e, e1, e2, e3, _⟩ := nice_py m y hy
  refine ⟨PyData.eqv d e, ?_, d4 m y e hy e1⟩
  unfold eqU
  rw [d1, e1]
  show (if SeqAt.shaped d && SeqAt.shaped e then some (PyData.eqv d e) else none) = _
  unfold SeqAt.shaped
  rw [d2, e2, decide_eq_true (by omega), decide_eq_true (by omega)]
  rfl
theorem eqU_niceD {n m : Nat} {x y : U} (hn : n ≤ 60) (hm : m ≤ 60) (hx : niceU n x = true) (hy : niceU m y = true) [Decidable (x = y)] : eqU x y = some (decide (x = y)) := by
  obtain ⟨c, e, h⟩ := eqU_nice hn hm hx hy
  rw [e]
  congr 1
  rw [Bool.eq_iff_iff, decide_eq_true_eq]
  exact h
theorem toPys_nice {n : Nat} {us : List U} (hn : n ≤ 60) (h : us.all (niceU n) = true) : ∃ ds, toPys us = some ds ∧ SeqAt.shaped (.list ds) = true ∧ ∀ m (vs : List U) es, vs.all (niceU m) = true → toPys vs = some es → (PyData.eqvAll ds es = true ↔ us = vs) := by
  obtain ⟨ds, e1, e2, e3, e4⟩ := nice_list (nice_py n) us h
  refine ⟨ds, e1, ?_, e4⟩
  have q : (PyData.list ds).depth ≤ 64 := by simp only [PyData.depth]; omega
  have c : (PyData.list ds).canLay0 = true := by simp only [PyData.canLay0, e2]
  show ((PyData.list ds).canLay0 && decide _) = true
  rw [decide_eq_true q, c]
  rfl
theorem nice_ints {n : Nat} (ns : List Int) : (ns.map U.int).all (niceU n) = true := List.all_eq_true.mpr fun u hu => by
  obtain ⟨i, _, rfl⟩ := List.mem_map.mp hu
  cases n <;> rfl
theorem nice_row {n : Nat} (ns : List Int) : niceU (n + 1) (rowV ns) = true := nice_ints ns
theorem nice_ip {n : Nat} (p : IP) : niceU (n + 1) (ipU p) = true := by
  show [U.int p.1, U.int p.2].all (niceU n) = true
  cases n <;> rfl
theorem nice_ips {n : Nat} (ps : List IP) : (ps.map ipU).all (niceU (n + 1)) = true := List.all_eq_true.mpr fun u hu => by
  obtain ⟨p, _, rfl⟩ := List.mem_map.mp hu
  exact nice_ip p
theorem ipU_inj {p q : IP} (h : ipU p = ipU q) : p = q := by
  obtain ⟨a, b⟩ := p
  obtain ⟨c, d⟩ := q
  unfold ipU at h
  injection h with h
  injection h with h1 h2
  injection h2 with h2 _
  injection h1 with h1
  injection h2 with h2
  simp only at h1 h2
  rw [h1, h2]
/-- a pair in a list of pairs -/
theorem in_ips (neg : Bool) (p : IP) (ps : List IP) : fInD neg (ipU p) (.lst (ps.map ipU)) = some (.bl (if neg then !decide (p ∈ ps) else decide (p ∈ ps))) := by
  obtain ⟨ds, e1, sh, _⟩ := toPys_nice (n := 1) (by decide) (nice_ips (n := 0) ps)
  have key : ∀ (ps : List IP) (ds : List PyData), toPys (ps.map ipU) = some ds → (ds.any fun z => PyData.eqv z (.tuple [.int p.1, .int p.2])) = decide (p ∈ ps) := by
    intro ps
    induction ps with
    | nil =>
      intro ds h
      cases h
      rfl
    | cons x r ih =>
      intro ds h
      cases w : toPys (r.map ipU) with
      | none =>
        have : toPys (ipU x :: r.map ipU) = none := by unfold toPys; rw [w]; cases toPy (ipU x) <;> rfl
        rw [List.map_cons, this] at h
        cases h
      | some es =>
        have : toPys (ipU x :: r.map ipU) = some (.tuple [.int x.1, .int x.2] :: es) := by unfold toPys; rw [w]; rfl
        rw [List.map_cons, this] at h
        cases h
        rw [List.any_cons, ih es w, Bool.eq_iff_iff, Bool.or_eq_true, decide_eq_true_eq, decide_eq_true_eq, List.mem_cons]
        have q : PyData.eqv (.tuple [.int x.1, .int x.2]) (.tuple [.int p.1, .int p.2]) = true ↔ p = x := by
          simp only [PyData.eqv, PyData.eqvAll, Bool.and_true, Bool.and_eq_true, beq_iff_eq]
          constructor
          · rintro ⟨a, b⟩
            exact Prod.ext a.symm b.symm
          · rintro rfl
            exact ⟨rfl, rfl⟩
        rw [q]
  have st : SeqAt.shaped (PyData.tuple [.int p.1, .int p.2]) = true := by
    unfold SeqAt.shaped
    simp only [PyData.canLay0, PyData.canLayAll0, PyData.depth, PyData.depthAll]
    rfl
  show inD neg (ipU p) (ps.map ipU) = _
  unfold inD
  rw [e1, show toPy (ipU p) = some (.tuple [.int p.1, .int p.2]) from rfl]
  show (if SeqAt.shaped (PyData.tuple [.int p.1, .int p.2]) && SeqAt.shaped (.list ds) then some (U.bl (if neg then !(ds.any fun z => PyData.eqv z (.tuple [.int p.1, .int p.2])) else ds.any fun z => PyData.eqv z (.tuple [.int p.1, .int p.2]))) else none) = _
  rw [key ps ds e1, st, sh]
  rfl
def ipP (p : IP) : PyData := .tuple [.int p.1, .int p.2]
theorem toPys_ips : ∀ ps : List IP, toPys (ps.map ipU) = some (ps.map ipP)
  | [] => rfl
  | p :: ps => by
    rw [List.map_cons]
    unfold toPys
    rw [toPys_ips ps]
    rfl
theorem eqv_ip (a b : IP) : PyData.eqv (ipP a) (ipP b) = decide (a = b) := by
  unfold ipP
  simp only [PyData.eqv, PyData.eqvAll, Bool.and_true]
  rw [Bool.eq_iff_iff, Bool.and_eq_true, beq_iff_eq, beq_iff_eq, decide_eq_true_eq]
  exact ⟨fun ⟨h1, h2⟩ => Prod.ext h1 h2, fun h => by rw [h]; exact ⟨rfl, rfl⟩⟩
theorem shaped_ip (p : IP) : SeqAt.shaped (ipP p) = true := by
  unfold SeqAt.shaped ipP
  simp only [PyData.canLay0, PyData.canLayAll0, PyData.depth, PyData.depthAll]
  rfl
/-- index of a pair in a list of pairs -/
theorem idx_ips {ps : List IP} {x : IP} (h : x ∈ ps) {post : U → Prop} (p : post (.int ((ps.idxOf x : Nat) : Int))) : ∃ us ds, U.lst (ps.map ipU) = .lst us ∧ toPys us = some ds ∧ SeqAt.shaped (.list ds) = true ∧
    ∃ (d : PyData) (j : Nat) (z : PyData), toPy (ipU x) = some d ∧ SeqAt.shaped d = true ∧ ds[j]? = some z ∧ PyData.eqv z d = true ∧ (∀ (m : Nat) (z' : PyData), m < j → ds[m]? = some z' → PyData.eqv z' d = false) ∧ post (.int (j : Nat)) := by
  obtain ⟨ds, e1, sh, _⟩ := toPys_nice (n := 1) (by decide) (nice_ips (n := 0) ps)
  rw [toPys_ips] at e1
  cases e1
  have jl := List.idxOf_lt_length_iff.mpr h
  refine ⟨_, _, rfl, toPys_ips ps, sh, ipP x, ps.idxOf x, ipP x, rfl, shaped_ip x, ?_, ?_, fun m z' hm hz => ?_, p⟩
  · rw [List.getElem?_map, List.getElem?_eq_getElem jl, List.getElem_idxOf]
    rfl
  · rw [eqv_ip, decide_eq_true rfl]
  · rw [List.getElem?_map] at hz
    cases q : ps[m]? with
    | none => rw [q] at hz; cases hz
    | some y =>
      rw [q] at hz
      cases hz
      rw [eqv_ip, decide_eq_false]
      intro e
      subst e
      have := List.not_of_lt_findIdx (p := (· == y)) (xs := ps) (i := m) hm
      obtain ⟨hl, hy⟩ := List.getElem?_eq_some_iff.mp q
      rw [hy] at this
      exact absurd (beq_self_eq_true y) (by simpa using this)
end SV
namespace K12
open PySem PySem.Spec PyProof.Rows L2 SL SV
local macro_rules | `(tactic| ac_rfl) => `(tactic| (repeat first | refine ⟨_, rfl, ?_⟩ | refine ⟨rfl, ?_⟩ | refine iteT ?_ | refine iteF ?_ | refine ⟨trivial, ?_⟩ | refine ⟨Nat.le_of_ble_eq_true rfl, ?_⟩ | refine ⟨_, _, rfl, rfl, ?_⟩ | refine ⟨_, _, rfl, ?_⟩ | refine ⟨_, .inl rfl, ?_⟩ | refine ⟨_, .inr rfl, ?_⟩ | refine .inl ⟨_, rfl, ?_⟩ | refine .inr ⟨_, rfl, ?_⟩ | refine ⟨_, _, .inl rfl, ?_⟩ | refine ⟨_, _, .inr rfl, ?_⟩ | refine ⟨by decide, ?_⟩))
def topS (i : Nat) : Stmt := PySem.Challenge.pw_surelabels_k12_rules_joined.main.body.getD i (.Pass ⟨0, 0, 0, 0⟩)
abbrev s_wall : Stmt := topS 0
abbrev s_LabelError : Stmt := topS 2
abbrev s_BadText : Stmt := topS 3
abbrev s_BadRule : Stmt := topS 4
abbrev s_OtherSigns : Stmt := topS 5
abbrev s_TooMany : Stmt := topS 6
abbrev s_is_whole : Stmt := topS 9
abbrev s_is_within : Stmt := topS 10
abbrev s_items_of : Stmt := topS 11
abbrev s_is_rising : Stmt := topS 12
abbrev s_is_sign : Stmt := topS 13
abbrev s_check_text : Stmt := topS 14
abbrev s_met_from : Stmt := topS 15
abbrev s_signs_of : Stmt := topS 17
abbrev s_are_states : Stmt := topS 18
abbrev s_moves_of : Stmt := topS 19
abbrev s_good_of : Stmt := topS 20
abbrev s_Rule : Stmt := topS 21
abbrev s_check_alike : Stmt := topS 23
abbrev s_led : Stmt := topS 24
abbrev s_joined : Stmt := topS 25
abbrev s_both : Stmt := topS 26
abbrev s_either : Stmt := topS 27
abbrev s_opposite : Stmt := topS 28
abbrev s_law_pool : Stmt := topS 30
abbrev s_law_draw : Stmt := topS 31
abbrev s_law_same : Stmt := topS 32
abbrev s_law_signs : Stmt := topS 33
abbrev s_law_rule_model : Stmt := topS 34
abbrev s_law_rule : Stmt := topS 35
abbrev s_law_pairs : Stmt := topS 36
abbrev s_law_asked : Stmt := topS 37
abbrev s_law_fields : Stmt := topS 38
abbrev s_law_due : Stmt := topS 39
abbrev s_law_round : Stmt := topS 40
abbrev s_law_right : Stmt := topS 41
abbrev s_law : Stmt := topS 42
abbrev s_BadText_init : Stmt := inClass (topS 3) 0
abbrev s_BadRule_init : Stmt := inClass (topS 4) 0
abbrev s_TooMany_init : Stmt := inClass (topS 6) 0
abbrev s_Rule_init : Stmt := inClass (topS 21) 0
abbrev s_Rule_last : Stmt := inClass (topS 21) 1
abbrev s_Rule_lets : Stmt := inClass (topS 21) 2
abbrev s_Rule_move : Stmt := inClass (topS 21) 3
abbrev s_Rule_eq : Stmt := inClass (topS 21) 4
def D_joined : LamD := LamD.of "_joined.<locals>.<lambda>" (eArg 1 (sExpr ((defBody s_joined).getD 1 (.Pass ⟨0, 0, 0, 0⟩))))
def D_both : LamD := LamD.of "both.<locals>.<lambda>" (eArg 2 (sExpr ((defBody s_both).getD 0 (.Pass ⟨0, 0, 0, 0⟩))))
def D_either : LamD := LamD.of "either.<locals>.<lambda>" (eArg 2 (sExpr ((defBody s_either).getD 0 (.Pass ⟨0, 0, 0, 0⟩))))
/-! ### what the top has written -/
structure MF (P : Program) (w : World) (K : PySem.W.Frag) (mg : Str → Option Value) (cR iR cT iT cO cU fU lU tU gU cL : Addr) : Prop where
  m_isinstance : mg "isinstance" = none
  m_int : mg "int" = none
  m_bool : mg "bool" = none
  m_str : mg "str" = none
  m_list : mg "list" = none
  m_tuple : mg "tuple" = none
  m_len : mg "len" = none
  m_all : mg "all" = none
  m_range : mg "range" = none
  m_enumerate : mg "enumerate" = none
  m_zip : mg "zip" = none
  m_sorted : mg "sorted" = none
  x_BadRule : PySem.SLX.ExTxt K mg P w "BadRule" "part" "part" (fun v => ∃ (y : Str) (t : Tok), v = .str y t ∧ (reprText y).length ≤ 1000) cR iR
  g_BadRule : mg "BadRule" = some (.ref cR)
  x_TooMany : PySem.SLX.ExTxt K mg P w "TooMany" "most" "most" PySem.SLX.okInt cT iT
  g_TooMany : mg "TooMany" = some (.ref cT)
  g_LabelError : mg "LabelError" = some (.ref cL)
  e_TO : PySem.W.exmOne K (.ref cT) (.ref cO) = some false
  e_TT : PySem.W.exmOne K (.ref cT) (.ref cT) = some true
  e_OO : PySem.W.exmOne K (.ref cO) (.ref cO) = some true
  g_SIGNS : ∃ t, mg "SIGNS" = some (.str SG t)
  kinds : ∀ C ∈ [cU], KindC K C
  me_last : Meth K cU "last" lU
  me_lets : Meth K cU "lets" tU
  g_OtherSigns : mg "OtherSigns" = some (.ref cO)
  z_OtherSigns : PySem.W.excIn K cO [Value.type "ValueError", Value.type "Exception", Value.type "BaseException", Value.type "object"] "ValueError.__new__" = true
  k_OtherSigns : PySem.W.keepIn K (.ref cO) = true
  b_OtherSigns : PySem.W.subIn K (.ref cO) (.type "BaseException") = some true
  t_OtherSigns : PySem.W.typeIn K (.ref cO) = some (.type "type")
  g_Rule : mg "Rule" = some (.ref cU)
  mk_Rule : Mk K cU fU
  cl_Rule : Cls K cU
  n_signs : NoAttr K cU "signs"
  n_moves : NoAttr K cU "moves"
  n_good : NoAttr K cU "good"
  n__columns : NoAttr K cU "_columns"
  eq_Rule : PySem.W.findIn K (.ref cU) "__eq__" = some (some (.ref gU))
  fn_eqRule : PySem.W.isFn K (.ref gU) = true
  ic_Rule : C8.InsC K cU
section
variable {P : Program} {w : World} {K : PySem.W.Frag} {mg : Str → Option Value} {base : Heap} {cR iR cT iT cO cU fU lU tU gU cL : Addr} {fdU fdL fdT fdG : FuncData} {f : Addr} {fd : FuncData}
/-! ### is_whole, is_within, is_from, items_of, is_row, check_row -/
theorem sc_is_whole : FnScope ["thing"] ["thing"] (defScope s_is_whole) := ⟨rfl, rfl, rfl, by decide +kernel, rfl, by decide +kernel, by decide +kernel⟩
theorem ok_is_whole (M : MF P w K mg cR iR cT iT cO cU fU lU tU gU cL) (F : Fun K "is_whole" "is_whole" s_is_whole f fd) : FnOk P w K mg base CX0 1 f fd ["thing"] (spV false 1 (WWhole [cU])) := by
  refine okV F sc_is_whole rfl (by decide) fun cdv A outer s H E hr => ⟨_, (pss_one (ps_ret (pe_and (pe_callB (call_isiK' K) (by rfl) M.m_isinstance (by decide +kernel) (pa_cons (pv 0) (pa_cons (pe_bltn (v := .ty "int") (by rfl) M.m_int (by decide +kernel) rfl) pa_nil))) (pe_one (pe_not (pe_callB (call_isiK' K) (by rfl) M.m_isinstance (by decide +kernel) (pa_cons (pv 0) (pa_cons (pe_bltn (v := .ty "bool") (by rfl) M.m_bool (by decide +kernel) rfl) pa_nil)))))))), fun Z hb hE hs => ⟨_, (s_ret (v_andV (v_cb (b_isi (T := "int") (cs := [cU]) (hc := M.kinds)) (v_consB (TrE.b v_var) (v_consB (TrE.b v_ty) v_nilB))) (v_notV (v_cb (b_isi (T := "bool") (cs := [cU]) (hc := M.kinds)) (v_consB (TrE.b v_var) (v_consB (TrE.b v_ty) v_nilB)))))), fun us post hl hW => ?_⟩⟩
  obtain ⟨x, rfl, ha, p⟩ := hW
  refine ⟨x, rfl, x, rfl, ha, _, rfl, ?_⟩
  cases x <;> first | exact iteF p | exact iteT ⟨_, rfl, _, rfl, ha, _, rfl, p⟩
theorem sc_is_within : FnScope ["thing", "low", "high"] ["thing", "low", "high"] (defScope s_is_within) := ⟨rfl, rfl, rfl, by decide +kernel, rfl, by decide +kernel, by decide +kernel⟩
theorem ok_is_within (M : MF P w K mg cR iR cT iT cO cU fU lU tU gU cL) (F_is_whole : FnC P w K mg base CX0 1 "is_whole" ["thing"] (spV false 1 (WWhole [cU]))) (F : Fun K "is_within" "is_within" s_is_within f fd) : FnOk P w K mg base CX0 2 f fd ["thing", "low", "high"] (spV false 3 (WWithin [cU])) := by
  refine okV F sc_is_within rfl (by decide) fun cdv A outer s H E hr => ⟨_, (pss_one (ps_ret (pe_and (pe_f F_is_whole hr (by omega) pass0 (pa_cons (pv 0) pa_nil)) (pe_one (pe_chain op_le op_le (pv 1) (pv 0) (pv 2)))))), fun Z hb hE hs => ⟨_, (s_ret (v_andV (v_call ple0 (v_cons v_var v_nil)) (v_chain o_IB o_IB (TrE.b v_var) (TrE.b v_var) (TrE.b v_var)))), fun us post hl hW => ?_⟩⟩
  obtain ⟨x, lo, hi, rfl, ha, p⟩ := hW
  refine ⟨x, rfl, rfl, x, rfl, ha, _, rfl, ?_⟩
  cases x <;> first | exact iteF p | skip
  rename_i i
  refine iteT ⟨_, rfl, _, rfl, _, rfl, _, rfl, ?_⟩
  by_cases c : lo ≤ i
  · rw [decide_eq_true c]
    have p' : post (.bl (decide (lo ≤ i) && decide (i ≤ hi))) := p
    rw [decide_eq_true c] at p'
    exact iteT ⟨_, rfl, _, rfl, p'⟩
  · rw [decide_eq_false c]
    have p' : post (.bl (decide (lo ≤ i) && decide (i ≤ hi))) := p
    rw [decide_eq_false c] at p'
    exact iteF p'
theorem sc_items_of : FnScope ["thing"] ["thing"] (defScope s_items_of) := ⟨rfl, rfl, rfl, by decide +kernel, rfl, by decide +kernel, by decide +kernel⟩
theorem ok_items_of (M : MF P w K mg cR iR cT iT cO cU fU lU tU gU cL) (F : Fun K "items_of" "items_of" s_items_of f fd) : FnOk P w K mg base CX0 1 f fd ["thing"] (spV false 1 (WItems [cU])) := by
  refine okV F sc_items_of rfl (by decide) fun cdv A outer s H E hr => ⟨_, (pss_cons (ps_if (pt_val (pe_callB (call_isiTK K) (by rfl) M.m_isinstance (by decide +kernel) (pa_cons (pv 0) (pa_cons (pe_tup (pa_cons (pe_bltn (v := .ty "tuple") (by rfl) M.m_tuple (by decide +kernel) rfl) (pa_cons (pe_bltn (v := .ty "list") (by rfl) M.m_list (by decide +kernel) rfl) pa_nil))) pa_nil))))
      (pss_one (ps_ret (pe_callTy (call_tupleK K) (by rfl) M.m_tuple (by decide +kernel) (pa_cons (pv 0) pa_nil)))) pss_nil)
      (pss_one (ps_ret pe_non))), fun Z hb hE hs => ⟨_, (s_seq (s_if (v_tB (v_cb (b_isi2 (T1 := "tuple") (T2 := "list") (cs := [cU]) (hc := M.kinds)) (v_consB (TrE.b v_var) (v_consB (TrE.b (v_tup (v_cons v_ty (v_cons v_ty v_nil)))) v_nilB))))
      (s_ret (v_cb b_tuple (v_consB (TrE.b v_var) v_nilB))) s_nil)
      (s_ret v_non)), fun us post hl hW => ?_⟩⟩
  obtain ⟨x, rfl, ha, p⟩ := hW
  refine ⟨x, rfl, by show 2 ≤ 100000; decide, x, rfl, ha, _, rfl, ?_⟩
  cases x <;> first | exact iteF p | skip
  · exact iteT ⟨_, rfl, _, .inl rfl, p⟩
  · exact iteT ⟨_, rfl, _, .inr rfl, p⟩
end

section
variable {P : Program} {w : World} {K : PySem.W.Frag} {mg : Str → Option Value} {base : Heap} {cR iR cT iT cO cU fU lU tU gU cL : Addr} {fdU fdL fdT fdG : FuncData} {f : Addr} {fd : FuncData}
/-! ### is_rising, is_sign -/
theorem sc_is_rising : FnScope ["things", "one", "other"] ["things"] (defScope s_is_rising) := ⟨rfl, rfl, rfl, by decide +kernel, rfl, by decide +kernel, by decide +kernel⟩
def WRising : Wf := fun us post _ => ∃ xs, us = [.tup xs] ∧ xs.length ≤ 100000 ∧ (∀ p ∈ xs.zip (xs.drop 1), ∃ b, ltU p.1 p.2 = some b) ∧ post (.bl (risU xs))
theorem ok_is_rising (M : MF P w K mg cR iR cT iT cO cU fU lU tU gU cL) (F : Fun K "is_rising" "is_rising" s_is_rising f fd) : FnOk P w K mg base CX0 1 f fd ["things"] (spV false 1 WRising) := by
  refine okV F sc_is_rising rfl (by decide) fun cdv A outer s H E hr => ⟨_, (pss_one (ps_ret (pe_callB (cr_allK K rfl) (by rfl) M.m_all (by decide +kernel) (pa_cons (pe_lc (own := [("one", 1), ("other", 2)]) (tt := tYes) rfl sc_is_rising.nd (RZ.pi_zipA (by rfl) M.m_zip (pa_cons (pv 0) (pa_cons (pe_slice (sl_tupV K) (pv 0) (po_some pe_int) po_none) pa_nil))) (blkOk_by (N := ["things", "one", "other"]) (sc := defScope s_is_rising) (by decide +kernel)) (fun _ _ _ _ _ => (pg_tupK (n := 2) K rfl (pgs_cons (pg_name (i := 1) sc_is_rising.nd rfl (Or.inl rfl)) (pgs_cons (pg_name (i := 2) sc_is_rising.nd rfl (Or.inl rfl)) pgs_nil)))) (fun _ _ _ _ _ => pts_nil) (fun _ _ _ _ _ => (pe_cmpR op_ltD (pv 1) (pv 2) (nomark _)))) pa_nil)))), fun Z hb hE hs => ⟨_, (s_ret (v_cb b_all (v_consB (TrF.b (v_lc (i_zip (v_cons v_var (v_cons (v_slT v_var (v_part v_int) v_noPart) v_nil))) (g_tup (gs_cons (g_name (by decide)) (gs_cons (g_name (by decide)) gs_nil))) v_yes (v_op o_ltD (TrE.b v_var) (TrE.b v_var)))) v_nilB))), fun us post hl hW => ?_⟩⟩
  obtain ⟨xs, rfl, hz, hlt, p⟩ := hW
  refine ⟨_, rfl, _, rfl, 1, rfl, _, tailU xs, xs, xs.drop 1, .inr rfl, fun i acc => acc = (((xs.zip (xs.drop 1)).take i).map fun p => (ltU p.1 p.2).getD false).map U.bl, rfl, ?_, ?_⟩
  · rintro i u acc e h
    unfold zipU at e
    rw [List.getElem?_map] at e
    cases q : (xs.zip (xs.drop 1))[i]? with
    | none => rw [q] at e; cases e
    | some x =>
      rw [q] at e
      cases e
      obtain ⟨b, hb⟩ := hlt x (List.mem_of_getElem? q)
      refine lcI ⟨_, rfl, rfl, _, _, rfl, _, _, rfl, rfl, _, rfl, _, rfl, .bl b, by unfold fLtD; rw [hb]; rfl, ?_⟩
      show acc ++ [U.bl b] = _
      rw [h, take_more q, List.map_append, List.map_append, List.map_cons, hb]
      rfl
  · rintro acc h
    have h' : acc = (((xs.zip (xs.drop 1)).take (zipU xs (xs.drop 1)).length).map fun p => (ltU p.1 p.2).getD false).map U.bl := h
    rw [show (zipU xs (xs.drop 1)).length = (xs.zip (xs.drop 1)).length from List.length_map _, List.take_length] at h'
    refine ⟨_, by rw [h'], ?_⟩
    rw [List.all_map]
    exact p
theorem sc_is_sign : FnScope ["thing"] ["thing"] (defScope s_is_sign) := ⟨rfl, rfl, rfl, by decide +kernel, rfl, by decide +kernel, by decide +kernel⟩
def WIsSign (cs : List Addr) : Wf := fun us post _ => ∃ x, us = [x] ∧ asks cs x ∧ post (.bl (signU x))
theorem ok_is_sign (M : MF P w K mg cR iR cT iT cO cU fU lU tU gU cL) (F : Fun K "is_sign" "is_sign" s_is_sign f fd) : FnOk P w K mg base CX0 1 f fd ["thing"] (spV false 1 (WIsSign [cU])) := by
  obtain ⟨tS, gS⟩ := M.g_SIGNS
  refine okV F sc_is_sign rfl (by decide) fun cdv A outer s H E hr => ⟨_, (pss_one (ps_ret (pe_and (pe_callB (call_isiK' K) (by rfl) M.m_isinstance (by decide +kernel) (pa_cons (pv 0) (pa_cons (pe_bltn (v := .ty "str") (by rfl) M.m_str (by decide +kernel) rfl) pa_nil))) (pe_and (pe_cmpR (op_eqV K hr.units) (pe_callB (call_lenV K) (by rfl) M.m_len PySem.boot_len (pa_cons (pv 0) pa_nil)) pe_int (nomark _)) (pe_one (pe_cmpR (op_inV K) (pv 0) (pe_glob (v := .str SG) rfl gS ⟨_, rfl⟩) (by rfl))))))), fun Z hb hE hs => ⟨_, (s_ret (v_andV (v_cb (b_isi (T := "str") (cs := [cU]) (hc := M.kinds)) (v_consB (TrE.b v_var) (v_consB (TrE.b v_ty) v_nilB))) (v_andV (v_op o_eq (TrE.b (v_cb b_len (v_consB (TrE.b v_var) v_nilB))) (TrE.b v_int)) (v_op o_in (TrE.b v_var) (TrE.b (v_str (by decide +kernel))))))), fun us post hl hW => ?_⟩⟩
  obtain ⟨x, rfl, ha, p⟩ := hW
  cases x with
  | str s =>
    refine ⟨_, rfl, _, rfl, trivial, true, rfl, iteT ⟨_, rfl, _, s.length, rfl, rfl, _, fEq_int _ _, _, rfl, ?_⟩⟩
    by_cases c : s.length = 1
    · rw [decide_eq_true (by omega)]
      refine iteT ⟨_, rfl, _, rfl, ?_⟩
      have p' : post (.bl (decide (s.length = 1) && strIn s SG)) := p
      rw [decide_eq_true c] at p'
      exact p'
    · rw [decide_eq_false (by omega)]
      refine iteF ?_
      have p' : post (.bl (decide (s.length = 1) && strIn s SG)) := p
      rw [decide_eq_false c] at p'
      exact p'
  | non => exact ⟨_, rfl, _, rfl, ha, false, rfl, iteF p⟩
  | bl _ => exact ⟨_, rfl, _, rfl, ha, false, rfl, iteF p⟩
  | int _ => exact ⟨_, rfl, _, rfl, ha, false, rfl, iteF p⟩
  | lst _ => exact ⟨_, rfl, _, rfl, ha, false, rfl, iteF p⟩
  | tup _ => exact ⟨_, rfl, _, rfl, ha, false, rfl, iteF p⟩
  | dic _ => exact ⟨_, rfl, _, rfl, ha, false, rfl, iteF p⟩
  | dit _ => exact ⟨_, rfl, _, rfl, ha, false, rfl, iteF p⟩
  | ins _ _ => exact ⟨_, rfl, _, rfl, ha, false, rfl, iteF p⟩
  | pool => exact ha.elim
  | ty _ => exact ha.elim
end

end K12
namespace K12
open PySem PySem.Spec PyProof.Rows L2 SL SV
local macro_rules | `(tactic| ac_rfl) => `(tactic| (repeat first | refine ⟨_, rfl, ?_⟩ | refine ⟨rfl, ?_⟩ | refine iteT ?_ | refine iteF ?_ | refine ⟨trivial, ?_⟩ | refine ⟨Nat.le_of_ble_eq_true rfl, ?_⟩ | refine ⟨_, _, rfl, rfl, ?_⟩ | refine ⟨_, _, rfl, ?_⟩ | refine ⟨_, .inl rfl, ?_⟩ | refine ⟨_, .inr rfl, ?_⟩ | refine .inl ⟨_, rfl, ?_⟩ | refine .inr ⟨_, rfl, ?_⟩ | refine ⟨_, _, .inl rfl, ?_⟩ | refine ⟨_, _, .inr rfl, ?_⟩ | refine ⟨by decide, ?_⟩))
section
variable {P : Program} {w : World} {K : PySem.W.Frag} {mg : Str → Option Value} {base : Heap} {cR iR cT iT cO cU fU lU tU gU cL : Addr} {fdU fdL fdT fdG : FuncData} {f : Addr} {fd : FuncData}
/-! ### signs_of, _are_states -/
def partEw (c : Addr) (s : Str) (ew : EW) : Prop := ew c [("part", .str s)]
theorem in_len {lo hi : Int} {n : Nat} {post : Bool → Prop} (h : post (decide (lo ≤ (n : Int)) && decide ((n : Int) ≤ hi))) : ∃ z, (fII fun i j => U.bl (decide (i ≤ j))) (.int lo) (.int (n : Int)) = some z ∧ ∃ k, z = .bl k ∧ if k = true then ∃ r, (fII fun i j => U.bl (decide (i ≤ j))) (.int (n : Int)) (.int hi) = some r ∧ ∃ c, r = .bl c ∧ post c else ∃ c, (U.bl false) = .bl c ∧ post c := by
  refine ⟨_, rfl, _, rfl, ?_⟩
  by_cases c : lo ≤ (n : Int)
  · rw [decide_eq_true c] at h ⊢
    exact iteT ⟨_, rfl, _, rfl, h⟩
  · rw [decide_eq_false c] at h ⊢
    exact iteF ⟨_, rfl, h⟩
def signsB (d : U) : Bool := match itemsU d with
  | some us => (decide ((1 : Int) ≤ us.length) && decide ((us.length : Int) ≤ 10)) && us.all signU && risU us
  | none => false
theorem signU_lt {us : List U} (h : us.all signU = true) : ∀ p ∈ us.zip (us.drop 1), ∃ b, ltU p.1 p.2 = some b := fun p hp => by
  have h1 := List.all_eq_true.mp h p.1 (List.of_mem_zip hp).1
  have h2 := List.all_eq_true.mp h p.2 (List.mem_of_mem_drop (List.of_mem_zip hp).2)
  obtain ⟨x, y⟩ := p
  cases x <;> first | cases h1 | skip
  cases y <;> first | cases h2 | skip
  exact ⟨_, rfl⟩
theorem sc_signs_of : FnScope ["thing", "signs", "sign"] ["thing"] (defScope s_signs_of) := ⟨rfl, rfl, rfl, by decide +kernel, rfl, by decide +kernel, by decide +kernel⟩
def WSignsOf (cs : List Addr) (cR : Addr) : Wf := fun us post ew => ∃ d, us = [d] ∧ asks cs d ∧ (∀ xs, itemsU d = some xs → xs.length ≤ 100000 ∧ ∀ x ∈ xs, asks cs x) ∧ (∀ xs, itemsU d = some xs → signsB d = true → post (.tup xs)) ∧ (signsB d = false → partEw cR "signs" ew)
theorem ok_signs_of (M : MF P w K mg cR iR cT iT cO cU fU lU tU gU cL) (F_items_of : FnC P w K mg base CX0 1 "items_of" ["thing"] (spV false 1 (WItems [cU]))) (F_is_sign : FnC P w K mg base CX0 1 "is_sign" ["thing"] (spV false 1 (WIsSign [cU]))) (F_is_rising : FnC P w K mg base CX0 1 "is_rising" ["things"] (spV false 1 WRising)) (F : Fun K "signs_of" "signs_of" s_signs_of f fd) : FnOk P w K mg base (L2.CX P w) 4 f fd ["thing"] (spV false 1 (WSignsOf [cU] cR)) := by
  refine okVX (k := 3) F sc_signs_of rfl (by decide) fun cdv A outer s H E hr => ⟨_, (pss_cons (ps_set (i := 1) sc_signs_of.nd rfl (Or.inl rfl) (pe_f F_items_of hr (by omega) pass0 (pa_cons (pv 0) pa_nil)))
      (pss_cons (ps_if (PW.pt (pw_or (pt_cmpR op_isN (pv 1) pe_non (nomark _)) (pw_or1 (pt_not (pt_chain op_le op_le pe_int (pe_callB (call_lenV K) (by rfl) M.m_len PySem.boot_len (pa_cons (pv 1) pa_nil)) pe_int)))))
      (pss_one (ps_raiseEx rfl M.x_BadRule hr (takes_of rfl rfl rfl rfl) (pa_cons pe_str pa_nil))) pss_nil)
      (pss_cons (ps_if (PW.pt (pw_or (pt_not (pt_val (pe_callB (cr_allK K rfl) (by rfl) M.m_all (by decide +kernel) (pa_cons (pe_lc (own := [("sign", 2)]) (tt := tYes) rfl sc_signs_of.nd (pi_seq K (pv 1)) (blkOk_by (N := ["thing", "signs", "sign"]) (sc := defScope s_signs_of) (by decide +kernel)) (fun _ _ _ _ _ => (pg_name (i := 2) sc_signs_of.nd rfl (Or.inl rfl))) (fun _ _ _ _ _ => pts_nil) (fun _ _ _ _ _ => (pe_f F_is_sign hr (by omega) pass0 (pa_cons (pv 2) pa_nil)))) pa_nil)))) (pw_or1 (pt_not (pt_val (pe_f F_is_rising hr (by omega) pass0 (pa_cons (pv 1) pa_nil)))))))
      (pss_one (ps_raiseEx rfl M.x_BadRule hr (takes_of rfl rfl rfl rfl) (pa_cons pe_str pa_nil))) pss_nil)
      (pss_one (ps_ret (pv 1)))))), fun Z hb hE hs => ⟨_, (s_seq (s_set (v_call ple0 (v_cons v_var v_nil)))
      (s_seq (s_if (v_or (v_test (v_op o_isN (TrE.b v_var) (TrE.b v_non))) (v_not (v_test (v_chain o_IB o_IB (TrE.b v_int) (TrE.b (v_cb b_len (v_consB (TrE.b v_var) v_nilB))) (TrE.b v_int)))))
      (s_raise hE (v_cons v_str v_nil)) s_nil)
      (s_seq (s_if (v_or (v_not (v_tB (v_cb b_all (v_consB (TrF.b (v_lc (i_seq v_var) (g_name (by decide)) v_yes (v_call ple0 (v_cons v_var v_nil)))) v_nilB)))) (v_not (v_tB (v_call ple0 (v_cons v_var v_nil)))))
      (s_raise hE (v_cons v_str v_nil)) s_nil)
      (s_ret v_var)))), fun us post hl hW => ?_⟩⟩
  obtain ⟨d, rfl, ha, hx, hy, hn⟩ := hW
  refine ⟨_, rfl, rfl, d, rfl, ha, ?_⟩
  cases hd : itemsU d with
  | none =>
    refine ⟨_, rfl, _, rfl, true, rfl, iteT (iteT ⟨_, rfl, okMsg_str, hn ?_⟩)⟩
    unfold signsB
    rw [hd]
  | some xs =>
    obtain ⟨lx, ax⟩ := hx xs hd
    have hy := hy xs hd
    have sE : signsB d = ((decide ((1 : Int) ≤ xs.length) && decide ((xs.length : Int) ≤ 10)) && xs.all signU && risU xs) := by
      unfold signsB
      rw [hd]
    rw [sE] at hy hn
    refine ⟨_, rfl, _, rfl, false, rfl, iteF ⟨_, rfl, _, xs.length, rfl, rfl, in_len ?_⟩⟩
    cases hl : (decide ((1 : Int) ≤ xs.length) && decide ((xs.length : Int) ≤ 10)) with
    | false => exact iteT ⟨_, rfl, okMsg_str, hn (by rw [hl]; rfl)⟩
    | true =>
      refine iteF ?_
      refine ⟨_, rfl, _, rfl, fun i acc => acc = ((xs.take i).map signU).map U.bl, rfl, ?_, ?_⟩
      · rintro i u acc e h
        refine lcI ⟨_, rfl, rfl, u, rfl, ax u (List.mem_of_getElem? e), ?_⟩
        show acc ++ [U.bl (signU u)] = _
        rw [h, take_more e, List.map_append, List.map_append]
        rfl
      · rintro acc h
        have h' : acc = ((xs.take xs.length).map signU).map U.bl := h
        rw [List.take_length] at h'
        refine ⟨_, by rw [h'], ?_⟩
        rw [List.all_map, show (id ∘ signU) = signU from rfl]
        cases hs2 : xs.all signU with
        | false => exact ⟨false, rfl, iteT (iteT ⟨_, rfl, okMsg_str, hn (by rw [hl, hs2]; rfl)⟩)⟩
        | true =>
          refine ⟨true, rfl, iteF ⟨_, rfl, rfl, xs, rfl, lx, signU_lt hs2, ?_⟩⟩
          cases hr2 : risU xs with
          | false => exact ⟨false, rfl, iteT ⟨_, rfl, okMsg_str, hn (by rw [hl, hs2, hr2]; rfl)⟩⟩
          | true => exact ⟨true, rfl, iteF ⟨_, rfl, hy (by rw [hl, hs2, hr2]; rfl)⟩⟩
theorem sc_are_states : FnScope ["things", "many", "thing"] ["things", "many"] (defScope s_are_states) := ⟨rfl, rfl, rfl, by decide +kernel, rfl, by decide +kernel, by decide +kernel⟩
def WStates (cs : List Addr) : Wf := fun us post _ => ∃ (xs : List U) (n : Int), us = [.tup xs, .int n] ∧ (∀ x ∈ xs, asks cs x) ∧ post (.bl (xs.all (withinU 0 (n - 1))))
theorem ok_are_states (M : MF P w K mg cR iR cT iT cO cU fU lU tU gU cL) (F_is_within : FnC P w K mg base CX0 2 "is_within" ["thing", "low", "high"] (spV false 3 (WWithin [cU]))) (F : Fun K "_are_states" "_are_states" s_are_states f fd) : FnOk P w K mg base CX0 3 f fd ["things", "many"] (spV false 2 (WStates [cU])) := by
  refine okV (k := 2) F sc_are_states rfl (by decide) fun cdv A outer s H E hr => ⟨_, (pss_one (ps_ret (pe_callB (cr_allK K rfl) (by rfl) M.m_all (by decide +kernel) (pa_cons (pe_lc (own := [("thing", 2)]) (tt := tYes) rfl sc_are_states.nd (pi_seq K (pv 0)) (blkOk_by (N := ["things", "many", "thing"]) (sc := defScope s_are_states) (by decide +kernel)) (fun _ _ _ _ _ => (pg_name (i := 2) sc_are_states.nd rfl (Or.inl rfl))) (fun _ _ _ _ _ => pts_nil) (fun _ _ _ _ _ => (pe_f F_is_within hr (by omega) pass0 (pa_cons (pv 2) (pa_cons pe_int (pa_cons (pe_op op_sub (pv 1) pe_int) pa_nil)))))) pa_nil)))), fun Z hb hE hs => ⟨_, (s_ret (v_cb b_all (v_consB (TrF.b (v_lc (i_seq v_var) (g_name (by decide)) v_yes (v_call ple0 (v_cons v_var (v_cons v_int (v_cons (v_op o_II (TrE.b v_var) (TrE.b v_int)) v_nil)))))) v_nilB))), fun us post hl hW => ?_⟩⟩
  obtain ⟨xs, n, rfl, ax, p⟩ := hW
  refine ⟨_, rfl, _, rfl, fun i acc => acc = ((xs.take i).map (withinU 0 (n - 1))).map U.bl, rfl, ?_, ?_⟩
  · rintro i u acc e h
    refine lcI ⟨_, rfl, _, rfl, _, rfl, rfl, u, 0, n - 1, rfl, ax u (List.mem_of_getElem? e), ?_⟩
    show acc ++ [U.bl (withinU 0 (n - 1) u)] = _
    rw [h, take_more e, List.map_append, List.map_append]
    rfl
  · rintro acc h
    have h' : acc = ((xs.take xs.length).map (withinU 0 (n - 1))).map U.bl := h
    rw [List.take_length] at h'
    refine ⟨_, by rw [h'], ?_⟩
    rw [List.all_map]
    exact p
end

end K12
namespace K12
open PySem PySem.Spec PyProof.Rows L2 SL SV
local macro_rules | `(tactic| ac_rfl) => `(tactic| (repeat first | refine ⟨_, rfl, ?_⟩ | refine ⟨rfl, ?_⟩ | refine iteT ?_ | refine iteF ?_ | refine ⟨trivial, ?_⟩ | refine ⟨Nat.le_of_ble_eq_true rfl, ?_⟩ | refine ⟨_, _, rfl, rfl, ?_⟩ | refine ⟨_, _, rfl, ?_⟩ | refine ⟨_, .inl rfl, ?_⟩ | refine ⟨_, .inr rfl, ?_⟩ | refine .inl ⟨_, rfl, ?_⟩ | refine .inr ⟨_, rfl, ?_⟩ | refine ⟨_, _, .inl rfl, ?_⟩ | refine ⟨_, _, .inr rfl, ?_⟩ | refine ⟨by decide, ?_⟩))
section
variable {P : Program} {w : World} {K : PySem.W.Frag} {mg : Str → Option Value} {base : Heap} {cR iR cT iT cO cU fU lU tU gU cL : Addr} {fdU fdL fdT fdG : FuncData} {f : Addr} {fd : FuncData}
/-! ### _moves_of, _good_of -/
def rowOk (w n : Int) (x : U) : Bool := match itemsU x with
  | some xs => decide ((xs.length : Int) = w) && xs.all (withinU 0 (n - 1))
  | none => false
def movesB (w : Int) (d : U) : Bool := match itemsU d with
  | some rows => (decide ((1 : Int) ≤ rows.length) && decide ((rows.length : Int) ≤ 40)) && rows.all (rowOk w rows.length)
  | none => false
theorem sc_moves_of : FnScope ["thing", "width", "rows", "kept", "row"] ["thing", "width"] (defScope s_moves_of) := ⟨rfl, rfl, rfl, by decide +kernel, rfl, by decide +kernel, by decide +kernel⟩
def WMovesOf (cs : List Addr) (cR : Addr) : Wf := fun us post ew => ∃ d w, us = [d, .int w] ∧ asks cs d ∧ (∀ rows, itemsU d = some rows → rows.length ≤ 100000 ∧ ∀ r ∈ rows, asks cs r ∧ ∀ xs, itemsU r = some xs → ∀ x ∈ xs, asks cs x) ∧ (∀ rows, itemsU d = some rows → movesB w d = true → post (.tup (rows.map fun r => optU (itemsU r)))) ∧ (movesB w d = false → partEw cR "moves" ew)
theorem ok_moves_of (M : MF P w K mg cR iR cT iT cO cU fU lU tU gU cL) (F_items_of : FnC P w K mg base CX0 1 "items_of" ["thing"] (spV false 1 (WItems [cU]))) (F_are_states : FnC P w K mg base CX0 3 "_are_states" ["things", "many"] (spV false 2 (WStates [cU]))) (F : Fun K "_moves_of" "_moves_of" s_moves_of f fd) : FnOk P w K mg base (L2.CX P w) 5 f fd ["thing", "width"] (spV false 2 (WMovesOf [cU] cR)) := by
  refine okVX (k := 4) F sc_moves_of rfl (by decide) fun cdv A outer s H E hr => ⟨_, (pss_cons (ps_set (i := 2) sc_moves_of.nd rfl (Or.inl rfl) (pe_f F_items_of hr (by omega) pass0 (pa_cons (pv 0) pa_nil)))
      (pss_cons (ps_if (PW.pt (pw_or (pt_cmpR op_isN (pv 2) pe_non (nomark _)) (pw_or1 (pt_not (pt_chain op_le op_le pe_int (pe_callB (call_lenV K) (by rfl) M.m_len PySem.boot_len (pa_cons (pv 2) pa_nil)) pe_int)))))
      (pss_one (ps_raiseEx rfl M.x_BadRule hr (takes_of rfl rfl rfl rfl) (pa_cons pe_str pa_nil))) pss_nil)
      (pss_cons (ps_setLc (i := 3) (own := [("row", 4)]) (tt := tYes) rfl sc_moves_of.nd rfl rfl (sw_true rfl rfl rfl (by decide +kernel)) (pi_seq K (pv 2)) (blkOk_by (N := ["thing", "width", "rows", "kept", "row"]) (sc := defScope s_moves_of) (by decide +kernel)) (fun _ _ _ _ _ => (pg_name (i := 4) sc_moves_of.nd rfl (Or.inl rfl))) (fun _ _ _ _ _ => pts_nil) (fun _ _ _ _ _ => (pe_f F_items_of hr (by omega) pass0 (pa_cons (pv 4) pa_nil))))
      (pss_cons (ps_for (passes_of rfl) rfl (pi_seq K (pv 3)) (pg_name (i := 4) sc_moves_of.nd rfl (Or.inl rfl))
      (pss_one (ps_if (PW.pt (pw_or (pt_cmpR op_isN (pv 4) pe_non (nomark _)) (pw_or (pt_cmpR (op_neV K hr.units) (pe_callB (call_lenV K) (by rfl) M.m_len PySem.boot_len (pa_cons (pv 4) pa_nil)) (pv 1) (nomark _)) (pw_or1 (pt_not (pt_val (pe_f F_are_states hr (by omega) pass0 (pa_cons (pv 4) (pa_cons (pe_callB (call_lenV K) (by rfl) M.m_len PySem.boot_len (pa_cons (pv 3) pa_nil)) pa_nil)))))))))
      (pss_one (ps_raiseEx rfl M.x_BadRule hr (takes_of rfl rfl rfl rfl) (pa_cons pe_str pa_nil))) pss_nil)))
      (pss_one (ps_ret (pe_callTy (call_tupleK K) (by rfl) M.m_tuple (by decide +kernel) (pa_cons (pv 3) pa_nil)))))))), fun Z hb hE hs => ⟨_, (s_seq (s_set (v_call ple0 (v_cons v_var v_nil)))
      (s_seq (s_if (v_or (v_test (v_op o_isN (TrE.b v_var) (TrE.b v_non))) (v_not (v_test (v_chain o_IB o_IB (TrE.b v_int) (TrE.b (v_cb b_len (v_consB (TrE.b v_var) v_nilB))) (TrE.b v_int)))))
      (s_raise hE (v_cons v_str v_nil)) s_nil)
      (s_seq (s_set (TrF.e (v_lc (i_seq v_var) (g_name (by decide)) v_yes (v_call ple0 (v_cons v_var v_nil)))))
      (s_seq (s_for (vs := [4]) (i_seq v_var) (g_name (by decide))
      (s_if (v_or (v_test (v_op o_isN (TrE.b v_var) (TrE.b v_non))) (v_or (v_test (v_op o_ne (TrE.b (v_cb b_len (v_consB (TrE.b v_var) v_nilB))) (TrE.b v_var))) (v_not (v_tB (v_call ple0 (v_cons v_var (v_cons (v_cb b_len (v_consB (TrE.b v_var) v_nilB)) v_nil)))))))
      (s_raise hE (v_cons v_str v_nil)) s_nil))
      (s_ret (v_cb b_tuple (v_consB (TrE.b v_var) v_nilB))))))), fun us post hl hW => ?_⟩⟩
  obtain ⟨d, wd, rfl, ha, hx, hy, hn⟩ := hW
  refine ⟨_, rfl, rfl, d, rfl, ha, ?_⟩
  cases hd : itemsU d with
  | none =>
    refine ⟨_, rfl, _, rfl, true, rfl, iteT (iteT ⟨_, rfl, okMsg_str, hn ?_⟩)⟩
    unfold movesB
    rw [hd]
  | some rows =>
    obtain ⟨lx, ax⟩ := hx rows hd
    have hy := hy rows hd
    have sE : movesB wd d = ((decide ((1 : Int) ≤ rows.length) && decide ((rows.length : Int) ≤ 40)) && rows.all (rowOk wd rows.length)) := by
      unfold movesB
      rw [hd]
    rw [sE] at hy hn
    refine ⟨_, rfl, _, rfl, false, rfl, iteF ⟨_, rfl, _, rows.length, rfl, rfl, in_len ?_⟩⟩
    cases hl : (decide ((1 : Int) ≤ rows.length) && decide ((rows.length : Int) ≤ 40)) with
    | false => exact iteT ⟨_, rfl, okMsg_str, hn (by rw [hl]; rfl)⟩
    | true =>
      refine iteF ?_
      refine ⟨_, rfl, _, rfl, fun i acc => acc = (rows.take i).map fun r => optU (itemsU r), rfl, ?_, ?_⟩
      · rintro i u acc e h
        exact lcI ⟨_, rfl, rfl, u, rfl, (ax u (List.mem_of_getElem? e)).1, map_step (fun r => optU (itemsU r)) h e⟩
      · rintro acc h
        have h' : acc = (rows.take rows.length).map fun r => optU (itemsU r) := h
        rw [List.take_length] at h'
        subst h'
        have kl : (rows.map fun r => optU (itemsU r)).length = rows.length := List.length_map _
        refine ⟨_, rfl, _, rfl, fun i ρ => ∃ a4 : Cell, ρ = [.fz d, .fz (.int wd), .fz (.tup rows), .fz (.lst (rows.map fun r => optU (itemsU r))), a4] ∧ (rows.take i).all (rowOk wd rows.length) = true, ⟨_, rfl, rfl⟩, ?_, ?_⟩
        · rintro i u _ e ⟨a4, rfl, hi⟩
          rw [List.getElem?_map] at e
          cases q : rows[i]? with
          | none => rw [q] at e; cases e
          | some x =>
            rw [q] at e
            have e : some (optU (itemsU x)) = some u := e
            have mx := List.mem_of_getElem? q
            have bad : rowOk wd rows.length x = false → rows.all (rowOk wd rows.length) = false := fun z => by
              rw [List.all_eq_false]
              exact ⟨x, mx, by rw [z]; exact Bool.false_ne_true⟩
            cases hx2 : itemsU x with
            | none =>
              rw [hx2] at e
              cases e
              refine ⟨_, rfl, _, rfl, true, rfl, iteT (iteT ⟨_, rfl, okMsg_str, hn ?_⟩)⟩
              rw [hl, bad (by unfold rowOk; rw [hx2])]
              rfl
            | some xs =>
              rw [hx2] at e
              cases e
              have rE : rowOk wd rows.length x = (decide ((xs.length : Int) = wd) && xs.all (withinU 0 ((rows.length : Int) - 1))) := by
                unfold rowOk
                rw [hx2]
              refine ⟨_, rfl, _, rfl, false, rfl, iteF ⟨_, rfl, _, xs.length, rfl, rfl, _, rfl, _, fNe_int _ _, _, rfl, ?_⟩⟩
              cases hw : decide ((xs.length : Int) = wd) with
              | false =>
                refine iteT (iteT ⟨_, rfl, okMsg_str, hn ?_⟩)
                rw [hl, bad (by rw [rE, hw]; rfl)]
                rfl
              | true =>
                refine iteF ⟨_, rfl, _, rfl, _, rows.length, rfl, congrArg some kl, rfl, xs, (rows.length : Int), rfl, (ax x mx).2 xs hx2, ?_⟩
                cases hs2 : xs.all (withinU 0 ((rows.length : Int) - 1)) with
                | false =>
                  refine ⟨false, rfl, iteT ⟨_, rfl, okMsg_str, hn ?_⟩⟩
                  rw [hl, bad (by rw [rE, hw, hs2]; rfl)]
                  rfl
                | true =>
                  refine ⟨true, rfl, iteF ⟨_, rfl, ?_⟩⟩
                  rw [take_more q, List.all_append, hi, List.all_cons, rE, hw, hs2]
                  rfl
        · rintro _ ⟨a4, rfl, hi⟩
          rw [kl, List.take_length] at hi
          exact ⟨_, rfl, _, .inl rfl, hy (by rw [hl, hi]; rfl)⟩
def goodB (n : Int) (d : U) : Bool := match itemsU d with
  | some xs => xs.all (withinU 0 (n - 1)) && risU xs
  | none => false
theorem within_lt {lo hi : Int} {us : List U} (h : us.all (withinU lo hi) = true) : ∀ p ∈ us.zip (us.drop 1), ∃ b, ltU p.1 p.2 = some b := fun p hp => by
  have h1 := List.all_eq_true.mp h p.1 (List.of_mem_zip hp).1
  have h2 := List.all_eq_true.mp h p.2 (List.mem_of_mem_drop (List.of_mem_zip hp).2)
  obtain ⟨x, y⟩ := p
  cases x <;> first | cases h1 | skip
  cases y <;> first | cases h2 | skip
  exact ⟨_, rfl⟩
theorem sc_good_of : FnScope ["thing", "many", "states"] ["thing", "many"] (defScope s_good_of) := ⟨rfl, rfl, rfl, by decide +kernel, rfl, by decide +kernel, by decide +kernel⟩
def WGoodOf (cs : List Addr) (cR : Addr) : Wf := fun us post ew => ∃ d n, us = [d, .int n] ∧ asks cs d ∧ (∀ xs, itemsU d = some xs → xs.length ≤ 100000 ∧ ∀ x ∈ xs, asks cs x) ∧ (∀ xs, itemsU d = some xs → goodB n d = true → post (.tup xs)) ∧ (goodB n d = false → partEw cR "good" ew)
theorem ok_good_of (M : MF P w K mg cR iR cT iT cO cU fU lU tU gU cL) (F_items_of : FnC P w K mg base CX0 1 "items_of" ["thing"] (spV false 1 (WItems [cU]))) (F_are_states : FnC P w K mg base CX0 3 "_are_states" ["things", "many"] (spV false 2 (WStates [cU]))) (F_is_rising : FnC P w K mg base CX0 1 "is_rising" ["things"] (spV false 1 WRising)) (F : Fun K "_good_of" "_good_of" s_good_of f fd) : FnOk P w K mg base (L2.CX P w) 5 f fd ["thing", "many"] (spV false 2 (WGoodOf [cU] cR)) := by
  refine okVX (k := 4) F sc_good_of rfl (by decide) fun cdv A outer s H E hr => ⟨_, (pss_cons (ps_set (i := 2) sc_good_of.nd rfl (Or.inl rfl) (pe_f F_items_of hr (by omega) pass0 (pa_cons (pv 0) pa_nil)))
      (pss_cons (ps_if (PW.pt (pw_or (pt_cmpR op_isN (pv 2) pe_non (nomark _)) (pw_or (pt_not (pt_val (pe_f F_are_states hr (by omega) pass0 (pa_cons (pv 2) (pa_cons (pv 1) pa_nil))))) (pw_or1 (pt_not (pt_val (pe_f F_is_rising hr (by omega) pass0 (pa_cons (pv 2) pa_nil))))))))
      (pss_one (ps_raiseEx rfl M.x_BadRule hr (takes_of rfl rfl rfl rfl) (pa_cons pe_str pa_nil))) pss_nil)
      (pss_one (ps_ret (pv 2))))), fun Z hb hE hs => ⟨_, (s_seq (s_set (v_call ple0 (v_cons v_var v_nil)))
      (s_seq (s_if (v_or (v_test (v_op o_isN (TrE.b v_var) (TrE.b v_non))) (v_or (v_not (v_tB (v_call ple0 (v_cons v_var (v_cons v_var v_nil))))) (v_not (v_tB (v_call ple0 (v_cons v_var v_nil))))))
      (s_raise hE (v_cons v_str v_nil)) s_nil)
      (s_ret v_var))), fun us post hl hW => ?_⟩⟩
  obtain ⟨d, n, rfl, ha, hx, hy, hn⟩ := hW
  refine ⟨_, rfl, rfl, d, rfl, ha, ?_⟩
  cases hd : itemsU d with
  | none =>
    refine ⟨_, rfl, _, rfl, true, rfl, iteT (iteT ⟨_, rfl, okMsg_str, hn ?_⟩)⟩
    unfold goodB
    rw [hd]
  | some xs =>
    obtain ⟨lx, ax⟩ := hx xs hd
    have hy := hy xs hd
    have sE : goodB n d = (xs.all (withinU 0 (n - 1)) && risU xs) := by
      unfold goodB
      rw [hd]
    rw [sE] at hy hn
    refine ⟨_, rfl, _, rfl, false, rfl, iteF ⟨_, rfl, _, rfl, rfl, xs, n, rfl, ax, ?_⟩⟩
    cases hs2 : xs.all (withinU 0 (n - 1)) with
    | false => exact ⟨false, rfl, iteT (iteT ⟨_, rfl, okMsg_str, hn (by rw [hs2]; rfl)⟩)⟩
    | true =>
      refine ⟨true, rfl, iteF ⟨_, rfl, rfl, xs, rfl, lx, within_lt hs2, ?_⟩⟩
      cases hr2 : risU xs with
      | false => exact ⟨false, rfl, iteT ⟨_, rfl, okMsg_str, hn (by rw [hs2, hr2]; rfl)⟩⟩
      | true => exact ⟨true, rfl, iteF ⟨_, rfl, hy (by rw [hs2, hr2]; rfl)⟩⟩
end

end K12
namespace K12
open PySem PySem.Spec PyProof.Rows L2 SL SV
local macro_rules | `(tactic| ac_rfl) => `(tactic| (repeat first | refine ⟨_, rfl, ?_⟩ | refine ⟨rfl, ?_⟩ | refine iteT ?_ | refine iteF ?_ | refine ⟨trivial, ?_⟩ | refine ⟨Nat.le_of_ble_eq_true rfl, ?_⟩ | refine ⟨_, _, rfl, rfl, ?_⟩ | refine ⟨_, _, rfl, ?_⟩ | refine ⟨_, .inl rfl, ?_⟩ | refine ⟨_, .inr rfl, ?_⟩ | refine .inl ⟨_, rfl, ?_⟩ | refine .inr ⟨_, rfl, ?_⟩ | refine ⟨_, _, .inl rfl, ?_⟩ | refine ⟨_, _, .inr rfl, ?_⟩ | refine ⟨by decide, ?_⟩))
section
variable {P : Program} {w : World} {K : PySem.W.Frag} {mg : Str → Option Value} {base : Heap} {cR iR cT iT cO cU fU lU tU gU cL : Addr} {fdU fdL fdT fdG : FuncData} {f : Addr} {fd : FuncData}
/-! ### Rule: made -/
/-- the columns of the signs -/
def colsOf : List U → Nat → List (Key × U) → List (Key × U)
  | [], _, acc => acc
  | u :: us, k, acc => colsOf us (k + 1) (match keyU u with
    | some q => putU acc q (.int (k : Int))
    | none => acc)
theorem colsOf_snoc : ∀ (us : List U) (u : U) (k : Nat) (acc : List (Key × U)), colsOf (us ++ [u]) k acc = (match keyU u with
    | some q => putU (colsOf us k acc) q (.int ((k + us.length : Nat) : Int))
    | none => colsOf us k acc)
  | [], u, k, acc => rfl
  | x :: us, u, k, acc => by
    show colsOf (us ++ [u]) (k + 1) _ = _
    rw [colsOf_snoc us u (k + 1)]
    show (match keyU u with
      | some q => putU (colsOf us (k + 1) _) q (.int ((k + 1 + us.length : Nat) : Int))
      | none => colsOf us (k + 1) _) = _
    rw [show k + 1 + us.length = k + (x :: us).length from by rw [List.length_cons]; omega]
    rfl
theorem numd_get : ∀ (us : List U) (k i : Nat) (u : U), (numd us k)[i]? = some u → ∃ x, us[i]? = some x ∧ u = .tup [.int ((k + i : Nat) : Int), x]
  | [], _, _, _, h => by simp [numd] at h
  | x :: us, k, 0, u, h => by
    simp only [numd, List.getElem?_cons_zero, Option.some.injEq] at h
    exact ⟨x, rfl, h.symm⟩
  | x :: us, k, i + 1, u, h => by
    simp only [numd, List.getElem?_cons_succ] at h
    obtain ⟨y, h1, h2⟩ := numd_get us (k + 1) i u h
    exact ⟨y, by rw [List.getElem?_cons_succ]; exact h1, by rw [h2, show k + 1 + i = k + (i + 1) from by omega]⟩
def ruleU (cU : Addr) (ss rows gd : List U) : U := .ins cU [("signs", .tup ss), ("moves", .tup rows), ("good", .tup gd), ("_columns", .dic (colsOf ss 0 []))]
theorem signU_key {u : U} (h : signU u = true) : ∃ q, keyU u = some q := by
  cases u <;> first | cases h | skip
  exact ⟨_, rfl⟩
theorem sc_Rule_init : FnScope ["self", "signs", "moves", "good", "column", "sign"] ["self", "signs", "moves", "good"] (defScope s_Rule_init) := ⟨rfl, rfl, rfl, by decide +kernel, rfl, by decide +kernel, by decide +kernel⟩
def WRule (cs : List Addr) (cR cU : Addr) : Wf := fun us post ew => ∃ ds dm dg, us = [ds, dm, dg] ∧ asks cs ds ∧ asks cs dm ∧ asks cs dg ∧ (∀ xs, itemsU ds = some xs → xs.length ≤ 100000 ∧ ∀ x ∈ xs, asks cs x) ∧
  (∀ rows, itemsU dm = some rows → rows.length ≤ 100000 ∧ ∀ r ∈ rows, asks cs r ∧ ∀ xs, itemsU r = some xs → ∀ x ∈ xs, asks cs x) ∧ (∀ xs, itemsU dg = some xs → xs.length ≤ 100000 ∧ ∀ x ∈ xs, asks cs x) ∧
  (signsB ds = false → partEw cR "signs" ew) ∧ (∀ ss, itemsU ds = some ss → signsB ds = true → (movesB ss.length dm = false → partEw cR "moves" ew) ∧ (∀ rows, itemsU dm = some rows → movesB ss.length dm = true → (goodB rows.length dg = false → partEw cR "good" ew) ∧
    (∀ gd, itemsU dg = some gd → goodB rows.length dg = true → post (ruleU cU ss (rows.map fun r => optU (itemsU r)) gd))))
theorem ok_Rule_init (M : MF P w K mg cR iR cT iT cO cU fU lU tU gU cL) (F_signs_of : FnC P w K mg base (L2.CX P w) 4 "signs_of" ["thing"] (spV false 1 (WSignsOf [cU] cR))) (F_moves_of : FnC P w K mg base (L2.CX P w) 5 "_moves_of" ["thing", "width"] (spV false 2 (WMovesOf [cU] cR))) (F_good_of : FnC P w K mg base (L2.CX P w) 5 "_good_of" ["thing", "many"] (spV false 2 (WGoodOf [cU] cR))) (F : Fun K "__init__" "Rule.__init__" s_Rule_init f fd) : FnOk P w K mg base (L2.CX P w) 6 f fd ["self", "signs", "moves", "good"] (spI cU false 3 (WRule [cU] cR cU)) := by
  refine okIX (k := 5) F sc_Rule_init rfl (by decide) fun cdv A outer s H E hr => ⟨_, (pss_cons (ps_fld (pv 0) (pe_f F_signs_of hr (by omega) (passes_call (takes_of rfl rfl rfl rfl) (fun _ _ _ _ h => h)) (pa_cons (pv 1) pa_nil)) rfl)
      (pss_cons (ps_fld (pv 0) (pe_f F_moves_of hr (by omega) (passes_call (takes_of rfl rfl rfl rfl) (fun _ _ _ _ h => h)) (pa_cons (pv 2) (pa_cons (pe_callB (call_lenV K) (by rfl) M.m_len PySem.boot_len (pa_cons (pe_fldK K (pv 0) rfl) pa_nil)) pa_nil))) rfl)
      (pss_cons (ps_fld (pv 0) (pe_f F_good_of hr (by omega) (passes_call (takes_of rfl rfl rfl rfl) (fun _ _ _ _ h => h)) (pa_cons (pv 3) (pa_cons (pe_callB (call_lenV K) (by rfl) M.m_len PySem.boot_len (pa_cons (pe_fldK K (pv 0) rfl) pa_nil)) pa_nil))) rfl)
      (pss_one (ps_fld (pv 0) (pe_dc (own := [("column", 4), ("sign", 5)]) (tt := tYes) rfl sc_Rule_init.nd (pi_enumT (by rfl) M.m_enumerate (pa_cons (pe_fldK K (pv 0) rfl) pa_nil)) (blkOk_by (N := ["self", "signs", "moves", "good", "column", "sign"]) (sc := defScope s_Rule_init) (by decide +kernel)) (fun _ _ _ _ _ => (pg_tupK (n := 2) K rfl (pgs_cons (pg_name (i := 4) sc_Rule_init.nd rfl (Or.inl rfl)) (pgs_cons (pg_name (i := 5) sc_Rule_init.nd rfl (Or.inl rfl)) pgs_nil)))) (fun _ _ _ _ _ => pts_nil) (fun _ _ _ _ _ => (pv 5)) (fun _ _ _ _ _ => (pv 4))) rfl))))), fun Z hb hE hs => ⟨_, (s_seq (s_fld (v_callX hE ple0 (v_cons v_var v_nil)))
      (s_seq (s_fld (v_callX hE ple0 (v_cons v_var (v_cons (v_cb b_len (v_consB (TrE.b (v_fld v_own)) v_nilB)) v_nil))))
      (s_seq (s_fld (v_callX hE ple0 (v_cons v_var (v_cons (v_cb b_len (v_consB (TrE.b (v_fld v_own)) v_nilB)) v_nil))))
      (s_fld (TrF.e (v_dc (i_enumT (v_fld v_own)) (g_tup (gs_cons (g_name (by decide)) (gs_cons (g_name (by decide)) gs_nil))) v_yes v_var v_var)))))), fun us post hl hW => ?_⟩⟩
  obtain ⟨ds, dm, dg, rfl, a1, a2, a3, x1, x2, x3, n1, h1⟩ := hW
  refine ⟨cU, _, rfl, M.cl_Rule, M.n_signs, by show (0 : Nat) < 1000; decide, _, rfl, rfl, ds, rfl, a1, x1, fun ss e1 b1 => ?_, n1⟩
  obtain ⟨n2, h2⟩ := h1 ss e1 b1
  refine ⟨cU, _, rfl, M.cl_Rule, M.n_moves, by show (1 : Nat) < 1000; decide, ?_⟩
  refine ⟨_, rfl, _, rfl, cU, _, _, rfl, M.cl_Rule, M.n_signs, rfl, _, ss.length, rfl, rfl, rfl, dm, (ss.length : Int), rfl, a2, x2, fun rows e2 b2 => ?_, n2⟩
  obtain ⟨n3, h3⟩ := h2 rows e2 b2
  refine ⟨cU, _, rfl, M.cl_Rule, M.n_good, by show (2 : Nat) < 1000; decide, ?_⟩
  refine ⟨_, rfl, _, rfl, cU, _, _, rfl, M.cl_Rule, M.n_moves, rfl, _, rows.length, rfl, congrArg some (List.length_map _), rfl, dg, (rows.length : Int), rfl, a3, x3, fun gd e3 b3 => ?_, n3⟩
  have fin := h3 gd e3 b3
  refine ⟨cU, _, rfl, M.cl_Rule, M.n__columns, by show (3 : Nat) < 1000; decide, ?_⟩
  have sg : ss.all signU = true := by
    unfold signsB at b1
    rw [e1, Bool.and_eq_true, Bool.and_eq_true] at b1
    exact b1.1.2
  refine ⟨_, rfl, cU, _, _, rfl, M.cl_Rule, M.n_signs, rfl, ss, rfl, fun i acc => acc = colsOf (ss.take i) 0 [], rfl, ?_, ?_⟩
  · rintro i u acc e h
    obtain ⟨x, hx, rfl⟩ := numd_get ss 0 i u e
    obtain ⟨q, hq⟩ := signU_key (List.all_eq_true.mp sg x (List.mem_of_getElem? hx))
    have li : (ss.take i).length = i := by
      rw [List.length_take]
      have := (List.getElem?_eq_some_iff.mp hx).1
      omega
    refine lcI ⟨_, rfl, rfl, _, _, rfl, _, _, rfl, rfl, _, rfl, _, rfl, q, hq, ?_⟩
    show putU acc q _ = _
    rw [h, take_more hx, colsOf_snoc, hq, li]
  · rintro acc h
    have h' : acc = colsOf (ss.take (numd ss 0).length) 0 [] := h
    rw [numd_len, List.take_length] at h'
    subst h'
    exact ⟨_, rfl, fin⟩
end

end K12
namespace K12
open PySem PySem.Spec PyProof.Rows L2 SL SV
local macro_rules | `(tactic| ac_rfl) => `(tactic| (repeat first | refine ⟨_, rfl, ?_⟩ | refine ⟨rfl, ?_⟩ | refine iteT ?_ | refine iteF ?_ | refine ⟨trivial, ?_⟩ | refine ⟨Nat.le_of_ble_eq_true rfl, ?_⟩ | refine ⟨_, _, rfl, rfl, ?_⟩ | refine ⟨_, _, rfl, ?_⟩ | refine ⟨_, .inl rfl, ?_⟩ | refine ⟨_, .inr rfl, ?_⟩ | refine .inl ⟨_, rfl, ?_⟩ | refine .inr ⟨_, rfl, ?_⟩ | refine ⟨_, _, .inl rfl, ?_⟩ | refine ⟨_, _, .inr rfl, ?_⟩ | refine ⟨by decide, ?_⟩))
section
variable {P : Program} {w : World} {K : PySem.W.Frag} {mg : Str → Option Value} {base : Heap} {cR iR cT iT cO cU fU lU tU gU cL : Addr} {fdU fdL fdT fdG : FuncData} {f : Addr} {fd : FuncData}
/-! ### check_text of a right text, last, lets -/
theorem sc_check_text : FnScope ["text", "signs", "place", "character"] ["text", "signs"] (defScope s_check_text) := ⟨rfl, rfl, rfl, by decide +kernel, rfl, by decide +kernel, by decide +kernel⟩
def WChkText : Wf := fun us post _ => ∃ (s : Str) (xs : List U), us = [.str s, .tup xs] ∧ (∀ c ∈ s.cps.toList, fIn true (chU c) (.tup xs) = some (.bl false)) ∧ post .non
theorem ok_check_text (M : MF P w K mg cR iR cT iT cO cU fU lU tU gU cL) (F : Fun K "check_text" "check_text" s_check_text f fd) : FnOk P w K mg base CX0 1 f fd ["text", "signs"] (spV false 2 WChkText) := by
  refine okV F sc_check_text rfl (by decide) fun cdv A outer s H E hr => ⟨_, (pss_cons (ps_if (pt_not (pt_val (pe_callB (call_isiK' K) (by rfl) M.m_isinstance (by decide +kernel) (pa_cons (pv 0) (pa_cons (pe_bltn (v := .ty "str") (by rfl) M.m_str (by decide +kernel) rfl) pa_nil)))))
      (pss_one ps_dead) pss_nil)
      (pss_one (ps_for PassesOwn.never rfl (pi_enumS (by rfl) M.m_enumerate (pa_cons (pv 0) pa_nil)) (pg_tupK (n := 2) K rfl (pgs_cons (pg_name (i := 2) sc_check_text.nd rfl (Or.inl rfl)) (pgs_cons (pg_name (i := 3) sc_check_text.nd rfl (Or.inl rfl)) pgs_nil)))
      (pss_one (ps_if (pt_cmpR (op_notInV K) (pv 3) (pv 1) (by rfl))
      (pss_one ps_dead) pss_nil))))), fun Z hb hE hs => ⟨_, (s_seq (s_if (v_not (v_tB (v_cb (b_isi (T := "str") (cs := [cU]) (hc := M.kinds)) (v_consB (TrE.b v_var) (v_consB (TrE.b v_ty) v_nilB)))))
      s_dead s_nil)
      (s_for (vs := [2, 3]) (i_enumS v_var) (g_tup (gs_cons (g_name (by decide)) (gs_cons (g_name (by decide)) gs_nil)))
      (s_if (v_test (v_op o_notIn (TrE.b v_var) (TrE.b v_var)))
      s_dead s_nil))), fun us post hl hW => ?_⟩⟩
  obtain ⟨t, xs, rfl, hc, p⟩ := hW
  refine ⟨_, rfl, _, rfl, trivial, true, rfl, iteF ?_⟩
  refine ⟨_, rfl, t, rfl, fun i ρ => ∃ a2 a3 : Cell, ρ = [.fz (.str t), .fz (.tup xs), a2, a3], ⟨_, _, rfl⟩, ?_, ?_⟩
  · rintro i u _ e ⟨a2, a3, rfl⟩
    obtain ⟨x, hx, rfl⟩ := numd_get _ 0 i u e
    rw [List.getElem?_map] at hx
    cases q : t.cps.toList[i]? with
    | none => rw [q] at hx; cases hx
    | some c =>
      rw [q] at hx
      cases hx
      exact ⟨_, rfl, rfl, _, _, rfl, _, _, rfl, rfl, _, rfl, _, rfl, _, hc c (List.mem_of_getElem? q), false, rfl, iteF ⟨_, _, rfl⟩⟩
  · rintro _ ⟨a2, a3, rfl⟩
    exact p
/-- a rule by its signs, rows and good states -/
def ruleV (cU : Addr) (ss : List Str) (mv : List (List Int)) (gd : List Int) : U := ruleU cU (ss.map U.str) (mv.map rowV) (gd.map U.int)
structure RuleOk (ss : List Str) (mv : List (List Int)) : Prop where
  nd : ss.Nodup
  lo : 1 ≤ mv.length
  row : ∀ r ∈ mv, r.length = ss.length ∧ ∀ x ∈ r, 0 ≤ x ∧ x < mv.length
def stepR (ss : List Str) (mv : List (List Int)) (st : Int) (c : Nat) : Int := (((mv[st.toNat]?).getD [])[ss.idxOf (⟨#[c]⟩ : Str)]?).getD 0
def lastR (ss : List Str) (mv : List (List Int)) (cs : List Nat) : Int := cs.foldl (stepR ss mv) 0
theorem lastR_snoc (ss : List Str) (mv : List (List Int)) (cs : List Nat) (c : Nat) : lastR ss mv (cs ++ [c]) = stepR ss mv (lastR ss mv cs) c := by
  unfold lastR
  rw [List.foldl_append]
  rfl
theorem cols_val (ss : List Str) : ss.Nodup → ∀ c, c ∈ ss → valU (colsOf (ss.map U.str) 0 []) (Sum.inr c) = some (.int (ss.idxOf c : Nat)) := by
  induction ss using rev_ind with
  | h0 => exact fun _ c h => nomatch h
  | h1 ss s ih =>
    intro nd c hc
    have nd1 := (List.nodup_append.mp nd).1
    have ns : s ∉ ss := fun h => (List.nodup_append.mp nd).2.2 s h s (List.mem_singleton.mpr rfl) rfl
    rw [List.map_append, List.map_cons, List.map_nil, colsOf_snoc]
    show valU (putU (colsOf (ss.map U.str) 0 []) (Sum.inr s) _) _ = _
    rw [valU_put, List.idxOf_append]
    by_cases e : c = s
    · subst e
      rw [if_pos rfl, if_neg ns, List.length_map]
      simp
    · have hc' : c ∈ ss := by
        rcases List.mem_append.mp hc with h | h
        · exact h
        · exact absurd (List.mem_singleton.mp h) e
      rw [if_neg (fun z => e (Sum.inr.inj z)), if_pos hc']
      exact ih nd1 c hc'
theorem step_ok {ss : List Str} {mv : List (List Int)} (ok : RuleOk ss mv) {st : Int} (h0 : 0 ≤ st) (h1 : st < mv.length) {c : Nat} (hc : (⟨#[c]⟩ : Str) ∈ ss) : ∃ r, mv[st.toNat]? = some r ∧ r[ss.idxOf (⟨#[c]⟩ : Str)]? = some (stepR ss mv st c) ∧ 0 ≤ stepR ss mv st c ∧ stepR ss mv st c < mv.length := by
  obtain ⟨r, hr⟩ : ∃ r, mv[st.toNat]? = some r := ⟨_, List.getElem?_eq_getElem (by omega)⟩
  obtain ⟨l, hb⟩ := ok.row r (List.mem_of_getElem? hr)
  have li : ss.idxOf (⟨#[c]⟩ : Str) < r.length := by
    rw [l]
    exact List.idxOf_lt_length_iff.mpr hc
  obtain ⟨x, hx⟩ : ∃ x, r[ss.idxOf (⟨#[c]⟩ : Str)]? = some x := ⟨_, List.getElem?_eq_getElem li⟩
  have e : stepR ss mv st c = x := by
    unfold stepR
    rw [hr, Option.getD_some, hx, Option.getD_some]
  refine ⟨r, hr, by rw [e]; exact hx, ?_⟩
  rw [e]
  exact hb x (List.mem_of_getElem? hx)
theorem sc_Rule_last : FnScope ["self", "text", "state", "sign"] ["self", "text"] (defScope s_Rule_last) := ⟨rfl, rfl, rfl, by decide +kernel, rfl, by decide +kernel, by decide +kernel⟩
def WLast (cU : Addr) : Wf := fun us post _ => ∃ ss mv gd t, us = [ruleV cU ss mv gd, .str t] ∧ RuleOk ss mv ∧ (∀ c ∈ t.cps.toList, (⟨#[c]⟩ : Str) ∈ ss) ∧ (0 ≤ lastR ss mv t.cps.toList → lastR ss mv t.cps.toList < mv.length → post (.int (lastR ss mv t.cps.toList)))
theorem ok_Rule_last (M : MF P w K mg cR iR cT iT cO cU fU lU tU gU cL) (F_check_text : FnC P w K mg base CX0 1 "check_text" ["text", "signs"] (spV false 2 WChkText)) (F : Fun K "last" "Rule.last" s_Rule_last f fd) : FnOk P w K mg base CX0 2 f fd ["self", "text"] (spV false 2 (WLast cU)) := by
  refine okV (k := 1) F sc_Rule_last rfl (by decide) fun cdv A outer s H E hr => ⟨_, (pss_cons (ps_expr (pe_f F_check_text hr (by omega) pass0 (pa_cons (pv 1) (pa_cons (pe_fldK K (pv 0) rfl) pa_nil))))
      (pss_cons (ps_set (i := 2) sc_Rule_last.nd rfl (Or.inl rfl) pe_int)
      (pss_cons (ps_for PassesOwn.never rfl (pi_seq K (pv 1)) (pg_name (i := 3) sc_Rule_last.nd rfl (Or.inl rfl))
      (pss_one (ps_set (i := 2) sc_Rule_last.nd rfl (Or.inl rfl) (pe_ix (ix_seqK K) (pe_ix (ix_seqK K) (pe_fldK K (pv 0) rfl) (pv 2) (fun _ _ => rfl)) (pe_dget (hu_of hr) (pe_fldK K (pv 0) rfl) (pv 3) (fun _ _ => rfl)) (fun _ _ => rfl)))))
      (pss_one (ps_ret (pv 2)))))), fun Z hb hE hs => ⟨_, (s_seq (s_drop (TrE.b (v_call ple0 (v_cons v_var (v_cons (v_fld (TrE.b v_var)) v_nil)))))
      (s_seq (s_set v_int)
      (s_seq (s_for (vs := [3]) (i_seq v_var) (g_name (by decide))
      (s_set (v_op o_ix (TrE.b (v_op o_ix (TrE.b (v_fld (TrE.b v_var))) (TrE.b v_var))) (TrE.b (v_dget (TrE.b (v_fld (TrE.b v_var))) v_var)))))
      (s_ret v_var)))), fun us post hl hW => ?_⟩⟩
  obtain ⟨ss, mv, gd, t, rfl, ok, hc, p⟩ := hW
  refine ⟨_, rfl, _, rfl, cU, _, _, rfl, M.cl_Rule, M.n_signs, rfl, rfl, t, ss.map U.str, rfl, fun c h => ?_, ?_⟩
  · show fIn true (.str ⟨#[c]⟩) _ = _
    rw [notin_strs, decide_eq_true (hc c h)]
    rfl
  refine ⟨_, rfl, _, rfl, fun i ρ => ∃ a3 : Cell, ρ = [.fz (ruleV cU ss mv gd), .fz (.str t), .fz (.int (lastR ss mv (t.cps.toList.take i))), a3] ∧ 0 ≤ lastR ss mv (t.cps.toList.take i) ∧ lastR ss mv (t.cps.toList.take i) < mv.length, ⟨_, rfl, Int.le_refl 0, by have := ok.lo; show (0 : Int) < mv.length; omega⟩, ?_, ?_⟩
  · rintro i u _ e ⟨a3, rfl, b0, b1⟩
    have e : (t.cps.toList.map chU)[i]? = some u := e
    rw [List.getElem?_map] at e
    cases q : t.cps.toList[i]? with
    | none => rw [q] at e; cases e
    | some c =>
      rw [q] at e
      cases e
      have hcs := hc c (List.mem_of_getElem? q)
      obtain ⟨r, h1, h2, h3, h4⟩ := step_ok ok b0 b1 hcs
      have sn : lastR ss mv (t.cps.toList.take (i + 1)) = stepR ss mv (lastR ss mv (t.cps.toList.take i)) c := by
        rw [take_more q, lastR_snoc]
      refine ⟨_, rfl, cU, _, _, rfl, M.cl_Rule, M.n_moves, rfl, _, rfl, rowV r, atI_int b0 (by rw [List.getElem?_map, h1]; rfl), _, rfl, cU, _, _, rfl, M.cl_Rule, M.n__columns, rfl, _, rfl, .int (ss.idxOf (⟨#[c]⟩ : Str) : Nat), congrArg some (cols_val ss ok.nd _ hcs), _, rowIx h2, .fz (chU c), ?_⟩
      rw [sn]
      exact ⟨rfl, h3, h4⟩
  · rintro _ ⟨a3, rfl, b0, b1⟩
    rw [List.length_map, List.take_length] at b0 b1
    refine ⟨_, rfl, ?_⟩
    rw [List.length_map, List.take_length]
    exact p b0 b1
theorem sc_Rule_lets : FnScope ["self", "text"] ["self", "text"] (defScope s_Rule_lets) := ⟨rfl, rfl, rfl, by decide +kernel, rfl, by decide +kernel, by decide +kernel⟩
def WLets (cU : Addr) : Wf := fun us post _ => ∃ ss mv gd t, us = [ruleV cU ss mv gd, .str t] ∧ RuleOk ss mv ∧ (∀ c ∈ t.cps.toList, (⟨#[c]⟩ : Str) ∈ ss) ∧ post (.bl (decide (lastR ss mv t.cps.toList ∈ gd)))
theorem ok_Rule_lets (M : MF P w K mg cR iR cT iT cO cU fU lU tU gU cL) (Olast : FnOk P w K mg base CX0 2 lU fdL ["self", "text"] (spV false 2 (WLast cU))) (Blast : Binds K fdL ["self", "text"] []) (F : Fun K "lets" "Rule.lets" s_Rule_lets f fd) : FnOk P w K mg base CX0 3 f fd ["self", "text"] (spV false 2 (WLets cU)) := by
  refine okV (k := 2) F sc_Rule_lets rfl (by decide) fun cdv A outer s H E hr => ⟨_, (pss_one (ps_ret (pe_cmpR (op_inV K) (pe_meth (pv 0) M.cl_Rule M.me_last Olast (hr.mono (by decide)) Blast .nil pass0 (pa_cons (pv 1) pa_nil)) (pe_fldK K (pv 0) rfl) (by rfl)))), fun Z hb hE hs => ⟨_, (s_ret (v_op o_in (TrE.b (v_meth ple0 v_var (v_cons v_var v_nil))) (TrE.b (v_fld (TrE.b v_var))))), fun us post hl hW => ?_⟩⟩
  obtain ⟨ss, mv, gd, t, rfl, ok, hc, p⟩ := hW
  exact ⟨_, rfl, _, rfl, rfl, _, rfl, rfl, ss, mv, gd, t, rfl, ok, hc, fun _ _ => ⟨_, rfl, cU, _, _, rfl, M.cl_Rule, M.n_good, rfl, _, in_ints _ gd, p⟩⟩
end

end K12
namespace K12
open PySem PySem.Spec PyProof.Rows L2 SL SV
local macro_rules | `(tactic| ac_rfl) => `(tactic| (repeat first | refine ⟨_, rfl, ?_⟩ | refine ⟨rfl, ?_⟩ | refine iteT ?_ | refine iteF ?_ | refine ⟨trivial, ?_⟩ | refine ⟨Nat.le_of_ble_eq_true rfl, ?_⟩ | refine ⟨_, _, rfl, rfl, ?_⟩ | refine ⟨_, _, rfl, ?_⟩ | refine ⟨_, .inl rfl, ?_⟩ | refine ⟨_, .inr rfl, ?_⟩ | refine .inl ⟨_, rfl, ?_⟩ | refine .inr ⟨_, rfl, ?_⟩ | refine ⟨_, _, .inl rfl, ?_⟩ | refine ⟨_, _, .inr rfl, ?_⟩ | refine ⟨by decide, ?_⟩))
section
variable {P : Program} {w : World} {K : PySem.W.Frag} {mg : Str → Option Value} {base : Heap} {cR iR cT iT cO cU fU lU tU gU cL : Addr} {fdU fdL fdT fdG : FuncData} {f : Addr} {fd : FuncData}
/-! ### met_from, of pairs -/
def WAft (good : List U → Prop) (dom : List U → IP → Prop) (g : List U → IP → List IP) : Wf := fun us post _ => ∃ p caps, us = ipU p :: caps ∧ good caps ∧ dom caps p ∧ post (.lst ((g caps p).map ipU))
def WMet (good : List U → Prop) (dom : List U → IP → Prop) (g : List U → IP → List IP) : Wf := fun us post _ => ∃ (fs dm : List IP) (caps : List U), us = U.lst (fs.map ipU) :: caps ∧ good caps ∧ (∀ x ∈ fs, x ∈ dm) ∧ (∀ x ∈ dm, dom caps x) ∧ (∀ x ∈ dm, ∀ y ∈ g caps x, y ∈ dm) ∧ dm.length < 100000 ∧
  (∀ R, R = metN (g caps) dm.length 0 (addNew [] fs) → post (.dit (R.map fun p => (ipK p, .lst ((g caps p).map ipU)))))
def knownU (m : List IP) : U := .dit (m.map fun p => (ipK p, U.bl true))
theorem map_at {α : Type} {f : α → U} {l : List α} {i : Nat} {u : U} (e : (l.map f)[i]? = some u) : ∃ x, l[i]? = some x ∧ u = f x := by
  rw [List.getElem?_map] at e
  cases q : l[i]? with
  | none => rw [q] at e; cases e
  | some x =>
    rw [q] at e
    cases e
    exact ⟨x, rfl, rfl⟩
theorem sc_met_from : FnScope ["firsts", "after", "known", "met", "led", "here", "found", "thing", "first"] ["firsts", "after"] (defScope s_met_from) := ⟨rfl, rfl, rfl, by decide +kernel, rfl, by decide +kernel, by decide +kernel⟩
theorem ok_met_from {D : LamD} {fr : List Str} {good : List U → Prop} {dom : List U → IP → Prop} {g : List U → IP → List IP} {j : Nat} (hj : j ≤ 9) (M : MF P w K mg cR iR cT iT cO cU fU lU tU gU cL) (hL : LamC P w K mg base j D ["pair"] fr (spV false (1 + fr.length) (WAft good dom g))) (F : Fun K "met_from" "met_from" s_met_from f fd) : FnOk P w K mg base CX0 10 f fd ["firsts", "after"] (spL false 1 D fr (WMet good dom g)) := by
  refine okL (k := 9) F sc_met_from rfl (by decide) fun cdv A outer s H E hr => ⟨_, (pss_cons (ps_setDcT (i := 2) rfl rfl hr.units (own := [("first", 8)]) (tt := tYes) rfl sc_met_from.nd (sw_trueD rfl rfl rfl (by decide +kernel)) (pi_seq K (pv 0)) (blkOk_by (N := ["firsts", "after", "known", "met", "led", "here", "found", "thing", "first"]) (sc := defScope s_met_from) (by decide +kernel)) (fun _ _ _ _ _ => (pg_name (i := 8) sc_met_from.nd rfl (Or.inl rfl))) (fun _ _ _ _ _ => pts_nil) (fun _ _ _ _ _ => (pv 8)) (fun _ _ _ _ _ => pe_bl))
      (pss_cons (ps_set (i := 3) sc_met_from.nd rfl (Or.inl rfl) (pe_callTy (call_list_dT rfl) (by rfl) M.m_list (by decide +kernel) (pa_cons (pv 2) pa_nil)))
      (pss_cons (ps_set (i := 4) sc_met_from.nd rfl (Or.inl rfl) pe_dnewT)
      (pss_cons (ps_while PassesOwn.never (pt_cmpR op_lt (pe_callB (call_lenW K) (by rfl) M.m_len PySem.boot_len (pa_cons (pv 4) pa_nil)) (pe_callB (call_lenV K) (by rfl) M.m_len PySem.boot_len (pa_cons (pv 3) pa_nil)) (nomark _))
      (pss_cons (ps_set (i := 5) sc_met_from.nd rfl (Or.inl rfl) (pe_ix (ix_seqK K) (pv 3) (pe_callB (call_lenW K) (by rfl) M.m_len PySem.boot_len (pa_cons (pv 4) pa_nil)) (fun _ _ => rfl)))
      (pss_cons (ps_set (i := 6) sc_met_from.nd rfl (Or.inl rfl) (pe_lamG hL hr (by omega) rfl rfl (by first | exact Or.inl rfl | exact Or.inr (Or.inl rfl) | exact Or.inr (Or.inr rfl)) (pa_cons (pv 5) pa_nil)))
      (pss_cons (ps_asg (pv 6) (pg_sub (pv 4) (pv 5) (set_dict (hu_of hr))))
      (pss_one (ps_for PassesOwn.never rfl (pi_seq K (pv 6)) (pg_name (i := 7) sc_met_from.nd rfl (Or.inl rfl))
      (pss_one (ps_if (pt_cmp (pc_dnotin (hu_of hr) (pv 7) (pv 2)) rfl)
      (pss_cons (ps_asg pe_bl (pg_sub (pv 2) (pv 7) (set_dict (hu_of hr))))
      (pss_one (ps_expr (pe_bm PySem.F.plainAttrs_list PySem.F.slot_list_append PySem.F.type_list_append mt_append (pv 3) (pa_cons (pv 7) pa_nil))))) pss_nil))))))))
      (pss_one (ps_ret (pv 4))))))), fun Z hb hE hs caps hh => ⟨_, (s_seq (s_setO (v_dcT (i_seq v_var) (g_name (by decide)) v_yes v_var v_bl))
      (s_seq (s_setO (v_listD (v_consB v_own v_nilB)))
      (s_seq (s_setO v_dnewT)
      (s_seq (s_while (v_test (v_op o_IB (TrE.b (v_cb b_lenW (v_consB v_own v_nilB))) (TrE.b (v_cb b_len (v_consB v_own v_nilB)))))
      (s_seq (s_set (v_op o_ix v_own (TrE.b (v_cb b_lenW (v_consB v_own v_nilB)))))
      (s_seq (s_set (v_callG hh ple0 rfl (v_cons v_var v_nil)))
      (s_seq (s_dput v_var v_var)
      (s_for (vs := [7]) (i_seq v_var) (g_name (by decide))
      (s_if (v_tB (v_dnotin v_var v_own))
      (s_seq (s_dput v_bl v_var)
      (s_append v_var)) s_nil))))))
      (s_frz (i := 4) (s_ret v_var)))))), fun us post hl hW => ?_⟩⟩
  obtain ⟨fs, dm, caps2, e, hg, hf, hd, cl, dl, fin⟩ := hW
  obtain ⟨x', rfl⟩ : ∃ x', us = [x'] := by
    cases us with
    | nil => cases hl
    | cons a t =>
      cases t with
      | nil => exact ⟨a, rfl⟩
      | cons b t => cases hl
  obtain ⟨rfl, e2⟩ := List.cons.inj e
  obtain rfl : caps = caps2 := e2
  ac_rfl
  refine ⟨fun i acc => acc = (addNew [] (fs.take i)).map fun x => (ipK x, U.bl true), rfl, ?_, ?_⟩
  · rintro i u acc e1 rfl
    obtain ⟨x, ex, rfl⟩ := map_at e1
    refine lcI ?_
    ac_rfl
    refine ⟨ipK x, rfl, ?_⟩
    rw [put_one ipK_inj, ← addNew_snoc, ← take_more ex]
  rintro acc h
  rw [List.length_map, List.take_length] at h
  subst h
  have nd0 : (addNew [] fs : List IP).Nodup := addNew_nd List.nodup_nil
  have sub0 : ∀ x ∈ (addNew [] fs : List IP), x ∈ dm := fun x hx => (mem_addNew.mp hx).elim (fun z => nomatch z) (hf x)
  generalize hR : metN (g caps) dm.length 0 (addNew [] fs) = R at fin
  have fin := fin R rfl
  generalize addNew [] fs = m0 at nd0 sub0 hR ⊢
  ac_rfl
  refine ⟨fun k hk => ?_, ?_⟩
  · rw [keys_map] at hk
    obtain ⟨x, _, rfl⟩ := List.mem_map.mp hk
    exact ipK_ok x
  rw [keys_map, show (m0.map ipK).map tKey = m0.map ipU from by rw [List.map_map]; rfl]
  ac_rfl
  refine ⟨fun n ρ => ∃ (i : Nat) (m : List IP) (a5 a6 a7 : Cell), n = dm.length - i ∧ i ≤ m.length ∧ m.Nodup ∧ (∀ x ∈ m, x ∈ dm) ∧ metN (g caps) (dm.length - i) i m = R ∧
    ρ = [.fz (.lst (fs.map ipU)), .no, .ow (knownU m), .ow (.lst (m.map ipU)), .ow (.dit ((m.take i).map fun p => (ipK p, U.lst ((g caps p).map ipU)))), a5, a6, a7, .no], ⟨_, 0, m0, _, _, _, rfl, Nat.zero_le _, nd0, sub0, hR, rfl⟩, ?_⟩
  rintro n _ ⟨i, m, a5, a6, a7, rfl, il, nd, sub, hr, rfl⟩
  ac_rfl
  have ec : decide (((((m.take i).map fun p => (ipK p, U.lst ((g caps p).map ipU))).length : Nat) : Int) < (((m.map ipU).length : Nat) : Int)) = decide (i < m.length) := decide_eq_decide.mpr (by rw [List.length_map, List.length_map, List.length_take]; omega)
  show if decide ((((((m.take i).map fun p => (ipK p, U.lst ((g caps p).map ipU))).length : Nat) : Int)) < (((m.map ipU).length : Nat) : Int)) = true then _ else _
  rw [ec]
  have lm := nd_len nd sub
  have lt : ((m.take i).map fun p => (ipK p, U.lst ((g caps p).map ipU))).length = i := by rw [List.length_map, List.length_take]; omega
  by_cases c : i < m.length
  · rw [decide_eq_true c]
    obtain ⟨p, ep⟩ : ∃ p, m[i]? = some p := ⟨_, List.getElem?_eq_getElem c⟩
    have pd := sub p (List.mem_of_getElem? ep)
    ac_rfl
    rw [lt]
    refine ⟨_, lstIx (i := i) (by rw [List.getElem?_map, ep]; rfl), ?_⟩
    ac_rfl
    refine ⟨hg, hd p pd, ?_⟩
    ac_rfl
    refine .inr ⟨_, _, _, rfl, rfl, rfl, by rw [lt]; omega, ?_⟩
    have pnot : p ∉ m.take i := fun z => by
      obtain ⟨j, hj⟩ := List.mem_iff_getElem?.mp z
      rw [List.getElem?_take] at hj
      split at hj
      · rename_i ji
        have := (List.getElem?_inj (by omega) nd).mp (hj.trans ep.symm)
        omega
      · cases hj
    show (wFor (wSeqI (wVar 6)) (wgName 7) _) _ [_, _, _, _, .ow (.dit (putU ((m.take i).map fun p => (ipK p, U.lst ((g caps p).map ipU))) (ipK p) (U.lst ((g caps p).map ipU)))), _, _, _, _]
    rw [put_map ipK_inj (fun p => U.lst ((g caps p).map ipU)) pnot, ← take_more ep]
    refine ⟨_, rfl, _, rfl, fun j ρ => ∃ a7 : Cell, ρ = [.fz (.lst (fs.map ipU)), .no, .ow (knownU (addNew m ((g caps p).take j))), .ow (.lst ((addNew m ((g caps p).take j)).map ipU)), .ow (.dit ((m.take (i + 1)).map fun p => (ipK p, U.lst ((g caps p).map ipU)))), .fz (ipU p), .fz (.lst ((g caps p).map ipU)), a7, .no], ⟨_, rfl⟩, ?_, ?_⟩
    · rintro j u _ e1 ⟨a7, rfl⟩
      obtain ⟨x, ex, rfl⟩ := map_at e1
      have sj : ∀ y ∈ addNew m ((g caps p).take j), y ∈ dm := fun y hy => (mem_addNew.mp hy).elim (sub y) fun z => cl p pd y (List.mem_of_mem_take z)
      have lj := nd_len (addNew_nd (f := (g caps p).take j) nd) sj
      have ex : (g caps p)[j]? = some x := ex
      have et : addNew m ((g caps p).take (j + 1)) = addOne (addNew m ((g caps p).take j)) x := by rw [take_more ex, addNew_snoc]
      generalize addNew m ((g caps p).take j) = mj at sj lj et ⊢
      refine ⟨_, rfl, _, rfl, _, ip_look _ x, ?_⟩
      rw [val_map ipK_inj (fun _ => U.bl true)]
      unfold addOne at et
      by_cases hx : x ∈ mj
      · rw [if_pos hx] at et
        rw [if_pos hx]
        refine ⟨false, rfl, iteF ?_⟩
        refine ⟨.fz (ipU x), ?_⟩
        rw [et]
        rfl
      · rw [if_neg hx] at et
        rw [if_neg hx]
        refine ⟨true, rfl, iteT ?_⟩
        ac_rfl
        refine .inr ⟨_, _, _, rfl, rfl, rfl, by rw [List.length_map]; omega, ?_⟩
        refine ⟨_, rfl, by rw [List.length_map]; omega, _, rfl, .fz (ipU x), ?_⟩
        show [_, _, Cell.ow (.dit (putU (mj.map fun p => (ipK p, U.bl true)) (ipK x) (U.bl true))), Cell.ow (.lst (mj.map ipU ++ [ipU x])), _, _, _, _, _] = _
        rw [put_map ipK_inj (fun _ => U.bl true) hx, et]
        unfold knownU
        rw [List.map_append, List.map_append]
        rfl
    rintro _ ⟨a7, rfl⟩
    have eL : (List.map ipU (g ([].append caps) p)).length = (g caps p).length := List.length_map _
    rw [eL, List.take_length]
    have pre := addNew_pre (g caps p) m
    refine ⟨dm.length - (i + 1), by omega, i + 1, addNew m (g caps p), .fz (ipU p), .fz (.lst ((g caps p).map ipU)), a7, rfl, Nat.le_trans c pre.length_le, addNew_nd nd, fun y hy => (mem_addNew.mp hy).elim (sub y) (cl p pd y), ?_, ?_⟩
    · rw [← hr]
      obtain ⟨k, ek⟩ : ∃ k, dm.length - i = k + 1 := ⟨dm.length - i - 1, by omega⟩
      rw [ek, show dm.length - (i + 1) = k by omega]
      show metN (g caps) k (i + 1) _ = metN (g caps) (k + 1) i m
      rw [metN.eq_2, ep]
    · obtain ⟨t, ht⟩ := pre
      rw [← ht, List.take_append_of_le_length c]
  · rw [decide_eq_false c]
    obtain rfl : i = m.length := by omega
    have e9 : metN (g caps) (dm.length - m.length) m.length m = m := by
      cases dm.length - m.length with
      | zero => rfl
      | succ k =>
        unfold metN
        rw [List.getElem?_eq_none (Nat.le_refl _)]
    have er : m = R := e9.symm.trans hr
    subst er
    ac_rfl
    rw [List.take_length]
    exact fin
end

end K12
namespace K12
open PySem PySem.Spec PyProof.Rows L2 SL SV
local macro_rules | `(tactic| ac_rfl) => `(tactic| (repeat first | refine ⟨_, rfl, ?_⟩ | refine ⟨rfl, ?_⟩ | refine iteT ?_ | refine iteF ?_ | refine ⟨trivial, ?_⟩ | refine ⟨Nat.le_of_ble_eq_true rfl, ?_⟩ | refine ⟨_, _, rfl, rfl, ?_⟩ | refine ⟨_, _, rfl, ?_⟩ | refine ⟨_, .inl rfl, ?_⟩ | refine ⟨_, .inr rfl, ?_⟩ | refine .inl ⟨_, rfl, ?_⟩ | refine .inr ⟨_, rfl, ?_⟩ | refine ⟨_, _, .inl rfl, ?_⟩ | refine ⟨_, _, .inr rfl, ?_⟩ | refine ⟨by decide, ?_⟩))
section
variable {P : Program} {w : World} {K : PySem.W.Frag} {mg : Str → Option Value} {base : Heap} {cR iR cT iT cO cU fU lU tU gU cL : Addr} {fdU fdL fdT fdG : FuncData} {f : Addr} {fd : FuncData}
/-! ### right rules; _check_alike, _led, opposite -/
structure RFine (ss : List Str) (mv : List (List Int)) (gd : List Int) : Prop where
  ok : RuleOk ss mv
  m40 : mv.length ≤ 40
  sg : signsB (.tup (ss.map U.str)) = true
  so : ∀ s ∈ ss, PyData.strOk s = true
  gw : gd.Pairwise (· < ·)
  gr : ∀ x ∈ gd, 0 ≤ x ∧ x < mv.length
theorem RFine.s10 {ss : List Str} {mv : List (List Int)} {gd : List Int} (h : RFine ss mv gd) : 1 ≤ ss.length ∧ ss.length ≤ 10 := by
  have q := h.sg
  unfold signsB itemsU at q
  rw [Bool.and_eq_true, Bool.and_eq_true, Bool.and_eq_true, decide_eq_true_eq, decide_eq_true_eq, List.length_map] at q
  omega
theorem ris_ints : ∀ {gd : List Int}, gd.Pairwise (· < ·) → risU (gd.map U.int) = true
  | [], _ => rfl
  | [_], _ => rfl
  | a :: b :: r, h => by
    obtain ⟨h1, h2⟩ := List.pairwise_cons.mp h
    show ((ltU (.int a) (.int b)).getD false && risU ((b :: r).map U.int)) = true
    rw [ris_ints h2, show ltU (.int a) (.int b) = some (decide (a < b)) from rfl, decide_eq_true (h1 b List.mem_cons_self)]
    rfl
theorem within_all {n : Int} {xs : List Int} (h : ∀ x ∈ xs, 0 ≤ x ∧ x < n) : (xs.map U.int).all (withinU 0 (n - 1)) = true := by
  refine List.all_eq_true.mpr fun u hu => ?_
  obtain ⟨x, hx, rfl⟩ := List.mem_map.mp hu
  have := h x hx
  exact withinI this.1 (by omega)
theorem len40 {n : Nat} (h : n ≤ 40) : n ≤ 100000 := Nat.le_trans h (by decide)
/-- a rule is made of right things -/
theorem rule_made {cs : List Addr} {post : U → Prop} {ew : EW} {ss : List Str} {mv : List (List Int)} {gd : List Int} {rows : List U} {ds dm dg : U} (h : RFine ss mv gd) (es : itemsU ds = some (ss.map U.str)) (em : itemsU dm = some rows) (er : rows.map itemsU = mv.map fun r => some (r.map U.int)) (eg : itemsU dg = some (gd.map U.int))
    (p : post (ruleV cU ss mv gd)) : WRule cs cR cU [ds, dm, dg] post ew := by
  have ask : ∀ {d : U} {xs : List U}, itemsU d = some xs → asks cs d := fun {d xs} e => by cases d <;> first | trivial | cases e
  have s10 := h.s10
  have lr : rows.length = mv.length := by
    have := congrArg List.length er
    rwa [List.length_map, List.length_map] at this
  have gl : gd.length ≤ 100000 := by
    have nd : gd.Nodup := h.gw.imp fun {a b} lt e => by rw [e] at lt; exact absurd lt (Int.lt_irrefl b)
    have := nd_len (D := (List.range mv.length).map fun (n : Nat) => (n : Int)) nd fun x hx => by
      obtain ⟨h0, h1⟩ := h.gr x hx
      exact List.mem_map.mpr ⟨x.toNat, List.mem_range.mpr (by omega), by omega⟩
    rw [List.length_map, List.length_range] at this
    exact len40 (Nat.le_trans this h.m40)
  have atR : ∀ r ∈ rows, ∃ xs ∈ mv, itemsU r = some (xs.map U.int) := fun r hr => by
    have : itemsU r ∈ mv.map fun r => some (r.map U.int) := by rw [← er]; exact List.mem_map.mpr ⟨r, hr, rfl⟩
    obtain ⟨xs, hx, e⟩ := List.mem_map.mp this
    exact ⟨xs, hx, e.symm⟩
  have sb : signsB ds = true := by
    have q := h.sg
    unfold signsB at q ⊢
    rw [es]
    exact q
  have mb : movesB ss.length dm = true := by
    unfold movesB
    rw [em]
    show ((decide ((1 : Int) ≤ rows.length) && decide ((rows.length : Int) ≤ 40)) && rows.all (rowOk ss.length rows.length)) = true
    rw [lr, decide_eq_true (by have := h.ok.lo; omega), decide_eq_true (by have := h.m40; omega)]
    refine List.all_eq_true.mpr fun r hr => ?_
    obtain ⟨xs, hx, e⟩ := atR r hr
    obtain ⟨l1, l2⟩ := h.ok.row xs hx
    unfold rowOk
    rw [e]
    show (decide _ && _) = true
    rw [List.length_map, decide_eq_true (by omega), within_all l2]
    rfl
  have gb : goodB mv.length dg = true := by
    unfold goodB
    rw [eg]
    show (_ && _) = true
    rw [within_all h.gr, ris_ints h.gw]
    rfl
  refine ⟨ds, dm, dg, rfl, ask es, ask em, ask eg, fun xs e => ?_, fun xs e => ?_, fun xs e => ?_, fun z => (by rw [sb] at z; cases z), fun ss' e _ => ?_⟩
  · rw [es] at e
    cases e
    rw [List.length_map]
    refine ⟨by omega, fun x hx => ?_⟩
    obtain ⟨s, _, rfl⟩ := List.mem_map.mp hx
    trivial
  · rw [em] at e
    cases e
    refine ⟨by rw [lr]; exact len40 h.m40, fun r hr => ?_⟩
    obtain ⟨xs, _, e⟩ := atR r hr
    refine ⟨ask e, fun ys ey y hy => ?_⟩
    rw [e] at ey
    cases ey
    obtain ⟨i, _, rfl⟩ := List.mem_map.mp hy
    trivial
  · rw [eg] at e
    cases e
    rw [List.length_map]
    refine ⟨gl, fun x hx => ?_⟩
    obtain ⟨s, _, rfl⟩ := List.mem_map.mp hx
    trivial
  · rw [es] at e
    cases e
    rw [List.length_map]
    refine ⟨fun z => (by rw [mb] at z; cases z), fun rows' e' _ => ?_⟩
    rw [em] at e'
    cases e'
    rw [lr]
    refine ⟨fun z => (by rw [gb] at z; cases z), fun gd' eg' _ => ?_⟩
    rw [eg] at eg'
    cases eg'
    have er2 : (rows.map fun r => optU (itemsU r)) = mv.map rowV := by
      have := congrArg (List.map optU) er
      rw [List.map_map, List.map_map] at this
      exact this
    rw [er2]
    exact p
theorem map_inj {α : Type} {f : α → U} (h : ∀ x y, f x = f y → x = y) : ∀ {a b : List α}, a.map f = b.map f → a = b
  | [], [], _ => rfl
  | [], _ :: _, e => by cases e
  | _ :: _, [], e => by cases e
  | x :: a, y :: b, e => by
    rw [List.map_cons, List.map_cons, List.cons.injEq] at e
    rw [h _ _ e.1, map_inj h e.2]
theorem eqU_strs {a b : List Str} (ha : ∀ s ∈ a, PyData.strOk s = true) (hb : ∀ s ∈ b, PyData.strOk s = true) : eqU (.tup (a.map U.str)) (.tup (b.map U.str)) = some (decide (a = b)) := by
  have nice : ∀ {a : List Str}, (∀ s ∈ a, PyData.strOk s = true) → niceU 1 (.tup (a.map U.str)) = true := fun {a} h => List.all_eq_true.mpr fun u hu => by
    obtain ⟨s, hs, rfl⟩ := List.mem_map.mp hu
    exact h s hs
  obtain ⟨c, e, h⟩ := eqU_nice (by decide) (by decide) (nice ha) (nice hb)
  rw [e]
  congr 1
  rw [Bool.eq_iff_iff, h, decide_eq_true_eq]
  exact ⟨fun z => map_inj (fun _ _ => U.str.inj) (U.tup.inj z), fun z => by rw [z]⟩
theorem sc_check_alike : FnScope ["one", "other"] ["one", "other"] (defScope s_check_alike) := ⟨rfl, rfl, rfl, by decide +kernel, rfl, by decide +kernel, by decide +kernel⟩
def WAlike (cO cU : Addr) : Wf := fun us post ew => ∃ ss mv gd ss2 mv2 gd2, us = [ruleV cU ss mv gd, ruleV cU ss2 mv2 gd2] ∧ (∀ s ∈ ss, PyData.strOk s = true) ∧ (∀ s ∈ ss2, PyData.strOk s = true) ∧ (ss = ss2 → post .non) ∧ (ss ≠ ss2 → ew cO [])
theorem ok_check_alike (M : MF P w K mg cR iR cT iT cO cU fU lU tU gU cL) (F : Fun K "_check_alike" "_check_alike" s_check_alike f fd) : FnOk P w K mg base (L2.CX P w) 1 f fd ["one", "other"] (spV false 2 (WAlike cO cU)) := by
  refine okVX (k := 0) F sc_check_alike rfl (by decide) fun cdv A outer s H E hr => ⟨_, (pss_one (ps_if (pt_cmpR (op_neV K hr.units) (pe_fldK K (pv 0) rfl) (pe_fldK K (pv 1) rfl) (nomark _))
      (pss_one (ps_raise rfl (takes_of rfl rfl rfl rfl) (pmk_own0 PySem.F.excBase_ValueError M.z_OtherSigns M.g_OtherSigns M.k_OtherSigns (raises_own M.b_OtherSigns M.t_OtherSigns)))) pss_nil)), fun Z hb hE hs => ⟨_, (s_if (v_test (v_op o_ne (TrE.b (v_fld (TrE.b v_var))) (TrE.b (v_fld (TrE.b v_var)))))
      (s_raise0 hE) s_nil), fun us post hl hW => ?_⟩⟩
  obtain ⟨ss, mv, gd, ss2, mv2, gd2, rfl, l1, l2, p, q⟩ := hW
  refine ⟨_, rfl, cU, _, _, rfl, M.cl_Rule, M.n_signs, rfl, _, rfl, cU, _, _, rfl, M.cl_Rule, M.n_signs, rfl, ?_⟩
  have e : fNe (.tup (ss.map U.str)) (.tup (ss2.map U.str)) = some (.bl (!decide (ss = ss2))) := by
    unfold fNe
    rw [eqU_strs l1 l2]
    rfl
  refine ⟨_, e, _, rfl, ?_⟩
  by_cases c : ss = ss2
  · rw [decide_eq_true c]
    exact iteF (p c)
  · rw [decide_eq_false c]
    exact iteT (q c)
/-- where two rules go from a pair of states -/
def rowAt (mv : List (List Int)) (i : Int) : List Int := (mv[i.toNat]?).getD []
def jg (mv mv2 : List (List Int)) (p : IP) : List IP := (rowAt mv p.1).zip (rowAt mv2 p.2)
theorem zip_ips : ∀ (a b : List Int), zipU (a.map U.int) (b.map U.int) = (a.zip b).map ipU
  | [], _ => rfl
  | _ :: _, [] => rfl
  | x :: a, y :: b => by
    show U.tup [.int x, .int y] :: zipU (a.map U.int) (b.map U.int) = ipU (x, y) :: (a.zip b).map ipU
    rw [zip_ips a b]
    rfl
theorem row_ix {mv : List (List Int)} {i : Int} (h0 : 0 ≤ i) (h1 : i < mv.length) : fIx (.tup (mv.map rowV)) (.int i) = some (rowV (rowAt mv i)) ∧ rowAt mv i ∈ mv := by
  obtain ⟨n, rfl⟩ : ∃ n : Nat, i = (n : Int) := ⟨i.toNat, by omega⟩
  have hn : n < mv.length := by omega
  have e : mv[n]? = some mv[n] := List.getElem?_eq_getElem hn
  have e2 : rowAt mv (n : Int) = mv[n] := by
    unfold rowAt
    rw [Int.toNat_natCast, e]
    rfl
  rw [e2]
  exact ⟨lineIx (by rw [List.getElem?_map, e]; rfl), List.getElem_mem hn⟩
theorem sc_led : FnScope ["one", "other", "pair"] ["one", "other", "pair"] (defScope s_led) := ⟨rfl, rfl, rfl, by decide +kernel, rfl, by decide +kernel, by decide +kernel⟩
def WLed (cU : Addr) : Wf := fun us post _ => ∃ ss mv gd ss2 mv2 gd2 p, us = [ruleV cU ss mv gd, ruleV cU ss2 mv2 gd2, ipU p] ∧ RuleOk ss mv ∧ RuleOk ss2 mv2 ∧ ss.length = ss2.length ∧ 0 ≤ p.1 ∧ p.1 < mv.length ∧ 0 ≤ p.2 ∧ p.2 < mv2.length ∧ post (.lst ((jg mv mv2 p).map ipU))
theorem ok_led (M : MF P w K mg cR iR cT iT cO cU fU lU tU gU cL) (F : Fun K "_led" "_led" s_led f fd) : FnOk P w K mg base CX0 1 f fd ["one", "other", "pair"] (spV false 3 (WLed cU)) := by
  refine okV (k := 0) F sc_led rfl (by decide) fun cdv A outer s H E hr => ⟨_, (pss_one (ps_ret (pe_listZip K rfl (by rfl) M.m_list (by rfl) M.m_zip (pa_cons (pe_ix (ix_seqK K) (pe_fldK K (pv 0) rfl) (pe_ix (ix_seqK K) (pv 2) pe_int (fun _ _ => rfl)) (fun _ _ => rfl)) (pa_cons (pe_ix (ix_seqK K) (pe_fldK K (pv 1) rfl) (pe_ix (ix_seqK K) (pv 2) pe_int (fun _ _ => rfl)) (fun _ _ => rfl)) pa_nil))))), fun Z hb hE hs => ⟨_, (s_ret (TrF.e (v_listZip (v_cons (v_op o_ix (TrE.b (v_fld (TrE.b v_var))) (TrE.b (v_op o_ix (TrE.b v_var) (TrE.b v_int)))) (v_cons (v_op o_ix (TrE.b (v_fld (TrE.b v_var))) (TrE.b (v_op o_ix (TrE.b v_var) (TrE.b v_int)))) v_nil))))), fun us post hl hW => ?_⟩⟩
  obtain ⟨ss, mv, gd, ss2, mv2, gd2, p, rfl, o1, o2, ll, h0, h1, h2, h3, fin⟩ := hW
  obtain ⟨i1, m1⟩ := row_ix h0 h1
  obtain ⟨i2, m2⟩ := row_ix h2 h3
  refine ⟨_, rfl, cU, _, _, rfl, M.cl_Rule, M.n_moves, rfl, _, rfl, _, rfl, _, i1, _, rfl, cU, _, _, rfl, M.cl_Rule, M.n_moves, rfl, _, rfl, _, rfl, _, i2, _, _, rfl, ?_, ?_⟩
  · rw [List.length_map, List.length_map, (o1.row _ m1).1, (o2.row _ m2).1, ll]
  · rw [zip_ips]
    exact fin
end

end K12
namespace K12
open PySem PySem.Spec PyProof.Rows L2 SL SV
local macro_rules | `(tactic| ac_rfl) => `(tactic| (repeat first | refine ⟨_, rfl, ?_⟩ | refine ⟨rfl, ?_⟩ | refine iteT ?_ | refine iteF ?_ | refine ⟨trivial, ?_⟩ | refine ⟨Nat.le_of_ble_eq_true rfl, ?_⟩ | refine ⟨_, _, rfl, rfl, ?_⟩ | refine ⟨_, _, rfl, ?_⟩ | refine ⟨_, .inl rfl, ?_⟩ | refine ⟨_, .inr rfl, ?_⟩ | refine .inl ⟨_, rfl, ?_⟩ | refine .inr ⟨_, rfl, ?_⟩ | refine ⟨_, _, .inl rfl, ?_⟩ | refine ⟨_, _, .inr rfl, ?_⟩ | refine ⟨by decide, ?_⟩))
section
variable {P : Program} {w : World} {K : PySem.W.Frag} {mg : Str → Option Value} {base : Heap} {cR iR cT iT cO cU fU lU tU gU cL : Addr} {fdU fdL fdT fdG : FuncData} {f : Addr} {fd : FuncData}
/-! ### _joined, both, either -/
def mvU : U → List (List Int)
  | .ins _ [_, (_, .tup rows), _, _] => rows.map fun r => match r with
    | .tup xs => xs.map fun x => match x with
      | .int i => i
      | _ => 0
    | _ => []
  | _ => []
theorem mvU_rule (cU : Addr) (ss : List Str) (mv : List (List Int)) (gd : List Int) : mvU (ruleV cU ss mv gd) = mv := by
  show ((mv.map rowV).map fun r => match r with
    | .tup xs => xs.map fun x => match x with
      | .int i => i
      | _ => 0
    | _ => []) = mv
  rw [List.map_map]
  refine (List.map_congr_left fun r _ => ?_).trans (List.map_id _)
  show ((r.map U.int).map fun x => match x with
      | .int i => i
      | _ => 0) = r
  rw [List.map_map]
  exact (List.map_congr_left fun i _ => rfl).trans (List.map_id _)
def goodJ (cU : Addr) : List U → Prop := fun caps => ∃ ss mv gd ss2 mv2 gd2, caps = [ruleV cU ss mv gd, ruleV cU ss2 mv2 gd2] ∧ RuleOk ss mv ∧ RuleOk ss2 mv2 ∧ ss.length = ss2.length
def domJ : List U → IP → Prop := fun caps p => 0 ≤ p.1 ∧ p.1 < (mvU (caps.getD 0 .non)).length ∧ 0 ≤ p.2 ∧ p.2 < (mvU (caps.getD 1 .non)).length
def gJ : List U → IP → List IP := fun caps p => jg (mvU (caps.getD 0 .non)) (mvU (caps.getD 1 .non)) p
theorem ns_joined : NdefX.NScope ["pair", "one", "other"] ["pair"] ["one", "other"] D_joined.scope := NdefX.nscope_by (by decide +kernel)
theorem lam_joined (M : MF P w K mg cR iR cT iT cO cU fU lU tU gU cL) (F_led : FnC P w K mg base CX0 1 "_led" ["one", "other", "pair"] (spV false 3 (WLed cU))) : LamC P w K mg base 3 D_joined ["pair"] ["one", "other"] (spV false (1 + (["one", "other"] : List Str).length) (WAft (goodJ cU) domJ gJ)) := by
  refine okLam (k := 2) ns_joined (fun _ _ _ _ us hl => match us, hl with | [_], _ => rfl) rfl (by decide) fun A outer s H f c cl hr => ⟨_, (pe_f F_led hr (by omega) pass0 (pa_cons (pv 1) (pa_cons (pv 2) (pa_cons (pv 0) pa_nil)))), fun Z hb hs => ⟨_, (v_call ple0 (v_cons v_var (v_cons v_var (v_cons v_var v_nil)))), fun us post hl hW => ?_⟩⟩
  obtain ⟨p, caps, rfl, ⟨ss, mv, gd, ss2, mv2, gd2, rfl, o1, o2, ll⟩, hd, fin⟩ := hW
  unfold domJ at hd
  unfold gJ at fin
  simp only [List.getD_cons_zero, List.getD_cons_succ, mvU_rule] at hd fin
  obtain ⟨h0, h1, h2, h3⟩ := hd
  ac_rfl
  exact ⟨ss, mv, gd, ss2, mv2, gd2, p, rfl, o1, o2, ll, h0, h1, h2, h3, fin⟩
def WGood (f : Bool → Bool → Bool) : Wf := fun us post _ => ∃ a b, us = [.bl a, .bl b] ∧ post (.bl (f a b))
theorem ns_both : NdefX.NScope ["first", "second"] ["first", "second"] [] D_both.scope := NdefX.nscope_by (by decide +kernel)
theorem lam_both (M : MF P w K mg cR iR cT iT cO cU fU lU tU gU cL) : LamC P w K mg base 1 D_both ["first", "second"] [] (spV false (2 + ([] : List Str).length) (WGood fun a b => a && b)) := by
  refine okLam (k := 0) ns_both (fun _ _ _ _ us hl => match us, hl with | [_, _], _ => rfl) rfl (by decide) fun A outer s H f c cl hr => ⟨_, (pe_and (pv 0) (pe_one (pv 1))), fun Z hb hs => ⟨_, (v_andV v_var v_var), fun us post hl hW => ?_⟩⟩
  obtain ⟨a, b, rfl, p⟩ := hW
  cases a <;> exact ⟨_, rfl, _, rfl, by first | exact iteT ⟨_, rfl, p⟩ | exact iteF p⟩
theorem ns_either : NdefX.NScope ["first", "second"] ["first", "second"] [] D_either.scope := NdefX.nscope_by (by decide +kernel)
theorem lam_either (M : MF P w K mg cR iR cT iT cO cU fU lU tU gU cL) : LamC P w K mg base 1 D_either ["first", "second"] [] (spV false (2 + ([] : List Str).length) (WGood fun a b => a || b)) := by
  refine okLam (k := 0) ns_either (fun _ _ _ _ us hl => match us, hl with | [_, _], _ => rfl) rfl (by decide) fun A outer s H f c cl hr => ⟨_, (pe_or (pv 0) (pe_one (pv 1))), fun Z hb hs => ⟨_, (v_orV v_var v_var), fun us post hl hW => ?_⟩⟩
  obtain ⟨a, b, rfl, p⟩ := hW
  cases a <;> exact ⟨_, rfl, _, rfl, by first | exact iteT p | exact iteF ⟨_, rfl, p⟩⟩
/-- the pairs that are met, and the rule of them -/
def metJ (mv mv2 : List (List Int)) : List IP := metN (jg mv mv2) (mv.length * mv2.length) 0 [(0, 0)]
def joinM (mv mv2 : List (List Int)) : List (List Int) := (metJ mv mv2).map fun p => (jg mv mv2 p).map fun x => (((metJ mv mv2).idxOf x : Nat) : Int)
def joinG (f : Bool → Bool → Bool) (mv mv2 : List (List Int)) (gd gd2 : List Int) : List Int := ((metJ mv mv2).filter fun p => f (decide (p.1 ∈ gd)) (decide (p.2 ∈ gd2))).map fun p => (((metJ mv mv2).idxOf p : Nat) : Int)
def dmJ (n m : Nat) : List IP := (List.range n).flatMap fun (i : Nat) => (List.range m).map fun (j : Nat) => ((i : Int), (j : Int))
theorem dmJ_mem {n m : Nat} (p : IP) : p ∈ dmJ n m ↔ 0 ≤ p.1 ∧ p.1 < n ∧ 0 ≤ p.2 ∧ p.2 < m := by
  unfold dmJ
  rw [List.mem_flatMap]
  constructor
  · rintro ⟨i, hi, h⟩
    obtain ⟨j, hj, rfl⟩ := List.mem_map.mp h
    have := List.mem_range.mp hi
    have := List.mem_range.mp hj
    refine ⟨Int.natCast_nonneg _, ?_, Int.natCast_nonneg _, ?_⟩
    · show (i : Int) < _
      omega
    · show (j : Int) < _
      omega
  · rintro ⟨h0, h1, h2, h3⟩
    exact ⟨p.1.toNat, List.mem_range.mpr (by omega), List.mem_map.mpr ⟨p.2.toNat, List.mem_range.mpr (by omega), Prod.ext (Int.toNat_of_nonneg h0) (Int.toNat_of_nonneg h2)⟩⟩
theorem dmJ_len (n m : Nat) : (dmJ n m).length = n * m := by
  unfold dmJ
  rw [List.length_flatMap]
  have : ((List.range n).map fun (i : Nat) => ((List.range m).map fun (j : Nat) => (((i : Int), (j : Int)) : IP)).length) = List.replicate n m := by
    refine List.eq_replicate_iff.mpr ⟨by rw [List.length_map, List.length_range], fun b hb => ?_⟩
    obtain ⟨i, _, rfl⟩ := List.mem_map.mp hb
    rw [List.length_map, List.length_range]
  rw [this, List.sum_replicate_nat]
theorem metJ_facts {ss ss2 : List Str} {mv mv2 : List (List Int)} (o1 : RuleOk ss mv) (o2 : RuleOk ss2 mv2) : ∃ dm : List IP, (∀ p : IP, p ∈ dm ↔ 0 ≤ p.1 ∧ p.1 < mv.length ∧ 0 ≤ p.2 ∧ p.2 < mv2.length) ∧ dm.length = mv.length * mv2.length ∧ (∀ x ∈ dm, ∀ y ∈ jg mv mv2 x, y ∈ dm) ∧ ((0, 0) : IP) ∈ dm ∧
    (metJ mv mv2).Nodup ∧ (∀ x ∈ metJ mv mv2, x ∈ dm) ∧ ∀ x ∈ metJ mv mv2, ∀ y ∈ jg mv mv2 x, y ∈ metJ mv mv2 := by
  have dm_cl : ∀ x ∈ dmJ mv.length mv2.length, ∀ y ∈ jg mv mv2 x, y ∈ dmJ mv.length mv2.length := fun x hx y hy => by
    obtain ⟨h0, h1, h2, h3⟩ := (dmJ_mem x).mp hx
    have m1 := (o1.row _ (row_ix h0 h1).2).2 y.1 (List.of_mem_zip hy).1
    have m2 := (o2.row _ (row_ix h2 h3).2).2 y.2 (List.of_mem_zip hy).2
    exact (dmJ_mem y).mpr ⟨m1.1, m1.2, m2.1, m2.2⟩
  have z0 : ((0, 0) : IP) ∈ dmJ mv.length mv2.length := (dmJ_mem _).mpr ⟨Int.le_refl 0, by have := o1.lo; show (0 : Int) < _; omega, Int.le_refl 0, by have := o2.lo; show (0 : Int) < _; omega⟩
  exact ⟨_, dmJ_mem, dmJ_len _ _, dm_cl, z0, metN_nd (by simp), metN_sub dm_cl fun x hx => by rw [List.mem_singleton.mp hx]; exact z0,
    metN_closed dm_cl (by simp) (fun x hx => by rw [List.mem_singleton.mp hx]; exact z0) (Nat.zero_le _) (by rw [dmJ_len, Nat.zero_add]; exact Nat.le_refl _) fun j x hj => absurd hj (Nat.not_lt_zero j)⟩
theorem idx_at {R : List IP} (nd : R.Nodup) {i : Nat} {p : IP} (e : R[i]? = some p) : R.idxOf p = i := by
  have il := (List.getElem?_eq_some_iff.mp e).1
  have pm := List.mem_of_getElem? e
  have jl := List.idxOf_lt_length_iff.mpr pm
  have ej : R[R.idxOf p]? = some p := by rw [List.getElem?_eq_getElem jl, List.getElem_idxOf]
  exact (List.getElem?_inj jl nd).mp (ej.trans e.symm)
theorem idx_pw {R : List IP} (nd : R.Nodup) : R.Pairwise fun a b => R.idxOf a < R.idxOf b := by
  rw [List.pairwise_iff_getElem]
  intro i j hi hj lt
  rw [idx_at nd (List.getElem?_eq_getElem hi), idx_at nd (List.getElem?_eq_getElem hj)]
  exact lt
theorem filter_more {α : Type} (f : α → Bool) {l : List α} {i : Nat} {x : α} (e : l[i]? = some x) : (l.take (i + 1)).filter f = (l.take i).filter f ++ (if f x = true then [x] else []) := by
  rw [take_more e, List.filter_append]
  congr 1
  cases c : f x with
  | true => rw [List.filter_cons_of_pos c]; rfl
  | false => rw [List.filter_cons_of_neg (by rw [c]; exact Bool.false_ne_true)]; rfl
theorem jg_len {ss : List Str} {mv mv2 : List (List Int)} (o1 : RuleOk ss mv) (o2 : RuleOk ss mv2) {p : IP} (h : 0 ≤ p.1 ∧ p.1 < mv.length ∧ 0 ≤ p.2 ∧ p.2 < mv2.length) : (jg mv mv2 p).length = ss.length := by
  obtain ⟨h0, h1, h2, h3⟩ := h
  unfold jg
  rw [List.length_zip, (o1.row _ (row_ix h0 h1).2).1, (o2.row _ (row_ix h2 h3).2).1, Nat.min_self]
theorem join_fine {ss : List Str} {mv mv2 : List (List Int)} {gd gd2 : List Int} {f : Bool → Bool → Bool} (r1 : RFine ss mv gd) (r2 : RFine ss mv2 gd2) (h40 : (metJ mv mv2).length ≤ 40) : RFine ss (joinM mv mv2) (joinG f mv mv2 gd gd2) := by
  obtain ⟨dm, dm_mem, dm_len, dm_cl, z0, R_nd, R_sub, R_cl⟩ := metJ_facts r1.ok r2.ok
  have lM : (joinM mv mv2).length = (metJ mv mv2).length := List.length_map _
  have pos : 1 ≤ (metJ mv mv2).length := (metN_pre (jg mv mv2) (mv.length * mv2.length) 0 [(0, 0)]).length_le
  refine ⟨⟨r1.ok.nd, by omega, fun r hr => ?_⟩, by omega, r1.sg, r1.so, ?_, fun x hx => ?_⟩
  · obtain ⟨p, hp, rfl⟩ := List.mem_map.mp hr
    refine ⟨by rw [List.length_map]; exact jg_len r1.ok r2.ok ((dm_mem p).mp (R_sub p hp)), fun x hx => ?_⟩
    obtain ⟨y, hy, rfl⟩ := List.mem_map.mp hx
    have := List.idxOf_lt_length_iff.mpr (R_cl p hp y hy)
    omega
  · unfold joinG
    rw [List.pairwise_map]
    exact ((idx_pw R_nd).sublist List.filter_sublist).imp fun {a b} lt => by omega
  · obtain ⟨p, hp, rfl⟩ := List.mem_map.mp hx
    have := List.idxOf_lt_length_iff.mpr (List.mem_filter.mp hp).1
    omega
def WJoin (cO cT cU : Addr) (f : Bool → Bool → Bool) : Wf := fun us post ew => ∃ ss mv gd ss2 mv2 gd2, us = [ruleV cU ss mv gd, ruleV cU ss2 mv2 gd2] ∧ RFine ss mv gd ∧ RFine ss2 mv2 gd2 ∧ (ss ≠ ss2 → ew cO []) ∧ (ss = ss2 → ((metJ mv mv2).length > 40 → ew cT [("most", .int 40)]) ∧ ((metJ mv mv2).length ≤ 40 → post (ruleV cU ss (joinM mv mv2) (joinG f mv mv2 gd gd2))))
theorem sc_joined : FnScope ["one", "other", "is_good", "led", "numbers", "moves", "good", "number", "pair", "after"] ["one", "other", "is_good"] (defScope s_joined) := ⟨rfl, rfl, rfl, by decide +kernel, rfl, by decide +kernel, by decide +kernel⟩
theorem ok_joined {T : List (Addr × Str)} {cc PP : Addr} {D : LamD} {ff : Bool → Bool → Bool} (M : MF P w K mg cR iR cT iT cO cU fU lU tU gU cL) (Mk_joined : MakerAt base mg T cc PP "_joined.<locals>.<lambda>") (hc_joined : fd.code = .ref cc) (hL : LamC P w K mg base 1 D ["first", "second"] [] (spV false (2 + ([] : List Str).length) (WGood ff))) (F_check_alike : FnC P w K mg base (L2.CX P w) 1 "_check_alike" ["one", "other"] (spV false 2 (WAlike cO cU)))
    (F_met_from_joined : FnC P w K mg base CX0 10 "met_from" ["firsts", "after"] (spL false 1 D_joined ["one", "other"] (WMet (goodJ cU) domJ gJ))) (ORule : FnOk P w K mg base (L2.CX P w) 6 fU fdU ["self", "signs", "moves", "good"] (spI cU false 3 (WRule [cU] cR cU))) (BRule : Binds K fdU ["self", "signs", "moves", "good"] [])
    (F : Fun K "_joined" "_joined" s_joined f fd) : FnOk P w K mg base (L2.CX P w) 12 f fd ["one", "other", "is_good"] (spL ⟨false, T⟩ 2 D [] (WJoin cO cT cU ff)) := by
  refine okLCX (k := 11) hc_joined F sc_joined rfl (by decide) fun A outer s H E hr => ⟨_, (pss_cons (ps_expr (pe_f F_check_alike hr (by omega) (passes_call (takes_of rfl rfl rfl rfl) (fun _ _ _ _ h => h)) (pa_cons (pv 0) (pa_cons (pv 1) pa_nil))))
      (pss_cons (ps_set (i := 3) sc_joined.nd rfl (Or.inr rfl) (pe_fL (fr := ["one", "other"]) (js := [0, 1]) F_met_from_joined hr (by omega) pass0 dropX0 (fun _ => rfl) (NdefX.ndef_free (sc := defScope s_joined) (nsc := D_joined.scope) (fr := ["one", "other"]) (by decide +kernel)) (NdefX.ndef_fr (sc := defScope s_joined) (nsc := D_joined.scope) (fr := ["one", "other"]) (by decide +kernel)) rfl (pa_cons (pe_lst (pa_cons (pe_tup (pa_cons pe_int (pa_cons pe_int pa_nil))) pa_nil)) (pa_lam (D := D_joined) (mk_of Mk_joined rfl rfl rfl) ⟨rfl, rfl, rfl⟩ rfl (NdefX.ndef_free (sc := defScope s_joined) (nsc := D_joined.scope) (fr := ["one", "other"]) (by decide +kernel))))))
      (pss_cons (ps_if (pt_cmpR op_gt (pe_callB (call_lenW K) (by rfl) M.m_len PySem.boot_len (pa_cons (pv 3) pa_nil)) pe_int (nomark _))
      (pss_one (ps_raiseEx rfl M.x_TooMany hr (takes_of rfl rfl rfl rfl) (pa_cons pe_int pa_nil))) pss_nil)
      (pss_cons (ps_set (i := 4) sc_joined.nd rfl (Or.inr rfl) (pe_lockU (pe_dcT hr.units (own := [("number", 7), ("pair", 8)]) (tt := tYes) rfl sc_joined.nd (pi_enumD (by rfl) M.m_enumerate (pa_cons (pv 3) pa_nil)) (blkOk_by (N := ["one", "other", "is_good", "led", "numbers", "moves", "good", "number", "pair", "after"]) (sc := defScope s_joined) (by decide +kernel)) (fun _ _ _ _ _ => (pg_tupK (n := 2) K rfl (pgs_cons (pg_name (i := 7) sc_joined.nd rfl (Or.inl rfl)) (pgs_cons (pg_name (i := 8) sc_joined.nd rfl (Or.inl rfl)) pgs_nil)))) (fun _ _ _ _ _ => pts_nil) (fun _ _ _ _ _ => (pv 8)) (fun _ _ _ _ _ => (pv 7)))))
      (pss_cons (ps_lockU (ps_setLc (i := 5) (own := [("pair", 8)]) (tt := tYes) rfl sc_joined.nd rfl rfl (sw_true rfl rfl rfl (by decide +kernel)) (pi_keys (pv 3)) (blkOk_by (N := ["one", "other", "is_good", "led", "numbers", "moves", "good", "number", "pair", "after"]) (sc := defScope s_joined) (by decide +kernel)) (fun _ _ _ _ _ => (pg_name (i := 8) sc_joined.nd rfl (Or.inl rfl))) (fun _ _ _ _ _ => pts_nil) (fun _ _ _ _ _ => (pe_lc (own := [("after", 9)]) (tt := tYes) rfl sc_joined.nd (pi_seq K (pe_dget (hu_of hr) (pv 3) (pv 8) (fun _ _ => rfl))) (blkOk_by (N := ["one", "other", "is_good", "led", "numbers", "moves", "good", "number", "pair", "after"]) (sc := ({ kind := .function, names := [(".0", .local), ("pair", .local), ("led", .cell), ("numbers", .cell)], isGenerator := false, isCoroutine := false } : Scope)) (by decide +kernel)) (fun _ _ _ _ _ => (pg_name (i := 9) sc_joined.nd rfl (Or.inl rfl))) (fun _ _ _ _ _ => pts_nil) (fun _ _ _ _ _ => (pe_dget (hu_of hr) (pv 4) (pv 9) (fun _ _ => rfl)))))))
      (pss_cons (ps_lockU (ps_setLc (i := 6) (own := [("pair", 8)]) rfl sc_joined.nd rfl rfl (sw_true rfl rfl rfl (by decide +kernel)) (pi_keys (pv 3)) (blkOk_by (N := ["one", "other", "is_good", "led", "numbers", "moves", "good", "number", "pair", "after"]) (sc := defScope s_joined) (by decide +kernel)) (fun _ _ _ _ _ => (pg_name (i := 8) sc_joined.nd rfl (Or.inl rfl))) (fun _ _ _ _ _ => (pts_one (pt_val (pe_lamG hL hr (by omega) rfl rfl (by first | exact Or.inl rfl | exact Or.inr (Or.inl rfl) | exact Or.inr (Or.inr rfl)) (pa_cons (pe_cmpR (op_inV K) (pe_ix (ix_seqK K) (pv 8) pe_int (fun _ _ => rfl)) (pe_fldK K (pv 0) rfl) (by rfl)) (pa_cons (pe_cmpR (op_inV K) (pe_ix (ix_seqK K) (pv 8) pe_int (fun _ _ => rfl)) (pe_fldK K (pv 1) rfl) (by rfl)) pa_nil)))))) (fun _ _ _ _ _ => (pe_dget (hu_of hr) (pv 4) (pv 8) (fun _ _ => rfl)))))
      (pss_one (ps_ret (pe_make M.mk_Rule ORule (hr.mono (by decide)) (by rfl) M.g_Rule BRule .nil (passes_call (takes_of rfl rfl rfl rfl) (fun _ _ _ _ h => h)) (pa_cons (pe_fldK K (pv 0) rfl) (pa_cons (pv 5) (pa_cons (pv 6) pa_nil)))))))))))), fun Z hb hE hs caps hh => ⟨_, (s_seq (s_drop (TrE.b (v_callX hE ple0 (v_cons v_var (v_cons v_var v_nil)))))
      (s_seq (s_set (v_callL ple0 (v_consL (TrF.e (v_lst (v_cons (v_tup (v_cons v_int (v_cons v_int v_nil))) v_nil))) (v_lam (by rw [hb]) Mk_joined.mem))))
      (s_seq (s_if (v_test (v_op o_IB (TrE.b (v_cb b_lenW (v_consB (TrE.b v_var) v_nilB))) (TrE.b v_int)))
      (s_raise hE (v_cons v_int v_nil)) s_nil)
      (s_seq (s_set (TrF.e (lock_T d_enumD (l_dcEnumD (g_tup (gs_cons (g_name (by decide)) (gs_cons (g_name (by decide)) gs_nil))) v_yes v_var v_var))))
      (s_seq (s_setL d_keysT (l_lcKeysT (g_name (by decide)) v_yes (TrF.e (v_lc (i_seq (v_dget (TrE.b v_var) v_var)) (g_name (by decide)) v_yes (v_dget (TrE.b v_var) v_var)))))
      (s_seq (s_setL d_keysT (l_lcKeysT (g_name (by decide)) (v_tB (v_callG hh ple0 rfl (v_cons (v_op o_in (TrE.b (v_op o_ix (TrE.b v_var) (TrE.b v_int))) (TrE.b (v_fld (TrE.b v_var)))) (v_cons (v_op o_in (TrE.b (v_op o_ix (TrE.b v_var) (TrE.b v_int))) (TrE.b (v_fld (TrE.b v_var)))) v_nil)))) (v_dget (TrE.b v_var) v_var)))
      (s_ret (v_makeX hE ple0 (v_cons (v_fld (TrE.b v_var)) (v_cons v_var (v_cons v_var v_nil))))))))))), fun us post hl hW => ?_⟩⟩
  obtain ⟨ss, mv, gd, ss2, mv2, gd2, e, r1, r2, pO, pJ⟩ := hW
  obtain ⟨x, y, rfl⟩ : ∃ x y, us = [x, y] := by
    match us, hl with
    | [x, y], _ => exact ⟨x, y, rfl⟩
  obtain ⟨ex, e1⟩ := List.cons.inj e
  obtain ⟨ey, e2⟩ := List.cons.inj e1
  subst ex ey
  obtain rfl : caps = [] := e2
  clear e e1
  refine ⟨_, rfl, _, rfl, rfl, ss, mv, gd, ss2, mv2, gd2, rfl, r1.so, r2.so, fun es => ?_, pO⟩
  subst es
  obtain ⟨pT, pM⟩ := pJ rfl
  have lm : mv.length * mv2.length < 100000 := Nat.lt_of_le_of_lt (Nat.mul_le_mul r1.m40 r2.m40) (by decide)
  obtain ⟨dm, dm_mem, dm_len, dm_cl, z0, R_nd, R_sub, R_cl⟩ := metJ_facts r1.ok r2.ok
  have gj : gJ [ruleV cU ss mv gd, ruleV cU ss mv2 gd2] = jg mv mv2 := by
    funext p
    unfold gJ
    simp only [List.getD_cons_zero, List.getD_cons_succ, mvU_rule]
  ac_rfl
  refine ⟨[(0, 0)], dm, [ruleV cU ss mv gd, ruleV cU ss mv2 gd2], rfl, ⟨ss, mv, gd, ss, mv2, gd2, rfl, r1.ok, r2.ok, rfl⟩, fun x hx => (by rw [List.mem_singleton.mp hx]; exact z0), fun x hx => ?_, ?_, by omega, fun R hR => ?_⟩
  · unfold domJ
    simp only [List.getD_cons_zero, List.getD_cons_succ, mvU_rule]
    exact (dm_mem x).mp hx
  · rw [gj]
    exact dm_cl
  rw [gj, dm_len] at hR
  obtain rfl : R = metJ mv mv2 := hR
  rw [gj]
  generalize eR : metJ mv mv2 = R at R_nd R_sub R_cl pT pM
  ac_rfl
  have ec : decide ((40 : Int) < (((R.map fun p => (ipK p, U.lst ((jg mv mv2 p).map ipU))).length : Nat) : Int)) = decide (40 < R.length) := decide_eq_decide.mpr (by rw [List.length_map]; omega)
  show if decide ((40 : Int) < (((R.map fun p => (ipK p, U.lst ((jg mv mv2 p).map ipU))).length : Nat) : Int)) = true then _ else _
  rw [ec]
  by_cases c : 40 < R.length
  · rw [decide_eq_true c]
    exact iteT ⟨_, rfl, okMsg_int, pT c⟩
  rw [decide_eq_false c]
  have c' : R.length ≤ 40 := by omega
  have pM := pM c'
  have fine := join_fine (f := ff) r1 r2 (by rw [eR]; exact c')
  unfold joinM joinG at pM fine
  rw [eR] at pM fine
  have keyR : ∀ k ∈ keysOf (R.map fun p => (ipK p, U.lst ((jg mv mv2 p).map ipU))), okKey k := fun k hk => by
    rw [keys_map] at hk
    obtain ⟨x, _, rfl⟩ := List.mem_map.mp hk
    exact ipK_ok x
  have keyE : (keysOf (R.map fun p => (ipK p, U.lst ((jg mv mv2 p).map ipU)))).map tKey = R.map ipU := by
    rw [keys_map, List.map_map]
    rfl
  have look : ∀ {f : IP → U} {p : IP}, p ∈ R → lookU (.dit (R.map fun p => (ipK p, f p))) (ipU p) = some (some (f p)) := fun {f p} hp => by
    rw [ip_look, val_map ipK_inj, if_pos hp]
  refine iteF ⟨_, rfl, keyR, fun i acc => acc = (R.take i).map fun p => (ipK p, U.int ((R.idxOf p : Nat) : Int)), rfl, ?_, ?_⟩
  · rintro i u acc e rfl
    rw [keyE] at e
    obtain ⟨y, hy, rfl⟩ := numd_get _ 0 i u e
    obtain ⟨p, ep, rfl⟩ := map_at hy
    refine ⟨_, rfl, rfl, _, _, rfl, _, _, rfl, rfl, ?_⟩
    refine ⟨_, rfl, _, rfl, ipK p, rfl, ?_⟩
    have pnot : p ∉ R.take i := fun z => by
      obtain ⟨j, hj⟩ := List.mem_iff_getElem?.mp z
      rw [List.getElem?_take] at hj
      split at hj
      · rename_i ji
        have := (List.getElem?_inj (by have := (List.getElem?_eq_some_iff.mp ep).1; omega) R_nd).mp (hj.trans ep.symm)
        omega
      · cases hj
    have ei : ((0 + i : Nat) : Int) = ((R.idxOf p : Nat) : Int) := by rw [idx_at R_nd ep, Nat.zero_add]
    rw [ei, put_map ipK_inj (fun p => U.int ((R.idxOf p : Nat) : Int)) pnot, ← take_more ep]
  rintro acc h
  rw [numd_len, keyE, List.length_map, List.take_length] at h
  subst h
  refine ⟨_, rfl, keyR, fun j acc => acc = (R.take j).map fun p => U.lst ((jg mv mv2 p).map fun x => U.int (((R.idxOf x : Nat) : Int))), rfl, ?_, ?_⟩
  · rintro j u acc e rfl
    rw [keyE] at e
    obtain ⟨p, ep, rfl⟩ := map_at e
    refine lcI ?_
    refine ⟨_, rfl, _, rfl, _, look (List.mem_of_getElem? ep), _, rfl, fun k acc => acc = ((jg mv mv2 p).take k).map fun x => U.int (((R.idxOf x : Nat) : Int)), rfl, ?_, ?_⟩
    · rintro k u acc e rfl
      obtain ⟨x, ex, rfl⟩ := map_at e
      refine lcI ?_
      refine ⟨_, rfl, _, rfl, _, look (R_cl p (List.mem_of_getElem? ep) x (List.mem_of_getElem? ex)), ?_⟩
      exact map_step (fun x => U.int (((R.idxOf x : Nat) : Int))) rfl ex
    rintro acc h
    rw [List.length_map, List.take_length] at h
    subst h
    exact map_step (fun p => U.lst ((jg mv mv2 p).map fun x => U.int (((R.idxOf x : Nat) : Int)))) rfl ep
  rintro acc h
  rw [keyE, List.length_map, List.take_length] at h
  subst h
  refine ⟨_, rfl, keyR, fun j acc => acc = ((R.take j).filter fun p => ff (decide (p.1 ∈ gd)) (decide (p.2 ∈ gd2))).map fun p => U.int (((R.idxOf p : Nat) : Int)), rfl, ?_, ?_⟩
  · rintro j u acc e rfl
    rw [keyE] at e
    obtain ⟨p, ep, rfl⟩ := map_at e
    refine ⟨_, rfl, _, rfl, _, rfl, cU, _, _, rfl, M.cl_Rule, M.n_good, rfl, _, in_ints _ _, _, rfl, _, rfl, _, rfl, cU, _, _, rfl, M.cl_Rule, M.n_good, rfl, _, in_ints _ _, rfl, _, _, rfl, ?_⟩
    refine ⟨_, rfl, ?_⟩
    have et := congrArg (List.map fun p => U.int (((R.idxOf p : Nat) : Int))) (filter_more (fun p : IP => ff (decide (p.1 ∈ gd)) (decide (p.2 ∈ gd2))) ep)
    rw [List.map_append] at et
    cases cf : ff (decide (p.1 ∈ gd)) (decide (p.2 ∈ gd2)) with
    | true =>
      simp only [cf] at et
      exact iteT ⟨_, rfl, _, rfl, _, look (List.mem_of_getElem? ep), et.symm⟩
    | false =>
      simp only [cf] at et
      exact iteF (et.trans (List.append_nil _)).symm
  rintro acc h
  rw [keyE, List.length_map, List.take_length] at h
  subst h
  refine ⟨_, rfl, cU, _, _, rfl, M.cl_Rule, M.n_signs, rfl, _, rfl, _, rfl, rfl, rule_made fine rfl rfl ?_ ?_ pM⟩
  · rw [List.map_map, List.map_map]
    refine List.map_congr_left fun p _ => ?_
    show some ((jg mv mv2 p).map fun x => U.int (((R.idxOf x : Nat) : Int))) = some (((jg mv mv2 p).map fun x => (((R.idxOf x : Nat) : Int))).map U.int)
    rw [List.map_map]
    rfl
  · show some (List.map _ _) = some (List.map U.int (List.map _ _))
    rw [List.map_map]
    rfl
theorem sc_both : FnScope ["one", "other"] ["one", "other"] (defScope s_both) := ⟨rfl, rfl, rfl, by decide +kernel, rfl, by decide +kernel, by decide +kernel⟩
theorem ok_both {T : List (Addr × Str)} {cc PP : Addr} (M : MF P w K mg cR iR cT iT cO cU fU lU tU gU cL) (Mk_both : MakerAt base mg T cc PP "both.<locals>.<lambda>") (hc_both : fd.code = .ref cc) (F_joined_both : FnC P w K mg base (L2.CX P w) 12 "_joined" ["one", "other", "is_good"] (spL ⟨false, T⟩ 2 D_both [] (WJoin cO cT cU fun a b => a && b)))
    (F : Fun K "both" "both" s_both f fd) : FnOk P w K mg base (L2.CX P w) 13 f fd ["one", "other"] (spV ⟨false, T⟩ 2 (WJoin cO cT cU fun a b => a && b)) := by
  refine okCX (k := 12) hc_both F sc_both rfl (by decide) fun A outer s H E hr => ⟨_, (pss_one (ps_ret (pe_fL (fr := []) (js := []) F_joined_both hr (by omega) (passes_call (takes_of rfl rfl rfl rfl) (fun _ _ _ _ h => h)) dropX (fun _ => rfl) (NdefX.ndef_free (sc := defScope s_both) (nsc := D_both.scope) (fr := []) (by decide +kernel)) (NdefX.ndef_fr (sc := defScope s_both) (nsc := D_both.scope) (fr := []) (by decide +kernel)) rfl (pa_cons (pv 0) (pa_cons (pv 1) (pa_lam (D := D_both) (mk_of Mk_both rfl rfl rfl) ⟨rfl, rfl, rfl⟩ rfl (NdefX.ndef_free (sc := defScope s_both) (nsc := D_both.scope) (fr := []) (by decide +kernel)))))))), fun Z hb hE hs => ⟨_, (s_ret (v_callLX hE (pleT (by rw [hb])) (v_consL v_var (v_consL v_var (v_lam (by rw [hb]) Mk_both.mem))))), fun us post hl hW => ?_⟩⟩
  have hW' := hW
  obtain ⟨ss, mv, gd, ss2, mv2, gd2, rfl, _⟩ := hW'
  exact ⟨_, rfl, _, rfl, rfl, [], rfl, hW⟩
theorem sc_either : FnScope ["one", "other"] ["one", "other"] (defScope s_either) := ⟨rfl, rfl, rfl, by decide +kernel, rfl, by decide +kernel, by decide +kernel⟩
theorem ok_either {T : List (Addr × Str)} {cc PP : Addr} (M : MF P w K mg cR iR cT iT cO cU fU lU tU gU cL) (Mk_either : MakerAt base mg T cc PP "either.<locals>.<lambda>") (hc_either : fd.code = .ref cc) (F_joined_either : FnC P w K mg base (L2.CX P w) 12 "_joined" ["one", "other", "is_good"] (spL ⟨false, T⟩ 2 D_either [] (WJoin cO cT cU fun a b => a || b)))
    (F : Fun K "either" "either" s_either f fd) : FnOk P w K mg base (L2.CX P w) 13 f fd ["one", "other"] (spV ⟨false, T⟩ 2 (WJoin cO cT cU fun a b => a || b)) := by
  refine okCX (k := 12) hc_either F sc_either rfl (by decide) fun A outer s H E hr => ⟨_, (pss_one (ps_ret (pe_fL (fr := []) (js := []) F_joined_either hr (by omega) (passes_call (takes_of rfl rfl rfl rfl) (fun _ _ _ _ h => h)) dropX (fun _ => rfl) (NdefX.ndef_free (sc := defScope s_either) (nsc := D_either.scope) (fr := []) (by decide +kernel)) (NdefX.ndef_fr (sc := defScope s_either) (nsc := D_either.scope) (fr := []) (by decide +kernel)) rfl (pa_cons (pv 0) (pa_cons (pv 1) (pa_lam (D := D_either) (mk_of Mk_either rfl rfl rfl) ⟨rfl, rfl, rfl⟩ rfl (NdefX.ndef_free (sc := defScope s_either) (nsc := D_either.scope) (fr := []) (by decide +kernel)))))))), fun Z hb hE hs => ⟨_, (s_ret (v_callLX hE (pleT (by rw [hb])) (v_consL v_var (v_consL v_var (v_lam (by rw [hb]) Mk_either.mem))))), fun us post hl hW => ?_⟩⟩
  have hW' := hW
  obtain ⟨ss, mv, gd, ss2, mv2, gd2, rfl, _⟩ := hW'
  exact ⟨_, rfl, _, rfl, rfl, [], rfl, hW⟩
/-! ### opposite -/
def oppG (mv : List (List Int)) (gd : List Int) : List Int := ((List.range mv.length).map fun (i : Nat) => (i : Int)).filter fun i => !decide (i ∈ gd)
theorem notin_ints (i : Int) (ns : List Int) : fIn true (.int i) (.tup (ns.map U.int)) = some (.bl (!decide (i ∈ ns))) := by
  show seqIn true (.int i) (ns.map U.int) = _
  unfold seqIn
  rw [flats_int]
  show some (U.bl (!(inV (.int i) (ns.map V.int)))) = _
  rw [inV_int]
theorem opp_fine {ss : List Str} {mv : List (List Int)} {gd : List Int} (r : RFine ss mv gd) : RFine ss mv (oppG mv gd) := by
  refine ⟨r.ok, r.m40, r.sg, r.so, ?_, fun x hx => ?_⟩
  · unfold oppG
    refine List.Pairwise.sublist List.filter_sublist ?_
    rw [List.pairwise_map]
    exact (List.pairwise_lt_range (n := mv.length)).imp fun {a b} h => by omega
  · obtain ⟨i, hi, rfl⟩ := List.mem_map.mp (List.mem_filter.mp hx).1
    have := List.mem_range.mp hi
    omega
theorem sc_opposite : FnScope ["rule", "good", "state"] ["rule"] (defScope s_opposite) := ⟨rfl, rfl, rfl, by decide +kernel, rfl, by decide +kernel, by decide +kernel⟩
def WOpp (cU : Addr) : Wf := fun us post _ => ∃ ss mv gd, us = [ruleV cU ss mv gd] ∧ RFine ss mv gd ∧ post (ruleV cU ss mv (oppG mv gd))
theorem ok_opposite (M : MF P w K mg cR iR cT iT cO cU fU lU tU gU cL) (ORule : FnOk P w K mg base (L2.CX P w) 6 fU fdU ["self", "signs", "moves", "good"] (spI cU false 3 (WRule [cU] cR cU))) (BRule : Binds K fdU ["self", "signs", "moves", "good"] []) (F : Fun K "opposite" "opposite" s_opposite f fd) : FnOk P w K mg base CX0 8 f fd ["rule"] (spV false 1 (WOpp cU)) := by
  refine okV (k := 7) F sc_opposite rfl (by decide) fun cdv A outer s H E hr => ⟨_, (pss_cons (ps_setLc (i := 1) (own := [("state", 2)]) rfl sc_opposite.nd rfl rfl (sw_true rfl rfl rfl (by decide +kernel)) (pi_range1 (by rfl) M.m_range (pa_cons (pe_callB (call_lenV K) (by rfl) M.m_len PySem.boot_len (pa_cons (pe_fldK K (pv 0) rfl) pa_nil)) pa_nil)) (blkOk_by (N := ["rule", "good", "state"]) (sc := defScope s_opposite) (by decide +kernel)) (fun _ _ _ _ _ => (pg_name (i := 2) sc_opposite.nd rfl (Or.inl rfl))) (fun _ _ _ _ _ => (pts_one (pt_cmpR (op_notInV K) (pv 2) (pe_fldK K (pv 0) rfl) (by rfl)))) (fun _ _ _ _ _ => (pv 2)))
      (pss_one (ps_ret (pe_make M.mk_Rule ORule (hr.mono (by decide)) (by rfl) M.g_Rule BRule .nil passL (pa_cons (pe_fldK K (pv 0) rfl) (pa_cons (pe_fldK K (pv 0) rfl) (pa_cons (pv 1) pa_nil))))))), fun Z hb hE hs => ⟨_, (s_seq (s_set (TrF.e (v_lc (i_rng1 (v_cons (v_cb b_len (v_consB (TrE.b (v_fld (TrE.b v_var))) v_nilB)) v_nil)) (g_name (by decide)) (v_test (v_op o_notIn (TrE.b v_var) (TrE.b (v_fld (TrE.b v_var))))) v_var)))
      (s_ret (v_make ple0 (v_cons (v_fld (TrE.b v_var)) (v_cons (v_fld (TrE.b v_var)) (v_cons v_var v_nil)))))), fun us post hl hW => ?_⟩⟩
  obtain ⟨ss, mv, gd, rfl, r, p⟩ := hW
  ac_rfl
  refine ⟨cU, _, _, rfl, M.cl_Rule, M.n_moves, rfl, ?_⟩
  ac_rfl
  have m4 := r.m40
  have lm : (mv.map rowV).length = mv.length := List.length_map _
  refine ⟨by rw [lm]; omega, by omega, fun i acc => acc = (((List.range i).map fun (n : Nat) => (n : Int)).filter fun i => !decide (i ∈ gd)).map U.int, rfl, ?_, ?_⟩
  · rintro i u acc e rfl
    obtain ⟨hi, rfl⟩ := upto_at0 e
    ac_rfl
    refine ⟨cU, _, _, rfl, M.cl_Rule, M.n_good, rfl, ?_⟩
    refine ⟨_, notin_ints _ _, _, rfl, ?_⟩
    have et := congrArg (List.map U.int) (filter_more (l := (List.range (i + 1)).map fun (n : Nat) => (n : Int)) (i := i) (x := (i : Int)) (fun i => !decide (i ∈ gd)) (by rw [List.getElem?_map, List.getElem?_range (Nat.lt_succ_self i)]; rfl))
    rw [List.map_append, List.take_of_length_le (by rw [List.length_map, List.length_range]; exact Nat.le_refl _), ← List.map_take, List.take_range, Nat.min_eq_left (Nat.le_succ i)] at et
    cases cf : decide ((i : Int) ∈ gd) with
    | true =>
      simp only [cf] at et
      exact iteF (et.trans (List.append_nil _)).symm
    | false =>
      simp only [cf] at et
      exact iteT ⟨_, rfl, et.symm⟩
  rintro acc h
  rw [upto_len, lm, Int.toNat_natCast] at h
  subst h
  ac_rfl
  refine ⟨cU, _, _, rfl, M.cl_Rule, M.n_signs, rfl, ?_⟩
  ac_rfl
  refine ⟨cU, _, _, rfl, M.cl_Rule, M.n_moves, rfl, ?_⟩
  ac_rfl
  refine rule_made (opp_fine r) rfl rfl ?_ rfl p
  rw [List.map_map]
  rfl
end

end K12
namespace K12
open PySem PySem.Spec PyProof.Rows L2 SL SV
local macro_rules | `(tactic| ac_rfl) => `(tactic| (repeat first | refine ⟨_, rfl, ?_⟩ | refine ⟨rfl, ?_⟩ | refine iteT ?_ | refine iteF ?_ | refine ⟨trivial, ?_⟩ | refine ⟨Nat.le_of_ble_eq_true rfl, ?_⟩ | refine ⟨_, _, rfl, rfl, ?_⟩ | refine ⟨_, _, rfl, ?_⟩ | refine ⟨_, .inl rfl, ?_⟩ | refine ⟨_, .inr rfl, ?_⟩ | refine .inl ⟨_, rfl, ?_⟩ | refine .inr ⟨_, rfl, ?_⟩ | refine ⟨_, _, .inl rfl, ?_⟩ | refine ⟨_, _, .inr rfl, ?_⟩ | refine ⟨by decide, ?_⟩))
section
variable {P : Program} {w : World} {K : PySem.W.Frag} {mg : Str → Option Value} {base : Heap} {cR iR cT iT cO cU fU lU tU gU cL : Addr} {fdU fdL fdT fdG : FuncData} {f : Addr} {fd : FuncData}
/-! ### _law_pool, _law_draw -/
theorem sc_law_pool : FnScope ["script", "seed", "value"] ["script"] (defScope s_law_pool) := ⟨rfl, rfl, rfl, by decide +kernel, rfl, by decide +kernel, by decide +kernel⟩
def spPool (K : PySem.W.Frag) : Sp := fun vs H Q _ => ∃ (a : Addr) (ns : List Int), vs = [.ref a] ∧ SqL K H a (ns.map V.int) ∧ ns.length ≤ 63 ∧ ∀ H' p q, Same H H' → H p = none → PoolAt H' p q → Q (.ref p) H'
theorem ok_law_pool (M : MF P w K mg cR iR cT iT cO cU fU lU tU gU cL) (F : Fun K "_law_pool" "_law_pool" s_law_pool f fd) : FnOk P w K mg base CX0 1 f fd ["script"] (spPool K) := by
  refine F.ok sc_law_pool (fun vs H Q E h => ?_) (fun cdv A outer s H vs Q E hr h => ?_)
  · obtain ⟨a, ns, rfl, _⟩ := h
    rfl
  · obtain ⟨a, ns, rfl, hS, hl, q⟩ := h
    refine ⟨_, (pss_cons (ps_set (i := 1) sc_law_pool.nd rfl (Or.inl rfl) pe_int)
      (pss_cons (ps_for PassesOwn.never rfl (pi_list (pe_slice sl_list (pv 0) po_none (po_some pe_int))) (pg_name (i := 2) sc_law_pool.nd rfl (Or.inl rfl))
      (pss_one (ps_set (i := 1) sc_law_pool.nd rfl (Or.inl rfl) (pe_op op_mod (pe_callTy call_int1 (by rfl) M.m_int (by decide +kernel) (pa_cons (pe_op op_add (pe_op op_add (pe_op op_mul (pv 1) pe_int) (pv 2)) pe_int) pa_nil)) pe_int))))
      (pss_one (ps_ret (pe_lst (pa_cons (pe_callTy call_list_of (by rfl) M.m_list (by decide +kernel) (pa_cons (pe_slice sl_list (pv 0) po_none (po_some pe_int)) pa_nil)) (pa_cons pe_int (pa_cons pe_int (pa_cons pe_int (pa_cons (pv 1) pa_nil)))))))))), ?_⟩
    have cut : cutV (ns.map V.int) none (some 63) = ns.map V.int := by
      unfold cutV
      rw [HT.sIx_none, show HT.sIx (ns.map V.int).length (ns.map V.int).length (some 63) = min 63 (ns.map V.int).length from HT.sIx_nat _ _ 63, List.drop_zero, Nat.sub_zero, List.length_map, Nat.min_eq_right hl, List.take_of_length_le (by rw [List.length_map]; exact Nat.le_refl _)]
    refine ⟨.ref a, rfl, 63, rfl, a, _, rfl, hS, fun c nc => ?_⟩
    rw [cut]
    have s1 : Same H (upd H c (.lst (ns.map V.int))) := same_upd nc
    refine ⟨c, rfl, ⟨_, SqL.of upd_same⟩, for_list (K := K) (a := c) (xs := ns.map V.int) (fun i σ H' => Same H H' ∧ H' c = some (.lst (ns.map V.int)) ∧ ∃ e v, σ = [some (.ref a), some (.int e), v] ∧ 0 ≤ e ∧ e < 2147483629) ⟨s1, upd_same, 31, none, rfl, by decide, by decide⟩ (fun i σ H' _ p => SqL.of p.2.1) ?_ ?_⟩
    · rintro i y σ H' hy ⟨s', ec, e, v, rfl, l1, l2⟩
      rw [List.getElem?_map] at hy
      cases en : ns[i]? with
      | none =>
        rw [en] at hy
        cases hy
      | some n =>
        rw [en] at hy
        cases hy
        refine ⟨_, rfl, _, _, rfl, rfl, .inr ⟨by decide, by decide⟩, _, rfl, _, _, rfl, rfl, _, _, rfl, rfl, .inl ⟨_, rfl, _, _, rfl, rfl, pos_i rfl, s', ec, _, _, rfl, Int.emod_nonneg _ (by decide), Int.emod_lt_of_pos _ (by decide)⟩⟩
    · rintro σ H' ⟨s', ec, e, v, rfl, l1, l2⟩
      have hS' := s'.seq hS
      refine ⟨.ref a, rfl, 63, rfl, a, _, rfl, hS', fun c2 nc2 => ?_⟩
      rw [cut]
      refine ⟨c2, _, rfl, .inl (SqL.of upd_same), fun l nl => ⟨_, rfl, few (n := 5) (by decide), fun p np => ?_⟩⟩
      have nlc : l ≠ c2 := fun z => by
        rw [z, upd_same] at nl
        cases nl
      have sl : Same H' (upd (upd H' c2 (.lst (ns.map V.int))) l (.lst (ns.map V.int))) := (same_upd nc2).trans (same_upd nl)
      have npl : p ≠ l := fun z => by
        rw [z, upd_same] at np
        cases np
      refine q _ p l (s'.trans (sl.trans (same_upd np))) ((s'.trans sl).free np) ⟨ns, 0, 0, 0, e, upd_same, ?_, npl, by decide, by decide, by decide, l1, l2⟩
      rw [upd_ne npl.symm, upd_same]
theorem sc_law_draw : FnScope ["pool", "many", "value", "digit", "mixed"] ["pool", "many"] (defScope s_law_draw) := ⟨rfl, rfl, rfl, by decide +kernel, rfl, by decide +kernel, by decide +kernel⟩
def spDraw : Sp := fun vs H Q _ => ∃ (p q : Addr) (m : Int), vs = [.ref p, .int m] ∧ PoolAt H p q ∧ 0 < m ∧ m.natAbs.log2 < 9000 ∧ ∀ H' d, Same (off H p) (off H' p) → PoolAt H' p q → 0 ≤ d → d < m → Q (.int d) H'
theorem ok_law_draw (M : MF P w K mg cR iR cT iT cO cU fU lU tU gU cL) (F : Fun K "_law_draw" "_law_draw" s_law_draw f fd) : FnOk P w K mg base CX0 1 f fd ["pool", "many"] spDraw := by
  refine F.ok sc_law_draw (fun vs H Q E h => ?_) (fun cdv A outer s H vs Q E hr h => ?_)
  · obtain ⟨p, q, m, rfl, _⟩ := h
    rfl
  · obtain ⟨p, q, m, rfl, ⟨ms, c, u, d, e, hp, hq, npq, c0, u0, d0, e0, e1⟩, m0, m1, k⟩ := h
    refine ⟨_, (Evl.pss_cut (ps_asg (pe_op op_add (pe_ix ix_list (pv 0) pe_int (fun _ _ => rfl)) pe_int) (pg_sub (pv 0) pe_int set_list))
      (Evl.pss_cut (ps_if (PW.pt (pw_and (pt_cmpR op_eq (pe_ix ix_list (pv 0) pe_int (fun _ _ => rfl)) pe_int (nomark _)) (pw_and1 (pt_cmpR op_lt (pe_ix ix_list (pv 0) pe_int (fun _ _ => rfl)) (pe_callB call_len_seq (by rfl) M.m_len (by decide +kernel) (pa_cons (pe_ix ix_list (pv 0) pe_int (fun _ _ => rfl)) pa_nil)) (nomark _)))))
      (pss_cons (ps_set (i := 2) sc_law_draw.nd rfl (Or.inl rfl) (pe_ix ix_list (pe_ix ix_list (pv 0) pe_int (fun _ _ => rfl)) (pe_ix ix_list (pv 0) pe_int (fun _ _ => rfl)) (fun _ _ => rfl)))
      (pss_cons (ps_asg (pe_op op_add (pe_ix ix_list (pv 0) pe_int (fun _ _ => rfl)) pe_int) (pg_sub (pv 0) pe_int set_list))
      (pss_one (ps_if (pt_cmpR op_ge (pv 2) (pe_op op_pow pe_int pe_int) (nomark _))
      (pss_one (ps_asg (pv 2) (pg_sub (pv 0) pe_int set_list))) (pss_one (ps_asg (pe_op op_mod (pe_callTy call_int1 (by rfl) M.m_int (by decide +kernel) (pa_cons (pe_op op_add (pe_op op_add (pe_op op_mul (pe_ix ix_list (pv 0) pe_int (fun _ _ => rfl)) pe_int) (pv 2)) pe_int) pa_nil)) pe_int) (pg_sub (pv 0) pe_int set_list))))))) pss_nil)
      (pss_cons (ps_if (pt_cmpR op_gt (pe_ix ix_list (pv 0) pe_int (fun _ _ => rfl)) pe_int (nomark _))
      (pss_cons (ps_set (i := 3) sc_law_draw.nd rfl (Or.inl rfl) (pe_op op_mod (pe_callTy call_int1 (by rfl) M.m_int (by decide +kernel) (pa_cons (pe_ix ix_list (pv 0) pe_int (fun _ _ => rfl)) pa_nil)) (pv 1)))
      (pss_cons (ps_asg (pe_op op_fdivW (pe_ix ix_list (pv 0) pe_int (fun _ _ => rfl)) (pv 1)) (pg_sub (pv 0) pe_int set_list))
      (pss_one (ps_ret (pv 3))))) pss_nil)
      (Evl.pss_cut (ps_set (i := 4) sc_law_draw.nd rfl (Or.inl rfl) (pe_op op_mod (pe_callTy call_int1 (by rfl) M.m_int (by decide +kernel) (pa_cons (pe_op op_add (pe_op op_add (pe_op op_mul (pe_ix ix_list (pv 0) pe_int (fun _ _ => rfl)) pe_int) (pe_op op_mul (pe_ix ix_list (pv 0) pe_int (fun _ _ => rfl)) pe_int)) pe_int) pa_nil)) pe_int))
      (Evl.pss_cut (ps_set (i := 4) sc_law_draw.nd rfl (Or.inl rfl) (pe_op op_mod (pe_callTy call_int1 (by rfl) M.m_int (by decide +kernel) (pa_cons (pe_op op_mul (pv 4) (pe_op op_add (pe_op op_fdiv (pv 4) pe_int) pe_int)) pa_nil)) pe_int))
      (Evl.pss_cut (ps_set (i := 4) sc_law_draw.nd rfl (Or.inl rfl) (pe_op op_mod (pe_callTy call_int1 (by rfl) M.m_int (by decide +kernel) (pa_cons (pe_op op_mul (pv 4) (pe_op op_add (pe_op op_fdiv (pv 4) pe_int) pe_int)) pa_nil)) pe_int))
      (pss_one (ps_ret (pe_op op_mod (pe_callTy call_int1 (by rfl) M.m_int (by decide +kernel) (pa_cons (pe_op op_fdiv (pv 4) pe_int) pa_nil)) (pv 1)))))))))), ?_⟩
    -- pool[3] = pool[3] + 1
    refine ⟨fun σ H' => ∃ d', σ = [some (.ref p), some (.int m), none, none, none] ∧ H' = upd H p (.lst [.ref q, .int c, .int u, .int d', .int e]) ∧ 0 ≤ d',
      ⟨.ref p, rfl, p, _, 3, .int d, rfl, rfl, SqL.of hp, atI_nat (j := 3) rfl, _, _, rfl, rfl, .ref p, rfl, p, _, 3, 3, rfl, rfl, hp, rfl, d + 1, rfl, rfl, by omega⟩, ?_⟩
    rintro _ _ ⟨d', rfl, rfl, dd0⟩
    have h1 : (upd H p (.lst [.ref q, .int c, .int u, .int d', .int e])) p = some (.lst [.ref q, .int c, .int u, .int d', .int e]) := upd_same
    have h1q : (upd H p (.lst [.ref q, .int c, .int u, .int d', .int e])) q = some (.lst (ms.map V.int)) := by rw [upd_ne npq.symm]; exact hq
    have s1 : Same (off H p) (off (upd H p (.lst [.ref q, .int c, .int u, .int d', .int e])) p) := off_upd
    generalize upd H p (.lst [.ref q, .int c, .int u, .int d', .int e]) = H1 at h1 h1q s1 ⊢
    -- the next value of the script
    refine ⟨fun σ H' => ∃ v2 c' u' e', σ = [some (.ref p), some (.int m), v2, none, none] ∧ Same (off H p) (off H' p) ∧ H' p = some (.lst [.ref q, .int c', .int u', .int d', .int e']) ∧ H' q = some (.lst (ms.map V.int)) ∧ 0 ≤ c' ∧ 0 ≤ u' ∧ 0 ≤ e' ∧ e' < 2147483629, ?_, ?_⟩
    · refine ⟨.ref p, rfl, p, _, 2, .int u, rfl, rfl, SqL.of h1, atI_nat (j := 2) rfl, rfl, _, rfl, ite2 (fun cu => ?_) (fun cu => ite2 (fun z => nomatch z) fun _ => ⟨none, c, u, e, rfl, s1, h1, h1q, c0, u0, e0, e1⟩)⟩
      refine ⟨.ref p, rfl, p, _, 1, .int c, rfl, rfl, SqL.of h1, atI_nat (j := 1) rfl, .ref p, rfl, p, _, 0, .ref q, rfl, rfl, SqL.of h1, atI_nat (j := 0) rfl, q, _, rfl, .inl (SqL.of h1q), _, _, rfl, rfl, _, rfl, ite2 (fun cc => ?_) (fun cc => ⟨none, c, u, e, rfl, s1, h1, h1q, c0, u0, e0, e1⟩)⟩
      have cl : c < ((ms.map V.int).length : Int) := of_decide_eq_true cc
      obtain ⟨j, rfl⟩ : ∃ j : Nat, c = (j : Int) := ⟨c.toNat, by omega⟩
      have jl : j < ms.length := by
        rw [List.length_map] at cl
        omega
      have em : (ms.map V.int)[j]? = some (.int ms[j]) := by
        rw [List.getElem?_map, List.getElem?_eq_getElem jl]
        rfl
      refine ⟨.ref p, rfl, p, _, 0, .ref q, rfl, rfl, SqL.of h1, atI_nat (j := 0) rfl, .ref p, rfl, p, _, 1, .int j, rfl, rfl, SqL.of h1, atI_nat (j := 1) rfl, q, _, j, _, rfl, rfl, SqL.of h1q, atI_nat em, ?_⟩
      refine ⟨.ref p, rfl, p, _, 1, .int j, rfl, rfl, SqL.of h1, atI_nat (j := 1) rfl, _, _, rfl, rfl, .ref p, rfl, p, _, 1, 1, rfl, rfl, h1, rfl, ?_⟩
      have h2 : (upd H1 p (.lst [.ref q, .int ((j : Int) + 1), .int u, .int d', .int e])) p = some (.lst [.ref q, .int ((j : Int) + 1), .int u, .int d', .int e]) := upd_same
      have h2q : (upd H1 p (.lst [.ref q, .int ((j : Int) + 1), .int u, .int d', .int e])) q = some (.lst (ms.map V.int)) := by rw [upd_ne npq.symm]; exact h1q
      have s2 : Same (off H p) (off (upd H1 p (.lst [.ref q, .int ((j : Int) + 1), .int u, .int d', .int e])) p) := s1.trans off_upd
      refine ⟨_, rfl, _, _, rfl, rfl, ⟨by decide, by decide, by decide⟩, _, _, rfl, rfl, _, rfl, ite2 (fun cv => ?_) (fun cv => ?_)⟩
      · have v0 : (10 : Int) ^ (18 : Int).toNat ≤ ms[j] := of_decide_eq_true cv
        have p18 : (0 : Int) ≤ (10 : Int) ^ (18 : Int).toNat := by decide
        refine ⟨_, rfl, .ref p, rfl, p, _, 2, 2, rfl, rfl, h2, rfl, _, (j : Int) + 1, ms[j], e, rfl, s2.trans off_upd, upd_same, ?_, by omega, by omega, e0, e1⟩
        rw [upd_ne npq.symm]
        exact h2q
      · refine ⟨.ref p, rfl, p, _, 4, .int e, rfl, rfl, SqL.of h2, atI_nat (j := 4) rfl, _, _, rfl, rfl, .inr ⟨by decide, by decide⟩, _, rfl, _, _, rfl, rfl, _, _, rfl, rfl, .inl ⟨_, rfl, _, _, rfl, rfl, pos_i rfl, .ref p, rfl, p, _, 4, 4, rfl, rfl, h2, rfl, _, (j : Int) + 1, u, _, rfl, s2.trans off_upd, upd_same, ?_, by omega, u0, Int.emod_nonneg _ (by decide), Int.emod_lt_of_pos _ (by decide)⟩⟩
        rw [upd_ne npq.symm]
        exact h2q
    · rintro _ H2 ⟨v2, c', u', e', rfl, s2, h2, h2q, c1, u1, ee0, ee1⟩
      refine ⟨.ref p, rfl, p, _, 2, .int u', rfl, rfl, SqL.of h2, atI_nat (j := 2) rfl, _, _, rfl, rfl, _, rfl, ite2 (fun cu => ?_) (fun cu => ?_)⟩
      · refine ⟨.ref p, rfl, p, _, 2, .int u', rfl, rfl, SqL.of h2, atI_nat (j := 2) rfl, .inl ⟨_, rfl, _, rfl, _, _, rfl, rfl, m0, ?_⟩⟩
        refine ⟨.ref p, rfl, p, _, 2, .int u', rfl, rfl, SqL.of h2, atI_nat (j := 2) rfl, _, rfl, _, _, rfl, rfl, ⟨m0, m1⟩, .ref p, rfl, p, _, 2, 2, rfl, rfl, h2, rfl, ?_⟩
        refine ⟨_, rfl, k _ _ (s2.trans off_upd) ⟨ms, c', u' / m, d', e', upd_same, ?_, npq, c1, Int.ediv_nonneg u1 (by omega), dd0, ee0, ee1⟩ (Int.emod_nonneg _ (by omega)) (Int.emod_lt_of_pos _ m0)⟩
        rw [upd_ne npq.symm]
        exact h2q
      · refine ⟨fun σ H' => ∃ x, σ = [some (.ref p), some (.int m), v2, none, some (.int x)] ∧ H2 = H' ∧ 0 ≤ x ∧ x < 2147483647, ?_, ?_⟩
        · refine ⟨.ref p, rfl, p, _, 4, .int e', rfl, rfl, SqL.of h2, atI_nat (j := 4) rfl, _, _, rfl, rfl, .inr ⟨by decide, by decide⟩, .ref p, rfl, p, _, 3, .int d', rfl, rfl, SqL.of h2, atI_nat (j := 3) rfl, _, _, rfl, rfl, .inr ⟨by decide, by decide⟩, _, _, rfl, rfl, _, _, rfl, rfl, .inl ⟨_, rfl, _, _, rfl, rfl, pos_i rfl, ?_⟩⟩
          exact ⟨_, rfl, rfl, Int.emod_nonneg _ (by decide), Int.emod_lt_of_pos _ (by decide)⟩
        rintro _ _ ⟨x, rfl, rfl, x0, x1⟩
        refine ⟨fun σ H' => ∃ x, σ = [some (.ref p), some (.int m), v2, none, some (.int x)] ∧ H2 = H' ∧ 0 ≤ x ∧ x < 2147483647, ?_, ?_⟩
        · refine ⟨.int x, rfl, .int x, rfl, _, _, rfl, rfl, ⟨by decide, by decide⟩, _, _, rfl, rfl, _, _, rfl, rfl, .inl ⟨by omega, by omega⟩, .inl ⟨_, rfl, _, _, rfl, rfl, pos_i rfl, ?_⟩⟩
          exact ⟨_, rfl, rfl, Int.emod_nonneg _ (by decide), Int.emod_lt_of_pos _ (by decide)⟩
        rintro _ _ ⟨y, rfl, rfl, y0, y1⟩
        refine ⟨fun σ H' => ∃ x, σ = [some (.ref p), some (.int m), v2, none, some (.int x)] ∧ H2 = H', ?_, ?_⟩
        · exact ⟨.int y, rfl, .int y, rfl, _, _, rfl, rfl, ⟨by decide, by decide⟩, _, _, rfl, rfl, _, _, rfl, rfl, .inl ⟨by omega, by omega⟩, .inl ⟨_, rfl, _, _, rfl, rfl, pos_i rfl, _, rfl, rfl⟩⟩
        rintro _ _ ⟨z, rfl, rfl⟩
        refine ⟨.int z, rfl, _, _, rfl, rfl, ⟨by decide, by decide⟩, .inl ⟨_, rfl, _, rfl, _, _, rfl, rfl, m0, ?_⟩⟩
        exact k _ _ s2 ⟨ms, c', u', d', e', h2, h2q, npq, c1, u1, dd0, ee0, ee1⟩ (Int.emod_nonneg _ (by omega)) (Int.emod_lt_of_pos _ m0)
def WDrawW : Wf := fun us post _ => ∃ m : Int, us = [.pool, .int m] ∧ 0 < m ∧ m.natAbs.log2 < 9000 ∧ ∀ d : Int, 0 ≤ d → d < m → post (.int d)
theorem log_small {m : Int} (h0 : 0 < m) (h : m < 1073741824) : m.natAbs.log2 < 9000 := by
  have e : (2 : Nat) ^ 30 = 1073741824 := by decide
  have : m.natAbs.log2 < 30 := (Nat.log2_lt (by omega)).mpr (by rw [e]; omega)
  omega
/-- a draw of great numbers, by values -/
theorem draw_w (c : FnC P w K mg base CX0 1 "_law_draw" ["pool", "many"] spDraw) : FnC P w K mg base CX0 1 "_law_draw" ["pool", "many"] (spV true 2 WDrawW) := by
  obtain ⟨f, fd, F, a, b, d⟩ := c.ex
  refine ⟨f, fd, F.imp fun vs H Q E h => ?_, a, b, d⟩
  obtain ⟨us, pp, q, G, post, ew, k, _, vw, pl, ⟨m, rfl, m0, m1, hp⟩, hq, _⟩ := h
  cases k with
  | cons r1 k =>
    cases k with
    | cons r2 k =>
      cases k
      cases r1
      cases r2
      obtain ⟨P, n1, n2⟩ := pl.1 rfl
      refine ⟨pp, q, m, rfl, P, m0, m1, fun H' d s hP d0 d1 => hq _ _ G H' (hp d d0 d1) ⟨⟨Same.refl _, fun x o e => ?_, fun x o n e g => ⟨fun _ => g, ?_⟩, ⟨fun _ => ⟨hP, n1, n2⟩, fun _ z => nomatch z⟩⟩, fun x o e => ?_⟩ (.int d)⟩
      · have nx : x ≠ pp := fun z => by rw [z, n1] at e; cases e
        rcases vw x o e with h | ⟨h, ob, h'⟩
        · exact .inl (off_get s nx h)
        · exact .inr ⟨h, ob, off_get s nx h'⟩
      · exact off_get s (n.1 rfl) e
      · have nx : x ≠ pp := fun z => by rw [z, n1] at e; cases e
        rcases vw x o e with h | ⟨h, ob, h'⟩
        · exact .inl ((off_get s nx h).trans h.symm)
        · exact .inl ((off_get s nx h').trans h'.symm)
/-- a draw, by values -/
theorem draw_v (c : FnC P w K mg base CX0 1 "_law_draw" ["pool", "many"] (spV true 2 WDrawW)) : FnC P w K mg base CX0 1 "_law_draw" ["pool", "many"] (spV true 2 WDraw) := by
  obtain ⟨f, fd, F, a, b, d⟩ := c.ex
  refine ⟨f, fd, F.imp fun vs H Q E h => ?_, a, b, d⟩
  obtain ⟨us, pp, q, G, post, ew, k, l, vw, pl, ⟨m, e, m0, m1, hp⟩, r⟩ := h
  exact ⟨us, pp, q, G, post, ew, k, l, vw, pl, ⟨m, e, m0, log_small m0 m1, hp⟩, r⟩
end

section
variable {P : Program} {w : World} {K : PySem.W.Frag} {mg : Str → Option Value} {base : Heap} {cR iR cT iT cO cU fU lU tU gU cL : Addr} {fdU fdL fdT fdG : FuncData} {f : Addr} {fd : FuncData}
/-! ### _law_same, of equal data -/
theorem sc_law_same : FnScope ["actual", "due", "k"] ["actual", "due"] (defScope s_law_same) := ⟨rfl, rfl, rfl, by decide +kernel, rfl, by decide +kernel, by decide +kernel⟩
theorem eqU_int (i : Int) : eqU (.int i) (.int i) = some true := by
  show some (i == i) = some true
  rw [beq_self_eq_true]
theorem fEq_self {x : U} (h : eqU x x = some true) : fEq x x = some (.bl true) := by
  unfold fEq
  rw [h]
  rfl
def plU : Nat → U → Bool
  | _, .non => true
  | _, .bl _ => true
  | _, .int _ => true
  | _, .str s => decide (eqU (.str s) (.str s) = some true)
  | n + 1, .lst us => us.all (plU n) && decide (us.length ≤ 100000)
  | n + 1, .tup us => us.all (plU n) && decide (us.length ≤ 100000)
  | _, _ => false
def WSame (n : Nat) : Wf := fun us post _ => ∃ x, us = [x, x] ∧ plU n x = true ∧ post (.bl true)
theorem fNe_len (n : Nat) : fNe (.int (n : Int)) (.int (n : Int)) = some (.bl false) := by
  show some (U.bl (!((n : Int) == (n : Int)))) = _
  rw [beq_self_eq_true]
  rfl
theorem same_body (M : MF P w K mg cR iR cT iT cO cU fU lU tU gU cL) (F : Fun K "_law_same" "_law_same" s_law_same f fd) {n k : Nat} {WR : Wf} (F_law_same : FnC P w K mg base CX0 k "_law_same" ["actual", "due"] (spV false 2 WR)) (hR : ∀ m, n = m + 1 → WR = WSame m) : FnOk P w K mg base CX0 (k + 2) f fd ["actual", "due"] (spV false 2 (WSame n)) := by
  refine okV (k := k + 1) F sc_law_same rfl (by decide) fun cdv A outer s H E hr => ⟨_, (pss_cons (ps_if (pt_cmpR op_isN (pv 1) pe_non (nomark _))
      (pss_one (ps_ret (pe_cmpR op_isN (pv 0) pe_non (nomark _)))) pss_nil)
      (pss_cons (ps_if (PW.pt (pw_or (pt_val (pe_callB (call_isiK' K) (by rfl) M.m_isinstance (by decide +kernel) (pa_cons (pv 1) (pa_cons (pe_bltn (v := .ty "bool") (by rfl) M.m_bool (by decide +kernel) rfl) pa_nil)))) (pw_or1 (pt_val (pe_callB (call_isiK' K) (by rfl) M.m_isinstance (by decide +kernel) (pa_cons (pv 0) (pa_cons (pe_bltn (v := .ty "bool") (by rfl) M.m_bool (by decide +kernel) rfl) pa_nil)))))))
      (pss_one (ps_ret (pe_and (pe_callB (call_isiK' K) (by rfl) M.m_isinstance (by decide +kernel) (pa_cons (pv 1) (pa_cons (pe_bltn (v := .ty "bool") (by rfl) M.m_bool (by decide +kernel) rfl) pa_nil))) (pe_and (pe_callB (call_isiK' K) (by rfl) M.m_isinstance (by decide +kernel) (pa_cons (pv 0) (pa_cons (pe_bltn (v := .ty "bool") (by rfl) M.m_bool (by decide +kernel) rfl) pa_nil))) (pe_one (pe_cmpR (op_eqV K hr.units) (pv 0) (pv 1) (nomark _))))))) pss_nil)
      (pss_cons (ps_if (pt_val (pe_callB (call_isiK' K) (by rfl) M.m_isinstance (by decide +kernel) (pa_cons (pv 1) (pa_cons (pe_bltn (v := .ty "int") (by rfl) M.m_int (by decide +kernel) rfl) pa_nil))))
      (pss_one (ps_ret (pe_and (pe_callB (call_isiK' K) (by rfl) M.m_isinstance (by decide +kernel) (pa_cons (pv 0) (pa_cons (pe_bltn (v := .ty "int") (by rfl) M.m_int (by decide +kernel) rfl) pa_nil))) (pe_one (pe_cmpR (op_eqV K hr.units) (pv 0) (pv 1) (nomark _)))))) pss_nil)
      (pss_cons (ps_if (pt_val (pe_callB (call_isiK' K) (by rfl) M.m_isinstance (by decide +kernel) (pa_cons (pv 1) (pa_cons (pe_bltn (v := .ty "str") (by rfl) M.m_str (by decide +kernel) rfl) pa_nil))))
      (pss_one (ps_ret (pe_and (pe_callB (call_isiK' K) (by rfl) M.m_isinstance (by decide +kernel) (pa_cons (pv 0) (pa_cons (pe_bltn (v := .ty "str") (by rfl) M.m_str (by decide +kernel) rfl) pa_nil))) (pe_one (pe_cmpR (op_eqV K hr.units) (pv 0) (pv 1) (nomark _)))))) pss_nil)
      (pss_cons (ps_if (PW.pt (pw_or (pt_cmpR (op_neV K hr.units) (pe_callB (call_isiK' K) (by rfl) M.m_isinstance (by decide +kernel) (pa_cons (pv 1) (pa_cons (pe_bltn (v := .ty "list") (by rfl) M.m_list (by decide +kernel) rfl) pa_nil))) (pe_callB (call_isiK' K) (by rfl) M.m_isinstance (by decide +kernel) (pa_cons (pv 0) (pa_cons (pe_bltn (v := .ty "list") (by rfl) M.m_list (by decide +kernel) rfl) pa_nil))) (nomark _)) (pw_or1 (pt_not (pt_val (pe_callB (call_isiTK K) (by rfl) M.m_isinstance (by decide +kernel) (pa_cons (pv 0) (pa_cons (pe_tup (pa_cons (pe_bltn (v := .ty "list") (by rfl) M.m_list (by decide +kernel) rfl) (pa_cons (pe_bltn (v := .ty "tuple") (by rfl) M.m_tuple (by decide +kernel) rfl) pa_nil))) pa_nil))))))))
      (pss_one (ps_ret pe_bl)) pss_nil)
      (pss_cons (ps_if (pt_cmpR (op_neV K hr.units) (pe_callB (call_lenV K) (by rfl) M.m_len PySem.boot_len (pa_cons (pv 0) pa_nil)) (pe_callB (call_lenV K) (by rfl) M.m_len PySem.boot_len (pa_cons (pv 1) pa_nil)) (nomark _))
      (pss_one (ps_ret pe_bl)) pss_nil)
      (pss_one (ps_ret (pe_cmpR (op_eqV K hr.units) (pe_callB (call_lenV K) (by rfl) M.m_len PySem.boot_len (pa_cons (pe_lc (own := [("k", 2)]) rfl sc_law_same.nd (pi_range1 (by rfl) M.m_range (pa_cons (pe_callB (call_lenV K) (by rfl) M.m_len PySem.boot_len (pa_cons (pv 1) pa_nil)) pa_nil)) (blkOk_by (N := ["actual", "due", "k"]) (sc := defScope s_law_same) (by decide +kernel)) (fun _ _ _ _ _ => (pg_name (i := 2) sc_law_same.nd rfl (Or.inl rfl))) (fun _ _ _ _ _ => (pts_one (pt_not (pt_val (pe_f F_law_same hr (by omega) pass0 (pa_cons (pe_ix (ix_seqK K) (pv 0) (pv 2) (fun _ _ => rfl)) (pa_cons (pe_ix (ix_seqK K) (pv 1) (pv 2) (fun _ _ => rfl)) pa_nil))))))) (fun _ _ _ _ _ => (pv 2))) pa_nil)) pe_int (nomark _)))))))))), fun Z hb hE hs => ⟨_, (s_seq (s_if (v_test (v_op o_isN (TrE.b v_var) (TrE.b v_non)))
      (s_ret (v_op o_isN (TrE.b v_var) (TrE.b v_non))) s_nil)
      (s_seq (s_if (v_or (v_tB (v_cb (b_isi (T := "bool") (cs := [cU]) (hc := M.kinds)) (v_consB (TrE.b v_var) (v_consB (TrE.b v_ty) v_nilB)))) (v_tB (v_cb (b_isi (T := "bool") (cs := [cU]) (hc := M.kinds)) (v_consB (TrE.b v_var) (v_consB (TrE.b v_ty) v_nilB)))))
      (s_ret (v_andV (v_cb (b_isi (T := "bool") (cs := [cU]) (hc := M.kinds)) (v_consB (TrE.b v_var) (v_consB (TrE.b v_ty) v_nilB))) (v_andV (v_cb (b_isi (T := "bool") (cs := [cU]) (hc := M.kinds)) (v_consB (TrE.b v_var) (v_consB (TrE.b v_ty) v_nilB))) (v_op o_eq (TrE.b v_var) (TrE.b v_var))))) s_nil)
      (s_seq (s_if (v_tB (v_cb (b_isi (T := "int") (cs := [cU]) (hc := M.kinds)) (v_consB (TrE.b v_var) (v_consB (TrE.b v_ty) v_nilB))))
      (s_ret (v_andV (v_cb (b_isi (T := "int") (cs := [cU]) (hc := M.kinds)) (v_consB (TrE.b v_var) (v_consB (TrE.b v_ty) v_nilB))) (v_op o_eq (TrE.b v_var) (TrE.b v_var)))) s_nil)
      (s_seq (s_if (v_tB (v_cb (b_isi (T := "str") (cs := [cU]) (hc := M.kinds)) (v_consB (TrE.b v_var) (v_consB (TrE.b v_ty) v_nilB))))
      (s_ret (v_andV (v_cb (b_isi (T := "str") (cs := [cU]) (hc := M.kinds)) (v_consB (TrE.b v_var) (v_consB (TrE.b v_ty) v_nilB))) (v_op o_eq (TrE.b v_var) (TrE.b v_var)))) s_nil)
      (s_seq (s_if (v_or (v_test (v_op o_ne (TrE.b (v_cb (b_isi (T := "list") (cs := [cU]) (hc := M.kinds)) (v_consB (TrE.b v_var) (v_consB (TrE.b v_ty) v_nilB)))) (TrE.b (v_cb (b_isi (T := "list") (cs := [cU]) (hc := M.kinds)) (v_consB (TrE.b v_var) (v_consB (TrE.b v_ty) v_nilB)))))) (v_not (v_tB (v_cb (b_isi2 (T1 := "list") (T2 := "tuple") (cs := [cU]) (hc := M.kinds)) (v_consB (TrE.b v_var) (v_consB (TrE.b (v_tup (v_cons v_ty (v_cons v_ty v_nil)))) v_nilB))))))
      (s_ret v_bl) s_nil)
      (s_seq (s_if (v_test (v_op o_ne (TrE.b (v_cb b_len (v_consB (TrE.b v_var) v_nilB))) (TrE.b (v_cb b_len (v_consB (TrE.b v_var) v_nilB)))))
      (s_ret v_bl) s_nil)
      (s_ret (v_op o_eq (TrE.b (v_cb b_len (v_consB (TrF.b (v_lc (i_rng1 (v_cons (v_cb b_len (v_consB (TrE.b v_var) v_nilB)) v_nil)) (g_name (by decide)) (v_not (v_tB (v_call ple0 (v_cons (v_op o_ix (TrE.b v_var) (TrE.b v_var)) (v_cons (v_op o_ix (TrE.b v_var) (TrE.b v_var)) v_nil))))) v_var)) v_nilB))) (TrE.b v_int))))))))), fun us post hl hW => ?_⟩⟩
  obtain ⟨x, rfl, hp, p⟩ := hW
  cases x with
  | non => exact ⟨_, rfl, _, rfl, true, rfl, iteT ⟨_, rfl, _, rfl, p⟩⟩
  | bl b =>
    refine ⟨_, rfl, _, rfl, false, rfl, iteF ⟨_, rfl, _, rfl, trivial, true, rfl, iteT (iteT ?_)⟩⟩
    refine ⟨_, rfl, _, rfl, trivial, true, rfl, iteT ⟨_, rfl, _, rfl, trivial, true, rfl, iteT ⟨_, rfl, _, rfl, _, fEq_self ?_, p⟩⟩⟩
    cases b <;> rfl
  | int i =>
    refine ⟨_, rfl, _, rfl, false, rfl, iteF ⟨_, rfl, _, rfl, trivial, false, rfl, iteF ⟨_, rfl, _, rfl, trivial, false, rfl, iteF ?_⟩⟩⟩
    exact ⟨_, rfl, _, rfl, trivial, true, rfl, iteT ⟨_, rfl, _, rfl, trivial, true, rfl, iteT ⟨_, rfl, _, rfl, _, fEq_self (eqU_int i), p⟩⟩⟩
  | str z =>
    refine ⟨_, rfl, _, rfl, false, rfl, iteF ⟨_, rfl, _, rfl, trivial, false, rfl, iteF ⟨_, rfl, _, rfl, trivial, false, rfl, iteF ?_⟩⟩⟩
    refine ⟨_, rfl, _, rfl, trivial, false, rfl, iteF ⟨_, rfl, _, rfl, trivial, true, rfl, iteT ?_⟩⟩
    exact ⟨_, rfl, _, rfl, trivial, true, rfl, iteT ⟨_, rfl, _, rfl, _, fEq_self (of_decide_eq_true (by cases n <;> exact hp)), p⟩⟩
  | lst us =>
    cases n with
    | zero => cases hp
    | succ m =>
      cases hR m rfl
      rw [plU, Bool.and_eq_true] at hp
      have hz := of_decide_eq_true hp.2
      refine ⟨_, rfl, _, rfl, false, rfl, iteF ⟨_, rfl, _, rfl, trivial, false, rfl, iteF ⟨_, rfl, _, rfl, trivial, false, rfl, iteF ?_⟩⟩⟩
      refine ⟨_, rfl, _, rfl, trivial, false, rfl, iteF ⟨_, rfl, _, rfl, trivial, false, rfl, iteF ?_⟩⟩
      refine ⟨_, rfl, _, rfl, trivial, _, rfl, _, rfl, trivial, _, rfl, false, rfl, iteF ⟨_, rfl, by show 2 ≤ 100000; decide, _, rfl, trivial, true, rfl, iteF ?_⟩⟩
      refine ⟨_, rfl, _, _, rfl, rfl, _, rfl, _, _, rfl, rfl, _, fNe_len _, false, rfl, iteF ?_⟩
      refine ⟨_, rfl, _, us.length, rfl, rfl, (us.length : Int), rfl, by omega, by omega, fun i acc => acc = [], rfl, ?_, ?_⟩
      · rintro i u acc e ha
        have hi : i < us.length ∧ u = .int (0 + (i : Int)) := by
          have l : i < us.length := by
            have := (List.getElem?_eq_some_iff.mp e).1
            rw [upto_len] at this
            simpa using this
          rw [Int.toNat_natCast, upto_get l] at e
          cases e
          exact ⟨l, rfl⟩
        obtain ⟨hi, rfl⟩ := hi
        obtain ⟨y, hy⟩ : ∃ y, us[i]? = some y := ⟨_, List.getElem?_eq_getElem hi⟩
        have hix : fIx (.lst us) (.int (0 + (i : Int))) = some y := by
          rw [Int.zero_add]
          exact atI_int (by omega) (by rw [Int.toNat_natCast]; exact hy)
        refine ⟨_, rfl, _, rfl, _, hix, _, rfl, _, rfl, _, hix, rfl, y, rfl, List.all_eq_true.mp hp.1 y (List.mem_of_getElem? hy), true, rfl, iteF ha⟩
      · rintro acc rfl
        exact ⟨_, _, rfl, rfl, _, rfl, p⟩
  | tup us =>
    cases n with
    | zero => cases hp
    | succ m =>
      cases hR m rfl
      rw [plU, Bool.and_eq_true] at hp
      have hz := of_decide_eq_true hp.2
      refine ⟨_, rfl, _, rfl, false, rfl, iteF ⟨_, rfl, _, rfl, trivial, false, rfl, iteF ⟨_, rfl, _, rfl, trivial, false, rfl, iteF ?_⟩⟩⟩
      refine ⟨_, rfl, _, rfl, trivial, false, rfl, iteF ⟨_, rfl, _, rfl, trivial, false, rfl, iteF ?_⟩⟩
      refine ⟨_, rfl, _, rfl, trivial, _, rfl, _, rfl, trivial, _, rfl, false, rfl, iteF ⟨_, rfl, by show 2 ≤ 100000; decide, _, rfl, trivial, true, rfl, iteF ?_⟩⟩
      refine ⟨_, rfl, _, _, rfl, rfl, _, rfl, _, _, rfl, rfl, _, fNe_len _, false, rfl, iteF ?_⟩
      refine ⟨_, rfl, _, us.length, rfl, rfl, (us.length : Int), rfl, by omega, by omega, fun i acc => acc = [], rfl, ?_, ?_⟩
      · rintro i u acc e ha
        have hi : i < us.length ∧ u = .int (0 + (i : Int)) := by
          have l : i < us.length := by
            have := (List.getElem?_eq_some_iff.mp e).1
            rw [upto_len] at this
            simpa using this
          rw [Int.toNat_natCast, upto_get l] at e
          cases e
          exact ⟨l, rfl⟩
        obtain ⟨hi, rfl⟩ := hi
        obtain ⟨y, hy⟩ : ∃ y, us[i]? = some y := ⟨_, List.getElem?_eq_getElem hi⟩
        have hix : fIx (.tup us) (.int (0 + (i : Int))) = some y := by
          rw [Int.zero_add]
          exact atI_int (by omega) (by rw [Int.toNat_natCast]; exact hy)
        refine ⟨_, rfl, _, rfl, _, hix, _, rfl, _, rfl, _, hix, rfl, y, rfl, List.all_eq_true.mp hp.1 y (List.mem_of_getElem? hy), true, rfl, iteF ha⟩
      · rintro acc rfl
        exact ⟨_, _, rfl, rfl, _, rfl, p⟩
  | dic _ => cases n <;> cases hp
  | dit _ => cases n <;> cases hp
  | ins _ _ => cases n <;> cases hp
  | pool => cases n <;> cases hp
  | ty _ => cases n <;> cases hp
theorem ok_law_same (M : MF P w K mg cR iR cT iT cO cU fU lU tU gU cL) (F : Fun K "_law_same" "_law_same" s_law_same f fd) (gf : mg "_law_same" = some (.ref f)) (bf : Binds K fd ["actual", "due"] []) : ∀ n, FnOk P w K mg base CX0 (2 * n + 2) f fd ["actual", "due"] (spV false 2 (WSame n))
  | 0 => same_body M F (k := 0) (WR := fun _ _ _ => False) ⟨f, fd, ⟨fun _ _ _ _ z => by obtain ⟨_, _, _, _, _, _, _, _, _, _, z, _⟩ := z; exact z.elim, fun _ _ _ _ _ _ _ _ _ _ _ _ _ z => by obtain ⟨_, _, _, _, _, _, _, _, _, _, z, _⟩ := z; exact z.elim⟩, gf, F.kp, bf⟩ fun m e => nomatch e
  | n + 1 => same_body M F (k := 2 * n + 2) ⟨f, fd, ok_law_same M F gf bf n, gf, F.kp, bf⟩ fun m e => by
    cases e
    rfl
end

end K12
namespace K12
open PySem PySem.Spec PyProof.Rows L2 SL SV
local macro_rules | `(tactic| ac_rfl) => `(tactic| (repeat first | refine ⟨_, rfl, ?_⟩ | refine ⟨rfl, ?_⟩ | refine iteT ?_ | refine iteF ?_ | refine ⟨trivial, ?_⟩ | refine ⟨Nat.le_of_ble_eq_true rfl, ?_⟩ | refine ⟨_, _, rfl, rfl, ?_⟩ | refine ⟨_, _, rfl, ?_⟩ | refine ⟨_, .inl rfl, ?_⟩ | refine ⟨_, .inr rfl, ?_⟩ | refine .inl ⟨_, rfl, ?_⟩ | refine .inr ⟨_, rfl, ?_⟩ | refine ⟨_, _, .inl rfl, ?_⟩ | refine ⟨_, _, .inr rfl, ?_⟩ | refine ⟨by decide, ?_⟩))
section
variable {P : Program} {w : World} {K : PySem.W.Frag} {mg : Str → Option Value} {base : Heap} {cR iR cT iT cO cU fU lU tU gU cL : Addr} {fdU fdL fdT fdG : FuncData} {f : Addr} {fd : FuncData}
/-! ### _law_signs -/
def sgs : List Nat := SG.cps.toList
theorem erase_map (l : List Nat) (k : Nat) : (l.map chU).eraseIdx k = (l.eraseIdx k).map chU := by
  rw [List.eraseIdx_eq_take_drop_succ, List.eraseIdx_eq_take_drop_succ, List.map_append, List.map_take, List.map_drop]
theorem pop_perm {l f : List Nat} {k c : Nat} (h : l[k]? = some c) : (l.eraseIdx k ++ (f ++ [c])).Perm (l ++ f) := by
  have hk := (List.getElem?_eq_some_iff.mp h)
  obtain ⟨hk, e⟩ := hk
  have p1 : (c :: l.eraseIdx k).Perm l := by
    have el : l = l.take k ++ c :: l.drop (k + 1) := by
      rw [← e, List.getElem_cons_drop, List.take_append_drop]
    rw [List.eraseIdx_eq_take_drop_succ]
    exact List.perm_middle.symm.trans (by rw [← el])
  have p2 : (l.eraseIdx k ++ (f ++ [c])).Perm (l.eraseIdx k ++ (c :: f)) := List.Perm.append_left _ (List.perm_append_singleton c f)
  have p3 : (l.eraseIdx k ++ (c :: f)).Perm (c :: (l.eraseIdx k ++ f)) := List.perm_middle
  exact p2.trans (p3.trans (List.Perm.append_right f p1))
theorem chs_str (f : List Nat) : f.map chU = (f.map fun c => (⟨#[c]⟩ : Str)).map U.str := by
  rw [List.map_map]
  rfl
theorem sc_law_signs : FnScope ["pool", "many", "left", "found", "k"] ["pool", "many"] (defScope s_law_signs) := ⟨rfl, rfl, rfl, by decide +kernel, rfl, by decide +kernel, by decide +kernel⟩
def WSignsD : Wf := fun us post _ => ∃ n : Nat, us = [.pool, .int n] ∧ n ≤ 10 ∧ ∀ (ss : List Str) (f : List Nat), ss.Perm (f.map fun c => (⟨#[c]⟩ : Str)) → f.length = n → f.Nodup → (∀ c ∈ f, c ∈ sgs) → sortedS ss = true → post (.lst (ss.map U.str))
theorem ok_law_signs (M : MF P w K mg cR iR cT iT cO cU fU lU tU gU cL) (F_law_draw : FnC P w K mg base CX0 1 "_law_draw" ["pool", "many"] (spV true 2 WDraw)) (F : Fun K "_law_signs" "_law_signs" s_law_signs f fd) : FnOk P w K mg base CX0 2 f fd ["pool", "many"] (spV true 2 WSignsD) := by
  refine okV (k := 1) F sc_law_signs rfl (by decide) fun cdv A outer s H E hr => ⟨_, (pss_cons (ps_set (i := 2) sc_law_signs.nd rfl (Or.inl rfl) (pe_callTy (call_list_txt rfl) (by rfl) M.m_list (by decide +kernel) (pa_cons pe_str pa_nil)))
      (pss_cons (ps_if (pt_cmpR op_gt (pe_f F_law_draw hr (by omega) pass0 (pa_cons (pv 0) (pa_cons pe_int pa_nil))) pe_int (nomark _))
      (pss_one (ps_set (i := 2) sc_law_signs.nd rfl (Or.inl rfl) (pe_callTy (call_list_txt rfl) (by rfl) M.m_list (by decide +kernel) (pa_cons pe_str pa_nil)))) pss_nil)
      (pss_cons (ps_set (i := 3) sc_law_signs.nd rfl (Or.inl rfl) (pe_lst pa_nil))
      (pss_cons (ps_for PassesOwn.never rfl (pi_range1 (by rfl) M.m_range (pa_cons (pv 1) pa_nil)) (pg_name (i := 4) sc_law_signs.nd rfl (Or.inl rfl))
      (pss_one (ps_expr (pe_bm PySem.F.plainAttrs_list PySem.F.slot_list_append PySem.F.type_list_append mt_append (pv 3) (pa_cons (pe_bm PySem.F.plainAttrs_list PySem.F.slot_list_pop PySem.F.type_list_pop mt_popAt (pv 2) (pa_cons (pe_f F_law_draw hr (by omega) pass0 (pa_cons (pv 0) (pa_cons (pe_callB (call_lenV K) (by rfl) M.m_len PySem.boot_len (pa_cons (pv 2) pa_nil)) pa_nil))) pa_nil)) pa_nil)))))
      (pss_one (ps_ret (pe_callB (cr_sortSK K) (by rfl) M.m_sorted (by decide +kernel) (pa_cons (pv 3) pa_nil)))))))), fun Z hb hE hs => ⟨_, (s_seq (s_setO (v_cbF b_listS (v_consB (TrE.b v_str) v_nilB)))
      (s_cut (s_if (v_test (v_op o_IB (TrE.b (v_call (ple1 (by rw [hb])) (v_cons v_var (v_cons v_int v_nil)))) (TrE.b v_int)))
      (s_setO (v_cbF b_listS (v_consB (TrE.b v_str) v_nilB))) s_nil)
      (s_seq (s_setO (v_lst v_nil))
      (s_seq (s_for (vs := [4]) (i_rng1 (v_cons v_var v_nil)) (g_name (by decide))
      (s_appPop (v_call (ple1 (by rw [hb])) (v_cons v_var (v_cons (v_cb b_len (v_consB v_own v_nilB)) v_nil)))))
      (s_ret (TrF.e (v_cbF b_sortS (v_consB v_own v_nilB)))))))), fun us post hl hW => ?_⟩⟩
  obtain ⟨n, rfl, n10, p⟩ := hW
  refine ⟨_, rfl, ?_⟩
  refine ⟨fun ρ => ∃ l : List Nat, ρ = [.fz .pool, .fz (.int n), .ow (.lst (l.map chU)), .no, .no] ∧ 12 ≤ l.length ∧ l.length ≤ 36 ∧ l.Nodup ∧ ∀ c ∈ l, c ∈ sgs, ⟨_, rfl, rfl, 3, rfl, by decide, by decide, fun d d0 d1 => ⟨_, rfl, _, rfl, ?_⟩⟩, ?_⟩
  · by_cases c : 0 < d
    · rw [decide_eq_true c]
      exact iteT ⟨_, rfl, ("abcdefghijkl" : Str).cps.toList, rfl, by decide +kernel, by decide +kernel, by decide +kernel, by decide +kernel⟩
    · rw [decide_eq_false c]
      exact iteF ⟨sgs, rfl, by decide +kernel, by decide +kernel, by decide +kernel, fun c h => h⟩
  rintro _ ⟨l0, rfl, l12, l36, nd0, in0⟩
  refine ⟨by show 0 ≤ 100000; decide, ?_⟩
  refine ⟨_, rfl, (n : Int), rfl, by omega, by omega, fun k ρ => ∃ (l f : List Nat) (a4 : Cell), ρ = [.fz .pool, .fz (.int n), .ow (.lst (l.map chU)), .ow (.lst (f.map chU)), a4] ∧ f.length = k ∧ l.length + k = l0.length ∧ (l ++ f).Nodup ∧ ∀ c ∈ l ++ f, c ∈ sgs, ⟨l0, [], _, rfl, rfl, rfl, by rw [List.append_nil]; exact nd0, fun c h => in0 c (by rw [List.append_nil] at h; exact h)⟩, ?_, ?_⟩
  · rintro k u _ e ⟨l, f, a4, rfl, lf, ll, nd, al⟩
    obtain ⟨hk, rfl⟩ := upto_at0 e
    have hk : k < n := by simpa using hk
    refine ⟨by decide, f.map chU, l.map chU, rfl, by rw [List.length_map]; omega, rfl, _, rfl, _, rfl, _, l.length, rfl, by show some (l.map chU).length = _; rw [List.length_map], rfl, (l.length : Int), rfl, by omega, by omega, fun d d0 d1 => ?_⟩
    obtain ⟨c, hc⟩ : ∃ c, l[d.toNat]? = some c := ⟨_, List.getElem?_eq_getElem (by omega)⟩
    have pp := pop_perm (f := f) hc
    refine ⟨d, chU c, rfl, d0, by omega, by rw [List.getElem?_map, hc]; rfl, l.eraseIdx d.toNat, f ++ [c], .fz (.int (k : Int)), ?_, by rw [List.length_append, lf]; rfl, ?_, pp.nodup_iff.mpr nd, fun x hx => al x (pp.mem_iff.mp hx)⟩
    · rw [erase_map, List.map_append]
      rfl
    · rw [List.length_eraseIdx_of_lt (by omega)]
      omega
  · rintro _ ⟨l, f, a4, rfl, lf, ll, nd, al⟩
    rw [upto_len, Int.toNat_natCast] at lf
    refine ⟨_, rfl, f.map fun c => (⟨#[c]⟩ : Str), by rw [← chs_str], by rw [List.length_map]; omega, fun ms pm so => p ms f pm lf (List.nodup_append.mp nd).2.1 (fun c hc => al c (List.mem_append_right _ hc)) so⟩
end

section
variable {P : Program} {w : World} {K : PySem.W.Frag} {mg : Str → Option Value} {base : Heap} {cR iR cT iT cO cU fU lU tU gU cL : Addr} {fdU fdL fdT fdG : FuncData} {f : Addr} {fd : FuncData}
/-! ### _law_text -/
def oneS (c : Nat) : Str := ⟨#[c]⟩
theorem joinL_ones : ∀ cs : List Nat, TL.joinL [] (cs.map fun c => [c]) = cs
  | [] => rfl
  | [_] => rfl
  | a :: b :: r => by
    have := joinL_ones (b :: r)
    show [a] ++ ([] ++ TL.joinL [] ((b :: r).map fun c => [c])) = a :: b :: r
    rw [this]
    rfl
theorem join_ones (cs : List Nat) : (Txt.join "" (cs.map oneS)).cps.toList = cs := by
  have e := TL.tl_join ("" : Str) (cs.map oneS)
  rw [List.map_map, show (TL.tl ∘ oneS) = fun c => [c] from rfl, show TL.tl ("" : Str) = [] from rfl, joinL_ones] at e
  have e2 := congrArg TL.tl (TL.join_eq ("" : Str) (cs.map oneS))
  rw [e] at e2
  exact e2
theorem sum_ones (cs : List Nat) : ((cs.map oneS).map (·.length)).sum = cs.length := by
  induction cs with
  | nil => rfl
  | cons c r ih =>
    rw [List.map_cons, List.map_cons, List.sum_cons, ih, List.length_cons]
    show 1 + r.length = r.length + 1
    omega
end

section
variable {P : Program} {w : World} {K : PySem.W.Frag} {mg : Str → Option Value} {base : Heap} {cR iR cT iT cO cU fU lU tU gU cL : Addr} {fdU fdL fdT fdG : FuncData} {f : Addr} {fd : FuncData}
/-! ### signs of one character -/
theorem tf {b : Bool} {P : Prop} (h : b = true) (z : b = false) : P := by
  rw [h] at z
  cases z
theorem ones_lt (a b : Nat) : ltU (.str (oneS a)) (.str (oneS b)) = some (decide (a < b)) := by
  have e : decide ([a] < [b]) = decide (a < b) := by rw [Bool.eq_iff_iff, decide_eq_true_eq, decide_eq_true_eq, SL.one_lt]
  exact congrArg some e
theorem ris_cons (x y : U) (r : List U) : risU (x :: y :: r) = ((ltU x y).getD false && risU (y :: r)) := rfl
theorem ris_ones : ∀ cs : List Nat, cs.Pairwise (· < ·) → risU ((cs.map oneS).map U.str) = true
  | [], _ => rfl
  | [_], _ => rfl
  | a :: b :: r, h => by
    have ih := ris_ones (b :: r) (List.pairwise_cons.mp h).2
    have := (List.pairwise_cons.mp h).1 b (List.mem_cons_self ..)
    show risU (.str (oneS a) :: .str (oneS b) :: _) = true
    rw [ris_cons, ones_lt, decide_eq_true this]
    exact ih
theorem ones_ris : ∀ cs : List Nat, risU ((cs.map oneS).map U.str) = true → cs.Pairwise (· < ·)
  | [], _ => .nil
  | [_], _ => List.pairwise_singleton ..
  | a :: b :: r, h => by
    have h' : risU (.str (oneS a) :: .str (oneS b) :: (r.map oneS).map U.str) = true := h
    rw [ris_cons, ones_lt, Bool.and_eq_true] at h'
    have ih := ones_ris (b :: r) h'.2
    have lt : a < b := of_decide_eq_true h'.1
    refine List.pairwise_cons.mpr ⟨fun x hx => ?_, ih⟩
    rcases List.mem_cons.mp hx with rfl | hx
    · exact lt
    · exact Nat.lt_trans lt ((List.pairwise_cons.mp ih).1 x hx)
theorem twice_not {cs : List Nat} (h : cs ≠ []) : risU (((cs ++ cs).map oneS).map U.str) = false := by
  cases c : risU (((cs ++ cs).map oneS).map U.str) with
  | false => rfl
  | true =>
    have p := List.pairwise_append.mp (ones_ris _ c)
    cases cs with
    | nil => exact absurd rfl h
    | cons a r => exact absurd (p.2.2 a (List.mem_cons_self ..) a (List.mem_cons_self ..)) (Nat.lt_irrefl a)
theorem sorted_lt : ∀ {cs : List Nat}, cs.Nodup → sortedS (cs.map oneS) = true → cs.Pairwise (· < ·)
  | [], _, _ => .nil
  | [_], _, _ => List.pairwise_singleton ..
  | a :: b :: r, nd, h => by
    have h' : (!PySem.Spec.ltCps [b] [a] && sortedS ((b :: r).map oneS)) = true := h
    rw [Bool.and_eq_true, PyProof.Rows.ltCps_eq, Bool.not_eq_true', decide_eq_false_iff_not, SL.one_lt] at h'
    have ih := sorted_lt (cs := b :: r) (List.nodup_cons.mp nd).2 h'.2
    have ne : a ≠ b := fun e => (List.nodup_cons.mp nd).1 (by rw [e]; exact List.mem_cons_self ..)
    refine List.pairwise_cons.mpr ⟨fun x hx => ?_, ih⟩
    rcases List.mem_cons.mp hx with rfl | hx
    · omega
    · have := (List.pairwise_cons.mp ih).1 x hx
      omega
theorem sign_ones : ∀ c ∈ sgs, signU (.str (oneS c)) = true := by decide +kernel
theorem signs_ones {g : List Nat} (h1 : 1 ≤ g.length) (h10 : g.length ≤ 10) (pw : g.Pairwise (· < ·)) (hs : ∀ c ∈ g, c ∈ sgs) {d : U} (hd : itemsU d = some ((g.map oneS).map U.str)) : signsB d = true := by
  unfold signsB
  rw [hd]
  show ((decide _ && decide _) && _ && _) = true
  rw [ris_ones g pw, List.length_map, List.length_map, decide_eq_true (by omega), decide_eq_true (by omega)]
  show (true && _ && true) = true
  rw [Bool.and_true, Bool.true_and, List.all_eq_true]
  intro u hu
  rw [List.map_map] at hu
  obtain ⟨c, hc, rfl⟩ := List.mem_map.mp hu
  exact sign_ones c (hs c hc)
/-- signs that are drawn: one by one ascending -/
theorem drawn_signs {ss : List Str} {f : List Nat} (hp : ss.Perm (f.map fun c => (⟨#[c]⟩ : Str))) (nd : f.Nodup) (so : sortedS ss = true) (hs : ∀ c ∈ f, c ∈ sgs) : ∃ g : List Nat, ss = g.map oneS ∧ g.length = f.length ∧ g.Pairwise (· < ·) ∧ ∀ c ∈ g, c ∈ sgs := by
  obtain ⟨g, pg, rfl⟩ := SL.perm_ch hp
  exact ⟨g, rfl, pg.length_eq, sorted_lt (pg.nodup_iff.mpr nd) so, fun c hc => hs c (pg.mem_iff.mp hc)⟩
theorem ones_nodup {g : List Nat} (h : g.Pairwise (· < ·)) : (g.map oneS).Nodup := by
  rw [List.Nodup, List.pairwise_map]
  exact h.imp fun {a b} lt e => by
    have : a = b := SL.ch_inj e
    omega
theorem addI {a b c : Int} (h : a + b = c) : fAdd (.int a) (.int b) = some (.int c) := by
  rw [← h]
  rfl
/-- a thing picked from a menu -/
theorem pickM (P : U → Prop) {us : List U} {n : Nat} {post : U → Prop} {d : Int} (d0 : 0 ≤ d) (d1 : d < n) (hl : us.length = n) (h : ∀ u ∈ us, P u) (k : ∀ u, P u → post u) : ∃ u, fIx (.lst us) (.int d) = some u ∧ post u := by
  obtain ⟨u, hu⟩ : ∃ u, us[d.toNat]? = some u := ⟨_, List.getElem?_eq_getElem (by omega)⟩
  exact ⟨u, atI_int d0 hu, k u (h u (List.mem_of_getElem? hu))⟩
theorem catL_ok {xs ys : List U} (h : xs.length + ys.length ≤ 100000) : fCatL (.lst xs) (.lst ys) = some (.lst (xs ++ ys)) := if_pos h
theorem tailL (us : List U) : fSlL (.lst us) (some 1) none = some (.lst (us.drop 1)) := by
  show some (U.lst (cutU us (some 1) none)) = _
  unfold cutU
  rw [show HT.sIx us.length us.length none = us.length from rfl, show HT.sIx us.length 0 (some 1) = min 1 us.length from HT.sIx_nat _ _ 1, List.take_of_length_le (by rw [List.length_drop]; exact Nat.le_refl _)]
  cases us <;> rfl
theorem cutU_one (us : List U) : cutU us (some 1) none = us.drop 1 := U.lst.inj (Option.some.inj (tailL us))
end

end K12
namespace K12
open PySem PySem.Spec PyProof.Rows L2 SL SV
local macro_rules | `(tactic| ac_rfl) => `(tactic| (repeat first | refine ⟨_, rfl, ?_⟩ | refine ⟨rfl, ?_⟩ | refine iteT ?_ | refine iteF ?_ | refine ⟨trivial, ?_⟩ | refine ⟨Nat.le_of_ble_eq_true rfl, ?_⟩ | refine ⟨_, _, rfl, rfl, ?_⟩ | refine ⟨_, _, rfl, ?_⟩ | refine ⟨_, .inl rfl, ?_⟩ | refine ⟨_, .inr rfl, ?_⟩ | refine .inl ⟨_, rfl, ?_⟩ | refine .inr ⟨_, rfl, ?_⟩ | refine ⟨_, _, .inl rfl, ?_⟩ | refine ⟨_, _, .inr rfl, ?_⟩ | refine ⟨by decide, ?_⟩))
section
variable {P : Program} {w : World} {K : PySem.W.Frag} {mg : Str → Option Value} {base : Heap} {cR iR cT iT cO cU fU lU tU gU cL : Addr} {fdU fdL fdT fdG : FuncData} {f : Addr} {fd : FuncData}
/-! ### models of rules, _law_rule, _law_pairs, _law_due, _law_fields, _law_round -/
def mrow (r : List Int) : U := .lst (r.map U.int)
def modelU (ss : List Str) (mv : List (List Int)) (gd : List Int) : U := .lst [.lst (ss.map U.str), .lst (mv.map mrow), mrow gd]
def allRange (n : Nat) : List Int := (List.range n).map fun (i : Nat) => (i : Int)
theorem sc_law_rule_model : FnScope ["pool", "signs", "most", "states", "moves", "good", "state", "sign"] ["pool", "signs", "most"] (defScope s_law_rule_model) := ⟨rfl, rfl, rfl, by decide +kernel, rfl, by decide +kernel, by decide +kernel⟩
def WModel : Wf := fun us post _ => ∃ (ss : List Str) (m : Nat), us = [.pool, .lst (ss.map U.str), .int (m : Int)] ∧ 1 ≤ m ∧ m ≤ 40 ∧ ss.length ≤ 10 ∧ ∀ (mv : List (List Int)) (gd : List Int), 1 ≤ mv.length → mv.length ≤ m → (∀ r ∈ mv, r.length = ss.length ∧ ∀ x ∈ r, 0 ≤ x ∧ x < mv.length) → gd.Pairwise (· < ·) → (∀ x ∈ gd, 0 ≤ x ∧ x < mv.length) → post (modelU ss mv gd)
theorem ok_law_rule_model (M : MF P w K mg cR iR cT iT cO cU fU lU tU gU cL) (F_law_draw : FnC P w K mg base CX0 1 "_law_draw" ["pool", "many"] (spV true 2 WDraw)) (F : Fun K "_law_rule_model" "_law_rule_model" s_law_rule_model f fd) : FnOk P w K mg base CX0 2 f fd ["pool", "signs", "most"] (spV true 3 WModel) := by
  refine okV (k := 1) F sc_law_rule_model rfl (by decide) fun cdv A outer s H E hr => ⟨_, (pss_cons (ps_set (i := 3) sc_law_rule_model.nd rfl (Or.inr rfl) (pe_op (op_addU K) pe_int (pe_f F_law_draw hr (by omega) pass0 (pa_cons (pv 0) (pa_cons (pv 2) pa_nil)))))
      (pss_cons (ps_setLc (i := 4) (own := [("state", 6)]) (tt := tYes) rfl sc_law_rule_model.nd rfl rfl (sw_true rfl rfl rfl (by decide +kernel)) (pi_range1 (by rfl) M.m_range (pa_cons (pv 3) pa_nil)) (blkOk_by (N := ["pool", "signs", "most", "states", "moves", "good", "state", "sign"]) (sc := defScope s_law_rule_model) (by decide +kernel)) (fun _ _ _ _ _ => (pg_name (i := 6) sc_law_rule_model.nd rfl (Or.inl rfl))) (fun _ _ _ _ _ => pts_nil) (fun _ _ _ _ _ => (pe_lc (own := [("sign", 7)]) (tt := tYes) rfl sc_law_rule_model.nd (pi_seq K (pv 1)) (blkOk_by (N := ["pool", "signs", "most", "states", "moves", "good", "state", "sign"]) (sc := ({ kind := .function, names := [(".0", .local), ("state", .local), ("pool", .cell), ("signs", .cell), ("states", .cell)], isGenerator := false, isCoroutine := false } : Scope)) (by decide +kernel)) (fun _ _ _ _ _ => (pg_name (i := 7) sc_law_rule_model.nd rfl (Or.inl rfl))) (fun _ _ _ _ _ => pts_nil) (fun _ _ _ _ _ => (pe_f F_law_draw hr (by omega) pass0 (pa_cons (pv 0) (pa_cons (pv 3) pa_nil)))))))
      (pss_cons (ps_setLc (i := 5) (own := [("state", 6)]) rfl sc_law_rule_model.nd rfl rfl (sw_true rfl rfl rfl (by decide +kernel)) (pi_range1 (by rfl) M.m_range (pa_cons (pv 3) pa_nil)) (blkOk_by (N := ["pool", "signs", "most", "states", "moves", "good", "state", "sign"]) (sc := defScope s_law_rule_model) (by decide +kernel)) (fun _ _ _ _ _ => (pg_name (i := 6) sc_law_rule_model.nd rfl (Or.inl rfl))) (fun _ _ _ _ _ => (pts_one (pt_cmpR (op_eqV K hr.units) (pe_f F_law_draw hr (by omega) pass0 (pa_cons (pv 0) (pa_cons pe_int pa_nil))) pe_int (nomark _)))) (fun _ _ _ _ _ => (pv 6)))
      (pss_one (ps_ret (pe_lst (pa_cons (pe_callTy (call_listOfK K) (by rfl) M.m_list (by decide +kernel) (pa_cons (pv 1) pa_nil)) (pa_cons (pv 4) (pa_cons (pv 5) pa_nil))))))))), fun Z hb hE hs => ⟨_, (s_seq (s_set (v_op o_add (TrE.b v_int) (TrE.b (v_call (ple1 (by rw [hb])) (v_cons v_var (v_cons v_var v_nil))))))
      (s_seq (s_set (TrF.e (v_lc (i_rng1 (v_cons v_var v_nil)) (g_name (by decide)) v_yes (TrF.e (v_lc (i_seq v_var) (g_name (by decide)) v_yes (v_call (ple1 (by rw [hb])) (v_cons v_var (v_cons v_var v_nil))))))))
      (s_seq (s_set (TrF.e (v_lc (i_rng1 (v_cons v_var v_nil)) (g_name (by decide)) (v_test (v_op o_eq (TrE.b (v_call (ple1 (by rw [hb])) (v_cons v_var (v_cons v_int v_nil)))) (TrE.b v_int))) v_var)))
      (s_ret (TrF.e (v_lst (v_cons (TrF.e (v_cbF b_list (v_consB (TrE.b v_var) v_nilB))) (v_cons v_var (v_cons v_var v_nil))))))))), fun us post hl hW => ?_⟩⟩
  obtain ⟨ss, m, rfl, m1, m40, s10, p⟩ := hW
  refine ⟨_, rfl, _, rfl, rfl, (m : Int), rfl, by omega, by omega, fun d d0 d1 => ?_⟩
  obtain ⟨n, rfl⟩ : ∃ n : Nat, d = (n : Int) := ⟨d.toNat, by omega⟩
  have en : (1 : Int) + (n : Int) = ((n + 1 : Nat) : Int) := by omega
  refine ⟨_, rfl, ?_⟩
  rw [en]
  refine ⟨_, rfl, ((n + 1 : Nat) : Int), rfl, by omega, by omega, fun i acc => ∃ mv : List (List Int), acc = mv.map mrow ∧ mv.length = i ∧ ∀ r ∈ mv, r.length = ss.length ∧ ∀ x ∈ r, 0 ≤ x ∧ x < ((n + 1 : Nat) : Int), ⟨[], rfl, rfl, fun r hr => nomatch hr⟩, ?_, ?_⟩
  · rintro i u acc e ⟨mv, rfl, l, hr⟩
    refine lcI ?_
    ac_rfl
    refine ⟨fun j acc => ∃ r : List Int, acc = r.map U.int ∧ r.length = j ∧ ∀ x ∈ r, 0 ≤ x ∧ x < ((n + 1 : Nat) : Int), ⟨[], rfl, rfl, fun r hr => nomatch hr⟩, ?_, ?_⟩
    · rintro j u acc e ⟨r, rfl, l2, h2⟩
      refine lcI ⟨_, rfl, _, rfl, rfl, _, rfl, by omega, by omega, fun d d0 d1 => ⟨r ++ [d], by rw [List.map_append]; rfl, by rw [List.length_append, l2]; rfl, fun x hx => ?_⟩⟩
      rcases List.mem_append.mp hx with hx | hx
      · exact h2 x hx
      · rw [List.mem_singleton.mp hx]
        exact ⟨d0, d1⟩
    rintro acc ⟨r, rfl, l2, h2⟩
    rw [List.length_map] at l2
    refine ⟨mv ++ [r], by rw [List.map_append]; rfl, by rw [List.length_append, l]; rfl, fun x hx => ?_⟩
    rcases List.mem_append.mp hx with hx | hx
    · exact hr x hx
    · rw [List.mem_singleton.mp hx]
      exact ⟨l2, h2⟩
  rintro acc ⟨mv, rfl, l, hr⟩
  rw [upto_len, Int.toNat_natCast] at l
  refine ⟨_, rfl, ((n + 1 : Nat) : Int), rfl, by omega, by omega, fun i acc => ∃ gd : List Int, acc = gd.map U.int ∧ gd.Pairwise (· < ·) ∧ ∀ x ∈ gd, 0 ≤ x ∧ x < (i : Int), ⟨[], rfl, .nil, fun r hr => nomatch hr⟩, ?_, ?_⟩
  · rintro i u acc e ⟨gd, rfl, pw, hg⟩
    obtain ⟨hi, rfl⟩ := upto_at0 e
    refine ⟨_, rfl, rfl, 2, rfl, by decide, by decide, fun d d0 d1 => ⟨_, fEq_int _ _, _, rfl, ?_⟩⟩
    by_cases c : d = 0
    · rw [decide_eq_true c]
      refine iteT ⟨_, rfl, gd ++ [(i : Int)], by rw [List.map_append]; rfl, ?_, fun x hx => ?_⟩
      · rw [List.pairwise_append]
        exact ⟨pw, List.pairwise_singleton _ _, fun a ha b hb => by rw [List.mem_singleton.mp hb]; exact (hg a ha).2⟩
      · rcases List.mem_append.mp hx with hx | hx
        · have := hg x hx
          omega
        · rw [List.mem_singleton.mp hx]
          omega
    · rw [decide_eq_false c]
      exact iteF ⟨gd, rfl, pw, fun x hx => by have := hg x hx; omega⟩
  rintro acc ⟨gd, rfl, pw, hg⟩
  rw [upto_len, Int.toNat_natCast] at hg
  ac_rfl
  exact p mv gd (by omega) (by omega) (fun r h => by have := hr r h; rw [l]; exact this) pw (fun x h => by have := hg x h; rw [l]; exact this)
theorem sc_law_rule : FnScope ["model", "line"] ["model"] (defScope s_law_rule) := ⟨rfl, rfl, rfl, by decide +kernel, rfl, by decide +kernel, by decide +kernel⟩
def WLRule (cU : Addr) : Wf := fun us post _ => ∃ ss mv gd, us = [modelU ss mv gd] ∧ RFine ss mv gd ∧ post (ruleV cU ss mv gd)
theorem ok_law_rule (M : MF P w K mg cR iR cT iT cO cU fU lU tU gU cL) (ORule : FnOk P w K mg base (L2.CX P w) 6 fU fdU ["self", "signs", "moves", "good"] (spI cU false 3 (WRule [cU] cR cU))) (BRule : Binds K fdU ["self", "signs", "moves", "good"] []) (F : Fun K "_law_rule" "_law_rule" s_law_rule f fd) : FnOk P w K mg base CX0 8 f fd ["model"] (spV false 1 (WLRule cU)) := by
  refine okV (k := 7) F sc_law_rule rfl (by decide) fun cdv A outer s H E hr => ⟨_, (pss_one (ps_ret (pe_make M.mk_Rule ORule (hr.mono (by decide)) (by rfl) M.g_Rule BRule .nil passL (pa_cons (pe_callTy (call_tupleK K) (by rfl) M.m_tuple (by decide +kernel) (pa_cons (pe_ix (ix_seqK K) (pv 0) pe_int (fun _ _ => rfl)) pa_nil)) (pa_cons (pe_callTy (call_tupleK K) (by rfl) M.m_tuple (by decide +kernel) (pa_cons (pe_lc (own := [("line", 1)]) (tt := tYes) rfl sc_law_rule.nd (pi_seq K (pe_ix (ix_seqK K) (pv 0) pe_int (fun _ _ => rfl))) (blkOk_by (N := ["model", "line"]) (sc := defScope s_law_rule) (by decide +kernel)) (fun _ _ _ _ _ => (pg_name (i := 1) sc_law_rule.nd rfl (Or.inl rfl))) (fun _ _ _ _ _ => pts_nil) (fun _ _ _ _ _ => (pe_callTy (call_tupleK K) (by rfl) M.m_tuple (by decide +kernel) (pa_cons (pv 1) pa_nil)))) pa_nil)) (pa_cons (pe_callTy (call_tupleK K) (by rfl) M.m_tuple (by decide +kernel) (pa_cons (pe_ix (ix_seqK K) (pv 0) pe_int (fun _ _ => rfl)) pa_nil)) pa_nil)))))), fun Z hb hE hs => ⟨_, (s_ret (v_make ple0 (v_cons (v_cb b_tuple (v_consB (TrE.b (v_op o_ix (TrE.b v_var) (TrE.b v_int))) v_nilB)) (v_cons (v_cb b_tuple (v_consB (TrF.b (v_lc (i_seq (v_op o_ix (TrE.b v_var) (TrE.b v_int))) (g_name (by decide)) v_yes (v_cb b_tuple (v_consB (TrE.b v_var) v_nilB)))) v_nilB)) (v_cons (v_cb b_tuple (v_consB (TrE.b (v_op o_ix (TrE.b v_var) (TrE.b v_int))) v_nilB)) v_nil))))), fun us post hl hW => ?_⟩⟩
  obtain ⟨ss, mv, gd, rfl, r, p⟩ := hW
  ac_rfl
  refine ⟨fun i acc => acc = (mv.take i).map rowV, rfl, ?_, ?_⟩
  · rintro i u acc e rfl
    obtain ⟨x, ex, rfl⟩ := map_at e
    refine lcI ?_
    refine ⟨_, rfl, _, .inl rfl, map_step rowV rfl ex⟩
  rintro acc h
  rw [List.length_map, List.take_length] at h
  subst h
  ac_rfl
  refine rule_made r rfl rfl ?_ rfl p
  rw [List.map_map]
  rfl
theorem sc_law_fields : FnScope ["rule"] ["rule"] (defScope s_law_fields) := ⟨rfl, rfl, rfl, by decide +kernel, rfl, by decide +kernel, by decide +kernel⟩
def WFields (cU : Addr) : Wf := fun us post _ => ∃ ss mv gd, us = [ruleV cU ss mv gd] ∧ post (.lst [.tup (ss.map U.str), .tup (mv.map rowV), rowV gd])
theorem ok_law_fields (M : MF P w K mg cR iR cT iT cO cU fU lU tU gU cL) (F : Fun K "_law_fields" "_law_fields" s_law_fields f fd) : FnOk P w K mg base CX0 1 f fd ["rule"] (spV false 1 (WFields cU)) := by
  refine okV (k := 0) F sc_law_fields rfl (by decide) fun cdv A outer s H E hr => ⟨_, (pss_one (ps_ret (pe_lst (pa_cons (pe_fldK K (pv 0) rfl) (pa_cons (pe_fldK K (pv 0) rfl) (pa_cons (pe_fldK K (pv 0) rfl) pa_nil)))))), fun Z hb hE hs => ⟨_, (s_ret (TrF.e (v_lst (v_cons (v_fld (TrE.b v_var)) (v_cons (v_fld (TrE.b v_var)) (v_cons (v_fld (TrE.b v_var)) v_nil)))))), fun us post hl hW => ?_⟩⟩
  obtain ⟨ss, mv, gd, rfl, p⟩ := hW
  exact ⟨_, rfl, cU, _, _, rfl, M.cl_Rule, M.n_signs, rfl, _, rfl, cU, _, _, rfl, M.cl_Rule, M.n_moves, rfl, _, rfl, cU, _, _, rfl, M.cl_Rule, M.n_good, rfl, by show 3 ≤ 100000; decide, p⟩
theorem sc_law_round : FnScope ["signs", "many", "good", "moves", "state", "sign"] ["signs", "many", "good"] (defScope s_law_round) := ⟨rfl, rfl, rfl, by decide +kernel, rfl, by decide +kernel, by decide +kernel⟩
def roundM (w n : Nat) : List (List Int) := (List.range n).map fun i => List.replicate w (if i + 1 = n then 0 else ((i + 1 : Nat) : Int))
def WRound : Wf := fun us post _ => ∃ (ss : List Str) (n : Nat) (gd : List Int), us = [.lst (ss.map U.str), .int (n : Int), mrow gd] ∧ n ≤ 100 ∧ post (modelU ss (roundM ss.length n) gd)
theorem ok_law_round (M : MF P w K mg cR iR cT iT cO cU fU lU tU gU cL) (F : Fun K "_law_round" "_law_round" s_law_round f fd) : FnOk P w K mg base CX0 1 f fd ["signs", "many", "good"] (spV false 3 WRound) := by
  refine okV (k := 0) F sc_law_round rfl (by decide) fun cdv A outer s H E hr => ⟨_, (pss_cons (ps_set (i := 3) sc_law_round.nd rfl (Or.inl rfl) (pe_lst pa_nil))
      (pss_cons (ps_for PassesOwn.never rfl (pi_range1 (by rfl) M.m_range (pa_cons (pv 1) pa_nil)) (pg_name (i := 4) sc_law_round.nd rfl (Or.inr rfl))
      (pss_one (ps_expr (pe_bm PySem.F.plainAttrs_list PySem.F.slot_list_append PySem.F.type_list_append mt_append (pv 3) (pa_cons (pe_lc (own := [("sign", 5)]) (tt := tYes) rfl sc_law_round.nd (pi_seq K (pv 0)) (blkOk_by (N := ["signs", "many", "good", "moves", "state", "sign"]) (sc := defScope s_law_round) (by decide +kernel)) (fun _ _ _ _ _ => (pg_name (i := 5) sc_law_round.nd rfl (Or.inl rfl))) (fun _ _ _ _ _ => pts_nil) (fun _ _ _ _ _ => (pe_ix (ix_seqK K) (pe_lst (pa_cons (pe_op (op_addU K) (pv 4) pe_int) (pa_cons pe_int pa_nil))) (pe_callTy call_int1 (by rfl) M.m_int (by decide +kernel) (pa_cons (pe_cmpR (op_eqV K hr.units) (pe_op (op_addU K) (pv 4) pe_int) (pv 1) (nomark _)) pa_nil)) (fun _ _ => rfl)))) pa_nil)))))
      (pss_one (ps_ret (pe_lst (pa_cons (pe_callTy (call_listOfK K) (by rfl) M.m_list (by decide +kernel) (pa_cons (pv 0) pa_nil)) (pa_cons (pv 3) (pa_cons (pv 2) pa_nil)))))))), fun Z hb hE hs => ⟨_, (s_seq (s_setO (v_lst v_nil))
      (s_seq (s_for (vs := [4]) (i_rng1 (v_cons v_var v_nil)) (g_name (by decide))
      (s_append (TrF.e (v_lc (i_seq v_var) (g_name (by decide)) v_yes (v_op o_ix (TrF.b (v_lst (v_cons (v_op o_add (TrE.b v_var) (TrE.b v_int)) (v_cons v_int v_nil)))) (TrE.b (v_cb b_int1 (v_consB (TrE.b (v_op o_eq (TrE.b (v_op o_add (TrE.b v_var) (TrE.b v_int))) (TrE.b v_var))) v_nilB))))))))
      (s_frz (i := 3) (s_ret (TrF.e (v_lst (v_cons (TrF.e (v_cbF b_list (v_consB (TrE.b v_var) v_nilB))) (v_cons v_var (v_cons v_var v_nil))))))))), fun us post hl hW => ?_⟩⟩
  obtain ⟨ss, n, gd, rfl, n100, p⟩ := hW
  ac_rfl
  have lr : (roundM ss.length n).length = n := by
    unfold roundM
    rw [List.length_map, List.length_range]
  refine ⟨by omega, by omega, fun i ρ => ∃ a4 : Cell, ρ = [.fz (.lst (ss.map U.str)), .fz (.int (n : Int)), .fz (mrow gd), .ow (.lst (((roundM ss.length n).take i).map mrow)), a4, .no], ⟨_, rfl⟩, ?_, ?_⟩
  · rintro i u _ e ⟨a4, rfl⟩
    obtain ⟨hi, rfl⟩ := upto_at0 e
    have hi : i < n := hi
    have er : (roundM ss.length n)[i]? = some (List.replicate ss.length (if i + 1 = n then 0 else ((i + 1 : Nat) : Int))) := by
      unfold roundM
      rw [List.getElem?_map, List.getElem?_range hi]
      rfl
    refine ⟨_, rfl, by rw [List.length_map, List.length_take]; omega, ?_⟩
    refine ⟨_, rfl, _, rfl, fun j acc => acc = List.replicate j (U.int (if i + 1 = n then 0 else ((i + 1 : Nat) : Int))), rfl, ?_, ?_⟩
    · rintro j u acc e rfl
      refine lcI ?_
      refine ⟨_, rfl, _, rfl, by show 2 ≤ 100000; decide, _, rfl, _, rfl, _, rfl, _, fEq_int _ _, .inr ⟨_, rfl, ?_⟩⟩
      have eo : decide ((i : Int) + 1 = (n : Int)) = decide (i + 1 = n) := decide_eq_decide.mpr (by omega)
      rw [eo]
      by_cases c : i + 1 = n
      · rw [decide_eq_true c, if_pos c]
        exact ⟨_, rfl, (List.replicate_succ' ..).symm⟩
      · rw [decide_eq_false c, if_neg c]
        exact ⟨_, rfl, (List.replicate_succ' ..).symm⟩
    rintro acc h
    rw [List.length_map] at h
    subst h
    refine ⟨.fz (.int (i : Int)), ?_⟩
    rw [take_more er, List.map_append]
    show [_, _, _, Cell.ow (.lst (((roundM ss.length n).take i).map mrow ++ [U.lst (List.replicate ss.length (U.int _))])), _, _] = [_, _, _, Cell.ow (.lst (((roundM ss.length n).take i).map mrow ++ [mrow (List.replicate ss.length _)])), _, _]
    unfold mrow
    rw [List.map_replicate]
  rintro _ ⟨a4, rfl⟩
  rw [upto_len, Int.toNat_natCast, List.take_of_length_le (by omega)]
  ac_rfl
  exact p
end

end K12
namespace K12
open PySem PySem.Spec PyProof.Rows L2 SL SV
local macro_rules | `(tactic| ac_rfl) => `(tactic| (repeat first | refine ⟨_, rfl, ?_⟩ | refine ⟨rfl, ?_⟩ | refine iteT ?_ | refine iteF ?_ | refine ⟨trivial, ?_⟩ | refine ⟨Nat.le_of_ble_eq_true rfl, ?_⟩ | refine ⟨_, _, rfl, rfl, ?_⟩ | refine ⟨_, _, rfl, ?_⟩ | refine ⟨_, .inl rfl, ?_⟩ | refine ⟨_, .inr rfl, ?_⟩ | refine .inl ⟨_, rfl, ?_⟩ | refine .inr ⟨_, rfl, ?_⟩ | refine ⟨_, _, .inl rfl, ?_⟩ | refine ⟨_, _, .inr rfl, ?_⟩ | refine ⟨by decide, ?_⟩))
section
variable {P : Program} {w : World} {K : PySem.W.Frag} {mg : Str → Option Value} {base : Heap} {cR iR cT iT cO cU fU lU tU gU cL : Addr} {fdU fdL fdT fdG : FuncData} {f : Addr} {fd : FuncData}
/-! ### the pairs as the law meets them -/
theorem metN_more {α : Type} [DecidableEq α] (g : α → List α) : ∀ (n k i : Nat) (m : List α), (metN g n i m).length ≤ i + n → metN g (n + k) i m = metN g n i m
  | 0, k, i, m, h => by
    rw [Nat.zero_add]
    have h : m.length ≤ i := h
    cases k with
    | zero => rfl
    | succ k =>
      rw [metN.eq_2, List.getElem?_eq_none h]
      rfl
  | n + 1, k, i, m, h => by
    rw [show n + 1 + k = (n + k) + 1 by omega, metN.eq_2, metN.eq_2]
    rw [metN.eq_2] at h
    cases e : m[i]? with
    | none => rfl
    | some x =>
      rw [e] at h
      exact metN_more g n k (i + 1) _ (by have h : (metN g n (i + 1) (addNew m (g x))).length ≤ i + (n + 1) := h; omega)
theorem sc_law_pairs : FnScope ["one", "other", "pairs", "lines", "at", "line", "k", "behind"] ["one", "other"] (defScope s_law_pairs) := ⟨rfl, rfl, rfl, by decide +kernel, rfl, by decide +kernel, by decide +kernel⟩
def WPairs : Wf := fun us post _ => ∃ ss mv gd ss2 mv2 gd2, us = [modelU ss mv gd, modelU ss2 mv2 gd2] ∧ RuleOk ss mv ∧ RuleOk ss mv2 ∧ mv.length ≤ 40 ∧ mv2.length ≤ 40 ∧ ss.length ≤ 10 ∧ post (.lst [.lst ((metJ mv mv2).map ipU), .lst ((joinM mv mv2).map mrow)])
theorem pre_idx {m R : List IP} (h : m <+: R) {x : IP} (hx : x ∈ m) : m.idxOf x = R.idxOf x := by
  obtain ⟨t, rfl⟩ := h
  rw [List.idxOf_append, if_pos hx]
theorem row_ixL {mv : List (List Int)} {i : Int} (h0 : 0 ≤ i) (h1 : i < mv.length) : fIx (.lst (mv.map mrow)) (.int i) = some (mrow (rowAt mv i)) := by
  obtain ⟨n, rfl⟩ : ∃ n : Nat, i = (n : Int) := ⟨i.toNat, by omega⟩
  have hn : n < mv.length := by omega
  have e : mv[n]? = some mv[n] := List.getElem?_eq_getElem hn
  have e2 : rowAt mv (n : Int) = mv[n] := by
    unfold rowAt
    rw [Int.toNat_natCast, e]
    rfl
  rw [e2]
  exact lstIx (by rw [List.getElem?_map, e]; rfl)
theorem ok_law_pairs (M : MF P w K mg cR iR cT iT cO cU fU lU tU gU cL) (F : Fun K "_law_pairs" "_law_pairs" s_law_pairs f fd) : FnOk P w K mg base CX0 1 f fd ["one", "other"] (spV false 2 WPairs) := by
  refine okV (k := 0) F sc_law_pairs rfl (by decide) fun cdv A outer s H E hr => ⟨_, (pss_cons (ps_set (i := 2) sc_law_pairs.nd rfl (Or.inl rfl) (pe_lst (pa_cons (pe_tup (pa_cons pe_int (pa_cons pe_int pa_nil))) pa_nil)))
      (pss_cons (ps_set (i := 3) sc_law_pairs.nd rfl (Or.inl rfl) (pe_lst pa_nil))
      (pss_cons (ps_for PassesOwn.never rfl (pi_range1 (by rfl) M.m_range (pa_cons pe_int pa_nil)) (pg_name (i := 4) sc_law_pairs.nd rfl (Or.inl rfl))
      (pss_cons (ps_if (pt_cmpR (op_eqV K hr.units) (pv 4) (pe_callB (call_lenV K) (by rfl) M.m_len PySem.boot_len (pa_cons (pv 2) pa_nil)) (nomark _))
      (pss_one ps_break) pss_nil)
      (pss_cons (ps_set (i := 5) sc_law_pairs.nd rfl (Or.inl rfl) (pe_lst pa_nil))
      (pss_cons (ps_for PassesOwn.never rfl (pi_range1 (by rfl) M.m_range (pa_cons (pe_callB (call_lenV K) (by rfl) M.m_len PySem.boot_len (pa_cons (pe_ix (ix_seqK K) (pv 0) pe_int (fun _ _ => rfl)) pa_nil)) pa_nil)) (pg_name (i := 6) sc_law_pairs.nd rfl (Or.inl rfl))
      (pss_cons (ps_set (i := 7) sc_law_pairs.nd rfl (Or.inl rfl) (pe_tup (pa_cons (pe_ix (ix_seqK K) (pe_ix (ix_seqK K) (pe_ix (ix_seqK K) (pv 0) pe_int (fun _ _ => rfl)) (pe_ix (ix_seqK K) (pe_ix (ix_seqK K) (pv 2) (pv 4) (fun _ _ => rfl)) pe_int (fun _ _ => rfl)) (fun _ _ => rfl)) (pv 6) (fun _ _ => rfl)) (pa_cons (pe_ix (ix_seqK K) (pe_ix (ix_seqK K) (pe_ix (ix_seqK K) (pv 1) pe_int (fun _ _ => rfl)) (pe_ix (ix_seqK K) (pe_ix (ix_seqK K) (pv 2) (pv 4) (fun _ _ => rfl)) pe_int (fun _ _ => rfl)) (fun _ _ => rfl)) (pv 6) (fun _ _ => rfl)) pa_nil))))
      (pss_cons (ps_if (pt_cmpR (op_notInDV K (room128 hr)) (pv 7) (pv 2) (by rfl))
      (pss_one (ps_expr (pe_bm PySem.F.plainAttrs_list PySem.F.slot_list_append PySem.F.type_list_append mt_append (pv 2) (pa_cons (pv 7) pa_nil)))) pss_nil)
      (pss_one (ps_expr (pe_bm PySem.F.plainAttrs_list PySem.F.slot_list_append PySem.F.type_list_append mt_append (pv 5) (pa_cons (pe_bm PySem.F.plainAttrs_list PySem.F.slot_list_index PySem.F.type_list_index (mt_indexDK K (room128 hr)) (pv 2) (pa_cons (pv 7) pa_nil)) pa_nil)))))))
      (pss_one (ps_expr (pe_bm PySem.F.plainAttrs_list PySem.F.slot_list_append PySem.F.type_list_append mt_append (pv 3) (pa_cons (pv 5) pa_nil))))))))
      (pss_one (ps_ret (pe_lst (pa_cons (pv 2) (pa_cons (pv 3) pa_nil)))))))), fun Z hb hE hs => ⟨_, (s_seq (s_setO (v_lst (v_cons (v_tup (v_cons v_int (v_cons v_int v_nil))) v_nil)))
      (s_seq (s_setO (v_lst v_nil))
      (s_seq (s_for (vs := [4]) (i_rng1 (v_cons v_int v_nil)) (g_name (by decide))
      (s_seq (s_if (v_test (v_op o_eq (TrE.b v_var) (TrE.b (v_cb b_len (v_consB v_own v_nilB)))))
      s_break s_nil)
      (s_seq (s_setO (v_lst v_nil))
      (s_seq (s_for (vs := [6]) (i_rng1 (v_cons (v_cb b_len (v_consB (TrE.b (v_op o_ix (TrE.b v_var) (TrE.b v_int))) v_nilB)) v_nil)) (g_name (by decide))
      (s_seq (s_set (v_tup (v_cons (v_op o_ix (TrE.b (v_op o_ix (TrE.b (v_op o_ix (TrE.b v_var) (TrE.b v_int))) (TrE.b (v_op o_ix (TrE.b (v_op o_ix v_own (TrE.b v_var))) (TrE.b v_int))))) (TrE.b v_var)) (v_cons (v_op o_ix (TrE.b (v_op o_ix (TrE.b (v_op o_ix (TrE.b v_var) (TrE.b v_int))) (TrE.b (v_op o_ix (TrE.b (v_op o_ix v_own (TrE.b v_var))) (TrE.b v_int))))) (TrE.b v_var)) v_nil))))
      (s_seq (s_if (v_test (v_op o_inD (TrE.b v_var) v_own))
      (s_append v_var) s_nil)
      (s_append (v_indexD v_own v_var)))))
      (s_frz (i := 5) (s_append v_var))))))
      (s_frz (i := 2) (s_frz (i := 3) (s_ret (TrF.e (v_lst (v_cons v_var (v_cons v_var v_nil)))))))))), fun us post hl hW => ?_⟩⟩
  obtain ⟨ss, mv, gd, ss2, mv2, gd2, rfl, o1, o2, l1, l2, s10, p⟩ := hW
  obtain ⟨dm, dm_mem, dm_len, dm_cl, z0, R_nd, R_sub, R_cl⟩ := metJ_facts o1 o2
  ac_rfl
  have d40 : dm.length ≤ 1600 := by rw [dm_len]; exact Nat.le_trans (Nat.mul_le_mul l1 l2) (by decide)
  generalize eR : metJ mv mv2 = R at R_nd R_sub R_cl p
  have eJ : joinM mv mv2 = R.map fun p => (jg mv mv2 p).map fun x => (((R.idxOf x : Nat) : Int)) := by
    unfold joinM
    rw [eR]
  rw [eJ] at p
  let row : IP → List Int := fun p => (jg mv mv2 p).map fun x => (((R.idxOf x : Nat) : Int))
  refine ⟨fun i ρ => ∃ (m : List IP) (a4 a5 a6 a7 : Cell), i ≤ m.length ∧ m.Nodup ∧ (∀ x ∈ m, x ∈ dm) ∧ metN (jg mv mv2) (1600 - i) i m = R ∧
    ρ = [.fz (modelU ss mv gd), .fz (modelU ss2 mv2 gd2), .ow (.lst (m.map ipU)), .ow (.lst ((m.take i).map fun p => mrow (row p))), a4, a5, a6, a7], ⟨[(0, 0)], _, _, _, _, Nat.zero_le _, by simp, fun x hx => (by rw [List.mem_singleton.mp hx]; exact z0), ?_, rfl⟩, ?_, ?_⟩
  · rw [← eR]
    unfold metJ
    rw [← dm_len]
    obtain ⟨k, hk⟩ : ∃ k, 1600 - 0 = dm.length + k := ⟨1600 - dm.length, by omega⟩
    rw [hk]
    refine metN_more _ _ _ _ _ ?_
    have := nd_len R_nd R_sub
    rw [← eR] at this
    unfold metJ at this
    rw [← dm_len] at this
    omega
  · rintro i u _ e ⟨m, a4, a5, a6, a7, il, nd, sub, hr, rfl⟩
    obtain ⟨hi, rfl⟩ := upto_at0 e
    have hi : i < 1600 := hi
    have lm := nd_len nd sub
    refine ⟨_, rfl, _, rfl, _, _, rfl, rfl, _, fEq_int _ _, _, rfl, ?_⟩
    have ec : decide ((i : Int) = (((m.map ipU).length : Nat) : Int)) = decide (i = m.length) := decide_eq_decide.mpr (by rw [List.length_map]; omega)
    rw [ec]
    by_cases c : i = m.length
    · rw [decide_eq_true c]
      subst c
      have er : m = R := by
        rw [← hr]
        cases 1600 - m.length with
        | zero => rfl
        | succ k =>
          rw [metN.eq_2, List.getElem?_eq_none (Nat.le_refl _)]
      subst er
      refine iteT ?_
      ac_rfl
      rw [List.take_length]
      rw [List.map_map] at p
      exact p
    rw [decide_eq_false c]
    refine iteF ?_
    obtain ⟨p0, ep⟩ : ∃ p0, m[i]? = some p0 := ⟨_, List.getElem?_eq_getElem (by omega)⟩
    have pd := sub p0 (List.mem_of_getElem? ep)
    obtain ⟨h0, h1, h2, h3⟩ := (dm_mem p0).mp pd
    have lj := jg_len o1 o2 ⟨h0, h1, h2, h3⟩
    obtain ⟨n, hn⟩ : ∃ n, 1600 - i = n + 1 := ⟨1600 - i - 1, by omega⟩
    rw [hn, metN.eq_2, ep] at hr
    have hr : metN (jg mv mv2) n (i + 1) (addNew m (jg mv mv2 p0)) = R := hr
    have preR : addNew m (jg mv mv2 p0) <+: R := by rw [← hr]; exact metN_pre _ _ _ _
    ac_rfl
    refine ⟨by rw [List.length_map]; omega, by omega, fun k ρ => ∃ a6 a7 : Cell, ρ = [.fz (modelU ss mv gd), .fz (modelU ss2 mv2 gd2), .ow (.lst ((addNew m ((jg mv mv2 p0).take k)).map ipU)), .ow (.lst ((m.take i).map fun p => mrow (row p))), .fz (.int (i : Int)), .ow (.lst (((row p0).take k).map U.int)), a6, a7], ⟨_, _, rfl⟩, ?_, ?_⟩
    · rintro k u _ e ⟨a6, a7, rfl⟩
      obtain ⟨hk, rfl⟩ := upto_at0 e
      have hk : k < ss.length := by
        rw [List.length_map, Int.toNat_natCast] at hk
        exact hk
      obtain ⟨x, ex⟩ : ∃ x, (jg mv mv2 p0)[k]? = some x := ⟨_, List.getElem?_eq_getElem (by omega)⟩
      have exz := ex
      unfold jg at exz
      rw [List.getElem?_zip_eq_some] at exz
      have et : addNew m ((jg mv mv2 p0).take (k + 1)) = addOne (addNew m ((jg mv mv2 p0).take k)) x := by rw [take_more ex, addNew_snoc]
      have preK : ∀ k, addNew m ((jg mv mv2 p0).take k) <+: R := fun k => by
        refine List.IsPrefix.trans ?_ preR
        have := addNew_pre ((jg mv mv2 p0).drop k) (addNew m ((jg mv mv2 p0).take k))
        rwa [show addNew (addNew m ((jg mv mv2 p0).take k)) ((jg mv mv2 p0).drop k) = addNew m (jg mv mv2 p0) by unfold addNew; rw [← List.foldl_append, List.take_append_drop]] at this
      have lk : (addNew m ((jg mv mv2 p0).take k)).length < 100000 := by
        have := (preK k).length_le
        have := nd_len R_nd R_sub
        omega
      have em : ((addNew m ((jg mv mv2 p0).take k)).map ipU)[i]? = some (ipU p0) := by
        obtain ⟨t, ht⟩ := addNew_pre ((jg mv mv2 p0).take k) m
        rw [List.getElem?_map, ← ht, List.getElem?_append_left (by have := (List.getElem?_eq_some_iff.mp ep).1; omega), ep]
        rfl
      have erow : (row p0)[k]? = some (((R.idxOf x : Nat) : Int)) := by
        show ((jg mv mv2 p0).map fun x => (((R.idxOf x : Nat) : Int)))[k]? = _
        rw [List.getElem?_map, ex]
        rfl
      have inS : x ∈ addOne (addNew m ((jg mv mv2 p0).take k)) x := mem_addOne.mpr (.inr rfl)
      have preS := preK (k + 1)
      rw [et] at preS
      have i1 : fIx (mrow (rowAt mv p0.1)) (.int (k : Int)) = some (.int x.1) := lstIx (by rw [List.getElem?_map, exz.1]; rfl)
      have i2 : fIx (mrow (rowAt mv2 p0.2)) (.int (k : Int)) = some (.int x.2) := lstIx (by rw [List.getElem?_map, exz.2]; rfl)
      generalize addNew m ((jg mv mv2 p0).take k) = mk at et lk em inS preS ⊢
      refine ⟨_, rfl, _, rfl, _, rfl, _, rfl, _, lstIx em, _, rfl, _, row_ixL h0 h1, _, rfl, _, i1, _, rfl, _, rfl, _, rfl, _, rfl, _, lstIx em, _, rfl, _, row_ixL h2 h3, _, rfl, _, i2, by show 2 ≤ 100000; decide, ?_⟩
      refine ⟨_, rfl, _, rfl, _, in_ips true x mk, _, rfl, ?_⟩
      unfold addOne at et inS preS
      have lrow : (((row p0).take k).map U.int).length < 100000 := by rw [List.length_map, List.length_take]; omega
      by_cases hx : x ∈ mk
      · rw [if_pos hx] at et inS preS
        show if (!decide (x ∈ mk)) = true then _ else _
        rw [decide_eq_true hx]
        refine iteF ⟨_, rfl, lrow, _, rfl, ?_⟩
        obtain ⟨us, ds, q1, q2, q3, d, j, z, q4⟩ := idx_ips hx (post := fun u => u = U.int (((R.idxOf x : Nat) : Int))) (by rw [pre_idx preS hx])
        refine ⟨us, ds, q1, q2, q3, _, rfl, d, j, z, q4.1, q4.2.1, q4.2.2.1, q4.2.2.2.1, q4.2.2.2.2.1, ?_⟩
        have ej := U.int.inj q4.2.2.2.2.2
        rw [ej]
        refine ⟨.fz (.int (k : Int)), .fz (ipU x), ?_⟩
        rw [et, take_more erow, List.map_append]
        rfl
      · rw [if_neg hx] at et inS preS
        show if (!decide (x ∈ mk)) = true then _ else _
        rw [decide_eq_false hx]
        refine iteT ⟨_, rfl, by rw [List.length_map]; exact lk, _, rfl, ?_⟩
        refine ⟨_, rfl, lrow, _, rfl, ?_⟩
        obtain ⟨us, ds, q1, q2, q3, d, j, z, q4⟩ := idx_ips inS (post := fun u => u = U.int (((R.idxOf x : Nat) : Int))) (by rw [pre_idx preS inS])
        rw [List.map_append] at q1
        refine ⟨us, ds, q1, q2, q3, _, rfl, d, j, z, q4.1, q4.2.1, q4.2.2.1, q4.2.2.2.1, q4.2.2.2.2.1, ?_⟩
        have ej := U.int.inj q4.2.2.2.2.2
        rw [ej]
        refine ⟨.fz (.int (k : Int)), .fz (ipU x), ?_⟩
        rw [et, take_more erow, List.map_append, List.map_append]
        rfl
    rintro _ ⟨a6, a7, rfl⟩
    have eL : (upto 0 (((ss.map U.str).length : Nat) : Int).toNat).length = (jg mv mv2 p0).length := by rw [upto_len, Int.toNat_natCast, List.length_map, lj]
    rw [eL, List.take_length, List.take_of_length_le (show (row p0).length ≤ (jg mv mv2 p0).length by show (List.map _ _).length ≤ _; rw [List.length_map]; exact Nat.le_refl _)]
    refine ⟨_, rfl, _, rfl, by rw [List.length_map, List.length_take]; omega, _, rfl, ?_⟩
    have pre := addNew_pre (jg mv mv2 p0) m
    refine ⟨addNew m (jg mv mv2 p0), .fz (.int (i : Int)), .fz (mrow (row p0)), a6, a7, Nat.le_trans (by omega) pre.length_le, addNew_nd nd, fun y hy => (mem_addNew.mp hy).elim (sub y) (dm_cl p0 pd y), ?_, ?_⟩
    · rw [show 1600 - (i + 1) = n by omega]
      exact hr
    · obtain ⟨t, ht⟩ := pre
      rw [← ht, List.take_append_of_le_length (by omega), take_more ep, List.map_append (f := fun p => mrow (row p))]
      rfl
  rintro _ ⟨m, a4, a5, a6, a7, il, nd, sub, hr, rfl⟩
  have er : m = R := by
    rw [← hr]
    rfl
  subst er
  have lm := nd_len nd sub
  ac_rfl
  have ei : (upto 0 (Int.toNat 1600)).length = m.length := by
    rw [upto_len] at il ⊢
    have il : 1600 ≤ m.length := il
    show 1600 = m.length
    omega
  rw [ei, List.take_length]
  rw [List.map_map] at p
  exact p
end

end K12
namespace K12
open PySem PySem.Spec PyProof.Rows L2 SL SV
local macro_rules | `(tactic| ac_rfl) => `(tactic| (repeat first | refine ⟨_, rfl, ?_⟩ | refine ⟨rfl, ?_⟩ | refine iteT ?_ | refine iteF ?_ | refine ⟨trivial, ?_⟩ | refine ⟨Nat.le_of_ble_eq_true rfl, ?_⟩ | refine ⟨_, _, rfl, rfl, ?_⟩ | refine ⟨_, _, rfl, ?_⟩ | refine ⟨_, .inl rfl, ?_⟩ | refine ⟨_, .inr rfl, ?_⟩ | refine .inl ⟨_, rfl, ?_⟩ | refine .inr ⟨_, rfl, ?_⟩ | refine ⟨_, _, .inl rfl, ?_⟩ | refine ⟨_, _, .inr rfl, ?_⟩ | refine ⟨by decide, ?_⟩))
section
variable {P : Program} {w : World} {K : PySem.W.Frag} {mg : Str → Option Value} {base : Heap} {cR iR cT iT cO cU fU lU tU gU cL : Addr} {fdU fdL fdT fdG : FuncData} {f : Addr} {fd : FuncData}
/-! ### _law_due, _law_asked, Rule.__eq__ -/
def fJ (which : Int) : Bool → Bool → Bool := fun a b => if which = 0 then a && b else a || b
def lst2 (a : Str) (u : U) : U := .lst [.str a, u]
def fieldsU (ss : List Str) (mv : List (List Int)) (gd : List Int) : U := .lst [.tup (ss.map U.str), .tup (mv.map rowV), rowV gd]
def dueU (which : Int) (ss : List Str) (mv mv2 : List (List Int)) (gd gd2 : List Int) : U := if (metJ mv mv2).length > 40 then lst2 "many" (.int 40) else lst2 "made" (fieldsU ss (joinM mv mv2) (joinG (fJ which) mv mv2 gd gd2))
theorem idx_map1 (g : IP → U) (b : Bool) (p : IP) : (if b = true then [p] else []).map g = if b = true then [g p] else [] := by cases b <;> rfl
theorem sc_law_due : FnScope ["which", "one", "other", "pairs", "lines", "good", "at", "first", "second", "line"] ["which", "one", "other"] (defScope s_law_due) := ⟨rfl, rfl, rfl, by decide +kernel, rfl, by decide +kernel, by decide +kernel⟩
def WDue : Wf := fun us post _ => ∃ (which : Int) (ss : List Str) (mv : List (List Int)) (gd : List Int) (ss2 : List Str) (mv2 : List (List Int)) (gd2 : List Int), us = [.int which, modelU ss mv gd, modelU ss2 mv2 gd2] ∧ (which = 0 ∨ which = 1) ∧ RuleOk ss mv ∧ RuleOk ss mv2 ∧ mv.length ≤ 40 ∧ mv2.length ≤ 40 ∧ ss.length ≤ 10 ∧ post (dueU which ss mv mv2 gd gd2)
theorem ok_law_due (M : MF P w K mg cR iR cT iT cO cU fU lU tU gU cL) (F_law_pairs : FnC P w K mg base CX0 1 "_law_pairs" ["one", "other"] (spV false 2 WPairs)) (F : Fun K "_law_due" "_law_due" s_law_due f fd) : FnOk P w K mg base CX0 2 f fd ["which", "one", "other"] (spV false 3 WDue) := by
  refine okV (k := 1) F sc_law_due rfl (by decide) fun cdv A outer s H E hr => ⟨_, (pss_cons (ps_asg (pe_f F_law_pairs hr (by omega) pass0 (pa_cons (pv 1) (pa_cons (pv 2) pa_nil))) (pg_lstK (n := 2) K rfl (pgs_cons (pg_name (i := 3) sc_law_due.nd rfl (Or.inl rfl)) (pgs_cons (pg_name (i := 4) sc_law_due.nd rfl (Or.inl rfl)) pgs_nil))))
      (pss_cons (ps_if (pt_cmpR op_gt (pe_callB (call_lenV K) (by rfl) M.m_len PySem.boot_len (pa_cons (pv 3) pa_nil)) pe_int (nomark _))
      (pss_one (ps_ret (pe_lst (pa_cons pe_str (pa_cons pe_int pa_nil))))) pss_nil)
      (pss_cons (ps_set (i := 5) sc_law_due.nd rfl (Or.inl rfl) (pe_lst pa_nil))
      (pss_cons (ps_for PassesOwn.never rfl (pi_range1 (by rfl) M.m_range (pa_cons (pe_callB (call_lenV K) (by rfl) M.m_len PySem.boot_len (pa_cons (pv 3) pa_nil)) pa_nil)) (pg_name (i := 6) sc_law_due.nd rfl (Or.inl rfl))
      (pss_cons (ps_set (i := 7) sc_law_due.nd rfl (Or.inl rfl) (pe_cmpR (op_inV K) (pe_ix (ix_seqK K) (pe_ix (ix_seqK K) (pv 3) (pv 6) (fun _ _ => rfl)) pe_int (fun _ _ => rfl)) (pe_ix (ix_seqK K) (pv 1) pe_int (fun _ _ => rfl)) (by rfl)))
      (pss_cons (ps_set (i := 8) sc_law_due.nd rfl (Or.inl rfl) (pe_cmpR (op_inV K) (pe_ix (ix_seqK K) (pe_ix (ix_seqK K) (pv 3) (pv 6) (fun _ _ => rfl)) pe_int (fun _ _ => rfl)) (pe_ix (ix_seqK K) (pv 2) pe_int (fun _ _ => rfl)) (by rfl)))
      (pss_one (ps_if (PW.pt (pw_or (PW.pt (pw_and (pt_val (pv 7)) (pw_and1 (pt_val (pv 8))))) (pw_or1 (PW.pt (pw_and (pt_cmpR (op_eqV K hr.units) (pv 0) pe_int (nomark _)) (pw_and1 (PW.pt (pw_or (pt_val (pv 7)) (pw_or1 (pt_val (pv 8)))))))))))
      (pss_one (ps_expr (pe_bm PySem.F.plainAttrs_list PySem.F.slot_list_append PySem.F.type_list_append mt_append (pv 5) (pa_cons (pv 6) pa_nil)))) pss_nil)))))
      (pss_one (ps_ret (pe_lst (pa_cons pe_str (pa_cons (pe_lst (pa_cons (pe_callTy (call_tupleK K) (by rfl) M.m_tuple (by decide +kernel) (pa_cons (pe_ix (ix_seqK K) (pv 1) pe_int (fun _ _ => rfl)) pa_nil)) (pa_cons (pe_callTy (call_tupleK K) (by rfl) M.m_tuple (by decide +kernel) (pa_cons (pe_lc (own := [("line", 9)]) (tt := tYes) rfl sc_law_due.nd (pi_seq K (pv 4)) (blkOk_by (N := ["which", "one", "other", "pairs", "lines", "good", "at", "first", "second", "line"]) (sc := defScope s_law_due) (by decide +kernel)) (fun _ _ _ _ _ => (pg_name (i := 9) sc_law_due.nd rfl (Or.inl rfl))) (fun _ _ _ _ _ => pts_nil) (fun _ _ _ _ _ => (pe_callTy (call_tupleK K) (by rfl) M.m_tuple (by decide +kernel) (pa_cons (pv 9) pa_nil)))) pa_nil)) (pa_cons (pe_callTy (call_tupleK K) (by rfl) M.m_tuple (by decide +kernel) (pa_cons (pv 5) pa_nil)) pa_nil)))) pa_nil))))))))), fun Z hb hE hs => ⟨_, (s_seq (s_asg (vs := [3, 4]) (v_call ple0 (v_cons v_var (v_cons v_var v_nil))) (g_lst (gs_cons (g_name (by decide)) (gs_cons (g_name (by decide)) gs_nil))))
      (s_seq (s_if (v_test (v_op o_IB (TrE.b (v_cb b_len (v_consB (TrE.b v_var) v_nilB))) (TrE.b v_int)))
      (s_ret (TrF.e (v_lst (v_cons v_str (v_cons v_int v_nil))))) s_nil)
      (s_seq (s_setO (v_lst v_nil))
      (s_seq (s_for (vs := [6]) (i_rng1 (v_cons (v_cb b_len (v_consB (TrE.b v_var) v_nilB)) v_nil)) (g_name (by decide))
      (s_seq (s_set (v_op o_in (TrE.b (v_op o_ix (TrE.b (v_op o_ix (TrE.b v_var) (TrE.b v_var))) (TrE.b v_int))) (TrE.b (v_op o_ix (TrE.b v_var) (TrE.b v_int)))))
      (s_seq (s_set (v_op o_in (TrE.b (v_op o_ix (TrE.b (v_op o_ix (TrE.b v_var) (TrE.b v_var))) (TrE.b v_int))) (TrE.b (v_op o_ix (TrE.b v_var) (TrE.b v_int)))))
      (s_if (v_or (v_and (v_tB v_var) (v_tB v_var)) (v_and (v_test (v_op o_eq (TrE.b v_var) (TrE.b v_int))) (v_or (v_tB v_var) (v_tB v_var))))
      (s_append v_var) s_nil))))
      (s_ret (TrF.e (v_lst (v_cons v_str (v_cons (TrF.e (v_lst (v_cons (v_cb b_tuple (v_consB (TrE.b (v_op o_ix (TrE.b v_var) (TrE.b v_int))) v_nilB)) (v_cons (v_cb b_tuple (v_consB (TrF.b (v_lc (i_seq v_var) (g_name (by decide)) v_yes (v_cb b_tuple (v_consB (TrE.b v_var) v_nilB)))) v_nilB)) (v_cons (v_cb b_tuple (v_consB v_own v_nilB)) v_nil))))) v_nil))))))))), fun us post hl hW => ?_⟩⟩
  obtain ⟨which, ss, mv, gd, ss2, mv2, gd2, rfl, hw, o1, o2, l1, l2, s10, p⟩ := hW
  refine ⟨_, rfl, _, rfl, rfl, ss, mv, gd, ss2, mv2, gd2, rfl, o1, o2, l1, l2, s10, ?_⟩
  ac_rfl
  have ec : decide ((40 : Int) < ((((metJ mv mv2).map ipU).length : Nat) : Int)) = decide (40 < (metJ mv mv2).length) := decide_eq_decide.mpr (by rw [List.length_map]; omega)
  show if decide ((40 : Int) < ((((metJ mv mv2).map ipU).length : Nat) : Int)) = true then _ else _
  rw [ec]
  unfold dueU at p
  by_cases c : 40 < (metJ mv mv2).length
  · rw [decide_eq_true c]
    refine iteT ?_
    rw [if_pos c] at p
    ac_rfl
    exact p
  rw [decide_eq_false c]
  refine iteF ?_
  rw [if_neg c] at p
  obtain ⟨dm, dm_mem, dm_len, dm_cl, z0, R_nd, R_sub, R_cl⟩ := metJ_facts o1 o2
  unfold joinG at p
  ac_rfl
  have in_l : ∀ (i : Int) (ns : List Int), fIn false (.int i) (mrow ns) = some (.bl (decide (i ∈ ns))) := fun i ns => in_ints i ns
  generalize metJ mv mv2 = R at p c R_nd R_sub R_cl ⊢
  let ff : IP → Bool := fun p => fJ which (decide (p.1 ∈ gd)) (decide (p.2 ∈ gd2))
  refine ⟨by rw [List.length_map]; omega, by omega, fun i ρ => ∃ a6 a7 a8 : Cell, ρ = [.fz (.int which), .fz (modelU ss mv gd), .fz (modelU ss2 mv2 gd2), .fz (.lst (R.map ipU)), .fz (.lst ((joinM mv mv2).map mrow)), .ow (.lst (((R.take i).filter ff).map fun p => U.int (((R.idxOf p : Nat) : Int)))), a6, a7, a8, .no], ⟨_, _, _, rfl⟩, ?_, ?_⟩
  · rintro i u _ e ⟨a6, a7, a8, rfl⟩
    obtain ⟨hi, rfl⟩ := upto_at0 e
    have hi : i < R.length := by
      rw [List.length_map, Int.toNat_natCast] at hi
      exact hi
    obtain ⟨p0, ep⟩ : ∃ p0, R[i]? = some p0 := ⟨_, List.getElem?_eq_getElem hi⟩
    have em : (R.map ipU)[i]? = some (ipU p0) := by rw [List.getElem?_map, ep]; rfl
    ac_rfl
    refine ⟨_, lstIx em, _, rfl, _, rfl, _, rfl, _, in_l _ _, ?_⟩
    refine ⟨_, rfl, _, rfl, _, lstIx em, _, rfl, _, rfl, _, rfl, _, in_l _ _, ?_⟩
    ac_rfl
    have et := congrArg (List.map fun p => U.int (((R.idxOf p : Nat) : Int))) (filter_more ff ep)
    rw [List.map_append, idx_map1] at et
    have ef : ff p0 = fJ which (decide (p0.1 ∈ gd)) (decide (p0.2 ∈ gd2)) := rfl
    rw [ef, idx_at R_nd ep] at et
    generalize decide (p0.1 ∈ gd) = b1 at et ⊢
    generalize decide (p0.2 ∈ gd2) = b2 at et ⊢
    have done : ∀ {xs : List U} {c : Bool}, xs = (((R.take i).filter ff).map fun p => U.int (((R.idxOf p : Nat) : Int))) ++ (if c = true then [U.int (i : Int)] else []) → c = fJ which b1 b2 → ∃ a6 a7 a8 : Cell, [.fz (.int which), .fz (modelU ss mv gd), .fz (modelU ss2 mv2 gd2), .fz (.lst (R.map ipU)), .fz (.lst ((joinM mv mv2).map mrow)), .ow (.lst xs), .fz (.int (i : Int)), .fz (.bl b1), .fz (.bl b2), .no] = [.fz (.int which), .fz (modelU ss mv gd), .fz (modelU ss2 mv2 gd2), .fz (.lst (R.map ipU)), .fz (.lst ((joinM mv mv2).map mrow)), .ow (.lst (((R.take (i + 1)).filter ff).map fun p => U.int (((R.idxOf p : Nat) : Int)))), a6, a7, a8, .no] := fun {xs c} e1 e2 => by
      rw [et, e1, e2]
      exact ⟨_, _, _, rfl⟩
    have no : ∀ {c : Bool}, c = false → c = fJ which b1 b2 → _ := fun {c} e0 e2 => done (xs := (((R.take i).filter ff).map fun p => U.int (((R.idxOf p : Nat) : Int)))) (c := c) (by rw [e0]; exact (List.append_nil _).symm) e2
    have e01 : fEq (.int 0) (.int 1) = some (.bl false) := fEq_int _ _
    have e11 : fEq (.int 1) (.int 1) = some (.bl true) := fEq_int _ _
    have lacc : (((R.take i).filter ff).map fun p => U.int (((R.idxOf p : Nat) : Int))).length < 100000 := by
      rw [List.length_map]
      exact Nat.lt_of_le_of_lt (List.length_filter_le _ _) (by rw [List.length_take]; omega)
    rcases hw with rfl | rfl <;> cases b1 <;> cases b2
    · exact iteF ⟨_, rfl, _, e01, _, rfl, iteF (iteF (no rfl rfl))⟩
    · exact iteF ⟨_, rfl, _, e01, _, rfl, iteF (iteF (no rfl rfl))⟩
    · exact iteT ⟨_, rfl, _, rfl, iteF ⟨_, rfl, _, e01, _, rfl, iteF (iteF (no rfl rfl))⟩⟩
    · exact iteT ⟨_, rfl, _, rfl, iteT (iteT ⟨_, rfl, lacc, _, rfl, done (c := true) rfl rfl⟩)⟩
    · exact iteF ⟨_, rfl, _, e11, _, rfl, iteT ⟨_, rfl, _, rfl, iteF ⟨_, rfl, _, rfl, iteF (no rfl rfl)⟩⟩⟩
    · exact iteF ⟨_, rfl, _, e11, _, rfl, iteT ⟨_, rfl, _, rfl, iteF ⟨_, rfl, _, rfl, iteT ⟨_, rfl, lacc, _, rfl, done (c := true) rfl rfl⟩⟩⟩⟩
    · exact iteT ⟨_, rfl, _, rfl, iteF ⟨_, rfl, _, e11, _, rfl, iteT ⟨_, rfl, _, rfl, iteT (iteT ⟨_, rfl, lacc, _, rfl, done (c := true) rfl rfl⟩)⟩⟩⟩
    · exact iteT ⟨_, rfl, _, rfl, iteT (iteT ⟨_, rfl, lacc, _, rfl, done (c := true) rfl rfl⟩)⟩
  rintro _ ⟨a6, a7, a8, rfl⟩
  ac_rfl
  rw [upto_len, List.length_map, Int.toNat_natCast, List.take_length]
  refine ⟨fun i acc => acc = ((joinM mv mv2).take i).map rowV, rfl, ?_, ?_⟩
  · rintro i u acc e rfl
    obtain ⟨x, ex, rfl⟩ := map_at e
    exact lcI ⟨_, rfl, _, .inl rfl, map_step rowV rfl ex⟩
  rintro acc h
  rw [List.length_map, List.take_length] at h
  subst h
  ac_rfl
  unfold lst2 fieldsU rowV at p
  rw [List.map_map] at p
  exact p
theorem sc_Rule_eq : FnScope ["self", "other"] ["self", "other"] (defScope s_Rule_eq) := ⟨rfl, rfl, rfl, by decide +kernel, rfl, by decide +kernel, by decide +kernel⟩
def WRuleEq (cU : Addr) : Wf := fun us post _ => ∃ (ss : List Str) (mv : List (List Int)) (gd : List Int), us = [ruleV cU ss mv gd, ruleV cU ss mv gd] ∧ (∀ s ∈ ss, PyData.strOk s = true) ∧ post (.bl true)
theorem ok_Rule_eq (M : MF P w K mg cR iR cT iT cO cU fU lU tU gU cL) (F : Fun K "__eq__" "Rule.__eq__" s_Rule_eq f fd) : FnOk P w K mg base CX0 1 f fd ["self", "other"] (spV false 2 (WRuleEq cU)) := by
  refine okV (k := 0) F sc_Rule_eq rfl (by decide) fun cdv A outer s H E hr => ⟨_, (pss_one (ps_ret (pe_and (pe_callB (call_isCK K M.ic_Rule) (by rfl) M.m_isinstance (by decide +kernel) (pa_cons (pv 1) (pa_cons (pe_glob (v := .ref cU) rfl M.g_Rule rfl) pa_nil))) (pe_and (pe_cmpR (op_eqV K hr.units) (pe_fldK K (pv 0) rfl) (pe_fldK K (pv 1) rfl) (nomark _)) (pe_and (pe_cmpR (op_eqV K hr.units) (pe_fldK K (pv 0) rfl) (pe_fldK K (pv 1) rfl) (nomark _)) (pe_one (pe_cmpR (op_eqV K hr.units) (pe_fldK K (pv 0) rfl) (pe_fldK K (pv 1) rfl) (nomark _)))))))), fun Z hb hE hs => ⟨_, (s_ret (v_andV (v_isC (TrE.b v_var)) (v_andV (v_op o_eq (TrE.b (v_fld (TrE.b v_var))) (TrE.b (v_fld (TrE.b v_var)))) (v_andV (v_op o_eq (TrE.b (v_fld (TrE.b v_var))) (TrE.b (v_fld (TrE.b v_var)))) (v_op o_eq (TrE.b (v_fld (TrE.b v_var))) (TrE.b (v_fld (TrE.b v_var)))))))), fun us post hl hW => ?_⟩⟩
  obtain ⟨ss, mv, gd, rfl, so, p⟩ := hW
  have e1 : fEq (.tup (ss.map U.str)) (.tup (ss.map U.str)) = some (.bl true) := by
    unfold fEq
    rw [eqU_strs so so, decide_eq_true rfl]
    rfl
  have nm : niceU 2 (.tup (mv.map rowV)) = true := List.all_eq_true.mpr fun u hu => by
    obtain ⟨r, _, rfl⟩ := List.mem_map.mp hu
    exact nice_row r
  have self : ∀ {u : U}, niceU 2 u = true → fEq u u = some (.bl true) := fun {u} h => by
    obtain ⟨c, e, k⟩ := eqU_nice (by decide) (by decide) h h
    unfold fEq
    rw [e, k.mpr rfl]
    rfl
  refine ⟨_, rfl, _, rfl, true, rfl, iteT ?_⟩
  refine ⟨_, rfl, cU, _, _, rfl, M.cl_Rule, M.n_signs, rfl, _, rfl, cU, _, _, rfl, M.cl_Rule, M.n_signs, rfl, _, e1, true, rfl, iteT ?_⟩
  refine ⟨_, rfl, cU, _, _, rfl, M.cl_Rule, M.n_moves, rfl, _, rfl, cU, _, _, rfl, M.cl_Rule, M.n_moves, rfl, _, self nm, true, rfl, iteT ?_⟩
  exact ⟨_, rfl, cU, _, _, rfl, M.cl_Rule, M.n_good, rfl, _, rfl, cU, _, _, rfl, M.cl_Rule, M.n_good, rfl, _, self (nice_row gd), p⟩
end

end K12
namespace K12
open PySem PySem.Spec PyProof.Rows L2 SL SV
local macro_rules | `(tactic| ac_rfl) => `(tactic| (repeat first | refine ⟨_, rfl, ?_⟩ | refine ⟨rfl, ?_⟩ | refine iteT ?_ | refine iteF ?_ | refine ⟨trivial, ?_⟩ | refine ⟨Nat.le_of_ble_eq_true rfl, ?_⟩ | refine ⟨_, _, rfl, rfl, ?_⟩ | refine ⟨_, _, rfl, ?_⟩ | refine ⟨_, .inl rfl, ?_⟩ | refine ⟨_, .inr rfl, ?_⟩ | refine .inl ⟨_, rfl, ?_⟩ | refine .inr ⟨_, rfl, ?_⟩ | refine ⟨_, _, .inl rfl, ?_⟩ | refine ⟨_, _, .inr rfl, ?_⟩ | refine ⟨by decide, ?_⟩))
section
variable {P : Program} {w : World} {K : PySem.W.Frag} {mg : Str → Option Value} {base : Heap} {cR iR cT iT cO cU fU lU tU gU cL : Addr} {fdU fdL fdT fdG : FuncData} {f : Addr} {fd : FuncData}
/-! ### _law_asked, _law_right -/
def askU (cU : Addr) (which : Int) (ss : List Str) (mv mv2 : List (List Int)) (gd gd2 : List Int) : U := if (metJ mv mv2).length > 40 then lst2 "many" (.int 40) else lst2 "made" (ruleV cU ss (joinM mv mv2) (joinG (fJ which) mv mv2 gd gd2))
theorem sc_law_asked : FnScope ["which", "one", "other", "told", "e"] ["which", "one", "other"] (defScope s_law_asked) := ⟨rfl, rfl, rfl, by decide +kernel, rfl, by decide +kernel, by decide +kernel⟩
def WAsk (cU : Addr) : Wf := fun us post _ => ∃ (which : Int) (ss : List Str) (mv : List (List Int)) (gd : List Int) (ss2 : List Str) (mv2 : List (List Int)) (gd2 : List Int), us = [.int which, ruleV cU ss mv gd, ruleV cU ss2 mv2 gd2] ∧ (which = 0 ∨ which = 1) ∧ RFine ss mv gd ∧ RFine ss2 mv2 gd2 ∧ (ss ≠ ss2 → post (.lst [.str "signs"])) ∧ (ss = ss2 → post (askU cU which ss mv mv2 gd gd2))
theorem ok_law_asked {T : List (Addr × Str)} (M : MF P w K mg cR iR cT iT cO cU fU lU tU gU cL) (F_both : FnC P w K mg base (L2.CX P w) 13 "both" ["one", "other"] (spV ⟨false, T⟩ 2 (WJoin cO cT cU fun a b => a && b))) (F_either : FnC P w K mg base (L2.CX P w) 13 "either" ["one", "other"] (spV ⟨false, T⟩ 2 (WJoin cO cT cU fun a b => a || b))) (F : Fun K "_law_asked" "_law_asked" s_law_asked f fd) : FnOk P w K mg base CX0 14 f fd ["which", "one", "other"] (spV ⟨false, T⟩ 3 (WAsk cU)) := by
  refine okV (k := 13) F sc_law_asked rfl (by decide) fun cdv A outer s H E hr => ⟨_, (pss_cons (ps_tryU rfl rfl sc_law_asked.nd takes0 (fun W pn xe tk _ => (pss_one (ps_if (pt_cmpR (op_eqV K hr.units) (pv 0) pe_int (nomark _))
      (pss_one (ps_set (i := 3) sc_law_asked.nd rfl (Or.inl rfl) (pe_lst (pa_cons pe_str (pa_cons (pe_fS F_both hr (by omega) (fun σ => passAt tk σ) (pa_cons (pv 1) (pa_cons (pv 2) pa_nil))) pa_nil))))) (pss_one (ps_set (i := 3) sc_law_asked.nd rfl (Or.inl rfl) (pe_lst (pa_cons pe_str (pa_cons (pe_fS F_either hr (by omega) (fun σ => passAt tk σ) (pa_cons (pv 1) (pa_cons (pv 2) pa_nil))) pa_nil))))))))
      (ClausesOk.only ⟨rfl, by decide, .inl M.g_OtherSigns⟩ (fun a oe cls d pn hz hf => (pss_one (ps_set (i := 3) sc_law_asked.nd rfl (Or.inl rfl) (pe_lst (pa_cons pe_str pa_nil))))) (ClausesOk.named (i := 4) rfl rfl ⟨rfl, by decide, .inl M.g_TooMany⟩ (fun a oe cls d pn hz hf => (pss_one (ps_set (i := 3) sc_law_asked.nd rfl (Or.inl rfl) (pe_lst (pa_cons pe_str (pa_cons (pe_exf M.x_TooMany hz hf (pv 4)) pa_nil)))))) (ClausesOk.only ⟨rfl, by decide, .inl M.g_LabelError⟩ (fun a oe cls d pn hz hf => (pss_one (ps_set (i := 3) sc_law_asked.nd rfl (Or.inl rfl) (pe_lst (pa_cons pe_str pa_nil))))) ClausesOk.nil))))
      (pss_one (ps_ret (pv 3)))), fun Z hb hE hs => ⟨_, (s_seq (s_try [3] hs out0 (fun W ew Z he hbz hE hs => (s_if (v_test (v_op o_eq (TrE.b v_var) (TrE.b v_int)))
      (s_set (TrF.e (v_lst (v_cons v_str (v_cons (v_callS hE he (pleT (by rw [hbz, hb])) (v_cons v_var (v_cons v_var v_nil))) v_nil))))) (s_set (TrF.e (v_lst (v_cons v_str (v_cons (v_callS hE he (pleT (by rw [hbz, hb])) (v_cons v_var (v_cons v_var v_nil))) v_nil)))))))
      (TrC.only (fun a C od us Z hbz hx hs => (s_set (TrF.e (v_lst (v_cons v_str v_nil))))) (TrC.named (i := 4) (by rfl) (fun a C od us Z hbz hx hm hs => (s_set (TrF.e (v_lst (v_cons v_str (v_cons (v_exf hx hm) v_nil)))))) (TrC.only (fun a C od us Z hbz hx hs => (s_set (TrF.e (v_lst (v_cons v_str v_nil))))) TrC.nil))))
      (s_ret v_var)), fun us post hl hW => ?_⟩⟩
  obtain ⟨which, ss, mv, gd, ss2, mv2, gd2, rfl, hw, r1, r2, pS, pJ⟩ := hW
  unfold askU at pJ
  rcases hw with rfl | rfl
  · refine ⟨rfl, _, rfl, _, (fEq_int _ _ : fEq (.int 0) (.int 0) = some (.bl true)), _, rfl, iteT ?_⟩
    refine ⟨_, rfl, _, rfl, rfl, ss, mv, gd, ss2, mv2, gd2, rfl, r1, r2, fun z => ?_, fun es => ⟨fun z => ?_, fun z => ?_⟩⟩
    · exact ⟨true, M.e_OO, fun _ => ⟨by show 1 ≤ 100000; decide, _, rfl, pS z⟩, fun z => nomatch z⟩
    · have pJ := pJ es
      rw [if_pos z] at pJ
      exact ⟨false, M.e_TO, fun z => (nomatch z), fun _ => ⟨true, M.e_TT, fun _ => ⟨rfl, _, rfl, by show 2 ≤ 100000; decide, _, rfl, pJ⟩, fun z => nomatch z⟩⟩
    · have pJ := pJ es
      rw [if_neg (by omega)] at pJ
      exact ⟨by show 2 ≤ 100000; decide, _, rfl, pJ⟩
  · refine ⟨rfl, _, rfl, _, (fEq_int _ _ : fEq (.int 1) (.int 0) = some (.bl false)), _, rfl, iteF ?_⟩
    refine ⟨_, rfl, _, rfl, rfl, ss, mv, gd, ss2, mv2, gd2, rfl, r1, r2, fun z => ?_, fun es => ⟨fun z => ?_, fun z => ?_⟩⟩
    · exact ⟨true, M.e_OO, fun _ => ⟨by show 1 ≤ 100000; decide, _, rfl, pS z⟩, fun z => nomatch z⟩
    · have pJ := pJ es
      rw [if_pos z] at pJ
      exact ⟨false, M.e_TO, fun z => (nomatch z), fun _ => ⟨true, M.e_TT, fun _ => ⟨rfl, _, rfl, by show 2 ≤ 100000; decide, _, rfl, pJ⟩, fun z => nomatch z⟩⟩
    · have pJ := pJ es
      rw [if_neg (by omega)] at pJ
      exact ⟨by show 2 ≤ 100000; decide, _, rfl, pJ⟩
theorem RFine.gl {ss : List Str} {mv : List (List Int)} {gd : List Int} (h : RFine ss mv gd) : gd.length ≤ 40 := by
  have nd : gd.Nodup := h.gw.imp fun {a b} lt e => by rw [e] at lt; exact absurd lt (Int.lt_irrefl b)
  have := nd_len (D := (List.range mv.length).map fun (n : Nat) => (n : Int)) nd fun x hx => by
    have := h.gr x hx
    exact List.mem_map.mpr ⟨x.toNat, List.mem_range.mpr (by omega), by omega⟩
  rw [List.length_map, List.length_range] at this
  have := h.m40
  omega
theorem pl_str {s : Str} (h : PyData.strOk s = true) : ∀ n, plU n (.str s) = true := by
  have e : eqU (.str s) (.str s) = some true := by
    obtain ⟨c, e, k⟩ := eqU_nice (n := 0) (m := 0) (by decide) (by decide) (show niceU 0 (.str s) = true from h) (show niceU 0 (.str s) = true from h)
    rw [e, k.mpr rfl]
  intro n
  cases n <;> exact decide_eq_true e
theorem pl_int : ∀ (n : Nat) (i : Int), plU n (.int i) = true
  | 0, _ => rfl
  | _ + 1, _ => rfl
theorem pl_tup {n : Nat} {us : List U} (h : ∀ u ∈ us, plU n u = true) (l : us.length ≤ 100000) : plU (n + 1) (.tup us) = true := by
  show (us.all (plU n) && decide (us.length ≤ 100000)) = true
  rw [decide_eq_true l, Bool.and_true]
  exact List.all_eq_true.mpr h
theorem pl_row {n : Nat} {ts : List Int} (h : ts.length ≤ 100000) : plU (n + 1) (rowV ts) = true := pl_tup (fun u hu => by
  obtain ⟨i, _, rfl⟩ := List.mem_map.mp hu
  exact pl_int _ _) (by rw [List.length_map]; exact h)
theorem pl_strs {n : Nat} {ss : List Str} (so : ∀ s ∈ ss, PyData.strOk s = true) (l : ss.length ≤ 100000) : plU (n + 1) (.tup (ss.map U.str)) = true := pl_tup (fun u hu => by
  obtain ⟨s, hs, rfl⟩ := List.mem_map.mp hu
  exact pl_str (so s hs) _) (by rw [List.length_map]; exact l)
theorem pl_fields {ss : List Str} {mv : List (List Int)} {gd : List Int} (r : RFine ss mv gd) : plU 3 (fieldsU ss mv gd) = true := by
  have h1 : plU 2 (.tup (ss.map U.str)) = true := pl_strs r.so (by have := r.s10; omega)
  have h2 : plU 2 (.tup (mv.map rowV)) = true := pl_tup (fun u hu => by
    obtain ⟨x, hx, rfl⟩ := List.mem_map.mp hu
    exact pl_row (by have := (r.ok.row x hx).1; have := r.s10; omega)) (by rw [List.length_map]; have := r.m40; omega)
  have h3 : plU 2 (rowV gd) = true := pl_row (by have := r.gl; omega)
  show (([U.tup (ss.map U.str), U.tup (mv.map rowV), rowV gd]).all (plU 2) && decide (([U.tup (ss.map U.str), U.tup (mv.map rowV), rowV gd]).length ≤ 100000)) = true
  rw [List.all_cons, List.all_cons, List.all_cons, List.all_nil, h1, h2, h3]
  rfl
theorem fEq_is {x y : U} {c : Bool} (h : eqU x y = some c) : fEq x y = some (.bl c) := by
  unfold fEq
  rw [h]
  rfl
theorem fNe_of {x y : U} (h : eqU x y = some true) : fNe x y = some (.bl false) := by
  unfold fNe
  rw [h]
  rfl
theorem sc_law_right : FnScope ["one", "other", "rules", "which", "told", "due"] ["one", "other"] (defScope s_law_right) := ⟨rfl, rfl, rfl, by decide +kernel, rfl, by decide +kernel, by decide +kernel⟩
def WRight : Wf := fun us post _ => ∃ (ss : List Str) (mv : List (List Int)) (gd : List Int) (mv2 : List (List Int)) (gd2 : List Int), us = [modelU ss mv gd, modelU ss mv2 gd2] ∧ RFine ss mv gd ∧ RFine ss mv2 gd2 ∧ ss.length ≤ 10 ∧ post (.bl true)
theorem ok_law_right {T : List (Addr × Str)} (M : MF P w K mg cR iR cT iT cO cU fU lU tU gU cL) (F_law_rule : FnC P w K mg base CX0 8 "_law_rule" ["model"] (spV false 1 (WLRule cU))) (F_law_asked : FnC P w K mg base CX0 14 "_law_asked" ["which", "one", "other"] (spV ⟨false, T⟩ 3 (WAsk cU))) (F_law_due : FnC P w K mg base CX0 2 "_law_due" ["which", "one", "other"] (spV false 3 WDue)) (F_law_same : FnC P w K mg base CX0 8 "_law_same" ["actual", "due"] (spV false 2 (WSame 3)))
    (F_law_fields : FnC P w K mg base CX0 1 "_law_fields" ["rule"] (spV false 1 (WFields cU))) (OE : FnOk P w K mg base CX0 1 gU fdG ["self", "other"] (spV false 2 (WRuleEq cU))) (BE : Binds K fdG ["self", "other"] []) (F : Fun K "_law_right" "_law_right" s_law_right f fd) : FnOk P w K mg base CX0 15 f fd ["one", "other"] (spV ⟨false, T⟩ 2 WRight) := by
  refine okV (k := 14) F sc_law_right rfl (by decide) fun cdv A outer s H E hr => ⟨_, (pss_cons (ps_set (i := 2) sc_law_right.nd rfl (Or.inl rfl) (pe_lst (pa_cons (pe_f F_law_rule hr (by omega) pass0 (pa_cons (pv 0) pa_nil)) (pa_cons (pe_f F_law_rule hr (by omega) pass0 (pa_cons (pv 1) pa_nil)) pa_nil))))
      (pss_cons (ps_for PassesOwn.never rfl (pi_range1 (by rfl) M.m_range (pa_cons pe_int pa_nil)) (pg_name (i := 3) sc_law_right.nd rfl (Or.inl rfl))
      (pss_cons (ps_set (i := 4) sc_law_right.nd rfl (Or.inl rfl) (pe_f F_law_asked hr (by omega) pass0 (pa_cons (pv 3) (pa_cons (pe_ix (ix_seqK K) (pv 2) pe_int (fun _ _ => rfl)) (pa_cons (pe_ix (ix_seqK K) (pv 2) pe_int (fun _ _ => rfl)) pa_nil)))))
      (pss_cons (ps_set (i := 5) sc_law_right.nd rfl (Or.inl rfl) (pe_f F_law_due hr (by omega) pass0 (pa_cons (pv 3) (pa_cons (pv 0) (pa_cons (pv 1) pa_nil)))))
      (pss_cons (ps_if (pt_cmpR (op_neV K hr.units) (pe_ix (ix_seqK K) (pv 4) pe_int (fun _ _ => rfl)) (pe_ix (ix_seqK K) (pv 5) pe_int (fun _ _ => rfl)) (nomark _))
      (pss_one (ps_ret pe_bl)) pss_nil)
      (pss_cons (ps_if (PW.pt (pw_and (pt_cmpR (op_eqV K hr.units) (pe_ix (ix_seqK K) (pv 5) pe_int (fun _ _ => rfl)) pe_str (nomark _)) (pw_and1 (pt_not (pt_val (pe_f F_law_same hr (by omega) pass0 (pa_cons (pv 4) (pa_cons (pv 5) pa_nil))))))))
      (pss_one (ps_ret pe_bl)) pss_nil)
      (pss_one (ps_if (PW.pt (pw_and (pt_cmpR (op_eqV K hr.units) (pe_ix (ix_seqK K) (pv 5) pe_int (fun _ _ => rfl)) pe_str (nomark _)) (pw_and1 (pt_not (pt_val (pe_f F_law_same hr (by omega) pass0 (pa_cons (pe_f F_law_fields hr (by omega) pass0 (pa_cons (pe_ix (ix_seqK K) (pv 4) pe_int (fun _ _ => rfl)) pa_nil)) (pa_cons (pe_ix (ix_seqK K) (pv 5) pe_int (fun _ _ => rfl)) pa_nil))))))))
      (pss_one (ps_ret pe_bl)) pss_nil)))))))
      (pss_one (ps_ret (pe_and (pe_cmpR op_isBl (pe_cmpR (op_ownEq OE (hr.mono (by decide)) M.eq_Rule M.fn_eqRule BE pass0) (pe_ix (ix_seqK K) (pv 2) pe_int (fun _ _ => rfl)) (pe_f F_law_rule hr (by omega) pass0 (pa_cons (pv 0) pa_nil)) (nomark _)) pe_bl (nomark _)) (pe_one (pe_cmpR op_isBl (pe_cmpR (op_ownEq OE (hr.mono (by decide)) M.eq_Rule M.fn_eqRule BE pass0) (pe_ix (ix_seqK K) (pv 2) pe_int (fun _ _ => rfl)) (pe_f F_law_rule hr (by omega) pass0 (pa_cons (pv 1) pa_nil)) (nomark _)) pe_bl (nomark _)))))))), fun Z hb hE hs => ⟨_, (s_seq (s_set (TrF.e (v_lst (v_cons (v_call ple0 (v_cons v_var v_nil)) (v_cons (v_call ple0 (v_cons v_var v_nil)) v_nil)))))
      (s_seq (s_for (vs := [3]) (i_rng1 (v_cons v_int v_nil)) (g_name (by decide))
      (s_seq (s_set (v_call (pleT (by rw [hb])) (v_cons v_var (v_cons (v_op o_ix (TrE.b v_var) (TrE.b v_int)) (v_cons (v_op o_ix (TrE.b v_var) (TrE.b v_int)) v_nil)))))
      (s_seq (s_set (v_call ple0 (v_cons v_var (v_cons v_var (v_cons v_var v_nil)))))
      (s_seq (s_if (v_test (v_op o_ne (TrE.b (v_op o_ix (TrE.b v_var) (TrE.b v_int))) (TrE.b (v_op o_ix (TrE.b v_var) (TrE.b v_int)))))
      (s_ret v_bl) s_nil)
      (s_seq (s_if (v_and (v_test (v_op o_eq (TrE.b (v_op o_ix (TrE.b v_var) (TrE.b v_int))) (TrE.b v_str))) (v_not (v_tB (v_call ple0 (v_cons v_var (v_cons v_var v_nil))))))
      (s_ret v_bl) s_nil)
      (s_if (v_and (v_test (v_op o_eq (TrE.b (v_op o_ix (TrE.b v_var) (TrE.b v_int))) (TrE.b v_str))) (v_not (v_tB (v_call ple0 (v_cons (v_call ple0 (v_cons (v_op o_ix (TrE.b v_var) (TrE.b v_int)) v_nil)) (v_cons (v_op o_ix (TrE.b v_var) (TrE.b v_int)) v_nil))))))
      (s_ret v_bl) s_nil))))))
      (s_ret (v_andV (v_op o_isB (TrE.b (v_ownEq ple0 (v_op o_ix (TrE.b v_var) (TrE.b v_int)) (v_call ple0 (v_cons v_var v_nil)))) (TrE.b v_bl)) (v_op o_isB (TrE.b (v_ownEq ple0 (v_op o_ix (TrE.b v_var) (TrE.b v_int)) (v_call ple0 (v_cons v_var v_nil)))) (TrE.b v_bl)))))), fun us post hl hW => ?_⟩⟩
  obtain ⟨ss, mv, gd, mv2, gd2, rfl, r1, r2, s10, p⟩ := hW
  refine ⟨_, rfl, rfl, ss, mv, gd, rfl, r1, _, rfl, rfl, ss, mv2, gd2, rfl, r2, by show 2 ≤ 100000; decide, ?_⟩
  ac_rfl
  refine ⟨fun i ρ => ∃ a3 a4 a5 : Cell, ρ = [.fz (modelU ss mv gd), .fz (modelU ss mv2 gd2), .fz (.lst [ruleV cU ss mv gd, ruleV cU ss mv2 gd2]), a3, a4, a5], ⟨_, _, _, rfl⟩, ?_, ?_⟩
  · rintro i u _ e ⟨a3, a4, a5, rfl⟩
    obtain ⟨hi, rfl⟩ := upto_at0 e
    have hi : i < 2 := hi
    refine ⟨_, rfl, _, rfl, _, rfl, _, rfl, _, rfl, rfl, i, ss, mv, gd, ss, mv2, gd2, rfl, by omega, r1, r2, (fun z => absurd rfl z), fun _ => ?_⟩
    refine ⟨_, rfl, _, rfl, _, rfl, rfl, i, ss, mv, gd, ss, mv2, gd2, rfl, by omega, r1.ok, r2.ok, r1.m40, r2.m40, s10, ?_⟩
    have fine := fun h => join_fine (f := fJ (i : Int)) r1 r2 h
    unfold askU dueU
    by_cases c : (metJ mv mv2).length > 40
    · rw [if_pos c, if_pos c]
      refine ⟨_, rfl, _, rfl, _, rfl, _, rfl, _, (fNe_of (by decide +kernel) : fNe (.str "many") (.str "many") = _), _, rfl, iteF ?_⟩
      refine ⟨_, rfl, _, rfl, _, (fEq_is (by decide +kernel) : fEq (.str "many") (.str "many") = some (.bl true)), _, rfl, iteT ?_⟩
      refine ⟨_, rfl, _, rfl, rfl, _, rfl, (by decide +kernel), _, rfl, iteF ?_⟩
      refine ⟨_, rfl, _, rfl, _, (fEq_is (by decide +kernel) : fEq (.str "many") (.str "made") = some (.bl false)), _, rfl, iteF (iteF ⟨_, _, _, rfl⟩)⟩
    · rw [if_neg c, if_neg c]
      refine ⟨_, rfl, _, rfl, _, rfl, _, rfl, _, (fNe_of (by decide +kernel) : fNe (.str "made") (.str "made") = _), _, rfl, iteF ?_⟩
      refine ⟨_, rfl, _, rfl, _, (fEq_is (by decide +kernel) : fEq (.str "made") (.str "many") = some (.bl false)), _, rfl, iteF ?_⟩
      refine iteF ?_
      refine ⟨_, rfl, _, rfl, _, (fEq_is (by decide +kernel) : fEq (.str "made") (.str "made") = some (.bl true)), _, rfl, iteT ?_⟩
      refine ⟨_, rfl, _, rfl, rfl, ss, _, _, rfl, _, rfl, _, rfl, rfl, _, rfl, pl_fields (fine (by omega)), _, rfl, iteF ⟨_, _, _, rfl⟩⟩
  rintro _ ⟨a3, a4, a5, rfl⟩
  refine ⟨_, rfl, _, rfl, _, rfl, rfl, ss, mv, gd, rfl, r1, _, _, rfl, rfl, ss, mv, gd, rfl, r1.so, _, rfl, _, rfl, _, rfl, iteT ?_⟩
  exact ⟨_, rfl, _, rfl, _, rfl, rfl, ss, mv2, gd2, rfl, r2, _, _, rfl, rfl, ss, mv2, gd2, rfl, r2.so, _, rfl, _, rfl, p⟩
end

end K12
namespace K12
open PySem PySem.Spec PyProof.Rows L2 SL SV
local macro_rules | `(tactic| ac_rfl) => `(tactic| (repeat first | refine ⟨_, rfl, ?_⟩ | refine ⟨rfl, ?_⟩ | refine iteT ?_ | refine iteF ?_ | refine ⟨trivial, ?_⟩ | refine ⟨Nat.le_of_ble_eq_true rfl, ?_⟩ | refine ⟨_, _, rfl, rfl, ?_⟩ | refine ⟨_, _, rfl, ?_⟩ | refine ⟨_, .inl rfl, ?_⟩ | refine ⟨_, .inr rfl, ?_⟩ | refine .inl ⟨_, rfl, ?_⟩ | refine .inr ⟨_, rfl, ?_⟩ | refine ⟨_, _, .inl rfl, ?_⟩ | refine ⟨_, _, .inr rfl, ?_⟩ | refine ⟨by decide, ?_⟩))
section
variable {P : Program} {w : World} {K : PySem.W.Frag} {mg : Str → Option Value} {base : Heap} {cR iR cT iT cO cU fU lU tU gU cL : Addr} {fdU fdL fdT fdG : FuncData} {f : Addr} {fd : FuncData}
/-! ### the law -/
theorem stepR_in {ss : List Str} {mv : List (List Int)} (ok : RuleOk ss mv) {st : Int} (h0 : 0 ≤ st) (h1 : st < mv.length) {c : Nat} (hc : (⟨#[c]⟩ : Str) ∈ ss) : 0 ≤ stepR ss mv st c ∧ stepR ss mv st c < mv.length := by
  have e : mv[st.toNat]? = some mv[st.toNat] := List.getElem?_eq_getElem (by omega)
  obtain ⟨rl, rx⟩ := ok.row _ (List.mem_of_getElem? e)
  have jl := List.idxOf_lt_length_iff.mpr hc
  have e2 : mv[st.toNat][ss.idxOf (⟨#[c]⟩ : Str)]? = some mv[st.toNat][ss.idxOf (⟨#[c]⟩ : Str)] := List.getElem?_eq_getElem (by omega)
  unfold stepR
  rw [e, Option.getD_some, e2, Option.getD_some]
  exact rx _ (List.mem_of_getElem? e2)
theorem foldR_in {ss : List Str} {mv : List (List Int)} (ok : RuleOk ss mv) : ∀ (cs : List Nat) {st : Int}, 0 ≤ st → st < mv.length → (∀ c ∈ cs, (⟨#[c]⟩ : Str) ∈ ss) → 0 ≤ cs.foldl (stepR ss mv) st ∧ cs.foldl (stepR ss mv) st < mv.length
  | [], _, h0, h1, _ => ⟨h0, h1⟩
  | c :: r, st, h0, h1, h => by
    obtain ⟨a, b⟩ := stepR_in ok h0 h1 (h c List.mem_cons_self)
    exact foldR_in ok r a b fun x hx => h x (List.mem_cons_of_mem _ hx)
theorem opp_lets {ss : List Str} {mv : List (List Int)} {gd : List Int} (ok : RuleOk ss mv) {cs : List Nat} (h : ∀ c ∈ cs, (⟨#[c]⟩ : Str) ∈ ss) : decide (lastR ss mv cs ∈ oppG mv gd) = !decide (lastR ss mv cs ∈ gd) := by
  obtain ⟨h0, h1⟩ := foldR_in ok cs (Int.le_refl 0) (by have := ok.lo; omega) h
  change 0 ≤ lastR ss mv cs at h0
  change lastR ss mv cs < _ at h1
  rw [Bool.eq_iff_iff, decide_eq_true_eq]
  unfold oppG
  rw [List.mem_filter]
  exact ⟨fun z => z.2, fun z => ⟨List.mem_map.mpr ⟨(lastR ss mv cs).toNat, List.mem_range.mpr (by omega), by omega⟩, z⟩⟩
theorem sgs_ok : ∀ c ∈ sgs, PyData.strOk (oneS c) = true := by decide +kernel
theorem ones_fine {g : List Nat} (g1 : 1 ≤ g.length) (g10 : g.length ≤ 10) (pw : g.Pairwise (· < ·)) (hg : ∀ c ∈ g, c ∈ sgs) {mv : List (List Int)} {gd : List Int} (v1 : 1 ≤ mv.length) (v40 : mv.length ≤ 40) (hr : ∀ r ∈ mv, r.length = (g.map oneS).length ∧ ∀ x ∈ r, 0 ≤ x ∧ x < mv.length) (gw : gd.Pairwise (· < ·)) (gr : ∀ x ∈ gd, 0 ≤ x ∧ x < mv.length) : RFine (g.map oneS) mv gd :=
  ⟨⟨ones_nodup pw, v1, hr⟩, v40, signs_ones g1 g10 pw hg rfl, fun s hs => by obtain ⟨c, hc, rfl⟩ := List.mem_map.mp hs; exact sgs_ok c (hg c hc), gw, gr⟩
theorem round_fine {g : List Nat} (g1 : 1 ≤ g.length) (g10 : g.length ≤ 10) (pw : g.Pairwise (· < ·)) (hg : ∀ c ∈ g, c ∈ sgs) {n : Nat} (n1 : 1 ≤ n) (n40 : n ≤ 40) {x : Int} (x0 : 0 ≤ x) (x1 : x < n) : RFine (g.map oneS) (roundM (g.map oneS).length n) [x] := by
  have l : (roundM (g.map oneS).length n).length = n := by
    unfold roundM
    rw [List.length_map, List.length_range]
  refine ones_fine g1 g10 pw hg (by omega) (by omega) (fun r hr => ?_) (List.pairwise_singleton ..) fun y hy => ?_
  · rw [l]
    obtain ⟨i, hi, rfl⟩ := List.mem_map.mp hr
    have := List.mem_range.mp hi
    refine ⟨List.length_replicate, fun y hy => ?_⟩
    rw [List.eq_of_mem_replicate hy]
    split <;> omega
  · rw [List.mem_singleton.mp hy, l]
    exact ⟨x0, x1⟩
def FC : List Nat := ("zyxwvutsrqpo" : Str).cps.toList
theorem FC_sg : ∀ c ∈ FC, c ∈ sgs := by decide +kernel
theorem some_foreign {g : List Nat} (h : g.length ≤ 3) : ∃ c, c ∈ FC ∧ c ∉ g := by
  refine Classical.byContradiction fun no => ?_
  have := nd_len (D := g) (m := FC) (by decide +kernel) fun x hx => Classical.byContradiction fun n => no ⟨x, hx, n⟩
  have l : FC.length = 12 := by decide +kernel
  omega
theorem sc_law : FnScope ["script", "pool", "signs", "most", "one", "other", "sizes", "back", "turn", "text", "foreign", "third", "which", "k", "mark"] ["script"] (defScope s_law) := ⟨rfl, rfl, rfl, by decide +kernel, rfl, by decide +kernel, by decide +kernel⟩
def spLaw (K : PySem.W.Frag) (T : List (Addr × Str)) : Sp := fun vs H Q _ => ∃ (a : Addr) (ns : List Int), vs = [.ref a] ∧ SqL K H a (ns.map V.int) ∧ ns.length ≤ 63 ∧ (∀ x ∈ T, LamX.TabS H x.1 x.2) ∧ ∀ H', Q (.bl true) H'
theorem ok_law {T : List (Addr × Str)} (M : MF P w K mg cR iR cT iT cO cU fU lU tU gU cL) (F_law_pool : FnC P w K mg base CX0 1 "_law_pool" ["script"] (spPool K)) (F_law_draw : FnC P w K mg base CX0 1 "_law_draw" ["pool", "many"] (spV true 2 WDraw)) (F_law_signs : FnC P w K mg base CX0 2 "_law_signs" ["pool", "many"] (spV true 2 WSignsD)) (F_law_rule_model : FnC P w K mg base CX0 2 "_law_rule_model" ["pool", "signs", "most"] (spV true 3 WModel))
    (F_law_rule : FnC P w K mg base CX0 8 "_law_rule" ["model"] (spV false 1 (WLRule cU))) (F_law_asked : FnC P w K mg base CX0 14 "_law_asked" ["which", "one", "other"] (spV ⟨false, T⟩ 3 (WAsk cU))) (F_law_right : FnC P w K mg base CX0 15 "_law_right" ["one", "other"] (spV ⟨false, T⟩ 2 WRight)) (F_law_round : FnC P w K mg base CX0 1 "_law_round" ["signs", "many", "good"] (spV false 3 WRound))
    (F_law_same : FnC P w K mg base CX0 8 "_law_same" ["actual", "due"] (spV false 2 (WSame 3))) (F_opposite : FnC P w K mg base CX0 8 "opposite" ["rule"] (spV false 1 (WOpp cU)))
    (Olets : FnOk P w K mg base CX0 3 tU fdT ["self", "text"] (spV false 2 (WLets cU))) (Blets : Binds K fdT ["self", "text"] [])
    (F : Fun K "law" "law" s_law f fd) : FnOk P w K mg base CX0 17 f fd ["script"] (spLaw K T) := by
  refine F.ok (k := 16) sc_law (fun vs H Q E h => ?_) (fun cdv A outer s H vs Q E hr h => ?_)
  · obtain ⟨a, ns, rfl, _⟩ := h
    rfl
  · obtain ⟨a, ss, rfl, hS, hl, hTs, fin⟩ := h
    refine ⟨_, (pss_cons (ps_set (i := 1) sc_law.nd rfl (Or.inr rfl) (pe_f F_law_pool hr (by omega) pass0 (pa_cons (pv 0) pa_nil)))
      (pss_cons (ps_set (i := 2) sc_law.nd rfl (Or.inr rfl) (pe_f F_law_signs hr (by omega) pass0 (pa_cons (pv 1) (pa_cons (pe_op (op_addU K) pe_int (pe_f F_law_draw hr (by omega) pass0 (pa_cons (pv 1) (pa_cons pe_int pa_nil)))) pa_nil))))
      (pss_cons (ps_set (i := 3) sc_law.nd rfl (Or.inl rfl) (pe_ix (ix_seqK K) (pe_lst (pa_cons pe_int (pa_cons pe_int (pa_cons pe_int (pa_cons pe_int pa_nil))))) (pe_f F_law_draw hr (by omega) pass0 (pa_cons (pv 1) (pa_cons pe_int pa_nil))) (fun _ _ => rfl)))
      (pss_cons (ps_set (i := 4) sc_law.nd rfl (Or.inl rfl) (pe_f F_law_rule_model hr (by omega) pass0 (pa_cons (pv 1) (pa_cons (pv 2) (pa_cons (pv 3) pa_nil)))))
      (pss_cons (ps_set (i := 5) sc_law.nd rfl (Or.inl rfl) (pe_f F_law_rule_model hr (by omega) pass0 (pa_cons (pv 1) (pa_cons (pv 2) (pa_cons (pv 3) pa_nil)))))
      (pss_cons (ps_if (PW.pt (pw_or (pt_not (pt_val (pe_f F_law_right hr (by omega) pass0 (pa_cons (pv 4) (pa_cons (pv 5) pa_nil))))) (pw_or (pt_not (pt_val (pe_f F_law_right hr (by omega) pass0 (pa_cons (pv 5) (pa_cons (pv 4) pa_nil))))) (pw_or1 (pt_not (pt_val (pe_f F_law_right hr (by omega) pass0 (pa_cons (pv 4) (pa_cons (pv 4) pa_nil)))))))))
      (pss_one (ps_ret pe_bl)) pss_nil)
      (pss_cons (ps_set (i := 6) sc_law.nd rfl (Or.inl rfl) (pe_ix (ix_seqK K) (pe_lst (pa_cons (pe_lst (pa_cons pe_int (pa_cons pe_int pa_nil))) (pa_cons (pe_lst (pa_cons pe_int (pa_cons pe_int pa_nil))) (pa_cons (pe_lst (pa_cons pe_int (pa_cons pe_int pa_nil))) (pa_cons (pe_lst (pa_cons pe_int (pa_cons pe_int pa_nil))) (pa_cons (pe_lst (pa_cons pe_int (pa_cons pe_int pa_nil))) (pa_cons (pe_lst (pa_cons pe_int (pa_cons pe_int pa_nil))) pa_nil))))))) (pe_f F_law_draw hr (by omega) pass0 (pa_cons (pv 1) (pa_cons pe_int pa_nil))) (fun _ _ => rfl)))
      (pss_cons (ps_if (pt_not (pt_val (pe_f F_law_right hr (by omega) pass0 (pa_cons (pe_f F_law_round hr (by omega) pass0 (pa_cons (pv 2) (pa_cons (pe_ix (ix_seqK K) (pv 6) pe_int (fun _ _ => rfl)) (pa_cons (pe_lst (pa_cons pe_int pa_nil)) pa_nil)))) (pa_cons (pe_f F_law_round hr (by omega) pass0 (pa_cons (pv 2) (pa_cons (pe_ix (ix_seqK K) (pv 6) pe_int (fun _ _ => rfl)) (pa_cons (pe_lst (pa_cons (pe_op op_sub (pe_ix (ix_seqK K) (pv 6) pe_int (fun _ _ => rfl)) pe_int) pa_nil)) pa_nil)))) pa_nil)))))
      (pss_one (ps_ret pe_bl)) pss_nil)
      (pss_cons (ps_set (i := 7) sc_law.nd rfl (Or.inl rfl) (pe_f F_opposite hr (by omega) pass0 (pa_cons (pe_f F_law_rule hr (by omega) pass0 (pa_cons (pv 4) pa_nil)) pa_nil)))
      (pss_cons (ps_if (pt_not (pt_val (pe_f F_law_same hr (by omega) pass0 (pa_cons (pe_fldK K (pv 7) rfl) (pa_cons (pe_callTy (call_tupleK K) (by rfl) M.m_tuple (by decide +kernel) (pa_cons (pe_ix (ix_seqK K) (pv 4) pe_int (fun _ _ => rfl)) pa_nil)) pa_nil)))))
      (pss_one (ps_ret pe_bl)) pss_nil)
      (pss_cons (ps_for PassesOwn.never rfl (pi_range1 (by rfl) M.m_range (pa_cons pe_int pa_nil)) (pg_name (i := 8) sc_law.nd rfl (Or.inl rfl))
      (pss_cons (ps_set (i := 9) sc_law.nd rfl (Or.inl rfl) (pe_join pe_str (pe_lc (own := [("k", 13)]) (tt := tYes) rfl sc_law.nd (pi_range1 (by rfl) M.m_range (pa_cons (pe_f F_law_draw hr (by omega) pass0 (pa_cons (pv 1) (pa_cons pe_int pa_nil))) pa_nil)) (blkOk_by (N := ["script", "pool", "signs", "most", "one", "other", "sizes", "back", "turn", "text", "foreign", "third", "which", "k", "mark"]) (sc := defScope s_law) (by decide +kernel)) (fun _ _ _ _ _ => (pg_name (i := 13) sc_law.nd rfl (Or.inl rfl))) (fun _ _ _ _ _ => pts_nil) (fun _ _ _ _ _ => (pe_ix (ix_seqK K) (pv 2) (pe_f F_law_draw hr (by omega) pass0 (pa_cons (pv 1) (pa_cons (pe_callB (call_lenV K) (by rfl) M.m_len PySem.boot_len (pa_cons (pv 2) pa_nil)) pa_nil))) (fun _ _ => rfl))))))
      (pss_one (ps_if (pt_not (pt_val (pe_f F_law_same hr (by omega) pass0 (pa_cons (pe_meth (pv 7) M.cl_Rule M.me_lets Olets (hr.mono (by decide)) Blets .nil pass0 (pa_cons (pv 9) pa_nil)) (pa_cons (pe_not (pe_meth (pe_f F_law_rule hr (by omega) pass0 (pa_cons (pv 4) pa_nil)) M.cl_Rule M.me_lets Olets (hr.mono (by decide)) Blets .nil pass0 (pa_cons (pv 9) pa_nil))) pa_nil)))))
      (pss_one (ps_ret pe_bl)) pss_nil))))
      (pss_cons (ps_set (i := 10) sc_law.nd rfl (Or.inl rfl) (pe_ix (ix_seqK K) (pe_lc (own := [("mark", 14)]) rfl sc_law.nd (pi_seq K pe_str) (blkOk_by (N := ["script", "pool", "signs", "most", "one", "other", "sizes", "back", "turn", "text", "foreign", "third", "which", "k", "mark"]) (sc := defScope s_law) (by decide +kernel)) (fun _ _ _ _ _ => (pg_name (i := 14) sc_law.nd rfl (Or.inl rfl))) (fun _ _ _ _ _ => (pts_one (pt_cmpR (op_notInV K) (pv 14) (pv 2) (by rfl)))) (fun _ _ _ _ _ => (pv 14))) pe_int (fun _ _ => rfl)))
      (pss_cons (ps_set (i := 11) sc_law.nd rfl (Or.inl rfl) (pe_lst (pa_cons (pe_lst (pa_cons (pv 10) pa_nil)) (pa_cons (pe_lst (pa_cons (pe_lst (pa_cons pe_int pa_nil)) pa_nil)) (pa_cons (pe_lst (pa_cons pe_int pa_nil)) pa_nil)))))
      (pss_cons (ps_if (pt_cmpR (op_eqV K hr.units) (pe_f F_law_draw hr (by omega) pass0 (pa_cons (pv 1) (pa_cons pe_int pa_nil))) pe_int (nomark _))
      (pss_one (ps_set (i := 11) sc_law.nd rfl (Or.inl rfl) (pe_lst (pa_cons (pe_callB (cr_sortSK K) (by rfl) M.m_sorted (by decide +kernel) (pa_cons (pe_op op_cat (pv 2) (pe_lst (pa_cons (pv 10) pa_nil))) pa_nil)) (pa_cons (pe_lst (pa_cons (pe_lc (own := [("k", 13)]) (tt := tYes) rfl sc_law.nd (pi_range1 (by rfl) M.m_range (pa_cons (pe_op (op_addU K) (pe_callB (call_lenV K) (by rfl) M.m_len PySem.boot_len (pa_cons (pv 2) pa_nil)) pe_int) pa_nil)) (blkOk_by (N := ["script", "pool", "signs", "most", "one", "other", "sizes", "back", "turn", "text", "foreign", "third", "which", "k", "mark"]) (sc := defScope s_law) (by decide +kernel)) (fun _ _ _ _ _ => (pg_name (i := 13) sc_law.nd rfl (Or.inl rfl))) (fun _ _ _ _ _ => pts_nil) (fun _ _ _ _ _ => pe_int)) pa_nil)) (pa_cons (pe_lst (pa_cons pe_int pa_nil)) pa_nil)))))) pss_nil)
      (pss_cons (ps_for PassesOwn.never rfl (pi_range1 (by rfl) M.m_range (pa_cons pe_int pa_nil)) (pg_name (i := 12) sc_law.nd rfl (Or.inl rfl))
      (pss_one (ps_if (pt_cmpR (op_neV K hr.units) (pe_f F_law_asked hr (by omega) pass0 (pa_cons (pv 12) (pa_cons (pe_f F_law_rule hr (by omega) pass0 (pa_cons (pv 4) pa_nil)) (pa_cons (pe_f F_law_rule hr (by omega) pass0 (pa_cons (pv 11) pa_nil)) pa_nil)))) (pe_lst (pa_cons pe_str pa_nil)) (nomark _))
      (pss_one (ps_ret pe_bl)) pss_nil)))
      (pss_one (ps_ret pe_bl))))))))))))))))), ?_⟩
    refine ⟨.ref a, rfl, a, ss, rfl, hS, hl, fun H' p q s' np hP => ?_⟩
    refine pool_runNT (T := T) (n := 13) (post := fun u => u = .bl true) hP (fun x hx => (hTs x hx).ext s') (fun v u G' H' e r => ?_) fun Z hb hs => ⟨_, (s_seq (s_set (v_call (ple1 (by rw [hb])) (v_cons v_var (v_cons (v_op o_add (TrE.b v_int) (TrE.b (v_call (ple1 (by rw [hb])) (v_cons v_var (v_cons v_int v_nil))))) v_nil))))
      (s_seq (s_set (v_op o_ix (TrF.b (v_lst (v_cons v_int (v_cons v_int (v_cons v_int (v_cons v_int v_nil)))))) (TrE.b (v_call (ple1 (by rw [hb])) (v_cons v_var (v_cons v_int v_nil))))))
      (s_seq (s_set (v_call (ple1 (by rw [hb])) (v_cons v_var (v_cons v_var (v_cons v_var v_nil)))))
      (s_seq (s_set (v_call (ple1 (by rw [hb])) (v_cons v_var (v_cons v_var (v_cons v_var v_nil)))))
      (s_seq (s_if (v_or (v_not (v_tB (v_call (pleT (by rw [hb])) (v_cons v_var (v_cons v_var v_nil))))) (v_or (v_not (v_tB (v_call (pleT (by rw [hb])) (v_cons v_var (v_cons v_var v_nil))))) (v_not (v_tB (v_call (pleT (by rw [hb])) (v_cons v_var (v_cons v_var v_nil)))))))
      (s_ret v_bl) s_nil)
      (s_seq (s_set (v_op o_ix (TrF.b (v_lst (v_cons (TrF.e (v_lst (v_cons v_int (v_cons v_int v_nil)))) (v_cons (TrF.e (v_lst (v_cons v_int (v_cons v_int v_nil)))) (v_cons (TrF.e (v_lst (v_cons v_int (v_cons v_int v_nil)))) (v_cons (TrF.e (v_lst (v_cons v_int (v_cons v_int v_nil)))) (v_cons (TrF.e (v_lst (v_cons v_int (v_cons v_int v_nil)))) (v_cons (TrF.e (v_lst (v_cons v_int (v_cons v_int v_nil)))) v_nil)))))))) (TrE.b (v_call (ple1 (by rw [hb])) (v_cons v_var (v_cons v_int v_nil))))))
      (s_seq (s_if (v_not (v_tB (v_call (pleT (by rw [hb])) (v_cons (v_call ple0 (v_cons v_var (v_cons (v_op o_ix (TrE.b v_var) (TrE.b v_int)) (v_cons (TrF.e (v_lst (v_cons v_int v_nil))) v_nil)))) (v_cons (v_call ple0 (v_cons v_var (v_cons (v_op o_ix (TrE.b v_var) (TrE.b v_int)) (v_cons (TrF.e (v_lst (v_cons (v_op o_II (TrE.b (v_op o_ix (TrE.b v_var) (TrE.b v_int))) (TrE.b v_int)) v_nil))) v_nil)))) v_nil)))))
      (s_ret v_bl) s_nil)
      (s_seq (s_set (v_call ple0 (v_cons (v_call ple0 (v_cons v_var v_nil)) v_nil)))
      (s_seq (s_if (v_not (v_tB (v_call ple0 (v_cons (v_fld (TrE.b v_var)) (v_cons (v_cb b_tuple (v_consB (TrE.b (v_op o_ix (TrE.b v_var) (TrE.b v_int))) v_nilB)) v_nil)))))
      (s_ret v_bl) s_nil)
      (s_seq (s_for (vs := [8]) (i_rng1 (v_cons v_int v_nil)) (g_name (by decide))
      (s_seq (s_set (v_join v_str (TrF.b (v_lc (i_rng1 (v_cons (v_call (ple1 (by rw [hb])) (v_cons v_var (v_cons v_int v_nil))) v_nil)) (g_name (by decide)) v_yes (v_op o_ix (TrE.b v_var) (TrE.b (v_call (ple1 (by rw [hb])) (v_cons v_var (v_cons (v_cb b_len (v_consB (TrE.b v_var) v_nilB)) v_nil)))))))))
      (s_if (v_not (v_tB (v_call ple0 (v_cons (v_meth ple0 v_var (v_cons v_var v_nil)) (v_cons (v_notV (v_meth ple0 (v_call ple0 (v_cons v_var v_nil)) (v_cons v_var v_nil))) v_nil)))))
      (s_ret v_bl) s_nil)))
      (s_seq (s_set (v_op o_ix (TrF.b (v_lc (i_seq v_str) (g_name (by decide)) (v_test (v_op o_notIn (TrE.b v_var) (TrE.b v_var))) v_var)) (TrE.b v_int)))
      (s_seq (s_set (TrF.e (v_lst (v_cons (TrF.e (v_lst (v_cons v_var v_nil))) (v_cons (TrF.e (v_lst (v_cons (TrF.e (v_lst (v_cons v_int v_nil))) v_nil))) (v_cons (TrF.e (v_lst (v_cons v_int v_nil))) v_nil))))))
      (s_cut (s_if (v_test (v_op o_eq (TrE.b (v_call (ple1 (by rw [hb])) (v_cons v_var (v_cons v_int v_nil)))) (TrE.b v_int)))
      (s_set (TrF.e (v_lst (v_cons (TrF.e (v_cbF b_sortS (v_consB (TrF.b (v_opF o_catL (TrE.b v_var) (TrF.b (v_lst (v_cons v_var v_nil))))) v_nilB))) (v_cons (TrF.e (v_lst (v_cons (TrF.e (v_lc (i_rng1 (v_cons (v_op o_add (TrE.b (v_cb b_len (v_consB (TrE.b v_var) v_nilB))) (TrE.b v_int)) v_nil)) (g_name (by decide)) v_yes v_int)) v_nil))) (v_cons (TrF.e (v_lst (v_cons v_int v_nil))) v_nil)))))) s_nil)
      (s_seq (s_for (vs := [12]) (i_rng1 (v_cons v_int v_nil)) (g_name (by decide))
      (s_if (v_test (v_op o_ne (TrE.b (v_call (pleT (by rw [hb])) (v_cons v_var (v_cons (v_call ple0 (v_cons v_var v_nil)) (v_cons (v_call ple0 (v_cons v_var v_nil)) v_nil))))) (TrF.b (v_lst (v_cons v_str v_nil)))))
      (s_ret v_bl) s_nil))
      (s_ret v_bl))))))))))))))), ?_⟩
    · subst e
      cases r
      exact fin _
    ac_rfl
    intro n0 n00 n01
    ac_rfl
    refine ⟨(1 + n0).toNat, by rw [Int.toNat_of_nonneg (by omega)], by omega, fun ss f hp lf nd hf so => ?_⟩
    obtain ⟨g, rfl, lg, pw, hg⟩ := drawn_signs hp nd so hf
    have g1 : 1 ≤ g.length := by omega
    have g3 : g.length ≤ 3 := by omega
    have gl : (g.map oneS).length = g.length := List.length_map _
    ac_rfl
    intro d d0 d1
    refine pickM (fun u => ∃ m : Nat, u = .int (m : Int) ∧ 3 ≤ m ∧ m ≤ 12) (n := 4) d0 d1 rfl (fun u hu => ?_) fun u hu => ?_
    · simp only [List.mem_cons, List.not_mem_nil, or_false] at hu
      rcases hu with rfl | rfl | rfl | rfl
      · exact ⟨3, rfl, by decide, by decide⟩
      · exact ⟨4, rfl, by decide, by decide⟩
      · exact ⟨6, rfl, by decide, by decide⟩
      · exact ⟨12, rfl, by decide, by decide⟩
    obtain ⟨m, rfl, m3, m12⟩ := hu
    ac_rfl
    refine ⟨by omega, by omega, by omega, fun mv gd v1 vm hr gw gr => ?_⟩
    ac_rfl
    refine ⟨by omega, by omega, by omega, fun mv2 gd2 v12 vm2 hr2 gw2 gr2 => ?_⟩
    have r1 : RFine (g.map oneS) mv gd := ones_fine g1 (by omega) pw hg v1 (by omega) hr gw gr
    have r2 : RFine (g.map oneS) mv2 gd2 := ones_fine g1 (by omega) pw hg v12 (by omega) hr2 gw2 gr2
    have s10 : (g.map oneS).length ≤ 10 := by omega
    ac_rfl
    refine ⟨g.map oneS, mv, gd, mv2, gd2, rfl, r1, r2, s10, ?_⟩
    ac_rfl
    refine ⟨g.map oneS, mv2, gd2, mv, gd, rfl, r2, r1, s10, ?_⟩
    ac_rfl
    refine ⟨g.map oneS, mv, gd, mv, gd, rfl, r1, r1, s10, ?_⟩
    ac_rfl
    intro d d0 d1
    refine pickM (fun u => ∃ a b : Nat, u = .lst [.int (a : Int), .int (b : Int)] ∧ 1 ≤ a ∧ a ≤ 40 ∧ 1 ≤ b ∧ b ≤ 40) (n := 6) d0 d1 rfl (fun u hu => ?_) fun u hu => ?_
    · simp only [List.mem_cons, List.not_mem_nil, or_false] at hu
      rcases hu with rfl | rfl | rfl | rfl | rfl | rfl
      · exact ⟨5, 8, rfl, by decide, by decide, by decide, by decide⟩
      · exact ⟨6, 7, rfl, by decide, by decide, by decide, by decide⟩
      · exact ⟨40, 8, rfl, by decide, by decide, by decide, by decide⟩
      · exact ⟨3, 13, rfl, by decide, by decide, by decide, by decide⟩
      · exact ⟨3, 14, rfl, by decide, by decide, by decide, by decide⟩
      · exact ⟨40, 3, rfl, by decide, by decide, by decide, by decide⟩
    obtain ⟨a, b, rfl, a1, a40, b1, b40⟩ := hu
    ac_rfl
    refine ⟨g.map oneS, a, [0], rfl, by omega, ?_⟩
    ac_rfl
    refine ⟨g.map oneS, b, [(b : Int) - 1], rfl, by omega, ?_⟩
    ac_rfl
    refine ⟨g.map oneS, _, _, _, _, rfl, round_fine g1 (by omega) pw hg a1 a40 (Int.le_refl 0) (by omega), round_fine g1 (by omega) pw hg b1 b40 (by omega) (by omega), s10, ?_⟩
    ac_rfl
    refine ⟨g.map oneS, mv, gd, rfl, r1, ?_⟩
    ac_rfl
    refine ⟨g.map oneS, mv, gd, rfl, r1, ?_⟩
    ac_rfl
    refine ⟨cU, _, _, rfl, M.cl_Rule, M.n_signs, rfl, ?_⟩
    ac_rfl
    refine ⟨pl_strs r1.so (by omega), ?_⟩
    ac_rfl
    refine ⟨fun i ρ => ∃ a8 a9 a13 : Cell, ρ = [.no, .fz .pool, .fz (.lst ((g.map oneS).map U.str)), .fz (.int (m : Int)), .fz (modelU (g.map oneS) mv gd), .fz (modelU (g.map oneS) mv2 gd2), .fz (.lst [.int (a : Int), .int (b : Int)]), .fz (ruleV cU (g.map oneS) mv (oppG mv gd)), a8, a9, .no, .no, .no, a13, .no], ⟨_, _, _, rfl⟩, ?_, ?_⟩
    · rintro i u _ e ⟨a8, a9, a13, rfl⟩
      obtain ⟨hi, rfl⟩ := upto_at0 e
      refine ⟨⟨_, rfl⟩, _, rfl, rfl, 9, rfl, by decide, by decide +kernel, fun n' n0 n1 => ?_⟩
      obtain ⟨n, rfl⟩ : ∃ n : Nat, n' = (n : Int) := ⟨n'.toNat, by omega⟩
      refine ⟨(n : Int), rfl, by omega, by omega, fun i acc => ∃ cs : List Nat, acc = (cs.map oneS).map U.str ∧ cs.length = i ∧ ∀ c ∈ cs, c ∈ g, ⟨[], rfl, rfl, fun _ z => nomatch z⟩, ?_, ?_⟩
      · rintro i u acc e ⟨cs, rfl, lc, ic⟩
        refine lcI ⟨_, rfl, _, rfl, _, rfl, _, g.length, rfl, congrArg some (by rw [List.length_map, List.length_map]), rfl, (g.length : Int), rfl, by omega, by omega, fun d d0 d1 => ?_⟩
        obtain ⟨c, hc⟩ : ∃ c, g[d.toNat]? = some c := ⟨_, List.getElem?_eq_getElem (by omega)⟩
        refine ⟨.str (oneS c), atI_int d0 (by rw [List.getElem?_map, List.getElem?_map, hc]; rfl), cs ++ [c], ?_, by rw [List.length_append, lc]; rfl, fun x hx => ?_⟩
        · rw [List.map_append, List.map_append]
          rfl
        · rcases List.mem_append.mp hx with h | h
          · exact ic x h
          · rw [List.mem_singleton.mp h]
            exact List.mem_of_getElem? hc
      rintro acc ⟨cs, rfl, lc, ic⟩
      rw [upto_len, Int.toNat_natCast] at lc
      have j := join_ones cs
      refine ⟨"", cs.map oneS, rfl, .inl rfl, ?_, ?_, ?_⟩
      · rw [sum_ones]
        show cs.length + (cs.map oneS).length * 0 ≤ _
        omega
      · have : (Txt.join "" (cs.map oneS)).length = cs.length := by
          have := congrArg List.length j
          show (Txt.join "" (cs.map oneS)).cps.size = _
          simpa using this
        omega
      have it : ∀ c ∈ (Txt.join "" (cs.map oneS)).cps.toList, (⟨#[c]⟩ : Str) ∈ g.map oneS := fun c hc => List.mem_map.mpr ⟨c, by rw [j] at hc; exact ic c hc, rfl⟩
      generalize Txt.join "" (cs.map oneS) = t at it
      ac_rfl
      refine ⟨g.map oneS, mv, oppG mv gd, t, rfl, r1.ok, it, ?_⟩
      ac_rfl
      refine ⟨g.map oneS, mv, gd, rfl, r1, ?_⟩
      ac_rfl
      refine ⟨g.map oneS, mv, gd, t, rfl, r1.ok, it, ?_⟩
      rw [opp_lets r1.ok it]
      ac_rfl
      exact ⟨_, _, _, rfl⟩
    rintro _ ⟨a8, a9, a13, rfl⟩
    ac_rfl
    obtain ⟨z, hz, zg⟩ := some_foreign g3
    have zs := FC_sg z hz
    have nin : ∀ c : Nat, fIn true (chU c) (.lst ((g.map oneS).map U.str)) = some (.bl (!decide (c ∈ g))) := fun c => by
      refine (notin_strs ⟨#[c]⟩ (g.map oneS)).trans ?_
      have : ((⟨#[c]⟩ : Str) ∈ g.map oneS) ↔ c ∈ g := ⟨fun h => (by obtain ⟨x, hx, e⟩ := List.mem_map.mp h; rw [← SL.ch_inj e]; exact hx), fun h => List.mem_map.mpr ⟨c, h, rfl⟩⟩
      rw [decide_eq_decide.mpr this]
    refine ⟨fun i acc => acc = (((FC.take i).filter fun c => !decide (c ∈ g))).map chU, rfl, ?_, ?_⟩
    · rintro i u acc e rfl
      obtain ⟨c, ec, rfl⟩ := map_at e
      have ec : FC[i]? = some c := ec
      refine ⟨_, rfl, _, rfl, _, nin c, _, rfl, ?_⟩
      have et := congrArg (List.map chU) (filter_more (fun c => !decide (c ∈ g)) ec)
      rw [List.map_append] at et
      cases cf : (!decide (c ∈ g)) with
      | true =>
        simp only [cf] at et
        exact iteT ⟨_, rfl, et.symm⟩
      | false =>
        simp only [cf] at et
        exact iteF (et.trans (List.append_nil _)).symm
    rintro acc h
    rw [List.length_map, show (Str.ofString "zyxwvutsrqpo").cps.toList = FC from rfl, List.take_length] at h
    obtain ⟨f, fl, ef⟩ : ∃ f fl, (FC.filter fun c => !decide (c ∈ g)) = f :: fl := by
      cases e : FC.filter fun c => !decide (c ∈ g) with
      | nil => exact absurd (List.mem_filter (p := fun c => !decide (c ∈ g)) |>.mpr ⟨hz, by rw [decide_eq_false zg]; rfl⟩) (by rw [e]; exact List.not_mem_nil)
      | cons f fl => exact ⟨f, fl, rfl⟩
    rw [ef] at h
    subst h
    have hf := List.mem_filter.mp (show f ∈ FC.filter fun c => !decide (c ∈ g) by rw [ef]; exact List.mem_cons_self)
    have fg : f ∉ g := fun h => by rw [decide_eq_true h] at hf; exact absurd hf.2 (by decide)
    have fs := FC_sg f hf.1
    refine ⟨chU f, atI_int (xs := (f :: fl).map chU) (Int.le_refl 0) rfl, ?_⟩
    ac_rfl
    refine ⟨fun ρ => ∃ (ss3 : List Str) (mv3 : List (List Int)) (gd3 : List Int) (c8 c9 c10 c13 c14 : Cell), ρ = [.no, .fz .pool, .fz (.lst ((g.map oneS).map U.str)), .fz (.int (m : Int)), .fz (modelU (g.map oneS) mv gd), .fz (modelU (g.map oneS) mv2 gd2), .fz (.lst [.int (a : Int), .int (b : Int)]), .fz (ruleV cU (g.map oneS) mv (oppG mv gd)), c8, c9, c10, .fz (modelU ss3 mv3 gd3), .no, c13, c14] ∧ RFine ss3 mv3 gd3 ∧ g.map oneS ≠ ss3, ?_, ?_⟩
    · refine ⟨_, rfl, rfl, 2, rfl, by decide, by decide, fun d d0 d1 => ⟨_, fEq_int _ _, _, rfl, ?_⟩⟩
      by_cases c : d = 0
      · rw [decide_eq_true c]
        refine iteT ?_
        ac_rfl
        have ec : (g.map oneS).map U.str ++ [chU f] = ((g ++ [f]).map oneS).map U.str := by
          rw [List.map_append, List.map_append]
          rfl
        refine ⟨_, catL_ok (ys := [chU f]) (by rw [List.length_map]; show _ + 1 ≤ _; omega), ?_⟩
        rw [ec]
        refine ⟨(g ++ [f]).map oneS, rfl, by rw [List.length_map, List.length_append]; show _ + 1 < _; omega, fun ms pm so => ?_⟩
        obtain ⟨h, rfl, lh, pwh, hh⟩ := drawn_signs (f := g ++ [f]) pm (List.nodup_append.mpr ⟨pw.imp fun {a b} lt e => by omega, by simp, fun a ha b hb e => by rw [List.mem_singleton.mp hb] at e; rw [e] at ha; exact fg ha⟩) so (fun c hc => by
          rcases List.mem_append.mp hc with h | h
          · exact hg c h
          · rw [List.mem_singleton.mp h]
            exact fs)
        have lh : h.length = g.length + 1 := by rw [lh, List.length_append]; rfl
        ac_rfl
        have l1 : ((g.map oneS).map U.str).length = g.length := by rw [List.length_map, List.length_map]
        refine ⟨by rw [l1]; omega, by rw [l1]; omega, fun i acc => acc = List.replicate i (U.int 0), rfl, ?_, ?_⟩
        · rintro i u acc e rfl
          exact lcI (List.replicate_succ' ..).symm
        rintro acc hacc
        rw [upto_len, show (((((g.map oneS).map U.str).length : Nat) : Int) + 1).toNat = h.length by rw [l1, lh]; omega, show List.replicate h.length (U.int 0) = (List.replicate h.length (0 : Int)).map U.int from (List.map_replicate ..).symm] at hacc
        subst hacc
        refine ⟨by show 1 ≤ 100000; decide, by show 1 ≤ 100000; decide, by show 3 ≤ 100000; decide, h.map oneS, [List.replicate h.length 0], [0], _, _, _, _, _, rfl, ?_, fun e => ?_⟩
        · refine ones_fine (by omega) (by omega) pwh hh (Nat.le_refl 1) (show 1 ≤ 40 by decide) (fun r hr => ?_) (List.pairwise_singleton ..) fun x hx => ?_
          · rw [List.mem_singleton.mp hr]
            refine ⟨by rw [List.length_replicate, List.length_map], fun x hx => ?_⟩
            rw [List.eq_of_mem_replicate hx]
            exact ⟨Int.le_refl 0, show (0 : Int) < 1 by decide⟩
          · rw [List.mem_singleton.mp hx]
            exact ⟨Int.le_refl 0, show (0 : Int) < 1 by decide⟩
        · have := congrArg List.length e
          rw [List.length_map, List.length_map] at this
          omega
      · rw [decide_eq_false c]
        refine iteF ⟨[oneS f], [[0]], [0], _, _, _, _, _, rfl, ?_, fun e => ?_⟩
        · refine ones_fine (g := [f]) (Nat.le_refl 1) (show 1 ≤ 10 by decide) (List.pairwise_singleton ..) (fun c hc => by rw [List.mem_singleton.mp hc]; exact fs) (by decide) (by decide) (fun r hr => ?_) (List.pairwise_singleton ..) fun x hx => ?_
          · rw [List.mem_singleton.mp hr]
            exact ⟨rfl, fun x hx => by rw [List.mem_singleton.mp hx]; decide⟩
          · rw [List.mem_singleton.mp hx]
            decide
        · have : oneS f ∈ g.map oneS := by rw [e]; exact List.mem_singleton.mpr rfl
          obtain ⟨x, hx, ex⟩ := List.mem_map.mp this
          exact fg (by rw [← SL.ch_inj ex]; exact hx)
    rintro _ ⟨ss3, mv3, gd3, c8, c9, c10, c13, c14, rfl, r3, ne⟩
    ac_rfl
    refine ⟨fun i ρ => ∃ c12 : Cell, ρ = [.no, .fz .pool, .fz (.lst ((g.map oneS).map U.str)), .fz (.int (m : Int)), .fz (modelU (g.map oneS) mv gd), .fz (modelU (g.map oneS) mv2 gd2), .fz (.lst [.int (a : Int), .int (b : Int)]), .fz (ruleV cU (g.map oneS) mv (oppG mv gd)), c8, c9, c10, .fz (modelU ss3 mv3 gd3), c12, c13, c14], ⟨_, rfl⟩, ?_, ?_⟩
    · rintro i u _ e ⟨c12, rfl⟩
      obtain ⟨hi, rfl⟩ := upto_at0 e
      have hi : i < 2 := hi
      ac_rfl
      refine ⟨g.map oneS, mv, gd, rfl, r1, ?_⟩
      ac_rfl
      refine ⟨ss3, mv3, gd3, rfl, r3, ?_⟩
      ac_rfl
      refine ⟨(i : Int), g.map oneS, mv, gd, ss3, mv3, gd3, rfl, by omega, r1, r3, fun _ => ?_, fun e => absurd e ne⟩
      ac_rfl
      refine ⟨_, fNe_of (by decide +kernel), ?_⟩
      ac_rfl
      exact ⟨_, rfl⟩
    rintro _ ⟨c12, rfl⟩
    exact rfl
end

end K12
namespace K12
open PySem PySem.Spec PyProof.Rows L2 SL SV
local macro_rules | `(tactic| ac_rfl) => `(tactic| (repeat first | refine ⟨_, rfl, ?_⟩ | refine ⟨rfl, ?_⟩ | refine iteT ?_ | refine iteF ?_ | refine ⟨trivial, ?_⟩ | refine ⟨Nat.le_of_ble_eq_true rfl, ?_⟩ | refine ⟨_, _, rfl, rfl, ?_⟩ | refine ⟨_, _, rfl, ?_⟩ | refine ⟨_, .inl rfl, ?_⟩ | refine ⟨_, .inr rfl, ?_⟩ | refine .inl ⟨_, rfl, ?_⟩ | refine .inr ⟨_, rfl, ?_⟩ | refine ⟨_, _, .inl rfl, ?_⟩ | refine ⟨_, _, .inr rfl, ?_⟩ | refine ⟨by decide, ?_⟩))

theorem exm_ref {K : PySem.W.Frag} {C D : Addr} {b : Bool} (h1 : PySem.W.subIn K (.ref D) (.type "BaseException") = some true) (h2 : PySem.W.isClsIn K D = true) (h3 : PySem.W.typeIn K (.ref D) = some (.type "type")) (h4 : PySem.W.subIn K (.ref C) (.ref D) = some b) : PySem.W.exmOne K (.ref C) (.ref D) = some b := by
  have h2a : (PySem.W.clsIn K D).isSome = true := h2
  unfold PySem.W.exmOne
  rw [h1]
  show (if (some true == some true) = true then (if ((PySem.W.clsIn K D).isSome && PySem.W.typeIn K (.ref D) == some (.type "type")) = true then PySem.W.subIn K (.ref C) (.ref D) else none) else none) = some b
  rw [h2a, h3]
  exact h4
theorem along_of {K : PySem.W.Frag} {C N : Addr} {nm q : Str} {bs bm : List Value} {sn : List Str} {sub : List Value} {ab : Bool} {col : Option Bool} {dd : Option Addr} {k0 k1 k2 k3 k5 : Option Value} {name : Str} {nw : String} {r : Option (Option Value)} (hC : K.lookup C = some (excClassObj nm q C N bs bm true sn sub ab col dd k0 k1 k2 k3 k5 nw)) (h : PySem.W.ks_superIn K C C name = r) : PySem.W.alongIn K name bm = r := by
  unfold PySem.W.ks_superIn PySem.W.clsIn at h
  rw [hC] at h
  rw [← h]
  simp [List.dropWhile_cons]
theorem all_mk {w : World} {K : PySem.W.Frag} {h : Heap} {mg : Str → Option Value} {fa cL : Addr} {q : Program} (TT : ∃ lo me mb, PyProof.Rows.Top q lo me mg mb h) (X : K.In h) (G : h.Ns mainGlobals mg) (hfa : mg "law" = some (.ref fa))
    {cR iR cc_BadRule cd_BadRule : Addr} {nm_BadRule q_BadRule : Str} {N_BadRule : Addr} {bs_BadRule : List Value} {sn_BadRule : List Str} {sb_BadRule : List Value} {ab_BadRule : Bool} {co_BadRule : Option Bool} {dd_BadRule od_BadRule an_BadRule cl1_BadRule cl2_BadRule : Option Addr} {m0_BadRule m1_BadRule m2_BadRule m3_BadRule m5_BadRule : Option Value} {oc_BadRule kV_BadRule dc_BadRule pm_BadRule ct_BadRule c1_BadRule c2_BadRule : Value} {sl_BadRule s1_BadRule s2_BadRule : Array (Option Value)} {vs_BadRule : Array Value} {fl_BadRule : Str} {tf_BadRule : Tok}
    {cT iT cc_TooMany cd_TooMany : Addr} {nm_TooMany q_TooMany : Str} {N_TooMany : Addr} {bs_TooMany : List Value} {sn_TooMany : List Str} {sb_TooMany : List Value} {ab_TooMany : Bool} {co_TooMany : Option Bool} {dd_TooMany od_TooMany an_TooMany cl1_TooMany cl2_TooMany : Option Addr} {m0_TooMany m1_TooMany m2_TooMany m3_TooMany m5_TooMany : Option Value} {oc_TooMany kV_TooMany dc_TooMany pm_TooMany ct_TooMany c1_TooMany c2_TooMany : Value} {sl_TooMany s1_TooMany s2_TooMany : Array (Option Value)} {vs_TooMany : Array Value} {fl_TooMany : Str} {tf_TooMany : Tok}
    {f_is_whole : Addr} {od_is_whole an_is_whole : Option Addr} {sl_is_whole : Array (Option Value)} {oc_is_whole kV_is_whole dc_is_whole pm_is_whole cd_is_whole ct_is_whole : Value}
    {f_is_within : Addr} {od_is_within an_is_within : Option Addr} {sl_is_within : Array (Option Value)} {oc_is_within kV_is_within dc_is_within pm_is_within cd_is_within ct_is_within : Value}
    {f_items_of : Addr} {od_items_of an_items_of : Option Addr} {sl_items_of : Array (Option Value)} {oc_items_of kV_items_of dc_items_of pm_items_of cd_items_of ct_items_of : Value}
    {f_is_rising : Addr} {od_is_rising an_is_rising : Option Addr} {sl_is_rising : Array (Option Value)} {oc_is_rising kV_is_rising dc_is_rising pm_is_rising cd_is_rising ct_is_rising : Value}
    {f_is_sign : Addr} {od_is_sign an_is_sign : Option Addr} {sl_is_sign : Array (Option Value)} {oc_is_sign kV_is_sign dc_is_sign pm_is_sign cd_is_sign ct_is_sign : Value}
    {f_signs_of : Addr} {od_signs_of an_signs_of : Option Addr} {sl_signs_of : Array (Option Value)} {oc_signs_of kV_signs_of dc_signs_of pm_signs_of cd_signs_of ct_signs_of : Value}
    {f_are_states : Addr} {od_are_states an_are_states : Option Addr} {sl_are_states : Array (Option Value)} {oc_are_states kV_are_states dc_are_states pm_are_states cd_are_states ct_are_states : Value}
    {f_moves_of : Addr} {od_moves_of an_moves_of : Option Addr} {sl_moves_of : Array (Option Value)} {oc_moves_of kV_moves_of dc_moves_of pm_moves_of cd_moves_of ct_moves_of : Value}
    {f_good_of : Addr} {od_good_of an_good_of : Option Addr} {sl_good_of : Array (Option Value)} {oc_good_of kV_good_of dc_good_of pm_good_of cd_good_of ct_good_of : Value}
    {f_check_text : Addr} {od_check_text an_check_text : Option Addr} {sl_check_text : Array (Option Value)} {oc_check_text kV_check_text dc_check_text pm_check_text cd_check_text ct_check_text : Value}
    {f_check_alike : Addr} {od_check_alike an_check_alike : Option Addr} {sl_check_alike : Array (Option Value)} {oc_check_alike kV_check_alike dc_check_alike pm_check_alike cd_check_alike ct_check_alike : Value}
    {f_led : Addr} {od_led an_led : Option Addr} {sl_led : Array (Option Value)} {oc_led kV_led dc_led pm_led cd_led ct_led : Value}
    {f_both : Addr} {od_both an_both : Option Addr} {sl_both : Array (Option Value)} {oc_both kV_both dc_both pm_both ct_both : Value}
    {cc_both PP_both : Addr} {xc_both : Value} {xl_both : Option Addr} {xs_both : Array (Option Value)} {vt_both : Array Value} {dd_both : DefRec}
    {f_either : Addr} {od_either an_either : Option Addr} {sl_either : Array (Option Value)} {oc_either kV_either dc_either pm_either ct_either : Value}
    {cc_either PP_either : Addr} {xc_either : Value} {xl_either : Option Addr} {xs_either : Array (Option Value)} {vt_either : Array Value} {dd_either : DefRec}
    {f_opposite : Addr} {od_opposite an_opposite : Option Addr} {sl_opposite : Array (Option Value)} {oc_opposite kV_opposite dc_opposite pm_opposite cd_opposite ct_opposite : Value}
    {f_law_pool : Addr} {od_law_pool an_law_pool : Option Addr} {sl_law_pool : Array (Option Value)} {oc_law_pool kV_law_pool dc_law_pool pm_law_pool cd_law_pool ct_law_pool : Value}
    {f_law_draw : Addr} {od_law_draw an_law_draw : Option Addr} {sl_law_draw : Array (Option Value)} {oc_law_draw kV_law_draw dc_law_draw pm_law_draw cd_law_draw ct_law_draw : Value}
    {f_law_same : Addr} {od_law_same an_law_same : Option Addr} {sl_law_same : Array (Option Value)} {oc_law_same kV_law_same dc_law_same pm_law_same cd_law_same ct_law_same : Value}
    {f_law_signs : Addr} {od_law_signs an_law_signs : Option Addr} {sl_law_signs : Array (Option Value)} {oc_law_signs kV_law_signs dc_law_signs pm_law_signs cd_law_signs ct_law_signs : Value}
    {f_law_rule_model : Addr} {od_law_rule_model an_law_rule_model : Option Addr} {sl_law_rule_model : Array (Option Value)} {oc_law_rule_model kV_law_rule_model dc_law_rule_model pm_law_rule_model cd_law_rule_model ct_law_rule_model : Value}
    {f_law_rule : Addr} {od_law_rule an_law_rule : Option Addr} {sl_law_rule : Array (Option Value)} {oc_law_rule kV_law_rule dc_law_rule pm_law_rule cd_law_rule ct_law_rule : Value}
    {f_law_fields : Addr} {od_law_fields an_law_fields : Option Addr} {sl_law_fields : Array (Option Value)} {oc_law_fields kV_law_fields dc_law_fields pm_law_fields cd_law_fields ct_law_fields : Value}
    {f_law_round : Addr} {od_law_round an_law_round : Option Addr} {sl_law_round : Array (Option Value)} {oc_law_round kV_law_round dc_law_round pm_law_round cd_law_round ct_law_round : Value}
    {f_law_pairs : Addr} {od_law_pairs an_law_pairs : Option Addr} {sl_law_pairs : Array (Option Value)} {oc_law_pairs kV_law_pairs dc_law_pairs pm_law_pairs cd_law_pairs ct_law_pairs : Value}
    {f_law_due : Addr} {od_law_due an_law_due : Option Addr} {sl_law_due : Array (Option Value)} {oc_law_due kV_law_due dc_law_due pm_law_due cd_law_due ct_law_due : Value}
    {f_law_asked : Addr} {od_law_asked an_law_asked : Option Addr} {sl_law_asked : Array (Option Value)} {oc_law_asked kV_law_asked dc_law_asked pm_law_asked cd_law_asked ct_law_asked : Value}
    {f_law_right : Addr} {od_law_right an_law_right : Option Addr} {sl_law_right : Array (Option Value)} {oc_law_right kV_law_right dc_law_right pm_law_right cd_law_right ct_law_right : Value}
    {f_met_from : Addr} {od_met_from an_met_from : Option Addr} {sl_met_from : Array (Option Value)} {oc_met_from kV_met_from dc_met_from pm_met_from cd_met_from ct_met_from : Value}
    {f_joined : Addr} {od_joined an_joined : Option Addr} {sl_joined : Array (Option Value)} {oc_joined kV_joined dc_joined pm_joined ct_joined : Value}
    {cc_joined PP_joined : Addr} {xc_joined : Value} {xl_joined : Option Addr} {xs_joined : Array (Option Value)} {vt_joined : Array Value} {dd_joined : DefRec}
    {f_law : Addr} {od_law an_law : Option Addr} {sl_law : Array (Option Value)} {oc_law kV_law dc_law pm_law cd_law ct_law : Value}
    {cU : Addr}
    {fU : Addr} {od_Rule0 an_Rule0 : Option Addr} {sl_Rule0 : Array (Option Value)} {oc_Rule0 kV_Rule0 dc_Rule0 pm_Rule0 cd_Rule0 ct_Rule0 : Value}
    {lU : Addr} {od_Rule1 an_Rule1 : Option Addr} {sl_Rule1 : Array (Option Value)} {oc_Rule1 kV_Rule1 dc_Rule1 pm_Rule1 cd_Rule1 ct_Rule1 : Value}
    {tU : Addr} {od_Rule2 an_Rule2 : Option Addr} {sl_Rule2 : Array (Option Value)} {oc_Rule2 kV_Rule2 dc_Rule2 pm_Rule2 cd_Rule2 ct_Rule2 : Value}
    {gU : Addr} {od_Rule3 an_Rule3 : Option Addr} {sl_Rule3 : Array (Option Value)} {oc_Rule3 kV_Rule3 dc_Rule3 pm_Rule3 cd_Rule3 ct_Rule3 : Value}
    {tSG : Tok}
    {cO : Addr}
    (a_BadRule : PySem.W.nsIn K mainGlobals "BadRule" = some (some (.ref cR)))
    (x_BadRule : K.lookup cR = some (excClassObj nm_BadRule q_BadRule cR N_BadRule bs_BadRule [.ref cL, .type "ValueError", .type "Exception", .type "BaseException", .type "object"] true sn_BadRule sb_BadRule ab_BadRule co_BadRule dd_BadRule m0_BadRule m1_BadRule m2_BadRule m3_BadRule m5_BadRule "ValueError.__new__"))
    (su_BadRule : PySem.W.ks_superIn K cR cR "__init__" = some (some (.builtin "ValueError.__init__")))
    (sa_BadRule : PySem.W.findIn K (.ref cR) "__setattr__" = some (some (.builtin "object.__setattr__")))
    (ga_BadRule : PySem.W.findIn K (.ref cR) "__getattribute__" = some (some (.builtin "BaseException.__getattribute__")))
    (gg_BadRule : PySem.W.findIn K (.ref cR) "__getattr__" = some none)
    (nb_BadRule : PySem.W.findIn K (.ref cR) "part" = some none)
    (in_BadRule : PySem.W.findIn K (.ref cR) "__init__" = some (some (.ref iR)))
    (ti_BadRule : PySem.W.typeIn K (.ref iR) = some (.type "function"))
    (l_BadRule : K.lookup iR = some ⟨oc_BadRule, od_BadRule, .func (PySem.W.ksFn "__init__" "BadRule.__init__" (defArgs (inClass (topS 4) 0)) (defBody (inClass (topS 4) 0)) (defScope (inClass (topS 4) 0)) .none kV_BadRule dc_BadRule pm_BadRule an_BadRule (.ref cd_BadRule) ct_BadRule cc_BadRule), sl_BadRule⟩)
    (c_BadRule : PySem.W.codeIn K (.ref cd_BadRule) "BadRule.__init__" = true)
    (cell_BadRule : K.lookup cc_BadRule = some ⟨c1_BadRule, cl1_BadRule, .cell (some (.ref cR)), s1_BadRule⟩)
    (code_BadRule : K.lookup cd_BadRule = some ⟨c2_BadRule, cl2_BadRule, .fields vs_BadRule, s2_BadRule⟩)
    (v2_BadRule : vs_BadRule[2]? = some (.str fl_BadRule tf_BadRule))
    (fi_BadRule : ((PySem.Challenge.rw_surelabels_k12_rules_joined.prog.main.file : Str) == fl_BadRule) = true)
    (kC_BadRule : PySem.W.keepIn K (.ref cR) = true)
    (eC_BadRule : PySem.W.subIn K (.ref cR) (.type "BaseException") = some true)
    (vC_BadRule : PySem.W.subIn K (.ref cR) (.type "ValueError") = some true)
    (tC_BadRule : PySem.W.typeIn K (.ref cR) = some (.type "type"))
    (hC_BadRule : PySem.W.hasDictIn K cR = true)
    (iC_BadRule : PySem.W.isClsIn K cR = true)
    (mC_BadRule : PySem.W.mroIn K cR (.ref cR) = some true)
    (a_TooMany : PySem.W.nsIn K mainGlobals "TooMany" = some (some (.ref cT)))
    (x_TooMany : K.lookup cT = some (excClassObj nm_TooMany q_TooMany cT N_TooMany bs_TooMany [.ref cL, .type "ValueError", .type "Exception", .type "BaseException", .type "object"] true sn_TooMany sb_TooMany ab_TooMany co_TooMany dd_TooMany m0_TooMany m1_TooMany m2_TooMany m3_TooMany m5_TooMany "ValueError.__new__"))
    (su_TooMany : PySem.W.ks_superIn K cT cT "__init__" = some (some (.builtin "ValueError.__init__")))
    (sa_TooMany : PySem.W.findIn K (.ref cT) "__setattr__" = some (some (.builtin "object.__setattr__")))
    (ga_TooMany : PySem.W.findIn K (.ref cT) "__getattribute__" = some (some (.builtin "BaseException.__getattribute__")))
    (gg_TooMany : PySem.W.findIn K (.ref cT) "__getattr__" = some none)
    (nb_TooMany : PySem.W.findIn K (.ref cT) "most" = some none)
    (in_TooMany : PySem.W.findIn K (.ref cT) "__init__" = some (some (.ref iT)))
    (ti_TooMany : PySem.W.typeIn K (.ref iT) = some (.type "function"))
    (l_TooMany : K.lookup iT = some ⟨oc_TooMany, od_TooMany, .func (PySem.W.ksFn "__init__" "TooMany.__init__" (defArgs (inClass (topS 6) 0)) (defBody (inClass (topS 6) 0)) (defScope (inClass (topS 6) 0)) .none kV_TooMany dc_TooMany pm_TooMany an_TooMany (.ref cd_TooMany) ct_TooMany cc_TooMany), sl_TooMany⟩)
    (c_TooMany : PySem.W.codeIn K (.ref cd_TooMany) "TooMany.__init__" = true)
    (cell_TooMany : K.lookup cc_TooMany = some ⟨c1_TooMany, cl1_TooMany, .cell (some (.ref cT)), s1_TooMany⟩)
    (code_TooMany : K.lookup cd_TooMany = some ⟨c2_TooMany, cl2_TooMany, .fields vs_TooMany, s2_TooMany⟩)
    (v2_TooMany : vs_TooMany[2]? = some (.str fl_TooMany tf_TooMany))
    (fi_TooMany : ((PySem.Challenge.rw_surelabels_k12_rules_joined.prog.main.file : Str) == fl_TooMany) = true)
    (kC_TooMany : PySem.W.keepIn K (.ref cT) = true)
    (eC_TooMany : PySem.W.subIn K (.ref cT) (.type "BaseException") = some true)
    (vC_TooMany : PySem.W.subIn K (.ref cT) (.type "ValueError") = some true)
    (tC_TooMany : PySem.W.typeIn K (.ref cT) = some (.type "type"))
    (hC_TooMany : PySem.W.hasDictIn K cT = true)
    (iC_TooMany : PySem.W.isClsIn K cT = true)
    (mC_TooMany : PySem.W.mroIn K cT (.ref cT) = some true)
    (s_BadRule_BadRule : PySem.W.subIn K (.ref cR) (.ref cR) = some true)
    (s_BadRule_TooMany : PySem.W.subIn K (.ref cR) (.ref cT) = some false)
    (s_TooMany_BadRule : PySem.W.subIn K (.ref cT) (.ref cR) = some false)
    (s_TooMany_TooMany : PySem.W.subIn K (.ref cT) (.ref cT) = some true)
    (a_LE : PySem.W.nsIn K mainGlobals "LabelError" = some (some (.ref cL)))
    (opq : PySem.W.nsIn K cStatics "thirdparty.any" = some none)
    (z_isinstance : PySem.W.nsIn K mainGlobals "isinstance" = some none)
    (z_int : PySem.W.nsIn K mainGlobals "int" = some none)
    (z_bool : PySem.W.nsIn K mainGlobals "bool" = some none)
    (z_str : PySem.W.nsIn K mainGlobals "str" = some none)
    (z_list : PySem.W.nsIn K mainGlobals "list" = some none)
    (z_tuple : PySem.W.nsIn K mainGlobals "tuple" = some none)
    (z_len : PySem.W.nsIn K mainGlobals "len" = some none)
    (z_all : PySem.W.nsIn K mainGlobals "all" = some none)
    (z_range : PySem.W.nsIn K mainGlobals "range" = some none)
    (z_enumerate : PySem.W.nsIn K mainGlobals "enumerate" = some none)
    (z_zip : PySem.W.nsIn K mainGlobals "zip" = some none)
    (z_sorted : PySem.W.nsIn K mainGlobals "sorted" = some none)
    (z_super : PySem.W.nsIn K mainGlobals "super" = some none)
    (a_is_whole : PySem.W.nsIn K mainGlobals "is_whole" = some (some (.ref f_is_whole)))
    (l_is_whole : K.lookup f_is_whole = some ⟨oc_is_whole, od_is_whole, .func (PySem.W.fnOf "is_whole" "is_whole" (defArgs s_is_whole) (defBody s_is_whole) (defScope s_is_whole) .none kV_is_whole dc_is_whole pm_is_whole an_is_whole cd_is_whole ct_is_whole), sl_is_whole⟩)
    (c_is_whole : PySem.W.codeIn K cd_is_whole "is_whole" = true)
    (k_is_whole : PySem.W.keepIn K (.ref f_is_whole) = true)
    (a_is_within : PySem.W.nsIn K mainGlobals "is_within" = some (some (.ref f_is_within)))
    (l_is_within : K.lookup f_is_within = some ⟨oc_is_within, od_is_within, .func (PySem.W.fnOf "is_within" "is_within" (defArgs s_is_within) (defBody s_is_within) (defScope s_is_within) .none kV_is_within dc_is_within pm_is_within an_is_within cd_is_within ct_is_within), sl_is_within⟩)
    (c_is_within : PySem.W.codeIn K cd_is_within "is_within" = true)
    (k_is_within : PySem.W.keepIn K (.ref f_is_within) = true)
    (a_items_of : PySem.W.nsIn K mainGlobals "items_of" = some (some (.ref f_items_of)))
    (l_items_of : K.lookup f_items_of = some ⟨oc_items_of, od_items_of, .func (PySem.W.fnOf "items_of" "items_of" (defArgs s_items_of) (defBody s_items_of) (defScope s_items_of) .none kV_items_of dc_items_of pm_items_of an_items_of cd_items_of ct_items_of), sl_items_of⟩)
    (c_items_of : PySem.W.codeIn K cd_items_of "items_of" = true)
    (k_items_of : PySem.W.keepIn K (.ref f_items_of) = true)
    (a_is_rising : PySem.W.nsIn K mainGlobals "is_rising" = some (some (.ref f_is_rising)))
    (l_is_rising : K.lookup f_is_rising = some ⟨oc_is_rising, od_is_rising, .func (PySem.W.fnOf "is_rising" "is_rising" (defArgs s_is_rising) (defBody s_is_rising) (defScope s_is_rising) .none kV_is_rising dc_is_rising pm_is_rising an_is_rising cd_is_rising ct_is_rising), sl_is_rising⟩)
    (c_is_rising : PySem.W.codeIn K cd_is_rising "is_rising" = true)
    (k_is_rising : PySem.W.keepIn K (.ref f_is_rising) = true)
    (a_is_sign : PySem.W.nsIn K mainGlobals "is_sign" = some (some (.ref f_is_sign)))
    (l_is_sign : K.lookup f_is_sign = some ⟨oc_is_sign, od_is_sign, .func (PySem.W.fnOf "is_sign" "is_sign" (defArgs s_is_sign) (defBody s_is_sign) (defScope s_is_sign) .none kV_is_sign dc_is_sign pm_is_sign an_is_sign cd_is_sign ct_is_sign), sl_is_sign⟩)
    (c_is_sign : PySem.W.codeIn K cd_is_sign "is_sign" = true)
    (k_is_sign : PySem.W.keepIn K (.ref f_is_sign) = true)
    (a_signs_of : PySem.W.nsIn K mainGlobals "signs_of" = some (some (.ref f_signs_of)))
    (l_signs_of : K.lookup f_signs_of = some ⟨oc_signs_of, od_signs_of, .func (PySem.W.fnOf "signs_of" "signs_of" (defArgs s_signs_of) (defBody s_signs_of) (defScope s_signs_of) .none kV_signs_of dc_signs_of pm_signs_of an_signs_of cd_signs_of ct_signs_of), sl_signs_of⟩)
    (c_signs_of : PySem.W.codeIn K cd_signs_of "signs_of" = true)
    (k_signs_of : PySem.W.keepIn K (.ref f_signs_of) = true)
    (a_are_states : PySem.W.nsIn K mainGlobals "_are_states" = some (some (.ref f_are_states)))
    (l_are_states : K.lookup f_are_states = some ⟨oc_are_states, od_are_states, .func (PySem.W.fnOf "_are_states" "_are_states" (defArgs s_are_states) (defBody s_are_states) (defScope s_are_states) .none kV_are_states dc_are_states pm_are_states an_are_states cd_are_states ct_are_states), sl_are_states⟩)
    (c_are_states : PySem.W.codeIn K cd_are_states "_are_states" = true)
    (k_are_states : PySem.W.keepIn K (.ref f_are_states) = true)
    (a_moves_of : PySem.W.nsIn K mainGlobals "_moves_of" = some (some (.ref f_moves_of)))
    (l_moves_of : K.lookup f_moves_of = some ⟨oc_moves_of, od_moves_of, .func (PySem.W.fnOf "_moves_of" "_moves_of" (defArgs s_moves_of) (defBody s_moves_of) (defScope s_moves_of) .none kV_moves_of dc_moves_of pm_moves_of an_moves_of cd_moves_of ct_moves_of), sl_moves_of⟩)
    (c_moves_of : PySem.W.codeIn K cd_moves_of "_moves_of" = true)
    (k_moves_of : PySem.W.keepIn K (.ref f_moves_of) = true)
    (a_good_of : PySem.W.nsIn K mainGlobals "_good_of" = some (some (.ref f_good_of)))
    (l_good_of : K.lookup f_good_of = some ⟨oc_good_of, od_good_of, .func (PySem.W.fnOf "_good_of" "_good_of" (defArgs s_good_of) (defBody s_good_of) (defScope s_good_of) .none kV_good_of dc_good_of pm_good_of an_good_of cd_good_of ct_good_of), sl_good_of⟩)
    (c_good_of : PySem.W.codeIn K cd_good_of "_good_of" = true)
    (k_good_of : PySem.W.keepIn K (.ref f_good_of) = true)
    (a_check_text : PySem.W.nsIn K mainGlobals "check_text" = some (some (.ref f_check_text)))
    (l_check_text : K.lookup f_check_text = some ⟨oc_check_text, od_check_text, .func (PySem.W.fnOf "check_text" "check_text" (defArgs s_check_text) (defBody s_check_text) (defScope s_check_text) .none kV_check_text dc_check_text pm_check_text an_check_text cd_check_text ct_check_text), sl_check_text⟩)
    (c_check_text : PySem.W.codeIn K cd_check_text "check_text" = true)
    (k_check_text : PySem.W.keepIn K (.ref f_check_text) = true)
    (a_check_alike : PySem.W.nsIn K mainGlobals "_check_alike" = some (some (.ref f_check_alike)))
    (l_check_alike : K.lookup f_check_alike = some ⟨oc_check_alike, od_check_alike, .func (PySem.W.fnOf "_check_alike" "_check_alike" (defArgs s_check_alike) (defBody s_check_alike) (defScope s_check_alike) .none kV_check_alike dc_check_alike pm_check_alike an_check_alike cd_check_alike ct_check_alike), sl_check_alike⟩)
    (c_check_alike : PySem.W.codeIn K cd_check_alike "_check_alike" = true)
    (k_check_alike : PySem.W.keepIn K (.ref f_check_alike) = true)
    (a_led : PySem.W.nsIn K mainGlobals "_led" = some (some (.ref f_led)))
    (l_led : K.lookup f_led = some ⟨oc_led, od_led, .func (PySem.W.fnOf "_led" "_led" (defArgs s_led) (defBody s_led) (defScope s_led) .none kV_led dc_led pm_led an_led cd_led ct_led), sl_led⟩)
    (c_led : PySem.W.codeIn K cd_led "_led" = true)
    (k_led : PySem.W.keepIn K (.ref f_led) = true)
    (a_both : PySem.W.nsIn K mainGlobals "both" = some (some (.ref f_both)))
    (l_both : K.lookup f_both = some ⟨oc_both, od_both, .func (PySem.W.fnOf "both" "both" (defArgs s_both) (defBody s_both) (defScope s_both) .none kV_both dc_both pm_both an_both (.ref cc_both) ct_both), sl_both⟩)
    (lc_both : K.lookup cc_both = some ⟨xc_both, xl_both, .fields vt_both, xs_both⟩)
    (v11_both : vt_both[11]? = some (.ref PP_both))
    (nP_both : K.lookup PP_both = none)
    (rc_both : (PyProof.Rows.recsOf q).find? (fun e : DefRec => e.name == ("both" : Str)) = some dd_both)
    (c_both : PySem.W.codeIn K (.ref cc_both) "both" = true)
    (k_both : PySem.W.keepIn K (.ref f_both) = true)
    (a_either : PySem.W.nsIn K mainGlobals "either" = some (some (.ref f_either)))
    (l_either : K.lookup f_either = some ⟨oc_either, od_either, .func (PySem.W.fnOf "either" "either" (defArgs s_either) (defBody s_either) (defScope s_either) .none kV_either dc_either pm_either an_either (.ref cc_either) ct_either), sl_either⟩)
    (lc_either : K.lookup cc_either = some ⟨xc_either, xl_either, .fields vt_either, xs_either⟩)
    (v11_either : vt_either[11]? = some (.ref PP_either))
    (nP_either : K.lookup PP_either = none)
    (rc_either : (PyProof.Rows.recsOf q).find? (fun e : DefRec => e.name == ("either" : Str)) = some dd_either)
    (c_either : PySem.W.codeIn K (.ref cc_either) "either" = true)
    (k_either : PySem.W.keepIn K (.ref f_either) = true)
    (a_opposite : PySem.W.nsIn K mainGlobals "opposite" = some (some (.ref f_opposite)))
    (l_opposite : K.lookup f_opposite = some ⟨oc_opposite, od_opposite, .func (PySem.W.fnOf "opposite" "opposite" (defArgs s_opposite) (defBody s_opposite) (defScope s_opposite) .none kV_opposite dc_opposite pm_opposite an_opposite cd_opposite ct_opposite), sl_opposite⟩)
    (c_opposite : PySem.W.codeIn K cd_opposite "opposite" = true)
    (k_opposite : PySem.W.keepIn K (.ref f_opposite) = true)
    (a_law_pool : PySem.W.nsIn K mainGlobals "_law_pool" = some (some (.ref f_law_pool)))
    (l_law_pool : K.lookup f_law_pool = some ⟨oc_law_pool, od_law_pool, .func (PySem.W.fnOf "_law_pool" "_law_pool" (defArgs s_law_pool) (defBody s_law_pool) (defScope s_law_pool) .none kV_law_pool dc_law_pool pm_law_pool an_law_pool cd_law_pool ct_law_pool), sl_law_pool⟩)
    (c_law_pool : PySem.W.codeIn K cd_law_pool "_law_pool" = true)
    (k_law_pool : PySem.W.keepIn K (.ref f_law_pool) = true)
    (a_law_draw : PySem.W.nsIn K mainGlobals "_law_draw" = some (some (.ref f_law_draw)))
    (l_law_draw : K.lookup f_law_draw = some ⟨oc_law_draw, od_law_draw, .func (PySem.W.fnOf "_law_draw" "_law_draw" (defArgs s_law_draw) (defBody s_law_draw) (defScope s_law_draw) .none kV_law_draw dc_law_draw pm_law_draw an_law_draw cd_law_draw ct_law_draw), sl_law_draw⟩)
    (c_law_draw : PySem.W.codeIn K cd_law_draw "_law_draw" = true)
    (k_law_draw : PySem.W.keepIn K (.ref f_law_draw) = true)
    (a_law_same : PySem.W.nsIn K mainGlobals "_law_same" = some (some (.ref f_law_same)))
    (l_law_same : K.lookup f_law_same = some ⟨oc_law_same, od_law_same, .func (PySem.W.fnOf "_law_same" "_law_same" (defArgs s_law_same) (defBody s_law_same) (defScope s_law_same) .none kV_law_same dc_law_same pm_law_same an_law_same cd_law_same ct_law_same), sl_law_same⟩)
    (c_law_same : PySem.W.codeIn K cd_law_same "_law_same" = true)
    (k_law_same : PySem.W.keepIn K (.ref f_law_same) = true)
    (a_law_signs : PySem.W.nsIn K mainGlobals "_law_signs" = some (some (.ref f_law_signs)))
    (l_law_signs : K.lookup f_law_signs = some ⟨oc_law_signs, od_law_signs, .func (PySem.W.fnOf "_law_signs" "_law_signs" (defArgs s_law_signs) (defBody s_law_signs) (defScope s_law_signs) .none kV_law_signs dc_law_signs pm_law_signs an_law_signs cd_law_signs ct_law_signs), sl_law_signs⟩)
    (c_law_signs : PySem.W.codeIn K cd_law_signs "_law_signs" = true)
    (k_law_signs : PySem.W.keepIn K (.ref f_law_signs) = true)
    (a_law_rule_model : PySem.W.nsIn K mainGlobals "_law_rule_model" = some (some (.ref f_law_rule_model)))
    (l_law_rule_model : K.lookup f_law_rule_model = some ⟨oc_law_rule_model, od_law_rule_model, .func (PySem.W.fnOf "_law_rule_model" "_law_rule_model" (defArgs s_law_rule_model) (defBody s_law_rule_model) (defScope s_law_rule_model) .none kV_law_rule_model dc_law_rule_model pm_law_rule_model an_law_rule_model cd_law_rule_model ct_law_rule_model), sl_law_rule_model⟩)
    (c_law_rule_model : PySem.W.codeIn K cd_law_rule_model "_law_rule_model" = true)
    (k_law_rule_model : PySem.W.keepIn K (.ref f_law_rule_model) = true)
    (a_law_rule : PySem.W.nsIn K mainGlobals "_law_rule" = some (some (.ref f_law_rule)))
    (l_law_rule : K.lookup f_law_rule = some ⟨oc_law_rule, od_law_rule, .func (PySem.W.fnOf "_law_rule" "_law_rule" (defArgs s_law_rule) (defBody s_law_rule) (defScope s_law_rule) .none kV_law_rule dc_law_rule pm_law_rule an_law_rule cd_law_rule ct_law_rule), sl_law_rule⟩)
    (c_law_rule : PySem.W.codeIn K cd_law_rule "_law_rule" = true)
    (k_law_rule : PySem.W.keepIn K (.ref f_law_rule) = true)
    (a_law_fields : PySem.W.nsIn K mainGlobals "_law_fields" = some (some (.ref f_law_fields)))
    (l_law_fields : K.lookup f_law_fields = some ⟨oc_law_fields, od_law_fields, .func (PySem.W.fnOf "_law_fields" "_law_fields" (defArgs s_law_fields) (defBody s_law_fields) (defScope s_law_fields) .none kV_law_fields dc_law_fields pm_law_fields an_law_fields cd_law_fields ct_law_fields), sl_law_fields⟩)
    (c_law_fields : PySem.W.codeIn K cd_law_fields "_law_fields" = true)
    (k_law_fields : PySem.W.keepIn K (.ref f_law_fields) = true)
    (a_law_round : PySem.W.nsIn K mainGlobals "_law_round" = some (some (.ref f_law_round)))
    (l_law_round : K.lookup f_law_round = some ⟨oc_law_round, od_law_round, .func (PySem.W.fnOf "_law_round" "_law_round" (defArgs s_law_round) (defBody s_law_round) (defScope s_law_round) .none kV_law_round dc_law_round pm_law_round an_law_round cd_law_round ct_law_round), sl_law_round⟩)
    (c_law_round : PySem.W.codeIn K cd_law_round "_law_round" = true)
    (k_law_round : PySem.W.keepIn K (.ref f_law_round) = true)
    (a_law_pairs : PySem.W.nsIn K mainGlobals "_law_pairs" = some (some (.ref f_law_pairs)))
    (l_law_pairs : K.lookup f_law_pairs = some ⟨oc_law_pairs, od_law_pairs, .func (PySem.W.fnOf "_law_pairs" "_law_pairs" (defArgs s_law_pairs) (defBody s_law_pairs) (defScope s_law_pairs) .none kV_law_pairs dc_law_pairs pm_law_pairs an_law_pairs cd_law_pairs ct_law_pairs), sl_law_pairs⟩)
    (c_law_pairs : PySem.W.codeIn K cd_law_pairs "_law_pairs" = true)
    (k_law_pairs : PySem.W.keepIn K (.ref f_law_pairs) = true)
    (a_law_due : PySem.W.nsIn K mainGlobals "_law_due" = some (some (.ref f_law_due)))
    (l_law_due : K.lookup f_law_due = some ⟨oc_law_due, od_law_due, .func (PySem.W.fnOf "_law_due" "_law_due" (defArgs s_law_due) (defBody s_law_due) (defScope s_law_due) .none kV_law_due dc_law_due pm_law_due an_law_due cd_law_due ct_law_due), sl_law_due⟩)
    (c_law_due : PySem.W.codeIn K cd_law_due "_law_due" = true)
    (k_law_due : PySem.W.keepIn K (.ref f_law_due) = true)
    (a_law_asked : PySem.W.nsIn K mainGlobals "_law_asked" = some (some (.ref f_law_asked)))
    (l_law_asked : K.lookup f_law_asked = some ⟨oc_law_asked, od_law_asked, .func (PySem.W.fnOf "_law_asked" "_law_asked" (defArgs s_law_asked) (defBody s_law_asked) (defScope s_law_asked) .none kV_law_asked dc_law_asked pm_law_asked an_law_asked cd_law_asked ct_law_asked), sl_law_asked⟩)
    (c_law_asked : PySem.W.codeIn K cd_law_asked "_law_asked" = true)
    (k_law_asked : PySem.W.keepIn K (.ref f_law_asked) = true)
    (a_law_right : PySem.W.nsIn K mainGlobals "_law_right" = some (some (.ref f_law_right)))
    (l_law_right : K.lookup f_law_right = some ⟨oc_law_right, od_law_right, .func (PySem.W.fnOf "_law_right" "_law_right" (defArgs s_law_right) (defBody s_law_right) (defScope s_law_right) .none kV_law_right dc_law_right pm_law_right an_law_right cd_law_right ct_law_right), sl_law_right⟩)
    (c_law_right : PySem.W.codeIn K cd_law_right "_law_right" = true)
    (k_law_right : PySem.W.keepIn K (.ref f_law_right) = true)
    (a_met_from : PySem.W.nsIn K mainGlobals "met_from" = some (some (.ref f_met_from)))
    (l_met_from : K.lookup f_met_from = some ⟨oc_met_from, od_met_from, .func (PySem.W.fnOf "met_from" "met_from" (defArgs s_met_from) (defBody s_met_from) (defScope s_met_from) .none kV_met_from dc_met_from pm_met_from an_met_from cd_met_from ct_met_from), sl_met_from⟩)
    (c_met_from : PySem.W.codeIn K cd_met_from "met_from" = true)
    (k_met_from : PySem.W.keepIn K (.ref f_met_from) = true)
    (a_joined : PySem.W.nsIn K mainGlobals "_joined" = some (some (.ref f_joined)))
    (l_joined : K.lookup f_joined = some ⟨oc_joined, od_joined, .func (PySem.W.fnOf "_joined" "_joined" (defArgs s_joined) (defBody s_joined) (defScope s_joined) .none kV_joined dc_joined pm_joined an_joined (.ref cc_joined) ct_joined), sl_joined⟩)
    (lc_joined : K.lookup cc_joined = some ⟨xc_joined, xl_joined, .fields vt_joined, xs_joined⟩)
    (v11_joined : vt_joined[11]? = some (.ref PP_joined))
    (nP_joined : K.lookup PP_joined = none)
    (rc_joined : (PyProof.Rows.recsOf q).find? (fun e : DefRec => e.name == ("_joined" : Str)) = some dd_joined)
    (c_joined : PySem.W.codeIn K (.ref cc_joined) "_joined" = true)
    (k_joined : PySem.W.keepIn K (.ref f_joined) = true)
    (a_law : PySem.W.nsIn K mainGlobals "law" = some (some (.ref f_law)))
    (l_law : K.lookup f_law = some ⟨oc_law, od_law, .func (PySem.W.fnOf "law" "law" (defArgs s_law) (defBody s_law) (defScope s_law) .none kV_law dc_law pm_law an_law cd_law ct_law), sl_law⟩)
    (c_law : PySem.W.codeIn K cd_law "law" = true)
    (k_law : PySem.W.keepIn K (.ref f_law) = true)
    (a_Rule : PySem.W.nsIn K mainGlobals "Rule" = some (some (.ref cU)))
    (mk_Rule : PySem.W.makesIn K cU = true)
    (in_Rule : PySem.W.findIn K (.ref cU) "__init__" = some (some (.ref fU)))
    (fn_Rule : PySem.W.isFn K (.ref fU) = true)
    (kp_Rule : PySem.W.keepIn K (.ref cU) = true)
    (pg_Rule : PySem.W.plainGet K cU Str.empty = true)
    (hd_Rule : PySem.W.hasDictIn K cU = true)
    (po_Rule : PySem.W.plainOver K cU = true)
    (sa_Rule : PySem.W.findIn K (.ref cU) "__setattr__" = some (some (.builtin "object.__setattr__")))
    (n0_Rule : PySem.W.findIn K (.ref cU) "signs" = some none)
    (n1_Rule : PySem.W.findIn K (.ref cU) "moves" = some none)
    (n2_Rule : PySem.W.findIn K (.ref cU) "good" = some none)
    (n3_Rule : PySem.W.findIn K (.ref cU) "_columns" = some none)
    (l_Rule_init : K.lookup fU = some ⟨oc_Rule0, od_Rule0, .func (PySem.W.fnOf "__init__" "Rule.__init__" (defArgs s_Rule_init) (defBody s_Rule_init) (defScope s_Rule_init) .none kV_Rule0 dc_Rule0 pm_Rule0 an_Rule0 cd_Rule0 ct_Rule0), sl_Rule0⟩)
    (c_Rule_init : PySem.W.codeIn K cd_Rule0 "Rule.__init__" = true)
    (k_Rule_init : PySem.W.keepIn K (.ref fU) = true)
    (at_Rule_last : PySem.W.findIn K (.ref cU) "last" = some (some (.ref lU)))
    (fn_Rule_last : PySem.W.isFn K (.ref lU) = true)
    (l_Rule_last : K.lookup lU = some ⟨oc_Rule1, od_Rule1, .func (PySem.W.fnOf "last" "Rule.last" (defArgs s_Rule_last) (defBody s_Rule_last) (defScope s_Rule_last) .none kV_Rule1 dc_Rule1 pm_Rule1 an_Rule1 cd_Rule1 ct_Rule1), sl_Rule1⟩)
    (c_Rule_last : PySem.W.codeIn K cd_Rule1 "Rule.last" = true)
    (k_Rule_last : PySem.W.keepIn K (.ref lU) = true)
    (at_Rule_lets : PySem.W.findIn K (.ref cU) "lets" = some (some (.ref tU)))
    (fn_Rule_lets : PySem.W.isFn K (.ref tU) = true)
    (l_Rule_lets : K.lookup tU = some ⟨oc_Rule2, od_Rule2, .func (PySem.W.fnOf "lets" "Rule.lets" (defArgs s_Rule_lets) (defBody s_Rule_lets) (defScope s_Rule_lets) .none kV_Rule2 dc_Rule2 pm_Rule2 an_Rule2 cd_Rule2 ct_Rule2), sl_Rule2⟩)
    (c_Rule_lets : PySem.W.codeIn K cd_Rule2 "Rule.lets" = true)
    (k_Rule_lets : PySem.W.keepIn K (.ref tU) = true)
    (eq_Rule : PySem.W.findIn K (.ref cU) "__eq__" = some (some (.ref gU)))
    (fe_Rule : PySem.W.isFn K (.ref gU) = true)
    (l_Rule_eq : K.lookup gU = some ⟨oc_Rule3, od_Rule3, .func (PySem.W.fnOf "__eq__" "Rule.__eq__" (defArgs s_Rule_eq) (defBody s_Rule_eq) (defScope s_Rule_eq) .none kV_Rule3 dc_Rule3 pm_Rule3 an_Rule3 cd_Rule3 ct_Rule3), sl_Rule3⟩)
    (c_Rule_eq : PySem.W.codeIn K cd_Rule3 "Rule.__eq__" = true)
    (k_Rule_eq : PySem.W.keepIn K (.ref gU) = true)
    (ia_Rule : PySem.W.findIn K (.ref cU) "__class__" = some (some (.builtin "object.__class__")))
    (ig_Rule : PySem.W.specialIn K (.builtin "object.__class__") "__get__" = some (some (.builtin "getset_descriptor.__get__")))
    (it_Rule : PySem.W.takesIn K (.builtin "object.__class__") = some true)
    (im_Rule : PySem.W.mroIn K cU (.type "object") = some true)
    (ie_Rule : PySem.W.kitOne K (.ref cU) (.ref cU) = some true)
    (kn_Rule_int : PySem.W.kitOne K (.ref cU) (.type "int") = some false)
    (kn_Rule_bool : PySem.W.kitOne K (.ref cU) (.type "bool") = some false)
    (kn_Rule_str : PySem.W.kitOne K (.ref cU) (.type "str") = some false)
    (kn_Rule_list : PySem.W.kitOne K (.ref cU) (.type "list") = some false)
    (kn_Rule_tuple : PySem.W.kitOne K (.ref cU) (.type "tuple") = some false)
    (kn_Rule_dict : PySem.W.kitOne K (.ref cU) (.type "dict") = some false)
    (a_SIGNS : PySem.W.nsIn K mainGlobals "SIGNS" = some (some (.str "0123456789abcdefghijklmnopqrstuvwxyz" tSG)))
    (a_OtherSigns : PySem.W.nsIn K mainGlobals "OtherSigns" = some (some (.ref cO)))
    (zz_OtherSigns : PySem.W.excIn K cO [Value.type "ValueError", Value.type "Exception", Value.type "BaseException", Value.type "object"] "ValueError.__new__" = true)
    (kk_OtherSigns : PySem.W.keepIn K (.ref cO) = true)
    (bb_OtherSigns : PySem.W.subIn K (.ref cO) (.type "BaseException") = some true)
    (tt_OtherSigns : PySem.W.typeIn K (.ref cO) = some (.type "type"))
    (cc_OtherSigns : PySem.W.isClsIn K cO = true)
    (s_TO : PySem.W.subIn K (.ref cT) (.ref cO) = some false)
    (s_OO : PySem.W.subIn K (.ref cO) (.ref cO) = some true)
    (ne_both_either : PP_both ≠ PP_either)
    (ne_both_joined : PP_both ≠ PP_joined)
    (ne_either_joined : PP_either ≠ PP_joined) :
    LamX.LawAtS PySem.Challenge.rw_surelabels_k12_rules_joined w K CX0 17 63 "script" mg fa h := by
  have e := hfa.symm.trans (PySem.W.mg_of X G a_law)
  cases e
  have F1_is_whole := fun_mk (st := s_is_whole) l_is_whole c_is_whole k_is_whole
  have B_is_whole := F1_is_whole.binds (ps := ["thing"]) fun _ _ _ _ _ _ us hl => match us, hl with | [_], _ => rfl
  have F1_is_within := fun_mk (st := s_is_within) l_is_within c_is_within k_is_within
  have B_is_within := F1_is_within.binds (ps := ["thing", "low", "high"]) fun _ _ _ _ _ _ us hl => match us, hl with | [_, _, _], _ => rfl
  have F1_items_of := fun_mk (st := s_items_of) l_items_of c_items_of k_items_of
  have B_items_of := F1_items_of.binds (ps := ["thing"]) fun _ _ _ _ _ _ us hl => match us, hl with | [_], _ => rfl
  have F1_is_rising := fun_mk (st := s_is_rising) l_is_rising c_is_rising k_is_rising
  have B_is_rising := F1_is_rising.binds (ps := ["things"]) fun _ _ _ _ _ _ us hl => match us, hl with | [_], _ => rfl
  have F1_is_sign := fun_mk (st := s_is_sign) l_is_sign c_is_sign k_is_sign
  have B_is_sign := F1_is_sign.binds (ps := ["thing"]) fun _ _ _ _ _ _ us hl => match us, hl with | [_], _ => rfl
  have F1_signs_of := fun_mk (st := s_signs_of) l_signs_of c_signs_of k_signs_of
  have B_signs_of := F1_signs_of.binds (ps := ["thing"]) fun _ _ _ _ _ _ us hl => match us, hl with | [_], _ => rfl
  have F1_are_states := fun_mk (st := s_are_states) l_are_states c_are_states k_are_states
  have B_are_states := F1_are_states.binds (ps := ["things", "many"]) fun _ _ _ _ _ _ us hl => match us, hl with | [_, _], _ => rfl
  have F1_moves_of := fun_mk (st := s_moves_of) l_moves_of c_moves_of k_moves_of
  have B_moves_of := F1_moves_of.binds (ps := ["thing", "width"]) fun _ _ _ _ _ _ us hl => match us, hl with | [_, _], _ => rfl
  have F1_good_of := fun_mk (st := s_good_of) l_good_of c_good_of k_good_of
  have B_good_of := F1_good_of.binds (ps := ["thing", "many"]) fun _ _ _ _ _ _ us hl => match us, hl with | [_, _], _ => rfl
  have F1_check_text := fun_mk (st := s_check_text) l_check_text c_check_text k_check_text
  have B_check_text := F1_check_text.binds (ps := ["text", "signs"]) fun _ _ _ _ _ _ us hl => match us, hl with | [_, _], _ => rfl
  have F1_check_alike := fun_mk (st := s_check_alike) l_check_alike c_check_alike k_check_alike
  have B_check_alike := F1_check_alike.binds (ps := ["one", "other"]) fun _ _ _ _ _ _ us hl => match us, hl with | [_, _], _ => rfl
  have F1_led := fun_mk (st := s_led) l_led c_led k_led
  have B_led := F1_led.binds (ps := ["one", "other", "pair"]) fun _ _ _ _ _ _ us hl => match us, hl with | [_, _, _], _ => rfl
  have F1_both := fun_mk (st := s_both) l_both c_both k_both
  have B_both := F1_both.binds (ps := ["one", "other"]) fun _ _ _ _ _ _ us hl => match us, hl with | [_, _], _ => rfl
  have F1_either := fun_mk (st := s_either) l_either c_either k_either
  have B_either := F1_either.binds (ps := ["one", "other"]) fun _ _ _ _ _ _ us hl => match us, hl with | [_, _], _ => rfl
  have F1_opposite := fun_mk (st := s_opposite) l_opposite c_opposite k_opposite
  have B_opposite := F1_opposite.binds (ps := ["rule"]) fun _ _ _ _ _ _ us hl => match us, hl with | [_], _ => rfl
  have F1_law_pool := fun_mk (st := s_law_pool) l_law_pool c_law_pool k_law_pool
  have B_law_pool := F1_law_pool.binds (ps := ["script"]) fun _ _ _ _ _ _ us hl => match us, hl with | [_], _ => rfl
  have F1_law_draw := fun_mk (st := s_law_draw) l_law_draw c_law_draw k_law_draw
  have B_law_draw := F1_law_draw.binds (ps := ["pool", "many"]) fun _ _ _ _ _ _ us hl => match us, hl with | [_, _], _ => rfl
  have F1_law_same := fun_mk (st := s_law_same) l_law_same c_law_same k_law_same
  have B_law_same := F1_law_same.binds (ps := ["actual", "due"]) fun _ _ _ _ _ _ us hl => match us, hl with | [_, _], _ => rfl
  have F1_law_signs := fun_mk (st := s_law_signs) l_law_signs c_law_signs k_law_signs
  have B_law_signs := F1_law_signs.binds (ps := ["pool", "many"]) fun _ _ _ _ _ _ us hl => match us, hl with | [_, _], _ => rfl
  have F1_law_rule_model := fun_mk (st := s_law_rule_model) l_law_rule_model c_law_rule_model k_law_rule_model
  have B_law_rule_model := F1_law_rule_model.binds (ps := ["pool", "signs", "most"]) fun _ _ _ _ _ _ us hl => match us, hl with | [_, _, _], _ => rfl
  have F1_law_rule := fun_mk (st := s_law_rule) l_law_rule c_law_rule k_law_rule
  have B_law_rule := F1_law_rule.binds (ps := ["model"]) fun _ _ _ _ _ _ us hl => match us, hl with | [_], _ => rfl
  have F1_law_fields := fun_mk (st := s_law_fields) l_law_fields c_law_fields k_law_fields
  have B_law_fields := F1_law_fields.binds (ps := ["rule"]) fun _ _ _ _ _ _ us hl => match us, hl with | [_], _ => rfl
  have F1_law_round := fun_mk (st := s_law_round) l_law_round c_law_round k_law_round
  have B_law_round := F1_law_round.binds (ps := ["signs", "many", "good"]) fun _ _ _ _ _ _ us hl => match us, hl with | [_, _, _], _ => rfl
  have F1_law_pairs := fun_mk (st := s_law_pairs) l_law_pairs c_law_pairs k_law_pairs
  have B_law_pairs := F1_law_pairs.binds (ps := ["one", "other"]) fun _ _ _ _ _ _ us hl => match us, hl with | [_, _], _ => rfl
  have F1_law_due := fun_mk (st := s_law_due) l_law_due c_law_due k_law_due
  have B_law_due := F1_law_due.binds (ps := ["which", "one", "other"]) fun _ _ _ _ _ _ us hl => match us, hl with | [_, _, _], _ => rfl
  have F1_law_asked := fun_mk (st := s_law_asked) l_law_asked c_law_asked k_law_asked
  have B_law_asked := F1_law_asked.binds (ps := ["which", "one", "other"]) fun _ _ _ _ _ _ us hl => match us, hl with | [_, _, _], _ => rfl
  have F1_law_right := fun_mk (st := s_law_right) l_law_right c_law_right k_law_right
  have B_law_right := F1_law_right.binds (ps := ["one", "other"]) fun _ _ _ _ _ _ us hl => match us, hl with | [_, _], _ => rfl
  have F1_met_from := fun_mk (st := s_met_from) l_met_from c_met_from k_met_from
  have B_met_from := F1_met_from.binds (ps := ["firsts", "after"]) fun _ _ _ _ _ _ us hl => match us, hl with | [_, _], _ => rfl
  have F1_joined := fun_mk (st := s_joined) l_joined c_joined k_joined
  have B_joined := F1_joined.binds (ps := ["one", "other", "is_good"]) fun _ _ _ _ _ _ us hl => match us, hl with | [_, _, _], _ => rfl
  have F1_law := fun_mk (st := s_law) l_law c_law k_law
  have B_law := F1_law.binds (ps := ["script"]) fun _ _ _ _ _ _ us hl => match us, hl with | [_], _ => rfl
  have T_BadRule : PySem.SLX.ExTxt K mg PySem.Challenge.rw_surelabels_k12_rules_joined.prog w "BadRule" "part" "part" (fun v => ∃ (y : Str) (t : Tok), v = .str y t ∧ (reprText y).length ≤ 1000) cR iR :=
    { gC := PySem.W.mg_of X G a_BadRule, cls := ⟨_, _, _, _, _, _, _, _, _, _, _, _, _, _, _, x_BadRule, rfl, along_of x_BadRule su_BadRule⟩, sa := sa_BadRule, ga := ga_BadRule, gg := gg_BadRule, noN := nb_BadRule, iC := in_BadRule, tC := ti_BadRule, kC := kC_BadRule, exC := eC_BadRule, veC := vC_BadRule, tyC := tC_BadRule, hdC := hC_BadRule, selfC := mC_BadRule, opq := opq, sup := PySem.W.mg_none_of X G z_super,
      fn := ⟨_, _, _, _, _, _, _, _, _, _, _, _, _, _, _, _, _, _, _, _, _, _, _, _, _, _, _, _, _, _, _, _, l_BadRule, c_BadRule, cell_BadRule, code_BadRule, v2_BadRule, fi_BadRule, PySem.SLX.msg_repr rfl rfl (by decide) (by decide +kernel), fun _ => rfl, fun _ => ⟨_, rfl⟩, fun _ _ => rfl⟩,
      okN := ⟨by decide, by decide, by decide, by decide⟩, top := by decide +kernel }
  have T_TooMany : PySem.SLX.ExTxt K mg PySem.Challenge.rw_surelabels_k12_rules_joined.prog w "TooMany" "most" "most" PySem.SLX.okInt cT iT :=
    { gC := PySem.W.mg_of X G a_TooMany, cls := ⟨_, _, _, _, _, _, _, _, _, _, _, _, _, _, _, x_TooMany, rfl, along_of x_TooMany su_TooMany⟩, sa := sa_TooMany, ga := ga_TooMany, gg := gg_TooMany, noN := nb_TooMany, iC := in_TooMany, tC := ti_TooMany, kC := kC_TooMany, exC := eC_TooMany, veC := vC_TooMany, tyC := tC_TooMany, hdC := hC_TooMany, selfC := mC_TooMany, opq := opq, sup := PySem.W.mg_none_of X G z_super,
      fn := ⟨_, _, _, _, _, _, _, _, _, _, _, _, _, _, _, _, _, _, _, _, _, _, _, _, _, _, _, _, _, _, _, _, l_TooMany, c_TooMany, cell_TooMany, code_TooMany, v2_TooMany, fi_TooMany, PySem.SLX.msg_int rfl rfl (by decide) (by decide +kernel), fun _ => rfl, fun _ => ⟨_, rfl⟩, fun _ _ => rfl⟩,
      okN := ⟨by decide, by decide, by decide, by decide⟩, top := by decide +kernel }
  have F1_Rule_init := fun_mk (st := s_Rule_init) l_Rule_init c_Rule_init k_Rule_init
  have B_Rule_init := F1_Rule_init.binds (ps := ["self", "signs", "moves", "good"]) fun _ _ _ _ _ _ us hl => match us, hl with | [_, _, _, _], _ => rfl
  have F1_Rule_last := fun_mk (st := s_Rule_last) l_Rule_last c_Rule_last k_Rule_last
  have B_Rule_last := F1_Rule_last.binds (ps := ["self", "text"]) fun _ _ _ _ _ _ us hl => match us, hl with | [_, _], _ => rfl
  have F1_Rule_lets := fun_mk (st := s_Rule_lets) l_Rule_lets c_Rule_lets k_Rule_lets
  have B_Rule_lets := F1_Rule_lets.binds (ps := ["self", "text"]) fun _ _ _ _ _ _ us hl => match us, hl with | [_, _], _ => rfl
  have F1_Rule_eq := fun_mk (st := s_Rule_eq) l_Rule_eq c_Rule_eq k_Rule_eq
  have B_Rule_eq := F1_Rule_eq.binds (ps := ["self", "other"]) fun _ _ _ _ _ _ us hl => match us, hl with | [_, _], _ => rfl
  have kd_Rule : KindC K cU := ⟨⟨⟨pg_Rule, hd_Rule, po_Rule, sa_Rule⟩, ia_Rule, ig_Rule, it_Rule, im_Rule, ie_Rule⟩, fun T hT => by simp only [List.mem_cons, List.not_mem_nil, or_false] at hT; rcases hT with rfl | rfl | rfl | rfl | rfl | rfl; exact kn_Rule_int; exact kn_Rule_bool; exact kn_Rule_str; exact kn_Rule_list; exact kn_Rule_tuple; exact kn_Rule_dict⟩
  have M : MF PySem.Challenge.rw_surelabels_k12_rules_joined.prog w K mg cR iR cT iT cO cU fU lU tU gU cL := { m_isinstance := PySem.W.mg_none_of X G z_isinstance, m_int := PySem.W.mg_none_of X G z_int, m_bool := PySem.W.mg_none_of X G z_bool, m_str := PySem.W.mg_none_of X G z_str, m_list := PySem.W.mg_none_of X G z_list, m_tuple := PySem.W.mg_none_of X G z_tuple, m_len := PySem.W.mg_none_of X G z_len, m_all := PySem.W.mg_none_of X G z_all, m_range := PySem.W.mg_none_of X G z_range, m_enumerate := PySem.W.mg_none_of X G z_enumerate, m_zip := PySem.W.mg_none_of X G z_zip, m_sorted := PySem.W.mg_none_of X G z_sorted, x_BadRule := T_BadRule, x_TooMany := T_TooMany, g_BadRule := PySem.W.mg_of X G a_BadRule, g_TooMany := PySem.W.mg_of X G a_TooMany, g_LabelError := PySem.W.mg_of X G a_LE, e_TT := exm_ref eC_TooMany iC_TooMany tC_TooMany s_TooMany_TooMany, g_Rule := PySem.W.mg_of X G a_Rule, mk_Rule := ⟨mk_Rule, in_Rule, fn_Rule, kp_Rule⟩, cl_Rule := ⟨pg_Rule, hd_Rule, po_Rule, sa_Rule⟩, n_signs := n0_Rule, n_moves := n1_Rule, n_good := n2_Rule, n__columns := n3_Rule, eq_Rule := eq_Rule, fn_eqRule := fe_Rule, ic_Rule := ⟨⟨pg_Rule, hd_Rule, po_Rule, sa_Rule⟩, ia_Rule, ig_Rule, it_Rule, im_Rule, ie_Rule⟩, me_last := ⟨at_Rule_last, fn_Rule_last, k_Rule_last⟩, me_lets := ⟨at_Rule_lets, fn_Rule_lets, k_Rule_lets⟩, kinds := fun C h => by rw [List.mem_singleton.mp h]; exact kd_Rule, g_SIGNS := ⟨tSG, PySem.W.mg_of X G a_SIGNS⟩, g_OtherSigns := PySem.W.mg_of X G a_OtherSigns, z_OtherSigns := zz_OtherSigns, k_OtherSigns := kk_OtherSigns, b_OtherSigns := bb_OtherSigns, t_OtherSigns := tt_OtherSigns, e_TO := exm_ref bb_OtherSigns cc_OtherSigns tt_OtherSigns s_TO, e_OO := exm_ref bb_OtherSigns cc_OtherSigns tt_OtherSigns s_OO }
  have TB_both := SLEnd.tab_at TT X rc_both a_both l_both rfl lc_both v11_both
  have TB_either := SLEnd.tab_at TT X rc_either a_either l_either rfl lc_either v11_either
  have TB_joined := SLEnd.tab_at TT X rc_joined a_joined l_joined rfl lc_joined v11_joined
  refine ⟨PySem.W.fnOf "law" "law" (defArgs s_law) (defBody s_law) (defScope s_law) .none kV_law dc_law pm_law an_law cd_law ct_law, [(cc_both, PP_both), (cc_either, PP_either), (cc_joined, PP_joined)], spLaw K [(PP_both, "both.<locals>.<lambda>"), (PP_either, "either.<locals>.<lambda>"), (PP_joined, "_joined.<locals>.<lambda>")], fun p hp => by simp only [List.mem_cons, List.not_mem_nil, or_false] at hp; rcases hp with rfl | rfl | rfl <;> first | exact TB_both.2 | exact TB_either.2 | exact TB_joined.2, fun p hp => by simp only [List.mem_cons, List.not_mem_nil, or_false] at hp; rcases hp with rfl | rfl | rfl <;> first | exact nP_both | exact nP_either | exact nP_joined, fun p hp => by simp only [List.mem_cons, List.not_mem_nil, or_false] at hp; rcases hp with rfl | rfl | rfl <;> first | exact TB_both.1 | exact TB_either.1 | exact TB_joined.1, fun s v => .of_eq rfl, fun H a ns hl _ hT hS => ⟨a, ns, rfl, hS, hl, ?_, fun _ => rfl⟩, fun base _ _ hTB => ?_⟩
  · intro x hx
    simp only [List.mem_cons, List.not_mem_nil, or_false] at hx
    rcases hx with rfl | rfl | rfl
    · exact LamX.TabS.nil (hT (cc_both, PP_both) (by simp))
    · exact LamX.TabS.nil (hT (cc_either, PP_either) (by simp))
    · exact LamX.TabS.nil (hT (cc_joined, PP_joined) (by simp))
  have Mk_both : MakerAt base mg [(PP_both, "both.<locals>.<lambda>"), (PP_either, "either.<locals>.<lambda>"), (PP_joined, "_joined.<locals>.<lambda>")] cc_both PP_both "both.<locals>.<lambda>" := ⟨hTB (cc_both, PP_both) (by simp), by simp, fun p hp e => by simp only [List.mem_cons, List.not_mem_nil, or_false] at hp; rcases hp with rfl | rfl | rfl <;> first | rfl | exact absurd e.symm ne_both_either | exact absurd e.symm ne_both_joined⟩
  have Mk_either : MakerAt base mg [(PP_both, "both.<locals>.<lambda>"), (PP_either, "either.<locals>.<lambda>"), (PP_joined, "_joined.<locals>.<lambda>")] cc_either PP_either "either.<locals>.<lambda>" := ⟨hTB (cc_either, PP_either) (by simp), by simp, fun p hp e => by simp only [List.mem_cons, List.not_mem_nil, or_false] at hp; rcases hp with rfl | rfl | rfl <;> first | rfl | exact absurd e ne_both_either | exact absurd e.symm ne_either_joined⟩
  have Mk_joined : MakerAt base mg [(PP_both, "both.<locals>.<lambda>"), (PP_either, "either.<locals>.<lambda>"), (PP_joined, "_joined.<locals>.<lambda>")] cc_joined PP_joined "_joined.<locals>.<lambda>" := ⟨hTB (cc_joined, PP_joined) (by simp), by simp, fun p hp e => by simp only [List.mem_cons, List.not_mem_nil, or_false] at hp; rcases hp with rfl | rfl | rfl <;> first | rfl | exact absurd e ne_both_joined | exact absurd e ne_either_joined⟩
  · have F_is_whole : FnC PySem.Challenge.rw_surelabels_k12_rules_joined.prog w K mg base CX0 1 "is_whole" ["thing"] (spV false 1 (WWhole [cU])) := ⟨_, _, ok_is_whole M F1_is_whole, PySem.W.mg_of X G a_is_whole, k_is_whole, B_is_whole⟩
    have F_is_within : FnC PySem.Challenge.rw_surelabels_k12_rules_joined.prog w K mg base CX0 2 "is_within" ["thing", "low", "high"] (spV false 3 (WWithin [cU])) := ⟨_, _, ok_is_within M F_is_whole F1_is_within, PySem.W.mg_of X G a_is_within, k_is_within, B_is_within⟩
    have F_items_of : FnC PySem.Challenge.rw_surelabels_k12_rules_joined.prog w K mg base CX0 1 "items_of" ["thing"] (spV false 1 (WItems [cU])) := ⟨_, _, ok_items_of M F1_items_of, PySem.W.mg_of X G a_items_of, k_items_of, B_items_of⟩
    have F_is_rising : FnC PySem.Challenge.rw_surelabels_k12_rules_joined.prog w K mg base CX0 1 "is_rising" ["things"] (spV false 1 WRising) := ⟨_, _, ok_is_rising M F1_is_rising, PySem.W.mg_of X G a_is_rising, k_is_rising, B_is_rising⟩
    have F_is_sign : FnC PySem.Challenge.rw_surelabels_k12_rules_joined.prog w K mg base CX0 1 "is_sign" ["thing"] (spV false 1 (WIsSign [cU])) := ⟨_, _, ok_is_sign M F1_is_sign, PySem.W.mg_of X G a_is_sign, k_is_sign, B_is_sign⟩
    have F_signs_of : FnC PySem.Challenge.rw_surelabels_k12_rules_joined.prog w K mg base (L2.CX PySem.Challenge.rw_surelabels_k12_rules_joined.prog w) 4 "signs_of" ["thing"] (spV false 1 (WSignsOf [cU] cR)) := ⟨_, _, ok_signs_of M F_items_of F_is_sign F_is_rising F1_signs_of, PySem.W.mg_of X G a_signs_of, k_signs_of, B_signs_of⟩
    have F_are_states : FnC PySem.Challenge.rw_surelabels_k12_rules_joined.prog w K mg base CX0 3 "_are_states" ["things", "many"] (spV false 2 (WStates [cU])) := ⟨_, _, ok_are_states M F_is_within F1_are_states, PySem.W.mg_of X G a_are_states, k_are_states, B_are_states⟩
    have F_moves_of : FnC PySem.Challenge.rw_surelabels_k12_rules_joined.prog w K mg base (L2.CX PySem.Challenge.rw_surelabels_k12_rules_joined.prog w) 5 "_moves_of" ["thing", "width"] (spV false 2 (WMovesOf [cU] cR)) := ⟨_, _, ok_moves_of M F_items_of F_are_states F1_moves_of, PySem.W.mg_of X G a_moves_of, k_moves_of, B_moves_of⟩
    have F_good_of : FnC PySem.Challenge.rw_surelabels_k12_rules_joined.prog w K mg base (L2.CX PySem.Challenge.rw_surelabels_k12_rules_joined.prog w) 5 "_good_of" ["thing", "many"] (spV false 2 (WGoodOf [cU] cR)) := ⟨_, _, ok_good_of M F_items_of F_are_states F_is_rising F1_good_of, PySem.W.mg_of X G a_good_of, k_good_of, B_good_of⟩
    have ORule := ok_Rule_init (base := base) M F_signs_of F_moves_of F_good_of F1_Rule_init
    have BRule := B_Rule_init
    have F_check_text : FnC PySem.Challenge.rw_surelabels_k12_rules_joined.prog w K mg base CX0 1 "check_text" ["text", "signs"] (spV false 2 WChkText) := ⟨_, _, ok_check_text M F1_check_text, PySem.W.mg_of X G a_check_text, k_check_text, B_check_text⟩
    have Olast := ok_Rule_last (base := base) M F_check_text F1_Rule_last
    have Olets := ok_Rule_lets (base := base) M Olast B_Rule_last F1_Rule_lets
    have OE := ok_Rule_eq (base := base) M F1_Rule_eq
    have BE := B_Rule_eq
    have F_check_alike : FnC PySem.Challenge.rw_surelabels_k12_rules_joined.prog w K mg base (L2.CX PySem.Challenge.rw_surelabels_k12_rules_joined.prog w) 1 "_check_alike" ["one", "other"] (spV false 2 (WAlike cO cU)) := ⟨_, _, ok_check_alike M F1_check_alike, PySem.W.mg_of X G a_check_alike, k_check_alike, B_check_alike⟩
    have F_led : FnC PySem.Challenge.rw_surelabels_k12_rules_joined.prog w K mg base CX0 1 "_led" ["one", "other", "pair"] (spV false 3 (WLed cU)) := ⟨_, _, ok_led M F1_led, PySem.W.mg_of X G a_led, k_led, B_led⟩
    have F_met_from_joined : FnC PySem.Challenge.rw_surelabels_k12_rules_joined.prog w K mg base CX0 10 "met_from" ["firsts", "after"] (spL false 1 D_joined ["one", "other"] (WMet (goodJ cU) domJ gJ)) := ⟨_, _, ok_met_from (by decide) M (lam_joined M F_led) F1_met_from, PySem.W.mg_of X G a_met_from, k_met_from, B_met_from⟩
    have F_joined_both : FnC PySem.Challenge.rw_surelabels_k12_rules_joined.prog w K mg base (L2.CX PySem.Challenge.rw_surelabels_k12_rules_joined.prog w) 12 "_joined" ["one", "other", "is_good"] (spL ⟨false, [(PP_both, "both.<locals>.<lambda>"), (PP_either, "either.<locals>.<lambda>"), (PP_joined, "_joined.<locals>.<lambda>")]⟩ 2 D_both [] (WJoin cO cT cU fun a b => a && b)) := ⟨_, _, ok_joined M Mk_joined rfl (lam_both M) F_check_alike F_met_from_joined ORule BRule F1_joined, PySem.W.mg_of X G a_joined, k_joined, B_joined⟩
    have F_both : FnC PySem.Challenge.rw_surelabels_k12_rules_joined.prog w K mg base (L2.CX PySem.Challenge.rw_surelabels_k12_rules_joined.prog w) 13 "both" ["one", "other"] (spV ⟨false, [(PP_both, "both.<locals>.<lambda>"), (PP_either, "either.<locals>.<lambda>"), (PP_joined, "_joined.<locals>.<lambda>")]⟩ 2 (WJoin cO cT cU fun a b => a && b)) := ⟨_, _, ok_both M Mk_both rfl F_joined_both F1_both, PySem.W.mg_of X G a_both, k_both, B_both⟩
    have F_joined_either : FnC PySem.Challenge.rw_surelabels_k12_rules_joined.prog w K mg base (L2.CX PySem.Challenge.rw_surelabels_k12_rules_joined.prog w) 12 "_joined" ["one", "other", "is_good"] (spL ⟨false, [(PP_both, "both.<locals>.<lambda>"), (PP_either, "either.<locals>.<lambda>"), (PP_joined, "_joined.<locals>.<lambda>")]⟩ 2 D_either [] (WJoin cO cT cU fun a b => a || b)) := ⟨_, _, ok_joined M Mk_joined rfl (lam_either M) F_check_alike F_met_from_joined ORule BRule F1_joined, PySem.W.mg_of X G a_joined, k_joined, B_joined⟩
    have F_either : FnC PySem.Challenge.rw_surelabels_k12_rules_joined.prog w K mg base (L2.CX PySem.Challenge.rw_surelabels_k12_rules_joined.prog w) 13 "either" ["one", "other"] (spV ⟨false, [(PP_both, "both.<locals>.<lambda>"), (PP_either, "either.<locals>.<lambda>"), (PP_joined, "_joined.<locals>.<lambda>")]⟩ 2 (WJoin cO cT cU fun a b => a || b)) := ⟨_, _, ok_either M Mk_either rfl F_joined_either F1_either, PySem.W.mg_of X G a_either, k_either, B_either⟩
    have F_opposite : FnC PySem.Challenge.rw_surelabels_k12_rules_joined.prog w K mg base CX0 8 "opposite" ["rule"] (spV false 1 (WOpp cU)) := ⟨_, _, ok_opposite M ORule BRule F1_opposite, PySem.W.mg_of X G a_opposite, k_opposite, B_opposite⟩
    have F_law_pool : FnC PySem.Challenge.rw_surelabels_k12_rules_joined.prog w K mg base CX0 1 "_law_pool" ["script"] (spPool K) := ⟨_, _, ok_law_pool M F1_law_pool, PySem.W.mg_of X G a_law_pool, k_law_pool, B_law_pool⟩
    have F_law_draw : FnC PySem.Challenge.rw_surelabels_k12_rules_joined.prog w K mg base CX0 1 "_law_draw" ["pool", "many"] spDraw := ⟨_, _, ok_law_draw M F1_law_draw, PySem.W.mg_of X G a_law_draw, k_law_draw, B_law_draw⟩
    have F_law_drawW := draw_w F_law_draw
    have F_law_draw := draw_v F_law_drawW
    have F_law_same : FnC PySem.Challenge.rw_surelabels_k12_rules_joined.prog w K mg base CX0 8 "_law_same" ["actual", "due"] (spV false 2 (WSame 3)) := ⟨_, _, ok_law_same M F1_law_same (PySem.W.mg_of X G a_law_same) B_law_same 3, PySem.W.mg_of X G a_law_same, k_law_same, B_law_same⟩
    have F_law_signs : FnC PySem.Challenge.rw_surelabels_k12_rules_joined.prog w K mg base CX0 2 "_law_signs" ["pool", "many"] (spV true 2 WSignsD) := ⟨_, _, ok_law_signs M F_law_draw F1_law_signs, PySem.W.mg_of X G a_law_signs, k_law_signs, B_law_signs⟩
    have F_law_rule_model : FnC PySem.Challenge.rw_surelabels_k12_rules_joined.prog w K mg base CX0 2 "_law_rule_model" ["pool", "signs", "most"] (spV true 3 WModel) := ⟨_, _, ok_law_rule_model M F_law_draw F1_law_rule_model, PySem.W.mg_of X G a_law_rule_model, k_law_rule_model, B_law_rule_model⟩
    have F_law_rule : FnC PySem.Challenge.rw_surelabels_k12_rules_joined.prog w K mg base CX0 8 "_law_rule" ["model"] (spV false 1 (WLRule cU)) := ⟨_, _, ok_law_rule M ORule BRule F1_law_rule, PySem.W.mg_of X G a_law_rule, k_law_rule, B_law_rule⟩
    have F_law_fields : FnC PySem.Challenge.rw_surelabels_k12_rules_joined.prog w K mg base CX0 1 "_law_fields" ["rule"] (spV false 1 (WFields cU)) := ⟨_, _, ok_law_fields M F1_law_fields, PySem.W.mg_of X G a_law_fields, k_law_fields, B_law_fields⟩
    have F_law_round : FnC PySem.Challenge.rw_surelabels_k12_rules_joined.prog w K mg base CX0 1 "_law_round" ["signs", "many", "good"] (spV false 3 WRound) := ⟨_, _, ok_law_round M F1_law_round, PySem.W.mg_of X G a_law_round, k_law_round, B_law_round⟩
    have F_law_pairs : FnC PySem.Challenge.rw_surelabels_k12_rules_joined.prog w K mg base CX0 1 "_law_pairs" ["one", "other"] (spV false 2 WPairs) := ⟨_, _, ok_law_pairs M F1_law_pairs, PySem.W.mg_of X G a_law_pairs, k_law_pairs, B_law_pairs⟩
    have F_law_due : FnC PySem.Challenge.rw_surelabels_k12_rules_joined.prog w K mg base CX0 2 "_law_due" ["which", "one", "other"] (spV false 3 WDue) := ⟨_, _, ok_law_due M F_law_pairs F1_law_due, PySem.W.mg_of X G a_law_due, k_law_due, B_law_due⟩
    have F_law_asked : FnC PySem.Challenge.rw_surelabels_k12_rules_joined.prog w K mg base CX0 14 "_law_asked" ["which", "one", "other"] (spV ⟨false, [(PP_both, "both.<locals>.<lambda>"), (PP_either, "either.<locals>.<lambda>"), (PP_joined, "_joined.<locals>.<lambda>")]⟩ 3 (WAsk cU)) := ⟨_, _, ok_law_asked M F_both F_either F1_law_asked, PySem.W.mg_of X G a_law_asked, k_law_asked, B_law_asked⟩
    have F_law_right : FnC PySem.Challenge.rw_surelabels_k12_rules_joined.prog w K mg base CX0 15 "_law_right" ["one", "other"] (spV ⟨false, [(PP_both, "both.<locals>.<lambda>"), (PP_either, "either.<locals>.<lambda>"), (PP_joined, "_joined.<locals>.<lambda>")]⟩ 2 WRight) := ⟨_, _, ok_law_right M F_law_rule F_law_asked F_law_due F_law_same F_law_fields OE BE F1_law_right, PySem.W.mg_of X G a_law_right, k_law_right, B_law_right⟩
    exact ok_law M F_law_pool F_law_draw F_law_signs F_law_rule_model F_law_rule F_law_asked F_law_right F_law_round F_law_same F_opposite Olets B_Rule_lets F1_law
end K12
open PySem PySem.W PyProof.Rows
set_option maxHeartbeats 0 in
theorem PySem.Challenge.cw_surelabels_k12_rules_joined_holds : PySem.Challenge.rw_surelabels_k12_rules_joined.Holds := by
  w_on; o_law; k_head; (case hw => w_witness2)
  k_fill
  refine SLEnd.walk_tab (l := PySem.Challenge.rw_surelabels_k12_rules_joined) (n := 63) (k := 17) (x := "script") (CX := fun _ => L2.CX0) rfl (by decide) rfl ⟨rfl, by decide, by decide⟩ (fun w h Y => PySem.W.km_in_of Y) ?F (fun _ _ _ _ _ h => h)
  case F =>
    intro w mg fa h KX TT G hmg
    refine' K12.all_mk TT KX G hmg ?h0 ?h1 ?h2 ?h3 ?h4 ?h5 ?h6 ?h7 ?h8 ?h9 ?h10 ?h11 ?h12 ?h13 ?h14 ?h15 ?h16 ?h17 ?h18 ?h19 ?h20 ?h21 ?h22 ?h23 ?h24 ?h25 ?h26 ?h27 ?h28 ?h29 ?h30 ?h31 ?h32 ?h33 ?h34 ?h35 ?h36 ?h37 ?h38 ?h39 ?h40 ?h41 ?h42 ?h43 ?h44 ?h45 ?h46 ?h47 ?h48 ?h49 ?h50 ?h51 ?h52 ?h53 ?h54 ?h55 ?h56 ?h57 ?h58 ?h59 ?h60 ?h61 ?h62 ?h63 ?h64 ?h65 ?h66 ?h67 ?h68 ?h69 ?h70 ?h71 ?h72 ?h73 ?h74 ?h75 ?h76 ?h77 ?h78 ?h79 ?h80 ?h81 ?h82 ?h83 ?h84 ?h85 ?h86 ?h87 ?h88 ?h89 ?h90 ?h91 ?h92 ?h93 ?h94 ?h95 ?h96 ?h97 ?h98 ?h99 ?h100 ?h101 ?h102 ?h103 ?h104 ?h105 ?h106 ?h107 ?h108 ?h109 ?h110 ?h111 ?h112 ?h113 ?h114 ?h115 ?h116 ?h117 ?h118 ?h119 ?h120 ?h121 ?h122 ?h123 ?h124 ?h125 ?h126 ?h127 ?h128 ?h129 ?h130 ?h131 ?h132 ?h133 ?h134 ?h135 ?h136 ?h137 ?h138 ?h139 ?h140 ?h141 ?h142 ?h143 ?h144 ?h145 ?h146 ?h147 ?h148 ?h149 ?h150 ?h151 ?h152 ?h153 ?h154 ?h155 ?h156 ?h157 ?h158 ?h159 ?h160 ?h161 ?h162 ?h163 ?h164 ?h165 ?h166 ?h167 ?h168 ?h169 ?h170 ?h171 ?h172 ?h173 ?h174 ?h175 ?h176 ?h177 ?h178 ?h179 ?h180 ?h181 ?h182 ?h183 ?h184 ?h185 ?h186 ?h187 ?h188 ?h189 ?h190 ?h191 ?h192 ?h193 ?h194 ?h195 ?h196 ?h197 ?h198 ?h199 ?h200 ?h201 ?h202 ?h203 ?h204 ?h205 ?h206 ?h207 ?h208 ?h209 ?h210 ?h211 ?h212 ?h213 ?h214 ?h215 ?h216 ?h217 ?h218 ?h219 ?h220 ?h221 ?h222 ?h223 ?h224 ?h225 ?h226 ?h227 ?h228 ?h229 ?h230 ?h231 ?h232 ?h233 ?h234 ?h235 ?h236 ?h237 ?h238 ?h239 ?h240 ?h241 ?h242 ?h243 ?h244 ?h245 ?h246 ?h247 ?h248
    (case h0 => k_is)
    (case h1 => k_is)
    (case h2 => ks_is)
    (case h3 => k_is)
    (case h4 => k_is)
    (case h5 => k_is)
    (case h6 => k_is)
    (case h7 => k_is)
    (case h8 => k_is)
    (case h9 => k_is)
    (case h10 => k_is)
    (case h11 => k_is)
    (case h12 => k_is)
    (case h13 => rfl)
    (case h14 => decide +kernel)
    (case h15 => k_is)
    (case h16 => k_is)
    (case h17 => k_is)
    (case h18 => k_is)
    (case h19 => k_is)
    (case h20 => k_is)
    (case h21 => k_is)
    (case h22 => k_is)
    (case h23 => k_is)
    (case h24 => ks_is)
    (case h25 => k_is)
    (case h26 => k_is)
    (case h27 => k_is)
    (case h28 => k_is)
    (case h29 => k_is)
    (case h30 => k_is)
    (case h31 => k_is)
    (case h32 => k_is)
    (case h33 => k_is)
    (case h34 => k_is)
    (case h35 => rfl)
    (case h36 => decide +kernel)
    (case h37 => k_is)
    (case h38 => k_is)
    (case h39 => k_is)
    (case h40 => k_is)
    (case h41 => k_is)
    (case h42 => k_is)
    (case h43 => k_is)
    (case h44 => k_is)
    (case h45 => k_is)
    (case h46 => k_is)
    (case h47 => k_is)
    (case h48 => k_is)
    (case h49 => k_is)
    (case h50 => k_is)
    (case h51 => k_is)
    (case h52 => k_is)
    (case h53 => k_is)
    (case h54 => k_is)
    (case h55 => k_is)
    (case h56 => k_is)
    (case h57 => k_is)
    (case h58 => k_is)
    (case h59 => k_is)
    (case h60 => k_is)
    (case h61 => k_is)
    (case h62 => k_is)
    (case h63 => k_is)
    (case h64 => k_is)
    (case h65 => k_is)
    (case h66 => k_is)
    (case h67 => k_is)
    (case h68 => k_is)
    (case h69 => k_is)
    (case h70 => k_is)
    (case h71 => k_is)
    (case h72 => k_is)
    (case h73 => k_is)
    (case h74 => k_is)
    (case h75 => k_is)
    (case h76 => k_is)
    (case h77 => k_is)
    (case h78 => k_is)
    (case h79 => k_is)
    (case h80 => k_is)
    (case h81 => k_is)
    (case h82 => k_is)
    (case h83 => k_is)
    (case h84 => k_is)
    (case h85 => k_is)
    (case h86 => k_is)
    (case h87 => k_is)
    (case h88 => k_is)
    (case h89 => k_is)
    (case h90 => k_is)
    (case h91 => k_is)
    (case h92 => k_is)
    (case h93 => k_is)
    (case h94 => k_is)
    (case h95 => k_is)
    (case h96 => k_is)
    (case h97 => k_is)
    (case h98 => k_is)
    (case h99 => k_is)
    (case h100 => k_is)
    (case h101 => k_is)
    (case h102 => k_is)
    (case h103 => k_is)
    (case h104 => k_is)
    (case h105 => k_is)
    (case h106 => k_is)
    (case h107 => k_is)
    (case h108 => k_is)
    (case h109 => k_is)
    (case h110 => k_is)
    (case h111 => k_is)
    (case h112 => k_is)
    (case h113 => k_is)
    (case h114 => rfl)
    (case h115 => kernel_rfl)
    (case h116 => rfl)
    (case h117 => k_is)
    (case h118 => k_is)
    (case h119 => k_is)
    (case h120 => k_is)
    (case h121 => k_is)
    (case h122 => rfl)
    (case h123 => kernel_rfl)
    (case h124 => rfl)
    (case h125 => k_is)
    (case h126 => k_is)
    (case h127 => k_is)
    (case h128 => k_is)
    (case h129 => k_is)
    (case h130 => k_is)
    (case h131 => k_is)
    (case h132 => k_is)
    (case h133 => k_is)
    (case h134 => k_is)
    (case h135 => k_is)
    (case h136 => k_is)
    (case h137 => k_is)
    (case h138 => k_is)
    (case h139 => k_is)
    (case h140 => k_is)
    (case h141 => k_is)
    (case h142 => k_is)
    (case h143 => k_is)
    (case h144 => k_is)
    (case h145 => k_is)
    (case h146 => k_is)
    (case h147 => k_is)
    (case h148 => k_is)
    (case h149 => k_is)
    (case h150 => k_is)
    (case h151 => k_is)
    (case h152 => k_is)
    (case h153 => k_is)
    (case h154 => k_is)
    (case h155 => k_is)
    (case h156 => k_is)
    (case h157 => k_is)
    (case h158 => k_is)
    (case h159 => k_is)
    (case h160 => k_is)
    (case h161 => k_is)
    (case h162 => k_is)
    (case h163 => k_is)
    (case h164 => k_is)
    (case h165 => k_is)
    (case h166 => k_is)
    (case h167 => k_is)
    (case h168 => k_is)
    (case h169 => k_is)
    (case h170 => k_is)
    (case h171 => k_is)
    (case h172 => k_is)
    (case h173 => k_is)
    (case h174 => k_is)
    (case h175 => k_is)
    (case h176 => k_is)
    (case h177 => k_is)
    (case h178 => k_is)
    (case h179 => k_is)
    (case h180 => k_is)
    (case h181 => k_is)
    (case h182 => k_is)
    (case h183 => k_is)
    (case h184 => k_is)
    (case h185 => k_is)
    (case h186 => rfl)
    (case h187 => kernel_rfl)
    (case h188 => rfl)
    (case h189 => k_is)
    (case h190 => k_is)
    (case h191 => k_is)
    (case h192 => k_is)
    (case h193 => k_is)
    (case h194 => k_is)
    (case h195 => k_is)
    (case h196 => k_is)
    (case h197 => k_is)
    (case h198 => k_is)
    (case h199 => k_is)
    (case h200 => k_is)
    (case h201 => k_is)
    (case h202 => k_is)
    (case h203 => k_is)
    (case h204 => k_is)
    (case h205 => k_is)
    (case h206 => k_is)
    (case h207 => k_is)
    (case h208 => k_is)
    (case h209 => k_is)
    (case h210 => k_is)
    (case h211 => k_is)
    (case h212 => k_is)
    (case h213 => k_is)
    (case h214 => k_is)
    (case h215 => k_is)
    (case h216 => k_is)
    (case h217 => k_is)
    (case h218 => k_is)
    (case h219 => k_is)
    (case h220 => k_is)
    (case h221 => k_is)
    (case h222 => k_is)
    (case h223 => k_is)
    (case h224 => k_is)
    (case h225 => k_is)
    (case h226 => k_is)
    (case h227 => k_is)
    (case h228 => k_is)
    (case h229 => k_is)
    (case h230 => kit_is)
    (case h231 => kit_is)
    (case h232 => kit_is)
    (case h233 => kit_is)
    (case h234 => kit_is)
    (case h235 => kit_is)
    (case h236 => kit_is)
    (case h237 => k_is)
    (case h238 => k_is)
    (case h239 => kernel_rfl)
    (case h240 => k_is)
    (case h241 => k_is)
    (case h242 => k_is)
    (case h243 => k_is)
    (case h244 => k_is)
    (case h245 => k_is)
    (case h246 => decide)
    (case h247 => decide)
    (case h248 => decide)
