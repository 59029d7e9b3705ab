import PyProof.Rows.All
import Wide.All
import OpenK.AllK
import Wide.FinOn
import PyProof.EqAt
import PyProof.EqKinds
import PyProof.TupleCall
import PyProof.FString
import PyProof.FString4
import KE.KExcSuper
import HandS.Base
import HandS.Call
import HandS.Exc
import HandS.ExcInit
import HandS.ForMost
import HandS.ExcOwn
import HandS.WordsExc
import HandS.IsInst
import HandS.TupAny
import HandS.List
import HandS.Comp
import HandS.Iter
import HandS.Style
import HandS.Zip
import HandS.Walk
import HandS.Evl
import HandS.RevRange
import HandS.WideBits
import PyProof.EnumStmt
import PyProof.EnumMake
import PyProof.Draws
import KE.GoesMore
import HandS.Zip0
import HandS.DictComp
import PyProof.ListStr
import PyProof.ListIndex
import HandS.Text
import HandS.More
import PyProof.Rows.SortStr
import PyProof.Rows.SortKeyStr
import HandS.SortInts
import HandS.SortKw
import HandS.Sort
import HandS.SortOrd
import HandS.SortRule
import HandS.TupSets
import HandS.TupMul
import HandS.OwnEq
import PyProof.InstNe
import HandS.Steps
import PyProof.ZipIter
import PyProof.ListNew
import PyProof.WalkInts
import KE.KTupSum
import PyProof.SumAny
import PySem.Challenge.RW_surelabels_k33_rows_that_rest
import HandS.Codes
import HandS.Deep
import HandS.Small
import HandS.Dict
set_option Elab.async false
set_option linter.all false
set_option maxRecDepth 100000
set_option maxHeartbeats 4000000
/-! An own error class whose __init__ says super().__init__(message) and keeps one field: made, raised, caught, its field read. -/
namespace PySem
namespace SLX
open PySem.W PySem.Calls PyProof.Rows PySem.HandSPX
/-- the message, evaluated where the one parameter stands: nothing but tokens changes -/
def MsgOk (prog : Program) (w : World) (sc : Scope) (par : Str) (msg : Expr) (okv : Value → Prop) : Prop :=
  ∀ (A : Around) (E : Value → Shared → Prop) (s : Shared) (env : Env) (m : Str → Option Value) (v : Value) (Q : Value → Shared → Prop), env.scope = sc → s.heap.Ns env.locals m → m par = some v → okv v → (∀ u t, Q u { s with toks := t }) →
    wpAny (model prog w) A (eval msg env) Q E s
theorem msg_const {prog : Program} {w : World} {sc : Scope} {par x : Str} {j : Nat} {p : Pos} {okv : Value → Prop} : MsgOk prog w sc par (.Constant (.str x) j p) okv :=
  fun A E s env m v Q _ _ _ _ h => Calls.Constant_str (h _ _)
/-- f'..{part!r}' -/
theorem msg_repr {prog : Program} {w : World} {sc : Scope} {par x : Str} {j : Nat} {p1 p2 p3 p4 : Pos} (hk : sc.kind = .function) (hl : sc.names.lookup par = some .local) (hd : (par == ("__debug__" : Str)) = false) (hx : x.length ≤ 1000) :
    MsgOk prog w sc par (.JoinedStr [.Constant (.str x) j p1, .FormattedValue (.Name par p2) 114 none p3] p4) (fun v => ∃ (y : Str) (t : Tok), v = .str y t ∧ (reprText y).length ≤ 1000) := by
  intro A E s env m v Q hs hn hv ho h
  obtain ⟨y, t, rfl, hy⟩ := ho
  subst hs
  have z1 : (1000 : Nat) ≤ sizeLine := by rw [sizeLine_eq]; decide
  have z2 : (2000 : Nat) ≤ sizeLine := by rw [sizeLine_eq]; decide
  have hyl : (reprText y).length ≤ sizeLine := Nat.le_trans hy z1
  have app : ∀ a b : Str, (a ++ b).length = a.length + b.length := fun a b => by
    show (a.cps ++ b.cps).size = a.cps.size + b.cps.size
    exact Array.size_append
  have e0 : (Str.empty : Str).length = 0 := rfl
  refine wpAny_JoinedStr ?_
  show wpAny _ _ (eval (.Constant (.str x) j p1) env) _ _ _
  refine Calls.Constant_str ?_
  refine ⟨x, s.toks, rfl, by rw [app, e0]; omega, ?_⟩
  show wpAny _ _ (eval (.FormattedValue (.Name par p2) 114 none p3) env) _ _ _
  refine wpAny_FormattedValue_repr ?_
  refine wpAny_Name (wpAny_loadName_local hk hl hn hv ?_) hd
  refine pyReprObj_str ?_ hyl
  refine wpAny_formatField_str ?_ ?_ hyl
  · refine ⟨reprText y, _, rfl, by rw [app, app, e0]; omega, ?_⟩
    exact ⟨by rw [app, app, e0]; omega, h _ _⟩
  · refine ⟨reprText y, _, rfl, by rw [app, app, e0]; omega, ?_⟩
    exact ⟨by rw [app, app, e0]; omega, h _ _⟩

/-! ### the text of __init__ -/
def iP (par : Str) (p1 p2 : Pos) : Arguments := { posonlyargs := [], args := [{ arg := "self", annotation := none, pos := p1 }, { arg := par, annotation := none, pos := p2 }], vararg := none, kwonlyargs := [], kw_defaults := [], kwarg := none, defaults := [] }
def iB (fld par : Str) (msg : Expr) (q1 q2 q3 q4 q5 q6 q7 q8 q9 : Pos) : List Stmt :=
  [.Expr (.Call (.Attribute (.Call (.Name "super" q1) [] [] q2) "__init__" q3) [msg] [] q4) q5, .Assign [.Attribute (.Name "self" q6) fld q7] (.Name par q8) q9]
def iS (par : Str) : Scope := { kind := .function, names := [(PySem.Str.ofString "self", .local), (par, .local), (PySem.Str.ofString "__class__", .free), (PySem.Str.ofString "super", .globalImplicit)], isGenerator := false, isCoroutine := false, more := [] }
/-- super().__init__(msg), as the evaluator takes it -/
def CallForm (msg : Expr) (q1 q2 q3 q4 : Pos) : Prop := ∀ env : Env, ∃ pl : Sem Bool, eval (.Call (.Attribute (.Call (.Name "super" q1) [] [] q2) "__init__" q3) [msg] [] q4) env = (do
  let ov ← attributeBase (.Call (.Name "super" q1) [] [] q2) "__init__" env (eval (.Call (.Name "super" q1) [] [] q2) env)
  standAt q3.atName
  let (f, first) ← holding [ov] (getMethod ov "__init__" pl)
  callWith q4 f first (backTo q4 (starEach [msg] env)) [])
/-- what the written part says of the class cn, at C, and of its __init__, at fI; vok: the values that its message can show -/
structure ExTxt (K : Frag) (mg : Str → Option Value) (prog : Program) (w : World) (cn fld par : Str) (vok : Value → Prop) (C fI : Addr) : Prop where
  gC : mg cn = some (.ref C)
  cls : ∃ nm q N bs bm sn sub ab col dd k0 k1 k2 k3 k5, K.lookup C = some (excClassObj nm q C N bs bm true sn sub ab col dd k0 k1 k2 k3 k5 "ValueError.__new__") ∧ refsVE bm = true ∧ alongIn K "__init__" bm = some (some (.builtin "ValueError.__init__"))
  sa : findIn K (.ref C) "__setattr__" = some (some (.builtin "object.__setattr__"))
  ga : findIn K (.ref C) "__getattribute__" = some (some (.builtin "BaseException.__getattribute__"))
  gg : findIn K (.ref C) "__getattr__" = some none
  noN : findIn K (.ref C) fld = some none
  iC : findIn K (.ref C) "__init__" = some (some (.ref fI))
  tC : typeIn K (.ref fI) = some (.type "function")
  kC : keepIn K (.ref C) = true
  exC : subIn K (.ref C) (.type "BaseException") = some true
  veC : subIn K (.ref C) (.type "ValueError") = some true
  tyC : typeIn K (.ref C) = some (.type "type")
  hdC : hasDictIn K C = true
  selfC : mroIn K C (.ref C) = some true
  opq : nsIn K cStatics "thirdparty.any" = some none
  sup : mg "super" = none
  fn : ∃ (oc : Value) (od : Option Addr) (qual : Str) (kV doc pm : Value) (an : Option Addr) (ct : Value) (osl : Array (Option Value)) (cc cda : Addr) (msg : Expr) (p1 p2 q1 q2 q3 q4 q5 q6 q7 q8 q9 : Pos) (cl ccl : Value) (cld cdd : Option Addr) (csl ccs : Array (Option Value)) (vs : Array Value) (file : Str) (tf : Tok),
    K.lookup fI = some ⟨oc, od, .func (ksFn "__init__" qual (iP par p1 p2) (iB fld par msg q1 q2 q3 q4 q5 q6 q7 q8 q9) (iS par) .none kV doc pm an (.ref cda) ct cc), osl⟩ ∧ codeIn K (.ref cda) qual = true ∧
    K.lookup cc = some ⟨cl, cld, .cell (some (.ref C)), csl⟩ ∧ K.lookup cda = some ⟨ccl, cdd, .fields vs, ccs⟩ ∧ vs[2]? = some (.str file tf) ∧ ((prog.main.file : Str) == file) = true ∧ MsgOk prog w (iS par) par msg vok ∧
    (∀ env, starEach [msg] env = (false, eval msg env) :: starEach [] env) ∧ CallForm msg q1 q2 q3 q4 ∧ ∀ a b : Value, bindArgs (ksFn "__init__" qual (iP par p1 p2) (iB fld par msg q1 q2 q3 q4 q5 q6 q7 q8 q9) (iS par) .none kV doc pm an (.ref cda) ct cc) ⟨[a, b], []⟩ = pure [(PySem.Str.ofString "self", a), (par, b)]
  okN : par ≠ ("self" : Str) ∧ par ≠ ("__class__" : Str) ∧ par ≠ ("super" : Str) ∧ (par == ("__debug__" : Str)) = false
  top : (prog.main.scope.names.lookup ("super" : Str)).isSome = false
theorem one_size (v : Value) : [v].length ≤ sizeLine := by
  rw [sizeLine_eq]
  exact (by decide : 1 ≤ 16777216)
/-- what __init__ leaves of a fresh exception at x -/
structure InitEnd (h h' : Heap) (x C dx t1 : Addr) (fld : Str) (v : Value) : Prop where
  keep : ∀ b o, b ≠ x → h.get? b = some o → h'.get? b = some o
  obj : h'.get? x = some { cls := .ref C, dict := some dx, data := .fields #[.ref t1, .none, .none, .none, .bool false, .none] }
  dbig : h.objs.size ≤ dx
  dne : dx ≠ x
  ns : h'.Ns1 dx (fun y => if y = fld then some v else none)
theorem kept_but {K : Frag} {h h' : Heap} {x : Addr} (X : K.In h) (hx : K.lookup x = none) (k : ∀ b o, b ≠ x → h.get? b = some o → h'.get? b = some o) : K.In h' := fun a o e =>
  k a o (fun z => by rw [z, hx] at e; cases e) (X a o e)
section
variable {prog : Program} {w : World} {A : Around} {E : Value → Shared → Prop} {R : Result → Shared → Prop} {s : Shared} {K : Frag} {mg mb : Str → Option Value} {cn fld par : Str} {vok : Value → Prop} {C fI : Addr}
/-- the wrapper called: the exception's args are laid anew -/
theorem call_mw {h : Heap} {g : Array GenState} {d : Drawn} {t : Nat} {os : OsState} {nm q : Str} {N : Addr} {bs bm : List Value} {sn : List Str} {sub : List Value} {ab : Bool} {col : Option Bool} {dd : Option Addr} {k0 k1 k2 k3 k5 : Option Value}
    {u x t0 : Addr} {rest : List Value} {Q : Value → Shared → Prop} (hC : h.get? C = some (excClassObj nm q C N bs bm true sn sub ab col dd k0 k1 k2 k3 k5 "ValueError.__new__")) (hbm : refsVE bm = true) (he : h.get? x = some (excO C t0))
    (hu : h.get? u = some (kxs_mw "ValueError.__init__" x)) (hz : rest.length ≤ sizeLine)
    (hq : ∀ h' t1, (∀ b o, b ≠ x → h.get? b = some o → h'.get? b = some o) → h'.get? x = some (excO C t1) → Q .none ⟨h', g, d, t, os⟩) :
    wpAny (model prog w) A (call (.ref u) rest) Q E ⟨h, g, d, t, os⟩ := by
  refine wpAny_call (codeAny_of_tree ?_)
  show wpAny _ A.in1 (callAny (.ref u) ⟨rest, []⟩) _ _ _
  simp only [callAny]
  refine wpAny_bind (wpAny_load hu ?_)
  simp only [kxs_mw, show (Value.type "method-wrapper" == Value.type "method" || Value.type "method-wrapper" == Value.type "builtin_function_or_method" || Value.type "method-wrapper" == Value.type "method-wrapper") = true by decide, if_true]
  refine KFB.if_so (by decide) ?_
  refine wpAny_bind (check_bound_init F.excBase_ValueError.toExcCallFacts hC he rfl ?_)
  refine wpAny_bind (wpAny_pure (wpAny_pure ?_))
  refine ⟨plainId_quiet F.excBase_ValueError.init.plain _, codeAny_builtin F.excBase_ValueError.initEntry ?_⟩
  exact exc_init_tree (cls := .ref C) (t0 := t0) (dv := none) (c2 := .none) (c3 := .none) (b4 := .bool false) he hz fun h' k e' _ => hq h' _ k e'

theorem own_init (T : ExTxt K mg prog w cn fld par vok C fI) {x t0 : Addr} {v : Value} (hvok : vok v) (X : K.In s.heap) (hlim : s.heap.NoLimit) (hg : s.heap.Ns mainGlobals mg) (hb : s.heap.Ns builtinsNs mb) (hbb : ∀ y : Str, y ≠ "__name__" → mb y = bootBuiltins y)
    (hx : s.heap.get? x = some (excO C t0)) (hnx : K.lookup x = none) (hroom : A.depth < recursionLimit)
    (hq : ∀ h' tk dx t1, InitEnd s.heap h' x C dx t1 fld v → R (.ok (.ret .none)) { s with heap := h', toks := tk }) :
    codeAny (model prog w) A (.call (.ref fI) ⟨[.ref x, v], []⟩) R s := by
  obtain ⟨oc, od, qual, kV, doc, pm, an, ct, osl, cc, cda, msg, p1, p2, q1, q2, q3, q4, q5, q6, q7, q8, q9, cl, ccl, cld, cdd, csl, ccs, vs, file, tf, ho, hcd, hcc, hcda, hvs, hfile, hmsg, hstar, hform, hbd⟩ := T.fn
  obtain ⟨nm, q, N, bs, bm, sn, sub, ab, col, dd, k0, k1, k2, k3, k5, hC, hbm, hal⟩ := T.cls
  obtain ⟨n1, n2, n3, n4⟩ := T.okN
  have hcl : clsIn K C = some { name := nm, bases := bs, mro := .ref C :: bm, ns := N, qualname := q, hasDict := true, slotNames := sn, subclasses := sub, abstract := ab, collection := col, hasDel := false } := by unfold clsIn; rw [hC] <;> rfl
  have hxs : s.heap.objs.size ≠ x := Nat.ne_of_gt (Heap.lt_size hx)
  have par1 : List.lookup par (iS par).names = some .local := by
    show List.lookup par [(PySem.Str.ofString "self", _), (par, _), _, _] = _
    have e : (par == ("self" : Str)) = false := by simpa using n1
    simp [List.lookup, e]
  have cls1 : List.lookup ("__class__" : Str) (iS par).names = some .free := by
    show List.lookup ("__class__" : Str) [(PySem.Str.ofString "self", _), (par, _), (PySem.Str.ofString "__class__", _), _] = _
    have e1 : (("__class__" : Str) == ("self" : Str)) = false := by decide
    have e2 : (("__class__" : Str) == par) = false := by simpa using Ne.symm n2
    simp [List.lookup, e1, e2]
  have sup1 : List.lookup ("super" : Str) (iS par).names = some .globalImplicit := by
    show List.lookup ("super" : Str) [(PySem.Str.ofString "self", _), (par, _), (PySem.Str.ofString "__class__", _), (PySem.Str.ofString "super", _)] = _
    have e1 : (("super" : Str) == ("self" : Str)) = false := by decide
    have e2 : (("super" : Str) == par) = false := by simpa using Ne.symm n3
    have e3 : (("super" : Str) == ("__class__" : Str)) = false := by decide
    simp [List.lookup, e1, e2, e3]
  have hbind : BindsTo s (ksFn "__init__" qual (iP par p1 p2) (iB fld par msg q1 q2 q3 q4 q5 q6 q7 q8 q9) (iS par) .none kV doc pm an (.ref cda) ct cc) ⟨[.ref x, v], []⟩ [("self", .ref x), (par, v)] := BindsTo.of_eq (hbd _ _)
  refine ks_codeAny_call_defAt (binds := [("self", .ref x), (par, v)]) hroom (X _ _ ho) rfl hlim (codeRec_of X hcd) rfl hbind (fun y hy => ?_) (fun y hy => ?_) (fun h₀ hns hk => ?_) rfl rfl rfl
  · have hy' : y ∈ [(PySem.Str.ofString "self", NameKind.local), (par, .local), (PySem.Str.ofString "__class__", .free), (PySem.Str.ofString "super", .globalImplicit)] := hy
    simp only [List.mem_cons, List.not_mem_nil, or_false] at hy'
    rcases hy' with rfl | rfl | rfl | rfl <;> exact fun z => nomatch z
  · simp only [List.mem_cons, List.not_mem_nil, or_false] at hy
    rcases hy with rfl | rfl
    · rfl
    · exact par1
  have hlook : List.lookup par [(par, v), (("self" : Str), Value.ref x)] = some v := by simp [List.lookup]
  have hlookS : List.lookup ("self" : Str) [(par, v), (("self" : Str), Value.ref x)] = some (.ref x) := by
    have e : ((("self" : Str) : Str) == par) = false := by simpa using Ne.symm n1
    simp [List.lookup, e]
  have X0 : K.In h₀ := X.keeps hk
  have hx0 := hk _ _ hx
  show wpAt (model prog w) _ _ (execs (iB fld par msg q1 q2 q3 q4 q5 q6 q7 q8 q9) _) _ _ _
  refine ks_wpAt_execs_cons ?_
  refine ks_wpAt_Expr_any ?_
  obtain ⟨pl, hpl⟩ := hform (callEnv (ksFn "__init__" qual (iP par p1 p2) (iB fld par msg q1 q2 q3 q4 q5 q6 q7 q8 q9) (iS par) .none kV doc pm an (.ref cda) ct cc) s.heap.objs.size fI)
  refine ks_wpAt_MethodCall (pl := pl) ?_ hpl
  refine ks_wpAt_super_base (f := fI) (cc := cda) sup1 cls1 (by decide) rfl (X0 _ _ ho) rfl rfl rfl (X0 _ _ hcda) rfl hvs hfile T.top ?_
  refine ks_loadName_global rfl sup1 (loadGlobal_builtin (mg := mg) (mb := mb) (hg.keeps hk) T.sup (hb.keeps hk) ((hbb "super" (by decide)).trans PyProof.Rows.Boot.«super») ⟨rfl, ?_⟩)
  refine wpAny_loadName_free rfl cls1 (c := cc) rfl ⟨_, X0 _ _ hcc, rfl⟩ ?_
  refine wpAny_loadName_local rfl rfl hns hlookS ?_
  refine ks_wpAny_isType_cls (X0 _ _ hC) rfl ⟨rfl, ?_⟩
  refine ks_wpAny_call_super (X0 _ _ hC) rfl hx0 rfl (fun c z => nomatch z) (looks_mroIn X0 T.selfC) (fun h1 e1 k1 => ?_)
  have X1 : K.In h1 := X0.keeps k1
  have hx1 := k1 _ _ hx0
  have hxC : x ≠ C := fun z => by
    rw [z] at hnx
    have hC' : List.lookup C K = none := hnx
    rw [hC] at hC'
    cases hC'
  have I1 : InstAt h1 x (excO C t0) C none := ⟨hx1, rfl, rfl, trivial⟩
  have hI : Looks (model prog w) h1 (isInstance (.ref x) (.type "ValueError")) true := I1.type.andThen (looks_subIn X1 T.veC)
  refine kxs_getMethod kxs_ValueError (l₀ := .ref C :: bm) (l := bm) e1 (looks_opaque X1 T.opq) ((looks_clsIn X1 hcl).andThen .now) (by simp [List.dropWhile_cons]) X1 hal hI hxC (by decide) ?_
  show wpAny (model prog w) _ (callWith q4 (.ref h1.objs.size) [] (backTo q4 (starEach [msg] _)) []) _ _ _
  have kp : ∀ b o, h1.get? b = some o → (h1.push (kxs_mw "ValueError.__init__" x)).get? b = some o := fun b o e => Heap.get?_push_of_some _ e
  have hup : (h1.push (kxs_mw "ValueError.__init__" x)).get? h1.objs.size = some (kxs_mw "ValueError.__init__" x) := Heap.get?_push_at rfl rfl
  refine kxs_callWith (i := "ValueError.__init__") (x := x) (by rw [hstar]; rfl) ?_
  rw [hstar]
  refine evalArgs_plain ?_
  refine Calls.spliced_cons (hmsg _ _ _ _ _ v _ rfl ((hns.keeps k1).keeps kp) hlook hvok fun u tk => ?_)
  refine Calls.spliced_nil ⟨hup, ?_⟩
  refine call_mw (kp _ _ (X1 _ _ hC)) hbm (kp _ _ hx1) hup (one_size _) fun h2 t1 k2 e2 => ?_
  have X2 : K.In h2 := kept_but (X1.keeps kp) hnx k2
  have hL : s.heap.objs.size ≠ x := hxs
  have hn2 : h2.Ns s.heap.objs.size (fun y => List.lookup y ([("self", Value.ref x), (par, v)] : List (Str × Value)).reverse) := by
    obtain ⟨oL, es, ep, hLo, r⟩ := (hns.keeps k1).keeps kp
    exact ⟨oL, es, ep, k2 _ _ hL hLo, r⟩
  show wpAt (model prog w) _ _ (execs _ _) _ _ _
  refine wpAt_of_wpAny (wpAny_execs_cons (plainObj_wpAny_Assign_Attribute ?_))
  refine wpAny_Name (wpAny_loadName_local rfl par1 hn2 hlook ?_) n4
  refine wpAny_Name (wpAny_loadName_local rfl rfl hn2 hlookS ?_) (by decide)
  refine set_plain X2 (ox := excO C t1) (od := none) ⟨e2, rfl, rfl, trivial⟩ T.sa ?_
  refine exc_osa X2 e2 hcl (show refsVE (.ref C :: bm) = true from hbm) rfl T.noN (fun h3 tk3 dx k3 dn dne hx3 hn3 => ?_)
  have old : ∀ b o, b ≠ x → s.heap.get? b = some o → h2.get? b = some o := fun b o hbx e => k2 b o hbx (kp _ _ (k1 _ _ (hk _ _ e)))
  have z : s.heap.objs.size ≤ h2.objs.size := Nat.le_of_lt hn2.lt
  exact wpAny_execs_nil (hq h3 tk3 dx t1 ⟨fun b o hbx e => k3 b o hbx (old b o hbx e), hx3, Nat.le_trans z dn, dne, hn3⟩)

/-- a made error -/
structure OwnMade (h h' : Heap) (e C d : Addr) (fld : Str) (v : Value) : Prop where
  keep : ∀ b o, h.get? b = some o → h'.get? b = some o
  new : h.objs.size ≤ e
  obj : ∃ oe vs, h'.get? e = some oe ∧ oe.cls = .ref C ∧ oe.dict = some d ∧ oe.data = .fields vs ∧ vs[1]? = some .none
  dbig : h.objs.size ≤ d
  dne : d ≠ e
  ns : h'.Ns1 d (fun y => if y = fld then some v else none)
theorem own_made (T : ExTxt K mg prog w cn fld par vok C fI) {v : Value} (hvok : vok v) (X : K.In s.heap) (hlim : s.heap.NoLimit) (hg : s.heap.Ns mainGlobals mg) (hb : s.heap.Ns builtinsNs mb) (hbb : ∀ y : Str, y ≠ "__name__" → mb y = bootBuiltins y)
    (hroom : A.depth + 1 < recursionLimit) (hq : ∀ h' tk e d, OwnMade s.heap h' e C d fld v → R (.ok (.ret (.ref e))) { s with heap := h', toks := tk }) :
    codeAny (model prog w) A (.call (.ref C) ⟨[v], []⟩) R s := by
  obtain ⟨nm, q, N, bs, bm, sn, sub, ab, col, dd, k0, k1, k2, k3, k5, hC, hbm, _⟩ := T.cls
  obtain ⟨hp, g, dr, tk, os⟩ := s
  have k : ∀ b o, hp.get? b = some o → ((hp.push (kdv_tup [v])).push (excO C hp.objs.size)).get? b = some o := fun b o e => Heap.get?_push_of_some _ (Heap.get?_push_of_some _ e)
  have hget : ((hp.push (kdv_tup [v])).push (excO C hp.objs.size)).get? (hp.objs.size + 1) = some (excO C hp.objs.size) := by heap_get
  have hnx : K.lookup (hp.objs.size + 1) = none := by
    cases e : K.lookup (hp.objs.size + 1) with
    | none => rfl
    | some o =>
      have z : hp.get? (hp.objs.size + 1) = some o := X _ _ e
      exact absurd (Nat.lt_of_succ_lt (Heap.lt_size z)) (Nat.lt_irrefl _)
  refine call_own F.excBase_ValueError (fun Y => refsVE_contains Y bm hbm) (X _ _ hC) (looks_findIn X T.iC) (fun self => bind_fn X self T.tC) (one_size v) ?_
  refine own_init (s := ⟨(hp.push (kdv_tup [v])).push (excO C hp.objs.size), g, dr, tk, os⟩) T hvok (X.keeps k) (hlim.keeps k) (hg.keeps k) (hb.keeps k) hbb hget hnx ?_ fun h' tk' dx t1 ⟨k', hx, dn, dne, hns⟩ => ?_
  · show A.depth + 1 < recursionLimit
    exact hroom
  · have old : ∀ b o, hp.get? b = some o → h'.get? b = some o := fun b o e => k' b o (Nat.ne_of_lt (Nat.lt_succ_of_lt (Heap.lt_size e))) (k b o e)
    have z : hp.objs.size + 1 + 1 ≤ dx := by
      first
        | (simpa only [Heap.size_push] using dn)
        | exact dn
        | (have q := dn; rw [Heap.size_push, Heap.size_push] at q; exact q)
    exact ⟨rfl, hq h' tk' (hp.objs.size + 1) dx ⟨old, Nat.le_succ _, ⟨_, _, hx, rfl, rfl, rfl, rfl⟩, Nat.le_trans (Nat.le_trans (Nat.le_succ _) (Nat.le_succ _)) z, dne, hns⟩⟩
end
end SLX
end PySem
namespace L2
open PySem PySem.Spec PyProof.Rows
theorem relO_one {v : V} {v' : Value} {fld : Str} (r : RelV v v') (f : Str) : RelO (List.lookup f [(fld, v)]) (if f = fld then some v' else none) := by
  by_cases hw : f = fld
  · subst hw
    rw [if_pos rfl]
    have q : List.lookup f [(f, v)] = some v := by simp [List.lookup]
    rw [q]
    exact r
  · rw [if_neg hw]
    have qw : (f == fld) = false := by simpa using hw
    have q2 : List.lookup f [(fld, v)] = none := by simp [List.lookup, qw]
    rw [q2]
    trivial
section
variable {X : Cx} {C fI : Addr} {cn fld par : Str} {vok : Value → Prop}
/-- C(e), the error's own dict d new -/
def tMkEx (C : Addr) (fld : Str) (vok : Value → Prop) (ta : TA) : St → Hp → XK → Prop := fun σ H Q => ta σ H fun vs H1 => ∃ v, vs = [v] ∧ (∀ u, RelV v u → vok u) ∧ ∀ d, H1 d = none → Q (.ref C) (some d) (upd H1 d (.xd [(fld, v)]))
theorem pmk_ex {a : Expr} {ta : TA} {p pos : Pos} {k : Nat} (T : PySem.SLX.ExTxt X.K X.mg X.prog X.w cn fld par vok C fI) (hr : Room k X.A) (ha : PA X [a] ta) (hg : Gl X cn := by rfl) (hdb : (cn == ("__debug__" : Str)) = false := by decide)
    (he : starEach (a :: []) X.env = (false, eval a X.env) :: starEach [] X.env := by rfl) (hpl : (backTo pos (starEach [] X.env)).any (·.1) = false := by rfl) :
    PMk X (.Call (.Name cn p) [a] [] pos) (tMkEx C fld vok ta) := by
  intro pins s σ H Q I h
  refine wpAny_Call_Name_kw (ld_glob I hg T.gC ?_ hdb)
  refine PySem.W.callWith_K (h₀ := X.base) I.ok.mod.kin T.kC (thn (ha.run pos pins s σ H _ I h) fun us s1 hh => ?_) he hpl
  obtain ⟨vs, H1, I1, r1, v, ev, hv, q1⟩ := hh
  subst ev
  refine ⟨I1.kIn, ?_⟩
  cases r1 with
  | cons rv rn =>
    rename_i v' us'
    cases rn
    show wpAny _ _ (call (.ref C) [v']) _ _ _
    have hlim := I1.nolimit
    have hmg := I1.ok.mod.glob.keeps I1.bk
    obtain ⟨mb, hmb, hbb⟩ := I1.ok.mod.blt
    have hmb' := hmb.keeps I1.bk
    obtain ⟨hp, g, dr, tk, os⟩ := s1
    refine wpAny_call (PySem.SLX.own_made T (hv _ rv) I1.kIn hlim hmg hmb' hbb (by have := hr.dp; omega) fun h' tk' e d M => ?_)
    show MkP X pins σ Q (.ref e) ⟨h', g, dr, tk', os⟩
    obtain ⟨oe, fv, hoe, hc, hd, hdat, h1⟩ := M.obj
    have hns := M.ns
    obtain ⟨G', g1, g2⟩ := restrict h' fun b => decide (b ≠ e)
    have gk : ∀ b, b ≠ e → G'.get? b = h'.get? b := fun b hb => g1 b (decide_eq_true hb)
    have ge : G'.get? e = none := g2 e (by simp)
    have old : ∀ b o, hp.get? b = some o → G'.get? b = some o := fun b o q => (gk b (Nat.ne_of_lt (Nat.lt_of_lt_of_le (Heap.lt_size q) M.new))).trans (M.keep b o q)
    have ob : ObjOk X.prog X.w (upd H1 d (.xd [(fld, v)])) G' d (.xd [(fld, v)]) :=
      ⟨_, hns.at (fun o q => (gk d M.dne).trans q), fun f => relO_one rv f⟩
    have J : Inv X pins σ (upd H1 d (.xd [(fld, v)])) ⟨G', g, dr, tk', os⟩ := I1.laid (t' := tk') old M.dbig ob
    refine ⟨e, oe, fv, ⟨G', g, dr, tk', os⟩, _, .ref C, some d, rfl, J, fun b o q => ?_, ge, hoe, ⟨hc, hd⟩, hdat, h1, ?_, rfl, I1.bare, raises_own T.exC T.tyC, q1 d (I1.hok.fresh M.dbig)⟩
    · by_cases hb : b = e
      · have q' : G'.get? b = some o := q
        rw [hb, ge] at q'; cases q'
      · exact (gk b hb).symm.trans q
    · rw [upd_ne (Ne.symm M.dne)]
      exact I1.hok.fresh M.new
/-- raise C(e) -/
theorem ps_raiseEx {a : Expr} {ta : TA} {W : WX} {p pos pos2 : Pos} {k : Nat} (hc : X.calm = true) (T : PySem.SLX.ExTxt X.K X.mg X.prog X.w cn fld par vok C fI) (hr : Room k X.A) (tk : Takes X W) (ha : PA X [a] ta) (hg : Gl X cn := by rfl) (hdb : (cn == ("__debug__" : Str)) = false := by decide)
    (he : starEach (a :: []) X.env = (false, eval a X.env) :: starEach [] X.env := by rfl) (hpl : (backTo pos (starEach [] X.env)).any (·.1) = false := by rfl) :
    PS X (.Raise (some (.Call (.Name cn p) [a] [] pos)) none pos2) (fun _ σ H => tMkEx C fld vok ta σ H fun cls d H' => W cls d σ H') := ps_raise hc tk (pmk_ex T hr ha hg hdb he hpl)
/-- e.fld, e the error that the suite holds (at a; its class cls, its dict d) -/
def tExF (C : Addr) (fld : Str) (a : Addr) (cls : Value) (d : Option Addr) (te : TE) : TE := fun σ H Q => te σ H fun x H1 => x = .ref a ∧ cls = .ref C ∧ ∃ (dd : Addr) (v : V), d = some dd ∧ H1 dd = some (.xd [(fld, v)]) ∧ Q v H1
theorem pe_exf {a : Addr} {oe : Obj} {cls : Value} {d : Option Addr} {pn : List (Addr × Obj)} {e : Expr} {te : TE} {pos : Pos} (T : PySem.SLX.ExTxt X.K X.mg X.prog X.w cn fld par vok C fI) (hz : Zc cls d oe) (hf : ∃ vs, oe.data = .fields vs) (he : PE (X.suite a ((a, oe) :: pn)) e te)
    (hb : attributeBase e fld X.env (eval e X.env) = eval e X.env := by rfl) :
    PE (X.suite a ((a, oe) :: pn)) (.Attribute e fld pos) (tExF C fld a cls d te) := by
  refine ⟨fun pins s σ H Q I h => ?_⟩
  refine attr_of hb (thn (he.run pins s σ H _ I h) fun u s1 hh => ?_)
  obtain ⟨x, H1, I1, rx, ex, ec, dd, v, ed, ea, q⟩ := hh
  subst ex
  obtain rfl : u = Value.ref a := rx
  subst ec
  subst ed
  obtain ⟨ha, _⟩ := I1.pin (a, oe) (List.mem_append_left _ List.mem_cons_self)
  obtain ⟨vs, hd⟩ := hf
  have hx : ObjOk X.prog X.w H1 s1.heap dd (.xd [(fld, v)]) := I1.hok dd _ ea
  obtain ⟨mA, hns, hr⟩ := hx
  obtain ⟨od, ho, hl⟩ := lookIn_ns hns
  have l : List.lookup fld [(fld, v)] = some v := by simp [List.lookup]
  obtain ⟨u, hu, ru⟩ := RelO.some_of (v := v) (o := mA fld) (by rw [← l]; exact hr fld)
  have J : PySem.W.InstAt s1.heap a oe C (some od) := ⟨ha, hz.1, by unfold PySem.W.notCls; rw [hd] <;> rfl, by rw [hz.2]; exact ho⟩
  exact HandSPX.exc_get I1.kIn J T.ga T.gg T.exC (PySem.W.findObj_own T.hdC T.noN rfl (by rw [hl, hu])) (handed_of ru) ⟨v, H1, I1.tok _, ru, q⟩
end

/-! ### several except clauses, some with a name -/
abbrev Clause := Value × Option Nat × (Addr → Value → Option Addr → TS)
def unnamed (i : Nat) (D : Ends) : Ends := { nx := fun σ' H' => D.nx (σ'.set i none) H', rt := D.rt, bk := fun σ' H' => D.bk (σ'.set i none) H', ct := fun σ' H' => D.ct (σ'.set i none) H' }
/-- what the clauses wish of an exception of the body, one after the other -/
def wClauses (K : PySem.W.Frag) (Wout : WX) (D : Ends) : List Clause → WX
  | [] => Wout
  | (c, none, ts) :: r => fun cls d σ H => ∃ b, PySem.W.exmOne K cls c = some b ∧ (b = true → ∀ a, H a = none → ts a cls d D σ H) ∧ (b = false → wClauses K Wout D r cls d σ H)
  | (c, some i, ts) :: r => fun cls d σ H => ∃ b, PySem.W.exmOne K cls c = some b ∧ (b = true → ∀ a, H a = none → ts a cls d (unnamed i D) (σ.set i (some (.ref a))) H) ∧ (b = false → wClauses K Wout D r cls d σ H)
inductive ClausesOk (X : Cx) : List ExceptHandler → List Clause → Prop
  | nil : ClausesOk X [] []
  | only {x : Str} {c : Value} {ts : Addr → Value → Option Addr → TS} {b₀ : Stmt} {suite : List Stmt} {np pos' : Pos} {hds : List ExceptHandler} {l : List Clause} (hc : Names X x c)
      (hsu : ∀ (a : Addr) (oe : Obj) (cls : Value) (d : Option Addr) (pn : List (Addr × Obj)), Zc cls d oe → (∃ vs, oe.data = .fields vs) → PSs (X.suite a ((a, oe) :: pn)) (b₀ :: suite) (ts a cls d)) (r : ClausesOk X hds l) :
      ClausesOk X (.ExceptHandler (some (.Name x np)) none (b₀ :: suite) pos' :: hds) ((c, none, ts) :: l)
  | named {x n : Str} {i : Nat} {c : Value} {ts : Addr → Value → Option Addr → TS} {b₀ : Stmt} {suite : List Stmt} {np pos' : Pos} {hds : List ExceptHandler} {l : List Clause} (hi : X.N[i]? = some n) (hln : X.env.kindOf n = some .local) (hc : Names X x c)
      (hsu : ∀ (a : Addr) (oe : Obj) (cls : Value) (d : Option Addr) (pn : List (Addr × Obj)), Zc cls d oe → (∃ vs, oe.data = .fields vs) → PSs (X.suite a ((a, oe) :: pn)) (b₀ :: suite) (ts a cls d)) (r : ClausesOk X hds l) :
      ClausesOk X (.ExceptHandler (some (.Name x np)) (some n) (b₀ :: suite) pos' :: hds) ((c, some i, ts) :: l)
section
variable {X : Cx} {body : List Stmt} {h₀ : ExceptHandler} {hds : List ExceptHandler} {l : List Clause} {pos : Pos} {tb : WX → TS} {Wout : WX}
/-- how a suite's end is an end of the statement, where no name is to be undone -/
theorem suite_end {pins : List (Addr × Obj)} {D : Ends} {a : Addr} {q : Addr × Obj} {f : Flow} {s : Shared} (ok : X.Ok) (h : SP (X.suite a (q :: (X.pn ++ pins))) [] D f s) : SP X pins D f s := by
  cases f with
  | ret u =>
    obtain ⟨v, σ', H', S, r, g⟩ := h
    exact ⟨v, σ', H', S.unsuite ok, r, g⟩
  | next =>
    obtain ⟨σ', H', S, g⟩ := h
    exact ⟨σ', H', S.unsuite ok, g⟩
  | brk =>
    obtain ⟨σ', H', S, g⟩ := h
    exact ⟨σ', H', S.unsuite ok, g⟩
  | cont =>
    obtain ⟨σ', H', S, g⟩ := h
    exact ⟨σ', H', S.unsuite ok, g⟩
theorem try_end {pins pn' : List (Addr × Obj)} {D : Ends} {xe : Value → Shared → Prop} {f : Flow} {s : Shared} (ok : X.Ok) (h : SP (X.tr (X.pn ++ pins) xe) pn' D f s) : SP X pins D f s := by
  cases f with
  | ret u =>
    obtain ⟨v, σ', H', S, r, g⟩ := h
    exact ⟨v, σ', H', S.ofTry ok, r, g⟩
  | next =>
    obtain ⟨σ', H', S, g⟩ := h
    exact ⟨σ', H', S.ofTry ok, g⟩
  | brk =>
    obtain ⟨σ', H', S, g⟩ := h
    exact ⟨σ', H', S.ofTry ok, g⟩
  | cont =>
    obtain ⟨σ', H', S, g⟩ := h
    exact ⟨σ', H', S.ofTry ok, g⟩
/-- the statement: X is a def's own frame -/
theorem ps_clauses (hs : X.stack = X.env :: X.outer) (hf : X.env.frame = some X.env.locals) (hN : X.N.Nodup) (tk : Takes X Wout)
    (hb : ∀ (W : WX) (pn : List (Addr × Obj)) (xe : Value → Shared → Prop), Takes (X.tr pn xe) W → PassesOwn (model X.prog X.w) X.A X.env xe → PSs (X.tr pn xe) body (tb W))
    (hh : ClausesOk X (h₀ :: hds) l) : PS X (.Try body (h₀ :: hds) [] [] pos) (fun D σ H => tb (wClauses X.K Wout D l) D σ H) := by
  refine ⟨fun pins s σ H D I h => ?_⟩
  have ok := I.ok
  have hfr : X.A.frames = some (X.env :: X.outer) := by rw [ok.frames, hs]
  have body_run := (hb (wClauses X.K Wout D l) (X.pn ++ pins) (fun e s₁ => wpAny (model X.prog X.w) X.A (noteFrame e X.env) (fun _ s₂ => wpAny (model X.prog X.w) X.A (setFlight e none) (fun _ s₃ => wpAny (model X.prog X.w) X.A (handleBy e X.env (h₀ :: hds)) (SP X pins D) X.xe s₃) X.xe s₂) X.xe s₁)
    (fun u s' air => ?_) PassesOwn.looking).run [] s σ H D (I.toTry _) h
  · refine wpAny_Try_except (wpAny_mono body_run (fun f s1 hsp => ?_) fun e s1 he => he)
    have z := try_end ok hsp
    cases f with
    | next =>
      obtain ⟨σ', H', J, q⟩ := z
      exact wpAny_execs_nil ⟨σ', H', J, q⟩
    | brk => exact z
    | cont => exact z
    | ret u => exact z
  · obtain ⟨a, B, sI, pins', σ', H', cls, d, rfl, J', nb, up, sky, na, os, ag, wish⟩ := air
    have J : Inv X pins σ' H' sI := J'.ofTry ok
    rw [show (X.tr (X.pn ++ pins) _).stack = X.env :: X.outer from hs] at sky
    refine Sky.land Zc.steady hfr hf sky fun h3 fl3 up3 => ?_
    have J3 : Inv X pins σ' H' { s' with heap := h3 } := J.landed nb fl3.1 (up.trans up3) os ag
    obtain ⟨oe3, vs3, he3, hz3, hd3⟩ := fl3.there
    have out : a ∉ frs (X.env :: X.outer) := fun hm => by
      obtain ⟨_, o', e', hnf⟩ := fl3.2.2.1.mem hm
      rw [he3] at e'
      cases e'
      exact hnf _ hd3
    have nL : a ≠ X.env.locals := fun z => out (List.mem_filterMap.mpr ⟨X.env, List.mem_cons_self, by rw [hf, z]⟩)
    have nF : a ∉ X.fs := fun hm => by
      obtain ⟨e, he, q⟩ := List.mem_filterMap.mp hm
      exact out (List.mem_filterMap.mpr ⟨e, List.mem_cons_of_mem _ he, q⟩)
    have S3 := J3.suite he3 hd3 na nL nF
    have LT : PySem.W.Looks (model X.prog X.w) h3 (typeOf (.ref a)) cls := fun A Q E s k q => wpAny_typeOf_ref (k _ _ he3) (by rw [hz3.1]; exact q)
    have name : ∀ {x : Str} {c : Value} {np : Pos} {Q E : Value → Shared → Prop}, Names X x c → Q c { s' with heap := h3 } → wpAny (model X.prog X.w) (X.A.mark (some (.ref a))) (eval (.Name x np) X.env) Q E { s' with heap := h3 } := fun {x c np Q E} hc q => by
      obtain ⟨hg, hdbg, hm | ⟨hm, hv, hnn⟩⟩ := hc
      · exact ld_glob (X := X.suite a ((a, oe3) :: (X.pn ++ pins))) S3 hg hm q hdbg
      · exact ld_blt (X := X.suite a ((a, oe3) :: (X.pn ++ pins))) S3 hg hm hv q hnn hdbg
    have go : ∀ {hds' : List ExceptHandler} {l' : List Clause}, ClausesOk X hds' l' → wClauses X.K Wout D l' cls d σ' H' → wpAny (model X.prog X.w) X.A (handleBy (.ref a) X.env hds') (SP X pins D) X.xe { s' with heap := h3 } := by
      intro hds' l' hk
      induction hk with
      | nil =>
        intro wsh
        have w0 : Wout cls d σ' H' := wsh
        refine wpAny_handleBy_nil ?_
        obtain ⟨k1, k2, k3, oe, vs, T, oT, ts', he, hz, hd, h1, hr⟩ := id fl3
        have fin : wpAny (model X.prog X.w) X.A (setFlight (.ref a) X.env.frame) (fun _ s4 => wpAny (model X.prog X.w) X.A (throw (.ref a) : Sem Flow) (SP X pins D) X.xe s4) X.xe { s' with heap := h3 } := by
          rw [hf]
          refine HandSPX.setFlight_upZ fl3 fun h4 hh4 up4 => wpAny_throw (tk _ _ ⟨a, B, sI, pins, σ', H', cls, d, rfl, J, nb, (up.trans up3).trans up4, .inr (.inr (by rw [hs]; exact hh4)), na, os, ag, w0⟩)
        unfold PySem.passOn
        refine wpAny_bind (wpAny_field he hd h1 ?_)
        rw [if_neg (show ¬ ((Value.ref T == Value.none) = true) from by simp)]
        first
          | exact wpAny_bind (wpAny_pure (wpAny_bind fin))
          | exact wpAny_bind fin
      | only hc hsu r ih =>
        rintro ⟨b, hb1, hyes, hno⟩
        refine wpAny_handleBy_cons (codeAny_handlers_test (name hc ((PySem.W.exm_one (M := model X.prog X.w) J3.kIn LT hb1).here ?_))) (by intro q; cases q)
        cases b with
        | false => exact ih (hno rfl)
        | true =>
          refine codeAny_handlers_suite (HandSPX.lands_againZ fl3 fun h4 fl4 up4 => ?_)
          have J4 : Inv X pins σ' H' { s' with heap := h4 } := J.landed nb fl4.1 ((up.trans up3).trans up4) os ag
          obtain ⟨oe4, vs4, he4, hz4, hd4⟩ := fl4.there
          exact wpAny_mono ((hsu a oe4 cls d (X.pn ++ pins) hz4 ⟨_, hd4⟩).run [] _ _ H' _ (J4.suite he4 hd4 na nL nF) (hyes rfl a na)) (fun f s6 hsp => suite_end ok hsp) fun _ _ z => False.elim z
      | @named x n i c ts b₀ suite np pos' hds2 l2 hi hln hc hsu r ih =>
        rintro ⟨b, hb1, hyes, hno⟩
        refine wpAny_handleBy_cons (codeAny_handlers_test (name hc ((PySem.W.exm_one (M := model X.prog X.w) J3.kIn LT hb1).here ?_))) (by intro q; cases q)
        cases b with
        | false => exact ih (hno rfl)
        | true =>
          refine codeAny_handlers_suite_as (HandSPX.lands_againZ fl3 fun h4 fl4 up4 => ?_)
          have J4 : Inv X pins σ' H' { s' with heap := h4 } := J.landed nb fl4.1 ((up.trans up3).trans up4) os ag
          obtain ⟨oe4, vs4, he4, hz4, hd4⟩ := fl4.there
          refine store_ok (X := X.suite a ((a, oe4) :: (X.pn ++ pins))) (v := .ref a) (J4.suite he4 hd4 na nL nF) hN hi (.inl hln) rfl (fun s5 S5 => ?_) (.inr hln)
          refine wpAny_mono ((hsu a oe4 cls d (X.pn ++ pins) hz4 ⟨_, hd4⟩).run [] s5 _ H' _ S5 (hyes rfl a na)) (fun f s6 hsp => ?_) fun _ _ z => False.elim z
          have undo : ∀ {σ6 : St} {H6 : Hp} {Q : Shared → Prop}, Inv (X.suite a ((a, oe4) :: (X.pn ++ pins))) [] σ6 H6 s6 → (∀ s7, Inv X pins (σ6.set i none) H6 s7 → Q s7) →
            wpAny (model X.prog X.w) X.A (do bindName X.env n .none; unbindBehindTheSuite X.env n pos') (fun _ s7 => Q s7) X.xe s6 := fun {σ6 H6 Q} S6 hq => gone_ok (S6.unsuite ok) hN hi hln hq
          cases f with
          | ret u =>
            obtain ⟨v6, σ6, H6, S6, r6, q6⟩ := hsp
            exact undo S6 fun s7 J7 => ⟨_, _, _, J7, r6, q6⟩
          | next =>
            obtain ⟨σ6, H6, S6, q6⟩ := hsp
            exact undo S6 fun s7 J7 => ⟨_, _, J7, q6⟩
          | brk =>
            obtain ⟨σ6, H6, S6, q6⟩ := hsp
            exact undo S6 fun s7 J7 => ⟨_, _, J7, q6⟩
          | cont =>
            obtain ⟨σ6, H6, S6, q6⟩ := hsp
            exact undo S6 fun s7 J7 => ⟨_, _, J7, q6⟩
    exact go hh wish
end
end L2
/-! What the laws of this program share: kinds of values, heaps, calls of a def by its name. -/
namespace SL
open PySem PySem.Spec PyProof.Rows L2
/-! ### kinds -/
inductive Knw (K : PySem.W.Frag) (H : Hp) : V → String → Prop
  | non : Knw K H .non "NoneType"
  | bl (b : Bool) : Knw K H (.bl b) "bool"
  | int (i : Int) : Knw K H (.int i) "int"
  | str (x : Str) : Knw K H (.str x) "str"
  | lst {a : Addr} {xs : List V} (h : SqL K H a xs) : Knw K H (.ref a) "list"
  | tup {a : Addr} {xs : List V} (h : SqT K H a xs) : Knw K H (.ref a) "tuple"
  | dic {a : Addr} {kvs : List (Key × V)} (h : H a = some (.dK kvs)) : Knw K H (.ref a) "dict"
theorem Same.seqT {K : PySem.W.Frag} {H H' : Hp} {a : Addr} {xs : List V} (e : Same H H') (h : SqT K H a xs) : SqT K H' a xs := by
  rcases h with (h | ⟨o, h⟩) | h
  · exact .inl (.inl (e _ _ h))
  · exact .inl (.inr ⟨o, e _ _ h⟩)
  · exact .inr h
section
variable {K : PySem.W.Frag} {H H' : Hp} {x : V} {T : String}
theorem Knw.ty (h : Knw K H x T) : TyX K H x (.type T) := by
  cases h with
  | non => exact .base .non
  | bl b => exact .base (.bl b)
  | int i => exact .base (.int i)
  | str s => exact .base (.str s)
  | lst h =>
    rcases h with (h | ⟨o, h⟩) | ⟨o, its, n, h, c, _⟩
    · exact .base (.lst h)
    · exact .base (.frz h)
    · exact .kList h c
  | tup h =>
    rcases h with (h | ⟨o, h⟩) | ⟨o, its, n, h, c, _⟩
    · exact .base (.tup h)
    · exact .fTuple h
    · exact .kTuple h c
  | dic h => exact .base (.dK h)
theorem Knw.same (s : Same H H') (h : Knw K H x T) : Knw K H' x T := by
  cases h with
  | non => exact .non
  | bl b => exact .bl b
  | int i => exact .int i
  | str z => exact .str z
  | lst h => exact .lst (s.seq h)
  | tup h => exact .tup (Same.seqT s h)
  | dic h => exact .dic (s _ _ h)
end
theorem kit_is {K : PySem.W.Frag} {a b : String} {r : Bool} (h : kitB a b = some r) : PySem.W.kitOne K (.type a) (.type b) = some r := kit_ty h
/-- isinstance against int, bool, list, tuple, str: of the seven kinds -/
def kinds : List String := ["NoneType", "bool", "int", "str", "list", "tuple", "dict"]
theorem Knw.mem {K : PySem.W.Frag} {H : Hp} {x : V} {T : String} (h : Knw K H x T) : T ∈ kinds := by cases h <;> decide
theorem kit_int {K : PySem.W.Frag} {T : String} (h : T ∈ kinds) : PySem.W.kitOne K (.type T) (.type "int") = some (decide (T = "int" ∨ T = "bool")) := by
  simp only [kinds, List.mem_cons, List.not_mem_nil, or_false] at h
  rcases h with rfl | rfl | rfl | rfl | rfl | rfl | rfl <;> exact kit_ty (by decide +kernel)
theorem kit_bool {K : PySem.W.Frag} {T : String} (h : T ∈ kinds) : PySem.W.kitOne K (.type T) (.type "bool") = some (decide (T = "bool")) := by
  simp only [kinds, List.mem_cons, List.not_mem_nil, or_false] at h
  rcases h with rfl | rfl | rfl | rfl | rfl | rfl | rfl <;> exact kit_ty (by decide +kernel)
theorem kit_str {K : PySem.W.Frag} {T : String} (h : T ∈ kinds) : PySem.W.kitOne K (.type T) (.type "str") = some (decide (T = "str")) := by
  simp only [kinds, List.mem_cons, List.not_mem_nil, or_false] at h
  rcases h with rfl | rfl | rfl | rfl | rfl | rfl | rfl <;> exact kit_ty (by decide +kernel)
theorem kit_list {K : PySem.W.Frag} {T : String} (h : T ∈ kinds) : PySem.W.kitOne K (.type T) (.type "list") = some (decide (T = "list")) := by
  simp only [kinds, List.mem_cons, List.not_mem_nil, or_false] at h
  rcases h with rfl | rfl | rfl | rfl | rfl | rfl | rfl <;> exact kit_ty (by decide +kernel)
theorem kit_tuple {K : PySem.W.Frag} {T : String} (h : T ∈ kinds) : PySem.W.kitOne K (.type T) (.type "tuple") = some (decide (T = "tuple")) := by
  simp only [kinds, List.mem_cons, List.not_mem_nil, or_false] at h
  rcases h with rfl | rfl | rfl | rfl | rfl | rfl | rfl <;> exact kit_ty (by decide +kernel)
theorem lineN {n : Nat} (h : n ≤ 100000) : n < sizeLine := Nat.lt_of_le_of_lt h (by rw [sizeLine_eq]; decide)
theorem few {n : Nat} (h : n ≤ 1000) : n ≤ sizeLine := Nat.le_trans h (by rw [sizeLine_eq]; decide)
theorem pos_i {n : Int} (h : decide (0 < n) = true) : 0 < n := of_decide_eq_true h
theorem iteV {A B : Prop} {x y : V} (h : x ≠ y) (k : B) : if decide (x = y) = true then A else B := by rw [decide_eq_false h]; exact iteF k
theorem iteS {A B : Prop} {x y : String} (h : decide (x = y) = false) (k : B) : if decide (x = y) = true then A else B := by rw [h]; exact iteF k
theorem iteU {A B : Prop} {c : Prop} [Decidable c] (h : c) (k : A) : if decide c = true then A else B := by rw [decide_eq_true h]; exact iteT k
theorem iteW {A B : Prop} {c : Prop} [Decidable c] (h : ¬ c) (k : B) : if decide c = true then A else B := by rw [decide_eq_false h]; exact iteF k
theorem lc_yes {A B : Hp → Prop} {σ : L2.St} {H : Hp} (h : A H) : tYes σ H (fun b H3 => if b = true then A H3 else B H3) := (iteT h : if true = true then A H else B H)
/-! ### the rules with the written part told (for blocks) -/
section
variable {X : Cx}
theorem sl_tupK (K : PySem.W.Frag) (h : X.K = K := by rfl) : SlR X (rSlA K) := by subst h; exact sl_tupA
theorem sl_listK (K : PySem.W.Frag) (h : X.K = K := by rfl) : SlR X (rSlL K) := by subst h; exact sl_list
theorem ix_listK (K : PySem.W.Frag) (h : X.K = K := by rfl) : IxR X (rIxL K) := by subst h; exact ix_list
theorem ix_tupK (K : PySem.W.Frag) (h : X.K = K := by rfl) : IxR X (rIxT K) := by subst h; exact ix_tup
theorem ix_seqK (K : PySem.W.Frag) (h : X.K = K := by rfl) : IxR X (rIx K) := by subst h; exact ix_seq
theorem call_isiK' (K : PySem.W.Frag) (h : X.K = K := by rfl) : CallR X (.builtin "isinstance") (rIsi K) := by subst h; exact call_isi
theorem call_lenK (K : PySem.W.Frag) (h : X.K = K := by rfl) : CallR X (.builtin "len") (fun xs H Q => ∃ p ys, xs = [.ref p] ∧ (SqL K H p ys ∨ SqT K H p ys) ∧ Q (.int ys.length) H) := by subst h; exact call_len_seq
theorem call_tupleK (K : PySem.W.Frag) (h : X.K = K := by rfl) : CallR X (.type "tuple") (fun xs H Q => ∃ p ys, xs = [.ref p] ∧ ((SqL K H p ys ∧ ∀ l, H l = none → Q (.ref l) (upd H l (.tup ys))) ∨ (SqT K H p ys ∧ Q (.ref p) H))) := by subst h; exact call_tuple_of
theorem op_catK (K : PySem.W.Frag) (h : X.K = K := by rfl) : OpR X (binaryOp .Add) (rCatA K) := by subst h; exact op_catA
end
/-! ### heaps -/
theorem same_upd {H : Hp} {p : Addr} {o : HO} (h : H p = none) : Same H (upd H p o) := fun b x e => by
  rw [upd_ne (ne_of_none e h)]
  exact e
/-- the heap without what stands at p -/
def off (H : Hp) (p : Addr) : Hp := fun b => if b = p then none else H b
theorem off_same (H : Hp) (p : Addr) : Same (off H p) H := fun b o e => by
  unfold off at e
  split at e
  · cases e
  · exact e
theorem off_at {H : Hp} {p : Addr} : off H p p = none := if_pos rfl
theorem off_ne {H : Hp} {p b : Addr} (h : b ≠ p) : off H p b = H b := if_neg h
theorem off_mono {H H' : Hp} {p : Addr} (s : Same H H') : Same (off H p) (off H' p) := fun b o e => by
  unfold off at e ⊢
  split at e
  · cases e
  · rename_i h
    rw [if_neg h]
    exact s _ _ e
theorem off_upd {H : Hp} {p : Addr} {o : HO} : Same (off H p) (off (upd H p o) p) := fun b u e => by
  unfold off at e ⊢
  split at e
  · cases e
  · rename_i h
    rw [if_neg h, upd_ne h]
    exact e
/-- what was said of the rest stays true whatever is stored at p -/
theorem off_put {H : Hp} {p : Addr} {o : HO} : Same (off H p) (upd H p o) := fun b u e => by
  unfold off at e
  split at e
  · cases e
  · rename_i h
    rw [upd_ne h]
    exact e
theorem off_of {H H' : Hp} {p : Addr} (s : Same H H') (n : H p = none) : Same H (off H' p) := fun b o e => by
  rw [off_ne (ne_of_none e n)]
  exact s _ _ e
/-- what stood at b stands there, if b is not p -/
theorem off_get {H H' : Hp} {p b : Addr} {o : HO} (s : Same (off H p) (off H' p)) (n : b ≠ p) (e : H b = some o) : H' b = some o := by
  have z := s b o (by rw [off_ne n]; exact e)
  rw [off_ne n] at z
  exact z
/-! ### sums and slices of tuples, whatever they reuse -/
section
variable {X : Cx}
def rCatU (K : PySem.W.Frag) : R2 := fun x y H Q => ∃ a b xs ys, x = .ref a ∧ y = .ref b ∧ SqT K H a xs ∧ SqT K H b ys ∧ xs.length + ys.length ≤ 100000 ∧ ∀ c H', Same H H' → SqT K H' c (xs ++ ys) → Q (.ref c) H'
theorem op_catU (K : PySem.W.Frag) (h : X.K = K := by rfl) : OpR X (binaryOp .Add) (rCatU K) := by
  subst h
  intro pins s σ H x y v u Q I rx ry z
  obtain ⟨a, b, xs, ys, e1, e2, ha, hb, hz, q⟩ := z
  refine op_catA pins s σ H x y v u Q I rx ry ⟨a, b, xs, ys, e1, e2, ha, hb, Nat.le_of_lt (lineN hz), fun e => ?_, fun _ e => ?_, fun _ _ p np => ?_⟩
  · subst e
    exact q b H (Same.refl H) hb
  · subst e
    exact q a H (Same.refl H) (by rw [List.append_nil]; exact ha)
  · exact q p _ (same_upd np) (SqT.of upd_same)
def rSlU (K : PySem.W.Frag) : V → Option Int → Option Int → Hp → VK → Prop := fun x lo hi H Q => ∃ a xs, x = .ref a ∧ SqT K H a xs ∧ ∀ c H', Same H H' → SqT K H' c (cutV xs lo hi) → Q (.ref c) H'
theorem sl_tupU (K : PySem.W.Frag) (h : X.K = K := by rfl) : SlR X (rSlU K) := by
  subst h
  intro pins s σ H x v vl vu lo hi sl Q I rx hs pl pu z
  obtain ⟨a, xs, e, hx, q⟩ := z
  refine sl_tupA pins s σ H x v vl vu lo hi sl Q I rx hs pl pu ⟨a, xs, e, hx, fun w => q a H (Same.refl H) ?_, fun _ p np => q p _ (same_upd np) (SqT.of upd_same)⟩
  unfold cutV
  rw [w.1, w.2, List.drop_zero, Nat.sub_zero, List.take_length]
  exact hx
end
theorem Tups.get {K : PySem.W.Frag} {H : Hp} : ∀ {vs : List V} {cs : List (List V)} {i : Nat} {v : V}, Paired (fun v c => ∃ a, v = V.ref a ∧ SqT K H a c) vs cs → vs[i]? = some v → ∃ c b, cs[i]? = some c ∧ v = .ref b ∧ SqT K H b c
  | _, _, _, _, .nil, h => by simp at h
  | _, _, 0, v, .cons (b := c) h _, e => by
    simp at e
    subst e
    obtain ⟨b, e1, e2⟩ := h
    exact ⟨c, b, rfl, e1, e2⟩
  | _, _, i + 1, v, .cons _ t, e => by
    obtain ⟨c, b, h1, h2, h3⟩ := Tups.get (i := i) t (by simpa using e)
    exact ⟨c, b, by simpa using h1, h2, h3⟩
/-! ### data -/
mutual
theorem Dp.same {K : PySem.W.Frag} {H H' : Hp} (s : Same H H') : ∀ {v : V} {d : PyData}, Dp K H v d → Dp K H' v d
  | _, _, .non => .non
  | _, _, .bl b => .bl b
  | _, _, .int i => .int i
  | _, _, .str x => .str x
  | _, _, .lst h a => .lst (s.seq h) (DpAll.same s a)
  | _, _, .tup h a => .tup (Same.seqT s h) (DpAll.same s a)
theorem DpAll.same {K : PySem.W.Frag} {H H' : Hp} (s : Same H H') : ∀ {vs : List V} {ds : List PyData}, DpAll K H vs ds → DpAll K H' vs ds
  | _, _, .nil => .nil
  | _, _, .cons h t => .cons (Dp.same s h) (DpAll.same s t)
end
theorem DpAll.ints {K : PySem.W.Frag} {H : Hp} : ∀ ns : List Int, DpAll K H (ns.map V.int) (ns.map PyData.int)
  | [] => .nil
  | n :: r => .cons (.int n) (DpAll.ints r)
theorem DpAll.length {K : PySem.W.Frag} {H : Hp} : ∀ {vs : List V} {ds : List PyData}, DpAll K H vs ds → vs.length = ds.length
  | _, _, .nil => rfl
  | _, _, .cons _ t => congrArg (· + 1) (DpAll.length t)
theorem DpAll.get {K : PySem.W.Frag} {H : Hp} : ∀ {vs : List V} {ds : List PyData} {i : Nat} {d : PyData}, DpAll K H vs ds → ds[i]? = some d → ∃ v, vs[i]? = some v ∧ Dp K H v d
  | _, _, _, _, .nil, h => by simp at h
  | _, _, 0, _, .cons h _, e => by
    simp at e
    subst e
    exact ⟨_, rfl, h⟩
  | _, _, i + 1, _, .cons _ t, e => by
    obtain ⟨v, h1, h2⟩ := DpAll.get (i := i) t (by simpa using e)
    exact ⟨v, by simpa using h1, h2⟩
theorem DpAll.append {K : PySem.W.Frag} {H : Hp} {ws : List V} {es : List PyData} (b : DpAll K H ws es) : ∀ {vs : List V} {ds : List PyData}, DpAll K H vs ds → DpAll K H (vs ++ ws) (ds ++ es)
  | _, _, .nil => b
  | _, _, .cons h t => .cons h (DpAll.append b t)
mutual
/-- no dict in it, not too deep -/
def plainD : Nat → PyData → Bool
  | _, .none => true
  | _, .bool _ => true
  | _, .int _ => true
  | _, .str _ => true
  | 0, .list _ => false
  | 0, .tuple _ => false
  | n + 1, .list ds => decide (ds.length ≤ 100000) && plainDs n ds
  | n + 1, .tuple ds => decide (ds.length ≤ 100000) && plainDs n ds
  | _, .dict _ => false
def plainDs : Nat → List PyData → Bool
  | _, [] => true
  | n, d :: ds => plainD n d && plainDs n ds
end
theorem plainDs_get : ∀ {n : Nat} {ds : List PyData} {i : Nat} {d : PyData}, plainDs n ds = true → ds[i]? = some d → plainD n d = true
  | _, [], _, _, _, h => by simp at h
  | n, e :: r, 0, d, h, q => by
    simp at q
    subst q
    have h' : (plainD n e && plainDs n r) = true := by simpa [plainDs] using h
    exact (Bool.and_eq_true_iff.mp h').1
  | n, e :: r, i + 1, d, h, q => by
    have h' : (plainD n e && plainDs n r) = true := by simpa [plainDs] using h
    exact plainDs_get (i := i) (Bool.and_eq_true_iff.mp h').2 (by simpa using q)
theorem plainDs_all {n : Nat} : ∀ {ds : List PyData}, (∀ d ∈ ds, plainD n d = true) → plainDs n ds = true
  | [], _ => by simp [plainDs]
  | d :: r, h => by
    have h1 := h d (List.mem_cons_self ..)
    have h2 := plainDs_all (ds := r) fun e he => h e (List.mem_cons_of_mem _ he)
    simp [plainDs, h1, h2]
theorem Dp.boxlst {K : PySem.W.Frag} {H H' : Hp} {a : Addr} {xs : List V} (s : Same H H') (h : SqL K H a xs) : SqL K H' a xs := s.seq h
theorem Dp.boxtup {K : PySem.W.Frag} {H H' : Hp} {a : Addr} {xs : List V} (s : Same H H') (h : SqT K H a xs) : SqT K H' a xs := Same.seqT s h
/-- the kind of a value that stands for such data -/
theorem Dp.knw {K : PySem.W.Frag} {H : Hp} {v : V} {d : PyData} (h : Dp K H v d) : ∃ T, Knw K H v T := by
  cases h with
  | non => exact ⟨_, .non⟩
  | bl b => exact ⟨_, .bl b⟩
  | int i => exact ⟨_, .int i⟩
  | str x => exact ⟨_, .str x⟩
  | lst h _ => exact ⟨_, .lst h⟩
  | tup h _ => exact ⟨_, .tup h⟩
/-! ### ranges with a step, chunks -/
theorem rgc_chunks {n w : Nat} (h1 : 1 ≤ w) (h6 : w ≤ 6) (hn : n * w ≤ 100000) : RgC 0 ((n * w : Nat) : Int) (w : Int) n := by
  have c : w = 1 ∨ w = 2 ∨ w = 3 ∨ w = 4 ∨ w = 5 ∨ w = 6 := by omega
  have size : Builtin.Range.rangeSize 0 ((n * w : Nat) : Int) (w : Int) = (n : Int) := by
    unfold Builtin.Range.rangeSize
    rcases c with rfl | rfl | rfl | rfl | rfl | rfl <;> (rw [if_pos (by decide)]; split <;> omega)
  have fit : ∀ x : Int, -1000000 ≤ x → x ≤ 1000000 → Builtin.Range.rangeFitsLong x = true := fun x l u => by
    unfold Builtin.Range.rangeFitsLong
    rw [decide_eq_true (by omega : (-2 ^ 63 : Int) ≤ x), decide_eq_true (by omega : x < 2 ^ 63)]
    rfl
  have big : n ≤ n * w := Nat.le_mul_of_pos_right n (by omega)
  refine ⟨by omega, by omega, ?_, size⟩
  unfold Builtin.Range.small
  rw [size, if_pos (by omega : (w : Int) > 0), fit 0 (by omega) (by omega), fit ((n * w : Nat) : Int) (by omega) (by omega), fit (w : Int) (by omega) (by omega), fit (n : Int) (by omega) (by omega), fit (((n * w : Nat) : Int) + ((w : Int) - 1)) (by omega) (by omega), Bool.or_true]
  rfl
/-- a comprehension over a range with a step -/
theorem lc_rangeC {lo c : Int} {n : Nat} {g : TG} {tt : TT} {te : TE} {vs : List Nat} {σ : L2.St} {H1 : Hp} {D : Addr} {Qd : Hp → Prop} (Pv : Nat → Hp → Prop) (h0 : Pv 0 (upd H1 D (.lst [])))
    (hs : ∀ i H, i < n → Pv i H → g (.int (lo + (i : Nat) * c)) (wipe σ vs) H fun σ2 H2 => wipe σ2 vs = wipe σ vs ∧ tt σ2 H2 fun b H3 => if b = true then te σ2 H3 fun y H4 => ∃ acc, H4 D = some (.lst acc) ∧ acc.length < sizeLine ∧ Pv (i + 1) (upd H4 D (.lst (acc ++ [y]))) else Pv (i + 1) H3)
    (hd : ∀ H, Pv n H → Qd H) : ∃ W : Nat → Nat → Hp → Prop, (∃ m, W 0 m (upd H1 D (.lst []))) ∧ ∀ i m H, W i m H → ((Itc lo c n).stop i H ∧ Qd H) ∨ ((Itc lo c n).go i H ∧ ∃ Nx : Hp → Prop, (∀ H', Nx H' → ∃ m', m' < m ∧ W (i + 1) m' H') ∧
      ∀ x H', (Itc lo c n).yld i H x H' → g x (wipe σ vs) H' fun σ2 H2 => wipe σ2 vs = wipe σ vs ∧ tt σ2 H2 fun b H3 => if b = true then te σ2 H3 fun y H4 => ∃ acc, H4 D = some (.lst acc) ∧ acc.length < sizeLine ∧ Nx (upd H4 D (.lst (acc ++ [y]))) else Nx H3) := by
  refine ⟨fun i m H => m = n - i ∧ i ≤ n ∧ Pv i H, ⟨n, rfl, Nat.zero_le _, h0⟩, fun i m H hW => ?_⟩
  obtain ⟨e, hi, p⟩ := hW
  rcases Nat.lt_or_ge i n with hlt | hge
  · refine .inr ⟨hlt, Pv (i + 1), fun H' p' => ⟨n - (i + 1), by omega, rfl, hlt, p'⟩, fun x H' y => ?_⟩
    obtain ⟨y1, y2⟩ := y
    rw [y1, y2]
    exact hs i H hlt p
  · have q : i = n := by omega
    rw [q] at p
    exact .inl ⟨hge, hd H p⟩
/-- the i-th of the parts of w items -/
def part (w : Nat) (xs : List V) (i : Nat) : List V := (xs.drop (i * w)).take w
def parts (w : Nat) (xs : List V) (n : Nat) : List (List V) := (List.range n).map (part w xs)
theorem parts_take {w : Nat} {xs : List V} {n i : Nat} (h : i < n) : (parts w xs n).take (i + 1) = (parts w xs n).take i ++ [part w xs i] := by
  have e : (parts w xs n)[i]? = some (part w xs i) := by
    unfold parts
    rw [List.getElem?_map, List.getElem?_range h]
    rfl
  rw [List.take_add_one, e]
  rfl
theorem parts_len (w : Nat) (xs : List V) (n : Nat) : (parts w xs n).length = n := by simp [parts]
theorem cut_part {w : Nat} {xs : List V} {n i : Nat} (hx : xs.length = n * w) (hi : i < n) : cutV xs (some ((i * w : Nat) : Int)) (some ((i * w + w : Nat) : Int)) = part w xs i := by
  have h1 : i * w + w ≤ n * w := by
    have := Nat.mul_le_mul_right w (show i + 1 ≤ n from hi)
    rw [Nat.add_mul, Nat.one_mul] at this
    exact this
  unfold cutV part
  rw [show HT.sIx xs.length 0 (some ((i * w : Nat) : Int)) = min (i * w) xs.length from HT.sIx_nat _ _ _, show HT.sIx xs.length xs.length (some ((i * w + w : Nat) : Int)) = min (i * w + w) xs.length from HT.sIx_nat _ _ _]
  rw [show min (i * w) xs.length = i * w by omega, show min (i * w + w) xs.length = i * w + w by omega, Nat.add_sub_cancel_left]
/-- the whole of it is the one part -/
theorem whole_part {w : Nat} {xs : List V} {n i : Nat} (hx : xs.length = n * w) (hi : i < n) (h : HT.sIx xs.length 0 (some ((i * w : Nat) : Int)) = 0 ∧ HT.sIx xs.length xs.length (some ((i * w + w : Nat) : Int)) = xs.length) : part w xs i = xs := by
  rw [← cut_part hx hi]
  unfold cutV
  rw [h.1, h.2, List.drop_zero, Nat.sub_zero, List.take_length]
/-- values that are tuples -/
abbrev Tups (K : PySem.W.Frag) (H : Hp) : List V → List (List V) → Prop := Paired fun v c => ∃ a, v = V.ref a ∧ SqT K H a c
theorem Tups.same {K : PySem.W.Frag} {H H' : Hp} (s : Same H H') {vs : List V} {cs : List (List V)} (h : Tups K H vs cs) : Tups K H' vs cs := Paired.mapP h fun v c ⟨a, e, q⟩ => ⟨a, e, Same.seqT s q⟩
theorem Tups.snoc {K : PySem.W.Frag} {H : Hp} {a : Addr} {c : List V} (h : SqT K H a c) : ∀ {vs : List V} {cs : List (List V)}, Tups K H vs cs → Tups K H (vs ++ [V.ref a]) (cs ++ [c])
  | _, _, .nil => .cons ⟨a, rfl, h⟩ .nil
  | _, _, .cons q t => .cons q (Tups.snoc h t)
/-! ### a def, by its name -/
structure FnC (P : Program) (w : World) (K : PySem.W.Frag) (mg : Str → Option Value) (base : Heap) (CX : CXT) (k : Nat) (x : Str) (ps : List Str) (sp : Sp) : Prop where
  ex : ∃ (f : Addr) (fd : FuncData), FnOk P w K mg base CX k f fd ps sp ∧ mg x = some (.ref f) ∧ PySem.W.keepIn K (.ref f) = true ∧ Binds K fd ps []
section
variable {X : Cx} {CX : CXT} {k j : Nat} {x : Str} {ps : List Str} {sp : Sp} {e : Expr} {es : List Expr} {t : TA} {p pos : Pos}
theorem pe_f {E : XK} (c : FnC X.prog X.w X.K X.mg X.base CX k x ps sp) (hr : Room j X.A) (hk : k ≤ j) (hx : Passes CX X E) (ha : PA X (e :: es) t) (hg : Gl X x := by rfl) (hdb : (x == ("__debug__" : Str)) = false := by decide)
    (he : starEach (e :: es) X.env = (false, eval e X.env) :: starEach es X.env := by rfl) (hpl : (backTo pos (starEach es X.env)).any (·.1) = false := by rfl) : PE X (.Call (.Name x p) (e :: es) [] pos) (tCall sp [] E t) := by
  obtain ⟨f, fd, F, hm, hkp, hb⟩ := c.ex
  exact pe_call F (hr.mono hk) hg hm hkp hb .nil hx ha hdb he hpl
theorem pe_fS {E : L2.St → XK} (c : FnC X.prog X.w X.K X.mg X.base CX k x ps sp) (hr : Room j X.A) (hk : k ≤ j) (hx : ∀ σ, PassesAt CX X σ (E σ)) (ha : PA X (e :: es) t) (hg : Gl X x := by rfl) (hdb : (x == ("__debug__" : Str)) = false := by decide)
    (he : starEach (e :: es) X.env = (false, eval e X.env) :: starEach es X.env := by rfl) (hpl : (backTo pos (starEach es X.env)).any (·.1) = false := by rfl) : PE X (.Call (.Name x p) (e :: es) [] pos) (tCallS sp E t) := by
  obtain ⟨f, fd, F, hm, hkp, hb⟩ := c.ex
  exact pe_callS F (hr.mono hk) hg hm hkp hb hx ha hdb he hpl
end
end SL
/-! t[::-1] of a tuple; a walk over the zip of two tuples. -/
namespace SL
open PySem PySem.Spec PyProof.Rows L2 HT
theorem fm_congr {α β : Type} {f g : α → Option β} : ∀ l : List α, (∀ k ∈ l, f k = g k) → l.filterMap f = l.filterMap g
  | [], _ => rfl
  | k :: r, h => by rw [List.filterMap_cons, List.filterMap_cons, h k (List.mem_cons_self ..), fm_congr r fun j hj => h j (List.mem_cons_of_mem _ hj)]
theorem rev_pick (xs : Array Value) : ((List.range xs.size).filterMap fun (k : Nat) => xs[(((xs.size : Int) - 1) + (k : Int) * (-1)).toNat]?).toArray = xs.toList.reverse.toArray := by
  have e : (List.range xs.size).filterMap (fun (k : Nat) => xs[(((xs.size : Int) - 1) + (k : Int) * (-1)).toNat]?) = ((List.range xs.size).map fun k => xs.size - 1 - k).filterMap (xs[·]?) := by
    rw [List.filterMap_map]
    refine fm_congr _ fun k hk => ?_
    have := List.mem_range.mp hk
    show xs[_]? = xs[xs.size - 1 - k]?
    rw [show (((xs.size : Int) - 1) + (k : Int) * (-1)).toNat = xs.size - 1 - k by omega]
  rw [e, PySem.W.krv_range, List.filterMap_reverse, PySem.W.krv_all]
section
variable {prog : Program} {w : World} {A : Around} {E : Value → Shared → Prop} {s : Shared}
theorem adjust_rev (n : Nat) : Builtin.Slice.sliceAdjust none none (-1) (n : Int) = ((n : Int) - 1, -1) := by
  unfold Builtin.Slice.sliceAdjust
  simp
theorem places_rev (n : Nat) : Builtin.Slice.slicePlaces ((n : Int) - 1) (-1) (-1) = n := by
  unfold Builtin.Slice.slicePlaces
  have h1 : ¬ ((-1 : Int) > 0) := by decide
  simp only [h1, if_false]
  rw [show (- -1 : Int) = 1 by decide, Int.ediv_one]
  split <;> omega
theorem sliceApplied_rev {sl : Addr} {vl vu vs : Value} {n : Nat} {Q : Int × Int × Nat → Shared → Prop} (hs : s.heap.IsSliceOf sl vl vu vs) (pl : IsPart vl none) (pu : IsPart vu none) (ps : IsPart vs (some (-1)))
    (h : Q ((n : Int) - 1, -1, n) s) : wpAny (model prog w) A (Builtin.Slice.sliceApplied (.ref sl) (pure (n : Int))) Q E s := by
  obtain ⟨os, hos, hcs, hds⟩ := id hs
  unfold Builtin.Slice.sliceApplied Builtin.Slice.sliceFields
  refine wpAny_bind (wpAny_bind (wpAny_field hos hds (x := vl) rfl (wpAny_bind (wpAny_field hos hds (x := vu) rfl (wpAny_bind (wpAny_field hos hds (x := vs) rfl (wpAny_pure ?_)))))))
  refine wpAny_bind (slicePart_ ps ?_)
  show wpAny _ _ (if ((-1 : Int) == 0) = true then _ else _) _ _ s
  rw [if_neg (by decide)]
  refine wpAny_bind (slicePart_ pl (wpAny_bind (slicePart_ pu (wpAny_bind (wpAny_pure ?_)))))
  show wpAny _ _ (match Builtin.Slice.sliceAdjust none none (-1) (n : Int) with | (lo, hi) => pure (lo, (-1 : Int), Builtin.Slice.slicePlaces lo hi (-1))) _ _ s
  rw [adjust_rev n]
  show wpAny _ _ (pure ((n : Int) - 1, (-1 : Int), Builtin.Slice.slicePlaces ((n : Int) - 1) (-1) (-1))) _ _ s
  rw [places_rev]
  exact wpAny_pure h
theorem getItem_tuple_rev {t sl : Addr} {items : Array Value} {vl vu vs : Value} {Q : Value → Shared → Prop} (ht : IsTup s.heap t items) (hs : s.heap.IsSliceOf sl vl vu vs) (pl : IsPart vl none) (pu : IsPart vu none) (ps : IsPart vs (some (-1)))
    (h : Q (.ref s.heap.objs.size) { s with heap := s.heap.push { cls := .type "tuple", data := .seq items.toList.reverse.toArray } })
    (hsz : items.size ≤ sizeLine) : wpAny (model prog w) A (getItem (.ref t) (.ref sl)) Q E s := by
  have htake : sizeOk (.seq items.toList.reverse.toArray) := by
    show items.toList.reverse.toArray.size ≤ sizeLine
    rw [List.size_toArray, List.length_reverse, Array.length_toList]
    exact hsz
  obtain ⟨os, hos, hcs, hds⟩ := id hs
  have hTs : s.TypeIs (.ref sl) "slice" := ⟨os, hos, hcs⟩
  unfold getItem
  try with_reducible refine wpAny_holding ?_
  first | refine wpAny_bind (wpAny_pure ?_) | skip
  refine wpAny_bind (wpAny_sequenceKey ht.typeIs (by decide) ?_)
  refine wpAny_bind (wpAny_callSpecial?_slot (name := Str.ofString "__getitem__") ht.typeIs PyProof.Rows.slot_tuple_getitem
    (wpAny_call_entry PyProof.Rows.slot_tuple_getitem ht.typeIs entry_tuple_getitem ?_ (args_tuple_getitem _ _)))
  show wpAny _ _ (Builtin.Tuple.tupleItemsOf (.ref t) >>= _) _ _ s
  refine wpAny_bind (tupleItemsOf_ ht ?_)
  refine wpAny_bind (wpAny_typeOf hTs ?_)
  rw [if_pos (by decide)]
  refine wpAny_bind (sliceApplied_rev hs pl pu ps ?_)
  have hno : ¬ ((((items.size : Int) - 1 == 0) && (-1 : Int) == 1 && items.size == items.size) = true) := by
    rw [show ((-1 : Int) == 1) = false from by decide, Bool.and_false, Bool.false_and]
    exact Bool.false_ne_true
  show wpAny _ _ (if (((items.size : Int) - 1 == 0) && (-1 : Int) == 1 && items.size == items.size) = true then _ else _) _ _ s
  rw [if_neg hno, rev_pick]
  first
    | exact wpAny_bind (m := Builtin.Tuple.tupleExact _) (wpAny_newObj_type (wpAny_pure ⟨_, rfl, wpAny_pure h⟩) htake)
    | exact wpAny_bind (m := Builtin.Tuple.tupleExact _) (wpAny_newObj_type (wpAny_bind (wpAny_pure (wpAny_pure ⟨_, rfl, wpAny_pure h⟩))) htake)
    | exact wpAny_bind (wpAny_bind (m := Builtin.Tuple.tupleExact _) (wpAny_newObj_type (wpAny_pure (wpAny_pure ⟨_, rfl, wpAny_pure h⟩)) htake))
    | exact wpAny_bind (wpAny_bind (m := Builtin.Tuple.tupleExact _) (wpAny_newObj_type (wpAny_pure ⟨_, rfl, wpAny_pure h⟩) htake))
end
section
variable {X : Cx}
def tRevT (K : PySem.W.Frag) (te : TE) : TE := fun σ H Q => te σ H fun x H1 => ∃ a xs, x = .ref a ∧ SqT K H1 a xs ∧ ∀ p, H1 p = none → Q (.ref p) (upd H1 p (.tup xs.reverse))
theorem pe_revT {e : Expr} {te : TE} {k : Nat} {p1 p2 p3 pos : Pos} (he : PE X e te) : PE X (.Subscript e (.Slice none none (some (.UnaryOp .USub (.Constant (.int 1) k p1) p2)) p3) pos) (tRevT X.K te) := by
  refine ⟨fun pins s σ H Q I h => ?_⟩
  refine Subscript_ (thn (he.run pins s σ H _ I h) fun v s1 ⟨x, H1, I1, r1, q1⟩ => ?_)
  obtain ⟨a, xs, ex, hx, q⟩ := q1
  subst ex
  cases r1
  have hst : PO X (some (.UnaryOp .USub (.Constant (.int 1) k p1) p2)) (tPart (tUn (rU fun i => .int (-i)) (tC (.int 1)))) := po_some (pe_un un_neg pe_int)
  refine wpAny_Slice (thn (po_none.run pins s1 σ H1 (fun o H2 => o = none ∧ H2 = H1) I1 ⟨rfl, rfl⟩) fun vl s2 ⟨l, H2, I2, pl, el, e2⟩ => ?_)
  subst el e2
  refine thn (po_none.run pins s2 σ H2 (fun o H3 => o = none ∧ H3 = H2) I2 ⟨rfl, rfl⟩) fun vu s3 ⟨u, H3, I3, pu, eu, e3⟩ => ?_
  subst eu e3
  refine thn (hst.run pins s3 σ H3 (fun o H4 => o = some (-1) ∧ H4 = H3) I3 ⟨1, rfl, -1, rfl, rfl, rfl⟩) fun vs s4 ⟨o, H4, I4, ps, eo, e4⟩ => ?_
  subst eo e4
  have I5 : Inv X pins σ H4 { s4 with heap := s4.heap.push { cls := .type "slice", data := .fields #[vl, vu, vs] } } := I4.kept (t' := s4.toks) fun b ob q => Heap.get?_push_of_some _ q
  obtain ⟨its, r, ht, hz⟩ := I5.tuple hx
  have hlen := r.length
  show wpAny (model X.prog X.w) X.A (subscriptTail e (.Slice none none (some (.UnaryOp .USub (.Constant (.int 1) k p1) p2)) p3) (.ref a) (.ref s4.heap.objs.size)) (EP X pins σ Q) X.xe { s4 with heap := s4.heap.push { cls := .type "slice", data := .fields #[vl, vu, vs] } }
  refine tail_any (ops := [.ref a, .ref s4.heap.objs.size]) ht.typeIs (PyProof.Rows.slot_tuple_getitem.lookup) ?_ (by with_unfolding_all rfl)
  refine getItem_tuple_rev ht (Heap.IsSliceOf.new _ vl vu vs) pl pu ps ?_ (by rw [List.size_toArray]; omega)
  refine ⟨.ref _, _, I5.laid (t' := s4.toks) (o := .tup xs.reverse) (fun b ob q => Heap.get?_push_of_some _ q) (Nat.le_refl _) ?_, rfl, q _ (I5.hok.fresh (Nat.le_refl _))⟩
  exact ⟨by rw [List.length_reverse]; exact hz, _, r.reverse, IsTup.new _ _⟩
end
theorem walk_zipT {K : PySem.W.Frag} {a b : Addr} {xs ys : List V} {n : Nat} (hn : n = min xs.length ys.length) : Walk (RZ.ItzT K a b) n (fun H => SqT K H a xs ∧ SqT K H b ys) (YPair (fun i => xs[i]?) (fun i => ys[i]?)) := by
  subst hn
  refine ⟨fun i _ hi q => ?_, fun _ q => ⟨xs, ys, q.1, q.2, by omega⟩, fun i H v H' _ q y => ?_⟩
  · have h1 : i < xs.length := by omega
    have h2 : i < ys.length := by omega
    exact ⟨xs, ys, xs[i], ys[i], q.1, q.2, by simp [h1], by simp [h2]⟩
  · obtain ⟨T, x, z, h1, h2, h3, h4, h5⟩ := y
    exact ⟨T, x, z, h1, h2, h3, h4 xs q.1, h5 ys q.2⟩
section
variable {X : Cx}
theorem pg_tupK {pos : Pos} {es : List Expr} {k : Nat} {t : TGs} {n : Nat} (K : PySem.W.Frag) (hc : X.calm = true) (h : PGs X es t) (e : X.K = K := by rfl)
    (hn : (assignEach es X.env).length = n := by rfl) (hst : (assignEach es X.env).findIdx? (·.1) = none := by rfl) : PG X (.Tuple es k pos) (gTup K n t) := by
  subst e
  exact pg_tup hc h hn hst
theorem pe_f0 {CX : CXT} {k j : Nat} {x : Str} {sp : Sp} {p pos : Pos} {E : XK} (c : FnC X.prog X.w X.K X.mg X.base CX k x [] sp) (hr : Room j X.A) (hk : k ≤ j) (hx : Passes CX X E) (hg : Gl X x := by rfl) (hdb : (x == ("__debug__" : Str)) = false := by decide) :
    PE X (.Call (.Name x p) [] [] pos) (tCall sp [] E tNil) := by
  obtain ⟨f, fd, F, hm, hkp, hb⟩ := c.ex
  exact pe_call0 F (hr.mono hk) hg hm hkp hb .nil hx hdb
end
end SL
/-! enumerate of a tuple, of a text. -/
namespace PySem
theorem sl_enum_newT (l : Addr) (xs : Array Value) :
    Meets (Builtin.«enumerate.__new__» ⟨[.type "enumerate", .ref l], []⟩) (fun _ R s => s.heap.IsTuple l xs ∧
      R (.ok (.ret (.ref (s.heap.push { cls := .type "tuple_iterator", data := .fields #[.ref l, .int 0 0] }).objs.size)))
        { s with heap := (s.heap.push { cls := .type "tuple_iterator", data := .fields #[.ref l, .int 0 0] }).push { cls := .type "enumerate", data := .fields #[.none, .bool false, .ref s.heap.objs.size, rawInt 0, .none, .none] } }) :=
  .of_wp fun prog w A R s h => by
    obtain ⟨hp, g, d, tk, os⟩ := s
    obtain ⟨hl, h⟩ := h
    have hsub := sub_enumerate
    have hL : Heap.IsTuple (Shared.heap ⟨hp, g, d, tk, os⟩) l xs := hl
    wp_walk
    refine wpAny_stack_any fun st => wpAny_pure ?_
    split
    · rename_i c _ _ _ _ _
      cases (c == Value.type "enumerate") <;> (wp_walk using wpAny_pyIter_tuple hL; exact ⟨_, rfl, h⟩)
    · wp_walk using wpAny_pyIter_tuple hL
      exact ⟨_, rfl, h⟩
theorem sl_call_enumT {prog : Program} {w : World} {A : Around} {E : Value → Shared → Prop} {s : Shared} {l : Addr} {xs : Array Value} {Q : Value → Shared → Prop} (hL : s.heap.IsTuple l xs)
    (h : ∀ h', IsEnum h' (s.heap.objs.size + 1) s.heap.objs.size 0 .none → h'.IsTupleIter s.heap.objs.size l 0 → h'.objs.size = s.heap.objs.size + 2 →
      (∀ b o, s.heap.get? b = some o → h'.get? b = some o) → Q (.ref (s.heap.objs.size + 1)) { s with heap := h' }) :
    wpAny (model prog w) A (call (.type "enumerate") [.ref l]) Q E s := by
  refine callType_new F.called_enumerate (by decide) (F.typeCall_enumerate_1 _) (F.newCall_enumerate_1 _) (fun obj => F.args_object_init_2 obj _) F.entry_enumerate_new (sl_enum_newT l xs) ⟨hL, ?_⟩
  have hz : (s.heap.push { cls := .type "tuple_iterator", data := .fields #[.ref l, .int 0 0] }).objs.size = s.heap.objs.size + 1 := Heap.size_push ..
  show _ ∧ _
  rw [hz]
  have he : IsEnum ((s.heap.push { cls := .type "tuple_iterator", data := .fields #[.ref l, .int 0 0] }).push
      { cls := .type "enumerate", data := .fields #[.none, .bool false, .ref s.heap.objs.size, rawInt 0, .none, .none] }) (s.heap.objs.size + 1) s.heap.objs.size 0 .none := by
    have q := Heap.get?_push_size (s.heap.push { cls := .type "tuple_iterator", data := .fields #[.ref l, .int 0 0] })
      (o := { cls := .type "enumerate", data := .fields #[.none, .bool false, .ref s.heap.objs.size, rawInt 0, .none, .none] }) rfl
    rw [hz] at q
    exact q
  exact ⟨⟨_, he, rfl⟩, h _ he ⟨_, Heap.get?_push_of_some _ (Heap.get?_push_size _ rfl), rfl, rfl⟩ (by rw [Heap.size_push, hz]) fun b o x => Heap.get?_push_of_some _ (Heap.get?_push_of_some _ x)⟩
end PySem
namespace SL
open PySem PySem.Spec PyProof.Rows L2
def IteT (K : PySem.W.Frag) (a : Addr) : It :=
  ⟨fun i H => ∃ (xs : List V) (x : V), SqT K H a xs ∧ xs[i]? = some x, fun i H v H' => ∃ T x, v = .ref T ∧ H T = none ∧ H' = upd H T (.tup [.int (i : Nat), x]) ∧ ∀ xs, SqT K H a xs → xs[i]? = some x, fun i H => ∃ xs : List V, SqT K H a xs ∧ xs.length ≤ i⟩
theorem turn_enumT {P : Program} {w : World} {K : PySem.W.Frag} {elts : List Expr} {kk : Nat} {tpos : Pos} (a e it : Addr) (hae : a ≠ e) (hai : a ≠ it) :
    Turn P w K (.Tuple elts kk tpos) (IteT K a) [e, it] e (fun i h => (∃ old, IsEnum h e it ((i : Nat) : Int) old) ∧ h.IsTupleIter it a i ∧ e ≠ it) where
  mem := by simp
  obj := fun i h st b hb => by
    obtain ⟨⟨old, he⟩, ⟨o, ho, hc, hd⟩, _⟩ := st
    have e' : b = e ∨ b = it := by simpa using hb
    rcases e' with rfl | rfl
    · exact ⟨_, he, fun v q => nomatch q⟩
    · exact ⟨o, ho, fun v q => by rw [hd] at q; cases q⟩
  keep := fun i h h' st k => let ⟨⟨old, he⟩, hi, hne⟩ := st; ⟨⟨old, k e (by simp) _ he⟩, hi.at fun o q => k it (by simp) o q, hne⟩
  item := by
    intro X hP hw hK hc i pins s σ H E I hf st hg
    subst hP hw hK
    obtain ⟨⟨old, he⟩, hit, hne⟩ := st
    obtain ⟨xs, x, hq, hx⟩ := hg
    obtain ⟨its, rv, p, hz⟩ := I.tuple hq
    obtain ⟨u, hu, ru⟩ := rv.get hx
    have hel : e < s.heap.objs.size := Heap.lt_size he
    have hil : it < s.heap.objs.size := by obtain ⟨_, q, _⟩ := hit; exact Heap.lt_size q
    have hlt : i < its.toArray.size := by
      have := (List.getElem?_eq_some_iff.mp hu).1
      simpa using this
    refine wpAny_pyNext_enum_itemD (Draws.tuple (by rw [show X.A.in1.handled = X.A.handled from rfl]; exact I.ok.hd hc) it a hai its.toArray) he ⟨hit, p⟩ hlt hne (by simp [hne, Ne.symm hae]) fun v h' tk hv ho hit' hT hsz hk => ?_
    obtain rfl : v = u := by
      have e1 : its.toArray[i]? = some u := by simpa using hu
      rw [e1] at hv
      exact (Option.some.inj hv).symm
    refine ⟨_, rfl, wpAny_letOwnedTupleGo_enum (s := { s with heap := h', toks := tk + 1 }) ho fun h'' he' sb => ?_⟩
    have hT2 := (sb.2 _ (Nat.ne_of_gt hel)).trans hT
    have new : ObjOk X.prog X.w (upd H s.heap.objs.size (.tup [.int (i : Nat), x])) h'' s.heap.objs.size (.tup [.int (i : Nat), x]) :=
      ⟨by show 2 ≤ sizeLine; decide, _, .cons ⟨_, rfl⟩ (.cons ru .nil), ⟨_, hT2, rfl, _, rfl⟩⟩
    have I1 : Inv X pins σ (upd H s.heap.objs.size (.tup [.int (i : Nat), x])) { s with heap := h'', toks := tk + 1 } :=
      I.turnedNew (ch := [e, it]) (fun b ob hb q => (sb.2 b (fun z => hb (by simp [z]))).trans (hk b ob (fun z => hb (by simp [z])) (fun z => hb (by simp [z])) q)) hf (Nat.le_refl _) new
    refine ⟨.ref s.heap.objs.size, _, I1, rfl, ⟨_, x, rfl, I.hok.fresh (Nat.le_refl _), rfl, fun ys hy => by rw [I.tuple_inj hy hq]; exact hx⟩, ⟨⟨v, ?_⟩, hit'.1.at fun o q => (sb.2 it (Ne.symm hne)).trans q, hne⟩, fun b hb => ?_⟩
    · rw [show ((i + 1 : Nat) : Int) = (i : Int) + 1 by omega]
      exact he'
    · have hb' : b < s.heap.objs.size := by
        have e' : b = e ∨ b = it := by simpa using hb
        rcases e' with z | z <;> (rw [z]; assumption)
      rw [upd_ne (Nat.ne_of_lt hb')]
      exact (hf b hb).1
  done := by
    intro X hP hw hK hc i pins s σ H E I hf st hg
    subst hP hw hK
    obtain ⟨⟨old, he⟩, hit, hne⟩ := st
    obtain ⟨xs, hq, hx⟩ := hg
    obtain ⟨its, rv, p, hz⟩ := I.tuple hq
    obtain ⟨f0, f1, f2, f3, f4, f5⟩ := hf it (by simp)
    have hl := rv.length
    have hT : s.TypeIs (.ref e) "enumerate" := ⟨_, he, rfl⟩
    unfold pyNext
    refine wpAny_bind (wpAny_attempt (wpAny_callSpecial?_slot (name := Str.ofString "__next__") hT F.slot_enumerate_next (wpAny_call_entry F.slot_enumerate_next hT F.entry_enumerate_next ?_ (F.args_enumerate_next_1 _))))
    show wpAny _ _ (field (.ref e) 2 >>= _) _ _ _
    refine wpAny_bind (wpAny_field he rfl (x := .ref it) rfl ?_)
    refine wpAny_bind (RZ.nextOf_tuple_end (by rw [show X.A.in1.in1.handled = X.A.handled from rfl]; exact I.ok.hd hc) hit p (by simp; omega) fun h' x he' hx' => ?_)
    obtain ⟨o, ho, hcl⟩ := hx'
    refine wpAny_bind (wpAny_isInstance (T := "StopIteration") (b := true) ⟨o, ho, hcl⟩ isSubtype_stop ?_)
    exact wpAny_pure ⟨rfl, I.turned (t' := s.toks) (fun b o hb q => he' b o hb q) f0 f1 f3 f4 f5⟩
  self := fun A i s Q E st h => let ⟨⟨_, he⟩, _⟩ := st; wpAny_pyIter_enum he h
def iEnumT (K : PySem.W.Frag) (ta : TA) : TI := fun σ H R => ta σ H fun vs H1 => ∃ a xs, vs = [.ref a] ∧ SqT K H1 a xs ∧ R (IteT K a) H1
theorem pi_enumT {X : Cx} {e : Expr} {ta : TA} {p pos tpos : Pos} {elts : List Expr} {kk : Nat} (hg : Gl X "enumerate") (hm : X.mg "enumerate" = none) (ha : PA X [e] ta) (hs : starEach [e] X.env = [(false, eval e X.env)] := by rfl) :
    PI X (.Tuple elts kk tpos) (.Call (.Name "enumerate" p) [e] [] pos) (iEnumT X.K ta) := by
  refine ⟨fun pins s σ H R I h => ?_⟩
  refine Call_ (ld_blt I hg hm boot_enumerate (PyProof.Rows.callWith_type1 (thn (ha.run pos pins s σ H _ I h) fun us s1 ⟨vs, H1, I1, r1, q1⟩ => ?_) hs rfl))
  obtain ⟨a, xs, ex, hq, q⟩ := q1
  subst ex
  cases r1 with
  | cons r rr =>
    cases rr
    cases r
    obtain ⟨its, rv, p', hz⟩ := I1.tuple hq
    have hla : a < s1.heap.objs.size := by
      obtain ⟨o, ho, _⟩ := p'
      exact Heap.lt_size ho
    refine sl_call_enumT p' fun h' he hit hsz hk => wpAny_pyIter_enum he ?_
    have I2 : Inv X pins σ H1 { s1 with heap := h' } := I1.kept (t' := s1.toks) hk
    refine ⟨s1.heap.objs.size + 1, [s1.heap.objs.size + 1, s1.heap.objs.size], _, _, H1, rfl, I2, turn_enumT a (s1.heap.objs.size + 1) s1.heap.objs.size (Nat.ne_of_lt (Nat.lt_succ_of_lt hla)) (Nat.ne_of_lt hla), ⟨⟨.none, he⟩, hit, Nat.succ_ne_self _⟩, fun b hb => ?_, q⟩
    have hle : s1.heap.objs.size ≤ b := by
      have e' : b = s1.heap.objs.size + 1 ∨ b = s1.heap.objs.size := by simpa using hb
      rcases e' with z | z
      · rw [z]
        exact Nat.le_add_right _ _
      · rw [z]
        exact Nat.le_refl _
    exact I1.fpOk hle (I1.hok.fresh hle)
theorem walk_enumT {K : PySem.W.Frag} {a : Addr} {xs : List V} : Walk (IteT K a) xs.length (fun H => SqT K H a xs) (YPair (fun i => some (.int (i : Nat))) (fun i => xs[i]?)) := by
  refine ⟨fun i _ hi q => ⟨xs, xs[i], q, by simp [hi]⟩, fun _ q => ⟨xs, q, Nat.le_refl _⟩, fun i H v H' _ q y => ?_⟩
  obtain ⟨T, x, h1, h2, h3, h4⟩ := y
  exact ⟨T, .int (i : Nat), x, h1, h2, h3, rfl, h4 xs q⟩
/-! ### of a text -/
def IteS (z : Str) : It :=
  ⟨fun i _ => i < z.cps.size, fun i H v H' => ∃ T c, v = .ref T ∧ H T = none ∧ H' = upd H T (.tup [.int (i : Nat), .str ⟨#[c]⟩]) ∧ z.cps[i]? = some c, fun i _ => z.cps.size ≤ i⟩
theorem turn_enumS {P : Program} {w : World} {K : PySem.W.Frag} {elts : List Expr} {kk : Nat} {tpos : Pos} (z : Str) (t : Tok) (e it : Addr) :
    Turn P w K (.Tuple elts kk tpos) (IteS z) [e, it] e (fun i h => (∃ old, IsEnum h e it ((i : Nat) : Int) old) ∧ h.IsStrIter it (strIterType z) z t i ∧ e ≠ it) where
  mem := by simp
  obj := fun i h st b hb => by
    obtain ⟨⟨old, he⟩, ⟨o, ho, hc, hd⟩, _⟩ := st
    have e' : b = e ∨ b = it := by simpa using hb
    rcases e' with rfl | rfl
    · exact ⟨_, he, fun v q => nomatch q⟩
    · exact ⟨o, ho, fun v q => by rw [hd] at q; cases q⟩
  keep := fun i h h' st k => let ⟨⟨old, he⟩, ⟨o, ho, r⟩, hne⟩ := st; ⟨⟨old, k e (by simp) _ he⟩, ⟨o, k it (by simp) o ho, r⟩, hne⟩
  item := by
    intro X hP hw hK hc i pins s σ H E I hf st hg
    subst hP hw hK
    obtain ⟨⟨old, he⟩, hit, hne⟩ := st
    have hel : e < s.heap.objs.size := Heap.lt_size he
    have hil : it < s.heap.objs.size := by obtain ⟨_, q, _⟩ := hit; exact Heap.lt_size q
    refine wpAny_pyNext_enum_itemD (Draws.text (by rw [show X.A.in1.handled = X.A.handled from rfl]; exact I.ok.hd hc) it z t) he hit hg hne (by simp [hne]) fun v h' tk hv ho hit' hT hsz hk => ?_
    obtain ⟨c, u, hcx, rfl⟩ := hv
    refine ⟨_, rfl, wpAny_letOwnedTupleGo_enum (s := { s with heap := h', toks := tk + 1 }) ho fun h'' he' sb => ?_⟩
    have hT2 := (sb.2 _ (Nat.ne_of_gt hel)).trans hT
    have new : ObjOk X.prog X.w (upd H s.heap.objs.size (.tup [.int (i : Nat), .str ⟨#[c]⟩])) h'' s.heap.objs.size (.tup [.int (i : Nat), .str ⟨#[c]⟩]) :=
      ⟨by show 2 ≤ sizeLine; decide, _, .cons ⟨_, rfl⟩ (.cons ⟨_, rfl⟩ .nil), ⟨_, hT2, rfl, _, rfl⟩⟩
    have I1 : Inv X pins σ (upd H s.heap.objs.size (.tup [.int (i : Nat), .str ⟨#[c]⟩])) { s with heap := h'', toks := tk + 1 } :=
      I.turnedNew (ch := [e, it]) (fun b ob hb q => (sb.2 b (fun z => hb (by simp [z]))).trans (hk b ob (fun z => hb (by simp [z])) (fun z => hb (by simp [z])) q)) hf (Nat.le_refl _) new
    refine ⟨.ref s.heap.objs.size, _, I1, rfl, ⟨_, c, rfl, I.hok.fresh (Nat.le_refl _), rfl, hcx⟩, ⟨⟨.str ⟨#[c]⟩ u, ?_⟩, ?_, hne⟩, fun b hb => ?_⟩
    · rw [show ((i + 1 : Nat) : Int) = (i : Int) + 1 by omega]
      exact he'
    · obtain ⟨o, q, r⟩ := hit'
      exact ⟨o, (sb.2 it (Ne.symm hne)).trans q, r⟩
    · have hb' : b < s.heap.objs.size := by
        have e' : b = e ∨ b = it := by simpa using hb
        rcases e' with z | z <;> (rw [z]; assumption)
      rw [upd_ne (Nat.ne_of_lt hb')]
      exact (hf b hb).1
  done := by
    intro X hP hw hK hc i pins s σ H E I hf st hg
    subst hP hw hK
    obtain ⟨⟨old, he⟩, hit, hne⟩ := st
    obtain ⟨f0, f1, f2, f3, f4, f5⟩ := hf it (by simp)
    have hx : z.cps[i]? = none := Array.getElem?_eq_none hg
    have hT : s.TypeIs (.ref e) "enumerate" := ⟨_, he, rfl⟩
    unfold pyNext
    refine wpAny_bind (wpAny_attempt (wpAny_callSpecial?_slot (name := Str.ofString "__next__") hT F.slot_enumerate_next (wpAny_call_entry F.slot_enumerate_next hT F.entry_enumerate_next ?_ (F.args_enumerate_next_1 _))))
    show wpAny _ _ (field (.ref e) 2 >>= _) _ _ _
    refine wpAny_bind (wpAny_field he rfl (x := .ref it) rfl ?_)
    have hh : X.A.in1.in1.handled = none := by rw [show X.A.in1.in1.handled = X.A.handled from rfl]; exact I.ok.hd hc
    cases ha : z.cps.all (· < 128)
    · have hit2 : s.heap.IsStrIter it "str_iterator" z t i := by simpa [strIterType, ha] using hit
      refine wpAny_bind (wpAny_nextOf_wide_end hh hit2 hx fun h' x he' hx' => ?_)
      obtain ⟨o, ho, hcl⟩ := hx'
      refine wpAny_bind (wpAny_isInstance (T := "StopIteration") (b := true) ⟨o, ho, hcl⟩ isSubtype_stop ?_)
      exact wpAny_pure ⟨rfl, I.turned (t' := s.toks) (fun b o hb q => he' b o hb q) f0 f1 f3 f4 f5⟩
    · have hit2 : s.heap.IsStrIter it "str_ascii_iterator" z t i := by simpa [strIterType, ha] using hit
      refine wpAny_bind (wpAny_nextOf_ascii_end hh hit2 hx fun h' x he' hx' => ?_)
      obtain ⟨o, ho, hcl⟩ := hx'
      refine wpAny_bind (wpAny_isInstance (T := "StopIteration") (b := true) ⟨o, ho, hcl⟩ isSubtype_stop ?_)
      exact wpAny_pure ⟨rfl, I.turned (t' := s.toks) (fun b o hb q => he' b o hb q) f0 f1 f3 f4 f5⟩
  self := fun A i s Q E st h => let ⟨⟨_, he⟩, _⟩ := st; wpAny_pyIter_enum he h
def iEnumS (ta : TA) : TI := fun σ H R => ta σ H fun vs H1 => ∃ z, vs = [.str z] ∧ R (IteS z) H1
theorem pi_enumS {X : Cx} {e : Expr} {ta : TA} {p pos tpos : Pos} {elts : List Expr} {kk : Nat} (hg : Gl X "enumerate") (hm : X.mg "enumerate" = none) (ha : PA X [e] ta) (hs : starEach [e] X.env = [(false, eval e X.env)] := by rfl) :
    PI X (.Tuple elts kk tpos) (.Call (.Name "enumerate" p) [e] [] pos) (iEnumS ta) := by
  refine ⟨fun pins s σ H R I h => ?_⟩
  refine Call_ (ld_blt I hg hm boot_enumerate (PyProof.Rows.callWith_type1 (thn (ha.run pos pins s σ H _ I h) fun us s1 ⟨vs, H1, I1, r1, q1⟩ => ?_) hs rfl))
  obtain ⟨z, ex, q⟩ := q1
  subst ex
  cases r1 with
  | cons r rr =>
    cases rr
    obtain ⟨t, rfl⟩ := r
    refine call_enumerate_str fun h' he hit hsz hk => wpAny_pyIter_enum he ?_
    have I2 : Inv X pins σ H1 { s1 with heap := h' } := I1.kept (t' := s1.toks) hk
    refine ⟨s1.heap.objs.size + 1, [s1.heap.objs.size + 1, s1.heap.objs.size], _, _, H1, rfl, I2, turn_enumS z t (s1.heap.objs.size + 1) s1.heap.objs.size, ⟨⟨.none, he⟩, hit, Nat.succ_ne_self _⟩, fun b hb => ?_, q⟩
    have hle : s1.heap.objs.size ≤ b := by
      have e' : b = s1.heap.objs.size + 1 ∨ b = s1.heap.objs.size := by simpa using hb
      rcases e' with z | z
      · rw [z]
        exact Nat.le_add_right _ _
      · rw [z]
        exact Nat.le_refl _
    exact I1.fpOk hle (I1.hok.fresh hle)
theorem walk_enumS {z : Str} : Walk (IteS z) z.cps.size (fun _ => True) (YPair (fun i => some (.int (i : Nat))) (fun i => z.cps[i]?.map fun c => V.str ⟨#[c]⟩)) := by
  refine ⟨fun i _ hi _ => hi, fun _ _ => Nat.le_refl _, fun i H v H' _ _ y => ?_⟩
  obtain ⟨T, c, h1, h2, h3, h4⟩ := y
  exact ⟨T, .int (i : Nat), .str ⟨#[c]⟩, h1, h2, h3, rfl, by show Option.map _ (z.cps[i]?) = _; rw [h4]; rfl⟩
end SL
/-! Data of any kind, and what the program and a law ask of it. -/
namespace SL
open PySem PySem.Spec PyProof.Rows L2
inductive D where
  | non
  | bl (b : Bool)
  | int (i : Int)
  | str (s : Str)
  | lst (ds : List D)
  | tup (ds : List D)
  | dic
mutual
inductive Dt (K : PySem.W.Frag) (H : Hp) : V → D → Prop
  | non : Dt K H .non .non
  | bl (b : Bool) : Dt K H (.bl b) (.bl b)
  | int (i : Int) : Dt K H (.int i) (.int i)
  | str (s : Str) (z : s.length ≤ 100000) : Dt K H (.str s) (.str s)
  | lst {a : Addr} {vs : List V} {ds : List D} (h : SqL K H a vs) (k : DtAll K H vs ds) (z : ds.length ≤ 100000) : Dt K H (.ref a) (.lst ds)
  | tup {a : Addr} {vs : List V} {ds : List D} (h : SqT K H a vs) (k : DtAll K H vs ds) (z : ds.length ≤ 100000) : Dt K H (.ref a) (.tup ds)
  | dic {a : Addr} {kvs : List (Key × V)} (h : H a = some (.dK kvs)) : Dt K H (.ref a) .dic
inductive DtAll (K : PySem.W.Frag) (H : Hp) : List V → List D → Prop
  | nil : DtAll K H [] []
  | cons {v : V} {d : D} {vs : List V} {ds : List D} (h : Dt K H v d) (t : DtAll K H vs ds) : DtAll K H (v :: vs) (d :: ds)
end
def tyD : D → String
  | .non => "NoneType"
  | .bl _ => "bool"
  | .int _ => "int"
  | .str _ => "str"
  | .lst _ => "list"
  | .tup _ => "tuple"
  | .dic => "dict"
section
variable {K : PySem.W.Frag} {H H' : Hp}
mutual
theorem Dt.same (s : Same H H') : ∀ {v : V} {d : D}, Dt K H v d → Dt K H' v d
  | _, _, .non => .non
  | _, _, .bl b => .bl b
  | _, _, .int i => .int i
  | _, _, .str x z => .str x z
  | _, _, .lst h a z => .lst (s.seq h) (DtAll.same s a) z
  | _, _, .tup h a z => .tup (Same.seqT s h) (DtAll.same s a) z
  | _, _, .dic h => .dic (s _ _ h)
theorem DtAll.same (s : Same H H') : ∀ {vs : List V} {ds : List D}, DtAll K H vs ds → DtAll K H' vs ds
  | _, _, .nil => .nil
  | _, _, .cons h t => .cons (Dt.same s h) (DtAll.same s t)
end
theorem Dt.knw {v : V} {d : D} (h : Dt K H v d) : Knw K H v (tyD d) := by
  cases h with
  | non => exact .non
  | bl b => exact .bl b
  | int i => exact .int i
  | str s _ => exact .str s
  | lst h _ _ => exact .lst h
  | tup h _ _ => exact .tup h
  | dic h => exact .dic h
theorem DtAll.length : ∀ {vs : List V} {ds : List D}, DtAll K H vs ds → vs.length = ds.length
  | _, _, .nil => rfl
  | _, _, .cons _ t => congrArg (· + 1) (DtAll.length t)
theorem DtAll.get : ∀ {vs : List V} {ds : List D} {i : Nat} {v : V}, DtAll K H vs ds → vs[i]? = some v → ∃ d, ds[i]? = some d ∧ Dt K H v d
  | _, _, _, _, .nil, h => by simp at h
  | _, _, 0, _, .cons h _, e => by
    simp at e
    subst e
    exact ⟨_, rfl, h⟩
  | _, _, i + 1, _, .cons _ t, e => by
    obtain ⟨d, h1, h2⟩ := DtAll.get (i := i) t (by simpa using e)
    exact ⟨d, by simpa using h1, h2⟩
theorem DtAll.got : ∀ {vs : List V} {ds : List D} {i : Nat} {d : D}, DtAll K H vs ds → ds[i]? = some d → ∃ v, vs[i]? = some v ∧ Dt K H v d
  | _, _, _, _, .nil, h => by simp at h
  | _, _, 0, _, .cons h _, e => by
    simp at e
    subst e
    exact ⟨_, rfl, h⟩
  | _, _, i + 1, _, .cons _ t, e => by
    obtain ⟨v, h1, h2⟩ := DtAll.got (i := i) t (by simpa using e)
    exact ⟨v, by simpa using h1, h2⟩
theorem DtAll.append {ws : List V} {es : List D} (b : DtAll K H ws es) : ∀ {vs : List V} {ds : List D}, DtAll K H vs ds → DtAll K H (vs ++ ws) (ds ++ es)
  | _, _, .nil => b
  | _, _, .cons h t => .cons h (DtAll.append b t)
theorem DtAll.snoc {v : V} {d : D} (h : Dt K H v d) {vs : List V} {ds : List D} (t : DtAll K H vs ds) : DtAll K H (vs ++ [v]) (ds ++ [d]) := DtAll.append (.cons h .nil) t
theorem DtAll.drop : ∀ {vs : List V} {ds : List D} (n : Nat), DtAll K H vs ds → DtAll K H (vs.drop n) (ds.drop n)
  | _, _, 0, h => h
  | _, _, _ + 1, .nil => .nil
  | _, _, n + 1, .cons _ t => DtAll.drop n t
theorem DtAll.take : ∀ {vs : List V} {ds : List D} (n : Nat), DtAll K H vs ds → DtAll K H (vs.take n) (ds.take n)
  | _, _, 0, _ => .nil
  | _, _, _ + 1, .nil => .nil
  | _, _, n + 1, .cons h t => .cons h (DtAll.take n t)
end
/-! ### what is asked -/
def itemsD : D → Option (List D)
  | .lst ds => some ds
  | .tup ds => some ds
  | _ => none
def withinD (lo hi : Int) : D → Bool
  | .int i => decide (lo ≤ i) && decide (i ≤ hi)
  | _ => false
/-- s stands in S -/
def inS (S s : Str) : Bool := !(Builtin.Str.occurrences S s 0 S.length 1).isEmpty
def signD (S : Str) : D → Bool
  | .str s => decide (s.length = 1) && inS S s
  | _ => false
def ltD : D → D → Bool
  | .int i, .int j => decide (i < j)
  | .str s, .str t => decide (s.cps.toList < t.cps.toList)
  | _, _ => false
def isIntD : D → Bool
  | .int _ => true
  | _ => false
def isStrD : D → Bool
  | .str _ => true
  | _ => false
def homog (ds : List D) : Bool := ds.all isIntD || ds.all isStrD
/-- the answers of x < y for neighbours -/
def steps : List D → List Bool
  | x :: y :: r => ltD x y :: steps (y :: r)
  | _ => []
def rising (ds : List D) : Bool := (steps ds).all id
def signsOk (S : Str) (d : D) : Bool := match itemsD d with
  | none => false
  | some ds => decide (1 ≤ ds.length) && decide (ds.length ≤ 10) && ds.all (signD S) && rising ds
def statesOk (many : Int) (ds : List D) : Bool := ds.all (withinD 0 (many - 1))
def lineOk (width : Nat) (many : Int) (d : D) : Bool := match itemsD d with
  | none => false
  | some rs => decide (rs.length = width) && statesOk many rs
def movesOk (width : Nat) (d : D) : Bool := match itemsD d with
  | none => false
  | some ds => decide (1 ≤ ds.length) && decide (ds.length ≤ 40) && ds.all (lineOk width ds.length)
def goodOk (many : Int) (d : D) : Bool := match itemsD d with
  | none => false
  | some ds => statesOk many ds && rising ds
theorem signD_str {S : Str} {ds : List D} (h : ds.all (signD S) = true) : homog ds = true := by
  unfold homog
  have : ds.all isStrD = true := by
    rw [List.all_eq_true] at h ⊢
    intro d hd
    have := h d hd
    cases d <;> first | rfl | cases this
  rw [this, Bool.or_true]
theorem states_int {m : Int} {ds : List D} (h : statesOk m ds = true) : homog ds = true := by
  unfold homog
  unfold statesOk at h
  have : ds.all isIntD = true := by
    rw [List.all_eq_true] at h ⊢
    intro d hd
    have := h d hd
    cases d <;> first | rfl | cases this
  rw [this, Bool.true_or]
theorem steps_get : ∀ {ds : List D} {i : Nat} {x y : D}, ds[i]? = some x → ds[i + 1]? = some y → (steps ds)[i]? = some (ltD x y)
  | [], _, _, _, h, _ => by simp at h
  | [_], 0, _, _, _, h => by simp at h
  | [_], _ + 1, _, _, h, _ => by simp at h
  | a :: b :: r, 0, x, y, h1, h2 => by
    simp at h1 h2
    subst h1 h2
    rfl
  | a :: b :: r, i + 1, x, y, h1, h2 => by
    have h1' : (b :: r)[i]? = some x := by simpa using h1
    have h2' : (b :: r)[i + 1]? = some y := by simpa using h2
    have := steps_get (ds := b :: r) (i := i) h1' h2'
    simpa [steps] using this
theorem steps_len : ∀ ds : List D, (steps ds).length = ds.length - 1
  | [] => rfl
  | [_] => rfl
  | a :: b :: r => by
    have := steps_len (b :: r)
    simp only [steps, List.length_cons] at this ⊢
    omega
/-! ### x < y of two ints or two texts; the any-of of list and tuple -/
section
variable {X : Cx}
def rLtD : R2 := fun x y H Q => (∃ i j, x = .int i ∧ y = .int j ∧ Q (.bl (decide (i < j))) H) ∨ ∃ i j, x = .str i ∧ y = .str j ∧ Q (.bl (decide (i.cps.toList < j.cps.toList))) H
theorem op_ltD : OpR X (compareOp .Lt) rLtD := by
  intro pins s σ H x y v u Q I rx ry h
  rcases h with ⟨i, j, h1, h2, q⟩ | ⟨i, j, h1, h2, q⟩
  · exact op_lt pins s σ H x y v u Q I rx ry ⟨i, j, h1, h2, q⟩
  · exact op_lt_str pins s σ H x y v u Q I rx ry ⟨i, j, h1, h2, q⟩
end
theorem kitAny_two {K : PySem.W.Frag} {T A B : String} {a b : Bool} (h1 : PySem.W.kitOne K (.type T) (.type A) = some a) (h2 : PySem.W.kitOne K (.type T) (.type B) = some b) : PySem.W.kitAny K (.type T) [.type A, .type B] = some (a || b) := by
  cases a with
  | true => exact kitAny_cons h1 (fun z => nomatch z) fun _ => rfl
  | false =>
    refine kitAny_cons h1 (fun _ => ?_) fun z => nomatch z
    cases b with
    | true => exact kitAny_cons h2 (fun z => nomatch z) fun _ => rfl
    | false => exact kitAny_cons h2 (fun _ => kitAny_nil) fun z => nomatch z
/-- a dict's comprehension over any walk -/
theorem dc_it {J : It} {n : Nat} {G : Hp → Prop} {Y : Nat → Hp → V → Hp → Prop} (w : Walk J n G Y) {g : TG} {tt : TT} {tk tv : TE} {vs : List Nat} {σ : L2.St} {H1 : Hp} {D : Addr} {Qd : Hp → Prop} (Pv : Nat → Hp → Prop) (h0 : Pv 0 (upd H1 D (.dK []))) (hG : ∀ i H, i ≤ n → Pv i H → G H)
    (hs : ∀ i x H H', i < n → Pv i H → Y i H x H' → g x (wipe σ vs) H' fun σ2 H2 => wipe σ2 vs = wipe σ vs ∧ tt σ2 H2 fun b H3 =>
      if b = true then tk σ2 H3 fun y H4 => tv σ2 H4 fun z H5 => ∃ kvs k, y = kV k ∧ H5 D = some (.dK kvs) ∧ kvs.length < sizeLine ∧ Pv (i + 1) (upd H5 D (.dK (putK kvs k z))) else Pv (i + 1) H3) (hd : ∀ H, Pv n H → Qd H) :
    ∃ W : Nat → Nat → Hp → Prop, (∃ m, W 0 m (upd H1 D (.dK []))) ∧ ∀ i m H, W i m H →
      (J.stop i H ∧ Qd H) ∨ (J.go i H ∧ ∃ Nx : Hp → Prop, (∀ H', Nx H' → ∃ m', m' < m ∧ W (i + 1) m' H') ∧ ∀ x H', J.yld i H x H' → g x (wipe σ vs) H' fun σ2 H2 => wipe σ2 vs = wipe σ vs ∧ tt σ2 H2 fun b H3 =>
        if b = true then tk σ2 H3 fun y H4 => tv σ2 H4 fun z H5 => ∃ kvs k, y = kV k ∧ H5 D = some (.dK kvs) ∧ kvs.length < sizeLine ∧ Nx (upd H5 D (.dK (putK kvs k z))) else Nx H3) := by
  refine ⟨fun i m H => m = n - i ∧ i ≤ n ∧ Pv i H, ⟨n, rfl, Nat.zero_le _, h0⟩, fun i m H hW => ?_⟩
  obtain ⟨rfl, hi, p⟩ := hW
  have q := hG i H hi p
  rcases Nat.lt_or_ge i n with hlt | hge
  · exact .inr ⟨w.goes i H hlt q, Pv (i + 1), fun H' p' => ⟨n - (i + 1), by omega, rfl, hlt, p'⟩, fun x H' y => hs i x H H' hlt p (w.yields i H x H' hlt q y)⟩
  · have e : i = n := by omega
    subst e
    exact .inl ⟨w.stops H q, hd H p⟩
/-- t[1:] -/
theorem cut_one (xs : List V) : cutV xs (some 1) none = xs.drop 1 := by
  unfold cutV
  rw [HT.sIx_none, show HT.sIx xs.length 0 (some 1) = min 1 xs.length from HT.sIx_nat _ _ 1]
  by_cases h : xs.length = 0
  · rw [List.eq_nil_of_length_eq_zero h]
    rfl
  · rw [show min 1 xs.length = 1 by omega, List.take_of_length_le (by rw [List.length_drop]; exact Nat.le_refl _)]
theorem lt_of {K : PySem.W.Frag} {H : Hp} {x y : V} {c d : D} {Q : VK} (h1 : Dt K H x c) (h2 : Dt K H y d) (h : (isIntD c && isIntD d || isStrD c && isStrD d) = true) (q : Q (.bl (ltD c d)) H) : rLtD x y H Q := by
  cases h1 <;> cases h2 <;> first | cases h | skip
  · exact .inl ⟨_, _, rfl, rfl, q⟩
  · exact .inr ⟨_, _, rfl, rfl, q⟩
theorem homog_two {ds : List D} {i j : Nat} {c d : D} (h : homog ds = true) (h1 : ds[i]? = some c) (h2 : ds[j]? = some d) : (isIntD c && isIntD d || isStrD c && isStrD d) = true := by
  unfold homog at h
  rw [Bool.or_eq_true, List.all_eq_true, List.all_eq_true] at h
  rcases h with h | h
  · rw [h c (List.mem_of_getElem? h1), h d (List.mem_of_getElem? h2)]
    rfl
  · rw [h c (List.mem_of_getElem? h1), h d (List.mem_of_getElem? h2), Bool.and_self, Bool.or_true]
end SL
/-! C(..) in the body of a try: what __init__ raises goes to the clauses. -/
namespace SL
open PySem PySem.Spec PyProof.Rows L2
section
variable {X : Cx} {CX : CXT} {k j : Nat} {f C : Addr} {fd : FuncData} {ps : List Str} {sp : Sp} {E : L2.St → XK} {x : Str} {p pos : Pos} {e : Expr} {es : List Expr} {t : TA}
theorem made_runs {pins : List (Addr × Obj)} {σ : L2.St} {H : Hp} {s : Shared} {Q : VK} {us : List Value} {vs : List V} (M : Mk X.K C f) (F : FnOk X.prog X.w X.K X.mg X.base CX k f fd ps sp) (hr : Room (k + 1) X.A) (hb : Binds X.K fd ps []) (hx : PassesAt CX X σ (E σ)) (I : Inv X pins σ H s) (r : Vals vs us)
    (h : ∀ o dx, H o = none → H dx = none → dx ≠ o → sp (.ref o :: vs) (upd (upd H dx (.own o)) o (.ins C dx [])) (fun v H2 => v = .non ∧ Q (.ref o) H2) (E σ)) : wpAny (model X.prog X.w) X.A (call (.ref C) us) (EP X pins σ Q) X.xe s := by
  have q0 := h (s.heap.objs.size + 1) s.heap.objs.size (I.hok.fresh (Nat.le_succ _)) (I.hok.fresh (Nat.le_refl _)) (Nat.ne_of_lt (Nat.lt_succ_self _))
  have J := Inv.made (C := C) I
  have rr : Vals (V.ref (s.heap.objs.size + 1) :: vs) (Value.ref (s.heap.objs.size + 1) :: us) := .cons rfl r
  have lens : (Value.ref (s.heap.objs.size + 1) :: us ++ []).length = ps.length := by
    rw [List.append_nil, ← rr.length]
    exact F.len _ _ _ _ q0
  have bd := hb _ (Value.ref (s.heap.objs.size + 1) :: us) J.kIn lens
  rw [List.append_nil] at bd
  refine wpAny_call (make_map (f := f) I.kIn M.makes M.init (beq_iff_eq.mp M.fn) (codeAny_mono (F.run _ X.stack _ _ ⟨Value.ref (s.heap.objs.size + 1) :: us, []⟩ _ _ _ (E σ) (hr.make C us []) (J.env0.make C us []) bd rr q0) fun o s' ho => ?_))
  cases o with
  | error z => exact hx pins _ _ z s' J ho
  | ok fl =>
    cases fl with
    | ret u =>
      obtain ⟨v, H', I3, rv, ev, q3⟩ := J.after ho
      subst ev
      exact ⟨rv, ⟨V.ref (s.heap.objs.size + 1), H', I3, rfl, q3⟩⟩
    | next => exact False.elim ho
    | brk => exact False.elim ho
    | cont => exact False.elim ho
def tMakeS (C : Addr) (sp : Sp) (E : L2.St → XK) (t : TA) : TE := fun σ H Q => t σ H fun vs H1 => ∀ o dx, H1 o = none → H1 dx = none → dx ≠ o → sp (.ref o :: vs) (upd (upd H1 dx (.own o)) o (.ins C dx [])) (fun v H2 => v = .non ∧ Q (.ref o) H2) (E σ)
theorem pe_makeS (M : Mk X.K C f) (F : FnOk X.prog X.w X.K X.mg X.base CX k f fd ps sp) (hr : Room (k + 1) X.A) (hg : Gl X x) (hm : X.mg x = some (.ref C)) (hb : Binds X.K fd ps []) (hx : ∀ σ, PassesAt CX X σ (E σ)) (ha : PA X (e :: es) t) (hdb : (x == ("__debug__" : Str)) = false := by decide)
    (he : starEach (e :: es) X.env = (false, eval e X.env) :: starEach es X.env := by rfl) (hpl : (backTo pos (starEach es X.env)).any (·.1) = false := by rfl) : PE X (.Call (.Name x p) (e :: es) [] pos) (tMakeS C sp E t) := by
  refine ⟨fun pins s σ H Q I h => ?_⟩
  refine wpAny_Call_Name_kw (ld_glob I hg hm ?_ hdb)
  exact PySem.W.callWith_K (h₀ := X.base) I.ok.mod.kin M.kp (thn (ha.run pos pins s σ H _ I h) fun us s1 ⟨vs, H1, I1, r, q⟩ => ⟨I1.kIn, made_runs M F hr hb (hx σ) I1 r q⟩) he hpl
end
section
variable {X : Cx} {tg : Expr}
/-- over a list or a tuple, whichever it is -/
def iAny (K : PySem.W.Frag) (tl : TE) : TI := fun σ H R => tl σ H fun x H1 => ∃ a xs, x = .ref a ∧ (SqL K H1 a xs ∨ SqT K H1 a xs) ∧ ∀ J G, Walk J xs.length G (YAt xs) → (∀ H', Same H1 H' → G H') → R J H1
theorem pi_any {l : Expr} {tl : TE} (hl : PE X l tl) : PI X tg l (iAny X.K tl) := by
  refine ⟨fun pins s σ H R I h => thn (hl.run pins s σ H _ I h) fun v s1 hv => ?_⟩
  obtain ⟨_, H1, I1, r1, a, xs, rfl, hs, q⟩ := hv
  cases r1
  have fp : ∀ b, b ∈ [s1.heap.objs.size] → FpOk X pins H1 b := fun b hb => by
    rw [List.mem_singleton.mp hb]
    exact I1.fpOk (Nat.le_refl _) (I1.hok.fresh (Nat.le_refl _))
  have up : ∀ o : Obj, Inv X pins σ H1 { s1 with heap := s1.heap.push o } := fun o => I1.kept (t' := s1.toks) fun b z e => Heap.get?_push_of_some _ e
  rcases hs with hq | hq
  · obtain ⟨its, _, p, _⟩ := I1.list hq
    exact wpAny_pyIter_list p.isList ⟨_, _, _, _, H1, rfl, up _, turn_list a _, ⟨_, Heap.get?_push_size _ rfl, rfl, rfl⟩, fp, q _ _ walk_list fun H' s => s.seq hq⟩
  · obtain ⟨its, _, p, _⟩ := I1.tuple hq
    exact wpAny_pyIter_tuple (show s1.heap.IsTuple a its.toArray from p) ⟨_, _, _, _, H1, rfl, up _, turn_tuple a _, ⟨_, Heap.get?_push_size _ rfl, rfl, rfl⟩, fp, q _ _ walk_tup fun H' s => Same.seqT s hq⟩
end
section
variable {X : Cx} {tg : Expr}
theorem call_listOfK (K : PySem.W.Frag) (h : X.K = K := by rfl) : CallR X (.type "list") (fun xs H Q => ∃ p ys, xs = [.ref p] ∧ (SqL K H p ys ∨ SqT K H p ys) ∧ ∀ l, H l = none → Q (.ref l) (upd H l (.lst ys))) := by
  subst h
  exact call_list_of
theorem pi_listK {l : Expr} {tl : TE} (K : PySem.W.Frag) (hl : PE X l tl) (h : X.K = K := by rfl) : PI X tg l (iList K tl) := by
  subst h
  exact pi_list hl
end
/-- the scope of the comprehension that the j-th statement assigns -/
def asgScope (s : Stmt) (j : Nat) : Scope := match (defBody s).getD j (.Pass ⟨0, 0, 0, 0⟩) with
  | .Assign _ (.ListComp _ _ sc _) _ => sc
  | _ => { kind := .function, names := [], isGenerator := false, isCoroutine := false }
end SL
/-! list(text); texts of one sign, drawn and sorted. -/
namespace SL
open PySem PySem.Spec PyProof.Rows L2
/-- the text of one sign -/
abbrev ch (c : Nat) : Str := ⟨#[c]⟩
abbrev chV (c : Nat) : V := .str (ch c)
theorem vals_at : ∀ {vs : List V} {us : List Value}, vs.length = us.length → (∀ (i : Nat) (v : V) (u : Value), vs[i]? = some v → us[i]? = some u → RelV v u) → Vals vs us
  | [], [], _, _ => .nil
  | [], _ :: _, e, _ => by cases e
  | _ :: _, [], e, _ => by cases e
  | v :: vs, u :: us, e, h => .cons (h 0 v u rfl rfl) (vals_at (by simpa using e) fun i x y hx hy => h (i + 1) x y (by simpa using hx) (by simpa using hy))
section
variable {X : Cx}
theorem call_list_txt (hc : X.calm = true) : CallR X (.type "list") (fun xs H Q => ∃ z : Str, xs = [.str z] ∧ z.cps.size ≤ 100000 ∧ ∀ l, H l = none → Q (.ref l) (upd H l (.lst (z.cps.toList.map chV)))) := by
  intro pins s σ H xs us Q I r h
  obtain ⟨z, rfl, hz, q⟩ := h
  obtain ⟨u, rfl, t, rfl⟩ := vals1 r
  have hz' : z.cps.size ≤ sizeLine := Nat.le_of_lt (lineN hz)
  refine call_list_str (I.ok.hd hc) z t (fun h' tk acc c' hk hl hi => ?_) hz'
  have hs := hi.1
  refine ⟨.ref _, _, I.laid (t' := tk) (o := .lst (z.cps.toList.map chV)) hk (Nat.le_refl _) ?_, rfl, q _ (I.hok.fresh (Nat.le_refl _))⟩
  refine ⟨by rw [List.length_map, Array.length_toList]; exact hz', acc.toList, c', vals_at (by rw [List.length_map, Array.length_toList, Array.length_toList, hs]) fun i v u hv hu => ?_, hl⟩
  rw [List.getElem?_map, Array.getElem?_toList] at hv
  rw [Array.getElem?_toList] at hu
  obtain ⟨c, t', hc', rfl⟩ := hi.2 i u hu
  rw [hc'] at hv
  cases hv
  exact ⟨t', rfl⟩
end
theorem ch_inj {a b : Nat} (h : ch a = ch b) : a = b := by
  have : (ch a).cps.toList = (ch b).cps.toList := by rw [h]
  simpa using this
theorem perm_ch {cs : List Nat} {ys : List Str} (h : ys.Perm (cs.map ch)) : ∃ ds : List Nat, ds.Perm cs ∧ ys = ds.map ch := by
  refine ⟨ys.map fun s => s.cps.toList.headD 0, ?_, ?_⟩
  · have := h.map fun s => s.cps.toList.headD 0
    rw [List.map_map] at this
    have e : (fun s : Str => s.cps.toList.headD 0) ∘ ch = id := by funext c; rfl
    rw [e, List.map_id] at this
    exact this
  · rw [List.map_map]
    have : ∀ y ∈ ys, (ch ∘ fun s : Str => s.cps.toList.headD 0) y = id y := fun y hy => by
      obtain ⟨c, _, rfl⟩ := List.mem_map.mp (h.mem_iff.mp hy)
      rfl
    rw [List.map_congr_left this, List.map_id]
theorem one_lt {a b : Nat} : ([a] < [b]) ↔ a < b := by simp [List.cons_lt_cons_iff]
theorem sorted_up : ∀ {cs : List Nat}, cs.Nodup → PyProof.Rows.sortedS (cs.map ch) = true → rising (cs.map fun c => D.str (ch c)) = true
  | [], _, _ => rfl
  | [_], _, _ => rfl
  | a :: b :: r, nd, h => by
    have h' : (!PySem.Spec.ltCps [b] [a] && PyProof.Rows.sortedS ((b :: r).map ch)) = true := h
    rw [Bool.and_eq_true, PyProof.Rows.ltCps_eq, Bool.not_eq_true', decide_eq_false_iff_not, one_lt] at h'
    have ih := sorted_up (cs := b :: r) (List.nodup_cons.mp nd).2 h'.2
    have ne : a ≠ b := fun e => (List.nodup_cons.mp nd).1 (by rw [e]; exact List.mem_cons_self ..)
    have lt : ltD (.str (ch a)) (.str (ch b)) = true := decide_eq_true (one_lt.mpr (by omega))
    unfold rising at ih ⊢
    show (ltD (.str (ch a)) (.str (ch b)) :: steps ((b :: r).map fun c => D.str (ch c))).all id = true
    rw [List.all_cons, ih, lt]
    rfl
theorem sign_ch {S : Str} {c : Nat} (h : c ∈ S.cps.toList) : signD S (.str (ch c)) = true := by
  show (decide ((ch c).length = 1) && inS S (ch c)) = true
  have e : inS S (ch c) = decide (c ∈ S.cps.toList) := PySem.StrLaws.found_one S c
  rw [e, decide_eq_true h]
  rfl
theorem signs_ch {S : Str} {cs : List Nat} (h : ∀ c ∈ cs, c ∈ S.cps.toList) : (cs.map fun c => D.str (ch c)).all (signD S) = true := by
  rw [List.all_eq_true]
  intro d hd
  obtain ⟨c, hc, rfl⟩ := List.mem_map.mp hd
  exact sign_ch (h c hc)
theorem dts_ch {K : PySem.W.Frag} {H : Hp} : ∀ cs : List Nat, DtAll K H (cs.map chV) (cs.map fun c => D.str (ch c))
  | [] => .nil
  | c :: r => .cons (.str _ (show 1 ≤ 100000 by decide)) (dts_ch r)
theorem map_erase {α β : Type} (f : α → β) : ∀ (l : List α) (k : Nat), (l.map f).eraseIdx k = (l.eraseIdx k).map f
  | [], _ => rfl
  | _ :: _, 0 => rfl
  | x :: r, k + 1 => congrArg (f x :: ·) (map_erase f r k)
theorem erase_perm {α : Type} : ∀ {l : List α} {k : Nat} {y : α}, l[k]? = some y → (y :: l.eraseIdx k).Perm l
  | [], _, _, h => by simp at h
  | x :: r, 0, y, h => by
    simp at h
    subst h
    exact List.Perm.refl _
  | x :: r, k + 1, y, h => by
    have ih := erase_perm (l := r) (k := k) (y := y) (by simpa using h)
    show (y :: x :: r.eraseIdx k).Perm (x :: r)
    exact (List.Perm.swap x y _).trans (ih.cons x)
end SL
/-! sorted(texts, reverse=..), any number of them. -/
namespace SL
open PySem PySem.Spec PyProof.Rows L2 SrtO Srt
def sv : Value → List Nat
  | .str s _ => s.cps.toList
  | _ => []
def ltSv (v u : Value) : Bool := decide (sv v < sv u)
theorem swo_sv : Swo ltSv := by
  refine ⟨fun x y h => ?_, fun x y z h1 h2 => ?_⟩
  · have a := of_decide_eq_true (p := sv x < sv y) h
    exact decide_eq_false (p := sv y < sv x) (List.lt_asymm a)
  · have a : sv x ≤ sv y := of_decide_eq_false (p := sv y < sv x) h1
    have b : sv y ≤ sv z := of_decide_eq_false (p := sv z < sv y) h2
    exact decide_eq_false (p := sv z < sv x) (List.le_trans a b)
theorem strs_mem : ∀ {vs : List Value} {ss : List Str}, StrsAre vs ss → ∀ v ∈ vs, ∃ i t, v = Value.str i t
  | _, _, .nil, v, h => absurd h (by simp)
  | _, _, .cons n t r, v, h => by
    rcases List.mem_cons.mp h with e | h
    · exact ⟨n, t, e⟩
    · exact strs_mem r v h
section
variable {prog : Program} {w : World} {A : Around} {E : Value → Shared → Prop} {s : Shared}
theorem strs_cmp {vs : List Value} {ss : List Str} (hI : StrsAre vs ss) : Cmp prog w A s oneType' (fun p => p.1 ∈ vs) (lt2 ltSv) := by
  intro p q hm hm'
  obtain ⟨a, t, e⟩ := strs_mem hI _ hm
  obtain ⟨b, u, e'⟩ := strs_mem hI _ hm'
  show wpAny (model prog w) A (keyLt' oneType' p.1 q.1) (fun r s' => s' = s ∧ r = ltSv p.1 q.1) (fun _ _ => False) s
  rw [e, e', keyLt'_oneType]
  exact oneLt_str ⟨rfl, rfl⟩
theorem strs_sortable {a : Addr} {vs : List Value} {ss : List Str} (hI : StrsAre vs ss) (h2 : 2 ≤ vs.length) : SortableO prog w A s a vs ltSv := by
  intro h' _
  refine ⟨oneType', fun Q E hq => ?_, strs_cmp hI⟩
  match vs, hI, h2 with
  | v1 :: v2 :: rest, hI, _ =>
    rw [keyKind_strs hI]
    exact wpAny_pure hq
  | [], _, h => exact absurd h (by decide)
  | [v], _, h => exact absurd h (by simp)
end
def sOf : Value → Str
  | .str s _ => s
  | _ => Str.empty
theorem strs_of : ∀ {vs : List Value}, (∀ v ∈ vs, ∃ i t, v = Value.str i t) → Vals ((vs.map sOf).map V.str) vs
  | [], _ => .nil
  | v :: vs, h => by
    obtain ⟨i, t, e⟩ := h v List.mem_cons_self
    subst e
    exact .cons ⟨t, rfl⟩ (strs_of fun u hu => h u (List.mem_cons_of_mem _ hu))
theorem sOf_strs : ∀ {vs : List Value} {ss : List Str}, StrsAre vs ss → vs.map sOf = ss
  | _, _, .nil => rfl
  | _, _, .cons n t r => congrArg (n :: ·) (sOf_strs r)
section
variable {X : Cx}
/-- sorted(texts, reverse=True): the same texts, none behind a lesser one -/
theorem cr_sortedRevS : CallRK X (.builtin "sorted") [Str.ofString "reverse"] (fun vs zs H Q => ∃ (a : Addr) (xs : List Str), vs = [V.ref a] ∧ zs = [.bl true] ∧ SqL X.K H a (xs.map V.str) ∧
    ∀ (ys : List Str) (p : Addr), ys.Perm xs → ys.Pairwise (fun x y => ¬ x.cps.toList < y.cps.toList) → H p = none → Q (.ref p) (upd H p (.lst (ys.map V.str)))) := by
  intro pins s σ H vs zs us ws Q I r rz h
  obtain ⟨a, xs, rfl, rfl, hs, q⟩ := h
  obtain rfl := Vals.ref1 r
  obtain ⟨w1, rfl, e1⟩ := vals1 rz
  obtain rfl : w1 = Value.bool true := e1
  obtain ⟨its, rv, hl, hz⟩ := I.list hs
  have hi := rv.strs
  refine SrtR.sorted_ordK (b := true) (fun _ => rfl) (PyProof.Rows.args_sorted_rev _ _) (fun _ => PyProof.Rows.args_list_sort_rev _ _) swo_sv hl.isList (by rw [← rv.length]; exact hz) (fun h2 h₁ a' _ _ => strs_sortable hi h2) fun out h1 h2 => ?_
  have pm : out.Perm its := (h2.perm).trans (List.reverse_perm _)
  have all : ∀ v ∈ out.reverse, ∃ i t, v = Value.str i t := fun v hv => strs_mem hi v (pm.mem_iff.mp (List.mem_reverse.mp hv))
  obtain ⟨ep, he'⟩ := PyProof.Rows.sortedAll_at s.heap its (if true = true then out.toArray.reverse else out.toArray)
  have e0 : (if true = true then out.toArray.reverse else out.toArray) = out.reverse.toArray := by simp
  have len : ((out.reverse.map sOf).map V.str).length ≤ sizeLine := by
    rw [List.length_map, List.length_map, List.length_reverse, pm.length_eq, ← rv.length]
    exact hz
  have pw : (out.reverse.map sOf).Pairwise (fun x y => ¬ x.cps.toList < y.cps.toList) := by
    rw [List.map_reverse, List.pairwise_reverse, List.pairwise_map]
    refine List.Pairwise.imp_of_mem (fun {x y} hx hy h => ?_) h1
    obtain ⟨i, t, rfl⟩ := strs_mem hi x (pm.mem_iff.mp hx)
    obtain ⟨j, u, rfl⟩ := strs_mem hi y (pm.mem_iff.mp hy)
    exact of_decide_eq_false (p := j.cps.toList < i.cps.toList) h
  have pr : (out.reverse.map sOf).Perm xs := by
    have z := ((List.reverse_perm out).trans pm).map sOf
    rw [sOf_strs hi] at z
    exact z
  rw [e0] at he' ⊢
  exact ⟨.ref _, upd H (s.heap.objs.size + 1) (.lst ((out.reverse.map sOf).map V.str)), I.laid (t' := s.toks) (fun _ _ => PyProof.Rows.sortedAll_old) (Nat.le_succ _) ⟨len, _, ep, strs_of all, he'⟩, rfl, q _ _ pr pw (I.hok.fresh (Nat.le_succ _))⟩
end
end SL
/-! sorted(tuples of ints), any number of them; t * n of a tuple; == by an own __eq__, true or not. -/
namespace SL
open PySem PySem.Spec PyProof.Rows L2
section
variable {prog : Program} {w : World} {A : Around} {E : Value → Shared → Prop} {s : Shared}
theorem swo_int (k : Value → Int) : SrtO.Swo fun v u => decide (k v < k u) := by
  refine ⟨fun x y h => ?_, fun x y z h1 h2 => ?_⟩
  · have := of_decide_eq_true h
    exact decide_eq_false (by omega)
  · have := of_decide_eq_false h1
    have := of_decide_eq_false h2
    exact decide_eq_false (by omega)
theorem tup_cmp {d : Nat} {B : Int} {vs : List Value} {k : Value → Int} (x : TS.TupsOk s.heap d B vs) (hr : ∀ v, v ∈ vs → ∀ ns, TS.TupInts s.heap v ns → k v = TS.code B ns) :
    SrtO.Cmp prog w A s (tuples' true) (fun p => p.1 ∈ vs) (SrtO.lt2 fun v u => decide (k v < k u)) := by
  intro p q hp hq
  obtain ⟨ns, tp, lp, bp⟩ := x _ hp
  obtain ⟨ms, tq, lq, bq⟩ := x _ hq
  have ep := hr _ hp _ tp
  have eq2 := hr _ hq _ tq
  show wpAny (model prog w) A (keyLt' (tuples' true) p.1 q.1) (fun r s' => s' = s ∧ r = decide (k p.1 < k q.1)) (fun _ _ => False) s
  rw [ep, eq2]
  obtain ⟨a, xs, e1, ⟨o, ho, hc, n, hdt⟩, i⟩ := tp
  obtain ⟨a', ys, e2, ⟨o', ho', hc', n', hdt'⟩, i'⟩ := tq
  rw [e1, e2]
  refine PySem.W.kat_lt ho hdt ho' hdt' ?_
  have sz : decide (xs.size < ys.size) = false := by
    have l1 := i.length
    have l2 := i'.length
    rw [Array.length_toList] at l1 l2
    exact decide_eq_false (by omega)
  rw [sz]
  exact TS.lex_ints 0 i i' (by omega) bp bq ⟨rfl, rfl⟩
theorem tups_sortable {a : Addr} {d : Nat} {B : Int} {vs : List Value} {k : Value → Int} (hd : 1 ≤ d) (h2 : 2 ≤ vs.length) (x : TS.TupsOk s.heap d B vs) (hr : ∀ v, v ∈ vs → ∀ ns, TS.TupInts s.heap v ns → k v = TS.code B ns)
    (ha : ∀ o, s.heap.get? a = some o → o.cls ≠ .type "tuple") : SrtO.SortableO prog w A s a vs fun v u => decide (k v < k u) := by
  intro h' keep
  have kp : ∀ b o, s.heap.get? b = some o → o.cls = .type "tuple" → h'.get? b = some o := fun b o e c => keep b o (fun z => by subst z; exact ha o e c) e
  have x' : TS.TupsOk h' d B vs := x.keeps kp
  have hr' : ∀ v, v ∈ vs → ∀ ns, TS.TupInts h' v ns → k v = TS.code B ns := fun v hv ns t => by
    obtain ⟨ns0, t0, _⟩ := x v hv
    have e : ns = ns0 := t.ints.symm.trans (t0.keeps kp).ints
    rw [e]
    exact hr v hv ns0 t0
  obtain ⟨fs, kk, hl, hi⟩ := TS.firsts_of hd vs x'
  refine ⟨tuples' true, fun Q E hq => ?_, tup_cmp (s := { s with heap := h' }) x' hr'⟩
  refine PySem.W.kat_kind (T := Value.type "int") kk (by omega) (fun f hf => ?_) rfl ?_
  · obtain ⟨n, t, rfl⟩ := hi f hf
    exact PySem.W.Looks.of_pure rfl
  · have e : (Value.type "int" != Value.type "tuple") = true := by first | decide +kernel | rfl | decide
    rw [e]
    exact hq
theorem sorted_tupsO {l : Addr} {vs : List Value} {d : Nat} {B : Int} {Q : Value → Shared → Prop} (hl : s.heap.IsList l vs.toArray) (hz : vs.length ≤ sizeLine) (hd : 2 ≤ vs.length → 1 ≤ d) (x : TS.TupsOk s.heap d B vs)
    (h : ∀ (h' : Heap) (d : Addr) (out : List Value), out.Perm vs → out.Pairwise (fun u v => TS.code B (TS.intsOf s.heap u) ≤ TS.code B (TS.intsOf s.heap v)) → (∀ b o, s.heap.get? b = some o → h'.get? b = some o) → s.heap.objs.size ≤ d → (∃ n, h'.get? d = some (seqObj "list" out.toArray n)) → Q (.ref d) { s with heap := h' }) :
    wpAny (model prog w) A (call (.builtin "sorted") [.ref l]) Q E s := by
  refine SrtO.sorted_ord (swo_int fun v => TS.code B (TS.intsOf s.heap v)) hl hz (fun h2 h₁ a ha kk => ?_) fun out hs hb => ?_
  · have kp : ∀ b o, s.heap.get? b = some o → o.cls = .type "tuple" → h₁.get? b = some o := fun b o e _ => (kk b o e).2
    refine tups_sortable (s := { s with heap := h₁ }) (hd h2) h2 (x.keeps kp) (fun v hv ns t => ?_) fun o e => ?_
    · obtain ⟨ns0, t0, _⟩ := x v hv
      have e : ns = ns0 := t.ints.symm.trans (t0.keeps kp).ints
      show TS.code B (TS.intsOf s.heap v) = _
      rw [e, t0.ints]
    · have e' : some o = some (seqObj "list" vs.toArray 0) := e.symm.trans ha
      cases e'
      intro c
      exact absurd (Value.type.inj c) (by decide)
  · refine h _ _ out hb.perm (List.Pairwise.imp (fun {u v} q => ?_) hs) (fun b o e => PyProof.Rows.sortedAll_old e) (Nat.le_succ _) (PyProof.Rows.sortedAll_at s.heap vs out.toArray)
    have := of_decide_eq_false q
    omega
end
/-- sorted(xs), xs a list of tuples of d ints in [0, B), any number of them -/
def rSortTA (K : PySem.W.Frag) : List V → Hp → VK → Prop := fun vs H Q => ∃ (a : Addr) (xs : List V) (d : Nat) (B : Int), vs = [V.ref a] ∧ SqL K H a xs ∧ (2 ≤ xs.length → 1 ≤ d) ∧ (∀ x ∈ xs, ∃ ns, TupI K H x ns ∧ ns.length = d ∧ TS.Bd B ns) ∧
  ∀ (ys : List V) (p : Addr), ys.Perm xs → ys.Pairwise (fun x y => ∀ n m, TupI K H x n → TupI K H y m → TS.code B n ≤ TS.code B m) → H p = none → Q (.ref p) (upd H p (.lst ys))
section
variable {X : Cx}
theorem cr_sortTA : CallR X (.builtin "sorted") (rSortTA X.K) := by
  intro pins s σ H vs us Q I r h
  obtain ⟨a, xs, d, B, rfl, hs, hd, hx, q⟩ := h
  obtain ⟨its, rv, hl, hz⟩ := I.list hs
  rw [Vals.ref1 r]
  obtain ⟨e1, e2⟩ := bkV_refs rv fun x m => by
    obtain ⟨ns, ⟨t, e, _⟩, _⟩ := hx x m
    exact ⟨t, e⟩
  refine sorted_tupsO (d := d) (B := B) hl.isList (by rw [← rv.length]; exact hz) (fun z => hd (by rw [rv.length]; exact z)) (fun v hv => ?_) fun h' p out h1 h2 kp hp hn => ?_
  · obtain ⟨t, rfl⟩ := e2 v hv
    have hm : V.ref t ∈ xs := by
      rw [e1]
      exact List.mem_map.mpr ⟨_, hv, rfl⟩
    obtain ⟨ns, ⟨t', e, ht⟩, hn, hb⟩ := hx _ hm
    cases e
    exact ⟨ns, tupI_raw I ht, hn, hb⟩
  · have h3 : ∀ u ∈ out, ∃ a, u = Value.ref a := fun u hu => e2 u (h1.mem_iff.mp hu)
    have hpm : (out.map bkV).Perm xs := by
      rw [e1]
      exact h1.map bkV
    obtain ⟨n, hn⟩ := hn
    refine ⟨.ref p, upd H p (.lst (out.map bkV)), I.laid (t' := s.toks) kp hp ⟨by rw [hpm.length_eq]; exact hz, out, n, bkV_vals h3, hn⟩, rfl, q _ p hpm ?_ (I.hok.fresh hp)⟩
    rw [List.pairwise_map]
    refine List.Pairwise.imp (fun {u v} huv n m hn hm => ?_) h2
    obtain ⟨t, et, ht⟩ := hn
    obtain ⟨t', et', ht'⟩ := hm
    have eu := bkV_ref et
    have ev := bkV_ref et'
    have i1 : TS.intsOf s.heap u = n := by
      rw [eu]
      exact (tupI_raw I ht).ints
    have i2 : TS.intsOf s.heap v = m := by
      rw [ev]
      exact (tupI_raw I ht').ints
    rw [← i1, ← i2]
    exact huv
/-! ### == by an own __eq__ -/
def rOwnEq (C : Addr) (sp : Sp) (E : XK) : R2 := fun x y H Q => ∃ a b dx fs dy gs, x = .ref a ∧ y = .ref b ∧ H a = some (.ins C dx fs) ∧ H b = some (.ins C dy gs) ∧ sp [.ref a, .ref b] H (fun v H' => ∃ r, v = .bl r ∧ Q v H') E
theorem op_ownEq {CX : CXT} {C f : Addr} {fd : FuncData} {ps : List Str} {sp : Sp} {E : XK} {n : Nat} (F : FnOk X.prog X.w X.K X.mg X.base CX n f fd ps sp) (hr : Room n X.A)
    (hs : PySem.W.findIn X.K (.ref C) "__eq__" = some (some (.ref f))) (hf : PySem.W.isFn X.K (.ref f) = true) (hb : Binds X.K fd ps []) (hx : Passes CX X E) : OpR X (compareOp .Eq) (rOwnEq C sp E) := by
  intro pins s σ H x y v u Q I rx ry hq
  obtain ⟨a, b, dx, fs, dy, gs, rfl, rfl, ha, hb', hsp⟩ := hq
  obtain ⟨m0, hF⟩ := I.fr
  cases rx
  cases ry
  show wpAny (model X.prog X.w) X.A (richCompare .Eq (.ref a) (.ref b)) (EP X pins σ Q) X.xe s
  obtain ⟨mA, J, _⟩ := ins_get I.hok ha
  obtain ⟨mB, J', _⟩ := ins_get I.hok hb'
  obtain ⟨od, J, _⟩ := J.look
  obtain ⟨od', J', _⟩ := J'.look
  refine PySem.W.cmp_K (op := .Eq) (tb := .ref C) hr.units0 hF I.ok.mod.kin J J'.type (by simp [PySem.W.notFirst]) hs hf ?_
  have e0 : Env0 X.prog X.w X.K X.mg X.base X.A X.stack s H := I.env0
  have hl := F.len _ _ _ _ hsp
  have r2 : Vals [V.ref a, V.ref b] [Value.ref a, Value.ref b] := .cons rfl (.cons rfl .nil)
  refine wpAny_call (codeAny_mono (F.run X.A X.stack s H ⟨[.ref a, .ref b], []⟩ [.ref a, .ref b] [.ref a, .ref b] _ E hr e0 (by
    have := hb s [.ref a, .ref b] I.kIn (by simpa using hl)
    simpa using this) r2 hsp) fun r s' hq => ?_)
  cases r with
  | error e => exact hx pins σ H s e s' I hq
  | ok fl =>
    cases fl with
    | ret w =>
      obtain ⟨z, H', I', rz, r, rfl, q⟩ := I.after hq
      cases rz
      exact ⟨.bl r, H', I', rfl, q⟩
    | next => exact False.elim hq
    | brk => exact False.elim hq
    | cont => exact False.elim hq
end

/-! ### t * n of a tuple -/
theorem tuple_mul0 (l : Addr) (items : Array Value) (n : Nat) (dd : Option Addr) (sl : Array (Option Value)) (u : Tok) (c1 : items.isEmpty = false) :
    Meets (Builtin.«tuple.__mul__» ⟨[.ref l, .int 0 u], []⟩) (fun _ R s => s.heap.get? l = some { cls := .type "tuple", dict := dd, data := .seq items n, slots := sl } ∧
      R (.ok (.ret (Value.ref s.heap.objs.size))) { s with heap := s.heap.push { cls := Value.type "tuple", data := Data.seq #[] }, toks := s.toks }) :=
  .of_wp fun prog w A R s h => by
    obtain ⟨hp, g, d, tk, os⟩ := s
    obtain ⟨hl, h⟩ := h
    have f1 := AutoSeq1.idx_int
    wp_walk using wpAny_loadPart' hl
    exact ⟨_, rfl, h⟩
theorem tuple_mul1 (l : Addr) (items : Array Value) (n : Nat) (dd : Option Addr) (sl : Array (Option Value)) (u : Tok) (c1 : items.isEmpty = false) :
    Meets (Builtin.«tuple.__mul__» ⟨[.ref l, .int 1 u], []⟩) (fun _ R s => s.heap.get? l = some { cls := .type "tuple", dict := dd, data := .seq items n, slots := sl } ∧
      R (.ok (.ret (Value.ref l))) s) :=
  .of_wp fun prog w A R s h => by
    obtain ⟨hp, g, d, tk, os⟩ := s
    obtain ⟨hl, h⟩ := h
    have f1 := AutoSeq1.idx_int
    wp_walk using wpAny_loadPart' hl
    exact ⟨_, rfl, h⟩

def rRepA (K : PySem.W.Frag) : R2 := fun x y H Q => ∃ (l : Addr) (k : Nat) (xs : List V), x = .ref l ∧ y = .int (k : Int) ∧ SqT K H l xs ∧ xs ≠ [] ∧ k ≤ 1000 ∧ xs.length ≤ 1000 ∧ ∀ p H', Same H H' → SqT K H' p (List.replicate k xs).flatten → Q (.ref p) H'
theorem op_repA {X : Cx} : OpR X (binaryOp .Mult) (rRepA X.K) := by
  intro pins s σ H x y v u Q I rx ry h
  obtain ⟨l, k, xs, rfl, rfl, hT, hne, hk, hz, q⟩ := h
  by_cases k2 : 2 ≤ k
  · refine op_repT pins s σ H _ _ v u Q I rx ry ⟨l, k, xs, rfl, rfl, hT, hne, by omega, by omega, hz, fun p np => ?_⟩
    have e : ((k : Int)).toNat = k := by omega
    rw [e]
    exact q p _ (same_upd np) (SqT.of upd_same)
  · cases rx
    obtain ⟨t, rfl⟩ := ry
    have hT' := hT
    obtain ⟨its, r, ⟨⟨cls, dd, data, sl⟩, ho, hc, n, hd⟩, hs⟩ := I.tuple hT
    simp only at hc hd
    subst hc hd
    have hle : its.length = xs.length := r.length.symm
    have hi : its.toArray.isEmpty = false := by
      cases its with
      | nil =>
        refine absurd (List.eq_nil_of_length_eq_zero ?_) hne
        rw [← hle]
        rfl
      | cons a b => rfl
    have go : ∀ (R : Result → Shared → Prop), True := fun _ => trivial
    by_cases k1 : k = 1
    · subst k1
      refine wpAny_binaryOp_repeat_ref (T := "tuple") (U := "int") (by decide) ⟨_, ho, rfl⟩ (fun s' => typeIs_int s' _ t) noFill_tuple_mul F.fills_int_mul F.slot_int_rmul repeat_tuple F.slot_int_index.lookup
        (call_meets F.slot_int_rmul (typeIs_int s _ t) F.entry_int_rmul (F.args_int_rmul_2 _ _) (int_rmul_tuple _ t l its.toArray n dd sl)
          ⟨ho, rfl, ⟨_, ho, rfl⟩, call_meets F.slot_tuple_mul ⟨_, ho, rfl⟩ F.entry_tuple_mul (F.args_tuple_mul_2 _ _) (tuple_mul1 l its.toArray n dd sl t hi) ⟨ho, ?_⟩⟩)
      refine ⟨.ref l, H, I, rfl, q l H (Same.refl H) ?_⟩
      rw [show (List.replicate 1 xs).flatten = xs by simp]
      exact hT'
    · have k0 : k = 0 := by omega
      subst k0
      refine wpAny_binaryOp_repeat_ref (T := "tuple") (U := "int") (by decide) ⟨_, ho, rfl⟩ (fun s' => typeIs_int s' _ t) noFill_tuple_mul F.fills_int_mul F.slot_int_rmul repeat_tuple F.slot_int_index.lookup
        (call_meets F.slot_int_rmul (typeIs_int s _ t) F.entry_int_rmul (F.args_int_rmul_2 _ _) (int_rmul_tuple _ t l its.toArray n dd sl)
          ⟨ho, rfl, ⟨_, ho, rfl⟩, call_meets F.slot_tuple_mul ⟨_, ho, rfl⟩ F.entry_tuple_mul (F.args_tuple_mul_2 _ _) (tuple_mul0 l its.toArray n dd sl t hi) ⟨ho, ?_⟩⟩)
      refine ⟨.ref s.heap.objs.size, _, I.laid (t' := s.toks) (o := .tup []) (fun b ob q => Heap.get?_push_of_some _ q) (Nat.le_refl _) ⟨Nat.zero_le _, _, .nil, IsTup.new _ _⟩, rfl, q _ _ (same_upd (I.hok.fresh (Nat.le_refl _))) (SqT.of upd_same)⟩
theorem pe_fldK {X : Cx} {e : Expr} {ta : TE} {f : Str} {pos : Pos} (K : PySem.W.Frag) (he : PE X e ta) (hb : attributeBase e f X.env (eval e X.env) = eval e X.env) (h : X.K = K := by rfl) : PE X (.Attribute e f pos) (tFld K ta f) := by
  subst h
  exact pe_fld he hb

/-! ### sum of a tuple of ints -/
section
variable {prog : Program} {w : World} {A : Around} {E : Value → Shared → Prop} {s : Shared} {l : Addr} {its : List Value} {ns : List Int} {Q : Value → Shared → Prop}
theorem sum_rawT (hh : A.handled = none) (hl : s.heap.IsTuple l its.toArray) (hi : IntsAre its ns)
    (h : ∀ h' tk t', (∀ b o, s.heap.get? b = some o → h'.get? b = some o) → Q (.int ns.sum t') { s with heap := h', toks := tk }) : wpAny (model prog w) A (call (.builtin "sum") [.ref l]) Q E s := by
  obtain ⟨xs, e⟩ := hi.allInts.items
  have hn : numsOf (intItems xs).toList = ns := by rw [← e]; exact hi.numsOf
  rw [nums_intItems] at hn
  rw [e] at hl
  refine PySem.W.ktm_sumG hh hl fun h' tk t' hk => ?_
  have := h h' tk t' hk
  rw [preSum_eq, List.take_of_length_le (by simp), hn]; exact this
end
def rSumT (K : PySem.W.Frag) : List V → Hp → VK → Prop := fun vs H Q => ∃ (a : Addr) (ns : List Int), vs = [V.ref a] ∧ SqT K H a (ns.map V.int) ∧ Q (.int ns.sum) H
theorem cr_sumT {X : Cx} (K : PySem.W.Frag) (hc : X.calm = true) (hK : X.K = K := by rfl) : CallR X (.builtin "sum") (rSumT K) := by
  subst hK
  intro pins s σ H vs us Q I r h
  obtain ⟨a, ns, rfl, hs, q⟩ := h
  obtain ⟨its, rv, hl, _⟩ := I.tuple hs
  rw [Vals.ref1 r]
  exact sum_rawT (I.ok.hd hc) hl rv.ints fun h' tk t' hk => ⟨.int _, H, I.kept hk, ⟨_, rfl⟩, q⟩
end SL
/-! != by object's __ne__ over an own __eq__. -/
namespace SL
open PySem PySem.Spec PyProof.Rows L2
open PySem (Builtin.«object.__ne__»)
section
variable {M : Model} {prog : Program} {w : World} {A : Around} {E : Value → Shared → Prop} {s : Shared} {K : PySem.W.Frag} {x y C f : Addr} {ox : Obj} {od : Option Obj}
theorem ifBound_objNe {args : List Value} {Q : Option Value → Shared → Prop} (X : K.In s.heap) (I : PySem.W.InstAt s.heap x ox C od) (hs : PySem.W.findIn K (.ref C) "__ne__" = some (some (.builtin "object.__ne__")))
    (h : wpAny M A (call (.builtin "object.__ne__") (.ref x :: args)) (fun v => Q (some v)) E s) : wpAny M A (callSpecialIfBound? (.ref x) "__ne__" args) Q E s := by
  simp only [callSpecialIfBound?, bindSpecialIfBound?]
  refine wpAny_holding (wpAny_bind (wpAny_bind (wpAny_bind (I.type.here ((PySem.W.looks_findIn X hs).here ?_)))))
  refine wpAny_bind (wpAny_askSetting (wpAny_ite ?_))
  have fin : wpAny M A (call (.builtin "object.__ne__") ([.ref x] ++ args) >>= fun v => pure (some v)) Q E s := wpAny_bind (wpAny_mono h (fun v s' h' => wpAny_pure h') fun _ _ h' => h')
  split
  · exact wpAny_bind (wpAny_of_eq (F.cmp_object.ne.bind _) (wpAny_pure (by exact fin)))
  · exact wpAny_tryCatch (wpAny_bind (wpAny_of_eq (F.cmp_object.ne.bind _) (wpAny_pure (by exact fin))))
theorem objNe_own {Q : Fin → Shared → Prop} (X : K.In s.heap) (I : PySem.W.InstAt s.heap x ox C od) (hs : PySem.W.findIn K (.ref C) "__eq__" = some (some (.ref f))) (hf : PySem.W.isFn K (.ref f) = true) (hu : A.units < cLine)
    (hcall : wpAny (model prog w) A (call (.ref f) [.ref x, .ref y]) (fun v s' => ∃ b, v = .bool b ∧ Q (.done (.ret (.bool (!b)))) s') E s) :
    wpAny (model prog w) A (Builtin.«object.__ne__» ⟨[.ref x, .ref y], []⟩) Q E s := by
  unfold Builtin.«object.__ne__»
  repeat (first
    | with_reducible refine wpAny_cRoomFor hu ?_
    | (refine wpAny_bind (m := callSpecialIfBound? (.ref x) (Str.ofString "__eq__") [.ref y])
        (PySem.W.ifBound_K X I hs hf (wpAny_mono hcall (fun v s' hr => by
          obtain ⟨b, rfl, hq⟩ := hr
          repeat (first | exact hq | exact wpAny_pure hq | exact wpAny_truthy_bool hq | (refine wpAny_bind (m := truthy (.bool _)) (wpAny_truthy_bool ?_)) | wp_step)) fun _ _ e => e)))
    | wp_step)
theorem ne_own {Q : Value → Shared → Prop} {tb : Value} {h₀ : Heap} {L : Addr} {m : Str → Option Value} (hu : A.units + 1 < cLine) (F : Fr h₀ L s.heap m) (X₀ : K.In h₀) (I : PySem.W.InstAt s.heap x ox C od) (hb : PySem.W.Looks (model prog w) s.heap (typeOf (.ref y)) tb) (hn : PySem.W.notFirst K C tb = true)
    (hN : PySem.W.findIn K (.ref C) "__ne__" = some (some (.builtin "object.__ne__"))) (hm : PySem.W.mroIn K C (.type "object") = some true) (hs : PySem.W.findIn K (.ref C) "__eq__" = some (some (.ref f))) (hf : PySem.W.isFn K (.ref f) = true)
    (hcall : wpAny (model prog w) A.in1 (call (.ref f) [.ref x, .ref y]) (fun v s' => ∃ b, v = .bool b ∧ Q (.bool (!b)) s') E s) : wpAny (model prog w) A (richCompare .NotEq (.ref x) (.ref y)) Q E s := by
  have X := X₀.keeps F.keep
  have one : wpAny (model prog w) A (tryCompare (.ref x) "__ne__" (.ref y)) (fun r s' => ∃ v, r = some v ∧ Q v s') E s := by
    unfold tryCompare
    refine wpAny_bind (ifBound_objNe X I hN (wpAny_call (codeAny_call_builtin PySem.F.cmp_object.ne.plain PySem.F.cmpEntry_ne
      (PySem.W.check_slot PySem.F.cmpKind_ne PySem.F.cmpSplit_ne (I.type.andThen (PySem.W.looks_mroIn X hm)) (PySem.F.cmpArgs_ne _ _) (objNe_own (A := A.in1) X I hs hf hu (wpAny_mono hcall (fun v s' hv => ?_) fun _ _ e => e))))))
    obtain ⟨b, rfl, hq⟩ := hv
    first | exact ⟨b, rfl, wpAny_pure ⟨_, rfl, hq⟩⟩ | exact ⟨b, rfl, wpAny_pure (wpAny_pure ⟨_, rfl, hq⟩)⟩
  unfold richCompare
  simp only [oneThing_ref]
  refine wpAny_holding (wpAny_bind (wpAny_cRoomFor (by omega) ?_))
  refine wpAny_bind (I.type.here (wpAny_bind (hb.here ?_)))
  split
  · rename_i q
    have e : PySem.W.subIn K tb (.ref C) = some false := by
      rcases Bool.or_eq_true_iff.mp hn with e | e
      · rw [beq_iff_eq.mp e] at q; simp at q
      · exact beq_iff_eq.mp e
    refine wpAny_bind ((PySem.W.looks_subIn X e).here ?_)
    simp only [Bool.false_eq_true, if_false]
    refine wpAny_bind (wpAny_mono one (fun r s' z => ?_) fun _ _ e => e)
    obtain ⟨v, rfl, hq⟩ := z
    exact wpAny_pure hq
  · refine wpAny_bind (wpAny_pure ?_)
    simp only [Bool.false_eq_true, if_false]
    refine wpAny_bind (wpAny_mono one (fun r s' z => ?_) fun _ _ e => e)
    obtain ⟨v, rfl, hq⟩ := z
    exact wpAny_pure hq
end
/-- != by an own __eq__ -/
def rOwnNe (C : Addr) (sp : Sp) (E : XK) : R2 := fun x y H Q => ∃ a b dx fs dy gs, x = .ref a ∧ y = .ref b ∧ H a = some (.ins C dx fs) ∧ H b = some (.ins C dy gs) ∧ sp [.ref a, .ref b] H (fun v H' => ∃ r : Bool, v = .bl r ∧ Q (.bl (!r)) H') E
section
variable {X : Cx}
theorem op_ownNe {CX : CXT} {C f : Addr} {fd : FuncData} {ps : List Str} {sp : Sp} {E : XK} {n : Nat} (F : FnOk X.prog X.w X.K X.mg X.base CX n f fd ps sp) (hr : Room (n + 1) X.A) (hN : PySem.W.findIn X.K (.ref C) "__ne__" = some (some (.builtin "object.__ne__"))) (hm : PySem.W.mroIn X.K C (.type "object") = some true)
    (hs : PySem.W.findIn X.K (.ref C) "__eq__" = some (some (.ref f))) (hf : PySem.W.isFn X.K (.ref f) = true) (hb : Binds X.K fd ps []) (hx : Passes CX X E) : OpR X (compareOp .NotEq) (rOwnNe C sp E) := by
  intro pins s σ H x y v u Q I rx ry hq
  obtain ⟨a, b, dx, fs, dy, gs, rfl, rfl, ha, hb', hsp⟩ := hq
  obtain ⟨m0, hF⟩ := I.fr
  cases rx
  cases ry
  show wpAny (model X.prog X.w) X.A (richCompare .NotEq (.ref a) (.ref b)) (EP X pins σ Q) X.xe s
  obtain ⟨mA, J, _⟩ := ins_get I.hok ha
  obtain ⟨mB, J', _⟩ := ins_get I.hok hb'
  obtain ⟨od, J, _⟩ := J.look
  obtain ⟨od', J', _⟩ := J'.look
  have hu := hr.units
  refine ne_own (tb := .ref C) (by omega) hF I.ok.mod.kin J J'.type (by simp [PySem.W.notFirst]) hN hm hs hf ?_
  have e0' : Env0 X.prog X.w X.K X.mg X.base X.A X.stack s H := I.env0
  have e0 : Env0 X.prog X.w X.K X.mg X.base X.A.in1 X.stack s H := ⟨e0'.frames, e0'.mod, e0'.bs, e0'.bsz, e0'.funs, e0'.frf, e0'.hok, e0'.bare⟩
  have hl := F.len _ _ _ _ hsp
  have r2 : Vals [V.ref a, V.ref b] [Value.ref a, Value.ref b] := .cons rfl (.cons rfl .nil)
  refine wpAny_call (codeAny_mono (F.run X.A.in1 X.stack s H ⟨[.ref a, .ref b], []⟩ [.ref a, .ref b] [.ref a, .ref b] _ E hr.in1 e0 (by
    have := hb s [.ref a, .ref b] I.kIn (by simpa using hl)
    simpa using this) r2 hsp) fun r s' hq => ?_)
  cases r with
  | error e => exact hx pins σ H s e s' I hq
  | ok fl =>
    cases fl with
    | ret w =>
      obtain ⟨z, H', I', rz, r, rfl, q⟩ := I.after hq
      cases rz
      exact ⟨r, rfl, .bl (!r), H', I', rfl, q⟩
    | next => exact False.elim hq
    | brk => exact False.elim hq
    | cont => exact False.elim hq
end
end SL
namespace SL
open PySem PySem.Spec PyProof.Rows L2
/-- a row that is never come to -/
theorem ps_dead {X : Cx} {st : Stmt} : PS X st (fun _ _ _ => False) := ⟨fun _ _ _ _ _ _ h => h.elim⟩
theorem list_extendT (l : Addr) (items : Array Value) (n : Nat) (b : Addr) (items2 : Array Value) (n2 : Nat) (dd : Option Addr) (sl : Array (Option Value)) (hs0 : ¬(!items.isEmpty && Builtin.List.listTooLong (items.size + items2.size)) = true) (hs1 : items.size ≤ sizeLine) (hs2 : items.size + items2.size ≤ sizeLine + 1) :
    Meets (Builtin.«list.extend» ⟨[.ref l, .ref b], []⟩) (fun _ R s => s.heap.get? l = some { cls := .type "list", dict := none, data := .seq items n, slots := #[] } ∧ s.heap.get? b = some { cls := .type "tuple", dict := dd, data := .seq items2 n2, slots := sl } ∧ R (.ok (.ret Value.none)) { s with heap := s.heap.update l (Obj.mapSeq fun x => x ++ items2), toks := s.toks }) :=
  .of_wp fun prog w A R s h => by
    obtain ⟨hp, g, d, tk, os⟩ := s; obtain ⟨hl, hb, h⟩ := h; have f1 := AutoSeq1.idx_int; have f2 := AutoSeq1.sub_tuple_tuple; have f3 := AutoSeq1.sub_list_list; have f4 := AutoSeq1.sub_tuple_list; have f5 := AutoSeq1.sub_list_tuple;
    have hz' : (items ++ items2).size ≤ sizeLine + 1 := by rw [Array.size_append]; exact hs2
    wp_walk using (wpAny_updateSeq hl rfl (hz := hs1) (_hz' := hz')), wpAny_loadPart' hl, wpAny_loadPart' hb; exact ⟨_, rfl, h⟩
def rExtendT (K : PySem.W.Frag) : V → List V → Hp → VK → Prop := fun x vs H Q => ∃ l b xs zs, x = .ref l ∧ vs = [.ref b] ∧ H l = some (.lst xs) ∧ SqT K H b zs ∧ xs.length + zs.length ≤ sizeLine ∧ Q .non (upd H l (.lst (xs ++ zs)))
/-- xs.extend(t), t a tuple -/
theorem mt_extendT {X : Cx} : MtM X "list.extend" (rExtendT X.K) := by
  intro pins s σ H x vs v us Q I rx rv h
  obtain ⟨l, b, xs, zs, rfl, rfl, hH, hB, hz, q⟩ := h
  cases rx
  obtain ⟨u, rfl, ru⟩ := rv.one
  cases ru
  obtain ⟨z, its, n, r, hl, e⟩ := I.lstM hH
  obtain ⟨its2, r2, ⟨⟨cls, dd, data, sl⟩, ho, hc, n2, hd⟩, hs⟩ := I.tuple hB
  simp only at hc hd
  subst hc hd
  have e1 := r.length
  have e2 := r2.length
  have hsz : its.toArray.size + its2.toArray.size ≤ sizeLine := by rw [List.size_toArray, List.size_toArray]; omega
  have hlong : ¬ (!its.toArray.isEmpty && Builtin.List.listTooLong (its.toArray.size + its2.toArray.size)) = true := by
    rw [notLongL hsz, Bool.and_false]
    exact Bool.false_ne_true
  refine call_meets F.slot_list_extend ⟨_, e, rfl⟩ F.entry_list_extend (F.args_list_extend_2 _ _)
    (list_extendT l its.toArray n b its2.toArray n2 dd sl hlong (by rw [List.size_toArray]; omega) (by omega)) ⟨e, ho, ?_⟩
  refine ⟨.non, _, I.lset (its' := its ++ its2) hH e (by simp) (r.append r2) ?_, rfl, q⟩
  rw [List.length_append]
  omega
end SL
/-! list(zip(t, u)) of two tuples of one length. -/
namespace SL
open PySem PySem.Spec PyProof.Rows L2 RZ
namespace ZF
theorem zip_no_len : typeLookup (.type "zip") "__len__" = pure none := by rw [typeLookup_type, builtinLookup_eq_fast]; kernel_rfl
theorem zip_no_hint : typeLookup (.type "zip") "__length_hint__" = pure none := by rw [typeLookup_type, builtinLookup_eq_fast]; kernel_rfl
end ZF
section
variable {prog : Program} {w : World} {A : Around} {E : Value → Shared → Prop} {s : Shared}
abbrev HeldZip (h : Heap) (z TI TO T : Addr) (b : Bool) : Prop :=
  h.get? z = some { cls := .type "zip", dict := none, data := .fields #[rawInt T, .bool b, .bool false, .ref TI, .ref TO], slots := #[] }
theorem wpAny_alive {M : Model} {a : Addr} {Q : Option Obj → Shared → Prop} (h : Q (s.heap.get? a) s) : wpAny M A (loadIfAlive a) Q E s := fun _ _ _ => h
theorem owned_held {z TI TO T0 : Addr} {b : Bool} {u v : Value} {Q : Bool → Shared → Prop} (hz : HeldZip s.heap z TI TO T0 b) (hT0 : IsPair s.heap T0 u v)
    (hQ : ∀ h', HeldZip h' z TI TO T0 true → (∀ c o, c ≠ z → s.heap.get? c = some o → h'.get? c = some o) → h'.objs.size = s.heap.objs.size → Q false { s with heap := h' }) :
    wpAny (model prog w) A (Builtin.SmallTypes.ownedTupleIsFree (.ref z)) Q E s := by
  unfold Builtin.SmallTypes.ownedTupleIsFree
  refine wpAny_bind (wpAny_field hz rfl (x := rawInt T0) rfl ?_)
  show wpAny _ _ (loadIfAlive ((T0 : Int)).toNat >>= _) _ _ _
  refine wpAny_bind (wpAny_alive ?_)
  rw [show ((T0 : Int)).toNat = T0 from rfl, hT0]
  show wpAny _ _ (field (.ref z) 1 >>= _) _ _ _
  refine wpAny_bind (wpAny_field hz rfl (x := .bool b) rfl ?_)
  cases b with
  | true =>
    refine wpAny_pure ?_
    exact hQ s.heap hz (fun _ _ _ e => e) rfl
  | false =>
    show wpAny _ _ (setField (.ref z) 1 (.bool true) >>= _) _ _ _
    refine wpAny_bind (wpAny_setField_rec hz (by simp) fun h' hz' hs' => wpAny_pure (hQ h' hz' (fun c o c1 e => hs'.extBut _ _ c1 e) hs'.1))
theorem held_item {z TI TO T0 i1 i2 l1 l2 : Addr} {b : Bool} {k1 k2 : Nat} {xs ys : Array Value} {x y u v : Value} {Q : Value → Shared → Prop} (D : ZipApart z TI TO i1 i2 l1 l2)
    (hz : HeldZip s.heap z TI TO T0 b) (hT0 : IsPair s.heap T0 u v) (hTI : IsPair s.heap TI (.ref i1) (.ref i2))
    (h1 : s.heap.IsTupleIter i1 l1 k1) (h2 : s.heap.IsTupleIter i2 l2 k2) (hl1 : s.heap.IsTuple l1 xs) (hl2 : s.heap.IsTuple l2 ys) (hx : xs[k1]? = some x) (hy : ys[k2]? = some y)
    (hQ : ∀ h', HeldZip h' z TI TO T0 true → h'.IsTupleIter i1 l1 (k1 + 1) → h'.IsTupleIter i2 l2 (k2 + 1) → IsPair h' s.heap.objs.size x y → h'.objs.size = s.heap.objs.size + 1 →
      (∀ c o, c ≠ z → c ≠ i1 → c ≠ i2 → s.heap.get? c = some o → h'.get? c = some o) → Q (.ref s.heap.objs.size) { s with heap := h' }) :
    wpAny (model prog w) A (Builtin.«zip.__next__» ⟨[.ref z], []⟩) (fun fin s' => ∃ v, fin = .done (.ret v) ∧ Q v s') E s := by
  show wpAny _ _ (field (.ref z) 2 >>= _) _ _ _
  refine wpAny_bind (wpAny_field hz rfl (x := .bool false) rfl ?_)
  show wpAny _ _ (field (.ref z) 3 >>= _) _ _ _
  refine wpAny_bind (wpAny_field hz rfl (x := .ref TI) rfl ?_)
  refine wpAny_bind (wpAny_seqItems hTI rfl ?_)
  show wpAny _ _ (Builtin.SmallTypes.ownedTupleIsFree (.ref z) >>= _) _ _ _
  refine wpAny_bind (owned_held hz hT0 fun h₁ hz₁ hk₁ hs₁ => ?_)
  simp only [Bool.false_eq_true, if_false, ← Array.forIn_toList, List.forIn_cons, List.forIn_nil]
  have h1₁ : h₁.IsTupleIter i1 l1 k1 := h1.at fun o e => hk₁ _ o D.i1z e
  have h2₁ : h₁.IsTupleIter i2 l2 k2 := h2.at fun o e => hk₁ _ o D.i2z e
  have hl1₁ : h₁.IsTuple l1 xs := by obtain ⟨o, e, r⟩ := hl1; exact ⟨o, hk₁ _ _ D.l1z e, r⟩
  have hl2₁ : h₁.IsTuple l2 ys := by obtain ⟨o, e, r⟩ := hl2; exact ⟨o, hk₁ _ _ D.l2z e, r⟩
  refine wpAny_bind (wpAny_bind (wpAny_bind (wpAny_holding ?_)))
  show wpAny _ _ (Builtin.SmallTypes.nextOf (.ref i1) >>= _) _ _ _
  refine wpAny_bind (nextOf_tuple_item (s := { s with heap := h₁ }) h1₁ hl1₁ hx fun h₂ h1₂ hs₂ => wpAny_pure (wpAny_pure ?_))
  refine wpAny_bind (wpAny_bind (wpAny_holding ?_))
  show wpAny _ _ (Builtin.SmallTypes.nextOf (.ref i2) >>= _) _ _ _
  refine wpAny_bind (nextOf_tuple_item (s := { s with heap := h₂ }) (h2₁.extBut hs₂.extBut D.i12.symm) (hl2₁.extBut hs₂.extBut D.l2i1) hy fun h₃ h2₃ hs₃ => wpAny_pure (wpAny_pure (wpAny_pure ?_)))
  show wpAny _ _ (newTuple [x, y] >>= _) _ _ _
  refine wpAny_bind (wpAny_newTuple (wpAny_pure ⟨_, rfl, ?_⟩))
  have hs1 : h₃.objs.size = s.heap.objs.size := by rw [hs₃.1, hs₂.1]; exact hs₁
  have up : ∀ c o, c ≠ i1 → c ≠ i2 → h₁.get? c = some o → (h₃.push { cls := .type "tuple", data := .seq #[x, y] }).get? c = some o := fun c o c1 c2 e => Heap.get?_push_of_some _ (hs₃.extBut _ _ c2 (hs₂.extBut _ _ c1 e))
  show Q (.ref h₃.objs.size) _
  rw [hs1]
  refine hQ _ (up _ _ D.i1z.symm D.i2z.symm hz₁) ?_ ?_ ?_ ?_ fun c o c1 c2 c3 e => up c o c2 c3 (hk₁ c o c1 e)
  · exact (h1₂.extBut hs₃.extBut D.i12).at fun o e => Heap.get?_push_of_some _ e
  · exact h2₃.at fun o e => Heap.get?_push_of_some _ e
  · rw [← hs1]
    exact Heap.get?_push_size _ rfl
  · rw [Heap.size_push, hs1]
theorem held_end {z TI TO T0 i1 i2 l1 l2 : Addr} {b : Bool} {k1 : Nat} {xs : Array Value} {u v : Value} {Q : Fin → Shared → Prop} (hh : A.handled = none) (D : ZipApart z TI TO i1 i2 l1 l2)
    (hz : HeldZip s.heap z TI TO T0 b) (hT0 : IsPair s.heap T0 u v) (hTI : IsPair s.heap TI (.ref i1) (.ref i2))
    (h1 : s.heap.IsTupleIter i1 l1 k1) (hl1 : s.heap.IsTuple l1 xs) (hend : xs[k1]? = none)
    (hE : ∀ h' e, (∀ c o, c ≠ z → c ≠ i1 → s.heap.get? c = some o → h'.get? c = some o) → (∃ o, h'.get? e = some o ∧ o.cls = .type "StopIteration") → E (.ref e) { s with heap := h' }) :
    wpAny (model prog w) A (Builtin.«zip.__next__» ⟨[.ref z], []⟩) Q E s := by
  show wpAny _ _ (field (.ref z) 2 >>= _) _ _ _
  refine wpAny_bind (wpAny_field hz rfl (x := .bool false) rfl ?_)
  show wpAny _ _ (field (.ref z) 3 >>= _) _ _ _
  refine wpAny_bind (wpAny_field hz rfl (x := .ref TI) rfl ?_)
  refine wpAny_bind (wpAny_seqItems hTI rfl ?_)
  show wpAny _ _ (Builtin.SmallTypes.ownedTupleIsFree (.ref z) >>= _) _ _ _
  refine wpAny_bind (owned_held hz hT0 fun h₁ hz₁ hk₁ hs₁ => ?_)
  simp only [Bool.false_eq_true, if_false, ← Array.forIn_toList, List.forIn_cons, List.forIn_nil]
  have h1₁ : h₁.IsTupleIter i1 l1 k1 := h1.at fun o e => hk₁ _ o D.i1z e
  have hl1₁ : h₁.IsTuple l1 xs := by obtain ⟨o, e, r⟩ := hl1; exact ⟨o, hk₁ _ _ D.l1z e, r⟩
  refine wpAny_bind (wpAny_bind (wpAny_bind (wpAny_holding ?_)))
  show wpAny _ _ (Builtin.SmallTypes.nextOf (.ref i1) >>= _) _ _ _
  refine wpAny_bind (nextOf_tuple_end (s := { s with heap := h₁ }) hh h1₁ hl1₁ hend fun h₂ e hs₂ he => ?_)
  exact hE h₂ e (fun c o c1 c2 q => hs₂ _ _ c2 (hk₁ c o c1 q)) he
/-- the state of a zip whose tuples are kept, at turn i -/
structure ZS (h : Heap) (S z TI TO i1 i2 l1 l2 : Addr) (xs ys : Array Value) (i : Nat) : Prop where
  st : IsZip h z TI TO .none ∨ ∃ T0 b u v, HeldZip h z TI TO T0 b ∧ IsPair h T0 u v ∧ T0 ≠ z ∧ T0 ≠ i1 ∧ T0 ≠ i2 ∧ T0 ≠ S
  tI : IsPair h TI (.ref i1) (.ref i2)
  tO : ∃ a b, IsPair h TO a b
  j1 : h.IsTupleIter i1 l1 i
  j2 : h.IsTupleIter i2 l2 i
  t1 : h.IsTuple l1 xs
  t2 : h.IsTuple l2 ys
theorem ZS.at {h h' : Heap} {S z TI TO i1 i2 l1 l2 : Addr} {xs ys : Array Value} {i : Nat} (Z : ZS h S z TI TO i1 i2 l1 l2 xs ys i) (k : ∀ c o, c ≠ S → h.get? c = some o → h'.get? c = some o)
    (n : z ≠ S ∧ TI ≠ S ∧ TO ≠ S ∧ i1 ≠ S ∧ i2 ≠ S ∧ l1 ≠ S ∧ l2 ≠ S) : ZS h' S z TI TO i1 i2 l1 l2 xs ys i := by
  obtain ⟨n1, n2, n3, n4, n5, n6, n7⟩ := n
  refine ⟨?_, k _ _ n2 Z.tI, Z.tO.elim fun a ⟨b, e⟩ => ⟨a, b, k _ _ n3 e⟩, Z.j1.at fun o e => k _ o n4 e, Z.j2.at fun o e => k _ o n5 e, ?_, ?_⟩
  · rcases Z.st with e | ⟨T0, b, u, v, e, p, q1, q2, q3, q4⟩
    · exact .inl (k _ _ n1 e)
    · exact .inr ⟨T0, b, u, v, k _ _ n1 e, k _ _ q4 p, q1, q2, q3, q4⟩
  · obtain ⟨o, e, r⟩ := Z.t1
    exact ⟨o, k _ _ n6 e, r⟩
  · obtain ⟨o, e, r⟩ := Z.t2
    exact ⟨o, k _ _ n7 e, r⟩
theorem pyNext_kept {S z TI TO i1 i2 l1 l2 : Addr} {i : Nat} {xs ys : Array Value} {x y : Value} {Q : Option Value → Shared → Prop} (D : ZipApart z TI TO i1 i2 l1 l2) (Z : ZS s.heap S z TI TO i1 i2 l1 l2 xs ys i)
    (hS : S < s.heap.objs.size) (hx : xs[i]? = some x) (hy : ys[i]? = some y)
    (hQ : ∀ h', ZS h' S z TI TO i1 i2 l1 l2 xs ys (i + 1) → IsPair h' s.heap.objs.size x y → h'.objs.size = s.heap.objs.size + 1 →
      (∀ c o, c ≠ z → c ≠ TO → c ≠ i1 → c ≠ i2 → s.heap.get? c = some o → h'.get? c = some o) → Q (some (.ref s.heap.objs.size)) { s with heap := h' }) :
    wpAny (model prog w) A (pyNext (.ref z)) Q E s := by
  have tup : ∀ {l : Addr} {ws : Array Value} {h' : Heap}, s.heap.IsTuple l ws → (∀ o, s.heap.get? l = some o → h'.get? l = some o) → h'.IsTuple l ws := fun q k => by
    obtain ⟨o, e, r⟩ := q
    exact ⟨o, k _ e, r⟩
  rcases Z.st with hz | ⟨T0, b, u, v, hz, hT0, n1, n2, n3, n4⟩
  · obtain ⟨a, b, hTO⟩ := Z.tO
    have lt : ∀ {c o}, s.heap.get? c = some o → s.heap.objs.size ≠ c := fun e => Nat.ne_of_gt (Heap.lt_size e)
    refine pyNext_zipT_item D hz Z.tI hTO Z.j1 Z.j2 Z.t1 Z.t2 hx hy fun h' a1 a2 a3 a4 a5 a6 hk => ?_
    refine hQ h' ⟨.inr ⟨_, false, _, _, a1, a5, lt hz, ?_, ?_, Nat.ne_of_gt hS⟩, hk _ _ D.TIz D.TITO D.TIi1 D.TIi2 Z.tI, ⟨_, _, a2⟩, a3, a4, tup Z.t1 fun o e => hk _ o D.l1z D.l1TO D.l1i1 D.l1i2 e, tup Z.t2 fun o e => hk _ o D.l2z D.l2TO D.l2i1 D.l2i2 e⟩ a5 a6 hk
    · obtain ⟨_, e, _⟩ := Z.j1
      exact lt e
    · obtain ⟨_, e, _⟩ := Z.j2
      exact lt e
  · have hT : s.TypeIs (.ref z) "zip" := ⟨_, hz, rfl⟩
    unfold pyNext
    refine wpAny_bind (wpAny_attempt (wpAny_callSpecial?_slot (name := Str.ofString "__next__") hT F.slot_zip_next
      (wpAny_call_entry F.slot_zip_next hT F.entry_zip_next (held_item D hz hT0 Z.tI Z.j1 Z.j2 Z.t1 Z.t2 hx hy fun h' a1 a3 a4 a5 a6 hk => wpAny_pure ?_) (F.args_zip_next_1 _))))
    refine hQ h' ⟨.inr ⟨T0, true, u, v, a1, hk _ _ n1 n2 n3 hT0, n1, n2, n3, n4⟩, hk _ _ D.TIz D.TIi1 D.TIi2 Z.tI, ?_, a3, a4, tup Z.t1 fun o e => hk _ o D.l1z D.l1i1 D.l1i2 e, tup Z.t2 fun o e => hk _ o D.l2z D.l2i1 D.l2i2 e⟩ a5 a6 (fun c o c1 c2 c3 c4 e => hk c o c1 c3 c4 e)
    obtain ⟨a, b, hTO⟩ := Z.tO
    exact ⟨a, b, hk _ _ D.TOz D.TOi1 D.TOi2 hTO⟩
theorem pyNext_kept_end {S z TI TO i1 i2 l1 l2 : Addr} {i : Nat} {xs ys : Array Value} {Q : Option Value → Shared → Prop} (hh : A.handled = none) (D : ZipApart z TI TO i1 i2 l1 l2) (Z : ZS s.heap S z TI TO i1 i2 l1 l2 xs ys i)
    (hend : xs[i]? = none) (hQ : ∀ h', (∀ c o, c ≠ z → c ≠ TO → c ≠ i1 → c ≠ i2 → s.heap.get? c = some o → h'.get? c = some o) → Q none { s with heap := h' }) :
    wpAny (model prog w) A (pyNext (.ref z)) Q E s := by
  rcases Z.st with hz | ⟨T0, b, u, v, hz, hT0, n1, n2, n3, n4⟩
  · obtain ⟨a, b, hTO⟩ := Z.tO
    exact pyNext_zipT_end hh D hz Z.tI hTO Z.j1 Z.j2 Z.t1 Z.t2 (.inl hend) hQ
  · have hT : s.TypeIs (.ref z) "zip" := ⟨_, hz, rfl⟩
    unfold pyNext
    refine wpAny_bind (wpAny_attempt (wpAny_callSpecial?_slot (name := Str.ofString "__next__") hT F.slot_zip_next
      (wpAny_call_entry F.slot_zip_next hT F.entry_zip_next (held_end hh D hz hT0 Z.tI Z.j1 Z.t1 hend fun h' e hk he => ?_) (F.args_zip_next_1 _))))
    obtain ⟨o, ho, hc⟩ := he
    refine wpAny_bind (wpAny_isInstance (T := "StopIteration") (b := true) ⟨o, ho, hc⟩ isSubtype_stop ?_)
    exact wpAny_pure (hQ _ fun c o c1 _ c3 _ e => hk c o c1 c3 e)
/-- what the list holds: the pairs at base, base + 1, .. -/
def PairsAt (h : Heap) (base : Nat) (xs ys : Array Value) (acc : Array Value) (i : Nat) : Prop :=
  acc.size = i ∧ ∀ j, j < i → acc[j]? = some (.ref (base + j)) ∧ ∃ x y, xs[j]? = some x ∧ ys[j]? = some y ∧ IsPair h (base + j) x y
theorem zip_loop {R : Result → Shared → Prop} {N S z TI TO i1 i2 l1 l2 : Addr} {xs ys : Array Value} {base : Nat} {res : Value} (hh : A.handled = none) (D : ZipApart z TI TO i1 i2 l1 l2) (hl : xs.size = ys.size) (hn : xs.size ≤ sizeLine)
    (nS : z ≠ S ∧ TI ≠ S ∧ TO ≠ S ∧ i1 ≠ S ∧ i2 ≠ S ∧ l1 ≠ S ∧ l2 ≠ S) (nw : N ≤ z ∧ N ≤ TO ∧ N ≤ i1 ∧ N ≤ i2 ∧ N ≤ S) (lw : z < base ∧ TO < base ∧ i1 < base ∧ i2 < base ∧ S < base) :
    ∀ (k i : Nat) (s : Shared) (acc : Array Value) (c : Nat), xs.size - i = k → i ≤ xs.size → ZS s.heap S z TI TO i1 i2 l1 l2 xs ys i → s.heap.objs.size = base + i → s.heap.get? S = some { cls := .type "list", dict := none, data := .seq acc c, slots := #[] } → PairsAt s.heap base xs ys acc i →
    (∀ h' acc' c', (∀ b o, b < N → s.heap.get? b = some o → h'.get? b = some o) → h'.get? S = some { cls := .type "list", dict := none, data := .seq acc' c', slots := #[] } → PairsAt h' base xs ys acc' xs.size → R (.ok (.ret res)) { s with heap := h' }) →
    codeAny (model prog w) A (.builtin "list.extend.loop" ⟨[.ref S, .ref z, res], []⟩) R s := by
  obtain ⟨w1, w2, w3, w4, w5⟩ := nw
  obtain ⟨b1, b2, b3, b4, b5⟩ := lw
  have lo : ∀ {a c : Addr}, N ≤ a → c < N → c ≠ a := fun w lc => Nat.ne_of_lt (Nat.lt_of_lt_of_le lc w)
  have up : ∀ {a : Addr} (j : Nat), a < base → base + j ≠ a := fun j b => Nat.ne_of_gt (Nat.lt_of_lt_of_le b (Nat.le_add_right ..))
  have old : ∀ {h h' : Heap}, (∀ c o, c ≠ z → c ≠ TO → c ≠ i1 → c ≠ i2 → h.get? c = some o → h'.get? c = some o) → ∀ c o, c < N → h.get? c = some o → h'.get? c = some o := fun q c o lc e => q c o (lo w1 lc) (lo w2 lc) (lo w3 lc) (lo w4 lc) e
  intro k
  induction k with
  | zero =>
    intro i s acc c hk hi Z hsz hS hacc hR
    have hin : i = xs.size := by omega
    subst hin
    refine codeAny_builtin F.entry_extend_loop ?_
    rw [Around.under_plainId F.plain_extend_loop _]
    show wpAny _ A.in1 (pyNext (.ref z) >>= _) _ _ s
    refine wpAny_bind (pyNext_kept_end (A := A.in1) hh D Z (by simp) fun h' hk' => ?_)
    refine wpAny_pure (hR h' acc c (old hk') (hk' _ _ nS.1.symm nS.2.2.1.symm nS.2.2.2.1.symm nS.2.2.2.2.1.symm hS) ⟨hacc.1, fun j hj => ?_⟩)
    obtain ⟨e1, x, y, e2, e3, p⟩ := hacc.2 j hj
    exact ⟨e1, x, y, e2, e3, hk' _ _ (up j b1) (up j b2) (up j b3) (up j b4) p⟩
  | succ k ih =>
    intro i s acc c hk hi Z hsz hS hacc hR
    have hlt : i < xs.size := by omega
    have hx : xs[i]? = some xs[i] := Array.getElem?_eq_getElem hlt
    have hy : ys[i]? = some (ys[i]'(by omega)) := Array.getElem?_eq_getElem (by omega)
    refine codeAny_builtin F.entry_extend_loop ?_
    rw [Around.under_plainId F.plain_extend_loop _]
    show wpAny _ A.in1 (pyNext (.ref z) >>= _) _ _ s
    refine wpAny_bind (pyNext_kept D Z (Heap.lt_size hS) hx hy fun h' Z' p' hsz' hk' => ?_)
    have hS' := hk' _ _ nS.1.symm nS.2.2.1.symm nS.2.2.2.1.symm nS.2.2.2.2.1.symm hS
    rw [hsz] at p' hsz' ⊢
    show wpAny _ A.in1 (updateSeq S (·.push (.ref (base + i))) >>= _) _ _ _
    refine wpAny_bind ?_
    have keep : ∀ b o, b ≠ S → h'.get? b = some o → (h'.update S (Obj.mapSeq (·.push (.ref (base + i))))).get? b = some o := fun b o hb e => (Heap.get?_update_other _ _ (Ne.symm hb)).trans e
    refine wpAny_updateSeq hS' rfl (wpAny_pure ⟨plainId_quiet F.plain_extend_loop _, ih (i + 1) _ (acc.push _) _ (by omega) hlt (Z'.at keep nS) ?_ (Heap.get?_update_self _ hS' rfl) ⟨by rw [Array.size_push, hacc.1], fun j hj => ?_⟩ fun h2 acc' c' q1 q2 q3 => hR h2 acc' c' (fun b o lb e => q1 b o lb (keep b o (lo w5 lb) (old hk' b o lb e))) q2 q3⟩)
      (by rw [hacc.1]; omega) (by show (acc.push _).size ≤ sizeLine + 1; rw [Array.size_push, hacc.1]; omega)
    · show (h'.update S _).objs.size = base + (i + 1)
      rw [Heap.size_update, hsz']
      omega
    · by_cases hji : j = i
      · subst hji
        refine ⟨?_, _, _, hx, hy, keep _ _ (up _ b5) p'⟩
        rw [Array.getElem?_push, hacc.1, if_pos rfl]
      · obtain ⟨e1, x, y, e2, e3, p⟩ := hacc.2 j (by omega)
        refine ⟨?_, x, y, e2, e3, keep _ _ (up j b5) (hk' _ _ (up j b1) (up j b2) (up j b3) (up j b4) p)⟩
        rw [Array.getElem?_push, hacc.1, if_neg hji]
        exact e1
theorem call_list_zipT {N z TI TO i1 i2 l1 l2 : Addr} {xs ys : Array Value} {Q : Value → Shared → Prop} (hh : A.handled = none) (D : ZipApart z TI TO i1 i2 l1 l2) (hl : xs.size = ys.size) (hn : xs.size ≤ sizeLine)
    (nw : N ≤ z ∧ N ≤ TO ∧ N ≤ i1 ∧ N ≤ i2) (lw : z < s.heap.objs.size ∧ TI < s.heap.objs.size ∧ TO < s.heap.objs.size ∧ i1 < s.heap.objs.size ∧ i2 < s.heap.objs.size ∧ l1 < s.heap.objs.size ∧ l2 < s.heap.objs.size) (hN : N ≤ s.heap.objs.size)
    (hz : IsZip s.heap z TI TO .none) (hTI : IsPair s.heap TI (.ref i1) (.ref i2)) (hTO : ∃ a b, IsPair s.heap TO a b) (h1 : s.heap.IsTupleIter i1 l1 0) (h2 : s.heap.IsTupleIter i2 l2 0) (hl1 : s.heap.IsTuple l1 xs) (hl2 : s.heap.IsTuple l2 ys)
    (hQ : ∀ h' acc' c', (∀ b o, b < N → s.heap.get? b = some o → h'.get? b = some o) → h'.get? s.heap.objs.size = some { cls := .type "list", dict := none, data := .seq acc' c', slots := #[] } → PairsAt h' (s.heap.objs.size + 1) xs ys acc' xs.size → Q (.ref s.heap.objs.size) { s with heap := h' }) :
    wpAny (model prog w) A (call (.type "list") [.ref z]) Q E s := by
  obtain ⟨w1, w2, w3, w4⟩ := nw
  obtain ⟨b1, b2, b3, b4, b5, b6, b7⟩ := lw
  have Z0 : ZS s.heap s.heap.objs.size z TI TO i1 i2 l1 l2 xs ys 0 := ⟨.inl hz, hTI, hTO, h1, h2, hl1, hl2⟩
  have nS : z ≠ s.heap.objs.size ∧ TI ≠ s.heap.objs.size ∧ TO ≠ s.heap.objs.size ∧ i1 ≠ s.heap.objs.size ∧ i2 ≠ s.heap.objs.size ∧ l1 ≠ s.heap.objs.size ∧ l2 ≠ s.heap.objs.size := ⟨Nat.ne_of_lt b1, Nat.ne_of_lt b2, Nat.ne_of_lt b3, Nat.ne_of_lt b4, Nat.ne_of_lt b5, Nat.ne_of_lt b6, Nat.ne_of_lt b7⟩
  refine callType_codes (Q₁ := fun obj s₁ => obj = .ref s.heap.objs.size ∧ s₁ = { s with heap := s.heap.push { cls := .type "list", data := .seq #[] } }) F.called_list (F.typeCall_list_1 _) F.entry_list_init
    (code_list_new _ ⟨rfl, rfl⟩) fun obj s₁ h₁ => ?_
  obtain ⟨rfl, rfl⟩ := h₁
  have hS : (s.heap.push { cls := .type "list", data := .seq #[] }).get? s.heap.objs.size = some { cls := .type "list", data := .seq #[] } := Heap.get?_push_size _ rfl
  refine ⟨⟨_, hS, rfl⟩, F.args_list_init_2 _ _, ?_⟩
  show wpAny _ A.in1.in1 (do let old ← Builtin.List.listItems (.ref s.heap.objs.size); Builtin.List.listUpdate (.ref s.heap.objs.size) (fun _ => #[]); letGo old.toList.reverse; Builtin.List.listExtendWith (.ref s.heap.objs.size) (.ref z) .none) _ _ _
  refine wpAny_bind ?_
  unfold Builtin.List.listItems
  refine wpAny_bind (wpAny_seqItems hS rfl (wpAny_pure ?_))
  show wpAny _ A.in1.in1 (updateSeq s.heap.objs.size (fun _ => #[]) >>= fun _ => letGo (#[] : Array Value).toList.reverse >>= fun _ => Builtin.List.listExtendWith (.ref s.heap.objs.size) (.ref z) .none) _ _ _
  refine wpAny_bind (wpAny_updateSeq hS rfl ?_)
  have hS2 := Heap.get?_update_self (Obj.mapSeq (fun _ => (#[] : Array Value))) hS rfl
  refine wpAny_bind (wpAny_letGo ?_)
  unfold Builtin.List.listExtendWith
  have up : ∀ (h : Heap) (f : Obj → Obj), (∀ b o, b ≠ s.heap.objs.size → s.heap.get? b = some o → h.get? b = some o) → ∀ b o, b ≠ s.heap.objs.size → s.heap.get? b = some o → (h.update s.heap.objs.size f).get? b = some o := fun h f q b o n e =>
    (Heap.get?_update_other _ _ (Ne.symm n)).trans (q b o n e)
  have k1 : ∀ b o, b ≠ s.heap.objs.size → s.heap.get? b = some o → (s.heap.push { cls := .type "list", data := .seq #[] }).get? b = some o := fun b o _ e => Heap.get?_push_of_some _ e
  have k2 := up _ (Obj.mapSeq (fun _ => (#[] : Array Value))) k1
  refine wpAny_bind (wpAny_typeOf (T := "zip") ⟨_, k2 _ _ nS.1 hz, rfl⟩ ?_)
  have h1' : Builtin.List.listSameRef (.ref s.heap.objs.size) (.ref z) = false := by simp [Builtin.List.listSameRef, Ne.symm nS.1]
  have h2' : (Value.type "zip" == Value.type "list") = false := by decide
  have h3' : (Value.type "zip" == Value.type "tuple") = false := by decide
  simp only [h1', h2', h3', Bool.or_false, Bool.false_eq_true, if_false]
  refine wpAny_bind (wpAny_pyIter_zip (s := { s with heap := _ }) (k2 _ _ nS.1 hz) ?_)
  refine wpAny_bind (wpAny_holding ?_)
  unfold Builtin.List.listLengthHint
  refine wpAny_bind (wpAny_specialOf (T := "zip") ⟨_, k2 _ _ nS.1 hz, rfl⟩ ZF.zip_no_len ?_)
  show wpAny _ A.in1.in1 (specialOf (Value.ref z) (Str.ofString "__length_hint__") >>= _) _ _ _
  refine wpAny_bind (wpAny_specialOf (T := "zip") ⟨_, k2 _ _ nS.1 hz, rfl⟩ ZF.zip_no_hint ?_)
  refine wpAny_pure ?_
  show wpAny _ A.in1.in1 (rule "list.extend.makes-room" >>= fun _ => Builtin.List.listTouch (.ref s.heap.objs.size) >>= fun _ =>
    again (.builtin "list.extend.loop" ⟨[.ref s.heap.objs.size, .ref z, .none], []⟩)) _ _ _
  refine wpAny_bind (wpAny_rule ?_)
  refine wpAny_bind ?_
  show wpAny _ A.in1.in1 (updateSeq s.heap.objs.size (·.push .none) >>= fun _ => updateSeq s.heap.objs.size (·.pop)) _ _ _
  refine wpAny_bind (wpAny_updateSeq hS2 rfl ?_)
  have hS3 := Heap.get?_update_self (Obj.mapSeq (·.push Value.none)) hS2 rfl
  refine wpAny_updateSeq (hz := by seq_fits) hS3 rfl ?_
  have hS4 := Heap.get?_update_self (Obj.mapSeq (·.pop)) hS3 rfl
  have k4 := up _ (Obj.mapSeq (·.pop)) (up _ (Obj.mapSeq (·.push Value.none)) k2)
  refine wpAny_pure ⟨plainId_quiet F.plain_extend_loop _, ?_⟩
  refine zip_loop (N := N) (A := A.in1) (base := s.heap.objs.size + 1) hh D hl hn nS ⟨w1, w2, w3, w4, hN⟩ ⟨Nat.lt_succ_of_lt b1, Nat.lt_succ_of_lt b3, Nat.lt_succ_of_lt b4, Nat.lt_succ_of_lt b5, Nat.lt_succ_self _⟩ (xs.size - 0) 0 _ #[] _ rfl (Nat.zero_le _) (Z0.at k4 nS) ?_ hS4 ⟨rfl, fun j hj => absurd hj (Nat.not_lt_zero j)⟩ fun h' acc' c' q1 q2 q3 => ⟨rfl, hQ h' acc' c' (fun b o lb e => q1 b o lb (k4 b o (Nat.ne_of_lt (Nat.lt_of_lt_of_le lb hN)) e)) q2 q3⟩
  show (((((s.heap.push _).update _ _).update _ _).update _ _)).objs.size = _
  rw [Heap.size_update, Heap.size_update, Heap.size_update, Heap.size_push]
end
/-- list(zip(t, u)) -/
def tListZip (K : PySem.W.Frag) (ta : TA) : TE := fun σ H Q => ta σ H fun vs H1 => ∃ a b xs ys, vs = [.ref a, .ref b] ∧ SqT K H1 a xs ∧ SqT K H1 b ys ∧ xs.length = ys.length ∧ xs.length ≤ 100000 ∧
  ∀ H2 l ps, Same H1 H2 → H1 l = none → H2 l = some (.lst ps) → Tups K H2 ps ((xs.zip ys).map fun p => [p.1, p.2]) → Q (.ref l) H2
theorem tups_of {K : PySem.W.Frag} {H : Hp} : ∀ {ps : List V} {cs : List (List V)}, ps.length = cs.length → (∀ (j : Nat) (p : V) (c : List V), ps[j]? = some p → cs[j]? = some c → ∃ a, p = V.ref a ∧ SqT K H a c) → Tups K H ps cs
  | [], [], _, _ => .nil
  | [], _ :: _, e, _ => by cases e
  | _ :: _, [], e, _ => by cases e
  | p :: ps, c :: cs, e, h => .cons (h 0 p c rfl rfl) (tups_of (by simpa using e) fun j x y hx hy => h (j + 1) x y (by simpa using hx) (by simpa using hy))
theorem vals_atZ : ∀ {vs : List V} {us : List Value}, vs.length = us.length → (∀ (i : Nat) (v : V) (u : Value), vs[i]? = some v → us[i]? = some u → RelV v u) → Vals vs us
  | [], [], _, _ => .nil
  | [], _ :: _, e, _ => by cases e
  | _ :: _, [], e, _ => by cases e
  | v :: vs, u :: us, e, h => .cons (h 0 v u rfl rfl) (vals_atZ (by simpa using e) fun i x y hx hy => h (i + 1) x y (by simpa using hx) (by simpa using hy))
/-- the heap with the list and the pairs -/
theorem fin_zip {N : Nat} {xs ys : List V} {H1 : Hp} {G : Prop} (fr : ∀ b, N ≤ b → H1 b = none) (hl : xs.length = ys.length)
    (k : ∀ H2 : Hp, (∀ b, b < N → H2 b = H1 b) → H2 (N + 5) = some (.lst ((List.range xs.length).map fun j => V.ref (N + 6 + j))) →
      (∀ b u, N ≤ b → H2 b = some u → (b = N + 5 ∧ u = .lst ((List.range xs.length).map fun j => V.ref (N + 6 + j))) ∨ ∃ j x y, b = N + 6 + j ∧ xs[j]? = some x ∧ ys[j]? = some y ∧ u = .tup [x, y]) →
      (∀ j x y, xs[j]? = some x → ys[j]? = some y → H2 (N + 6 + j) = some (.tup [x, y])) → G) : G := by
  refine k (fun b => if N + 6 ≤ b then (match xs[b - (N + 6)]?, ys[b - (N + 6)]? with | some x, some y => some (.tup [x, y]) | _, _ => none) else if b = N + 5 then some (.lst ((List.range xs.length).map fun j => V.ref (N + 6 + j))) else H1 b) (fun b hb => ?_) ?_ (fun b u hb e => ?_) (fun j x y hx hy => ?_)
  · show (if N + 6 ≤ b then _ else _) = _
    rw [if_neg (by omega), if_neg (Nat.ne_of_lt (Nat.lt_of_lt_of_le hb (Nat.le_add_right _ _)))]
  · show (if N + 6 ≤ N + 5 then _ else _) = _
    rw [if_neg (by omega), if_pos rfl]
  · have e' : (if N + 6 ≤ b then (match xs[b - (N + 6)]?, ys[b - (N + 6)]? with | some x, some y => some (HO.tup [x, y]) | _, _ => none) else if b = N + 5 then some (.lst ((List.range xs.length).map fun j => V.ref (N + 6 + j))) else H1 b) = some u := e
    by_cases h1 : N + 6 ≤ b
    · rw [if_pos h1] at e'
      cases hx : xs[b - (N + 6)]? with
      | none =>
        rw [hx] at e'
        cases e'
      | some x =>
        cases hy : ys[b - (N + 6)]? with
        | none =>
          rw [hx, hy] at e'
          cases e'
        | some y =>
          rw [hx, hy] at e'
          cases e'
          exact .inr ⟨b - (N + 6), x, y, (Nat.add_sub_cancel' h1).symm, hx, hy, rfl⟩
    · rw [if_neg h1] at e'
      by_cases h2 : b = N + 5
      · rw [if_pos h2] at e'
        cases e'
        exact .inl ⟨h2, rfl⟩
      · rw [if_neg h2, fr b hb] at e'
        cases e'
  · show (if N + 6 ≤ N + 6 + j then _ else _) = _
    rw [if_pos (by omega), show N + 6 + j - (N + 6) = j by omega, hx, hy]
theorem pe_listZip {X : Cx} {e e2 : Expr} {ta : TA} {p p2 pos pos2 : Pos} (K : PySem.W.Frag) (hc : X.calm = true) (hg1 : Gl X "list") (hm1 : X.mg "list" = none) (hg : Gl X "zip") (hm : X.mg "zip" = none) (ha : PA X [e, e2] ta) (hK : X.K = K := by rfl)
    (hs : starEach [e, e2] X.env = (false, eval e X.env) :: starEach [e2] X.env := by rfl) (hpl : (backTo pos2 (starEach [e2] X.env)).any (·.1) = false := by rfl)
    (hs1 : starEach [.Call (.Name "zip" p2) [e, e2] [] pos2] X.env = (false, eval (.Call (.Name "zip" p2) [e, e2] [] pos2) X.env) :: starEach [] X.env := by rfl) (hpl1 : (backTo pos (starEach [] X.env)).any (·.1) = false := by rfl) :
    PE X (.Call (.Name "list" p) [.Call (.Name "zip" p2) [e, e2] [] pos2] [] pos) (tListZip K ta) := by
  subst hK
  refine ⟨fun pins s σ H Q I h => ?_⟩
  refine Call_ (ld_blt I hg1 hm1 (u := .type "list") (by decide +kernel) (PyProof.Rows.callWith_type1 ?_ hs1 hpl1))
  rw [hs1]
  refine Calls.spliced_cons ?_
  refine Call_ (ld_blt I hg hm PyProof.Rows.boot_zip (PyProof.Rows.callWith_type1 (thn (ha.run pos2 pins s σ H _ I h) fun us s1 ⟨vs, H1, I1, r1, q1⟩ => ?_) hs hpl))
  obtain ⟨a, b, xs, ys, ex, hqx, hqy, hl, hz, q⟩ := q1
  subst ex
  cases r1 with
  | cons r rr =>
    cases rr with
    | cons r' rr =>
      cases rr
      cases r
      cases r'
      obtain ⟨its, rv, p1, _⟩ := I1.tuple hqx
      obtain ⟨its2, rv2, p2, _⟩ := I1.tuple hqy
      have l1 := rv.length
      have l2 := rv2.length
      obtain ⟨o1, ho1, _⟩ := id p1
      obtain ⟨o2, ho2, _⟩ := id p2
      have la : a < s1.heap.objs.size := Heap.lt_size ho1
      have lb : b < s1.heap.objs.size := Heap.lt_size ho2
      refine call_zipT (show s1.heap.IsTuple a its.toArray from p1) (show s1.heap.IsTuple b its2.toArray from p2) fun h' hz' hTI hTO h1 h2 hsz hk => Calls.spliced_nil ?_
      have hz5 : its.toArray.size ≤ sizeLine := by
        rw [List.size_toArray, ← l1]
        exact Nat.le_of_lt (lineN hz)
      have tup : ∀ {l : Addr} {ws : Array Value}, s1.heap.IsTuple l ws → h'.IsTuple l ws := fun q => by
        obtain ⟨o, e, r⟩ := q
        exact ⟨o, hk _ _ e, r⟩
      refine call_list_zipT (s := { s1 with heap := h' }) (N := s1.heap.objs.size) (I.ok.hd hc) (PySem.W.ktu_apart s1.heap.objs.size a b la lb) (by rw [List.size_toArray, List.size_toArray, ← l1, ← l2]; exact hl) hz5
        ⟨Nat.le_add_right _ _, Nat.le_add_right _ _, Nat.le_refl _, Nat.le_add_right _ _⟩ (by rw [hsz]; exact ⟨Nat.add_lt_add_left (by decide) _, Nat.add_lt_add_left (by decide) _, Nat.add_lt_add_left (by decide) _, Nat.lt_add_of_pos_right (by decide), Nat.add_lt_add_left (by decide) _, Nat.lt_of_lt_of_le la (Nat.le_add_right _ _), Nat.lt_of_lt_of_le lb (Nat.le_add_right _ _)⟩) (by rw [hsz]; exact Nat.le_add_right _ _) hz' hTI ⟨_, _, hTO⟩ h1 h2 (tup p1) (tup p2) fun h2' acc' c' k1 hS hP => ?_
      have kold : ∀ c o, s1.heap.get? c = some o → h2'.get? c = some o := fun c o e => k1 c o (Heap.lt_size e) (hk c o e)
      have hSz : h'.objs.size = s1.heap.objs.size + 5 := hsz
      have hS' : h2'.get? (s1.heap.objs.size + 5) = some { cls := .type "list", dict := none, data := .seq acc' c', slots := #[] } := by
        rw [← hSz]
        exact hS
      have hP' : PairsAt h2' (s1.heap.objs.size + 6) its.toArray its2.toArray acc' its.toArray.size := by
        have z := hP
        rw [show ({ s1 with heap := h' } : Shared).heap.objs.size + 1 = s1.heap.objs.size + 6 by show h'.objs.size + 1 = _; rw [hSz]] at z
        exact z
      generalize hN : s1.heap.objs.size = N at *
      have hlN : ∀ b u, H1 b = some u → b < N := fun b u e => by
        rw [← hN]
        exact (I1.hok b u e).lt
      have hfr : ∀ b, N ≤ b → H1 b = none := fun b e => I1.hok.fresh (by rw [hN]; exact e)
      refine fin_zip (N := N) (xs := xs) (ys := ys) (H1 := H1) (fun b e => hfr b e) hl (fun H2 hlo hS2 hT2 hT3 => ?_)
      have un : Un X.fs [] H1 H2 s1.heap h2' := ⟨fun b o q n _ _ => kold b o q, fun b o q n _ _ => ⟨o.slots, kold b o q⟩, fun b o q n _ => by rw [hlo b (by rw [← hN]; exact Heap.lt_size q)]; exact n, fun b o q _ => ⟨o, kold b o q⟩,
        fun b us q => by rw [hlo b (hlN _ _ q)]; exact q, fun b o u q => by rw [hlo b (hlN _ _ q)]; exact q, fun b qs q => ⟨#[], by rw [hlo b (hlN _ _ q), q]; simp⟩⟩
      have hok : HOk X.prog X.w H2 h2' := fun b u e => by
        by_cases hb : b < N
        · rw [hlo b hb] at e
          refine (I1.hok b u e).stay (fun c v _ z => kold c v z) (fun d z => by rw [hlo d (hlN _ _ z)]; exact z) fun d us z => by rw [hlo d (hlN _ _ z)]; exact z
        · rcases hT2 b u (Nat.le_of_not_lt hb) e with ⟨rfl, rfl⟩ | ⟨j, x, y, rfl, hx, hy, rfl⟩
          · refine ⟨by rw [List.length_map, List.length_range]; exact Nat.le_of_lt (lineN hz), acc'.toList, c', vals_atZ ?_ fun i v u hv hu => ?_, by rw [hS']⟩
            · have z := hP'.1
              rw [List.size_toArray] at z
              rw [List.length_map, List.length_range]
              exact l1.trans z.symm
            · rw [List.getElem?_map] at hv
              by_cases hi : i < xs.length
              · rw [List.getElem?_range hi] at hv
                cases hv
                have z := (hP'.2 i (by rw [List.size_toArray, ← l1]; exact hi)).1
                rw [Array.getElem?_toList, z] at hu
                cases hu
                rfl
              · rw [List.getElem?_eq_none (by rw [List.length_range]; omega)] at hv
                cases hv
          · obtain ⟨u1, hu1, ru1⟩ := rv.get hx
            obtain ⟨u2, hu2, ru2⟩ := rv2.get hy
            obtain ⟨_, x', y', ex, ey, p⟩ := hP'.2 j (by rw [List.size_toArray, ← l1]; exact (List.getElem?_eq_some_iff.mp hx).1)
            rw [List.getElem?_toArray, hu1] at ex
            rw [List.getElem?_toArray, hu2] at ey
            cases ex
            cases ey
            exact ⟨by show 2 ≤ sizeLine; decide, [u1, u2], .cons ru1 (.cons ru2 .nil), ⟨_, p, rfl, _, rfl⟩⟩
      refine ⟨.ref _, H2, I1.un (t' := s1.toks) un hok, rfl, ?_⟩
      rw [show ({ s1 with heap := h' } : Shared).heap.objs.size = N + 5 from hSz]
      have sm : Same H1 H2 := fun b o e => by
        rw [hlo b (hlN _ _ e)]
        exact e
      refine q H2 _ _ sm (hfr _ (Nat.le_add_right _ _)) hS2 (tups_of (by rw [List.length_map, List.length_map, List.length_range, List.length_zip]; omega) fun j p c hp hc => ?_)
      rw [List.getElem?_map] at hp hc
      by_cases hj : j < xs.length
      · have hx : xs[j]? = some xs[j] := List.getElem?_eq_getElem hj
        have hy : ys[j]? = some (ys[j]'(by omega)) := List.getElem?_eq_getElem (by omega)
        rw [List.getElem?_range hj] at hp
        cases hp
        have hzz : (xs.zip ys)[j]? = some (xs[j], ys[j]'(by omega)) := by
          rw [List.getElem?_zip_eq_some]
          exact ⟨hx, hy⟩
        rw [hzz] at hc
        cases hc
        exact ⟨_, rfl, SqT.of (hT3 j _ _ hx hy)⟩
      · rw [List.getElem?_eq_none (by rw [List.length_range]; omega)] at hp
        cases hp
end SL
/-! max and min of a tuple of ints. -/
namespace SL
open PySem PySem.Spec PyProof.Rows L2
section
variable {prog : Program} {w : World} {A : Around} {E : Value → Shared → Prop} {s : Shared} {l : Addr} {its : List Value} {ns : List Int} {Q : Value → Shared → Prop}
theorem iter_intTup {xs : Array (Int × Tok)} (hl : s.heap.IsTuple l (intItems xs))
    (h : ∀ s₂ : Shared, s₂ = { s with heap := s.heap.push { cls := .type "tuple_iterator", data := .fields #[.ref l, .int 0 0] } } →
      (s₂.heap.IsTupleIter s.heap.objs.size l 0 ∧ s₂.heap.IsTuple l (intItems xs)) → (∀ b ∈ [s.heap.objs.size, l], b < s₂.heap.objs.size) → l ≠ s.heap.objs.size → Q (.ref s.heap.objs.size) s₂) :
    wpAny (model prog w) A (pyIter (.ref l)) Q E s := by
  have hlt : l < s.heap.objs.size := by obtain ⟨_, e, _⟩ := hl; exact Heap.lt_size e
  refine wpAny_pyIter_tuple hl (h _ rfl ⟨⟨_, Heap.get?_push_size _ rfl, rfl, rfl⟩, hl.push _⟩ (fun b hb => ?_) (Nat.ne_of_lt hlt))
  show b < (s.heap.push _).objs.size
  rw [Heap.size_push]
  rcases List.mem_cons.mp hb with rfl | hb
  · exact Nat.lt_succ_self _
  · rcases List.mem_cons.mp hb with rfl | hb
    · exact Nat.lt_succ_of_lt hlt
    · cases hb
theorem max_rawT (hh : A.handled = none) (hl : s.heap.IsTuple l its.toArray) (hi : IntsAre its ns) (hne : 0 < ns.length)
    (h : ∀ h' tk M t', (∀ b o, s.heap.get? b = some o → h'.get? b = some o) → M ∈ ns → (∀ a, a ∈ ns → a ≤ M) → Q (.int M t') { s with heap := h', toks := tk }) : wpAny (model prog w) A (call (.builtin "max") [.ref l]) Q E s := by
  obtain ⟨xs, e⟩ := hi.allInts.items
  have hn : numsOf (intItems xs).toList = ns := by rw [← e]; exact hi.numsOf
  rw [nums_intItems] at hn
  subst hn
  rw [e] at hl
  have hsz : 0 < xs.size := by simpa using hne
  have key : ∀ v h' tk, (intItems xs)[argBest (fun i j => decide (numAt xs i > numAt xs j)) (xs.size - 1)]? = some v → (∀ b o, s.heap.get? b = some o → h'.get? b = some o) → Q v { s with heap := h', toks := tk } := fun v h' tk hv hk => by
    obtain ⟨t, rfl⟩ := intItems_at hv
    obtain ⟨h1, h2⟩ := argBest_gt (numAt xs) (xs.size - 1)
    refine h h' tk _ t hk ?_ fun a ha => ?_
    · rw [numAt_eq]; exact PySem.getD_mem (by rw [List.length_map, Array.length_toList]; omega)
    · obtain ⟨j, hj, rfl⟩ := mem_getD ha
      rw [List.length_map, Array.length_toList] at hj
      rw [← numAt_eq]; exact h2 j (by omega)
  refine call_max_walk (iter_intTup hl fun s₂ e st hfp hlI => ?_)
  subst e
  refine ⟨_, _, _, _, _, _, _, rfl, Walks.tuple (A := A.in1) hh _ l hlI (intItems xs), st, hfp, by simpa [intItems] using hsz, CmpOf.ints_gt (numAt xs) (fun _ _ => intItems_at), fun v h' tk hP hk => ?_⟩
  exact key v h' tk (by simpa [intItems] using hP) fun b o e => hk b o (fun hb => absurd (Heap.lt_size e) ((List.mem_singleton.mp hb) ▸ Nat.lt_irrefl _)) (Heap.get?_push_of_some _ e)
theorem min_rawT (hh : A.handled = none) (hl : s.heap.IsTuple l its.toArray) (hi : IntsAre its ns) (hne : 0 < ns.length)
    (h : ∀ h' tk M t', (∀ b o, s.heap.get? b = some o → h'.get? b = some o) → M ∈ ns → (∀ a, a ∈ ns → M ≤ a) → Q (.int M t') { s with heap := h', toks := tk }) : wpAny (model prog w) A (call (.builtin "min") [.ref l]) Q E s := by
  obtain ⟨xs, e⟩ := hi.allInts.items
  have hn : numsOf (intItems xs).toList = ns := by rw [← e]; exact hi.numsOf
  rw [nums_intItems] at hn
  subst hn
  rw [e] at hl
  have hsz : 0 < xs.size := by simpa using hne
  have key : ∀ v h' tk, (intItems xs)[argBest (fun i j => decide (numAt xs i < numAt xs j)) (xs.size - 1)]? = some v → (∀ b o, s.heap.get? b = some o → h'.get? b = some o) → Q v { s with heap := h', toks := tk } := fun v h' tk hv hk => by
    obtain ⟨t, rfl⟩ := intItems_at hv
    obtain ⟨h1, h2⟩ := argBest_lt (numAt xs) (xs.size - 1)
    refine h h' tk _ t hk ?_ fun a ha => ?_
    · rw [numAt_eq]; exact PySem.getD_mem (by rw [List.length_map, Array.length_toList]; omega)
    · obtain ⟨j, hj, rfl⟩ := mem_getD ha
      rw [List.length_map, Array.length_toList] at hj
      rw [← numAt_eq]; exact h2 j (by omega)
  refine call_min_walk (iter_intTup hl fun s₂ e st hfp hlI => ?_)
  subst e
  refine ⟨_, _, _, _, _, _, _, rfl, Walks.tuple (A := A.in1) hh _ l hlI (intItems xs), st, hfp, by simpa [intItems] using hsz, CmpOf.ints_lt (numAt xs) (fun _ _ => intItems_at), fun v h' tk hP hk => ?_⟩
  exact key v h' tk (by simpa [intItems] using hP) fun b o e => hk b o (fun hb => absurd (Heap.lt_size e) ((List.mem_singleton.mp hb) ▸ Nat.lt_irrefl _)) (Heap.get?_push_of_some _ e)
end
def rMaxT (K : PySem.W.Frag) : List V → Hp → VK → Prop := fun vs H Q => ∃ (a : Addr) (ns : List Int), vs = [V.ref a] ∧ SqT K H a (ns.map V.int) ∧ 0 < ns.length ∧ ∀ m, m ∈ ns → (∀ y, y ∈ ns → y ≤ m) → Q (.int m) H
def rMinT (K : PySem.W.Frag) : List V → Hp → VK → Prop := fun vs H Q => ∃ (a : Addr) (ns : List Int), vs = [V.ref a] ∧ SqT K H a (ns.map V.int) ∧ 0 < ns.length ∧ ∀ m, m ∈ ns → (∀ y, y ∈ ns → m ≤ y) → Q (.int m) H
theorem cr_maxT {X : Cx} (K : PySem.W.Frag) (hc : X.calm = true) (hK : X.K = K := by rfl) : CallR X (.builtin "max") (rMaxT K) := by
  subst hK
  intro pins s σ H vs us Q I r h
  obtain ⟨a, ns, rfl, hs, hne, q⟩ := h
  obtain ⟨its, rv, hl, _⟩ := I.tuple hs
  rw [Vals.ref1 r]
  exact max_rawT (I.ok.hd hc) hl rv.ints hne fun h' tk m t' hk h1 h2 => ⟨.int _, H, I.kept hk, ⟨_, rfl⟩, q m h1 h2⟩
theorem cr_minT {X : Cx} (K : PySem.W.Frag) (hc : X.calm = true) (hK : X.K = K := by rfl) : CallR X (.builtin "min") (rMinT K) := by
  subst hK
  intro pins s σ H vs us Q I r h
  obtain ⟨a, ns, rfl, hs, hne, q⟩ := h
  obtain ⟨its, rv, hl, _⟩ := I.tuple hs
  rw [Vals.ref1 r]
  exact min_rawT (I.ok.hd hc) hl rv.ints hne fun h' tk m t' hk h1 h2 => ⟨.int _, H, I.kept hk, ⟨_, rfl⟩, q m h1 h2⟩
end SL
/-! comprehensions with two fors: the outer over a range, the inner over a list. -/
namespace SL
open PySem PySem.Spec PyProof.Rows L2
theorem o_range {lo : Int} {n : Nat} {g : TG} {tt : TT} {vs : List Nat} {σ : L2.St} {H1 : Hp} {D : Addr} {Qd : Hp → Prop} {B : L2.St → Hp → (Hp → Prop) → Prop} (Pv : Nat → Hp → Prop) (h0 : Pv 0 (upd H1 D (.lst [])))
    (hs : ∀ i H, i < n → Pv i H → g (.int (lo + i)) (wipe σ vs) H fun σ2 H2 => wipe σ2 vs = wipe σ vs ∧ tt σ2 H2 fun b H3 => if b = true then B σ2 H3 (Pv (i + 1)) else Pv (i + 1) H3) (hd : ∀ H, Pv n H → Qd H) :
    ∃ W : Nat → Nat → Hp → Prop, (∃ m, W 0 m (upd H1 D (.lst []))) ∧ ∀ i m H, W i m H →
      ((Itr lo n).stop i H ∧ Qd H) ∨ ((Itr lo n).go i H ∧ ∃ Nx : Hp → Prop, (∀ H', Nx H' → ∃ m', m' < m ∧ W (i + 1) m' H') ∧ ∀ x H', (Itr lo n).yld i H x H' → g x (wipe σ vs) H' fun σ2 H2 => wipe σ2 vs = wipe σ vs ∧ tt σ2 H2 fun b H3 =>
        if b = true then B σ2 H3 Nx else Nx H3) := by
  refine ⟨fun i m H => m = n - i ∧ i ≤ n ∧ Pv i H, ⟨n, by simp, Nat.zero_le _, h0⟩, ?_⟩
  rintro i m H ⟨rfl, hi, p⟩
  by_cases hlt : i < n
  · refine .inr ⟨hlt, Pv (i + 1), fun H' p' => ⟨n - (i + 1), by omega, rfl, hlt, p'⟩, fun x H' y => ?_⟩
    obtain ⟨e, y⟩ := y
    subst e y
    exact hs i _ hlt p
  · have e : i = n := by omega
    subst e
    exact .inl ⟨Nat.le_refl _, hd H p⟩
theorem i_list {K : PySem.W.Frag} {a : Addr} {xs : List V} {g : TG} {tt : TT} {te : TE} {vs : List Nat} {σ : L2.St} {H1 : Hp} {D : Addr} {Nx : Hp → Prop} (Pv : Nat → Hp → Prop) (h0 : Pv 0 H1) (hl : ∀ i H, i ≤ xs.length → Pv i H → SqL K H a xs)
    (hs : ∀ i x H, xs[i]? = some x → Pv i H → g x (wipe σ vs) H fun σ2 H2 => wipe σ2 vs = wipe σ vs ∧ tt σ2 H2 fun b H3 =>
      if b = true then te σ2 H3 fun y H4 => ∃ acc, H4 D = some (.lst acc) ∧ acc.length < sizeLine ∧ Pv (i + 1) (upd H4 D (.lst (acc ++ [y]))) else Pv (i + 1) H3) (hd : ∀ H, Pv xs.length H → Nx H) :
    ∃ W : Nat → Nat → Hp → Prop, (∃ m, W 0 m H1) ∧ ∀ i m H, W i m H →
      ((Itl K a).stop i H ∧ Nx H) ∨ ((Itl K a).go i H ∧ ∃ Nx1 : Hp → Prop, (∀ H', Nx1 H' → ∃ m', m' < m ∧ W (i + 1) m' H') ∧ ∀ x H', (Itl K a).yld i H x H' → g x (wipe σ vs) H' fun σ2 H2 => wipe σ2 vs = wipe σ vs ∧ tt σ2 H2 fun b H3 =>
        if b = true then te σ2 H3 fun y H4 => ∃ acc, H4 D = some (.lst acc) ∧ acc.length < sizeLine ∧ Nx1 (upd H4 D (.lst (acc ++ [y]))) else Nx1 H3) := by
  refine ⟨fun i m H => m = xs.length - i ∧ i ≤ xs.length ∧ Pv i H, ⟨xs.length, by simp, Nat.zero_le _, h0⟩, ?_⟩
  rintro i m H ⟨rfl, hi, p⟩
  have q := hl i H hi p
  by_cases hlt : i < xs.length
  · refine .inr ⟨⟨xs, xs[i], q, by simp [hlt]⟩, Pv (i + 1), fun H' p' => ⟨xs.length - (i + 1), by omega, rfl, hlt, p'⟩, fun x H' y => ?_⟩
    obtain ⟨e, y⟩ := y
    subst e
    exact hs i x _ (y xs q) p
  · have e : i = xs.length := by omega
    subst e
    exact .inl ⟨⟨xs, q, Nat.le_refl _⟩, hd H p⟩
theorem units65 {k : Nat} {A : Around} (r : Room k A) : A.units + 65 < cLine := by have := r.un; omega
end SL
/-! sums and slices of tuples that the heap tracks: the result is tracked, too. -/
namespace SL
open PySem PySem.Spec PyProof.Rows L2
section
variable {X : Cx}
def rCatX : R2 := fun x y H Q => ∃ a b xs ys, x = .ref a ∧ y = .ref b ∧ H a = some (.tup xs) ∧ H b = some (.tup ys) ∧ xs.length + ys.length ≤ 100000 ∧ ∀ c H', Same H H' → H' c = some (.tup (xs ++ ys)) → Q (.ref c) H'
theorem op_catX (K : PySem.W.Frag) (h : X.K = K := by rfl) : OpR X (binaryOp .Add) rCatX := by
  subst h
  intro pins s σ H x y v u Q I rx ry z
  obtain ⟨a, b, xs, ys, e1, e2, ha, hb, hz, q⟩ := z
  refine op_catA pins s σ H x y v u Q I rx ry ⟨a, b, xs, ys, e1, e2, SqT.of ha, SqT.of hb, Nat.le_of_lt (lineN hz), fun e => ?_, fun _ e => ?_, fun _ _ p np => ?_⟩
  · subst e
    exact q b H (Same.refl H) hb
  · subst e
    exact q a H (Same.refl H) (by rw [List.append_nil]; exact ha)
  · exact q p _ (same_upd np) upd_same
def rSlX : V → Option Int → Option Int → Hp → VK → Prop := fun x lo hi H Q => ∃ a xs, x = .ref a ∧ H a = some (.tup xs) ∧ ∀ c H', Same H H' → H' c = some (.tup (cutV xs lo hi)) → Q (.ref c) H'
theorem sl_tupX (K : PySem.W.Frag) (h : X.K = K := by rfl) : SlR X rSlX := by
  subst h
  intro pins s σ H x v vl vu lo hi sl Q I rx hs pl pu z
  obtain ⟨a, xs, e, hx, q⟩ := z
  refine sl_tupA pins s σ H x v vl vu lo hi sl Q I rx hs pl pu ⟨a, xs, e, SqT.of hx, fun w => q a H (Same.refl H) ?_, fun _ p np => q p _ (same_upd np) upd_same⟩
  unfold cutV
  rw [w.1, w.2, List.drop_zero, Nat.sub_zero, List.take_length]
  exact hx
end
end SL
/-! sum(d.values()) of a dict with int values. -/
namespace SL
open PySem PySem.Spec PyProof.Rows L2
def tSumVals (td : TE) : TE := fun σ H Q => td σ H fun x H1 => ∃ (a : Addr) (kvs : List (Key × V)) (is : List Int), x = V.ref a ∧ H1 a = some (.dK kvs) ∧ kvs.map (·.2) = is.map V.int ∧ Q (.int is.sum) H1
section
variable {X : Cx} {o : Expr} {p pos apos mpos : Pos} {td : TE}
theorem pre_getD (is : List Int) : ∀ j, j ≤ is.length → preSum (fun i => is.getD i 0) j = (is.take j).sum
  | 0, _ => by simp [preSum]
  | j + 1, h => by
    have e : is[j]? = some (is[j]'(by omega)) := List.getElem?_eq_getElem (by omega)
    rw [preSum, pre_getD is j (by omega), List.take_add_one, e, List.sum_append, List.getD_eq_getElem?_getD, e]
    simp
theorem sum_getD (is : List Int) : preSum (fun i => is.getD i 0) is.length = is.sum := by
  rw [pre_getD is _ (Nat.le_refl _), List.take_length]
theorem pe_sumVals (hc : X.calm = true) (hg : Gl X "sum") (hm : X.mg "sum" = none) (hd : PE X o td) (hbase : attributeBase o "values" X.env (eval o X.env) = eval o X.env := by rfl) (hline : (apos.endLine == mpos.line) = true := by rfl)
    (hse : starEach [Expr.Call (.Attribute o "values" apos) [] [] mpos] X.env = [(false, eval (Expr.Call (.Attribute o "values" apos) [] [] mpos) X.env)] := by rfl) :
    PE X (.Call (.Name "sum" p) [.Call (.Attribute o "values" apos) [] [] mpos] [] pos) (tSumVals td) := by
  refine ⟨fun pins s σ H Q I h => ?_⟩
  refine wpAny_Call_Name_kw (ld_blt I hg hm (u := .builtin "sum") (by first | rfl | decide +kernel) ?_ (by first | decide +kernel | decide) (by first | decide +kernel | decide))
  rw [hse]
  refine PySem.callWith_builtin1 (wpAny_Call_method0_late hbase hline (thn (hd.run pins s σ H _ I h) fun v s1 ⟨x, H1, I1, r1, a, kvs, is, ex, ha, hv, q⟩ => ?_))
  subst ex
  obtain rfl : v = Value.ref a := r1
  obtain ⟨_, hsys, vs, rel, dof⟩ := dk_of I1.hok ha
  obtain ⟨ep, dat⟩ := dof.dictAt
  obtain ⟨ob, es, ho, ex, _⟩ := id dat
  refine ⟨"dict", "dict.values", F.plainAttrs_dict, F.slot_dict_values, F.type_dict_values, ⟨ob, ho, ex.1⟩, fun b e => ?_, Calls.callWith_builtin rfl (PySem.evalArgs_none ?_)⟩
  · cases e
    exact ⟨ob, ho, ex.2.1⟩
  refine call_meetsIn F.slot_dict_values ⟨ob, ho, ex.1⟩ F.entry_dict_values (F.args_dict_values_1 _) (meets_dict_values (mixKind X.prog X.w) a hsys) ⟨⟨vs, dof⟩, ?_⟩
  have k1 : ∀ b u, s1.heap.get? b = some u → (s1.heap.push { cls := .type "dict_values", data := .fields #[.ref a] }).get? b = some u := fun b u e => Heap.get?_push_of_some _ e
  have dat1 : (s1.heap.push { cls := .type "dict_values", data := .fields #[.ref a] }).DictAt (mixKind X.prog X.w) a vs ep := dat.keep k1
  have hlv : vs.length = is.length := by
    have e1 := congrArg List.length hv
    rw [List.length_map, List.length_map] at e1
    rw [← e1]
    exact (KV.length rel).symm
  have hval : ∀ (i : Nat) (v : Value), (∃ k, vs[i]? = some (k, v)) → ∃ t, v = Value.int (is.getD i 0) t := fun i v ⟨k, hk⟩ => by
    obtain ⟨x, h1, h2⟩ := KV.at' rel hk
    have e1 : (kvs.map (·.2))[i]? = some x := by rw [List.getElem?_map, h1] <;> rfl
    rw [hv, List.getElem?_map] at e1
    obtain ⟨j, hj, e2⟩ := Option.map_eq_some_iff.mp e1
    subst e2
    obtain ⟨t, e3⟩ := h2
    refine ⟨t, ?_⟩
    rw [e3, List.getD_eq_getElem?_getD, hj] <;> rfl
  refine call_sum_walkAnyS (wpAny_pyIter_values (v := s1.heap.objs.size) (d := a) ⟨_, Heap.get?_push_size _ rfl, rfl, rfl⟩ dat1 ?_)
  have hlt : a < s1.heap.objs.size := Heap.lt_size ho
  have hsz : (s1.heap.push { cls := .type "dict_values", data := .fields #[.ref a] }).objs.size = s1.heap.objs.size + 1 := Heap.size_push _ _
  refine ⟨_, _, _, _, _, _, _, fun i => is.getD i 0, rfl, (Walks.dictValues (knd := mixKind X.prog X.w) (A := X.A.in1) (I.ok.hd hc) (s1.heap.push { cls := .type "dict_values", data := .fields #[.ref a] }).objs.size a (by rw [hsz]; exact Nat.ne_of_lt (Nat.lt_succ_of_lt hlt)) vs ep).toS,
    ⟨⟨_, Heap.get?_push_size _ rfl, rfl, rfl⟩, dat1.keep fun b u e => Heap.get?_push_of_some _ e⟩, fun b hb => ?_, hval, fun s' t' hm' => ?_⟩
  · show b < ((s1.heap.push _).push _).objs.size
    rw [Heap.size_push, Heap.size_push]
    rw [hsz] at hb
    rcases List.mem_cons.mp hb with e | hb
    · rw [e]
      exact Nat.lt_succ_self _
    · have e : b = a := List.mem_singleton.mp hb
      rw [e]
      exact Nat.lt_succ_of_lt (Nat.lt_succ_of_lt hlt)
  · obtain ⟨h', g', d', tk', os'⟩ := s'
    have e1 : g' = s1.gens := hm'.gens
    have e2 : d' = s1.drawn := hm'.drawn
    have e3 : os' = s1.os := hm'.os
    subst e1 e2 e3
    rw [hlv, sum_getD]
    refine ⟨.int _, H1, I1.kept (t' := tk') fun b u e => hm'.heap b u (fun hmem => ?_) (Heap.get?_push_of_some _ (k1 b u e)), ⟨_, rfl⟩, q⟩
    have e1 : b = (s1.heap.push { cls := .type "dict_values", data := .fields #[.ref a] }).objs.size := List.mem_singleton.mp hmem
    have e2 := Heap.lt_size e
    rw [hsz] at e1
    rw [e1] at e2
    exact absurd e2 (Nat.not_lt.mpr (Nat.le_succ _))
end
end SL
namespace K33
open PySem PySem.Spec PyProof.Rows L2 SL
def topS (i : Nat) : Stmt := PySem.Challenge.pw_surelabels_k33_rows_that_rest.main.body.getD i (.Pass ⟨0, 0, 0, 0⟩)
abbrev s_LabelError : Stmt := topS 1
abbrev s_BadRow : Stmt := topS 2
abbrev s_BadNumber : Stmt := topS 3
abbrev s_BadWindow : Stmt := topS 4
abbrev s_is_whole : Stmt := topS 6
abbrev s_is_within : Stmt := topS 7
abbrev s_check_within : Stmt := topS 8
abbrev s_items_of : Stmt := topS 9
abbrev s_is_row : Stmt := topS 11
abbrev s_check_row : Stmt := topS 12
abbrev s_cell_number : Stmt := topS 13
abbrev s_table_of : Stmt := topS 15
abbrev s_Window : Stmt := topS 16
abbrev s_swept_inside : Stmt := topS 17
abbrev s_swept : Stmt := topS 18
abbrev s_same : Stmt := topS 19
abbrev s_rests : Stmt := topS 21
abbrev s_many_rest : Stmt := topS 22
abbrev s_swept_till : Stmt := topS 23
abbrev s_law_hand : Stmt := topS 25
abbrev s_law_draw : Stmt := topS 26
abbrev s_law_row : Stmt := topS 27
abbrev s_law_rows : Stmt := topS 28
abbrev s_law_number : Stmt := topS 29
abbrev s_law_table : Stmt := topS 30
abbrev s_law_radius : Stmt := topS 31
abbrev s_law_filtered : Stmt := topS 32
abbrev s_law_swept : Stmt := topS 33
abbrev s_law_same : Stmt := topS 34
abbrev s_law_count : Stmt := topS 35
abbrev s_law_till : Stmt := topS 36
abbrev s_law_asked : Stmt := topS 37
abbrev s_law_is_same : Stmt := topS 38
abbrev s_law : Stmt := topS 39
abbrev s_BadRow_init : Stmt := inClass (topS 2) 0
abbrev s_BadNumber_init : Stmt := inClass (topS 3) 0
abbrev s_BadWindow_init : Stmt := inClass (topS 4) 0
abbrev s_Window_init : Stmt := inClass (topS 16) 0
abbrev s_Window_eq : Stmt := inClass (topS 16) 1
/-! ### what the top has written -/
structure MF (P : Program) (w : World) (K : PySem.W.Frag) (mg : Str → Option Value) (cR iR cN iN cB iB cU fU gU cL : Addr) : Prop where
  m_isinstance : mg "isinstance" = none
  m_int : mg "int" = none
  m_bool : mg "bool" = none
  m_str : mg "str" = none
  m_list : mg "list" = none
  m_tuple : mg "tuple" = none
  m_len : mg "len" = none
  m_all : mg "all" = none
  m_range : mg "range" = none
  m_reversed : mg "reversed" = none
  m_sorted : mg "sorted" = none
  m_sum : mg "sum" = none
  m_zip : mg "zip" = none
  m_max : mg "max" = none
  m_min : mg "min" = none
  m_enumerate : mg "enumerate" = none
  x_BadRow : PySem.SLX.ExTxt K mg P w "BadRow" "part" "part" (fun v => ∃ (y : Str) (t : Tok), v = .str y t ∧ (reprText y).length ≤ 1000) cR iR
  g_BadRow : mg "BadRow" = some (.ref cR)
  x_BadNumber : PySem.SLX.ExTxt K mg P w "BadNumber" "part" "part" (fun v => ∃ (y : Str) (t : Tok), v = .str y t ∧ (reprText y).length ≤ 1000) cN iN
  g_BadNumber : mg "BadNumber" = some (.ref cN)
  x_BadWindow : PySem.SLX.ExTxt K mg P w "BadWindow" "part" "part" (fun v => ∃ (y : Str) (t : Tok), v = .str y t ∧ (reprText y).length ≤ 1000) cB iB
  g_BadWindow : mg "BadWindow" = some (.ref cB)
  g_LabelError : mg "LabelError" = some (.ref cL)
  e_RR : PySem.W.exmOne K (.ref cR) (.ref cR) = some true
  e_NR : PySem.W.exmOne K (.ref cN) (.ref cR) = some false
  e_NN : PySem.W.exmOne K (.ref cN) (.ref cN) = some true
  e_BB : PySem.W.exmOne K (.ref cB) (.ref cB) = some true
  g_Window : mg "Window" = some (.ref cU)
  mk_Window : Mk K cU fU
  cl_Window : Cls K cU
  n_radius : NoAttr K cU "radius"
  n_table : NoAttr K cU "table"
  eq_Window : PySem.W.findIn K (.ref cU) "__eq__" = some (some (.ref gU))
  fn_eq : PySem.W.isFn K (.ref gU) = true
  ic_Window : C8.InsC K cU
  ne_Window : PySem.W.findIn K (.ref cU) "__ne__" = some (some (.builtin "object.__ne__"))
  mo_Window : PySem.W.mroIn K cU (.type "object") = some true
section
variable {P : Program} {w : World} {K : PySem.W.Frag} {mg : Str → Option Value} {base : Heap} {cR iR cN iN cB iB cU fU gU cL : Addr} {fdU fdG : FuncData} {f : Addr} {fd : FuncData}
/-! ### is_whole, is_within, check_within -/
def wholeV : V → Bool
  | .int _ => true
  | _ => false
def withinV (lo hi : Int) : V → Bool
  | .int i => decide (lo ≤ i) && decide (i ≤ hi)
  | _ => false
theorem whole_of {H : Hp} {x : V} {T : String} (h : Knw K H x T) : (decide (T = "int" ∨ T = "bool") && !decide (T = "bool")) = wholeV x := by
  cases h <;> rfl
theorem sc_is_whole : FnScope ["thing"] ["thing"] (defScope s_is_whole) := ⟨rfl, rfl, rfl, by decide +kernel, rfl, by decide +kernel, by decide +kernel⟩
def spWhole (K : PySem.W.Frag) : Sp := fun vs H Q _ => ∃ x T, vs = [x] ∧ Knw K H x T ∧ Q (.bl (wholeV x)) H
theorem ok_is_whole (M : MF P w K mg cR iR cN iN cB iB cU fU gU cL) (F : Fun K "is_whole" "is_whole" s_is_whole f fd) : FnOk P w K mg base CX0 1 f fd ["thing"] (spWhole K) := by
  refine F.ok sc_is_whole (fun vs H Q E h => ?_) (fun cdv A outer s H vs Q E hr h => ?_)
  · obtain ⟨x, T, rfl, _⟩ := h
    rfl
  · obtain ⟨x, T, rfl, hk, q⟩ := h
    refine ⟨_, (pss_one (ps_ret (pe_and (pe_callB call_isi (by rfl) M.m_isinstance (by decide +kernel) (pa_cons (pv 0) (pa_cons (pe_bltn (v := .ty "int") (by rfl) M.m_int (by decide +kernel) rfl) pa_nil))) (pe_one (pe_not (pe_callB call_isi (by rfl) M.m_isinstance (by decide +kernel) (pa_cons (pv 0) (pa_cons (pe_bltn (v := .ty "bool") (by rfl) M.m_bool (by decide +kernel) rfl) pa_nil)))))))), ?_⟩
    refine ⟨x, rfl, x, .ty "int", _, _, _, rfl, .ty _, hk.ty, kit_int hk.mem, _, rfl, ?_⟩
    have e := whole_of hk
    by_cases c : T = "int" ∨ T = "bool"
    · rw [decide_eq_true c]
      refine iteT ?_
      refine ⟨x, rfl, x, .ty "bool", _, _, _, rfl, .ty _, hk.ty, kit_bool hk.mem, _, rfl, ?_⟩
      rw [decide_eq_true c, Bool.true_and] at e
      rw [e]
      exact q
    · rw [decide_eq_false c]
      refine iteF ?_
      rw [decide_eq_false c, Bool.false_and] at e
      rw [e]
      exact q
theorem sc_is_within : FnScope ["thing", "low", "high"] ["thing", "low", "high"] (defScope s_is_within) := ⟨rfl, rfl, rfl, by decide +kernel, rfl, by decide +kernel, by decide +kernel⟩
def spWithin (K : PySem.W.Frag) : Sp := fun vs H Q _ => ∃ x lo hi T, vs = [x, .int lo, .int hi] ∧ Knw K H x T ∧ Q (.bl (withinV lo hi x)) H
theorem ok_is_within (F_is_whole : FnC P w K mg base CX0 1 "is_whole" ["thing"] (spWhole K)) (F : Fun K "is_within" "is_within" s_is_within f fd) : FnOk P w K mg base CX0 2 f fd ["thing", "low", "high"] (spWithin K) := by
  refine F.ok sc_is_within (fun vs H Q E h => ?_) (fun cdv A outer s H vs Q E hr h => ?_)
  · obtain ⟨x, lo, hi, T, rfl, _⟩ := h
    rfl
  · obtain ⟨x, lo, hi, T, rfl, hk, q⟩ := h
    refine ⟨_, (pss_one (ps_ret (pe_and (pe_f F_is_whole hr (by omega) pass0 (pa_cons (pv 0) pa_nil)) (pe_one (pe_chain op_le op_le (pv 1) (pv 0) (pv 2)))))), ?_⟩
    refine ⟨x, rfl, x, T, rfl, hk, _, rfl, ?_⟩
    cases x with
    | int i =>
      refine iteT ?_
      refine ⟨_, rfl, _, rfl, _, _, rfl, rfl, _, rfl, ?_⟩
      by_cases c : lo ≤ i
      · rw [decide_eq_true c]
        refine iteT ⟨_, rfl, _, _, rfl, rfl, ?_⟩
        have q' : Q (.bl (decide (lo ≤ i) && decide (i ≤ hi))) H := q
        rw [decide_eq_true c, Bool.true_and] at q'
        exact q'
      · rw [decide_eq_false c]
        refine iteF ?_
        have q' : Q (.bl (decide (lo ≤ i) && decide (i ≤ hi))) H := q
        rw [decide_eq_false c, Bool.false_and] at q'
        exact q'
    | _ => exact iteF q
end

section
variable {P : Program} {w : World} {K : PySem.W.Frag} {mg : Str → Option Value} {base : Heap} {cR iR cN iN cB iB cU fU gU cL : Addr} {fdU fdG : FuncData} {f : Addr} {fd : FuncData}
theorem sc_check_within : FnScope ["thing", "low", "high", "part"] ["thing", "low", "high", "part"] (defScope s_check_within) := ⟨rfl, rfl, rfl, by decide +kernel, rfl, by decide +kernel, by decide +kernel⟩
def spCheckWithin (K : PySem.W.Frag) (cN : Addr) : Sp := fun vs H Q E => ∃ x lo hi part T, vs = [x, .int lo, .int hi, .str part] ∧ Knw K H x T ∧ (reprText part).length ≤ 1000 ∧ (withinV lo hi x = true → Q .non H) ∧
  (withinV lo hi x = false → ∀ d, H d = none → E (.ref cN) (some d) (upd H d (.xd [(("part" : Str), .str part)])))
theorem ok_check_within (M : MF P w K mg cR iR cN iN cB iB cU fU gU cL) (F_is_within : FnC P w K mg base CX0 2 "is_within" ["thing", "low", "high"] (spWithin K)) (F : Fun K "check_within" "check_within" s_check_within f fd) :
    FnOk P w K mg base (L2.CX P w) 4 f fd ["thing", "low", "high", "part"] (spCheckWithin K cN) := by
  refine F.okX sc_check_within (fun vs H Q E h => ?_) (fun cdv A outer s H vs Q E hr h => ?_)
  · obtain ⟨x, lo, hi, part, T, rfl, _⟩ := h
    rfl
  · obtain ⟨x, lo, hi, part, T, rfl, hk, hp, q1, q2⟩ := h
    refine ⟨_, (pss_one (ps_if (pt_not (pt_val (pe_f F_is_within hr (by omega) pass0 (pa_cons (pv 0) (pa_cons (pv 1) (pa_cons (pv 2) pa_nil))))))
      (pss_one (ps_raiseEx rfl M.x_BadNumber hr (takes_of rfl rfl rfl rfl) (pa_cons (pv 3) pa_nil))) pss_nil)), ?_⟩
    refine ⟨_, rfl, _, rfl, _, rfl, x, lo, hi, T, rfl, hk, _, rfl, ?_⟩
    cases c : withinV lo hi x with
    | true => exact iteF (q1 c)
    | false =>
      refine iteT ⟨_, rfl, _, rfl, fun u ru => ?_, fun d nd => q2 c d nd⟩
      obtain ⟨t, rfl⟩ := ru
      exact ⟨part, t, rfl, hp⟩
end

section
variable {P : Program} {w : World} {K : PySem.W.Frag} {mg : Str → Option Value} {base : Heap} {cR iR cN iN cB iB cU fU gU cL : Addr} {fdU fdG : FuncData} {f : Addr} {fd : FuncData}
/-! ### items_of -/
/-- what items_of tells -/
inductive ItemsV (K : PySem.W.Frag) (H : Hp) : D → V → Prop
  | no {d : D} (h : itemsD d = none) : ItemsV K H d .non
  | yes {d : D} {ds : List D} {a : Addr} {xs : List V} (h : itemsD d = some ds) (q : SqT K H a xs) (k : DtAll K H xs ds) (z : ds.length ≤ 100000) : ItemsV K H d (.ref a)
theorem ItemsV.same {H H' : Hp} {d : D} {v : V} (s : Same H H') (h : ItemsV K H d v) : ItemsV K H' d v := by
  cases h with
  | no h => exact .no h
  | yes h q k z => exact .yes h (Same.seqT s q) (DtAll.same s k) z
/-- the same, of data that stood in G: what is new is said apart -/
inductive ItemsG (K : PySem.W.Frag) (G H H' : Hp) : D → V → Prop
  | no {d : D} (h : itemsD d = none) : ItemsG K G H H' d .non
  | old {d : D} {ds : List D} {a : Addr} {xs : List V} (h : itemsD d = some ds) (q : SqT K G a xs) (k : DtAll K G xs ds) (z : ds.length ≤ 100000) : ItemsG K G H H' d (.ref a)
  | new {d : D} {ds : List D} {a : Addr} {xs : List V} (h : itemsD d = some ds) (n : H a = none) (e : H' a = some (.tup xs)) (k : DtAll K G xs ds) (z : ds.length ≤ 100000) : ItemsG K G H H' d (.ref a)
theorem ItemsG.toV {G H H' : Hp} {d : D} {v : V} (sG : Same G H) (s : Same H H') (h : ItemsG K G H H' d v) : ItemsV K H' d v := by
  cases h with
  | no h => exact .no h
  | old h q k z => exact .yes h (Same.seqT (sG.trans s) q) (DtAll.same (sG.trans s) k) z
  | new h n e k z => exact .yes h (SqT.of e) (DtAll.same (sG.trans s) k) z
def keptD (d : D) : D := match itemsD d with
  | none => .non
  | some rs => .tup rs
theorem ItemsG.off {H H' : Hp} {D0 : Addr} {o : HO} {d : D} {v : V} (hD : H D0 = some o) (s : Same H H') (h : ItemsG K (SL.off H D0) H H' d v) : Dt K (SL.off H' D0) v (keptD d) := by
  unfold keptD
  cases h with
  | no h =>
    rw [h]
    exact .non
  | old h q k z =>
    rw [h]
    exact .tup (Same.seqT (off_mono s) q) (DtAll.same (off_mono s) k) z
  | new h n e k z =>
    rw [h]
    refine .tup (SqT.of ?_) (DtAll.same (off_mono s) k) z
    rw [off_ne fun z => by rw [z, hD] at n; cases n]
    exact e
theorem ItemsV.dt {H : Hp} {d : D} {v : V} (h : ItemsV K H d v) : Dt K H v (keptD d) := by
  unfold keptD
  cases h with
  | no h =>
    rw [h]
    exact .non
  | yes h q k z =>
    rw [h]
    exact .tup q k z
theorem sc_items_of : FnScope ["thing"] ["thing"] (defScope s_items_of) := ⟨rfl, rfl, rfl, by decide +kernel, rfl, by decide +kernel, by decide +kernel⟩
def spItems (K : PySem.W.Frag) : Sp := fun vs H Q _ => ∃ v d G, vs = [v] ∧ Same G H ∧ Dt K G v d ∧ ∀ H' r, Same H H' → ItemsG K G H H' d r → Q r H'
theorem ok_items_of (M : MF P w K mg cR iR cN iN cB iB cU fU gU cL) (F : Fun K "items_of" "items_of" s_items_of f fd) : FnOk P w K mg base CX0 1 f fd ["thing"] (spItems K) := by
  refine F.ok sc_items_of (fun vs H Q E h => ?_) (fun cdv A outer s H vs Q E hr h => ?_)
  · obtain ⟨v, d, G, rfl, _⟩ := h
    rfl
  · obtain ⟨v, d, G, rfl, sG, hd, q⟩ := h
    refine ⟨_, (pss_cons (ps_if (pt_val (pe_callB call_isiT (by rfl) M.m_isinstance (by decide +kernel) (pa_cons (pv 0) (pa_cons (pe_tup (pa_cons (pe_bltn (v := .ty "tuple") (by rfl) M.m_tuple (by decide +kernel) rfl) (pa_cons (pe_bltn (v := .ty "list") (by rfl) M.m_list (by decide +kernel) rfl) pa_nil))) pa_nil))))
      (pss_one (ps_ret (pe_callTy call_tuple_of (by rfl) M.m_tuple (by decide +kernel) (pa_cons (pv 0) pa_nil)))) pss_nil)
      (pss_one (ps_ret pe_non))), ?_⟩
    have hk := (hd.same sG).knw
    refine ⟨_, rfl, few (n := 2) (by decide), fun p np => ?_⟩
    have s1 : Same H (upd H p (.tup [.ty "tuple", .ty "list"])) := same_upd np
    refine ⟨_, p, _, _, _, _, rfl, upd_same, .cons (.ty _) (.cons (.ty _) .nil), (hk.same s1).ty, kitAny_two (kit_tuple hk.mem) (kit_list hk.mem), _, rfl, ?_⟩
    generalize upd H p (.tup [.ty "tuple", .ty "list"]) = H1 at s1 ⊢
    have g1 := sG.trans s1
    cases hd with
    | lst h k z => exact iteT ⟨_, rfl, _, _, rfl, .inl ⟨g1.seq h, fun l nl => q _ _ (s1.trans (same_upd nl)) (.new rfl (s1.free nl) upd_same k z)⟩⟩
    | tup h k z => exact iteT ⟨_, rfl, _, _, rfl, .inr ⟨Same.seqT g1 h, q _ _ s1 (.old rfl h k z)⟩⟩
    | non => exact iteF (q _ _ s1 (.no rfl))
    | bl b => exact iteF (q _ _ s1 (.no rfl))
    | int i => exact iteF (q _ _ s1 (.no rfl))
    | str x z => exact iteF (q _ _ s1 (.no rfl))
    | dic h => exact iteF (q _ _ s1 (.no rfl))
end

section
variable {P : Program} {w : World} {K : PySem.W.Frag} {mg : Str → Option Value} {base : Heap} {cR iR cN iN cB iB cU fU gU cL : Addr} {fdU fdG : FuncData} {f : Addr} {fd : FuncData}
/-! ### is_row, check_row, cell_number -/
def raised (c : Addr) (part : Str) (E : XK) (H : Hp) : Prop := ∀ H' d, Same H H' → H' d = none → E (.ref c) (some d) (upd H' d (.xd [(("part" : Str), .str part)]))
theorem raised.same {c : Addr} {part : Str} {E : XK} {H H' : Hp} (s : Same H H') (h : raised c part E H) : raised c part E H' := fun H2 d s2 nd => h H2 d (s.trans s2) nd
theorem take_more {α : Type} : ∀ {l : List α} {i : Nat} {x : α}, l[i]? = some x → l.take (i + 1) = l.take i ++ [x] := fun {l i x} h => by rw [List.take_add_one, h]; rfl
theorem withinVD {H : Hp} {lo hi : Int} {v : V} {d : D} (h : Dt K H v d) : withinV lo hi v = withinD lo hi d := by
  cases h <;> rfl
def cellsD (ds : List D) : Bool := ds.all (withinD 0 1)
def rowD : D → Bool
  | .tup ds => cellsD ds
  | _ => false
def bits (ns : List Int) : Prop := ∀ c ∈ ns, c = 0 ∨ c = 1
theorem bits.nil : bits [] := fun _ h => nomatch h
theorem bits.cons {c : Int} {ns : List Int} (h : c = 0 ∨ c = 1) (t : bits ns) : bits (c :: ns) := fun x hx => by
  rcases List.mem_cons.mp hx with rfl | hx
  · exact h
  · exact t x hx
theorem bits.app {ms ns : List Int} (h : bits ms) (t : bits ns) : bits (ms ++ ns) := fun x hx => (List.mem_append.mp hx).elim (h x) (t x)
theorem cells_ints {H : Hp} : ∀ {xs : List V} {ds : List D}, DtAll K H xs ds → cellsD ds = true → ∃ ns : List Int, xs = ns.map V.int ∧ ds = ns.map D.int ∧ bits ns
  | _, _, .nil, _ => ⟨[], rfl, rfl, bits.nil⟩
  | _, _, .cons (ds := ds) h t, z => by
    unfold cellsD at z
    rw [List.all_cons, Bool.and_eq_true] at z
    obtain ⟨ns, e1, e2, hb⟩ := cells_ints t z.2
    have z1 := z.1
    cases h <;> first | cases z1 | skip
    rename_i i
    have z2 : (decide (0 ≤ i) && decide (i ≤ 1)) = true := z1
    rw [Bool.and_eq_true, decide_eq_true_eq, decide_eq_true_eq] at z2
    exact ⟨i :: ns, by rw [e1]; rfl, by rw [e2]; rfl, hb.cons (by omega)⟩
theorem bits_cells {ns : List Int} (h : bits ns) : cellsD (ns.map D.int) = true := by
  unfold cellsD
  rw [List.all_eq_true]
  intro d hd
  obtain ⟨i, hi, rfl⟩ := List.mem_map.mp hd
  rcases h i hi with rfl | rfl <;> rfl
theorem dts_int {H : Hp} : ∀ ns : List Int, DtAll K H (ns.map V.int) (ns.map D.int)
  | [] => .nil
  | n :: r => .cons (.int n) (dts_int r)
theorem dt_row {H : Hp} {a : Addr} {ns : List Int} (h : SqT K H a (ns.map V.int)) (z : ns.length ≤ 100000) : Dt K H (.ref a) (.tup (ns.map D.int)) := .tup h (dts_int ns) (by rw [List.length_map]; exact z)
theorem sc_is_row : FnScope ["thing", "cell"] ["thing"] (defScope s_is_row) := ⟨rfl, rfl, rfl, by decide +kernel, rfl, by decide +kernel, by decide +kernel⟩
def spRowQ (K : PySem.W.Frag) : Sp := fun vs H Q _ => ∃ v d, vs = [v] ∧ Dt K H v d ∧ ∀ H', Same H H' → Q (.bl (rowD d)) H'
theorem ok_is_row (M : MF P w K mg cR iR cN iN cB iB cU fU gU cL) (F_is_within : FnC P w K mg base CX0 2 "is_within" ["thing", "low", "high"] (spWithin K)) (F : Fun K "is_row" "is_row" s_is_row f fd) : FnOk P w K mg base CX0 4 f fd ["thing"] (spRowQ K) := by
  refine F.ok sc_is_row (fun vs H Q E h => ?_) (fun cdv A outer s H vs Q E hr h => ?_)
  · obtain ⟨v, d, rfl, _⟩ := h
    rfl
  · obtain ⟨v, d, rfl, hd, q⟩ := h
    refine ⟨_, (pss_one (ps_ret (pe_and (pe_callB call_isi (by rfl) M.m_isinstance (by decide +kernel) (pa_cons (pv 0) (pa_cons (pe_bltn (v := .ty "tuple") (by rfl) M.m_tuple (by decide +kernel) rfl) pa_nil))) (pe_one (pe_callB (cr_all rfl) (by rfl) M.m_all (by decide +kernel) (pa_cons (pe_lc (own := [("cell", 1)]) (tt := tYes) rfl sc_is_row.nd (pi_tup (pv 0)) (blkOk_by (N := ["thing", "cell"]) (sc := defScope s_is_row) (by decide +kernel)) (fun _ _ _ _ _ => (pg_name (i := 1) sc_is_row.nd rfl (Or.inl rfl))) (fun _ _ _ _ _ => pts_nil) (fun _ _ _ _ _ => (pe_f F_is_within hr (by omega) pass0 (pa_cons (pv 1) (pa_cons pe_int (pa_cons pe_int pa_nil)))))) pa_nil)))))), ?_⟩
    have hk := hd.knw
    refine ⟨v, rfl, v, .ty "tuple", _, _, _, rfl, .ty _, hk.ty, kit_tuple hk.mem, _, rfl, ?_⟩
    cases hd with
    | @tup a xs ds h k z =>
      refine iteT ⟨.ref a, rfl, a, rfl, ⟨xs, h⟩, fun E2 nE => ?_⟩
      have ll := DtAll.length k
      refine lc_tup (K := K) (a := a) (xs := xs) (fun i H' => Same H H' ∧ H' E2 = some (.lst ((ds.take i).map fun d => V.bl (withinD 0 1 d)))) ⟨same_upd nE, upd_same⟩ (fun i H' _ p => Same.seqT p.1 h) (fun i y H' hy p => ?_) (fun H' p => ?_)
      · obtain ⟨dy, ky, hdy⟩ := DtAll.get k hy
        refine ⟨rfl, lc_yes ⟨y, rfl, y, 0, 1, _, rfl, (hdy.same p.1).knw, _, p.2, ?_, ?_, ?_⟩⟩
        · rw [List.length_map, List.length_take]
          exact lineN (by omega)
        · exact fun b o e => by
            rw [upd_ne (ne_of_none e nE)]
            exact p.1 _ _ e
        · rw [upd_same, take_more ky, List.map_append, withinVD hdy]
          rfl
      · refine ⟨E2, ds.map (withinD 0 1), rfl, SqL.of ?_, ?_⟩
        · rw [p.2, List.take_of_length_le (by omega), List.map_map]
          rfl
        · have al : (ds.map (withinD 0 1)).all id = cellsD ds := by rw [List.all_map]; rfl
          rw [al]
          exact q H' p.1
    | non => exact iteF (q H (Same.refl H))
    | bl b => exact iteF (q H (Same.refl H))
    | int i => exact iteF (q H (Same.refl H))
    | str _ _ => exact iteF (q H (Same.refl H))
    | lst _ _ _ => exact iteF (q H (Same.refl H))
    | dic _ => exact iteF (q H (Same.refl H))
theorem sc_check_row : FnScope ["thing", "part"] ["thing", "part"] (defScope s_check_row) := ⟨rfl, rfl, rfl, by decide +kernel, rfl, by decide +kernel, by decide +kernel⟩
def spCheckRow (K : PySem.W.Frag) (cR : Addr) : Sp := fun vs H Q E => ∃ v d part, vs = [v, .str part] ∧ Dt K H v d ∧ (reprText part).length ≤ 1000 ∧ (rowD d = true → ∀ H', Same H H' → Q .non H') ∧ (rowD d = false → raised cR part E H)
theorem ok_check_row (M : MF P w K mg cR iR cN iN cB iB cU fU gU cL) (F_is_row : FnC P w K mg base CX0 4 "is_row" ["thing"] (spRowQ K)) (F : Fun K "check_row" "check_row" s_check_row f fd) : FnOk P w K mg base (L2.CX P w) 6 f fd ["thing", "part"] (spCheckRow K cR) := by
  refine F.okX sc_check_row (fun vs H Q E h => ?_) (fun cdv A outer s H vs Q E hr h => ?_)
  · obtain ⟨v, d, part, rfl, _⟩ := h
    rfl
  · obtain ⟨v, d, part, rfl, hd, hp, q1, q2⟩ := h
    refine ⟨_, (pss_one (ps_if (pt_not (pt_val (pe_f F_is_row hr (by omega) pass0 (pa_cons (pv 0) pa_nil))))
      (pss_one (ps_raiseEx rfl M.x_BadRow hr (takes_of rfl rfl rfl rfl) (pa_cons (pv 1) pa_nil))) pss_nil)), ?_⟩
    refine ⟨_, rfl, v, d, rfl, hd, fun H' s' => ⟨_, rfl, ?_⟩⟩
    cases c : rowD d with
    | true => exact iteF (q1 c H' s')
    | false =>
      refine iteT ⟨_, rfl, _, rfl, fun u ru => ?_, fun d nd => q2 c H' d s' nd⟩
      obtain ⟨t, rfl⟩ := ru
      exact ⟨part, t, rfl, hp⟩
def numOf (ns : List Int) : Int := ns.foldl (fun n c => 2 * n + c) 0
theorem sc_cell_number : FnScope ["row", "number", "cell"] ["row"] (defScope s_cell_number) := ⟨rfl, rfl, rfl, by decide +kernel, rfl, by decide +kernel, by decide +kernel⟩
def spCellNumber (K : PySem.W.Frag) : Sp := fun vs H Q _ => ∃ a ns, vs = [.ref a] ∧ SqT K H a (ns.map V.int) ∧ Q (.int (numOf ns)) H
theorem ok_cell_number (F : Fun K "cell_number" "cell_number" s_cell_number f fd) : FnOk P w K mg base CX0 1 f fd ["row"] (spCellNumber K) := by
  refine F.ok sc_cell_number (fun vs H Q E h => ?_) (fun cdv A outer s H vs Q E hr h => ?_)
  · obtain ⟨a, ns, rfl, _⟩ := h
    rfl
  · obtain ⟨a, ns, rfl, hS, q⟩ := h
    refine ⟨_, (pss_cons (ps_set (i := 1) sc_cell_number.nd rfl (Or.inl rfl) pe_int)
      (pss_cons (ps_for PassesOwn.never rfl (pi_tup (pv 0)) (pg_name (i := 2) sc_cell_number.nd rfl (Or.inl rfl))
      (pss_one (ps_set (i := 1) sc_cell_number.nd rfl (Or.inl rfl) (pe_op op_add (pe_op op_mul pe_int (pv 1)) (pv 2)))))
      (pss_one (ps_ret (pv 1))))), ?_⟩
    refine ⟨_, rfl, a, rfl, ⟨_, hS⟩, for_tup (K := K) (a := a) (xs := ns.map V.int) (fun i σ H' => H' = H ∧ ∃ v, σ = [some (.ref a), some (.int (numOf (ns.take i))), v]) ⟨rfl, none, rfl⟩ (fun i σ H' _ p => by rw [p.1]; exact hS) ?_ ?_⟩
    · rintro i y σ H' hy ⟨rfl, v, rfl⟩
      rw [List.getElem?_map] at hy
      cases e : ns[i]? with
      | none =>
        rw [e] at hy
        cases hy
      | some c =>
        rw [e] at hy
        cases hy
        refine ⟨_, rfl, _, _, rfl, rfl, .inl ⟨by decide, by decide⟩, _, rfl, _, _, rfl, rfl, rfl, some (.int c), ?_⟩
        rw [take_more e]
        show [_, some (V.int (2 * numOf (ns.take i) + c)), _] = _
        unfold numOf
        rw [List.foldl_append]
        rfl
    · rintro σ H' ⟨rfl, v, rfl⟩
      rw [List.length_map, List.take_length]
      exact ⟨_, rfl, q⟩
end

section
variable {P : Program} {w : World} {K : PySem.W.Frag} {mg : Str → Option Value} {base : Heap} {cR iR cN iN cB iB cU fU gU cL : Addr} {fdU fdG : FuncData} {f : Addr} {fd : FuncData}
/-- the digits of a number, the highest first -/
def digits (N W : Nat) : List Int := (List.range W).map fun i => ((N / 2 ^ (W - 1 - i) % 2 : Nat) : Int)
end

end K33
namespace K33
open PySem PySem.Spec PyProof.Rows L2 SL
section
variable {P : Program} {w : World} {K : PySem.W.Frag} {mg : Str → Option Value} {base : Heap} {cR iR cN iN cB iB cU fU gU cL : Addr} {fdU fdG : FuncData} {f : Addr} {fd : FuncData}
/-! ### _table_of, Window -/
def tabOk (n : Nat) (d : D) : Bool := match itemsD d with
  | none => false
  | some ds => decide (ds.length = n) && cellsD ds
theorem tabOk_no {n : Nat} {d : D} (h : itemsD d = none) : tabOk n d = false := by
  unfold tabOk
  rw [h]
theorem tabOk_yes {n : Nat} {d : D} {ds : List D} (h : itemsD d = some ds) : tabOk n d = (decide (ds.length = n) && cellsD ds) := by
  unfold tabOk
  rw [h]
theorem sc_table_of : FnScope ["thing", "size", "table"] ["thing", "size"] (defScope s_table_of) := ⟨rfl, rfl, rfl, by decide +kernel, rfl, by decide +kernel, by decide +kernel⟩
def spTable (K : PySem.W.Frag) (cB : Addr) : Sp := fun vs H Q E => ∃ (v : V) (d : D) (n : Nat), vs = [v, .int (n : Int)] ∧ Dt K H v d ∧ (tabOk n d = false → raised cB "table" E H) ∧
  ∀ ts : List Int, tabOk n d = true → itemsD d = some (ts.map D.int) → ts.length = n → bits ts → ∀ H' r, Same H H' → SqT K H' r (ts.map V.int) → Q (.ref r) H'
theorem ok_table_of (M : MF P w K mg cR iR cN iN cB iB cU fU gU cL) (F_items_of : FnC P w K mg base CX0 1 "items_of" ["thing"] (spItems K)) (F_is_row : FnC P w K mg base CX0 4 "is_row" ["thing"] (spRowQ K))
    (F : Fun K "_table_of" "_table_of" s_table_of f fd) : FnOk P w K mg base (L2.CX P w) 6 f fd ["thing", "size"] (spTable K cB) := by
  refine F.okX sc_table_of (fun vs H Q E h => ?_) (fun cdv A outer s H vs Q E hr h => ?_)
  · obtain ⟨v, d, n, rfl, _⟩ := h
    rfl
  · obtain ⟨v, d, n, rfl, hd, e1, q⟩ := h
    refine ⟨_, (pss_cons (ps_set (i := 2) sc_table_of.nd rfl (Or.inl rfl) (pe_f F_items_of hr (by omega) pass0 (pa_cons (pv 0) pa_nil)))
      (pss_cons (ps_if (PW.pt (pw_or (pt_cmpR op_isN (pv 2) pe_non (nomark _)) (pw_or (pt_cmpR op_ne (pe_callB call_len_seq (by rfl) M.m_len (by decide +kernel) (pa_cons (pv 2) pa_nil)) (pv 1) (nomark _)) (pw_or1 (pt_not (pt_val (pe_f F_is_row hr (by omega) pass0 (pa_cons (pv 2) pa_nil))))))))
      (pss_one (ps_raiseEx rfl M.x_BadWindow hr (takes_of rfl rfl rfl rfl) (pa_cons pe_str pa_nil))) pss_nil)
      (pss_one (ps_ret (pv 2))))), ?_⟩
    have rz : ∀ {u : Value}, (∃ t, u = Value.str "table" t) → ∃ (y : Str) (t : Tok), u = .str y t ∧ (reprText y).length ≤ 1000 := fun ⟨t, e⟩ => ⟨_, t, e, by decide +kernel⟩
    refine ⟨_, rfl, v, d, H, rfl, Same.refl H, hd, fun H1 r s1 hi0 => ?_⟩
    have hi := hi0.toV (Same.refl H) s1
    cases hi with
    | no hn => exact ⟨_, rfl, rfl, _, rfl, iteU rfl ⟨_, rfl, fun u ru => rz ru, fun d nd => e1 (tabOk_no hn) H1 d s1 nd⟩⟩
    | @yes ds a xs hi hS hD z =>
      have ll := DtAll.length hD
      have ok := tabOk_yes (n := n) hi
      refine ⟨_, rfl, rfl, _, rfl, iteV (fun z => nomatch z) ?_⟩
      refine ⟨.ref a, rfl, a, xs, rfl, .inr hS, _, rfl, rfl, _, rfl, ?_⟩
      rw [ll]
      by_cases c1 : ds.length = n
      · rw [show decide (V.int (ds.length : Nat) = V.int (n : Nat)) = true from decide_eq_true (by rw [c1])]
        refine iteF ⟨.ref a, rfl, .ref a, .tup ds, rfl, .tup hS hD z, fun H4 s4 => ⟨_, rfl, ?_⟩⟩
        show if (!(cellsD ds)) = true then _ else _
        cases c2 : cellsD ds with
        | false => exact iteT ⟨_, rfl, fun u ru => rz ru, fun d nd => e1 (by rw [ok, c2, Bool.and_false]) H4 d (s1.trans s4) nd⟩
        | true =>
          obtain ⟨ns, ex, ed, hb⟩ := cells_ints hD c2
          refine iteF ⟨_, rfl, q ns (by rw [ok, c2, decide_eq_true c1]; rfl) (by rw [hi, ed]) (by rw [← c1, ed, List.length_map]) hb H4 a (s1.trans s4) ?_⟩
          rw [← ex]
          exact Same.seqT s4 hS
      · rw [show decide (V.int (ds.length : Nat) = V.int (n : Nat)) = false from decide_eq_false fun z => c1 (by have := V.int.inj z; omega)]
        exact iteT ⟨_, rfl, fun u ru => rz ru, fun d nd => e1 (by rw [ok, decide_eq_false c1, Bool.false_and]) H1 d s1 nd⟩
theorem pow_cast (k : Nat) : ((2 ^ k : Nat) : Int) = 2 ^ k := by rw [Int.natCast_pow]; rfl
/-- a window that stands at x -/
def WinAt (K : PySem.W.Frag) (cU : Addr) (H : Hp) (x : Addr) (r : Nat) (ts : List Int) : Prop := ∃ dx a, H x = some (.ins cU dx [("radius", .int (r : Int)), ("table", .ref a)]) ∧ SqT K (SL.off H x) a (ts.map V.int) ∧ r ≤ 3 ∧ ts.length = 2 ^ (2 * r + 1) ∧ bits ts
theorem WinAt.same {H H' : Hp} {x : Addr} {r : Nat} {ts : List Int} (s : Same H H') (h : WinAt K cU H x r ts) : WinAt K cU H' x r ts := by
  obtain ⟨dx, a, h1, h2, h3⟩ := h
  exact ⟨dx, a, s _ _ h1, Same.seqT (off_mono s) h2, h3⟩
def winWay (dr dt : D) : Option Str := match dr with
  | .int i => if withinD 0 3 (.int i) = true then (if tabOk (2 ^ (2 * i.toNat + 1)) dt = true then none else some "table") else some "radius"
  | _ => some "radius"
theorem sc_Window_init : FnScope ["self", "radius", "table"] ["self", "radius", "table"] (defScope s_Window_init) := ⟨rfl, rfl, rfl, by decide +kernel, rfl, by decide +kernel, by decide +kernel⟩
theorem SqT.offI {H : Hp} {x : Addr} {C dx : Addr} {fs : List (Str × V)} {a : Addr} {xs : List V} (hx : H x = some (.ins C dx fs)) (h : SqT K H a xs) : SqT K (SL.off H x) a xs := by
  rcases h with (h | ⟨o, h⟩) | h
  · exact .inl (.inl (by rw [off_ne fun e => by rw [e, hx] at h; cases h]; exact h))
  · exact .inl (.inr ⟨o, by rw [off_ne fun e => by rw [e, hx] at h; cases h]; exact h⟩)
  · exact .inr h
def spWin (K : PySem.W.Frag) (cB cU : Addr) : Sp := fun vs H Q E => ∃ x dx rv tv dr dt G, vs = [.ref x, rv, tv] ∧ H x = some (.ins cU dx []) ∧ Same G (SL.off H x) ∧ Dt K G rv dr ∧ Dt K G tv dt ∧ (∀ part, winWay dr dt = some part → raised cB part E G) ∧
  ∀ (r : Nat) (ts : List Int), winWay dr dt = none → dr = .int (r : Int) → itemsD dt = some (ts.map D.int) → ∀ H', Same G H' → WinAt K cU H' x r ts → Q .non H'
theorem ok_Window_init (M : MF P w K mg cR iR cN iN cB iB cU fU gU cL) (F_is_within : FnC P w K mg base CX0 2 "is_within" ["thing", "low", "high"] (spWithin K)) (F_table_of : FnC P w K mg base (L2.CX P w) 6 "_table_of" ["thing", "size"] (spTable K cB))
    (F : Fun K "__init__" "Window.__init__" s_Window_init f fd) : FnOk P w K mg base (L2.CX P w) 8 f fd ["self", "radius", "table"] (spWin K cB cU) := by
  refine F.okX sc_Window_init (fun vs H Q E h => ?_) (fun cdv A outer s H vs Q E hr h => ?_)
  · obtain ⟨x, dx, rv, tv, dr, dt, G, rfl, _⟩ := h
    rfl
  · obtain ⟨x, dx, rv, tv, dr, dt, G, rfl, hx, sG, h1, h2, e1, q⟩ := h
    refine ⟨_, (pss_cons (ps_if (pt_not (pt_val (pe_f F_is_within hr (by omega) pass0 (pa_cons (pv 1) (pa_cons pe_int (pa_cons pe_int pa_nil))))))
      (pss_one (ps_raiseEx rfl M.x_BadWindow hr (takes_of rfl rfl rfl rfl) (pa_cons pe_str pa_nil))) pss_nil)
      (pss_cons (ps_fld (pv 0) (pv 1) rfl)
      (pss_one (ps_fld (pv 0) (pe_f F_table_of hr (by omega) (passes_call (takes_of rfl rfl rfl rfl) (fun _ _ _ _ h => h)) (pa_cons (pv 2) (pa_cons (pe_op op_oneShl pe_int (pe_op op_add (pe_op op_mul pe_int (pv 1)) pe_int)) pa_nil))) rfl)))), ?_⟩
    have sG0 := sG.trans (off_same H x)
    have rz : ∀ {u : Value}, (∃ t, u = Value.str "radius" t) → ∃ (y : Str) (t : Tok), u = .str y t ∧ (reprText y).length ≤ 1000 := fun ⟨t, e⟩ => ⟨_, t, e, by decide +kernel⟩
    refine ⟨_, rfl, rv, 0, 3, _, rfl, (h1.same sG0).knw, _, rfl, ?_⟩
    rw [withinVD h1]
    have no : winWay dr dt = some ("radius" : Str) → _ := fun z => e1 "radius" z
    cases c : withinD 0 3 dr with
    | false =>
      have w : winWay dr dt = some ("radius" : Str) := by
        unfold winWay
        cases dr <;> first | rfl | (show (if _ then _ else _) = _; rw [if_neg (by rw [c]; decide)])
      exact iteT ⟨_, rfl, fun u ru => rz ru, fun d nd => no w H d sG0 nd⟩
    | true =>
      cases h1 <;> first | cases c | skip
      rename_i i
      have c' : (decide (0 ≤ i) && decide (i ≤ 3)) = true := c
      rw [Bool.and_eq_true, decide_eq_true_eq, decide_eq_true_eq] at c'
      obtain ⟨r, rfl⟩ : ∃ r : Nat, i = (r : Int) := ⟨i.toNat, by omega⟩
      have r3 : r ≤ 3 := by omega
      have way : winWay (.int (r : Int)) dt = if tabOk (2 ^ (2 * r + 1)) dt = true then none else some ("table" : Str) := by
        show (if withinD 0 3 (.int (r : Int)) = true then (if tabOk (2 ^ (2 * (r : Int).toNat + 1)) dt = true then none else some ("table" : Str)) else some ("radius" : Str)) = _
        rw [if_pos c]
        rfl
      refine iteF ⟨_, rfl, _, rfl, x, cU, dx, [], rfl, hx, M.cl_Window, M.n_radius, by simp, ?_⟩
      have hx1 : (upd H x (.ins cU dx (putF "radius" (.int (r : Int)) []))) x = some (.ins cU dx [("radius", .int (r : Int))]) := upd_same
      have o1 : Same (SL.off H x) (SL.off (upd H x (.ins cU dx (putF "radius" (.int (r : Int)) []))) x) := off_upd
      generalize upd H x (.ins cU dx (putF "radius" (.int (r : Int)) [])) = H1 at hx1 o1 ⊢
      have sG1 := sG.trans o1
      have sG1' := sG1.trans (off_same H1 x)
      refine ⟨_, rfl, _, rfl, _, _, rfl, rfl, .inl ⟨by decide, by decide⟩, _, _, rfl, rfl, 2 * r + 1, rfl, congrArg V.int (by omega), by omega, tv, dt, 2 ^ (2 * r + 1), by rw [pow_cast]; rfl, h2.same sG1', fun z H' d s' nd => ?_, fun ts ok1 i1 l1 b1 H2 a s2 q2 => ?_⟩
      · refine e1 "table" ?_ H' d (sG1'.trans s') nd
        rw [way, if_neg (by rw [z]; decide)]
      · have hx2 := s2 _ _ hx1
        refine ⟨_, rfl, x, cU, dx, _, rfl, hx2, M.cl_Window, M.n_table, by simp, ?_⟩
        have q2' := SqT.offI hx2 q2
        have o2 : Same (SL.off H1 x) (SL.off (upd H2 x (.ins cU dx (putF "table" (.ref a) [("radius", .int (r : Int))]))) x) := (off_mono s2).trans off_upd
        exact q r ts (by rw [way, if_pos ok1]) rfl i1 _ ((sG1.trans o2).trans (off_same _ x)) ⟨dx, a, upd_same, Same.seqT off_upd q2', r3, l1, b1⟩
/-! ### Window.__eq__ -/
theorem lay_ints : ∀ ns : List Int, PyData.canLayAll0 (ns.map PyData.int) = true
  | [] => rfl
  | _ :: r => by
    show (true && PyData.canLayAll0 (r.map PyData.int)) = true
    rw [lay_ints r]
    rfl
theorem depth_ints : ∀ ns : List Int, PyData.depthAll (ns.map PyData.int) = 0
  | [] => rfl
  | _ :: r => by
    show max 0 (PyData.depthAll (r.map PyData.int)) = 0
    rw [depth_ints r]
    rfl
theorem shaped_tup (ns : List Int) : SeqAt.shaped (.tuple (ns.map PyData.int)) = true := by
  unfold SeqAt.shaped
  have h1 : (PyData.tuple (ns.map PyData.int)).canLay0 = true := lay_ints ns
  have h2 : (PyData.tuple (ns.map PyData.int)).depth = 1 := by
    show PyData.depthAll (ns.map PyData.int) + 1 = 1
    rw [depth_ints]
  rw [h1, h2]
  rfl
theorem eqvAll_ints : ∀ ns ms : List Int, PyData.eqvAll (ns.map PyData.int) (ms.map PyData.int) = decide (ns = ms)
  | [], [] => rfl
  | [], _ :: _ => rfl
  | _ :: _, [] => rfl
  | a :: r, b :: t => by
    show (PyData.eqv (.int a) (.int b) && PyData.eqvAll (r.map PyData.int) (t.map PyData.int)) = _
    rw [eqvAll_ints r t]
    show ((a == b) && decide (r = t)) = _
    by_cases h : a = b
    · rw [h, beq_self_eq_true, Bool.true_and]
      exact decide_eq_decide.mpr ⟨fun z => by rw [z], fun z => (List.cons.inj z).2⟩
    · rw [beq_eq_false_iff_ne.mpr h, Bool.false_and]
      exact (decide_eq_false fun z => h (List.cons.inj z).1).symm
theorem eqv_tups (ns ms : List Int) : PyData.eqv (.tuple (ns.map PyData.int)) (.tuple (ms.map PyData.int)) = decide (ns = ms) := eqvAll_ints ns ms
theorem sc_Window_eq : FnScope ["self", "other"] ["self", "other"] (defScope s_Window_eq) := ⟨rfl, rfl, rfl, by decide +kernel, rfl, by decide +kernel, by decide +kernel⟩
def spWinEq (K : PySem.W.Frag) (cU : Addr) : Sp := fun vs H Q _ => ∃ x y r s ts us, vs = [.ref x, .ref y] ∧ WinAt K cU H x r ts ∧ WinAt K cU H y s us ∧ Q (.bl (decide (r = s) && decide (ts = us))) H
theorem ok_Window_eq (M : MF P w K mg cR iR cN iN cB iB cU fU gU cL) (F : Fun K "__eq__" "Window.__eq__" s_Window_eq f fd) : FnOk P w K mg base CX0 1 f fd ["self", "other"] (spWinEq K cU) := by
  refine F.ok sc_Window_eq (fun vs H Q E h => ?_) (fun cdv A outer s H vs Q E hr h => ?_)
  · obtain ⟨x, y, r, s, ts, us, rfl, _⟩ := h
    rfl
  · obtain ⟨x, y, r, s, ts, us, rfl, ⟨dx, a, hx, ha, _⟩, ⟨dy, b, hy, hb, _⟩, q⟩ := h
    refine ⟨_, (pss_one (ps_ret (pe_and (pe_callB (C8.call_isC M.ic_Window) (by rfl) M.m_isinstance (by decide +kernel) (pa_cons (pv 1) (pa_cons (pe_glob (v := .ref cU) rfl M.g_Window rfl) pa_nil))) (pe_and (pe_cmpR op_eq (pe_fld (pv 0) rfl) (pe_fld (pv 1) rfl) (nomark _)) (pe_one (pe_cmpR (op_eqD hr.units) (pe_fld (pv 0) rfl) (pe_fld (pv 1) rfl) (nomark _))))))), ?_⟩
    refine ⟨_, rfl, y, dy, _, rfl, hy, _, rfl, iteT ?_⟩
    refine ⟨_, rfl, x, cU, dx, _, _, rfl, hx, M.cl_Window, M.n_radius, rfl, _, rfl, y, cU, dy, _, _, rfl, hy, M.cl_Window, M.n_radius, rfl, rfl, _, rfl, ?_⟩
    by_cases c : r = s
    · rw [show decide (V.int (r : Nat) = V.int (s : Nat)) = true from decide_eq_true (by rw [c])]
      refine iteT ⟨_, rfl, x, cU, dx, _, _, rfl, hx, M.cl_Window, M.n_table, rfl, _, rfl, y, cU, dy, _, _, rfl, hy, M.cl_Window, M.n_table, rfl, .tuple (ts.map .int), .tuple (us.map .int), .tup (Same.seqT (off_same H x) ha) (DpAll.ints ts), .tup (Same.seqT (off_same H y) hb) (DpAll.ints us), shaped_tup ts, shaped_tup us, ?_⟩
      rw [eqv_tups]
      rw [decide_eq_true c, Bool.true_and] at q
      exact q
    · rw [show decide (V.int (r : Nat) = V.int (s : Nat)) = false from decide_eq_false fun z => c (by have := V.int.inj z; omega)]
      rw [decide_eq_false c, Bool.false_and] at q
      exact iteF q
/-! ### swept_inside, swept -/
theorem numOf_le (ns : List Int) : ∀ (h : bits ns) (n0 : Int) (k : Nat), 0 ≤ n0 → n0 < 2 ^ k → 0 ≤ ns.foldl (fun n c => 2 * n + c) n0 ∧ ns.foldl (fun n c => 2 * n + c) n0 < 2 ^ (k + ns.length) := by
  induction ns with
  | nil => exact fun _ n0 k h1 h2 => ⟨h1, h2⟩
  | cons c r ih =>
    intro h n0 k h1 h2
    have hc := h c (List.mem_cons_self ..)
    have hr : bits r := fun x hx => h x (List.mem_cons_of_mem _ hx)
    have p : (2 : Int) ^ (k + 1) = 2 ^ k * 2 := Int.pow_succ ..
    have := ih hr (2 * n0 + c) (k + 1) (by omega) (by omega)
    rw [List.foldl_cons, List.length_cons, show k + (r.length + 1) = k + 1 + r.length by omega]
    exact this
theorem numOf_at {ns : List Int} (h : bits ns) : 0 ≤ numOf ns ∧ numOf ns < 2 ^ ns.length := by
  have := numOf_le ns h 0 0 (by decide) (by decide)
  rw [Nat.zero_add] at this
  exact this
theorem bits_take {ns : List Int} (h : bits ns) (k : Nat) : bits (ns.take k) := fun x hx => h x (List.mem_of_mem_take hx)
theorem bits_drop {ns : List Int} (h : bits ns) (k : Nat) : bits (ns.drop k) := fun x hx => h x (List.mem_of_mem_drop hx)
theorem cut_mid {xs : List V} {i m : Nat} (h : i + m ≤ xs.length) : cutV xs (some (i : Int)) (some ((i + m : Nat) : Int)) = (xs.drop i).take m := by
  unfold cutV
  rw [show HT.sIx xs.length 0 (some (i : Int)) = min i xs.length from HT.sIx_nat _ _ i, show HT.sIx xs.length xs.length (some ((i + m : Nat) : Int)) = min (i + m) xs.length from HT.sIx_nat _ _ (i + m), Nat.min_eq_left h, Nat.min_eq_left (by omega), show i + m - i = m by omega]
def cellAt (r : Nat) (ts cs : List Int) (i : Nat) : Int := ts.getD (numOf ((cs.drop i).take (2 * r + 1))).toNat 0
def sweepOf (r : Nat) (ts cs : List Int) : List Int := (List.range (cs.length - 2 * r)).map (cellAt r ts cs)
theorem cell_get {r : Nat} {ts cs : List Int} {i : Nat} (lt : ts.length = 2 ^ (2 * r + 1)) (hb : bits cs) (hi : i < cs.length - 2 * r) : atI (ts.map V.int) (numOf ((cs.drop i).take (2 * r + 1))) = some (.int (cellAt r ts cs i)) := by
  have hl : ((cs.drop i).take (2 * r + 1)).length = 2 * r + 1 := by
    rw [List.length_take, List.length_drop]
    omega
  have hn := numOf_at (bits_take (bits_drop hb i) (2 * r + 1))
  rw [hl, ← pow_cast, ← lt] at hn
  unfold cellAt
  generalize numOf ((cs.drop i).take (2 * r + 1)) = n at hn ⊢
  obtain ⟨k, rfl⟩ : ∃ k : Nat, n = (k : Int) := ⟨n.toNat, by omega⟩
  refine atI_nat ?_
  have hk : k < ts.length := by omega
  rw [List.getElem?_map, List.getElem?_eq_getElem hk, show (k : Int).toNat = k from rfl, List.getD_eq_getElem?_getD, List.getElem?_eq_getElem hk]
  rfl
theorem cellAt_bit {r : Nat} {ts cs : List Int} {i : Nat} (hb : bits ts) : cellAt r ts cs i = 0 ∨ cellAt r ts cs i = 1 := by
  unfold cellAt
  rw [List.getD_eq_getElem?_getD]
  cases e : ts[(numOf ((cs.drop i).take (2 * r + 1))).toNat]? with
  | none => exact .inl rfl
  | some c => exact hb c (List.mem_of_getElem? e)
theorem sweep_bits {r : Nat} {ts cs : List Int} (hb : bits ts) : bits (sweepOf r ts cs) := fun c hc => by
  obtain ⟨i, _, rfl⟩ := List.mem_map.mp hc
  exact cellAt_bit hb
theorem sweep_len (r : Nat) (ts cs : List Int) : (sweepOf r ts cs).length = cs.length - 2 * r := by
  unfold sweepOf
  rw [List.length_map, List.length_range]
theorem map_range_more {α : Type} (g : Nat → α) (i : Nat) : (List.range (i + 1)).map g = (List.range i).map g ++ [g i] := by
  rw [List.range_succ, List.map_append]
  rfl
theorem sc_swept_inside : FnScope ["window", "cells", "size", "place"] ["window", "cells"] (defScope s_swept_inside) := ⟨rfl, rfl, rfl, by decide +kernel, rfl, by decide +kernel, by decide +kernel⟩
def spInside (K : PySem.W.Frag) (cU : Addr) : Sp := fun vs H Q _ => ∃ x r ts a cs, vs = [.ref x, .ref a] ∧ WinAt K cU H x r ts ∧ SqT K H a (cs.map V.int) ∧ bits cs ∧ 2 * r ≤ cs.length ∧ cs.length ≤ 1000 ∧ ∀ H' b, Same H H' → H b = none → H' b = some (.tup ((sweepOf r ts cs).map V.int)) → Q (.ref b) H'
theorem ok_swept_inside (M : MF P w K mg cR iR cN iN cB iB cU fU gU cL) (F_cell_number : FnC P w K mg base CX0 1 "cell_number" ["row"] (spCellNumber K)) (F : Fun K "swept_inside" "swept_inside" s_swept_inside f fd) : FnOk P w K mg base CX0 3 f fd ["window", "cells"] (spInside K cU) := by
  refine F.ok (k := 2) sc_swept_inside (fun vs H Q E h => ?_) (fun cdv A outer s H vs Q E hr h => ?_)
  · obtain ⟨x, r, ts, a, cs, rfl, _⟩ := h
    rfl
  · obtain ⟨x, r, ts, a, cs, rfl, hW, hS, hb, h2, hz, q⟩ := h
    obtain ⟨dx, ta, hx, hT, r3, lt, bt⟩ := hW
    refine ⟨_, (pss_cons (ps_set (i := 2) sc_swept_inside.nd rfl (Or.inr rfl) (pe_op op_add (pe_op op_mul pe_int (pe_fld (pv 0) rfl)) pe_int))
      (pss_one (ps_ret (pe_callTy call_tuple_of (by rfl) M.m_tuple (by decide +kernel) (pa_cons (pe_lc (own := [("place", 3)]) (tt := tYes) rfl sc_swept_inside.nd (pi_range1 (by rfl) M.m_range (pa_cons (pe_op op_add (pe_op op_sub (pe_callB call_len_seq (by rfl) M.m_len (by decide +kernel) (pa_cons (pv 1) pa_nil)) (pv 2)) pe_int) pa_nil)) (blkOk_by (N := ["window", "cells", "size", "place"]) (sc := defScope s_swept_inside) (by decide +kernel)) (fun _ _ _ _ _ => (pg_name (i := 3) sc_swept_inside.nd rfl (Or.inl rfl))) (fun _ _ _ _ _ => pts_nil) (fun _ _ _ _ _ => (pe_ix (ix_tupK K) (pe_fldK K (pv 0) rfl) (pe_f F_cell_number hr (by omega) pass0 (pa_cons (pe_slice (sl_tupU K) (pv 1) (po_some (pv 3)) (po_some (pe_op op_add (pv 3) (pv 2)))) pa_nil)) (fun _ _ => rfl)))) pa_nil))))), ?_⟩
    refine ⟨_, rfl, x, cU, dx, _, _, rfl, hx, M.cl_Window, M.n_radius, rfl, _, _, rfl, rfl, .inl ⟨by decide, by decide⟩, _, _, rfl, rfl, ?_⟩
    refine ⟨_, rfl, a, _, rfl, .inr hS, _, rfl, _, _, rfl, rfl, _, _, rfl, rfl, _, rfl, ?_⟩
    rw [List.length_map]
    refine ⟨by omega, by omega, fun E2 nE => ?_⟩
    rw [show ((cs.length : Int) - (2 * (r : Int) + 1) + 1).toNat = cs.length - 2 * r by omega]
    refine lc_range (fun i H' => Same H H' ∧ H' E2 = some (.lst (((List.range i).map (cellAt r ts cs)).map V.int))) ⟨same_upd nE, upd_same⟩ (fun i H' hi p => ?_) (fun H' p => ?_)
    · obtain ⟨s1, eE⟩ := p
      have cut : cutV (cs.map V.int) (some ((0 : Int) + (i : Nat))) (some ((0 : Int) + (i : Nat) + (2 * (r : Int) + 1))) = ((cs.drop i).take (2 * r + 1)).map V.int := by
        rw [Int.zero_add, show ((i : Int) + (2 * (r : Int) + 1)) = ((i + (2 * r + 1) : Nat) : Int) by omega, cut_mid (by rw [List.length_map]; omega), List.map_take, List.map_drop]
      refine ⟨rfl, lc_yes ⟨_, rfl, x, cU, dx, _, _, rfl, s1 _ _ hx, M.cl_Window, M.n_table, rfl, .ref a, rfl, _, rfl, _, rfl, _, rfl, _, rfl, _, _, rfl, rfl, _, rfl, a, _, rfl, Same.seqT s1 hS, fun c H2 s2 hc => ?_⟩⟩
      rw [cut] at hc
      refine ⟨c, _, rfl, hc, ta, _, _, _, rfl, rfl, Same.seqT (((off_same H x).trans s1).trans s2) hT, cell_get lt hb hi, _, s2 _ _ eE, ?_, ?_, ?_⟩
      · rw [List.length_map, List.length_map, List.length_range]
        exact lineN (by omega)
      · exact fun b o e => by
          rw [upd_ne (ne_of_none e nE)]
          exact s2 _ _ (s1 _ _ e)
      · rw [upd_same, map_range_more, List.map_append]
        rfl
    · obtain ⟨s1, eE⟩ := p
      refine ⟨E2, _, rfl, .inl ⟨SqL.of eE, fun b nb => ?_⟩⟩
      refine q _ b (s1.trans (same_upd nb)) (s1.free nb) ?_
      rw [upd_same]
      rfl
theorem sc_swept : FnScope ["window", "row", "light"] ["window", "row"] (defScope s_swept) := ⟨rfl, rfl, rfl, by decide +kernel, rfl, by decide +kernel, by decide +kernel⟩
def zeros (r : Nat) : List Int := List.replicate r 0
theorem zeros_bits (r : Nat) : bits (zeros r) := fun c hc => .inl (List.eq_of_mem_replicate hc)
def sweptOf (r : Nat) (ts cs : List Int) : List Int := sweepOf r ts (zeros r ++ cs ++ zeros r)
theorem swept_len (r : Nat) (ts cs : List Int) : (sweptOf r ts cs).length = cs.length := by
  unfold sweptOf zeros
  rw [sweep_len, List.length_append, List.length_append, List.length_replicate]
  omega
theorem zeros_map (r : Nat) : (List.replicate r [V.int 0]).flatten = (zeros r).map V.int := by
  unfold zeros
  induction r with
  | zero => rfl
  | succ r ih =>
    rw [List.replicate_succ, List.flatten_cons, ih, List.replicate_succ, List.map_cons]
    rfl
def spSwept (K : PySem.W.Frag) (cR cU : Addr) : Sp := fun vs H Q E => ∃ x r ts v d, vs = [.ref x, v] ∧ WinAt K cU H x r ts ∧ Dt K H v d ∧ (rowD d = false → raised cR "row" E H) ∧
  ∀ cs : List Int, d = .tup (cs.map D.int) → bits cs → cs.length ≤ 900 ∧ ∀ H' b, Same H H' → H b = none → H' b = some (.tup ((sweptOf r ts cs).map V.int)) → Q (.ref b) H'
theorem ok_swept (M : MF P w K mg cR iR cN iN cB iB cU fU gU cL) (F_check_row : FnC P w K mg base (L2.CX P w) 6 "check_row" ["thing", "part"] (spCheckRow K cR)) (F_swept_inside : FnC P w K mg base CX0 3 "swept_inside" ["window", "cells"] (spInside K cU))
    (F : Fun K "swept" "swept" s_swept f fd) : FnOk P w K mg base (L2.CX P w) 8 f fd ["window", "row"] (spSwept K cR cU) := by
  refine F.okX (k := 7) sc_swept (fun vs H Q E h => ?_) (fun cdv A outer s H vs Q E hr h => ?_)
  · obtain ⟨x, r, ts, v, d, rfl, _⟩ := h
    rfl
  · obtain ⟨x, r, ts, v, d, rfl, hW, hd, e1, q⟩ := h
    refine ⟨_, (pss_cons (ps_expr (pe_f F_check_row hr (by omega) (passes_call (takes_of rfl rfl rfl rfl) (fun _ _ _ _ h => h)) (pa_cons (pv 1) (pa_cons pe_str pa_nil))))
      (pss_cons (ps_set (i := 2) sc_swept.nd rfl (Or.inl rfl) (pe_op op_repA (pe_tup (pa_cons pe_int pa_nil)) (pe_fld (pv 0) rfl)))
      (pss_one (ps_ret (pe_f F_swept_inside hr (by omega) pass0 (pa_cons (pv 0) (pa_cons (pe_op (op_catU K) (pe_op (op_catU K) (pv 2) (pv 1)) (pv 2)) pa_nil))))))), ?_⟩
    refine ⟨_, rfl, v, d, "row", rfl, hd, by decide +kernel, fun ok H1 s1 => ?_, fun no => e1 no⟩
    cases hd <;> first | cases ok | skip
    rename_i a xs ds h k z
    obtain ⟨cs, rfl, rfl, hb⟩ := cells_ints k ok
    obtain ⟨l9, q⟩ := q cs rfl hb
    have hW1 := hW.same s1
    obtain ⟨dx, ta, hx, hT, r3, lt, bt⟩ := id hW1
    refine ⟨few (n := 1) (by decide), fun t nt => ?_⟩
    have s2 := same_upd (o := .tup [.int 0]) nt
    have et : (upd H1 t (.tup [.int 0])) t = some (.tup [.int 0]) := upd_same
    generalize upd H1 t (.tup [.int 0]) = H2 at s2 et ⊢
    refine ⟨_, rfl, x, cU, dx, _, _, rfl, s2 _ _ hx, M.cl_Window, M.n_radius, rfl, t, r, [.int 0], rfl, rfl, SqT.of et, (fun z => nomatch z), by omega, by decide, fun p H3 s3 hp => ?_⟩
    rw [zeros_map] at hp
    have s13 := s2.trans s3
    refine ⟨_, rfl, _, rfl, _, rfl, p, a, _, _, rfl, rfl, hp, Same.seqT (s1.trans s13) h, ?_, fun c H4 s4 hc => ?_⟩
    · rw [List.length_map, List.length_map]
      unfold zeros
      rw [List.length_replicate]
      omega
    refine ⟨_, rfl, c, p, _, _, rfl, rfl, hc, Same.seqT s4 hp, ?_, fun g H5 s5 hg => ?_⟩
    · rw [List.length_append, List.length_map, List.length_map]
      unfold zeros
      rw [List.length_replicate]
      omega
    rw [← List.map_append, ← List.map_append] at hg
    have s15 := (s13.trans s4).trans s5
    refine ⟨x, r, ts, g, zeros r ++ cs ++ zeros r, rfl, hW1.same s15, hg, ((zeros_bits r).app hb).app (zeros_bits r), ?_, ?_, fun H6 b s6 nb eb => ?_⟩
    · unfold zeros
      rw [List.length_append, List.length_append, List.length_replicate]
      omega
    · unfold zeros
      rw [List.length_append, List.length_append, List.length_replicate]
      omega
    · exact q H6 b ((s1.trans s15).trans s6) (s1.free (s15.free nb)) eb
end

end K33
namespace K33
open PySem PySem.Spec PyProof.Rows L2 SL
section
variable {P : Program} {w : World} {K : PySem.W.Frag} {mg : Str → Option Value} {base : Heap} {cR iR cN iN cB iB cU fU gU cL : Addr} {fdU fdG : FuncData} {f : Addr} {fd : FuncData}
/-! ### _law_hand, _law_draw, _law_row -/
/-- the pool at p, its numbers at q -/
def PoolAt (H : Hp) (p q : Addr) : Prop := ∃ (ms : List Int) (c u d e : Int), H p = some (.lst [.ref q, .int c, .int u, .int d, .int e]) ∧ H q = some (.lst (ms.map V.int)) ∧ p ≠ q ∧ 0 ≤ c ∧ 0 ≤ u ∧ 0 ≤ d ∧ 0 ≤ e ∧ e < 2147483629
theorem sc_law_hand : FnScope ["script", "seed", "number"] ["script"] (defScope s_law_hand) := ⟨rfl, rfl, rfl, by decide +kernel, rfl, by decide +kernel, by decide +kernel⟩
def spPool (K : PySem.W.Frag) : Sp := fun vs H Q _ => ∃ (a : Addr) (ns : List Int), vs = [.ref a] ∧ SqL K H a (ns.map V.int) ∧ ns.length ≤ 63 ∧ ∀ H' p q, Same H H' → H p = none → PoolAt H' p q → Q (.ref p) H'
theorem ok_law_hand (M : MF P w K mg cR iR cN iN cB iB cU fU gU cL) (F : Fun K "_law_hand" "_law_hand" s_law_hand f fd) : FnOk P w K mg base CX0 1 f fd ["script"] (spPool K) := by
  refine F.ok sc_law_hand (fun vs H Q E h => ?_) (fun cdv A outer s H vs Q E hr h => ?_)
  · obtain ⟨a, ns, rfl, _⟩ := h
    rfl
  · obtain ⟨a, ns, rfl, hS, hl, q⟩ := h
    refine ⟨_, (pss_cons (ps_set (i := 1) sc_law_hand.nd rfl (Or.inl rfl) pe_int)
      (pss_cons (ps_for PassesOwn.never rfl (pi_list (pe_slice sl_list (pv 0) po_none (po_some pe_int))) (pg_name (i := 2) sc_law_hand.nd rfl (Or.inl rfl))
      (pss_one (ps_set (i := 1) sc_law_hand.nd rfl (Or.inl rfl) (pe_op op_mod (pe_callTy call_int1 (by rfl) M.m_int (by decide +kernel) (pa_cons (pe_op op_add (pe_op op_add (pe_op op_mul (pv 1) pe_int) (pv 2)) pe_int) pa_nil)) pe_int))))
      (pss_one (ps_ret (pe_lst (pa_cons (pe_callTy call_list_of (by rfl) M.m_list (by decide +kernel) (pa_cons (pe_slice sl_list (pv 0) po_none (po_some pe_int)) pa_nil)) (pa_cons pe_int (pa_cons pe_int (pa_cons pe_int (pa_cons (pv 1) pa_nil)))))))))), ?_⟩
    have cut : cutV (ns.map V.int) none (some 63) = ns.map V.int := by
      unfold cutV
      rw [HT.sIx_none, show HT.sIx (ns.map V.int).length (ns.map V.int).length (some 63) = min 63 (ns.map V.int).length from HT.sIx_nat _ _ 63, List.drop_zero, Nat.sub_zero, List.length_map, Nat.min_eq_right hl, List.take_of_length_le (by rw [List.length_map]; exact Nat.le_refl _)]
    refine ⟨.ref a, rfl, 63, rfl, a, _, rfl, hS, fun c nc => ?_⟩
    rw [cut]
    have s1 : Same H (upd H c (.lst (ns.map V.int))) := same_upd nc
    refine ⟨c, rfl, ⟨_, SqL.of upd_same⟩, for_list (K := K) (a := c) (xs := ns.map V.int) (fun i σ H' => Same H H' ∧ H' c = some (.lst (ns.map V.int)) ∧ ∃ e v, σ = [some (.ref a), some (.int e), v] ∧ 0 ≤ e ∧ e < 2147483629) ⟨s1, upd_same, 31, none, rfl, by decide, by decide⟩ (fun i σ H' _ p => SqL.of p.2.1) ?_ ?_⟩
    · rintro i y σ H' hy ⟨s', ec, e, v, rfl, l1, l2⟩
      rw [List.getElem?_map] at hy
      cases en : ns[i]? with
      | none =>
        rw [en] at hy
        cases hy
      | some n =>
        rw [en] at hy
        cases hy
        refine ⟨_, rfl, _, _, rfl, rfl, .inr ⟨by decide, by decide⟩, _, rfl, _, _, rfl, rfl, _, _, rfl, rfl, .inl ⟨_, rfl, _, _, rfl, rfl, pos_i rfl, s', ec, _, _, rfl, Int.emod_nonneg _ (by decide), Int.emod_lt_of_pos _ (by decide)⟩⟩
    · rintro σ H' ⟨s', ec, e, v, rfl, l1, l2⟩
      have hS' := s'.seq hS
      refine ⟨.ref a, rfl, 63, rfl, a, _, rfl, hS', fun c2 nc2 => ?_⟩
      rw [cut]
      refine ⟨c2, _, rfl, .inl (SqL.of upd_same), fun l nl => ⟨_, rfl, few (n := 5) (by decide), fun p np => ?_⟩⟩
      have nlc : l ≠ c2 := fun z => by
        rw [z, upd_same] at nl
        cases nl
      have sl : Same H' (upd (upd H' c2 (.lst (ns.map V.int))) l (.lst (ns.map V.int))) := (same_upd nc2).trans (same_upd nl)
      have npl : p ≠ l := fun z => by
        rw [z, upd_same] at np
        cases np
      refine q _ p l (s'.trans (sl.trans (same_upd np))) ((s'.trans sl).free np) ⟨ns, 0, 0, 0, e, upd_same, ?_, npl, by decide, by decide, by decide, l1, l2⟩
      rw [upd_ne npl.symm, upd_same]
theorem sc_law_draw : FnScope ["hand", "many", "number", "digit", "mixed"] ["hand", "many"] (defScope s_law_draw) := ⟨rfl, rfl, rfl, by decide +kernel, rfl, by decide +kernel, by decide +kernel⟩
def spDraw : Sp := fun vs H Q _ => ∃ (p q : Addr) (m : Int), vs = [.ref p, .int m] ∧ PoolAt H p q ∧ 0 < m ∧ m < 1073741824 ∧ ∀ H' d, Same (off H p) (off H' p) → PoolAt H' p q → 0 ≤ d → d < m → Q (.int d) H'
theorem ok_law_draw (M : MF P w K mg cR iR cN iN cB iB cU fU gU cL) (F : Fun K "_law_draw" "_law_draw" s_law_draw f fd) : FnOk P w K mg base CX0 1 f fd ["hand", "many"] spDraw := by
  refine F.ok sc_law_draw (fun vs H Q E h => ?_) (fun cdv A outer s H vs Q E hr h => ?_)
  · obtain ⟨p, q, m, rfl, _⟩ := h
    rfl
  · obtain ⟨p, q, m, rfl, ⟨ms, c, u, d, e, hp, hq, npq, c0, u0, d0, e0, e1⟩, m0, m1, k⟩ := h
    refine ⟨_, (Evl.pss_cut (ps_asg (pe_op op_add (pe_ix ix_list (pv 0) pe_int (fun _ _ => rfl)) pe_int) (pg_sub (pv 0) pe_int set_list))
      (Evl.pss_cut (ps_if (PW.pt (pw_and (pt_cmpR op_eq (pe_ix ix_list (pv 0) pe_int (fun _ _ => rfl)) pe_int (nomark _)) (pw_and1 (pt_cmpR op_lt (pe_ix ix_list (pv 0) pe_int (fun _ _ => rfl)) (pe_callB call_len_seq (by rfl) M.m_len (by decide +kernel) (pa_cons (pe_ix ix_list (pv 0) pe_int (fun _ _ => rfl)) pa_nil)) (nomark _)))))
      (pss_cons (ps_set (i := 2) sc_law_draw.nd rfl (Or.inl rfl) (pe_ix ix_list (pe_ix ix_list (pv 0) pe_int (fun _ _ => rfl)) (pe_ix ix_list (pv 0) pe_int (fun _ _ => rfl)) (fun _ _ => rfl)))
      (pss_cons (ps_asg (pe_op op_add (pe_ix ix_list (pv 0) pe_int (fun _ _ => rfl)) pe_int) (pg_sub (pv 0) pe_int set_list))
      (pss_one (ps_if (pt_cmpR op_ge (pv 2) (pe_op op_pow pe_int pe_int) (nomark _))
      (pss_one (ps_asg (pv 2) (pg_sub (pv 0) pe_int set_list))) (pss_one (ps_asg (pe_op op_mod (pe_callTy call_int1 (by rfl) M.m_int (by decide +kernel) (pa_cons (pe_op op_add (pe_op op_add (pe_op op_mul (pe_ix ix_list (pv 0) pe_int (fun _ _ => rfl)) pe_int) (pe_op op_mul (pv 2) pe_int)) (pe_ix ix_list (pv 0) pe_int (fun _ _ => rfl))) pa_nil)) pe_int) (pg_sub (pv 0) pe_int set_list))))))) pss_nil)
      (pss_cons (ps_if (pt_cmpR op_gt (pe_ix ix_list (pv 0) pe_int (fun _ _ => rfl)) pe_int (nomark _))
      (pss_cons (ps_set (i := 3) sc_law_draw.nd rfl (Or.inl rfl) (pe_op op_mod (pe_callTy call_int1 (by rfl) M.m_int (by decide +kernel) (pa_cons (pe_ix ix_list (pv 0) pe_int (fun _ _ => rfl)) pa_nil)) (pv 1)))
      (pss_cons (ps_asg (pe_op op_fdiv (pe_ix ix_list (pv 0) pe_int (fun _ _ => rfl)) (pv 1)) (pg_sub (pv 0) pe_int set_list))
      (pss_one (ps_ret (pv 3))))) pss_nil)
      (Evl.pss_cut (ps_set (i := 4) sc_law_draw.nd rfl (Or.inl rfl) (pe_op op_mod (pe_callTy call_int1 (by rfl) M.m_int (by decide +kernel) (pa_cons (pe_op op_add (pe_op op_add (pe_ix ix_list (pv 0) pe_int (fun _ _ => rfl)) (pe_op op_mul (pe_ix ix_list (pv 0) pe_int (fun _ _ => rfl)) pe_int)) pe_int) pa_nil)) pe_int))
      (Evl.pss_cut (ps_set (i := 4) sc_law_draw.nd rfl (Or.inl rfl) (pe_op op_mod (pe_callTy call_int1 (by rfl) M.m_int (by decide +kernel) (pa_cons (pe_op op_mul (pv 4) (pe_op op_add (pe_op op_fdiv (pv 4) pe_int) pe_int)) pa_nil)) pe_int))
      (Evl.pss_cut (ps_set (i := 4) sc_law_draw.nd rfl (Or.inl rfl) (pe_op op_mod (pe_callTy call_int1 (by rfl) M.m_int (by decide +kernel) (pa_cons (pe_op op_mul (pv 4) (pe_op op_add (pe_op op_fdiv (pv 4) pe_int) pe_int)) pa_nil)) pe_int))
      (pss_one (ps_ret (pe_op op_mod (pe_callTy call_int1 (by rfl) M.m_int (by decide +kernel) (pa_cons (pe_op op_fdiv (pv 4) pe_int) pa_nil)) (pv 1)))))))))), ?_⟩
    -- pool[3] = pool[3] + 1
    refine ⟨fun σ H' => ∃ d', σ = [some (.ref p), some (.int m), none, none, none] ∧ H' = upd H p (.lst [.ref q, .int c, .int u, .int d', .int e]) ∧ 0 ≤ d',
      ⟨.ref p, rfl, p, _, 3, .int d, rfl, rfl, SqL.of hp, atI_nat (j := 3) rfl, _, _, rfl, rfl, .ref p, rfl, p, _, 3, 3, rfl, rfl, hp, rfl, d + 1, rfl, rfl, by omega⟩, ?_⟩
    rintro _ _ ⟨d', rfl, rfl, dd0⟩
    have h1 : (upd H p (.lst [.ref q, .int c, .int u, .int d', .int e])) p = some (.lst [.ref q, .int c, .int u, .int d', .int e]) := upd_same
    have h1q : (upd H p (.lst [.ref q, .int c, .int u, .int d', .int e])) q = some (.lst (ms.map V.int)) := by rw [upd_ne npq.symm]; exact hq
    have s1 : Same (off H p) (off (upd H p (.lst [.ref q, .int c, .int u, .int d', .int e])) p) := off_upd
    generalize upd H p (.lst [.ref q, .int c, .int u, .int d', .int e]) = H1 at h1 h1q s1 ⊢
    -- the next value of the script
    refine ⟨fun σ H' => ∃ v2 c' u' e', σ = [some (.ref p), some (.int m), v2, none, none] ∧ Same (off H p) (off H' p) ∧ H' p = some (.lst [.ref q, .int c', .int u', .int d', .int e']) ∧ H' q = some (.lst (ms.map V.int)) ∧ 0 ≤ c' ∧ 0 ≤ u' ∧ 0 ≤ e' ∧ e' < 2147483629, ?_, ?_⟩
    · refine ⟨.ref p, rfl, p, _, 2, .int u, rfl, rfl, SqL.of h1, atI_nat (j := 2) rfl, rfl, _, rfl, ite2 (fun cu => ?_) (fun cu => ite2 (fun z => nomatch z) fun _ => ⟨none, c, u, e, rfl, s1, h1, h1q, c0, u0, e0, e1⟩)⟩
      refine ⟨.ref p, rfl, p, _, 1, .int c, rfl, rfl, SqL.of h1, atI_nat (j := 1) rfl, .ref p, rfl, p, _, 0, .ref q, rfl, rfl, SqL.of h1, atI_nat (j := 0) rfl, q, _, rfl, .inl (SqL.of h1q), _, _, rfl, rfl, _, rfl, ite2 (fun cc => ?_) (fun cc => ⟨none, c, u, e, rfl, s1, h1, h1q, c0, u0, e0, e1⟩)⟩
      have cl : c < ((ms.map V.int).length : Int) := of_decide_eq_true cc
      obtain ⟨j, rfl⟩ : ∃ j : Nat, c = (j : Int) := ⟨c.toNat, by omega⟩
      have jl : j < ms.length := by
        rw [List.length_map] at cl
        omega
      have em : (ms.map V.int)[j]? = some (.int ms[j]) := by
        rw [List.getElem?_map, List.getElem?_eq_getElem jl]
        rfl
      refine ⟨.ref p, rfl, p, _, 0, .ref q, rfl, rfl, SqL.of h1, atI_nat (j := 0) rfl, .ref p, rfl, p, _, 1, .int j, rfl, rfl, SqL.of h1, atI_nat (j := 1) rfl, q, _, j, _, rfl, rfl, SqL.of h1q, atI_nat em, ?_⟩
      refine ⟨.ref p, rfl, p, _, 1, .int j, rfl, rfl, SqL.of h1, atI_nat (j := 1) rfl, _, _, rfl, rfl, .ref p, rfl, p, _, 1, 1, rfl, rfl, h1, rfl, ?_⟩
      have h2 : (upd H1 p (.lst [.ref q, .int ((j : Int) + 1), .int u, .int d', .int e])) p = some (.lst [.ref q, .int ((j : Int) + 1), .int u, .int d', .int e]) := upd_same
      have h2q : (upd H1 p (.lst [.ref q, .int ((j : Int) + 1), .int u, .int d', .int e])) q = some (.lst (ms.map V.int)) := by rw [upd_ne npq.symm]; exact h1q
      have s2 : Same (off H p) (off (upd H1 p (.lst [.ref q, .int ((j : Int) + 1), .int u, .int d', .int e])) p) := s1.trans off_upd
      refine ⟨_, rfl, _, _, rfl, rfl, ⟨by decide, by decide, by decide⟩, _, _, rfl, rfl, _, rfl, ite2 (fun cv => ?_) (fun cv => ?_)⟩
      · have v0 : (10 : Int) ^ (18 : Int).toNat ≤ ms[j] := of_decide_eq_true cv
        have p18 : (0 : Int) ≤ (10 : Int) ^ (18 : Int).toNat := by decide
        refine ⟨_, rfl, .ref p, rfl, p, _, 2, 2, rfl, rfl, h2, rfl, _, (j : Int) + 1, ms[j], e, rfl, s2.trans off_upd, upd_same, ?_, by omega, by omega, e0, e1⟩
        rw [upd_ne npq.symm]
        exact h2q
      · refine ⟨.ref p, rfl, p, _, 4, .int e, rfl, rfl, SqL.of h2, atI_nat (j := 4) rfl, _, _, rfl, rfl, .inr ⟨by decide, by decide⟩, _, rfl, _, _, rfl, rfl, .inr ⟨by decide, by decide⟩, _, _, rfl, rfl, .ref p, rfl, p, _, 3, .int d', rfl, rfl, SqL.of h2, atI_nat (j := 3) rfl, _, _, rfl, rfl, .inl ⟨_, rfl, _, _, rfl, rfl, pos_i rfl, .ref p, rfl, p, _, 4, 4, rfl, rfl, h2, rfl, _, (j : Int) + 1, u, _, rfl, s2.trans off_upd, upd_same, ?_, by omega, u0, Int.emod_nonneg _ (by decide), Int.emod_lt_of_pos _ (by decide)⟩⟩
        rw [upd_ne npq.symm]
        exact h2q
    · rintro _ H2 ⟨v2, c', u', e', rfl, s2, h2, h2q, c1, u1, ee0, ee1⟩
      refine ⟨.ref p, rfl, p, _, 2, .int u', rfl, rfl, SqL.of h2, atI_nat (j := 2) rfl, _, _, rfl, rfl, _, rfl, ite2 (fun cu => ?_) (fun cu => ?_)⟩
      · refine ⟨.ref p, rfl, p, _, 2, .int u', rfl, rfl, SqL.of h2, atI_nat (j := 2) rfl, .inl ⟨_, rfl, _, rfl, _, _, rfl, rfl, m0, ?_⟩⟩
        refine ⟨.ref p, rfl, p, _, 2, .int u', rfl, rfl, SqL.of h2, atI_nat (j := 2) rfl, _, rfl, _, _, rfl, rfl, ⟨m0, m1⟩, .ref p, rfl, p, _, 2, 2, rfl, rfl, h2, rfl, ?_⟩
        refine ⟨_, rfl, k _ _ (s2.trans off_upd) ⟨ms, c', u' / m, d', e', upd_same, ?_, npq, c1, Int.ediv_nonneg u1 (by omega), dd0, ee0, ee1⟩ (Int.emod_nonneg _ (by omega)) (Int.emod_lt_of_pos _ m0)⟩
        rw [upd_ne npq.symm]
        exact h2q
      · refine ⟨fun σ H' => ∃ x, σ = [some (.ref p), some (.int m), v2, none, some (.int x)] ∧ H2 = H' ∧ 0 ≤ x ∧ x < 2147483647, ?_, ?_⟩
        · refine ⟨.ref p, rfl, p, _, 4, .int e', rfl, rfl, SqL.of h2, atI_nat (j := 4) rfl, .ref p, rfl, p, _, 3, .int d', rfl, rfl, SqL.of h2, atI_nat (j := 3) rfl, _, _, rfl, rfl, .inr ⟨by decide, by decide⟩, _, _, rfl, rfl, _, _, rfl, rfl, .inl ⟨_, rfl, _, _, rfl, rfl, pos_i rfl, ?_⟩⟩
          exact ⟨_, rfl, rfl, Int.emod_nonneg _ (by decide), Int.emod_lt_of_pos _ (by decide)⟩
        rintro _ _ ⟨x, rfl, rfl, x0, x1⟩
        refine ⟨fun σ H' => ∃ x, σ = [some (.ref p), some (.int m), v2, none, some (.int x)] ∧ H2 = H' ∧ 0 ≤ x ∧ x < 2147483647, ?_, ?_⟩
        · refine ⟨.int x, rfl, .int x, rfl, _, _, rfl, rfl, ⟨by decide, by decide⟩, _, _, rfl, rfl, _, _, rfl, rfl, .inl ⟨by omega, by omega⟩, .inl ⟨_, rfl, _, _, rfl, rfl, pos_i rfl, ?_⟩⟩
          exact ⟨_, rfl, rfl, Int.emod_nonneg _ (by decide), Int.emod_lt_of_pos _ (by decide)⟩
        rintro _ _ ⟨y, rfl, rfl, y0, y1⟩
        refine ⟨fun σ H' => ∃ x, σ = [some (.ref p), some (.int m), v2, none, some (.int x)] ∧ H2 = H', ?_, ?_⟩
        · exact ⟨.int y, rfl, .int y, rfl, _, _, rfl, rfl, ⟨by decide, by decide⟩, _, _, rfl, rfl, _, _, rfl, rfl, .inl ⟨by omega, by omega⟩, .inl ⟨_, rfl, _, _, rfl, rfl, pos_i rfl, _, rfl, rfl⟩⟩
        rintro _ _ ⟨z, rfl, rfl⟩
        refine ⟨.int z, rfl, _, _, rfl, rfl, ⟨by decide, by decide⟩, .inl ⟨_, rfl, _, rfl, _, _, rfl, rfl, m0, ?_⟩⟩
        exact k _ _ s2 ⟨ms, c', u', d', e', h2, h2q, npq, c1, u1, dd0, ee0, ee1⟩ (Int.emod_nonneg _ (by omega)) (Int.emod_lt_of_pos _ m0)
theorem PoolAt.same {H H' : Hp} {p q : Addr} (s : Same H H') (h : PoolAt H p q) : PoolAt H' p q := by
  obtain ⟨ms, c, u, d, e, h1, h2, r⟩ := h
  exact ⟨ms, c, u, d, e, s _ _ h1, s _ _ h2, r⟩
theorem PoolAt.put {H : Hp} {p q b : Addr} {o : HO} (hp : b ≠ p) (hq : b ≠ q) (h : PoolAt H p q) : PoolAt (upd H b o) p q := by
  obtain ⟨ms, c, u, d, e, h1, h2, r⟩ := h
  exact ⟨ms, c, u, d, e, by rw [upd_ne hp.symm]; exact h1, by rw [upd_ne hq.symm]; exact h2, r⟩
theorem PoolAt.at_p {H : Hp} {p q : Addr} (h : PoolAt H p q) {b : Addr} (n : H b = none) : b ≠ p ∧ b ≠ q := by
  obtain ⟨ms, c, u, d, e, h1, h2, r⟩ := h
  exact ⟨(ne_of_none h1 n).symm, (ne_of_none h2 n).symm⟩
theorem off_put2 {H H' : Hp} {p b : Addr} {o : HO} (s : Same (off H p) (off H' p)) (n : H b = none) : Same (off H p) (off (upd H' b o) p) := fun x u e => by
  have z := s x u e
  by_cases hx : x = p
  · rw [hx, off_at] at e
    cases e
  · rw [off_ne hx] at e z ⊢
    rw [upd_ne (ne_of_none e n)]
    exact z
theorem sc_law_row : FnScope ["hand", "length", "at"] ["hand", "length"] (defScope s_law_row) := ⟨rfl, rfl, rfl, by decide +kernel, rfl, by decide +kernel, by decide +kernel⟩
def spLRow : Sp := fun vs H Q _ => ∃ (p q : Addr) (n : Nat), vs = [.ref p, .int (n : Int)] ∧ PoolAt H p q ∧ n ≤ 100000 ∧ ∀ H' r ns, Same (off H p) (off H' p) → PoolAt H' p q → H r = none → H' r = some (.tup (ns.map V.int)) → ns.length = n → bits ns → Q (.ref r) H'
theorem ok_law_row (M : MF P w K mg cR iR cN iN cB iB cU fU gU cL) (F_law_draw : FnC P w K mg base CX0 1 "_law_draw" ["hand", "many"] spDraw) (F : Fun K "_law_row" "_law_row" s_law_row f fd) : FnOk P w K mg base CX0 3 f fd ["hand", "length"] spLRow := by
  refine F.ok sc_law_row (fun vs H Q E h => ?_) (fun cdv A outer s H vs Q E hr h => ?_)
  · obtain ⟨p, q, n, rfl, _⟩ := h
    rfl
  · obtain ⟨p, q, n, rfl, hP, hn, k⟩ := h
    refine ⟨_, (pss_one (ps_ret (pe_callTy call_tuple_of (by rfl) M.m_tuple (by decide +kernel) (pa_cons (pe_lc (own := [("at", 2)]) (tt := tYes) rfl sc_law_row.nd (pi_range1 (by rfl) M.m_range (pa_cons (pv 1) pa_nil)) (blkOk_by (N := ["hand", "length", "at"]) (sc := defScope s_law_row) (by decide +kernel)) (fun _ _ _ _ _ => (pg_name (i := 2) sc_law_row.nd rfl (Or.inl rfl))) (fun _ _ _ _ _ => pts_nil) (fun _ _ _ _ _ => (pe_f F_law_draw hr (by omega) pass0 (pa_cons (pv 0) (pa_cons pe_int pa_nil))))) pa_nil)))), ?_⟩
    refine ⟨_, rfl, (n : Int), rfl, by omega, by omega, fun D nD => ?_⟩
    obtain ⟨nDp, nDq⟩ := hP.at_p nD
    refine lc_range (lo := 0) (n := n) (fun i H' => Same (off H p) (off H' p) ∧ PoolAt H' p q ∧ ∃ ns : List Int, H' D = some (.lst (ns.map V.int)) ∧ ns.length = i ∧ bits ns) ⟨off_mono (same_upd nD), hP.same (same_upd nD), [], upd_same, rfl, fun _ z => nomatch z⟩ (fun i H' hi z => ?_) (fun H' z => ?_)
    · obtain ⟨s1, hP1, ns, eD, ln, hb⟩ := z
      refine ⟨rfl, lc_yes ⟨_, rfl, p, q, 2, rfl, hP1, by decide, by decide, fun H3 d s3 hP3 d0 d1 => ⟨ns.map V.int, ?_, ?_, ?_, hP3.put nDp nDq, ns ++ [d], ?_, ?_, ?_⟩⟩⟩
      · have z := s3 D _ (by rw [off_ne nDp]; exact eD)
        rw [off_ne nDp] at z
        exact z
      · rw [List.length_map]
        exact lineN (by omega)
      · exact off_put2 (s1.trans s3) nD
      · rw [upd_same, List.map_append]
        rfl
      · rw [List.length_append, ln]
        rfl
      · intro c hc
        rcases List.mem_append.mp hc with hc | hc
        · exact hb c hc
        · rw [List.mem_singleton] at hc
          omega
    · obtain ⟨s1, hP1, ns, eD, ln, hb⟩ := z
      refine ⟨D, _, rfl, .inl ⟨SqL.of eD, fun r nr => ?_⟩⟩
      obtain ⟨nrp, nrq⟩ := hP1.at_p nr
      have nrH : H r = none := by
        cases e : H r with
        | none => rfl
        | some o =>
          have z := s1 r o (by rw [off_ne nrp]; exact e)
          rw [off_ne nrp, nr] at z
          cases z
      exact k _ r ns (off_put2 s1 nrH) (hP1.put nrp nrq) nrH upd_same ln hb
/-! ### lists of rows -/
inductive RowsI (K : PySem.W.Frag) (H : Hp) : List V → List (List Int) → Prop
  | nil : RowsI K H [] []
  | cons {a : Addr} {r : List Int} {vs : List V} {rs : List (List Int)} (h : SqT K H a (r.map V.int)) (t : RowsI K H vs rs) : RowsI K H (.ref a :: vs) (r :: rs)
theorem RowsI.same {H H' : Hp} (s : Same H H') : ∀ {vs : List V} {rs : List (List Int)}, RowsI K H vs rs → RowsI K H' vs rs
  | _, _, .nil => .nil
  | _, _, .cons h t => .cons (Same.seqT s h) (RowsI.same s t)
theorem RowsI.length {H : Hp} : ∀ {vs : List V} {rs : List (List Int)}, RowsI K H vs rs → vs.length = rs.length
  | _, _, .nil => rfl
  | _, _, .cons _ t => congrArg (· + 1) (RowsI.length t)
theorem RowsI.get {H : Hp} : ∀ {vs : List V} {rs : List (List Int)} {i : Nat} {v : V}, RowsI K H vs rs → vs[i]? = some v → ∃ a r, v = .ref a ∧ rs[i]? = some r ∧ SqT K H a (r.map V.int)
  | _, _, _, _, .nil, e => by simp at e
  | _, _, 0, _, .cons h _, e => by
    simp at e
    subst e
    exact ⟨_, _, rfl, rfl, h⟩
  | _, _, i + 1, _, .cons _ t, e => by
    obtain ⟨a, r, h1, h2, h3⟩ := RowsI.get (i := i) t (by simpa using e)
    exact ⟨a, r, h1, by simpa using h2, h3⟩
theorem RowsI.append {H : Hp} {ws : List V} {ss : List (List Int)} (b : RowsI K H ws ss) : ∀ {vs : List V} {rs : List (List Int)}, RowsI K H vs rs → RowsI K H (vs ++ ws) (rs ++ ss)
  | _, _, .nil => b
  | _, _, .cons h t => .cons h (RowsI.append b t)
theorem RowsI.snoc {H : Hp} {a : Addr} {r : List Int} (h : SqT K H a (r.map V.int)) {vs : List V} {rs : List (List Int)} (t : RowsI K H vs rs) : RowsI K H (vs ++ [.ref a]) (rs ++ [r]) := RowsI.append (.cons h .nil) t
theorem RowsI.mem {H : Hp} : ∀ {vs : List V} {rs : List (List Int)} {v : V}, RowsI K H vs rs → v ∈ vs → ∃ r ∈ rs, TupI K H v r
  | _, _, _, .nil, e => nomatch e
  | _, _, _, .cons h t, e => by
    rcases List.mem_cons.mp e with rfl | e
    · exact ⟨_, List.mem_cons_self .., _, rfl, h⟩
    · obtain ⟨r, hr, q⟩ := RowsI.mem t e
      exact ⟨r, List.mem_cons_of_mem _ hr, q⟩
theorem RowsI.perm {H : Hp} {ys xs : List V} (p : ys.Perm xs) : ∀ {rs : List (List Int)}, RowsI K H xs rs → ∃ rs', rs'.Perm rs ∧ RowsI K H ys rs' := by
  induction p with
  | nil => exact fun h => ⟨_, List.Perm.refl _, h⟩
  | cons x p ih =>
    intro rs h
    cases h with
    | cons h t =>
      obtain ⟨rs', p', t'⟩ := ih t
      exact ⟨_, p'.cons _, .cons h t'⟩
  | swap x y l =>
    intro rs h
    cases h with
    | cons h t =>
      cases t with
      | cons h2 t => exact ⟨_, List.Perm.swap .., .cons h2 (.cons h t)⟩
  | trans p1 p2 i1 i2 =>
    intro rs h
    obtain ⟨r1, q1, t1⟩ := i2 h
    obtain ⟨r2, q2, t2⟩ := i1 t1
    exact ⟨r2, q2.trans q1, t2⟩
theorem RowsI.pw {H : Hp} {B : Int} : ∀ {ys : List V} {rs : List (List Int)}, RowsI K H ys rs → ys.Pairwise (fun x y => ∀ n m, TupI K H x n → TupI K H y m → TS.code B n ≤ TS.code B m) → rs.Pairwise (fun n m => TS.code B n ≤ TS.code B m)
  | _, _, .nil, _ => .nil
  | _, _, .cons (rs := rs) h t, p => by
    have p' := List.pairwise_cons.mp p
    refine List.pairwise_cons.mpr ⟨fun r hr => ?_, RowsI.pw t p'.2⟩
    obtain ⟨i, hi, e⟩ := List.mem_iff_getElem.mp hr
    have lt := RowsI.length t
    obtain ⟨a, r2, e1, e2, e3⟩ := RowsI.get (i := i) t (List.getElem?_eq_getElem (by omega))
    rw [List.getElem?_eq_getElem hi, e] at e2
    cases e2
    exact p'.1 _ (List.getElem_mem (by omega)) _ _ ⟨_, rfl, h⟩ ⟨_, e1, e3⟩
theorem SqT.offL {H : Hp} {x : Addr} {us : List V} {a : Addr} {xs : List V} (hx : H x = some (.lst us)) (h : SqT K H a xs) : SqT K (SL.off H x) a xs := by
  rcases h with (h | ⟨o, h⟩) | h
  · exact .inl (.inl (by rw [off_ne fun e => by rw [e, hx] at h; cases h]; exact h))
  · exact .inl (.inr ⟨o, by rw [off_ne fun e => by rw [e, hx] at h; cases h]; exact h⟩)
  · exact .inr h
def genRows : Nat → List (List Int)
  | 0 => [[]]
  | n + 1 => (genRows n).map (· ++ [0]) ++ (genRows n).map (· ++ [1])
theorem gen_len : ∀ n, (genRows n).length = 2 ^ n
  | 0 => rfl
  | n + 1 => by
    show ((genRows n).map (· ++ [0]) ++ (genRows n).map (· ++ [1])).length = _
    rw [List.length_append, List.length_map, List.length_map, gen_len n, Nat.pow_succ]
    omega
theorem gen_row : ∀ {n : Nat} {r : List Int}, r ∈ genRows n → r.length = n ∧ bits r
  | 0, r, h => by
    rw [List.mem_singleton.mp h]
    exact ⟨rfl, bits.nil⟩
  | n + 1, r, h => by
    rcases List.mem_append.mp h with h | h
    · obtain ⟨s, hs, rfl⟩ := List.mem_map.mp h
      obtain ⟨l, b⟩ := gen_row hs
      exact ⟨by rw [List.length_append, l]; rfl, b.app (bits.cons (.inl rfl) bits.nil)⟩
    · obtain ⟨s, hs, rfl⟩ := List.mem_map.mp h
      obtain ⟨l, b⟩ := gen_row hs
      exact ⟨by rw [List.length_append, l]; rfl, b.app (bits.cons (.inr rfl) bits.nil)⟩
theorem pow_small {n : Nat} (h : n ≤ 13) : 2 ^ n ≤ 8192 := Nat.le_trans (Nat.pow_le_pow_right (by decide) h) (by decide)
inductive RowsX (H : Hp) : List V → List (List Int) → Prop
  | nil : RowsX H [] []
  | cons {a : Addr} {r : List Int} {vs : List V} {rs : List (List Int)} (h : H a = some (.tup (r.map V.int))) (t : RowsX H vs rs) : RowsX H (.ref a :: vs) (r :: rs)
theorem RowsX.toI {H : Hp} : ∀ {vs : List V} {rs : List (List Int)}, RowsX H vs rs → RowsI K H vs rs
  | _, _, .nil => .nil
  | _, _, .cons h t => .cons (SqT.of h) (RowsX.toI t)
theorem RowsX.same {H H' : Hp} (s : Same H H') : ∀ {vs : List V} {rs : List (List Int)}, RowsX H vs rs → RowsX H' vs rs
  | _, _, .nil => .nil
  | _, _, .cons h t => .cons (s _ _ h) (RowsX.same s t)
theorem RowsX.length {H : Hp} : ∀ {vs : List V} {rs : List (List Int)}, RowsX H vs rs → vs.length = rs.length
  | _, _, .nil => rfl
  | _, _, .cons _ t => congrArg (· + 1) (RowsX.length t)
theorem RowsX.get {H : Hp} : ∀ {vs : List V} {rs : List (List Int)} {i : Nat} {v : V}, RowsX H vs rs → vs[i]? = some v → ∃ a r, v = .ref a ∧ rs[i]? = some r ∧ H a = some (.tup (r.map V.int))
  | _, _, _, _, .nil, e => by simp at e
  | _, _, 0, _, .cons h _, e => by
    simp at e
    subst e
    exact ⟨_, _, rfl, rfl, h⟩
  | _, _, i + 1, _, .cons _ t, e => by
    obtain ⟨a, r, h1, h2, h3⟩ := RowsX.get (i := i) t (by simpa using e)
    exact ⟨a, r, h1, by simpa using h2, h3⟩
theorem RowsX.append {H : Hp} {ws : List V} {ss : List (List Int)} (b : RowsX H ws ss) : ∀ {vs : List V} {rs : List (List Int)}, RowsX H vs rs → RowsX H (vs ++ ws) (rs ++ ss)
  | _, _, .nil => b
  | _, _, .cons h t => .cons h (RowsX.append b t)
theorem RowsX.snoc {H : Hp} {a : Addr} {r : List Int} (h : H a = some (.tup (r.map V.int))) {vs : List V} {rs : List (List Int)} (t : RowsX H vs rs) : RowsX H (vs ++ [.ref a]) (rs ++ [r]) := RowsX.append (.cons h .nil) t
theorem tup_off {H : Hp} {D c : Addr} {us xs : List V} (eD : H D = some (.lst us)) (h : H c = some (.tup xs)) : SL.off H D c = some (.tup xs) := by
  have n : c ≠ D := fun z => by
    rw [z, eD] at h
    cases h
  rw [off_ne n]
  exact h
theorem RowsX.offL {H : Hp} {D : Addr} {us : List V} (e : H D = some (.lst us)) : ∀ {vs : List V} {rs : List (List Int)}, RowsX H vs rs → RowsX (SL.off H D) vs rs
  | _, _, .nil => .nil
  | _, _, .cons h t => .cons (tup_off e h) (RowsX.offL e t)
theorem RowsX.perm {H : Hp} {ys xs : List V} (p : ys.Perm xs) : ∀ {rs : List (List Int)}, RowsX H xs rs → ∃ rs', rs'.Perm rs ∧ RowsX H ys rs' := by
  induction p with
  | nil => exact fun h => ⟨_, List.Perm.refl _, h⟩
  | cons x p ih =>
    intro rs h
    cases h with
    | cons h t =>
      obtain ⟨rs', p', t'⟩ := ih t
      exact ⟨_, p'.cons _, .cons h t'⟩
  | swap x y l =>
    intro rs h
    cases h with
    | cons h t =>
      cases t with
      | cons h2 t => exact ⟨_, List.Perm.swap .., .cons h2 (.cons h t)⟩
  | trans p1 p2 i1 i2 =>
    intro rs h
    obtain ⟨r1, q1, t1⟩ := i2 h
    obtain ⟨r2, q2, t2⟩ := i1 t1
    exact ⟨r2, q2.trans q1, t2⟩
theorem sc_law_rows : FnScope ["length", "rows", "at", "row"] ["length"] (defScope s_law_rows) := ⟨rfl, rfl, rfl, by decide +kernel, rfl, by decide +kernel, by decide +kernel⟩
def spRowsX : Sp := fun vs H Q _ => ∃ n : Nat, vs = [.int (n : Int)] ∧ n ≤ 12 ∧ ∀ H' l ws rs, Same H H' → H l = none → H' l = some (.lst ws) → RowsX H' ws rs → rs.Perm (genRows n) → rs.Pairwise (fun n m => TS.code 2 n ≤ TS.code 2 m) → Q (.ref l) H'
theorem ok_law_rows (M : MF P w K mg cR iR cN iN cB iB cU fU gU cL) (F : Fun K "_law_rows" "_law_rows" s_law_rows f fd) : FnOk P w K mg base CX0 1 f fd ["length"] spRowsX := by
  refine F.ok sc_law_rows (fun vs H Q E h => ?_) (fun cdv A outer s H vs Q E hr h => ?_)
  · obtain ⟨n, rfl, _⟩ := h
    rfl
  · obtain ⟨n, rfl, hn, q⟩ := h
    refine ⟨_, (pss_cons (ps_set (i := 1) sc_law_rows.nd rfl (Or.inl rfl) (pe_lst (pa_cons (pe_tup pa_nil) pa_nil)))
      (pss_cons (ps_for PassesOwn.never rfl (pi_range1 (by rfl) M.m_range (pa_cons (pv 0) pa_nil)) (pg_name (i := 2) sc_law_rows.nd rfl (Or.inl rfl))
      (pss_one (ps_set (i := 1) sc_law_rows.nd rfl (Or.inl rfl) (pe_op op_cat (pe_lc (own := [("row", 3)]) (tt := tYes) rfl sc_law_rows.nd (pi_list (pv 1)) (blkOk_by (N := ["length", "rows", "at", "row"]) (sc := defScope s_law_rows) (by decide +kernel)) (fun _ _ _ _ _ => (pg_name (i := 3) sc_law_rows.nd rfl (Or.inl rfl))) (fun _ _ _ _ _ => pts_nil) (fun _ _ _ _ _ => (pe_op (op_catX K) (pv 3) (pe_tup (pa_cons pe_int pa_nil))))) (pe_lc (own := [("row", 3)]) (tt := tYes) rfl sc_law_rows.nd (pi_list (pv 1)) (blkOk_by (N := ["length", "rows", "at", "row"]) (sc := defScope s_law_rows) (by decide +kernel)) (fun _ _ _ _ _ => (pg_name (i := 3) sc_law_rows.nd rfl (Or.inl rfl))) (fun _ _ _ _ _ => pts_nil) (fun _ _ _ _ _ => (pe_op (op_catX K) (pv 3) (pe_tup (pa_cons pe_int pa_nil)))))))))
      (pss_one (ps_ret (pe_callB cr_sortTA (by rfl) M.m_sorted (by decide +kernel) (pa_cons (pv 1) pa_nil)))))), ?_⟩
    refine ⟨few (n := 0) (by decide), fun t0 n0 => ⟨few (n := 1) (by decide), fun l0 nl0 => ?_⟩⟩
    have s0 := (same_upd (o := .tup []) n0).trans (same_upd (o := .lst [.ref t0]) nl0)
    refine ⟨_, rfl, (n : Int), rfl, by omega, by omega, for_range (lo := 0) (n := n) (fun i σ H' => ∃ l ws v, σ = [some (.int (n : Int)), some (.ref l), v, none] ∧ Same H H' ∧ H' l = some (.lst ws) ∧ RowsX H' ws (genRows i)) ⟨l0, _, none, rfl, s0, upd_same, ?_⟩ ?_ ?_⟩
    · exact .cons (r := []) ((same_upd nl0) _ _ upd_same) .nil
    · rintro i _ H1 hi ⟨l, ws, v, rfl, s1, el, hR⟩
      have lw : ws.length = 2 ^ i := by rw [RowsX.length hR, gen_len]
      have pi : 2 ^ i ≤ 8192 := pow_small (by omega)
      have one : ∀ (c : Int) (G : Hp), Same H1 G → ∀ (D : Addr), G D = none → True := fun _ _ _ _ _ => trivial
      refine ⟨_, rfl, l, rfl, ⟨_, SqL.of el⟩, fun D nD => ?_⟩
      refine lc_list (K := K) (a := l) (xs := ws) (fun j H' => Same H1 H' ∧ ∃ us, H' D = some (.lst us) ∧ us.length = j ∧ RowsX (SL.off H' D) us (((genRows i).take j).map (· ++ [0]))) ⟨same_upd nD, [], upd_same, rfl, .nil⟩ (fun j H' _ p => SqL.of (p.1 _ _ el)) (fun j y H' hy p => ?_) (fun H' p => ?_)
      · obtain ⟨s2, us, eD, lu, hU⟩ := p
        obtain ⟨b, r, rfl, er, hb⟩ := RowsX.get hR hy
        have lr := (gen_row (List.mem_of_getElem? er)).1
        refine ⟨rfl, lc_yes ⟨_, rfl, few (n := 1) (by decide), fun t nt => ?_⟩⟩
        have s3 := same_upd (o := .tup [.int 0]) nt
        refine ⟨b, t, _, [.int 0], rfl, rfl, (s2.trans s3) _ _ hb, upd_same, ?_, fun c H3 s4 hc => ?_⟩
        · rw [List.length_map, lr]
          show i + 1 ≤ 100000
          omega
        have s34 := s3.trans s4
        refine ⟨us, s34 _ _ eD, lineN ?_, ?_, us ++ [.ref c], upd_same, ?_, ?_⟩
        · have := (List.getElem?_eq_some_iff.mp hy).1
          omega
        · exact fun b o e => by
            rw [upd_ne (ne_of_none e nD)]
            exact s34 _ _ (s2 _ _ e)
        · rw [List.length_append, lu]
          rfl
        · rw [take_more er, List.map_append]
          refine RowsX.snoc (r := r ++ [0]) ?_ (hU.same ((off_mono s34).trans off_upd))
          rw [List.map_append]
          exact off_upd _ _ (tup_off (s34 _ _ eD) hc)
      obtain ⟨s2, us1, eD1, lu1, hU1⟩ := p
      rw [lw, List.take_of_length_le (by rw [gen_len]; exact Nat.le_refl _)] at hU1
      have el2 := s2 _ _ el
      have hR2 := hR.same s2
      have hV1 := hU1.same (off_same H' D)
      clear hU1
      have lu1' : us1.length = 2 ^ i := by rw [lu1, lw]
      clear lu1
      generalize hg : H' = H2 at s2 eD1 el2 hR2 hV1 ⊢
      clear hg H'
      refine ⟨_, rfl, l, rfl, ⟨_, SqL.of el2⟩, fun D2 nD2 => ?_⟩
      refine lc_list (K := K) (a := l) (xs := ws) (fun j H' => Same H2 H' ∧ ∃ us, H' D2 = some (.lst us) ∧ us.length = j ∧ RowsX (SL.off H' D2) us (((genRows i).take j).map (· ++ [1]))) ⟨same_upd nD2, [], upd_same, rfl, .nil⟩ (fun j H' _ p => SqL.of (p.1 _ _ el2)) (fun j y H' hy p => ?_) (fun H' p => ?_)
      · obtain ⟨s2, us, eD, lu, hU⟩ := p
        obtain ⟨b, r, rfl, er, hb⟩ := RowsX.get hR2 hy
        have lr := (gen_row (List.mem_of_getElem? er)).1
        refine ⟨rfl, lc_yes ⟨_, rfl, few (n := 1) (by decide), fun t nt => ?_⟩⟩
        have s3 := same_upd (o := .tup [.int 1]) nt
        refine ⟨b, t, _, [.int 1], rfl, rfl, (s2.trans s3) _ _ hb, upd_same, ?_, fun c H3 s4 hc => ?_⟩
        · rw [List.length_map, lr]
          show i + 1 ≤ 100000
          omega
        have s34 := s3.trans s4
        refine ⟨us, s34 _ _ eD, lineN ?_, ?_, us ++ [.ref c], upd_same, ?_, ?_⟩
        · have := (List.getElem?_eq_some_iff.mp hy).1
          omega
        · exact fun b o e => by
            rw [upd_ne (ne_of_none e nD2)]
            exact s34 _ _ (s2 _ _ e)
        · rw [List.length_append, lu]
          rfl
        · rw [take_more er, List.map_append]
          refine RowsX.snoc (r := r ++ [1]) ?_ (hU.same ((off_mono s34).trans off_upd))
          rw [List.map_append]
          exact off_upd _ _ (tup_off (s34 _ _ eD) hc)
      obtain ⟨s3, us2, eD2, lu2, hU2⟩ := p
      rw [lw, List.take_of_length_le (by rw [gen_len]; exact Nat.le_refl _)] at hU2
      have hV2 := hU2.same (off_same H' D2)
      refine ⟨D, D2, us1, us2, rfl, rfl, s3 _ _ eD1, eD2, ?_, fun p np => ?_⟩
      · rw [lu1', lu2, lw]
        exact Nat.le_of_lt (lineN (by omega))
      have s4 := same_upd (o := .lst (us1 ++ us2)) np
      exact ⟨p, us1 ++ us2, some (.int (0 + (i : Nat))), rfl, ((s1.trans s2).trans s3).trans s4, upd_same, RowsX.append (hV2.same s4) (hV1.same (s3.trans s4))⟩
    · rintro _ H1 ⟨l, ws, v, rfl, s1, el, hR⟩
      have hm : ∀ x ∈ ws, ∃ ns, TupI K H1 x ns ∧ ns.length = n ∧ TS.Bd 2 ns := fun x hx => by
        obtain ⟨r, hr, t⟩ := RowsI.mem (RowsX.toI (K := K) hR) hx
        obtain ⟨l1, b1⟩ := gen_row hr
        exact ⟨r, t, l1, fun c hc => by rcases b1 c hc with rfl | rfl <;> decide⟩
      refine ⟨_, rfl, l, ws, n, 2, rfl, SqL.of el, fun h2 => ?_, hm, fun ys p pm pw np => ?_⟩
      · rw [RowsX.length hR, gen_len] at h2
        cases n with
        | zero => exact absurd h2 (by decide)
        | succ n => omega
      · obtain ⟨rs, pr, hR'⟩ := RowsX.perm pm hR
        exact q _ p ys rs (s1.trans (same_upd np)) (s1.free np) upd_same (hR'.same (same_upd np)) pr (RowsI.pw (RowsX.toI (K := K) hR') pw)
def spRows (K : PySem.W.Frag) : Sp := fun vs H Q _ => ∃ n : Nat, vs = [.int (n : Int)] ∧ n ≤ 12 ∧ ∀ H' l ws rs, Same H H' → H l = none → H' l = some (.lst ws) → RowsI K H' ws rs → rs.Perm (genRows n) → rs.Pairwise (fun n m => TS.code 2 n ≤ TS.code 2 m) → Q (.ref l) H'
theorem rows_weak (c : FnC P w K mg base CX0 1 "_law_rows" ["length"] spRowsX) : FnC P w K mg base CX0 1 "_law_rows" ["length"] (spRows K) := by
  obtain ⟨f, fd, F, a, b, d⟩ := c.ex
  refine ⟨f, fd, F.imp fun vs H Q E h => ?_, a, b, d⟩
  obtain ⟨n, e, hn, q⟩ := h
  exact ⟨n, e, hn, fun H' l ws rs s nl el hR pm pw => q H' l ws rs s nl el hR.toI pm pw⟩
theorem sc_law_number : FnScope ["row", "number", "item"] ["row"] (defScope s_law_number) := ⟨rfl, rfl, rfl, by decide +kernel, rfl, by decide +kernel, by decide +kernel⟩
def spNumber (K : PySem.W.Frag) : Sp := fun vs H Q _ => ∃ a ns, vs = [.ref a] ∧ SqT K H a (ns.map V.int) ∧ Q (.int (numOf ns)) H
theorem ok_law_number (F : Fun K "_law_number" "_law_number" s_law_number f fd) : FnOk P w K mg base CX0 1 f fd ["row"] (spNumber K) := by
  refine F.ok sc_law_number (fun vs H Q E h => ?_) (fun cdv A outer s H vs Q E hr h => ?_)
  · obtain ⟨a, ns, rfl, _⟩ := h
    rfl
  · obtain ⟨a, ns, rfl, hS, q⟩ := h
    refine ⟨_, (pss_cons (ps_set (i := 1) sc_law_number.nd rfl (Or.inl rfl) pe_int)
      (pss_cons (ps_for PassesOwn.never rfl (pi_tup (pv 0)) (pg_name (i := 2) sc_law_number.nd rfl (Or.inl rfl))
      (pss_one (ps_set (i := 1) sc_law_number.nd rfl (Or.inl rfl) (pe_op op_add (pe_op op_mul pe_int (pv 1)) (pv 2)))))
      (pss_one (ps_ret (pv 1))))), ?_⟩
    refine ⟨_, rfl, a, rfl, ⟨_, hS⟩, for_tup (K := K) (a := a) (xs := ns.map V.int) (fun i σ H' => H' = H ∧ ∃ v, σ = [some (.ref a), some (.int (numOf (ns.take i))), v]) ⟨rfl, none, rfl⟩ (fun i σ H' _ p => by rw [p.1]; exact hS) ?_ ?_⟩
    · rintro i y σ H' hy ⟨rfl, v, rfl⟩
      rw [List.getElem?_map] at hy
      cases e : ns[i]? with
      | none =>
        rw [e] at hy
        cases hy
      | some c =>
        rw [e] at hy
        cases hy
        refine ⟨_, rfl, _, _, rfl, rfl, .inl ⟨by decide, by decide⟩, _, rfl, _, _, rfl, rfl, rfl, some (.int c), ?_⟩
        rw [take_more e]
        show [_, some (V.int (2 * numOf (ns.take i) + c)), _] = _
        unfold numOf
        rw [List.foldl_append]
        rfl
    · rintro σ H' ⟨rfl, v, rfl⟩
      rw [List.length_map, List.take_length]
      exact ⟨_, rfl, q⟩
end

end K33
namespace K33
open PySem PySem.Spec PyProof.Rows L2 SL
section
variable {P : Program} {w : World} {K : PySem.W.Frag} {mg : Str → Option Value} {base : Heap} {cR iR cN iN cB iB cU fU gU cL : Addr} {fdU fdG : FuncData} {f : Addr} {fd : FuncData}
/-! ### _law_table, _law_radius, _law_filtered, _law_swept -/
theorem free_off {H H' : Hp} {p b : Addr} (s : Same (off H p) (off H' p)) (hb : b ≠ p) (n : H' b = none) : H b = none := by
  cases e : H b with
  | none => rfl
  | some o =>
    have z := s b o (by rw [off_ne hb]; exact e)
    rw [off_ne hb, n] at z
    cases z
theorem rows_fit {n : Nat} {rs : List (List Int)} (pm : rs.Perm (genRows n)) {i : Nat} {r : List Int} (e : rs[i]? = some r) : r.length = n ∧ bits r := gen_row (pm.mem_iff.mp (List.mem_of_getElem? e))
theorem bits_snoc {ts : List Int} {b : Int} (h : bits ts) (hb : b = 0 ∨ b = 1) : bits (ts ++ [b]) := h.app (bits.cons hb bits.nil)
theorem b01 (c : Bool) : (if c = true then (1 : Int) else 0) = 0 ∨ (if c = true then (1 : Int) else 0) = 1 := by
  cases c
  · exact .inl rfl
  · exact .inr rfl
theorem en (r : Nat) : ([V.int (2 * (r : Int) + 1)] : List V) ++ [] = [V.int ((2 * r + 1 : Nat) : Int)] := by
  rw [List.append_nil]
  exact congrArg (fun x => [V.int x]) (by omega)
theorem sc_law_table : FnScope ["hand", "radius", "size", "kind", "table", "inner", "row", "at"] ["hand", "radius"] (defScope s_law_table) := ⟨rfl, rfl, rfl, by decide +kernel, rfl, by decide +kernel, by decide +kernel⟩
def spTab : Sp := fun vs H Q _ => ∃ (p q : Addr) (r : Nat), vs = [.ref p, .int (r : Int)] ∧ PoolAt H p q ∧ r ≤ 3 ∧ ∀ H' l (ts : List Int), Same (off H p) (off H' p) → PoolAt H' p q → H l = none → H' l = some (.lst (ts.map V.int)) → ts.length = 2 ^ (2 * r + 1) → bits ts → Q (.ref l) H'
theorem ok_law_table (M : MF P w K mg cR iR cN iN cB iB cU fU gU cL) (F_law_rows : FnC P w K mg base CX0 1 "_law_rows" ["length"] (spRows K)) (F_law_draw : FnC P w K mg base CX0 1 "_law_draw" ["hand", "many"] spDraw) (F : Fun K "_law_table" "_law_table" s_law_table f fd) : FnOk P w K mg base CX0 3 f fd ["hand", "radius"] spTab := by
  refine F.ok sc_law_table (fun vs H Q E h => ?_) (fun cdv A outer s H vs Q E hr h => ?_)
  · obtain ⟨p, q, r, rfl, _⟩ := h
    rfl
  · obtain ⟨p, q, r, rfl, hP, r3, k⟩ := h
    have pw8 : 2 ^ (2 * r + 1) ≤ 8192 := pow_small (by omega)
    refine ⟨_, (Evl.pss_cut (ps_set (i := 2) sc_law_table.nd rfl (Or.inl rfl) (pe_callB call_len_seq (by rfl) M.m_len (by decide +kernel) (pa_cons (pe_f F_law_rows hr (by omega) pass0 (pa_cons (pe_op op_add (pe_op op_mul pe_int (pv 1)) pe_int) pa_nil)) pa_nil)))
      (Evl.pss_cut (ps_set (i := 3) sc_law_table.nd rfl (Or.inl rfl) (pe_f F_law_draw hr (by omega) pass0 (pa_cons (pv 0) (pa_cons pe_int pa_nil))))
      (pss_cons (ps_if (pt_cmpR op_eq (pv 3) pe_int (nomark _))
      (pss_one (ps_ret (pe_lc (own := [("row", 6)]) (tt := tYes) rfl sc_law_table.nd (pi_list (pe_f F_law_rows hr (by omega) pass0 (pa_cons (pe_op op_add (pe_op op_mul pe_int (pv 1)) pe_int) pa_nil))) (blkOk_by (N := ["hand", "radius", "size", "kind", "table", "inner", "row", "at"]) (sc := defScope s_law_table) (by decide +kernel)) (fun _ _ _ _ _ => (pg_name (i := 6) sc_law_table.nd rfl (Or.inl rfl))) (fun _ _ _ _ _ => pts_nil) (fun _ _ _ _ _ => (pe_callTy call_int1 (by rfl) M.m_int (by decide +kernel) (pa_cons (pe_cmpR op_gt (pe_callB (cr_sumT K rfl) (by rfl) M.m_sum (by decide +kernel) (pa_cons (pv 6) pa_nil)) (pv 1) (nomark _)) pa_nil)))))) pss_nil)
      (pss_cons (ps_if (pt_cmpR op_eq (pv 3) pe_int (nomark _))
      (pss_one (ps_ret (pe_lc (own := [("row", 6)]) (tt := tYes) rfl sc_law_table.nd (pi_list (pe_f F_law_rows hr (by omega) pass0 (pa_cons (pe_op op_add (pe_op op_mul pe_int (pv 1)) pe_int) pa_nil))) (blkOk_by (N := ["hand", "radius", "size", "kind", "table", "inner", "row", "at"]) (sc := defScope s_law_table) (by decide +kernel)) (fun _ _ _ _ _ => (pg_name (i := 6) sc_law_table.nd rfl (Or.inl rfl))) (fun _ _ _ _ _ => pts_nil) (fun _ _ _ _ _ => (pe_ix (ix_tupK K) (pv 6) (pv 1) (fun _ _ => rfl)))))) pss_nil)
      (Evl.pss_cut (ps_setLc (i := 4) (own := [("at", 7)]) (tt := tYes) rfl sc_law_table.nd rfl rfl (sw_true rfl rfl rfl (by decide +kernel)) (pi_range1 (by rfl) M.m_range (pa_cons (pv 2) pa_nil)) (blkOk_by (N := ["hand", "radius", "size", "kind", "table", "inner", "row", "at"]) (sc := defScope s_law_table) (by decide +kernel)) (fun _ _ _ _ _ => (pg_name (i := 7) sc_law_table.nd rfl (Or.inl rfl))) (fun _ _ _ _ _ => pts_nil) (fun _ _ _ _ _ => (pe_f F_law_draw hr (by omega) pass0 (pa_cons (pv 0) (pa_cons pe_int pa_nil)))))
      (pss_cons (ps_if (pt_cmpR op_eq (pv 3) pe_int (nomark _))
      (pss_cons (ps_set (i := 5) sc_law_table.nd rfl (Or.inr rfl) (pe_lc (own := [("at", 7)]) (tt := tYes) rfl sc_law_table.nd (pi_range1 (by rfl) M.m_range (pa_cons pe_int pa_nil)) (blkOk_by (N := ["hand", "radius", "size", "kind", "table", "inner", "row", "at"]) (sc := defScope s_law_table) (by decide +kernel)) (fun _ _ _ _ _ => (pg_name (i := 7) sc_law_table.nd rfl (Or.inl rfl))) (fun _ _ _ _ _ => pts_nil) (fun _ _ _ _ _ => (pe_f F_law_draw hr (by omega) pass0 (pa_cons (pv 0) (pa_cons pe_int pa_nil))))))
      (pss_one (ps_ret (pe_lc (own := [("row", 6)]) (tt := tYes) rfl sc_law_table.nd (pi_list (pe_f F_law_rows hr (by omega) pass0 (pa_cons (pe_op op_add (pe_op op_mul pe_int (pv 1)) pe_int) pa_nil))) (blkOk_by (N := ["hand", "radius", "size", "kind", "table", "inner", "row", "at"]) (sc := defScope s_law_table) (by decide +kernel)) (fun _ _ _ _ _ => (pg_name (i := 6) sc_law_table.nd rfl (Or.inl rfl))) (fun _ _ _ _ _ => pts_nil) (fun _ _ _ _ _ => (pe_ix (ix_listK K) (pv 5) (pe_ix (ix_tupK K) (pv 6) (pv 1) (fun _ _ => rfl)) (fun _ _ => rfl))))))) pss_nil)
      (pss_one (ps_ret (pv 4))))))))), ?_⟩
    refine ⟨fun σ H' => σ = [some (.ref p), some (.int (r : Int)), some (.int ((2 ^ (2 * r + 1) : Nat) : Int)), none, none, none, none, none] ∧ Same H H', ?_, ?_⟩
    · refine ⟨_, rfl, _, _, rfl, rfl, .inl ⟨by decide, by decide⟩, _, _, rfl, rfl, 2 * r + 1, en r, by omega, fun H1 l ws rs s1 nl el hR pm pw => ⟨l, ws, rfl, .inl (SqL.of el), ?_, s1⟩⟩
      rw [RowsI.length hR, pm.length_eq, gen_len]
      rfl
    rintro _ H1 ⟨rfl, s1⟩
    have hP1 := hP.same s1
    refine ⟨fun σ H' => ∃ d, σ = [some (.ref p), some (.int (r : Int)), some (.int ((2 ^ (2 * r + 1) : Nat) : Int)), some (.int d), none, none, none, none] ∧ Same (off H p) (off H' p) ∧ PoolAt H' p q, ⟨_, rfl, p, q, 5, rfl, hP1, by decide, by decide, fun H2 d s2 hP2 d0 d1 => ⟨d, rfl, (off_mono s1).trans s2, hP2⟩⟩, ?_⟩
    rintro _ H2 ⟨d, rfl, s2, hP2⟩
    have fin : ∀ (G H' : Hp) (D : Addr) (ts : List Int), Same (off H p) (off G p) → PoolAt G p q → G D = none → Same G H' → H' D = some (.lst (ts.map V.int)) → ts.length = 2 ^ (2 * r + 1) → bits ts → Q (.ref D) H' := fun G H' D ts sG hG nD s' eD lt bt => k H' D ts (sG.trans (off_mono s')) (hG.same s') (free_off sG (hG.at_p nD).1 nD) eD lt bt
    refine ⟨_, rfl, rfl, _, rfl, ite2 (fun c0 => ?_) (fun c0 => ?_)⟩
    · refine ⟨_, rfl, _, _, rfl, rfl, .inl ⟨by decide, by decide⟩, _, _, rfl, rfl, 2 * r + 1, en r, by omega, fun H3 l ws rs s3 nl el hR pm pw => ⟨l, rfl, ⟨_, SqL.of el⟩, fun D nD => ?_⟩⟩
      have lw : ws.length = 2 ^ (2 * r + 1) := by rw [RowsI.length hR, pm.length_eq, gen_len]
      refine lc_list (K := K) (a := l) (xs := ws) (fun j H' => Same H3 H' ∧ ∃ ts : List Int, H' D = some (.lst (ts.map V.int)) ∧ ts.length = j ∧ bits ts) ⟨same_upd nD, [], upd_same, rfl, bits.nil⟩ (fun j H' _ p => SqL.of (p.1 _ _ el)) (fun j y H' hy p => ?_) (fun H' p => ?_)
      · obtain ⟨s4, ts, eD, lt, bt⟩ := p
        obtain ⟨b, row, rfl, er, hb⟩ := RowsI.get hR hy
        have jl : j < ws.length := (List.getElem?_eq_some_iff.mp hy).1
        refine ⟨rfl, lc_yes ⟨_, rfl, b, row, rfl, Same.seqT s4 hb, _, rfl, _, _, rfl, rfl, .inr ⟨_, rfl, ts.map V.int, eD, ?_, ?_, ts ++ [if decide ((r : Int) < row.sum) = true then 1 else 0], ?_, ?_, bits_snoc bt (b01 _)⟩⟩⟩
        · rw [List.length_map]
          exact lineN (by omega)
        · exact fun b o e => by
            rw [upd_ne (ne_of_none e nD)]
            exact s4 _ _ e
        · rw [upd_same, List.map_append]
          rfl
        · rw [List.length_append, lt]
          rfl
      · obtain ⟨s4, ts, eD, lt, bt⟩ := p
        exact fin H3 H' D ts (s2.trans (off_mono s3)) (hP2.same s3) nD s4 eD (by rw [lt, lw]) bt
    refine ⟨_, rfl, rfl, _, rfl, ite2 (fun c1 => ?_) (fun c1 => ?_)⟩
    · refine ⟨_, rfl, _, _, rfl, rfl, .inl ⟨by decide, by decide⟩, _, _, rfl, rfl, 2 * r + 1, en r, by omega, fun H3 l ws rs s3 nl el hR pm pw => ⟨l, rfl, ⟨_, SqL.of el⟩, fun D nD => ?_⟩⟩
      have lw : ws.length = 2 ^ (2 * r + 1) := by rw [RowsI.length hR, pm.length_eq, gen_len]
      refine lc_list (K := K) (a := l) (xs := ws) (fun j H' => Same H3 H' ∧ ∃ ts : List Int, H' D = some (.lst (ts.map V.int)) ∧ ts.length = j ∧ bits ts) ⟨same_upd nD, [], upd_same, rfl, bits.nil⟩ (fun j H' _ p => SqL.of (p.1 _ _ el)) (fun j y H' hy p => ?_) (fun H' p => ?_)
      · obtain ⟨s4, ts, eD, lt, bt⟩ := p
        obtain ⟨b, row, rfl, er, hb⟩ := RowsI.get hR hy
        have jl : j < ws.length := (List.getElem?_eq_some_iff.mp hy).1
        obtain ⟨rl, rb⟩ := rows_fit pm er
        have hx : row[r]? = some (row[r]'(by omega)) := List.getElem?_eq_getElem (by omega)
        refine ⟨rfl, lc_yes ⟨_, rfl, _, rfl, b, row.map V.int, (r : Int), .int (row[r]'(by omega)), rfl, rfl, Same.seqT s4 hb, atI_nat (by rw [List.getElem?_map, hx]; rfl), ts.map V.int, eD, ?_, ?_, ts ++ [row[r]'(by omega)], ?_, ?_, bits_snoc bt (rb _ (List.mem_of_getElem? hx))⟩⟩
        · rw [List.length_map]
          exact lineN (by omega)
        · exact fun b o e => by
            rw [upd_ne (ne_of_none e nD)]
            exact s4 _ _ e
        · rw [upd_same, List.map_append]
          rfl
        · rw [List.length_append, lt]
          rfl
      · obtain ⟨s4, ts, eD, lt, bt⟩ := p
        exact fin H3 H' D ts (s2.trans (off_mono s3)) (hP2.same s3) nD s4 eD (by rw [lt, lw]) bt
    -- table
    refine ⟨fun σ H' => ∃ D ts at', σ = [some (.ref p), some (.int (r : Int)), some (.int ((2 ^ (2 * r + 1) : Nat) : Int)), some (.int d), some (.ref D), none, none, at'] ∧ Same (off H p) (off H' p) ∧ PoolAt H' p q ∧ H D = none ∧ H' D = some (.lst (ts.map V.int)) ∧ ts.length = 2 ^ (2 * r + 1) ∧ bits ts, ?_, ?_⟩
    · generalize hN : 2 ^ (2 * r + 1) = N at pw8 ⊢
      refine ⟨_, rfl, (N : Int), rfl, by omega, by omega, fun D nD => ?_⟩
      obtain ⟨nDp, nDq⟩ := hP2.at_p nD
      refine lc_range (lo := 0) (n := N) (fun i H' => Same (off H2 p) (off H' p) ∧ PoolAt H' p q ∧ ∃ ns : List Int, H' D = some (.lst (ns.map V.int)) ∧ ns.length = i ∧ bits ns) ⟨off_mono (same_upd nD), hP2.same (same_upd nD), [], upd_same, rfl, bits.nil⟩ (fun i H' hi z => ?_) (fun H' z => ?_)
      · obtain ⟨s3, hP3, ns, eD, ln, hb⟩ := z
        refine ⟨rfl, lc_yes ⟨_, rfl, p, q, 2, rfl, hP3, by decide, by decide, fun H4 d s4 hP4 d0 d1 => ⟨ns.map V.int, ?_, ?_, ?_, hP4.put nDp nDq, ns ++ [d], ?_, ?_, bits_snoc hb (by omega)⟩⟩⟩
        · have z := s4 D _ (by rw [off_ne nDp]; exact eD)
          rw [off_ne nDp] at z
          exact z
        · rw [List.length_map]
          exact lineN (by omega)
        · exact off_put2 (s3.trans s4) nD
        · rw [upd_same, List.map_append]
          rfl
        · rw [List.length_append, ln]
          rfl
      · obtain ⟨s3, hP3, ns, eD, ln, hb⟩ := z
        exact ⟨D, ns, _, rfl, s2.trans s3, hP3, free_off s2 nDp nD, eD, ln, hb⟩
    rintro _ H3 ⟨T, ts, at', rfl, s3, hP3, nT, eT, lt, bt⟩
    refine ⟨_, rfl, rfl, _, rfl, ite2 (fun c2 => ?_) (fun c2 => ⟨_, rfl, k H3 T ts s3 hP3 nT eT lt bt⟩)⟩
    -- inner
    refine ⟨_, rfl, by decide, by decide, fun D nD => ?_⟩
    obtain ⟨nDp, nDq⟩ := hP3.at_p nD
    refine lc_range (lo := 0) (n := 2) (fun i H' => Same (off H3 p) (off H' p) ∧ PoolAt H' p q ∧ ∃ ns : List Int, H' D = some (.lst (ns.map V.int)) ∧ ns.length = i ∧ bits ns) ⟨off_mono (same_upd nD), hP3.same (same_upd nD), [], upd_same, rfl, bits.nil⟩ (fun i H' hi z => ?_) (fun H4 z => ?_)
    · obtain ⟨s3, hP3, ns, eD, ln, hb⟩ := z
      refine ⟨rfl, lc_yes ⟨_, rfl, p, q, 2, rfl, hP3, by decide, by decide, fun H4 d s4 hP4 d0 d1 => ⟨ns.map V.int, ?_, ?_, ?_, hP4.put nDp nDq, ns ++ [d], ?_, ?_, bits_snoc hb (by omega)⟩⟩⟩
      · have z := s4 D _ (by rw [off_ne nDp]; exact eD)
        rw [off_ne nDp] at z
        exact z
      · rw [List.length_map]
        exact lineN (by omega)
      · exact off_put2 (s3.trans s4) nD
      · rw [upd_same, List.map_append]
        rfl
      · rw [List.length_append, ln]
        rfl
    obtain ⟨s4, hP4, is, eI, li, bi⟩ := z
    have s24 := s3.trans s4
    refine ⟨_, rfl, _, _, rfl, rfl, .inl ⟨by decide, by decide⟩, _, _, rfl, rfl, 2 * r + 1, en r, by omega, fun H5 l ws rs s5 nl el hR pm pw => ⟨l, rfl, ⟨_, SqL.of el⟩, fun D2 nD2 => ?_⟩⟩
    have lw : ws.length = 2 ^ (2 * r + 1) := by rw [RowsI.length hR, pm.length_eq, gen_len]
    refine lc_list (K := K) (a := l) (xs := ws) (fun j H' => Same H5 H' ∧ ∃ ts : List Int, H' D2 = some (.lst (ts.map V.int)) ∧ ts.length = j ∧ bits ts) ⟨same_upd nD2, [], upd_same, rfl, bits.nil⟩ (fun j H' _ p => SqL.of (p.1 _ _ el)) (fun j y H' hy p => ?_) (fun H' p => ?_)
    · obtain ⟨s6, ts, eD, lt, bt⟩ := p
      obtain ⟨b, row, rfl, er, hb⟩ := RowsI.get hR hy
      have jl : j < ws.length := (List.getElem?_eq_some_iff.mp hy).1
      obtain ⟨rl, rb⟩ := rows_fit pm er
      have hx : row[r]? = some (row[r]'(by omega)) := List.getElem?_eq_getElem (by omega)
      obtain ⟨c, hc, cb⟩ : ∃ c : Nat, row[r]'(by omega) = (c : Int) ∧ c < 2 := by
        rcases rb _ (List.mem_of_getElem? hx) with e | e
        · exact ⟨0, e, by decide⟩
        · exact ⟨1, e, by decide⟩
      have hy2 : is[c]? = some (is[c]'(by omega)) := List.getElem?_eq_getElem (by omega)
      refine ⟨rfl, lc_yes ⟨_, rfl, _, rfl, _, rfl, b, row.map V.int, (r : Int), .int c, rfl, rfl, Same.seqT s6 hb, atI_nat (by rw [List.getElem?_map, hx, hc]; rfl), D, is.map V.int, c, .int (is[c]'(by omega)), rfl, rfl, SqL.of (s6 _ _ (s5 _ _ eI)), atI_nat (by rw [List.getElem?_map, hy2]; rfl), ts.map V.int, eD, ?_, ?_, ts ++ [is[c]'(by omega)], ?_, ?_, bits_snoc bt (bi _ (List.mem_of_getElem? hy2))⟩⟩
      · rw [List.length_map]
        exact lineN (by omega)
      · exact fun b o e => by
          rw [upd_ne (ne_of_none e nD2)]
          exact s6 _ _ e
      · rw [upd_same, List.map_append]
        rfl
      · rw [List.length_append, lt]
        rfl
    · obtain ⟨s6, ts, eD, lt, bt⟩ := p
      exact fin H5 H' D2 ts (s24.trans (off_mono s5)) (hP4.same s5) nD2 s6 eD (by rw [lt, lw]) bt
theorem sc_law_radius : FnScope ["hand"] ["hand"] (defScope s_law_radius) := ⟨rfl, rfl, rfl, by decide +kernel, rfl, by decide +kernel, by decide +kernel⟩
def spRad : Sp := fun vs H Q _ => ∃ (p q : Addr), vs = [.ref p] ∧ PoolAt H p q ∧ ∀ H' (r : Nat), Same (off H p) (off H' p) → PoolAt H' p q → r ≤ 3 → Q (.int (r : Int)) H'
theorem ok_law_radius (M : MF P w K mg cR iR cN iN cB iB cU fU gU cL) (F_law_draw : FnC P w K mg base CX0 1 "_law_draw" ["hand", "many"] spDraw) (F : Fun K "_law_radius" "_law_radius" s_law_radius f fd) : FnOk P w K mg base CX0 3 f fd ["hand"] spRad := by
  refine F.ok sc_law_radius (fun vs H Q E h => ?_) (fun cdv A outer s H vs Q E hr h => ?_)
  · obtain ⟨p, q, rfl, _⟩ := h
    rfl
  · obtain ⟨p, q, rfl, hP, k⟩ := h
    refine ⟨_, (pss_one (ps_ret (pe_ix ix_list (pe_lst (pa_cons pe_int (pa_cons pe_int (pa_cons pe_int (pa_cons pe_int (pa_cons pe_int (pa_cons pe_int pa_nil))))))) (pe_f F_law_draw hr (by omega) pass0 (pa_cons (pv 0) (pa_cons pe_int pa_nil))) (fun _ _ => rfl)))), ?_⟩
    refine ⟨few (n := 6) (by decide), fun l nl => ?_⟩
    obtain ⟨nlp, nlq⟩ := hP.at_p nl
    have s1 := same_upd (o := .lst [.int 0, .int 1, .int 1, .int 1, .int 2, .int 3]) nl
    refine ⟨_, rfl, p, q, 6, rfl, hP.same s1, by decide, by decide, fun H2 d s2 hP2 d0 d1 => ?_⟩
    have el : H2 l = some (.lst [.int 0, .int 1, .int 1, .int 1, .int 2, .int 3]) := by
      have z := s2 l _ (by rw [off_ne nlp]; exact upd_same)
      rw [off_ne nlp] at z
      exact z
    have s02 := (off_mono s1).trans s2
    obtain ⟨j, rfl⟩ : ∃ j : Nat, d = (j : Int) := ⟨d.toNat, by omega⟩
    match j, d1 with
    | 0, _ => exact ⟨l, _, _, .int ((0 : Nat) : Int), rfl, rfl, SqL.of el, atI_nat rfl, k _ 0 s02 hP2 (by decide)⟩
    | 1, _ => exact ⟨l, _, _, .int ((1 : Nat) : Int), rfl, rfl, SqL.of el, atI_nat rfl, k _ 1 s02 hP2 (by decide)⟩
    | 2, _ => exact ⟨l, _, _, .int ((1 : Nat) : Int), rfl, rfl, SqL.of el, atI_nat rfl, k _ 1 s02 hP2 (by decide)⟩
    | 3, _ => exact ⟨l, _, _, .int ((1 : Nat) : Int), rfl, rfl, SqL.of el, atI_nat rfl, k _ 1 s02 hP2 (by decide)⟩
    | 4, _ => exact ⟨l, _, _, .int ((2 : Nat) : Int), rfl, rfl, SqL.of el, atI_nat rfl, k _ 2 s02 hP2 (by decide)⟩
    | 5, _ => exact ⟨l, _, _, .int ((3 : Nat) : Int), rfl, rfl, SqL.of el, atI_nat rfl, k _ 3 s02 hP2 (by decide)⟩
    | j + 6, z => exact absurd z (by omega)
theorem sc_law_filtered : FnScope ["radius", "table", "row", "span", "at"] ["radius", "table", "row"] (defScope s_law_filtered) := ⟨rfl, rfl, rfl, by decide +kernel, rfl, by decide +kernel, by decide +kernel⟩
def spFilt (K : PySem.W.Frag) : Sp := fun vs H Q _ => ∃ (r : Nat) (t a : Addr) (ts cs : List Int), vs = [.int (r : Int), .ref t, .ref a] ∧ SqL K H t (ts.map V.int) ∧ ts.length = 2 ^ (2 * r + 1) ∧ r ≤ 3 ∧ SqT K H a (cs.map V.int) ∧ bits cs ∧ 2 * r ≤ cs.length ∧ cs.length ≤ 1000 ∧ ∀ H' b, Same H H' → H b = none → H' b = some (.tup ((sweepOf r ts cs).map V.int)) → Q (.ref b) H'
theorem ok_law_filtered (M : MF P w K mg cR iR cN iN cB iB cU fU gU cL) (F_law_number : FnC P w K mg base CX0 1 "_law_number" ["row"] (spNumber K)) (F : Fun K "_law_filtered" "_law_filtered" s_law_filtered f fd) : FnOk P w K mg base CX0 3 f fd ["radius", "table", "row"] (spFilt K) := by
  refine F.ok (k := 2) sc_law_filtered (fun vs H Q E h => ?_) (fun cdv A outer s H vs Q E hr h => ?_)
  · obtain ⟨r, t, a, ts, cs, rfl, _⟩ := h
    rfl
  · obtain ⟨r, t, a, ts, cs, rfl, hT, lt, r3, hS, hb, h2, hz, q⟩ := h
    refine ⟨_, (pss_cons (ps_set (i := 3) sc_law_filtered.nd rfl (Or.inr rfl) (pe_op op_add (pe_op op_mul pe_int (pv 0)) pe_int))
      (pss_one (ps_ret (pe_callTy call_tuple_of (by rfl) M.m_tuple (by decide +kernel) (pa_cons (pe_lc (own := [("at", 4)]) (tt := tYes) rfl sc_law_filtered.nd (pi_range1 (by rfl) M.m_range (pa_cons (pe_op op_add (pe_op op_sub (pe_callB call_len_seq (by rfl) M.m_len (by decide +kernel) (pa_cons (pv 2) pa_nil)) (pv 3)) pe_int) pa_nil)) (blkOk_by (N := ["radius", "table", "row", "span", "at"]) (sc := defScope s_law_filtered) (by decide +kernel)) (fun _ _ _ _ _ => (pg_name (i := 4) sc_law_filtered.nd rfl (Or.inl rfl))) (fun _ _ _ _ _ => pts_nil) (fun _ _ _ _ _ => (pe_ix (ix_listK K) (pv 1) (pe_f F_law_number hr (by omega) pass0 (pa_cons (pe_slice (sl_tupU K) (pv 2) (po_some (pv 4)) (po_some (pe_op op_add (pv 4) (pv 3)))) pa_nil)) (fun _ _ => rfl)))) pa_nil))))), ?_⟩
    refine ⟨_, rfl, _, _, rfl, rfl, .inl ⟨by decide, by decide⟩, _, _, rfl, rfl, ?_⟩
    refine ⟨_, rfl, a, _, rfl, .inr hS, _, rfl, _, _, rfl, rfl, _, _, rfl, rfl, _, rfl, ?_⟩
    rw [List.length_map]
    refine ⟨by omega, by omega, fun E2 nE => ?_⟩
    rw [show ((cs.length : Int) - (2 * (r : Int) + 1) + 1).toNat = cs.length - 2 * r by omega]
    refine lc_range (fun i H' => Same H H' ∧ H' E2 = some (.lst (((List.range i).map (cellAt r ts cs)).map V.int))) ⟨same_upd nE, upd_same⟩ (fun i H' hi p => ?_) (fun H' p => ?_)
    · obtain ⟨s1, eE⟩ := p
      have cut : cutV (cs.map V.int) (some ((0 : Int) + (i : Nat))) (some ((0 : Int) + (i : Nat) + (2 * (r : Int) + 1))) = ((cs.drop i).take (2 * r + 1)).map V.int := by
        rw [Int.zero_add, show ((i : Int) + (2 * (r : Int) + 1)) = ((i + (2 * r + 1) : Nat) : Int) by omega, cut_mid (by rw [List.length_map]; omega), List.map_take, List.map_drop]
      refine ⟨rfl, lc_yes ⟨_, rfl, .ref a, rfl, _, rfl, _, rfl, _, rfl, _, rfl, _, _, rfl, rfl, _, rfl, a, _, rfl, Same.seqT s1 hS, fun c H2 s2 hc => ?_⟩⟩
      rw [cut] at hc
      refine ⟨c, _, rfl, hc, t, _, _, _, rfl, rfl, (s1.trans s2).seq hT, cell_get lt hb hi, _, s2 _ _ eE, ?_, ?_, ?_⟩
      · rw [List.length_map, List.length_map, List.length_range]
        exact lineN (by omega)
      · exact fun b o e => by
          rw [upd_ne (ne_of_none e nE)]
          exact s2 _ _ (s1 _ _ e)
      · rw [upd_same, map_range_more, List.map_append]
        rfl
    · obtain ⟨s1, eE⟩ := p
      refine ⟨E2, _, rfl, .inl ⟨SqL.of eE, fun b nb => ?_⟩⟩
      refine q _ b (s1.trans (same_upd nb)) (s1.free nb) ?_
      rw [upd_same]
      rfl
theorem sc_law_swept : FnScope ["radius", "table", "row", "light", "at"] ["radius", "table", "row"] (defScope s_law_swept) := ⟨rfl, rfl, rfl, by decide +kernel, rfl, by decide +kernel, by decide +kernel⟩
def spLSwept (K : PySem.W.Frag) : Sp := fun vs H Q _ => ∃ (r : Nat) (t a : Addr) (ts cs : List Int), vs = [.int (r : Int), .ref t, .ref a] ∧ SqL K H t (ts.map V.int) ∧ ts.length = 2 ^ (2 * r + 1) ∧ r ≤ 3 ∧ SqT K H a (cs.map V.int) ∧ bits cs ∧ cs.length ≤ 900 ∧ ∀ H' b, Same H H' → H b = none → H' b = some (.tup ((sweptOf r ts cs).map V.int)) → Q (.ref b) H'
theorem ok_law_swept (M : MF P w K mg cR iR cN iN cB iB cU fU gU cL) (F_law_filtered : FnC P w K mg base CX0 3 "_law_filtered" ["radius", "table", "row"] (spFilt K)) (F : Fun K "_law_swept" "_law_swept" s_law_swept f fd) : FnOk P w K mg base CX0 5 f fd ["radius", "table", "row"] (spLSwept K) := by
  refine F.ok (k := 4) sc_law_swept (fun vs H Q E h => ?_) (fun cdv A outer s H vs Q E hr h => ?_)
  · obtain ⟨r, t, a, ts, cs, rfl, _⟩ := h
    rfl
  · obtain ⟨r, t, a, ts, cs, rfl, hT, lt, r3, hS, hb, hz, q⟩ := h
    refine ⟨_, (pss_cons (ps_set (i := 3) sc_law_swept.nd rfl (Or.inl rfl) (pe_callTy call_tuple_of (by rfl) M.m_tuple (by decide +kernel) (pa_cons (pe_lc (own := [("at", 4)]) (tt := tYes) rfl sc_law_swept.nd (pi_range1 (by rfl) M.m_range (pa_cons (pv 0) pa_nil)) (blkOk_by (N := ["radius", "table", "row", "light", "at"]) (sc := defScope s_law_swept) (by decide +kernel)) (fun _ _ _ _ _ => (pg_name (i := 4) sc_law_swept.nd rfl (Or.inl rfl))) (fun _ _ _ _ _ => pts_nil) (fun _ _ _ _ _ => pe_int)) pa_nil)))
      (pss_one (ps_ret (pe_f F_law_filtered hr (by omega) pass0 (pa_cons (pv 0) (pa_cons (pv 1) (pa_cons (pe_op (op_catU K) (pe_op (op_catU K) (pv 3) (pv 2)) (pv 3)) pa_nil))))))), ?_⟩
    refine ⟨_, rfl, (r : Int), rfl, by omega, by omega, fun D nD => ?_⟩
    rw [show ((r : Int)).toNat = r by omega]
    refine lc_range (fun i H' => Same H H' ∧ H' D = some (.lst ((zeros i).map V.int))) ⟨same_upd nD, upd_same⟩ (fun i H' hi p => ?_) (fun H' p => ?_)
    · obtain ⟨s1, eD⟩ := p
      refine ⟨rfl, lc_yes ⟨_, eD, ?_, ?_, ?_⟩⟩
      · unfold zeros
        rw [List.length_map, List.length_replicate]
        exact lineN (by omega)
      · exact fun b o e => by
          rw [upd_ne (ne_of_none e nD)]
          exact s1 _ _ e
      · rw [upd_same]
        unfold zeros
        rw [List.replicate_succ', List.map_append]
        rfl
    obtain ⟨s1, eD⟩ := p
    refine ⟨D, _, rfl, .inl ⟨SqL.of eD, fun z nz => ?_⟩⟩
    have s2 := s1.trans (same_upd (o := .tup ((zeros r).map V.int)) nz)
    have hp : SqT K (upd H' z (.tup ((zeros r).map V.int))) z ((zeros r).map V.int) := SqT.of upd_same
    generalize upd H' z (.tup ((zeros r).map V.int)) = H2 at s2 hp ⊢
    refine ⟨_, rfl, _, rfl, _, rfl, _, rfl, z, a, _, _, rfl, rfl, hp, Same.seqT s2 hS, ?_, fun c H4 s4 hc => ?_⟩
    · rw [List.length_map, List.length_map]
      unfold zeros
      rw [List.length_replicate]
      omega
    refine ⟨_, rfl, c, z, _, _, rfl, rfl, hc, Same.seqT s4 hp, ?_, fun g H5 s5 hg => ?_⟩
    · rw [List.length_append, List.length_map, List.length_map]
      unfold zeros
      rw [List.length_replicate]
      omega
    rw [← List.map_append, ← List.map_append] at hg
    have s15 := (s2.trans s4).trans s5
    refine ⟨r, t, g, ts, zeros r ++ cs ++ zeros r, rfl, s15.seq hT, lt, r3, hg, ((zeros_bits r).app hb).app (zeros_bits r), ?_, ?_, fun H6 b s6 nb eb => ?_⟩
    · unfold zeros
      rw [List.length_append, List.length_append, List.length_replicate]
      omega
    · unfold zeros
      rw [List.length_append, List.length_append, List.length_replicate]
      omega
    · exact q H6 b (s15.trans s6) (s15.free nb) eb
end

section
variable {P : Program} {w : World} {K : PySem.W.Frag} {mg : Str → Option Value} {base : Heap} {cR iR cN iN cB iB cU fU gU cL : Addr} {fdU fdG : FuncData} {f : Addr} {fd : FuncData}
/-! ### _law_same, of equal data -/
theorem sc_law_same : FnScope ["told", "due", "at"] ["told", "due"] (defScope s_law_same) := ⟨rfl, rfl, rfl, by decide +kernel, rfl, by decide +kernel, by decide +kernel⟩
def spSame (K : PySem.W.Frag) (n : Nat) : Sp := fun vs H Q _ => ∃ a b d, vs = [a, b] ∧ Dp K H a d ∧ Dp K H b d ∧ plainD n d = true ∧ ∀ H', Same H H' → Q (.bl true) H'
theorem seqIx {H : Hp} {a : Addr} {xs : List V} {i : Nat} {v : V} {Q : VK} (h : SqL K H a xs ∨ SqT K H a xs) (e : xs[i]? = some v) (q : Q v H) : rIx K (.ref a) (.int ((0 : Int) + (i : Nat))) H Q := by
  rw [Int.zero_add]
  rcases h with h | h
  · exact .inl ⟨a, xs, i, v, rfl, rfl, h, atI_nat e, q⟩
  · exact .inr (.inl ⟨a, xs, i, v, rfl, rfl, h, atI_nat e, q⟩)
theorem anyLT {T : String} (h : T ∈ kinds) : PySem.W.kitAny K (.type T) [.type "list", .type "tuple"] = some (decide (T = "list" ∨ T = "tuple")) :=
  kitAny_cons (kit_list h) (fun z => kitAny_cons (kit_tuple h) (fun z2 => congrArg some (decide_eq_false fun y => y.elim (of_decide_eq_false z) (of_decide_eq_false z2)).symm) fun z2 => decide_eq_true (.inr (of_decide_eq_true z2))) fun z => decide_eq_true (.inl (of_decide_eq_true z))
theorem anyBS {T : String} (h : T ∈ kinds) : PySem.W.kitAny K (.type T) [.type "bool", .type "str"] = some (decide (T = "bool" ∨ T = "str")) :=
  kitAny_cons (kit_bool h) (fun z => kitAny_cons (kit_str h) (fun z2 => congrArg some (decide_eq_false fun y => y.elim (of_decide_eq_false z) (of_decide_eq_false z2)).symm) fun z2 => decide_eq_true (.inr (of_decide_eq_true z2))) fun z => decide_eq_true (.inl (of_decide_eq_true z))
theorem same_body (M : MF P w K mg cR iR cN iN cB iB cU fU gU cL) (F : Fun K "_law_same" "_law_same" s_law_same f fd) {n k : Nat} {spR : Sp} (F_law_same : FnC P w K mg base CX0 k "_law_same" ["told", "due"] spR) (hs : ∀ m, n = m + 1 → spR = spSame K m) :
    FnOk P w K mg base CX0 (k + 2) f fd ["told", "due"] (spSame K n) := by
  refine F.ok (k := k + 1) sc_law_same (fun vs H Q E h => ?_) (fun cdv A outer s H vs Q E hr h => ?_)
  · obtain ⟨a, b, d, rfl, _⟩ := h
    rfl
  · obtain ⟨a, b, d, rfl, h1, h2, hp, q⟩ := h
    refine ⟨_, (pss_cons (ps_if (pt_val (pe_callB call_isiT (by rfl) M.m_isinstance (by decide +kernel) (pa_cons (pv 1) (pa_cons (pe_tup (pa_cons (pe_bltn (v := .ty "list") (by rfl) M.m_list (by decide +kernel) rfl) (pa_cons (pe_bltn (v := .ty "tuple") (by rfl) M.m_tuple (by decide +kernel) rfl) pa_nil))) pa_nil))))
      (pss_cons (ps_if (PW.pt (pw_or (pt_cmpR op_ne (pe_callB call_isi (by rfl) M.m_isinstance (by decide +kernel) (pa_cons (pv 0) (pa_cons (pe_bltn (v := .ty "list") (by rfl) M.m_list (by decide +kernel) rfl) pa_nil))) (pe_callB call_isi (by rfl) M.m_isinstance (by decide +kernel) (pa_cons (pv 1) (pa_cons (pe_bltn (v := .ty "list") (by rfl) M.m_list (by decide +kernel) rfl) pa_nil))) (nomark _)) (pw_or1 (pt_not (pt_val (pe_callB call_isiT (by rfl) M.m_isinstance (by decide +kernel) (pa_cons (pv 0) (pa_cons (pe_tup (pa_cons (pe_bltn (v := .ty "list") (by rfl) M.m_list (by decide +kernel) rfl) (pa_cons (pe_bltn (v := .ty "tuple") (by rfl) M.m_tuple (by decide +kernel) rfl) pa_nil))) pa_nil))))))))
      (pss_one (ps_ret pe_bl)) pss_nil)
      (pss_cons (ps_if (pt_cmpR op_ne (pe_callB call_len_seq (by rfl) M.m_len (by decide +kernel) (pa_cons (pv 0) pa_nil)) (pe_callB call_len_seq (by rfl) M.m_len (by decide +kernel) (pa_cons (pv 1) pa_nil)) (nomark _))
      (pss_one (ps_ret pe_bl)) pss_nil)
      (pss_one (ps_ret (pe_cmpR op_eq (pe_callB call_len_seq (by rfl) M.m_len (by decide +kernel) (pa_cons (pe_lc (own := [("at", 2)]) rfl sc_law_same.nd (pi_range1 (by rfl) M.m_range (pa_cons (pe_callB call_len_seq (by rfl) M.m_len (by decide +kernel) (pa_cons (pv 1) pa_nil)) pa_nil)) (blkOk_by (N := ["told", "due", "at"]) (sc := defScope s_law_same) (by decide +kernel)) (fun _ _ _ _ _ => (pg_name (i := 2) sc_law_same.nd rfl (Or.inl rfl))) (fun _ _ _ _ _ => (pts_one (pt_not (pt_val (pe_f F_law_same hr (by omega) pass0 (pa_cons (pe_ix (ix_seqK K) (pv 0) (pv 2) (fun _ _ => rfl)) (pa_cons (pe_ix (ix_seqK K) (pv 1) (pv 2) (fun _ _ => rfl)) pa_nil))))))) (fun _ _ _ _ _ => (pv 2))) pa_nil)) pe_int (nomark _)))))) pss_nil)
      (pss_cons (ps_if (PW.pt (pw_or (pt_val (pe_callB call_isiT (by rfl) M.m_isinstance (by decide +kernel) (pa_cons (pv 1) (pa_cons (pe_tup (pa_cons (pe_bltn (v := .ty "bool") (by rfl) M.m_bool (by decide +kernel) rfl) (pa_cons (pe_bltn (v := .ty "str") (by rfl) M.m_str (by decide +kernel) rfl) pa_nil))) pa_nil)))) (pw_or1 (pt_cmpR op_isN (pv 1) pe_non (nomark _)))))
      (pss_one (ps_ret (pe_and (pe_cmpR op_eq (pe_callB call_isi (by rfl) M.m_isinstance (by decide +kernel) (pa_cons (pv 0) (pa_cons (pe_bltn (v := .ty "bool") (by rfl) M.m_bool (by decide +kernel) rfl) pa_nil))) (pe_callB call_isi (by rfl) M.m_isinstance (by decide +kernel) (pa_cons (pv 1) (pa_cons (pe_bltn (v := .ty "bool") (by rfl) M.m_bool (by decide +kernel) rfl) pa_nil))) (nomark _)) (pe_one (pe_cmpR op_eq (pv 0) (pv 1) (nomark _)))))) pss_nil)
      (pss_one (ps_ret (pe_and (pe_callB call_isi (by rfl) M.m_isinstance (by decide +kernel) (pa_cons (pv 0) (pa_cons (pe_bltn (v := .ty "int") (by rfl) M.m_int (by decide +kernel) rfl) pa_nil))) (pe_and (pe_not (pe_callB call_isi (by rfl) M.m_isinstance (by decide +kernel) (pa_cons (pv 0) (pa_cons (pe_bltn (v := .ty "bool") (by rfl) M.m_bool (by decide +kernel) rfl) pa_nil)))) (pe_one (pe_cmpR op_eq (pv 0) (pv 1) (nomark _))))))))), ?_⟩
    cases h1 with
    | non =>
      cases h2
      have hk := Knw.non (K := K) (H := H)
      refine ⟨_, rfl, few (n := 2) (by decide), fun p0 np0 => ?_⟩
      have s0 : Same H (upd H p0 (.tup [.ty "list", .ty "tuple"])) := same_upd np0
      refine ⟨_, p0, _, _, _, _, rfl, upd_same, .cons (.ty _) (.cons (.ty _) .nil), (hk.same s0).ty, anyLT hk.mem, _, rfl, iteW (by decide) ?_⟩
      generalize upd H p0 (.tup [.ty "list", .ty "tuple"]) = H0 at s0 ⊢
      have hk := hk.same s0
      refine ⟨_, rfl, few (n := 2) (by decide), fun p1 np1 => ?_⟩
      have s1 : Same H0 (upd H0 p1 (.tup [.ty "bool", .ty "str"])) := same_upd np1
      refine ⟨_, p1, _, _, _, _, rfl, upd_same, .cons (.ty _) (.cons (.ty _) .nil), (hk.same s1).ty, anyBS hk.mem, _, rfl, iteW (by decide) ?_⟩
      generalize upd H0 p1 (.tup [.ty "bool", .ty "str"]) = H1 at s1 ⊢
      have hk := hk.same s1
      have s01 := s0.trans s1
      refine ⟨_, rfl, rfl, _, rfl, iteU rfl ?_⟩
      refine ⟨_, rfl, _, .ty "bool", _, _, _, rfl, .ty _, hk.ty, kit_bool hk.mem, _, rfl, _, .ty "bool", _, _, _, rfl, .ty _, hk.ty, kit_bool hk.mem, rfl, _, rfl, iteU rfl ?_⟩
      refine ⟨_, rfl, _, rfl, rfl, ?_⟩
      rw [decide_eq_true rfl]
      exact q H1 s01
    | bl x =>
      cases h2
      have hk := Knw.bl (K := K) (H := H) x
      refine ⟨_, rfl, few (n := 2) (by decide), fun p0 np0 => ?_⟩
      have s0 : Same H (upd H p0 (.tup [.ty "list", .ty "tuple"])) := same_upd np0
      refine ⟨_, p0, _, _, _, _, rfl, upd_same, .cons (.ty _) (.cons (.ty _) .nil), (hk.same s0).ty, anyLT hk.mem, _, rfl, iteW (by decide) ?_⟩
      generalize upd H p0 (.tup [.ty "list", .ty "tuple"]) = H0 at s0 ⊢
      have hk := hk.same s0
      refine ⟨_, rfl, few (n := 2) (by decide), fun p1 np1 => ?_⟩
      have s1 : Same H0 (upd H0 p1 (.tup [.ty "bool", .ty "str"])) := same_upd np1
      refine ⟨_, p1, _, _, _, _, rfl, upd_same, .cons (.ty _) (.cons (.ty _) .nil), (hk.same s1).ty, anyBS hk.mem, _, rfl, iteU (.inl rfl) ?_⟩
      generalize upd H0 p1 (.tup [.ty "bool", .ty "str"]) = H1 at s1 ⊢
      have hk := hk.same s1
      have s01 := s0.trans s1
      refine ⟨_, rfl, _, .ty "bool", _, _, _, rfl, .ty _, hk.ty, kit_bool hk.mem, _, rfl, _, .ty "bool", _, _, _, rfl, .ty _, hk.ty, kit_bool hk.mem, rfl, _, rfl, iteU rfl ?_⟩
      refine ⟨_, rfl, _, rfl, rfl, ?_⟩
      rw [decide_eq_true rfl]
      exact q H1 s01
    | int x =>
      cases h2
      have hk := Knw.int (K := K) (H := H) x
      refine ⟨_, rfl, few (n := 2) (by decide), fun p0 np0 => ?_⟩
      have s0 : Same H (upd H p0 (.tup [.ty "list", .ty "tuple"])) := same_upd np0
      refine ⟨_, p0, _, _, _, _, rfl, upd_same, .cons (.ty _) (.cons (.ty _) .nil), (hk.same s0).ty, anyLT hk.mem, _, rfl, iteW (by decide) ?_⟩
      generalize upd H p0 (.tup [.ty "list", .ty "tuple"]) = H0 at s0 ⊢
      have hk := hk.same s0
      refine ⟨_, rfl, few (n := 2) (by decide), fun p1 np1 => ?_⟩
      have s1 : Same H0 (upd H0 p1 (.tup [.ty "bool", .ty "str"])) := same_upd np1
      refine ⟨_, p1, _, _, _, _, rfl, upd_same, .cons (.ty _) (.cons (.ty _) .nil), (hk.same s1).ty, anyBS hk.mem, _, rfl, iteW (by decide) ?_⟩
      generalize upd H0 p1 (.tup [.ty "bool", .ty "str"]) = H1 at s1 ⊢
      have hk := hk.same s1
      have s01 := s0.trans s1
      refine ⟨_, rfl, rfl, _, rfl, iteV (fun z => nomatch z) ?_⟩
      refine ⟨_, rfl, _, .ty "int", _, _, _, rfl, .ty _, hk.ty, kit_int hk.mem, _, rfl, iteU (.inl rfl) ?_⟩
      refine ⟨_, rfl, _, .ty "bool", _, _, _, rfl, .ty _, hk.ty, kit_bool hk.mem, _, rfl, ?_⟩
      rw [show (!decide (("int" : String) = "bool")) = true from rfl]
      refine ⟨_, rfl, iteT ?_⟩
      refine ⟨_, rfl, _, rfl, rfl, ?_⟩
      rw [decide_eq_true rfl]
      exact q H1 s01
    | str x =>
      cases h2
      have hk := Knw.str (K := K) (H := H) x
      refine ⟨_, rfl, few (n := 2) (by decide), fun p0 np0 => ?_⟩
      have s0 : Same H (upd H p0 (.tup [.ty "list", .ty "tuple"])) := same_upd np0
      refine ⟨_, p0, _, _, _, _, rfl, upd_same, .cons (.ty _) (.cons (.ty _) .nil), (hk.same s0).ty, anyLT hk.mem, _, rfl, iteW (by decide) ?_⟩
      generalize upd H p0 (.tup [.ty "list", .ty "tuple"]) = H0 at s0 ⊢
      have hk := hk.same s0
      refine ⟨_, rfl, few (n := 2) (by decide), fun p1 np1 => ?_⟩
      have s1 : Same H0 (upd H0 p1 (.tup [.ty "bool", .ty "str"])) := same_upd np1
      refine ⟨_, p1, _, _, _, _, rfl, upd_same, .cons (.ty _) (.cons (.ty _) .nil), (hk.same s1).ty, anyBS hk.mem, _, rfl, iteU (.inr rfl) ?_⟩
      generalize upd H0 p1 (.tup [.ty "bool", .ty "str"]) = H1 at s1 ⊢
      have hk := hk.same s1
      have s01 := s0.trans s1
      refine ⟨_, rfl, _, .ty "bool", _, _, _, rfl, .ty _, hk.ty, kit_bool hk.mem, _, rfl, _, .ty "bool", _, _, _, rfl, .ty _, hk.ty, kit_bool hk.mem, rfl, _, rfl, iteU rfl ?_⟩
      refine ⟨_, rfl, _, rfl, rfl, ?_⟩
      rw [decide_eq_true rfl]
      exact q H1 s01
    | @lst x xs ds hx ax =>
      cases h2 with
      | @lst y ys es hy ay =>
        cases n with
        | zero => cases hp
        | succ n =>
          have hp' : (decide (ds.length ≤ 100000) && plainDs n ds) = true := hp
          rw [Bool.and_eq_true, decide_eq_true_eq] at hp'
          obtain ⟨hlen, hds⟩ := hp'
          obtain rfl := hs n rfl
          have k1 := Knw.lst hx
          have k2 := Knw.lst hy
          have lx := DpAll.length ax
          have ly := DpAll.length ay
          refine ⟨_, rfl, few (n := 2) (by decide), fun p0 np0 => ?_⟩
          have s0 : Same H (upd H p0 (.tup [.ty "list", .ty "tuple"])) := same_upd np0
          refine ⟨_, p0, _, _, _, _, rfl, upd_same, .cons (.ty _) (.cons (.ty _) .nil), (k2.same s0).ty, anyLT k2.mem, _, rfl, iteU (.inl rfl) ?_⟩
          generalize upd H p0 (.tup [.ty "list", .ty "tuple"]) = H0 at s0 ⊢
          have k1 := k1.same s0
          have k2 := k2.same s0
          refine ⟨_, rfl, _, .ty "list", _, _, _, rfl, .ty _, k1.ty, kit_list k1.mem, _, rfl, _, .ty "list", _, _, _, rfl, .ty _, k2.ty, kit_list k2.mem, rfl, _, rfl, iteNS rfl ?_⟩
          refine ⟨_, rfl, few (n := 2) (by decide), fun p np => ?_⟩
          have s1 : Same H0 (upd H0 p (.tup [.ty "list", .ty "tuple"])) := same_upd np
          refine ⟨_, p, _, _, _, _, rfl, upd_same, .cons (.ty _) (.cons (.ty _) .nil), (k1.same s1).ty, anyLT k1.mem, _, rfl, iteF ?_⟩
          generalize upd H0 p (.tup [.ty "list", .ty "tuple"]) = H1 at s1 ⊢
          have s01 := s0.trans s1
          have bx : SqL K H1 x xs ∨ SqT K H1 x xs := .inl (Dp.boxlst s01 hx)
          have by' : SqL K H1 y ys ∨ SqT K H1 y ys := .inl (Dp.boxlst s01 hy)
          refine ⟨_, rfl, x, xs, rfl, bx, _, rfl, y, ys, rfl, by', rfl, _, rfl, iteNS (by rw [lx, ly]) ?_⟩
          refine ⟨_, rfl, y, ys, rfl, by', (ys.length : Int), rfl, by omega, by omega, fun D nD => ?_⟩
          refine lc_range (lo := 0) (n := ys.length) (fun i H' => Same H1 H' ∧ H' D = some (.lst [])) ⟨same_upd nD, upd_same⟩ (fun i H' hi p => ?_) (fun H' p => ?_)
          · obtain ⟨s2, eD⟩ := p
            have hd : ds[i]? = some ds[i] := List.getElem?_eq_getElem (by omega)
            obtain ⟨v, ev, dv⟩ := DpAll.get ax hd
            obtain ⟨u, eu, du⟩ := DpAll.get ay hd
            refine ⟨rfl, _, rfl, _, rfl, seqIx (bx.imp (fun z => s2.seq z) fun z => Same.seqT s2 z) ev ?_⟩
            refine ⟨_, rfl, _, rfl, seqIx (by'.imp (fun z => s2.seq z) fun z => Same.seqT s2 z) eu ?_⟩
            exact ⟨v, u, ds[i], rfl, Dp.same (s01.trans s2) dv, Dp.same (s01.trans s2) du, plainDs_get hds hd, fun H3 s3 => ⟨_, rfl, iteF ⟨s2.trans s3, s3 _ _ eD⟩⟩⟩
          · refine ⟨D, [], rfl, .inl (SqL.of p.2), rfl, ?_⟩
            rw [show decide (V.int ((([] : List V).length : Nat) : Int) = V.int 0) = true from decide_eq_true rfl]
            exact q H' (s01.trans p.1)
    | @tup x xs ds hx ax =>
      cases h2 with
      | @tup y ys es hy ay =>
        cases n with
        | zero => cases hp
        | succ n =>
          have hp' : (decide (ds.length ≤ 100000) && plainDs n ds) = true := hp
          rw [Bool.and_eq_true, decide_eq_true_eq] at hp'
          obtain ⟨hlen, hds⟩ := hp'
          obtain rfl := hs n rfl
          have k1 := Knw.tup hx
          have k2 := Knw.tup hy
          have lx := DpAll.length ax
          have ly := DpAll.length ay
          refine ⟨_, rfl, few (n := 2) (by decide), fun p0 np0 => ?_⟩
          have s0 : Same H (upd H p0 (.tup [.ty "list", .ty "tuple"])) := same_upd np0
          refine ⟨_, p0, _, _, _, _, rfl, upd_same, .cons (.ty _) (.cons (.ty _) .nil), (k2.same s0).ty, anyLT k2.mem, _, rfl, iteU (.inr rfl) ?_⟩
          generalize upd H p0 (.tup [.ty "list", .ty "tuple"]) = H0 at s0 ⊢
          have k1 := k1.same s0
          have k2 := k2.same s0
          refine ⟨_, rfl, _, .ty "list", _, _, _, rfl, .ty _, k1.ty, kit_list k1.mem, _, rfl, _, .ty "list", _, _, _, rfl, .ty _, k2.ty, kit_list k2.mem, rfl, _, rfl, iteNS rfl ?_⟩
          refine ⟨_, rfl, few (n := 2) (by decide), fun p np => ?_⟩
          have s1 : Same H0 (upd H0 p (.tup [.ty "list", .ty "tuple"])) := same_upd np
          refine ⟨_, p, _, _, _, _, rfl, upd_same, .cons (.ty _) (.cons (.ty _) .nil), (k1.same s1).ty, anyLT k1.mem, _, rfl, iteF ?_⟩
          generalize upd H0 p (.tup [.ty "list", .ty "tuple"]) = H1 at s1 ⊢
          have s01 := s0.trans s1
          have bx : SqL K H1 x xs ∨ SqT K H1 x xs := .inr (Dp.boxtup s01 hx)
          have by' : SqL K H1 y ys ∨ SqT K H1 y ys := .inr (Dp.boxtup s01 hy)
          refine ⟨_, rfl, x, xs, rfl, bx, _, rfl, y, ys, rfl, by', rfl, _, rfl, iteNS (by rw [lx, ly]) ?_⟩
          refine ⟨_, rfl, y, ys, rfl, by', (ys.length : Int), rfl, by omega, by omega, fun D nD => ?_⟩
          refine lc_range (lo := 0) (n := ys.length) (fun i H' => Same H1 H' ∧ H' D = some (.lst [])) ⟨same_upd nD, upd_same⟩ (fun i H' hi p => ?_) (fun H' p => ?_)
          · obtain ⟨s2, eD⟩ := p
            have hd : ds[i]? = some ds[i] := List.getElem?_eq_getElem (by omega)
            obtain ⟨v, ev, dv⟩ := DpAll.get ax hd
            obtain ⟨u, eu, du⟩ := DpAll.get ay hd
            refine ⟨rfl, _, rfl, _, rfl, seqIx (bx.imp (fun z => s2.seq z) fun z => Same.seqT s2 z) ev ?_⟩
            refine ⟨_, rfl, _, rfl, seqIx (by'.imp (fun z => s2.seq z) fun z => Same.seqT s2 z) eu ?_⟩
            exact ⟨v, u, ds[i], rfl, Dp.same (s01.trans s2) dv, Dp.same (s01.trans s2) du, plainDs_get hds hd, fun H3 s3 => ⟨_, rfl, iteF ⟨s2.trans s3, s3 _ _ eD⟩⟩⟩
          · refine ⟨D, [], rfl, .inl (SqL.of p.2), rfl, ?_⟩
            rw [show decide (V.int ((([] : List V).length : Nat) : Int) = V.int 0) = true from decide_eq_true rfl]
            exact q H' (s01.trans p.1)
theorem ok_law_same (M : MF P w K mg cR iR cN iN cB iB cU fU gU cL) (F : Fun K "_law_same" "_law_same" s_law_same f fd) (gf : mg "_law_same" = some (.ref f)) (bf : Binds K fd ["told", "due"] []) : ∀ n, FnOk P w K mg base CX0 (2 * n + 2) f fd ["told", "due"] (spSame K n)
  | 0 => same_body M F (k := 0) (spR := fun _ _ _ _ => False) ⟨f, fd, ⟨fun _ _ _ _ z => z.elim, fun _ _ _ _ _ _ _ _ _ _ _ _ _ z => z.elim⟩, gf, F.kp, bf⟩ fun m e => nomatch e
  | n + 1 => same_body M F (k := 2 * n + 2) ⟨f, fd, ok_law_same M F gf bf n, gf, F.kp, bf⟩ fun m e => by
    cases e
    rfl
end

end K33
namespace K33
open PySem PySem.Spec PyProof.Rows L2 SL
section
/-! ### rows of cells swept once and again -/
theorem digits_succ (N k : Nat) : digits N (k + 1) = ((N / 2 ^ k % 2 : Nat) : Int) :: digits N k := by
  unfold digits
  rw [List.range_succ_eq_map, List.map_cons, List.map_map]
  have a : ((N / 2 ^ (k + 1 - 1 - 0) % 2 : Nat) : Int) = ((N / 2 ^ k % 2 : Nat) : Int) := by rw [show k + 1 - 1 - 0 = k by omega]
  have b : (List.range k).map ((fun i => ((N / 2 ^ (k + 1 - 1 - i) % 2 : Nat) : Int)) ∘ Nat.succ) = (List.range k).map fun i => ((N / 2 ^ (k - 1 - i) % 2 : Nat) : Int) := List.map_congr_left fun i hi => by
    show ((N / 2 ^ (k + 1 - 1 - (i + 1)) % 2 : Nat) : Int) = _
    rw [show k + 1 - 1 - (i + 1) = k - 1 - i by omega]
  rw [a, b]
theorem digits_len (N k : Nat) : (digits N k).length = k := by
  unfold digits
  rw [List.length_map, List.length_range]
theorem digits_bits (N k : Nat) : bits (digits N k) := fun c hc => by
  unfold digits at hc
  obtain ⟨i, _, rfl⟩ := List.mem_map.mp hc
  omega
theorem numOf_app (a b : List Int) : numOf (a ++ b) = numOf a * 2 ^ b.length + numOf b := by
  have key : ∀ (b : List Int) (n : Int), b.foldl (fun n c => 2 * n + c) n = n * 2 ^ b.length + b.foldl (fun n c => 2 * n + c) 0 := by
    intro b
    induction b with
    | nil => intro n; simp
    | cons c r ih =>
      intro n
      rw [List.foldl_cons, List.foldl_cons, ih (2 * n + c), ih (2 * 0 + c), List.length_cons]
      have e : (2 : Int) ^ (r.length + 1) = 2 * 2 ^ r.length := by rw [Int.pow_succ, Int.mul_comm]
      rw [e]
      generalize (2 : Int) ^ r.length = z
      generalize List.foldl (fun n c => 2 * n + c) 0 r = y
      rw [Int.add_mul, Int.mul_zero, Int.zero_add, Int.mul_comm 2 n, Int.mul_assoc n 2 z]
      omega
  unfold numOf
  rw [List.foldl_append]
  exact key b _
theorem numOf_one (c : Int) : numOf [c] = c := by
  unfold numOf
  simp
theorem numOf_cons (c : Int) (r : List Int) : numOf (c :: r) = c * 2 ^ r.length + numOf r := by
  rw [show c :: r = [c] ++ r from rfl, numOf_app, numOf_one]
theorem numOf_digits (N : Nat) : ∀ W : Nat, numOf (digits N W) = ((N % 2 ^ W : Nat) : Int)
  | 0 => by
    rw [Nat.pow_zero, Nat.mod_one]
    rfl
  | k + 1 => by
    rw [digits_succ, numOf_cons, numOf_digits N k, digits_len, Nat.mod_pow_succ, Int.natCast_add, Int.natCast_mul, Int.natCast_pow]
    rw [Int.mul_comm, Int.add_comm]
    rfl
theorem numOf_inj : ∀ {a b : List Int}, bits a → bits b → a.length = b.length → numOf a = numOf b → a = b
  | [], [], _, _, _, _ => rfl
  | [], _ :: _, _, _, h, _ => by cases h
  | _ :: _, [], _, _, h, _ => by cases h
  | c :: r, d :: t, ha, hb, h, e => by
    have hr : bits r := fun x hx => ha x (List.mem_cons_of_mem _ hx)
    have ht : bits t := fun x hx => hb x (List.mem_cons_of_mem _ hx)
    have hl : r.length = t.length := by simpa using h
    rw [numOf_cons, numOf_cons, hl] at e
    have n1 := numOf_at hr
    have n2 := numOf_at ht
    rw [hl] at n1
    have hc := ha c (List.mem_cons_self ..)
    have hd := hb d (List.mem_cons_self ..)
    have p0 : (0 : Int) < 2 ^ t.length := Int.pow_pos (by decide)
    generalize (2 : Int) ^ t.length = z at e n1 n2 p0
    have cd : c = d := by
      rcases hc with rfl | rfl <;> rcases hd with rfl | rfl <;> first | rfl | (exfalso; omega)
    subst cd
    rw [numOf_inj hr ht hl (by omega)]
theorem digits_num {ns : List Int} (h : bits ns) : digits (numOf ns).toNat ns.length = ns := by
  have n := numOf_at h
  refine numOf_inj (digits_bits _ _) h (digits_len _ _) ?_
  rw [numOf_digits, Nat.mod_eq_of_lt]
  · omega
  · rw [← pow_cast] at n
    omega
theorem sweep_get {r : Nat} {ts cs : List Int} {i : Nat} (h : i < cs.length - 2 * r) : (sweepOf r ts cs)[i]? = some (cellAt r ts cs i) := by
  unfold sweepOf
  rw [List.getElem?_map, List.getElem?_range h]
  rfl
theorem list_same {α : Type} {a b : List α} {n : Nat} (ha : a.length = n) (hb : b.length = n) (h : ∀ i, i < n → a[i]? = b[i]?) : a = b := by
  refine List.ext_getElem? fun i => ?_
  by_cases c : i < n
  · exact h i c
  · rw [List.getElem?_eq_none (by omega), List.getElem?_eq_none (by omega)]
theorem win_cut {cs : List Int} {i j m k : Nat} (h : j + k ≤ m) : ((((cs.drop i).take m).drop j).take k) = (cs.drop (i + j)).take k := by
  rw [List.drop_take, List.take_take, List.drop_drop, Nat.min_eq_left (by omega)]
theorem cell_cut {r : Nat} {ts cs : List Int} {i j m : Nat} (h : j + (2 * r + 1) ≤ m) : cellAt r ts ((cs.drop i).take m) j = cellAt r ts cs (i + j) := by
  unfold cellAt
  rw [win_cut h]
theorem sweep_cut {r : Nat} {ts cs : List Int} {i m : Nat} (h : i + m + 2 * r ≤ cs.length) : ((sweepOf r ts cs).drop i).take m = sweepOf r ts ((cs.drop i).take (m + 2 * r)) := by
  have l1 : ((cs.drop i).take (m + 2 * r)).length = m + 2 * r := by
    rw [List.length_take, List.length_drop]
    omega
  refine list_same (n := m) ?_ ?_ fun j hj => ?_
  · rw [List.length_take, List.length_drop, sweep_len]
    omega
  · rw [sweep_len, l1]
    omega
  · rw [List.getElem?_take_of_lt hj, List.getElem?_drop, sweep_get (by omega), sweep_get (by rw [l1]; omega), cell_cut (by omega)]
def g2 (r : Nat) (ts : List Int) (s : Nat) (us cs : List Int) : Int := (sweepOf s us (sweepOf r ts cs)).getD 0 0
def behindT (r : Nat) (ts : List Int) (s : Nat) (us : List Int) : List Int := (List.range (2 ^ (2 * (r + s) + 1))).map fun n => g2 r ts s us (digits n (2 * (r + s) + 1))
theorem behind_len (r : Nat) (ts : List Int) (s : Nat) (us : List Int) : (behindT r ts s us).length = 2 ^ (2 * (r + s) + 1) := by
  unfold behindT
  rw [List.length_map, List.length_range]
theorem g2_bit {r : Nat} {ts : List Int} {s : Nat} {us cs : List Int} (h : bits us) : g2 r ts s us cs = 0 ∨ g2 r ts s us cs = 1 := by
  unfold g2
  rw [List.getD_eq_getElem?_getD]
  cases e : (sweepOf s us (sweepOf r ts cs))[0]? with
  | none => exact .inl rfl
  | some c => exact sweep_bits h c (List.mem_of_getElem? e)
theorem behind_bits {r : Nat} {ts : List Int} {s : Nat} {us : List Int} (h : bits us) : bits (behindT r ts s us) := fun c hc => by
  obtain ⟨n, _, rfl⟩ := List.mem_map.mp hc
  exact g2_bit h
theorem getD_of {ts : List Int} {i : Nat} {c : Int} (h : ts[i]? = some c) : ts.getD i 0 = c := by
  rw [List.getD_eq_getElem?_getD, h]
  rfl
theorem g2_one {r : Nat} {ts : List Int} {s : Nat} {us cs : List Int} (h : cs.length = 2 * (r + s) + 1) : sweepOf s us (sweepOf r ts cs) = [g2 r ts s us cs] := by
  have l1 : (sweepOf s us (sweepOf r ts cs)).length = 1 := by
    rw [sweep_len, sweep_len]
    omega
  unfold g2
  match h : sweepOf s us (sweepOf r ts cs), l1 with
  | [c], _ => rfl
theorem sweep_sweep {r : Nat} {ts : List Int} {s : Nat} {us cs : List Int} (hb : bits cs) : sweepOf (r + s) (behindT r ts s us) cs = sweepOf s us (sweepOf r ts cs) := by
  refine list_same (n := cs.length - 2 * (r + s)) (sweep_len ..) (by rw [sweep_len, sweep_len]; omega) fun i hi => ?_
  rw [sweep_get hi, sweep_get (by rw [sweep_len]; omega)]
  refine congrArg some ?_
  have lw : ((cs.drop i).take (2 * (r + s) + 1)).length = 2 * (r + s) + 1 := by
    rw [List.length_take, List.length_drop]
    omega
  have hw := bits_take (bits_drop hb i) (2 * (r + s) + 1)
  have e1 : cellAt (r + s) (behindT r ts s us) cs i = g2 r ts s us ((cs.drop i).take (2 * (r + s) + 1)) := by
    have nl := numOf_at hw
    have dn := digits_num hw
    rw [lw, ← pow_cast] at nl
    rw [lw] at dn
    unfold cellAt
    refine getD_of ?_
    unfold behindT
    rw [List.getElem?_map, List.getElem?_range (by omega)]
    show some (g2 r ts s us (digits _ _)) = _
    rw [dn]
  rw [e1]
  unfold g2
  refine getD_of ?_
  rw [sweep_get (by rw [sweep_len, lw]; omega)]
  refine congrArg some ?_
  have e2 : sweepOf r ts ((cs.drop i).take (2 * (r + s) + 1)) = ((sweepOf r ts cs).drop i).take (2 * s + 1) := by
    rw [sweep_cut (by omega), show 2 * s + 1 + 2 * r = 2 * (r + s) + 1 by omega]
  rw [e2, cell_cut (by omega), Nat.add_zero]
theorem behind_assoc {r s u : Nat} {ts us vs : List Int} (ht : bits ts) : behindT (r + s) (behindT r ts s us) u vs = behindT r ts (s + u) (behindT s us u vs) := by
  unfold behindT
  rw [Nat.add_assoc]
  refine List.map_congr_left fun n _ => ?_
  show g2 (r + s) (behindT r ts s us) u vs _ = g2 r ts (s + u) (behindT s us u vs) _
  unfold g2
  rw [sweep_sweep (digits_bits _ _), sweep_sweep (sweep_bits ht)]
theorem sweep_same {cs : List Int} (hb : bits cs) : sweepOf 0 [0, 1] cs = cs := by
  refine list_same (n := cs.length) (sweep_len ..) rfl fun i hi => ?_
  rw [sweep_get (by omega), List.getElem?_eq_getElem hi]
  refine congrArg some ?_
  unfold cellAt
  rw [show (cs.drop i).take (2 * 0 + 1) = [cs[i]] by rw [List.drop_eq_getElem_cons hi]; rfl, numOf_one]
  rcases hb _ (List.getElem_mem hi) with e | e <;> rw [e] <;> rfl
theorem digit_cell {r : Nat} {ts : List Int} {n : Nat} (h : n < 2 ^ (2 * r + 1)) : (sweepOf r ts (digits n (2 * r + 1))).getD 0 0 = ts.getD n 0 := by
  refine getD_of ?_
  rw [sweep_get (by rw [digits_len]; omega)]
  refine congrArg some ?_
  unfold cellAt
  rw [List.drop_zero, List.take_of_length_le (by rw [digits_len]; exact Nat.le_refl _), numOf_digits, Nat.mod_eq_of_lt h]
  rfl
theorem tab_back {r : Nat} {ts : List Int} (lt : ts.length = 2 ^ (2 * r + 1)) : (List.range (2 ^ (2 * r + 1))).map (fun n => ts.getD n 0) = ts := by
  refine list_same (n := 2 ^ (2 * r + 1)) (by rw [List.length_map, List.length_range]) lt fun i hi => ?_
  rw [List.getElem?_map, List.getElem?_range hi, List.getElem?_eq_getElem (by omega)]
  show some (ts.getD i 0) = _
  rw [List.getD_eq_getElem?_getD, List.getElem?_eq_getElem (by omega)]
  rfl
theorem behind_same {r : Nat} {ts : List Int} (lt : ts.length = 2 ^ (2 * r + 1)) (ht : bits ts) : behindT r ts 0 [0, 1] = ts := by
  refine Eq.trans ?_ (tab_back lt)
  unfold behindT
  rw [Nat.add_zero]
  refine List.map_congr_left fun n hn => ?_
  unfold g2
  rw [sweep_same (sweep_bits ht)]
  exact digit_cell (List.mem_range.mp hn)
theorem same_behind {r : Nat} {ts : List Int} (lt : ts.length = 2 ^ (2 * r + 1)) : behindT 0 [0, 1] r ts = ts := by
  refine Eq.trans ?_ (tab_back lt)
  unfold behindT
  rw [Nat.zero_add]
  refine List.map_congr_left fun n hn => ?_
  unfold g2
  rw [sweep_same (digits_bits _ _)]
  exact digit_cell (List.mem_range.mp hn)
/-! ### light cells around -/
def pad (a b : Nat) (cs : List Int) : List Int := zeros a ++ cs ++ zeros b
theorem pad_len (a b : Nat) (cs : List Int) : (pad a b cs).length = a + cs.length + b := by
  unfold pad zeros
  rw [List.length_append, List.length_append, List.length_replicate, List.length_replicate]
theorem zeros_add (a b : Nat) : zeros (a + b) = zeros a ++ zeros b := by
  unfold zeros
  rw [List.replicate_append_replicate]
theorem pad_drop (k a b : Nat) (cs : List Int) : (pad (k + a) b cs).drop k = pad a b cs := by
  unfold pad
  rw [zeros_add, List.append_assoc, List.append_assoc, List.drop_append_of_le_length (by unfold zeros; rw [List.length_replicate]; exact Nat.le_refl _), List.drop_of_length_le (by unfold zeros; rw [List.length_replicate]; exact Nat.le_refl _), List.nil_append, List.append_assoc]
theorem pad_take {a b k m : Nat} {cs : List Int} (h : m ≤ a + cs.length + b) : (pad a (b + k) cs).take m = (pad a b cs).take m := by
  have e : pad a (b + k) cs = pad a b cs ++ zeros k := by
    unfold pad
    rw [zeros_add]
    simp only [List.append_assoc]
  rw [e, List.take_append_of_le_length (by rw [pad_len]; exact h)]
theorem pad_pad (a b c d : Nat) (cs : List Int) : pad a b (pad c d cs) = pad (a + c) (d + b) cs := by
  unfold pad
  rw [zeros_add, zeros_add]
  simp only [List.append_assoc]
theorem pad_bits {a b : Nat} {cs : List Int} (h : bits cs) : bits (pad a b cs) := ((zeros_bits a).app h).app (zeros_bits b)
theorem mid_cut {S : List Int} {s i m : Nat} (h1 : s ≤ i) (h2 : i - s + m ≤ S.length) : ((pad s s S).drop i).take m = (S.drop (i - s)).take m := by
  rw [show i = s + (i - s) by omega, ← List.drop_drop, show pad s s S = pad (s + 0) s S by rw [Nat.add_zero], pad_drop, show s + (i - s) - s = i - s by omega]
  unfold pad
  rw [show zeros 0 = [] from rfl, List.nil_append, List.drop_append_of_le_length (by omega), List.take_append_of_le_length (by rw [List.length_drop]; omega)]
theorem swept_pad (r : Nat) (ts cs : List Int) : sweptOf r ts cs = sweepOf r ts (pad r r cs) := rfl
theorem two_same {r s : Nat} {ts us cs : List Int} (hs : s ≤ 8) (hb : bits cs) : ((sweptOf s us (sweptOf r ts (zeros 8 ++ cs ++ zeros 8))).drop 8).take cs.length = sweptOf (r + s) (behindT r ts s us) cs := by
  rw [swept_pad (r + s), sweep_sweep (pad_bits hb)]
  show ((sweepOf s us (pad s s (sweepOf r ts (pad r r (pad 8 8 cs))))).drop 8).take cs.length = _
  rw [pad_pad]
  have lA : (sweepOf r ts (pad (r + 8) (8 + r) cs)).length = cs.length + 16 := by
    rw [sweep_len, pad_len]
    omega
  rw [sweep_cut (by rw [pad_len, lA]; omega), mid_cut hs (by rw [lA]; omega), sweep_cut (by rw [pad_len]; omega)]
  have e : ((pad (r + 8) (8 + r) cs).drop (8 - s)).take (cs.length + 2 * s + 2 * r) = pad (r + s) (r + s) cs := by
    rw [show r + 8 = (8 - s) + (r + s) by omega, pad_drop, show 8 + r = (r + s) + (8 - s) by omega, pad_take (by omega), List.take_of_length_le]
    rw [pad_len]
    omega
  rw [e]
theorem plain_same {r s : Nat} {ts us cs : List Int} {i : Nat} (hb : bits cs) (h1 : s ≤ i) (h2 : i + s < cs.length) : (sweptOf s us (sweptOf r ts cs))[i]? = (sweptOf (r + s) (behindT r ts s us) cs)[i]? := by
  rw [swept_pad (r + s), sweep_sweep (pad_bits hb)]
  show (sweepOf s us (pad s s (sweepOf r ts (pad r r cs))))[i]? = _
  have lA : (sweepOf r ts (pad r r cs)).length = cs.length := by
    rw [sweep_len, pad_len]
    omega
  rw [sweep_get (by rw [pad_len, lA]; omega), sweep_get (by rw [sweep_len, pad_len]; omega)]
  refine congrArg some ?_
  unfold cellAt
  rw [mid_cut h1 (by rw [lA]; omega), sweep_cut (by rw [pad_len]; omega), sweep_cut (by rw [pad_len]; omega)]
  have e : ((pad r r cs).drop (i - s)).take (2 * s + 1 + 2 * r) = ((pad (r + s) (r + s) cs).drop i).take (2 * s + 1 + 2 * r) := by
    rw [show i = s + (i - s) by omega, show r + s = s + r by omega, ← List.drop_drop, pad_drop, show s + (i - s) - s = i - s by omega]
    have t1 : ∀ (l : List Int) (a b : Nat), (l.drop a).take b = (l.take (a + b)).drop a := fun l a b => by rw [List.drop_take]; congr 1; omega
    rw [t1, t1, show s + r = r + s by omega, pad_take (by omega)]
  rw [e]
end

end K33
namespace K33
open PySem PySem.Spec PyProof.Rows L2 SL
section
variable {P : Program} {w : World} {K : PySem.W.Frag} {mg : Str → Option Value} {base : Heap} {cR iR cN iN cB iB cU fU gU cL : Addr} {fdU fdG : FuncData} {f : Addr} {fd : FuncData}
/-! ### all rows of a length, of all lengths -/
def rowsN (L : Nat) : List (List Int) := (List.range (2 ^ L)).map fun n => digits n L
theorem rowsN_len (L : Nat) : (rowsN L).length = 2 ^ L := by
  unfold rowsN
  rw [List.length_map, List.length_range]
theorem rowsN_get {L n : Nat} (h : n < 2 ^ L) : (rowsN L)[n]? = some (digits n L) := by
  unfold rowsN
  rw [List.getElem?_map, List.getElem?_range h]
  rfl
theorem rowsN_row {L : Nat} {r : List Int} (h : r ∈ rowsN L) : r.length = L ∧ bits r := by
  obtain ⟨n, _, rfl⟩ := List.mem_map.mp h
  exact ⟨digits_len _ _, digits_bits _ _⟩
theorem num_lt {r : List Int} (h : bits r) : (numOf r).toNat < 2 ^ r.length := by
  obtain ⟨h0, h1⟩ := numOf_at h
  rw [← pow_cast] at h1
  omega
theorem rowsN_mem {L : Nat} {r : List Int} (l : r.length = L) (b : bits r) : r ∈ rowsN L := by
  subst l
  exact List.mem_map.mpr ⟨(numOf r).toNat, List.mem_range.mpr (num_lt b), digits_num b⟩
theorem num_digits {n L : Nat} (h : n < 2 ^ L) : numOf (digits n L) = (n : Int) := by
  rw [numOf_digits, Nat.mod_eq_of_lt h]
theorem code_num : ∀ r : List Int, TS.code 2 r = numOf r
  | [] => rfl
  | c :: r => by
    show c * 2 ^ r.length + TS.code 2 r = _
    rw [code_num r, numOf_cons]
theorem rowsN_up (L : Nat) : (rowsN L).Pairwise (fun a b => TS.code 2 a < TS.code 2 b) := by
  unfold rowsN
  rw [List.pairwise_map]
  refine List.Pairwise.imp_of_mem ?_ List.pairwise_lt_range
  intro a b ha hb lt
  rw [code_num, code_num, num_digits (List.mem_range.mp ha), num_digits (List.mem_range.mp hb)]
  omega
theorem gen_nodup : ∀ n, (genRows n).Nodup
  | 0 => by simp [genRows]
  | n + 1 => by
    show ((genRows n).map (· ++ [0]) ++ (genRows n).map (· ++ [1])).Nodup
    have one : ∀ c : Int, ((genRows n).map (· ++ [c])).Nodup := fun c => by
      show List.Pairwise _ _
      rw [List.pairwise_map]
      exact (gen_nodup n).imp fun {a b} ne e => ne (List.append_cancel_right e)
    rw [List.nodup_append]
    refine ⟨one 0, one 1, fun a ha b hb e => ?_⟩
    obtain ⟨x, _, rfl⟩ := List.mem_map.mp ha
    obtain ⟨y, _, rfl⟩ := List.mem_map.mp hb
    have z := (List.append_inj' e rfl).2
    cases z
theorem gen_mem : ∀ {n : Nat} {r : List Int}, r.length = n → bits r → r ∈ genRows n
  | 0, r, l, _ => by
    rw [List.eq_nil_of_length_eq_zero l]
    exact List.mem_singleton.mpr rfl
  | n + 1, r, l, b => by
    have ne : r ≠ [] := fun z => by rw [z] at l; cases l
    have e := List.dropLast_concat_getLast ne
    have ih := gen_mem (n := n) (r := r.dropLast) (by rw [List.length_dropLast]; omega) fun x hx => b x (List.mem_of_mem_take (by rw [List.dropLast_eq_take] at hx; exact hx))
    show r ∈ (genRows n).map (· ++ [0]) ++ (genRows n).map (· ++ [1])
    rcases b _ (List.getLast_mem ne) with q | q
    · exact List.mem_append.mpr (.inl (List.mem_map.mpr ⟨_, ih, by rw [← q]; exact e⟩))
    · exact List.mem_append.mpr (.inr (List.mem_map.mpr ⟨_, ih, by rw [← q]; exact e⟩))
theorem rows_eq {n : Nat} {rs : List (List Int)} (pm : rs.Perm (genRows n)) (pw : rs.Pairwise (fun a b => TS.code 2 a ≤ TS.code 2 b)) : rs = rowsN n := by
  have nd : (rowsN n).Nodup := (rowsN_up n).imp fun {a b} lt e => by rw [e] at lt; omega
  have p2 : (genRows n).Perm (rowsN n) := (List.perm_ext_iff_of_nodup (gen_nodup n) nd).mpr fun r => ⟨fun h => rowsN_mem (gen_row h).1 (gen_row h).2, fun h => gen_mem (rowsN_row h).1 (rowsN_row h).2⟩
  refine List.Perm.eq_of_pairwise (le := fun a b => TS.code 2 a ≤ TS.code 2 b) (fun a b ha hb h1 h2 => ?_) pw ((rowsN_up n).imp fun {a b} lt => Int.le_of_lt lt) (pm.trans p2)
  obtain ⟨l1, b1⟩ := gen_row (pm.mem_iff.mp ha)
  obtain ⟨l2, b2⟩ := rowsN_row hb
  rw [code_num, code_num] at h1 h2
  exact numOf_inj b1 b2 (by omega) (by omega)
def rowsTill (m : Nat) : List (List Int) := (List.range m).flatMap rowsN
theorem rowsTill_succ (m : Nat) : rowsTill (m + 1) = rowsTill m ++ rowsN m := by
  unfold rowsTill
  rw [List.range_succ, List.flatMap_append]
  simp
theorem rowsTill_len : ∀ m, (rowsTill m).length + 1 = 2 ^ m
  | 0 => rfl
  | m + 1 => by
    have ih := rowsTill_len m
    rw [rowsTill_succ, List.length_append, rowsN_len, Nat.pow_succ]
    omega
theorem rowsTill_row {m : Nat} {r : List Int} (h : r ∈ rowsTill m) : r.length < m ∧ bits r := by
  obtain ⟨L, hL, hr⟩ := List.mem_flatMap.mp h
  obtain ⟨l, b⟩ := rowsN_row hr
  have := List.mem_range.mp hL
  exact ⟨by omega, b⟩
theorem len256 {m : Nat} (h : m ≤ 8) : 2 ^ m ≤ 256 := Nat.le_trans (Nat.pow_le_pow_right (by decide) h) (by decide)
theorem RowsI.offL {H : Hp} {D : Addr} {us : List V} (e : H D = some (.lst us)) : ∀ {vs : List V} {rs : List (List Int)}, RowsI K H vs rs → RowsI K (SL.off H D) vs rs
  | _, _, .nil => .nil
  | _, _, .cons h t => .cons (SqT.offL e h) (RowsI.offL e t)
end

section
variable {P : Program} {w : World} {K : PySem.W.Frag} {mg : Str → Option Value} {base : Heap} {cR iR cN iN cB iB cU fU gU cL : Addr} {fdU fdG : FuncData} {f : Addr} {fd : FuncData}
/-! ### same, behind, _law_two -/
theorem way_ok {r : Nat} {ts : List Int} {d : D} (r3 : r ≤ 3) (hi : itemsD d = some (ts.map D.int)) (lt : ts.length = 2 ^ (2 * r + 1)) (bt : bits ts) : winWay (.int (r : Int)) d = none := by
  show (if withinD 0 3 (.int (r : Int)) = true then (if tabOk (2 ^ (2 * (r : Int).toNat + 1)) d = true then none else some ("table" : Str)) else some ("radius" : Str)) = none
  rw [if_pos (by show (decide (0 ≤ (r : Int)) && decide ((r : Int) ≤ 3)) = true; rw [decide_eq_true (by omega), decide_eq_true (by omega)]; rfl), if_pos]
  rw [tabOk_yes hi, List.length_map, show (r : Int).toNat = r from rfl, decide_eq_true lt, bits_cells bt]
  rfl
theorem ints_inj {ts us : List Int} (h : ts.map D.int = us.map D.int) : us = ts := ((List.map_inj_right fun _ _ q => D.int.inj q).mp h).symm
theorem dt_ints {H : Hp} {a : Addr} {ns : List Int} (h : SqL K H a (ns.map V.int)) (z : ns.length ≤ 100000) : Dt K H (.ref a) (.lst (ns.map D.int)) := .lst h (dts_int ns) (by rw [List.length_map]; exact z)
/-- Window(r, t) of right parts: what it asks, and what it leaves -/
theorem made {H : Hp} {v : V} {r : Nat} {ts : List Int} {d : D} {Q : VK} {E : XK} {cB : Addr} (r3 : r ≤ 3) (lt : ts.length = 2 ^ (2 * r + 1)) (bt : bits ts) (hd : Dt K H v d) (hi : itemsD d = some (ts.map D.int)) (k : ∀ H' o, Same H H' → H o = none → WinAt K cU H' o r ts → Q (.ref o) H') :
    ∀ o dx, H o = none → H dx = none → dx ≠ o → spWin K cB cU (.ref o :: ([.int (r : Int), v] ++ [])) (upd (upd H dx (.own o)) o (.ins cU dx [])) (fun v H2 => v = .non ∧ Q (.ref o) H2) E := fun o dx no ndx ne => by
  have sG : Same H (SL.off (upd (upd H dx (.own o)) o (.ins cU dx [])) o) := (off_of (same_upd ndx) no).trans off_upd
  have way := way_ok r3 hi lt bt
  refine ⟨o, dx, _, _, _, _, H, rfl, upd_same, sG, .int (r : Int), hd, fun part z => absurd (way.symm.trans z) (fun y => nomatch y), fun r' ts' _ y1 y2 H' s' hW => ⟨rfl, ?_⟩⟩
  have er : (r : Int) = (r' : Int) := D.int.inj y1
  obtain rfl : r' = r := by omega
  obtain rfl := ints_inj (Option.some.inj (hi.symm.trans y2))
  exact k H' o s' no hW
theorem made1 {H : Hp} {v : V} {r : Nat} {ts : List Int} {d : D} {E : XK} {cB o dx : Addr} (no : H o = none) (ndx : H dx = none) (ne : dx ≠ o) (r3 : r ≤ 3) (lt : ts.length = 2 ^ (2 * r + 1)) (bt : bits ts) (hd : Dt K H v d) (hi : itemsD d = some (ts.map D.int)) {R : Hp → Prop} (k : ∀ H', Same H H' → WinAt K cU H' o r ts → R H') :
    spWin K cB cU (.ref o :: ([.int (r : Int), v] ++ [])) (upd (upd H dx (.own o)) o (.ins cU dx [])) (fun v H2 => v = .non ∧ R H2) E := by
  have sG : Same H (SL.off (upd (upd H dx (.own o)) o (.ins cU dx [])) o) := (off_of (same_upd ndx) no).trans off_upd
  have way := way_ok r3 hi lt bt
  refine ⟨o, dx, _, _, _, _, H, rfl, upd_same, sG, .int (r : Int), hd, fun part z => absurd (way.symm.trans z) (fun y => nomatch y), fun r' ts' _ y1 y2 H' s' hW => ⟨rfl, ?_⟩⟩
  have er : (r : Int) = (r' : Int) := D.int.inj y1
  obtain rfl : r' = r := by omega
  obtain rfl := ints_inj (Option.some.inj (hi.symm.trans y2))
  exact k H' s' hW
theorem rowT {cs : List Int} (h : bits cs) : rowD (.tup (cs.map D.int)) = true := bits_cells h
theorem sc_same : FnScope [] [] (defScope s_same) := ⟨rfl, rfl, rfl, by decide +kernel, rfl, by decide +kernel, by decide +kernel⟩
def spSame0 (K : PySem.W.Frag) (cU : Addr) : Sp := fun vs H Q _ => vs = [] ∧ ∀ H' o, Same H H' → H o = none → WinAt K cU H' o 0 [0, 1] → Q (.ref o) H'
theorem ok_same (M : MF P w K mg cR iR cN iN cB iB cU fU gU cL) (OW : FnOk P w K mg base (L2.CX P w) 8 fU fdU ["self", "radius", "table"] (spWin K cB cU)) (BW : Binds K fdU ["self", "radius", "table"] []) (F : Fun K "same" "same" s_same f fd) : FnOk P w K mg base CX0 10 f fd [] (spSame0 K cU) := by
  refine F.ok (k := 9) sc_same (fun vs H Q E h => ?_) (fun cdv A outer s H vs Q E hr h => ?_)
  · obtain ⟨rfl, _⟩ := h
    rfl
  · obtain ⟨rfl, q⟩ := h
    refine ⟨_, (pss_one (ps_ret (pe_make M.mk_Window OW (hr.mono (by decide)) (by rfl) M.g_Window BW .nil passL (pa_cons pe_int (pa_cons (pe_tup (pa_cons pe_int (pa_cons pe_int pa_nil))) pa_nil))))), ?_⟩
    refine ⟨few (n := 2) (by decide), fun t nt => ?_⟩
    refine made (r := 0) (ts := [0, 1]) (by decide) rfl (bits.cons (.inl rfl) (bits.cons (.inr rfl) bits.nil)) (dt_row (ns := [0, 1]) (SqT.of upd_same) (by decide)) rfl fun H' o s' no hW => ?_
    exact q H' o ((same_upd nt).trans s') ((same_upd nt).free no) hW
end

end K33
namespace K33
open PySem PySem.Spec PyProof.Rows L2 SL
section
/-! ### numbers under states, as a dict keeps them -/
def kvsOf (es : List (Nat × Int)) : List (Key × V) := es.map fun p => (Sum.inl (p.1 : Int), V.int p.2)
def getE (es : List (Nat × Int)) (e : Nat) : Option Int := (es.find? fun p => decide (p.1 = e)).map (·.2)
def putE (es : List (Nat × Int)) (e : Nat) (v : Int) : List (Nat × Int) := if (es.any fun p => decide (p.1 = e)) = true then es.map (fun p => if p.1 = e then (p.1, v) else p) else es ++ [(e, v)]
theorem inl_eq {a b : Nat} : ((Sum.inl (a : Int) : Key) = Sum.inl (b : Int)) ↔ a = b := ⟨fun h => by have := Sum.inl.inj h; omega, fun h => by rw [h]⟩
theorem val_of (e : Nat) : ∀ es : List (Nat × Int), valV (kvsOf es) (Sum.inl (e : Int)) = (getE es e).map V.int
  | [] => rfl
  | p :: r => by
    have ih := val_of e r
    by_cases c : p.1 = e
    · have h1 : valV (kvsOf (p :: r)) (Sum.inl (e : Int)) = some (V.int p.2) := valV_pos (p := (Sum.inl (p.1 : Int), V.int p.2)) (r := kvsOf r) (by rw [c])
      have h2 : getE (p :: r) e = some p.2 := by
        unfold getE
        rw [List.find?_cons, decide_eq_true c]
        rfl
      rw [h1, h2]
      rfl
    · have h1 : valV (kvsOf (p :: r)) (Sum.inl (e : Int)) = valV (kvsOf r) (Sum.inl (e : Int)) := valV_neg (p := (Sum.inl (p.1 : Int), V.int p.2)) (r := kvsOf r) (fun h => c (inl_eq.mp h))
      have h2 : getE (p :: r) e = getE r e := by
        unfold getE
        rw [List.find?_cons, decide_eq_false c]
      rw [h1, h2, ih]
theorem put_of (e : Nat) (v : Int) (es : List (Nat × Int)) : putK (kvsOf es) (Sum.inl (e : Int)) (V.int v) = kvsOf (putE es e v) := by
  unfold putK putE
  have ha : ((kvsOf es).any fun kv => decide (kv.1 = Sum.inl (e : Int))) = es.any fun p => decide (p.1 = e) := by
    unfold kvsOf
    rw [List.any_map]
    exact congrArg (fun g => es.any g) (funext fun p => decide_eq_decide.mpr inl_eq)
  rw [ha]
  by_cases c : (es.any fun p => decide (p.1 = e)) = true
  · rw [if_pos c, if_pos c]
    unfold kvsOf
    rw [List.map_map, List.map_map]
    refine List.map_congr_left fun p _ => ?_
    show (if (Sum.inl (p.1 : Int) : Key) = Sum.inl (e : Int) then ((Sum.inl (p.1 : Int) : Key), V.int v) else (Sum.inl (p.1 : Int), V.int p.2)) = (fun p : Nat × Int => ((Sum.inl (p.1 : Int) : Key), V.int p.2)) (if p.1 = e then (p.1, v) else p)
    by_cases d : p.1 = e
    · rw [if_pos (inl_eq.mpr d), if_pos d]
    · rw [if_neg (fun h => d (inl_eq.mp h)), if_neg d]
  · rw [if_neg c, if_neg c]
    unfold kvsOf
    rw [List.map_append]
    rfl
def wsum (es : List (Nat × Int)) (w : Nat → Int) : Int := (es.map fun p => p.2 * w p.1).sum
theorem wsum_cons (p : Nat × Int) (r : List (Nat × Int)) (w : Nat → Int) : wsum (p :: r) w = p.2 * w p.1 + wsum r w := by
  unfold wsum
  rw [List.map_cons, List.sum_cons]
theorem wsum_app (a b : List (Nat × Int)) (w : Nat → Int) : wsum (a ++ b) w = wsum a w + wsum b w := by
  unfold wsum
  rw [List.map_append, List.sum_append]
theorem wsum_map {e : Nat} {v : Int} (w : Nat → Int) : ∀ {es : List (Nat × Int)}, (∀ p ∈ es, p.1 ≠ e) → wsum (es.map fun p => if p.1 = e then (p.1, v) else p) w = wsum es w
  | [], _ => rfl
  | p :: r, h => by
    rw [List.map_cons, wsum_cons, wsum_cons, wsum_map w fun q hq => h q (List.mem_cons_of_mem _ hq), if_neg (h p (List.mem_cons_self ..))]
theorem put_sum {e : Nat} {m : Int} (w : Nat → Int) : ∀ {es : List (Nat × Int)}, (es.map (·.1)).Nodup → wsum (putE es e ((getE es e).getD 0 + m)) w = wsum es w + m * w e
  | [], _ => by
    show wsum [(e, (0 : Int) + m)] w = _
    rw [wsum_cons]
    show (0 + m) * w e + 0 = 0 + m * w e
    rw [Int.zero_add, Int.zero_add, Int.add_zero]
  | p :: r, nd => by
    rw [List.map_cons, List.nodup_cons] at nd
    by_cases c : p.1 = e
    · have g : getE (p :: r) e = some p.2 := by
        unfold getE
        rw [List.find?_cons, decide_eq_true c]
        rfl
      have a : ((p :: r).any fun q => decide (q.1 = e)) = true := by
        rw [List.any_cons, decide_eq_true c]
        rfl
      unfold putE
      rw [if_pos a, g, List.map_cons, wsum_cons, if_pos c, wsum_map w (fun q hq h => nd.1 (by rw [c, ← h]; exact List.mem_map_of_mem hq)), wsum_cons]
      show (p.2 + m) * w p.1 + wsum r w = _
      rw [c, Int.add_mul]
      omega
    · have g : getE (p :: r) e = getE r e := by
        unfold getE
        rw [List.find?_cons, decide_eq_false c]
      have a : ((p :: r).any fun q => decide (q.1 = e)) = (r.any fun q => decide (q.1 = e)) := by
        rw [List.any_cons, decide_eq_false c, Bool.false_or]
      have ih := put_sum (m := m) (e := e) w nd.2
      have step : ∀ v, putE (p :: r) e v = p :: putE r e v := fun v => by
        unfold putE
        rw [a]
        by_cases d : (r.any fun q => decide (q.1 = e)) = true
        · rw [if_pos d, if_pos d, List.map_cons, if_neg c]
        · rw [if_neg d, if_neg d]
          rfl
      rw [g, step, wsum_cons, wsum_cons, ih]
      omega
theorem put_mem {e : Nat} {v : Int} {es : List (Nat × Int)} {p : Nat × Int} (h : p ∈ putE es e v) : p.1 = e ∨ p ∈ es := by
  unfold putE at h
  by_cases c : (es.any fun p => decide (p.1 = e)) = true
  · rw [if_pos c] at h
    obtain ⟨q, hq, rfl⟩ := List.mem_map.mp h
    by_cases d : q.1 = e
    · rw [if_pos d]
      exact .inl d
    · rw [if_neg d]
      exact .inr hq
  · rw [if_neg c] at h
    rcases List.mem_append.mp h with h | h
    · exact .inr h
    · rw [List.mem_singleton.mp h]
      exact .inl rfl
theorem put_nodup {e : Nat} {v : Int} {es : List (Nat × Int)} (nd : (es.map (·.1)).Nodup) : ((putE es e v).map (·.1)).Nodup := by
  unfold putE
  by_cases c : (es.any fun p => decide (p.1 = e)) = true
  · rw [if_pos c, List.map_map]
    have e1 : ((fun x : Nat × Int => x.1) ∘ fun p : Nat × Int => if p.1 = e then (p.1, v) else p) = fun x : Nat × Int => x.1 := by
      funext p
      show (if p.1 = e then (p.1, v) else p).1 = p.1
      by_cases d : p.1 = e
      · rw [if_pos d]
      · rw [if_neg d]
    rw [e1]
    exact nd
  · rw [if_neg c, List.map_append, List.nodup_append]
    refine ⟨nd, List.nodup_cons.mpr ⟨(fun h => nomatch h), List.nodup_nil⟩, fun a ha b hb => ?_⟩
    rw [List.mem_singleton.mp hb]
    obtain ⟨p, hp, rfl⟩ := List.mem_map.mp ha
    intro z
    exact c (List.any_eq_true.mpr ⟨p, hp, decide_eq_true z⟩)
theorem few_keys {es : List (Nat × Int)} {m : Nat} (nd : (es.map (·.1)).Nodup) (h : ∀ p ∈ es, p.1 < m) : es.length ≤ m := by
  have z := List.Nodup.length_le_of_subset nd (l₂ := List.range m) fun x hx => by
    obtain ⟨p, hp, rfl⟩ := List.mem_map.mp hx
    exact List.mem_range.mpr (h p hp)
  rw [List.length_map, List.length_range] at z
  exact z
/-- one more cell: allowed, and to what state -/
def okC (r : Nat) (ts : List Int) (i looked : Nat) : Bool := decide (i < r) || decide (ts.getD looked 0 = ((looked / 2 ^ r % 2 : Nat) : Int))
def cellsN (n i : Nat) : List Nat := if i < n then [0, 1] else [0]
/-- how many ways to put k more cells behind i cells, from a state on -/
def ways (r : Nat) (ts : List Int) (n : Nat) : Nat → Nat → Nat → Int
  | 0, _, _ => 1
  | k + 1, i, e => ((cellsN n i).map fun c => if okC r ts i (2 * e + c) = true then ways r ts n k (i + 1) ((2 * e + c) % 2 ^ (2 * r)) else 0).sum
def cnt (r : Nat) (ts : List Int) (n : Nat) : Int := ways r ts n (n + r) 0 0
end

section
variable {P : Program} {w : World} {K : PySem.W.Frag} {mg : Str → Option Value} {base : Heap} {cR iR cN iN cB iB cU fU gU cL : Addr} {fdU fdG : FuncData} {f : Addr} {fd : FuncData}
/-! ### many_rest -/
theorem sc_many_rest : FnScope ["window", "length", "kept", "numbers", "place", "cells", "longer", "ends", "cell", "looked"] ["window", "length"] (defScope s_many_rest) := ⟨rfl, rfl, rfl, by decide +kernel, rfl, by decide +kernel, by decide +kernel⟩
def spMany (K : PySem.W.Frag) (cU cN : Addr) : Sp := fun vs H Q E => ∃ (x : Addr) (r : Nat) (ts : List Int) (lv : V) (T1 : String), vs = [.ref x, lv] ∧ WinAt K cU H x r ts ∧ Knw K H lv T1 ∧ (withinV 0 200 lv = false → raised cN "length" E H) ∧ (withinV 0 200 lv = true → ∃ n : Nat, lv = .int (n : Int) ∧ n ≤ 200 ∧ ∀ H', Same H H' → Q (.int (cnt r ts n)) H')
/-- a dict of numbers: keys below 4 ^ r, weighed as due -/
structure Nm (r : Nat) (es : List (Nat × Int)) (w : Nat → Int) (tot : Int) : Prop where
  nd : (es.map (·.1)).Nodup
  lt : ∀ p ∈ es, p.1 < 2 ^ (2 * r)
  sum : wsum es w = tot
theorem sum_vals (es : List (Nat × Int)) : (es.map (·.2)).sum = wsum es (fun _ => 1) := by
  unfold wsum
  refine congrArg List.sum (List.map_congr_left fun p _ => ?_)
  rw [Int.mul_one]
theorem getE_at {e : Nat} {m : Int} : ∀ {es : List (Nat × Int)} {j : Nat}, (es.map (·.1)).Nodup → es[j]? = some (e, m) → getE es e = some m
  | [], _, _, h => by simp at h
  | p :: r, 0, _, h => by
    simp at h
    subst h
    unfold getE
    rw [List.find?_cons, decide_eq_true rfl]
    rfl
  | p :: r, j + 1, nd, h => by
    rw [List.map_cons, List.nodup_cons] at nd
    have h' : r[j]? = some (e, m) := by simpa using h
    have ne : p.1 ≠ e := fun z => nd.1 (by rw [z]; exact List.mem_map.mpr ⟨(e, m), List.mem_of_getElem? h', rfl⟩)
    have ih := getE_at (j := j) nd.2 h'
    unfold getE at ih ⊢
    rw [List.find?_cons, decide_eq_false ne]
    exact ih
theorem cells_get {n i c : Nat} {y : Nat} (h : (cellsN n i)[c]? = some y) : y ≤ 1 := by
  unfold cellsN at h
  by_cases d : i < n
  · rw [if_pos d] at h
    rcases List.mem_cons.mp (List.mem_of_getElem? h) with z | z
    · omega
    · have := List.mem_singleton.mp z
      omega
  · rw [if_neg d] at h
    have := List.mem_singleton.mp (List.mem_of_getElem? h)
    omega
theorem kvs_vals (es : List (Nat × Int)) : (kvsOf es).map (·.2) = (es.map (·.2)).map V.int := by
  unfold kvsOf
  rw [List.map_map, List.map_map]
  rfl
set_option maxHeartbeats 8000000 in
theorem ok_many_rest (M : MF P w K mg cR iR cN iN cB iB cU fU gU cL) (F_check_within : FnC P w K mg base (L2.CX P w) 4 "check_within" ["thing", "low", "high", "part"] (spCheckWithin K cN)) (F : Fun K "many_rest" "many_rest" s_many_rest f fd) :
    FnOk P w K mg base (L2.CX P w) 6 f fd ["window", "length"] (spMany K cU cN) := by
  refine F.okX sc_many_rest (fun vs H Q E h => ?_) (fun cdv A outer s H vs Q E hr h => ?_)
  · obtain ⟨x, r, ts, lv, T1, rfl, _⟩ := h
    rfl
  · obtain ⟨x, r, ts, lv, T1, rfl, hX, k1, e1, e2⟩ := h
    refine ⟨_, (pss_cons (ps_expr (pe_f F_check_within hr (by omega) (passes_call (takes_of rfl rfl rfl rfl) (fun _ _ _ _ h => h)) (pa_cons (pv 1) (pa_cons pe_int (pa_cons pe_int (pa_cons pe_str pa_nil))))))
      (pss_cons (ps_set (i := 2) sc_many_rest.nd rfl (Or.inl rfl) (pe_op op_sub (pe_op op_oneShl pe_int (pe_op op_mul pe_int (pe_fld (pv 0) rfl))) pe_int))
      (pss_cons (ps_set (i := 3) sc_many_rest.nd rfl (Or.inl rfl) (pe_disp (pps_cons pe_int pe_int pps_nil) (by rfl) (by rfl) (fun z => by cases z) (by decide)))
      (pss_cons (ps_for (passes_of rfl) rfl (pi_range2 (by rfl) M.m_range (pa_cons (pe_un un_neg (pe_fld (pv 0) rfl)) (pa_cons (pv 1) pa_nil))) (pg_name (i := 4) sc_many_rest.nd rfl (Or.inl rfl))
      (Evl.pss_cut (ps_set (i := 5) sc_many_rest.nd rfl (Or.inl rfl) (pe_ifExp (pt_cmpR op_lt (pe_op op_add (pv 4) (pe_fld (pv 0) rfl)) (pv 1) (nomark _)) (pe_tup (pa_cons pe_int (pa_cons pe_int pa_nil))) (pe_tup (pa_cons pe_int pa_nil))))
      (pss_cons (ps_set (i := 6) sc_many_rest.nd rfl (Or.inl rfl) pe_dnewK)
      (pss_cons (ps_lock (ps_for (passes_of rfl) rfl (pi_keys (pv 3)) (pg_name (i := 7) sc_many_rest.nd rfl (Or.inl rfl))
      (pss_one (ps_for (passes_of rfl) rfl (pi_tup (pv 5)) (pg_name (i := 8) sc_many_rest.nd rfl (Or.inl rfl))
      (Evl.pss_cut (ps_set (i := 9) sc_many_rest.nd rfl (Or.inl rfl) (pe_op op_add (pe_op op_mul pe_int (pv 7)) (pv 8)))
      (pss_one (ps_if (PW.pt (pw_or (pt_cmpR op_lt (pv 4) pe_int (nomark _)) (pw_or1 (pt_cmpR op_eq (pe_ix ix_tup (pe_fld (pv 0) rfl) (pv 9) (fun _ _ => rfl)) (pe_op op_odd (pe_op op_shrN (pv 9) (pe_fld (pv 0) rfl)) pe_int) (nomark _)))))
      (pss_one (ps_asg (pe_op op_add (pe_dget2 (hu_of hr) (pv 6) (pe_op op_andM (pv 9) (pv 2)) pe_int ⟨by rfl, by rfl, by rfl, by rfl⟩) (pe_dget (hu_of hr) (pv 3) (pv 7) (fun _ _ => rfl))) (pg_sub (pv 6) (pe_op op_andM (pv 9) (pv 2)) (set_dict (hu_of hr))))) pss_nil)))))))
      (pss_one (ps_set (i := 3) sc_many_rest.nd rfl (Or.inl rfl) (pv 6)))))))
      (pss_one (ps_ret (pe_sumVals rfl (by rfl) M.m_sum (pv 3)))))))), ?_⟩
    refine ⟨lv, rfl, lv, 0, 200, _, T1, rfl, k1, by decide +kernel, fun w1 => ?_, fun w0 d nd => e1 w0 H d (Same.refl H) nd⟩
    obtain ⟨n, rfl, hn, q⟩ := e2 w1
    obtain ⟨dx, a, hx, ha, r3, lt, bt⟩ := id hX
    have pwr : 2 ^ (2 * r) ≤ 64 := Nat.le_trans (Nat.pow_le_pow_right (by decide) (by omega : 2 * r ≤ 6)) (by decide)
    have pw0 : 0 < 2 ^ (2 * r) := Nat.pow_pos (by decide)
    refine ⟨_, rfl, x, cU, dx, _, _, rfl, hx, M.cl_Window, M.n_radius, rfl, _, _, rfl, rfl, .inl ⟨by decide, by decide⟩, 2 * r, rfl, congrArg V.int (by omega), by omega, _, _, rfl, rfl, ?_⟩
    intro d0 nd0
    refine ⟨upd_same, kvsOf [(0, 1)], rfl, by decide, ?_⟩
    have s0 : Same H (upd (upd H d0 (.dK [])) d0 (.dK (mergeK [] (kvsOf [(0, 1)])))) := fun b o e => by
      have nb := ne_of_none e nd0
      rw [upd_ne nb, upd_ne nb]
      exact e
    have es0 : (upd (upd H d0 (.dK [])) d0 (.dK (mergeK [] (kvsOf [(0, 1)])))) d0 = some (.dK (kvsOf [(0, 1)])) := by
      rw [upd_same]
      rfl
    generalize upd (upd H d0 (.dK [])) d0 (.dK (mergeK [] (kvsOf [(0, 1)]))) = H0 at s0 es0 ⊢
    refine ⟨_, rfl, x, cU, dx, _, _, rfl, s0 _ _ hx, M.cl_Window, M.n_radius, rfl, _, rfl, _, rfl, -(r : Int), (n : Int), rfl, ⟨by omega, by omega, by omega, by omega⟩, ?_⟩
    rw [show ((n : Int) - -(r : Int)).toNat = n + r by omega]
    refine for_range (lo := -(r : Int)) (n := n + r) (fun i σ H' => ∃ dN es v4 v5 v6 v7 v8 v9, σ = [some (.ref x), some (.int (n : Int)), some (.int (2 ^ (2 * r) - 1)), some (.ref dN), v4, v5, v6, v7, v8, v9] ∧ Same H H' ∧ H dN = none ∧ H' dN = some (.dK (kvsOf es)) ∧ Nm r es (ways r ts n (n + r - i) i) (cnt r ts n)) ⟨d0, [(0, 1)], none, none, none, none, none, none, rfl, s0, nd0, es0, ⟨by decide, fun p hp => by rw [List.mem_singleton.mp hp]; exact pw0, ?_⟩⟩ ?_ ?_
    · rw [wsum_cons]
      show 1 * ways r ts n (n + r - 0) 0 0 + 0 = _
      rw [Int.one_mul, Int.add_zero]
      rfl
    · rintro i _ H1 hi ⟨dN, es, v4, v5, v6, v7, v8, v9, rfl, s1, ndN, eN, nm⟩
      have epl : -(r : Int) + (i : Nat) + (r : Int) = (i : Int) := by omega
      obtain ⟨k, hk⟩ : ∃ k, n + r - i = k + 1 := ⟨n + r - i - 1, by omega⟩
      have hk' : n + r - (i + 1) = k := by omega
      refine ⟨fun σ G => ∃ p, σ = [some (.ref x), some (.int (n : Int)), some (.int (2 ^ (2 * r) - 1)), some (.ref dN), some (.int (-(r : Int) + (i : Nat))), some (.ref p), v6, v7, v8, v9] ∧ Same H1 G ∧ G p = some (.tup ((cellsN n i).map fun c : Nat => V.int (c : Int))), ?_, ?_⟩
      · refine ⟨_, rfl, _, rfl, x, cU, dx, _, _, rfl, s1 _ _ hx, M.cl_Window, M.n_radius, rfl, _, _, rfl, rfl, _, rfl, _, _, rfl, rfl, _, rfl, ?_⟩
        rw [epl]
        refine ite2 (fun c => ⟨few (n := 2) (by decide), fun p np => ⟨p, rfl, same_upd np, ?_⟩⟩) (fun c => ⟨few (n := 1) (by decide), fun p np => ⟨p, rfl, same_upd np, ?_⟩⟩)
        · have c' : (i : Int) < (n : Int) := of_decide_eq_true c
          rw [upd_same]
          unfold cellsN
          rw [if_pos (by omega)]
          rfl
        · have c' : ¬ (i : Int) < (n : Int) := fun z => c (decide_eq_true z)
          rw [upd_same]
          unfold cellsN
          rw [if_neg (by omega)]
          rfl
      rintro _ G0 ⟨p, rfl, g0, ep⟩
      intro dL ndL
      have g1 := same_upd (o := .dK []) ndL
      have eL1 : upd G0 dL (.dK []) dL = some (.dK (kvsOf [])) := upd_same
      have eN1 := g1 _ _ (g0 _ _ eN)
      have ep1 := g1 _ _ ep
      have s2 := s1.trans (g0.trans g1)
      have ndLH : H dL = none := (s1.trans g0).free ndL
      generalize upd G0 dL (.dK []) = G1 at g1 eL1 eN1 ep1 s2 ⊢
      have nLN : dL ≠ dN := fun z => by rw [z, g0 _ _ eN] at ndL; cases ndL
      refine ⟨dN, .dK (kvsOf es), eN1, trivial, fun od => ?_⟩
      have npN : p ≠ dN := fun z => by rw [z, eN1] at ep1; cases ep1
      have npL : p ≠ dL := fun z => by rw [z, eL1] at ep1; cases ep1
      have hxN : ∀ b o, H b = some o → b ≠ dN := fun b o e => ne_of_none e ndN
      have hxL : ∀ b o, H b = some o → b ≠ dL := fun b o e => ne_of_none e ndLH
      refine ⟨_, rfl, dN, od, rfl, .inl ⟨kvsOf es, upd_same, ?_⟩⟩
      have lk : (kvsOf es).length = es.length := by unfold kvsOf; rw [List.length_map]
      refine for_it (walk_keys (d := dN) (o := od) (kvs := kvsOf es)) (fun j σ G => ∃ es' v7 v8 v9, σ = [some (.ref x), some (.int (n : Int)), some (.int (2 ^ (2 * r) - 1)), some (.ref dN), some (.int (-(r : Int) + (i : Nat))), some (.ref p), some (.ref dL), v7, v8, v9] ∧ Same H G ∧ G dN = some (.frz od (.dK (kvsOf es))) ∧ G p = some (.tup ((cellsN n i).map fun c : Nat => V.int (c : Int))) ∧ G dL = some (.dK (kvsOf es')) ∧ Nm r es' (ways r ts n k (i + 1)) (wsum (es.take j) (ways r ts n (k + 1) i))) ⟨[], v7, v8, v9, rfl, fun b o e => by rw [upd_ne (hxN b o e)]; exact s2 _ _ e, upd_same, by rw [upd_ne npN]; exact ep1, by rw [upd_ne nLN]; exact eL1, ⟨List.nodup_nil, (fun p hp => nomatch hp), rfl⟩⟩ (fun j σ G _ z => by obtain ⟨_, _, _, _, _, _, z, _⟩ := z; exact z) (fun j v σ G3 G4 hj z y => ?_) (fun σ G z => ?_)
      · obtain ⟨es', v7, v8, v9, rfl, s3, eN3, ep3, eL3, nm3⟩ := z
        obtain ⟨rfl, ky, vv, ek, rfl⟩ := y
        obtain ⟨⟨e, m⟩, hem⟩ : ∃ em, es[j]? = some em := ⟨_, List.getElem?_eq_getElem (by rw [← lk]; exact hj)⟩
        have ek' : (kvsOf es)[j]? = some (Sum.inl (e : Int), V.int m) := by
          unfold kvsOf
          rw [List.getElem?_map, hem]
          rfl
        rw [ek'] at ek
        cases ek
        have le : e < 2 ^ (2 * r) := nm.lt _ (List.mem_of_getElem? hem)
        have gE : getE es e = some m := getE_at nm.nd hem
        refine ⟨_, rfl, p, rfl, ⟨_, SqT.of ep3⟩, ?_⟩
        refine for_tup (K := K) (a := p) (xs := (cellsN n i).map fun c : Nat => V.int (c : Int)) (fun c σ G => ∃ es'' v8 v9, σ = [some (.ref x), some (.int (n : Int)), some (.int (2 ^ (2 * r) - 1)), some (.ref dN), some (.int (-(r : Int) + (i : Nat))), some (.ref p), some (.ref dL), some (.int (e : Int)), v8, v9] ∧ Same H G ∧ G dN = some (.frz od (.dK (kvsOf es))) ∧ G p = some (.tup ((cellsN n i).map fun c : Nat => V.int (c : Int))) ∧ G dL = some (.dK (kvsOf es'')) ∧ Nm r es'' (ways r ts n k (i + 1)) (wsum (es.take j) (ways r ts n (k + 1) i) + m * (((cellsN n i).take c).map fun c => if okC r ts i (2 * e + c) = true then ways r ts n k (i + 1) ((2 * e + c) % 2 ^ (2 * r)) else 0).sum)) ⟨es', v8, v9, rfl, s3, eN3, ep3, eL3, ⟨nm3.nd, nm3.lt, by rw [nm3.sum, List.take_zero, List.map_nil, List.sum_nil, Int.mul_zero, Int.add_zero]⟩⟩ (fun c σ G _ z => by obtain ⟨_, _, _, _, _, _, z, _⟩ := z; exact SqT.of z) ?_ ?_
        · rintro c y _ G hy ⟨es'', v8, v9, rfl, s4, eN4, ep4, eL4, nm4⟩
          rw [List.getElem?_map] at hy
          obtain ⟨cell, hc, rfl⟩ := Option.map_eq_some_iff.mp hy
          have cl := cells_get hc
          have pw2 : 2 ^ (2 * r + 1) = 2 * 2 ^ (2 * r) := by rw [Nat.pow_succ]; omega
          have ll : 2 * e + cell < 2 ^ (2 * r + 1) := by omega
          have el : ((2 : Int) * (e : Int) + (cell : Int)) = ((2 * e + cell : Nat) : Int) := by omega
          have exl : ts[2 * e + cell]? = some (ts.getD (2 * e + cell) 0) := by
            rw [List.getD_eq_getElem?_getD, List.getElem?_eq_getElem (by omega)]
            rfl
          have next : okC r ts i (2 * e + cell) = false → Nm r es'' (ways r ts n k (i + 1)) (wsum (es.take j) (ways r ts n (k + 1) i) + m * (((cellsN n i).take (c + 1)).map fun c => if okC r ts i (2 * e + c) = true then ways r ts n k (i + 1) ((2 * e + c) % 2 ^ (2 * r)) else 0).sum) := fun z => by
            refine ⟨nm4.nd, nm4.lt, ?_⟩
            rw [nm4.sum, take_more hc, List.map_append, List.sum_append, List.map_cons, List.map_nil, List.sum_cons, List.sum_nil, z, if_neg (by decide), Int.add_zero, Int.add_zero]
          have yes : okC r ts i (2 * e + cell) = true → Nm r (putE es'' ((2 * e + cell) % 2 ^ (2 * r)) ((getE es'' ((2 * e + cell) % 2 ^ (2 * r))).getD 0 + m)) (ways r ts n k (i + 1)) (wsum (es.take j) (ways r ts n (k + 1) i) + m * (((cellsN n i).take (c + 1)).map fun c => if okC r ts i (2 * e + c) = true then ways r ts n k (i + 1) ((2 * e + c) % 2 ^ (2 * r)) else 0).sum) := fun z => by
            refine ⟨put_nodup nm4.nd, fun q hq => ?_, ?_⟩
            · rcases put_mem hq with e1 | h1
              · rw [e1]
                exact Nat.mod_lt _ pw0
              · exact nm4.lt q h1
            · rw [put_sum _ nm4.nd, nm4.sum, take_more hc, List.map_append, List.sum_append, List.map_cons, List.map_nil, List.sum_cons, List.sum_nil, z, if_pos rfl, Int.add_zero, Int.mul_add, Int.add_assoc]
          have ku := few_keys nm4.nd nm4.lt
          have lk4 : (kvsOf es'').length = es''.length := by unfold kvsOf; rw [List.length_map]
          refine ⟨fun σ G' => G = G' ∧ σ = [some (.ref x), some (.int (n : Int)), some (.int (2 ^ (2 * r) - 1)), some (.ref dN), some (.int (-(r : Int) + (i : Nat))), some (.ref p), some (.ref dL), some (.int (e : Int)), some (.int (cell : Int)), some (.int ((2 * e + cell : Nat) : Int))], ⟨_, rfl, _, _, rfl, rfl, .inl ⟨by omega, by omega⟩, _, rfl, _, _, rfl, rfl, rfl, by rw [← el]; rfl⟩, ?_⟩
          rintro _ _ ⟨rfl, rfl⟩
          have hxG := s4 _ _ hx
          have wX : SqT K G a (ts.map V.int) := Same.seqT ((off_same H x).trans s4) ha
          have em : ((2 * e + cell : Nat) : Int) % 2 ^ (2 * r) = (((2 * e + cell) % 2 ^ (2 * r) : Nat) : Int) := by rw [← pow_cast, Int.natCast_emod]
          have gv : (valV (kvsOf es'') (Sum.inl (((2 * e + cell) % 2 ^ (2 * r) : Nat) : Int))).getD (V.int 0) = V.int ((getE es'' ((2 * e + cell) % 2 ^ (2 * r))).getD 0) := by
            rw [val_of]
            cases getE es'' ((2 * e + cell) % 2 ^ (2 * r)) <;> rfl
          have dN' : DGet G dN (.int (e : Int)) (some (.int m)) := .inl ⟨kvsOf es, Sum.inl (e : Int), .inr ⟨od, eN4⟩, rfl, by rw [val_of, gE]; rfl⟩
          have dL' : DGet G dL (.int (((2 * e + cell) % 2 ^ (2 * r) : Nat) : Int)) (valV (kvsOf es'') (Sum.inl (((2 * e + cell) % 2 ^ (2 * r) : Nat) : Int))) := DGet.k (k := Sum.inl (((2 * e + cell) % 2 ^ (2 * r) : Nat) : Int)) eL4
          have pL' : ∀ v, DPut G dL (.int (((2 * e + cell) % 2 ^ (2 * r) : Nat) : Int)) v (upd G dL (.dK (putK (kvsOf es'') (Sum.inl (((2 * e + cell) % 2 ^ (2 * r) : Nat) : Int)) v))) := fun v => DPut.k (k := Sum.inl (((2 * e + cell) % 2 ^ (2 * r) : Nat) : Int)) eL4 (lineN (by omega))
          refine ⟨_, rfl, _, _, rfl, rfl, _, rfl, ite2 (fun c1 => ?_) (fun c1 => ?_)⟩
          · have ok : okC r ts i (2 * e + cell) = true := by
              unfold okC
              have : -(r : Int) + (i : Nat) < 0 := of_decide_eq_true c1
              rw [decide_eq_true (by omega : i < r)]
              rfl
            refine ⟨_, rfl, dL, rfl, .inl ⟨_, .inl eL4⟩, _, rfl, _, rfl, ((2 * e + cell : Nat) : Int), 2 * r, rfl, rfl, ?_⟩
            rw [em]
            refine ⟨_, dL', _, rfl, _, rfl, dN, _, rfl, dN', _, _, gv, rfl, _, rfl, _, rfl, _, rfl, ((2 * e + cell : Nat) : Int), 2 * r, rfl, rfl, ?_⟩
            rw [em]
            exact ⟨dL, _, rfl, pL' _, _, _, _, rfl, (fun b o e => by rw [upd_ne (hxL b o e)]; exact s4 _ _ e), (by rw [upd_ne nLN.symm]; exact eN4), (by rw [upd_ne npL]; exact ep4), (by rw [upd_same, put_of]), yes ok⟩
          · have c1' : ¬ i < r := fun z => c1 (decide_eq_true (by omega))
            refine ⟨_, rfl, x, cU, dx, _, _, rfl, hxG, M.cl_Window, M.n_table, rfl, _, rfl, a, _, ((2 * e + cell : Nat) : Int), .int (ts.getD (2 * e + cell) 0), rfl, rfl, wX, atI_nat (by rw [List.getElem?_map, exl]; rfl), _, rfl, _, rfl, x, cU, dx, _, _, rfl, hxG, M.cl_Window, M.n_radius, rfl, ((2 * e + cell : Nat) : Int), r, rfl, rfl, (2 * e + cell) / 2 ^ r, by rw [Int.natCast_ediv, Int.natCast_pow]; rfl, rfl, rfl, _, rfl, ite2 (fun c2 => ?_) (fun c2 => ?_)⟩
            · have ok : okC r ts i (2 * e + cell) = true := by
                unfold okC
                rw [decide_eq_true (V.int.inj (of_decide_eq_true c2)), Bool.or_true]
              refine ⟨_, rfl, dL, rfl, .inl ⟨_, .inl eL4⟩, _, rfl, _, rfl, ((2 * e + cell : Nat) : Int), 2 * r, rfl, rfl, ?_⟩
              rw [em]
              refine ⟨_, dL', _, rfl, _, rfl, dN, _, rfl, dN', _, _, gv, rfl, _, rfl, _, rfl, _, rfl, ((2 * e + cell : Nat) : Int), 2 * r, rfl, rfl, ?_⟩
              rw [em]
              exact ⟨dL, _, rfl, pL' _, _, _, _, rfl, (fun b o e => by rw [upd_ne (hxL b o e)]; exact s4 _ _ e), (by rw [upd_ne nLN.symm]; exact eN4), (by rw [upd_ne npL]; exact ep4), (by rw [upd_same, put_of]), yes ok⟩
            · have no : okC r ts i (2 * e + cell) = false := by
                unfold okC
                rw [decide_eq_false c1', decide_eq_false (fun z => c2 (decide_eq_true (by rw [z]))), Bool.or_false]
              exact ⟨_, _, _, rfl, s4, eN4, ep4, eL4, next no⟩
        · rintro _ G ⟨es'', v8, v9, rfl, s4, eN4, ep4, eL4, nm4⟩
          rw [List.length_map, List.take_length] at nm4
          refine ⟨es'', _, _, _, rfl, s4, eN4, ep4, eL4, ⟨nm4.nd, nm4.lt, ?_⟩⟩
          rw [nm4.sum, take_more hem, wsum_app, wsum_cons]
          show _ = _ + (m * ways r ts n (k + 1) i e + 0)
          rw [Int.add_zero]
          rfl
      · obtain ⟨es', v7, v8, v9, rfl, s3, eN3, ep3, eL3, nm3⟩ := z
        rw [lk, List.take_length] at nm3
        refine ⟨eN3, _, rfl, dL, es', _, _, _, _, _, _, rfl, fun b o e => ?_, ndLH, ?_, ?_⟩
        · rw [upd_ne (hxN b o e)]
          exact s3 _ _ e
        · rw [upd_ne nLN]
          exact eL3
        · rw [hk']
          rw [hk] at nm
          rw [nm.sum] at nm3
          exact nm3
    · rintro _ H1 ⟨dN, es, v4, v5, v6, v7, v8, v9, rfl, s1, ndN, eN, nm⟩
      refine ⟨_, rfl, dN, kvsOf es, es.map (·.2), rfl, eN, kvs_vals es, ?_⟩
      rw [sum_vals]
      have z := nm.sum
      rw [Nat.sub_self] at z
      rw [show wsum es (fun _ => 1) = cnt r ts n from z]
      exact q H1 s1
end

end K33
namespace K33
open PySem PySem.Spec PyProof.Rows L2 SL
section
/-! ### windows that do the same -/
theorem swept_get {r : Nat} {ts cs : List Int} {i : Nat} (h : i < cs.length) : (sweptOf r ts cs)[i]? = some (ts.getD (numOf (((pad r r cs).drop i).take (2 * r + 1))).toNat 0) := by
  rw [swept_pad]
  exact sweep_get (by rw [pad_len]; omega)
theorem inner_cut {s R i : Nat} {cs : List Int} (h : s ≤ R) (hi : i < cs.length) : ((pad R R cs).drop (i + (R - s))).take (2 * s + 1) = ((pad s s cs).drop i).take (2 * s + 1) := by
  obtain ⟨c, rfl⟩ : ∃ c, R = c + s := ⟨R - s, by omega⟩
  rw [show c + s - s = c by omega, Nat.add_comm i c, ← List.drop_drop]
  have e : pad (c + s) (c + s) cs = pad (c + s) (s + c) cs := by rw [Nat.add_comm c s]
  rw [e, pad_drop]
  have cutX : ∀ X : List Int, (X.drop i).take (2 * s + 1) = (X.take (i + (2 * s + 1))).drop i := fun X => by
    rw [List.drop_take, show i + (2 * s + 1) - i = 2 * s + 1 by omega]
  rw [cutX, cutX, pad_take (by omega)]
def eqvW (R : Nat) (ts : List Int) (s : Nat) (us : List Int) : Prop := ∀ row, bits row → sweptOf R ts row = sweptOf s us row
theorem eqvW.symm {R s : Nat} {ts us : List Int} (h : eqvW R ts s us) : eqvW s us R ts := fun row b => (h row b).symm
theorem eqvW.trans {R s q : Nat} {ts us vs : List Int} (h : eqvW R ts s us) (h' : eqvW s us q vs) : eqvW R ts q vs := fun row b => (h row b).trans (h' row b)
theorem bits_cut {X : List Int} (b : bits X) (i m : Nat) : bits ((X.drop i).take m) := bits_take (bits_drop b i) m
theorem cell_big {r M i : Nat} {ts row : List Int} (h : r ≤ M) (hi : i < row.length) : (sweptOf r ts row)[i]? = (sweptOf r ts (((pad M M row).drop i).take (2 * M + 1)))[M]? := by
  have ll : (((pad M M row).drop i).take (2 * M + 1)).length = 2 * M + 1 := by
    rw [List.length_take, List.length_drop, pad_len]
    omega
  rw [swept_get hi, swept_get (by omega), mid_cut (S := ((pad M M row).drop i).take (2 * M + 1)) (s := r) (i := M) h (by omega), win_cut (by omega), inner_cut h hi]
theorem eqv_of {r s M : Nat} {ts us : List Int} (hr : r ≤ M) (hs : s ≤ M) (h : ∀ L, bits L → L.length = 2 * M + 1 → sweptOf r ts L = sweptOf s us L) : eqvW r ts s us := fun row b => by
  refine list_same (swept_len r ts row) (swept_len s us row) fun i hi => ?_
  rw [cell_big hr hi, cell_big hs hi]
  rw [h _ (bits_cut (pad_bits b) _ _) (by rw [List.length_take, List.length_drop, pad_len]; omega)]
theorem rowsTill_mem {m : Nat} {r : List Int} (h : r.length < m) (b : bits r) : r ∈ rowsTill m := List.mem_flatMap.mpr ⟨r.length, List.mem_range.mpr h, rowsN_mem rfl b⟩
def unl (r : Nat) (ts : List Int) (s : Nat) (us row : List Int) : Bool := !decide (sweptOf r ts row = sweptOf s us row)
def unlF (r : Nat) (ts : List Int) (s : Nat) (us : List Int) : Option (List Int) := (rowsTill (2 * max r s + 2)).find? (unl r ts s us)
theorem unl_none {r s : Nat} {ts us : List Int} : unlF r ts s us = none ↔ eqvW r ts s us := by
  unfold unlF
  rw [List.find?_eq_none]
  constructor
  · intro h
    refine eqv_of (M := max r s) (Nat.le_max_left _ _) (Nat.le_max_right _ _) fun L b l => ?_
    have z := h L (rowsTill_mem (by omega) b)
    unfold unl at z
    by_cases c : sweptOf r ts L = sweptOf s us L
    · exact c
    · rw [decide_eq_false c] at z
      exact absurd rfl z
  · intro h row hr
    unfold unl
    rw [h row (rowsTill_row hr).2, decide_eq_true rfl]
    decide
def innerT (R : Nat) (ts : List Int) (s : Nat) : List Int := (List.range (2 ^ (2 * s + 1))).map fun n => ts.getD (n * 2 ^ (R - s)) 0
theorem inner_len (R : Nat) (ts : List Int) (s : Nat) : (innerT R ts s).length = 2 ^ (2 * s + 1) := by
  unfold innerT
  rw [List.length_map, List.length_range]
theorem inner_bits {R : Nat} {ts : List Int} {s : Nat} (b : bits ts) : bits (innerT R ts s) := fun c hc => by
  obtain ⟨n, _, rfl⟩ := List.mem_map.mp hc
  rw [List.getD_eq_getElem?_getD]
  cases e : ts[n * 2 ^ (R - s)]? with
  | none => exact .inl rfl
  | some v => exact b v (List.mem_of_getElem? e)
theorem inner_get {R s n : Nat} {ts : List Int} (h : n < 2 ^ (2 * s + 1)) : (innerT R ts s).getD n 0 = ts.getD (n * 2 ^ (R - s)) 0 := by
  unfold innerT
  rw [List.getD_eq_getElem?_getD, List.getElem?_map, List.getElem?_range h]
  rfl
theorem num_zeros : ∀ n, numOf (zeros n) = 0
  | 0 => rfl
  | n + 1 => by
    show numOf (0 :: zeros n) = 0
    rw [numOf_cons, num_zeros n, Int.zero_mul]
    rfl
theorem num_pad (c : Nat) (d : List Int) : numOf (pad c c d) = numOf d * 2 ^ c := by
  unfold pad
  rw [numOf_app, numOf_app, num_zeros, Int.zero_mul, Int.zero_add, Int.add_zero]
  unfold zeros
  rw [List.length_replicate]
theorem pad_mid {c s : Nat} {d : List Int} (l : d.length = 2 * s + 1) : ((pad (c + s) (c + s) d).drop s).take (2 * (c + s) + 1) = pad c c d := by
  have e : pad (c + s) (c + s) d = pad (s + c) (c + s) d := by rw [Nat.add_comm c s]
  rw [e, pad_drop, pad_take (by omega), List.take_of_length_le (by rw [pad_len]; omega)]
theorem mid_self {s : Nat} {d : List Int} (l : d.length = 2 * s + 1) : ((pad s s d).drop s).take (2 * s + 1) = d := by
  rw [mid_cut (Nat.le_refl _) (by omega), Nat.sub_self, List.drop_zero, List.take_of_length_le (by omega)]
theorem num_cast {d : List Int} (b : bits d) (c : Nat) : (numOf d * 2 ^ c).toNat = (numOf d).toNat * 2 ^ c := by
  obtain ⟨d0, _⟩ := numOf_at b
  obtain ⟨n, hn⟩ : ∃ n : Nat, numOf d = (n : Int) := ⟨(numOf d).toNat, by omega⟩
  rw [hn, ← pow_cast, ← Int.natCast_mul]
  rfl
theorem eqv_inner {R s : Nat} {ts us : List Int} (h : eqvW R ts s us) (hs : s ≤ R) (lu : us.length = 2 ^ (2 * s + 1)) : innerT R ts s = us := by
  obtain ⟨c, rfl⟩ : ∃ c, R = c + s := ⟨R - s, by omega⟩
  refine list_same (inner_len _ _ _) lu fun n hn => ?_
  have ld := digits_len n (2 * s + 1)
  have z := congrArg (fun l => l[s]?) (h (digits n (2 * s + 1)) (digits_bits _ _))
  have z' : (sweptOf (c + s) ts (digits n (2 * s + 1)))[s]? = (sweptOf s us (digits n (2 * s + 1)))[s]? := z
  rw [swept_get (by omega), swept_get (by omega), pad_mid ld, mid_self ld, num_pad, num_cast (digits_bits _ _), num_digits hn] at z'
  have e := Option.some.inj z'
  have g := inner_get (R := c + s) (ts := ts) hn
  rw [show c + s - s = c by omega] at g
  have g2 : ts.getD (((n : Nat) : Int).toNat * 2 ^ c) 0 = us.getD ((n : Nat) : Int).toNat 0 := e
  have g3 : ts.getD (n * 2 ^ c) 0 = us.getD n 0 := g2
  rw [← g] at g3
  rw [List.getElem?_eq_getElem (by rw [inner_len]; exact hn), List.getElem?_eq_getElem (by omega)]
  rw [List.getD_eq_getElem?_getD, List.getD_eq_getElem?_getD, List.getElem?_eq_getElem (by rw [inner_len]; exact hn), List.getElem?_eq_getElem (by omega)] at g3
  exact congrArg some g3
theorem inner_self {R : Nat} {ts : List Int} (lt : ts.length = 2 ^ (2 * R + 1)) : innerT R ts R = ts := by
  have e : innerT R ts R = (List.range (2 ^ (2 * R + 1))).map fun n => ts.getD n 0 := by
    unfold innerT
    refine List.map_congr_left fun n _ => ?_
    rw [Nat.sub_self, Nat.pow_zero, Nat.mul_one]
  rw [e]
  exact tab_back lt
def Lst (R : Nat) (ts : List Int) (s : Nat) (us : List Int) : Prop := s ≤ R ∧ us = innerT R ts s ∧ eqvW R ts s us ∧ ∀ s', s' < s → ¬ eqvW R ts s' (innerT R ts s')
theorem Lst.unique {R : Nat} {ts : List Int} {s s' : Nat} {us us' : List Int} (h : Lst R ts s us) (h' : Lst R ts s' us') : s = s' ∧ us = us' := by
  obtain ⟨h1, h2, h3, h4⟩ := h
  obtain ⟨g1, g2, g3, g4⟩ := h'
  have e : s = s' := by
    rcases Nat.lt_trichotomy s s' with lt | e | lt
    · rw [h2] at h3
      exact absurd h3 (g4 s lt)
    · exact e
    · rw [g2] at g3
      exact absurd g3 (h4 s' lt)
  subst e
  exact ⟨rfl, h2.trans g2.symm⟩
theorem Lst.le {R1 R2 s1 s2 : Nat} {t1 t2 u1 u2 : List Int} (h : Lst R1 t1 s1 u1) (h' : Lst R2 t2 s2 u2) (e : eqvW R1 t1 R2 t2) : s1 ≤ s2 := by
  obtain ⟨h1, h2, h3, h4⟩ := h
  obtain ⟨g1, g2, g3, g4⟩ := h'
  by_cases c : s2 < s1
  · have ee := e.trans g3
    have x := eqv_inner ee (by omega) (by rw [g2]; exact inner_len _ _ _)
    rw [← x] at ee
    exact absurd ee (h4 s2 c)
  · omega
theorem Lst.iff {R1 R2 s1 s2 : Nat} {t1 t2 u1 u2 : List Int} (h : Lst R1 t1 s1 u1) (h' : Lst R2 t2 s2 u2) : eqvW R1 t1 R2 t2 ↔ (s1 = s2 ∧ u1 = u2) := by
  constructor
  · intro e
    have es : s1 = s2 := Nat.le_antisymm (Lst.le h h' e) (Lst.le h' h e.symm)
    subst es
    refine ⟨rfl, ?_⟩
    have x := eqv_inner (e.trans h'.2.2.1) h.1 (by rw [h'.2.1]; exact inner_len _ _ _)
    rw [h.2.1, x]
  · rintro ⟨rfl, rfl⟩
    exact h.2.2.1.trans h'.2.2.1.symm
/-- what a table gives for a look -/
def tabAt (ts look : List Int) : Int := ts.getD (numOf look).toNat 0
def innOf (c : Nat) (look : List Int) : List Int := (look.drop c).take (look.length - 2 * c)
theorem inn_len {c s : Nat} {look : List Int} (l : look.length = 2 * (c + s) + 1) : (innOf c look).length = 2 * s + 1 := by
  unfold innOf
  rw [List.length_take, List.length_drop]
  omega
theorem inn_pad {c s : Nat} {d : List Int} (l : d.length = 2 * s + 1) : innOf c (pad c c d) = d := by
  unfold innOf
  rw [pad_len, mid_cut (Nat.le_refl _) (by omega), Nat.sub_self, List.drop_zero, List.take_of_length_le (by omega)]
theorem same_inn {c s : Nat} {ts : List Int} (h : ∀ x y, x.length = 2 * (c + s) + 1 → bits x → y.length = 2 * (c + s) + 1 → bits y → innOf c x = innOf c y → tabAt ts x = tabAt ts y) : eqvW (c + s) ts s (innerT (c + s) ts s) := fun row b => by
  refine list_same (swept_len _ _ row) (swept_len _ _ row) fun i hi => ?_
  rw [swept_get hi, swept_get hi]
  have lL : (((pad (c + s) (c + s) row).drop i).take (2 * (c + s) + 1)).length = 2 * (c + s) + 1 := by
    rw [List.length_take, List.length_drop, pad_len]
    omega
  have bL := bits_cut (pad_bits (a := c + s) (b := c + s) b) i (2 * (c + s) + 1)
  have ld : (((pad s s row).drop i).take (2 * s + 1)).length = 2 * s + 1 := by
    rw [List.length_take, List.length_drop, pad_len]
    omega
  have bd := bits_cut (pad_bits (a := s) (b := s) b) i (2 * s + 1)
  have e1 : innOf c (((pad (c + s) (c + s) row).drop i).take (2 * (c + s) + 1)) = ((pad s s row).drop i).take (2 * s + 1) := by
    have ic := inner_cut (s := s) (R := c + s) (cs := row) (by omega) hi
    rw [show c + s - s = c by omega] at ic
    unfold innOf
    rw [lL, show 2 * (c + s) + 1 - 2 * c = 2 * s + 1 by omega, win_cut (by omega)]
    exact ic
  generalize ((pad (c + s) (c + s) row).drop i).take (2 * (c + s) + 1) = look at lL bL e1 ⊢
  generalize ((pad s s row).drop i).take (2 * s + 1) = d at ld bd e1 ⊢
  have key := h look (pad c c d) lL bL (by rw [pad_len]; omega) (pad_bits bd) (by rw [e1, inn_pad ld])
  unfold tabAt at key
  rw [num_pad, num_cast bd] at key
  have nl := num_lt bd
  rw [ld] at nl
  rw [inner_get nl, show c + s - s = c by omega]
  exact congrArg some key
theorem eqv_same {c s : Nat} {ts us : List Int} (h : eqvW (c + s) ts s us) {x y : List Int} (lx : x.length = 2 * (c + s) + 1) (bx : bits x) (ly : y.length = 2 * (c + s) + 1) (by' : bits y) (e : innOf c x = innOf c y) : tabAt ts x = tabAt ts y := by
  have one : ∀ z : List Int, z.length = 2 * (c + s) + 1 → bits z → tabAt ts z = us.getD (numOf (innOf c z)).toNat 0 := fun z lz bz => by
    have q : (sweptOf (c + s) ts z)[c + s]? = (sweptOf s us z)[c + s]? := congrArg (fun l => l[c + s]?) (h z bz)
    rw [swept_get (by omega), swept_get (by omega), mid_self lz, mid_cut (by omega) (by omega), show c + s - s = c by omega] at q
    have e2 : innOf c z = (z.drop c).take (2 * s + 1) := by
      unfold innOf
      rw [lz, show 2 * (c + s) + 1 - 2 * c = 2 * s + 1 by omega]
    rw [e2]
    exact Option.some.inj q
  rw [one x lx bx, one y ly by', e]
end

section
/-! ### rows that rest, counted -/
def comps (r n : Nat) : Nat → Nat → List (List Int)
  | 0, _ => [[]]
  | k + 1, i => (cellsN n i).flatMap fun c : Nat => (comps r n k (i + 1)).map ((c : Int) :: ·)
/-- the look at the t-th further cell -/
def lookT (r : Nat) (full : List Int) (t : Nat) : List Int := (full.drop t).take (2 * r + 1)
def chk (r : Nat) (ts full : List Int) (t : Nat) : Bool := okC r ts t (numOf (lookT r full t)).toNat
def stOf (r : Nat) (Y : List Int) (i : Nat) : Nat := (numOf (Y.drop i)).toNat
theorem sum_nat_cast : ∀ l : List Nat, ((l.sum : Nat) : Int) = (l.map fun n : Nat => (n : Int)).sum
  | [] => rfl
  | a :: r => by
    rw [List.sum_cons, List.map_cons, List.sum_cons, ← sum_nat_cast r]
    omega
theorem num_snoc (a : List Int) (c : Int) : numOf (a ++ [c]) = 2 * numOf a + c := by
  unfold numOf
  rw [List.foldl_append]
  rfl
theorem num_mod {a : Int} {l : List Int} (b : bits (a :: l)) : (numOf (a :: l)).toNat % 2 ^ l.length = (numOf l).toNat := by
  have hb : bits l := fun x hx => b x (List.mem_cons_of_mem _ hx)
  obtain ⟨h0, h1⟩ := numOf_at hb
  have nl := num_lt hb
  obtain ⟨n, hn⟩ : ∃ n : Nat, numOf l = (n : Int) := ⟨(numOf l).toNat, by omega⟩
  rw [numOf_cons, hn, ← pow_cast]
  rw [hn] at nl
  have nl' : n < 2 ^ l.length := nl
  rcases b a (List.mem_cons_self ..) with e | e
  · rw [e, Int.zero_mul, Int.zero_add]
    exact Nat.mod_eq_of_lt nl'
  · rw [e, Int.one_mul, ← Int.natCast_add, Int.toNat_natCast, Int.toNat_natCast, Nat.add_mod_left]
    exact Nat.mod_eq_of_lt nl'
theorem cells_bit {n i c : Nat} (h : c ∈ cellsN n i) : ((c : Int) = 0 ∨ (c : Int) = 1) := by
  unfold cellsN at h
  by_cases d : i < n
  · rw [if_pos d] at h
    rcases List.mem_cons.mp h with z | z
    · exact .inl (by omega)
    · exact .inr (by have := List.mem_singleton.mp z; omega)
  · rw [if_neg d] at h
    exact .inl (by have := List.mem_singleton.mp h; omega)
theorem all_succ (k : Nat) (f : Nat → Bool) : (List.range (k + 1)).all f = (f 0 && (List.range k).all fun j => f (j + 1)) := by
  rw [List.range_succ_eq_map, List.all_cons, List.all_map]
  rfl
theorem ways_comps (r n : Nat) (ts : List Int) : ∀ (k i : Nat) (Y : List Int), bits Y → Y.length = 2 * r + i → ways r ts n k i (stOf r Y i) = (((comps r n k i).countP fun z => (List.range k).all fun j => chk r ts (Y ++ z) (i + j) : Nat) : Int)
  | 0, i, Y, _, _ => rfl
  | k + 1, i, Y, bY, lY => by
    show ((cellsN n i).map fun c => if okC r ts i (2 * stOf r Y i + c) = true then ways r ts n k (i + 1) ((2 * stOf r Y i + c) % 2 ^ (2 * r)) else 0).sum = (((((cellsN n i).flatMap fun c : Nat => (comps r n k (i + 1)).map ((c : Int) :: ·)).countP fun z => (List.range (k + 1)).all fun j => chk r ts (Y ++ z) (i + j) : Nat)) : Int)
    rw [List.countP_flatMap, sum_nat_cast, List.map_map]
    refine congrArg List.sum (List.map_congr_left fun c hc => ?_)
    have bc := cells_bit hc
    have bYc : bits (Y ++ [(c : Int)]) := bY.app (bits.cons bc bits.nil)
    have bD : bits (Y.drop i) := bits_drop bY i
    have lD : (Y.drop i).length = 2 * r := by rw [List.length_drop]; omega
    obtain ⟨m, hm⟩ : ∃ m : Nat, numOf (Y.drop i) = (m : Int) := ⟨(numOf (Y.drop i)).toNat, by have := (numOf_at bD).1; omega⟩
    have es : 2 * stOf r Y i + c = (numOf (Y.drop i ++ [(c : Int)])).toNat := by
      unfold stOf
      rw [num_snoc, hm]
      omega
    have bDc : bits (Y.drop i ++ [(c : Int)]) := bD.app (bits.cons bc bits.nil)
    have ed : (Y ++ [(c : Int)]).drop i = Y.drop i ++ [(c : Int)] := List.drop_append_of_le_length (by omega)
    have next : (2 * stOf r Y i + c) % 2 ^ (2 * r) = stOf r (Y ++ [(c : Int)]) (i + 1) := by
      unfold stOf
      rw [show (numOf (Y.drop i)).toNat = stOf r Y i from rfl, es, ← List.drop_drop, ed]
      cases hD : Y.drop i ++ [(c : Int)] with
      | nil =>
        have := congrArg List.length hD
        rw [List.length_append] at this
        cases this
      | cons a l =>
        rw [hD] at bDc
        have ll : l.length = 2 * r := by
          have := congrArg List.length hD
          rw [List.length_append, lD] at this
          have t2 : 2 * r + 1 = l.length + 1 := this
          omega
        have z := num_mod bDc
        rw [ll] at z
        exact z
    have head : ∀ z : List Int, chk r ts (Y ++ (c : Int) :: z) (i + 0) = okC r ts i (2 * stOf r Y i + c) := fun z => by
      unfold chk lookT
      rw [Nat.add_zero, es, show Y ++ (c : Int) :: z = (Y ++ [(c : Int)]) ++ z by rw [List.append_assoc]; rfl, List.drop_append_of_le_length (by rw [List.length_append]; omega), ed, List.take_append_of_le_length (by rw [List.length_append, lD]; exact Nat.le_refl _), List.take_of_length_le (by rw [List.length_append, lD]; exact Nat.le_refl _)]
    have tail : ∀ (z : List Int) (j : Nat), chk r ts (Y ++ (c : Int) :: z) (i + (j + 1)) = chk r ts ((Y ++ [(c : Int)]) ++ z) (i + 1 + j) := fun z j => by
      rw [show Y ++ (c : Int) :: z = (Y ++ [(c : Int)]) ++ z by rw [List.append_assoc]; rfl, show i + (j + 1) = i + 1 + j by omega]
    show (if okC r ts i (2 * stOf r Y i + c) = true then ways r ts n k (i + 1) ((2 * stOf r Y i + c) % 2 ^ (2 * r)) else 0) = ((((comps r n k (i + 1)).map ((c : Int) :: ·)).countP fun z => (List.range (k + 1)).all fun j => chk r ts (Y ++ z) (i + j) : Nat) : Int)
    rw [List.countP_map]
    have ef : ((fun z => (List.range (k + 1)).all fun j => chk r ts (Y ++ z) (i + j)) ∘ ((c : Int) :: ·)) = fun z => okC r ts i (2 * stOf r Y i + c) && (List.range k).all fun j => chk r ts ((Y ++ [(c : Int)]) ++ z) (i + 1 + j) := by
      funext z
      show ((List.range (k + 1)).all fun j => chk r ts (Y ++ (c : Int) :: z) (i + j)) = _
      rw [all_succ, head]
      congr 1
      exact congrArg (fun g => (List.range k).all g) (funext fun j => tail z j)
    rw [ef, next]
    cases ho : okC r ts i (2 * stOf r Y i + c) with
    | true =>
      rw [if_pos rfl, ways_comps r n ts k (i + 1) (Y ++ [(c : Int)]) bYc (by rw [List.length_append, lY]; rfl)]
      simp only [Bool.true_and]
    | false =>
      rw [if_neg (by decide)]
      simp only [Bool.false_and, List.countP_false]
      rfl
theorem comps_tail (r n : Nat) : ∀ (k i : Nat), n ≤ i → comps r n k i = [zeros k]
  | 0, i, _ => rfl
  | k + 1, i, h => by
    show ((cellsN n i).flatMap fun c : Nat => (comps r n k (i + 1)).map ((c : Int) :: ·)) = _
    rw [comps_tail r n k (i + 1) (by omega)]
    unfold cellsN
    rw [if_neg (by omega)]
    rfl
theorem rowsN_cons (m : Nat) : rowsN (m + 1) = (rowsN m).map ((0 : Int) :: ·) ++ (rowsN m).map ((1 : Int) :: ·) := by
  unfold rowsN
  rw [Nat.pow_succ, Nat.mul_two, List.range_add, List.map_append, List.map_map, List.map_map, List.map_map]
  congr 1
  · refine List.map_congr_left fun a ha => ?_
    have la := List.mem_range.mp ha
    show digits a (m + 1) = 0 :: digits a m
    rw [digits_succ, Nat.div_eq_of_lt la]
    rfl
  · refine List.map_congr_left fun a ha => ?_
    have la := List.mem_range.mp ha
    show digits (2 ^ m + a) (m + 1) = 1 :: digits a m
    rw [digits_succ, Nat.add_div_left _ (Nat.pow_pos (by decide)), Nat.div_eq_of_lt la]
    congr 1
    refine numOf_inj (digits_bits _ _) (digits_bits _ _) (by rw [digits_len, digits_len]) ?_
    rw [numOf_digits, numOf_digits, Nat.add_mod_left]
theorem comps_rows (r n : Nat) : ∀ (m i : Nat), i + m = n → comps r n (m + r) i = (rowsN m).map (· ++ zeros r)
  | 0, i, h => by
    rw [Nat.zero_add, comps_tail r n r i (by omega)]
    rfl
  | m + 1, i, h => by
    rw [show m + 1 + r = (m + r) + 1 by omega]
    show ((cellsN n i).flatMap fun c : Nat => (comps r n (m + r) (i + 1)).map ((c : Int) :: ·)) = _
    rw [comps_rows r n m (i + 1) (by omega), rowsN_cons]
    unfold cellsN
    rw [if_pos (by omega)]
    simp [List.map_map, Function.comp_def]
def restsB (r : Nat) (ts row : List Int) : Bool := decide (sweptOf r ts row = row)
theorem center {r : Nat} {L : List Int} (l : L.length = 2 * r + 1) (b : bits L) : (((numOf L).toNat / 2 ^ r % 2 : Nat) : Int) = L.getD r 0 := by
  have e := digits_num b
  rw [l] at e
  have z : (digits (numOf L).toNat (2 * r + 1)).getD r 0 = L.getD r 0 := by rw [e]
  rw [← z]
  unfold digits
  rw [List.getD_eq_getElem?_getD, List.getElem?_map, List.getElem?_range (by omega)]
  show _ = (((numOf L).toNat / 2 ^ (2 * r + 1 - 1 - r) % 2 : Nat) : Int)
  rw [show 2 * r + 1 - 1 - r = r by omega]
theorem rest_all {r : Nat} {ts row : List Int} (b : bits row) : ((List.range (row.length + r)).all fun j => chk r ts (zeros (2 * r) ++ (row ++ zeros r)) (0 + j)) = restsB r ts row := by
  have look : ∀ p, p < row.length → lookT r (zeros (2 * r) ++ (row ++ zeros r)) (r + p) = ((pad r r row).drop p).take (2 * r + 1) := fun p hp => by
    unfold lookT
    rw [← List.drop_drop, Nat.two_mul, zeros_add, List.append_assoc]
    rw [List.drop_append_of_le_length (by unfold zeros; rw [List.length_replicate]; exact Nat.le_refl _)]
    have hz : (zeros r).drop r = [] := List.drop_of_length_le (by unfold zeros; rw [List.length_replicate]; exact Nat.le_refl _)
    rw [hz, List.nil_append, ← List.append_assoc]
    rfl
  have cell : ∀ p, p < row.length → chk r ts (zeros (2 * r) ++ (row ++ zeros r)) (r + p) = decide ((sweptOf r ts row)[p]? = row[p]?) := fun p hp => by
    unfold chk okC
    have bl : bits (((pad r r row).drop p).take (2 * r + 1)) := bits_cut (pad_bits b) _ _
    have ll : (((pad r r row).drop p).take (2 * r + 1)).length = 2 * r + 1 := by
      rw [List.length_take, List.length_drop, pad_len]
      omega
    rw [look p hp, decide_eq_false (by omega), Bool.false_or, center ll bl, swept_get hp]
    have ec : (((pad r r row).drop p).take (2 * r + 1)).getD r 0 = row[p] := by
      rw [List.getD_eq_getElem?_getD, List.getElem?_take_of_lt (by omega), List.getElem?_drop]
      unfold pad
      rw [List.getElem?_append_left (by rw [List.length_append]; unfold zeros; rw [List.length_replicate]; omega), List.getElem?_append_right (by unfold zeros; rw [List.length_replicate]; omega)]
      unfold zeros
      rw [List.length_replicate, show p + r - r = p by omega, List.getElem?_eq_getElem hp]
      rfl
    rw [ec, List.getElem?_eq_getElem hp]
    exact decide_eq_decide.mpr ⟨fun z => congrArg some z, fun z => Option.some.inj z⟩
  rw [Bool.eq_iff_iff, List.all_eq_true]
  unfold restsB
  rw [decide_eq_true_eq]
  constructor
  · intro h
    refine list_same (swept_len r ts row) rfl fun p hp => ?_
    have z := h (r + p) (List.mem_range.mpr (by omega))
    rw [Nat.zero_add, cell p hp] at z
    exact of_decide_eq_true z
  · intro h j hj
    have lj := List.mem_range.mp hj
    rw [Nat.zero_add]
    by_cases c : j < r
    · unfold chk okC
      rw [decide_eq_true c]
      rfl
    · obtain ⟨p, rfl⟩ : ∃ p, j = r + p := ⟨j - r, by omega⟩
      rw [cell p (by omega), h]
      exact decide_eq_true rfl
theorem cnt_rows (r n : Nat) (ts : List Int) : cnt r ts n = (((rowsN n).countP (restsB r ts) : Nat) : Int) := by
  unfold cnt
  have st0 : stOf r (zeros (2 * r)) 0 = 0 := by
    unfold stOf
    rw [List.drop_zero, num_zeros]
    rfl
  have z := ways_comps r n ts (n + r) 0 (zeros (2 * r)) (zeros_bits _) (by unfold zeros; rw [List.length_replicate]; rfl)
  rw [st0] at z
  rw [z, comps_rows r n n 0 (by omega), List.countP_map]
  congr 1
  refine List.countP_congr fun row hr => ?_
  obtain ⟨l, b⟩ := rowsN_row hr
  show ((List.range (n + r)).all fun j => chk r ts (zeros (2 * r) ++ (row ++ zeros r)) (0 + j)) = true ↔ restsB r ts row = true
  rw [← l, rest_all b]
end

end K33
namespace K33
open PySem PySem.Spec PyProof.Rows L2 SL
section
variable {P : Program} {w : World} {K : PySem.W.Frag} {mg : Str → Option Value} {base : Heap} {cR iR cN iN cB iB cU fU gU cL : Addr} {fdU fdG : FuncData} {f : Addr} {fd : FuncData}
theorem row_dp {H : Hp} {a : Addr} {ns : List Int} (h : SqT K H a (ns.map V.int)) : Dp K H (.ref a) (.tuple (ns.map PyData.int)) := .tup h (DpAll.ints ns)
end
section
variable {P : Program} {w : World} {K : PySem.W.Frag} {mg : Str → Option Value} {base : Heap} {cR iR cN iN cB iB cU fU gU cL : Addr} {fdU fdG : FuncData} {f : Addr} {fd : FuncData}
/-! ### rests, which may raise -/
theorem same_put {H H' : Hp} {l : Addr} {o : HO} (s : Same H H') (n : H l = none) : Same H (upd H' l o) := fun b u e => by
  rw [upd_ne (ne_of_none e n)]
  exact s b u e
theorem sc_rests : FnScope ["window", "row"] ["window", "row"] (defScope s_rests) := ⟨rfl, rfl, rfl, by decide +kernel, rfl, by decide +kernel, by decide +kernel⟩
def spRestsX (K : PySem.W.Frag) (cR cU : Addr) : Sp := fun vs H Q E => ∃ x r ts v d, vs = [.ref x, v] ∧ WinAt K cU H x r ts ∧ Dt K H v d ∧ (rowD d = false → raised cR "row" E H) ∧
  ∀ cs : List Int, d = .tup (cs.map D.int) → bits cs → cs.length ≤ 900 ∧ ∀ H', Same H H' → Q (.bl (restsB r ts cs)) H'
theorem ok_rests (M : MF P w K mg cR iR cN iN cB iB cU fU gU cL) (F_swept : FnC P w K mg base (L2.CX P w) 8 "swept" ["window", "row"] (spSwept K cR cU)) (F : Fun K "rests" "rests" s_rests f fd) : FnOk P w K mg base (L2.CX P w) 10 f fd ["window", "row"] (spRestsX K cR cU) := by
  refine F.okX (k := 9) sc_rests (fun vs H Q E h => ?_) (fun cdv A outer s H vs Q E hr h => ?_)
  · obtain ⟨x, r, ts, v, d, rfl, _⟩ := h
    rfl
  · obtain ⟨x, r, ts, v, d, rfl, hW, hd, e1, q⟩ := h
    refine ⟨_, (pss_one (ps_ret (pe_cmpR (op_eqD hr.units) (pe_f F_swept hr (by omega) (passes_call (takes_of rfl rfl rfl rfl) (fun _ _ _ _ h => h)) (pa_cons (pv 0) (pa_cons (pv 1) pa_nil))) (pv 1) (nomark _)))), ?_⟩
    refine ⟨_, rfl, _, rfl, x, r, ts, _, _, rfl, hW, hd, e1, fun cs ec hb => ?_⟩
    obtain ⟨l9, qq⟩ := q cs ec hb
    refine ⟨l9, fun G b1 s1 nb eb => ?_⟩
    subst ec
    cases hd with
    | tup h k z =>
      obtain ⟨cs', y1, y2, hb'⟩ := cells_ints k (rowT hb)
      obtain rfl := ints_inj y2
      subst y1
      refine ⟨_, rfl, _, _, row_dp (SqT.of eb), row_dp (Same.seqT s1 h), shaped_tup _, shaped_tup _, ?_⟩
      rw [eqv_tups]
      exact qq G s1
end

end K33
namespace K33
open PySem PySem.Spec PyProof.Rows L2 SL
section
variable {P : Program} {w : World} {K : PySem.W.Frag} {mg : Str → Option Value} {base : Heap} {cR iR cN iN cB iB cU fU gU cL : Addr} {fdU fdG : FuncData} {f : Addr} {fd : FuncData}
/-! ### swept_till, _law_till -/
/-- swept at most k times more, from the row behind n times -/
def tillN (r : Nat) (ts : List Int) : Nat → Int → List Int → Int × List Int
  | 0, n, row => (if sweptOf r ts row = row then n else -1, row)
  | k + 1, n, row => if sweptOf r ts row = row then (n, row) else tillN r ts k (n + 1) (sweptOf r ts row)
theorem till_rest {r : Nat} {ts row : List Int} (h : sweptOf r ts row = row) (n : Int) : ∀ k, tillN r ts k n row = (n, row)
  | 0 => by
    unfold tillN
    rw [if_pos h]
  | _ + 1 => by
    unfold tillN
    rw [if_pos h]
theorem till_zero {r : Nat} {ts row : List Int} (h : ¬ sweptOf r ts row = row) (n : Int) : tillN r ts 0 n row = (-1, row) := by
  unfold tillN
  rw [if_neg h]
theorem till_more {r : Nat} {ts row : List Int} (h : ¬ sweptOf r ts row = row) (n : Int) (k : Nat) : tillN r ts (k + 1) n row = tillN r ts k (n + 1) (sweptOf r ts row) := by
  show (if sweptOf r ts row = row then (n, row) else tillN r ts k (n + 1) (sweptOf r ts row)) = _
  rw [if_neg h]
theorem win_bits33 {H : Hp} {x : Addr} {r : Nat} {ts : List Int} (h : WinAt K cU H x r ts) : bits ts := h.elim fun _ ⟨_, _, _, _, _, z⟩ => z
theorem sc_swept_till : FnScope ["window", "row", "most", "number", "after"] ["window", "row", "most"] (defScope s_swept_till) := ⟨rfl, rfl, rfl, by decide +kernel, rfl, by decide +kernel, by decide +kernel⟩
def spTillW (K : PySem.W.Frag) (cR cN cU : Addr) : Sp := fun vs H Q E => ∃ x r ts v d mv T1, vs = [.ref x, v, mv] ∧ WinAt K cU H x r ts ∧ Dt K H v d ∧ Knw K H mv T1 ∧ (rowD d = false → raised cR "row" E H) ∧ (rowD d = true → withinV 0 200 mv = false → raised cN "most" E H) ∧
  ∀ (cs : List Int) (m : Nat), d = .tup (cs.map D.int) → bits cs → mv = .int (m : Int) → m ≤ 200 → cs.length ≤ 900 ∧ ∀ H' t b, Same H H' → H' t = some (.tup [.int (tillN r ts m 0 cs).1, .ref b]) → SqT K H' b ((tillN r ts m 0 cs).2.map V.int) → Q (.ref t) H'
theorem ok_swept_till (M : MF P w K mg cR iR cN iN cB iB cU fU gU cL) (F_check_row : FnC P w K mg base (L2.CX P w) 6 "check_row" ["thing", "part"] (spCheckRow K cR)) (F_check_within : FnC P w K mg base (L2.CX P w) 4 "check_within" ["thing", "low", "high", "part"] (spCheckWithin K cN)) (F_swept : FnC P w K mg base (L2.CX P w) 8 "swept" ["window", "row"] (spSwept K cR cU))
    (F : Fun K "swept_till" "swept_till" s_swept_till f fd) : FnOk P w K mg base (L2.CX P w) 10 f fd ["window", "row", "most"] (spTillW K cR cN cU) := by
  refine F.okX (k := 9) sc_swept_till (fun vs H Q E h => ?_) (fun cdv A outer s H vs Q E hr h => ?_)
  · obtain ⟨x, r, ts, v, d, mv, T1, rfl, _⟩ := h
    rfl
  · obtain ⟨x, r, ts, v, d, mv, T1, rfl, hW, hd, km, e1, e2, q⟩ := h
    refine ⟨_, (pss_cons (ps_expr (pe_f F_check_row hr (by omega) (passes_call (takes_of rfl rfl rfl rfl) (fun _ _ _ _ h => h)) (pa_cons (pv 1) (pa_cons pe_str pa_nil))))
      (pss_cons (ps_expr (pe_f F_check_within hr (by omega) (passes_call (takes_of rfl rfl rfl rfl) (fun _ _ _ _ h => h)) (pa_cons (pv 2) (pa_cons pe_int (pa_cons pe_int (pa_cons pe_str pa_nil))))))
      (pss_cons (ps_set (i := 3) sc_swept_till.nd rfl (Or.inl rfl) pe_int)
      (pss_cons (ps_set (i := 4) sc_swept_till.nd rfl (Or.inl rfl) (pe_f F_swept hr (by omega) (passes_call (takes_of rfl rfl rfl rfl) (fun _ _ _ _ h => h)) (pa_cons (pv 0) (pa_cons (pv 1) pa_nil))))
      (pss_cons (ps_while (passes_of rfl) (PW.pt (pw_and (pt_cmpR (op_neD hr.units) (pv 4) (pv 1) (nomark _)) (pw_and1 (pt_cmpR op_lt (pv 3) (pv 2) (nomark _)))))
      (pss_cons (ps_set (i := 1) sc_swept_till.nd rfl (Or.inl rfl) (pv 4))
      (pss_cons (ps_aug (i := 3) sc_swept_till.nd rfl (Or.inl rfl) pe_int ip_add)
      (pss_one (ps_set (i := 4) sc_swept_till.nd rfl (Or.inl rfl) (pe_f F_swept hr (by omega) (passes_call (takes_of rfl rfl rfl rfl) (fun _ _ _ _ h => h)) (pa_cons (pv 0) (pa_cons (pv 1) pa_nil))))))))
      (pss_one (ps_ret (pe_tup (pa_cons (pe_ifExp (pt_cmpR (op_eqD hr.units) (pv 4) (pv 1) (nomark _)) (pv 3) (pe_un un_neg pe_int)) (pa_cons (pv 1) pa_nil)))))))))), ?_⟩
    refine ⟨_, rfl, v, d, "row", rfl, hd, by decide +kernel, fun ok H1 s1 => ?_, fun no => e1 no⟩
    refine ⟨_, rfl, mv, 0, 200, _, T1, rfl, km.same s1, by decide +kernel, fun w1 => ?_, fun w0 d nd => e2 ok w0 H1 d s1 nd⟩
    cases hd <;> first | cases ok | skip
    rename_i a xs ds h k z
    obtain ⟨cs, rfl, rfl, hb⟩ := cells_ints k ok
    cases mv <;> first | cases w1 | skip
    rename_i i
    have w1' : (decide ((0 : Int) ≤ i) && decide (i ≤ 200)) = true := w1
    rw [Bool.and_eq_true, decide_eq_true_eq, decide_eq_true_eq] at w1'
    obtain ⟨m, rfl⟩ : ∃ m : Nat, i = (m : Int) := ⟨i.toNat, by omega⟩
    obtain ⟨l9, q⟩ := q cs m rfl hb rfl (by omega)
    have bt : bits ts := win_bits33 hW
    have hS := Same.seqT s1 h
    refine ⟨_, rfl, _, rfl, x, r, ts, _, _, rfl, hW.same s1, dt_row hS (by omega), (fun no => absurd ((rowT hb).symm.trans no) (fun y => nomatch y)), fun cs' ec hb' => ?_⟩
    obtain rfl := (ints_inj (SL.D.tup.inj ec)).symm
    refine ⟨by omega, fun H2 b2 s2 nb2 eb2 => ?_⟩
    refine ⟨fun k σ H' => ∃ (n : Nat) (b c : Addr) (row : List Int), k = m - n ∧ σ = [some (.ref x), some (.ref b), some (.int (m : Int)), some (.int (n : Int)), some (.ref c)] ∧ Same H2 H' ∧ SqT K H' b (row.map V.int) ∧ SqT K H' c ((sweptOf r ts row).map V.int) ∧ bits row ∧ row.length = cs.length ∧ n ≤ m ∧ tillN r ts (m - n) n row = tillN r ts m 0 cs, ⟨m, 0, a, b2, cs, rfl, rfl, Same.refl H2, Same.seqT s2 hS, SqT.of eb2, hb, rfl, Nat.zero_le m, rfl⟩, ?_⟩
    rintro k2 _ G ⟨n, b, c, row, rfl, rfl, sG, hB, hC, bR, lR, nm, eT⟩
    refine ⟨_, rfl, _, rfl, _, _, row_dp hC, row_dp hB, shaped_tup _, shaped_tup _, ?_⟩
    rw [eqv_tups]
    have s2G := (s1.trans s2).trans sG
    by_cases c1 : sweptOf r ts row = row
    · rw [decide_eq_true c1]
      refine ⟨_, rfl, iteF (iteF ?_)⟩
      refine ⟨_, rfl, _, rfl, _, _, row_dp hC, row_dp hB, shaped_tup _, shaped_tup _, ?_⟩
      rw [eqv_tups, decide_eq_true c1]
      refine ⟨_, rfl, iteT ⟨_, rfl, _, rfl, few (n := 2) (by decide), fun t nt => ?_⟩⟩
      rw [till_rest c1] at eT
      exact q _ t b (s2G.trans (same_upd nt)) (by rw [← eT]; exact upd_same) (by rw [← eT]; exact Same.seqT (same_upd nt) hB)
    · rw [decide_eq_false c1]
      refine ⟨_, rfl, iteT ?_⟩
      refine ⟨_, rfl, _, rfl, _, _, rfl, rfl, _, rfl, ?_⟩
      by_cases c2 : (n : Int) < (m : Int)
      · rw [decide_eq_true c2]
        refine iteT ?_
        refine ⟨fun σ H' => ∃ b c : Addr, σ = [some (.ref x), some (.ref b), some (.int (m : Int)), some (.int ((n + 1 : Nat) : Int)), some (.ref c)] ∧ Same H2 H' ∧ SqT K H' b ((sweptOf r ts row).map V.int) ∧ SqT K H' c ((sweptOf r ts (sweptOf r ts row)).map V.int), ?_, ?_⟩
        · rintro _ H' ⟨b', c', rfl, sH, hB', hC'⟩
          refine ⟨m - (n + 1), by omega, n + 1, b', c', _, rfl, rfl, sH, hB', hC', sweep_bits bt, by rw [swept_len]; exact lR, by omega, ?_⟩
          rw [← eT, show m - n = (m - (n + 1)) + 1 by omega, till_more c1]
          rfl
        · have bS : bits (sweptOf r ts row) := sweep_bits bt
          refine ⟨_, rfl, _, rfl, _, _, rfl, rfl, _, rfl, _, rfl, x, r, ts, _, _, rfl, hW.same s2G, dt_row hC (by rw [swept_len]; omega), (fun no => absurd ((rowT bS).symm.trans no) (fun y => nomatch y)), fun cs' ec hb' => ?_⟩
          obtain rfl := (ints_inj (SL.D.tup.inj ec)).symm
          refine ⟨by rw [swept_len]; omega, fun G2 b3 s3 nb3 eb3 => ?_⟩
          exact ⟨c, b3, rfl, sG.trans s3, Same.seqT s3 hC, SqT.of eb3⟩
      · rw [decide_eq_false c2]
        refine iteF ?_
        refine ⟨_, rfl, _, rfl, _, _, row_dp hC, row_dp hB, shaped_tup _, shaped_tup _, ?_⟩
        rw [eqv_tups, decide_eq_false c1]
        refine ⟨_, rfl, iteF ⟨_, rfl, _, rfl, few (n := 2) (by decide), fun t nt => ?_⟩⟩
        rw [show m - n = 0 by omega, till_zero c1] at eT
        exact q _ t b (s2G.trans (same_upd nt)) (by rw [← eT]; exact upd_same) (by rw [← eT]; exact Same.seqT (same_upd nt) hB)
theorem sc_law_till : FnScope ["radius", "table", "row", "most", "number", "behind"] ["radius", "table", "row", "most"] (defScope s_law_till) := ⟨rfl, rfl, rfl, by decide +kernel, rfl, by decide +kernel, by decide +kernel⟩
def spLTill (K : PySem.W.Frag) : Sp := fun vs H Q _ => ∃ (r : Nat) (T b : Addr) (ts row : List Int) (m : Nat), vs = [.int (r : Int), .ref T, .ref b, .int (m : Int)] ∧ SqL K H T (ts.map V.int) ∧ ts.length = 2 ^ (2 * r + 1) ∧ bits ts ∧ r ≤ 3 ∧ SqT K H b (row.map V.int) ∧ bits row ∧ row.length ≤ 900 ∧ m ≤ 200 ∧ ∀ H' t c, Same H H' → H' t = some (.tup [.int (tillN r ts m 0 row).1, .ref c]) → SqT K H' c ((tillN r ts m 0 row).2.map V.int) → Q (.ref t) H'
theorem ok_law_till (M : MF P w K mg cR iR cN iN cB iB cU fU gU cL) (F_law_swept : FnC P w K mg base CX0 5 "_law_swept" ["radius", "table", "row"] (spLSwept K)) (F : Fun K "_law_till" "_law_till" s_law_till f fd) : FnOk P w K mg base CX0 7 f fd ["radius", "table", "row", "most"] (spLTill K) := by
  refine F.ok (k := 6) sc_law_till (fun vs H Q E h => ?_) (fun cdv A outer s H vs Q E hr h => ?_)
  · obtain ⟨r, T, b, ts, row, m, rfl, _⟩ := h
    rfl
  · obtain ⟨r, T, b0, ts, row0, m, rfl, hT, lt, bt, r3, hB0, bR0, l9, m2, q⟩ := h
    refine ⟨_, (pss_cons (ps_for PassesOwn.never rfl (pi_range1 (by rfl) M.m_range (pa_cons (pe_op op_add (pv 3) pe_int) pa_nil)) (pg_name (i := 4) sc_law_till.nd rfl (Or.inl rfl))
      (pss_cons (ps_set (i := 5) sc_law_till.nd rfl (Or.inl rfl) (pe_f F_law_swept hr (by omega) pass0 (pa_cons (pv 0) (pa_cons (pv 1) (pa_cons (pv 2) pa_nil)))))
      (pss_cons (ps_if (pt_cmpR (op_eqD hr.units) (pv 5) (pv 2) (nomark _))
      (pss_one (ps_ret (pe_tup (pa_cons (pv 4) (pa_cons (pv 2) pa_nil))))) pss_nil)
      (pss_one (ps_if (pt_cmpR op_lt (pv 4) (pv 3) (nomark _))
      (pss_one (ps_set (i := 2) sc_law_till.nd rfl (Or.inl rfl) (pv 5))) pss_nil)))))
      (pss_one (ps_ret (pe_tup (pa_cons (pe_un un_neg pe_int) (pa_cons (pv 2) pa_nil)))))), ?_⟩
    refine ⟨_, rfl, _, _, rfl, rfl, ((m + 1 : Nat) : Int), congrArg (fun z => [V.int z]) (by omega), by omega, by omega, for_range (lo := 0) (n := m + 1) (fun i σ H' => ∃ (b : Addr) (row : List Int) (v1 v2 : Option V), σ = [some (.int (r : Int)), some (.ref T), some (.ref b), some (.int (m : Int)), v1, v2] ∧ Same H H' ∧ SqT K H' b (row.map V.int) ∧ bits row ∧ row.length = row0.length ∧ ((i ≤ m ∧ tillN r ts (m - i) (i : Int) row = tillN r ts m 0 row0) ∨ (i = m + 1 ∧ tillN r ts m 0 row0 = (-1, row)))) ⟨b0, row0, none, none, rfl, Same.refl H, hB0, bR0, rfl, .inl ⟨Nat.zero_le m, rfl⟩⟩ ?_ ?_⟩
    · rintro i _ G hi ⟨b, row, v1, v2, rfl, sG, hB, bR, lR, eT⟩
      obtain ⟨im, eT⟩ : i ≤ m ∧ tillN r ts (m - i) (i : Int) row = tillN r ts m 0 row0 := by
        rcases eT with h | h
        · exact h
        · omega
      refine ⟨_, rfl, _, rfl, _, rfl, r, T, b, ts, row, rfl, Same.seq sG hT, lt, r3, hB, bR, by omega, fun G2 c s2 nc ec => ?_⟩
      have hC : SqT K G2 c ((sweptOf r ts row).map V.int) := SqT.of ec
      have hB2 := Same.seqT s2 hB
      refine ⟨_, rfl, _, rfl, _, _, row_dp hC, row_dp hB2, shaped_tup _, shaped_tup _, ?_⟩
      rw [eqv_tups]
      have s2G := sG.trans s2
      by_cases c1 : sweptOf r ts row = row
      · rw [decide_eq_true c1]
        refine ⟨_, rfl, iteT ⟨_, rfl, _, rfl, few (n := 2) (by decide), fun t nt => ?_⟩⟩
        rw [till_rest c1] at eT
        exact q _ t b (s2G.trans (same_upd nt)) (by rw [← eT, upd_same, show (0 : Int) + (i : Nat) = (i : Int) by omega]) (by rw [← eT]; exact Same.seqT (same_upd nt) hB2)
      · rw [decide_eq_false c1]
        refine ⟨_, rfl, iteF ?_⟩
        refine ⟨_, rfl, _, rfl, _, _, rfl, rfl, _, rfl, ?_⟩
        by_cases c2 : (0 : Int) + (i : Nat) < (m : Int)
        · rw [decide_eq_true c2]
          refine iteT ⟨_, rfl, c, _, _, _, rfl, s2G, hC, sweep_bits bt, by rw [swept_len]; exact lR, .inl ⟨by omega, ?_⟩⟩
          rw [← eT, show m - i = (m - (i + 1)) + 1 by omega, till_more c1]
          rfl
        · rw [decide_eq_false c2]
          refine iteF ⟨b, row, _, _, rfl, s2G, hB2, bR, lR, .inr ⟨by omega, ?_⟩⟩
          rw [← eT, show m - i = 0 by omega, till_zero c1]
    · rintro _ G ⟨b, row, v1, v2, rfl, sG, hB, bR, lR, eT⟩
      have eT : tillN r ts m 0 row0 = (-1, row) := by
        rcases eT with h | h
        · omega
        · exact h.2
      refine ⟨_, rfl, _, rfl, few (n := 2) (by decide), fun t nt => ?_⟩
      exact q _ t b (sG.trans (same_upd nt)) (by rw [eT]; exact upd_same) (by rw [eT]; exact Same.seqT (same_upd nt) hB)
end

end K33
namespace K33
open PySem PySem.Spec PyProof.Rows L2 SL
section
variable {P : Program} {w : World} {K : PySem.W.Frag} {mg : Str → Option Value} {base : Heap} {cR iR cN iN cB iB cU fU gU cL : Addr} {fdU fdG : FuncData} {f : Addr} {fd : FuncData}
/-! ### _law_count -/
def keyOf (ns : List Int) : List Key := ns.map Sum.inl
theorem key_map (ns : List Int) : (keyOf ns).map kV = ns.map V.int := by
  unfold keyOf
  rw [List.map_map]
  rfl
theorem key_inj {a b : List Int} (h : keyOf a = keyOf b) : a = b := (List.map_inj_right fun _ _ q => Sum.inl.inj q).mp h
def kvsT (m : Nat) (es : List (Nat × Int)) : List (List Key × V) := es.map fun p => (keyOf (digits p.1 m), V.int p.2)
theorem dig_inj {a b m : Nat} (ha : a < 2 ^ m) (hb : b < 2 ^ m) (h : keyOf (digits a m) = keyOf (digits b m)) : a = b := by
  have e := congrArg numOf (key_inj h)
  rw [numOf_digits, numOf_digits, Nat.mod_eq_of_lt ha, Nat.mod_eq_of_lt hb] at e
  omega
theorem val_T {m e : Nat} (he : e < 2 ^ m) : ∀ {es : List (Nat × Int)}, (∀ p ∈ es, p.1 < 2 ^ m) → valV (kvsT m es) (keyOf (digits e m)) = (getE es e).map V.int
  | [], _ => rfl
  | p :: r, h => by
    have ih := val_T he (es := r) fun q hq => h q (List.mem_cons_of_mem _ hq)
    by_cases c : p.1 = e
    · have h1 : valV (kvsT m (p :: r)) (keyOf (digits e m)) = some (V.int p.2) := valV_pos (p := (keyOf (digits p.1 m), V.int p.2)) (r := kvsT m r) (by rw [c])
      have h2 : getE (p :: r) e = some p.2 := by
        unfold getE
        rw [List.find?_cons, decide_eq_true c]
        rfl
      rw [h1, h2]
      rfl
    · have h1 : valV (kvsT m (p :: r)) (keyOf (digits e m)) = valV (kvsT m r) (keyOf (digits e m)) := valV_neg (p := (keyOf (digits p.1 m), V.int p.2)) (r := kvsT m r) (fun z => c (dig_inj (h p (List.mem_cons_self ..)) he z))
      have h2 : getE (p :: r) e = getE r e := by
        unfold getE
        rw [List.find?_cons, decide_eq_false c]
      rw [h1, h2, ih]
theorem put_T {m e : Nat} {v : Int} (he : e < 2 ^ m) {es : List (Nat × Int)} (h : ∀ p ∈ es, p.1 < 2 ^ m) : putK (kvsT m es) (keyOf (digits e m)) (V.int v) = kvsT m (putE es e v) := by
  unfold putK putE
  have ha : ((kvsT m es).any fun kv => decide (kv.1 = keyOf (digits e m))) = es.any fun p => decide (p.1 = e) := by
    rw [Bool.eq_iff_iff, List.any_eq_true, List.any_eq_true]
    constructor
    · rintro ⟨q, hq, z⟩
      obtain ⟨p, hp, rfl⟩ := List.mem_map.mp hq
      exact ⟨p, hp, decide_eq_true (dig_inj (h p hp) he (of_decide_eq_true z))⟩
    · rintro ⟨p, hp, z⟩
      exact ⟨_, List.mem_map.mpr ⟨p, hp, rfl⟩, decide_eq_true (by rw [of_decide_eq_true z])⟩
  rw [ha]
  by_cases c : (es.any fun p => decide (p.1 = e)) = true
  · rw [if_pos c, if_pos c]
    unfold kvsT
    rw [List.map_map, List.map_map]
    refine List.map_congr_left fun p hp => ?_
    show (if keyOf (digits p.1 m) = keyOf (digits e m) then (keyOf (digits p.1 m), V.int v) else (keyOf (digits p.1 m), V.int p.2)) = (fun p : Nat × Int => (keyOf (digits p.1 m), V.int p.2)) (if p.1 = e then (p.1, v) else p)
    by_cases d : p.1 = e
    · rw [if_pos (by rw [d]), if_pos d]
    · rw [if_neg (fun z => d (dig_inj (h p hp) he z)), if_neg d]
  · rw [if_neg c, if_neg c]
    unfold kvsT
    rw [List.map_append]
    rfl
theorem kvsT_len (m : Nat) (es : List (Nat × Int)) : (kvsT m es).length = es.length := List.length_map _
theorem kvsT_at {m : Nat} {es : List (Nat × Int)} {j e : Nat} {c : Int} (h : es[j]? = some (e, c)) : (kvsT m es)[j]? = some (keyOf (digits e m), V.int c) := by
  unfold kvsT
  rw [List.getElem?_map, h]
  rfl
theorem dig_zero : ∀ m, digits 0 m = zeros m
  | 0 => rfl
  | m + 1 => by
    rw [digits_succ, dig_zero m, Nat.zero_div]
    rfl
/-- one more cell behind a state -/
theorem dig_snoc (e c m : Nat) (h : c ≤ 1) : digits e m ++ [(c : Int)] = digits (2 * e + c) (m + 1) := by
  have b : bits (digits e m ++ [(c : Int)]) := (digits_bits e m).app (bits.cons (by omega) bits.nil)
  have b2 := digits_bits (2 * e + c) (m + 1)
  refine numOf_inj b b2 (by rw [List.length_append, digits_len, digits_len]; rfl) ?_
  rw [num_snoc, numOf_digits, numOf_digits, Nat.pow_succ]
  have : (2 * e + c) % (2 ^ m * 2) = 2 * (e % 2 ^ m) + c := by
    rw [Nat.mul_comm (2 ^ m) 2, Nat.mod_mul, Nat.mul_add_mod, Nat.mod_eq_of_lt (by omega : c < 2), show (2 * e + c) / 2 = e by omega]
    omega
  rw [this]
  omega
theorem dig_tail (N m : Nat) : (digits N (m + 1)).drop 1 = digits (N % 2 ^ m) m := by
  rw [digits_succ]
  refine numOf_inj (digits_bits _ _) (digits_bits _ _) (by rw [List.drop_one, List.tail_cons, digits_len, digits_len]) ?_
  rw [List.drop_one, List.tail_cons, numOf_digits, numOf_digits, Nat.mod_mod]
theorem dig_getD : ∀ {m r N : Nat}, r < m → (digits N m).getD r 0 = ((N / 2 ^ (m - 1 - r) % 2 : Nat) : Int)
  | m + 1, 0, N, _ => by
    rw [digits_succ]
    rfl
  | m + 1, r + 1, N, h => by
    rw [digits_succ, List.getD_cons_succ, dig_getD (m := m) (by omega)]
    congr 4
    omega
theorem cut_one {xs : List V} (h : 1 ≤ xs.length) : cutV xs (some 1) none = xs.drop 1 := by
  unfold cutV
  rw [show HT.sIx xs.length 0 (some 1) = min 1 xs.length from HT.sIx_nat _ _ 1, Nat.min_eq_left h]
  show (xs.drop 1).take (xs.length - 1) = _
  rw [List.take_of_length_le (by rw [List.length_drop]; exact Nat.le_refl _)]
theorem tail_key (N m : Nat) : cutV ((digits N (m + 1)).map V.int) (some 1) none = (keyOf (digits (N % 2 ^ m) m)).map kV := by
  rw [cut_one (by rw [List.length_map, digits_len]; omega), key_map, ← List.map_drop, dig_tail]
theorem dig_mid {N r : Nat} : ((digits N (2 * r + 1)).map V.int)[r]? = some (V.int ((N / 2 ^ r % 2 : Nat) : Int)) := by
  have l : r < (digits N (2 * r + 1)).length := by rw [digits_len]; omega
  have z := dig_getD (m := 2 * r + 1) (r := r) (N := N) (by omega)
  rw [List.getD_eq_getElem?_getD, List.getElem?_eq_getElem l, show 2 * r + 1 - 1 - r = r by omega] at z
  rw [List.getElem?_map, List.getElem?_eq_getElem l]
  exact congrArg (fun x => some (V.int x)) z
theorem sc_law_count : FnScope ["radius", "table", "length", "counts", "at", "longer", "tail", "item", "look"] ["radius", "table", "length"] (defScope s_law_count) := ⟨rfl, rfl, rfl, by decide +kernel, rfl, by decide +kernel, by decide +kernel⟩
def spLCount (K : PySem.W.Frag) : Sp := fun vs H Q _ => ∃ (r : Nat) (T : Addr) (ts : List Int) (n : Nat), vs = [.int (r : Int), .ref T, .int (n : Int)] ∧ SqL K H T (ts.map V.int) ∧ ts.length = 2 ^ (2 * r + 1) ∧ bits ts ∧ r ≤ 3 ∧ n ≤ 200 ∧ ∀ H', Same H H' → Q (.int (cnt r ts n)) H'
set_option maxHeartbeats 8000000 in
theorem ok_law_count (M : MF P w K mg cR iR cN iN cB iB cU fU gU cL) (F_law_number : FnC P w K mg base CX0 1 "_law_number" ["row"] (spNumber K)) (F : Fun K "_law_count" "_law_count" s_law_count f fd) : FnOk P w K mg base CX0 3 f fd ["radius", "table", "length"] (spLCount K) := by
  refine F.ok (k := 2) sc_law_count (fun vs H Q E h => ?_) (fun cdv A outer s H vs Q E hr h => ?_)
  · obtain ⟨r, T, ts, n, rfl, _⟩ := h
    rfl
  · obtain ⟨r, T, ts, n, rfl, hT, lt, bt, r3, n2, q⟩ := h
    refine ⟨_, (pss_cons (ps_set (i := 3) sc_law_count.nd rfl (Or.inr rfl) pe_dnewT)
      (pss_cons (ps_asg pe_int (pg_sub (pv 3) (pe_callTy call_tuple_of (by rfl) M.m_tuple (by decide +kernel) (pa_cons (pe_lc (own := [("at", 4)]) (tt := tYes) rfl sc_law_count.nd (pi_range1 (by rfl) M.m_range (pa_cons (pe_op op_mul pe_int (pv 0)) pa_nil)) (blkOk_by (N := ["radius", "table", "length", "counts", "at", "longer", "tail", "item", "look"]) (sc := defScope s_law_count) (by decide +kernel)) (fun _ _ _ _ _ => (pg_name (i := 4) sc_law_count.nd rfl (Or.inl rfl))) (fun _ _ _ _ _ => pts_nil) (fun _ _ _ _ _ => pe_int)) pa_nil)) (set_dict (hu_of hr))))
      (pss_cons (ps_for PassesOwn.never rfl (pi_range1 (by rfl) M.m_range (pa_cons (pe_op op_add (pv 2) (pv 0)) pa_nil)) (pg_name (i := 4) sc_law_count.nd rfl (Or.inl rfl))
      (pss_cons (ps_set (i := 5) sc_law_count.nd rfl (Or.inl rfl) pe_dnewT)
      (pss_cons (ps_lock (ps_for PassesOwn.never rfl (pi_keys (pv 3)) (pg_name (i := 6) sc_law_count.nd rfl (Or.inl rfl))
      (pss_one (ps_for PassesOwn.never rfl (pi_range1 (by rfl) M.m_range (pa_cons (pe_op op_add pe_int (pe_callTy call_int1 (by rfl) M.m_int (by decide +kernel) (pa_cons (pe_cmpR op_lt (pv 4) (pv 2) (nomark _)) pa_nil))) pa_nil)) (pg_name (i := 7) sc_law_count.nd rfl (Or.inl rfl))
      (pss_cons (ps_set (i := 8) sc_law_count.nd rfl (Or.inl rfl) (pe_op (op_catX K) (pv 6) (pe_tup (pa_cons (pv 7) pa_nil))))
      (pss_one (ps_if (PW.pt (pw_or (pt_cmpR op_lt (pv 4) (pv 0) (nomark _)) (pw_or1 (pt_cmpR op_eq (pe_ix ix_list (pv 1) (pe_f F_law_number hr (by omega) pass0 (pa_cons (pv 8) pa_nil)) (fun _ _ => rfl)) (pe_ix ix_tup (pv 8) (pv 0) (fun _ _ => rfl)) (nomark _)))))
      (pss_one (ps_asg (pe_op op_add (pe_dget2 (hu_of hr) (pv 5) (pe_slice (sl_tupX K) (pv 8) (po_some pe_int) po_none) pe_int ⟨by rfl, by rfl, by rfl, by rfl⟩) (pe_dget (hu_of hr) (pv 3) (pv 6) (fun _ _ => rfl))) (pg_sub (pv 5) (pe_slice (sl_tupX K) (pv 8) (po_some pe_int) po_none) (set_dict (hu_of hr))))) pss_nil)))))))
      (pss_one (ps_set (i := 3) sc_law_count.nd rfl (Or.inr rfl) (pv 5))))))
      (pss_one (ps_ret (pe_callB (cr_sum rfl) (by rfl) M.m_sum (by decide +kernel) (pa_cons (pe_lock (pe_lc (own := [("tail", 6)]) (tt := tYes) rfl sc_law_count.nd (pi_keys (pv 3)) (blkOk_by (N := ["radius", "table", "length", "counts", "at", "longer", "tail", "item", "look"]) (sc := defScope s_law_count) (by decide +kernel)) (fun _ _ _ _ _ => (pg_name (i := 6) sc_law_count.nd rfl (Or.inl rfl))) (fun _ _ _ _ _ => pts_nil) (fun _ _ _ _ _ => (pe_dget (hu_of hr) (pv 3) (pv 6) (fun _ _ => rfl))))) pa_nil))))))), ?_⟩
    have pwr : 2 ^ (2 * r) ≤ 64 := Nat.le_trans (Nat.pow_le_pow_right (by decide) (by omega : 2 * r ≤ 6)) (by decide)
    have pw0 : 0 < 2 ^ (2 * r) := Nat.pow_pos (by decide)
    intro d0 nd0
    have g0 := same_upd (o := .dT []) nd0
    have ed0 : upd H d0 (.dT []) d0 = some (.dT []) := upd_same
    generalize upd H d0 (.dT []) = H0 at g0 ed0 ⊢
    refine ⟨_, rfl, _, rfl, _, _, rfl, rfl, .inl ⟨by decide, by decide⟩, ((2 * r : Nat) : Int), congrArg (fun z => [V.int z]) (by omega), by omega, by omega, fun D nD => ?_⟩
    rw [show (((2 * r : Nat) : Int)).toNat = 2 * r from rfl]
    refine lc_range (fun i H' => Same H0 H' ∧ H' D = some (.lst ((zeros i).map V.int))) ⟨same_upd nD, upd_same⟩ (fun i H' hi p => ?_) (fun H1 p => ?_)
    · obtain ⟨s1, eD⟩ := p
      refine ⟨rfl, lc_yes ⟨_, eD, ?_, ?_, ?_⟩⟩
      · unfold zeros
        rw [List.length_map, List.length_replicate]
        exact lineN (by omega)
      · exact fun b o e => by
          rw [upd_ne (ne_of_none e nD)]
          exact s1 _ _ e
      · rw [upd_same]
        unfold zeros
        rw [List.replicate_succ', List.map_append]
        rfl
    obtain ⟨s1, eD⟩ := p
    refine ⟨D, _, rfl, .inl ⟨SqL.of eD, fun g ng => ?_⟩⟩
    have s2 := s1.trans (same_upd (o := .tup ((zeros (2 * r)).map V.int)) ng)
    have eg : upd H1 g (.tup ((zeros (2 * r)).map V.int)) g = some (.tup ((keyOf (digits 0 (2 * r))).map kV)) := by
      rw [upd_same, key_map, dig_zero]
    generalize upd H1 g (.tup ((zeros (2 * r)).map V.int)) = H2 at s2 eg ⊢
    have ed2 := s2 _ _ ed0
    have hd0 : ∀ b o, H b = some o → b ≠ d0 := fun b o e => ne_of_none e nd0
    refine ⟨d0, _, rfl, DPut.t ed2 eg (lineN (by decide)), ?_⟩
    have ep : putK ([] : List (List Key × V)) (keyOf (digits 0 (2 * r))) (V.int 1) = kvsT (2 * r) [(0, 1)] := put_T (es := []) pw0 (fun p hp => nomatch hp)
    have sH : Same H (upd H2 d0 (.dT (putK [] (keyOf (digits 0 (2 * r))) (V.int 1)))) := fun b o e => by
      rw [upd_ne (hd0 b o e)]
      exact s2 _ _ (g0 _ _ e)
    have eN0 : upd H2 d0 (.dT (putK [] (keyOf (digits 0 (2 * r))) (V.int 1))) d0 = some (.dT (kvsT (2 * r) [(0, 1)])) := by rw [upd_same, ep]
    generalize upd H2 d0 (.dT (putK [] (keyOf (digits 0 (2 * r))) (V.int 1))) = H3 at sH eN0 ⊢
    have ndN0 : H d0 = none := nd0
    refine ⟨_, rfl, _, rfl, _, _, rfl, rfl, ((n + r : Nat) : Int), congrArg (fun z => [V.int z]) (by omega), by omega, by omega, ?_⟩
    rw [show (((n + r : Nat) : Int)).toNat = n + r from rfl]
    refine for_range (lo := 0) (n := n + r) (fun i σ H' => ∃ dN es v4 v5 v6 v7 v8, σ = [some (.int (r : Int)), some (.ref T), some (.int (n : Int)), some (.ref dN), v4, v5, v6, v7, v8] ∧ Same H H' ∧ H dN = none ∧ H' dN = some (.dT (kvsT (2 * r) es)) ∧ Nm r es (ways r ts n (n + r - i) i) (cnt r ts n)) ⟨d0, [(0, 1)], none, none, none, none, none, rfl, sH, ndN0, eN0, ⟨by decide, fun p hp => by rw [List.mem_singleton.mp hp]; exact pw0, ?_⟩⟩ ?_ ?_
    · rw [wsum_cons]
      show 1 * ways r ts n (n + r - 0) 0 0 + 0 = _
      rw [Int.one_mul, Int.add_zero]
      rfl
    · rintro i _ H4 hi ⟨dN, es, v4, v5, v6, v7, v8, rfl, s4, ndN, eN, nm⟩
      obtain ⟨k, hk⟩ : ∃ k, n + r - i = k + 1 := ⟨n + r - i - 1, by omega⟩
      have hk' : n + r - (i + 1) = k := by omega
      have lN := few_keys nm.nd nm.lt
      intro dL ndL
      have g1 := same_upd (o := .dT []) ndL
      have eL1 : upd H4 dL (.dT []) dL = some (.dT (kvsT (2 * r) [])) := upd_same
      have eN1 := g1 _ _ eN
      have s5 := s4.trans g1
      have ndLH : H dL = none := s4.free ndL
      have nLN : dL ≠ dN := fun z => by rw [z, eN] at ndL; cases ndL
      generalize upd H4 dL (.dT []) = H5 at g1 eL1 eN1 s5 ⊢
      refine ⟨dN, .dT (kvsT (2 * r) es), eN1, trivial, fun od => ?_⟩
      have hxN : ∀ b o, H b = some o → b ≠ dN := fun b o e => ne_of_none e ndN
      have hxL : ∀ b o, H b = some o → b ≠ dL := fun b o e => ne_of_none e ndLH
      refine ⟨_, rfl, dN, od, rfl, .inr ⟨kvsT (2 * r) es, upd_same, ?_⟩⟩
      have lk := kvsT_len (2 * r) es
      refine for_it (walk_keysT (d := dN) (o := od) (kvs := kvsT (2 * r) es)) (fun j σ G => ∃ es' v6 v7 v8, σ = [some (.int (r : Int)), some (.ref T), some (.int (n : Int)), some (.ref dN), some (.int ((0 : Int) + (i : Nat))), some (.ref dL), v6, v7, v8] ∧ Same H G ∧ G dN = some (.frz od (.dT (kvsT (2 * r) es))) ∧ G dL = some (.dT (kvsT (2 * r) es')) ∧ Nm r es' (ways r ts n k (i + 1)) (wsum (es.take j) (ways r ts n (k + 1) i))) ⟨[], v6, v7, v8, rfl, fun b o e => by rw [upd_ne (hxN b o e)]; exact s5 _ _ e, upd_same, by rw [upd_ne nLN]; exact eL1, ⟨List.nodup_nil, (fun p hp => nomatch hp), rfl⟩⟩ (fun j σ G _ z => by obtain ⟨_, _, _, _, _, _, z, _⟩ := z; exact z) (fun j v σ G3 G4 hj z y => ?_) (fun σ G z => ?_)
      · obtain ⟨es', v6, v7, v8, rfl, s6, eN3, eL3, nm3⟩ := z
        obtain ⟨rfl, ky, vv, tq, ek, rfl, etq⟩ := y
        obtain ⟨⟨e, m⟩, hem⟩ : ∃ em, es[j]? = some em := ⟨_, List.getElem?_eq_getElem (by rw [← lk]; exact hj)⟩
        have ek' := kvsT_at (m := 2 * r) hem
        rw [ek'] at ek
        cases ek
        have le : e < 2 ^ (2 * r) := nm.lt _ (List.mem_of_getElem? hem)
        have gE : getE es e = some m := getE_at nm.nd hem
        rw [key_map] at etq
        have ec : (1 : Int) + (if decide (((0 : Int) + (i : Nat)) < (n : Int)) = true then 1 else 0) = ((cellsN n i).length : Int) := by
          unfold cellsN
          by_cases c : i < n
          · rw [if_pos c, decide_eq_true (by omega)]
            rfl
          · rw [if_neg c, decide_eq_false (by omega)]
            rfl
        have lc : (cellsN n i).length ≤ 2 := by
          unfold cellsN
          by_cases c : i < n
          · rw [if_pos c]
            exact Nat.le_refl 2
          · rw [if_neg c]
            decide
        have cellAtN : ∀ c, c < (cellsN n i).length → (cellsN n i)[c]? = some c := by
          intro c
          unfold cellsN
          by_cases d : i < n
          · rw [if_pos d]
            intro hc
            match c, hc with
            | 0, _ => rfl
            | 1, _ => rfl
          · rw [if_neg d]
            intro hc
            match c, hc with
            | 0, _ => rfl
        refine ⟨_, rfl, _, rfl, _, _, rfl, rfl, .inr ⟨_, rfl, _, _, rfl, rfl, ((cellsN n i).length : Int), congrArg (fun z => [V.int z]) ec, by omega, by omega, ?_⟩⟩
        rw [show (((cellsN n i).length : Int)).toNat = (cellsN n i).length from rfl]
        refine for_range (lo := 0) (n := (cellsN n i).length) (fun c σ G => ∃ es'' v7 v8, σ = [some (.int (r : Int)), some (.ref T), some (.int (n : Int)), some (.ref dN), some (.int ((0 : Int) + (i : Nat))), some (.ref dL), some (.ref tq), v7, v8] ∧ Same H G ∧ G dN = some (.frz od (.dT (kvsT (2 * r) es))) ∧ G dL = some (.dT (kvsT (2 * r) es'')) ∧ G tq = some (.tup ((digits e (2 * r)).map V.int)) ∧ Nm r es'' (ways r ts n k (i + 1)) (wsum (es.take j) (ways r ts n (k + 1) i) + m * (((cellsN n i).take c).map fun c => if okC r ts i (2 * e + c) = true then ways r ts n k (i + 1) ((2 * e + c) % 2 ^ (2 * r)) else 0).sum)) ⟨es', v7, v8, rfl, s6, eN3, eL3, etq, ⟨nm3.nd, nm3.lt, by rw [nm3.sum, List.take_zero, List.map_nil, List.sum_nil, Int.mul_zero, Int.add_zero]⟩⟩ ?_ ?_
        · rintro c _ G hcl ⟨es'', v7, v8, rfl, s7, eN4, eL4, etq4, nm4⟩
          have hc := cellAtN c hcl
          have cl := cells_get hc
          have pw2 : 2 ^ (2 * r + 1) = 2 * 2 ^ (2 * r) := by rw [Nat.pow_succ]; omega
          have ll : 2 * e + c < 2 ^ (2 * r + 1) := by omega
          have exl : ts[2 * e + c]? = some (ts.getD (2 * e + c) 0) := by
            rw [List.getD_eq_getElem?_getD, List.getElem?_eq_getElem (by omega)]
            rfl
          have next : okC r ts i (2 * e + c) = false → Nm r es'' (ways r ts n k (i + 1)) (wsum (es.take j) (ways r ts n (k + 1) i) + m * (((cellsN n i).take (c + 1)).map fun c => if okC r ts i (2 * e + c) = true then ways r ts n k (i + 1) ((2 * e + c) % 2 ^ (2 * r)) else 0).sum) := fun z => by
            refine ⟨nm4.nd, nm4.lt, ?_⟩
            rw [nm4.sum, take_more hc, List.map_append, List.sum_append, List.map_cons, List.map_nil, List.sum_cons, List.sum_nil, z, if_neg (by decide), Int.add_zero, Int.add_zero]
          have yes : okC r ts i (2 * e + c) = true → Nm r (putE es'' ((2 * e + c) % 2 ^ (2 * r)) ((getE es'' ((2 * e + c) % 2 ^ (2 * r))).getD 0 + m)) (ways r ts n k (i + 1)) (wsum (es.take j) (ways r ts n (k + 1) i) + m * (((cellsN n i).take (c + 1)).map fun c => if okC r ts i (2 * e + c) = true then ways r ts n k (i + 1) ((2 * e + c) % 2 ^ (2 * r)) else 0).sum) := fun z => by
            refine ⟨put_nodup nm4.nd, fun q hq => ?_, ?_⟩
            · rcases put_mem hq with e1 | h1
              · rw [e1]
                exact Nat.mod_lt _ pw0
              · exact nm4.lt q h1
            · rw [put_sum _ nm4.nd, nm4.sum, take_more hc, List.map_append, List.sum_append, List.map_cons, List.map_nil, List.sum_cons, List.sum_nil, z, if_pos rfl, Int.add_zero, Int.mul_add, Int.add_assoc]
          have ku := few_keys nm4.nd nm4.lt
          have lk4 := kvsT_len (2 * r) es''
          have ltail : ((digits e (2 * r)).map V.int).length ≤ 6 := by rw [List.length_map, digits_len]; omega
          refine ⟨_, rfl, _, rfl, few (n := 1) (by decide), fun t nt => ⟨tq, t, _, [.int ((0 : Int) + (c : Nat))], rfl, rfl, same_upd nt _ _ etq4, upd_same, by show _ + 1 ≤ 100000; omega, fun g G5 s8 hg => ?_⟩⟩
          have sG : Same G G5 := (same_upd nt).trans s8
          have hg : G5 g = some (.tup ((digits (2 * e + c) (2 * r + 1)).map V.int)) := by
            rw [hg, ← dig_snoc e c (2 * r) cl, List.map_append, Int.zero_add]
            rfl
          have s9 := s7.trans sG
          have eN5 := sG _ _ eN4
          have eL5 := sG _ _ eL4
          have etq5 := sG _ _ etq4
          have hT5 := Same.seq s9 hT
          have lst : (2 * e + c) % 2 ^ (2 * r) < 2 ^ (2 * r) := Nat.mod_lt _ pw0
          have ntL : tq ≠ dL := fun z => by rw [z, eL5] at etq5; cases etq5
          have gv : (valV (kvsT (2 * r) es'') (keyOf (digits ((2 * e + c) % 2 ^ (2 * r)) (2 * r)))).getD (V.int 0) = V.int ((getE es'' ((2 * e + c) % 2 ^ (2 * r))).getD 0) := by
            rw [val_T lst nm4.lt]
            cases getE es'' ((2 * e + c) % 2 ^ (2 * r)) <;> rfl
          refine ⟨_, rfl, _, rfl, _, _, rfl, rfl, _, rfl, ite2 (fun c1 => ?_) (fun c1 => ?_)⟩
          · have ok : okC r ts i (2 * e + c) = true := by
              unfold okC
              have : (0 : Int) + (i : Nat) < (r : Int) := of_decide_eq_true c1
              rw [decide_eq_true (by omega : i < r)]
              rfl
            refine ⟨_, rfl, dL, rfl, .inr ⟨_, .inl eL5⟩, _, rfl, 1, rfl, g, _, rfl, hg, fun h1 G6 s10 hh1 => ?_⟩
            rw [tail_key] at hh1
            have eN6 := s10 _ _ eN5
            have eL6 := s10 _ _ eL5
            have etq6 : G6 tq = some (.tup ((keyOf (digits e (2 * r))).map kV)) := by
              rw [key_map]
              exact s10 _ _ etq5
            have dN6 : DGet G6 dN (.ref tq) (some (.int m)) := .inr ⟨kvsT (2 * r) es, keyOf (digits e (2 * r)), tq, .inr ⟨od, eN6⟩, rfl, etq6, by rw [val_T le nm.lt, gE]; rfl⟩
            refine ⟨_, DGet.t eL6 hh1, _, rfl, _, rfl, dN, _, rfl, dN6, _, _, gv, rfl, _, rfl, _, rfl, 1, rfl, g, _, rfl, s10 _ _ hg, fun h2 G7 s11 hh2 => ?_⟩
            rw [tail_key] at hh2
            have s12 := s9.trans (s10.trans s11)
            have eL7 := s11 _ _ eL6
            refine ⟨dL, _, rfl, DPut.t eL7 hh2 (lineN (by omega)), ?_⟩
            exact ⟨_, _, _, rfl, (fun b o e => by rw [upd_ne (hxL b o e)]; exact s12 _ _ e), (by rw [upd_ne nLN.symm]; exact s11 _ _ eN6), (by rw [upd_same, put_T lst nm4.lt]), (by rw [upd_ne ntL]; exact s11 _ _ (s10 _ _ etq5)), yes ok⟩
          · have c1' : ¬ i < r := fun z => c1 (decide_eq_true (by omega))
            have en : numOf (digits (2 * e + c) (2 * r + 1)) = ((2 * e + c : Nat) : Int) := by rw [numOf_digits, Nat.mod_eq_of_lt ll]
            refine ⟨_, rfl, _, rfl, g, _, rfl, SqT.of hg, T, _, ((2 * e + c : Nat) : Int), .int (ts.getD (2 * e + c) 0), rfl, congrArg V.int en, hT5, atI_nat (by rw [List.getElem?_map, exl]; rfl), _, rfl, _, rfl, g, _, (r : Int), _, rfl, rfl, SqT.of hg, atI_nat dig_mid, rfl, _, rfl, ite2 (fun c2 => ?_) (fun c2 => ?_)⟩
            · have ok : okC r ts i (2 * e + c) = true := by
                unfold okC
                rw [decide_eq_true (V.int.inj (of_decide_eq_true c2)), Bool.or_true]
              refine ⟨_, rfl, dL, rfl, .inr ⟨_, .inl eL5⟩, _, rfl, 1, rfl, g, _, rfl, hg, fun h1 G6 s10 hh1 => ?_⟩
              rw [tail_key] at hh1
              have eN6 := s10 _ _ eN5
              have eL6 := s10 _ _ eL5
              have etq6 : G6 tq = some (.tup ((keyOf (digits e (2 * r))).map kV)) := by
                rw [key_map]
                exact s10 _ _ etq5
              have dN6 : DGet G6 dN (.ref tq) (some (.int m)) := .inr ⟨kvsT (2 * r) es, keyOf (digits e (2 * r)), tq, .inr ⟨od, eN6⟩, rfl, etq6, by rw [val_T le nm.lt, gE]; rfl⟩
              refine ⟨_, DGet.t eL6 hh1, _, rfl, _, rfl, dN, _, rfl, dN6, _, _, gv, rfl, _, rfl, _, rfl, 1, rfl, g, _, rfl, s10 _ _ hg, fun h2 G7 s11 hh2 => ?_⟩
              rw [tail_key] at hh2
              have s12 := s9.trans (s10.trans s11)
              have eL7 := s11 _ _ eL6
              refine ⟨dL, _, rfl, DPut.t eL7 hh2 (lineN (by omega)), ?_⟩
              exact ⟨_, _, _, rfl, (fun b o e => by rw [upd_ne (hxL b o e)]; exact s12 _ _ e), (by rw [upd_ne nLN.symm]; exact s11 _ _ eN6), (by rw [upd_same, put_T lst nm4.lt]), (by rw [upd_ne ntL]; exact s11 _ _ (s10 _ _ etq5)), yes ok⟩
            · have no : okC r ts i (2 * e + c) = false := by
                unfold okC
                rw [decide_eq_false c1', decide_eq_false (fun z => c2 (decide_eq_true (by rw [z]))), Bool.or_false]
              exact ⟨_, _, _, rfl, s9, eN5, eL5, etq5, next no⟩
        · rintro _ G ⟨es'', v7, v8, rfl, s7, eN4, eL4, etq4, nm4⟩
          rw [List.take_length] at nm4
          refine ⟨es'', _, _, _, rfl, s7, eN4, eL4, ⟨nm4.nd, nm4.lt, ?_⟩⟩
          rw [nm4.sum, take_more hem, wsum_app, wsum_cons]
          show _ = _ + (m * ways r ts n (k + 1) i e + 0)
          rw [Int.add_zero]
          rfl
      · obtain ⟨es', v6, v7, v8, rfl, s6, eN3, eL3, nm3⟩ := z
        rw [lk, List.take_length] at nm3
        refine ⟨eN3, _, rfl, dL, es', _, _, _, _, _, rfl, fun b o e => ?_, ndLH, ?_, ?_⟩
        · rw [upd_ne (hxN b o e)]
          exact s6 _ _ e
        · rw [upd_ne nLN]
          exact eL3
        · rw [hk']
          rw [hk] at nm
          rw [nm.sum] at nm3
          exact nm3
    · rintro _ H6 ⟨dN, es, v4, v5, v6, v7, v8, rfl, s4, ndN, eN, nm⟩
      have lN := few_keys nm.nd nm.lt
      have lk := kvsT_len (2 * r) es
      have hxN : ∀ b o, H b = some o → b ≠ dN := fun b o e => ne_of_none e ndN
      refine ⟨dN, .dT (kvsT (2 * r) es), eN, trivial, fun od => ?_⟩
      refine ⟨_, rfl, dN, od, rfl, .inr ⟨kvsT (2 * r) es, upd_same, fun D nD => ?_⟩⟩
      have nDN : D ≠ dN := fun z => by rw [z, upd_same] at nD; cases nD
      have hxD : ∀ b o, H b = some o → b ≠ D := fun b o e z => by
        rw [← z, upd_ne (hxN b o e), s4 _ _ e] at nD
        cases nD
      refine lc_it (walk_keysT (d := dN) (o := od) (kvs := kvsT (2 * r) es)) (fun j G => Same H G ∧ G dN = some (.frz od (.dT (kvsT (2 * r) es))) ∧ G D = some (.lst ((((es.map (·.2)).take j)).map V.int))) ⟨fun b o e => by rw [upd_ne (hxD b o e), upd_ne (hxN b o e)]; exact s4 _ _ e, by rw [upd_ne nDN.symm]; exact upd_same, upd_same⟩ (fun j G _ z => z.2.1) (fun j v G0 G hj z y => ?_) (fun G z => ?_)
      · obtain ⟨sG, eG, eD⟩ := z
        obtain ⟨rfl, ky, vv, tq, ek, rfl, etq⟩ := y
        obtain ⟨⟨e, m⟩, hem⟩ : ∃ em, es[j]? = some em := ⟨_, List.getElem?_eq_getElem (by rw [← lk]; exact hj)⟩
        have ek' := kvsT_at (m := 2 * r) hem
        rw [ek'] at ek
        cases ek
        have le : e < 2 ^ (2 * r) := nm.lt _ (List.mem_of_getElem? hem)
        have gE : getE es e = some m := getE_at nm.nd hem
        have dN6 : DGet G dN (.ref tq) (some (.int m)) := .inr ⟨kvsT (2 * r) es, keyOf (digits e (2 * r)), tq, .inr ⟨od, eG⟩, rfl, etq, by rw [val_T le nm.lt, gE]; rfl⟩
        refine ⟨rfl, lc_yes ⟨_, rfl, _, rfl, dN, _, rfl, dN6, _, eD, ?_, ?_⟩⟩
        · rw [List.length_map, List.length_take]
          exact lineN (by omega)
        · refine ⟨fun b o e => by rw [upd_ne (hxD b o e)]; exact sG _ _ e, by rw [upd_ne nDN.symm]; exact eG, ?_⟩
          have em2 : (es.map (·.2))[j]? = some m := by rw [List.getElem?_map, hem]; rfl
          rw [upd_same, take_more em2, List.map_append]
          rfl
      · obtain ⟨sG, eG, eD⟩ := z
        rw [lk, List.take_of_length_le (by rw [List.length_map]; exact Nat.le_refl _)] at eD
        have sF : Same H (upd G dN (.dT (kvsT (2 * r) es))) := fun b o e => by
          rw [upd_ne (hxN b o e)]
          exact sG _ _ e
        refine ⟨eG, D, es.map (·.2), rfl, SqL.of (by rw [upd_ne nDN]; exact eD), ?_⟩
        rw [sum_vals]
        have z := nm.sum
        rw [Nat.sub_self] at z
        rw [show wsum es (fun _ => 1) = cnt r ts n from z]
        exact q _ sF
end

end K33
namespace K33
open PySem PySem.Spec PyProof.Rows L2 SL
section
variable {P : Program} {w : World} {K : PySem.W.Frag} {mg : Str → Option Value} {base : Heap} {cR iR cN iN cB iB cU fU gU cL : Addr} {fdU fdG : FuncData} {f : Addr} {fd : FuncData}
/-! ### _law_asked, _law_is_same -/
theorem sc_law_asked : FnScope ["which", "window", "row", "many", "told", "e"] ["which", "window", "row", "many"] (defScope s_law_asked) := ⟨rfl, rfl, rfl, by decide +kernel, rfl, by decide +kernel, by decide +kernel⟩
def answers (vs : List V) (Q : VK) (H : Hp) : Prop := ∀ H' t, Same H H' → H t = none → H' t = some (.lst vs) → Q (.ref t) H'
def spAsked33 (K : PySem.W.Frag) (cU : Addr) : Sp := fun vs H Q _ => ∃ x r ts v d mv T1 wh, vs = [.int wh, .ref x, v, mv] ∧ WinAt K cU H x r ts ∧ Dt K H v d ∧ Knw K H mv T1 ∧
  (((wh = 0 ∨ wh = 2) ∧ rowD d = false ∧ answers [.str "row", .str "row"] Q H) ∨ (wh = 1 ∧ withinV 0 200 mv = false ∧ answers [.str "number", .str "length"] Q H) ∨ (wh = 2 ∧ rowD d = true ∧ withinV 0 200 mv = false ∧ answers [.str "number", .str "most"] Q H))
theorem ok_law_asked (M : MF P w K mg cR iR cN iN cB iB cU fU gU cL) (F_rests : FnC P w K mg base (L2.CX P w) 10 "rests" ["window", "row"] (spRestsX K cR cU)) (F_many_rest : FnC P w K mg base (L2.CX P w) 6 "many_rest" ["window", "length"] (spMany K cU cN)) (F_swept_till : FnC P w K mg base (L2.CX P w) 10 "swept_till" ["window", "row", "most"] (spTillW K cR cN cU))
    (F : Fun K "_law_asked" "_law_asked" s_law_asked f fd) : FnOk P w K mg base CX0 12 f fd ["which", "window", "row", "many"] (spAsked33 K cU) := by
  refine F.ok (k := 11) sc_law_asked (fun vs H Q E h => ?_) (fun cdv A outer s H vs Q E hr h => ?_)
  · obtain ⟨x, r, ts, v, d, mv, T1, wh, rfl, _⟩ := h
    rfl
  · obtain ⟨x, r, ts, v, d, mv, T1, wh, rfl, hW, hd, hk, h⟩ := h
    refine ⟨_, (pss_cons (ps_clauses rfl rfl sc_law_asked.nd takes0 (fun W pn xe tk _ => (pss_one (ps_if (pt_cmpR op_eq (pv 0) pe_int (nomark _))
      (pss_one (ps_set (i := 4) sc_law_asked.nd rfl (Or.inl rfl) (pe_lst (pa_cons pe_str (pa_cons (pe_fS F_rests hr (by omega) (fun σ => passAt tk σ) (pa_cons (pv 1) (pa_cons (pv 2) pa_nil))) pa_nil))))) (pss_one (ps_if (pt_cmpR op_eq (pv 0) pe_int (nomark _))
      (pss_one (ps_set (i := 4) sc_law_asked.nd rfl (Or.inl rfl) (pe_lst (pa_cons pe_str (pa_cons (pe_fS F_many_rest hr (by omega) (fun σ => passAt tk σ) (pa_cons (pv 1) (pa_cons (pv 3) pa_nil))) pa_nil))))) (pss_one (ps_set (i := 4) sc_law_asked.nd rfl (Or.inl rfl) (pe_lst (pa_cons pe_str (pa_cons (pe_fS F_swept_till hr (by omega) (fun σ => passAt tk σ) (pa_cons (pv 1) (pa_cons (pv 2) (pa_cons (pv 3) pa_nil)))) pa_nil))))))))))
      (ClausesOk.named (i := 5) rfl rfl ⟨rfl, by decide, .inl M.g_BadRow⟩ (fun a oe cls d pn hz hf => (pss_one (ps_set (i := 4) sc_law_asked.nd rfl (Or.inl rfl) (pe_lst (pa_cons pe_str (pa_cons (pe_exf M.x_BadRow hz hf (pv 5)) pa_nil)))))) (ClausesOk.named (i := 5) rfl rfl ⟨rfl, by decide, .inl M.g_BadNumber⟩ (fun a oe cls d pn hz hf => (pss_one (ps_set (i := 4) sc_law_asked.nd rfl (Or.inl rfl) (pe_lst (pa_cons pe_str (pa_cons (pe_exf M.x_BadNumber hz hf (pv 5)) pa_nil)))))) (ClausesOk.only ⟨rfl, by decide, .inl M.g_LabelError⟩ (fun a oe cls d pn hz hf => (pss_one (ps_set (i := 4) sc_law_asked.nd rfl (Or.inl rfl) (pe_lst (pa_cons pe_str pa_nil))))) ClausesOk.nil))))
      (pss_one (ps_ret (pv 4)))), ?_⟩
    rcases h with ⟨rfl | rfl, rD, an⟩ | ⟨rfl, wN, an⟩ | ⟨rfl, rD, wN, an⟩
    · refine ⟨_, rfl, rfl, _, rfl, iteT ⟨_, rfl, _, rfl, x, r, ts, v, d, rfl, hW, hd, fun _ H' dx s' nd => ⟨true, M.e_RR, fun _ ee na => ⟨.ref ee, rfl, rfl, rfl, dx, _, rfl, upd_same, few (n := 2) (by decide), fun t nt => ⟨_, rfl, an _ t (s'.trans ((same_upd nd).trans (same_upd nt))) ((s'.trans (same_upd nd)).free nt) upd_same⟩⟩, fun z => nomatch z⟩, fun cs ec hb => ?_⟩⟩
      rw [ec, rowT hb] at rD
      cases rD
    · refine ⟨_, rfl, rfl, _, rfl, iteF ⟨_, rfl, rfl, _, rfl, iteF ⟨_, rfl, _, rfl, _, rfl, x, r, ts, v, d, mv, T1, rfl, hW, hd, hk, fun _ H' dx s' nd => ⟨true, M.e_RR, fun _ ee na => ⟨.ref ee, rfl, rfl, rfl, dx, _, rfl, upd_same, few (n := 2) (by decide), fun t nt => ⟨_, rfl, an _ t (s'.trans ((same_upd nd).trans (same_upd nt))) ((s'.trans (same_upd nd)).free nt) upd_same⟩⟩, fun z => nomatch z⟩, fun rt => ?_, fun cs m ec hb => ?_⟩⟩⟩
      · rw [rt] at rD
        cases rD
      · rw [ec, rowT hb] at rD
        cases rD
    · refine ⟨_, rfl, rfl, _, rfl, iteF ⟨_, rfl, rfl, _, rfl, iteT ⟨_, rfl, _, rfl, x, r, ts, mv, T1, rfl, hW, hk, fun _ => fun H' dx s' nd => ⟨false, M.e_NR, (fun z => nomatch z), fun _ => ⟨true, M.e_NN, fun _ ee na => ⟨.ref ee, rfl, rfl, rfl, dx, _, rfl, upd_same, few (n := 2) (by decide), fun t nt => ⟨_, rfl, an _ t (s'.trans ((same_upd nd).trans (same_upd nt))) ((s'.trans (same_upd nd)).free nt) upd_same⟩⟩, fun z => nomatch z⟩⟩, fun wt => ?_⟩⟩⟩
      rw [wt] at wN
      cases wN
    · refine ⟨_, rfl, rfl, _, rfl, iteF ⟨_, rfl, rfl, _, rfl, iteF ⟨_, rfl, _, rfl, _, rfl, x, r, ts, v, d, mv, T1, rfl, hW, hd, hk, fun rf => ?_, fun _ _ => fun H' dx s' nd => ⟨false, M.e_NR, (fun z => nomatch z), fun _ => ⟨true, M.e_NN, fun _ ee na => ⟨.ref ee, rfl, rfl, rfl, dx, _, rfl, upd_same, few (n := 2) (by decide), fun t nt => ⟨_, rfl, an _ t (s'.trans ((same_upd nd).trans (same_upd nt))) ((s'.trans (same_upd nd)).free nt) upd_same⟩⟩, fun z => nomatch z⟩⟩, fun cs m ec hb em m2 => ?_⟩⟩⟩
      · rw [rf] at rD
        cases rD
      · rw [em] at wN
        have wy : withinV 0 200 (.int (m : Int)) = true := by
          show (decide ((0 : Int) ≤ (m : Int)) && decide ((m : Int) ≤ 200)) = true
          rw [decide_eq_true (by omega), decide_eq_true (by omega)]
          rfl
        rw [wy] at wN
        cases wN
theorem shaped_lst (ns : List Int) : SeqAt.shaped (.list (ns.map PyData.int)) = true := by
  unfold SeqAt.shaped
  have h1 : (PyData.list (ns.map PyData.int)).canLay0 = true := lay_ints ns
  have h2 : (PyData.list (ns.map PyData.int)).depth = 1 := by
    show PyData.depthAll (ns.map PyData.int) + 1 = 1
    rw [depth_ints]
  rw [h1, h2]
  rfl
theorem eqv_lsts (ns ms : List Int) : PyData.eqv (.list (ns.map PyData.int)) (.list (ms.map PyData.int)) = decide (ns = ms) := eqvAll_ints ns ms
theorem sc_law_is_same : FnScope ["table", "radius", "item", "look"] ["table", "radius"] (defScope s_law_is_same) := ⟨rfl, rfl, rfl, by decide +kernel, rfl, by decide +kernel, by decide +kernel⟩
def midT (r : Nat) : List Int := (rowsN (2 * r + 1)).map fun L => L.getD r 0
def spIsSame (K : PySem.W.Frag) : Sp := fun vs H Q _ => ∃ (r : Nat) (T : Addr) (ts : List Int), vs = [.ref T, .int (r : Int)] ∧ SqL K H T (ts.map V.int) ∧ ts.length = 2 ^ (2 * r + 1) ∧ r ≤ 3 ∧ ∀ H', Same H H' → Q (.bl (decide (ts = midT r))) H'
theorem ok_law_is_same (M : MF P w K mg cR iR cN iN cB iB cU fU gU cL) (F_law_rows : FnC P w K mg base CX0 1 "_law_rows" ["length"] (spRows K)) (F : Fun K "_law_is_same" "_law_is_same" s_law_is_same f fd) : FnOk P w K mg base CX0 3 f fd ["table", "radius"] (spIsSame K) := by
  refine F.ok (k := 2) sc_law_is_same (fun vs H Q E h => ?_) (fun cdv A outer s H vs Q E hr h => ?_)
  · obtain ⟨r, T, ts, rfl, _⟩ := h
    rfl
  · obtain ⟨r, T, ts, rfl, hT, lt, r3, q⟩ := h
    have pw8 : 2 ^ (2 * r + 1) ≤ 8192 := pow_small (by omega)
    refine ⟨_, (pss_one (ps_ret (pe_cmpR (op_eqD hr.units) (pe_lc (own := [("item", 2)]) (tt := tYes) rfl sc_law_is_same.nd (pi_list (pv 0)) (blkOk_by (N := ["table", "radius", "item", "look"]) (sc := defScope s_law_is_same) (by decide +kernel)) (fun _ _ _ _ _ => (pg_name (i := 2) sc_law_is_same.nd rfl (Or.inl rfl))) (fun _ _ _ _ _ => pts_nil) (fun _ _ _ _ _ => (pe_callTy call_int1 (by rfl) M.m_int (by decide +kernel) (pa_cons (pv 2) pa_nil)))) (pe_lc (own := [("look", 3)]) (tt := tYes) rfl sc_law_is_same.nd (pi_list (pe_f F_law_rows hr (by omega) pass0 (pa_cons (pe_op op_add (pe_op op_mul pe_int (pv 1)) pe_int) pa_nil))) (blkOk_by (N := ["table", "radius", "item", "look"]) (sc := defScope s_law_is_same) (by decide +kernel)) (fun _ _ _ _ _ => (pg_name (i := 3) sc_law_is_same.nd rfl (Or.inl rfl))) (fun _ _ _ _ _ => pts_nil) (fun _ _ _ _ _ => (pe_ix (ix_tupK K) (pv 3) (pv 1) (fun _ _ => rfl)))) (nomark _)))), ?_⟩
    refine ⟨_, rfl, T, rfl, ⟨_, hT⟩, fun D nD => ?_⟩
    refine lc_list (K := K) (a := T) (xs := ts.map V.int) (fun j H' => Same H H' ∧ H' D = some (.lst ((ts.take j).map V.int))) ⟨same_upd nD, upd_same⟩ (fun j H' _ p => Same.seq p.1 hT) (fun j y H' hy p => ?_) (fun H1 p => ?_)
    · obtain ⟨s1, eD⟩ := p
      rw [List.getElem?_map] at hy
      obtain ⟨c, hc, rfl⟩ := Option.map_eq_some_iff.mp hy
      have jl := (List.getElem?_eq_some_iff.mp hc).1
      refine ⟨rfl, lc_yes ⟨_, rfl, .inl ⟨_, rfl, _, eD, ?_, same_put s1 nD, ?_⟩⟩⟩
      · rw [List.length_map, List.length_take]
        exact lineN (by omega)
      · rw [upd_same, take_more hc, List.map_append]
        rfl
    obtain ⟨s1, eD⟩ := p
    rw [List.length_map, List.take_length] at eD
    refine ⟨_, rfl, _, _, rfl, rfl, .inl ⟨by decide, by decide⟩, _, _, rfl, rfl, 2 * r + 1, en r, by omega, fun H2 l ws rs s2 nl el hR pm pw => ⟨l, rfl, ⟨_, SqL.of el⟩, fun D2 nD2 => ?_⟩⟩
    obtain rfl := rows_eq pm pw
    have lw : ws.length = 2 ^ (2 * r + 1) := by rw [RowsI.length hR, rowsN_len]
    refine lc_list (K := K) (a := l) (xs := ws) (fun j H' => Same H2 H' ∧ H' D2 = some (.lst (((midT r).take j).map V.int))) ⟨same_upd nD2, upd_same⟩ (fun j H' _ p => SqL.of (p.1 _ _ el)) (fun j y H' hy p => ?_) (fun H3 p => ?_)
    · obtain ⟨s3, eD2⟩ := p
      obtain ⟨b, row, rfl, er, hb⟩ := RowsI.get hR hy
      have jl : j < ws.length := (List.getElem?_eq_some_iff.mp hy).1
      obtain ⟨rl, rb⟩ := rowsN_row (List.mem_of_getElem? er)
      have hx : row[r]? = some (row.getD r 0) := by
        rw [List.getD_eq_getElem?_getD, List.getElem?_eq_getElem (by omega)]
        rfl
      have em : (midT r)[j]? = some (row.getD r 0) := by
        unfold midT
        rw [List.getElem?_map, er]
        rfl
      refine ⟨rfl, lc_yes ⟨_, rfl, _, rfl, b, row.map V.int, (r : Int), .int (row.getD r 0), rfl, rfl, Same.seqT s3 hb, atI_nat (by rw [List.getElem?_map, hx]; rfl), _, eD2, ?_, same_put s3 nD2, ?_⟩⟩
      · rw [List.length_map, List.length_take]
        exact lineN (by omega)
      · rw [upd_same, take_more em, List.map_append]
        rfl
    obtain ⟨s3, eD2⟩ := p
    rw [lw, List.take_of_length_le (by unfold midT; rw [List.length_map, rowsN_len]; exact Nat.le_refl _)] at eD2
    refine ⟨_, _, .lst (SqL.of (s3 _ _ (s2 _ _ eD))) (DpAll.ints ts), .lst (SqL.of eD2) (DpAll.ints _), shaped_lst _, shaped_lst _, ?_⟩
    rw [eqv_lsts]
    exact q H3 ((s1.trans s2).trans s3)
end

end K33
namespace K33
open PySem PySem.Spec PyProof.Rows L2 SL
section
/-! ### how many rows rest -/
theorem mid_get {r : Nat} {L : List Int} (l : L.length = 2 * r + 1) (b : bits L) : (midT r).getD (numOf L).toNat 0 = L.getD r 0 := by
  have nl := num_lt b
  rw [l] at nl
  have e := digits_num b
  rw [l] at e
  unfold midT rowsN
  rw [List.getD_eq_getElem?_getD, List.getElem?_map, List.getElem?_map, List.getElem?_range nl]
  show (digits (numOf L).toNat (2 * r + 1)).getD r 0 = _
  rw [e]
theorem look_mid33 {r p : Nat} {row : List Int} (hp : p < row.length) : (((pad r r row).drop p).take (2 * r + 1)).getD r 0 = row.getD p 0 := by
  rw [List.getD_eq_getElem?_getD, List.getElem?_take_of_lt (by omega), List.getElem?_drop]
  unfold pad
  rw [List.getElem?_append_left (by rw [List.length_append]; unfold zeros; rw [List.length_replicate]; omega), List.getElem?_append_right (by unfold zeros; rw [List.length_replicate]; omega)]
  unfold zeros
  rw [List.length_replicate, show p + r - r = p by omega, List.getD_eq_getElem?_getD]
theorem mid_rests {r : Nat} {row : List Int} (b : bits row) : sweptOf r (midT r) row = row := by
  refine list_same (n := row.length) (swept_len _ _ _) rfl fun i hi => ?_
  rw [swept_get hi, mid_get (by rw [List.length_take, List.length_drop, pad_len]; omega) (bits_cut (pad_bits b) _ _), look_mid33 hi, List.getD_eq_getElem?_getD, List.getElem?_eq_getElem hi]
  rfl
theorem all_rest {r : Nat} {ts : List Int} (lt : ts.length = 2 ^ (2 * r + 1)) (r3 : r ≤ 3) (h : ∀ row ∈ rowsN 200, restsB r ts row = true) : ts = midT r := by
  refine list_same (n := 2 ^ (2 * r + 1)) lt (by unfold midT; rw [List.length_map, rowsN_len]) fun n hn => ?_
  have bL := digits_bits n (2 * r + 1)
  have lL := digits_len n (2 * r + 1)
  have bR : bits (digits n (2 * r + 1) ++ zeros (200 - (2 * r + 1))) := bL.app (zeros_bits _)
  have lR : (digits n (2 * r + 1) ++ zeros (200 - (2 * r + 1))).length = 200 := by
    unfold zeros
    rw [List.length_append, List.length_replicate, lL]
    omega
  have z := of_decide_eq_true (h _ (rowsN_mem lR bR))
  have g := swept_get (r := r) (ts := ts) (cs := digits n (2 * r + 1) ++ zeros (200 - (2 * r + 1))) (i := r) (by omega)
  rw [z, mid_cut (Nat.le_refl r) (by omega), Nat.sub_self, List.drop_zero, List.take_append_of_le_length (by omega), List.take_of_length_le (by omega), numOf_digits, Nat.mod_eq_of_lt hn, Int.toNat_natCast, List.getElem?_append_left (by omega), List.getElem?_eq_getElem (by omega)] at g
  rw [List.getElem?_eq_getElem (by omega)]
  unfold midT
  rw [List.getElem?_map, rowsN_get hn]
  have g' := Option.some.inj g
  rw [List.getD_eq_getElem?_getD, List.getElem?_eq_getElem (by omega)] at g'
  refine congrArg some ?_
  show ts[n] = (digits n (2 * r + 1)).getD r 0
  rw [List.getD_eq_getElem?_getD, List.getElem?_eq_getElem (by omega)]
  exact g'.symm
theorem cnt_low (r n : Nat) (ts : List Int) : 0 ≤ cnt r ts n := by
  rw [cnt_rows]
  omega
theorem cnt_high (r n : Nat) (ts : List Int) : cnt r ts n ≤ 2 ^ n := by
  rw [cnt_rows, ← pow_cast]
  have := List.countP_le_length (p := restsB r ts) (l := rowsN n)
  rw [rowsN_len] at this
  omega
theorem cnt_mid (r n : Nat) : cnt r (midT r) n = 2 ^ n := by
  rw [cnt_rows, ← pow_cast, List.countP_eq_length (p := restsB r (midT r)) |>.mpr fun row hr => decide_eq_true (mid_rests (rowsN_row hr).2), rowsN_len]
theorem cnt_full {r : Nat} {ts : List Int} (lt : ts.length = 2 ^ (2 * r + 1)) (r3 : r ≤ 3) : cnt r ts 200 = 2 ^ 200 ↔ ts = midT r := by
  constructor
  · intro h
    refine all_rest lt r3 ?_
    rw [cnt_rows, ← pow_cast] at h
    have h' : (rowsN 200).countP (restsB r ts) = (rowsN 200).length := by
      rw [rowsN_len]
      exact Int.ofNat.inj h
    exact List.countP_eq_length.mp h'
  · intro h
    rw [h]
    exact cnt_mid r 200
theorem same_mid : ([0, 1] : List Int) = midT 0 := by decide
end

end K33
namespace K33
open PySem PySem.Spec PyProof.Rows L2 SL
section
variable {P : Program} {w : World} {K : PySem.W.Frag} {mg : Str → Option Value} {base : Heap} {cR iR cN iN cB iB cU fU gU cL : Addr} {fdU fdG : FuncData} {f : Addr} {fd : FuncData}
/-! ### the law -/
theorem off_comm (H : Hp) (p x : Addr) : SL.off (SL.off H p) x = SL.off (SL.off H x) p := by
  funext b
  by_cases h1 : b = p
  · subst h1
    by_cases h2 : b = x
    · subst h2
      rfl
    · rw [off_ne h2, off_at, off_at]
  · by_cases h2 : b = x
    · subst h2
      rw [off_at, off_ne h1, off_at]
    · rw [off_ne h2, off_ne h1, off_ne h1, off_ne h2]
theorem WinAt.offL {H : Hp} {x D : Addr} {us : List V} {r : Nat} {ts : List Int} (e : H D = some (.lst us)) (h : WinAt K cU H x r ts) : WinAt K cU (SL.off H D) x r ts := by
  obtain ⟨dx, a, h1, h2, h3⟩ := h
  have n : x ≠ D := fun z => by
    rw [z, e] at h1
    cases h1
  refine ⟨dx, a, by rw [off_ne n]; exact h1, ?_, h3⟩
  rw [off_comm]
  exact SqT.offL (us := us) (by rw [off_ne n.symm]; exact e) h2
theorem PoolAt.lst {H : Hp} {p q : Addr} (h : PoolAt H p q) : ∃ us, H p = some (.lst us) := by
  obtain ⟨ms, c, u, d, e, h1, _⟩ := h
  exact ⟨_, h1⟩
theorem dp_row {H : Hp} {a : Addr} {ns : List Int} (h : SqT K H a (ns.map V.int)) : Dp K H (.ref a) (.tuple (ns.map PyData.int)) := .tup h (DpAll.ints ns)
theorem plain_ints (n : Nat) : ∀ ns : List Int, plainDs n (ns.map PyData.int) = true
  | [] => rfl
  | _ :: r => by
    show (plainD n (.int _) && plainDs n (r.map PyData.int)) = true
    rw [plain_ints n r, Bool.and_true]
    cases n <;> rfl
theorem plain_row (n : Nat) {ns : List Int} (h : ns.length ≤ 100000) : plainD (n + 1) (.tuple (ns.map PyData.int)) = true := by
  show (decide ((ns.map PyData.int).length ≤ 100000) && plainDs n (ns.map PyData.int)) = true
  rw [plain_ints, List.length_map, decide_eq_true h]
  rfl
theorem op_eqDK {X : Cx} (K : PySem.W.Frag) (hk : X.K = K) (hu : X.A.units + 64 < cLine) : OpR X (compareOp .Eq) (rEqD K) := by
  subst hk
  exact op_eqD hu
/-- what is drawn -/
structure Bs (K : PySem.W.Frag) (cU : Addr) (G : Hp) (T x ra : Addr) (r : Nat) (ts cs : List Int) : Prop where
  tab : G T = some (.lst (ts.map V.int))
  win : WinAt K cU G x r ts
  row : SqT K G ra (cs.map V.int)
theorem Bs.same {G G' : Hp} {T x ra : Addr} {r : Nat} {ts cs : List Int} (s : Same G G') (h : Bs K cU G T x ra r ts cs) : Bs K cU G' T x ra r ts cs := ⟨s _ _ h.tab, h.win.same s, Same.seqT s h.row⟩
theorem withinI {n : Nat} (h : n ≤ 200) : withinV 0 200 (.int (n : Int)) = true := by
  show (decide ((0 : Int) ≤ (n : Int)) && decide ((n : Int) ≤ 200)) = true
  rw [decide_eq_true (by omega), decide_eq_true (by omega)]
  rfl
theorem plain_int (n : Nat) (i : Int) : plainD n (.int i) = true := by cases n <;> rfl
theorem plain_bool (n : Nat) (b : Bool) : plainD n (.bool b) = true := by cases n <;> rfl
theorem plain_till {i : Int} {row : List Int} (h : row.length ≤ 900) : plainD 2 (.tuple [.int i, .tuple (row.map PyData.int)]) = true := by
  show (decide (2 ≤ 100000) && (plainD 1 (.int i) && (plainD 1 (.tuple (row.map PyData.int)) && true))) = true
  rw [plain_int, plain_row 0 (by omega)]
  rfl
theorem till_len (r : Nat) (ts : List Int) : ∀ (k : Nat) (n : Int) (row : List Int), (tillN r ts k n row).2.length = row.length
  | 0, _, _ => rfl
  | k + 1, n, row => by
    by_cases c : sweptOf r ts row = row
    · rw [till_rest c]
    · rw [till_more c, till_len r ts k, swept_len]
theorem sc_law : FnScope ["script", "hand", "radius", "table", "window", "row", "length", "due", "most", "all_rows", "turn", "told", "odd", "bad", "other"] ["script"] (defScope s_law) := ⟨rfl, rfl, rfl, by decide +kernel, rfl, by decide +kernel, by decide +kernel⟩
def spLaw (K : PySem.W.Frag) : Sp := fun vs H Q _ => ∃ (a : Addr) (ns : List Int), vs = [.ref a] ∧ SqL K H a (ns.map V.int) ∧ ns.length ≤ 63 ∧ ∀ H', Q (.bl true) H'
set_option maxHeartbeats 8000000 in
theorem ok_law (M : MF P w K mg cR iR cN iN cB iB cU fU gU cL) (F_law_hand : FnC P w K mg base CX0 1 "_law_hand" ["script"] (spPool K)) (F_law_draw : FnC P w K mg base CX0 1 "_law_draw" ["hand", "many"] spDraw)
    (F_law_row : FnC P w K mg base CX0 3 "_law_row" ["hand", "length"] spLRow) (F_law_rows : FnC P w K mg base CX0 1 "_law_rows" ["length"] (spRows K)) (F_law_table : FnC P w K mg base CX0 3 "_law_table" ["hand", "radius"] spTab) (F_law_radius : FnC P w K mg base CX0 3 "_law_radius" ["hand"] spRad)
    (F_law_swept : FnC P w K mg base CX0 5 "_law_swept" ["radius", "table", "row"] (spLSwept K)) (F_law_same : FnC P w K mg base CX0 6 "_law_same" ["told", "due"] (spSame K 2)) (F_law_count : FnC P w K mg base CX0 3 "_law_count" ["radius", "table", "length"] (spLCount K)) (F_law_till : FnC P w K mg base CX0 7 "_law_till" ["radius", "table", "row", "most"] (spLTill K))
    (F_law_asked : FnC P w K mg base CX0 12 "_law_asked" ["which", "window", "row", "many"] (spAsked33 K cU)) (F_law_is_same : FnC P w K mg base CX0 3 "_law_is_same" ["table", "radius"] (spIsSame K))
    (F_same : FnC P w K mg base CX0 10 "same" [] (spSame0 K cU)) (F_rests : FnC P w K mg base (L2.CX P w) 10 "rests" ["window", "row"] (spRestsX K cR cU)) (F_many_rest : FnC P w K mg base (L2.CX P w) 6 "many_rest" ["window", "length"] (spMany K cU cN)) (F_swept_till : FnC P w K mg base (L2.CX P w) 10 "swept_till" ["window", "row", "most"] (spTillW K cR cN cU))
    (OW : FnOk P w K mg base (L2.CX P w) 8 fU fdU ["self", "radius", "table"] (spWin K cB cU)) (BW : Binds K fdU ["self", "radius", "table"] [])
    (F : Fun K "law" "law" s_law f fd) : FnOk P w K mg base CX0 14 f fd ["script"] (spLaw K) := by
  refine F.ok (k := 13) sc_law (fun vs H Q E h => ?_) (fun cdv A outer s H vs Q E hr h => ?_)
  · obtain ⟨a, ns, rfl, _⟩ := h
    rfl
  · obtain ⟨a, ss, rfl, hS, hl, fin⟩ := h
    refine ⟨_, (Evl.pss_cut (ps_set (i := 1) sc_law.nd rfl (Or.inl rfl) (pe_f F_law_hand hr (by omega) pass0 (pa_cons (pv 0) pa_nil)))
      (Evl.pss_cut (ps_set (i := 2) sc_law.nd rfl (Or.inr rfl) (pe_f F_law_radius hr (by omega) pass0 (pa_cons (pv 1) pa_nil)))
      (Evl.pss_cut (ps_set (i := 3) sc_law.nd rfl (Or.inr rfl) (pe_f F_law_table hr (by omega) pass0 (pa_cons (pv 1) (pa_cons (pv 2) pa_nil))))
      (Evl.pss_cut (ps_set (i := 4) sc_law.nd rfl (Or.inl rfl) (pe_make M.mk_Window OW (hr.mono (by decide)) (by rfl) M.g_Window BW .nil passL (pa_cons (pv 2) (pa_cons (pv 3) pa_nil))))
      (Evl.pss_cut (ps_set (i := 5) sc_law.nd rfl (Or.inl rfl) (pe_f F_law_row hr (by omega) pass0 (pa_cons (pv 1) (pa_cons (pe_f F_law_draw hr (by omega) pass0 (pa_cons (pv 1) (pa_cons pe_int pa_nil))) pa_nil))))
      (Evl.pss_cut (ps_if (pt_not (pt_val (pe_f F_law_same hr (by omega) pass0 (pa_cons (pe_f F_rests hr (by omega) passL (pa_cons (pv 4) (pa_cons (pv 5) pa_nil))) (pa_cons (pe_cmpR (op_eqD hr.units) (pe_f F_law_swept hr (by omega) pass0 (pa_cons (pv 2) (pa_cons (pv 3) (pa_cons (pv 5) pa_nil)))) (pv 5) (nomark _)) pa_nil)))))
      (pss_one (ps_ret pe_bl)) pss_nil)
      (Evl.pss_cut (ps_set (i := 6) sc_law.nd rfl (Or.inl rfl) (pe_f F_law_draw hr (by omega) pass0 (pa_cons (pv 1) (pa_cons pe_int pa_nil))))
      (Evl.pss_cut (ps_set (i := 7) sc_law.nd rfl (Or.inl rfl) (pe_callB call_len_seq (by rfl) M.m_len (by decide +kernel) (pa_cons (pe_lc (own := [("other", 14)]) rfl sc_law.nd (pi_list (pe_f F_law_rows hr (by omega) pass0 (pa_cons (pv 6) pa_nil))) (blkOk_by (N := ["script", "hand", "radius", "table", "window", "row", "length", "due", "most", "all_rows", "turn", "told", "odd", "bad", "other"]) (sc := defScope s_law) (by decide +kernel)) (fun _ _ _ _ _ => (pg_name (i := 14) sc_law.nd rfl (Or.inl rfl))) (fun _ _ _ _ _ => (pts_one (pt_cmpR (op_eqDK K rfl hr.units) (pe_f F_law_swept hr (by omega) pass0 (pa_cons (pv 2) (pa_cons (pv 3) (pa_cons (pv 14) pa_nil)))) (pv 14) (nomark _)))) (fun _ _ _ _ _ => (pv 14))) pa_nil)))
      (Evl.pss_cut (ps_if (pt_not (pt_val (pe_f F_law_same hr (by omega) pass0 (pa_cons (pe_f F_many_rest hr (by omega) passL (pa_cons (pv 4) (pa_cons (pv 6) pa_nil))) (pa_cons (pv 7) pa_nil)))))
      (pss_one (ps_ret pe_bl)) pss_nil)
      (Evl.pss_cut (ps_set (i := 6) sc_law.nd rfl (Or.inl rfl) (pe_op op_add pe_int (pe_f F_law_draw hr (by omega) pass0 (pa_cons (pv 1) (pa_cons pe_int pa_nil)))))
      (Evl.pss_cut (ps_if (pt_not (pt_val (pe_f F_law_same hr (by omega) pass0 (pa_cons (pe_f F_many_rest hr (by omega) passL (pa_cons (pv 4) (pa_cons (pv 6) pa_nil))) (pa_cons (pe_f F_law_count hr (by omega) pass0 (pa_cons (pv 2) (pa_cons (pv 3) (pa_cons (pv 6) pa_nil)))) pa_nil)))))
      (pss_one (ps_ret pe_bl)) pss_nil)
      (Evl.pss_cut (ps_set (i := 8) sc_law.nd rfl (Or.inl rfl) (pe_f F_law_draw hr (by omega) pass0 (pa_cons (pv 1) (pa_cons pe_int pa_nil))))
      (Evl.pss_cut (ps_if (pt_cmpR op_eq (pe_f F_law_draw hr (by omega) pass0 (pa_cons (pv 1) (pa_cons pe_int pa_nil))) pe_int (nomark _))
      (pss_cons (ps_set (i := 8) sc_law.nd rfl (Or.inl rfl) pe_int)
      (pss_cons (ps_set (i := 9) sc_law.nd rfl (Or.inl rfl) pe_int)
      (pss_cons (ps_for PassesOwn.never rfl (pi_range1 (by rfl) M.m_range (pa_cons pe_int pa_nil)) (pg_name (i := 10) sc_law.nd rfl (Or.inl rfl))
      (pss_one (ps_set (i := 9) sc_law.nd rfl (Or.inl rfl) (pe_op op_mul (pv 9) pe_int))))
      (pss_cons (ps_if (pt_cmpR op_ne (pe_f F_many_rest hr (by omega) passL (pa_cons (pe_f0 F_same hr (by omega) pass0) (pa_cons pe_int pa_nil))) (pv 9) (nomark _))
      (pss_one (ps_ret pe_bl)) pss_nil)
      (pss_cons (ps_set (i := 11) sc_law.nd rfl (Or.inl rfl) (pe_f F_many_rest hr (by omega) passL (pa_cons (pv 4) (pa_cons pe_int pa_nil))))
      (pss_one (ps_if (PW.pt (pw_or (pt_cmpR op_lt (pv 11) pe_int (nomark _)) (pw_or (pt_cmpR op_gt (pv 11) (pv 9) (nomark _)) (pw_or1 (pt_cmpR op_ne (pe_cmpR op_eq (pv 11) (pv 9) (nomark _)) (pe_f F_law_is_same hr (by omega) pass0 (pa_cons (pv 3) (pa_cons (pv 2) pa_nil))) (nomark _))))))
      (pss_one (ps_ret pe_bl)) pss_nil))))))) pss_nil)
      (Evl.pss_cut (ps_for PassesOwn.never rfl (pi_range1 (by rfl) M.m_range (pa_cons pe_int pa_nil)) (pg_name (i := 10) sc_law.nd rfl (Or.inl rfl))
      (pss_one (ps_if (pt_not (pt_val (pe_f F_law_same hr (by omega) pass0 (pa_cons (pe_f F_swept_till hr (by omega) passL (pa_cons (pv 4) (pa_cons (pv 5) (pa_cons (pv 8) pa_nil)))) (pa_cons (pe_f F_law_till hr (by omega) pass0 (pa_cons (pv 2) (pa_cons (pv 3) (pa_cons (pv 5) (pa_cons (pv 8) pa_nil))))) pa_nil)))))
      (pss_one (ps_ret pe_bl)) pss_nil)))
      (Evl.pss_cut (ps_set (i := 12) sc_law.nd rfl (Or.inl rfl) (pe_ix ix_list (pe_lst (pa_cons pe_non (pa_cons pe_int (pa_cons (pe_op op_cat (pe_callTy call_list_of (by rfl) M.m_list (by decide +kernel) (pa_cons (pv 5) pa_nil)) (pe_lst (pa_cons pe_int pa_nil))) (pa_cons pe_str (pa_cons (pe_tup (pa_cons pe_int pa_nil)) (pa_cons (pe_tup (pa_cons pe_bl pa_nil)) (pa_cons pe_dnewK pa_nil)))))))) (pe_f F_law_draw hr (by omega) pass0 (pa_cons (pv 1) (pa_cons pe_int pa_nil))) (fun _ _ => rfl)))
      (Evl.pss_cut (ps_set (i := 13) sc_law.nd rfl (Or.inl rfl) (pe_ix ix_list (pe_lst (pa_cons (pe_un un_neg pe_int) (pa_cons pe_int (pa_cons pe_non (pa_cons pe_bl (pa_cons pe_str (pa_cons (pe_lst (pa_cons pe_int pa_nil)) (pa_cons pe_dnewK (pa_cons (pe_op op_pow pe_int pe_int) pa_nil))))))))) (pe_f F_law_draw hr (by omega) pass0 (pa_cons (pv 1) (pa_cons pe_int pa_nil))) (fun _ _ => rfl)))
      (Evl.pss_cut (ps_if (PW.pt (pw_or (pt_cmpR (op_neD hr.units) (pe_f F_law_asked hr (by omega) pass0 (pa_cons pe_int (pa_cons (pv 4) (pa_cons (pv 12) (pa_cons pe_int pa_nil))))) (pe_lst (pa_cons pe_str (pa_cons pe_str pa_nil))) (nomark _)) (pw_or1 (pt_cmpR (op_neD hr.units) (pe_f F_law_asked hr (by omega) pass0 (pa_cons pe_int (pa_cons (pv 4) (pa_cons (pv 12) (pa_cons (pv 13) pa_nil))))) (pe_lst (pa_cons pe_str (pa_cons pe_str pa_nil))) (nomark _)))))
      (pss_one (ps_ret pe_bl)) pss_nil)
      (pss_one (ps_ret (pe_and (pe_cmpR (op_eqD hr.units) (pe_f F_law_asked hr (by omega) pass0 (pa_cons pe_int (pa_cons (pv 4) (pa_cons (pv 5) (pa_cons (pv 13) pa_nil))))) (pe_lst (pa_cons pe_str (pa_cons pe_str pa_nil))) (nomark _)) (pe_one (pe_cmpR (op_eqD hr.units) (pe_f F_law_asked hr (by omega) pass0 (pa_cons pe_int (pa_cons (pv 4) (pa_cons (pv 5) (pa_cons (pv 13) pa_nil))))) (pe_lst (pa_cons pe_str (pa_cons pe_str pa_nil))) (nomark _))))))))))))))))))))))), ?_⟩
    -- hand
    refine ⟨fun σ H' => ∃ p q, σ = [some (.ref a), some (.ref p), none, none, none, none, none, none, none, none, none, none, none, none, none] ∧ PoolAt H' p q, ⟨_, rfl, a, ss, rfl, hS, hl, fun H' p q s' np hP => ⟨p, q, rfl, hP⟩⟩, ?_⟩
    rintro _ H1 ⟨p, q, rfl, hP1⟩
    -- radius
    refine ⟨fun σ H' => ∃ r : Nat, σ = [some (.ref a), some (.ref p), some (.int (r : Int)), none, none, none, none, none, none, none, none, none, none, none, none] ∧ PoolAt H' p q ∧ r ≤ 3, ⟨_, rfl, p, q, rfl, hP1, fun H2 r s2 hP2 r3 => ⟨r, rfl, hP2, r3⟩⟩, ?_⟩
    rintro _ H3 ⟨r, rfl, hP3, r3⟩
    have pw8 : 2 ^ (2 * r + 1) ≤ 8192 := pow_small (by omega)
    -- table
    refine ⟨fun σ H' => ∃ (T : Addr) (ts : List Int), σ = [some (.ref a), some (.ref p), some (.int (r : Int)), some (.ref T), none, none, none, none, none, none, none, none, none, none, none] ∧ PoolAt H' p q ∧ SL.off H' p T = some (.lst (ts.map V.int)) ∧ ts.length = 2 ^ (2 * r + 1) ∧ bits ts, ?_, ?_⟩
    · refine ⟨_, rfl, _, rfl, p, q, r, rfl, hP3, r3, fun H4 T ts s4 hP4 nT eT lt bt => ⟨T, ts, rfl, hP4, ?_, lt, bt⟩⟩
      rw [off_ne (hP3.at_p nT).1]
      exact eT
    rintro _ H4 ⟨T, ts, rfl, hP4, eT4, lt, bt⟩
    -- window
    refine ⟨fun σ H' => ∃ x, σ = [some (.ref a), some (.ref p), some (.int (r : Int)), some (.ref T), some (.ref x), none, none, none, none, none, none, none, none, none, none] ∧ PoolAt H' p q ∧ SL.off H' p T = some (.lst (ts.map V.int)) ∧ WinAt K cU (SL.off H' p) x r ts, ?_, ?_⟩
    · refine ⟨_, rfl, _, rfl, ?_⟩
      intro o dx no ndx ne
      have eT := off_same H4 p _ _ eT4
      refine made1 no ndx ne r3 lt bt (dt_ints (SqL.of eT) (by omega)) rfl fun H5 s5 hW => ?_
      have hP5 := hP4.same s5
      obtain ⟨ps, eps⟩ := hP5.lst
      exact ⟨o, rfl, hP5, off_mono s5 _ _ eT4, WinAt.offL eps hW⟩
    rintro _ H5 ⟨x, rfl, hP5, eT5, hW5⟩
    -- row
    refine ⟨fun σ H' => ∃ ra cs, σ = [some (.ref a), some (.ref p), some (.int (r : Int)), some (.ref T), some (.ref x), some (.ref ra), none, none, none, none, none, none, none, none, none] ∧ cs.length ≤ 12 ∧ bits cs ∧ PoolAt H' p q ∧ Bs K cU (SL.off H' p) T x ra r ts cs, ?_, ?_⟩
    · refine ⟨_, rfl, _, rfl, p, q, 13, rfl, hP5, by decide, by decide, fun H' d s' hP' d0 d1 => ?_⟩
      obtain ⟨n, rfl⟩ : ∃ n : Nat, d = (n : Int) := ⟨d.toNat, by omega⟩
      refine ⟨p, q, n, rfl, hP', by omega, fun H6 ra cs s6 hP6 nr er lc hb => ?_⟩
      have s56 := s'.trans s6
      obtain ⟨ps, eps⟩ := hP6.lst
      exact ⟨ra, cs, rfl, by omega, hb, hP6, s56 _ _ eT5, hW5.same s56, SqT.of (tup_off eps er)⟩
    clear hP1 hP3 hP4 eT4
    rintro _ H6 ⟨ra, cs, rfl, lc, hb, hP6, B6⟩
    -- rests
    refine ⟨fun σ H' => σ = [some (.ref a), some (.ref p), some (.int (r : Int)), some (.ref T), some (.ref x), some (.ref ra), none, none, none, none, none, none, none, none, none] ∧ PoolAt H' p q ∧ Bs K cU (SL.off H' p) T x ra r ts cs, ?_, ?_⟩
    · have g6 := B6.same (off_same H6 p)
      refine ⟨_, rfl, _, rfl, x, r, ts, _, _, rfl, g6.win, dt_row g6.row (by omega), (fun no => absurd ((rowT hb).symm.trans no) (fun y => nomatch y)), fun cs' ec hb' => ?_⟩
      obtain rfl := (ints_inj (SL.D.tup.inj ec)).symm
      refine ⟨by omega, fun G1 s1 => ?_⟩
      have g7 := g6.same s1
      refine ⟨_, rfl, _, rfl, _, rfl, r, T, ra, ts, cs, rfl, SqL.of g7.tab, lt, r3, g7.row, hb, by omega, fun G2 c s2 nc ec => ?_⟩
      have g8 := g7.same s2
      refine ⟨_, rfl, _, _, row_dp (SqT.of ec), row_dp g8.row, shaped_tup _, shaped_tup _, ?_⟩
      rw [eqv_tups]
      refine ⟨_, _, .bool (restsB r ts cs), rfl, .bl _, .bl _, plain_bool _ _, fun G3 s3 => ⟨_, rfl, iteF ?_⟩⟩
      have s123 := (s1.trans s2).trans s3
      exact ⟨rfl, hP6.same s123, B6.same (off_mono s123)⟩
    clear hP5 eT5 hW5 hP6 B6
    rintro _ H7 ⟨rfl, hP7, B7⟩
    -- length
    refine ⟨fun σ H' => ∃ L : Nat, σ = [some (.ref a), some (.ref p), some (.int (r : Int)), some (.ref T), some (.ref x), some (.ref ra), some (.int (L : Int)), none, none, none, none, none, none, none, none] ∧ PoolAt H' p q ∧ Bs K cU (SL.off H' p) T x ra r ts cs ∧ L ≤ 8, ?_, ?_⟩
    · refine ⟨_, rfl, p, q, 9, rfl, hP7, by decide, by decide, fun G1 d s1 hP9 d0 d1 => ?_⟩
      obtain ⟨L, rfl⟩ : ∃ L : Nat, d = (L : Int) := ⟨d.toNat, by omega⟩
      exact ⟨L, rfl, hP9, B7.same s1, by omega⟩
    rintro _ H8 ⟨L, rfl, hP8, B8, L8⟩
    -- due
    refine ⟨fun σ H' => ∃ ov, σ = [some (.ref a), some (.ref p), some (.int (r : Int)), some (.ref T), some (.ref x), some (.ref ra), some (.int (L : Int)), some (.int (cnt r ts L)), none, none, none, none, none, none, ov] ∧ PoolAt H' p q ∧ Bs K cU (SL.off H' p) T x ra r ts cs, ?_, ?_⟩
    · have g8 := B8.same (off_same H8 p)
      refine ⟨_, rfl, L, rfl, by omega, fun H9 l ws rs s9 nl el hR pm pw => ⟨l, rfl, ⟨_, SqL.of el⟩, fun D nD => ?_⟩⟩
      obtain rfl := rows_eq pm pw
      have lw : ws.length = 2 ^ L := by rw [RowsI.length hR, rowsN_len]
      have pwL : 2 ^ L ≤ 8192 := pow_small (by omega)
      refine lc_list (K := K) (a := l) (xs := ws) (fun j H' => Same H9 H' ∧ ∃ us : List V, H' D = some (.lst us) ∧ us.length = ((rowsN L).take j).countP (restsB r ts)) ⟨same_upd nD, [], upd_same, rfl⟩ (fun j H' _ z => SqL.of (z.1 _ _ el)) (fun j y H' hy z => ?_) (fun H' z => ?_)
      · obtain ⟨s10, us, eD, lu⟩ := z
        have jl := (List.getElem?_eq_some_iff.mp hy).1
        obtain ⟨c, row, rfl, er, hbr⟩ := RowsI.get (hR.same s10) hy
        obtain ⟨lr, br⟩ := rowsN_row (List.mem_of_getElem? er)
        have ul : us.length < 100000 := by
          have := List.countP_le_length (p := restsB r ts) (l := (rowsN L).take j)
          rw [List.length_take, rowsN_len] at this
          omega
        have g10 := (g8.same s9).same s10
        refine ⟨rfl, _, rfl, _, rfl, _, rfl, r, T, c, ts, row, rfl, SqL.of g10.tab, lt, r3, hbr, br, by omega, fun G2 c2 s11 nc2 ec2 => ?_⟩
        refine ⟨_, rfl, _, _, row_dp (SqT.of ec2), row_dp (Same.seqT s11 hbr), shaped_tup _, shaped_tup _, ?_⟩
        rw [eqv_tups]
        refine ⟨_, rfl, ite2 (fun c1 => ?_) (fun c1 => ?_)⟩
        · refine ⟨_, rfl, us, s11 _ _ eD, lineN (by omega), same_put (s10.trans s11) nD, us ++ [.ref c], upd_same, ?_⟩
          rw [take_more er, List.countP_append, List.length_append, lu, List.countP_cons_of_pos (by exact c1)]
          rfl
        · refine ⟨s10.trans s11, us, s11 _ _ eD, ?_⟩
          rw [take_more er, List.countP_append, lu, List.countP_cons_of_neg (by exact c1)]
          rfl
      · obtain ⟨s10, us, eD, lu⟩ := z
        rw [lw, List.take_of_length_le (by rw [rowsN_len]; exact Nat.le_refl _)] at lu
        refine ⟨D, us, rfl, .inl (SqL.of eD), ?_⟩
        have s910 := s9.trans s10
        rw [lu]
        exact ⟨_, by rw [cnt_rows]; rfl, hP8.same s910, B8.same (off_mono s910)⟩
    rintro _ H9 ⟨ov, rfl, hP9, B9⟩

    -- many
    refine ⟨fun σ H' => σ = [some (.ref a), some (.ref p), some (.int (r : Int)), some (.ref T), some (.ref x), some (.ref ra), some (.int (L : Int)), some (.int (cnt r ts L)), none, none, none, none, none, none, ov] ∧ PoolAt H' p q ∧ Bs K cU (SL.off H' p) T x ra r ts cs, ?_, ?_⟩
    · have g9 := B9.same (off_same H9 p)
      refine ⟨_, rfl, _, rfl, x, r, ts, _, _, rfl, g9.win, .int _, (fun z => absurd ((withinI (by omega : L ≤ 200)).symm.trans z) (fun y => nomatch y)), fun _ => ⟨L, rfl, by omega, fun G1 s1 => ?_⟩⟩
      refine ⟨_, rfl, _, _, .int (cnt r ts L), rfl, .int _, .int _, plain_int _ _, fun G3 s3 => ⟨_, rfl, iteF ?_⟩⟩
      have s13 := s1.trans s3
      exact ⟨rfl, hP9.same s13, B9.same (off_mono s13)⟩
    clear hP7 B7 hP8 B8
    rintro _ HA ⟨rfl, hPA, BA⟩
    -- length
    refine ⟨fun σ H' => ∃ L2 : Nat, σ = [some (.ref a), some (.ref p), some (.int (r : Int)), some (.ref T), some (.ref x), some (.ref ra), some (.int (L2 : Int)), some (.int (cnt r ts L)), none, none, none, none, none, none, ov] ∧ PoolAt H' p q ∧ Bs K cU (SL.off H' p) T x ra r ts cs ∧ L2 ≤ 40, ?_, ?_⟩
    · refine ⟨_, rfl, p, q, 32, rfl, hPA, by decide, by decide, fun G1 d s1 hP' d0 d1 => ?_⟩
      obtain ⟨e, rfl⟩ : ∃ e : Nat, d = (e : Int) := ⟨d.toNat, by omega⟩
      refine ⟨_, _, rfl, rfl, 9 + e, ?_, hP', BA.same s1, by omega⟩
      rw [Int.natCast_add]
      rfl
    rintro _ HB ⟨L2, rfl, hPB, BB, L40⟩
    -- many
    refine ⟨fun σ H' => σ = [some (.ref a), some (.ref p), some (.int (r : Int)), some (.ref T), some (.ref x), some (.ref ra), some (.int (L2 : Int)), some (.int (cnt r ts L)), none, none, none, none, none, none, ov] ∧ PoolAt H' p q ∧ Bs K cU (SL.off H' p) T x ra r ts cs, ?_, ?_⟩
    · have gB := BB.same (off_same HB p)
      refine ⟨_, rfl, _, rfl, x, r, ts, _, _, rfl, gB.win, .int _, (fun z => absurd ((withinI (by omega : L2 ≤ 200)).symm.trans z) (fun y => nomatch y)), fun _ => ⟨L2, rfl, by omega, fun G1 s1 => ?_⟩⟩
      have gC := gB.same s1
      refine ⟨_, rfl, _, rfl, _, rfl, r, T, ts, L2, rfl, SqL.of gC.tab, lt, bt, r3, by omega, fun G2 s2 => ?_⟩
      refine ⟨_, _, .int (cnt r ts L2), rfl, .int _, .int _, plain_int _ _, fun G3 s3 => ⟨_, rfl, iteF ?_⟩⟩
      have s13 := (s1.trans s2).trans s3
      exact ⟨rfl, hPB.same s13, BB.same (off_mono s13)⟩
    clear hP9 B9 hPA BA
    rintro _ HC ⟨rfl, hPC, BC⟩
    -- most
    refine ⟨fun σ H' => ∃ m : Nat, σ = [some (.ref a), some (.ref p), some (.int (r : Int)), some (.ref T), some (.ref x), some (.ref ra), some (.int (L2 : Int)), some (.int (cnt r ts L)), some (.int (m : Int)), none, none, none, none, none, ov] ∧ PoolAt H' p q ∧ Bs K cU (SL.off H' p) T x ra r ts cs ∧ m ≤ 200, ?_, ?_⟩
    · refine ⟨_, rfl, p, q, 10, rfl, hPC, by decide, by decide, fun G1 d s1 hP' d0 d1 => ?_⟩
      obtain ⟨m, rfl⟩ : ∃ m : Nat, d = (m : Int) := ⟨d.toNat, by omega⟩
      exact ⟨m, rfl, hP', BC.same s1, by omega⟩
    rintro _ HD ⟨m0, rfl, hPD, BD, mD⟩
    -- rarely 200
    refine ⟨fun σ H' => ∃ (m : Nat) (av tv ov2 : Option V), σ = [some (.ref a), some (.ref p), some (.int (r : Int)), some (.ref T), some (.ref x), some (.ref ra), some (.int (L2 : Int)), some (.int (cnt r ts L)), some (.int (m : Int)), av, tv, ov2, none, none, ov] ∧ PoolAt H' p q ∧ Bs K cU (SL.off H' p) T x ra r ts cs ∧ m ≤ 200, ?_, ?_⟩
    · refine ⟨_, rfl, p, q, 20, rfl, hPD, by decide, by decide, fun G1 d s1 hPE d0 d1 => ⟨rfl, _, rfl, ite2 (fun c => ?_) (fun c => ⟨m0, none, none, none, rfl, hPE, BD.same s1, mD⟩)⟩⟩
      have BE := BD.same s1
      refine ⟨_, rfl, by decide, by decide, for_range (lo := 0) (n := 200) (fun i σ H' => ∃ tv, σ = [some (.ref a), some (.ref p), some (.int (r : Int)), some (.ref T), some (.ref x), some (.ref ra), some (.int (L2 : Int)), some (.int (cnt r ts L)), some (.int ((200 : Nat) : Int)), some (.int (2 ^ i)), tv, none, none, none, ov] ∧ PoolAt H' p q ∧ Bs K cU (SL.off H' p) T x ra r ts cs) ⟨none, rfl, hPE, BE⟩ ?_ ?_⟩
      · rintro i _ G hi ⟨tv, rfl, hPG, BG⟩
        refine ⟨_, rfl, _, _, rfl, rfl, .inr ⟨by decide, by decide⟩, some (.int ((0 : Int) + (i : Nat))), ?_, hPG, BG⟩
        rw [Int.pow_succ]
        rfl
      · rintro _ G ⟨tv, rfl, hPG, BG⟩
        have gG := BG.same (off_same G p)
        have w2 : ∀ z : withinV 0 200 (.int ((200 : Nat) : Int)) = false, False := fun z => nomatch (withinI (by decide : 200 ≤ 200)).symm.trans z
        refine ⟨rfl, fun G2 o s2 no hO => ⟨o, 0, [0, 1], _, _, rfl, hO, .int _, (fun z => (w2 z).elim), fun _ => ⟨200, rfl, by decide, fun G3 s3 => ⟨_, rfl, rfl, ?_⟩⟩⟩⟩
        rw [same_mid, cnt_mid, decide_eq_true rfl]
        have s23 := s2.trans s3
        refine ⟨_, rfl, iteF ?_⟩
        refine ⟨_, rfl, x, r, ts, _, _, rfl, gG.win.same s23, .int _, (fun z => (w2 z).elim), fun _ => ⟨200, rfl, by decide, fun G4 s4 => ?_⟩⟩
        have s24 := s23.trans s4
        have c1 := cnt_low r 200 ts
        have c2 := cnt_high r 200 ts
        have c3 : decide (V.int (cnt r ts 200) = V.int (2 ^ 200)) = decide (ts = midT r) := decide_eq_decide.mpr ⟨fun z => (cnt_full lt r3).mp (V.int.inj z), fun z => by rw [(cnt_full lt r3).mpr z]⟩
        refine ⟨_, rfl, _, _, rfl, rfl, _, rfl, ?_⟩
        rw [decide_eq_false (Int.not_lt.mpr c1)]
        refine iteF ⟨_, rfl, _, rfl, _, _, rfl, rfl, _, rfl, ?_⟩
        rw [decide_eq_false (Int.not_lt.mpr c2)]
        refine iteF ⟨_, rfl, _, rfl, rfl, _, rfl, _, rfl, r, T, ts, rfl, SqL.of (gG.same s24).tab, lt, r3, fun G5 s5 => ⟨rfl, ?_⟩⟩
        rw [c3, decide_eq_true rfl]
        have s25 := s24.trans s5
        exact ⟨_, rfl, iteF ⟨200, _, _, _, rfl, hPG.same s25, BG.same (off_mono s25), by decide⟩⟩
    rintro _ HE ⟨m, av, tv, ov2, rfl, hPE, BE, m2⟩
    have wM := withinI m2
    -- till
    refine ⟨fun σ H' => ∃ tv2, σ = [some (.ref a), some (.ref p), some (.int (r : Int)), some (.ref T), some (.ref x), some (.ref ra), some (.int (L2 : Int)), some (.int (cnt r ts L)), some (.int (m : Int)), av, tv2, ov2, none, none, ov] ∧ PoolAt H' p q ∧ Bs K cU (SL.off H' p) T x ra r ts cs, ?_, ?_⟩
    · refine ⟨_, rfl, by decide, by decide, for_range (lo := 0) (n := 2) (fun i σ H' => ∃ tv2, σ = [some (.ref a), some (.ref p), some (.int (r : Int)), some (.ref T), some (.ref x), some (.ref ra), some (.int (L2 : Int)), some (.int (cnt r ts L)), some (.int (m : Int)), av, tv2, ov2, none, none, ov] ∧ PoolAt H' p q ∧ Bs K cU (SL.off H' p) T x ra r ts cs) ⟨tv, rfl, hPE, BE⟩ ?_ fun σ H' z => z⟩
      rintro i _ G hi ⟨tv2, rfl, hPG, BG⟩
      have gG := BG.same (off_same G p)
      refine ⟨_, rfl, _, rfl, _, rfl, x, r, ts, _, _, _, _, rfl, gG.win, dt_row gG.row (by omega), .int _, (fun no => absurd ((rowT hb).symm.trans no) (fun y => nomatch y)), (fun _ no => absurd (wM.symm.trans no) (fun y => nomatch y)), fun cs' m' ec hb' em hm => ?_⟩
      obtain rfl := (ints_inj (SL.D.tup.inj ec)).symm
      obtain rfl : m' = m := by have := V.int.inj em; omega
      refine ⟨by omega, fun G1 t c s1 et hc => ?_⟩
      have g1 := gG.same s1
      refine ⟨_, rfl, _, rfl, _, rfl, _, rfl, r, T, ra, ts, cs, m', rfl, SqL.of g1.tab, lt, bt, r3, g1.row, hb, by omega, hm, fun G2 t2 c2 s2 et2 hc2 => ?_⟩
      refine ⟨_, _, .tuple [.int (tillN r ts m' 0 cs).1, .tuple ((tillN r ts m' 0 cs).2.map PyData.int)], rfl, .tup (SqT.of (s2 _ _ et)) (.cons (.int _) (.cons (row_dp (Same.seqT s2 hc)) .nil)), .tup (SqT.of et2) (.cons (.int _) (.cons (row_dp hc2) .nil)), plain_till (by rw [till_len]; omega), fun G3 s3 => ⟨_, rfl, iteF ?_⟩⟩
      have s13 := (s1.trans s2).trans s3
      exact ⟨_, rfl, hPG.same s13, BG.same (off_mono s13)⟩
    clear hPB BB hPC BC hPD BD hPE BE
    rintro _ HF ⟨tv2, rfl, hPF, BF⟩
    -- odd
    refine ⟨fun σ H' => ∃ v d, σ = [some (.ref a), some (.ref p), some (.int (r : Int)), some (.ref T), some (.ref x), some (.ref ra), some (.int (L2 : Int)), some (.int (cnt r ts L)), some (.int (m : Int)), av, tv2, ov2, some v, none, ov] ∧ PoolAt H' p q ∧ Bs K cU (SL.off H' p) T x ra r ts cs ∧ Dt K (SL.off H' p) v d ∧ rowD d = false, ?_, ?_⟩
    · have gF := BF.same (off_same HF p)
      refine ⟨_, rfl, ra, _, rfl, .inr gF.row, fun l1 n1 => ⟨few (n := 1) (by decide), fun l2 n2 => ⟨l1, l2, cs.map V.int, [.int 1], rfl, rfl, same_upd n2 _ _ upd_same, upd_same, Nat.le_of_lt (lineN (by rw [List.length_map]; show cs.length + 1 ≤ 100000; omega)), fun l3 n3 => ⟨few (n := 1) (by decide), fun t1 m1 => ⟨few (n := 1) (by decide), fun t2 m2 => fun dd nd => ⟨few (n := 7) (by decide), fun mm nm => ?_⟩⟩⟩⟩⟩⟩
      have q1 := hPF.same (same_upd (o := .lst (cs.map V.int)) n1)
      have q2 := q1.same (same_upd (o := .lst [.int 1]) n2)
      have q3 := q2.same (same_upd (o := .lst (cs.map V.int ++ [.int 1])) n3)
      have q4 := q3.same (same_upd (o := .tup [.int 2]) m1)
      have q5 := q4.same (same_upd (o := .tup [.bl true]) m2)
      have q6 := q5.same (same_upd (o := .dK []) nd)
      have sA : Same HF _ := (same_upd (o := .lst (cs.map V.int)) n1).trans ((same_upd (o := .lst [.int 1]) n2).trans (same_upd (o := .lst (cs.map V.int ++ [.int 1])) n3))
      have z4 := same_upd (o := .tup [.int 2]) m1
      have z5 := same_upd (o := .tup [.bl true]) m2
      have z6 := same_upd (o := .dK []) nd
      have z7 := same_upd (o := .lst [.non, .int 0, .ref l3, .str "01", .ref t1, .ref t2, .ref dd]) nm
      have sB := sA.trans (z4.trans (z5.trans (z6.trans z7)))
      have e3 := (z4.trans (z5.trans (z6.trans z7))) l3 _ upd_same
      have e4 := (z5.trans (z6.trans z7)) t1 _ upd_same
      have e5 := (z6.trans z7) t2 _ upd_same
      have e6 := z7 dd _ upd_same
      have f3 := (q2.at_p n3).1
      have f4 := (q3.at_p m1).1
      have f5 := (q4.at_p m2).1
      have f6 := (q5.at_p nd).1
      have fm := (q6.at_p nm).1
      have em : (upd (upd (upd (upd (upd (upd (upd HF l1 (.lst (cs.map V.int))) l2 (.lst [.int 1])) l3 (.lst (cs.map V.int ++ [.int 1]))) t1 (.tup [.int 2])) t2 (.tup [.bl true])) dd (.dK [])) mm (.lst [.non, .int 0, .ref l3, .str "01", .ref t1, .ref t2, .ref dd])) mm = some (.lst [.non, .int 0, .ref l3, .str "01", .ref t1, .ref t2, .ref dd]) := upd_same
      have hP' := hPF.same sB
      have B' := BF.same (off_mono (p := p) sB)
      refine ⟨_, rfl, p, q, 7, rfl, hP', by decide, by decide, fun H' d s' hP2 d0 d1 => ?_⟩
      obtain ⟨v, dv, hv, hD, hr⟩ : ∃ v dv, atI [V.non, .int 0, .ref l3, .str "01", .ref t1, .ref t2, .ref dd] d = some v ∧ Dt K (SL.off H' p) v dv ∧ rowD dv = false := by
        have g : ∀ {x : Addr} {o : HO}, x ≠ p → _ → SL.off H' p x = some o := fun {x o} n e => s' x o (by rw [off_ne n]; exact e)
        have c8 : d = 0 ∨ d = 1 ∨ d = 2 ∨ d = 3 ∨ d = 4 ∨ d = 5 ∨ d = 6 := by omega
        rcases c8 with rfl | rfl | rfl | rfl | rfl | rfl | rfl
        · exact ⟨_, _, rfl, .non, rfl⟩
        · exact ⟨_, _, rfl, .int 0, rfl⟩
        · refine ⟨_, _, rfl, dt_ints (ns := cs ++ [1]) (SqL.of (g f3 ?_)) (by rw [List.length_append]; show cs.length + 1 ≤ 100000; omega), rfl⟩
          rw [List.map_append]
          exact e3
        · exact ⟨_, _, rfl, .str _ (by decide), rfl⟩
        · exact ⟨_, _, rfl, .tup (SqT.of (g f4 e4)) (.cons (.int 2) .nil) (by decide), rfl⟩
        · exact ⟨_, _, rfl, .tup (SqT.of (g f5 e5)) (.cons (.bl true) .nil) (by decide), rfl⟩
        · exact ⟨_, _, rfl, .dic (g f6 e6), rfl⟩
      exact ⟨mm, _, d, v, rfl, rfl, SqL.of (off_get s' fm em), hv, v, dv, rfl, hP2, B'.same s', hD, hr⟩
    rintro _ HG ⟨v, dv, rfl, hPG, BG, hD, rD⟩
    -- bad
    refine ⟨fun σ H' => ∃ u T1, σ = [some (.ref a), some (.ref p), some (.int (r : Int)), some (.ref T), some (.ref x), some (.ref ra), some (.int (L2 : Int)), some (.int (cnt r ts L)), some (.int (m : Int)), av, tv2, ov2, some v, some u, ov] ∧ PoolAt H' p q ∧ Bs K cU (SL.off H' p) T x ra r ts cs ∧ Dt K (SL.off H' p) v dv ∧ Knw K (SL.off H' p) u T1 ∧ withinV 0 200 u = false, ?_, ?_⟩
    · refine ⟨_, rfl, few (n := 1) (by decide), fun t1 m1 => fun dd nd => ⟨_, _, rfl, rfl, ⟨by decide, by decide, by decide⟩, few (n := 8) (by decide), fun mm nm => ?_⟩⟩
      have q1 := hPG.same (same_upd (o := .lst [.int 1]) m1)
      have q2 := q1.same (same_upd (o := .dK []) nd)
      have z1 := same_upd (o := .lst [.int 1]) m1
      have z2 := same_upd (o := .dK []) nd
      have z3 := same_upd (o := .lst [.int (-1), .int 201, .non, .bl true, .str "1", .ref t1, .ref dd, .int (10 ^ (20 : Int).toNat)]) nm
      have sB := z1.trans (z2.trans z3)
      have e1 := (z2.trans z3) t1 _ upd_same
      have e2 := z3 dd _ upd_same
      have f1 := (hPG.at_p m1).1
      have f2 := (q1.at_p nd).1
      have fm := (q2.at_p nm).1
      have em : (upd (upd (upd HG t1 (.lst [.int 1])) dd (.dK [])) mm (.lst [.int (-1), .int 201, .non, .bl true, .str "1", .ref t1, .ref dd, .int (10 ^ (20 : Int).toNat)])) mm = some (.lst [.int (-1), .int 201, .non, .bl true, .str "1", .ref t1, .ref dd, .int (10 ^ (20 : Int).toNat)]) := upd_same
      have hP' := hPG.same sB
      have B' := BG.same (off_mono (p := p) sB)
      have hD' := hD.same (off_mono (p := p) sB)
      refine ⟨_, rfl, p, q, 8, rfl, hP', by decide, by decide, fun H' d s' hP2 d0 d1 => ?_⟩
      obtain ⟨u, T1, hv, hk, hw⟩ : ∃ u T1, atI [V.int (-1), .int 201, .non, .bl true, .str "1", .ref t1, .ref dd, .int (10 ^ (20 : Int).toNat)] d = some u ∧ Knw K (SL.off H' p) u T1 ∧ withinV 0 200 u = false := by
        have g : ∀ {x : Addr} {o : HO}, x ≠ p → _ → SL.off H' p x = some o := fun {x o} n e => s' x o (by rw [off_ne n]; exact e)
        have c8 : d = 0 ∨ d = 1 ∨ d = 2 ∨ d = 3 ∨ d = 4 ∨ d = 5 ∨ d = 6 ∨ d = 7 := by omega
        rcases c8 with rfl | rfl | rfl | rfl | rfl | rfl | rfl | rfl
        · exact ⟨_, _, rfl, .int _, rfl⟩
        · exact ⟨_, _, rfl, .int _, rfl⟩
        · exact ⟨_, _, rfl, .non, rfl⟩
        · exact ⟨_, _, rfl, .bl _, rfl⟩
        · exact ⟨_, _, rfl, .str _, rfl⟩
        · exact ⟨_, _, rfl, .lst (SqL.of (g f1 e1)), rfl⟩
        · exact ⟨_, _, rfl, .dic (g f2 e2), rfl⟩
        · exact ⟨_, _, rfl, .int _, rfl⟩
      exact ⟨mm, _, d, u, rfl, rfl, SqL.of (off_get s' fm em), hv, u, T1, rfl, hP2, B'.same s', hD'.same s', hk, hw⟩
    rintro _ HH ⟨u, T1, rfl, hPH, BH, hD2, hK, wN⟩
    have gH := BH.same (off_same HH p)
    have dH := hD2.same (off_same HH p)
    have kH := hK.same (off_same HH p)
    have eR : PyData.eqv (.list [.str "row", .str "row"]) (.list [.str "row", .str "row"]) = true := by decide +kernel
    have eN : PyData.eqv (.list [.str "number", .str "length"]) (.list [.str "number", .str "length"]) = true := by decide +kernel
    have eM : PyData.eqv (.list [.str "number", .str "most"]) (.list [.str "number", .str "most"]) = true := by decide +kernel
    have zR : SeqAt.shaped (.list [.str "row", .str "row"]) = true := by decide +kernel
    have zN : SeqAt.shaped (.list [.str "number", .str "length"]) = true := by decide +kernel
    have zM : SeqAt.shaped (.list [.str "number", .str "most"]) = true := by decide +kernel
    have two : ∀ {H' : Hp} {t : Addr} {x y : Str}, H' t = some (.lst [.str x, .str y]) → Dp K H' (.ref t) (.list [.str x, .str y]) := fun e => .lst (SqL.of e) (.cons (.str _) (.cons (.str _) .nil))
    clear hPF BF hPG BG hD
    -- wrong
    refine ⟨fun σ H' => σ = [some (.ref a), some (.ref p), some (.int (r : Int)), some (.ref T), some (.ref x), some (.ref ra), some (.int (L2 : Int)), some (.int (cnt r ts L)), some (.int (m : Int)), av, tv2, ov2, some v, some u, ov] ∧ Bs K cU H' T x ra r ts cs ∧ Knw K H' u T1, ?_, ?_⟩
    · refine ⟨_, rfl, _, rfl, x, r, ts, _, dv, _, _, 0, rfl, gH.win, dH, .int _, .inl ⟨.inl rfl, rD, fun H' t s' nt et => ⟨few (n := 2) (by decide), fun y ny => ?_⟩⟩⟩
      refine ⟨_, _, two (same_upd ny _ _ et), two upd_same, zR, zR, _, rfl, ite2 (fun z => by rw [eR] at z; cases z) fun _ => ?_⟩
      have s2 := s'.trans (same_upd (o := .lst [.str "row", .str "row"]) ny)
      generalize upd H' y (.lst [.str "row", .str "row"]) = HI at s2 ⊢
      refine ⟨_, rfl, _, rfl, _, rfl, x, r, ts, _, dv, _, _, 2, rfl, gH.win.same s2, dH.same s2, kH.same s2, .inl ⟨.inr rfl, rD, fun H' t s' nt et => ⟨few (n := 2) (by decide), fun y ny => ?_⟩⟩⟩
      refine ⟨_, _, two (same_upd ny _ _ et), two upd_same, zR, zR, _, rfl, ite2 (fun z => by rw [eR] at z; cases z) fun _ => ?_⟩
      have s3 := s2.trans (s'.trans (same_upd (o := .lst [.str "row", .str "row"]) ny))
      exact ⟨rfl, gH.same s3, kH.same s3⟩
    clear gH dH kH
    rintro _ HI ⟨rfl, gI, kI⟩
    refine ⟨_, rfl, _, rfl, _, rfl, x, r, ts, _, _, _, _, 1, rfl, gI.win, dt_row gI.row (by omega), kI, .inr (.inl ⟨rfl, wN, fun H' t s' nt et => ⟨few (n := 2) (by decide), fun y ny => ?_⟩⟩)⟩
    refine ⟨_, _, two (same_upd ny _ _ et), two upd_same, zN, zN, ?_⟩
    rw [eN]
    have s2 := s'.trans (same_upd (o := .lst [.str "number", .str "length"]) ny)
    generalize upd H' y (.lst [.str "number", .str "length"]) = HK at s2 ⊢
    refine ⟨_, rfl, iteT ?_⟩
    refine ⟨_, rfl, _, rfl, _, rfl, x, r, ts, _, _, _, _, 2, rfl, gI.win.same s2, dt_row (gI.same s2).row (by omega), kI.same s2, .inr (.inr ⟨rfl, rowT hb, wN, fun H' t s' nt et => ⟨few (n := 2) (by decide), fun y ny => ?_⟩⟩)⟩
    refine ⟨_, _, two (same_upd ny _ _ et), two upd_same, zM, zM, ?_⟩
    rw [eM]
    exact fin _
end

theorem exm_ref {K : PySem.W.Frag} {C D : Addr} {b : Bool} (h1 : PySem.W.subIn K (.ref D) (.type "BaseException") = some true) (h2 : PySem.W.isClsIn K D = true) (h3 : PySem.W.typeIn K (.ref D) = some (.type "type")) (h4 : PySem.W.subIn K (.ref C) (.ref D) = some b) : PySem.W.exmOne K (.ref C) (.ref D) = some b := by
  have h2a : (PySem.W.clsIn K D).isSome = true := h2
  unfold PySem.W.exmOne
  rw [h1]
  show (if (some true == some true) = true then (if ((PySem.W.clsIn K D).isSome && PySem.W.typeIn K (.ref D) == some (.type "type")) = true then PySem.W.subIn K (.ref C) (.ref D) else none) else none) = some b
  rw [h2a, h3]
  exact h4
theorem along_of {K : PySem.W.Frag} {C N : Addr} {nm q : Str} {bs bm : List Value} {sn : List Str} {sub : List Value} {ab : Bool} {col : Option Bool} {dd : Option Addr} {k0 k1 k2 k3 k5 : Option Value} {name : Str} {nw : String} {r : Option (Option Value)} (hC : K.lookup C = some (excClassObj nm q C N bs bm true sn sub ab col dd k0 k1 k2 k3 k5 nw)) (h : PySem.W.ks_superIn K C C name = r) : PySem.W.alongIn K name bm = r := by
  unfold PySem.W.ks_superIn PySem.W.clsIn at h
  rw [hC] at h
  rw [← h]
  simp [List.dropWhile_cons]
theorem all_mk {w : World} {K : PySem.W.Frag} {h : Heap} {mg : Str → Option Value} {fa cL : Addr} (X : K.In h) (G : h.Ns mainGlobals mg) (hfa : mg "law" = some (.ref fa))
    {cR iR cc_BadRow cd_BadRow : Addr} {nm_BadRow q_BadRow : Str} {N_BadRow : Addr} {bs_BadRow : List Value} {sn_BadRow : List Str} {sb_BadRow : List Value} {ab_BadRow : Bool} {co_BadRow : Option Bool} {dd_BadRow od_BadRow an_BadRow cl1_BadRow cl2_BadRow : Option Addr} {m0_BadRow m1_BadRow m2_BadRow m3_BadRow m5_BadRow : Option Value} {oc_BadRow kV_BadRow dc_BadRow pm_BadRow ct_BadRow c1_BadRow c2_BadRow : Value} {sl_BadRow s1_BadRow s2_BadRow : Array (Option Value)} {vs_BadRow : Array Value} {fl_BadRow : Str} {tf_BadRow : Tok}
    {cN iN cc_BadNumber cd_BadNumber : Addr} {nm_BadNumber q_BadNumber : Str} {N_BadNumber : Addr} {bs_BadNumber : List Value} {sn_BadNumber : List Str} {sb_BadNumber : List Value} {ab_BadNumber : Bool} {co_BadNumber : Option Bool} {dd_BadNumber od_BadNumber an_BadNumber cl1_BadNumber cl2_BadNumber : Option Addr} {m0_BadNumber m1_BadNumber m2_BadNumber m3_BadNumber m5_BadNumber : Option Value} {oc_BadNumber kV_BadNumber dc_BadNumber pm_BadNumber ct_BadNumber c1_BadNumber c2_BadNumber : Value} {sl_BadNumber s1_BadNumber s2_BadNumber : Array (Option Value)} {vs_BadNumber : Array Value} {fl_BadNumber : Str} {tf_BadNumber : Tok}
    {cB iB cc_BadWindow cd_BadWindow : Addr} {nm_BadWindow q_BadWindow : Str} {N_BadWindow : Addr} {bs_BadWindow : List Value} {sn_BadWindow : List Str} {sb_BadWindow : List Value} {ab_BadWindow : Bool} {co_BadWindow : Option Bool} {dd_BadWindow od_BadWindow an_BadWindow cl1_BadWindow cl2_BadWindow : Option Addr} {m0_BadWindow m1_BadWindow m2_BadWindow m3_BadWindow m5_BadWindow : Option Value} {oc_BadWindow kV_BadWindow dc_BadWindow pm_BadWindow ct_BadWindow c1_BadWindow c2_BadWindow : Value} {sl_BadWindow s1_BadWindow s2_BadWindow : Array (Option Value)} {vs_BadWindow : Array Value} {fl_BadWindow : Str} {tf_BadWindow : Tok}
    {f_is_whole : Addr} {od_is_whole an_is_whole : Option Addr} {sl_is_whole : Array (Option Value)} {oc_is_whole kV_is_whole dc_is_whole pm_is_whole cd_is_whole ct_is_whole : Value}
    {f_is_within : Addr} {od_is_within an_is_within : Option Addr} {sl_is_within : Array (Option Value)} {oc_is_within kV_is_within dc_is_within pm_is_within cd_is_within ct_is_within : Value}
    {f_check_within : Addr} {od_check_within an_check_within : Option Addr} {sl_check_within : Array (Option Value)} {oc_check_within kV_check_within dc_check_within pm_check_within cd_check_within ct_check_within : Value}
    {f_items_of : Addr} {od_items_of an_items_of : Option Addr} {sl_items_of : Array (Option Value)} {oc_items_of kV_items_of dc_items_of pm_items_of cd_items_of ct_items_of : Value}
    {f_is_row : Addr} {od_is_row an_is_row : Option Addr} {sl_is_row : Array (Option Value)} {oc_is_row kV_is_row dc_is_row pm_is_row cd_is_row ct_is_row : Value}
    {f_check_row : Addr} {od_check_row an_check_row : Option Addr} {sl_check_row : Array (Option Value)} {oc_check_row kV_check_row dc_check_row pm_check_row cd_check_row ct_check_row : Value}
    {f_cell_number : Addr} {od_cell_number an_cell_number : Option Addr} {sl_cell_number : Array (Option Value)} {oc_cell_number kV_cell_number dc_cell_number pm_cell_number cd_cell_number ct_cell_number : Value}
    {f_table_of : Addr} {od_table_of an_table_of : Option Addr} {sl_table_of : Array (Option Value)} {oc_table_of kV_table_of dc_table_of pm_table_of cd_table_of ct_table_of : Value}
    {f_swept_inside : Addr} {od_swept_inside an_swept_inside : Option Addr} {sl_swept_inside : Array (Option Value)} {oc_swept_inside kV_swept_inside dc_swept_inside pm_swept_inside cd_swept_inside ct_swept_inside : Value}
    {f_swept : Addr} {od_swept an_swept : Option Addr} {sl_swept : Array (Option Value)} {oc_swept kV_swept dc_swept pm_swept cd_swept ct_swept : Value}
    {f_same : Addr} {od_same an_same : Option Addr} {sl_same : Array (Option Value)} {oc_same kV_same dc_same pm_same cd_same ct_same : Value}
    {f_rests : Addr} {od_rests an_rests : Option Addr} {sl_rests : Array (Option Value)} {oc_rests kV_rests dc_rests pm_rests cd_rests ct_rests : Value}
    {f_many_rest : Addr} {od_many_rest an_many_rest : Option Addr} {sl_many_rest : Array (Option Value)} {oc_many_rest kV_many_rest dc_many_rest pm_many_rest cd_many_rest ct_many_rest : Value}
    {f_swept_till : Addr} {od_swept_till an_swept_till : Option Addr} {sl_swept_till : Array (Option Value)} {oc_swept_till kV_swept_till dc_swept_till pm_swept_till cd_swept_till ct_swept_till : Value}
    {f_law_hand : Addr} {od_law_hand an_law_hand : Option Addr} {sl_law_hand : Array (Option Value)} {oc_law_hand kV_law_hand dc_law_hand pm_law_hand cd_law_hand ct_law_hand : Value}
    {f_law_draw : Addr} {od_law_draw an_law_draw : Option Addr} {sl_law_draw : Array (Option Value)} {oc_law_draw kV_law_draw dc_law_draw pm_law_draw cd_law_draw ct_law_draw : Value}
    {f_law_row : Addr} {od_law_row an_law_row : Option Addr} {sl_law_row : Array (Option Value)} {oc_law_row kV_law_row dc_law_row pm_law_row cd_law_row ct_law_row : Value}
    {f_law_rows : Addr} {od_law_rows an_law_rows : Option Addr} {sl_law_rows : Array (Option Value)} {oc_law_rows kV_law_rows dc_law_rows pm_law_rows cd_law_rows ct_law_rows : Value}
    {f_law_number : Addr} {od_law_number an_law_number : Option Addr} {sl_law_number : Array (Option Value)} {oc_law_number kV_law_number dc_law_number pm_law_number cd_law_number ct_law_number : Value}
    {f_law_table : Addr} {od_law_table an_law_table : Option Addr} {sl_law_table : Array (Option Value)} {oc_law_table kV_law_table dc_law_table pm_law_table cd_law_table ct_law_table : Value}
    {f_law_radius : Addr} {od_law_radius an_law_radius : Option Addr} {sl_law_radius : Array (Option Value)} {oc_law_radius kV_law_radius dc_law_radius pm_law_radius cd_law_radius ct_law_radius : Value}
    {f_law_filtered : Addr} {od_law_filtered an_law_filtered : Option Addr} {sl_law_filtered : Array (Option Value)} {oc_law_filtered kV_law_filtered dc_law_filtered pm_law_filtered cd_law_filtered ct_law_filtered : Value}
    {f_law_swept : Addr} {od_law_swept an_law_swept : Option Addr} {sl_law_swept : Array (Option Value)} {oc_law_swept kV_law_swept dc_law_swept pm_law_swept cd_law_swept ct_law_swept : Value}
    {f_law_same : Addr} {od_law_same an_law_same : Option Addr} {sl_law_same : Array (Option Value)} {oc_law_same kV_law_same dc_law_same pm_law_same cd_law_same ct_law_same : Value}
    {f_law_count : Addr} {od_law_count an_law_count : Option Addr} {sl_law_count : Array (Option Value)} {oc_law_count kV_law_count dc_law_count pm_law_count cd_law_count ct_law_count : Value}
    {f_law_till : Addr} {od_law_till an_law_till : Option Addr} {sl_law_till : Array (Option Value)} {oc_law_till kV_law_till dc_law_till pm_law_till cd_law_till ct_law_till : Value}
    {f_law_asked : Addr} {od_law_asked an_law_asked : Option Addr} {sl_law_asked : Array (Option Value)} {oc_law_asked kV_law_asked dc_law_asked pm_law_asked cd_law_asked ct_law_asked : Value}
    {f_law_is_same : Addr} {od_law_is_same an_law_is_same : Option Addr} {sl_law_is_same : Array (Option Value)} {oc_law_is_same kV_law_is_same dc_law_is_same pm_law_is_same cd_law_is_same ct_law_is_same : Value}
    {f_law : Addr} {od_law an_law : Option Addr} {sl_law : Array (Option Value)} {oc_law kV_law dc_law pm_law cd_law ct_law : Value}
    {cU : Addr}
    {fU : Addr} {od_Window0 an_Window0 : Option Addr} {sl_Window0 : Array (Option Value)} {oc_Window0 kV_Window0 dc_Window0 pm_Window0 cd_Window0 ct_Window0 : Value}
    {gU : Addr} {od_Window1 an_Window1 : Option Addr} {sl_Window1 : Array (Option Value)} {oc_Window1 kV_Window1 dc_Window1 pm_Window1 cd_Window1 ct_Window1 : Value}
    (a_BadRow : PySem.W.nsIn K mainGlobals "BadRow" = some (some (.ref cR)))
    (x_BadRow : K.lookup cR = some (excClassObj nm_BadRow q_BadRow cR N_BadRow bs_BadRow [.ref cL, .type "ValueError", .type "Exception", .type "BaseException", .type "object"] true sn_BadRow sb_BadRow ab_BadRow co_BadRow dd_BadRow m0_BadRow m1_BadRow m2_BadRow m3_BadRow m5_BadRow "ValueError.__new__"))
    (su_BadRow : PySem.W.ks_superIn K cR cR "__init__" = some (some (.builtin "ValueError.__init__")))
    (sa_BadRow : PySem.W.findIn K (.ref cR) "__setattr__" = some (some (.builtin "object.__setattr__")))
    (ga_BadRow : PySem.W.findIn K (.ref cR) "__getattribute__" = some (some (.builtin "BaseException.__getattribute__")))
    (gg_BadRow : PySem.W.findIn K (.ref cR) "__getattr__" = some none)
    (nb_BadRow : PySem.W.findIn K (.ref cR) "part" = some none)
    (in_BadRow : PySem.W.findIn K (.ref cR) "__init__" = some (some (.ref iR)))
    (ti_BadRow : PySem.W.typeIn K (.ref iR) = some (.type "function"))
    (l_BadRow : K.lookup iR = some ⟨oc_BadRow, od_BadRow, .func (PySem.W.ksFn "__init__" "BadRow.__init__" (defArgs (inClass (topS 2) 0)) (defBody (inClass (topS 2) 0)) (defScope (inClass (topS 2) 0)) .none kV_BadRow dc_BadRow pm_BadRow an_BadRow (.ref cd_BadRow) ct_BadRow cc_BadRow), sl_BadRow⟩)
    (c_BadRow : PySem.W.codeIn K (.ref cd_BadRow) "BadRow.__init__" = true)
    (cell_BadRow : K.lookup cc_BadRow = some ⟨c1_BadRow, cl1_BadRow, .cell (some (.ref cR)), s1_BadRow⟩)
    (code_BadRow : K.lookup cd_BadRow = some ⟨c2_BadRow, cl2_BadRow, .fields vs_BadRow, s2_BadRow⟩)
    (v2_BadRow : vs_BadRow[2]? = some (.str fl_BadRow tf_BadRow))
    (fi_BadRow : ((PySem.Challenge.rw_surelabels_k33_rows_that_rest.prog.main.file : Str) == fl_BadRow) = true)
    (kC_BadRow : PySem.W.keepIn K (.ref cR) = true)
    (eC_BadRow : PySem.W.subIn K (.ref cR) (.type "BaseException") = some true)
    (vC_BadRow : PySem.W.subIn K (.ref cR) (.type "ValueError") = some true)
    (tC_BadRow : PySem.W.typeIn K (.ref cR) = some (.type "type"))
    (hC_BadRow : PySem.W.hasDictIn K cR = true)
    (iC_BadRow : PySem.W.isClsIn K cR = true)
    (mC_BadRow : PySem.W.mroIn K cR (.ref cR) = some true)
    (a_BadNumber : PySem.W.nsIn K mainGlobals "BadNumber" = some (some (.ref cN)))
    (x_BadNumber : K.lookup cN = some (excClassObj nm_BadNumber q_BadNumber cN N_BadNumber bs_BadNumber [.ref cL, .type "ValueError", .type "Exception", .type "BaseException", .type "object"] true sn_BadNumber sb_BadNumber ab_BadNumber co_BadNumber dd_BadNumber m0_BadNumber m1_BadNumber m2_BadNumber m3_BadNumber m5_BadNumber "ValueError.__new__"))
    (su_BadNumber : PySem.W.ks_superIn K cN cN "__init__" = some (some (.builtin "ValueError.__init__")))
    (sa_BadNumber : PySem.W.findIn K (.ref cN) "__setattr__" = some (some (.builtin "object.__setattr__")))
    (ga_BadNumber : PySem.W.findIn K (.ref cN) "__getattribute__" = some (some (.builtin "BaseException.__getattribute__")))
    (gg_BadNumber : PySem.W.findIn K (.ref cN) "__getattr__" = some none)
    (nb_BadNumber : PySem.W.findIn K (.ref cN) "part" = some none)
    (in_BadNumber : PySem.W.findIn K (.ref cN) "__init__" = some (some (.ref iN)))
    (ti_BadNumber : PySem.W.typeIn K (.ref iN) = some (.type "function"))
    (l_BadNumber : K.lookup iN = some ⟨oc_BadNumber, od_BadNumber, .func (PySem.W.ksFn "__init__" "BadNumber.__init__" (defArgs (inClass (topS 3) 0)) (defBody (inClass (topS 3) 0)) (defScope (inClass (topS 3) 0)) .none kV_BadNumber dc_BadNumber pm_BadNumber an_BadNumber (.ref cd_BadNumber) ct_BadNumber cc_BadNumber), sl_BadNumber⟩)
    (c_BadNumber : PySem.W.codeIn K (.ref cd_BadNumber) "BadNumber.__init__" = true)
    (cell_BadNumber : K.lookup cc_BadNumber = some ⟨c1_BadNumber, cl1_BadNumber, .cell (some (.ref cN)), s1_BadNumber⟩)
    (code_BadNumber : K.lookup cd_BadNumber = some ⟨c2_BadNumber, cl2_BadNumber, .fields vs_BadNumber, s2_BadNumber⟩)
    (v2_BadNumber : vs_BadNumber[2]? = some (.str fl_BadNumber tf_BadNumber))
    (fi_BadNumber : ((PySem.Challenge.rw_surelabels_k33_rows_that_rest.prog.main.file : Str) == fl_BadNumber) = true)
    (kC_BadNumber : PySem.W.keepIn K (.ref cN) = true)
    (eC_BadNumber : PySem.W.subIn K (.ref cN) (.type "BaseException") = some true)
    (vC_BadNumber : PySem.W.subIn K (.ref cN) (.type "ValueError") = some true)
    (tC_BadNumber : PySem.W.typeIn K (.ref cN) = some (.type "type"))
    (hC_BadNumber : PySem.W.hasDictIn K cN = true)
    (iC_BadNumber : PySem.W.isClsIn K cN = true)
    (mC_BadNumber : PySem.W.mroIn K cN (.ref cN) = some true)
    (a_BadWindow : PySem.W.nsIn K mainGlobals "BadWindow" = some (some (.ref cB)))
    (x_BadWindow : K.lookup cB = some (excClassObj nm_BadWindow q_BadWindow cB N_BadWindow bs_BadWindow [.ref cL, .type "ValueError", .type "Exception", .type "BaseException", .type "object"] true sn_BadWindow sb_BadWindow ab_BadWindow co_BadWindow dd_BadWindow m0_BadWindow m1_BadWindow m2_BadWindow m3_BadWindow m5_BadWindow "ValueError.__new__"))
    (su_BadWindow : PySem.W.ks_superIn K cB cB "__init__" = some (some (.builtin "ValueError.__init__")))
    (sa_BadWindow : PySem.W.findIn K (.ref cB) "__setattr__" = some (some (.builtin "object.__setattr__")))
    (ga_BadWindow : PySem.W.findIn K (.ref cB) "__getattribute__" = some (some (.builtin "BaseException.__getattribute__")))
    (gg_BadWindow : PySem.W.findIn K (.ref cB) "__getattr__" = some none)
    (nb_BadWindow : PySem.W.findIn K (.ref cB) "part" = some none)
    (in_BadWindow : PySem.W.findIn K (.ref cB) "__init__" = some (some (.ref iB)))
    (ti_BadWindow : PySem.W.typeIn K (.ref iB) = some (.type "function"))
    (l_BadWindow : K.lookup iB = some ⟨oc_BadWindow, od_BadWindow, .func (PySem.W.ksFn "__init__" "BadWindow.__init__" (defArgs (inClass (topS 4) 0)) (defBody (inClass (topS 4) 0)) (defScope (inClass (topS 4) 0)) .none kV_BadWindow dc_BadWindow pm_BadWindow an_BadWindow (.ref cd_BadWindow) ct_BadWindow cc_BadWindow), sl_BadWindow⟩)
    (c_BadWindow : PySem.W.codeIn K (.ref cd_BadWindow) "BadWindow.__init__" = true)
    (cell_BadWindow : K.lookup cc_BadWindow = some ⟨c1_BadWindow, cl1_BadWindow, .cell (some (.ref cB)), s1_BadWindow⟩)
    (code_BadWindow : K.lookup cd_BadWindow = some ⟨c2_BadWindow, cl2_BadWindow, .fields vs_BadWindow, s2_BadWindow⟩)
    (v2_BadWindow : vs_BadWindow[2]? = some (.str fl_BadWindow tf_BadWindow))
    (fi_BadWindow : ((PySem.Challenge.rw_surelabels_k33_rows_that_rest.prog.main.file : Str) == fl_BadWindow) = true)
    (kC_BadWindow : PySem.W.keepIn K (.ref cB) = true)
    (eC_BadWindow : PySem.W.subIn K (.ref cB) (.type "BaseException") = some true)
    (vC_BadWindow : PySem.W.subIn K (.ref cB) (.type "ValueError") = some true)
    (tC_BadWindow : PySem.W.typeIn K (.ref cB) = some (.type "type"))
    (hC_BadWindow : PySem.W.hasDictIn K cB = true)
    (iC_BadWindow : PySem.W.isClsIn K cB = true)
    (mC_BadWindow : PySem.W.mroIn K cB (.ref cB) = some true)
    (s_BadRow_BadRow : PySem.W.subIn K (.ref cR) (.ref cR) = some true)
    (s_BadRow_BadNumber : PySem.W.subIn K (.ref cR) (.ref cN) = some false)
    (s_BadRow_BadWindow : PySem.W.subIn K (.ref cR) (.ref cB) = some false)
    (s_BadNumber_BadRow : PySem.W.subIn K (.ref cN) (.ref cR) = some false)
    (s_BadNumber_BadNumber : PySem.W.subIn K (.ref cN) (.ref cN) = some true)
    (s_BadNumber_BadWindow : PySem.W.subIn K (.ref cN) (.ref cB) = some false)
    (s_BadWindow_BadRow : PySem.W.subIn K (.ref cB) (.ref cR) = some false)
    (s_BadWindow_BadNumber : PySem.W.subIn K (.ref cB) (.ref cN) = some false)
    (s_BadWindow_BadWindow : PySem.W.subIn K (.ref cB) (.ref cB) = some true)
    (a_LE : PySem.W.nsIn K mainGlobals "LabelError" = some (some (.ref cL)))
    (opq : PySem.W.nsIn K cStatics "thirdparty.any" = some none)
    (z_isinstance : PySem.W.nsIn K mainGlobals "isinstance" = some none)
    (z_int : PySem.W.nsIn K mainGlobals "int" = some none)
    (z_bool : PySem.W.nsIn K mainGlobals "bool" = some none)
    (z_str : PySem.W.nsIn K mainGlobals "str" = some none)
    (z_list : PySem.W.nsIn K mainGlobals "list" = some none)
    (z_tuple : PySem.W.nsIn K mainGlobals "tuple" = some none)
    (z_len : PySem.W.nsIn K mainGlobals "len" = some none)
    (z_all : PySem.W.nsIn K mainGlobals "all" = some none)
    (z_range : PySem.W.nsIn K mainGlobals "range" = some none)
    (z_reversed : PySem.W.nsIn K mainGlobals "reversed" = some none)
    (z_sorted : PySem.W.nsIn K mainGlobals "sorted" = some none)
    (z_sum : PySem.W.nsIn K mainGlobals "sum" = some none)
    (z_zip : PySem.W.nsIn K mainGlobals "zip" = some none)
    (z_max : PySem.W.nsIn K mainGlobals "max" = some none)
    (z_min : PySem.W.nsIn K mainGlobals "min" = some none)
    (z_enumerate : PySem.W.nsIn K mainGlobals "enumerate" = some none)
    (z_super : PySem.W.nsIn K mainGlobals "super" = some none)
    (a_is_whole : PySem.W.nsIn K mainGlobals "is_whole" = some (some (.ref f_is_whole)))
    (l_is_whole : K.lookup f_is_whole = some ⟨oc_is_whole, od_is_whole, .func (PySem.W.fnOf "is_whole" "is_whole" (defArgs s_is_whole) (defBody s_is_whole) (defScope s_is_whole) .none kV_is_whole dc_is_whole pm_is_whole an_is_whole cd_is_whole ct_is_whole), sl_is_whole⟩)
    (c_is_whole : PySem.W.codeIn K cd_is_whole "is_whole" = true)
    (k_is_whole : PySem.W.keepIn K (.ref f_is_whole) = true)
    (a_is_within : PySem.W.nsIn K mainGlobals "is_within" = some (some (.ref f_is_within)))
    (l_is_within : K.lookup f_is_within = some ⟨oc_is_within, od_is_within, .func (PySem.W.fnOf "is_within" "is_within" (defArgs s_is_within) (defBody s_is_within) (defScope s_is_within) .none kV_is_within dc_is_within pm_is_within an_is_within cd_is_within ct_is_within), sl_is_within⟩)
    (c_is_within : PySem.W.codeIn K cd_is_within "is_within" = true)
    (k_is_within : PySem.W.keepIn K (.ref f_is_within) = true)
    (a_check_within : PySem.W.nsIn K mainGlobals "check_within" = some (some (.ref f_check_within)))
    (l_check_within : K.lookup f_check_within = some ⟨oc_check_within, od_check_within, .func (PySem.W.fnOf "check_within" "check_within" (defArgs s_check_within) (defBody s_check_within) (defScope s_check_within) .none kV_check_within dc_check_within pm_check_within an_check_within cd_check_within ct_check_within), sl_check_within⟩)
    (c_check_within : PySem.W.codeIn K cd_check_within "check_within" = true)
    (k_check_within : PySem.W.keepIn K (.ref f_check_within) = true)
    (a_items_of : PySem.W.nsIn K mainGlobals "items_of" = some (some (.ref f_items_of)))
    (l_items_of : K.lookup f_items_of = some ⟨oc_items_of, od_items_of, .func (PySem.W.fnOf "items_of" "items_of" (defArgs s_items_of) (defBody s_items_of) (defScope s_items_of) .none kV_items_of dc_items_of pm_items_of an_items_of cd_items_of ct_items_of), sl_items_of⟩)
    (c_items_of : PySem.W.codeIn K cd_items_of "items_of" = true)
    (k_items_of : PySem.W.keepIn K (.ref f_items_of) = true)
    (a_is_row : PySem.W.nsIn K mainGlobals "is_row" = some (some (.ref f_is_row)))
    (l_is_row : K.lookup f_is_row = some ⟨oc_is_row, od_is_row, .func (PySem.W.fnOf "is_row" "is_row" (defArgs s_is_row) (defBody s_is_row) (defScope s_is_row) .none kV_is_row dc_is_row pm_is_row an_is_row cd_is_row ct_is_row), sl_is_row⟩)
    (c_is_row : PySem.W.codeIn K cd_is_row "is_row" = true)
    (k_is_row : PySem.W.keepIn K (.ref f_is_row) = true)
    (a_check_row : PySem.W.nsIn K mainGlobals "check_row" = some (some (.ref f_check_row)))
    (l_check_row : K.lookup f_check_row = some ⟨oc_check_row, od_check_row, .func (PySem.W.fnOf "check_row" "check_row" (defArgs s_check_row) (defBody s_check_row) (defScope s_check_row) .none kV_check_row dc_check_row pm_check_row an_check_row cd_check_row ct_check_row), sl_check_row⟩)
    (c_check_row : PySem.W.codeIn K cd_check_row "check_row" = true)
    (k_check_row : PySem.W.keepIn K (.ref f_check_row) = true)
    (a_cell_number : PySem.W.nsIn K mainGlobals "cell_number" = some (some (.ref f_cell_number)))
    (l_cell_number : K.lookup f_cell_number = some ⟨oc_cell_number, od_cell_number, .func (PySem.W.fnOf "cell_number" "cell_number" (defArgs s_cell_number) (defBody s_cell_number) (defScope s_cell_number) .none kV_cell_number dc_cell_number pm_cell_number an_cell_number cd_cell_number ct_cell_number), sl_cell_number⟩)
    (c_cell_number : PySem.W.codeIn K cd_cell_number "cell_number" = true)
    (k_cell_number : PySem.W.keepIn K (.ref f_cell_number) = true)
    (a_table_of : PySem.W.nsIn K mainGlobals "_table_of" = some (some (.ref f_table_of)))
    (l_table_of : K.lookup f_table_of = some ⟨oc_table_of, od_table_of, .func (PySem.W.fnOf "_table_of" "_table_of" (defArgs s_table_of) (defBody s_table_of) (defScope s_table_of) .none kV_table_of dc_table_of pm_table_of an_table_of cd_table_of ct_table_of), sl_table_of⟩)
    (c_table_of : PySem.W.codeIn K cd_table_of "_table_of" = true)
    (k_table_of : PySem.W.keepIn K (.ref f_table_of) = true)
    (a_swept_inside : PySem.W.nsIn K mainGlobals "swept_inside" = some (some (.ref f_swept_inside)))
    (l_swept_inside : K.lookup f_swept_inside = some ⟨oc_swept_inside, od_swept_inside, .func (PySem.W.fnOf "swept_inside" "swept_inside" (defArgs s_swept_inside) (defBody s_swept_inside) (defScope s_swept_inside) .none kV_swept_inside dc_swept_inside pm_swept_inside an_swept_inside cd_swept_inside ct_swept_inside), sl_swept_inside⟩)
    (c_swept_inside : PySem.W.codeIn K cd_swept_inside "swept_inside" = true)
    (k_swept_inside : PySem.W.keepIn K (.ref f_swept_inside) = true)
    (a_swept : PySem.W.nsIn K mainGlobals "swept" = some (some (.ref f_swept)))
    (l_swept : K.lookup f_swept = some ⟨oc_swept, od_swept, .func (PySem.W.fnOf "swept" "swept" (defArgs s_swept) (defBody s_swept) (defScope s_swept) .none kV_swept dc_swept pm_swept an_swept cd_swept ct_swept), sl_swept⟩)
    (c_swept : PySem.W.codeIn K cd_swept "swept" = true)
    (k_swept : PySem.W.keepIn K (.ref f_swept) = true)
    (a_same : PySem.W.nsIn K mainGlobals "same" = some (some (.ref f_same)))
    (l_same : K.lookup f_same = some ⟨oc_same, od_same, .func (PySem.W.fnOf "same" "same" (defArgs s_same) (defBody s_same) (defScope s_same) .none kV_same dc_same pm_same an_same cd_same ct_same), sl_same⟩)
    (c_same : PySem.W.codeIn K cd_same "same" = true)
    (k_same : PySem.W.keepIn K (.ref f_same) = true)
    (a_rests : PySem.W.nsIn K mainGlobals "rests" = some (some (.ref f_rests)))
    (l_rests : K.lookup f_rests = some ⟨oc_rests, od_rests, .func (PySem.W.fnOf "rests" "rests" (defArgs s_rests) (defBody s_rests) (defScope s_rests) .none kV_rests dc_rests pm_rests an_rests cd_rests ct_rests), sl_rests⟩)
    (c_rests : PySem.W.codeIn K cd_rests "rests" = true)
    (k_rests : PySem.W.keepIn K (.ref f_rests) = true)
    (a_many_rest : PySem.W.nsIn K mainGlobals "many_rest" = some (some (.ref f_many_rest)))
    (l_many_rest : K.lookup f_many_rest = some ⟨oc_many_rest, od_many_rest, .func (PySem.W.fnOf "many_rest" "many_rest" (defArgs s_many_rest) (defBody s_many_rest) (defScope s_many_rest) .none kV_many_rest dc_many_rest pm_many_rest an_many_rest cd_many_rest ct_many_rest), sl_many_rest⟩)
    (c_many_rest : PySem.W.codeIn K cd_many_rest "many_rest" = true)
    (k_many_rest : PySem.W.keepIn K (.ref f_many_rest) = true)
    (a_swept_till : PySem.W.nsIn K mainGlobals "swept_till" = some (some (.ref f_swept_till)))
    (l_swept_till : K.lookup f_swept_till = some ⟨oc_swept_till, od_swept_till, .func (PySem.W.fnOf "swept_till" "swept_till" (defArgs s_swept_till) (defBody s_swept_till) (defScope s_swept_till) .none kV_swept_till dc_swept_till pm_swept_till an_swept_till cd_swept_till ct_swept_till), sl_swept_till⟩)
    (c_swept_till : PySem.W.codeIn K cd_swept_till "swept_till" = true)
    (k_swept_till : PySem.W.keepIn K (.ref f_swept_till) = true)
    (a_law_hand : PySem.W.nsIn K mainGlobals "_law_hand" = some (some (.ref f_law_hand)))
    (l_law_hand : K.lookup f_law_hand = some ⟨oc_law_hand, od_law_hand, .func (PySem.W.fnOf "_law_hand" "_law_hand" (defArgs s_law_hand) (defBody s_law_hand) (defScope s_law_hand) .none kV_law_hand dc_law_hand pm_law_hand an_law_hand cd_law_hand ct_law_hand), sl_law_hand⟩)
    (c_law_hand : PySem.W.codeIn K cd_law_hand "_law_hand" = true)
    (k_law_hand : PySem.W.keepIn K (.ref f_law_hand) = true)
    (a_law_draw : PySem.W.nsIn K mainGlobals "_law_draw" = some (some (.ref f_law_draw)))
    (l_law_draw : K.lookup f_law_draw = some ⟨oc_law_draw, od_law_draw, .func (PySem.W.fnOf "_law_draw" "_law_draw" (defArgs s_law_draw) (defBody s_law_draw) (defScope s_law_draw) .none kV_law_draw dc_law_draw pm_law_draw an_law_draw cd_law_draw ct_law_draw), sl_law_draw⟩)
    (c_law_draw : PySem.W.codeIn K cd_law_draw "_law_draw" = true)
    (k_law_draw : PySem.W.keepIn K (.ref f_law_draw) = true)
    (a_law_row : PySem.W.nsIn K mainGlobals "_law_row" = some (some (.ref f_law_row)))
    (l_law_row : K.lookup f_law_row = some ⟨oc_law_row, od_law_row, .func (PySem.W.fnOf "_law_row" "_law_row" (defArgs s_law_row) (defBody s_law_row) (defScope s_law_row) .none kV_law_row dc_law_row pm_law_row an_law_row cd_law_row ct_law_row), sl_law_row⟩)
    (c_law_row : PySem.W.codeIn K cd_law_row "_law_row" = true)
    (k_law_row : PySem.W.keepIn K (.ref f_law_row) = true)
    (a_law_rows : PySem.W.nsIn K mainGlobals "_law_rows" = some (some (.ref f_law_rows)))
    (l_law_rows : K.lookup f_law_rows = some ⟨oc_law_rows, od_law_rows, .func (PySem.W.fnOf "_law_rows" "_law_rows" (defArgs s_law_rows) (defBody s_law_rows) (defScope s_law_rows) .none kV_law_rows dc_law_rows pm_law_rows an_law_rows cd_law_rows ct_law_rows), sl_law_rows⟩)
    (c_law_rows : PySem.W.codeIn K cd_law_rows "_law_rows" = true)
    (k_law_rows : PySem.W.keepIn K (.ref f_law_rows) = true)
    (a_law_number : PySem.W.nsIn K mainGlobals "_law_number" = some (some (.ref f_law_number)))
    (l_law_number : K.lookup f_law_number = some ⟨oc_law_number, od_law_number, .func (PySem.W.fnOf "_law_number" "_law_number" (defArgs s_law_number) (defBody s_law_number) (defScope s_law_number) .none kV_law_number dc_law_number pm_law_number an_law_number cd_law_number ct_law_number), sl_law_number⟩)
    (c_law_number : PySem.W.codeIn K cd_law_number "_law_number" = true)
    (k_law_number : PySem.W.keepIn K (.ref f_law_number) = true)
    (a_law_table : PySem.W.nsIn K mainGlobals "_law_table" = some (some (.ref f_law_table)))
    (l_law_table : K.lookup f_law_table = some ⟨oc_law_table, od_law_table, .func (PySem.W.fnOf "_law_table" "_law_table" (defArgs s_law_table) (defBody s_law_table) (defScope s_law_table) .none kV_law_table dc_law_table pm_law_table an_law_table cd_law_table ct_law_table), sl_law_table⟩)
    (c_law_table : PySem.W.codeIn K cd_law_table "_law_table" = true)
    (k_law_table : PySem.W.keepIn K (.ref f_law_table) = true)
    (a_law_radius : PySem.W.nsIn K mainGlobals "_law_radius" = some (some (.ref f_law_radius)))
    (l_law_radius : K.lookup f_law_radius = some ⟨oc_law_radius, od_law_radius, .func (PySem.W.fnOf "_law_radius" "_law_radius" (defArgs s_law_radius) (defBody s_law_radius) (defScope s_law_radius) .none kV_law_radius dc_law_radius pm_law_radius an_law_radius cd_law_radius ct_law_radius), sl_law_radius⟩)
    (c_law_radius : PySem.W.codeIn K cd_law_radius "_law_radius" = true)
    (k_law_radius : PySem.W.keepIn K (.ref f_law_radius) = true)
    (a_law_filtered : PySem.W.nsIn K mainGlobals "_law_filtered" = some (some (.ref f_law_filtered)))
    (l_law_filtered : K.lookup f_law_filtered = some ⟨oc_law_filtered, od_law_filtered, .func (PySem.W.fnOf "_law_filtered" "_law_filtered" (defArgs s_law_filtered) (defBody s_law_filtered) (defScope s_law_filtered) .none kV_law_filtered dc_law_filtered pm_law_filtered an_law_filtered cd_law_filtered ct_law_filtered), sl_law_filtered⟩)
    (c_law_filtered : PySem.W.codeIn K cd_law_filtered "_law_filtered" = true)
    (k_law_filtered : PySem.W.keepIn K (.ref f_law_filtered) = true)
    (a_law_swept : PySem.W.nsIn K mainGlobals "_law_swept" = some (some (.ref f_law_swept)))
    (l_law_swept : K.lookup f_law_swept = some ⟨oc_law_swept, od_law_swept, .func (PySem.W.fnOf "_law_swept" "_law_swept" (defArgs s_law_swept) (defBody s_law_swept) (defScope s_law_swept) .none kV_law_swept dc_law_swept pm_law_swept an_law_swept cd_law_swept ct_law_swept), sl_law_swept⟩)
    (c_law_swept : PySem.W.codeIn K cd_law_swept "_law_swept" = true)
    (k_law_swept : PySem.W.keepIn K (.ref f_law_swept) = true)
    (a_law_same : PySem.W.nsIn K mainGlobals "_law_same" = some (some (.ref f_law_same)))
    (l_law_same : K.lookup f_law_same = some ⟨oc_law_same, od_law_same, .func (PySem.W.fnOf "_law_same" "_law_same" (defArgs s_law_same) (defBody s_law_same) (defScope s_law_same) .none kV_law_same dc_law_same pm_law_same an_law_same cd_law_same ct_law_same), sl_law_same⟩)
    (c_law_same : PySem.W.codeIn K cd_law_same "_law_same" = true)
    (k_law_same : PySem.W.keepIn K (.ref f_law_same) = true)
    (a_law_count : PySem.W.nsIn K mainGlobals "_law_count" = some (some (.ref f_law_count)))
    (l_law_count : K.lookup f_law_count = some ⟨oc_law_count, od_law_count, .func (PySem.W.fnOf "_law_count" "_law_count" (defArgs s_law_count) (defBody s_law_count) (defScope s_law_count) .none kV_law_count dc_law_count pm_law_count an_law_count cd_law_count ct_law_count), sl_law_count⟩)
    (c_law_count : PySem.W.codeIn K cd_law_count "_law_count" = true)
    (k_law_count : PySem.W.keepIn K (.ref f_law_count) = true)
    (a_law_till : PySem.W.nsIn K mainGlobals "_law_till" = some (some (.ref f_law_till)))
    (l_law_till : K.lookup f_law_till = some ⟨oc_law_till, od_law_till, .func (PySem.W.fnOf "_law_till" "_law_till" (defArgs s_law_till) (defBody s_law_till) (defScope s_law_till) .none kV_law_till dc_law_till pm_law_till an_law_till cd_law_till ct_law_till), sl_law_till⟩)
    (c_law_till : PySem.W.codeIn K cd_law_till "_law_till" = true)
    (k_law_till : PySem.W.keepIn K (.ref f_law_till) = true)
    (a_law_asked : PySem.W.nsIn K mainGlobals "_law_asked" = some (some (.ref f_law_asked)))
    (l_law_asked : K.lookup f_law_asked = some ⟨oc_law_asked, od_law_asked, .func (PySem.W.fnOf "_law_asked" "_law_asked" (defArgs s_law_asked) (defBody s_law_asked) (defScope s_law_asked) .none kV_law_asked dc_law_asked pm_law_asked an_law_asked cd_law_asked ct_law_asked), sl_law_asked⟩)
    (c_law_asked : PySem.W.codeIn K cd_law_asked "_law_asked" = true)
    (k_law_asked : PySem.W.keepIn K (.ref f_law_asked) = true)
    (a_law_is_same : PySem.W.nsIn K mainGlobals "_law_is_same" = some (some (.ref f_law_is_same)))
    (l_law_is_same : K.lookup f_law_is_same = some ⟨oc_law_is_same, od_law_is_same, .func (PySem.W.fnOf "_law_is_same" "_law_is_same" (defArgs s_law_is_same) (defBody s_law_is_same) (defScope s_law_is_same) .none kV_law_is_same dc_law_is_same pm_law_is_same an_law_is_same cd_law_is_same ct_law_is_same), sl_law_is_same⟩)
    (c_law_is_same : PySem.W.codeIn K cd_law_is_same "_law_is_same" = true)
    (k_law_is_same : PySem.W.keepIn K (.ref f_law_is_same) = true)
    (a_law : PySem.W.nsIn K mainGlobals "law" = some (some (.ref f_law)))
    (l_law : K.lookup f_law = some ⟨oc_law, od_law, .func (PySem.W.fnOf "law" "law" (defArgs s_law) (defBody s_law) (defScope s_law) .none kV_law dc_law pm_law an_law cd_law ct_law), sl_law⟩)
    (c_law : PySem.W.codeIn K cd_law "law" = true)
    (k_law : PySem.W.keepIn K (.ref f_law) = true)
    (a_Window : PySem.W.nsIn K mainGlobals "Window" = some (some (.ref cU)))
    (mk_Window : PySem.W.makesIn K cU = true)
    (in_Window : PySem.W.findIn K (.ref cU) "__init__" = some (some (.ref fU)))
    (fn_Window : PySem.W.isFn K (.ref fU) = true)
    (kp_Window : PySem.W.keepIn K (.ref cU) = true)
    (pg_Window : PySem.W.plainGet K cU Str.empty = true)
    (hd_Window : PySem.W.hasDictIn K cU = true)
    (po_Window : PySem.W.plainOver K cU = true)
    (sa_Window : PySem.W.findIn K (.ref cU) "__setattr__" = some (some (.builtin "object.__setattr__")))
    (n0_Window : PySem.W.findIn K (.ref cU) "radius" = some none)
    (n1_Window : PySem.W.findIn K (.ref cU) "table" = some none)
    (l_Window_init : K.lookup fU = some ⟨oc_Window0, od_Window0, .func (PySem.W.fnOf "__init__" "Window.__init__" (defArgs s_Window_init) (defBody s_Window_init) (defScope s_Window_init) .none kV_Window0 dc_Window0 pm_Window0 an_Window0 cd_Window0 ct_Window0), sl_Window0⟩)
    (c_Window_init : PySem.W.codeIn K cd_Window0 "Window.__init__" = true)
    (k_Window_init : PySem.W.keepIn K (.ref fU) = true)
    (eq_Window : PySem.W.findIn K (.ref cU) "__eq__" = some (some (.ref gU)))
    (fe_Window : PySem.W.isFn K (.ref gU) = true)
    (l_Window_eq : K.lookup gU = some ⟨oc_Window1, od_Window1, .func (PySem.W.fnOf "__eq__" "Window.__eq__" (defArgs s_Window_eq) (defBody s_Window_eq) (defScope s_Window_eq) .none kV_Window1 dc_Window1 pm_Window1 an_Window1 cd_Window1 ct_Window1), sl_Window1⟩)
    (c_Window_eq : PySem.W.codeIn K cd_Window1 "Window.__eq__" = true)
    (k_Window_eq : PySem.W.keepIn K (.ref gU) = true)
    (ia_Window : PySem.W.findIn K (.ref cU) "__class__" = some (some (.builtin "object.__class__")))
    (ig_Window : PySem.W.specialIn K (.builtin "object.__class__") "__get__" = some (some (.builtin "getset_descriptor.__get__")))
    (it_Window : PySem.W.takesIn K (.builtin "object.__class__") = some true)
    (im_Window : PySem.W.mroIn K cU (.type "object") = some true)
    (ie_Window : PySem.W.kitOne K (.ref cU) (.ref cU) = some true)
    (ne_Window : PySem.W.findIn K (.ref cU) "__ne__" = some (some (.builtin "object.__ne__")))
    (mo_Window : PySem.W.mroIn K cU (.type "object") = some true) :
    ∃ fd : FuncData, (∀ (s : Shared) (v : Value), BindsTo s fd ⟨[v], []⟩ [("script", v)]) ∧ ∀ base : Heap, K.In base → base.Ns mainGlobals mg → FnOk PySem.Challenge.rw_surelabels_k33_rows_that_rest.prog w K mg base CX0 14 fa fd ["script"] (spLaw K) := by
  have e := hfa.symm.trans (PySem.W.mg_of X G a_law)
  cases e
  have F1_is_whole := fun_mk (st := s_is_whole) l_is_whole c_is_whole k_is_whole
  have B_is_whole := F1_is_whole.binds (ps := ["thing"]) fun _ _ _ _ _ _ us hl => match us, hl with | [_], _ => rfl
  have F1_is_within := fun_mk (st := s_is_within) l_is_within c_is_within k_is_within
  have B_is_within := F1_is_within.binds (ps := ["thing", "low", "high"]) fun _ _ _ _ _ _ us hl => match us, hl with | [_, _, _], _ => rfl
  have F1_check_within := fun_mk (st := s_check_within) l_check_within c_check_within k_check_within
  have B_check_within := F1_check_within.binds (ps := ["thing", "low", "high", "part"]) fun _ _ _ _ _ _ us hl => match us, hl with | [_, _, _, _], _ => rfl
  have F1_items_of := fun_mk (st := s_items_of) l_items_of c_items_of k_items_of
  have B_items_of := F1_items_of.binds (ps := ["thing"]) fun _ _ _ _ _ _ us hl => match us, hl with | [_], _ => rfl
  have F1_is_row := fun_mk (st := s_is_row) l_is_row c_is_row k_is_row
  have B_is_row := F1_is_row.binds (ps := ["thing"]) fun _ _ _ _ _ _ us hl => match us, hl with | [_], _ => rfl
  have F1_check_row := fun_mk (st := s_check_row) l_check_row c_check_row k_check_row
  have B_check_row := F1_check_row.binds (ps := ["thing", "part"]) fun _ _ _ _ _ _ us hl => match us, hl with | [_, _], _ => rfl
  have F1_cell_number := fun_mk (st := s_cell_number) l_cell_number c_cell_number k_cell_number
  have B_cell_number := F1_cell_number.binds (ps := ["row"]) fun _ _ _ _ _ _ us hl => match us, hl with | [_], _ => rfl
  have F1_table_of := fun_mk (st := s_table_of) l_table_of c_table_of k_table_of
  have B_table_of := F1_table_of.binds (ps := ["thing", "size"]) fun _ _ _ _ _ _ us hl => match us, hl with | [_, _], _ => rfl
  have F1_swept_inside := fun_mk (st := s_swept_inside) l_swept_inside c_swept_inside k_swept_inside
  have B_swept_inside := F1_swept_inside.binds (ps := ["window", "cells"]) fun _ _ _ _ _ _ us hl => match us, hl with | [_, _], _ => rfl
  have F1_swept := fun_mk (st := s_swept) l_swept c_swept k_swept
  have B_swept := F1_swept.binds (ps := ["window", "row"]) fun _ _ _ _ _ _ us hl => match us, hl with | [_, _], _ => rfl
  have F1_same := fun_mk (st := s_same) l_same c_same k_same
  have B_same := F1_same.binds (ps := []) fun _ _ _ _ _ _ us hl => match us, hl with | [], _ => rfl
  have F1_rests := fun_mk (st := s_rests) l_rests c_rests k_rests
  have B_rests := F1_rests.binds (ps := ["window", "row"]) fun _ _ _ _ _ _ us hl => match us, hl with | [_, _], _ => rfl
  have F1_many_rest := fun_mk (st := s_many_rest) l_many_rest c_many_rest k_many_rest
  have B_many_rest := F1_many_rest.binds (ps := ["window", "length"]) fun _ _ _ _ _ _ us hl => match us, hl with | [_, _], _ => rfl
  have F1_swept_till := fun_mk (st := s_swept_till) l_swept_till c_swept_till k_swept_till
  have B_swept_till := F1_swept_till.binds (ps := ["window", "row", "most"]) fun _ _ _ _ _ _ us hl => match us, hl with | [_, _, _], _ => rfl
  have F1_law_hand := fun_mk (st := s_law_hand) l_law_hand c_law_hand k_law_hand
  have B_law_hand := F1_law_hand.binds (ps := ["script"]) fun _ _ _ _ _ _ us hl => match us, hl with | [_], _ => rfl
  have F1_law_draw := fun_mk (st := s_law_draw) l_law_draw c_law_draw k_law_draw
  have B_law_draw := F1_law_draw.binds (ps := ["hand", "many"]) fun _ _ _ _ _ _ us hl => match us, hl with | [_, _], _ => rfl
  have F1_law_row := fun_mk (st := s_law_row) l_law_row c_law_row k_law_row
  have B_law_row := F1_law_row.binds (ps := ["hand", "length"]) fun _ _ _ _ _ _ us hl => match us, hl with | [_, _], _ => rfl
  have F1_law_rows := fun_mk (st := s_law_rows) l_law_rows c_law_rows k_law_rows
  have B_law_rows := F1_law_rows.binds (ps := ["length"]) fun _ _ _ _ _ _ us hl => match us, hl with | [_], _ => rfl
  have F1_law_number := fun_mk (st := s_law_number) l_law_number c_law_number k_law_number
  have B_law_number := F1_law_number.binds (ps := ["row"]) fun _ _ _ _ _ _ us hl => match us, hl with | [_], _ => rfl
  have F1_law_table := fun_mk (st := s_law_table) l_law_table c_law_table k_law_table
  have B_law_table := F1_law_table.binds (ps := ["hand", "radius"]) fun _ _ _ _ _ _ us hl => match us, hl with | [_, _], _ => rfl
  have F1_law_radius := fun_mk (st := s_law_radius) l_law_radius c_law_radius k_law_radius
  have B_law_radius := F1_law_radius.binds (ps := ["hand"]) fun _ _ _ _ _ _ us hl => match us, hl with | [_], _ => rfl
  have F1_law_filtered := fun_mk (st := s_law_filtered) l_law_filtered c_law_filtered k_law_filtered
  have B_law_filtered := F1_law_filtered.binds (ps := ["radius", "table", "row"]) fun _ _ _ _ _ _ us hl => match us, hl with | [_, _, _], _ => rfl
  have F1_law_swept := fun_mk (st := s_law_swept) l_law_swept c_law_swept k_law_swept
  have B_law_swept := F1_law_swept.binds (ps := ["radius", "table", "row"]) fun _ _ _ _ _ _ us hl => match us, hl with | [_, _, _], _ => rfl
  have F1_law_same := fun_mk (st := s_law_same) l_law_same c_law_same k_law_same
  have B_law_same := F1_law_same.binds (ps := ["told", "due"]) fun _ _ _ _ _ _ us hl => match us, hl with | [_, _], _ => rfl
  have F1_law_count := fun_mk (st := s_law_count) l_law_count c_law_count k_law_count
  have B_law_count := F1_law_count.binds (ps := ["radius", "table", "length"]) fun _ _ _ _ _ _ us hl => match us, hl with | [_, _, _], _ => rfl
  have F1_law_till := fun_mk (st := s_law_till) l_law_till c_law_till k_law_till
  have B_law_till := F1_law_till.binds (ps := ["radius", "table", "row", "most"]) fun _ _ _ _ _ _ us hl => match us, hl with | [_, _, _, _], _ => rfl
  have F1_law_asked := fun_mk (st := s_law_asked) l_law_asked c_law_asked k_law_asked
  have B_law_asked := F1_law_asked.binds (ps := ["which", "window", "row", "many"]) fun _ _ _ _ _ _ us hl => match us, hl with | [_, _, _, _], _ => rfl
  have F1_law_is_same := fun_mk (st := s_law_is_same) l_law_is_same c_law_is_same k_law_is_same
  have B_law_is_same := F1_law_is_same.binds (ps := ["table", "radius"]) fun _ _ _ _ _ _ us hl => match us, hl with | [_, _], _ => rfl
  have F1_law := fun_mk (st := s_law) l_law c_law k_law
  have B_law := F1_law.binds (ps := ["script"]) fun _ _ _ _ _ _ us hl => match us, hl with | [_], _ => rfl
  have T_BadRow : PySem.SLX.ExTxt K mg PySem.Challenge.rw_surelabels_k33_rows_that_rest.prog w "BadRow" "part" "part" (fun v => ∃ (y : Str) (t : Tok), v = .str y t ∧ (reprText y).length ≤ 1000) cR iR :=
    { gC := PySem.W.mg_of X G a_BadRow, cls := ⟨_, _, _, _, _, _, _, _, _, _, _, _, _, _, _, x_BadRow, rfl, along_of x_BadRow su_BadRow⟩, sa := sa_BadRow, ga := ga_BadRow, gg := gg_BadRow, noN := nb_BadRow, iC := in_BadRow, tC := ti_BadRow, kC := kC_BadRow, exC := eC_BadRow, veC := vC_BadRow, tyC := tC_BadRow, hdC := hC_BadRow, selfC := mC_BadRow, opq := opq, sup := PySem.W.mg_none_of X G z_super,
      fn := ⟨_, _, _, _, _, _, _, _, _, _, _, _, _, _, _, _, _, _, _, _, _, _, _, _, _, _, _, _, _, _, _, _, l_BadRow, c_BadRow, cell_BadRow, code_BadRow, v2_BadRow, fi_BadRow, PySem.SLX.msg_repr rfl rfl (by decide) (by decide +kernel), fun _ => rfl, fun _ => ⟨_, rfl⟩, fun _ _ => rfl⟩,
      okN := ⟨by decide, by decide, by decide, by decide⟩, top := by decide +kernel }
  have T_BadNumber : PySem.SLX.ExTxt K mg PySem.Challenge.rw_surelabels_k33_rows_that_rest.prog w "BadNumber" "part" "part" (fun v => ∃ (y : Str) (t : Tok), v = .str y t ∧ (reprText y).length ≤ 1000) cN iN :=
    { gC := PySem.W.mg_of X G a_BadNumber, cls := ⟨_, _, _, _, _, _, _, _, _, _, _, _, _, _, _, x_BadNumber, rfl, along_of x_BadNumber su_BadNumber⟩, sa := sa_BadNumber, ga := ga_BadNumber, gg := gg_BadNumber, noN := nb_BadNumber, iC := in_BadNumber, tC := ti_BadNumber, kC := kC_BadNumber, exC := eC_BadNumber, veC := vC_BadNumber, tyC := tC_BadNumber, hdC := hC_BadNumber, selfC := mC_BadNumber, opq := opq, sup := PySem.W.mg_none_of X G z_super,
      fn := ⟨_, _, _, _, _, _, _, _, _, _, _, _, _, _, _, _, _, _, _, _, _, _, _, _, _, _, _, _, _, _, _, _, l_BadNumber, c_BadNumber, cell_BadNumber, code_BadNumber, v2_BadNumber, fi_BadNumber, PySem.SLX.msg_repr rfl rfl (by decide) (by decide +kernel), fun _ => rfl, fun _ => ⟨_, rfl⟩, fun _ _ => rfl⟩,
      okN := ⟨by decide, by decide, by decide, by decide⟩, top := by decide +kernel }
  have T_BadWindow : PySem.SLX.ExTxt K mg PySem.Challenge.rw_surelabels_k33_rows_that_rest.prog w "BadWindow" "part" "part" (fun v => ∃ (y : Str) (t : Tok), v = .str y t ∧ (reprText y).length ≤ 1000) cB iB :=
    { gC := PySem.W.mg_of X G a_BadWindow, cls := ⟨_, _, _, _, _, _, _, _, _, _, _, _, _, _, _, x_BadWindow, rfl, along_of x_BadWindow su_BadWindow⟩, sa := sa_BadWindow, ga := ga_BadWindow, gg := gg_BadWindow, noN := nb_BadWindow, iC := in_BadWindow, tC := ti_BadWindow, kC := kC_BadWindow, exC := eC_BadWindow, veC := vC_BadWindow, tyC := tC_BadWindow, hdC := hC_BadWindow, selfC := mC_BadWindow, opq := opq, sup := PySem.W.mg_none_of X G z_super,
      fn := ⟨_, _, _, _, _, _, _, _, _, _, _, _, _, _, _, _, _, _, _, _, _, _, _, _, _, _, _, _, _, _, _, _, l_BadWindow, c_BadWindow, cell_BadWindow, code_BadWindow, v2_BadWindow, fi_BadWindow, PySem.SLX.msg_repr rfl rfl (by decide) (by decide +kernel), fun _ => rfl, fun _ => ⟨_, rfl⟩, fun _ _ => rfl⟩,
      okN := ⟨by decide, by decide, by decide, by decide⟩, top := by decide +kernel }
  have F1_Window_init := fun_mk (st := s_Window_init) l_Window_init c_Window_init k_Window_init
  have B_Window_init := F1_Window_init.binds (ps := ["self", "radius", "table"]) fun _ _ _ _ _ _ us hl => match us, hl with | [_, _, _], _ => rfl
  have F1_Window_eq := fun_mk (st := s_Window_eq) l_Window_eq c_Window_eq k_Window_eq
  have B_Window_eq := F1_Window_eq.binds (ps := ["self", "other"]) fun _ _ _ _ _ _ us hl => match us, hl with | [_, _], _ => rfl
  have M : MF PySem.Challenge.rw_surelabels_k33_rows_that_rest.prog w K mg cR iR cN iN cB iB cU fU gU cL := { m_isinstance := PySem.W.mg_none_of X G z_isinstance, m_int := PySem.W.mg_none_of X G z_int, m_bool := PySem.W.mg_none_of X G z_bool, m_str := PySem.W.mg_none_of X G z_str, m_list := PySem.W.mg_none_of X G z_list, m_tuple := PySem.W.mg_none_of X G z_tuple, m_len := PySem.W.mg_none_of X G z_len, m_all := PySem.W.mg_none_of X G z_all, m_range := PySem.W.mg_none_of X G z_range, m_reversed := PySem.W.mg_none_of X G z_reversed, m_sorted := PySem.W.mg_none_of X G z_sorted, m_sum := PySem.W.mg_none_of X G z_sum, m_zip := PySem.W.mg_none_of X G z_zip, m_max := PySem.W.mg_none_of X G z_max, m_min := PySem.W.mg_none_of X G z_min, m_enumerate := PySem.W.mg_none_of X G z_enumerate, x_BadRow := T_BadRow, x_BadNumber := T_BadNumber, x_BadWindow := T_BadWindow, g_BadRow := PySem.W.mg_of X G a_BadRow, g_BadNumber := PySem.W.mg_of X G a_BadNumber, g_BadWindow := PySem.W.mg_of X G a_BadWindow, g_LabelError := PySem.W.mg_of X G a_LE, e_RR := exm_ref eC_BadRow iC_BadRow tC_BadRow s_BadRow_BadRow, e_NR := exm_ref eC_BadRow iC_BadRow tC_BadRow s_BadNumber_BadRow, e_NN := exm_ref eC_BadNumber iC_BadNumber tC_BadNumber s_BadNumber_BadNumber, e_BB := exm_ref eC_BadWindow iC_BadWindow tC_BadWindow s_BadWindow_BadWindow, g_Window := PySem.W.mg_of X G a_Window, mk_Window := ⟨mk_Window, in_Window, fn_Window, kp_Window⟩, cl_Window := ⟨pg_Window, hd_Window, po_Window, sa_Window⟩, n_radius := n0_Window, n_table := n1_Window, eq_Window := eq_Window, fn_eq := fe_Window, ic_Window := ⟨⟨pg_Window, hd_Window, po_Window, sa_Window⟩, ia_Window, ig_Window, it_Window, im_Window, ie_Window⟩, ne_Window := ne_Window, mo_Window := mo_Window }
  refine ⟨PySem.W.fnOf "law" "law" (defArgs s_law) (defBody s_law) (defScope s_law) .none kV_law dc_law pm_law an_law cd_law ct_law, fun s v => .of_eq rfl, fun base _ _ => ?_⟩
  · have F_is_whole : FnC PySem.Challenge.rw_surelabels_k33_rows_that_rest.prog w K mg base CX0 1 "is_whole" ["thing"] (spWhole K) := ⟨_, _, ok_is_whole M F1_is_whole, PySem.W.mg_of X G a_is_whole, k_is_whole, B_is_whole⟩
    have F_is_within : FnC PySem.Challenge.rw_surelabels_k33_rows_that_rest.prog w K mg base CX0 2 "is_within" ["thing", "low", "high"] (spWithin K) := ⟨_, _, ok_is_within F_is_whole F1_is_within, PySem.W.mg_of X G a_is_within, k_is_within, B_is_within⟩
    have F_check_within : FnC PySem.Challenge.rw_surelabels_k33_rows_that_rest.prog w K mg base (L2.CX PySem.Challenge.rw_surelabels_k33_rows_that_rest.prog w) 4 "check_within" ["thing", "low", "high", "part"] (spCheckWithin K cN) := ⟨_, _, ok_check_within M F_is_within F1_check_within, PySem.W.mg_of X G a_check_within, k_check_within, B_check_within⟩
    have F_items_of : FnC PySem.Challenge.rw_surelabels_k33_rows_that_rest.prog w K mg base CX0 1 "items_of" ["thing"] (spItems K) := ⟨_, _, ok_items_of M F1_items_of, PySem.W.mg_of X G a_items_of, k_items_of, B_items_of⟩
    have F_is_row : FnC PySem.Challenge.rw_surelabels_k33_rows_that_rest.prog w K mg base CX0 4 "is_row" ["thing"] (spRowQ K) := ⟨_, _, ok_is_row M F_is_within F1_is_row, PySem.W.mg_of X G a_is_row, k_is_row, B_is_row⟩
    have F_check_row : FnC PySem.Challenge.rw_surelabels_k33_rows_that_rest.prog w K mg base (L2.CX PySem.Challenge.rw_surelabels_k33_rows_that_rest.prog w) 6 "check_row" ["thing", "part"] (spCheckRow K cR) := ⟨_, _, ok_check_row M F_is_row F1_check_row, PySem.W.mg_of X G a_check_row, k_check_row, B_check_row⟩
    have F_cell_number : FnC PySem.Challenge.rw_surelabels_k33_rows_that_rest.prog w K mg base CX0 1 "cell_number" ["row"] (spCellNumber K) := ⟨_, _, ok_cell_number F1_cell_number, PySem.W.mg_of X G a_cell_number, k_cell_number, B_cell_number⟩
    have F_table_of : FnC PySem.Challenge.rw_surelabels_k33_rows_that_rest.prog w K mg base (L2.CX PySem.Challenge.rw_surelabels_k33_rows_that_rest.prog w) 6 "_table_of" ["thing", "size"] (spTable K cB) := ⟨_, _, ok_table_of M F_items_of F_is_row F1_table_of, PySem.W.mg_of X G a_table_of, k_table_of, B_table_of⟩
    have F_swept_inside : FnC PySem.Challenge.rw_surelabels_k33_rows_that_rest.prog w K mg base CX0 3 "swept_inside" ["window", "cells"] (spInside K cU) := ⟨_, _, ok_swept_inside M F_cell_number F1_swept_inside, PySem.W.mg_of X G a_swept_inside, k_swept_inside, B_swept_inside⟩
    have F_swept : FnC PySem.Challenge.rw_surelabels_k33_rows_that_rest.prog w K mg base (L2.CX PySem.Challenge.rw_surelabels_k33_rows_that_rest.prog w) 8 "swept" ["window", "row"] (spSwept K cR cU) := ⟨_, _, ok_swept M F_check_row F_swept_inside F1_swept, PySem.W.mg_of X G a_swept, k_swept, B_swept⟩
    have OW := ok_Window_init (base := base) M F_is_within F_table_of F1_Window_init
    have F_same : FnC PySem.Challenge.rw_surelabels_k33_rows_that_rest.prog w K mg base CX0 10 "same" [] (spSame0 K cU) := ⟨_, _, ok_same M OW B_Window_init F1_same, PySem.W.mg_of X G a_same, k_same, B_same⟩
    have F_rests : FnC PySem.Challenge.rw_surelabels_k33_rows_that_rest.prog w K mg base (L2.CX PySem.Challenge.rw_surelabels_k33_rows_that_rest.prog w) 10 "rests" ["window", "row"] (spRestsX K cR cU) := ⟨_, _, ok_rests M F_swept F1_rests, PySem.W.mg_of X G a_rests, k_rests, B_rests⟩
    have F_many_rest : FnC PySem.Challenge.rw_surelabels_k33_rows_that_rest.prog w K mg base (L2.CX PySem.Challenge.rw_surelabels_k33_rows_that_rest.prog w) 6 "many_rest" ["window", "length"] (spMany K cU cN) := ⟨_, _, ok_many_rest M F_check_within F1_many_rest, PySem.W.mg_of X G a_many_rest, k_many_rest, B_many_rest⟩
    have F_swept_till : FnC PySem.Challenge.rw_surelabels_k33_rows_that_rest.prog w K mg base (L2.CX PySem.Challenge.rw_surelabels_k33_rows_that_rest.prog w) 10 "swept_till" ["window", "row", "most"] (spTillW K cR cN cU) := ⟨_, _, ok_swept_till M F_check_row F_check_within F_swept F1_swept_till, PySem.W.mg_of X G a_swept_till, k_swept_till, B_swept_till⟩
    have F_law_hand : FnC PySem.Challenge.rw_surelabels_k33_rows_that_rest.prog w K mg base CX0 1 "_law_hand" ["script"] (spPool K) := ⟨_, _, ok_law_hand M F1_law_hand, PySem.W.mg_of X G a_law_hand, k_law_hand, B_law_hand⟩
    have F_law_draw : FnC PySem.Challenge.rw_surelabels_k33_rows_that_rest.prog w K mg base CX0 1 "_law_draw" ["hand", "many"] spDraw := ⟨_, _, ok_law_draw M F1_law_draw, PySem.W.mg_of X G a_law_draw, k_law_draw, B_law_draw⟩
    have F_law_row : FnC PySem.Challenge.rw_surelabels_k33_rows_that_rest.prog w K mg base CX0 3 "_law_row" ["hand", "length"] spLRow := ⟨_, _, ok_law_row M F_law_draw F1_law_row, PySem.W.mg_of X G a_law_row, k_law_row, B_law_row⟩
    have F_law_rows : FnC PySem.Challenge.rw_surelabels_k33_rows_that_rest.prog w K mg base CX0 1 "_law_rows" ["length"] spRowsX := ⟨_, _, ok_law_rows M F1_law_rows, PySem.W.mg_of X G a_law_rows, k_law_rows, B_law_rows⟩
    have F_law_number : FnC PySem.Challenge.rw_surelabels_k33_rows_that_rest.prog w K mg base CX0 1 "_law_number" ["row"] (spNumber K) := ⟨_, _, ok_law_number F1_law_number, PySem.W.mg_of X G a_law_number, k_law_number, B_law_number⟩
    have F_law_table : FnC PySem.Challenge.rw_surelabels_k33_rows_that_rest.prog w K mg base CX0 3 "_law_table" ["hand", "radius"] spTab := ⟨_, _, ok_law_table M (rows_weak F_law_rows) F_law_draw F1_law_table, PySem.W.mg_of X G a_law_table, k_law_table, B_law_table⟩
    have F_law_radius : FnC PySem.Challenge.rw_surelabels_k33_rows_that_rest.prog w K mg base CX0 3 "_law_radius" ["hand"] spRad := ⟨_, _, ok_law_radius M F_law_draw F1_law_radius, PySem.W.mg_of X G a_law_radius, k_law_radius, B_law_radius⟩
    have F_law_filtered : FnC PySem.Challenge.rw_surelabels_k33_rows_that_rest.prog w K mg base CX0 3 "_law_filtered" ["radius", "table", "row"] (spFilt K) := ⟨_, _, ok_law_filtered M F_law_number F1_law_filtered, PySem.W.mg_of X G a_law_filtered, k_law_filtered, B_law_filtered⟩
    have F_law_swept : FnC PySem.Challenge.rw_surelabels_k33_rows_that_rest.prog w K mg base CX0 5 "_law_swept" ["radius", "table", "row"] (spLSwept K) := ⟨_, _, ok_law_swept M F_law_filtered F1_law_swept, PySem.W.mg_of X G a_law_swept, k_law_swept, B_law_swept⟩
    have F_law_same : FnC PySem.Challenge.rw_surelabels_k33_rows_that_rest.prog w K mg base CX0 6 "_law_same" ["told", "due"] (spSame K 2) := ⟨_, _, ok_law_same M F1_law_same (PySem.W.mg_of X G a_law_same) B_law_same 2, PySem.W.mg_of X G a_law_same, k_law_same, B_law_same⟩
    have F_law_count : FnC PySem.Challenge.rw_surelabels_k33_rows_that_rest.prog w K mg base CX0 3 "_law_count" ["radius", "table", "length"] (spLCount K) := ⟨_, _, ok_law_count M F_law_number F1_law_count, PySem.W.mg_of X G a_law_count, k_law_count, B_law_count⟩
    have F_law_till : FnC PySem.Challenge.rw_surelabels_k33_rows_that_rest.prog w K mg base CX0 7 "_law_till" ["radius", "table", "row", "most"] (spLTill K) := ⟨_, _, ok_law_till M F_law_swept F1_law_till, PySem.W.mg_of X G a_law_till, k_law_till, B_law_till⟩
    have F_law_asked : FnC PySem.Challenge.rw_surelabels_k33_rows_that_rest.prog w K mg base CX0 12 "_law_asked" ["which", "window", "row", "many"] (spAsked33 K cU) := ⟨_, _, ok_law_asked M F_rests F_many_rest F_swept_till F1_law_asked, PySem.W.mg_of X G a_law_asked, k_law_asked, B_law_asked⟩
    have F_law_is_same : FnC PySem.Challenge.rw_surelabels_k33_rows_that_rest.prog w K mg base CX0 3 "_law_is_same" ["table", "radius"] (spIsSame K) := ⟨_, _, ok_law_is_same M (rows_weak F_law_rows) F1_law_is_same, PySem.W.mg_of X G a_law_is_same, k_law_is_same, B_law_is_same⟩
    exact ok_law M F_law_hand F_law_draw F_law_row (rows_weak F_law_rows) F_law_table F_law_radius F_law_swept F_law_same F_law_count F_law_till F_law_asked F_law_is_same F_same F_rests F_many_rest F_swept_till OW B_Window_init F1_law
end K33
open PySem PySem.W PyProof.Rows
set_option maxHeartbeats 0 in
theorem PySem.Challenge.cw_surelabels_k33_rows_that_rest_holds : PySem.Challenge.rw_surelabels_k33_rows_that_rest.Holds := by
  w_on; o_law; k_head; (case hw => w_witness2)
  k_fill
  refine L2.walk_of (l := PySem.Challenge.rw_surelabels_k33_rows_that_rest) (n := 63) (k := 14) (x := "script") (CX := fun _ => L2.CX0) (sp := fun w => K33.spLaw _) rfl (by decide) rfl ⟨rfl, by decide, by decide⟩ (fun w h Y => PySem.W.kIn_of Y) ?F (fun _ _ a ns hl _ hS => ⟨a, ns, rfl, hS, hl, fun _ => rfl⟩) (fun _ _ _ _ _ h => h)
  case F =>
    intro w mg fa h KX G hmg
    refine' K33.all_mk KX G hmg ?h0 ?h1 ?h2 ?h3 ?h4 ?h5 ?h6 ?h7 ?h8 ?h9 ?h10 ?h11 ?h12 ?h13 ?h14 ?h15 ?h16 ?h17 ?h18 ?h19 ?h20 ?h21 ?h22 ?h23 ?h24 ?h25 ?h26 ?h27 ?h28 ?h29 ?h30 ?h31 ?h32 ?h33 ?h34 ?h35 ?h36 ?h37 ?h38 ?h39 ?h40 ?h41 ?h42 ?h43 ?h44 ?h45 ?h46 ?h47 ?h48 ?h49 ?h50 ?h51 ?h52 ?h53 ?h54 ?h55 ?h56 ?h57 ?h58 ?h59 ?h60 ?h61 ?h62 ?h63 ?h64 ?h65 ?h66 ?h67 ?h68 ?h69 ?h70 ?h71 ?h72 ?h73 ?h74 ?h75 ?h76 ?h77 ?h78 ?h79 ?h80 ?h81 ?h82 ?h83 ?h84 ?h85 ?h86 ?h87 ?h88 ?h89 ?h90 ?h91 ?h92 ?h93 ?h94 ?h95 ?h96 ?h97 ?h98 ?h99 ?h100 ?h101 ?h102 ?h103 ?h104 ?h105 ?h106 ?h107 ?h108 ?h109 ?h110 ?h111 ?h112 ?h113 ?h114 ?h115 ?h116 ?h117 ?h118 ?h119 ?h120 ?h121 ?h122 ?h123 ?h124 ?h125 ?h126 ?h127 ?h128 ?h129 ?h130 ?h131 ?h132 ?h133 ?h134 ?h135 ?h136 ?h137 ?h138 ?h139 ?h140 ?h141 ?h142 ?h143 ?h144 ?h145 ?h146 ?h147 ?h148 ?h149 ?h150 ?h151 ?h152 ?h153 ?h154 ?h155 ?h156 ?h157 ?h158 ?h159 ?h160 ?h161 ?h162 ?h163 ?h164 ?h165 ?h166 ?h167 ?h168 ?h169 ?h170 ?h171 ?h172 ?h173 ?h174 ?h175 ?h176 ?h177 ?h178 ?h179 ?h180 ?h181 ?h182 ?h183 ?h184 ?h185 ?h186 ?h187 ?h188 ?h189 ?h190 ?h191 ?h192 ?h193 ?h194 ?h195 ?h196 ?h197 ?h198 ?h199 ?h200 ?h201 ?h202 ?h203 ?h204 ?h205 ?h206 ?h207 ?h208 ?h209 ?h210 ?h211 ?h212 ?h213 ?h214 ?h215 ?h216 ?h217 ?h218 ?h219 ?h220 ?h221 ?h222 ?h223 ?h224 ?h225 ?h226 ?h227 ?h228 ?h229 ?h230 ?h231 ?h232 ?h233 ?h234 ?h235
    (case h0 => k_is)
    (case h1 => k_is)
    (case h2 => ks_is)
    (case h3 => k_is)
    (case h4 => k_is)
    (case h5 => k_is)
    (case h6 => k_is)
    (case h7 => k_is)
    (case h8 => k_is)
    (case h9 => k_is)
    (case h10 => k_is)
    (case h11 => k_is)
    (case h12 => k_is)
    (case h13 => rfl)
    (case h14 => decide +kernel)
    (case h15 => k_is)
    (case h16 => k_is)
    (case h17 => k_is)
    (case h18 => k_is)
    (case h19 => k_is)
    (case h20 => k_is)
    (case h21 => k_is)
    (case h22 => k_is)
    (case h23 => k_is)
    (case h24 => ks_is)
    (case h25 => k_is)
    (case h26 => k_is)
    (case h27 => k_is)
    (case h28 => k_is)
    (case h29 => k_is)
    (case h30 => k_is)
    (case h31 => k_is)
    (case h32 => k_is)
    (case h33 => k_is)
    (case h34 => k_is)
    (case h35 => rfl)
    (case h36 => decide +kernel)
    (case h37 => k_is)
    (case h38 => k_is)
    (case h39 => k_is)
    (case h40 => k_is)
    (case h41 => k_is)
    (case h42 => k_is)
    (case h43 => k_is)
    (case h44 => k_is)
    (case h45 => k_is)
    (case h46 => ks_is)
    (case h47 => k_is)
    (case h48 => k_is)
    (case h49 => k_is)
    (case h50 => k_is)
    (case h51 => k_is)
    (case h52 => k_is)
    (case h53 => k_is)
    (case h54 => k_is)
    (case h55 => k_is)
    (case h56 => k_is)
    (case h57 => rfl)
    (case h58 => decide +kernel)
    (case h59 => k_is)
    (case h60 => k_is)
    (case h61 => k_is)
    (case h62 => k_is)
    (case h63 => k_is)
    (case h64 => k_is)
    (case h65 => k_is)
    (case h66 => k_is)
    (case h67 => k_is)
    (case h68 => k_is)
    (case h69 => k_is)
    (case h70 => k_is)
    (case h71 => k_is)
    (case h72 => k_is)
    (case h73 => k_is)
    (case h74 => k_is)
    (case h75 => k_is)
    (case h76 => k_is)
    (case h77 => k_is)
    (case h78 => k_is)
    (case h79 => k_is)
    (case h80 => k_is)
    (case h81 => k_is)
    (case h82 => k_is)
    (case h83 => k_is)
    (case h84 => k_is)
    (case h85 => k_is)
    (case h86 => k_is)
    (case h87 => k_is)
    (case h88 => k_is)
    (case h89 => k_is)
    (case h90 => k_is)
    (case h91 => k_is)
    (case h92 => k_is)
    (case h93 => k_is)
    (case h94 => k_is)
    (case h95 => k_is)
    (case h96 => k_is)
    (case h97 => k_is)
    (case h98 => k_is)
    (case h99 => k_is)
    (case h100 => k_is)
    (case h101 => k_is)
    (case h102 => k_is)
    (case h103 => k_is)
    (case h104 => k_is)
    (case h105 => k_is)
    (case h106 => k_is)
    (case h107 => k_is)
    (case h108 => k_is)
    (case h109 => k_is)
    (case h110 => k_is)
    (case h111 => k_is)
    (case h112 => k_is)
    (case h113 => k_is)
    (case h114 => k_is)
    (case h115 => k_is)
    (case h116 => k_is)
    (case h117 => k_is)
    (case h118 => k_is)
    (case h119 => k_is)
    (case h120 => k_is)
    (case h121 => k_is)
    (case h122 => k_is)
    (case h123 => k_is)
    (case h124 => k_is)
    (case h125 => k_is)
    (case h126 => k_is)
    (case h127 => k_is)
    (case h128 => k_is)
    (case h129 => k_is)
    (case h130 => k_is)
    (case h131 => k_is)
    (case h132 => k_is)
    (case h133 => k_is)
    (case h134 => k_is)
    (case h135 => k_is)
    (case h136 => k_is)
    (case h137 => k_is)
    (case h138 => k_is)
    (case h139 => k_is)
    (case h140 => k_is)
    (case h141 => k_is)
    (case h142 => k_is)
    (case h143 => k_is)
    (case h144 => k_is)
    (case h145 => k_is)
    (case h146 => k_is)
    (case h147 => k_is)
    (case h148 => k_is)
    (case h149 => k_is)
    (case h150 => k_is)
    (case h151 => k_is)
    (case h152 => k_is)
    (case h153 => k_is)
    (case h154 => k_is)
    (case h155 => k_is)
    (case h156 => k_is)
    (case h157 => k_is)
    (case h158 => k_is)
    (case h159 => k_is)
    (case h160 => k_is)
    (case h161 => k_is)
    (case h162 => k_is)
    (case h163 => k_is)
    (case h164 => k_is)
    (case h165 => k_is)
    (case h166 => k_is)
    (case h167 => k_is)
    (case h168 => k_is)
    (case h169 => k_is)
    (case h170 => k_is)
    (case h171 => k_is)
    (case h172 => k_is)
    (case h173 => k_is)
    (case h174 => k_is)
    (case h175 => k_is)
    (case h176 => k_is)
    (case h177 => k_is)
    (case h178 => k_is)
    (case h179 => k_is)
    (case h180 => k_is)
    (case h181 => k_is)
    (case h182 => k_is)
    (case h183 => k_is)
    (case h184 => k_is)
    (case h185 => k_is)
    (case h186 => k_is)
    (case h187 => k_is)
    (case h188 => k_is)
    (case h189 => k_is)
    (case h190 => k_is)
    (case h191 => k_is)
    (case h192 => k_is)
    (case h193 => k_is)
    (case h194 => k_is)
    (case h195 => k_is)
    (case h196 => k_is)
    (case h197 => k_is)
    (case h198 => k_is)
    (case h199 => k_is)
    (case h200 => k_is)
    (case h201 => k_is)
    (case h202 => k_is)
    (case h203 => k_is)
    (case h204 => k_is)
    (case h205 => k_is)
    (case h206 => k_is)
    (case h207 => k_is)
    (case h208 => k_is)
    (case h209 => k_is)
    (case h210 => k_is)
    (case h211 => k_is)
    (case h212 => k_is)
    (case h213 => k_is)
    (case h214 => k_is)
    (case h215 => k_is)
    (case h216 => k_is)
    (case h217 => k_is)
    (case h218 => k_is)
    (case h219 => k_is)
    (case h220 => k_is)
    (case h221 => k_is)
    (case h222 => k_is)
    (case h223 => k_is)
    (case h224 => k_is)
    (case h225 => k_is)
    (case h226 => k_is)
    (case h227 => k_is)
    (case h228 => k_is)
    (case h229 => k_is)
    (case h230 => k_is)
    (case h231 => k_is)
    (case h232 => k_is)
    (case h233 => kit_is)
    (case h234 => k_is)
    (case h235 => k_is)
