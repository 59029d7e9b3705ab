import PyProof.Rows.All
import Wide.All
import OpenK.AllK
import Wide.FinOn
import PyProof.EqAt
import PyProof.EqKinds
import PyProof.TupleCall
import PyProof.FString
import PyProof.FString4
import KE.KExcSuper
import HandS.Base
import HandS.Call
import HandS.Exc
import HandS.ExcInit
import HandS.ForMost
import HandS.ExcOwn
import HandS.WordsExc
import HandS.IsInst
import HandS.TupAny
import HandS.List
import HandS.Comp
import HandS.Iter
import HandS.Style
import HandS.Zip
import HandS.Walk
import HandS.Evl
import HandS.RevRange
import HandS.WideBits
import PyProof.EnumStmt
import PyProof.EnumMake
import PyProof.Draws
import KE.GoesMore
import HandS.Zip0
import HandS.DictComp
import PyProof.ListStr
import PyProof.ListIndex
import HandS.Text
import HandS.More
import PyProof.Rows.SortStr
import PyProof.Rows.SortKeyStr
import HandS.SortInts
import HandS.SortKw
import PySem.Challenge.RW_surelabels_k09_wrong_rules
import HandS.Steps
set_option Elab.async false
set_option linter.all false
set_option maxRecDepth 100000
set_option maxHeartbeats 4000000
/-! An own error class whose __init__ says super().__init__(message) and keeps one field: made, raised, caught, its field read. -/
namespace PySem
namespace SLX
open PySem.W PySem.Calls PyProof.Rows PySem.HandSPX
/-- the message, evaluated where the one parameter stands: nothing but tokens changes -/
def MsgOk (prog : Program) (w : World) (sc : Scope) (par : Str) (msg : Expr) (okv : Value → Prop) : Prop :=
  ∀ (A : Around) (E : Value → Shared → Prop) (s : Shared) (env : Env) (m : Str → Option Value) (v : Value) (Q : Value → Shared → Prop), env.scope = sc → s.heap.Ns env.locals m → m par = some v → okv v → (∀ u t, Q u { s with toks := t }) →
    wpAny (model prog w) A (eval msg env) Q E s
theorem msg_const {prog : Program} {w : World} {sc : Scope} {par x : Str} {j : Nat} {p : Pos} {okv : Value → Prop} : MsgOk prog w sc par (.Constant (.str x) j p) okv :=
  fun A E s env m v Q _ _ _ _ h => Calls.Constant_str (h _ _)
/-- f'..{part!r}' -/
theorem msg_repr {prog : Program} {w : World} {sc : Scope} {par x : Str} {j : Nat} {p1 p2 p3 p4 : Pos} (hk : sc.kind = .function) (hl : sc.names.lookup par = some .local) (hd : (par == ("__debug__" : Str)) = false) (hx : x.length ≤ 1000) :
    MsgOk prog w sc par (.JoinedStr [.Constant (.str x) j p1, .FormattedValue (.Name par p2) 114 none p3] p4) (fun v => ∃ (y : Str) (t : Tok), v = .str y t ∧ (reprText y).length ≤ 1000) := by
  intro A E s env m v Q hs hn hv ho h
  obtain ⟨y, t, rfl, hy⟩ := ho
  subst hs
  have z1 : (1000 : Nat) ≤ sizeLine := by rw [sizeLine_eq]; decide
  have z2 : (2000 : Nat) ≤ sizeLine := by rw [sizeLine_eq]; decide
  have hyl : (reprText y).length ≤ sizeLine := Nat.le_trans hy z1
  have app : ∀ a b : Str, (a ++ b).length = a.length + b.length := fun a b => by
    show (a.cps ++ b.cps).size = a.cps.size + b.cps.size
    exact Array.size_append
  have e0 : (Str.empty : Str).length = 0 := rfl
  refine wpAny_JoinedStr ?_
  show wpAny _ _ (eval (.Constant (.str x) j p1) env) _ _ _
  refine Calls.Constant_str ?_
  refine ⟨x, s.toks, rfl, by rw [app, e0]; omega, ?_⟩
  show wpAny _ _ (eval (.FormattedValue (.Name par p2) 114 none p3) env) _ _ _
  refine wpAny_FormattedValue_repr ?_
  refine wpAny_Name (wpAny_loadName_local hk hl hn hv ?_) hd
  refine pyReprObj_str ?_ hyl
  refine wpAny_formatField_str ?_ ?_ hyl
  · refine ⟨reprText y, _, rfl, by rw [app, app, e0]; omega, ?_⟩
    exact ⟨by rw [app, app, e0]; omega, h _ _⟩
  · refine ⟨reprText y, _, rfl, by rw [app, app, e0]; omega, ?_⟩
    exact ⟨by rw [app, app, e0]; omega, h _ _⟩

/-! ### the text of __init__ -/
def iP (par : Str) (p1 p2 : Pos) : Arguments := { posonlyargs := [], args := [{ arg := "self", annotation := none, pos := p1 }, { arg := par, annotation := none, pos := p2 }], vararg := none, kwonlyargs := [], kw_defaults := [], kwarg := none, defaults := [] }
def iB (fld par : Str) (msg : Expr) (q1 q2 q3 q4 q5 q6 q7 q8 q9 : Pos) : List Stmt :=
  [.Expr (.Call (.Attribute (.Call (.Name "super" q1) [] [] q2) "__init__" q3) [msg] [] q4) q5, .Assign [.Attribute (.Name "self" q6) fld q7] (.Name par q8) q9]
def iS (par : Str) : Scope := { kind := .function, names := [(PySem.Str.ofString "self", .local), (par, .local), (PySem.Str.ofString "__class__", .free), (PySem.Str.ofString "super", .globalImplicit)], isGenerator := false, isCoroutine := false, more := [] }
/-- super().__init__(msg), as the evaluator takes it -/
def CallForm (msg : Expr) (q1 q2 q3 q4 : Pos) : Prop := ∀ env : Env, ∃ pl : Sem Bool, eval (.Call (.Attribute (.Call (.Name "super" q1) [] [] q2) "__init__" q3) [msg] [] q4) env = (do
  let ov ← attributeBase (.Call (.Name "super" q1) [] [] q2) "__init__" env (eval (.Call (.Name "super" q1) [] [] q2) env)
  standAt q3.atName
  let (f, first) ← holding [ov] (getMethod ov "__init__" pl)
  callWith q4 f first (backTo q4 (starEach [msg] env)) [])
/-- what the written part says of the class cn, at C, and of its __init__, at fI; vok: the values that its message can show -/
structure ExTxt (K : Frag) (mg : Str → Option Value) (prog : Program) (w : World) (cn fld par : Str) (vok : Value → Prop) (C fI : Addr) : Prop where
  gC : mg cn = some (.ref C)
  cls : ∃ nm q N bs bm sn sub ab col dd k0 k1 k2 k3 k5, K.lookup C = some (excClassObj nm q C N bs bm true sn sub ab col dd k0 k1 k2 k3 k5 "ValueError.__new__") ∧ refsVE bm = true ∧ alongIn K "__init__" bm = some (some (.builtin "ValueError.__init__"))
  sa : findIn K (.ref C) "__setattr__" = some (some (.builtin "object.__setattr__"))
  ga : findIn K (.ref C) "__getattribute__" = some (some (.builtin "BaseException.__getattribute__"))
  gg : findIn K (.ref C) "__getattr__" = some none
  noN : findIn K (.ref C) fld = some none
  iC : findIn K (.ref C) "__init__" = some (some (.ref fI))
  tC : typeIn K (.ref fI) = some (.type "function")
  kC : keepIn K (.ref C) = true
  exC : subIn K (.ref C) (.type "BaseException") = some true
  veC : subIn K (.ref C) (.type "ValueError") = some true
  tyC : typeIn K (.ref C) = some (.type "type")
  hdC : hasDictIn K C = true
  selfC : mroIn K C (.ref C) = some true
  opq : nsIn K cStatics "thirdparty.any" = some none
  sup : mg "super" = none
  fn : ∃ (oc : Value) (od : Option Addr) (qual : Str) (kV doc pm : Value) (an : Option Addr) (ct : Value) (osl : Array (Option Value)) (cc cda : Addr) (msg : Expr) (p1 p2 q1 q2 q3 q4 q5 q6 q7 q8 q9 : Pos) (cl ccl : Value) (cld cdd : Option Addr) (csl ccs : Array (Option Value)) (vs : Array Value) (file : Str) (tf : Tok),
    K.lookup fI = some ⟨oc, od, .func (ksFn "__init__" qual (iP par p1 p2) (iB fld par msg q1 q2 q3 q4 q5 q6 q7 q8 q9) (iS par) .none kV doc pm an (.ref cda) ct cc), osl⟩ ∧ codeIn K (.ref cda) qual = true ∧
    K.lookup cc = some ⟨cl, cld, .cell (some (.ref C)), csl⟩ ∧ K.lookup cda = some ⟨ccl, cdd, .fields vs, ccs⟩ ∧ vs[2]? = some (.str file tf) ∧ ((prog.main.file : Str) == file) = true ∧ MsgOk prog w (iS par) par msg vok ∧
    (∀ env, starEach [msg] env = (false, eval msg env) :: starEach [] env) ∧ CallForm msg q1 q2 q3 q4 ∧ ∀ a b : Value, bindArgs (ksFn "__init__" qual (iP par p1 p2) (iB fld par msg q1 q2 q3 q4 q5 q6 q7 q8 q9) (iS par) .none kV doc pm an (.ref cda) ct cc) ⟨[a, b], []⟩ = pure [(PySem.Str.ofString "self", a), (par, b)]
  okN : par ≠ ("self" : Str) ∧ par ≠ ("__class__" : Str) ∧ par ≠ ("super" : Str) ∧ (par == ("__debug__" : Str)) = false
  top : (prog.main.scope.names.lookup ("super" : Str)).isSome = false
theorem one_size (v : Value) : [v].length ≤ sizeLine := by
  rw [sizeLine_eq]
  exact (by decide : 1 ≤ 16777216)
/-- what __init__ leaves of a fresh exception at x -/
structure InitEnd (h h' : Heap) (x C dx t1 : Addr) (fld : Str) (v : Value) : Prop where
  keep : ∀ b o, b ≠ x → h.get? b = some o → h'.get? b = some o
  obj : h'.get? x = some { cls := .ref C, dict := some dx, data := .fields #[.ref t1, .none, .none, .none, .bool false, .none] }
  dbig : h.objs.size ≤ dx
  dne : dx ≠ x
  ns : h'.Ns1 dx (fun y => if y = fld then some v else none)
theorem kept_but {K : Frag} {h h' : Heap} {x : Addr} (X : K.In h) (hx : K.lookup x = none) (k : ∀ b o, b ≠ x → h.get? b = some o → h'.get? b = some o) : K.In h' := fun a o e =>
  k a o (fun z => by rw [z, hx] at e; cases e) (X a o e)
section
variable {prog : Program} {w : World} {A : Around} {E : Value → Shared → Prop} {R : Result → Shared → Prop} {s : Shared} {K : Frag} {mg mb : Str → Option Value} {cn fld par : Str} {vok : Value → Prop} {C fI : Addr}
/-- the wrapper called: the exception's args are laid anew -/
theorem call_mw {h : Heap} {g : Array GenState} {d : Drawn} {t : Nat} {os : OsState} {nm q : Str} {N : Addr} {bs bm : List Value} {sn : List Str} {sub : List Value} {ab : Bool} {col : Option Bool} {dd : Option Addr} {k0 k1 k2 k3 k5 : Option Value}
    {u x t0 : Addr} {rest : List Value} {Q : Value → Shared → Prop} (hC : h.get? C = some (excClassObj nm q C N bs bm true sn sub ab col dd k0 k1 k2 k3 k5 "ValueError.__new__")) (hbm : refsVE bm = true) (he : h.get? x = some (excO C t0))
    (hu : h.get? u = some (kxs_mw "ValueError.__init__" x)) (hz : rest.length ≤ sizeLine)
    (hq : ∀ h' t1, (∀ b o, b ≠ x → h.get? b = some o → h'.get? b = some o) → h'.get? x = some (excO C t1) → Q .none ⟨h', g, d, t, os⟩) :
    wpAny (model prog w) A (call (.ref u) rest) Q E ⟨h, g, d, t, os⟩ := by
  refine wpAny_call (codeAny_of_tree ?_)
  show wpAny _ A.in1 (callAny (.ref u) ⟨rest, []⟩) _ _ _
  simp only [callAny]
  refine wpAny_bind (wpAny_load hu ?_)
  simp only [kxs_mw, show (Value.type "method-wrapper" == Value.type "method" || Value.type "method-wrapper" == Value.type "builtin_function_or_method" || Value.type "method-wrapper" == Value.type "method-wrapper") = true by decide, if_true]
  refine KFB.if_so (by decide) ?_
  refine wpAny_bind (check_bound_init F.excBase_ValueError.toExcCallFacts hC he rfl ?_)
  refine wpAny_bind (wpAny_pure (wpAny_pure ?_))
  refine ⟨plainId_quiet F.excBase_ValueError.init.plain _, codeAny_builtin F.excBase_ValueError.initEntry ?_⟩
  exact exc_init_tree (cls := .ref C) (t0 := t0) (dv := none) (c2 := .none) (c3 := .none) (b4 := .bool false) he hz fun h' k e' _ => hq h' _ k e'

theorem own_init (T : ExTxt K mg prog w cn fld par vok C fI) {x t0 : Addr} {v : Value} (hvok : vok v) (X : K.In s.heap) (hlim : s.heap.NoLimit) (hg : s.heap.Ns mainGlobals mg) (hb : s.heap.Ns builtinsNs mb) (hbb : ∀ y : Str, y ≠ "__name__" → mb y = bootBuiltins y)
    (hx : s.heap.get? x = some (excO C t0)) (hnx : K.lookup x = none) (hroom : A.depth < recursionLimit)
    (hq : ∀ h' tk dx t1, InitEnd s.heap h' x C dx t1 fld v → R (.ok (.ret .none)) { s with heap := h', toks := tk }) :
    codeAny (model prog w) A (.call (.ref fI) ⟨[.ref x, v], []⟩) R s := by
  obtain ⟨oc, od, qual, kV, doc, pm, an, ct, osl, cc, cda, msg, p1, p2, q1, q2, q3, q4, q5, q6, q7, q8, q9, cl, ccl, cld, cdd, csl, ccs, vs, file, tf, ho, hcd, hcc, hcda, hvs, hfile, hmsg, hstar, hform, hbd⟩ := T.fn
  obtain ⟨nm, q, N, bs, bm, sn, sub, ab, col, dd, k0, k1, k2, k3, k5, hC, hbm, hal⟩ := T.cls
  obtain ⟨n1, n2, n3, n4⟩ := T.okN
  have hcl : clsIn K C = some { name := nm, bases := bs, mro := .ref C :: bm, ns := N, qualname := q, hasDict := true, slotNames := sn, subclasses := sub, abstract := ab, collection := col, hasDel := false } := by unfold clsIn; rw [hC] <;> rfl
  have hxs : s.heap.objs.size ≠ x := Nat.ne_of_gt (Heap.lt_size hx)
  have par1 : List.lookup par (iS par).names = some .local := by
    show List.lookup par [(PySem.Str.ofString "self", _), (par, _), _, _] = _
    have e : (par == ("self" : Str)) = false := by simpa using n1
    simp [List.lookup, e]
  have cls1 : List.lookup ("__class__" : Str) (iS par).names = some .free := by
    show List.lookup ("__class__" : Str) [(PySem.Str.ofString "self", _), (par, _), (PySem.Str.ofString "__class__", _), _] = _
    have e1 : (("__class__" : Str) == ("self" : Str)) = false := by decide
    have e2 : (("__class__" : Str) == par) = false := by simpa using Ne.symm n2
    simp [List.lookup, e1, e2]
  have sup1 : List.lookup ("super" : Str) (iS par).names = some .globalImplicit := by
    show List.lookup ("super" : Str) [(PySem.Str.ofString "self", _), (par, _), (PySem.Str.ofString "__class__", _), (PySem.Str.ofString "super", _)] = _
    have e1 : (("super" : Str) == ("self" : Str)) = false := by decide
    have e2 : (("super" : Str) == par) = false := by simpa using Ne.symm n3
    have e3 : (("super" : Str) == ("__class__" : Str)) = false := by decide
    simp [List.lookup, e1, e2, e3]
  have hbind : BindsTo s (ksFn "__init__" qual (iP par p1 p2) (iB fld par msg q1 q2 q3 q4 q5 q6 q7 q8 q9) (iS par) .none kV doc pm an (.ref cda) ct cc) ⟨[.ref x, v], []⟩ [("self", .ref x), (par, v)] := BindsTo.of_eq (hbd _ _)
  refine ks_codeAny_call_defAt (binds := [("self", .ref x), (par, v)]) hroom (X _ _ ho) rfl hlim (codeRec_of X hcd) rfl hbind (fun y hy => ?_) (fun y hy => ?_) (fun h₀ hns hk => ?_) rfl rfl rfl
  · have hy' : y ∈ [(PySem.Str.ofString "self", NameKind.local), (par, .local), (PySem.Str.ofString "__class__", .free), (PySem.Str.ofString "super", .globalImplicit)] := hy
    simp only [List.mem_cons, List.not_mem_nil, or_false] at hy'
    rcases hy' with rfl | rfl | rfl | rfl <;> exact fun z => nomatch z
  · simp only [List.mem_cons, List.not_mem_nil, or_false] at hy
    rcases hy with rfl | rfl
    · rfl
    · exact par1
  have hlook : List.lookup par [(par, v), (("self" : Str), Value.ref x)] = some v := by simp [List.lookup]
  have hlookS : List.lookup ("self" : Str) [(par, v), (("self" : Str), Value.ref x)] = some (.ref x) := by
    have e : ((("self" : Str) : Str) == par) = false := by simpa using Ne.symm n1
    simp [List.lookup, e]
  have X0 : K.In h₀ := X.keeps hk
  have hx0 := hk _ _ hx
  show wpAt (model prog w) _ _ (execs (iB fld par msg q1 q2 q3 q4 q5 q6 q7 q8 q9) _) _ _ _
  refine ks_wpAt_execs_cons ?_
  refine ks_wpAt_Expr_any ?_
  obtain ⟨pl, hpl⟩ := hform (callEnv (ksFn "__init__" qual (iP par p1 p2) (iB fld par msg q1 q2 q3 q4 q5 q6 q7 q8 q9) (iS par) .none kV doc pm an (.ref cda) ct cc) s.heap.objs.size fI)
  refine ks_wpAt_MethodCall (pl := pl) ?_ hpl
  refine ks_wpAt_super_base (f := fI) (cc := cda) sup1 cls1 (by decide) rfl (X0 _ _ ho) rfl rfl rfl (X0 _ _ hcda) rfl hvs hfile T.top ?_
  refine ks_loadName_global rfl sup1 (loadGlobal_builtin (mg := mg) (mb := mb) (hg.keeps hk) T.sup (hb.keeps hk) ((hbb "super" (by decide)).trans PyProof.Rows.Boot.«super») ⟨rfl, ?_⟩)
  refine wpAny_loadName_free rfl cls1 (c := cc) rfl ⟨_, X0 _ _ hcc, rfl⟩ ?_
  refine wpAny_loadName_local rfl rfl hns hlookS ?_
  refine ks_wpAny_isType_cls (X0 _ _ hC) rfl ⟨rfl, ?_⟩
  refine ks_wpAny_call_super (X0 _ _ hC) rfl hx0 rfl (fun c z => nomatch z) (looks_mroIn X0 T.selfC) (fun h1 e1 k1 => ?_)
  have X1 : K.In h1 := X0.keeps k1
  have hx1 := k1 _ _ hx0
  have hxC : x ≠ C := fun z => by
    rw [z] at hnx
    have hC' : List.lookup C K = none := hnx
    rw [hC] at hC'
    cases hC'
  have I1 : InstAt h1 x (excO C t0) C none := ⟨hx1, rfl, rfl, trivial⟩
  have hI : Looks (model prog w) h1 (isInstance (.ref x) (.type "ValueError")) true := I1.type.andThen (looks_subIn X1 T.veC)
  refine kxs_getMethod kxs_ValueError (l₀ := .ref C :: bm) (l := bm) e1 (looks_opaque X1 T.opq) ((looks_clsIn X1 hcl).andThen .now) (by simp [List.dropWhile_cons]) X1 hal hI hxC (by decide) ?_
  show wpAny (model prog w) _ (callWith q4 (.ref h1.objs.size) [] (backTo q4 (starEach [msg] _)) []) _ _ _
  have kp : ∀ b o, h1.get? b = some o → (h1.push (kxs_mw "ValueError.__init__" x)).get? b = some o := fun b o e => Heap.get?_push_of_some _ e
  have hup : (h1.push (kxs_mw "ValueError.__init__" x)).get? h1.objs.size = some (kxs_mw "ValueError.__init__" x) := Heap.get?_push_at rfl rfl
  refine kxs_callWith (i := "ValueError.__init__") (x := x) (by rw [hstar]; rfl) ?_
  rw [hstar]
  refine evalArgs_plain ?_
  refine Calls.spliced_cons (hmsg _ _ _ _ _ v _ rfl ((hns.keeps k1).keeps kp) hlook hvok fun u tk => ?_)
  refine Calls.spliced_nil ⟨hup, ?_⟩
  refine call_mw (kp _ _ (X1 _ _ hC)) hbm (kp _ _ hx1) hup (one_size _) fun h2 t1 k2 e2 => ?_
  have X2 : K.In h2 := kept_but (X1.keeps kp) hnx k2
  have hL : s.heap.objs.size ≠ x := hxs
  have hn2 : h2.Ns s.heap.objs.size (fun y => List.lookup y ([("self", Value.ref x), (par, v)] : List (Str × Value)).reverse) := by
    obtain ⟨oL, es, ep, hLo, r⟩ := (hns.keeps k1).keeps kp
    exact ⟨oL, es, ep, k2 _ _ hL hLo, r⟩
  show wpAt (model prog w) _ _ (execs _ _) _ _ _
  refine wpAt_of_wpAny (wpAny_execs_cons (plainObj_wpAny_Assign_Attribute ?_))
  refine wpAny_Name (wpAny_loadName_local rfl par1 hn2 hlook ?_) n4
  refine wpAny_Name (wpAny_loadName_local rfl rfl hn2 hlookS ?_) (by decide)
  refine set_plain X2 (ox := excO C t1) (od := none) ⟨e2, rfl, rfl, trivial⟩ T.sa ?_
  refine exc_osa X2 e2 hcl (show refsVE (.ref C :: bm) = true from hbm) rfl T.noN (fun h3 tk3 dx k3 dn dne hx3 hn3 => ?_)
  have old : ∀ b o, b ≠ x → s.heap.get? b = some o → h2.get? b = some o := fun b o hbx e => k2 b o hbx (kp _ _ (k1 _ _ (hk _ _ e)))
  have z : s.heap.objs.size ≤ h2.objs.size := Nat.le_of_lt hn2.lt
  exact wpAny_execs_nil (hq h3 tk3 dx t1 ⟨fun b o hbx e => k3 b o hbx (old b o hbx e), hx3, Nat.le_trans z dn, dne, hn3⟩)

/-- a made error -/
structure OwnMade (h h' : Heap) (e C d : Addr) (fld : Str) (v : Value) : Prop where
  keep : ∀ b o, h.get? b = some o → h'.get? b = some o
  new : h.objs.size ≤ e
  obj : ∃ oe vs, h'.get? e = some oe ∧ oe.cls = .ref C ∧ oe.dict = some d ∧ oe.data = .fields vs ∧ vs[1]? = some .none
  dbig : h.objs.size ≤ d
  dne : d ≠ e
  ns : h'.Ns1 d (fun y => if y = fld then some v else none)
theorem own_made (T : ExTxt K mg prog w cn fld par vok C fI) {v : Value} (hvok : vok v) (X : K.In s.heap) (hlim : s.heap.NoLimit) (hg : s.heap.Ns mainGlobals mg) (hb : s.heap.Ns builtinsNs mb) (hbb : ∀ y : Str, y ≠ "__name__" → mb y = bootBuiltins y)
    (hroom : A.depth + 1 < recursionLimit) (hq : ∀ h' tk e d, OwnMade s.heap h' e C d fld v → R (.ok (.ret (.ref e))) { s with heap := h', toks := tk }) :
    codeAny (model prog w) A (.call (.ref C) ⟨[v], []⟩) R s := by
  obtain ⟨nm, q, N, bs, bm, sn, sub, ab, col, dd, k0, k1, k2, k3, k5, hC, hbm, _⟩ := T.cls
  obtain ⟨hp, g, dr, tk, os⟩ := s
  have k : ∀ b o, hp.get? b = some o → ((hp.push (kdv_tup [v])).push (excO C hp.objs.size)).get? b = some o := fun b o e => Heap.get?_push_of_some _ (Heap.get?_push_of_some _ e)
  have hget : ((hp.push (kdv_tup [v])).push (excO C hp.objs.size)).get? (hp.objs.size + 1) = some (excO C hp.objs.size) := by heap_get
  have hnx : K.lookup (hp.objs.size + 1) = none := by
    cases e : K.lookup (hp.objs.size + 1) with
    | none => rfl
    | some o =>
      have z : hp.get? (hp.objs.size + 1) = some o := X _ _ e
      exact absurd (Nat.lt_of_succ_lt (Heap.lt_size z)) (Nat.lt_irrefl _)
  refine call_own F.excBase_ValueError (fun Y => refsVE_contains Y bm hbm) (X _ _ hC) (looks_findIn X T.iC) (fun self => bind_fn X self T.tC) (one_size v) ?_
  refine own_init (s := ⟨(hp.push (kdv_tup [v])).push (excO C hp.objs.size), g, dr, tk, os⟩) T hvok (X.keeps k) (hlim.keeps k) (hg.keeps k) (hb.keeps k) hbb hget hnx ?_ fun h' tk' dx t1 ⟨k', hx, dn, dne, hns⟩ => ?_
  · show A.depth + 1 < recursionLimit
    exact hroom
  · have old : ∀ b o, hp.get? b = some o → h'.get? b = some o := fun b o e => k' b o (Nat.ne_of_lt (Nat.lt_succ_of_lt (Heap.lt_size e))) (k b o e)
    have z : hp.objs.size + 1 + 1 ≤ dx := by
      first
        | (simpa only [Heap.size_push] using dn)
        | exact dn
        | (have q := dn; rw [Heap.size_push, Heap.size_push] at q; exact q)
    exact ⟨rfl, hq h' tk' (hp.objs.size + 1) dx ⟨old, Nat.le_succ _, ⟨_, _, hx, rfl, rfl, rfl, rfl⟩, Nat.le_trans (Nat.le_trans (Nat.le_succ _) (Nat.le_succ _)) z, dne, hns⟩⟩
end
end SLX
end PySem
namespace L2
open PySem PySem.Spec PyProof.Rows
theorem relO_one {v : V} {v' : Value} {fld : Str} (r : RelV v v') (f : Str) : RelO (List.lookup f [(fld, v)]) (if f = fld then some v' else none) := by
  by_cases hw : f = fld
  · subst hw
    rw [if_pos rfl]
    have q : List.lookup f [(f, v)] = some v := by simp [List.lookup]
    rw [q]
    exact r
  · rw [if_neg hw]
    have qw : (f == fld) = false := by simpa using hw
    have q2 : List.lookup f [(fld, v)] = none := by simp [List.lookup, qw]
    rw [q2]
    trivial
section
variable {X : Cx} {C fI : Addr} {cn fld par : Str} {vok : Value → Prop}
/-- C(e), the error's own dict d new -/
def tMkEx (C : Addr) (fld : Str) (vok : Value → Prop) (ta : TA) : St → Hp → XK → Prop := fun σ H Q => ta σ H fun vs H1 => ∃ v, vs = [v] ∧ (∀ u, RelV v u → vok u) ∧ ∀ d, H1 d = none → Q (.ref C) (some d) (upd H1 d (.xd [(fld, v)]))
theorem pmk_ex {a : Expr} {ta : TA} {p pos : Pos} {k : Nat} (T : PySem.SLX.ExTxt X.K X.mg X.prog X.w cn fld par vok C fI) (hr : Room k X.A) (ha : PA X [a] ta) (hg : Gl X cn := by rfl) (hdb : (cn == ("__debug__" : Str)) = false := by decide)
    (he : starEach (a :: []) X.env = (false, eval a X.env) :: starEach [] X.env := by rfl) (hpl : (backTo pos (starEach [] X.env)).any (·.1) = false := by rfl) :
    PMk X (.Call (.Name cn p) [a] [] pos) (tMkEx C fld vok ta) := by
  intro pins s σ H Q I h
  refine wpAny_Call_Name_kw (ld_glob I hg T.gC ?_ hdb)
  refine PySem.W.callWith_K (h₀ := X.base) I.ok.mod.kin T.kC (thn (ha.run pos pins s σ H _ I h) fun us s1 hh => ?_) he hpl
  obtain ⟨vs, H1, I1, r1, v, ev, hv, q1⟩ := hh
  subst ev
  refine ⟨I1.kIn, ?_⟩
  cases r1 with
  | cons rv rn =>
    rename_i v' us'
    cases rn
    show wpAny _ _ (call (.ref C) [v']) _ _ _
    have hlim := I1.nolimit
    have hmg := I1.ok.mod.glob.keeps I1.bk
    obtain ⟨mb, hmb, hbb⟩ := I1.ok.mod.blt
    have hmb' := hmb.keeps I1.bk
    obtain ⟨hp, g, dr, tk, os⟩ := s1
    refine wpAny_call (PySem.SLX.own_made T (hv _ rv) I1.kIn hlim hmg hmb' hbb (by have := hr.dp; omega) fun h' tk' e d M => ?_)
    show MkP X pins σ Q (.ref e) ⟨h', g, dr, tk', os⟩
    obtain ⟨oe, fv, hoe, hc, hd, hdat, h1⟩ := M.obj
    have hns := M.ns
    obtain ⟨G', g1, g2⟩ := restrict h' fun b => decide (b ≠ e)
    have gk : ∀ b, b ≠ e → G'.get? b = h'.get? b := fun b hb => g1 b (decide_eq_true hb)
    have ge : G'.get? e = none := g2 e (by simp)
    have old : ∀ b o, hp.get? b = some o → G'.get? b = some o := fun b o q => (gk b (Nat.ne_of_lt (Nat.lt_of_lt_of_le (Heap.lt_size q) M.new))).trans (M.keep b o q)
    have ob : ObjOk X.prog X.w (upd H1 d (.xd [(fld, v)])) G' d (.xd [(fld, v)]) :=
      ⟨_, hns.at (fun o q => (gk d M.dne).trans q), fun f => relO_one rv f⟩
    have J : Inv X pins σ (upd H1 d (.xd [(fld, v)])) ⟨G', g, dr, tk', os⟩ := I1.laid (t' := tk') old M.dbig ob
    refine ⟨e, oe, fv, ⟨G', g, dr, tk', os⟩, _, .ref C, some d, rfl, J, fun b o q => ?_, ge, hoe, ⟨hc, hd⟩, hdat, h1, ?_, rfl, I1.bare, raises_own T.exC T.tyC, q1 d (I1.hok.fresh M.dbig)⟩
    · by_cases hb : b = e
      · have q' : G'.get? b = some o := q
        rw [hb, ge] at q'; cases q'
      · exact (gk b hb).symm.trans q
    · rw [upd_ne (Ne.symm M.dne)]
      exact I1.hok.fresh M.new
/-- raise C(e) -/
theorem ps_raiseEx {a : Expr} {ta : TA} {W : WX} {p pos pos2 : Pos} {k : Nat} (hc : X.calm = true) (T : PySem.SLX.ExTxt X.K X.mg X.prog X.w cn fld par vok C fI) (hr : Room k X.A) (tk : Takes X W) (ha : PA X [a] ta) (hg : Gl X cn := by rfl) (hdb : (cn == ("__debug__" : Str)) = false := by decide)
    (he : starEach (a :: []) X.env = (false, eval a X.env) :: starEach [] X.env := by rfl) (hpl : (backTo pos (starEach [] X.env)).any (·.1) = false := by rfl) :
    PS X (.Raise (some (.Call (.Name cn p) [a] [] pos)) none pos2) (fun _ σ H => tMkEx C fld vok ta σ H fun cls d H' => W cls d σ H') := ps_raise hc tk (pmk_ex T hr ha hg hdb he hpl)
/-- e.fld, e the error that the suite holds (at a; its class cls, its dict d) -/
def tExF (C : Addr) (fld : Str) (a : Addr) (cls : Value) (d : Option Addr) (te : TE) : TE := fun σ H Q => te σ H fun x H1 => x = .ref a ∧ cls = .ref C ∧ ∃ (dd : Addr) (v : V), d = some dd ∧ H1 dd = some (.xd [(fld, v)]) ∧ Q v H1
theorem pe_exf {a : Addr} {oe : Obj} {cls : Value} {d : Option Addr} {pn : List (Addr × Obj)} {e : Expr} {te : TE} {pos : Pos} (T : PySem.SLX.ExTxt X.K X.mg X.prog X.w cn fld par vok C fI) (hz : Zc cls d oe) (hf : ∃ vs, oe.data = .fields vs) (he : PE (X.suite a ((a, oe) :: pn)) e te)
    (hb : attributeBase e fld X.env (eval e X.env) = eval e X.env := by rfl) :
    PE (X.suite a ((a, oe) :: pn)) (.Attribute e fld pos) (tExF C fld a cls d te) := by
  refine ⟨fun pins s σ H Q I h => ?_⟩
  refine attr_of hb (thn (he.run pins s σ H _ I h) fun u s1 hh => ?_)
  obtain ⟨x, H1, I1, rx, ex, ec, dd, v, ed, ea, q⟩ := hh
  subst ex
  obtain rfl : u = Value.ref a := rx
  subst ec
  subst ed
  obtain ⟨ha, _⟩ := I1.pin (a, oe) (List.mem_append_left _ List.mem_cons_self)
  obtain ⟨vs, hd⟩ := hf
  have hx : ObjOk X.prog X.w H1 s1.heap dd (.xd [(fld, v)]) := I1.hok dd _ ea
  obtain ⟨mA, hns, hr⟩ := hx
  obtain ⟨od, ho, hl⟩ := lookIn_ns hns
  have l : List.lookup fld [(fld, v)] = some v := by simp [List.lookup]
  obtain ⟨u, hu, ru⟩ := RelO.some_of (v := v) (o := mA fld) (by rw [← l]; exact hr fld)
  have J : PySem.W.InstAt s1.heap a oe C (some od) := ⟨ha, hz.1, by unfold PySem.W.notCls; rw [hd] <;> rfl, by rw [hz.2]; exact ho⟩
  exact HandSPX.exc_get I1.kIn J T.ga T.gg T.exC (PySem.W.findObj_own T.hdC T.noN rfl (by rw [hl, hu])) (handed_of ru) ⟨v, H1, I1.tok _, ru, q⟩
end

/-! ### several except clauses, some with a name -/
abbrev Clause := Value × Option Nat × (Addr → Value → Option Addr → TS)
def unnamed (i : Nat) (D : Ends) : Ends := { nx := fun σ' H' => D.nx (σ'.set i none) H', rt := D.rt, bk := fun σ' H' => D.bk (σ'.set i none) H', ct := fun σ' H' => D.ct (σ'.set i none) H' }
/-- what the clauses wish of an exception of the body, one after the other -/
def wClauses (K : PySem.W.Frag) (Wout : WX) (D : Ends) : List Clause → WX
  | [] => Wout
  | (c, none, ts) :: r => fun cls d σ H => ∃ b, PySem.W.exmOne K cls c = some b ∧ (b = true → ∀ a, H a = none → ts a cls d D σ H) ∧ (b = false → wClauses K Wout D r cls d σ H)
  | (c, some i, ts) :: r => fun cls d σ H => ∃ b, PySem.W.exmOne K cls c = some b ∧ (b = true → ∀ a, H a = none → ts a cls d (unnamed i D) (σ.set i (some (.ref a))) H) ∧ (b = false → wClauses K Wout D r cls d σ H)
inductive ClausesOk (X : Cx) : List ExceptHandler → List Clause → Prop
  | nil : ClausesOk X [] []
  | only {x : Str} {c : Value} {ts : Addr → Value → Option Addr → TS} {b₀ : Stmt} {suite : List Stmt} {np pos' : Pos} {hds : List ExceptHandler} {l : List Clause} (hc : Names X x c)
      (hsu : ∀ (a : Addr) (oe : Obj) (cls : Value) (d : Option Addr) (pn : List (Addr × Obj)), Zc cls d oe → (∃ vs, oe.data = .fields vs) → PSs (X.suite a ((a, oe) :: pn)) (b₀ :: suite) (ts a cls d)) (r : ClausesOk X hds l) :
      ClausesOk X (.ExceptHandler (some (.Name x np)) none (b₀ :: suite) pos' :: hds) ((c, none, ts) :: l)
  | named {x n : Str} {i : Nat} {c : Value} {ts : Addr → Value → Option Addr → TS} {b₀ : Stmt} {suite : List Stmt} {np pos' : Pos} {hds : List ExceptHandler} {l : List Clause} (hi : X.N[i]? = some n) (hln : X.env.kindOf n = some .local) (hc : Names X x c)
      (hsu : ∀ (a : Addr) (oe : Obj) (cls : Value) (d : Option Addr) (pn : List (Addr × Obj)), Zc cls d oe → (∃ vs, oe.data = .fields vs) → PSs (X.suite a ((a, oe) :: pn)) (b₀ :: suite) (ts a cls d)) (r : ClausesOk X hds l) :
      ClausesOk X (.ExceptHandler (some (.Name x np)) (some n) (b₀ :: suite) pos' :: hds) ((c, some i, ts) :: l)
section
variable {X : Cx} {body : List Stmt} {h₀ : ExceptHandler} {hds : List ExceptHandler} {l : List Clause} {pos : Pos} {tb : WX → TS} {Wout : WX}
/-- how a suite's end is an end of the statement, where no name is to be undone -/
theorem suite_end {pins : List (Addr × Obj)} {D : Ends} {a : Addr} {q : Addr × Obj} {f : Flow} {s : Shared} (ok : X.Ok) (h : SP (X.suite a (q :: (X.pn ++ pins))) [] D f s) : SP X pins D f s := by
  cases f with
  | ret u =>
    obtain ⟨v, σ', H', S, r, g⟩ := h
    exact ⟨v, σ', H', S.unsuite ok, r, g⟩
  | next =>
    obtain ⟨σ', H', S, g⟩ := h
    exact ⟨σ', H', S.unsuite ok, g⟩
  | brk =>
    obtain ⟨σ', H', S, g⟩ := h
    exact ⟨σ', H', S.unsuite ok, g⟩
  | cont =>
    obtain ⟨σ', H', S, g⟩ := h
    exact ⟨σ', H', S.unsuite ok, g⟩
theorem try_end {pins pn' : List (Addr × Obj)} {D : Ends} {xe : Value → Shared → Prop} {f : Flow} {s : Shared} (ok : X.Ok) (h : SP (X.tr (X.pn ++ pins) xe) pn' D f s) : SP X pins D f s := by
  cases f with
  | ret u =>
    obtain ⟨v, σ', H', S, r, g⟩ := h
    exact ⟨v, σ', H', S.ofTry ok, r, g⟩
  | next =>
    obtain ⟨σ', H', S, g⟩ := h
    exact ⟨σ', H', S.ofTry ok, g⟩
  | brk =>
    obtain ⟨σ', H', S, g⟩ := h
    exact ⟨σ', H', S.ofTry ok, g⟩
  | cont =>
    obtain ⟨σ', H', S, g⟩ := h
    exact ⟨σ', H', S.ofTry ok, g⟩
/-- the statement: X is a def's own frame -/
theorem ps_clauses (hs : X.stack = X.env :: X.outer) (hf : X.env.frame = some X.env.locals) (hN : X.N.Nodup) (tk : Takes X Wout)
    (hb : ∀ (W : WX) (pn : List (Addr × Obj)) (xe : Value → Shared → Prop), Takes (X.tr pn xe) W → PassesOwn (model X.prog X.w) X.A X.env xe → PSs (X.tr pn xe) body (tb W))
    (hh : ClausesOk X (h₀ :: hds) l) : PS X (.Try body (h₀ :: hds) [] [] pos) (fun D σ H => tb (wClauses X.K Wout D l) D σ H) := by
  refine ⟨fun pins s σ H D I h => ?_⟩
  have ok := I.ok
  have hfr : X.A.frames = some (X.env :: X.outer) := by rw [ok.frames, hs]
  have body_run := (hb (wClauses X.K Wout D l) (X.pn ++ pins) (fun e s₁ => wpAny (model X.prog X.w) X.A (noteFrame e X.env) (fun _ s₂ => wpAny (model X.prog X.w) X.A (setFlight e none) (fun _ s₃ => wpAny (model X.prog X.w) X.A (handleBy e X.env (h₀ :: hds)) (SP X pins D) X.xe s₃) X.xe s₂) X.xe s₁)
    (fun u s' air => ?_) PassesOwn.looking).run [] s σ H D (I.toTry _) h
  · refine wpAny_Try_except (wpAny_mono body_run (fun f s1 hsp => ?_) fun e s1 he => he)
    have z := try_end ok hsp
    cases f with
    | next =>
      obtain ⟨σ', H', J, q⟩ := z
      exact wpAny_execs_nil ⟨σ', H', J, q⟩
    | brk => exact z
    | cont => exact z
    | ret u => exact z
  · obtain ⟨a, B, sI, pins', σ', H', cls, d, rfl, J', nb, up, sky, na, os, ag, wish⟩ := air
    have J : Inv X pins σ' H' sI := J'.ofTry ok
    rw [show (X.tr (X.pn ++ pins) _).stack = X.env :: X.outer from hs] at sky
    refine Sky.land Zc.steady hfr hf sky fun h3 fl3 up3 => ?_
    have J3 : Inv X pins σ' H' { s' with heap := h3 } := J.landed nb fl3.1 (up.trans up3) os ag
    obtain ⟨oe3, vs3, he3, hz3, hd3⟩ := fl3.there
    have out : a ∉ frs (X.env :: X.outer) := fun hm => by
      obtain ⟨_, o', e', hnf⟩ := fl3.2.2.1.mem hm
      rw [he3] at e'
      cases e'
      exact hnf _ hd3
    have nL : a ≠ X.env.locals := fun z => out (List.mem_filterMap.mpr ⟨X.env, List.mem_cons_self, by rw [hf, z]⟩)
    have nF : a ∉ X.fs := fun hm => by
      obtain ⟨e, he, q⟩ := List.mem_filterMap.mp hm
      exact out (List.mem_filterMap.mpr ⟨e, List.mem_cons_of_mem _ he, q⟩)
    have S3 := J3.suite he3 hd3 na nL nF
    have LT : PySem.W.Looks (model X.prog X.w) h3 (typeOf (.ref a)) cls := fun A Q E s k q => wpAny_typeOf_ref (k _ _ he3) (by rw [hz3.1]; exact q)
    have name : ∀ {x : Str} {c : Value} {np : Pos} {Q E : Value → Shared → Prop}, Names X x c → Q c { s' with heap := h3 } → wpAny (model X.prog X.w) (X.A.mark (some (.ref a))) (eval (.Name x np) X.env) Q E { s' with heap := h3 } := fun {x c np Q E} hc q => by
      obtain ⟨hg, hdbg, hm | ⟨hm, hv, hnn⟩⟩ := hc
      · exact ld_glob (X := X.suite a ((a, oe3) :: (X.pn ++ pins))) S3 hg hm q hdbg
      · exact ld_blt (X := X.suite a ((a, oe3) :: (X.pn ++ pins))) S3 hg hm hv q hnn hdbg
    have go : ∀ {hds' : List ExceptHandler} {l' : List Clause}, ClausesOk X hds' l' → wClauses X.K Wout D l' cls d σ' H' → wpAny (model X.prog X.w) X.A (handleBy (.ref a) X.env hds') (SP X pins D) X.xe { s' with heap := h3 } := by
      intro hds' l' hk
      induction hk with
      | nil =>
        intro wsh
        have w0 : Wout cls d σ' H' := wsh
        refine wpAny_handleBy_nil ?_
        obtain ⟨k1, k2, k3, oe, vs, T, oT, ts', he, hz, hd, h1, hr⟩ := id fl3
        have fin : wpAny (model X.prog X.w) X.A (setFlight (.ref a) X.env.frame) (fun _ s4 => wpAny (model X.prog X.w) X.A (throw (.ref a) : Sem Flow) (SP X pins D) X.xe s4) X.xe { s' with heap := h3 } := by
          rw [hf]
          refine HandSPX.setFlight_upZ fl3 fun h4 hh4 up4 => wpAny_throw (tk _ _ ⟨a, B, sI, pins, σ', H', cls, d, rfl, J, nb, (up.trans up3).trans up4, .inr (.inr (by rw [hs]; exact hh4)), na, os, ag, w0⟩)
        unfold PySem.passOn
        refine wpAny_bind (wpAny_field he hd h1 ?_)
        rw [if_neg (show ¬ ((Value.ref T == Value.none) = true) from by simp)]
        first
          | exact wpAny_bind (wpAny_pure (wpAny_bind fin))
          | exact wpAny_bind fin
      | only hc hsu r ih =>
        rintro ⟨b, hb1, hyes, hno⟩
        refine wpAny_handleBy_cons (codeAny_handlers_test (name hc ((PySem.W.exm_one (M := model X.prog X.w) J3.kIn LT hb1).here ?_))) (by intro q; cases q)
        cases b with
        | false => exact ih (hno rfl)
        | true =>
          refine codeAny_handlers_suite (HandSPX.lands_againZ fl3 fun h4 fl4 up4 => ?_)
          have J4 : Inv X pins σ' H' { s' with heap := h4 } := J.landed nb fl4.1 ((up.trans up3).trans up4) os ag
          obtain ⟨oe4, vs4, he4, hz4, hd4⟩ := fl4.there
          exact wpAny_mono ((hsu a oe4 cls d (X.pn ++ pins) hz4 ⟨_, hd4⟩).run [] _ _ H' _ (J4.suite he4 hd4 na nL nF) (hyes rfl a na)) (fun f s6 hsp => suite_end ok hsp) fun _ _ z => False.elim z
      | @named x n i c ts b₀ suite np pos' hds2 l2 hi hln hc hsu r ih =>
        rintro ⟨b, hb1, hyes, hno⟩
        refine wpAny_handleBy_cons (codeAny_handlers_test (name hc ((PySem.W.exm_one (M := model X.prog X.w) J3.kIn LT hb1).here ?_))) (by intro q; cases q)
        cases b with
        | false => exact ih (hno rfl)
        | true =>
          refine codeAny_handlers_suite_as (HandSPX.lands_againZ fl3 fun h4 fl4 up4 => ?_)
          have J4 : Inv X pins σ' H' { s' with heap := h4 } := J.landed nb fl4.1 ((up.trans up3).trans up4) os ag
          obtain ⟨oe4, vs4, he4, hz4, hd4⟩ := fl4.there
          refine store_ok (X := X.suite a ((a, oe4) :: (X.pn ++ pins))) (v := .ref a) (J4.suite he4 hd4 na nL nF) hN hi (.inl hln) rfl (fun s5 S5 => ?_) (.inr hln)
          refine wpAny_mono ((hsu a oe4 cls d (X.pn ++ pins) hz4 ⟨_, hd4⟩).run [] s5 _ H' _ S5 (hyes rfl a na)) (fun f s6 hsp => ?_) fun _ _ z => False.elim z
          have undo : ∀ {σ6 : St} {H6 : Hp} {Q : Shared → Prop}, Inv (X.suite a ((a, oe4) :: (X.pn ++ pins))) [] σ6 H6 s6 → (∀ s7, Inv X pins (σ6.set i none) H6 s7 → Q s7) →
            wpAny (model X.prog X.w) X.A (do bindName X.env n .none; unbindBehindTheSuite X.env n pos') (fun _ s7 => Q s7) X.xe s6 := fun {σ6 H6 Q} S6 hq => gone_ok (S6.unsuite ok) hN hi hln hq
          cases f with
          | ret u =>
            obtain ⟨v6, σ6, H6, S6, r6, q6⟩ := hsp
            exact undo S6 fun s7 J7 => ⟨_, _, _, J7, r6, q6⟩
          | next =>
            obtain ⟨σ6, H6, S6, q6⟩ := hsp
            exact undo S6 fun s7 J7 => ⟨_, _, J7, q6⟩
          | brk =>
            obtain ⟨σ6, H6, S6, q6⟩ := hsp
            exact undo S6 fun s7 J7 => ⟨_, _, J7, q6⟩
          | cont =>
            obtain ⟨σ6, H6, S6, q6⟩ := hsp
            exact undo S6 fun s7 J7 => ⟨_, _, J7, q6⟩
    exact go hh wish
end
end L2
/-! What the laws of this program share: kinds of values, heaps, calls of a def by its name. -/
namespace SL
open PySem PySem.Spec PyProof.Rows L2
/-! ### kinds -/
inductive Knw (K : PySem.W.Frag) (H : Hp) : V → String → Prop
  | non : Knw K H .non "NoneType"
  | bl (b : Bool) : Knw K H (.bl b) "bool"
  | int (i : Int) : Knw K H (.int i) "int"
  | str (x : Str) : Knw K H (.str x) "str"
  | lst {a : Addr} {xs : List V} (h : SqL K H a xs) : Knw K H (.ref a) "list"
  | tup {a : Addr} {xs : List V} (h : SqT K H a xs) : Knw K H (.ref a) "tuple"
  | dic {a : Addr} {kvs : List (Key × V)} (h : H a = some (.dK kvs)) : Knw K H (.ref a) "dict"
theorem Same.seqT {K : PySem.W.Frag} {H H' : Hp} {a : Addr} {xs : List V} (e : Same H H') (h : SqT K H a xs) : SqT K H' a xs := by
  rcases h with (h | ⟨o, h⟩) | h
  · exact .inl (.inl (e _ _ h))
  · exact .inl (.inr ⟨o, e _ _ h⟩)
  · exact .inr h
section
variable {K : PySem.W.Frag} {H H' : Hp} {x : V} {T : String}
theorem Knw.ty (h : Knw K H x T) : TyX K H x (.type T) := by
  cases h with
  | non => exact .base .non
  | bl b => exact .base (.bl b)
  | int i => exact .base (.int i)
  | str s => exact .base (.str s)
  | lst h =>
    rcases h with (h | ⟨o, h⟩) | ⟨o, its, n, h, c, _⟩
    · exact .base (.lst h)
    · exact .base (.frz h)
    · exact .kList h c
  | tup h =>
    rcases h with (h | ⟨o, h⟩) | ⟨o, its, n, h, c, _⟩
    · exact .base (.tup h)
    · exact .fTuple h
    · exact .kTuple h c
  | dic h => exact .base (.dK h)
theorem Knw.same (s : Same H H') (h : Knw K H x T) : Knw K H' x T := by
  cases h with
  | non => exact .non
  | bl b => exact .bl b
  | int i => exact .int i
  | str z => exact .str z
  | lst h => exact .lst (s.seq h)
  | tup h => exact .tup (Same.seqT s h)
  | dic h => exact .dic (s _ _ h)
end
theorem kit_is {K : PySem.W.Frag} {a b : String} {r : Bool} (h : kitB a b = some r) : PySem.W.kitOne K (.type a) (.type b) = some r := kit_ty h
/-- isinstance against int, bool, list, tuple, str: of the seven kinds -/
def kinds : List String := ["NoneType", "bool", "int", "str", "list", "tuple", "dict"]
theorem Knw.mem {K : PySem.W.Frag} {H : Hp} {x : V} {T : String} (h : Knw K H x T) : T ∈ kinds := by cases h <;> decide
theorem kit_int {K : PySem.W.Frag} {T : String} (h : T ∈ kinds) : PySem.W.kitOne K (.type T) (.type "int") = some (decide (T = "int" ∨ T = "bool")) := by
  simp only [kinds, List.mem_cons, List.not_mem_nil, or_false] at h
  rcases h with rfl | rfl | rfl | rfl | rfl | rfl | rfl <;> exact kit_ty (by decide +kernel)
theorem kit_bool {K : PySem.W.Frag} {T : String} (h : T ∈ kinds) : PySem.W.kitOne K (.type T) (.type "bool") = some (decide (T = "bool")) := by
  simp only [kinds, List.mem_cons, List.not_mem_nil, or_false] at h
  rcases h with rfl | rfl | rfl | rfl | rfl | rfl | rfl <;> exact kit_ty (by decide +kernel)
theorem kit_str {K : PySem.W.Frag} {T : String} (h : T ∈ kinds) : PySem.W.kitOne K (.type T) (.type "str") = some (decide (T = "str")) := by
  simp only [kinds, List.mem_cons, List.not_mem_nil, or_false] at h
  rcases h with rfl | rfl | rfl | rfl | rfl | rfl | rfl <;> exact kit_ty (by decide +kernel)
theorem kit_list {K : PySem.W.Frag} {T : String} (h : T ∈ kinds) : PySem.W.kitOne K (.type T) (.type "list") = some (decide (T = "list")) := by
  simp only [kinds, List.mem_cons, List.not_mem_nil, or_false] at h
  rcases h with rfl | rfl | rfl | rfl | rfl | rfl | rfl <;> exact kit_ty (by decide +kernel)
theorem kit_tuple {K : PySem.W.Frag} {T : String} (h : T ∈ kinds) : PySem.W.kitOne K (.type T) (.type "tuple") = some (decide (T = "tuple")) := by
  simp only [kinds, List.mem_cons, List.not_mem_nil, or_false] at h
  rcases h with rfl | rfl | rfl | rfl | rfl | rfl | rfl <;> exact kit_ty (by decide +kernel)
theorem lineN {n : Nat} (h : n ≤ 100000) : n < sizeLine := Nat.lt_of_le_of_lt h (by rw [sizeLine_eq]; decide)
theorem few {n : Nat} (h : n ≤ 1000) : n ≤ sizeLine := Nat.le_trans h (by rw [sizeLine_eq]; decide)
theorem pos_i {n : Int} (h : decide (0 < n) = true) : 0 < n := of_decide_eq_true h
theorem iteV {A B : Prop} {x y : V} (h : x ≠ y) (k : B) : if decide (x = y) = true then A else B := by rw [decide_eq_false h]; exact iteF k
theorem iteS {A B : Prop} {x y : String} (h : decide (x = y) = false) (k : B) : if decide (x = y) = true then A else B := by rw [h]; exact iteF k
theorem iteU {A B : Prop} {c : Prop} [Decidable c] (h : c) (k : A) : if decide c = true then A else B := by rw [decide_eq_true h]; exact iteT k
theorem iteW {A B : Prop} {c : Prop} [Decidable c] (h : ¬ c) (k : B) : if decide c = true then A else B := by rw [decide_eq_false h]; exact iteF k
theorem lc_yes {A B : Hp → Prop} {σ : L2.St} {H : Hp} (h : A H) : tYes σ H (fun b H3 => if b = true then A H3 else B H3) := (iteT h : if true = true then A H else B H)
/-! ### the rules with the written part told (for blocks) -/
section
variable {X : Cx}
theorem sl_tupK (K : PySem.W.Frag) (h : X.K = K := by rfl) : SlR X (rSlA K) := by subst h; exact sl_tupA
theorem sl_listK (K : PySem.W.Frag) (h : X.K = K := by rfl) : SlR X (rSlL K) := by subst h; exact sl_list
theorem ix_listK (K : PySem.W.Frag) (h : X.K = K := by rfl) : IxR X (rIxL K) := by subst h; exact ix_list
theorem ix_tupK (K : PySem.W.Frag) (h : X.K = K := by rfl) : IxR X (rIxT K) := by subst h; exact ix_tup
theorem ix_seqK (K : PySem.W.Frag) (h : X.K = K := by rfl) : IxR X (rIx K) := by subst h; exact ix_seq
theorem call_isiK' (K : PySem.W.Frag) (h : X.K = K := by rfl) : CallR X (.builtin "isinstance") (rIsi K) := by subst h; exact call_isi
theorem call_lenK (K : PySem.W.Frag) (h : X.K = K := by rfl) : CallR X (.builtin "len") (fun xs H Q => ∃ p ys, xs = [.ref p] ∧ (SqL K H p ys ∨ SqT K H p ys) ∧ Q (.int ys.length) H) := by subst h; exact call_len_seq
theorem call_tupleK (K : PySem.W.Frag) (h : X.K = K := by rfl) : CallR X (.type "tuple") (fun xs H Q => ∃ p ys, xs = [.ref p] ∧ ((SqL K H p ys ∧ ∀ l, H l = none → Q (.ref l) (upd H l (.tup ys))) ∨ (SqT K H p ys ∧ Q (.ref p) H))) := by subst h; exact call_tuple_of
theorem op_catK (K : PySem.W.Frag) (h : X.K = K := by rfl) : OpR X (binaryOp .Add) (rCatA K) := by subst h; exact op_catA
end
/-! ### heaps -/
theorem same_upd {H : Hp} {p : Addr} {o : HO} (h : H p = none) : Same H (upd H p o) := fun b x e => by
  rw [upd_ne (ne_of_none e h)]
  exact e
/-- the heap without what stands at p -/
def off (H : Hp) (p : Addr) : Hp := fun b => if b = p then none else H b
theorem off_same (H : Hp) (p : Addr) : Same (off H p) H := fun b o e => by
  unfold off at e
  split at e
  · cases e
  · exact e
theorem off_at {H : Hp} {p : Addr} : off H p p = none := if_pos rfl
theorem off_ne {H : Hp} {p b : Addr} (h : b ≠ p) : off H p b = H b := if_neg h
theorem off_mono {H H' : Hp} {p : Addr} (s : Same H H') : Same (off H p) (off H' p) := fun b o e => by
  unfold off at e ⊢
  split at e
  · cases e
  · rename_i h
    rw [if_neg h]
    exact s _ _ e
theorem off_upd {H : Hp} {p : Addr} {o : HO} : Same (off H p) (off (upd H p o) p) := fun b u e => by
  unfold off at e ⊢
  split at e
  · cases e
  · rename_i h
    rw [if_neg h, upd_ne h]
    exact e
/-- what was said of the rest stays true whatever is stored at p -/
theorem off_put {H : Hp} {p : Addr} {o : HO} : Same (off H p) (upd H p o) := fun b u e => by
  unfold off at e
  split at e
  · cases e
  · rename_i h
    rw [upd_ne h]
    exact e
theorem off_of {H H' : Hp} {p : Addr} (s : Same H H') (n : H p = none) : Same H (off H' p) := fun b o e => by
  rw [off_ne (ne_of_none e n)]
  exact s _ _ e
/-- what stood at b stands there, if b is not p -/
theorem off_get {H H' : Hp} {p b : Addr} {o : HO} (s : Same (off H p) (off H' p)) (n : b ≠ p) (e : H b = some o) : H' b = some o := by
  have z := s b o (by rw [off_ne n]; exact e)
  rw [off_ne n] at z
  exact z
/-! ### sums and slices of tuples, whatever they reuse -/
section
variable {X : Cx}
def rCatU (K : PySem.W.Frag) : R2 := fun x y H Q => ∃ a b xs ys, x = .ref a ∧ y = .ref b ∧ SqT K H a xs ∧ SqT K H b ys ∧ xs.length + ys.length ≤ 100000 ∧ ∀ c H', Same H H' → SqT K H' c (xs ++ ys) → Q (.ref c) H'
theorem op_catU (K : PySem.W.Frag) (h : X.K = K := by rfl) : OpR X (binaryOp .Add) (rCatU K) := by
  subst h
  intro pins s σ H x y v u Q I rx ry z
  obtain ⟨a, b, xs, ys, e1, e2, ha, hb, hz, q⟩ := z
  refine op_catA pins s σ H x y v u Q I rx ry ⟨a, b, xs, ys, e1, e2, ha, hb, Nat.le_of_lt (lineN hz), fun e => ?_, fun _ e => ?_, fun _ _ p np => ?_⟩
  · subst e
    exact q b H (Same.refl H) hb
  · subst e
    exact q a H (Same.refl H) (by rw [List.append_nil]; exact ha)
  · exact q p _ (same_upd np) (SqT.of upd_same)
def rSlU (K : PySem.W.Frag) : V → Option Int → Option Int → Hp → VK → Prop := fun x lo hi H Q => ∃ a xs, x = .ref a ∧ SqT K H a xs ∧ ∀ c H', Same H H' → SqT K H' c (cutV xs lo hi) → Q (.ref c) H'
theorem sl_tupU (K : PySem.W.Frag) (h : X.K = K := by rfl) : SlR X (rSlU K) := by
  subst h
  intro pins s σ H x v vl vu lo hi sl Q I rx hs pl pu z
  obtain ⟨a, xs, e, hx, q⟩ := z
  refine sl_tupA pins s σ H x v vl vu lo hi sl Q I rx hs pl pu ⟨a, xs, e, hx, fun w => q a H (Same.refl H) ?_, fun _ p np => q p _ (same_upd np) (SqT.of upd_same)⟩
  unfold cutV
  rw [w.1, w.2, List.drop_zero, Nat.sub_zero, List.take_length]
  exact hx
end
theorem Tups.get {K : PySem.W.Frag} {H : Hp} : ∀ {vs : List V} {cs : List (List V)} {i : Nat} {v : V}, Paired (fun v c => ∃ a, v = V.ref a ∧ SqT K H a c) vs cs → vs[i]? = some v → ∃ c b, cs[i]? = some c ∧ v = .ref b ∧ SqT K H b c
  | _, _, _, _, .nil, h => by simp at h
  | _, _, 0, v, .cons (b := c) h _, e => by
    simp at e
    subst e
    obtain ⟨b, e1, e2⟩ := h
    exact ⟨c, b, rfl, e1, e2⟩
  | _, _, i + 1, v, .cons _ t, e => by
    obtain ⟨c, b, h1, h2, h3⟩ := Tups.get (i := i) t (by simpa using e)
    exact ⟨c, b, by simpa using h1, h2, h3⟩
/-! ### data -/
mutual
theorem Dp.same {K : PySem.W.Frag} {H H' : Hp} (s : Same H H') : ∀ {v : V} {d : PyData}, Dp K H v d → Dp K H' v d
  | _, _, .non => .non
  | _, _, .bl b => .bl b
  | _, _, .int i => .int i
  | _, _, .str x => .str x
  | _, _, .lst h a => .lst (s.seq h) (DpAll.same s a)
  | _, _, .tup h a => .tup (Same.seqT s h) (DpAll.same s a)
theorem DpAll.same {K : PySem.W.Frag} {H H' : Hp} (s : Same H H') : ∀ {vs : List V} {ds : List PyData}, DpAll K H vs ds → DpAll K H' vs ds
  | _, _, .nil => .nil
  | _, _, .cons h t => .cons (Dp.same s h) (DpAll.same s t)
end
theorem DpAll.ints {K : PySem.W.Frag} {H : Hp} : ∀ ns : List Int, DpAll K H (ns.map V.int) (ns.map PyData.int)
  | [] => .nil
  | n :: r => .cons (.int n) (DpAll.ints r)
theorem DpAll.length {K : PySem.W.Frag} {H : Hp} : ∀ {vs : List V} {ds : List PyData}, DpAll K H vs ds → vs.length = ds.length
  | _, _, .nil => rfl
  | _, _, .cons _ t => congrArg (· + 1) (DpAll.length t)
theorem DpAll.get {K : PySem.W.Frag} {H : Hp} : ∀ {vs : List V} {ds : List PyData} {i : Nat} {d : PyData}, DpAll K H vs ds → ds[i]? = some d → ∃ v, vs[i]? = some v ∧ Dp K H v d
  | _, _, _, _, .nil, h => by simp at h
  | _, _, 0, _, .cons h _, e => by
    simp at e
    subst e
    exact ⟨_, rfl, h⟩
  | _, _, i + 1, _, .cons _ t, e => by
    obtain ⟨v, h1, h2⟩ := DpAll.get (i := i) t (by simpa using e)
    exact ⟨v, by simpa using h1, h2⟩
theorem DpAll.append {K : PySem.W.Frag} {H : Hp} {ws : List V} {es : List PyData} (b : DpAll K H ws es) : ∀ {vs : List V} {ds : List PyData}, DpAll K H vs ds → DpAll K H (vs ++ ws) (ds ++ es)
  | _, _, .nil => b
  | _, _, .cons h t => .cons h (DpAll.append b t)
mutual
/-- no dict in it, not too deep -/
def plainD : Nat → PyData → Bool
  | _, .none => true
  | _, .bool _ => true
  | _, .int _ => true
  | _, .str _ => true
  | 0, .list _ => false
  | 0, .tuple _ => false
  | n + 1, .list ds => decide (ds.length ≤ 100000) && plainDs n ds
  | n + 1, .tuple ds => decide (ds.length ≤ 100000) && plainDs n ds
  | _, .dict _ => false
def plainDs : Nat → List PyData → Bool
  | _, [] => true
  | n, d :: ds => plainD n d && plainDs n ds
end
theorem plainDs_get : ∀ {n : Nat} {ds : List PyData} {i : Nat} {d : PyData}, plainDs n ds = true → ds[i]? = some d → plainD n d = true
  | _, [], _, _, _, h => by simp at h
  | n, e :: r, 0, d, h, q => by
    simp at q
    subst q
    have h' : (plainD n e && plainDs n r) = true := by simpa [plainDs] using h
    exact (Bool.and_eq_true_iff.mp h').1
  | n, e :: r, i + 1, d, h, q => by
    have h' : (plainD n e && plainDs n r) = true := by simpa [plainDs] using h
    exact plainDs_get (i := i) (Bool.and_eq_true_iff.mp h').2 (by simpa using q)
theorem plainDs_all {n : Nat} : ∀ {ds : List PyData}, (∀ d ∈ ds, plainD n d = true) → plainDs n ds = true
  | [], _ => by simp [plainDs]
  | d :: r, h => by
    have h1 := h d (List.mem_cons_self ..)
    have h2 := plainDs_all (ds := r) fun e he => h e (List.mem_cons_of_mem _ he)
    simp [plainDs, h1, h2]
theorem Dp.boxlst {K : PySem.W.Frag} {H H' : Hp} {a : Addr} {xs : List V} (s : Same H H') (h : SqL K H a xs) : SqL K H' a xs := s.seq h
theorem Dp.boxtup {K : PySem.W.Frag} {H H' : Hp} {a : Addr} {xs : List V} (s : Same H H') (h : SqT K H a xs) : SqT K H' a xs := Same.seqT s h
/-- the kind of a value that stands for such data -/
theorem Dp.knw {K : PySem.W.Frag} {H : Hp} {v : V} {d : PyData} (h : Dp K H v d) : ∃ T, Knw K H v T := by
  cases h with
  | non => exact ⟨_, .non⟩
  | bl b => exact ⟨_, .bl b⟩
  | int i => exact ⟨_, .int i⟩
  | str x => exact ⟨_, .str x⟩
  | lst h _ => exact ⟨_, .lst h⟩
  | tup h _ => exact ⟨_, .tup h⟩
/-! ### ranges with a step, chunks -/
theorem rgc_chunks {n w : Nat} (h1 : 1 ≤ w) (h6 : w ≤ 6) (hn : n * w ≤ 100000) : RgC 0 ((n * w : Nat) : Int) (w : Int) n := by
  have c : w = 1 ∨ w = 2 ∨ w = 3 ∨ w = 4 ∨ w = 5 ∨ w = 6 := by omega
  have size : Builtin.Range.rangeSize 0 ((n * w : Nat) : Int) (w : Int) = (n : Int) := by
    unfold Builtin.Range.rangeSize
    rcases c with rfl | rfl | rfl | rfl | rfl | rfl <;> (rw [if_pos (by decide)]; split <;> omega)
  have fit : ∀ x : Int, -1000000 ≤ x → x ≤ 1000000 → Builtin.Range.rangeFitsLong x = true := fun x l u => by
    unfold Builtin.Range.rangeFitsLong
    rw [decide_eq_true (by omega : (-2 ^ 63 : Int) ≤ x), decide_eq_true (by omega : x < 2 ^ 63)]
    rfl
  have big : n ≤ n * w := Nat.le_mul_of_pos_right n (by omega)
  refine ⟨by omega, by omega, ?_, size⟩
  unfold Builtin.Range.small
  rw [size, if_pos (by omega : (w : Int) > 0), fit 0 (by omega) (by omega), fit ((n * w : Nat) : Int) (by omega) (by omega), fit (w : Int) (by omega) (by omega), fit (n : Int) (by omega) (by omega), fit (((n * w : Nat) : Int) + ((w : Int) - 1)) (by omega) (by omega), Bool.or_true]
  rfl
/-- a comprehension over a range with a step -/
theorem lc_rangeC {lo c : Int} {n : Nat} {g : TG} {tt : TT} {te : TE} {vs : List Nat} {σ : L2.St} {H1 : Hp} {D : Addr} {Qd : Hp → Prop} (Pv : Nat → Hp → Prop) (h0 : Pv 0 (upd H1 D (.lst [])))
    (hs : ∀ i H, i < n → Pv i H → g (.int (lo + (i : Nat) * c)) (wipe σ vs) H fun σ2 H2 => wipe σ2 vs = wipe σ vs ∧ tt σ2 H2 fun b H3 => if b = true then te σ2 H3 fun y H4 => ∃ acc, H4 D = some (.lst acc) ∧ acc.length < sizeLine ∧ Pv (i + 1) (upd H4 D (.lst (acc ++ [y]))) else Pv (i + 1) H3)
    (hd : ∀ H, Pv n H → Qd H) : ∃ W : Nat → Nat → Hp → Prop, (∃ m, W 0 m (upd H1 D (.lst []))) ∧ ∀ i m H, W i m H → ((Itc lo c n).stop i H ∧ Qd H) ∨ ((Itc lo c n).go i H ∧ ∃ Nx : Hp → Prop, (∀ H', Nx H' → ∃ m', m' < m ∧ W (i + 1) m' H') ∧
      ∀ x H', (Itc lo c n).yld i H x H' → g x (wipe σ vs) H' fun σ2 H2 => wipe σ2 vs = wipe σ vs ∧ tt σ2 H2 fun b H3 => if b = true then te σ2 H3 fun y H4 => ∃ acc, H4 D = some (.lst acc) ∧ acc.length < sizeLine ∧ Nx (upd H4 D (.lst (acc ++ [y]))) else Nx H3) := by
  refine ⟨fun i m H => m = n - i ∧ i ≤ n ∧ Pv i H, ⟨n, rfl, Nat.zero_le _, h0⟩, fun i m H hW => ?_⟩
  obtain ⟨e, hi, p⟩ := hW
  rcases Nat.lt_or_ge i n with hlt | hge
  · refine .inr ⟨hlt, Pv (i + 1), fun H' p' => ⟨n - (i + 1), by omega, rfl, hlt, p'⟩, fun x H' y => ?_⟩
    obtain ⟨y1, y2⟩ := y
    rw [y1, y2]
    exact hs i H hlt p
  · have q : i = n := by omega
    rw [q] at p
    exact .inl ⟨hge, hd H p⟩
/-- the i-th of the parts of w items -/
def part (w : Nat) (xs : List V) (i : Nat) : List V := (xs.drop (i * w)).take w
def parts (w : Nat) (xs : List V) (n : Nat) : List (List V) := (List.range n).map (part w xs)
theorem parts_take {w : Nat} {xs : List V} {n i : Nat} (h : i < n) : (parts w xs n).take (i + 1) = (parts w xs n).take i ++ [part w xs i] := by
  have e : (parts w xs n)[i]? = some (part w xs i) := by
    unfold parts
    rw [List.getElem?_map, List.getElem?_range h]
    rfl
  rw [List.take_add_one, e]
  rfl
theorem parts_len (w : Nat) (xs : List V) (n : Nat) : (parts w xs n).length = n := by simp [parts]
theorem cut_part {w : Nat} {xs : List V} {n i : Nat} (hx : xs.length = n * w) (hi : i < n) : cutV xs (some ((i * w : Nat) : Int)) (some ((i * w + w : Nat) : Int)) = part w xs i := by
  have h1 : i * w + w ≤ n * w := by
    have := Nat.mul_le_mul_right w (show i + 1 ≤ n from hi)
    rw [Nat.add_mul, Nat.one_mul] at this
    exact this
  unfold cutV part
  rw [show HT.sIx xs.length 0 (some ((i * w : Nat) : Int)) = min (i * w) xs.length from HT.sIx_nat _ _ _, show HT.sIx xs.length xs.length (some ((i * w + w : Nat) : Int)) = min (i * w + w) xs.length from HT.sIx_nat _ _ _]
  rw [show min (i * w) xs.length = i * w by omega, show min (i * w + w) xs.length = i * w + w by omega, Nat.add_sub_cancel_left]
/-- the whole of it is the one part -/
theorem whole_part {w : Nat} {xs : List V} {n i : Nat} (hx : xs.length = n * w) (hi : i < n) (h : HT.sIx xs.length 0 (some ((i * w : Nat) : Int)) = 0 ∧ HT.sIx xs.length xs.length (some ((i * w + w : Nat) : Int)) = xs.length) : part w xs i = xs := by
  rw [← cut_part hx hi]
  unfold cutV
  rw [h.1, h.2, List.drop_zero, Nat.sub_zero, List.take_length]
/-- values that are tuples -/
abbrev Tups (K : PySem.W.Frag) (H : Hp) : List V → List (List V) → Prop := Paired fun v c => ∃ a, v = V.ref a ∧ SqT K H a c
theorem Tups.same {K : PySem.W.Frag} {H H' : Hp} (s : Same H H') {vs : List V} {cs : List (List V)} (h : Tups K H vs cs) : Tups K H' vs cs := Paired.mapP h fun v c ⟨a, e, q⟩ => ⟨a, e, Same.seqT s q⟩
theorem Tups.snoc {K : PySem.W.Frag} {H : Hp} {a : Addr} {c : List V} (h : SqT K H a c) : ∀ {vs : List V} {cs : List (List V)}, Tups K H vs cs → Tups K H (vs ++ [V.ref a]) (cs ++ [c])
  | _, _, .nil => .cons ⟨a, rfl, h⟩ .nil
  | _, _, .cons q t => .cons q (Tups.snoc h t)
/-! ### a def, by its name -/
structure FnC (P : Program) (w : World) (K : PySem.W.Frag) (mg : Str → Option Value) (base : Heap) (CX : CXT) (k : Nat) (x : Str) (ps : List Str) (sp : Sp) : Prop where
  ex : ∃ (f : Addr) (fd : FuncData), FnOk P w K mg base CX k f fd ps sp ∧ mg x = some (.ref f) ∧ PySem.W.keepIn K (.ref f) = true ∧ Binds K fd ps []
section
variable {X : Cx} {CX : CXT} {k j : Nat} {x : Str} {ps : List Str} {sp : Sp} {e : Expr} {es : List Expr} {t : TA} {p pos : Pos}
theorem pe_f {E : XK} (c : FnC X.prog X.w X.K X.mg X.base CX k x ps sp) (hr : Room j X.A) (hk : k ≤ j) (hx : Passes CX X E) (ha : PA X (e :: es) t) (hg : Gl X x := by rfl) (hdb : (x == ("__debug__" : Str)) = false := by decide)
    (he : starEach (e :: es) X.env = (false, eval e X.env) :: starEach es X.env := by rfl) (hpl : (backTo pos (starEach es X.env)).any (·.1) = false := by rfl) : PE X (.Call (.Name x p) (e :: es) [] pos) (tCall sp [] E t) := by
  obtain ⟨f, fd, F, hm, hkp, hb⟩ := c.ex
  exact pe_call F (hr.mono hk) hg hm hkp hb .nil hx ha hdb he hpl
theorem pe_fS {E : L2.St → XK} (c : FnC X.prog X.w X.K X.mg X.base CX k x ps sp) (hr : Room j X.A) (hk : k ≤ j) (hx : ∀ σ, PassesAt CX X σ (E σ)) (ha : PA X (e :: es) t) (hg : Gl X x := by rfl) (hdb : (x == ("__debug__" : Str)) = false := by decide)
    (he : starEach (e :: es) X.env = (false, eval e X.env) :: starEach es X.env := by rfl) (hpl : (backTo pos (starEach es X.env)).any (·.1) = false := by rfl) : PE X (.Call (.Name x p) (e :: es) [] pos) (tCallS sp E t) := by
  obtain ⟨f, fd, F, hm, hkp, hb⟩ := c.ex
  exact pe_callS F (hr.mono hk) hg hm hkp hb hx ha hdb he hpl
end
end SL
/-! t[::-1] of a tuple; a walk over the zip of two tuples. -/
namespace SL
open PySem PySem.Spec PyProof.Rows L2 HT
theorem fm_congr {α β : Type} {f g : α → Option β} : ∀ l : List α, (∀ k ∈ l, f k = g k) → l.filterMap f = l.filterMap g
  | [], _ => rfl
  | k :: r, h => by rw [List.filterMap_cons, List.filterMap_cons, h k (List.mem_cons_self ..), fm_congr r fun j hj => h j (List.mem_cons_of_mem _ hj)]
theorem rev_pick (xs : Array Value) : ((List.range xs.size).filterMap fun (k : Nat) => xs[(((xs.size : Int) - 1) + (k : Int) * (-1)).toNat]?).toArray = xs.toList.reverse.toArray := by
  have e : (List.range xs.size).filterMap (fun (k : Nat) => xs[(((xs.size : Int) - 1) + (k : Int) * (-1)).toNat]?) = ((List.range xs.size).map fun k => xs.size - 1 - k).filterMap (xs[·]?) := by
    rw [List.filterMap_map]
    refine fm_congr _ fun k hk => ?_
    have := List.mem_range.mp hk
    show xs[_]? = xs[xs.size - 1 - k]?
    rw [show (((xs.size : Int) - 1) + (k : Int) * (-1)).toNat = xs.size - 1 - k by omega]
  rw [e, PySem.W.krv_range, List.filterMap_reverse, PySem.W.krv_all]
section
variable {prog : Program} {w : World} {A : Around} {E : Value → Shared → Prop} {s : Shared}
theorem adjust_rev (n : Nat) : Builtin.Slice.sliceAdjust none none (-1) (n : Int) = ((n : Int) - 1, -1) := by
  unfold Builtin.Slice.sliceAdjust
  simp
theorem places_rev (n : Nat) : Builtin.Slice.slicePlaces ((n : Int) - 1) (-1) (-1) = n := by
  unfold Builtin.Slice.slicePlaces
  have h1 : ¬ ((-1 : Int) > 0) := by decide
  simp only [h1, if_false]
  rw [show (- -1 : Int) = 1 by decide, Int.ediv_one]
  split <;> omega
theorem sliceApplied_rev {sl : Addr} {vl vu vs : Value} {n : Nat} {Q : Int × Int × Nat → Shared → Prop} (hs : s.heap.IsSliceOf sl vl vu vs) (pl : IsPart vl none) (pu : IsPart vu none) (ps : IsPart vs (some (-1)))
    (h : Q ((n : Int) - 1, -1, n) s) : wpAny (model prog w) A (Builtin.Slice.sliceApplied (.ref sl) (pure (n : Int))) Q E s := by
  obtain ⟨os, hos, hcs, hds⟩ := id hs
  unfold Builtin.Slice.sliceApplied Builtin.Slice.sliceFields
  refine wpAny_bind (wpAny_bind (wpAny_field hos hds (x := vl) rfl (wpAny_bind (wpAny_field hos hds (x := vu) rfl (wpAny_bind (wpAny_field hos hds (x := vs) rfl (wpAny_pure ?_)))))))
  refine wpAny_bind (slicePart_ ps ?_)
  show wpAny _ _ (if ((-1 : Int) == 0) = true then _ else _) _ _ s
  rw [if_neg (by decide)]
  refine wpAny_bind (slicePart_ pl (wpAny_bind (slicePart_ pu (wpAny_bind (wpAny_pure ?_)))))
  show wpAny _ _ (match Builtin.Slice.sliceAdjust none none (-1) (n : Int) with | (lo, hi) => pure (lo, (-1 : Int), Builtin.Slice.slicePlaces lo hi (-1))) _ _ s
  rw [adjust_rev n]
  show wpAny _ _ (pure ((n : Int) - 1, (-1 : Int), Builtin.Slice.slicePlaces ((n : Int) - 1) (-1) (-1))) _ _ s
  rw [places_rev]
  exact wpAny_pure h
theorem getItem_tuple_rev {t sl : Addr} {items : Array Value} {vl vu vs : Value} {Q : Value → Shared → Prop} (ht : IsTup s.heap t items) (hs : s.heap.IsSliceOf sl vl vu vs) (pl : IsPart vl none) (pu : IsPart vu none) (ps : IsPart vs (some (-1)))
    (h : Q (.ref s.heap.objs.size) { s with heap := s.heap.push { cls := .type "tuple", data := .seq items.toList.reverse.toArray } })
    (hsz : items.size ≤ sizeLine) : wpAny (model prog w) A (getItem (.ref t) (.ref sl)) Q E s := by
  have htake : sizeOk (.seq items.toList.reverse.toArray) := by
    show items.toList.reverse.toArray.size ≤ sizeLine
    rw [List.size_toArray, List.length_reverse, Array.length_toList]
    exact hsz
  obtain ⟨os, hos, hcs, hds⟩ := id hs
  have hTs : s.TypeIs (.ref sl) "slice" := ⟨os, hos, hcs⟩
  unfold getItem
  try with_reducible refine wpAny_holding ?_
  first | refine wpAny_bind (wpAny_pure ?_) | skip
  refine wpAny_bind (wpAny_sequenceKey ht.typeIs (by decide) ?_)
  refine wpAny_bind (wpAny_callSpecial?_slot (name := Str.ofString "__getitem__") ht.typeIs PyProof.Rows.slot_tuple_getitem
    (wpAny_call_entry PyProof.Rows.slot_tuple_getitem ht.typeIs entry_tuple_getitem ?_ (args_tuple_getitem _ _)))
  show wpAny _ _ (Builtin.Tuple.tupleItemsOf (.ref t) >>= _) _ _ s
  refine wpAny_bind (tupleItemsOf_ ht ?_)
  refine wpAny_bind (wpAny_typeOf hTs ?_)
  rw [if_pos (by decide)]
  refine wpAny_bind (sliceApplied_rev hs pl pu ps ?_)
  have hno : ¬ ((((items.size : Int) - 1 == 0) && (-1 : Int) == 1 && items.size == items.size) = true) := by
    rw [show ((-1 : Int) == 1) = false from by decide, Bool.and_false, Bool.false_and]
    exact Bool.false_ne_true
  show wpAny _ _ (if (((items.size : Int) - 1 == 0) && (-1 : Int) == 1 && items.size == items.size) = true then _ else _) _ _ s
  rw [if_neg hno, rev_pick]
  first
    | exact wpAny_bind (m := Builtin.Tuple.tupleExact _) (wpAny_newObj_type (wpAny_pure ⟨_, rfl, wpAny_pure h⟩) htake)
    | exact wpAny_bind (m := Builtin.Tuple.tupleExact _) (wpAny_newObj_type (wpAny_bind (wpAny_pure (wpAny_pure ⟨_, rfl, wpAny_pure h⟩))) htake)
    | exact wpAny_bind (wpAny_bind (m := Builtin.Tuple.tupleExact _) (wpAny_newObj_type (wpAny_pure (wpAny_pure ⟨_, rfl, wpAny_pure h⟩)) htake))
    | exact wpAny_bind (wpAny_bind (m := Builtin.Tuple.tupleExact _) (wpAny_newObj_type (wpAny_pure ⟨_, rfl, wpAny_pure h⟩) htake))
end
section
variable {X : Cx}
def tRevT (K : PySem.W.Frag) (te : TE) : TE := fun σ H Q => te σ H fun x H1 => ∃ a xs, x = .ref a ∧ SqT K H1 a xs ∧ ∀ p, H1 p = none → Q (.ref p) (upd H1 p (.tup xs.reverse))
theorem pe_revT {e : Expr} {te : TE} {k : Nat} {p1 p2 p3 pos : Pos} (he : PE X e te) : PE X (.Subscript e (.Slice none none (some (.UnaryOp .USub (.Constant (.int 1) k p1) p2)) p3) pos) (tRevT X.K te) := by
  refine ⟨fun pins s σ H Q I h => ?_⟩
  refine Subscript_ (thn (he.run pins s σ H _ I h) fun v s1 ⟨x, H1, I1, r1, q1⟩ => ?_)
  obtain ⟨a, xs, ex, hx, q⟩ := q1
  subst ex
  cases r1
  have hst : PO X (some (.UnaryOp .USub (.Constant (.int 1) k p1) p2)) (tPart (tUn (rU fun i => .int (-i)) (tC (.int 1)))) := po_some (pe_un un_neg pe_int)
  refine wpAny_Slice (thn (po_none.run pins s1 σ H1 (fun o H2 => o = none ∧ H2 = H1) I1 ⟨rfl, rfl⟩) fun vl s2 ⟨l, H2, I2, pl, el, e2⟩ => ?_)
  subst el e2
  refine thn (po_none.run pins s2 σ H2 (fun o H3 => o = none ∧ H3 = H2) I2 ⟨rfl, rfl⟩) fun vu s3 ⟨u, H3, I3, pu, eu, e3⟩ => ?_
  subst eu e3
  refine thn (hst.run pins s3 σ H3 (fun o H4 => o = some (-1) ∧ H4 = H3) I3 ⟨1, rfl, -1, rfl, rfl, rfl⟩) fun vs s4 ⟨o, H4, I4, ps, eo, e4⟩ => ?_
  subst eo e4
  have I5 : Inv X pins σ H4 { s4 with heap := s4.heap.push { cls := .type "slice", data := .fields #[vl, vu, vs] } } := I4.kept (t' := s4.toks) fun b ob q => Heap.get?_push_of_some _ q
  obtain ⟨its, r, ht, hz⟩ := I5.tuple hx
  have hlen := r.length
  show wpAny (model X.prog X.w) X.A (subscriptTail e (.Slice none none (some (.UnaryOp .USub (.Constant (.int 1) k p1) p2)) p3) (.ref a) (.ref s4.heap.objs.size)) (EP X pins σ Q) X.xe { s4 with heap := s4.heap.push { cls := .type "slice", data := .fields #[vl, vu, vs] } }
  refine tail_any (ops := [.ref a, .ref s4.heap.objs.size]) ht.typeIs (PyProof.Rows.slot_tuple_getitem.lookup) ?_ (by with_unfolding_all rfl)
  refine getItem_tuple_rev ht (Heap.IsSliceOf.new _ vl vu vs) pl pu ps ?_ (by rw [List.size_toArray]; omega)
  refine ⟨.ref _, _, I5.laid (t' := s4.toks) (o := .tup xs.reverse) (fun b ob q => Heap.get?_push_of_some _ q) (Nat.le_refl _) ?_, rfl, q _ (I5.hok.fresh (Nat.le_refl _))⟩
  exact ⟨by rw [List.length_reverse]; exact hz, _, r.reverse, IsTup.new _ _⟩
end
theorem walk_zipT {K : PySem.W.Frag} {a b : Addr} {xs ys : List V} {n : Nat} (hn : n = min xs.length ys.length) : Walk (RZ.ItzT K a b) n (fun H => SqT K H a xs ∧ SqT K H b ys) (YPair (fun i => xs[i]?) (fun i => ys[i]?)) := by
  subst hn
  refine ⟨fun i _ hi q => ?_, fun _ q => ⟨xs, ys, q.1, q.2, by omega⟩, fun i H v H' _ q y => ?_⟩
  · have h1 : i < xs.length := by omega
    have h2 : i < ys.length := by omega
    exact ⟨xs, ys, xs[i], ys[i], q.1, q.2, by simp [h1], by simp [h2]⟩
  · obtain ⟨T, x, z, h1, h2, h3, h4, h5⟩ := y
    exact ⟨T, x, z, h1, h2, h3, h4 xs q.1, h5 ys q.2⟩
section
variable {X : Cx}
theorem pg_tupK {pos : Pos} {es : List Expr} {k : Nat} {t : TGs} {n : Nat} (K : PySem.W.Frag) (hc : X.calm = true) (h : PGs X es t) (e : X.K = K := by rfl)
    (hn : (assignEach es X.env).length = n := by rfl) (hst : (assignEach es X.env).findIdx? (·.1) = none := by rfl) : PG X (.Tuple es k pos) (gTup K n t) := by
  subst e
  exact pg_tup hc h hn hst
theorem pe_f0 {CX : CXT} {k j : Nat} {x : Str} {sp : Sp} {p pos : Pos} {E : XK} (c : FnC X.prog X.w X.K X.mg X.base CX k x [] sp) (hr : Room j X.A) (hk : k ≤ j) (hx : Passes CX X E) (hg : Gl X x := by rfl) (hdb : (x == ("__debug__" : Str)) = false := by decide) :
    PE X (.Call (.Name x p) [] [] pos) (tCall sp [] E tNil) := by
  obtain ⟨f, fd, F, hm, hkp, hb⟩ := c.ex
  exact pe_call0 F (hr.mono hk) hg hm hkp hb .nil hx hdb
end
end SL
/-! enumerate of a tuple, of a text. -/
namespace PySem
theorem sl_enum_newT (l : Addr) (xs : Array Value) :
    Meets (Builtin.«enumerate.__new__» ⟨[.type "enumerate", .ref l], []⟩) (fun _ R s => s.heap.IsTuple l xs ∧
      R (.ok (.ret (.ref (s.heap.push { cls := .type "tuple_iterator", data := .fields #[.ref l, .int 0 0] }).objs.size)))
        { s with heap := (s.heap.push { cls := .type "tuple_iterator", data := .fields #[.ref l, .int 0 0] }).push { cls := .type "enumerate", data := .fields #[.none, .bool false, .ref s.heap.objs.size, rawInt 0, .none, .none] } }) :=
  .of_wp fun prog w A R s h => by
    obtain ⟨hp, g, d, tk, os⟩ := s
    obtain ⟨hl, h⟩ := h
    have hsub := sub_enumerate
    have hL : Heap.IsTuple (Shared.heap ⟨hp, g, d, tk, os⟩) l xs := hl
    wp_walk
    refine wpAny_stack_any fun st => wpAny_pure ?_
    split
    · rename_i c _ _ _ _ _
      cases (c == Value.type "enumerate") <;> (wp_walk using wpAny_pyIter_tuple hL; exact ⟨_, rfl, h⟩)
    · wp_walk using wpAny_pyIter_tuple hL
      exact ⟨_, rfl, h⟩
theorem sl_call_enumT {prog : Program} {w : World} {A : Around} {E : Value → Shared → Prop} {s : Shared} {l : Addr} {xs : Array Value} {Q : Value → Shared → Prop} (hL : s.heap.IsTuple l xs)
    (h : ∀ h', IsEnum h' (s.heap.objs.size + 1) s.heap.objs.size 0 .none → h'.IsTupleIter s.heap.objs.size l 0 → h'.objs.size = s.heap.objs.size + 2 →
      (∀ b o, s.heap.get? b = some o → h'.get? b = some o) → Q (.ref (s.heap.objs.size + 1)) { s with heap := h' }) :
    wpAny (model prog w) A (call (.type "enumerate") [.ref l]) Q E s := by
  refine callType_new F.called_enumerate (by decide) (F.typeCall_enumerate_1 _) (F.newCall_enumerate_1 _) (fun obj => F.args_object_init_2 obj _) F.entry_enumerate_new (sl_enum_newT l xs) ⟨hL, ?_⟩
  have hz : (s.heap.push { cls := .type "tuple_iterator", data := .fields #[.ref l, .int 0 0] }).objs.size = s.heap.objs.size + 1 := Heap.size_push ..
  show _ ∧ _
  rw [hz]
  have he : IsEnum ((s.heap.push { cls := .type "tuple_iterator", data := .fields #[.ref l, .int 0 0] }).push
      { cls := .type "enumerate", data := .fields #[.none, .bool false, .ref s.heap.objs.size, rawInt 0, .none, .none] }) (s.heap.objs.size + 1) s.heap.objs.size 0 .none := by
    have q := Heap.get?_push_size (s.heap.push { cls := .type "tuple_iterator", data := .fields #[.ref l, .int 0 0] })
      (o := { cls := .type "enumerate", data := .fields #[.none, .bool false, .ref s.heap.objs.size, rawInt 0, .none, .none] }) rfl
    rw [hz] at q
    exact q
  exact ⟨⟨_, he, rfl⟩, h _ he ⟨_, Heap.get?_push_of_some _ (Heap.get?_push_size _ rfl), rfl, rfl⟩ (by rw [Heap.size_push, hz]) fun b o x => Heap.get?_push_of_some _ (Heap.get?_push_of_some _ x)⟩
end PySem
namespace SL
open PySem PySem.Spec PyProof.Rows L2
def IteT (K : PySem.W.Frag) (a : Addr) : It :=
  ⟨fun i H => ∃ (xs : List V) (x : V), SqT K H a xs ∧ xs[i]? = some x, fun i H v H' => ∃ T x, v = .ref T ∧ H T = none ∧ H' = upd H T (.tup [.int (i : Nat), x]) ∧ ∀ xs, SqT K H a xs → xs[i]? = some x, fun i H => ∃ xs : List V, SqT K H a xs ∧ xs.length ≤ i⟩
theorem turn_enumT {P : Program} {w : World} {K : PySem.W.Frag} {elts : List Expr} {kk : Nat} {tpos : Pos} (a e it : Addr) (hae : a ≠ e) (hai : a ≠ it) :
    Turn P w K (.Tuple elts kk tpos) (IteT K a) [e, it] e (fun i h => (∃ old, IsEnum h e it ((i : Nat) : Int) old) ∧ h.IsTupleIter it a i ∧ e ≠ it) where
  mem := by simp
  obj := fun i h st b hb => by
    obtain ⟨⟨old, he⟩, ⟨o, ho, hc, hd⟩, _⟩ := st
    have e' : b = e ∨ b = it := by simpa using hb
    rcases e' with rfl | rfl
    · exact ⟨_, he, fun v q => nomatch q⟩
    · exact ⟨o, ho, fun v q => by rw [hd] at q; cases q⟩
  keep := fun i h h' st k => let ⟨⟨old, he⟩, hi, hne⟩ := st; ⟨⟨old, k e (by simp) _ he⟩, hi.at fun o q => k it (by simp) o q, hne⟩
  item := by
    intro X hP hw hK hc i pins s σ H E I hf st hg
    subst hP hw hK
    obtain ⟨⟨old, he⟩, hit, hne⟩ := st
    obtain ⟨xs, x, hq, hx⟩ := hg
    obtain ⟨its, rv, p, hz⟩ := I.tuple hq
    obtain ⟨u, hu, ru⟩ := rv.get hx
    have hel : e < s.heap.objs.size := Heap.lt_size he
    have hil : it < s.heap.objs.size := by obtain ⟨_, q, _⟩ := hit; exact Heap.lt_size q
    have hlt : i < its.toArray.size := by
      have := (List.getElem?_eq_some_iff.mp hu).1
      simpa using this
    refine wpAny_pyNext_enum_itemD (Draws.tuple (by rw [show X.A.in1.handled = X.A.handled from rfl]; exact I.ok.hd hc) it a hai its.toArray) he ⟨hit, p⟩ hlt hne (by simp [hne, Ne.symm hae]) fun v h' tk hv ho hit' hT hsz hk => ?_
    obtain rfl : v = u := by
      have e1 : its.toArray[i]? = some u := by simpa using hu
      rw [e1] at hv
      exact (Option.some.inj hv).symm
    refine ⟨_, rfl, wpAny_letOwnedTupleGo_enum (s := { s with heap := h', toks := tk + 1 }) ho fun h'' he' sb => ?_⟩
    have hT2 := (sb.2 _ (Nat.ne_of_gt hel)).trans hT
    have new : ObjOk X.prog X.w (upd H s.heap.objs.size (.tup [.int (i : Nat), x])) h'' s.heap.objs.size (.tup [.int (i : Nat), x]) :=
      ⟨by show 2 ≤ sizeLine; decide, _, .cons ⟨_, rfl⟩ (.cons ru .nil), ⟨_, hT2, rfl, _, rfl⟩⟩
    have I1 : Inv X pins σ (upd H s.heap.objs.size (.tup [.int (i : Nat), x])) { s with heap := h'', toks := tk + 1 } :=
      I.turnedNew (ch := [e, it]) (fun b ob hb q => (sb.2 b (fun z => hb (by simp [z]))).trans (hk b ob (fun z => hb (by simp [z])) (fun z => hb (by simp [z])) q)) hf (Nat.le_refl _) new
    refine ⟨.ref s.heap.objs.size, _, I1, rfl, ⟨_, x, rfl, I.hok.fresh (Nat.le_refl _), rfl, fun ys hy => by rw [I.tuple_inj hy hq]; exact hx⟩, ⟨⟨v, ?_⟩, hit'.1.at fun o q => (sb.2 it (Ne.symm hne)).trans q, hne⟩, fun b hb => ?_⟩
    · rw [show ((i + 1 : Nat) : Int) = (i : Int) + 1 by omega]
      exact he'
    · have hb' : b < s.heap.objs.size := by
        have e' : b = e ∨ b = it := by simpa using hb
        rcases e' with z | z <;> (rw [z]; assumption)
      rw [upd_ne (Nat.ne_of_lt hb')]
      exact (hf b hb).1
  done := by
    intro X hP hw hK hc i pins s σ H E I hf st hg
    subst hP hw hK
    obtain ⟨⟨old, he⟩, hit, hne⟩ := st
    obtain ⟨xs, hq, hx⟩ := hg
    obtain ⟨its, rv, p, hz⟩ := I.tuple hq
    obtain ⟨f0, f1, f2, f3, f4, f5⟩ := hf it (by simp)
    have hl := rv.length
    have hT : s.TypeIs (.ref e) "enumerate" := ⟨_, he, rfl⟩
    unfold pyNext
    refine wpAny_bind (wpAny_attempt (wpAny_callSpecial?_slot (name := Str.ofString "__next__") hT F.slot_enumerate_next (wpAny_call_entry F.slot_enumerate_next hT F.entry_enumerate_next ?_ (F.args_enumerate_next_1 _))))
    show wpAny _ _ (field (.ref e) 2 >>= _) _ _ _
    refine wpAny_bind (wpAny_field he rfl (x := .ref it) rfl ?_)
    refine wpAny_bind (RZ.nextOf_tuple_end (by rw [show X.A.in1.in1.handled = X.A.handled from rfl]; exact I.ok.hd hc) hit p (by simp; omega) fun h' x he' hx' => ?_)
    obtain ⟨o, ho, hcl⟩ := hx'
    refine wpAny_bind (wpAny_isInstance (T := "StopIteration") (b := true) ⟨o, ho, hcl⟩ isSubtype_stop ?_)
    exact wpAny_pure ⟨rfl, I.turned (t' := s.toks) (fun b o hb q => he' b o hb q) f0 f1 f3 f4 f5⟩
  self := fun A i s Q E st h => let ⟨⟨_, he⟩, _⟩ := st; wpAny_pyIter_enum he h
def iEnumT (K : PySem.W.Frag) (ta : TA) : TI := fun σ H R => ta σ H fun vs H1 => ∃ a xs, vs = [.ref a] ∧ SqT K H1 a xs ∧ R (IteT K a) H1
theorem pi_enumT {X : Cx} {e : Expr} {ta : TA} {p pos tpos : Pos} {elts : List Expr} {kk : Nat} (hg : Gl X "enumerate") (hm : X.mg "enumerate" = none) (ha : PA X [e] ta) (hs : starEach [e] X.env = [(false, eval e X.env)] := by rfl) :
    PI X (.Tuple elts kk tpos) (.Call (.Name "enumerate" p) [e] [] pos) (iEnumT X.K ta) := by
  refine ⟨fun pins s σ H R I h => ?_⟩
  refine Call_ (ld_blt I hg hm boot_enumerate (PyProof.Rows.callWith_type1 (thn (ha.run pos pins s σ H _ I h) fun us s1 ⟨vs, H1, I1, r1, q1⟩ => ?_) hs rfl))
  obtain ⟨a, xs, ex, hq, q⟩ := q1
  subst ex
  cases r1 with
  | cons r rr =>
    cases rr
    cases r
    obtain ⟨its, rv, p', hz⟩ := I1.tuple hq
    have hla : a < s1.heap.objs.size := by
      obtain ⟨o, ho, _⟩ := p'
      exact Heap.lt_size ho
    refine sl_call_enumT p' fun h' he hit hsz hk => wpAny_pyIter_enum he ?_
    have I2 : Inv X pins σ H1 { s1 with heap := h' } := I1.kept (t' := s1.toks) hk
    refine ⟨s1.heap.objs.size + 1, [s1.heap.objs.size + 1, s1.heap.objs.size], _, _, H1, rfl, I2, turn_enumT a (s1.heap.objs.size + 1) s1.heap.objs.size (Nat.ne_of_lt (Nat.lt_succ_of_lt hla)) (Nat.ne_of_lt hla), ⟨⟨.none, he⟩, hit, Nat.succ_ne_self _⟩, fun b hb => ?_, q⟩
    have hle : s1.heap.objs.size ≤ b := by
      have e' : b = s1.heap.objs.size + 1 ∨ b = s1.heap.objs.size := by simpa using hb
      rcases e' with z | z
      · rw [z]
        exact Nat.le_add_right _ _
      · rw [z]
        exact Nat.le_refl _
    exact I1.fpOk hle (I1.hok.fresh hle)
theorem walk_enumT {K : PySem.W.Frag} {a : Addr} {xs : List V} : Walk (IteT K a) xs.length (fun H => SqT K H a xs) (YPair (fun i => some (.int (i : Nat))) (fun i => xs[i]?)) := by
  refine ⟨fun i _ hi q => ⟨xs, xs[i], q, by simp [hi]⟩, fun _ q => ⟨xs, q, Nat.le_refl _⟩, fun i H v H' _ q y => ?_⟩
  obtain ⟨T, x, h1, h2, h3, h4⟩ := y
  exact ⟨T, .int (i : Nat), x, h1, h2, h3, rfl, h4 xs q⟩
/-! ### of a text -/
def IteS (z : Str) : It :=
  ⟨fun i _ => i < z.cps.size, fun i H v H' => ∃ T c, v = .ref T ∧ H T = none ∧ H' = upd H T (.tup [.int (i : Nat), .str ⟨#[c]⟩]) ∧ z.cps[i]? = some c, fun i _ => z.cps.size ≤ i⟩
theorem turn_enumS {P : Program} {w : World} {K : PySem.W.Frag} {elts : List Expr} {kk : Nat} {tpos : Pos} (z : Str) (t : Tok) (e it : Addr) :
    Turn P w K (.Tuple elts kk tpos) (IteS z) [e, it] e (fun i h => (∃ old, IsEnum h e it ((i : Nat) : Int) old) ∧ h.IsStrIter it (strIterType z) z t i ∧ e ≠ it) where
  mem := by simp
  obj := fun i h st b hb => by
    obtain ⟨⟨old, he⟩, ⟨o, ho, hc, hd⟩, _⟩ := st
    have e' : b = e ∨ b = it := by simpa using hb
    rcases e' with rfl | rfl
    · exact ⟨_, he, fun v q => nomatch q⟩
    · exact ⟨o, ho, fun v q => by rw [hd] at q; cases q⟩
  keep := fun i h h' st k => let ⟨⟨old, he⟩, ⟨o, ho, r⟩, hne⟩ := st; ⟨⟨old, k e (by simp) _ he⟩, ⟨o, k it (by simp) o ho, r⟩, hne⟩
  item := by
    intro X hP hw hK hc i pins s σ H E I hf st hg
    subst hP hw hK
    obtain ⟨⟨old, he⟩, hit, hne⟩ := st
    have hel : e < s.heap.objs.size := Heap.lt_size he
    have hil : it < s.heap.objs.size := by obtain ⟨_, q, _⟩ := hit; exact Heap.lt_size q
    refine wpAny_pyNext_enum_itemD (Draws.text (by rw [show X.A.in1.handled = X.A.handled from rfl]; exact I.ok.hd hc) it z t) he hit hg hne (by simp [hne]) fun v h' tk hv ho hit' hT hsz hk => ?_
    obtain ⟨c, u, hcx, rfl⟩ := hv
    refine ⟨_, rfl, wpAny_letOwnedTupleGo_enum (s := { s with heap := h', toks := tk + 1 }) ho fun h'' he' sb => ?_⟩
    have hT2 := (sb.2 _ (Nat.ne_of_gt hel)).trans hT
    have new : ObjOk X.prog X.w (upd H s.heap.objs.size (.tup [.int (i : Nat), .str ⟨#[c]⟩])) h'' s.heap.objs.size (.tup [.int (i : Nat), .str ⟨#[c]⟩]) :=
      ⟨by show 2 ≤ sizeLine; decide, _, .cons ⟨_, rfl⟩ (.cons ⟨_, rfl⟩ .nil), ⟨_, hT2, rfl, _, rfl⟩⟩
    have I1 : Inv X pins σ (upd H s.heap.objs.size (.tup [.int (i : Nat), .str ⟨#[c]⟩])) { s with heap := h'', toks := tk + 1 } :=
      I.turnedNew (ch := [e, it]) (fun b ob hb q => (sb.2 b (fun z => hb (by simp [z]))).trans (hk b ob (fun z => hb (by simp [z])) (fun z => hb (by simp [z])) q)) hf (Nat.le_refl _) new
    refine ⟨.ref s.heap.objs.size, _, I1, rfl, ⟨_, c, rfl, I.hok.fresh (Nat.le_refl _), rfl, hcx⟩, ⟨⟨.str ⟨#[c]⟩ u, ?_⟩, ?_, hne⟩, fun b hb => ?_⟩
    · rw [show ((i + 1 : Nat) : Int) = (i : Int) + 1 by omega]
      exact he'
    · obtain ⟨o, q, r⟩ := hit'
      exact ⟨o, (sb.2 it (Ne.symm hne)).trans q, r⟩
    · have hb' : b < s.heap.objs.size := by
        have e' : b = e ∨ b = it := by simpa using hb
        rcases e' with z | z <;> (rw [z]; assumption)
      rw [upd_ne (Nat.ne_of_lt hb')]
      exact (hf b hb).1
  done := by
    intro X hP hw hK hc i pins s σ H E I hf st hg
    subst hP hw hK
    obtain ⟨⟨old, he⟩, hit, hne⟩ := st
    obtain ⟨f0, f1, f2, f3, f4, f5⟩ := hf it (by simp)
    have hx : z.cps[i]? = none := Array.getElem?_eq_none hg
    have hT : s.TypeIs (.ref e) "enumerate" := ⟨_, he, rfl⟩
    unfold pyNext
    refine wpAny_bind (wpAny_attempt (wpAny_callSpecial?_slot (name := Str.ofString "__next__") hT F.slot_enumerate_next (wpAny_call_entry F.slot_enumerate_next hT F.entry_enumerate_next ?_ (F.args_enumerate_next_1 _))))
    show wpAny _ _ (field (.ref e) 2 >>= _) _ _ _
    refine wpAny_bind (wpAny_field he rfl (x := .ref it) rfl ?_)
    have hh : X.A.in1.in1.handled = none := by rw [show X.A.in1.in1.handled = X.A.handled from rfl]; exact I.ok.hd hc
    cases ha : z.cps.all (· < 128)
    · have hit2 : s.heap.IsStrIter it "str_iterator" z t i := by simpa [strIterType, ha] using hit
      refine wpAny_bind (wpAny_nextOf_wide_end hh hit2 hx fun h' x he' hx' => ?_)
      obtain ⟨o, ho, hcl⟩ := hx'
      refine wpAny_bind (wpAny_isInstance (T := "StopIteration") (b := true) ⟨o, ho, hcl⟩ isSubtype_stop ?_)
      exact wpAny_pure ⟨rfl, I.turned (t' := s.toks) (fun b o hb q => he' b o hb q) f0 f1 f3 f4 f5⟩
    · have hit2 : s.heap.IsStrIter it "str_ascii_iterator" z t i := by simpa [strIterType, ha] using hit
      refine wpAny_bind (wpAny_nextOf_ascii_end hh hit2 hx fun h' x he' hx' => ?_)
      obtain ⟨o, ho, hcl⟩ := hx'
      refine wpAny_bind (wpAny_isInstance (T := "StopIteration") (b := true) ⟨o, ho, hcl⟩ isSubtype_stop ?_)
      exact wpAny_pure ⟨rfl, I.turned (t' := s.toks) (fun b o hb q => he' b o hb q) f0 f1 f3 f4 f5⟩
  self := fun A i s Q E st h => let ⟨⟨_, he⟩, _⟩ := st; wpAny_pyIter_enum he h
def iEnumS (ta : TA) : TI := fun σ H R => ta σ H fun vs H1 => ∃ z, vs = [.str z] ∧ R (IteS z) H1
theorem pi_enumS {X : Cx} {e : Expr} {ta : TA} {p pos tpos : Pos} {elts : List Expr} {kk : Nat} (hg : Gl X "enumerate") (hm : X.mg "enumerate" = none) (ha : PA X [e] ta) (hs : starEach [e] X.env = [(false, eval e X.env)] := by rfl) :
    PI X (.Tuple elts kk tpos) (.Call (.Name "enumerate" p) [e] [] pos) (iEnumS ta) := by
  refine ⟨fun pins s σ H R I h => ?_⟩
  refine Call_ (ld_blt I hg hm boot_enumerate (PyProof.Rows.callWith_type1 (thn (ha.run pos pins s σ H _ I h) fun us s1 ⟨vs, H1, I1, r1, q1⟩ => ?_) hs rfl))
  obtain ⟨z, ex, q⟩ := q1
  subst ex
  cases r1 with
  | cons r rr =>
    cases rr
    obtain ⟨t, rfl⟩ := r
    refine call_enumerate_str fun h' he hit hsz hk => wpAny_pyIter_enum he ?_
    have I2 : Inv X pins σ H1 { s1 with heap := h' } := I1.kept (t' := s1.toks) hk
    refine ⟨s1.heap.objs.size + 1, [s1.heap.objs.size + 1, s1.heap.objs.size], _, _, H1, rfl, I2, turn_enumS z t (s1.heap.objs.size + 1) s1.heap.objs.size, ⟨⟨.none, he⟩, hit, Nat.succ_ne_self _⟩, fun b hb => ?_, q⟩
    have hle : s1.heap.objs.size ≤ b := by
      have e' : b = s1.heap.objs.size + 1 ∨ b = s1.heap.objs.size := by simpa using hb
      rcases e' with z | z
      · rw [z]
        exact Nat.le_add_right _ _
      · rw [z]
        exact Nat.le_refl _
    exact I1.fpOk hle (I1.hok.fresh hle)
theorem walk_enumS {z : Str} : Walk (IteS z) z.cps.size (fun _ => True) (YPair (fun i => some (.int (i : Nat))) (fun i => z.cps[i]?.map fun c => V.str ⟨#[c]⟩)) := by
  refine ⟨fun i _ hi _ => hi, fun _ _ => Nat.le_refl _, fun i H v H' _ _ y => ?_⟩
  obtain ⟨T, c, h1, h2, h3, h4⟩ := y
  exact ⟨T, .int (i : Nat), .str ⟨#[c]⟩, h1, h2, h3, rfl, by show Option.map _ (z.cps[i]?) = _; rw [h4]; rfl⟩
end SL
/-! Data of any kind, and what the program and a law ask of it. -/
namespace SL
open PySem PySem.Spec PyProof.Rows L2
inductive D where
  | non
  | bl (b : Bool)
  | int (i : Int)
  | str (s : Str)
  | lst (ds : List D)
  | tup (ds : List D)
  | dic
mutual
inductive Dt (K : PySem.W.Frag) (H : Hp) : V → D → Prop
  | non : Dt K H .non .non
  | bl (b : Bool) : Dt K H (.bl b) (.bl b)
  | int (i : Int) : Dt K H (.int i) (.int i)
  | str (s : Str) (z : s.length ≤ 100000) : Dt K H (.str s) (.str s)
  | lst {a : Addr} {vs : List V} {ds : List D} (h : SqL K H a vs) (k : DtAll K H vs ds) (z : ds.length ≤ 100000) : Dt K H (.ref a) (.lst ds)
  | tup {a : Addr} {vs : List V} {ds : List D} (h : SqT K H a vs) (k : DtAll K H vs ds) (z : ds.length ≤ 100000) : Dt K H (.ref a) (.tup ds)
  | dic {a : Addr} {kvs : List (Key × V)} (h : H a = some (.dK kvs)) : Dt K H (.ref a) .dic
inductive DtAll (K : PySem.W.Frag) (H : Hp) : List V → List D → Prop
  | nil : DtAll K H [] []
  | cons {v : V} {d : D} {vs : List V} {ds : List D} (h : Dt K H v d) (t : DtAll K H vs ds) : DtAll K H (v :: vs) (d :: ds)
end
def tyD : D → String
  | .non => "NoneType"
  | .bl _ => "bool"
  | .int _ => "int"
  | .str _ => "str"
  | .lst _ => "list"
  | .tup _ => "tuple"
  | .dic => "dict"
section
variable {K : PySem.W.Frag} {H H' : Hp}
mutual
theorem Dt.same (s : Same H H') : ∀ {v : V} {d : D}, Dt K H v d → Dt K H' v d
  | _, _, .non => .non
  | _, _, .bl b => .bl b
  | _, _, .int i => .int i
  | _, _, .str x z => .str x z
  | _, _, .lst h a z => .lst (s.seq h) (DtAll.same s a) z
  | _, _, .tup h a z => .tup (Same.seqT s h) (DtAll.same s a) z
  | _, _, .dic h => .dic (s _ _ h)
theorem DtAll.same (s : Same H H') : ∀ {vs : List V} {ds : List D}, DtAll K H vs ds → DtAll K H' vs ds
  | _, _, .nil => .nil
  | _, _, .cons h t => .cons (Dt.same s h) (DtAll.same s t)
end
theorem Dt.knw {v : V} {d : D} (h : Dt K H v d) : Knw K H v (tyD d) := by
  cases h with
  | non => exact .non
  | bl b => exact .bl b
  | int i => exact .int i
  | str s _ => exact .str s
  | lst h _ _ => exact .lst h
  | tup h _ _ => exact .tup h
  | dic h => exact .dic h
theorem DtAll.length : ∀ {vs : List V} {ds : List D}, DtAll K H vs ds → vs.length = ds.length
  | _, _, .nil => rfl
  | _, _, .cons _ t => congrArg (· + 1) (DtAll.length t)
theorem DtAll.get : ∀ {vs : List V} {ds : List D} {i : Nat} {v : V}, DtAll K H vs ds → vs[i]? = some v → ∃ d, ds[i]? = some d ∧ Dt K H v d
  | _, _, _, _, .nil, h => by simp at h
  | _, _, 0, _, .cons h _, e => by
    simp at e
    subst e
    exact ⟨_, rfl, h⟩
  | _, _, i + 1, _, .cons _ t, e => by
    obtain ⟨d, h1, h2⟩ := DtAll.get (i := i) t (by simpa using e)
    exact ⟨d, by simpa using h1, h2⟩
theorem DtAll.got : ∀ {vs : List V} {ds : List D} {i : Nat} {d : D}, DtAll K H vs ds → ds[i]? = some d → ∃ v, vs[i]? = some v ∧ Dt K H v d
  | _, _, _, _, .nil, h => by simp at h
  | _, _, 0, _, .cons h _, e => by
    simp at e
    subst e
    exact ⟨_, rfl, h⟩
  | _, _, i + 1, _, .cons _ t, e => by
    obtain ⟨v, h1, h2⟩ := DtAll.got (i := i) t (by simpa using e)
    exact ⟨v, by simpa using h1, h2⟩
theorem DtAll.append {ws : List V} {es : List D} (b : DtAll K H ws es) : ∀ {vs : List V} {ds : List D}, DtAll K H vs ds → DtAll K H (vs ++ ws) (ds ++ es)
  | _, _, .nil => b
  | _, _, .cons h t => .cons h (DtAll.append b t)
theorem DtAll.snoc {v : V} {d : D} (h : Dt K H v d) {vs : List V} {ds : List D} (t : DtAll K H vs ds) : DtAll K H (vs ++ [v]) (ds ++ [d]) := DtAll.append (.cons h .nil) t
theorem DtAll.drop : ∀ {vs : List V} {ds : List D} (n : Nat), DtAll K H vs ds → DtAll K H (vs.drop n) (ds.drop n)
  | _, _, 0, h => h
  | _, _, _ + 1, .nil => .nil
  | _, _, n + 1, .cons _ t => DtAll.drop n t
theorem DtAll.take : ∀ {vs : List V} {ds : List D} (n : Nat), DtAll K H vs ds → DtAll K H (vs.take n) (ds.take n)
  | _, _, 0, _ => .nil
  | _, _, _ + 1, .nil => .nil
  | _, _, n + 1, .cons h t => .cons h (DtAll.take n t)
end
/-! ### what is asked -/
def itemsD : D → Option (List D)
  | .lst ds => some ds
  | .tup ds => some ds
  | _ => none
def withinD (lo hi : Int) : D → Bool
  | .int i => decide (lo ≤ i) && decide (i ≤ hi)
  | _ => false
/-- s stands in S -/
def inS (S s : Str) : Bool := !(Builtin.Str.occurrences S s 0 S.length 1).isEmpty
def signD (S : Str) : D → Bool
  | .str s => decide (s.length = 1) && inS S s
  | _ => false
def ltD : D → D → Bool
  | .int i, .int j => decide (i < j)
  | .str s, .str t => decide (s.cps.toList < t.cps.toList)
  | _, _ => false
def isIntD : D → Bool
  | .int _ => true
  | _ => false
def isStrD : D → Bool
  | .str _ => true
  | _ => false
def homog (ds : List D) : Bool := ds.all isIntD || ds.all isStrD
/-- the answers of x < y for neighbours -/
def steps : List D → List Bool
  | x :: y :: r => ltD x y :: steps (y :: r)
  | _ => []
def rising (ds : List D) : Bool := (steps ds).all id
def signsOk (S : Str) (d : D) : Bool := match itemsD d with
  | none => false
  | some ds => decide (1 ≤ ds.length) && decide (ds.length ≤ 10) && ds.all (signD S) && rising ds
def statesOk (many : Int) (ds : List D) : Bool := ds.all (withinD 0 (many - 1))
def lineOk (width : Nat) (many : Int) (d : D) : Bool := match itemsD d with
  | none => false
  | some rs => decide (rs.length = width) && statesOk many rs
def movesOk (width : Nat) (d : D) : Bool := match itemsD d with
  | none => false
  | some ds => decide (1 ≤ ds.length) && decide (ds.length ≤ 40) && ds.all (lineOk width ds.length)
def goodOk (many : Int) (d : D) : Bool := match itemsD d with
  | none => false
  | some ds => statesOk many ds && rising ds
theorem signD_str {S : Str} {ds : List D} (h : ds.all (signD S) = true) : homog ds = true := by
  unfold homog
  have : ds.all isStrD = true := by
    rw [List.all_eq_true] at h ⊢
    intro d hd
    have := h d hd
    cases d <;> first | rfl | cases this
  rw [this, Bool.or_true]
theorem states_int {m : Int} {ds : List D} (h : statesOk m ds = true) : homog ds = true := by
  unfold homog
  unfold statesOk at h
  have : ds.all isIntD = true := by
    rw [List.all_eq_true] at h ⊢
    intro d hd
    have := h d hd
    cases d <;> first | rfl | cases this
  rw [this, Bool.true_or]
theorem steps_get : ∀ {ds : List D} {i : Nat} {x y : D}, ds[i]? = some x → ds[i + 1]? = some y → (steps ds)[i]? = some (ltD x y)
  | [], _, _, _, h, _ => by simp at h
  | [_], 0, _, _, _, h => by simp at h
  | [_], _ + 1, _, _, h, _ => by simp at h
  | a :: b :: r, 0, x, y, h1, h2 => by
    simp at h1 h2
    subst h1 h2
    rfl
  | a :: b :: r, i + 1, x, y, h1, h2 => by
    have h1' : (b :: r)[i]? = some x := by simpa using h1
    have h2' : (b :: r)[i + 1]? = some y := by simpa using h2
    have := steps_get (ds := b :: r) (i := i) h1' h2'
    simpa [steps] using this
theorem steps_len : ∀ ds : List D, (steps ds).length = ds.length - 1
  | [] => rfl
  | [_] => rfl
  | a :: b :: r => by
    have := steps_len (b :: r)
    simp only [steps, List.length_cons] at this ⊢
    omega
/-! ### x < y of two ints or two texts; the any-of of list and tuple -/
section
variable {X : Cx}
def rLtD : R2 := fun x y H Q => (∃ i j, x = .int i ∧ y = .int j ∧ Q (.bl (decide (i < j))) H) ∨ ∃ i j, x = .str i ∧ y = .str j ∧ Q (.bl (decide (i.cps.toList < j.cps.toList))) H
theorem op_ltD : OpR X (compareOp .Lt) rLtD := by
  intro pins s σ H x y v u Q I rx ry h
  rcases h with ⟨i, j, h1, h2, q⟩ | ⟨i, j, h1, h2, q⟩
  · exact op_lt pins s σ H x y v u Q I rx ry ⟨i, j, h1, h2, q⟩
  · exact op_lt_str pins s σ H x y v u Q I rx ry ⟨i, j, h1, h2, q⟩
end
theorem kitAny_two {K : PySem.W.Frag} {T A B : String} {a b : Bool} (h1 : PySem.W.kitOne K (.type T) (.type A) = some a) (h2 : PySem.W.kitOne K (.type T) (.type B) = some b) : PySem.W.kitAny K (.type T) [.type A, .type B] = some (a || b) := by
  cases a with
  | true => exact kitAny_cons h1 (fun z => nomatch z) fun _ => rfl
  | false =>
    refine kitAny_cons h1 (fun _ => ?_) fun z => nomatch z
    cases b with
    | true => exact kitAny_cons h2 (fun z => nomatch z) fun _ => rfl
    | false => exact kitAny_cons h2 (fun _ => kitAny_nil) fun z => nomatch z
/-- a dict's comprehension over any walk -/
theorem dc_it {J : It} {n : Nat} {G : Hp → Prop} {Y : Nat → Hp → V → Hp → Prop} (w : Walk J n G Y) {g : TG} {tt : TT} {tk tv : TE} {vs : List Nat} {σ : L2.St} {H1 : Hp} {D : Addr} {Qd : Hp → Prop} (Pv : Nat → Hp → Prop) (h0 : Pv 0 (upd H1 D (.dK []))) (hG : ∀ i H, i ≤ n → Pv i H → G H)
    (hs : ∀ i x H H', i < n → Pv i H → Y i H x H' → g x (wipe σ vs) H' fun σ2 H2 => wipe σ2 vs = wipe σ vs ∧ tt σ2 H2 fun b H3 =>
      if b = true then tk σ2 H3 fun y H4 => tv σ2 H4 fun z H5 => ∃ kvs k, y = kV k ∧ H5 D = some (.dK kvs) ∧ kvs.length < sizeLine ∧ Pv (i + 1) (upd H5 D (.dK (putK kvs k z))) else Pv (i + 1) H3) (hd : ∀ H, Pv n H → Qd H) :
    ∃ W : Nat → Nat → Hp → Prop, (∃ m, W 0 m (upd H1 D (.dK []))) ∧ ∀ i m H, W i m H →
      (J.stop i H ∧ Qd H) ∨ (J.go i H ∧ ∃ Nx : Hp → Prop, (∀ H', Nx H' → ∃ m', m' < m ∧ W (i + 1) m' H') ∧ ∀ x H', J.yld i H x H' → g x (wipe σ vs) H' fun σ2 H2 => wipe σ2 vs = wipe σ vs ∧ tt σ2 H2 fun b H3 =>
        if b = true then tk σ2 H3 fun y H4 => tv σ2 H4 fun z H5 => ∃ kvs k, y = kV k ∧ H5 D = some (.dK kvs) ∧ kvs.length < sizeLine ∧ Nx (upd H5 D (.dK (putK kvs k z))) else Nx H3) := by
  refine ⟨fun i m H => m = n - i ∧ i ≤ n ∧ Pv i H, ⟨n, rfl, Nat.zero_le _, h0⟩, fun i m H hW => ?_⟩
  obtain ⟨rfl, hi, p⟩ := hW
  have q := hG i H hi p
  rcases Nat.lt_or_ge i n with hlt | hge
  · exact .inr ⟨w.goes i H hlt q, Pv (i + 1), fun H' p' => ⟨n - (i + 1), by omega, rfl, hlt, p'⟩, fun x H' y => hs i x H H' hlt p (w.yields i H x H' hlt q y)⟩
  · have e : i = n := by omega
    subst e
    exact .inl ⟨w.stops H q, hd H p⟩
/-- t[1:] -/
theorem cut_one (xs : List V) : cutV xs (some 1) none = xs.drop 1 := by
  unfold cutV
  rw [HT.sIx_none, show HT.sIx xs.length 0 (some 1) = min 1 xs.length from HT.sIx_nat _ _ 1]
  by_cases h : xs.length = 0
  · rw [List.eq_nil_of_length_eq_zero h]
    rfl
  · rw [show min 1 xs.length = 1 by omega, List.take_of_length_le (by rw [List.length_drop]; exact Nat.le_refl _)]
theorem lt_of {K : PySem.W.Frag} {H : Hp} {x y : V} {c d : D} {Q : VK} (h1 : Dt K H x c) (h2 : Dt K H y d) (h : (isIntD c && isIntD d || isStrD c && isStrD d) = true) (q : Q (.bl (ltD c d)) H) : rLtD x y H Q := by
  cases h1 <;> cases h2 <;> first | cases h | skip
  · exact .inl ⟨_, _, rfl, rfl, q⟩
  · exact .inr ⟨_, _, rfl, rfl, q⟩
theorem homog_two {ds : List D} {i j : Nat} {c d : D} (h : homog ds = true) (h1 : ds[i]? = some c) (h2 : ds[j]? = some d) : (isIntD c && isIntD d || isStrD c && isStrD d) = true := by
  unfold homog at h
  rw [Bool.or_eq_true, List.all_eq_true, List.all_eq_true] at h
  rcases h with h | h
  · rw [h c (List.mem_of_getElem? h1), h d (List.mem_of_getElem? h2)]
    rfl
  · rw [h c (List.mem_of_getElem? h1), h d (List.mem_of_getElem? h2), Bool.and_self, Bool.or_true]
end SL
/-! C(..) in the body of a try: what __init__ raises goes to the clauses. -/
namespace SL
open PySem PySem.Spec PyProof.Rows L2
section
variable {X : Cx} {CX : CXT} {k j : Nat} {f C : Addr} {fd : FuncData} {ps : List Str} {sp : Sp} {E : L2.St → XK} {x : Str} {p pos : Pos} {e : Expr} {es : List Expr} {t : TA}
theorem made_runs {pins : List (Addr × Obj)} {σ : L2.St} {H : Hp} {s : Shared} {Q : VK} {us : List Value} {vs : List V} (M : Mk X.K C f) (F : FnOk X.prog X.w X.K X.mg X.base CX k f fd ps sp) (hr : Room (k + 1) X.A) (hb : Binds X.K fd ps []) (hx : PassesAt CX X σ (E σ)) (I : Inv X pins σ H s) (r : Vals vs us)
    (h : ∀ o dx, H o = none → H dx = none → dx ≠ o → sp (.ref o :: vs) (upd (upd H dx (.own o)) o (.ins C dx [])) (fun v H2 => v = .non ∧ Q (.ref o) H2) (E σ)) : wpAny (model X.prog X.w) X.A (call (.ref C) us) (EP X pins σ Q) X.xe s := by
  have q0 := h (s.heap.objs.size + 1) s.heap.objs.size (I.hok.fresh (Nat.le_succ _)) (I.hok.fresh (Nat.le_refl _)) (Nat.ne_of_lt (Nat.lt_succ_self _))
  have J := Inv.made (C := C) I
  have rr : Vals (V.ref (s.heap.objs.size + 1) :: vs) (Value.ref (s.heap.objs.size + 1) :: us) := .cons rfl r
  have lens : (Value.ref (s.heap.objs.size + 1) :: us ++ []).length = ps.length := by
    rw [List.append_nil, ← rr.length]
    exact F.len _ _ _ _ q0
  have bd := hb _ (Value.ref (s.heap.objs.size + 1) :: us) J.kIn lens
  rw [List.append_nil] at bd
  refine wpAny_call (make_map (f := f) I.kIn M.makes M.init (beq_iff_eq.mp M.fn) (codeAny_mono (F.run _ X.stack _ _ ⟨Value.ref (s.heap.objs.size + 1) :: us, []⟩ _ _ _ (E σ) (hr.make C us []) (J.env0.make C us []) bd rr q0) fun o s' ho => ?_))
  cases o with
  | error z => exact hx pins _ _ z s' J ho
  | ok fl =>
    cases fl with
    | ret u =>
      obtain ⟨v, H', I3, rv, ev, q3⟩ := J.after ho
      subst ev
      exact ⟨rv, ⟨V.ref (s.heap.objs.size + 1), H', I3, rfl, q3⟩⟩
    | next => exact False.elim ho
    | brk => exact False.elim ho
    | cont => exact False.elim ho
def tMakeS (C : Addr) (sp : Sp) (E : L2.St → XK) (t : TA) : TE := fun σ H Q => t σ H fun vs H1 => ∀ o dx, H1 o = none → H1 dx = none → dx ≠ o → sp (.ref o :: vs) (upd (upd H1 dx (.own o)) o (.ins C dx [])) (fun v H2 => v = .non ∧ Q (.ref o) H2) (E σ)
theorem pe_makeS (M : Mk X.K C f) (F : FnOk X.prog X.w X.K X.mg X.base CX k f fd ps sp) (hr : Room (k + 1) X.A) (hg : Gl X x) (hm : X.mg x = some (.ref C)) (hb : Binds X.K fd ps []) (hx : ∀ σ, PassesAt CX X σ (E σ)) (ha : PA X (e :: es) t) (hdb : (x == ("__debug__" : Str)) = false := by decide)
    (he : starEach (e :: es) X.env = (false, eval e X.env) :: starEach es X.env := by rfl) (hpl : (backTo pos (starEach es X.env)).any (·.1) = false := by rfl) : PE X (.Call (.Name x p) (e :: es) [] pos) (tMakeS C sp E t) := by
  refine ⟨fun pins s σ H Q I h => ?_⟩
  refine wpAny_Call_Name_kw (ld_glob I hg hm ?_ hdb)
  exact PySem.W.callWith_K (h₀ := X.base) I.ok.mod.kin M.kp (thn (ha.run pos pins s σ H _ I h) fun us s1 ⟨vs, H1, I1, r, q⟩ => ⟨I1.kIn, made_runs M F hr hb (hx σ) I1 r q⟩) he hpl
end
section
variable {X : Cx} {tg : Expr}
/-- over a list or a tuple, whichever it is -/
def iAny (K : PySem.W.Frag) (tl : TE) : TI := fun σ H R => tl σ H fun x H1 => ∃ a xs, x = .ref a ∧ (SqL K H1 a xs ∨ SqT K H1 a xs) ∧ ∀ J G, Walk J xs.length G (YAt xs) → (∀ H', Same H1 H' → G H') → R J H1
theorem pi_any {l : Expr} {tl : TE} (hl : PE X l tl) : PI X tg l (iAny X.K tl) := by
  refine ⟨fun pins s σ H R I h => thn (hl.run pins s σ H _ I h) fun v s1 hv => ?_⟩
  obtain ⟨_, H1, I1, r1, a, xs, rfl, hs, q⟩ := hv
  cases r1
  have fp : ∀ b, b ∈ [s1.heap.objs.size] → FpOk X pins H1 b := fun b hb => by
    rw [List.mem_singleton.mp hb]
    exact I1.fpOk (Nat.le_refl _) (I1.hok.fresh (Nat.le_refl _))
  have up : ∀ o : Obj, Inv X pins σ H1 { s1 with heap := s1.heap.push o } := fun o => I1.kept (t' := s1.toks) fun b z e => Heap.get?_push_of_some _ e
  rcases hs with hq | hq
  · obtain ⟨its, _, p, _⟩ := I1.list hq
    exact wpAny_pyIter_list p.isList ⟨_, _, _, _, H1, rfl, up _, turn_list a _, ⟨_, Heap.get?_push_size _ rfl, rfl, rfl⟩, fp, q _ _ walk_list fun H' s => s.seq hq⟩
  · obtain ⟨its, _, p, _⟩ := I1.tuple hq
    exact wpAny_pyIter_tuple (show s1.heap.IsTuple a its.toArray from p) ⟨_, _, _, _, H1, rfl, up _, turn_tuple a _, ⟨_, Heap.get?_push_size _ rfl, rfl, rfl⟩, fp, q _ _ walk_tup fun H' s => Same.seqT s hq⟩
end
section
variable {X : Cx} {tg : Expr}
theorem call_listOfK (K : PySem.W.Frag) (h : X.K = K := by rfl) : CallR X (.type "list") (fun xs H Q => ∃ p ys, xs = [.ref p] ∧ (SqL K H p ys ∨ SqT K H p ys) ∧ ∀ l, H l = none → Q (.ref l) (upd H l (.lst ys))) := by
  subst h
  exact call_list_of
theorem pi_listK {l : Expr} {tl : TE} (K : PySem.W.Frag) (hl : PE X l tl) (h : X.K = K := by rfl) : PI X tg l (iList K tl) := by
  subst h
  exact pi_list hl
end
/-- the scope of the comprehension that the j-th statement assigns -/
def asgScope (s : Stmt) (j : Nat) : Scope := match (defBody s).getD j (.Pass ⟨0, 0, 0, 0⟩) with
  | .Assign _ (.ListComp _ _ sc _) _ => sc
  | _ => { kind := .function, names := [], isGenerator := false, isCoroutine := false }
end SL
/-! list(text); texts of one sign, drawn and sorted. -/
namespace SL
open PySem PySem.Spec PyProof.Rows L2
/-- the text of one sign -/
abbrev ch (c : Nat) : Str := ⟨#[c]⟩
abbrev chV (c : Nat) : V := .str (ch c)
theorem vals_at : ∀ {vs : List V} {us : List Value}, vs.length = us.length → (∀ (i : Nat) (v : V) (u : Value), vs[i]? = some v → us[i]? = some u → RelV v u) → Vals vs us
  | [], [], _, _ => .nil
  | [], _ :: _, e, _ => by cases e
  | _ :: _, [], e, _ => by cases e
  | v :: vs, u :: us, e, h => .cons (h 0 v u rfl rfl) (vals_at (by simpa using e) fun i x y hx hy => h (i + 1) x y (by simpa using hx) (by simpa using hy))
section
variable {X : Cx}
theorem call_list_txt (hc : X.calm = true) : CallR X (.type "list") (fun xs H Q => ∃ z : Str, xs = [.str z] ∧ z.cps.size ≤ 100000 ∧ ∀ l, H l = none → Q (.ref l) (upd H l (.lst (z.cps.toList.map chV)))) := by
  intro pins s σ H xs us Q I r h
  obtain ⟨z, rfl, hz, q⟩ := h
  obtain ⟨u, rfl, t, rfl⟩ := vals1 r
  have hz' : z.cps.size ≤ sizeLine := Nat.le_of_lt (lineN hz)
  refine call_list_str (I.ok.hd hc) z t (fun h' tk acc c' hk hl hi => ?_) hz'
  have hs := hi.1
  refine ⟨.ref _, _, I.laid (t' := tk) (o := .lst (z.cps.toList.map chV)) hk (Nat.le_refl _) ?_, rfl, q _ (I.hok.fresh (Nat.le_refl _))⟩
  refine ⟨by rw [List.length_map, Array.length_toList]; exact hz', acc.toList, c', vals_at (by rw [List.length_map, Array.length_toList, Array.length_toList, hs]) fun i v u hv hu => ?_, hl⟩
  rw [List.getElem?_map, Array.getElem?_toList] at hv
  rw [Array.getElem?_toList] at hu
  obtain ⟨c, t', hc', rfl⟩ := hi.2 i u hu
  rw [hc'] at hv
  cases hv
  exact ⟨t', rfl⟩
end
theorem ch_inj {a b : Nat} (h : ch a = ch b) : a = b := by
  have : (ch a).cps.toList = (ch b).cps.toList := by rw [h]
  simpa using this
theorem perm_ch {cs : List Nat} {ys : List Str} (h : ys.Perm (cs.map ch)) : ∃ ds : List Nat, ds.Perm cs ∧ ys = ds.map ch := by
  refine ⟨ys.map fun s => s.cps.toList.headD 0, ?_, ?_⟩
  · have := h.map fun s => s.cps.toList.headD 0
    rw [List.map_map] at this
    have e : (fun s : Str => s.cps.toList.headD 0) ∘ ch = id := by funext c; rfl
    rw [e, List.map_id] at this
    exact this
  · rw [List.map_map]
    have : ∀ y ∈ ys, (ch ∘ fun s : Str => s.cps.toList.headD 0) y = id y := fun y hy => by
      obtain ⟨c, _, rfl⟩ := List.mem_map.mp (h.mem_iff.mp hy)
      rfl
    rw [List.map_congr_left this, List.map_id]
theorem one_lt {a b : Nat} : ([a] < [b]) ↔ a < b := by simp [List.cons_lt_cons_iff]
theorem sorted_up : ∀ {cs : List Nat}, cs.Nodup → PyProof.Rows.sortedS (cs.map ch) = true → rising (cs.map fun c => D.str (ch c)) = true
  | [], _, _ => rfl
  | [_], _, _ => rfl
  | a :: b :: r, nd, h => by
    have h' : (!PySem.Spec.ltCps [b] [a] && PyProof.Rows.sortedS ((b :: r).map ch)) = true := h
    rw [Bool.and_eq_true, PyProof.Rows.ltCps_eq, Bool.not_eq_true', decide_eq_false_iff_not, one_lt] at h'
    have ih := sorted_up (cs := b :: r) (List.nodup_cons.mp nd).2 h'.2
    have ne : a ≠ b := fun e => (List.nodup_cons.mp nd).1 (by rw [e]; exact List.mem_cons_self ..)
    have lt : ltD (.str (ch a)) (.str (ch b)) = true := decide_eq_true (one_lt.mpr (by omega))
    unfold rising at ih ⊢
    show (ltD (.str (ch a)) (.str (ch b)) :: steps ((b :: r).map fun c => D.str (ch c))).all id = true
    rw [List.all_cons, ih, lt]
    rfl
theorem sign_ch {S : Str} {c : Nat} (h : c ∈ S.cps.toList) : signD S (.str (ch c)) = true := by
  show (decide ((ch c).length = 1) && inS S (ch c)) = true
  have e : inS S (ch c) = decide (c ∈ S.cps.toList) := PySem.StrLaws.found_one S c
  rw [e, decide_eq_true h]
  rfl
theorem signs_ch {S : Str} {cs : List Nat} (h : ∀ c ∈ cs, c ∈ S.cps.toList) : (cs.map fun c => D.str (ch c)).all (signD S) = true := by
  rw [List.all_eq_true]
  intro d hd
  obtain ⟨c, hc, rfl⟩ := List.mem_map.mp hd
  exact sign_ch (h c hc)
theorem dts_ch {K : PySem.W.Frag} {H : Hp} : ∀ cs : List Nat, DtAll K H (cs.map chV) (cs.map fun c => D.str (ch c))
  | [] => .nil
  | c :: r => .cons (.str _ (show 1 ≤ 100000 by decide)) (dts_ch r)
theorem map_erase {α β : Type} (f : α → β) : ∀ (l : List α) (k : Nat), (l.map f).eraseIdx k = (l.eraseIdx k).map f
  | [], _ => rfl
  | _ :: _, 0 => rfl
  | x :: r, k + 1 => congrArg (f x :: ·) (map_erase f r k)
theorem erase_perm {α : Type} : ∀ {l : List α} {k : Nat} {y : α}, l[k]? = some y → (y :: l.eraseIdx k).Perm l
  | [], _, _, h => by simp at h
  | x :: r, 0, y, h => by
    simp at h
    subst h
    exact List.Perm.refl _
  | x :: r, k + 1, y, h => by
    have ih := erase_perm (l := r) (k := k) (y := y) (by simpa using h)
    show (y :: x :: r.eraseIdx k).Perm (x :: r)
    exact (List.Perm.swap x y _).trans (ih.cons x)
end SL
/-! sorted(texts, reverse=..), any number of them. -/
namespace SL
open PySem PySem.Spec PyProof.Rows L2 SrtO Srt
def sv : Value → List Nat
  | .str s _ => s.cps.toList
  | _ => []
def ltSv (v u : Value) : Bool := decide (sv v < sv u)
theorem swo_sv : Swo ltSv := by
  refine ⟨fun x y h => ?_, fun x y z h1 h2 => ?_⟩
  · have a := of_decide_eq_true (p := sv x < sv y) h
    exact decide_eq_false (p := sv y < sv x) (List.lt_asymm a)
  · have a : sv x ≤ sv y := of_decide_eq_false (p := sv y < sv x) h1
    have b : sv y ≤ sv z := of_decide_eq_false (p := sv z < sv y) h2
    exact decide_eq_false (p := sv z < sv x) (List.le_trans a b)
theorem strs_mem : ∀ {vs : List Value} {ss : List Str}, StrsAre vs ss → ∀ v ∈ vs, ∃ i t, v = Value.str i t
  | _, _, .nil, v, h => absurd h (by simp)
  | _, _, .cons n t r, v, h => by
    rcases List.mem_cons.mp h with e | h
    · exact ⟨n, t, e⟩
    · exact strs_mem r v h
section
variable {prog : Program} {w : World} {A : Around} {E : Value → Shared → Prop} {s : Shared}
theorem strs_cmp {vs : List Value} {ss : List Str} (hI : StrsAre vs ss) : Cmp prog w A s oneType' (fun p => p.1 ∈ vs) (lt2 ltSv) := by
  intro p q hm hm'
  obtain ⟨a, t, e⟩ := strs_mem hI _ hm
  obtain ⟨b, u, e'⟩ := strs_mem hI _ hm'
  show wpAny (model prog w) A (keyLt' oneType' p.1 q.1) (fun r s' => s' = s ∧ r = ltSv p.1 q.1) (fun _ _ => False) s
  rw [e, e', keyLt'_oneType]
  exact oneLt_str ⟨rfl, rfl⟩
theorem strs_sortable {a : Addr} {vs : List Value} {ss : List Str} (hI : StrsAre vs ss) (h2 : 2 ≤ vs.length) : SortableO prog w A s a vs ltSv := by
  intro h' _
  refine ⟨oneType', fun Q E hq => ?_, strs_cmp hI⟩
  match vs, hI, h2 with
  | v1 :: v2 :: rest, hI, _ =>
    rw [keyKind_strs hI]
    exact wpAny_pure hq
  | [], _, h => exact absurd h (by decide)
  | [v], _, h => exact absurd h (by simp)
end
def sOf : Value → Str
  | .str s _ => s
  | _ => Str.empty
theorem strs_of : ∀ {vs : List Value}, (∀ v ∈ vs, ∃ i t, v = Value.str i t) → Vals ((vs.map sOf).map V.str) vs
  | [], _ => .nil
  | v :: vs, h => by
    obtain ⟨i, t, e⟩ := h v List.mem_cons_self
    subst e
    exact .cons ⟨t, rfl⟩ (strs_of fun u hu => h u (List.mem_cons_of_mem _ hu))
theorem sOf_strs : ∀ {vs : List Value} {ss : List Str}, StrsAre vs ss → vs.map sOf = ss
  | _, _, .nil => rfl
  | _, _, .cons n t r => congrArg (n :: ·) (sOf_strs r)
section
variable {X : Cx}
/-- sorted(texts, reverse=True): the same texts, none behind a lesser one -/
theorem cr_sortedRevS : CallRK X (.builtin "sorted") [Str.ofString "reverse"] (fun vs zs H Q => ∃ (a : Addr) (xs : List Str), vs = [V.ref a] ∧ zs = [.bl true] ∧ SqL X.K H a (xs.map V.str) ∧
    ∀ (ys : List Str) (p : Addr), ys.Perm xs → ys.Pairwise (fun x y => ¬ x.cps.toList < y.cps.toList) → H p = none → Q (.ref p) (upd H p (.lst (ys.map V.str)))) := by
  intro pins s σ H vs zs us ws Q I r rz h
  obtain ⟨a, xs, rfl, rfl, hs, q⟩ := h
  obtain rfl := Vals.ref1 r
  obtain ⟨w1, rfl, e1⟩ := vals1 rz
  obtain rfl : w1 = Value.bool true := e1
  obtain ⟨its, rv, hl, hz⟩ := I.list hs
  have hi := rv.strs
  refine SrtR.sorted_ordK (b := true) (fun _ => rfl) (PyProof.Rows.args_sorted_rev _ _) (fun _ => PyProof.Rows.args_list_sort_rev _ _) swo_sv hl.isList (by rw [← rv.length]; exact hz) (fun h2 h₁ a' _ _ => strs_sortable hi h2) fun out h1 h2 => ?_
  have pm : out.Perm its := (h2.perm).trans (List.reverse_perm _)
  have all : ∀ v ∈ out.reverse, ∃ i t, v = Value.str i t := fun v hv => strs_mem hi v (pm.mem_iff.mp (List.mem_reverse.mp hv))
  obtain ⟨ep, he'⟩ := PyProof.Rows.sortedAll_at s.heap its (if true = true then out.toArray.reverse else out.toArray)
  have e0 : (if true = true then out.toArray.reverse else out.toArray) = out.reverse.toArray := by simp
  have len : ((out.reverse.map sOf).map V.str).length ≤ sizeLine := by
    rw [List.length_map, List.length_map, List.length_reverse, pm.length_eq, ← rv.length]
    exact hz
  have pw : (out.reverse.map sOf).Pairwise (fun x y => ¬ x.cps.toList < y.cps.toList) := by
    rw [List.map_reverse, List.pairwise_reverse, List.pairwise_map]
    refine List.Pairwise.imp_of_mem (fun {x y} hx hy h => ?_) h1
    obtain ⟨i, t, rfl⟩ := strs_mem hi x (pm.mem_iff.mp hx)
    obtain ⟨j, u, rfl⟩ := strs_mem hi y (pm.mem_iff.mp hy)
    exact of_decide_eq_false (p := j.cps.toList < i.cps.toList) h
  have pr : (out.reverse.map sOf).Perm xs := by
    have z := ((List.reverse_perm out).trans pm).map sOf
    rw [sOf_strs hi] at z
    exact z
  rw [e0] at he' ⊢
  exact ⟨.ref _, upd H (s.heap.objs.size + 1) (.lst ((out.reverse.map sOf).map V.str)), I.laid (t' := s.toks) (fun _ _ => PyProof.Rows.sortedAll_old) (Nat.le_succ _) ⟨len, _, ep, strs_of all, he'⟩, rfl, q _ _ pr pw (I.hok.fresh (Nat.le_succ _))⟩
end
end SL
namespace K09
open PySem PySem.Spec PyProof.Rows L2 SL
def topS (i : Nat) : Stmt := PySem.Challenge.pw_surelabels_k09_wrong_rules.main.body.getD i (.Pass ⟨0, 0, 0, 0⟩)
abbrev s_wall : Stmt := topS 0
abbrev s_LabelError : Stmt := topS 2
abbrev s_BadText : Stmt := topS 3
abbrev s_BadRule : Stmt := topS 4
abbrev s_is_whole : Stmt := topS 7
abbrev s_is_within : Stmt := topS 8
abbrev s_items_of : Stmt := topS 9
abbrev s_is_rising : Stmt := topS 10
abbrev s_is_sign : Stmt := topS 11
abbrev s_check_text : Stmt := topS 12
abbrev s_signs_of : Stmt := topS 14
abbrev s_are_states : Stmt := topS 15
abbrev s_moves_of : Stmt := topS 16
abbrev s_good_of : Stmt := topS 17
abbrev s_Rule : Stmt := topS 18
abbrev s_law_pool : Stmt := topS 20
abbrev s_law_draw : Stmt := topS 21
abbrev s_law_signs : Stmt := topS 22
abbrev s_law_rule_model : Stmt := topS 23
abbrev s_law_is_items : Stmt := topS 24
abbrev s_law_are_states : Stmt := topS 25
abbrev s_law_ascends : Stmt := topS 26
abbrev s_law_due : Stmt := topS 27
abbrev s_law_told : Stmt := topS 28
abbrev s_law_wrong_signs : Stmt := topS 29
abbrev s_law_wrong_moves : Stmt := topS 30
abbrev s_law_wrong_good : Stmt := topS 31
abbrev s_law : Stmt := topS 32
abbrev s_BadText_init : Stmt := inClass (topS 3) 0
abbrev s_BadRule_init : Stmt := inClass (topS 4) 0
abbrev s_Rule_init : Stmt := inClass (topS 18) 0
abbrev s_Rule_last : Stmt := inClass (topS 18) 1
abbrev s_Rule_lets : Stmt := inClass (topS 18) 2
abbrev s_Rule_move : Stmt := inClass (topS 18) 3
abbrev s_Rule_eq : Stmt := inClass (topS 18) 4
/-! ### what the top has written -/
def SG : Str := "0123456789abcdefghijklmnopqrstuvwxyz"
structure MF (P : Program) (w : World) (K : PySem.W.Frag) (mg : Str → Option Value) (cB iB cU fU cL : Addr) : Prop where
  m_isinstance : mg "isinstance" = none
  m_int : mg "int" = none
  m_bool : mg "bool" = none
  m_str : mg "str" = none
  m_list : mg "list" = none
  m_tuple : mg "tuple" = none
  m_len : mg "len" = none
  m_all : mg "all" = none
  m_range : mg "range" = none
  m_zip : mg "zip" = none
  m_enumerate : mg "enumerate" = none
  m_sorted : mg "sorted" = none
  x_BadRule : PySem.SLX.ExTxt K mg P w "BadRule" "part" "part" (fun v => ∃ (y : Str) (t : Tok), v = .str y t ∧ (reprText y).length ≤ 1000) cB iB
  g_BadRule : mg "BadRule" = some (.ref cB)
  g_LabelError : mg "LabelError" = some (.ref cL)
  e_BB : PySem.W.exmOne K (.ref cB) (.ref cB) = some true
  g_SIGNS : ∃ t, mg "SIGNS" = some (.str SG t)
  g_Rule : mg "Rule" = some (.ref cU)
  mk_Rule : Mk K cU fU
  cl_Rule : Cls K cU
  n_signs : NoAttr K cU "signs"
  n_moves : NoAttr K cU "moves"
  n_good : NoAttr K cU "good"
  n_columns : NoAttr K cU "_columns"

section
variable {P : Program} {w : World} {K : PySem.W.Frag} {mg : Str → Option Value} {base : Heap} {cB iB cU fU cL : Addr} {fdU : FuncData} {f : Addr} {fd : FuncData}
/-! ### is_whole, is_within, check_within -/
def wholeV : V → Bool
  | .int _ => true
  | _ => false
def withinV (lo hi : Int) : V → Bool
  | .int i => decide (lo ≤ i) && decide (i ≤ hi)
  | _ => false
theorem whole_of {H : Hp} {x : V} {T : String} (h : Knw K H x T) : (decide (T = "int" ∨ T = "bool") && !decide (T = "bool")) = wholeV x := by
  cases h <;> rfl
theorem sc_is_whole : FnScope ["thing"] ["thing"] (defScope s_is_whole) := ⟨rfl, rfl, rfl, by decide +kernel, rfl, by decide +kernel, by decide +kernel⟩
def spWhole (K : PySem.W.Frag) : Sp := fun vs H Q _ => ∃ x T, vs = [x] ∧ Knw K H x T ∧ Q (.bl (wholeV x)) H
theorem ok_is_whole (M : MF P w K mg cB iB cU fU cL) (F : Fun K "is_whole" "is_whole" s_is_whole f fd) : FnOk P w K mg base CX0 1 f fd ["thing"] (spWhole K) := by
  refine F.ok sc_is_whole (fun vs H Q E h => ?_) (fun cdv A outer s H vs Q E hr h => ?_)
  · obtain ⟨x, T, rfl, _⟩ := h
    rfl
  · obtain ⟨x, T, rfl, hk, q⟩ := h
    refine ⟨_, (pss_one (ps_ret (pe_and (pe_callB call_isi (by rfl) M.m_isinstance (by decide +kernel) (pa_cons (pv 0) (pa_cons (pe_bltn (v := .ty "int") (by rfl) M.m_int (by decide +kernel) rfl) pa_nil))) (pe_one (pe_not (pe_callB call_isi (by rfl) M.m_isinstance (by decide +kernel) (pa_cons (pv 0) (pa_cons (pe_bltn (v := .ty "bool") (by rfl) M.m_bool (by decide +kernel) rfl) pa_nil)))))))), ?_⟩
    refine ⟨x, rfl, x, .ty "int", _, _, _, rfl, .ty _, hk.ty, kit_int hk.mem, _, rfl, ?_⟩
    have e := whole_of hk
    by_cases c : T = "int" ∨ T = "bool"
    · rw [decide_eq_true c]
      refine iteT ?_
      refine ⟨x, rfl, x, .ty "bool", _, _, _, rfl, .ty _, hk.ty, kit_bool hk.mem, _, rfl, ?_⟩
      rw [decide_eq_true c, Bool.true_and] at e
      rw [e]
      exact q
    · rw [decide_eq_false c]
      refine iteF ?_
      rw [decide_eq_false c, Bool.false_and] at e
      rw [e]
      exact q
theorem sc_is_within : FnScope ["thing", "low", "high"] ["thing", "low", "high"] (defScope s_is_within) := ⟨rfl, rfl, rfl, by decide +kernel, rfl, by decide +kernel, by decide +kernel⟩
def spWithin (K : PySem.W.Frag) : Sp := fun vs H Q _ => ∃ x lo hi T, vs = [x, .int lo, .int hi] ∧ Knw K H x T ∧ Q (.bl (withinV lo hi x)) H
theorem ok_is_within (F_is_whole : FnC P w K mg base CX0 1 "is_whole" ["thing"] (spWhole K)) (F : Fun K "is_within" "is_within" s_is_within f fd) : FnOk P w K mg base CX0 2 f fd ["thing", "low", "high"] (spWithin K) := by
  refine F.ok sc_is_within (fun vs H Q E h => ?_) (fun cdv A outer s H vs Q E hr h => ?_)
  · obtain ⟨x, lo, hi, T, rfl, _⟩ := h
    rfl
  · obtain ⟨x, lo, hi, T, rfl, hk, q⟩ := h
    refine ⟨_, (pss_one (ps_ret (pe_and (pe_f F_is_whole hr (by omega) pass0 (pa_cons (pv 0) pa_nil)) (pe_one (pe_chain op_le op_le (pv 1) (pv 0) (pv 2)))))), ?_⟩
    refine ⟨x, rfl, x, T, rfl, hk, _, rfl, ?_⟩
    cases x with
    | int i =>
      refine iteT ?_
      refine ⟨_, rfl, _, rfl, _, _, rfl, rfl, _, rfl, ?_⟩
      by_cases c : lo ≤ i
      · rw [decide_eq_true c]
        refine iteT ⟨_, rfl, _, _, rfl, rfl, ?_⟩
        have q' : Q (.bl (decide (lo ≤ i) && decide (i ≤ hi))) H := q
        rw [decide_eq_true c, Bool.true_and] at q'
        exact q'
      · rw [decide_eq_false c]
        refine iteF ?_
        have q' : Q (.bl (decide (lo ≤ i) && decide (i ≤ hi))) H := q
        rw [decide_eq_false c, Bool.false_and] at q'
        exact q'
    | _ => exact iteF q
end

section
variable {P : Program} {w : World} {K : PySem.W.Frag} {mg : Str → Option Value} {base : Heap} {cB iB cU fU cL : Addr} {fdU : FuncData} {f : Addr} {fd : FuncData}
/-! ### items_of, is_rising, is_sign -/
theorem take_more {α : Type} : ∀ {l : List α} {i : Nat} {x : α}, l[i]? = some x → l.take (i + 1) = l.take i ++ [x] := fun {l i x} h => by rw [List.take_add_one, h]; rfl
def raised (c : Addr) (part : Str) (E : XK) (H : Hp) : Prop := ∀ H' d, Same H H' → H' d = none → E (.ref c) (some d) (upd H' d (.xd [(("part" : Str), .str part)]))
theorem withinVD {H : Hp} {lo hi : Int} {v : V} {d : D} (h : Dt K H v d) : withinV lo hi v = withinD lo hi d := by
  cases h <;> rfl
/-- what items_of tells -/
inductive ItemsV (K : PySem.W.Frag) (H : Hp) : D → V → Prop
  | no {d : D} (h : itemsD d = none) : ItemsV K H d .non
  | yes {d : D} {ds : List D} {a : Addr} {xs : List V} (h : itemsD d = some ds) (q : SqT K H a xs) (k : DtAll K H xs ds) (z : ds.length ≤ 100000) : ItemsV K H d (.ref a)
theorem ItemsV.same {H H' : Hp} {d : D} {v : V} (s : Same H H') (h : ItemsV K H d v) : ItemsV K H' d v := by
  cases h with
  | no h => exact .no h
  | yes h q k z => exact .yes h (Same.seqT s q) (DtAll.same s k) z
/-- the same, of data that stood in G: what is new is said apart -/
inductive ItemsG (K : PySem.W.Frag) (G H H' : Hp) : D → V → Prop
  | no {d : D} (h : itemsD d = none) : ItemsG K G H H' d .non
  | old {d : D} {ds : List D} {a : Addr} {xs : List V} (h : itemsD d = some ds) (q : SqT K G a xs) (k : DtAll K G xs ds) (z : ds.length ≤ 100000) : ItemsG K G H H' d (.ref a)
  | new {d : D} {ds : List D} {a : Addr} {xs : List V} (h : itemsD d = some ds) (n : H a = none) (e : H' a = some (.tup xs)) (k : DtAll K G xs ds) (z : ds.length ≤ 100000) : ItemsG K G H H' d (.ref a)
theorem ItemsG.toV {G H H' : Hp} {d : D} {v : V} (sG : Same G H) (s : Same H H') (h : ItemsG K G H H' d v) : ItemsV K H' d v := by
  cases h with
  | no h => exact .no h
  | old h q k z => exact .yes h (Same.seqT (sG.trans s) q) (DtAll.same (sG.trans s) k) z
  | new h n e k z => exact .yes h (SqT.of e) (DtAll.same (sG.trans s) k) z
def keptD (d : D) : D := match itemsD d with
  | none => .non
  | some rs => .tup rs
theorem ItemsG.off {H H' : Hp} {D0 : Addr} {o : HO} {d : D} {v : V} (hD : H D0 = some o) (s : Same H H') (h : ItemsG K (SL.off H D0) H H' d v) : Dt K (SL.off H' D0) v (keptD d) := by
  unfold keptD
  cases h with
  | no h =>
    rw [h]
    exact .non
  | old h q k z =>
    rw [h]
    exact .tup (Same.seqT (off_mono s) q) (DtAll.same (off_mono s) k) z
  | new h n e k z =>
    rw [h]
    refine .tup (SqT.of ?_) (DtAll.same (off_mono s) k) z
    rw [off_ne fun z => by rw [z, hD] at n; cases n]
    exact e
theorem ItemsV.dt {H : Hp} {d : D} {v : V} (h : ItemsV K H d v) : Dt K H v (keptD d) := by
  unfold keptD
  cases h with
  | no h =>
    rw [h]
    exact .non
  | yes h q k z =>
    rw [h]
    exact .tup q k z
theorem sc_items_of : FnScope ["thing"] ["thing"] (defScope s_items_of) := ⟨rfl, rfl, rfl, by decide +kernel, rfl, by decide +kernel, by decide +kernel⟩
def spItems (K : PySem.W.Frag) : Sp := fun vs H Q _ => ∃ v d G, vs = [v] ∧ Same G H ∧ Dt K G v d ∧ ∀ H' r, Same H H' → ItemsG K G H H' d r → Q r H'
theorem ok_items_of (M : MF P w K mg cB iB cU fU cL) (F : Fun K "items_of" "items_of" s_items_of f fd) : FnOk P w K mg base CX0 1 f fd ["thing"] (spItems K) := by
  refine F.ok sc_items_of (fun vs H Q E h => ?_) (fun cdv A outer s H vs Q E hr h => ?_)
  · obtain ⟨v, d, G, rfl, _⟩ := h
    rfl
  · obtain ⟨v, d, G, rfl, sG, hd, q⟩ := h
    refine ⟨_, (pss_cons (ps_if (pt_val (pe_callB call_isiT (by rfl) M.m_isinstance (by decide +kernel) (pa_cons (pv 0) (pa_cons (pe_tup (pa_cons (pe_bltn (v := .ty "tuple") (by rfl) M.m_tuple (by decide +kernel) rfl) (pa_cons (pe_bltn (v := .ty "list") (by rfl) M.m_list (by decide +kernel) rfl) pa_nil))) pa_nil))))
      (pss_one (ps_ret (pe_callTy call_tuple_of (by rfl) M.m_tuple (by decide +kernel) (pa_cons (pv 0) pa_nil)))) pss_nil)
      (pss_one (ps_ret pe_non))), ?_⟩
    have hk := (hd.same sG).knw
    refine ⟨_, rfl, few (n := 2) (by decide), fun p np => ?_⟩
    have s1 : Same H (upd H p (.tup [.ty "tuple", .ty "list"])) := same_upd np
    refine ⟨_, p, _, _, _, _, rfl, upd_same, .cons (.ty _) (.cons (.ty _) .nil), (hk.same s1).ty, kitAny_two (kit_tuple hk.mem) (kit_list hk.mem), _, rfl, ?_⟩
    generalize upd H p (.tup [.ty "tuple", .ty "list"]) = H1 at s1 ⊢
    have g1 := sG.trans s1
    cases hd with
    | lst h k z => exact iteT ⟨_, rfl, _, _, rfl, .inl ⟨g1.seq h, fun l nl => q _ _ (s1.trans (same_upd nl)) (.new rfl (s1.free nl) upd_same k z)⟩⟩
    | tup h k z => exact iteT ⟨_, rfl, _, _, rfl, .inr ⟨Same.seqT g1 h, q _ _ s1 (.old rfl h k z)⟩⟩
    | non => exact iteF (q _ _ s1 (.no rfl))
    | bl b => exact iteF (q _ _ s1 (.no rfl))
    | int i => exact iteF (q _ _ s1 (.no rfl))
    | str x z => exact iteF (q _ _ s1 (.no rfl))
    | dic h => exact iteF (q _ _ s1 (.no rfl))
theorem sc_is_rising : FnScope ["things", "one", "other"] ["things"] (defScope s_is_rising) := ⟨rfl, rfl, rfl, by decide +kernel, rfl, by decide +kernel, by decide +kernel⟩
def spRising (K : PySem.W.Frag) : Sp := fun vs H Q _ => ∃ a xs ds, vs = [.ref a] ∧ SqT K H a xs ∧ DtAll K H xs ds ∧ ds.length ≤ 100000 ∧ homog ds = true ∧ ∀ H', Same H H' → Q (.bl (rising ds)) H'
theorem ok_is_rising (M : MF P w K mg cB iB cU fU cL) (F : Fun K "is_rising" "is_rising" s_is_rising f fd) : FnOk P w K mg base CX0 1 f fd ["things"] (spRising K) := by
  refine F.ok sc_is_rising (fun vs H Q E h => ?_) (fun cdv A outer s H vs Q E hr h => ?_)
  · obtain ⟨a, xs, ds, rfl, _⟩ := h
    rfl
  · obtain ⟨a, xs, ds, rfl, hS, hD, z, hm, q⟩ := h
    refine ⟨_, (pss_one (ps_ret (pe_callB (cr_all rfl) (by rfl) M.m_all (by decide +kernel) (pa_cons (pe_lc (own := [("one", 1), ("other", 2)]) (tt := tYes) rfl sc_is_rising.nd (RZ.pi_zipA (by rfl) M.m_zip (pa_cons (pv 0) (pa_cons (pe_slice (sl_tupU K) (pv 0) (po_some pe_int) po_none) pa_nil))) (blkOk_by (N := ["things", "one", "other"]) (sc := defScope s_is_rising) (by decide +kernel)) (fun _ _ _ _ _ => (pg_tupK (n := 2) K rfl (pgs_cons (pg_name (i := 1) sc_is_rising.nd rfl (Or.inl rfl)) (pgs_cons (pg_name (i := 2) sc_is_rising.nd rfl (Or.inl rfl)) pgs_nil)))) (fun _ _ _ _ _ => pts_nil) (fun _ _ _ _ _ => (pe_cmpR op_ltD (pv 1) (pv 2) (nomark _)))) pa_nil)))), ?_⟩
    have ll := DtAll.length hD
    refine ⟨_, rfl, _, rfl, 1, rfl, a, xs, rfl, hS, fun c H1 s1 hc => ?_⟩
    rw [cut_one] at hc
    have hS1 := Same.seqT s1 hS
    have hD1 := DtAll.same s1 hD
    refine ⟨a, c, _, _, rfl, .inr ⟨hS1, hc, fun E nE => ?_⟩⟩
    refine lc_it (walk_zipT (K := K) (a := a) (b := c) (xs := xs) (ys := xs.drop 1) (n := ds.length - 1) (by rw [List.length_drop]; omega))
      (fun i H' => Same H1 H' ∧ H' E = some (.lst (((steps ds).take i).map V.bl))) ⟨same_upd nE, upd_same⟩ (fun i H' _ p => ⟨Same.seqT p.1 hS1, Same.seqT p.1 hc⟩) (fun i v H' H3 hi p y => ?_) (fun H' p => ?_)
    · obtain ⟨T, u1, u2, rfl, nT, rfl, y1, y2⟩ := y
      have y2' : xs[i + 1]? = some u2 := by
        have y3 : (xs.drop 1)[i]? = some u2 := y2
        rw [List.getElem?_drop, Nat.add_comm] at y3
        exact y3
      obtain ⟨d1, k1, h1⟩ := DtAll.get hD1 y1
      obtain ⟨d2, k2, h2⟩ := DtAll.get hD1 y2'
      have nET : E ≠ T := ne_of_none p.2 nT
      have sT := p.1.trans (same_upd (o := .tup [u1, u2]) nT)
      refine ⟨T, _, rfl, SqT.of upd_same, rfl, _, _, rfl, _, _, rfl, rfl, rfl, lc_yes ⟨_, rfl, _, rfl, lt_of (h1.same sT) (h2.same sT) (homog_two hm k1 k2) ⟨_, (by rw [upd_ne nET]; exact p.2), ?_, ?_, ?_⟩⟩⟩
      · rw [List.length_map, List.length_take]
        have := steps_len ds
        exact lineN (by omega)
      · exact fun b o e => by
          rw [upd_ne (ne_of_none e nE)]
          exact sT _ _ e
      · rw [upd_same, List.take_add_one, steps_get k1 k2, List.map_append]
        rfl
    · refine ⟨E, steps ds, rfl, SqL.of ?_, q H' (s1.trans p.1)⟩
      rw [p.2, List.take_of_length_le (by rw [steps_len]; exact Nat.le_refl _)]
theorem sc_is_sign : FnScope ["thing"] ["thing"] (defScope s_is_sign) := ⟨rfl, rfl, rfl, by decide +kernel, rfl, by decide +kernel, by decide +kernel⟩
def spSign (K : PySem.W.Frag) : Sp := fun vs H Q _ => ∃ v d, vs = [v] ∧ Dt K H v d ∧ Q (.bl (signD SG d)) H
theorem ok_is_sign (M : MF P w K mg cB iB cU fU cL) (F : Fun K "is_sign" "is_sign" s_is_sign f fd) : FnOk P w K mg base CX0 1 f fd ["thing"] (spSign K) := by
  refine F.ok sc_is_sign (fun vs H Q E h => ?_) (fun cdv A outer s H vs Q E hr h => ?_)
  · obtain ⟨v, d, rfl, _⟩ := h
    rfl
  · obtain ⟨v, d, rfl, hd, q⟩ := h
    obtain ⟨tS, gS⟩ := M.g_SIGNS
    refine ⟨_, (pss_one (ps_ret (pe_and (pe_callB call_isi (by rfl) M.m_isinstance (by decide +kernel) (pa_cons (pv 0) (pa_cons (pe_bltn (v := .ty "str") (by rfl) M.m_str (by decide +kernel) rfl) pa_nil))) (pe_and (pe_cmpR op_eq (pe_callB call_len_str (by rfl) M.m_len (by decide +kernel) (pa_cons (pv 0) pa_nil)) pe_int (nomark _)) (pe_one (pe_cmpR op_in_str (pv 0) (pe_glob (v := .str SG) rfl gS ⟨_, rfl⟩) (by rfl))))))), ?_⟩
    have hk := hd.knw
    refine ⟨v, rfl, v, .ty "str", _, _, _, rfl, .ty _, hk.ty, kit_str hk.mem, _, rfl, ?_⟩
    cases hd with
    | str x z =>
      refine iteT ⟨_, rfl, x, rfl, Nat.le_trans z (Nat.le_of_lt (lineN (Nat.le_refl _))), rfl, _, rfl, ?_⟩
      by_cases c : x.length = 1
      · rw [show decide (V.int (x.length : Nat) = V.int 1) = true from decide_eq_true (by rw [c]; rfl)]
        refine iteT ⟨_, rfl, _, _, rfl, rfl, ?_⟩
        have q' : Q (.bl (decide (x.length = 1) && inS SG x)) H := q
        rw [decide_eq_true c, Bool.true_and] at q'
        exact q'
      · rw [show decide (V.int (x.length : Nat) = V.int 1) = false from decide_eq_false fun z => c (by have := V.int.inj z; omega)]
        refine iteF ?_
        have q' : Q (.bl (decide (x.length = 1) && inS SG x)) H := q
        rw [decide_eq_false c, Bool.false_and] at q'
        exact q'
    | non => exact iteF q
    | bl b => exact iteF q
    | int i => exact iteF q
    | lst _ _ _ => exact iteF q
    | tup _ _ _ => exact iteF q
    | dic _ => exact iteF q
end

end K09
namespace K09
open PySem PySem.Spec PyProof.Rows L2 SL
section
variable {P : Program} {w : World} {K : PySem.W.Frag} {mg : Str → Option Value} {base : Heap} {cB iB cU fU cL : Addr} {fdU : FuncData} {f : Addr} {fd : FuncData}
/-! ### signs_of, _are_states, _moves_of, _good_of -/
theorem nat_le {a b : Nat} : decide ((a : Int) ≤ (b : Int)) = decide (a ≤ b) := by
  by_cases h : a ≤ b
  · rw [decide_eq_true h, decide_eq_true (by omega)]
  · rw [decide_eq_false h, decide_eq_false (by omega)]
theorem signsOk_no {d : D} (h : itemsD d = none) : signsOk SG d = false := by
  unfold signsOk
  rw [h]
theorem signsOk_yes {d : D} {ds : List D} (h : itemsD d = some ds) : signsOk SG d = (decide (1 ≤ ds.length) && decide (ds.length ≤ 10) && ds.all (signD SG) && rising ds) := by
  unfold signsOk
  rw [h]
theorem sc_signs_of : FnScope ["thing", "signs", "sign"] ["thing"] (defScope s_signs_of) := ⟨rfl, rfl, rfl, by decide +kernel, rfl, by decide +kernel, by decide +kernel⟩
def spSigns (K : PySem.W.Frag) (cB : Addr) : Sp := fun vs H Q E => ∃ v d, vs = [v] ∧ Dt K H v d ∧ (signsOk SG d = false → raised cB "signs" E H) ∧ ∀ ds, signsOk SG d = true → itemsD d = some ds → ∀ H' r xs, Same H H' → SqT K H' r xs → DtAll K H' xs ds → Q (.ref r) H'
theorem ok_signs_of (M : MF P w K mg cB iB cU fU cL) (F_items_of : FnC P w K mg base CX0 1 "items_of" ["thing"] (spItems K)) (F_is_sign : FnC P w K mg base CX0 1 "is_sign" ["thing"] (spSign K)) (F_is_rising : FnC P w K mg base CX0 1 "is_rising" ["things"] (spRising K))
    (F : Fun K "signs_of" "signs_of" s_signs_of f fd) : FnOk P w K mg base (L2.CX P w) 4 f fd ["thing"] (spSigns K cB) := by
  refine F.okX sc_signs_of (fun vs H Q E h => ?_) (fun cdv A outer s H vs Q E hr h => ?_)
  · obtain ⟨v, d, rfl, _⟩ := h
    rfl
  · obtain ⟨v, d, rfl, hd, e1, q⟩ := h
    refine ⟨_, (pss_cons (ps_set (i := 1) sc_signs_of.nd rfl (Or.inl rfl) (pe_f F_items_of hr (by omega) pass0 (pa_cons (pv 0) pa_nil)))
      (pss_cons (ps_if (PW.pt (pw_or (pt_cmpR op_isN (pv 1) pe_non (nomark _)) (pw_or1 (pt_not (pt_chain op_le op_le pe_int (pe_callB call_len_seq (by rfl) M.m_len (by decide +kernel) (pa_cons (pv 1) pa_nil)) pe_int)))))
      (pss_one (ps_raiseEx rfl M.x_BadRule hr (takes_of rfl rfl rfl rfl) (pa_cons pe_str pa_nil))) pss_nil)
      (pss_cons (ps_if (PW.pt (pw_or (pt_not (pt_val (pe_callB (cr_all rfl) (by rfl) M.m_all (by decide +kernel) (pa_cons (pe_lc (own := [("sign", 2)]) (tt := tYes) rfl sc_signs_of.nd (pi_tup (pv 1)) (blkOk_by (N := ["thing", "signs", "sign"]) (sc := defScope s_signs_of) (by decide +kernel)) (fun _ _ _ _ _ => (pg_name (i := 2) sc_signs_of.nd rfl (Or.inl rfl))) (fun _ _ _ _ _ => pts_nil) (fun _ _ _ _ _ => (pe_f F_is_sign hr (by omega) pass0 (pa_cons (pv 2) pa_nil)))) pa_nil)))) (pw_or1 (pt_not (pt_val (pe_f F_is_rising hr (by omega) pass0 (pa_cons (pv 1) pa_nil)))))))
      (pss_one (ps_raiseEx rfl M.x_BadRule hr (takes_of rfl rfl rfl rfl) (pa_cons pe_str pa_nil))) pss_nil)
      (pss_one (ps_ret (pv 1)))))), ?_⟩
    have rz : ∀ {u : Value}, (∃ t, u = Value.str "signs" t) → ∃ (y : Str) (t : Tok), u = .str y t ∧ (reprText y).length ≤ 1000 := fun ⟨t, e⟩ => ⟨_, t, e, by decide +kernel⟩
    refine ⟨_, rfl, v, d, H, rfl, Same.refl H, hd, fun H1 r s1 hi0 => ?_⟩
    have hi := hi0.toV (Same.refl H) s1
    cases hi with
    | no hn => exact ⟨_, rfl, rfl, _, rfl, iteU rfl ⟨_, rfl, fun u ru => rz ru, fun d nd => e1 (signsOk_no hn) H1 d s1 nd⟩⟩
    | @yes ds a xs hi hS hD z =>
      have ll := DtAll.length hD
      have ok := signsOk_yes hi
      refine ⟨_, rfl, rfl, _, rfl, iteV (fun z => nomatch z) ?_⟩
      refine ⟨.ref a, rfl, a, xs, rfl, .inr hS, _, _, rfl, rfl, _, rfl, ?_⟩
      rw [ll]
      by_cases c1 : 1 ≤ ds.length
      · rw [show decide ((1 : Int) ≤ (ds.length : Nat)) = true from decide_eq_true (by omega)]
        refine iteT ⟨_, _, rfl, rfl, _, rfl, ?_⟩
        by_cases c2 : ds.length ≤ 10
        · rw [show decide (((ds.length : Nat) : Int) ≤ 10) = true from decide_eq_true (by omega)]
          refine iteF ?_
          refine ⟨_, rfl, a, rfl, ⟨_, hS⟩, fun E2 nE => ?_⟩
          refine lc_tup (K := K) (a := a) (xs := xs) (fun i H' => Same H1 H' ∧ H' E2 = some (.lst ((ds.take i).map fun d => V.bl (signD SG d)))) ⟨same_upd nE, upd_same⟩ (fun i H' _ p => Same.seqT p.1 hS) (fun i y H' hy p => ?_) (fun H' p => ?_)
          · obtain ⟨dy, ky, hdy⟩ := DtAll.get hD hy
            refine ⟨rfl, lc_yes ⟨y, rfl, y, dy, rfl, hdy.same p.1, _, p.2, ?_, ?_, ?_⟩⟩
            · rw [List.length_map, List.length_take]
              exact lineN (by omega)
            · exact fun b o e => by
                rw [upd_ne (ne_of_none e nE)]
                exact p.1 _ _ e
            · rw [upd_same, List.take_add_one, ky, List.map_append]
              rfl
          · refine ⟨E2, ds.map (signD SG), rfl, SqL.of ?_, _, rfl, ?_⟩
            · rw [p.2, List.take_of_length_le (by omega), List.map_map]
              rfl
            have s2 := s1.trans p.1
            have al : (ds.map (signD SG)).all id = ds.all (signD SG) := by rw [List.all_map]; rfl
            rw [al]
            cases c3 : ds.all (signD SG) with
            | false => exact iteT ⟨_, rfl, fun u ru => rz ru, fun d nd => e1 (by rw [ok, c3, Bool.and_false, Bool.false_and]) H' d s2 nd⟩
            | true =>
              refine iteF ⟨_, rfl, a, xs, ds, rfl, Same.seqT p.1 hS, DtAll.same p.1 hD, z, signD_str c3, fun H3 s3 => ⟨_, rfl, ?_⟩⟩
              cases c4 : rising ds with
              | false => exact iteT ⟨_, rfl, fun u ru => rz ru, fun d nd => e1 (by rw [ok, c4, Bool.and_false]) H3 d (s2.trans s3) nd⟩
              | true => exact iteF ⟨_, rfl, q ds (by rw [ok, c3, c4, decide_eq_true c1, decide_eq_true c2]; rfl) hi H3 a xs (s2.trans s3) (Same.seqT (p.1.trans s3) hS) (DtAll.same (p.1.trans s3) hD)⟩
        · rw [show decide (((ds.length : Nat) : Int) ≤ 10) = false from decide_eq_false (by omega)]
          exact iteT ⟨_, rfl, fun u ru => rz ru, fun d nd => e1 (by rw [ok, decide_eq_false c2, Bool.and_false, Bool.false_and, Bool.false_and]) H1 d s1 nd⟩
      · rw [show decide ((1 : Int) ≤ (ds.length : Nat)) = false from decide_eq_false (by omega)]
        refine iteF ⟨_, rfl, ?_⟩
        exact iteT ⟨_, rfl, fun u ru => rz ru, fun d nd => e1 (by rw [ok, decide_eq_false c1, Bool.false_and, Bool.false_and, Bool.false_and]) H1 d s1 nd⟩
theorem sc_are_states : FnScope ["things", "many", "thing"] ["things", "many"] (defScope s_are_states) := ⟨rfl, rfl, rfl, by decide +kernel, rfl, by decide +kernel, by decide +kernel⟩
def spStates (K : PySem.W.Frag) : Sp := fun vs H Q _ => ∃ a xs ds m, vs = [.ref a, .int m] ∧ SqT K H a xs ∧ DtAll K H xs ds ∧ ds.length ≤ 100000 ∧ ∀ H', Same H H' → Q (.bl (statesOk m ds)) H'
theorem ok_are_states (M : MF P w K mg cB iB cU fU cL) (F_is_within : FnC P w K mg base CX0 2 "is_within" ["thing", "low", "high"] (spWithin K)) (F : Fun K "_are_states" "_are_states" s_are_states f fd) : FnOk P w K mg base CX0 4 f fd ["things", "many"] (spStates K) := by
  refine F.ok sc_are_states (fun vs H Q E h => ?_) (fun cdv A outer s H vs Q E hr h => ?_)
  · obtain ⟨a, xs, ds, m, rfl, _⟩ := h
    rfl
  · obtain ⟨a, xs, ds, m, rfl, hS, hD, z, q⟩ := h
    refine ⟨_, (pss_one (ps_ret (pe_callB (cr_all rfl) (by rfl) M.m_all (by decide +kernel) (pa_cons (pe_lc (own := [("thing", 2)]) (tt := tYes) rfl sc_are_states.nd (pi_tup (pv 0)) (blkOk_by (N := ["things", "many", "thing"]) (sc := defScope s_are_states) (by decide +kernel)) (fun _ _ _ _ _ => (pg_name (i := 2) sc_are_states.nd rfl (Or.inl rfl))) (fun _ _ _ _ _ => pts_nil) (fun _ _ _ _ _ => (pe_f F_is_within hr (by omega) pass0 (pa_cons (pv 2) (pa_cons pe_int (pa_cons (pe_op op_sub (pv 1) pe_int) pa_nil)))))) pa_nil)))), ?_⟩
    have ll := DtAll.length hD
    refine ⟨_, rfl, a, rfl, ⟨_, hS⟩, fun E2 nE => ?_⟩
    refine lc_tup (K := K) (a := a) (xs := xs) (fun i H' => Same H H' ∧ H' E2 = some (.lst ((ds.take i).map fun d => V.bl (withinD 0 (m - 1) d)))) ⟨same_upd nE, upd_same⟩ (fun i H' _ p => Same.seqT p.1 hS) (fun i y H' hy p => ?_) (fun H' p => ?_)
    · obtain ⟨dy, ky, hdy⟩ := DtAll.get hD hy
      refine ⟨rfl, lc_yes ⟨y, rfl, _, rfl, _, _, rfl, rfl, y, 0, m - 1, _, rfl, (hdy.same p.1).knw, _, p.2, ?_, ?_, ?_⟩⟩
      · rw [List.length_map, List.length_take]
        exact lineN (by omega)
      · exact fun b o e => by
          rw [upd_ne (ne_of_none e nE)]
          exact p.1 _ _ e
      · rw [upd_same, List.take_add_one, ky, List.map_append, withinVD hdy]
        rfl
    · refine ⟨E2, ds.map (withinD 0 (m - 1)), rfl, SqL.of ?_, ?_⟩
      · rw [p.2, List.take_of_length_le (by omega), List.map_map]
        rfl
      · have al : (ds.map (withinD 0 (m - 1))).all id = statesOk m ds := by rw [List.all_map]; rfl
        rw [al]
        exact q H' p.1
end

end K09
namespace K09
open PySem PySem.Spec PyProof.Rows L2 SL
section
variable {P : Program} {w : World} {K : PySem.W.Frag} {mg : Str → Option Value} {base : Heap} {cB iB cU fU cL : Addr} {fdU : FuncData} {f : Addr} {fd : FuncData}
/-! ### _moves_of, _good_of -/
theorem movesOk_yes {d : D} {ds : List D} {W : Nat} (h : itemsD d = some ds) : movesOk W d = (decide (1 ≤ ds.length) && decide (ds.length ≤ 40) && ds.all (lineOk W ds.length)) := by
  unfold movesOk
  rw [h]
theorem movesOk_no {d : D} {W : Nat} (h : itemsD d = none) : movesOk W d = false := by
  unfold movesOk
  rw [h]
theorem lines_no {d dy : D} {ds : List D} {W : Nat} (h : itemsD d = some ds) (m : dy ∈ ds) (n : lineOk W ds.length dy = false) : movesOk W d = false := by
  rw [movesOk_yes h]
  have e : ds.all (lineOk W ds.length) = false := by
    cases c : ds.all (lineOk W ds.length) with
    | false => rfl
    | true =>
      rw [List.all_eq_true] at c
      rw [c dy m] at n
      cases n
  rw [e, Bool.and_false]
theorem all_more {ds : List D} {g : D → Bool} {i : Nat} {x : D} (h : (ds.take i).all g = true) (e : ds[i]? = some x) (hx : g x = true) : (ds.take (i + 1)).all g = true := by
  rw [List.take_add_one, e, List.all_append, h]
  simp [hx]
theorem sc_moves_of : FnScope ["thing", "width", "rows", "kept", "row"] ["thing", "width"] (defScope s_moves_of) := ⟨rfl, rfl, rfl, by decide +kernel, rfl, by decide +kernel, by decide +kernel⟩
def spMoves (K : PySem.W.Frag) (cB : Addr) : Sp := fun vs H Q E => ∃ v d, ∃ W : Nat, vs = [v, .int (W : Int)] ∧ Dt K H v d ∧ (movesOk W d = false → raised cB "moves" E H) ∧
  ∀ ds, movesOk W d = true → itemsD d = some ds → ∀ H' r xs, Same H H' → SqT K H' r xs → DtAll K H' xs (ds.map keptD) → Q (.ref r) H'
theorem ok_moves_of (M : MF P w K mg cB iB cU fU cL) (F_items_of : FnC P w K mg base CX0 1 "items_of" ["thing"] (spItems K)) (F_are_states : FnC P w K mg base CX0 4 "_are_states" ["things", "many"] (spStates K))
    (F : Fun K "_moves_of" "_moves_of" s_moves_of f fd) : FnOk P w K mg base (L2.CX P w) 6 f fd ["thing", "width"] (spMoves K cB) := by
  refine F.okX sc_moves_of (fun vs H Q E h => ?_) (fun cdv A outer s H vs Q E hr h => ?_)
  · obtain ⟨v, d, W, rfl, _⟩ := h
    rfl
  · obtain ⟨v, d, W, rfl, hd, e1, q⟩ := h
    refine ⟨_, (pss_cons (ps_set (i := 2) sc_moves_of.nd rfl (Or.inl rfl) (pe_f F_items_of hr (by omega) pass0 (pa_cons (pv 0) pa_nil)))
      (pss_cons (ps_if (PW.pt (pw_or (pt_cmpR op_isN (pv 2) pe_non (nomark _)) (pw_or1 (pt_not (pt_chain op_le op_le pe_int (pe_callB call_len_seq (by rfl) M.m_len (by decide +kernel) (pa_cons (pv 2) pa_nil)) pe_int)))))
      (pss_one (ps_raiseEx rfl M.x_BadRule hr (takes_of rfl rfl rfl rfl) (pa_cons pe_str pa_nil))) pss_nil)
      (pss_cons (ps_setLc (i := 3) (own := [("row", 4)]) (tt := tYes) rfl sc_moves_of.nd rfl rfl (sw_true rfl rfl rfl (by decide +kernel)) (pi_tup (pv 2)) (blkOk_by (N := ["thing", "width", "rows", "kept", "row"]) (sc := defScope s_moves_of) (by decide +kernel)) (fun _ _ _ _ _ => (pg_name (i := 4) sc_moves_of.nd rfl (Or.inl rfl))) (fun _ _ _ _ _ => pts_nil) (fun _ _ _ _ _ => (pe_f F_items_of hr (by omega) pass0 (pa_cons (pv 4) pa_nil))))
      (pss_cons (ps_for (passes_of rfl) rfl (pi_list (pv 3)) (pg_name (i := 4) sc_moves_of.nd rfl (Or.inl rfl))
      (pss_one (ps_if (PW.pt (pw_or (pt_cmpR op_isN (pv 4) pe_non (nomark _)) (pw_or (pt_cmpR op_ne (pe_callB call_len_seq (by rfl) M.m_len (by decide +kernel) (pa_cons (pv 4) pa_nil)) (pv 1) (nomark _)) (pw_or1 (pt_not (pt_val (pe_f F_are_states hr (by omega) pass0 (pa_cons (pv 4) (pa_cons (pe_callB call_len_seq (by rfl) M.m_len (by decide +kernel) (pa_cons (pv 3) pa_nil)) pa_nil)))))))))
      (pss_one (ps_raiseEx rfl M.x_BadRule hr (takes_of rfl rfl rfl rfl) (pa_cons pe_str pa_nil))) pss_nil)))
      (pss_one (ps_ret (pe_callTy call_tuple_of (by rfl) M.m_tuple (by decide +kernel) (pa_cons (pv 3) pa_nil)))))))), ?_⟩
    have rz : ∀ {u : Value}, (∃ t, u = Value.str "moves" t) → ∃ (y : Str) (t : Tok), u = .str y t ∧ (reprText y).length ≤ 1000 := fun ⟨t, e⟩ => ⟨_, t, e, by decide +kernel⟩
    refine ⟨_, rfl, v, d, H, rfl, Same.refl H, hd, fun H1 r s1 hi0 => ?_⟩
    have hi := hi0.toV (Same.refl H) s1
    cases hi with
    | no hn => exact ⟨_, rfl, rfl, _, rfl, iteU rfl ⟨_, rfl, fun u ru => rz ru, fun d nd => e1 (movesOk_no hn) H1 d s1 nd⟩⟩
    | @yes ds a xs hi hS hD z =>
      have ll := DtAll.length hD
      have ok := movesOk_yes (W := W) hi
      refine ⟨_, rfl, rfl, _, rfl, iteV (fun z => nomatch z) ?_⟩
      refine ⟨.ref a, rfl, a, xs, rfl, .inr hS, _, _, rfl, rfl, _, rfl, ?_⟩
      rw [ll]
      by_cases c1 : 1 ≤ ds.length
      · rw [show decide ((1 : Int) ≤ (ds.length : Nat)) = true from decide_eq_true (by omega)]
        refine iteT ⟨_, _, rfl, rfl, _, rfl, ?_⟩
        by_cases c2 : ds.length ≤ 40
        · rw [show decide (((ds.length : Nat) : Int) ≤ 40) = true from decide_eq_true (by omega)]
          refine iteF ?_
          refine ⟨_, rfl, a, rfl, ⟨_, hS⟩, fun D nD => ?_⟩
          refine lc_tup (K := K) (a := a) (xs := xs) (fun i H' => Same H1 H' ∧ ∃ ws, H' D = some (.lst ws) ∧ DtAll K (off H' D) ws ((ds.take i).map keptD)) ⟨same_upd nD, [], upd_same, .nil⟩ (fun i H' _ p => Same.seqT p.1 hS) (fun i y H' hy p => ?_) (fun H' p => ?_)
          · obtain ⟨dy, ky, hdy⟩ := DtAll.get hD hy
            obtain ⟨s2, ws, eD, hw⟩ := p
            refine ⟨rfl, lc_yes ⟨y, rfl, y, dy, off H' D, rfl, off_same H' D, hdy.same (off_of s2 nD), fun H3 r3 s3 h3 => ⟨ws, s3 _ _ eD, ?_, ?_, ws ++ [r3], upd_same, ?_⟩⟩⟩
            · rw [DtAll.length hw, List.length_map, List.length_take]
              exact lineN (by omega)
            · exact fun b o e => by
                rw [upd_ne (ne_of_none e nD)]
                exact s3 _ _ (s2 _ _ e)
            · rw [take_more ky, List.map_append]
              exact DtAll.snoc ((h3.off eD s3).same off_upd) (DtAll.same ((off_mono s3).trans off_upd) hw)
          · obtain ⟨s2, ws, eD, hw⟩ := p
            rw [List.take_of_length_le (by omega)] at hw
            have hw2 := DtAll.same (off_same H' D) hw
            have lw : ws.length = ds.length := by rw [DtAll.length hw, List.length_map]
            clear hw
            refine ⟨_, rfl, D, rfl, ⟨_, SqL.of eD⟩, for_list (K := K) (a := D) (xs := ws) (fun i σ H3 => Same H' H3 ∧ (ds.take i).all (lineOk W ds.length) = true ∧ ∃ x, σ = [some v, some (.int (W : Int)), some (.ref a), some (.ref D), x]) ⟨Same.refl _, rfl, _, rfl⟩ (fun i σ H3 _ p => SqL.of (p.1 _ _ eD)) ?_ ?_⟩
            · rintro i y σ H3 hy ⟨s3, al, x, rfl⟩
              obtain ⟨d', kd, hdy⟩ := DtAll.get hw2 hy
              rw [List.getElem?_map] at kd
              cases ky : ds[i]? with
              | none =>
                rw [ky] at kd
                cases kd
              | some dy =>
                rw [ky] at kd
                obtain rfl : keptD dy = d' := Option.some.inj kd
                have sA := s1.trans (s2.trans s3)
                have no : lineOk W ds.length dy = false → raised cB "moves" E H := fun n => e1 (lines_no hi (List.mem_of_getElem? ky) n)
                have hdy3 := hdy.same s3
                cases it : itemsD dy with
                | none =>
                  have ek : keptD dy = .non := by unfold keptD; rw [it]
                  rw [ek] at hdy3
                  cases hdy3
                  exact ⟨_, rfl, rfl, _, rfl, iteU rfl ⟨_, rfl, fun u ru => rz ru, fun d nd => no (by unfold lineOk; rw [it]) H3 d sA nd⟩⟩
                | some rs =>
                  have ek : keptD dy = .tup rs := by unfold keptD; rw [it]
                  have el : lineOk W ds.length dy = (decide (rs.length = W) && statesOk ds.length rs) := by unfold lineOk; rw [it]
                  rw [ek] at hdy3
                  cases hdy3 with
                  | @tup b ys _ hb kb zb =>
                    refine ⟨_, rfl, rfl, _, rfl, iteV (fun z => nomatch z) ?_⟩
                    refine ⟨.ref b, rfl, b, ys, rfl, .inr hb, _, rfl, rfl, _, rfl, ?_⟩
                    rw [DtAll.length kb]
                    by_cases c3 : rs.length = W
                    · rw [show decide (V.int (rs.length : Nat) = V.int (W : Nat)) = true from decide_eq_true (by rw [c3])]
                      refine iteF ⟨.ref b, rfl, .ref D, rfl, D, ws, rfl, .inl (SqL.of (s3 _ _ eD)), b, ys, rs, _, rfl, hb, kb, zb, fun H4 s4 => ⟨_, rfl, ?_⟩⟩
                      rw [lw]
                      cases c4 : statesOk ds.length rs with
                      | false => exact iteT ⟨_, rfl, fun u ru => rz ru, fun d nd => no (by rw [el, c4, Bool.and_false]) H4 d (sA.trans s4) nd⟩
                      | true => exact iteF ⟨s3.trans s4, all_more al ky (by rw [el, c4, decide_eq_true c3]; rfl), _, rfl⟩
                    · rw [show decide (V.int (rs.length : Nat) = V.int (W : Nat)) = false from decide_eq_false fun z => c3 (by have := V.int.inj z; omega)]
                      exact iteT ⟨_, rfl, fun u ru => rz ru, fun d nd => no (by rw [el, decide_eq_false c3, Bool.false_and]) H3 d sA nd⟩
            · rintro σ H3 ⟨s3, al, x, rfl⟩
              rw [List.take_of_length_le (by omega)] at al
              refine ⟨_, rfl, D, ws, rfl, .inl ⟨SqL.of (s3 _ _ eD), fun r nr => ?_⟩⟩
              have sr := s3.trans (same_upd (o := .tup ws) nr)
              exact q ds (by rw [ok, al, decide_eq_true c1, decide_eq_true c2]; rfl) hi _ r ws (s1.trans (s2.trans sr)) (SqT.of upd_same) (DtAll.same sr hw2)
        · rw [show decide (((ds.length : Nat) : Int) ≤ 40) = false from decide_eq_false (by omega)]
          exact iteT ⟨_, rfl, fun u ru => rz ru, fun d nd => e1 (by rw [ok, decide_eq_false c2, Bool.and_false, Bool.false_and]) H1 d s1 nd⟩
      · rw [show decide ((1 : Int) ≤ (ds.length : Nat)) = false from decide_eq_false (by omega)]
        refine iteF ⟨_, rfl, ?_⟩
        exact iteT ⟨_, rfl, fun u ru => rz ru, fun d nd => e1 (by rw [ok, decide_eq_false c1, Bool.false_and, Bool.false_and]) H1 d s1 nd⟩
theorem goodOk_yes {d : D} {ds : List D} {m : Int} (h : itemsD d = some ds) : goodOk m d = (statesOk m ds && rising ds) := by
  unfold goodOk
  rw [h]
theorem goodOk_no {d : D} {m : Int} (h : itemsD d = none) : goodOk m d = false := by
  unfold goodOk
  rw [h]
theorem sc_good_of : FnScope ["thing", "many", "states"] ["thing", "many"] (defScope s_good_of) := ⟨rfl, rfl, rfl, by decide +kernel, rfl, by decide +kernel, by decide +kernel⟩
def spGood (K : PySem.W.Frag) (cB : Addr) : Sp := fun vs H Q E => ∃ v d m, vs = [v, .int m] ∧ Dt K H v d ∧ (goodOk m d = false → raised cB "good" E H) ∧
  ∀ ds, goodOk m d = true → itemsD d = some ds → ∀ H' r xs, Same H H' → SqT K H' r xs → DtAll K H' xs ds → Q (.ref r) H'
theorem ok_good_of (M : MF P w K mg cB iB cU fU cL) (F_items_of : FnC P w K mg base CX0 1 "items_of" ["thing"] (spItems K)) (F_are_states : FnC P w K mg base CX0 4 "_are_states" ["things", "many"] (spStates K)) (F_is_rising : FnC P w K mg base CX0 1 "is_rising" ["things"] (spRising K))
    (F : Fun K "_good_of" "_good_of" s_good_of f fd) : FnOk P w K mg base (L2.CX P w) 6 f fd ["thing", "many"] (spGood K cB) := by
  refine F.okX sc_good_of (fun vs H Q E h => ?_) (fun cdv A outer s H vs Q E hr h => ?_)
  · obtain ⟨v, d, m, rfl, _⟩ := h
    rfl
  · obtain ⟨v, d, m, rfl, hd, e1, q⟩ := h
    refine ⟨_, (pss_cons (ps_set (i := 2) sc_good_of.nd rfl (Or.inl rfl) (pe_f F_items_of hr (by omega) pass0 (pa_cons (pv 0) pa_nil)))
      (pss_cons (ps_if (PW.pt (pw_or (pt_cmpR op_isN (pv 2) pe_non (nomark _)) (pw_or (pt_not (pt_val (pe_f F_are_states hr (by omega) pass0 (pa_cons (pv 2) (pa_cons (pv 1) pa_nil))))) (pw_or1 (pt_not (pt_val (pe_f F_is_rising hr (by omega) pass0 (pa_cons (pv 2) pa_nil))))))))
      (pss_one (ps_raiseEx rfl M.x_BadRule hr (takes_of rfl rfl rfl rfl) (pa_cons pe_str pa_nil))) pss_nil)
      (pss_one (ps_ret (pv 2))))), ?_⟩
    have rz : ∀ {u : Value}, (∃ t, u = Value.str "good" t) → ∃ (y : Str) (t : Tok), u = .str y t ∧ (reprText y).length ≤ 1000 := fun ⟨t, e⟩ => ⟨_, t, e, by decide +kernel⟩
    refine ⟨_, rfl, v, d, H, rfl, Same.refl H, hd, fun H1 r s1 hi0 => ?_⟩
    have hi := hi0.toV (Same.refl H) s1
    cases hi with
    | no hn => exact ⟨_, rfl, rfl, _, rfl, iteU rfl ⟨_, rfl, fun u ru => rz ru, fun d nd => e1 (goodOk_no hn) H1 d s1 nd⟩⟩
    | @yes ds a xs hi hS hD z =>
      have ok := goodOk_yes (m := m) hi
      refine ⟨_, rfl, rfl, _, rfl, iteV (fun z => nomatch z) ?_⟩
      refine ⟨.ref a, rfl, _, rfl, a, xs, ds, m, rfl, hS, hD, z, fun H2 s2 => ⟨_, rfl, ?_⟩⟩
      cases c1 : statesOk m ds with
      | false => exact iteT ⟨_, rfl, fun u ru => rz ru, fun d nd => e1 (by rw [ok, c1, Bool.false_and]) H2 d (s1.trans s2) nd⟩
      | true =>
        refine iteF ⟨_, rfl, a, xs, ds, rfl, Same.seqT s2 hS, DtAll.same s2 hD, z, states_int c1, fun H3 s3 => ⟨_, rfl, ?_⟩⟩
        have s13 := s1.trans (s2.trans s3)
        cases c2 : rising ds with
        | false => exact iteT ⟨_, rfl, fun u ru => rz ru, fun d nd => e1 (by rw [ok, c2, Bool.and_false]) H3 d s13 nd⟩
        | true => exact iteF ⟨_, rfl, q ds (by rw [ok, c1, c2]; rfl) hi H3 a xs s13 (Same.seqT (s2.trans s3) hS) (DtAll.same (s2.trans s3) hD)⟩
end

end K09
namespace K09
open PySem PySem.Spec PyProof.Rows L2 SL
section
variable {P : Program} {w : World} {K : PySem.W.Frag} {mg : Str → Option Value} {base : Heap} {cB iB cU fU cL : Addr} {fdU : FuncData} {f : Addr} {fd : FuncData}
/-! ### Rule.__init__ -/
mutual
theorem Dt.offI {H : Hp} {x : Addr} {C dx : Addr} {fs : List (Str × V)} (hx : H x = some (.ins C dx fs)) : ∀ {v : V} {d : D}, Dt K H v d → Dt K (SL.off H x) v d
  | _, _, .non => .non
  | _, _, .bl b => .bl b
  | _, _, .int i => .int i
  | _, _, .str s z => .str s z
  | _, _, .lst (a := a) h k z => by
    refine .lst ?_ (DtAll.offI hx k) z
    rcases h with (h | ⟨o, h⟩) | h
    · exact .inl (.inl (by rw [off_ne fun e => by rw [e, hx] at h; cases h]; exact h))
    · exact .inl (.inr ⟨o, by rw [off_ne fun e => by rw [e, hx] at h; cases h]; exact h⟩)
    · exact .inr h
  | _, _, .tup (a := a) h k z => by
    refine .tup ?_ (DtAll.offI hx k) z
    rcases h with (h | ⟨o, h⟩) | h
    · exact .inl (.inl (by rw [off_ne fun e => by rw [e, hx] at h; cases h]; exact h))
    · exact .inl (.inr ⟨o, by rw [off_ne fun e => by rw [e, hx] at h; cases h]; exact h⟩)
    · exact .inr h
  | _, _, .dic h => .dic (by rw [off_ne fun e => by rw [e, hx] at h; cases h]; exact h)
theorem DtAll.offI {H : Hp} {x : Addr} {C dx : Addr} {fs : List (Str × V)} (hx : H x = some (.ins C dx fs)) : ∀ {vs : List V} {ds : List D}, DtAll K H vs ds → DtAll K (SL.off H x) vs ds
  | _, _, .nil => .nil
  | _, _, .cons h t => .cons (Dt.offI hx h) (DtAll.offI hx t)
end
theorem SqT.offI {H : Hp} {x : Addr} {C dx : Addr} {fs : List (Str × V)} {a : Addr} {xs : List V} (hx : H x = some (.ins C dx fs)) (h : SqT K H a xs) : SqT K (SL.off H x) a xs := by
  rcases h with (h | ⟨o, h⟩) | h
  · exact .inl (.inl (by rw [off_ne fun e => by rw [e, hx] at h; cases h]; exact h))
  · exact .inl (.inr ⟨o, by rw [off_ne fun e => by rw [e, hx] at h; cases h]; exact h⟩)
  · exact .inr h
def keyD : D → Key
  | .str s => Sum.inr s
  | _ => Sum.inl 0
def colsOf (ds : List D) (n : Nat) : List (Key × V) := (List.range n).foldl (fun kvs k => putK kvs (keyD (ds.getD k .non)) (.int (k : Nat))) []
theorem putK_len (kvs : List (Key × V)) (k : Key) (v : V) : (putK kvs k v).length ≤ kvs.length + 1 := by
  have := length_putK kvs k v
  omega
theorem cols_len (ds : List D) : ∀ n : Nat, (colsOf ds n).length ≤ n
  | 0 => Nat.le_refl _
  | n + 1 => by
    have h := cols_len ds n
    unfold colsOf at h ⊢
    rw [List.range_succ, List.foldl_append]
    have := putK_len ((List.range n).foldl (fun kvs k => putK kvs (keyD (ds.getD k .non)) (.int (k : Nat))) []) (keyD (ds.getD n .non)) (.int (n : Nat))
    show (putK _ _ _).length ≤ n + 1
    omega
theorem cols_more {ds : List D} {n : Nat} {d : D} (h : ds[n]? = some d) : colsOf ds (n + 1) = putK (colsOf ds n) (keyD d) (.int (n : Nat)) := by
  unfold colsOf
  rw [List.range_succ, List.foldl_append]
  show putK _ (keyD (ds.getD n .non)) _ = _
  rw [show ds.getD n .non = d by rw [List.getD_eq_getElem?_getD, h]; rfl]
/-- a rule that stands at x -/
def RuleAt (K : PySem.W.Frag) (cU : Addr) (H : Hp) (x : Addr) (ss ms gs : List D) : Prop := ∃ dx a1 a2 a3 a4 x1 x2 x3, H x = some (.ins cU dx [("signs", .ref a1), ("moves", .ref a2), ("good", .ref a3), ("_columns", .ref a4)]) ∧
  SqT K (SL.off H x) a1 x1 ∧ DtAll K (SL.off H x) x1 ss ∧ SqT K (SL.off H x) a2 x2 ∧ DtAll K (SL.off H x) x2 ms ∧ SqT K (SL.off H x) a3 x3 ∧ DtAll K (SL.off H x) x3 gs ∧ SL.off H x a4 = some (.dK (colsOf ss ss.length))
theorem sc_Rule_init : FnScope ["self", "signs", "moves", "good", "column", "sign"] ["self", "signs", "moves", "good"] (defScope s_Rule_init) := ⟨rfl, rfl, rfl, by decide +kernel, rfl, by decide +kernel, by decide +kernel⟩
def ruleWay (d1 d2 d3 : D) : Option Str := if signsOk SG d1 = false then some "signs" else if movesOk ((itemsD d1).getD []).length d2 = false then some "moves" else if goodOk ((itemsD d2).getD []).length d3 = false then some "good" else none
def spRule (K : PySem.W.Frag) (cB cU : Addr) : Sp := fun vs H Q E => ∃ x dx sv mv gv d1 d2 d3 G, vs = [.ref x, sv, mv, gv] ∧ H x = some (.ins cU dx []) ∧ Same G (SL.off H x) ∧ Dt K G sv d1 ∧ Dt K G mv d2 ∧ Dt K G gv d3 ∧ (∀ part, ruleWay d1 d2 d3 = some part → raised cB part E G) ∧
  ∀ ss ms gs, ruleWay d1 d2 d3 = none → itemsD d1 = some ss → itemsD d2 = some ms → itemsD d3 = some gs → ∀ H', Same G H' → RuleAt K cU H' x ss (ms.map keptD) gs → Q .non H'
theorem ok_Rule_init (M : MF P w K mg cB iB cU fU cL) (F_signs_of : FnC P w K mg base (L2.CX P w) 4 "signs_of" ["thing"] (spSigns K cB)) (F_moves_of : FnC P w K mg base (L2.CX P w) 6 "_moves_of" ["thing", "width"] (spMoves K cB)) (F_good_of : FnC P w K mg base (L2.CX P w) 6 "_good_of" ["thing", "many"] (spGood K cB))
    (F : Fun K "__init__" "Rule.__init__" s_Rule_init f fd) : FnOk P w K mg base (L2.CX P w) 8 f fd ["self", "signs", "moves", "good"] (spRule K cB cU) := by
  refine F.okX sc_Rule_init (fun vs H Q E h => ?_) (fun cdv A outer s H vs Q E hr h => ?_)
  · obtain ⟨x, dx, sv, mv, gv, d1, d2, d3, G, rfl, _⟩ := h
    rfl
  · obtain ⟨x, dx, sv, mv, gv, d1, d2, d3, G, rfl, hx, sG, h1, h2, h3, e1, q⟩ := h
    refine ⟨_, (pss_cons (ps_fld (pv 0) (pe_f F_signs_of hr (by omega) (passes_call (takes_of rfl rfl rfl rfl) (fun _ _ _ _ h => h)) (pa_cons (pv 1) pa_nil)) rfl)
      (pss_cons (ps_fld (pv 0) (pe_f F_moves_of hr (by omega) (passes_call (takes_of rfl rfl rfl rfl) (fun _ _ _ _ h => h)) (pa_cons (pv 2) (pa_cons (pe_callB call_len_seq (by rfl) M.m_len (by decide +kernel) (pa_cons (pe_fld (pv 0) rfl) pa_nil)) pa_nil))) rfl)
      (pss_cons (ps_fld (pv 0) (pe_f F_good_of hr (by omega) (passes_call (takes_of rfl rfl rfl rfl) (fun _ _ _ _ h => h)) (pa_cons (pv 3) (pa_cons (pe_callB call_len_seq (by rfl) M.m_len (by decide +kernel) (pa_cons (pe_fld (pv 0) rfl) pa_nil)) pa_nil))) rfl)
      (pss_one (ps_fld (pv 0) (pe_dc (own := [("column", 4), ("sign", 5)]) (tt := tYes) rfl sc_Rule_init.nd (pi_enumT (by rfl) M.m_enumerate (pa_cons (pe_fld (pv 0) rfl) pa_nil)) (blkOk_by (N := ["self", "signs", "moves", "good", "column", "sign"]) (sc := defScope s_Rule_init) (by decide +kernel)) (fun _ _ _ _ _ => (pg_tupK (n := 2) K rfl (pgs_cons (pg_name (i := 4) sc_Rule_init.nd rfl (Or.inl rfl)) (pgs_cons (pg_name (i := 5) sc_Rule_init.nd rfl (Or.inl rfl)) pgs_nil)))) (fun _ _ _ _ _ => pts_nil) (fun _ _ _ _ _ => (pv 5)) (fun _ _ _ _ _ => (pv 4))) rfl))))), ?_⟩
    have sG0 := sG.trans (off_same H x)
    refine ⟨_, rfl, sv, d1, rfl, h1.same sG0, fun z H' d s' nd => e1 "signs" (by unfold ruleWay; rw [if_pos z]) H' d (sG0.trans s') nd, fun ss ok1 i1 H1 a1 x1 s1 q1 k1 => ?_⟩
    have hx1 := s1 _ _ hx
    have q1' := SqT.offI hx1 q1
    have k1' := DtAll.offI hx1 k1
    have sG1 : Same G (SL.off H1 x) := sG.trans (off_mono s1)
    refine ⟨_, rfl, x, cU, dx, [], rfl, hx1, M.cl_Rule, M.n_signs, by simp, ?_⟩
    have hx2 : (upd H1 x (.ins cU dx (putF "signs" (.ref a1) []))) x = some (.ins cU dx [("signs", .ref a1)]) := upd_same
    have o2 : Same (SL.off H1 x) (SL.off (upd H1 x (.ins cU dx (putF "signs" (.ref a1) []))) x) := off_upd
    generalize upd H1 x (.ins cU dx (putF "signs" (.ref a1) [])) = H2 at hx2 o2 ⊢
    have sG2 := sG1.trans o2
    have q12 := Same.seqT o2 q1'
    have k12 := DtAll.same o2 k1'
    have sG2' := sG2.trans (off_same H2 x)
    have lss : x1.length = ss.length := DtAll.length k1
    refine ⟨_, rfl, _, rfl, x, cU, dx, _, _, rfl, hx2, M.cl_Rule, M.n_signs, rfl, a1, x1, rfl, .inr (Same.seqT (off_same H2 x) q12), mv, d2, x1.length, rfl, h2.same sG2', ?_, fun ms ok2 i2 H3 a2 x2 s3 q2 k2 => ?_⟩
    · intro z H' d s' nd
      refine e1 "moves" ?_ H' d (sG2'.trans s') nd
      unfold ruleWay
      rw [ok1, i1, if_neg (by decide), if_pos (by rw [← z, lss]; rfl)]
    have hx3 := s3 _ _ hx2
    have q2' := SqT.offI hx3 q2
    have k2' := DtAll.offI hx3 k2
    have q13 := Same.seqT (off_mono s3) q12
    have k13 := DtAll.same (off_mono (p := x) s3) k12
    have sG3 := sG2.trans (off_mono s3)
    refine ⟨_, rfl, x, cU, dx, _, rfl, hx3, M.cl_Rule, M.n_moves, by simp, ?_⟩
    have hx4 : (upd H3 x (.ins cU dx (putF "moves" (.ref a2) [("signs", .ref a1)]))) x = some (.ins cU dx [("signs", .ref a1), ("moves", .ref a2)]) := upd_same
    have o4 : Same (SL.off H3 x) (SL.off (upd H3 x (.ins cU dx (putF "moves" (.ref a2) [("signs", .ref a1)]))) x) := off_upd
    generalize upd H3 x (.ins cU dx (putF "moves" (.ref a2) [("signs", .ref a1)])) = H4 at hx4 o4 ⊢
    have sG4 := sG3.trans o4
    have sG4' := sG4.trans (off_same H4 x)
    have q14 := Same.seqT o4 q13
    have k14 := DtAll.same o4 k13
    have q24 := Same.seqT o4 q2'
    have k24 := DtAll.same o4 k2'
    have lms : x2.length = ms.length := by rw [DtAll.length k2, List.length_map]
    refine ⟨_, rfl, _, rfl, x, cU, dx, _, _, rfl, hx4, M.cl_Rule, M.n_moves, rfl, a2, x2, rfl, .inr (Same.seqT (off_same H4 x) q24), gv, d3, x2.length, rfl, h3.same sG4', ?_, fun gs ok3 i3 H5 a3 x3 s5 q3 k3 => ?_⟩
    · intro z H' d s' nd
      refine e1 "good" ?_ H' d (sG4'.trans s') nd
      unfold ruleWay
      rw [ok1, i1, i2, if_neg (by decide), if_neg (by rw [show ((some ss).getD []).length = x1.length from lss.symm, ok2]; decide), if_pos (by rw [← z, lms]; rfl)]
    have hx5 := s5 _ _ hx4
    have q3' := SqT.offI hx5 q3
    have k3' := DtAll.offI hx5 k3
    have q15 := Same.seqT (off_mono s5) q14
    have k15 := DtAll.same (off_mono (p := x) s5) k14
    have q25 := Same.seqT (off_mono s5) q24
    have k25 := DtAll.same (off_mono (p := x) s5) k24
    have sG5 := sG4.trans (off_mono s5)
    refine ⟨_, rfl, x, cU, dx, _, rfl, hx5, M.cl_Rule, M.n_good, by simp, ?_⟩
    have hx6 : (upd H5 x (.ins cU dx (putF "good" (.ref a3) [("signs", .ref a1), ("moves", .ref a2)]))) x = some (.ins cU dx [("signs", .ref a1), ("moves", .ref a2), ("good", .ref a3)]) := upd_same
    have o6 : Same (SL.off H5 x) (SL.off (upd H5 x (.ins cU dx (putF "good" (.ref a3) [("signs", .ref a1), ("moves", .ref a2)]))) x) := off_upd
    generalize upd H5 x (.ins cU dx (putF "good" (.ref a3) [("signs", .ref a1), ("moves", .ref a2)])) = H6 at hx6 o6 ⊢
    have sG6 := sG5.trans o6
    have q16 := Same.seqT o6 q15
    have k16 := DtAll.same o6 k15
    have q26 := Same.seqT o6 q25
    have k26 := DtAll.same o6 k25
    have q36 := Same.seqT o6 q3'
    have k36 := DtAll.same o6 k3'
    have way : ruleWay d1 d2 d3 = none := by
      unfold ruleWay
      rw [ok1, i1, i2, if_neg (by decide), if_neg (by rw [show ((some ss).getD []).length = x1.length from lss.symm, ok2]; decide), if_neg (by rw [show ((some ms).getD []).length = x2.length from lms.symm, ok3]; decide)]
    have allS : ss.all (signD SG) = true := by
      have := ok1
      rw [signsOk_yes i1, Bool.and_eq_true, Bool.and_eq_true] at this
      exact this.1.2
    have few10 : ss.length ≤ 10 := by
      have := ok1
      rw [signsOk_yes i1, Bool.and_eq_true, Bool.and_eq_true, Bool.and_eq_true, decide_eq_true_eq, decide_eq_true_eq] at this
      exact this.1.1.2
    have q1w := Same.seqT (off_same H6 x) q16
    have k1w := DtAll.same (off_same H6 x) k16
    refine ⟨_, rfl, x, cU, dx, _, _, rfl, hx6, M.cl_Rule, M.n_signs, rfl, a1, x1, rfl, q1w, fun D nD => ?_⟩
    refine dc_it (walk_enumT (K := K) (a := a1) (xs := x1)) (fun i H' => Same H6 H' ∧ H' D = some (.dK (colsOf ss i))) ⟨same_upd nD, upd_same⟩ (fun i H' _ p => Same.seqT p.1 q1w) (fun i v H' H7 hi p y => ?_) (fun H' p => ?_)
    · obtain ⟨T, u1, u2, rfl, nT, rfl, y1, y2⟩ := y
      cases y1
      obtain ⟨dd, kd, hd⟩ := DtAll.get k1w y2
      have sd : signD SG dd = true := by
        rw [List.all_eq_true] at allS
        exact allS dd (List.mem_of_getElem? kd)
      cases hd <;> first | cases sd | skip
      rename_i sg zs
      have nDT : D ≠ T := ne_of_none p.2 nT
      have sT := p.1.trans (same_upd (o := .tup [.int (i : Nat), .str sg]) nT)
      refine ⟨T, _, rfl, SqT.of upd_same, rfl, _, _, rfl, _, _, rfl, rfl, rfl, lc_yes ⟨_, rfl, _, rfl, _, Sum.inr sg, rfl, (by rw [upd_ne nDT]; exact p.2), ?_, ?_, ?_⟩⟩
      · have := cols_len ss i
        have hi' : i < ss.length := by rw [← lss]; exact hi
        exact lineN (by omega)
      · exact fun b o e => by
          rw [upd_ne (ne_of_none e nD)]
          exact sT _ _ e
      · rw [upd_same, cols_more kd]
        rfl
    · rw [lss] at p
      refine ⟨_, rfl, x, cU, dx, _, rfl, p.1 _ _ hx6, M.cl_Rule, M.n_columns, by simp, ?_⟩
      have nDx : D ≠ x := (ne_of_none hx6 nD).symm
      have o8 : Same (SL.off H6 x) (SL.off (upd H' x (.ins cU dx (putF "_columns" (.ref D) [("signs", .ref a1), ("moves", .ref a2), ("good", .ref a3)]))) x) := (off_mono p.1).trans off_upd
      refine q ss ms gs way i1 i2 i3 _ ((sG6.trans o8).trans (off_same _ x)) ⟨dx, a1, a2, a3, D, x1, x2, x3, upd_same, Same.seqT o8 q16, DtAll.same o8 k16, Same.seqT o8 q26, DtAll.same o8 k26, Same.seqT o8 q36, DtAll.same o8 k36, ?_⟩
      rw [off_ne nDx, upd_ne nDx]
      exact p.2
end

end K09
namespace K09
open PySem PySem.Spec PyProof.Rows L2 SL
section
variable {P : Program} {w : World} {K : PySem.W.Frag} {mg : Str → Option Value} {base : Heap} {cB iB cU fU cL : Addr} {fdU : FuncData} {f : Addr} {fd : FuncData}
/-! ### _law_told, _law_is_items, _law_are_states, _law_ascends, _law_due -/
def wayOf (d1 d2 d3 : D) : Str := (ruleWay d1 d2 d3).getD "made"
theorem sc_law_told : FnScope ["signs", "moves", "good", "told", "e"] ["signs", "moves", "good"] (defScope s_law_told) := ⟨rfl, rfl, rfl, by decide +kernel, rfl, by decide +kernel, by decide +kernel⟩
def spTold (K : PySem.W.Frag) : Sp := fun vs H Q _ => ∃ v1 v2 v3 d1 d2 d3, vs = [v1, v2, v3] ∧ Dt K H v1 d1 ∧ Dt K H v2 d2 ∧ Dt K H v3 d3 ∧ ∀ H', Same H H' → Q (.str (wayOf d1 d2 d3)) H'
theorem items_some {d1 d2 d3 : D} (h : ruleWay d1 d2 d3 = none) : ∃ ss ms gs, itemsD d1 = some ss ∧ itemsD d2 = some ms ∧ itemsD d3 = some gs := by
  unfold ruleWay at h
  split at h
  · cases h
  · rename_i h1
    split at h
    · cases h
    · rename_i h2
      split at h
      · cases h
      · rename_i h3
        cases e1 : itemsD d1 with
        | none => exact absurd (signsOk_no e1) h1
        | some ss =>
          cases e2 : itemsD d2 with
          | none => exact absurd (movesOk_no e2) h2
          | some ms =>
            cases e3 : itemsD d3 with
            | none => exact absurd (goodOk_no e3) h3
            | some gs => exact ⟨ss, ms, gs, rfl, rfl, rfl⟩
theorem ok_law_told (M : MF P w K mg cB iB cU fU cL) (OR : FnOk P w K mg base (L2.CX P w) 8 fU fdU ["self", "signs", "moves", "good"] (spRule K cB cU)) (BR : Binds K fdU ["self", "signs", "moves", "good"] [])
    (F : Fun K "_law_told" "_law_told" s_law_told f fd) : FnOk P w K mg base CX0 11 f fd ["signs", "moves", "good"] (spTold K) := by
  refine F.ok (k := 10) sc_law_told (fun vs H Q E h => ?_) (fun cdv A outer s H vs Q E hr h => ?_)
  · obtain ⟨v1, v2, v3, d1, d2, d3, rfl, _⟩ := h
    rfl
  · obtain ⟨v1, v2, v3, d1, d2, d3, rfl, h1, h2, h3, q⟩ := h
    refine ⟨_, (pss_cons (ps_set (i := 3) sc_law_told.nd rfl (Or.inl rfl) pe_str)
      (pss_cons (ps_clauses rfl rfl sc_law_told.nd takes0 (fun W pn xe tk _ => (pss_one (ps_expr (pe_makeS M.mk_Rule OR (hr.mono (by decide)) (by rfl) M.g_Rule BR (fun σ => passAt tk σ) (pa_cons (pv 0) (pa_cons (pv 1) (pa_cons (pv 2) pa_nil)))))))
      (ClausesOk.named (i := 4) rfl rfl ⟨rfl, by decide, .inl M.g_BadRule⟩ (fun a oe cls d pn hz hf => (pss_one (ps_set (i := 3) sc_law_told.nd rfl (Or.inl rfl) (pe_exf M.x_BadRule hz hf (pv 4))))) (ClausesOk.only ⟨rfl, by decide, .inl M.g_LabelError⟩ (fun a oe cls d pn hz hf => (pss_one (ps_set (i := 3) sc_law_told.nd rfl (Or.inl rfl) pe_str))) ClausesOk.nil)))
      (pss_one (ps_ret (pv 3))))), ?_⟩
    refine ⟨_, rfl, _, rfl, _, rfl, fun o dx no ndx ne => ?_⟩
    have nxo : (upd H dx (.own o)) o = none := by rw [upd_ne ne.symm]; exact no
    have sG : Same H (SL.off (upd (upd H dx (.own o)) o (.ins cU dx [])) o) := (off_of (same_upd ndx) no).trans off_upd
    refine ⟨o, dx, v1, v2, v3, d1, d2, d3, H, rfl, upd_same, sG, h1, h2, h3, fun part way H' d s' nd => ?_, fun ss ms gs way i1 i2 i3 H' s' hR => ⟨rfl, _, rfl, ?_⟩⟩
    · refine ⟨true, M.e_BB, fun _ ee na => ⟨.ref ee, rfl, rfl, rfl, d, _, rfl, upd_same, _, rfl, ?_⟩, fun z => nomatch z⟩
      have e : wayOf d1 d2 d3 = part := by unfold wayOf; rw [way]; rfl
      rw [e] at q
      exact q _ (s'.trans (same_upd nd))
    · have e : wayOf d1 d2 d3 = "made" := by unfold wayOf; rw [way]; rfl
      rw [e] at q
      exact q H' s'
theorem sc_law_is_items : FnScope ["thing"] ["thing"] (defScope s_law_is_items) := ⟨rfl, rfl, rfl, by decide +kernel, rfl, by decide +kernel, by decide +kernel⟩
def isItems (d : D) : Bool := (itemsD d).isSome
def spIsItems (K : PySem.W.Frag) : Sp := fun vs H Q _ => ∃ v d, vs = [v] ∧ Dt K H v d ∧ Q (.bl (isItems d)) H
theorem ok_law_is_items (M : MF P w K mg cB iB cU fU cL) (F : Fun K "_law_is_items" "_law_is_items" s_law_is_items f fd) : FnOk P w K mg base CX0 1 f fd ["thing"] (spIsItems K) := by
  refine F.ok sc_law_is_items (fun vs H Q E h => ?_) (fun cdv A outer s H vs Q E hr h => ?_)
  · obtain ⟨v, d, rfl, _⟩ := h
    rfl
  · obtain ⟨v, d, rfl, hd, q⟩ := h
    refine ⟨_, (pss_one (ps_ret (pe_or (pe_callB call_isi (by rfl) M.m_isinstance (by decide +kernel) (pa_cons (pv 0) (pa_cons (pe_bltn (v := .ty "tuple") (by rfl) M.m_tuple (by decide +kernel) rfl) pa_nil))) (pe_one (pe_callB call_isi (by rfl) M.m_isinstance (by decide +kernel) (pa_cons (pv 0) (pa_cons (pe_bltn (v := .ty "list") (by rfl) M.m_list (by decide +kernel) rfl) pa_nil))))))), ?_⟩
    have hk := hd.knw
    refine ⟨v, rfl, v, .ty "tuple", _, _, _, rfl, .ty _, hk.ty, kit_tuple hk.mem, _, rfl, ?_⟩
    cases hd with
    | tup _ _ _ => exact iteT q
    | lst _ _ _ => exact iteF ⟨_, rfl, _, .ty "list", _, _, _, rfl, .ty _, hk.ty, kit_list hk.mem, q⟩
    | non => exact iteF ⟨_, rfl, _, .ty "list", _, _, _, rfl, .ty _, hk.ty, kit_list hk.mem, q⟩
    | bl b => exact iteF ⟨_, rfl, _, .ty "list", _, _, _, rfl, .ty _, hk.ty, kit_list hk.mem, q⟩
    | int i => exact iteF ⟨_, rfl, _, .ty "list", _, _, _, rfl, .ty _, hk.ty, kit_list hk.mem, q⟩
    | str x z => exact iteF ⟨_, rfl, _, .ty "list", _, _, _, rfl, .ty _, hk.ty, kit_list hk.mem, q⟩
    | dic _ => exact iteF ⟨_, rfl, _, .ty "list", _, _, _, rfl, .ty _, hk.ty, kit_list hk.mem, q⟩
end

end K09
namespace K09
open PySem PySem.Spec PyProof.Rows L2 SL
section
variable {P : Program} {w : World} {K : PySem.W.Frag} {mg : Str → Option Value} {base : Heap} {cB iB cU fU cL : Addr} {fdU : FuncData} {f : Addr} {fd : FuncData}
/-! ### _law_are_states, _law_ascends, _law_due -/
theorem Dt.seq {H : Hp} {v : V} {d : D} {ds : List D} (h : Dt K H v d) (e : itemsD d = some ds) : ∃ a xs, v = .ref a ∧ (SqL K H a xs ∨ SqT K H a xs) ∧ DtAll K H xs ds ∧ ds.length ≤ 100000 := by
  cases h with
  | lst h k z =>
    cases e
    exact ⟨_, _, rfl, .inl h, k, z⟩
  | tup h k z =>
    cases e
    exact ⟨_, _, rfl, .inr h, k, z⟩
  | _ => cases e
theorem sq_same {H H' : Hp} {a : Addr} {xs : List V} (s : Same H H') (h : SqL K H a xs ∨ SqT K H a xs) : SqL K H' a xs ∨ SqT K H' a xs := h.imp (fun z => s.seq z) fun z => Same.seqT s z
def statesD (m : Int) (d : D) : Bool := match itemsD d with
  | none => false
  | some ds => statesOk m ds
theorem all_now {ds : List D} {g : D → Bool} {i : Nat} {x : D} (e : ds[i]? = some x) (hx : g x = false) : ds.all g = false := by
  cases c : ds.all g with
  | false => rfl
  | true =>
    rw [List.all_eq_true] at c
    rw [c x (List.mem_of_getElem? e)] at hx
    cases hx
theorem sc_law_are_states : FnScope ["thing", "many", "state"] ["thing", "many"] (defScope s_law_are_states) := ⟨rfl, rfl, rfl, by decide +kernel, rfl, by decide +kernel, by decide +kernel⟩
def spLStates (K : PySem.W.Frag) : Sp := fun vs H Q _ => ∃ v d m, vs = [v, .int m] ∧ Dt K H v d ∧ Q (.bl (statesD m d)) H
theorem ok_law_are_states (M : MF P w K mg cB iB cU fU cL) (F_law_is_items : FnC P w K mg base CX0 1 "_law_is_items" ["thing"] (spIsItems K)) (F : Fun K "_law_are_states" "_law_are_states" s_law_are_states f fd) : FnOk P w K mg base CX0 2 f fd ["thing", "many"] (spLStates K) := by
  refine F.ok sc_law_are_states (fun vs H Q E h => ?_) (fun cdv A outer s H vs Q E hr h => ?_)
  · obtain ⟨v, d, m, rfl, _⟩ := h
    rfl
  · obtain ⟨v, d, m, rfl, hd, q⟩ := h
    refine ⟨_, (pss_cons (ps_if (pt_not (pt_val (pe_f F_law_is_items hr (by omega) pass0 (pa_cons (pv 0) pa_nil))))
      (pss_one (ps_ret pe_bl)) pss_nil)
      (pss_cons (ps_for PassesOwn.never rfl (pi_any (pv 0)) (pg_name (i := 2) sc_law_are_states.nd rfl (Or.inl rfl))
      (pss_one (ps_if (PW.pt (pw_or (pt_not (pt_val (pe_callB call_isi (by rfl) M.m_isinstance (by decide +kernel) (pa_cons (pv 2) (pa_cons (pe_bltn (v := .ty "int") (by rfl) M.m_int (by decide +kernel) rfl) pa_nil))))) (pw_or (pt_val (pe_callB call_isi (by rfl) M.m_isinstance (by decide +kernel) (pa_cons (pv 2) (pa_cons (pe_bltn (v := .ty "bool") (by rfl) M.m_bool (by decide +kernel) rfl) pa_nil)))) (pw_or (pt_cmpR op_lt (pv 2) pe_int (nomark _)) (pw_or1 (pt_cmpR op_ge (pv 2) (pv 1) (nomark _)))))))
      (pss_one (ps_ret pe_bl)) pss_nil)))
      (pss_one (ps_ret pe_bl)))), ?_⟩
    refine ⟨_, rfl, v, d, rfl, hd, _, rfl, ?_⟩
    cases i : itemsD d with
    | none =>
      have e1 : isItems d = false := by unfold isItems; rw [i]; rfl
      have e2 : statesD m d = false := by unfold statesD; rw [i]
      rw [e1]
      rw [e2] at q
      exact iteT q
    | some ds =>
      have e1 : isItems d = true := by unfold isItems; rw [i]; rfl
      have e2 : statesD m d = statesOk m ds := by unfold statesD; rw [i]
      rw [e1]
      rw [e2] at q
      obtain ⟨a, xs, rfl, hs, hk, z⟩ := Dt.seq hd i
      refine iteF ⟨_, rfl, a, xs, rfl, hs, fun J G w hG => ?_⟩
      refine for_it w (fun i σ H' => H' = H ∧ (ds.take i).all (withinD 0 (m - 1)) = true ∧ ∃ x, σ = [some (.ref a), some (.int m), x]) ⟨rfl, rfl, _, rfl⟩ (fun i σ H' _ p => hG H' (by rw [p.1]; exact Same.refl H)) ?_ ?_
      · rintro i y _ H' H2 hi ⟨rfl, al, x, rfl⟩ ⟨rfl, hy⟩
        obtain ⟨dy, ky, hdy⟩ := DtAll.get hk hy
        have hT := hdy.knw
        refine ⟨_, rfl, y, .ty "int", _, _, _, rfl, .ty _, hT.ty, kit_int hT.mem, _, rfl, ?_⟩
        have no : withinD 0 (m - 1) dy = false → Q (.bl false) H2 := fun n => by
          have : statesOk m ds = false := all_now ky n
          rw [this] at q
          exact q
        cases hdy with
        | int j =>
          refine iteF ⟨_, rfl, _, .ty "bool", _, _, _, rfl, .ty _, hT.ty, kit_bool hT.mem, _, rfl, iteF ?_⟩
          refine ⟨_, rfl, _, _, rfl, rfl, _, rfl, ?_⟩
          by_cases c1 : j < 0
          · rw [decide_eq_true c1]
            exact iteT (no (by show (decide (0 ≤ j) && _) = false; rw [decide_eq_false (by omega)]; rfl))
          · rw [decide_eq_false c1]
            refine iteF ⟨_, rfl, _, rfl, _, _, rfl, rfl, _, rfl, ?_⟩
            by_cases c2 : m ≤ j
            · rw [decide_eq_true c2]
              exact iteT (no (by show (decide (0 ≤ j) && decide (j ≤ m - 1)) = false; rw [decide_eq_false (p := j ≤ m - 1) (by omega), Bool.and_false]))
            · rw [decide_eq_false c2]
              exact iteF ⟨rfl, all_more al ky (by show (decide (0 ≤ j) && decide (j ≤ m - 1)) = true; rw [decide_eq_true (by omega), decide_eq_true (by omega)]; rfl), _, rfl⟩
        | bl b => exact iteF ⟨_, rfl, _, .ty "bool", _, _, _, rfl, .ty _, hT.ty, kit_bool hT.mem, _, rfl, iteT (no rfl)⟩
        | non => exact iteT (no rfl)
        | str _ _ => exact iteT (no rfl)
        | lst _ _ _ => exact iteT (no rfl)
        | tup _ _ _ => exact iteT (no rfl)
        | dic _ => exact iteT (no rfl)
      · rintro _ H' ⟨rfl, al, x, rfl⟩
        rw [DtAll.length hk, List.take_length] at al
        have : statesOk m ds = true := al
        rw [this] at q
        exact q
/-- the places behind which it does not rise -/
def downs (ds : List D) (n : Nat) : List Int := ((List.range n).filter fun k => !((steps ds).getD k true)).map fun k => (1 : Int) + (k : Nat)
theorem downs_len (ds : List D) (n : Nat) : (downs ds n).length ≤ n := by
  unfold downs
  rw [List.length_map]
  have := List.length_filter_le (fun k => !((steps ds).getD k true)) (List.range n)
  rw [List.length_range] at this
  exact this
theorem downs_end (ds : List D) : decide ((downs ds (steps ds).length).length = 0) = rising ds := by
  unfold downs rising
  rw [List.length_map, Bool.eq_iff_iff, decide_eq_true_eq, List.length_eq_zero_iff, List.filter_eq_nil_iff, List.all_eq_true]
  constructor
  · intro h b hb
    obtain ⟨i, hi, e⟩ := List.mem_iff_getElem.mp hb
    have := h i (List.mem_range.mpr hi)
    rw [List.getD_eq_getElem?_getD, List.getElem?_eq_getElem hi, e] at this
    cases b with
    | true => rfl
    | false => exact absurd rfl this
  · intro h k hk
    have hk' := List.mem_range.mp hk
    have := h _ (List.getElem_mem hk')
    rw [List.getD_eq_getElem?_getD, List.getElem?_eq_getElem hk']
    show ¬ (!((steps ds)[k])) = true
    rw [show (steps ds)[k] = true from this]
    decide
theorem downs_more {ds : List D} {i : Nat} {b : Bool} (h : (steps ds)[i]? = some b) : downs ds (i + 1) = if b = true then downs ds i else downs ds i ++ [(1 : Int) + (i : Nat)] := by
  unfold downs
  rw [List.range_succ, List.filter_append, List.map_append]
  cases b with
  | true => simp [List.getD, h]
  | false => simp [List.getD, h]
theorem sc_law_ascends : FnScope ["things", "at"] ["things"] (defScope s_law_ascends) := ⟨rfl, rfl, rfl, by decide +kernel, rfl, by decide +kernel, by decide +kernel⟩
def spAsc (K : PySem.W.Frag) : Sp := fun vs H Q _ => ∃ a xs ds, vs = [.ref a] ∧ (SqL K H a xs ∨ SqT K H a xs) ∧ DtAll K H xs ds ∧ ds.length ≤ 100000 ∧ homog ds = true ∧ ∀ H', Same H H' → Q (.bl (rising ds)) H'
theorem ok_law_ascends (M : MF P w K mg cB iB cU fU cL) (F : Fun K "_law_ascends" "_law_ascends" s_law_ascends f fd) : FnOk P w K mg base CX0 1 f fd ["things"] (spAsc K) := by
  refine F.ok sc_law_ascends (fun vs H Q E h => ?_) (fun cdv A outer s H vs Q E hr h => ?_)
  · obtain ⟨a, xs, ds, rfl, _⟩ := h
    rfl
  · obtain ⟨a, xs, ds, rfl, hS, hD, z, hm, q⟩ := h
    refine ⟨_, (pss_one (ps_ret (pe_cmpR op_eq (pe_callB call_len_seq (by rfl) M.m_len (by decide +kernel) (pa_cons (pe_lc (own := [("at", 1)]) rfl sc_law_ascends.nd (pi_range2 (by rfl) M.m_range (pa_cons pe_int (pa_cons (pe_callB call_len_seq (by rfl) M.m_len (by decide +kernel) (pa_cons (pv 0) pa_nil)) pa_nil))) (blkOk_by (N := ["things", "at"]) (sc := defScope s_law_ascends) (by decide +kernel)) (fun _ _ _ _ _ => (pg_name (i := 1) sc_law_ascends.nd rfl (Or.inl rfl))) (fun _ _ _ _ _ => (pts_one (pt_not (pt_cmpR op_ltD (pe_ix (ix_seqK K) (pv 0) (pe_op op_sub (pv 1) pe_int) (fun _ _ => rfl)) (pe_ix (ix_seqK K) (pv 0) (pv 1) (fun _ _ => rfl)) (nomark _))))) (fun _ _ _ _ _ => (pv 1))) pa_nil)) pe_int (nomark _)))), ?_⟩
    have ll := DtAll.length hD
    have sl := steps_len ds
    refine ⟨_, rfl, a, xs, rfl, hS, 1, _, rfl, ⟨by decide, by decide, by omega, by omega⟩, fun E2 nE => ?_⟩
    rw [show (((xs.length : Nat) : Int) - 1).toNat = (steps ds).length by omega]
    refine lc_range (fun i H' => Same H H' ∧ H' E2 = some (.lst ((downs ds i).map V.int))) ⟨same_upd nE, upd_same⟩ (fun i H' hi p => ?_) (fun H' p => ?_)
    · obtain ⟨c, k1⟩ : ∃ c, ds[i]? = some c := ⟨ds[i]'(by omega), List.getElem?_eq_getElem (by omega)⟩
      obtain ⟨e, k2⟩ : ∃ c, ds[i + 1]? = some c := ⟨ds[i + 1]'(by omega), List.getElem?_eq_getElem (by omega)⟩
      obtain ⟨x, g1, h1⟩ := DtAll.got hD k1
      obtain ⟨y, g2, h2⟩ := DtAll.got hD k2
      have hS' := sq_same p.1 hS
      have i1 : (1 : Int) + (i : Nat) - 1 = ((i : Nat) : Int) := by omega
      have i2 : (1 : Int) + (i : Nat) = ((i + 1 : Nat) : Int) := by omega
      refine ⟨rfl, _, rfl, _, rfl, _, _, rfl, rfl, ?_⟩
      have ix : ∀ {j : Nat} {k : Int} {u : V} {R : VK}, k = (j : Int) → xs[j]? = some u → R u H' → rIx K (.ref a) (.int k) H' R := fun {j k u R} ek e r => by
        rw [ek]
        rcases hS' with h | h
        · exact .inl ⟨a, xs, _, u, rfl, rfl, h, atI_nat e, r⟩
        · exact .inr (.inl ⟨a, xs, _, u, rfl, rfl, h, atI_nat e, r⟩)
      refine ix (k := (1 : Int) + (i : Nat) - 1) i1 g1 ⟨_, rfl, _, rfl, ?_⟩
      refine ix (k := (1 : Int) + (i : Nat)) i2 g2 (lt_of (h1.same p.1) (h2.same p.1) (homog_two hm k1 k2) ⟨_, rfl, ?_⟩)
      have st := steps_get k1 k2
      cases c3 : ltD c e with
      | true =>
        rw [c3] at st
        refine iteF ⟨p.1, ?_⟩
        rw [downs_more st, if_pos rfl]
        exact p.2
      | false =>
        rw [c3] at st
        refine iteT ⟨_, rfl, _, p.2, ?_, ?_, ?_⟩
        · rw [List.length_map]
          have := downs_len ds i
          exact lineN (by omega)
        · exact fun b o e => by
            rw [upd_ne (ne_of_none e nE)]
            exact p.1 _ _ e
        · rw [upd_same, downs_more st, if_neg Bool.false_ne_true, List.map_append]
          rfl
    · refine ⟨E2, _, rfl, .inl (SqL.of p.2), rfl, ?_⟩
      rw [List.length_map]
      have e : decide (V.int ((downs ds (steps ds).length).length : Nat) = V.int 0) = rising ds := by
        rw [← downs_end]
        by_cases c : (downs ds (steps ds).length).length = 0
        · rw [decide_eq_true c, decide_eq_true (by rw [c]; rfl)]
        · rw [decide_eq_false c, decide_eq_false fun z => c (by have := V.int.inj z; omega)]
      rw [e]
      exact q H' p.1
end

end K09
namespace K09
open PySem PySem.Spec PyProof.Rows L2 SL
section
variable {P : Program} {w : World} {K : PySem.W.Frag} {mg : Str → Option Value} {base : Heap} {cB iB cU fU cL : Addr} {fdU : FuncData} {f : Addr} {fd : FuncData}
theorem sc_law_due : FnScope ["signs", "moves", "good", "sign", "line"] ["signs", "moves", "good"] (defScope s_law_due) := ⟨rfl, rfl, rfl, by decide +kernel, rfl, by decide +kernel, by decide +kernel⟩
def spDue (K : PySem.W.Frag) : Sp := fun vs H Q _ => ∃ v1 v2 v3 d1 d2 d3, vs = [v1, v2, v3] ∧ Dt K H v1 d1 ∧ Dt K H v2 d2 ∧ Dt K H v3 d3 ∧ ∀ H', Same H H' → Q (.str (wayOf d1 d2 d3)) H'
theorem way_signs {d1 d2 d3 : D} (h : signsOk SG d1 = false) : wayOf d1 d2 d3 = "signs" := by
  unfold wayOf ruleWay
  rw [if_pos h]
  rfl
theorem way_moves {d1 d2 d3 : D} {ss : List D} (h : signsOk SG d1 = true) (i : itemsD d1 = some ss) (m : movesOk ss.length d2 = false) : wayOf d1 d2 d3 = "moves" := by
  unfold wayOf ruleWay
  rw [h, i, if_neg (by decide), if_pos (show movesOk ((some ss).getD []).length d2 = false from m)]
  rfl
theorem way_good {d1 d2 d3 : D} {ss ms : List D} (h : signsOk SG d1 = true) (i : itemsD d1 = some ss) (m : movesOk ss.length d2 = true) (i2 : itemsD d2 = some ms) (g : goodOk ms.length d3 = false) : wayOf d1 d2 d3 = "good" := by
  unfold wayOf ruleWay
  rw [h, i, i2, if_neg (by decide), if_neg (by rw [show movesOk ((some ss).getD []).length d2 = true from m]; decide), if_pos (show goodOk ((some ms).getD []).length d3 = false from g)]
  rfl
theorem way_made {d1 d2 d3 : D} {ss ms : List D} (h : signsOk SG d1 = true) (i : itemsD d1 = some ss) (m : movesOk ss.length d2 = true) (i2 : itemsD d2 = some ms) (g : goodOk ms.length d3 = true) : wayOf d1 d2 d3 = "made" := by
  unfold wayOf ruleWay
  rw [h, i, i2, if_neg (by decide), if_neg (by rw [show movesOk ((some ss).getD []).length d2 = true from m]; decide), if_neg (by rw [show goodOk ((some ms).getD []).length d3 = true from g]; decide)]
  rfl
theorem is_some {d : D} {ds : List D} (i : itemsD d = some ds) : isItems d = true := by
  unfold isItems
  rw [i]
  rfl
theorem is_none {d : D} (i : itemsD d = none) : isItems d = false := by
  unfold isItems
  rw [i]
  rfl
theorem ok_law_due (M : MF P w K mg cB iB cU fU cL) (F_law_is_items : FnC P w K mg base CX0 1 "_law_is_items" ["thing"] (spIsItems K)) (F_law_are_states : FnC P w K mg base CX0 2 "_law_are_states" ["thing", "many"] (spLStates K)) (F_law_ascends : FnC P w K mg base CX0 1 "_law_ascends" ["things"] (spAsc K))
    (F : Fun K "_law_due" "_law_due" s_law_due f fd) : FnOk P w K mg base CX0 3 f fd ["signs", "moves", "good"] (spDue K) := by
  refine F.ok (k := 2) sc_law_due (fun vs H Q E h => ?_) (fun cdv A outer s H vs Q E hr h => ?_)
  · obtain ⟨v1, v2, v3, d1, d2, d3, rfl, _⟩ := h
    rfl
  · obtain ⟨v1, v2, v3, d1, d2, d3, rfl, h1, h2, h3, q⟩ := h
    refine ⟨_, (pss_cons (ps_if (PW.pt (pw_or (pt_not (pt_val (pe_f F_law_is_items hr (by omega) pass0 (pa_cons (pv 0) pa_nil)))) (pw_or (pt_cmpR op_lt (pe_callB call_len_seq (by rfl) M.m_len (by decide +kernel) (pa_cons (pv 0) pa_nil)) pe_int (nomark _)) (pw_or1 (pt_cmpR op_gt (pe_callB call_len_seq (by rfl) M.m_len (by decide +kernel) (pa_cons (pv 0) pa_nil)) pe_int (nomark _))))))
      (pss_one (ps_ret pe_str)) pss_nil)
      (pss_cons (ps_for PassesOwn.never rfl (pi_any (pv 0)) (pg_name (i := 3) sc_law_due.nd rfl (Or.inl rfl))
      (pss_one (ps_if (PW.pt (pw_or (pt_not (pt_val (pe_callB call_isi (by rfl) M.m_isinstance (by decide +kernel) (pa_cons (pv 3) (pa_cons (pe_bltn (v := .ty "str") (by rfl) M.m_str (by decide +kernel) rfl) pa_nil))))) (pw_or (pt_cmpR op_ne (pe_callB call_len_str (by rfl) M.m_len (by decide +kernel) (pa_cons (pv 3) pa_nil)) pe_int (nomark _)) (pw_or1 (pt_cmpR op_notin_str (pv 3) pe_str (by rfl))))))
      (pss_one (ps_ret pe_str)) pss_nil)))
      (pss_cons (ps_if (pt_not (pt_val (pe_f F_law_ascends hr (by omega) pass0 (pa_cons (pv 0) pa_nil))))
      (pss_one (ps_ret pe_str)) pss_nil)
      (pss_cons (ps_if (PW.pt (pw_or (pt_not (pt_val (pe_f F_law_is_items hr (by omega) pass0 (pa_cons (pv 1) pa_nil)))) (pw_or (pt_cmpR op_lt (pe_callB call_len_seq (by rfl) M.m_len (by decide +kernel) (pa_cons (pv 1) pa_nil)) pe_int (nomark _)) (pw_or1 (pt_cmpR op_gt (pe_callB call_len_seq (by rfl) M.m_len (by decide +kernel) (pa_cons (pv 1) pa_nil)) pe_int (nomark _))))))
      (pss_one (ps_ret pe_str)) pss_nil)
      (pss_cons (ps_for PassesOwn.never rfl (pi_any (pv 1)) (pg_name (i := 4) sc_law_due.nd rfl (Or.inl rfl))
      (pss_one (ps_if (PW.pt (pw_or (pt_not (pt_val (pe_f F_law_are_states hr (by omega) pass0 (pa_cons (pv 4) (pa_cons (pe_callB call_len_seq (by rfl) M.m_len (by decide +kernel) (pa_cons (pv 1) pa_nil)) pa_nil))))) (pw_or1 (pt_cmpR op_ne (pe_callB call_len_seq (by rfl) M.m_len (by decide +kernel) (pa_cons (pv 4) pa_nil)) (pe_callB call_len_seq (by rfl) M.m_len (by decide +kernel) (pa_cons (pv 0) pa_nil)) (nomark _)))))
      (pss_one (ps_ret pe_str)) pss_nil)))
      (pss_cons (ps_if (PW.pt (pw_or (pt_not (pt_val (pe_f F_law_are_states hr (by omega) pass0 (pa_cons (pv 2) (pa_cons (pe_callB call_len_seq (by rfl) M.m_len (by decide +kernel) (pa_cons (pv 1) pa_nil)) pa_nil))))) (pw_or1 (pt_not (pt_val (pe_f F_law_ascends hr (by omega) pass0 (pa_cons (pv 2) pa_nil)))))))
      (pss_one (ps_ret pe_str)) pss_nil)
      (pss_one (ps_ret pe_str)))))))), ?_⟩
    have bad1 : signsOk SG d1 = false → ∀ H', Same H H' → Q (.str "signs") H' := fun h H' s' => by
      have := q H' s'
      rw [way_signs h] at this
      exact this
    refine ⟨_, rfl, v1, d1, rfl, h1, _, rfl, ?_⟩
    cases i1 : itemsD d1 with
    | none =>
      rw [is_none i1]
      exact iteT (bad1 (signsOk_no i1) H (Same.refl H))
    | some ss =>
    rw [is_some i1]
    obtain ⟨a1, x1, rfl, q1, k1, z1⟩ := Dt.seq h1 i1
    have l1 := DtAll.length k1
    have ok1 := signsOk_yes i1
    refine iteF ⟨_, rfl, a1, x1, rfl, q1, _, _, rfl, rfl, _, rfl, ?_⟩
    rw [l1]
    by_cases n1 : ¬ (1 ≤ ss.length)
    · have c1 := n1
      rw [show decide (((ss.length : Nat) : Int) < 1) = true from decide_eq_true (by omega)]
      exact iteT (bad1 (by rw [ok1, decide_eq_false c1]; rfl) H (Same.refl H))
    have c1 := Decidable.not_not.mp n1
    rw [show decide (((ss.length : Nat) : Int) < 1) = false from decide_eq_false (by omega)]
    refine iteF ⟨_, rfl, a1, x1, rfl, q1, _, _, rfl, rfl, _, rfl, ?_⟩
    rw [l1]
    by_cases n2 : ¬ (ss.length ≤ 10)
    · have c2 := n2
      rw [show decide ((10 : Int) < ((ss.length : Nat) : Int)) = true from decide_eq_true (by omega)]
      exact iteT (bad1 (by rw [ok1, decide_eq_false c2, Bool.and_false]; rfl) H (Same.refl H))
    have c2 := Decidable.not_not.mp n2
    rw [show decide ((10 : Int) < ((ss.length : Nat) : Int)) = false from decide_eq_false (by omega)]
    refine iteF ⟨_, rfl, a1, x1, rfl, q1, fun J G w hG => ?_⟩
    refine for_it w (fun i σ H' => H' = H ∧ (ss.take i).all (signD SG) = true ∧ ∃ x, σ = [some (.ref a1), some v2, some v3, x, none]) ⟨rfl, rfl, _, rfl⟩ (fun i σ H' _ p => hG H' (by rw [p.1]; exact Same.refl H)) ?_ ?_
    · rintro i y _ H' H2 hi ⟨rfl, al, x, rfl⟩ ⟨rfl, hy⟩
      obtain ⟨dy, ky, hdy⟩ := DtAll.get k1 hy
      have hT := hdy.knw
      refine ⟨_, rfl, y, .ty "str", _, _, _, rfl, .ty _, hT.ty, kit_str hT.mem, _, rfl, ?_⟩
      have no : signD SG dy = false → Q (.str "signs") H2 := fun n => bad1 (by rw [ok1, all_now ky n, Bool.and_false]; rfl) H2 (Same.refl H2)
      cases hdy with
      | str sg zs =>
        refine iteF ⟨_, rfl, sg, rfl, Nat.le_trans zs (Nat.le_of_lt (lineN (Nat.le_refl _))), rfl, _, rfl, ?_⟩
        by_cases c3 : sg.length = 1
        · rw [show decide (V.int (sg.length : Nat) = V.int 1) = true from decide_eq_true (by rw [c3]; rfl)]
          refine iteF ⟨_, rfl, _, _, rfl, rfl, _, rfl, ?_⟩
          cases c4 : inS SG sg with
          | true =>
            have c4' : (!(Builtin.Str.occurrences SG sg 0 SG.length 1).isEmpty) = true := c4
            show if (!(!(Builtin.Str.occurrences SG sg 0 SG.length 1).isEmpty)) = true then _ else _
            rw [c4']
            exact iteF ⟨rfl, all_more al ky (by show (decide (sg.length = 1) && inS SG sg) = true; rw [c4, decide_eq_true c3]; rfl), _, rfl⟩
          | false =>
            have c4' : (!(Builtin.Str.occurrences SG sg 0 SG.length 1).isEmpty) = false := c4
            show if (!(!(Builtin.Str.occurrences SG sg 0 SG.length 1).isEmpty)) = true then _ else _
            rw [c4']
            exact iteT (no (by show (decide (sg.length = 1) && inS SG sg) = false; rw [c4, Bool.and_false]))
        · rw [show decide (V.int (sg.length : Nat) = V.int 1) = false from decide_eq_false fun z => c3 (by have := V.int.inj z; omega)]
          exact iteT (no (by show (decide (sg.length = 1) && inS SG sg) = false; rw [decide_eq_false c3, Bool.false_and]))
      | int j => exact iteT (no rfl)
      | bl b => exact iteT (no rfl)
      | non => exact iteT (no rfl)
      | lst _ _ _ => exact iteT (no rfl)
      | tup _ _ _ => exact iteT (no rfl)
      | dic _ => exact iteT (no rfl)
    rintro _ H' ⟨rfl, al, x, rfl⟩
    rw [l1, List.take_length] at al
    refine ⟨_, rfl, a1, x1, ss, rfl, q1, k1, z1, signD_str al, fun H2 s2 => ⟨_, rfl, ?_⟩⟩
    cases c3 : rising ss with
    | false => exact iteT (bad1 (by rw [ok1, c3, Bool.and_false]) H2 s2)
    | true =>
    have ok1' : signsOk SG d1 = true := by rw [ok1, al, c3, decide_eq_true c1, decide_eq_true c2]; rfl
    have bad2 : movesOk ss.length d2 = false → ∀ H3, Same H2 H3 → Q (.str "moves") H3 := fun h H3 s3 => by
      have := q H3 (s2.trans s3)
      rw [way_moves ok1' i1 h] at this
      exact this
    have h2 := h2.same s2
    have q1 := sq_same s2 q1
    refine iteF ⟨_, rfl, v2, d2, rfl, h2, _, rfl, ?_⟩
    cases i2 : itemsD d2 with
    | none =>
      rw [is_none i2]
      exact iteT (bad2 (movesOk_no i2) H2 (Same.refl H2))
    | some ms =>
    rw [is_some i2]
    obtain ⟨a2, x2, rfl, q2, k2, z2⟩ := Dt.seq h2 i2
    have l2 := DtAll.length k2
    have ok2 := movesOk_yes (W := ss.length) i2
    refine iteF ⟨_, rfl, a2, x2, rfl, q2, _, _, rfl, rfl, _, rfl, ?_⟩
    rw [l2]
    by_cases n4 : ¬ (1 ≤ ms.length)
    · have c4 := n4
      rw [show decide (((ms.length : Nat) : Int) < 1) = true from decide_eq_true (by omega)]
      exact iteT (bad2 (by rw [ok2, decide_eq_false c4]; rfl) H2 (Same.refl H2))
    have c4 := Decidable.not_not.mp n4
    rw [show decide (((ms.length : Nat) : Int) < 1) = false from decide_eq_false (by omega)]
    refine iteF ⟨_, rfl, a2, x2, rfl, q2, _, _, rfl, rfl, _, rfl, ?_⟩
    rw [l2]
    by_cases n5 : ¬ (ms.length ≤ 40)
    · have c5 := n5
      rw [show decide ((40 : Int) < ((ms.length : Nat) : Int)) = true from decide_eq_true (by omega)]
      exact iteT (bad2 (by rw [ok2, decide_eq_false c5, Bool.and_false]; rfl) H2 (Same.refl H2))
    have c5 := Decidable.not_not.mp n5
    rw [show decide ((40 : Int) < ((ms.length : Nat) : Int)) = false from decide_eq_false (by omega)]
    refine iteF ⟨_, rfl, a2, x2, rfl, q2, fun J2 G2 w2 hG2 => ?_⟩
    refine for_it w2 (fun i σ H3 => H3 = H2 ∧ (ms.take i).all (lineOk ss.length ms.length) = true ∧ ∃ y, σ = [some (.ref a1), some (.ref a2), some v3, x, y]) ⟨rfl, rfl, _, rfl⟩ (fun i σ H3 _ p => hG2 H3 (by rw [p.1]; exact Same.refl H2)) ?_ ?_
    · rintro i y _ H3 H4 hi ⟨rfl, al2, x', rfl⟩ ⟨rfl, hy⟩
      obtain ⟨dy, ky, hdy⟩ := DtAll.get k2 hy
      have no : lineOk ss.length ms.length dy = false → Q (.str "moves") H4 := fun n => bad2 (by rw [ok2, all_now ky n, Bool.and_false]) H4 (Same.refl H4)
      refine ⟨_, rfl, _, rfl, a2, x2, rfl, q2, y, dy, _, rfl, hdy, _, rfl, ?_⟩
      rw [l2]
      cases it : itemsD dy with
      | none =>
        have e : statesD ms.length dy = false := by unfold statesD; rw [it]
        rw [e]
        exact iteT (no (by unfold lineOk; rw [it]))
      | some rs =>
        have e : statesD ms.length dy = statesOk ms.length rs := by unfold statesD; rw [it]
        have el : lineOk ss.length ms.length dy = (decide (rs.length = ss.length) && statesOk ms.length rs) := by unfold lineOk; rw [it]
        rw [e]
        cases c6 : statesOk ms.length rs with
        | false => exact iteT (no (by rw [el, c6, Bool.and_false]))
        | true =>
          obtain ⟨b, ys, rfl, hb, kb, zb⟩ := Dt.seq hdy it
          refine iteF ⟨_, rfl, b, ys, rfl, hb, _, rfl, a1, x1, rfl, q1, rfl, _, rfl, ?_⟩
          rw [DtAll.length kb, l1]
          by_cases c7 : rs.length = ss.length
          · rw [show decide (V.int (rs.length : Nat) = V.int (ss.length : Nat)) = true from decide_eq_true (by rw [c7])]
            exact iteF ⟨rfl, all_more al2 ky (by rw [el, c6, decide_eq_true c7]; rfl), _, rfl⟩
          · rw [show decide (V.int (rs.length : Nat) = V.int (ss.length : Nat)) = false from decide_eq_false fun z => c7 (by have := V.int.inj z; omega)]
            exact iteT (no (by rw [el, decide_eq_false c7, Bool.false_and]))
    rintro _ H3 ⟨rfl, al2, x', rfl⟩
    rw [l2, List.take_length] at al2
    have ok2' : movesOk ss.length d2 = true := by rw [ok2, al2, decide_eq_true c4, decide_eq_true c5]; rfl
    have bad3 : goodOk ms.length d3 = false → ∀ H4, Same H3 H4 → Q (.str "good") H4 := fun h H4 s4 => by
      have := q H4 (s2.trans s4)
      rw [way_good ok1' i1 ok2' i2 h] at this
      exact this
    have h3 := h3.same s2
    refine ⟨_, rfl, _, rfl, a2, x2, rfl, q2, v3, d3, _, rfl, h3, _, rfl, ?_⟩
    rw [l2]
    cases i3 : itemsD d3 with
    | none =>
      have e : statesD ms.length d3 = false := by unfold statesD; rw [i3]
      rw [e]
      exact iteT (bad3 (goodOk_no i3) H3 (Same.refl H3))
    | some gs =>
      have e : statesD ms.length d3 = statesOk ms.length gs := by unfold statesD; rw [i3]
      have ok3 := goodOk_yes (m := ms.length) i3
      rw [e]
      cases c6 : statesOk ms.length gs with
      | false => exact iteT (bad3 (by rw [ok3, c6, Bool.false_and]) H3 (Same.refl H3))
      | true =>
        obtain ⟨b, ys, rfl, hb, kb, zb⟩ := Dt.seq h3 i3
        refine iteF ⟨_, rfl, b, ys, gs, rfl, hb, kb, zb, states_int c6, fun H4 s4 => ⟨_, rfl, ?_⟩⟩
        cases c7 : rising gs with
        | false => exact iteT (bad3 (by rw [ok3, c7, Bool.and_false]) H4 s4)
        | true =>
          have := q H4 (s2.trans s4)
          rw [way_made ok1' i1 ok2' i2 (by rw [ok3, c6, c7]; rfl)] at this
          exact iteF this
end

end K09
namespace K09
open PySem PySem.Spec PyProof.Rows L2 SL
section
variable {P : Program} {w : World} {K : PySem.W.Frag} {mg : Str → Option Value} {base : Heap} {cB iB cU fU cL : Addr} {fdU : FuncData} {f : Addr} {fd : FuncData}
/-! ### _law_pool, _law_draw, _law_row -/
/-- the pool at p, its numbers at q -/
def PoolAt (H : Hp) (p q : Addr) : Prop := ∃ (ms : List Int) (c u d e : Int), H p = some (.lst [.ref q, .int c, .int u, .int d, .int e]) ∧ H q = some (.lst (ms.map V.int)) ∧ p ≠ q ∧ 0 ≤ c ∧ 0 ≤ u ∧ 0 ≤ d ∧ 0 ≤ e ∧ e < 2147483629
theorem sc_law_pool : FnScope ["script", "seed", "value"] ["script"] (defScope s_law_pool) := ⟨rfl, rfl, rfl, by decide +kernel, rfl, by decide +kernel, by decide +kernel⟩
def spPool (K : PySem.W.Frag) : Sp := fun vs H Q _ => ∃ (a : Addr) (ns : List Int), vs = [.ref a] ∧ SqL K H a (ns.map V.int) ∧ ns.length ≤ 63 ∧ ∀ H' p q, Same H H' → H p = none → PoolAt H' p q → Q (.ref p) H'
theorem ok_law_pool (M : MF P w K mg cB iB cU fU cL) (F : Fun K "_law_pool" "_law_pool" s_law_pool f fd) : FnOk P w K mg base CX0 1 f fd ["script"] (spPool K) := by
  refine F.ok sc_law_pool (fun vs H Q E h => ?_) (fun cdv A outer s H vs Q E hr h => ?_)
  · obtain ⟨a, ns, rfl, _⟩ := h
    rfl
  · obtain ⟨a, ns, rfl, hS, hl, q⟩ := h
    refine ⟨_, (pss_cons (ps_set (i := 1) sc_law_pool.nd rfl (Or.inl rfl) pe_int)
      (pss_cons (ps_for PassesOwn.never rfl (pi_list (pe_slice sl_list (pv 0) po_none (po_some pe_int))) (pg_name (i := 2) sc_law_pool.nd rfl (Or.inl rfl))
      (pss_one (ps_set (i := 1) sc_law_pool.nd rfl (Or.inl rfl) (pe_op op_mod (pe_callTy call_int1 (by rfl) M.m_int (by decide +kernel) (pa_cons (pe_op op_add (pe_op op_add (pe_op op_mul (pv 1) pe_int) (pv 2)) pe_int) pa_nil)) pe_int))))
      (pss_one (ps_ret (pe_lst (pa_cons (pe_callTy call_list_of (by rfl) M.m_list (by decide +kernel) (pa_cons (pe_slice sl_list (pv 0) po_none (po_some pe_int)) pa_nil)) (pa_cons pe_int (pa_cons pe_int (pa_cons pe_int (pa_cons (pv 1) pa_nil)))))))))), ?_⟩
    have cut : cutV (ns.map V.int) none (some 63) = ns.map V.int := by
      unfold cutV
      rw [HT.sIx_none, show HT.sIx (ns.map V.int).length (ns.map V.int).length (some 63) = min 63 (ns.map V.int).length from HT.sIx_nat _ _ 63, List.drop_zero, Nat.sub_zero, List.length_map, Nat.min_eq_right hl, List.take_of_length_le (by rw [List.length_map]; exact Nat.le_refl _)]
    refine ⟨.ref a, rfl, 63, rfl, a, _, rfl, hS, fun c nc => ?_⟩
    rw [cut]
    have s1 : Same H (upd H c (.lst (ns.map V.int))) := same_upd nc
    refine ⟨c, rfl, ⟨_, SqL.of upd_same⟩, for_list (K := K) (a := c) (xs := ns.map V.int) (fun i σ H' => Same H H' ∧ H' c = some (.lst (ns.map V.int)) ∧ ∃ e v, σ = [some (.ref a), some (.int e), v] ∧ 0 ≤ e ∧ e < 2147483629) ⟨s1, upd_same, 31, none, rfl, by decide, by decide⟩ (fun i σ H' _ p => SqL.of p.2.1) ?_ ?_⟩
    · rintro i y σ H' hy ⟨s', ec, e, v, rfl, l1, l2⟩
      rw [List.getElem?_map] at hy
      cases en : ns[i]? with
      | none =>
        rw [en] at hy
        cases hy
      | some n =>
        rw [en] at hy
        cases hy
        refine ⟨_, rfl, _, _, rfl, rfl, .inr ⟨by decide, by decide⟩, _, rfl, _, _, rfl, rfl, _, _, rfl, rfl, .inl ⟨_, rfl, _, _, rfl, rfl, pos_i rfl, s', ec, _, _, rfl, Int.emod_nonneg _ (by decide), Int.emod_lt_of_pos _ (by decide)⟩⟩
    · rintro σ H' ⟨s', ec, e, v, rfl, l1, l2⟩
      have hS' := s'.seq hS
      refine ⟨.ref a, rfl, 63, rfl, a, _, rfl, hS', fun c2 nc2 => ?_⟩
      rw [cut]
      refine ⟨c2, _, rfl, .inl (SqL.of upd_same), fun l nl => ⟨_, rfl, few (n := 5) (by decide), fun p np => ?_⟩⟩
      have nlc : l ≠ c2 := fun z => by
        rw [z, upd_same] at nl
        cases nl
      have sl : Same H' (upd (upd H' c2 (.lst (ns.map V.int))) l (.lst (ns.map V.int))) := (same_upd nc2).trans (same_upd nl)
      have npl : p ≠ l := fun z => by
        rw [z, upd_same] at np
        cases np
      refine q _ p l (s'.trans (sl.trans (same_upd np))) ((s'.trans sl).free np) ⟨ns, 0, 0, 0, e, upd_same, ?_, npl, by decide, by decide, by decide, l1, l2⟩
      rw [upd_ne npl.symm, upd_same]
theorem sc_law_draw : FnScope ["pool", "many", "value", "digit", "mixed"] ["pool", "many"] (defScope s_law_draw) := ⟨rfl, rfl, rfl, by decide +kernel, rfl, by decide +kernel, by decide +kernel⟩
def spDraw : Sp := fun vs H Q _ => ∃ (p q : Addr) (m : Int), vs = [.ref p, .int m] ∧ PoolAt H p q ∧ 0 < m ∧ m < 1073741824 ∧ ∀ H' d, Same (off H p) (off H' p) → PoolAt H' p q → 0 ≤ d → d < m → Q (.int d) H'
theorem ok_law_draw (M : MF P w K mg cB iB cU fU cL) (F : Fun K "_law_draw" "_law_draw" s_law_draw f fd) : FnOk P w K mg base CX0 1 f fd ["pool", "many"] spDraw := by
  refine F.ok sc_law_draw (fun vs H Q E h => ?_) (fun cdv A outer s H vs Q E hr h => ?_)
  · obtain ⟨p, q, m, rfl, _⟩ := h
    rfl
  · obtain ⟨p, q, m, rfl, ⟨ms, c, u, d, e, hp, hq, npq, c0, u0, d0, e0, e1⟩, m0, m1, k⟩ := h
    refine ⟨_, (Evl.pss_cut (ps_asg (pe_op op_add (pe_ix ix_list (pv 0) pe_int (fun _ _ => rfl)) pe_int) (pg_sub (pv 0) pe_int set_list))
      (Evl.pss_cut (ps_if (PW.pt (pw_and (pt_cmpR op_eq (pe_ix ix_list (pv 0) pe_int (fun _ _ => rfl)) pe_int (nomark _)) (pw_and1 (pt_cmpR op_lt (pe_ix ix_list (pv 0) pe_int (fun _ _ => rfl)) (pe_callB call_len_seq (by rfl) M.m_len (by decide +kernel) (pa_cons (pe_ix ix_list (pv 0) pe_int (fun _ _ => rfl)) pa_nil)) (nomark _)))))
      (pss_cons (ps_set (i := 2) sc_law_draw.nd rfl (Or.inl rfl) (pe_ix ix_list (pe_ix ix_list (pv 0) pe_int (fun _ _ => rfl)) (pe_ix ix_list (pv 0) pe_int (fun _ _ => rfl)) (fun _ _ => rfl)))
      (pss_cons (ps_asg (pe_op op_add (pe_ix ix_list (pv 0) pe_int (fun _ _ => rfl)) pe_int) (pg_sub (pv 0) pe_int set_list))
      (pss_one (ps_if (pt_cmpR op_ge (pv 2) (pe_op op_pow pe_int pe_int) (nomark _))
      (pss_one (ps_asg (pv 2) (pg_sub (pv 0) pe_int set_list))) (pss_one (ps_asg (pe_op op_mod (pe_callTy call_int1 (by rfl) M.m_int (by decide +kernel) (pa_cons (pe_op op_add (pe_op op_add (pe_op op_mul (pe_ix ix_list (pv 0) pe_int (fun _ _ => rfl)) pe_int) (pv 2)) pe_int) pa_nil)) pe_int) (pg_sub (pv 0) pe_int set_list))))))) pss_nil)
      (pss_cons (ps_if (pt_cmpR op_gt (pe_ix ix_list (pv 0) pe_int (fun _ _ => rfl)) pe_int (nomark _))
      (pss_cons (ps_set (i := 3) sc_law_draw.nd rfl (Or.inl rfl) (pe_op op_mod (pe_callTy call_int1 (by rfl) M.m_int (by decide +kernel) (pa_cons (pe_ix ix_list (pv 0) pe_int (fun _ _ => rfl)) pa_nil)) (pv 1)))
      (pss_cons (ps_asg (pe_op op_fdiv (pe_ix ix_list (pv 0) pe_int (fun _ _ => rfl)) (pv 1)) (pg_sub (pv 0) pe_int set_list))
      (pss_one (ps_ret (pv 3))))) pss_nil)
      (Evl.pss_cut (ps_set (i := 4) sc_law_draw.nd rfl (Or.inl rfl) (pe_op op_mod (pe_callTy call_int1 (by rfl) M.m_int (by decide +kernel) (pa_cons (pe_op op_add (pe_op op_add (pe_op op_mul (pe_ix ix_list (pv 0) pe_int (fun _ _ => rfl)) pe_int) (pe_op op_mul (pe_ix ix_list (pv 0) pe_int (fun _ _ => rfl)) pe_int)) pe_int) pa_nil)) pe_int))
      (Evl.pss_cut (ps_set (i := 4) sc_law_draw.nd rfl (Or.inl rfl) (pe_op op_mod (pe_callTy call_int1 (by rfl) M.m_int (by decide +kernel) (pa_cons (pe_op op_mul (pv 4) (pe_op op_add (pe_op op_fdiv (pv 4) pe_int) pe_int)) pa_nil)) pe_int))
      (Evl.pss_cut (ps_set (i := 4) sc_law_draw.nd rfl (Or.inl rfl) (pe_op op_mod (pe_callTy call_int1 (by rfl) M.m_int (by decide +kernel) (pa_cons (pe_op op_mul (pv 4) (pe_op op_add (pe_op op_fdiv (pv 4) pe_int) pe_int)) pa_nil)) pe_int))
      (pss_one (ps_ret (pe_op op_mod (pe_callTy call_int1 (by rfl) M.m_int (by decide +kernel) (pa_cons (pe_op op_fdiv (pv 4) pe_int) pa_nil)) (pv 1)))))))))), ?_⟩
    -- pool[3] = pool[3] + 1
    refine ⟨fun σ H' => ∃ d', σ = [some (.ref p), some (.int m), none, none, none] ∧ H' = upd H p (.lst [.ref q, .int c, .int u, .int d', .int e]) ∧ 0 ≤ d',
      ⟨.ref p, rfl, p, _, 3, .int d, rfl, rfl, SqL.of hp, atI_nat (j := 3) rfl, _, _, rfl, rfl, .ref p, rfl, p, _, 3, 3, rfl, rfl, hp, rfl, d + 1, rfl, rfl, by omega⟩, ?_⟩
    rintro _ _ ⟨d', rfl, rfl, dd0⟩
    have h1 : (upd H p (.lst [.ref q, .int c, .int u, .int d', .int e])) p = some (.lst [.ref q, .int c, .int u, .int d', .int e]) := upd_same
    have h1q : (upd H p (.lst [.ref q, .int c, .int u, .int d', .int e])) q = some (.lst (ms.map V.int)) := by rw [upd_ne npq.symm]; exact hq
    have s1 : Same (off H p) (off (upd H p (.lst [.ref q, .int c, .int u, .int d', .int e])) p) := off_upd
    generalize upd H p (.lst [.ref q, .int c, .int u, .int d', .int e]) = H1 at h1 h1q s1 ⊢
    -- the next value of the script
    refine ⟨fun σ H' => ∃ v2 c' u' e', σ = [some (.ref p), some (.int m), v2, none, none] ∧ Same (off H p) (off H' p) ∧ H' p = some (.lst [.ref q, .int c', .int u', .int d', .int e']) ∧ H' q = some (.lst (ms.map V.int)) ∧ 0 ≤ c' ∧ 0 ≤ u' ∧ 0 ≤ e' ∧ e' < 2147483629, ?_, ?_⟩
    · refine ⟨.ref p, rfl, p, _, 2, .int u, rfl, rfl, SqL.of h1, atI_nat (j := 2) rfl, rfl, _, rfl, ite2 (fun cu => ?_) (fun cu => ite2 (fun z => nomatch z) fun _ => ⟨none, c, u, e, rfl, s1, h1, h1q, c0, u0, e0, e1⟩)⟩
      refine ⟨.ref p, rfl, p, _, 1, .int c, rfl, rfl, SqL.of h1, atI_nat (j := 1) rfl, .ref p, rfl, p, _, 0, .ref q, rfl, rfl, SqL.of h1, atI_nat (j := 0) rfl, q, _, rfl, .inl (SqL.of h1q), _, _, rfl, rfl, _, rfl, ite2 (fun cc => ?_) (fun cc => ⟨none, c, u, e, rfl, s1, h1, h1q, c0, u0, e0, e1⟩)⟩
      have cl : c < ((ms.map V.int).length : Int) := of_decide_eq_true cc
      obtain ⟨j, rfl⟩ : ∃ j : Nat, c = (j : Int) := ⟨c.toNat, by omega⟩
      have jl : j < ms.length := by
        rw [List.length_map] at cl
        omega
      have em : (ms.map V.int)[j]? = some (.int ms[j]) := by
        rw [List.getElem?_map, List.getElem?_eq_getElem jl]
        rfl
      refine ⟨.ref p, rfl, p, _, 0, .ref q, rfl, rfl, SqL.of h1, atI_nat (j := 0) rfl, .ref p, rfl, p, _, 1, .int j, rfl, rfl, SqL.of h1, atI_nat (j := 1) rfl, q, _, j, _, rfl, rfl, SqL.of h1q, atI_nat em, ?_⟩
      refine ⟨.ref p, rfl, p, _, 1, .int j, rfl, rfl, SqL.of h1, atI_nat (j := 1) rfl, _, _, rfl, rfl, .ref p, rfl, p, _, 1, 1, rfl, rfl, h1, rfl, ?_⟩
      have h2 : (upd H1 p (.lst [.ref q, .int ((j : Int) + 1), .int u, .int d', .int e])) p = some (.lst [.ref q, .int ((j : Int) + 1), .int u, .int d', .int e]) := upd_same
      have h2q : (upd H1 p (.lst [.ref q, .int ((j : Int) + 1), .int u, .int d', .int e])) q = some (.lst (ms.map V.int)) := by rw [upd_ne npq.symm]; exact h1q
      have s2 : Same (off H p) (off (upd H1 p (.lst [.ref q, .int ((j : Int) + 1), .int u, .int d', .int e])) p) := s1.trans off_upd
      refine ⟨_, rfl, _, _, rfl, rfl, ⟨by decide, by decide, by decide⟩, _, _, rfl, rfl, _, rfl, ite2 (fun cv => ?_) (fun cv => ?_)⟩
      · have v0 : (10 : Int) ^ (18 : Int).toNat ≤ ms[j] := of_decide_eq_true cv
        have p18 : (0 : Int) ≤ (10 : Int) ^ (18 : Int).toNat := by decide
        refine ⟨_, rfl, .ref p, rfl, p, _, 2, 2, rfl, rfl, h2, rfl, _, (j : Int) + 1, ms[j], e, rfl, s2.trans off_upd, upd_same, ?_, by omega, by omega, e0, e1⟩
        rw [upd_ne npq.symm]
        exact h2q
      · refine ⟨.ref p, rfl, p, _, 4, .int e, rfl, rfl, SqL.of h2, atI_nat (j := 4) rfl, _, _, rfl, rfl, .inr ⟨by decide, by decide⟩, _, rfl, _, _, rfl, rfl, _, _, rfl, rfl, .inl ⟨_, rfl, _, _, rfl, rfl, pos_i rfl, .ref p, rfl, p, _, 4, 4, rfl, rfl, h2, rfl, _, (j : Int) + 1, u, _, rfl, s2.trans off_upd, upd_same, ?_, by omega, u0, Int.emod_nonneg _ (by decide), Int.emod_lt_of_pos _ (by decide)⟩⟩
        rw [upd_ne npq.symm]
        exact h2q
    · rintro _ H2 ⟨v2, c', u', e', rfl, s2, h2, h2q, c1, u1, ee0, ee1⟩
      refine ⟨.ref p, rfl, p, _, 2, .int u', rfl, rfl, SqL.of h2, atI_nat (j := 2) rfl, _, _, rfl, rfl, _, rfl, ite2 (fun cu => ?_) (fun cu => ?_)⟩
      · refine ⟨.ref p, rfl, p, _, 2, .int u', rfl, rfl, SqL.of h2, atI_nat (j := 2) rfl, .inl ⟨_, rfl, _, rfl, _, _, rfl, rfl, m0, ?_⟩⟩
        refine ⟨.ref p, rfl, p, _, 2, .int u', rfl, rfl, SqL.of h2, atI_nat (j := 2) rfl, _, rfl, _, _, rfl, rfl, ⟨m0, m1⟩, .ref p, rfl, p, _, 2, 2, rfl, rfl, h2, rfl, ?_⟩
        refine ⟨_, rfl, k _ _ (s2.trans off_upd) ⟨ms, c', u' / m, d', e', upd_same, ?_, npq, c1, Int.ediv_nonneg u1 (by omega), dd0, ee0, ee1⟩ (Int.emod_nonneg _ (by omega)) (Int.emod_lt_of_pos _ m0)⟩
        rw [upd_ne npq.symm]
        exact h2q
      · refine ⟨fun σ H' => ∃ x, σ = [some (.ref p), some (.int m), v2, none, some (.int x)] ∧ H2 = H' ∧ 0 ≤ x ∧ x < 2147483647, ?_, ?_⟩
        · refine ⟨.ref p, rfl, p, _, 4, .int e', rfl, rfl, SqL.of h2, atI_nat (j := 4) rfl, _, _, rfl, rfl, .inr ⟨by decide, by decide⟩, .ref p, rfl, p, _, 3, .int d', rfl, rfl, SqL.of h2, atI_nat (j := 3) rfl, _, _, rfl, rfl, .inr ⟨by decide, by decide⟩, _, _, rfl, rfl, _, _, rfl, rfl, .inl ⟨_, rfl, _, _, rfl, rfl, pos_i rfl, ?_⟩⟩
          exact ⟨_, rfl, rfl, Int.emod_nonneg _ (by decide), Int.emod_lt_of_pos _ (by decide)⟩
        rintro _ _ ⟨x, rfl, rfl, x0, x1⟩
        refine ⟨fun σ H' => ∃ x, σ = [some (.ref p), some (.int m), v2, none, some (.int x)] ∧ H2 = H' ∧ 0 ≤ x ∧ x < 2147483647, ?_, ?_⟩
        · refine ⟨.int x, rfl, .int x, rfl, _, _, rfl, rfl, ⟨by decide, by decide⟩, _, _, rfl, rfl, _, _, rfl, rfl, .inl ⟨by omega, by omega⟩, .inl ⟨_, rfl, _, _, rfl, rfl, pos_i rfl, ?_⟩⟩
          exact ⟨_, rfl, rfl, Int.emod_nonneg _ (by decide), Int.emod_lt_of_pos _ (by decide)⟩
        rintro _ _ ⟨y, rfl, rfl, y0, y1⟩
        refine ⟨fun σ H' => ∃ x, σ = [some (.ref p), some (.int m), v2, none, some (.int x)] ∧ H2 = H', ?_, ?_⟩
        · exact ⟨.int y, rfl, .int y, rfl, _, _, rfl, rfl, ⟨by decide, by decide⟩, _, _, rfl, rfl, _, _, rfl, rfl, .inl ⟨by omega, by omega⟩, .inl ⟨_, rfl, _, _, rfl, rfl, pos_i rfl, _, rfl, rfl⟩⟩
        rintro _ _ ⟨z, rfl, rfl⟩
        refine ⟨.int z, rfl, _, _, rfl, rfl, ⟨by decide, by decide⟩, .inl ⟨_, rfl, _, rfl, _, _, rfl, rfl, m0, ?_⟩⟩
        exact k _ _ s2 ⟨ms, c', u', d', e', h2, h2q, npq, c1, u1, dd0, ee0, ee1⟩ (Int.emod_nonneg _ (by omega)) (Int.emod_lt_of_pos _ m0)
theorem PoolAt.same {H H' : Hp} {p q : Addr} (s : Same H H') (h : PoolAt H p q) : PoolAt H' p q := by
  obtain ⟨ms, c, u, d, e, h1, h2, r⟩ := h
  exact ⟨ms, c, u, d, e, s _ _ h1, s _ _ h2, r⟩
theorem PoolAt.put {H : Hp} {p q b : Addr} {o : HO} (hp : b ≠ p) (hq : b ≠ q) (h : PoolAt H p q) : PoolAt (upd H b o) p q := by
  obtain ⟨ms, c, u, d, e, h1, h2, r⟩ := h
  exact ⟨ms, c, u, d, e, by rw [upd_ne hp.symm]; exact h1, by rw [upd_ne hq.symm]; exact h2, r⟩
theorem PoolAt.at_p {H : Hp} {p q : Addr} (h : PoolAt H p q) {b : Addr} (n : H b = none) : b ≠ p ∧ b ≠ q := by
  obtain ⟨ms, c, u, d, e, h1, h2, r⟩ := h
  exact ⟨(ne_of_none h1 n).symm, (ne_of_none h2 n).symm⟩
theorem off_put2 {H H' : Hp} {p b : Addr} {o : HO} (s : Same (off H p) (off H' p)) (n : H b = none) : Same (off H p) (off (upd H' b o) p) := fun x u e => by
  have z := s x u e
  by_cases hx : x = p
  · rw [hx, off_at] at e
    cases e
  · rw [off_ne hx] at e z ⊢
    rw [upd_ne (ne_of_none e n)]
    exact z
end

section
variable {P : Program} {w : World} {K : PySem.W.Frag} {mg : Str → Option Value} {base : Heap} {cB iB cU fU cL : Addr} {fdU : FuncData} {f : Addr} {fd : FuncData}
/-! ### _law_signs -/
theorem same_put {H H' : Hp} {l : Addr} {o : HO} (s : Same H H') (n : H l = none) : Same H (upd H' l o) := fun b u e => by
  rw [upd_ne (ne_of_none e n)]
  exact s _ _ e
theorem free_off {H H' : Hp} {p b : Addr} (s : Same (SL.off H p) (SL.off H' p)) (n : H' b = none) (hb : b ≠ p) : H b = none := by
  cases e : H b with
  | none => rfl
  | some o =>
    have z := s b o (by rw [off_ne hb]; exact e)
    rw [off_ne hb, n] at z
    cases z
/-- signs for a rule: of the right kind, unlike, ascending -/
def SignsAt (cs : List Nat) : Prop := cs.Nodup ∧ (∀ c ∈ cs, c ∈ SG.cps.toList) ∧ rising (cs.map fun c => D.str (ch c)) = true
theorem sc_law_signs : FnScope ["pool", "many", "left", "found", "k"] ["pool", "many"] (defScope s_law_signs) := ⟨rfl, rfl, rfl, by decide +kernel, rfl, by decide +kernel, by decide +kernel⟩
def spLSigns : Sp := fun vs H Q _ => ∃ (p q : Addr) (n : Nat), vs = [.ref p, .int (n : Int)] ∧ PoolAt H p q ∧ n ≤ 10 ∧ ∀ H' r cs, Same (SL.off H p) (SL.off H' p) → PoolAt H' p q → H r = none → H' r = some (.lst (cs.map chV)) → cs.length = n → SignsAt cs → Q (.ref r) H'
theorem ok_law_signs (M : MF P w K mg cB iB cU fU cL) (F_law_draw : FnC P w K mg base CX0 1 "_law_draw" ["pool", "many"] spDraw) (F : Fun K "_law_signs" "_law_signs" s_law_signs f fd) : FnOk P w K mg base CX0 3 f fd ["pool", "many"] spLSigns := by
  refine F.ok (k := 2) sc_law_signs (fun vs H Q E h => ?_) (fun cdv A outer s H vs Q E hr h => ?_)
  · obtain ⟨p, q, n, rfl, _⟩ := h
    rfl
  · obtain ⟨p, q, n, rfl, hP, hn, fin⟩ := h
    refine ⟨_, (Evl.pss_cut (ps_set (i := 2) sc_law_signs.nd rfl (Or.inl rfl) (pe_callTy (call_list_txt rfl) (by rfl) M.m_list (by decide +kernel) (pa_cons pe_str pa_nil)))
      (Evl.pss_cut (ps_if (pt_cmpR op_gt (pe_f F_law_draw hr (by omega) pass0 (pa_cons (pv 0) (pa_cons pe_int pa_nil))) pe_int (nomark _))
      (pss_one (ps_set (i := 2) sc_law_signs.nd rfl (Or.inl rfl) (pe_callTy (call_list_txt rfl) (by rfl) M.m_list (by decide +kernel) (pa_cons pe_str pa_nil)))) pss_nil)
      (pss_cons (ps_set (i := 3) sc_law_signs.nd rfl (Or.inl rfl) (pe_lst pa_nil))
      (pss_cons (ps_for PassesOwn.never rfl (pi_range1 (by rfl) M.m_range (pa_cons (pv 1) pa_nil)) (pg_name (i := 4) sc_law_signs.nd rfl (Or.inl rfl))
      (pss_one (ps_expr (pe_bm PySem.F.plainAttrs_list PySem.F.slot_list_append PySem.F.type_list_append mt_append (pv 3) (pa_cons (pe_bm PySem.F.plainAttrs_list PySem.F.slot_list_pop PySem.F.type_list_pop mt_popAt (pv 2) (pa_cons (pe_f F_law_draw hr (by omega) pass0 (pa_cons (pv 0) (pa_cons (pe_callB call_len_seq (by rfl) M.m_len (by decide +kernel) (pa_cons (pv 2) pa_nil)) pa_nil))) pa_nil)) pa_nil)))))
      (pss_one (ps_ret (pe_callB cr_sortedS (by rfl) M.m_sorted (by decide +kernel) (pa_cons (pv 3) pa_nil)))))))), ?_⟩
    -- left, by either list
    refine ⟨fun σ H' => ∃ l, σ = [some (.ref p), some (.int (n : Int)), some (.ref l), none, none] ∧ PoolAt H' p q ∧ Same H H' ∧ H l = none ∧ H' l = some (.lst (SG.cps.toList.map chV)), ?_, ?_⟩
    · exact ⟨SG, rfl, by decide +kernel, fun l nl => ⟨l, rfl, hP.same (same_upd nl), same_upd nl, nl, upd_same⟩⟩
    rintro _ H1 ⟨l0, rfl, hP1, s1, nl0, el0⟩
    refine ⟨fun σ H' => ∃ (l : Addr) (cs : List Nat), σ = [some (.ref p), some (.int (n : Int)), some (.ref l), none, none] ∧ PoolAt H' p q ∧ Same (SL.off H p) (SL.off H' p) ∧ H l = none ∧ H' l = some (.lst (cs.map chV)) ∧ cs.Nodup ∧ (∀ c ∈ cs, c ∈ SG.cps.toList) ∧ 10 ≤ cs.length ∧ cs.length ≤ 36, ?_, ?_⟩
    · refine ⟨_, rfl, p, q, 3, rfl, hP1, by decide, by decide, fun H2 d s2 hP2 d0 d1 => ⟨_, _, rfl, rfl, _, rfl, ?_⟩⟩
      by_cases c : 0 < d
      · rw [decide_eq_true c]
        refine iteT ⟨"abcdefghijkl", rfl, by decide +kernel, fun l nl => ⟨l, ("abcdefghijkl" : Str).cps.toList, rfl, hP2.same (same_upd nl), ((off_mono s1).trans s2).trans (off_mono (same_upd nl)), free_off ((off_mono s1).trans s2) nl (hP2.at_p nl).1, upd_same, by decide +kernel, by decide +kernel, by decide +kernel, by decide +kernel⟩⟩
      · rw [decide_eq_false c]
        refine iteF ⟨l0, SG.cps.toList, rfl, hP2, (off_mono s1).trans s2, nl0, ?_, by decide +kernel, fun c h => h, by decide +kernel, by decide +kernel⟩
        exact off_get s2 (hP.at_p nl0).1 el0
    rintro _ H2 ⟨l, cs, rfl, hP2, s2, nl, el, nd, sub, c10, c36⟩
    -- found
    refine ⟨few (n := 0) (by decide), fun g ng => ?_⟩
    obtain ⟨ngp, ngq⟩ := hP2.at_p ng
    have ngH := free_off s2 ng ngp
    have nlg : l ≠ g := ne_of_none el ng
    have nlp := (hP.at_p nl)
    refine ⟨_, rfl, (n : Int), rfl, by omega, by omega, for_range (lo := 0) (n := n) (fun i σ H' => PoolAt H' p q ∧ Same (SL.off H p) (SL.off H' p) ∧ ∃ (ls fs : List Nat) (x : Option V), σ = [some (.ref p), some (.int (n : Int)), some (.ref l), some (.ref g), x] ∧ H' l = some (.lst (ls.map chV)) ∧ H' g = some (.lst (fs.map chV)) ∧ (fs ++ ls).Perm cs ∧ fs.length = i) ⟨hP2.same (same_upd ng), s2.trans (off_mono (same_upd ng)), cs, [], none, rfl, ?_, upd_same, List.Perm.refl _, rfl⟩ ?_ ?_⟩
    · rw [upd_ne nlg]
      exact el
    · rintro i _ H3 hi ⟨hP3, s3, ls, fs, x, rfl, el3, eg3, pm, lf⟩
      have lens : fs.length + ls.length = cs.length := by rw [← List.length_append, pm.length_eq]
      refine ⟨_, rfl, .inl ⟨rfl, _, SqL.of eg3⟩, _, rfl, .inl ⟨rfl, _, SqL.of el3⟩, _, rfl, _, rfl, l, _, rfl, .inl (SqL.of el3), p, q, _, rfl, hP3, by rw [List.length_map]; omega, by rw [List.length_map]; omega, fun H4 d s4 hP4 d0 d1 => ?_⟩
      rw [List.length_map] at d1
      have el4 := off_get s4 nlp.1 el3
      have eg4 := off_get s4 ngp eg3
      obtain ⟨c, hc⟩ : ∃ c, ls[d.toNat]? = some c := ⟨ls[d.toNat]'(by omega), List.getElem?_eq_getElem (by omega)⟩
      refine ⟨l, _, d, d.toNat, chV c, rfl, rfl, el4, by omega, by omega, seqIndex_of d0 (by rw [List.length_map]; exact d1), by rw [List.getElem?_map, hc]; rfl, ?_⟩
      have eg5 : (upd H4 l (.lst ((ls.map chV).eraseIdx d.toNat))) g = some (.lst (fs.map chV)) := by
        rw [upd_ne nlg.symm]
        exact eg4
      refine ⟨g, _, _, rfl, rfl, eg5, ?_, (hP4.put nlp.1 nlp.2).put ngp ngq, off_put2 (off_put2 (s3.trans s4) nl) ngH, ls.eraseIdx d.toNat, fs ++ [c], some (.int (0 + (i : Nat))), rfl, ?_, ?_, ?_, ?_⟩
      · rw [List.length_map]
        exact lineN (by omega)
      · rw [upd_ne nlg, upd_same, map_erase]
      · rw [upd_same, List.map_append]
        rfl
      · have := erase_perm hc
        rw [List.append_assoc]
        exact (List.Perm.append_left fs this).trans pm
      · rw [List.length_append, lf]
        rfl
    · rintro _ H3 ⟨hP3, s3, ls, fs, x, rfl, el3, eg3, pm, lf⟩
      refine ⟨_, rfl, g, fs.map ch, rfl, SqL.of (by rw [eg3, List.map_map]; rfl), by rw [List.length_map]; omega, fun ys r pr so nr => ?_⟩
      obtain ⟨ds, pd, rfl⟩ := perm_ch pr
      obtain ⟨nrp, nrq⟩ := hP3.at_p nr
      have ndf : (fs ++ ls).Nodup := pm.nodup_iff.mpr nd
      have ndd : ds.Nodup := pd.nodup_iff.mpr (List.nodup_append.mp ndf).1
      refine fin _ r ds (s3.trans (off_mono (same_upd nr))) (hP3.same (same_upd nr)) (free_off s3 nr nrp) (by rw [upd_same, List.map_map]; rfl) (by rw [pd.length_eq, lf]) ⟨ndd, fun c hc => ?_, sorted_up ndd so⟩
      have : c ∈ fs ++ ls := List.mem_append_left _ (pd.mem_iff.mp hc)
      exact sub c (pm.mem_iff.mp this)
end

end K09
namespace K09
open PySem PySem.Spec PyProof.Rows L2 SL
section
variable {P : Program} {w : World} {K : PySem.W.Frag} {mg : Str → Option Value} {base : Heap} {cB iB cU fU cL : Addr} {fdU : FuncData} {f : Addr} {fd : FuncData}
/-! ### _law_rule_model -/
/-- lists of ints that stand in G -/
def LinesAt (G : Hp) : List V → List (List Int) → Prop := Paired fun v l => ∃ a, v = V.ref a ∧ G a = some (.lst (l.map V.int))
theorem LinesAt.same {G G' : Hp} (s : Same G G') {ws : List V} {ls : List (List Int)} (h : LinesAt G ws ls) : LinesAt G' ws ls := Paired.mapP h fun v l ⟨a, e, q⟩ => ⟨a, e, s _ _ q⟩
theorem LinesAt.snoc {G : Hp} {a : Addr} {l : List Int} (h : G a = some (.lst (l.map V.int))) : ∀ {ws : List V} {ls : List (List Int)}, LinesAt G ws ls → LinesAt G (ws ++ [V.ref a]) (ls ++ [l])
  | _, _, .nil => .cons ⟨a, rfl, h⟩ .nil
  | _, _, .cons q t => .cons q (LinesAt.snoc h t)
/-- states of a rule of n -/
def InStates (n : Nat) (l : List Int) : Prop := ∀ x ∈ l, 0 ≤ x ∧ x < (n : Int)
/-- a drawn rule: its list at r, its parts in G -/
def ModelAt (G : Hp) (H : Hp) (r : Addr) (cs : List Nat) : Prop := ∃ s2 mv gd ws ls gs, H r = some (.lst [.ref s2, .ref mv, .ref gd]) ∧ G s2 = some (.lst (cs.map chV)) ∧ G mv = some (.lst ws) ∧ LinesAt G ws ls ∧ 1 ≤ ls.length ∧ ls.length ≤ 40 ∧
  (∀ l ∈ ls, l.length = cs.length ∧ InStates ls.length l) ∧ G gd = some (.lst (gs.map V.int)) ∧ gs.Pairwise (· < ·) ∧ InStates ls.length gs
theorem same2 {H H' : Hp} {p D : Addr} {o : HO} (s : Same (SL.off H p) (SL.off H' p)) : Same (SL.off (SL.off H p) D) (SL.off (SL.off (upd H' D o) p) D) := fun b u e => by
  by_cases hb : b = D
  · rw [hb, off_at] at e
    cases e
  · rw [off_ne hb] at e ⊢
    have z := s b u e
    by_cases hp : b = p
    · rw [hp, off_at] at z
      cases z
    · rw [off_ne hp] at z ⊢
      rw [upd_ne hb]
      exact z
theorem sc_law_rule_model : FnScope ["pool", "signs", "most", "states", "moves", "good", "state", "sign"] ["pool", "signs", "most"] (defScope s_law_rule_model) := ⟨rfl, rfl, rfl, by decide +kernel, rfl, by decide +kernel, by decide +kernel⟩
def spModel : Sp := fun vs H Q _ => ∃ (p q sl : Addr) (cs : List Nat) (m : Int), vs = [.ref p, .ref sl, .int m] ∧ PoolAt H p q ∧ sl ≠ p ∧ H sl = some (.lst (cs.map chV)) ∧ cs.length ≤ 10 ∧ 0 < m ∧ m ≤ 40 ∧ ∀ H' r, Same (SL.off H p) (SL.off H' p) → PoolAt H' p q → H r = none → ModelAt (SL.off H' p) H' r cs → Q (.ref r) H'
theorem ok_law_rule_model (M : MF P w K mg cB iB cU fU cL) (F_law_draw : FnC P w K mg base CX0 1 "_law_draw" ["pool", "many"] spDraw) (F : Fun K "_law_rule_model" "_law_rule_model" s_law_rule_model f fd) : FnOk P w K mg base CX0 3 f fd ["pool", "signs", "most"] spModel := by
  refine F.ok (k := 2) sc_law_rule_model (fun vs H Q E h => ?_) (fun cdv A outer s H vs Q E hr h => ?_)
  · obtain ⟨p, q, sl, cs, m, rfl, _⟩ := h
    rfl
  · obtain ⟨p, q, sl, cs, m, rfl, hP, nsp, esl, c10, m0, m40, fin⟩ := h
    refine ⟨_, (Evl.pss_cut (ps_set (i := 3) sc_law_rule_model.nd rfl (Or.inr rfl) (pe_op op_add pe_int (pe_f F_law_draw hr (by omega) pass0 (pa_cons (pv 0) (pa_cons (pv 2) pa_nil)))))
      (Evl.pss_cut (ps_setLc (i := 4) (own := [("state", 6)]) (tt := tYes) rfl sc_law_rule_model.nd rfl rfl (sw_true rfl rfl rfl (by decide +kernel)) (pi_range1 (by rfl) M.m_range (pa_cons (pv 3) pa_nil)) (blkOk_by (N := ["pool", "signs", "most", "states", "moves", "good", "state", "sign"]) (sc := defScope s_law_rule_model) (by decide +kernel)) (fun _ _ _ _ _ => (pg_name (i := 6) sc_law_rule_model.nd rfl (Or.inl rfl))) (fun _ _ _ _ _ => pts_nil) (fun _ _ _ _ _ => (pe_lc (own := [("sign", 7)]) (tt := tYes) rfl sc_law_rule_model.nd (pi_listK K (pv 1)) (blkOk_by (N := ["pool", "signs", "most", "states", "moves", "good", "state", "sign"]) (sc := ({ kind := .function, names := [(".0", .local), ("state", .local), ("pool", .cell), ("signs", .cell), ("states", .cell)], isGenerator := false, isCoroutine := false } : Scope)) (by decide +kernel)) (fun _ _ _ _ _ => (pg_name (i := 7) sc_law_rule_model.nd rfl (Or.inl rfl))) (fun _ _ _ _ _ => pts_nil) (fun _ _ _ _ _ => (pe_f F_law_draw hr (by omega) pass0 (pa_cons (pv 0) (pa_cons (pv 3) pa_nil)))))))
      (Evl.pss_cut (ps_setLc (i := 5) (own := [("state", 6)]) rfl sc_law_rule_model.nd rfl rfl (sw_true rfl rfl rfl (by decide +kernel)) (pi_range1 (by rfl) M.m_range (pa_cons (pv 3) pa_nil)) (blkOk_by (N := ["pool", "signs", "most", "states", "moves", "good", "state", "sign"]) (sc := defScope s_law_rule_model) (by decide +kernel)) (fun _ _ _ _ _ => (pg_name (i := 6) sc_law_rule_model.nd rfl (Or.inl rfl))) (fun _ _ _ _ _ => (pts_one (pt_cmpR op_eq (pe_f F_law_draw hr (by omega) pass0 (pa_cons (pv 0) (pa_cons pe_int pa_nil))) pe_int (nomark _)))) (fun _ _ _ _ _ => (pv 6)))
      (pss_one (ps_ret (pe_lst (pa_cons (pe_callTy call_list_of (by rfl) M.m_list (by decide +kernel) (pa_cons (pv 1) pa_nil)) (pa_cons (pv 4) (pa_cons (pv 5) pa_nil))))))))), ?_⟩
    -- states
    refine ⟨fun σ H' => ∃ n : Nat, σ = [some (.ref p), some (.ref sl), some (.int m), some (.int (n : Int)), none, none, none, none] ∧ PoolAt H' p q ∧ Same (SL.off H p) (SL.off H' p) ∧ 1 ≤ n ∧ n ≤ 40, ?_, ?_⟩
    · refine ⟨_, rfl, _, rfl, p, q, m, rfl, hP, m0, by omega, fun H1 d s1 hP1 d0 d1 => ⟨_, _, rfl, rfl, (1 + d).toNat, ?_, hP1, s1, by omega, by omega⟩⟩
      rw [show ((1 + d).toNat : Int) = 1 + d by omega]
      rfl
    rintro _ H1 ⟨n, rfl, hP1, s1, n1, n40⟩
    -- moves
    refine ⟨fun σ H' => ∃ mv ws ls, σ = [some (.ref p), some (.ref sl), some (.int m), some (.int (n : Int)), some (.ref mv), none, none, none] ∧ PoolAt H' p q ∧ Same (SL.off H p) (SL.off H' p) ∧ H mv = none ∧ mv ≠ p ∧ H' mv = some (.lst ws) ∧ LinesAt (SL.off H' p) ws ls ∧ ls.length = n ∧ ∀ l ∈ ls, l.length = cs.length ∧ InStates n l, ?_, ?_⟩
    · refine ⟨_, rfl, (n : Int), rfl, by omega, by omega, fun D nD => ?_⟩
      obtain ⟨nDp, nDq⟩ := hP1.at_p nD
      have nDH := free_off s1 nD nDp
      refine lc_range (lo := 0) (n := n) (fun i H' => PoolAt H' p q ∧ Same (SL.off H p) (SL.off H' p) ∧ ∃ ws ls, H' D = some (.lst ws) ∧ ws.length = i ∧ LinesAt (SL.off (SL.off H' p) D) ws ls ∧ ls.length = i ∧ ∀ l ∈ ls, l.length = cs.length ∧ InStates n l)
        ⟨hP1.same (same_upd nD), s1.trans (off_mono (same_upd nD)), [], [], upd_same, rfl, .nil, rfl, fun _ z => nomatch z⟩ (fun i H2 hi z => ?_) (fun H2 z => ?_)
      · obtain ⟨hP2, s2, ws, ls, eD, lw, hL, lls, hb⟩ := z
        refine ⟨rfl, lc_yes ⟨_, rfl, sl, rfl, ⟨_, SqL.of (off_get s2 nsp esl)⟩, fun D2 nD2 => ?_⟩⟩
        obtain ⟨nD2p, nD2q⟩ := hP2.at_p nD2
        have nDD : D ≠ D2 := ne_of_none eD nD2
        refine lc_list (K := K) (a := sl) (xs := cs.map chV) (fun j H3 => PoolAt H3 p q ∧ Same (SL.off H2 p) (SL.off H3 p) ∧ ∃ ns : List Int, H3 D2 = some (.lst (ns.map V.int)) ∧ ns.length = j ∧ InStates n ns)
          ⟨hP2.same (same_upd nD2), off_mono (same_upd nD2), [], upd_same, rfl, fun _ z => nomatch z⟩ (fun j H3 _ z => SqL.of (off_get z.2.1 nsp (off_get s2 nsp esl))) (fun j y H3 hy z => ?_) (fun H3 z => ?_)
        · obtain ⟨hP3, s3, ns, e3, l3, b3⟩ := z
          refine ⟨rfl, lc_yes ⟨_, rfl, _, rfl, p, q, n, rfl, hP3, by omega, by omega, fun H4 d s4 hP4 d0 d1 => ⟨_, off_get s4 nD2p e3, ?_, hP4.put nD2p nD2q, off_put2 (s3.trans s4) nD2, ns ++ [d], ?_, ?_, ?_⟩⟩⟩
          · have := (List.getElem?_eq_some_iff.mp hy).1
            rw [List.length_map] at this ⊢
            exact lineN (by omega)
          · rw [upd_same, List.map_append]
            rfl
          · rw [List.length_append, l3]
            rfl
          · intro x hx
            rcases List.mem_append.mp hx with hx | hx
            · exact b3 x hx
            · rw [List.mem_singleton] at hx
              rw [hx]
              exact ⟨d0, d1⟩
        · obtain ⟨hP3, s3, ns, e3, l3, b3⟩ := z
          rw [List.length_map] at l3
          have eD3 := off_get s3 nDp eD
          refine ⟨ws, eD3, lineN (by omega), hP3.put nDp nDq, off_put2 (s2.trans s3) nDH, ws ++ [.ref D2], ls ++ [ns], upd_same, by rw [List.length_append, lw]; rfl, ?_, by rw [List.length_append, lls]; rfl, ?_⟩
          · refine LinesAt.snoc ?_ (hL.same (same2 s3))
            rw [off_ne nDD.symm, off_ne nD2p, upd_ne nDD.symm]
            exact e3
          · intro l hl
            rcases List.mem_append.mp hl with hl | hl
            · exact hb l hl
            · rw [List.mem_singleton] at hl
              rw [hl]
              exact ⟨l3, b3⟩
      · obtain ⟨hP2, s2, ws, ls, eD, lw, hL, lls, hb⟩ := z
        exact ⟨D, ws, ls, rfl, hP2, s2, nDH, nDp, eD, hL.same (off_same _ D), lls, hb⟩
    rintro _ H2 ⟨mv, ws, ls, rfl, hP2, s2, nmv, nmp, emv, hL, lls, hb⟩
    -- good
    refine ⟨fun σ H' => ∃ gd gs, σ = [some (.ref p), some (.ref sl), some (.int m), some (.int (n : Int)), some (.ref mv), some (.ref gd), none, none] ∧ PoolAt H' p q ∧ Same (SL.off H2 p) (SL.off H' p) ∧ gd ≠ p ∧ H' gd = some (.lst (gs.map V.int)) ∧ gs.Pairwise (· < ·) ∧ InStates n gs, ?_, ?_⟩
    · refine ⟨_, rfl, (n : Int), rfl, by omega, by omega, fun D nD => ?_⟩
      obtain ⟨nDp, nDq⟩ := hP2.at_p nD
      refine lc_range (lo := 0) (n := n) (fun i H' => PoolAt H' p q ∧ Same (SL.off H2 p) (SL.off H' p) ∧ ∃ gs : List Int, H' D = some (.lst (gs.map V.int)) ∧ gs.length ≤ i ∧ gs.Pairwise (· < ·) ∧ InStates i gs)
        ⟨hP2.same (same_upd nD), off_mono (same_upd nD), [], upd_same, Nat.le_refl _, .nil, fun _ z => nomatch z⟩ (fun i H3 hi z => ?_) (fun H3 z => ?_)
      · obtain ⟨hP3, s3, gs, eD, lg, pw, b3⟩ := z
        refine ⟨rfl, _, rfl, p, q, 2, rfl, hP3, by decide, by decide, fun H4 d s4 hP4 d0 d1 => ⟨rfl, _, rfl, ?_⟩⟩
        have eD4 := off_get s4 nDp eD
        have more : InStates (i + 1) gs := fun x hx => ⟨(b3 x hx).1, by have := (b3 x hx).2; omega⟩
        by_cases c : d = 0
        · rw [show decide (V.int d = V.int 0) = true from decide_eq_true (by rw [c])]
          refine iteT ⟨_, rfl, _, eD4, ?_, hP4.put nDp nDq, off_put2 (s3.trans s4) nD, gs ++ [(0 : Int) + (i : Nat)], ?_, ?_, ?_, ?_⟩
          · rw [List.length_map]
            exact lineN (by omega)
          · rw [upd_same, List.map_append]
            rfl
          · rw [List.length_append]
            show gs.length + 1 ≤ i + 1
            omega
          · rw [List.pairwise_append]
            refine ⟨pw, List.pairwise_singleton _ _, fun x hx y hy => ?_⟩
            rw [List.mem_singleton] at hy
            have := (b3 x hx).2
            omega
          · intro x hx
            rcases List.mem_append.mp hx with hx | hx
            · exact more x hx
            · rw [List.mem_singleton] at hx
              rw [hx]
              exact ⟨by omega, by omega⟩
        · rw [show decide (V.int d = V.int 0) = false from decide_eq_false fun z => c (V.int.inj z)]
          exact iteF ⟨hP4, s3.trans s4, gs, eD4, by omega, pw, more⟩
      · obtain ⟨hP3, s3, gs, eD, lg, pw, b3⟩ := z
        exact ⟨D, gs, rfl, hP3, s3, nDp, eD, pw, b3⟩
    rintro _ H3 ⟨gd, gs, rfl, hP3, s3, ngp, egd, pw, bg⟩
    have s13 := s2.trans s3
    refine ⟨_, rfl, sl, _, rfl, .inl (SqL.of (off_get s13 nsp esl)), fun t nt => ⟨_, rfl, _, rfl, few (n := 3) (by decide), fun r nr => ?_⟩⟩
    obtain ⟨ntp, ntq⟩ := hP3.at_p nt
    have st := same_upd (o := .lst (cs.map chV)) nt
    have hP4 := hP3.same st
    obtain ⟨nrp, nrq⟩ := hP4.at_p nr
    have sr := st.trans (same_upd (o := .lst [.ref t, .ref mv, .ref gd]) nr)
    have et := (same_upd (o := .lst [.ref t, .ref mv, .ref gd]) nr) t _ upd_same
    have s34 : Same (SL.off H3 p) (SL.off (upd (upd H3 t (.lst (cs.map chV))) r (.lst [.ref t, .ref mv, .ref gd])) p) := off_mono sr
    refine fin _ r (s13.trans s34) (hP3.same sr) (free_off (s13.trans (off_mono st)) nr nrp) ⟨t, mv, gd, ws, ls, gs, upd_same, ?_, ?_, hL.same (s3.trans s34), by omega, by omega, fun l hl => ?_, ?_, pw, ?_⟩
    · rw [off_ne ntp]
      exact et
    · rw [off_ne nmp]
      exact sr _ _ (off_get s3 nmp emv)
    · rw [lls]
      exact hb l hl
    · rw [off_ne ngp]
      exact sr _ _ egd
    · rw [lls]
      exact bg
end

end K09
namespace K09
open PySem PySem.Spec PyProof.Rows L2 SL
section
variable {P : Program} {w : World} {K : PySem.W.Frag} {mg : Str → Option Value} {base : Heap} {cB iB cU fU cL : Addr} {fdU : FuncData} {f : Addr} {fd : FuncData}
/-! ### _law_wrong_good -/
theorem dts_int {H : Hp} : ∀ ns : List Int, DtAll K H (ns.map V.int) (ns.map D.int)
  | [] => .nil
  | n :: r => .cons (.int n) (dts_int r)
/-- a list that stands in H, of data -/
theorem dt_lst {H : Hp} {p t : Addr} {vs : List V} {ds : List D} (e : H t = some (.lst vs)) (f : t ≠ p) (k : DtAll K (SL.off H p) vs ds) (z : vs.length ≤ 100000) : ∃ d, Dt K (SL.off H p) (.ref t) d := ⟨_, .lst (SqL.of (by rw [off_ne f]; exact e)) k (by rw [← DtAll.length k]; exact z)⟩
theorem dt_dic {H : Hp} {p t : Addr} {kvs : List (Key × V)} (e : H t = some (.dK kvs)) (f : t ≠ p) : ∃ d, Dt K (SL.off H p) (.ref t) d := ⟨_, .dic (by rw [off_ne f]; exact e)⟩
/-- one of them is drawn -/
theorem drawn_of {H H' : Hp} {p : Addr} {L : List V} {d : Int} (s : Same (SL.off H p) (SL.off H' p)) (h : ∀ v ∈ L, ∃ x, Dt K (SL.off H p) v x) (d0 : 0 ≤ d) (d1 : d < (L.length : Int)) : ∃ v x, atI L d = some v ∧ Dt K (SL.off H' p) v x := by
  obtain ⟨v, hv⟩ : ∃ v, L[d.toNat]? = some v := ⟨L[d.toNat]'(by omega), List.getElem?_eq_getElem (by omega)⟩
  obtain ⟨x, hx⟩ := h v (List.mem_of_getElem? hv)
  have hat := atI_nat hv
  rw [show ((d.toNat : Nat) : Int) = d by omega] at hat
  exact ⟨v, x, hat, hx.same s⟩
theorem dt_lst2 {H : Hp} {p D0 t : Addr} {vs : List V} {ds : List D} (e : H t = some (.lst vs)) (f : t ≠ p) (g : t ≠ D0) (k : DtAll K (SL.off (SL.off H p) D0) vs ds) (z : vs.length ≤ 100000) : ∃ d, Dt K (SL.off (SL.off H p) D0) (.ref t) d := ⟨_, .lst (SqL.of (by rw [off_ne g, off_ne f]; exact e)) k (by rw [← DtAll.length k]; exact z)⟩
theorem dt_dic2 {H : Hp} {p D0 t : Addr} {kvs : List (Key × V)} (e : H t = some (.dK kvs)) (f : t ≠ p) (g : t ≠ D0) : ∃ d, Dt K (SL.off (SL.off H p) D0) (.ref t) d := ⟨_, .dic (by rw [off_ne g, off_ne f]; exact e)⟩
theorem sc_law_wrong_good : FnScope ["pool", "good", "many", "odd"] ["pool", "good", "many"] (defScope s_law_wrong_good) := ⟨rfl, rfl, rfl, by decide +kernel, rfl, by decide +kernel, by decide +kernel⟩
def spWGood (K : PySem.W.Frag) : Sp := fun vs H Q _ => ∃ (p q gl D0 : Addr) (o : HO) (gs : List Int) (m : Int), vs = [.ref p, .ref gl, .int m] ∧ H D0 = some o ∧ PoolAt H p q ∧ gl ≠ p ∧ H gl = some (.lst (gs.map V.int)) ∧ gs.length ≤ 1000 ∧ ∀ H' v d, Same (SL.off H p) (SL.off H' p) → PoolAt H' p q → Dt K (SL.off (SL.off H' p) D0) v d → Q v H'
theorem ok_law_wrong_good (M : MF P w K mg cB iB cU fU cL) (F_law_draw : FnC P w K mg base CX0 1 "_law_draw" ["pool", "many"] spDraw) (F : Fun K "_law_wrong_good" "_law_wrong_good" s_law_wrong_good f fd) : FnOk P w K mg base CX0 3 f fd ["pool", "good", "many"] (spWGood K) := by
  refine F.ok (k := 2) sc_law_wrong_good (fun vs H Q E h => ?_) (fun cdv A outer s H vs Q E hr h => ?_)
  · obtain ⟨p, q, gl, D0, o, gs, m, rfl, _⟩ := h
    rfl
  · obtain ⟨p, q, gl, D0, oD, gs, m, rfl, bD, hP, ngp, b0, lg, fin⟩ := h
    refine ⟨_, (pss_cons (ps_set (i := 3) sc_law_wrong_good.nd rfl (Or.inl rfl) (pe_lst (pa_cons pe_non (pa_cons pe_dnewK (pa_cons pe_int (pa_cons pe_str (pa_cons (pe_op op_cat (pv 1) (pv 1)) (pa_cons (pe_op op_cat (pv 1) (pe_lst (pa_cons (pv 2) pa_nil))) (pa_cons (pe_op op_cat (pe_lst (pa_cons (pe_un un_neg pe_int) pa_nil)) (pv 1)) (pa_cons (pe_lst (pa_cons pe_bl pa_nil)) (pa_cons (pe_lst (pa_cons pe_non pa_nil)) (pa_cons (pe_lst (pa_cons (pe_lst (pa_cons pe_int pa_nil)) pa_nil)) (pa_cons (pe_callBK (cr_sortedRev (b := true)) (by rfl) M.m_sorted PyProof.Rows.boot_sorted (pa_cons (pv 1) pa_nil) (pk_cons pe_bl pk_nil)) (pa_cons (pe_lst (pa_cons pe_int (pa_cons pe_int pa_nil))) pa_nil))))))))))))))
      (pss_one (ps_ret (pe_ix ix_list (pv 3) (pe_f F_law_draw hr (by omega) pass0 (pa_cons (pv 0) (pa_cons (pe_callB call_len_seq (by rfl) M.m_len (by decide +kernel) (pa_cons (pv 3) pa_nil)) pa_nil))) (fun _ _ => rfl))))), ?_⟩
    have len2 : (gs.map V.int).length + (gs.map V.int).length ≤ sizeLine := by
      rw [List.length_map]
      exact Nat.le_of_lt (lineN (by omega))
    have len1 : (gs.map V.int).length + [V.int m].length ≤ sizeLine := by
      rw [List.length_map]
      exact Nat.le_of_lt (lineN (show gs.length + 1 ≤ 100000 by omega))
    have len1b : [V.int (-1)].length + (gs.map V.int).length ≤ sizeLine := by
      rw [List.length_map]
      exact Nat.le_of_lt (lineN (show 1 + gs.length ≤ 100000 by omega))
    refine fun dd nd => ?_
    have x_dd := same_upd (o := .dK []) nd
    have f_dd := hP.at_p nd
    have e_dd : (upd H dd (.dK [])) dd = some (.dK []) := upd_same
    have hP_dd := hP.same x_dd
    have g_dd := (ne_of_none bD nd).symm
    generalize upd H dd (.dK []) = Hx1 at x_dd e_dd hP_dd ⊢
    replace b0 := x_dd _ _ b0
    replace bD := x_dd _ _ bD
    have s_dd := x_dd
    refine ⟨_, rfl, _, rfl, gl, gl, _, _, rfl, rfl, b0, b0, len2, fun t1 m1 => ?_⟩
    have x_t1 := same_upd (o := .lst (gs.map V.int ++ gs.map V.int)) m1
    have f_t1 := hP_dd.at_p m1
    have e_t1 : (upd Hx1 t1 (.lst (gs.map V.int ++ gs.map V.int))) t1 = some (.lst (gs.map V.int ++ gs.map V.int)) := upd_same
    have hP_t1 := hP_dd.same x_t1
    have g_t1 := (ne_of_none bD m1).symm
    generalize upd Hx1 t1 (.lst (gs.map V.int ++ gs.map V.int)) = Hx2 at x_t1 e_t1 hP_t1 ⊢
    replace b0 := x_t1 _ _ b0
    replace bD := x_t1 _ _ bD
    replace e_dd := x_t1 _ _ e_dd
    have s_t1 := s_dd.trans x_t1
    refine ⟨_, rfl, _, rfl, few (n := 1) (by decide), fun u2 w2 => ?_⟩
    have x_u2 := same_upd (o := .lst [.int m]) w2
    have f_u2 := hP_t1.at_p w2
    have e_u2 : (upd Hx2 u2 (.lst [.int m])) u2 = some (.lst [.int m]) := upd_same
    have hP_u2 := hP_t1.same x_u2
    have g_u2 := (ne_of_none bD w2).symm
    generalize upd Hx2 u2 (.lst [.int m]) = Hx3 at x_u2 e_u2 hP_u2 ⊢
    replace b0 := x_u2 _ _ b0
    replace bD := x_u2 _ _ bD
    replace e_dd := x_u2 _ _ e_dd
    replace e_t1 := x_u2 _ _ e_t1
    have s_u2 := s_t1.trans x_u2
    refine ⟨gl, u2, _, _, rfl, rfl, b0, e_u2, len1, fun t2 m2 => ?_⟩
    have x_t2 := same_upd (o := .lst (gs.map V.int ++ [.int m])) m2
    have f_t2 := hP_u2.at_p m2
    have e_t2 : (upd Hx3 t2 (.lst (gs.map V.int ++ [.int m]))) t2 = some (.lst (gs.map V.int ++ [.int m])) := upd_same
    have hP_t2 := hP_u2.same x_t2
    have g_t2 := (ne_of_none bD m2).symm
    generalize upd Hx3 t2 (.lst (gs.map V.int ++ [.int m])) = Hx4 at x_t2 e_t2 hP_t2 ⊢
    replace b0 := x_t2 _ _ b0
    replace bD := x_t2 _ _ bD
    replace e_dd := x_t2 _ _ e_dd
    replace e_t1 := x_t2 _ _ e_t1
    replace e_u2 := x_t2 _ _ e_u2
    have s_t2 := s_u2.trans x_t2
    refine ⟨_, rfl, few (n := 1) (by decide), fun u3 w3 => ?_⟩
    have x_u3 := same_upd (o := .lst [.int (-1)]) w3
    have f_u3 := hP_t2.at_p w3
    have e_u3 : (upd Hx4 u3 (.lst [.int (-1)])) u3 = some (.lst [.int (-1)]) := upd_same
    have hP_u3 := hP_t2.same x_u3
    have g_u3 := (ne_of_none bD w3).symm
    generalize upd Hx4 u3 (.lst [.int (-1)]) = Hx5 at x_u3 e_u3 hP_u3 ⊢
    replace b0 := x_u3 _ _ b0
    replace bD := x_u3 _ _ bD
    replace e_dd := x_u3 _ _ e_dd
    replace e_t1 := x_u3 _ _ e_t1
    replace e_u2 := x_u3 _ _ e_u2
    replace e_t2 := x_u3 _ _ e_t2
    have s_u3 := s_t2.trans x_u3
    refine ⟨_, rfl, u3, gl, _, _, rfl, rfl, e_u3, b0, len1b, fun t3 m3 => ?_⟩
    have x_t3 := same_upd (o := .lst ([.int (-1)] ++ gs.map V.int)) m3
    have f_t3 := hP_u3.at_p m3
    have e_t3 : (upd Hx5 t3 (.lst ([.int (-1)] ++ gs.map V.int))) t3 = some (.lst ([.int (-1)] ++ gs.map V.int)) := upd_same
    have hP_t3 := hP_u3.same x_t3
    have g_t3 := (ne_of_none bD m3).symm
    generalize upd Hx5 t3 (.lst ([.int (-1)] ++ gs.map V.int)) = Hx6 at x_t3 e_t3 hP_t3 ⊢
    replace b0 := x_t3 _ _ b0
    replace bD := x_t3 _ _ bD
    replace e_dd := x_t3 _ _ e_dd
    replace e_t1 := x_t3 _ _ e_t1
    replace e_u2 := x_t3 _ _ e_u2
    replace e_t2 := x_t3 _ _ e_t2
    replace e_u3 := x_t3 _ _ e_u3
    have s_t3 := s_u3.trans x_t3
    refine ⟨few (n := 1) (by decide), fun t4 m4 => ?_⟩
    have x_t4 := same_upd (o := .lst [.bl true]) m4
    have f_t4 := hP_t3.at_p m4
    have e_t4 : (upd Hx6 t4 (.lst [.bl true])) t4 = some (.lst [.bl true]) := upd_same
    have hP_t4 := hP_t3.same x_t4
    have g_t4 := (ne_of_none bD m4).symm
    generalize upd Hx6 t4 (.lst [.bl true]) = Hx7 at x_t4 e_t4 hP_t4 ⊢
    replace b0 := x_t4 _ _ b0
    replace bD := x_t4 _ _ bD
    replace e_dd := x_t4 _ _ e_dd
    replace e_t1 := x_t4 _ _ e_t1
    replace e_u2 := x_t4 _ _ e_u2
    replace e_t2 := x_t4 _ _ e_t2
    replace e_u3 := x_t4 _ _ e_u3
    replace e_t3 := x_t4 _ _ e_t3
    have s_t4 := s_t3.trans x_t4
    refine ⟨few (n := 1) (by decide), fun t5 m5 => ?_⟩
    have x_t5 := same_upd (o := .lst [.non]) m5
    have f_t5 := hP_t4.at_p m5
    have e_t5 : (upd Hx7 t5 (.lst [.non])) t5 = some (.lst [.non]) := upd_same
    have hP_t5 := hP_t4.same x_t5
    have g_t5 := (ne_of_none bD m5).symm
    generalize upd Hx7 t5 (.lst [.non]) = Hx8 at x_t5 e_t5 hP_t5 ⊢
    replace b0 := x_t5 _ _ b0
    replace bD := x_t5 _ _ bD
    replace e_dd := x_t5 _ _ e_dd
    replace e_t1 := x_t5 _ _ e_t1
    replace e_u2 := x_t5 _ _ e_u2
    replace e_t2 := x_t5 _ _ e_t2
    replace e_u3 := x_t5 _ _ e_u3
    replace e_t3 := x_t5 _ _ e_t3
    replace e_t4 := x_t5 _ _ e_t4
    have s_t5 := s_t4.trans x_t5
    refine ⟨few (n := 1) (by decide), fun u6 w6 => ?_⟩
    have x_u6 := same_upd (o := .lst [.int 0]) w6
    have f_u6 := hP_t5.at_p w6
    have e_u6 : (upd Hx8 u6 (.lst [.int 0])) u6 = some (.lst [.int 0]) := upd_same
    have hP_u6 := hP_t5.same x_u6
    have g_u6 := (ne_of_none bD w6).symm
    generalize upd Hx8 u6 (.lst [.int 0]) = Hx9 at x_u6 e_u6 hP_u6 ⊢
    replace b0 := x_u6 _ _ b0
    replace bD := x_u6 _ _ bD
    replace e_dd := x_u6 _ _ e_dd
    replace e_t1 := x_u6 _ _ e_t1
    replace e_u2 := x_u6 _ _ e_u2
    replace e_t2 := x_u6 _ _ e_t2
    replace e_u3 := x_u6 _ _ e_u3
    replace e_t3 := x_u6 _ _ e_t3
    replace e_t4 := x_u6 _ _ e_t4
    replace e_t5 := x_u6 _ _ e_t5
    have s_u6 := s_t5.trans x_u6
    refine ⟨few (n := 1) (by decide), fun t6 m6 => ?_⟩
    have x_t6 := same_upd (o := .lst [.ref u6]) m6
    have f_t6 := hP_u6.at_p m6
    have e_t6 : (upd Hx9 t6 (.lst [.ref u6])) t6 = some (.lst [.ref u6]) := upd_same
    have hP_t6 := hP_u6.same x_t6
    have g_t6 := (ne_of_none bD m6).symm
    generalize upd Hx9 t6 (.lst [.ref u6]) = Hx10 at x_t6 e_t6 hP_t6 ⊢
    replace b0 := x_t6 _ _ b0
    replace bD := x_t6 _ _ bD
    replace e_dd := x_t6 _ _ e_dd
    replace e_t1 := x_t6 _ _ e_t1
    replace e_u2 := x_t6 _ _ e_u2
    replace e_t2 := x_t6 _ _ e_t2
    replace e_u3 := x_t6 _ _ e_u3
    replace e_t3 := x_t6 _ _ e_t3
    replace e_t4 := x_t6 _ _ e_t4
    replace e_t5 := x_t6 _ _ e_t5
    replace e_u6 := x_t6 _ _ e_u6
    have s_t6 := s_u6.trans x_t6
    refine ⟨_, rfl, gl, gs, rfl, rfl, SqL.of b0, fun ns t7 pm _ m7 => ?_⟩
    have x_t7 := same_upd (o := .lst (ns.map V.int)) m7
    have f_t7 := hP_t6.at_p m7
    have e_t7 : (upd Hx10 t7 (.lst (ns.map V.int))) t7 = some (.lst (ns.map V.int)) := upd_same
    have hP_t7 := hP_t6.same x_t7
    have g_t7 := (ne_of_none bD m7).symm
    generalize upd Hx10 t7 (.lst (ns.map V.int)) = Hx11 at x_t7 e_t7 hP_t7 ⊢
    replace b0 := x_t7 _ _ b0
    replace bD := x_t7 _ _ bD
    replace e_dd := x_t7 _ _ e_dd
    replace e_t1 := x_t7 _ _ e_t1
    replace e_u2 := x_t7 _ _ e_u2
    replace e_t2 := x_t7 _ _ e_t2
    replace e_u3 := x_t7 _ _ e_u3
    replace e_t3 := x_t7 _ _ e_t3
    replace e_t4 := x_t7 _ _ e_t4
    replace e_t5 := x_t7 _ _ e_t5
    replace e_u6 := x_t7 _ _ e_u6
    replace e_t6 := x_t7 _ _ e_t6
    have s_t7 := s_t6.trans x_t7
    refine ⟨few (n := 2) (by decide), fun t8 m8 => ?_⟩
    have x_t8 := same_upd (o := .lst [.int 0, .int 0]) m8
    have f_t8 := hP_t7.at_p m8
    have e_t8 : (upd Hx11 t8 (.lst [.int 0, .int 0])) t8 = some (.lst [.int 0, .int 0]) := upd_same
    have hP_t8 := hP_t7.same x_t8
    have g_t8 := (ne_of_none bD m8).symm
    generalize upd Hx11 t8 (.lst [.int 0, .int 0]) = Hx12 at x_t8 e_t8 hP_t8 ⊢
    replace b0 := x_t8 _ _ b0
    replace bD := x_t8 _ _ bD
    replace e_dd := x_t8 _ _ e_dd
    replace e_t1 := x_t8 _ _ e_t1
    replace e_u2 := x_t8 _ _ e_u2
    replace e_t2 := x_t8 _ _ e_t2
    replace e_u3 := x_t8 _ _ e_u3
    replace e_t3 := x_t8 _ _ e_t3
    replace e_t4 := x_t8 _ _ e_t4
    replace e_t5 := x_t8 _ _ e_t5
    replace e_u6 := x_t8 _ _ e_u6
    replace e_t6 := x_t8 _ _ e_t6
    replace e_t7 := x_t8 _ _ e_t7
    have s_t8 := s_t7.trans x_t8
    refine ⟨few (n := 12) (by decide), fun mm nm => ?_⟩
    have x_mm := same_upd (o := .lst [.non, .ref dd, .int 0, .str "0", .ref t1, .ref t2, .ref t3, .ref t4, .ref t5, .ref t6, .ref t7, .ref t8]) nm
    have f_mm := hP_t8.at_p nm
    have e_mm : (upd Hx12 mm (.lst [.non, .ref dd, .int 0, .str "0", .ref t1, .ref t2, .ref t3, .ref t4, .ref t5, .ref t6, .ref t7, .ref t8])) mm = some (.lst [.non, .ref dd, .int 0, .str "0", .ref t1, .ref t2, .ref t3, .ref t4, .ref t5, .ref t6, .ref t7, .ref t8]) := upd_same
    have hP_mm := hP_t8.same x_mm
    have g_mm := (ne_of_none bD nm).symm
    generalize upd Hx12 mm (.lst [.non, .ref dd, .int 0, .str "0", .ref t1, .ref t2, .ref t3, .ref t4, .ref t5, .ref t6, .ref t7, .ref t8]) = Hx13 at x_mm e_mm hP_mm ⊢
    replace b0 := x_mm _ _ b0
    replace bD := x_mm _ _ bD
    replace e_dd := x_mm _ _ e_dd
    replace e_t1 := x_mm _ _ e_t1
    replace e_u2 := x_mm _ _ e_u2
    replace e_t2 := x_mm _ _ e_t2
    replace e_u3 := x_mm _ _ e_u3
    replace e_t3 := x_mm _ _ e_t3
    replace e_t4 := x_mm _ _ e_t4
    replace e_t5 := x_mm _ _ e_t5
    replace e_u6 := x_mm _ _ e_u6
    replace e_t6 := x_mm _ _ e_t6
    replace e_t7 := x_mm _ _ e_t7
    replace e_t8 := x_mm _ _ e_t8
    have s_mm := s_t8.trans x_mm
    have lgm : (gs.map V.int).length ≤ 1000 := by rw [List.length_map]; exact lg
    have hall : ∀ v ∈ [V.non, .ref dd, .int 0, .str "0", .ref t1, .ref t2, .ref t3, .ref t4, .ref t5, .ref t6, .ref t7, .ref t8], ∃ x, Dt K (SL.off (SL.off Hx13 p) D0) v x := by
      simp only [List.forall_mem_cons]
      refine ⟨⟨_, .non⟩, dt_dic2 e_dd f_dd.1 g_dd, ⟨_, .int 0⟩, ⟨_, .str _ (by decide)⟩, dt_lst2 e_t1 f_t1.1 g_t1 (DtAll.append (dts_int gs) (dts_int gs)) (by rw [List.length_append]; omega), dt_lst2 e_t2 f_t2.1 g_t2 (DtAll.append (.cons (.int m) .nil) (dts_int gs)) (by rw [List.length_append]; show _ + 1 ≤ _; omega),
        dt_lst2 e_t3 f_t3.1 g_t3 (DtAll.append (dts_int gs) (.cons (.int (-1)) .nil)) (by rw [List.length_append]; show 1 + _ ≤ _; omega), dt_lst2 e_t4 f_t4.1 g_t4 (.cons (.bl true) .nil) (show 1 ≤ 100000 by decide), dt_lst2 e_t5 f_t5.1 g_t5 (.cons .non .nil) (show 1 ≤ 100000 by decide), ?_, dt_lst2 e_t7 f_t7.1 g_t7 (dts_int ns) (by rw [List.length_map, pm.length_eq]; omega),
        dt_lst2 e_t8 f_t8.1 g_t8 (.cons (.int 0) (.cons (.int 0) .nil)) (show 2 ≤ 100000 by decide), fun _ z => nomatch z⟩
      obtain ⟨x6, h6⟩ := dt_lst2 (K := K) e_u6 f_u6.1 g_u6 (.cons (.int 0) .nil) (show 1 ≤ 100000 by decide)
      exact dt_lst2 e_t6 f_t6.1 g_t6 (.cons h6 .nil) (show 1 ≤ 100000 by decide)
    refine ⟨_, rfl, _, rfl, _, rfl, mm, _, rfl, .inl (SqL.of e_mm), p, q, 12, rfl, hP_mm, by decide, by decide, fun H' d s' hP' d0 d1 => ?_⟩
    obtain ⟨v, x, hv, hx⟩ := drawn_of (H := SL.off Hx13 p) (H' := SL.off H' p) (p := D0) (off_mono s') hall d0 d1
    exact ⟨mm, _, d, v, rfl, rfl, SqL.of (off_get s' f_mm.1 e_mm), hv, fin H' v x ((off_mono s_mm).trans s') hP' hx⟩
end

end K09
namespace K09
open PySem PySem.Spec PyProof.Rows L2 SL
section
variable {P : Program} {w : World} {K : PySem.W.Frag} {mg : Str → Option Value} {base : Heap} {cB iB cU fU cL : Addr} {fdU : FuncData} {f : Addr} {fd : FuncData}
/-! ### _law_wrong_signs -/
theorem sum_ch : ∀ cs : List Nat, ((cs.map ch).map (·.length)).sum = cs.length
  | [] => rfl
  | c :: r => by
    rw [List.map_cons, List.map_cons, List.sum_cons, sum_ch r, List.length_cons]
    show 1 + r.length = r.length + 1
    omega
theorem joinL_ones : ∀ cs : List Nat, TL.joinL [] (cs.map fun c => [c]) = cs
  | [] => rfl
  | [_] => rfl
  | a :: b :: r => by
    have := joinL_ones (b :: r)
    show [a] ++ ([] ++ TL.joinL [] ((b :: r).map fun c => [c])) = a :: b :: r
    rw [this]
    rfl
theorem join_len (cs : List Nat) : (Txt.join "" (cs.map ch)).length = cs.length := by
  have e := TL.tl_join ("" : Str) (cs.map ch)
  rw [List.map_map, show (TL.tl ∘ ch) = fun c => [c] from rfl, show TL.tl ("" : Str) = [] from rfl, joinL_ones] at e
  have e2 := congrArg TL.tl (TL.join_eq ("" : Str) (cs.map ch))
  rw [e] at e2
  have := congrArg List.length e2
  show (Txt.join "" (cs.map ch)).cps.size = cs.length
  simpa using this
theorem dts_str {H : Hp} : ∀ ys : List Str, (∀ y ∈ ys, y.length ≤ 100000) → DtAll K H (ys.map V.str) (ys.map D.str)
  | [], _ => .nil
  | y :: r, h => .cons (.str y (h y (List.mem_cons_self ..))) (dts_str r fun z hz => h z (List.mem_cons_of_mem _ hz))
theorem sc_law_wrong_signs : FnScope ["pool", "signs", "odd"] ["pool", "signs"] (defScope s_law_wrong_signs) := ⟨rfl, rfl, rfl, by decide +kernel, rfl, by decide +kernel, by decide +kernel⟩
def spWSigns (K : PySem.W.Frag) : Sp := fun vs H Q _ => ∃ (p q sl D0 : Addr) (o : HO) (cs : List Nat), vs = [.ref p, .ref sl] ∧ H D0 = some o ∧ sl ≠ D0 ∧ PoolAt H p q ∧ sl ≠ p ∧ H sl = some (.lst (cs.map chV)) ∧ cs.length ≤ 10 ∧ ∀ H' v d, Same (SL.off H p) (SL.off H' p) → PoolAt H' p q → Dt K (SL.off (SL.off H' p) D0) v d → Q v H'
theorem ok_law_wrong_signs (M : MF P w K mg cB iB cU fU cL) (F_law_draw : FnC P w K mg base CX0 1 "_law_draw" ["pool", "many"] spDraw) (F : Fun K "_law_wrong_signs" "_law_wrong_signs" s_law_wrong_signs f fd) : FnOk P w K mg base CX0 3 f fd ["pool", "signs"] (spWSigns K) := by
  refine F.ok (k := 2) sc_law_wrong_signs (fun vs H Q E h => ?_) (fun cdv A outer s H vs Q E hr h => ?_)
  · obtain ⟨p, q, sl, D0, o, cs, rfl, _⟩ := h
    rfl
  · obtain ⟨p, q, sl, D0, oD, cs, rfl, bD, nsD, hP, nsp, b0, lc, fin⟩ := h
    refine ⟨_, (pss_cons (ps_set (i := 2) sc_law_wrong_signs.nd rfl (Or.inl rfl) (pe_lst (pa_cons pe_non (pa_cons (pe_tup pa_nil) (pa_cons (pe_lst pa_nil) (pa_cons (pe_join pe_str (pv 1)) (pa_cons pe_dnewK (pa_cons pe_int (pa_cons (pe_op op_cat (pv 1) (pv 1)) (pa_cons (pe_op op_cat (pv 1) (pe_lst (pa_cons pe_str pa_nil))) (pa_cons (pe_op op_cat (pv 1) (pe_lst (pa_cons pe_non pa_nil))) (pa_cons (pe_op op_cat (pv 1) (pe_lst (pa_cons pe_str pa_nil))) (pa_cons (pe_lst (pa_cons (pv 1) pa_nil)) pa_nil)))))))))))))
      (pss_cons (ps_set (i := 2) sc_law_wrong_signs.nd rfl (Or.inl rfl) (pe_op op_cat (pv 2) (pe_lst (pa_cons (pe_op op_cat (pv 1) (pe_lst (pa_cons pe_str pa_nil))) (pa_cons (pe_op op_cat (pv 1) (pe_lst (pa_cons pe_int pa_nil))) (pa_cons (pe_callTy (call_list_txt rfl) (by rfl) M.m_list (by decide +kernel) (pa_cons pe_str pa_nil)) (pa_cons (pe_op op_cat (pe_callBK cr_sortedRevS (by rfl) M.m_sorted PyProof.Rows.boot_sorted (pa_cons (pv 1) pa_nil) (pk_cons pe_bl pk_nil)) (pe_lst (pa_cons pe_str pa_nil))) (pa_cons (pe_lst (pa_cons pe_bl pa_nil)) pa_nil))))))))
      (pss_one (ps_ret (pe_ix ix_list (pv 2) (pe_f F_law_draw hr (by omega) pass0 (pa_cons (pv 0) (pa_cons (pe_callB call_len_seq (by rfl) M.m_len (by decide +kernel) (pa_cons (pv 2) pa_nil)) pa_nil))) (fun _ _ => rfl)))))), ?_⟩
    have lcs : (cs.map chV).length ≤ 10 := by rw [List.length_map]; exact lc
    have len2 : (cs.map chV).length + (cs.map chV).length ≤ sizeLine := Nat.le_of_lt (lineN (by omega))
    have len1 : ∀ v : V, (cs.map chV).length + [v].length ≤ sizeLine := fun v => Nat.le_of_lt (lineN (show (cs.map chV).length + 1 ≤ 100000 by omega))
    have joinB : ((cs.map ch).map (·.length)).sum + (cs.map ch).length * ("" : Str).length ≤ 16777216 := by
      rw [sum_ch, show ("" : Str).length = 0 from rfl]
      omega
    refine ⟨few (n := 0) (by decide), fun ta ma => ?_⟩
    have x_ta := same_upd (o := .tup []) ma
    have f_ta := hP.at_p ma
    have e_ta : (upd H ta (.tup [])) ta = some (.tup []) := upd_same
    have hP_ta := hP.same x_ta
    have g_ta := (ne_of_none bD ma).symm
    generalize upd H ta (.tup []) = Hx1 at x_ta e_ta hP_ta ⊢
    replace b0 := x_ta _ _ b0
    replace bD := x_ta _ _ bD
    have s_ta := x_ta
    refine ⟨few (n := 0) (by decide), fun tb mb => ?_⟩
    have x_tb := same_upd (o := .lst []) mb
    have f_tb := hP_ta.at_p mb
    have e_tb : (upd Hx1 tb (.lst [])) tb = some (.lst []) := upd_same
    have hP_tb := hP_ta.same x_tb
    have g_tb := (ne_of_none bD mb).symm
    generalize upd Hx1 tb (.lst []) = Hx2 at x_tb e_tb hP_tb ⊢
    replace b0 := x_tb _ _ b0
    replace bD := x_tb _ _ bD
    replace e_ta := x_tb _ _ e_ta
    have s_tb := s_ta.trans x_tb
    refine ⟨⟨_, rfl⟩, _, rfl, _, sl, cs.map ch, rfl, rfl, .inl (SqL.of (by rw [b0, List.map_map]; rfl)), joinB, fun dd nd => ?_⟩
    have x_dd := same_upd (o := .dK []) nd
    have f_dd := hP_tb.at_p nd
    have e_dd : (upd Hx2 dd (.dK [])) dd = some (.dK []) := upd_same
    have hP_dd := hP_tb.same x_dd
    have g_dd := (ne_of_none bD nd).symm
    generalize upd Hx2 dd (.dK []) = Hx3 at x_dd e_dd hP_dd ⊢
    replace b0 := x_dd _ _ b0
    replace bD := x_dd _ _ bD
    replace e_ta := x_dd _ _ e_ta
    replace e_tb := x_dd _ _ e_tb
    have s_dd := s_tb.trans x_dd
    refine ⟨_, rfl, _, rfl, sl, sl, _, _, rfl, rfl, b0, b0, len2, fun t1 m1 => ?_⟩
    have x_t1 := same_upd (o := .lst (cs.map chV ++ cs.map chV)) m1
    have f_t1 := hP_dd.at_p m1
    have e_t1 : (upd Hx3 t1 (.lst (cs.map chV ++ cs.map chV))) t1 = some (.lst (cs.map chV ++ cs.map chV)) := upd_same
    have hP_t1 := hP_dd.same x_t1
    have g_t1 := (ne_of_none bD m1).symm
    generalize upd Hx3 t1 (.lst (cs.map chV ++ cs.map chV)) = Hx4 at x_t1 e_t1 hP_t1 ⊢
    replace b0 := x_t1 _ _ b0
    replace bD := x_t1 _ _ bD
    replace e_ta := x_t1 _ _ e_ta
    replace e_tb := x_t1 _ _ e_tb
    replace e_dd := x_t1 _ _ e_dd
    have s_t1 := s_dd.trans x_t1
    refine ⟨_, rfl, few (n := 1) (by decide), fun u2 w2 => ?_⟩
    have x_u2 := same_upd (o := .lst [.str "A"]) w2
    have f_u2 := hP_t1.at_p w2
    have e_u2 : (upd Hx4 u2 (.lst [.str "A"])) u2 = some (.lst [.str "A"]) := upd_same
    have hP_u2 := hP_t1.same x_u2
    have g_u2 := (ne_of_none bD w2).symm
    generalize upd Hx4 u2 (.lst [.str "A"]) = Hx5 at x_u2 e_u2 hP_u2 ⊢
    replace b0 := x_u2 _ _ b0
    replace bD := x_u2 _ _ bD
    replace e_ta := x_u2 _ _ e_ta
    replace e_tb := x_u2 _ _ e_tb
    replace e_dd := x_u2 _ _ e_dd
    replace e_t1 := x_u2 _ _ e_t1
    have s_u2 := s_t1.trans x_u2
    refine ⟨sl, u2, _, _, rfl, rfl, b0, e_u2, len1 _, fun t2 m2 => ?_⟩
    have x_t2 := same_upd (o := .lst (cs.map chV ++ [.str "A"])) m2
    have f_t2 := hP_u2.at_p m2
    have e_t2 : (upd Hx5 t2 (.lst (cs.map chV ++ [.str "A"]))) t2 = some (.lst (cs.map chV ++ [.str "A"])) := upd_same
    have hP_t2 := hP_u2.same x_t2
    have g_t2 := (ne_of_none bD m2).symm
    generalize upd Hx5 t2 (.lst (cs.map chV ++ [.str "A"])) = Hx6 at x_t2 e_t2 hP_t2 ⊢
    replace b0 := x_t2 _ _ b0
    replace bD := x_t2 _ _ bD
    replace e_ta := x_t2 _ _ e_ta
    replace e_tb := x_t2 _ _ e_tb
    replace e_dd := x_t2 _ _ e_dd
    replace e_t1 := x_t2 _ _ e_t1
    replace e_u2 := x_t2 _ _ e_u2
    have s_t2 := s_u2.trans x_t2
    refine ⟨_, rfl, few (n := 1) (by decide), fun u3 w3 => ?_⟩
    have x_u3 := same_upd (o := .lst [.non]) w3
    have f_u3 := hP_t2.at_p w3
    have e_u3 : (upd Hx6 u3 (.lst [.non])) u3 = some (.lst [.non]) := upd_same
    have hP_u3 := hP_t2.same x_u3
    have g_u3 := (ne_of_none bD w3).symm
    generalize upd Hx6 u3 (.lst [.non]) = Hx7 at x_u3 e_u3 hP_u3 ⊢
    replace b0 := x_u3 _ _ b0
    replace bD := x_u3 _ _ bD
    replace e_ta := x_u3 _ _ e_ta
    replace e_tb := x_u3 _ _ e_tb
    replace e_dd := x_u3 _ _ e_dd
    replace e_t1 := x_u3 _ _ e_t1
    replace e_u2 := x_u3 _ _ e_u2
    replace e_t2 := x_u3 _ _ e_t2
    have s_u3 := s_t2.trans x_u3
    refine ⟨sl, u3, _, _, rfl, rfl, b0, e_u3, len1 _, fun t3 m3 => ?_⟩
    have x_t3 := same_upd (o := .lst (cs.map chV ++ [.non])) m3
    have f_t3 := hP_u3.at_p m3
    have e_t3 : (upd Hx7 t3 (.lst (cs.map chV ++ [.non]))) t3 = some (.lst (cs.map chV ++ [.non])) := upd_same
    have hP_t3 := hP_u3.same x_t3
    have g_t3 := (ne_of_none bD m3).symm
    generalize upd Hx7 t3 (.lst (cs.map chV ++ [.non])) = Hx8 at x_t3 e_t3 hP_t3 ⊢
    replace b0 := x_t3 _ _ b0
    replace bD := x_t3 _ _ bD
    replace e_ta := x_t3 _ _ e_ta
    replace e_tb := x_t3 _ _ e_tb
    replace e_dd := x_t3 _ _ e_dd
    replace e_t1 := x_t3 _ _ e_t1
    replace e_u2 := x_t3 _ _ e_u2
    replace e_t2 := x_t3 _ _ e_t2
    replace e_u3 := x_t3 _ _ e_u3
    have s_t3 := s_u3.trans x_t3
    refine ⟨_, rfl, few (n := 1) (by decide), fun u4 w4 => ?_⟩
    have x_u4 := same_upd (o := .lst [.str ""]) w4
    have f_u4 := hP_t3.at_p w4
    have e_u4 : (upd Hx8 u4 (.lst [.str ""])) u4 = some (.lst [.str ""]) := upd_same
    have hP_u4 := hP_t3.same x_u4
    have g_u4 := (ne_of_none bD w4).symm
    generalize upd Hx8 u4 (.lst [.str ""]) = Hx9 at x_u4 e_u4 hP_u4 ⊢
    replace b0 := x_u4 _ _ b0
    replace bD := x_u4 _ _ bD
    replace e_ta := x_u4 _ _ e_ta
    replace e_tb := x_u4 _ _ e_tb
    replace e_dd := x_u4 _ _ e_dd
    replace e_t1 := x_u4 _ _ e_t1
    replace e_u2 := x_u4 _ _ e_u2
    replace e_t2 := x_u4 _ _ e_t2
    replace e_u3 := x_u4 _ _ e_u3
    replace e_t3 := x_u4 _ _ e_t3
    have s_u4 := s_t3.trans x_u4
    refine ⟨sl, u4, _, _, rfl, rfl, b0, e_u4, len1 _, fun t4 m4 => ?_⟩
    have x_t4 := same_upd (o := .lst (cs.map chV ++ [.str ""])) m4
    have f_t4 := hP_u4.at_p m4
    have e_t4 : (upd Hx9 t4 (.lst (cs.map chV ++ [.str ""]))) t4 = some (.lst (cs.map chV ++ [.str ""])) := upd_same
    have hP_t4 := hP_u4.same x_t4
    have g_t4 := (ne_of_none bD m4).symm
    generalize upd Hx9 t4 (.lst (cs.map chV ++ [.str ""])) = Hx10 at x_t4 e_t4 hP_t4 ⊢
    replace b0 := x_t4 _ _ b0
    replace bD := x_t4 _ _ bD
    replace e_ta := x_t4 _ _ e_ta
    replace e_tb := x_t4 _ _ e_tb
    replace e_dd := x_t4 _ _ e_dd
    replace e_t1 := x_t4 _ _ e_t1
    replace e_u2 := x_t4 _ _ e_u2
    replace e_t2 := x_t4 _ _ e_t2
    replace e_u3 := x_t4 _ _ e_u3
    replace e_t3 := x_t4 _ _ e_t3
    replace e_u4 := x_t4 _ _ e_u4
    have s_t4 := s_u4.trans x_t4
    refine ⟨_, rfl, few (n := 1) (by decide), fun t5 m5 => ?_⟩
    have x_t5 := same_upd (o := .lst [.ref sl]) m5
    have f_t5 := hP_t4.at_p m5
    have e_t5 : (upd Hx10 t5 (.lst [.ref sl])) t5 = some (.lst [.ref sl]) := upd_same
    have hP_t5 := hP_t4.same x_t5
    have g_t5 := (ne_of_none bD m5).symm
    generalize upd Hx10 t5 (.lst [.ref sl]) = Hx11 at x_t5 e_t5 hP_t5 ⊢
    replace b0 := x_t5 _ _ b0
    replace bD := x_t5 _ _ bD
    replace e_ta := x_t5 _ _ e_ta
    replace e_tb := x_t5 _ _ e_tb
    replace e_dd := x_t5 _ _ e_dd
    replace e_t1 := x_t5 _ _ e_t1
    replace e_u2 := x_t5 _ _ e_u2
    replace e_t2 := x_t5 _ _ e_t2
    replace e_u3 := x_t5 _ _ e_u3
    replace e_t3 := x_t5 _ _ e_t3
    replace e_u4 := x_t5 _ _ e_u4
    replace e_t4 := x_t5 _ _ e_t4
    have s_t5 := s_t4.trans x_t5
    refine ⟨few (n := 11) (by decide), fun mm nm => ?_⟩
    have x_mm := same_upd (o := .lst [.non, .ref ta, .ref tb, .str (Txt.join "" (cs.map ch)), .ref dd, .int 0, .ref t1, .ref t2, .ref t3, .ref t4, .ref t5]) nm
    have f_mm := hP_t5.at_p nm
    have e_mm : (upd Hx11 mm (.lst [.non, .ref ta, .ref tb, .str (Txt.join "" (cs.map ch)), .ref dd, .int 0, .ref t1, .ref t2, .ref t3, .ref t4, .ref t5])) mm = some (.lst [.non, .ref ta, .ref tb, .str (Txt.join "" (cs.map ch)), .ref dd, .int 0, .ref t1, .ref t2, .ref t3, .ref t4, .ref t5]) := upd_same
    have hP_mm := hP_t5.same x_mm
    have g_mm := (ne_of_none bD nm).symm
    generalize upd Hx11 mm (.lst [.non, .ref ta, .ref tb, .str (Txt.join "" (cs.map ch)), .ref dd, .int 0, .ref t1, .ref t2, .ref t3, .ref t4, .ref t5]) = Hx12 at x_mm e_mm hP_mm ⊢
    replace b0 := x_mm _ _ b0
    replace bD := x_mm _ _ bD
    replace e_ta := x_mm _ _ e_ta
    replace e_tb := x_mm _ _ e_tb
    replace e_dd := x_mm _ _ e_dd
    replace e_t1 := x_mm _ _ e_t1
    replace e_u2 := x_mm _ _ e_u2
    replace e_t2 := x_mm _ _ e_t2
    replace e_u3 := x_mm _ _ e_u3
    replace e_t3 := x_mm _ _ e_t3
    replace e_u4 := x_mm _ _ e_u4
    replace e_t4 := x_mm _ _ e_t4
    replace e_t5 := x_mm _ _ e_t5
    have s_mm := s_t5.trans x_mm
    refine ⟨_, rfl, _, rfl, few (n := 1) (by decide), fun u6 w6 => ?_⟩
    have x_u6 := same_upd (o := .lst [.str "zz"]) w6
    have f_u6 := hP_mm.at_p w6
    have e_u6 : (upd Hx12 u6 (.lst [.str "zz"])) u6 = some (.lst [.str "zz"]) := upd_same
    have hP_u6 := hP_mm.same x_u6
    have g_u6 := (ne_of_none bD w6).symm
    generalize upd Hx12 u6 (.lst [.str "zz"]) = Hx13 at x_u6 e_u6 hP_u6 ⊢
    replace b0 := x_u6 _ _ b0
    replace bD := x_u6 _ _ bD
    replace e_ta := x_u6 _ _ e_ta
    replace e_tb := x_u6 _ _ e_tb
    replace e_dd := x_u6 _ _ e_dd
    replace e_t1 := x_u6 _ _ e_t1
    replace e_u2 := x_u6 _ _ e_u2
    replace e_t2 := x_u6 _ _ e_t2
    replace e_u3 := x_u6 _ _ e_u3
    replace e_t3 := x_u6 _ _ e_t3
    replace e_u4 := x_u6 _ _ e_u4
    replace e_t4 := x_u6 _ _ e_t4
    replace e_t5 := x_u6 _ _ e_t5
    replace e_mm := x_u6 _ _ e_mm
    have s_u6 := s_mm.trans x_u6
    refine ⟨sl, u6, _, _, rfl, rfl, b0, e_u6, len1 _, fun t6 m6 => ?_⟩
    have x_t6 := same_upd (o := .lst (cs.map chV ++ [.str "zz"])) m6
    have f_t6 := hP_u6.at_p m6
    have e_t6 : (upd Hx13 t6 (.lst (cs.map chV ++ [.str "zz"]))) t6 = some (.lst (cs.map chV ++ [.str "zz"])) := upd_same
    have hP_t6 := hP_u6.same x_t6
    have g_t6 := (ne_of_none bD m6).symm
    generalize upd Hx13 t6 (.lst (cs.map chV ++ [.str "zz"])) = Hx14 at x_t6 e_t6 hP_t6 ⊢
    replace b0 := x_t6 _ _ b0
    replace bD := x_t6 _ _ bD
    replace e_ta := x_t6 _ _ e_ta
    replace e_tb := x_t6 _ _ e_tb
    replace e_dd := x_t6 _ _ e_dd
    replace e_t1 := x_t6 _ _ e_t1
    replace e_u2 := x_t6 _ _ e_u2
    replace e_t2 := x_t6 _ _ e_t2
    replace e_u3 := x_t6 _ _ e_u3
    replace e_t3 := x_t6 _ _ e_t3
    replace e_u4 := x_t6 _ _ e_u4
    replace e_t4 := x_t6 _ _ e_t4
    replace e_t5 := x_t6 _ _ e_t5
    replace e_mm := x_t6 _ _ e_mm
    replace e_u6 := x_t6 _ _ e_u6
    have s_t6 := s_u6.trans x_t6
    refine ⟨_, rfl, few (n := 1) (by decide), fun u7 w7 => ?_⟩
    have x_u7 := same_upd (o := .lst [.int 0]) w7
    have f_u7 := hP_t6.at_p w7
    have e_u7 : (upd Hx14 u7 (.lst [.int 0])) u7 = some (.lst [.int 0]) := upd_same
    have hP_u7 := hP_t6.same x_u7
    have g_u7 := (ne_of_none bD w7).symm
    generalize upd Hx14 u7 (.lst [.int 0]) = Hx15 at x_u7 e_u7 hP_u7 ⊢
    replace b0 := x_u7 _ _ b0
    replace bD := x_u7 _ _ bD
    replace e_ta := x_u7 _ _ e_ta
    replace e_tb := x_u7 _ _ e_tb
    replace e_dd := x_u7 _ _ e_dd
    replace e_t1 := x_u7 _ _ e_t1
    replace e_u2 := x_u7 _ _ e_u2
    replace e_t2 := x_u7 _ _ e_t2
    replace e_u3 := x_u7 _ _ e_u3
    replace e_t3 := x_u7 _ _ e_t3
    replace e_u4 := x_u7 _ _ e_u4
    replace e_t4 := x_u7 _ _ e_t4
    replace e_t5 := x_u7 _ _ e_t5
    replace e_mm := x_u7 _ _ e_mm
    replace e_u6 := x_u7 _ _ e_u6
    replace e_t6 := x_u7 _ _ e_t6
    have s_u7 := s_t6.trans x_u7
    refine ⟨sl, u7, _, _, rfl, rfl, b0, e_u7, len1 _, fun t7 m7 => ?_⟩
    have x_t7 := same_upd (o := .lst (cs.map chV ++ [.int 0])) m7
    have f_t7 := hP_u7.at_p m7
    have e_t7 : (upd Hx15 t7 (.lst (cs.map chV ++ [.int 0]))) t7 = some (.lst (cs.map chV ++ [.int 0])) := upd_same
    have hP_t7 := hP_u7.same x_t7
    have g_t7 := (ne_of_none bD m7).symm
    generalize upd Hx15 t7 (.lst (cs.map chV ++ [.int 0])) = Hx16 at x_t7 e_t7 hP_t7 ⊢
    replace b0 := x_t7 _ _ b0
    replace bD := x_t7 _ _ bD
    replace e_ta := x_t7 _ _ e_ta
    replace e_tb := x_t7 _ _ e_tb
    replace e_dd := x_t7 _ _ e_dd
    replace e_t1 := x_t7 _ _ e_t1
    replace e_u2 := x_t7 _ _ e_u2
    replace e_t2 := x_t7 _ _ e_t2
    replace e_u3 := x_t7 _ _ e_u3
    replace e_t3 := x_t7 _ _ e_t3
    replace e_u4 := x_t7 _ _ e_u4
    replace e_t4 := x_t7 _ _ e_t4
    replace e_t5 := x_t7 _ _ e_t5
    replace e_mm := x_t7 _ _ e_mm
    replace e_u6 := x_t7 _ _ e_u6
    replace e_t6 := x_t7 _ _ e_t6
    replace e_u7 := x_t7 _ _ e_u7
    have s_t7 := s_u7.trans x_t7
    refine ⟨"abcdefghijk", rfl, by decide +kernel, fun t8 m8 => ?_⟩
    have x_t8 := same_upd (o := .lst (("abcdefghijk" : Str).cps.toList.map chV)) m8
    have f_t8 := hP_t7.at_p m8
    have e_t8 : (upd Hx16 t8 (.lst (("abcdefghijk" : Str).cps.toList.map chV))) t8 = some (.lst (("abcdefghijk" : Str).cps.toList.map chV)) := upd_same
    have hP_t8 := hP_t7.same x_t8
    have g_t8 := (ne_of_none bD m8).symm
    generalize upd Hx16 t8 (.lst (("abcdefghijk" : Str).cps.toList.map chV)) = Hx17 at x_t8 e_t8 hP_t8 ⊢
    replace b0 := x_t8 _ _ b0
    replace bD := x_t8 _ _ bD
    replace e_ta := x_t8 _ _ e_ta
    replace e_tb := x_t8 _ _ e_tb
    replace e_dd := x_t8 _ _ e_dd
    replace e_t1 := x_t8 _ _ e_t1
    replace e_u2 := x_t8 _ _ e_u2
    replace e_t2 := x_t8 _ _ e_t2
    replace e_u3 := x_t8 _ _ e_u3
    replace e_t3 := x_t8 _ _ e_t3
    replace e_u4 := x_t8 _ _ e_u4
    replace e_t4 := x_t8 _ _ e_t4
    replace e_t5 := x_t8 _ _ e_t5
    replace e_mm := x_t8 _ _ e_mm
    replace e_u6 := x_t8 _ _ e_u6
    replace e_t6 := x_t8 _ _ e_t6
    replace e_u7 := x_t8 _ _ e_u7
    replace e_t7 := x_t8 _ _ e_t7
    have s_t8 := s_t7.trans x_t8
    refine ⟨_, rfl, sl, cs.map ch, rfl, rfl, SqL.of (by rw [b0, List.map_map]; rfl), fun ys v9 pm _ n9 => ?_⟩
    have x_v9 := same_upd (o := .lst (ys.map V.str)) n9
    have f_v9 := hP_t8.at_p n9
    have e_v9 : (upd Hx17 v9 (.lst (ys.map V.str))) v9 = some (.lst (ys.map V.str)) := upd_same
    have hP_v9 := hP_t8.same x_v9
    have g_v9 := (ne_of_none bD n9).symm
    generalize upd Hx17 v9 (.lst (ys.map V.str)) = Hx18 at x_v9 e_v9 hP_v9 ⊢
    replace b0 := x_v9 _ _ b0
    replace bD := x_v9 _ _ bD
    replace e_ta := x_v9 _ _ e_ta
    replace e_tb := x_v9 _ _ e_tb
    replace e_dd := x_v9 _ _ e_dd
    replace e_t1 := x_v9 _ _ e_t1
    replace e_u2 := x_v9 _ _ e_u2
    replace e_t2 := x_v9 _ _ e_t2
    replace e_u3 := x_v9 _ _ e_u3
    replace e_t3 := x_v9 _ _ e_t3
    replace e_u4 := x_v9 _ _ e_u4
    replace e_t4 := x_v9 _ _ e_t4
    replace e_t5 := x_v9 _ _ e_t5
    replace e_mm := x_v9 _ _ e_mm
    replace e_u6 := x_v9 _ _ e_u6
    replace e_t6 := x_v9 _ _ e_t6
    replace e_u7 := x_v9 _ _ e_u7
    replace e_t7 := x_v9 _ _ e_t7
    replace e_t8 := x_v9 _ _ e_t8
    have s_v9 := s_t8.trans x_v9
    refine ⟨few (n := 1) (by decide), fun u9 w9 => ?_⟩
    have x_u9 := same_upd (o := .lst [.str "0"]) w9
    have f_u9 := hP_v9.at_p w9
    have e_u9 : (upd Hx18 u9 (.lst [.str "0"])) u9 = some (.lst [.str "0"]) := upd_same
    have hP_u9 := hP_v9.same x_u9
    have g_u9 := (ne_of_none bD w9).symm
    generalize upd Hx18 u9 (.lst [.str "0"]) = Hx19 at x_u9 e_u9 hP_u9 ⊢
    replace b0 := x_u9 _ _ b0
    replace bD := x_u9 _ _ bD
    replace e_ta := x_u9 _ _ e_ta
    replace e_tb := x_u9 _ _ e_tb
    replace e_dd := x_u9 _ _ e_dd
    replace e_t1 := x_u9 _ _ e_t1
    replace e_u2 := x_u9 _ _ e_u2
    replace e_t2 := x_u9 _ _ e_t2
    replace e_u3 := x_u9 _ _ e_u3
    replace e_t3 := x_u9 _ _ e_t3
    replace e_u4 := x_u9 _ _ e_u4
    replace e_t4 := x_u9 _ _ e_t4
    replace e_t5 := x_u9 _ _ e_t5
    replace e_mm := x_u9 _ _ e_mm
    replace e_u6 := x_u9 _ _ e_u6
    replace e_t6 := x_u9 _ _ e_t6
    replace e_u7 := x_u9 _ _ e_u7
    replace e_t7 := x_u9 _ _ e_t7
    replace e_t8 := x_u9 _ _ e_t8
    replace e_v9 := x_u9 _ _ e_v9
    have s_u9 := s_v9.trans x_u9
    refine ⟨v9, u9, _, _, rfl, rfl, e_v9, e_u9, (by rw [List.length_map, pm.length_eq, List.length_map]; exact Nat.le_of_lt (lineN (show cs.length + 1 ≤ 100000 by omega))), fun t9 m9 => ?_⟩
    have x_t9 := same_upd (o := .lst (ys.map V.str ++ [.str "0"])) m9
    have f_t9 := hP_u9.at_p m9
    have e_t9 : (upd Hx19 t9 (.lst (ys.map V.str ++ [.str "0"]))) t9 = some (.lst (ys.map V.str ++ [.str "0"])) := upd_same
    have hP_t9 := hP_u9.same x_t9
    have g_t9 := (ne_of_none bD m9).symm
    generalize upd Hx19 t9 (.lst (ys.map V.str ++ [.str "0"])) = Hx20 at x_t9 e_t9 hP_t9 ⊢
    replace b0 := x_t9 _ _ b0
    replace bD := x_t9 _ _ bD
    replace e_ta := x_t9 _ _ e_ta
    replace e_tb := x_t9 _ _ e_tb
    replace e_dd := x_t9 _ _ e_dd
    replace e_t1 := x_t9 _ _ e_t1
    replace e_u2 := x_t9 _ _ e_u2
    replace e_t2 := x_t9 _ _ e_t2
    replace e_u3 := x_t9 _ _ e_u3
    replace e_t3 := x_t9 _ _ e_t3
    replace e_u4 := x_t9 _ _ e_u4
    replace e_t4 := x_t9 _ _ e_t4
    replace e_t5 := x_t9 _ _ e_t5
    replace e_mm := x_t9 _ _ e_mm
    replace e_u6 := x_t9 _ _ e_u6
    replace e_t6 := x_t9 _ _ e_t6
    replace e_u7 := x_t9 _ _ e_u7
    replace e_t7 := x_t9 _ _ e_t7
    replace e_t8 := x_t9 _ _ e_t8
    replace e_v9 := x_t9 _ _ e_v9
    replace e_u9 := x_t9 _ _ e_u9
    have s_t9 := s_u9.trans x_t9
    refine ⟨few (n := 1) (by decide), fun tc mc => ?_⟩
    have x_tc := same_upd (o := .lst [.bl true]) mc
    have f_tc := hP_t9.at_p mc
    have e_tc : (upd Hx20 tc (.lst [.bl true])) tc = some (.lst [.bl true]) := upd_same
    have hP_tc := hP_t9.same x_tc
    have g_tc := (ne_of_none bD mc).symm
    generalize upd Hx20 tc (.lst [.bl true]) = Hx21 at x_tc e_tc hP_tc ⊢
    replace b0 := x_tc _ _ b0
    replace bD := x_tc _ _ bD
    replace e_ta := x_tc _ _ e_ta
    replace e_tb := x_tc _ _ e_tb
    replace e_dd := x_tc _ _ e_dd
    replace e_t1 := x_tc _ _ e_t1
    replace e_u2 := x_tc _ _ e_u2
    replace e_t2 := x_tc _ _ e_t2
    replace e_u3 := x_tc _ _ e_u3
    replace e_t3 := x_tc _ _ e_t3
    replace e_u4 := x_tc _ _ e_u4
    replace e_t4 := x_tc _ _ e_t4
    replace e_t5 := x_tc _ _ e_t5
    replace e_mm := x_tc _ _ e_mm
    replace e_u6 := x_tc _ _ e_u6
    replace e_t6 := x_tc _ _ e_t6
    replace e_u7 := x_tc _ _ e_u7
    replace e_t7 := x_tc _ _ e_t7
    replace e_t8 := x_tc _ _ e_t8
    replace e_v9 := x_tc _ _ e_v9
    replace e_u9 := x_tc _ _ e_u9
    replace e_t9 := x_tc _ _ e_t9
    have s_tc := s_t9.trans x_tc
    refine ⟨few (n := 5) (by decide), fun ux wx => ?_⟩
    have x_ux := same_upd (o := .lst [.ref t6, .ref t7, .ref t8, .ref t9, .ref tc]) wx
    have f_ux := hP_tc.at_p wx
    have e_ux : (upd Hx21 ux (.lst [.ref t6, .ref t7, .ref t8, .ref t9, .ref tc])) ux = some (.lst [.ref t6, .ref t7, .ref t8, .ref t9, .ref tc]) := upd_same
    have hP_ux := hP_tc.same x_ux
    have g_ux := (ne_of_none bD wx).symm
    generalize upd Hx21 ux (.lst [.ref t6, .ref t7, .ref t8, .ref t9, .ref tc]) = Hx22 at x_ux e_ux hP_ux ⊢
    replace b0 := x_ux _ _ b0
    replace bD := x_ux _ _ bD
    replace e_ta := x_ux _ _ e_ta
    replace e_tb := x_ux _ _ e_tb
    replace e_dd := x_ux _ _ e_dd
    replace e_t1 := x_ux _ _ e_t1
    replace e_u2 := x_ux _ _ e_u2
    replace e_t2 := x_ux _ _ e_t2
    replace e_u3 := x_ux _ _ e_u3
    replace e_t3 := x_ux _ _ e_t3
    replace e_u4 := x_ux _ _ e_u4
    replace e_t4 := x_ux _ _ e_t4
    replace e_t5 := x_ux _ _ e_t5
    replace e_mm := x_ux _ _ e_mm
    replace e_u6 := x_ux _ _ e_u6
    replace e_t6 := x_ux _ _ e_t6
    replace e_u7 := x_ux _ _ e_u7
    replace e_t7 := x_ux _ _ e_t7
    replace e_t8 := x_ux _ _ e_t8
    replace e_v9 := x_ux _ _ e_v9
    replace e_u9 := x_ux _ _ e_u9
    replace e_t9 := x_ux _ _ e_t9
    replace e_tc := x_ux _ _ e_tc
    have s_ux := s_tc.trans x_ux
    refine ⟨mm, ux, _, _, rfl, rfl, e_mm, e_ux, few (n := 16) (by decide), fun nn kn => ?_⟩
    have x_nn := same_upd (o := .lst ([.non, .ref ta, .ref tb, .str (Txt.join "" (cs.map ch)), .ref dd, .int 0, .ref t1, .ref t2, .ref t3, .ref t4, .ref t5] ++ [.ref t6, .ref t7, .ref t8, .ref t9, .ref tc])) kn
    have f_nn := hP_ux.at_p kn
    have e_nn : (upd Hx22 nn (.lst ([.non, .ref ta, .ref tb, .str (Txt.join "" (cs.map ch)), .ref dd, .int 0, .ref t1, .ref t2, .ref t3, .ref t4, .ref t5] ++ [.ref t6, .ref t7, .ref t8, .ref t9, .ref tc]))) nn = some (.lst ([.non, .ref ta, .ref tb, .str (Txt.join "" (cs.map ch)), .ref dd, .int 0, .ref t1, .ref t2, .ref t3, .ref t4, .ref t5] ++ [.ref t6, .ref t7, .ref t8, .ref t9, .ref tc])) := upd_same
    have hP_nn := hP_ux.same x_nn
    have g_nn := (ne_of_none bD kn).symm
    generalize upd Hx22 nn (.lst ([.non, .ref ta, .ref tb, .str (Txt.join "" (cs.map ch)), .ref dd, .int 0, .ref t1, .ref t2, .ref t3, .ref t4, .ref t5] ++ [.ref t6, .ref t7, .ref t8, .ref t9, .ref tc])) = Hx23 at x_nn e_nn hP_nn ⊢
    replace b0 := x_nn _ _ b0
    replace bD := x_nn _ _ bD
    replace e_ta := x_nn _ _ e_ta
    replace e_tb := x_nn _ _ e_tb
    replace e_dd := x_nn _ _ e_dd
    replace e_t1 := x_nn _ _ e_t1
    replace e_u2 := x_nn _ _ e_u2
    replace e_t2 := x_nn _ _ e_t2
    replace e_u3 := x_nn _ _ e_u3
    replace e_t3 := x_nn _ _ e_t3
    replace e_u4 := x_nn _ _ e_u4
    replace e_t4 := x_nn _ _ e_t4
    replace e_t5 := x_nn _ _ e_t5
    replace e_mm := x_nn _ _ e_mm
    replace e_u6 := x_nn _ _ e_u6
    replace e_t6 := x_nn _ _ e_t6
    replace e_u7 := x_nn _ _ e_u7
    replace e_t7 := x_nn _ _ e_t7
    replace e_t8 := x_nn _ _ e_t8
    replace e_v9 := x_nn _ _ e_v9
    replace e_u9 := x_nn _ _ e_u9
    replace e_t9 := x_nn _ _ e_t9
    replace e_tc := x_nn _ _ e_tc
    replace e_ux := x_nn _ _ e_ux
    have s_nn := s_ux.trans x_nn
    have one : ∀ {t : Addr} {x : V} {dx : D}, Hx23 t = some (.lst (cs.map chV ++ [x])) → t ≠ p → t ≠ D0 → Dt K (SL.off (SL.off Hx23 p) D0) x dx → ∃ d, Dt K (SL.off (SL.off Hx23 p) D0) (.ref t) d := fun e f g h => dt_lst2 e f g (DtAll.append (.cons h .nil) (dts_ch cs)) (by rw [List.length_append]; show _ + 1 ≤ _; omega)
    have hall : ∀ v ∈ ([V.non, .ref ta, .ref tb, .str (Txt.join "" (cs.map ch)), .ref dd, .int 0, .ref t1, .ref t2, .ref t3, .ref t4, .ref t5] ++ [.ref t6, .ref t7, .ref t8, .ref t9, .ref tc] : List V), ∃ x, Dt K (SL.off (SL.off Hx23 p) D0) v x := by
      simp only [List.cons_append, List.nil_append, List.forall_mem_cons]
      refine ⟨⟨_, .non⟩, ⟨_, .tup (SqT.of (by rw [off_ne g_ta, off_ne f_ta.1]; exact e_ta)) .nil (show 0 ≤ 100000 by decide)⟩, dt_lst2 e_tb f_tb.1 g_tb .nil (show 0 ≤ 100000 by decide), ⟨_, .str _ (by rw [join_len]; omega)⟩, dt_dic2 e_dd f_dd.1 g_dd, ⟨_, .int 0⟩, dt_lst2 e_t1 f_t1.1 g_t1 (DtAll.append (dts_ch cs) (dts_ch cs)) (by rw [List.length_append]; omega),
        one e_t2 f_t2.1 g_t2 (.str _ (by decide)), one e_t3 f_t3.1 g_t3 .non, one e_t4 f_t4.1 g_t4 (.str _ (by decide)), ?_, one e_t6 f_t6.1 g_t6 (.str _ (by decide)), one e_t7 f_t7.1 g_t7 (.int 0), dt_lst2 e_t8 f_t8.1 g_t8 (dts_ch _) (by decide +kernel), ?_, dt_lst2 e_tc f_tc.1 g_tc (.cons (.bl true) .nil) (show 1 ≤ 100000 by decide), fun _ z => nomatch z⟩
      · obtain ⟨x5, h5⟩ := dt_lst2 (K := K) b0 nsp nsD (dts_ch cs) (by omega)
        exact dt_lst2 e_t5 f_t5.1 g_t5 (.cons h5 .nil) (show 1 ≤ 100000 by decide)
      · refine dt_lst2 e_t9 f_t9.1 g_t9 (DtAll.append (.cons (.str "0" (by decide)) .nil) (dts_str ys fun y hy => ?_)) ?_
        · obtain ⟨c, _, rfl⟩ := List.mem_map.mp (pm.mem_iff.mp hy)
          exact (show 1 ≤ 100000 by decide)
        · rw [List.length_append, List.length_map, pm.length_eq, List.length_map]
          show _ + 1 ≤ _
          omega
    refine ⟨_, rfl, _, rfl, _, rfl, nn, _, rfl, .inl (SqL.of e_nn), p, q, 16, rfl, hP_nn, by decide, by decide, fun H' d s' hP' d0 d1 => ?_⟩
    obtain ⟨v, x, hv, hx⟩ := drawn_of (H := SL.off Hx23 p) (H' := SL.off H' p) (p := D0) (off_mono s') hall d0 d1
    exact ⟨nn, _, d, v, rfl, rfl, SqL.of (off_get s' f_nn.1 e_nn), hv, fin H' v x ((off_mono s_nn).trans s') hP' hx⟩
end

end K09
namespace K09
open PySem PySem.Spec PyProof.Rows L2 SL
section
variable {P : Program} {w : World} {K : PySem.W.Frag} {mg : Str → Option Value} {base : Heap} {cB iB cU fU cL : Addr} {fdU : FuncData} {f : Addr} {fd : FuncData}
/-! ### _law_wrong_moves -/
theorem DtAll.put {H : Hp} {v : V} {d : D} (h : Dt K H v d) : ∀ {vs : List V} {ds : List D} (i : Nat), DtAll K H vs ds → DtAll K H (vs.set i v) (ds.set i d)
  | _, _, _, .nil => .nil
  | _, _, 0, .cons _ t => .cons h t
  | _, _, i + 1, .cons q t => .cons q (DtAll.put h i t)
theorem DtAll.cutAt {H : Hp} : ∀ {vs : List V} {ds : List D} (i : Nat), DtAll K H vs ds → DtAll K H (vs.eraseIdx i) (ds.eraseIdx i)
  | _, _, _, .nil => .nil
  | _, _, 0, .cons _ t => t
  | _, _, i + 1, .cons q t => .cons q (DtAll.cutAt i t)
theorem DtAll.times {H : Hp} {vs : List V} {ds : List D} (h : DtAll K H vs ds) : ∀ n : Nat, DtAll K H (List.replicate n vs).flatten (List.replicate n ds).flatten
  | 0 => .nil
  | n + 1 => by
    rw [List.replicate_succ, List.replicate_succ, List.flatten_cons, List.flatten_cons]
    exact DtAll.append (DtAll.times h n) h
theorem dt_in {G : Hp} {t : Addr} {vs : List V} {ds : List D} (e : G t = some (.lst vs)) (k : DtAll K G vs ds) (z : vs.length ≤ 100000) : ∃ d, Dt K G (.ref t) d := ⟨_, .lst (SqL.of e) k (by rw [← DtAll.length k]; exact z)⟩
/-- lines, but for what stands at a -/
theorem lines_dt {G G' : Hp} {a : Addr} {d : D} (k : ∀ b o, b ≠ a → G b = some o → G' b = some o) (h : Dt K G' (.ref a) d) : ∀ {ws : List V} {ls : List (List Int)}, LinesAt G ws ls → (∀ l ∈ ls, l.length ≤ 1000) → ∃ ds, DtAll K G' ws ds
  | _, _, .nil, _ => ⟨[], .nil⟩
  | _, _, .cons (b := l) ⟨b, e, q⟩ t, z => by
    obtain ⟨ds, hd⟩ := lines_dt k h t fun l hl => z l (List.mem_cons_of_mem _ hl)
    subst e
    by_cases c : b = a
    · rw [c]
      exact ⟨_, .cons h hd⟩
    · obtain ⟨x, hx⟩ := dt_in (K := K) (k b _ c q) (dts_int l) (by rw [List.length_map]; have := z l (List.mem_cons_self ..); omega)
      exact ⟨_, .cons hx hd⟩
theorem lines_all {G : Hp} : ∀ {ws : List V} {ls : List (List Int)}, LinesAt G ws ls → (∀ l ∈ ls, l.length ≤ 1000) → ∃ ds, DtAll K G ws ds
  | _, _, .nil, _ => ⟨[], .nil⟩
  | _, _, .cons (b := l) ⟨b, e, q⟩ t, z => by
    obtain ⟨ds, hd⟩ := lines_all t fun l hl => z l (List.mem_cons_of_mem _ hl)
    subst e
    obtain ⟨x, hx⟩ := dt_in (K := K) q (dts_int l) (by rw [List.length_map]; have := z l (List.mem_cons_self ..); omega)
    exact ⟨_, .cons hx hd⟩
theorem LinesAt.get {G : Hp} : ∀ {ws : List V} {ls : List (List Int)} {i : Nat} {v : V}, LinesAt G ws ls → ws[i]? = some v → ∃ l a, ls[i]? = some l ∧ v = .ref a ∧ G a = some (.lst (l.map V.int))
  | _, _, _, _, .nil, h => by simp at h
  | _, _, 0, _, .cons (b := l) ⟨a, e, q⟩ _, h => by
    simp at h
    subst h
    exact ⟨l, a, rfl, e, q⟩
  | _, _, i + 1, _, .cons _ t, h => by
    obtain ⟨l, a, h1, h2⟩ := LinesAt.get (i := i) t (by simpa using h)
    exact ⟨l, a, by simpa using h1, h2⟩
theorem flat_len {α : Type} (xs : List α) : ∀ n : Nat, (List.replicate n xs).flatten.length = n * xs.length
  | 0 => by rw [Nat.zero_mul]; rfl
  | n + 1 => by
    rw [List.replicate_succ, List.flatten_cons, List.length_append, flat_len xs n, Nat.add_mul, Nat.one_mul, Nat.add_comm]
theorem same3 {H : Hp} {p wl : Addr} {o : HO} : Same (SL.off (SL.off H p) wl) (SL.off (upd H wl o) p) := fun b u e => by
  by_cases hb : b = wl
  · rw [hb, off_at] at e
    cases e
  · rw [off_ne hb] at e
    by_cases hp : b = p
    · rw [hp, off_at] at e
      cases e
    · rw [off_ne hp] at e ⊢
      rw [upd_ne hb]
      exact e
theorem same4 {A B : Hp} {p D0 D : Addr} {o : HO} (s : Same A B) : Same (SL.off (SL.off (SL.off A p) D0) D) (SL.off (SL.off (SL.off (upd B D o) p) D0) D) := fun b u e => by
  have n1 : b ≠ D := fun z => by rw [z, off_at] at e; cases e
  rw [off_ne n1] at e ⊢
  have n2 : b ≠ D0 := fun z => by rw [z, off_at] at e; cases e
  rw [off_ne n2] at e ⊢
  have n3 : b ≠ p := fun z => by rw [z, off_at] at e; cases e
  rw [off_ne n3] at e ⊢
  rw [upd_ne n1]
  exact s _ _ e
theorem same5 {H : Hp} {p D0 wl : Addr} {o : HO} : Same (SL.off (SL.off (SL.off H p) D0) wl) (SL.off (SL.off (upd H wl o) p) D0) := fun b u e => by
  have n1 : b ≠ wl := fun z => by rw [z, off_at] at e; cases e
  rw [off_ne n1] at e
  have n2 : b ≠ D0 := fun z => by rw [z, off_at] at e; cases e
  rw [off_ne n2] at e ⊢
  have n3 : b ≠ p := fun z => by rw [z, off_at] at e; cases e
  rw [off_ne n3] at e ⊢
  rw [upd_ne n1]
  exact e
theorem sc_law_wrong_moves : FnScope ["pool", "moves", "worse", "at", "pick", "line"] ["pool", "moves"] (defScope s_law_wrong_moves) := ⟨rfl, rfl, rfl, by decide +kernel, rfl, by decide +kernel, by decide +kernel⟩
def spWMoves (K : PySem.W.Frag) : Sp := fun vs H Q _ => ∃ (p q mv D0 : Addr) (o : HO) (ws : List V) (ls : List (List Int)), vs = [.ref p, .ref mv] ∧ H D0 = some o ∧ D0 ≠ p ∧ PoolAt H p q ∧ mv ≠ p ∧ H mv = some (.lst ws) ∧ LinesAt (SL.off (SL.off H p) D0) ws ls ∧ 1 ≤ ls.length ∧ ls.length ≤ 40 ∧ (∀ l ∈ ls, 1 ≤ l.length ∧ l.length ≤ 1000) ∧
  ∀ H' v d, Same (SL.off H p) (SL.off H' p) → PoolAt H' p q → Dt K (SL.off (SL.off H' p) D0) v d → Q v H'
theorem ok_law_wrong_moves (M : MF P w K mg cB iB cU fU cL) (F_law_draw : FnC P w K mg base CX0 1 "_law_draw" ["pool", "many"] spDraw) (F : Fun K "_law_wrong_moves" "_law_wrong_moves" s_law_wrong_moves f fd) : FnOk P w K mg base CX0 3 f fd ["pool", "moves"] (spWMoves K) := by
  refine F.ok (k := 2) sc_law_wrong_moves (fun vs H Q E h => ?_) (fun cdv A outer s H vs Q E hr h => ?_)
  · obtain ⟨p, q, mv, D0, o, ws, ls, rfl, _⟩ := h
    rfl
  · obtain ⟨p, q, mv, D0, oD, ws, ls, rfl, bD0, nD0p, hP0, nmp, bM0, hL0, z1, z40, zl, fin⟩ := h
    refine ⟨_, (Evl.pss_cut (ps_setLc (i := 2) (own := [("line", 5)]) (tt := tYes) rfl sc_law_wrong_moves.nd rfl rfl (sw_true rfl rfl rfl (by decide +kernel)) (pi_list (pv 1)) (blkOk_by (N := ["pool", "moves", "worse", "at", "pick", "line"]) (sc := defScope s_law_wrong_moves) (by decide +kernel)) (fun _ _ _ _ _ => (pg_name (i := 5) sc_law_wrong_moves.nd rfl (Or.inl rfl))) (fun _ _ _ _ _ => pts_nil) (fun _ _ _ _ _ => (pe_callTy (call_listOfK K) (by rfl) M.m_list (by decide +kernel) (pa_cons (pv 5) pa_nil))))
      (Evl.pss_cut (ps_set (i := 3) sc_law_wrong_moves.nd rfl (Or.inl rfl) (pe_f F_law_draw hr (by omega) pass0 (pa_cons (pv 0) (pa_cons (pe_callB call_len_seq (by rfl) M.m_len (by decide +kernel) (pa_cons (pv 2) pa_nil)) pa_nil))))
      (Evl.pss_cut (ps_set (i := 4) sc_law_wrong_moves.nd rfl (Or.inl rfl) (pe_f F_law_draw hr (by omega) pass0 (pa_cons (pv 0) (pa_cons pe_int pa_nil))))
      (pss_cons (ps_if (pt_cmpR op_eq (pv 4) pe_int (nomark _))
      (pss_one (ps_ret (pe_ix ix_list (pe_lst (pa_cons pe_non (pa_cons (pe_tup pa_nil) (pa_cons (pe_lst pa_nil) (pa_cons pe_dnewK (pa_cons pe_int (pa_cons pe_str (pa_cons (pe_op op_rep (pv 1) pe_int) (pa_cons (pe_lst (pa_cons pe_non pa_nil)) (pa_cons (pe_lst (pa_cons (pe_lst pa_nil) pa_nil)) pa_nil)))))))))) (pe_f F_law_draw hr (by omega) pass0 (pa_cons (pv 0) (pa_cons pe_int pa_nil))) (fun _ _ => rfl)))) pss_nil)
      (pss_cons (ps_if (pt_cmpR op_eq (pv 4) pe_int (nomark _))
      (pss_one (ps_asg (pe_ix ix_list (pe_lst (pa_cons pe_non (pa_cons (pe_lst pa_nil) (pa_cons (pe_op op_cat (pe_ix ix_list (pv 2) (pv 3) (fun _ _ => rfl)) (pe_lst (pa_cons pe_int pa_nil))) (pa_cons (pe_slice sl_list (pe_ix ix_list (pv 2) (pv 3) (fun _ _ => rfl)) (po_some pe_int) po_none) (pa_cons pe_dnewK (pa_cons pe_str (pa_cons pe_int pa_nil)))))))) (pe_f F_law_draw hr (by omega) pass0 (pa_cons (pv 0) (pa_cons pe_int pa_nil))) (fun _ _ => rfl)) (pg_sub (pv 2) (pv 3) set_list))) (pss_one (ps_if (pt_cmpR op_eq (pv 4) pe_int (nomark _))
      (pss_one (ps_asg (pe_ix ix_list (pe_lst (pa_cons (pe_callB call_len_seq (by rfl) M.m_len (by decide +kernel) (pa_cons (pv 1) pa_nil)) (pa_cons (pe_un un_neg pe_int) (pa_cons pe_non (pa_cons pe_bl (pa_cons pe_str (pa_cons (pe_tup (pa_cons pe_int pa_nil)) (pa_cons (pe_op op_pow pe_int pe_int) pa_nil)))))))) (pe_f F_law_draw hr (by omega) pass0 (pa_cons (pv 0) (pa_cons pe_int pa_nil))) (fun _ _ => rfl)) (pg_sub (pe_ix ix_list (pv 2) (pv 3) (fun _ _ => rfl)) pe_int set_list))) (pss_one (ps_if (pt_cmpR op_eq (pv 4) pe_int (nomark _))
      (pss_one (ps_expr (pe_bm PySem.F.plainAttrs_list PySem.F.slot_list_pop PySem.F.type_list_pop mt_popAt (pv 2) (pa_cons (pv 3) pa_nil)))) (pss_one (ps_expr (pe_bm PySem.F.plainAttrs_list PySem.F.slot_list_append PySem.F.type_list_append mt_append (pv 2) (pa_cons (pe_callTy call_tuple_of (by rfl) M.m_tuple (by decide +kernel) (pa_cons (pe_ix ix_list (pv 2) (pv 3) (fun _ _ => rfl)) pa_nil)) pa_nil)))))))))
      (pss_one (ps_ret (pv 2)))))))), ?_⟩
    have lw : ws.length = ls.length := Paired.length hL0
    have zl2 : ∀ l ∈ ls, l.length ≤ 1000 := fun l hl => (zl l hl).2
    -- worse
    refine ⟨fun σ H' => ∃ wl ws2, σ = [some (.ref p), some (.ref mv), some (.ref wl), none, none, none] ∧ PoolAt H' p q ∧ Same H H' ∧ wl ≠ p ∧ H wl = none ∧ H' wl = some (.lst ws2) ∧ LinesAt (SL.off (SL.off (SL.off H' p) D0) wl) ws2 ls ∧ ∀ a, V.ref a ∈ ws2 → H a = none, ?_, ?_⟩
    · refine ⟨_, rfl, mv, rfl, ⟨_, SqL.of bM0⟩, fun D nD => ?_⟩
      obtain ⟨nDp, nDq⟩ := hP0.at_p nD
      refine lc_list (K := K) (a := mv) (xs := ws) (fun i H' => Same H H' ∧ ∃ ws2, H' D = some (.lst ws2) ∧ ws2.length = i ∧ LinesAt (SL.off (SL.off (SL.off H' p) D0) D) ws2 (ls.take i) ∧ ∀ a, V.ref a ∈ ws2 → H a = none) ⟨same_upd nD, [], upd_same, rfl, .nil, fun _ z => nomatch z⟩ (fun i H' _ z => SqL.of (z.1 _ _ bM0)) (fun i y H' hy z => ?_) (fun H' z => ?_)
      · obtain ⟨s1, ws2, eD, l2, hL, fr⟩ := z
        obtain ⟨l, a, hl, rfl, ha⟩ := LinesAt.get hL0 hy
        have ha1 : H' a = some (.lst (l.map V.int)) := s1 _ _ (off_same H p _ _ (off_same _ D0 _ _ ha))
        have hi := (List.getElem?_eq_some_iff.mp hy).1
        refine ⟨rfl, lc_yes ⟨_, rfl, a, _, rfl, .inl (SqL.of ha1), fun c nc => ?_⟩⟩
        have nDc : D ≠ c := ne_of_none eD nc
        have ncp : c ≠ p := ((hP0.same s1).at_p nc).1
        have nD0c : D0 ≠ c := ne_of_none (s1 _ _ bD0) nc
        have sc := same_upd (o := .lst (l.map V.int)) nc
        refine ⟨ws2, sc _ _ eD, lineN (by omega), same_put (s1.trans sc) nD, ws2 ++ [.ref c], upd_same, by rw [List.length_append, l2]; rfl, ?_, fun b hb => ?_⟩
        · rw [take_more hl]
          refine LinesAt.snoc ?_ (hL.same (same4 sc))
          rw [off_ne nDc.symm, off_ne nD0c.symm, off_ne ncp, upd_ne nDc.symm, upd_same]
        · rcases List.mem_append.mp hb with hb | hb
          · exact fr b hb
          · rw [List.mem_singleton] at hb
            cases hb
            exact s1.free nc
      · obtain ⟨s1, ws2, eD, l2, hL, fr⟩ := z
        rw [List.take_of_length_le (by omega)] at hL
        exact ⟨D, ws2, rfl, hP0.same s1, s1, nDp, nD, eD, hL, fr⟩
    rintro _ H1 ⟨wl, ws2, rfl, hP1, s1, nwp, nwH, bW1, hL1, fr⟩
    have lw2 : ws2.length = ls.length := Paired.length hL1
    -- at, pick
    refine ⟨fun σ H' => ∃ k : Nat, σ = [some (.ref p), some (.ref mv), some (.ref wl), some (.int (k : Int)), none, none] ∧ PoolAt H' p q ∧ Same (SL.off H1 p) (SL.off H' p) ∧ k < ls.length, ?_, ?_⟩
    · refine ⟨_, rfl, _, rfl, wl, ws2, rfl, .inl (SqL.of bW1), p, q, _, rfl, hP1, by omega, by omega, fun H' d s' hP d0 d1 => ⟨d.toNat, ?_, hP, s', by omega⟩⟩
      rw [show (d.toNat : Int) = d by omega]
      rfl
    rintro _ H2 ⟨k, rfl, hP2, s2, hk⟩
    refine ⟨fun σ H' => ∃ c : Int, σ = [some (.ref p), some (.ref mv), some (.ref wl), some (.int (k : Int)), some (.int c), none] ∧ PoolAt H' p q ∧ Same (SL.off H1 p) (SL.off H' p), ?_, ?_⟩
    · exact ⟨_, rfl, p, q, 5, rfl, hP2, by decide, by decide, fun H' d s' hP d0 d1 => ⟨d, rfl, hP, s2.trans s'⟩⟩
    rintro _ HH ⟨c, rfl, hP, s3⟩
    clear hP2 s2
    have sA := (off_mono (p := p) s1).trans s3
    have bM := off_get sA nmp bM0
    have bW := off_get s3 nwp bW1
    have bD := off_get sA nD0p bD0
    have nwD : wl ≠ D0 := (ne_of_none bD0 nwH).symm
    have hL : LinesAt (SL.off (SL.off (SL.off HH p) D0) wl) ws2 ls := hL1.same (off_mono (off_mono s3))
    obtain ⟨y, hy⟩ : ∃ y, ws2[k]? = some y := ⟨ws2[k]'(by omega), List.getElem?_eq_getElem (by omega)⟩
    obtain ⟨l, a, hl, rfl, ha⟩ := LinesAt.get hL hy
    have hA := hy
    have naw : a ≠ wl := fun z => by rw [z, off_at] at ha; cases ha
    rw [off_ne naw] at ha
    have naD : a ≠ D0 := fun z => by rw [z, off_at] at ha; cases ha
    rw [off_ne naD] at ha
    have nap : a ≠ p := fun z => by rw [z, off_at] at ha; cases ha
    have bA : HH a = some (.lst (l.map V.int)) := by rw [off_ne nap] at ha; exact ha
    have naH := fr a (List.mem_of_getElem? hy)
    have zL := zl l (List.mem_of_getElem? hl)
    have lenA : (l.map V.int).length + [V.int 0].length ≤ sizeLine := Nat.le_of_lt (lineN (show (l.map V.int).length + 1 ≤ 100000 by rw [List.length_map]; omega))
    have len41 : ws.length * (41 : Int).toNat ≤ sizeLine := Nat.le_of_lt (lineN (show ws.length * 41 ≤ 100000 by omega))
    -- the answer, when the lists are as they were
    have done : ∀ H' v d, Same (SL.off HH p) (SL.off H' p) → PoolAt H' p q → Dt K (SL.off (SL.off H' p) D0) v d → Q v H' := fun H' v d s' hP' h => fin H' v d (sA.trans s') hP' h
    refine ⟨_, rfl, rfl, _, rfl, ite2 (fun _ => ?_) fun _ => ?_⟩
    · -- another thing
      obtain ⟨dl, hdl⟩ := lines_all (K := K) hL0 zl2
      clear hy hl ha hA
      revert hdl
      intro hdl
      refine ⟨few (n := 0) (by decide), fun ta ma => ?_⟩
      have x_ta := same_upd (o := .tup []) ma
      have f_ta := hP.at_p ma
      have e_ta : (upd HH ta (.tup [])) ta = some (.tup []) := upd_same
      have hP_ta := hP.same x_ta
      have g_ta := (ne_of_none bW ma).symm
      have h_ta := (ne_of_none bD ma).symm
      generalize upd HH ta (.tup []) = HHx1 at x_ta e_ta hP_ta ⊢
      replace bM := x_ta _ _ bM
      replace bW := x_ta _ _ bW
      replace bD := x_ta _ _ bD
      have s_ta := x_ta
      refine ⟨few (n := 0) (by decide), fun tb mb => ?_⟩
      have x_tb := same_upd (o := .lst []) mb
      have f_tb := hP_ta.at_p mb
      have e_tb : (upd HHx1 tb (.lst [])) tb = some (.lst []) := upd_same
      have hP_tb := hP_ta.same x_tb
      have g_tb := (ne_of_none bW mb).symm
      have h_tb := (ne_of_none bD mb).symm
      generalize upd HHx1 tb (.lst []) = HHx2 at x_tb e_tb hP_tb ⊢
      replace bM := x_tb _ _ bM
      replace bW := x_tb _ _ bW
      replace bD := x_tb _ _ bD
      replace e_ta := x_tb _ _ e_ta
      have s_tb := s_ta.trans x_tb
      refine fun dd nd => ?_
      have x_dd := same_upd (o := .dK []) nd
      have f_dd := hP_tb.at_p nd
      have e_dd : (upd HHx2 dd (.dK [])) dd = some (.dK []) := upd_same
      have hP_dd := hP_tb.same x_dd
      have g_dd := (ne_of_none bW nd).symm
      have h_dd := (ne_of_none bD nd).symm
      generalize upd HHx2 dd (.dK []) = HHx3 at x_dd e_dd hP_dd ⊢
      replace bM := x_dd _ _ bM
      replace bW := x_dd _ _ bW
      replace bD := x_dd _ _ bD
      replace e_ta := x_dd _ _ e_ta
      replace e_tb := x_dd _ _ e_tb
      have s_dd := s_tb.trans x_dd
      refine ⟨_, rfl, mv, 41, ws, rfl, rfl, bM, by decide, by decide, len41, fun tr mr => ?_⟩
      have x_tr := same_upd (o := .lst (List.replicate (41 : Int).toNat ws).flatten) mr
      have f_tr := hP_dd.at_p mr
      have e_tr : (upd HHx3 tr (.lst (List.replicate (41 : Int).toNat ws).flatten)) tr = some (.lst (List.replicate (41 : Int).toNat ws).flatten) := upd_same
      have hP_tr := hP_dd.same x_tr
      have g_tr := (ne_of_none bW mr).symm
      have h_tr := (ne_of_none bD mr).symm
      generalize upd HHx3 tr (.lst (List.replicate (41 : Int).toNat ws).flatten) = HHx4 at x_tr e_tr hP_tr ⊢
      replace bM := x_tr _ _ bM
      replace bW := x_tr _ _ bW
      replace bD := x_tr _ _ bD
      replace e_ta := x_tr _ _ e_ta
      replace e_tb := x_tr _ _ e_tb
      replace e_dd := x_tr _ _ e_dd
      have s_tr := s_dd.trans x_tr
      refine ⟨few (n := 1) (by decide), fun tn mn => ?_⟩
      have x_tn := same_upd (o := .lst [.non]) mn
      have f_tn := hP_tr.at_p mn
      have e_tn : (upd HHx4 tn (.lst [.non])) tn = some (.lst [.non]) := upd_same
      have hP_tn := hP_tr.same x_tn
      have g_tn := (ne_of_none bW mn).symm
      have h_tn := (ne_of_none bD mn).symm
      generalize upd HHx4 tn (.lst [.non]) = HHx5 at x_tn e_tn hP_tn ⊢
      replace bM := x_tn _ _ bM
      replace bW := x_tn _ _ bW
      replace bD := x_tn _ _ bD
      replace e_ta := x_tn _ _ e_ta
      replace e_tb := x_tn _ _ e_tb
      replace e_dd := x_tn _ _ e_dd
      replace e_tr := x_tn _ _ e_tr
      have s_tn := s_tr.trans x_tn
      refine ⟨few (n := 0) (by decide), fun ue we => ?_⟩
      have x_ue := same_upd (o := .lst []) we
      have f_ue := hP_tn.at_p we
      have e_ue : (upd HHx5 ue (.lst [])) ue = some (.lst []) := upd_same
      have hP_ue := hP_tn.same x_ue
      have g_ue := (ne_of_none bW we).symm
      have h_ue := (ne_of_none bD we).symm
      generalize upd HHx5 ue (.lst []) = HHx6 at x_ue e_ue hP_ue ⊢
      replace bM := x_ue _ _ bM
      replace bW := x_ue _ _ bW
      replace bD := x_ue _ _ bD
      replace e_ta := x_ue _ _ e_ta
      replace e_tb := x_ue _ _ e_tb
      replace e_dd := x_ue _ _ e_dd
      replace e_tr := x_ue _ _ e_tr
      replace e_tn := x_ue _ _ e_tn
      have s_ue := s_tn.trans x_ue
      refine ⟨few (n := 1) (by decide), fun te me => ?_⟩
      have x_te := same_upd (o := .lst [.ref ue]) me
      have f_te := hP_ue.at_p me
      have e_te : (upd HHx6 te (.lst [.ref ue])) te = some (.lst [.ref ue]) := upd_same
      have hP_te := hP_ue.same x_te
      have g_te := (ne_of_none bW me).symm
      have h_te := (ne_of_none bD me).symm
      generalize upd HHx6 te (.lst [.ref ue]) = HHx7 at x_te e_te hP_te ⊢
      replace bM := x_te _ _ bM
      replace bW := x_te _ _ bW
      replace bD := x_te _ _ bD
      replace e_ta := x_te _ _ e_ta
      replace e_tb := x_te _ _ e_tb
      replace e_dd := x_te _ _ e_dd
      replace e_tr := x_te _ _ e_tr
      replace e_tn := x_te _ _ e_tn
      replace e_ue := x_te _ _ e_ue
      have s_te := s_ue.trans x_te
      refine ⟨few (n := 9) (by decide), fun mm nm => ?_⟩
      have x_mm := same_upd (o := .lst [.non, .ref ta, .ref tb, .ref dd, .int 0, .str "a", .ref tr, .ref tn, .ref te]) nm
      have f_mm := hP_te.at_p nm
      have e_mm : (upd HHx7 mm (.lst [.non, .ref ta, .ref tb, .ref dd, .int 0, .str "a", .ref tr, .ref tn, .ref te])) mm = some (.lst [.non, .ref ta, .ref tb, .ref dd, .int 0, .str "a", .ref tr, .ref tn, .ref te]) := upd_same
      have hP_mm := hP_te.same x_mm
      have g_mm := (ne_of_none bW nm).symm
      have h_mm := (ne_of_none bD nm).symm
      generalize upd HHx7 mm (.lst [.non, .ref ta, .ref tb, .ref dd, .int 0, .str "a", .ref tr, .ref tn, .ref te]) = HHx8 at x_mm e_mm hP_mm ⊢
      replace bM := x_mm _ _ bM
      replace bW := x_mm _ _ bW
      replace bD := x_mm _ _ bD
      replace e_ta := x_mm _ _ e_ta
      replace e_tb := x_mm _ _ e_tb
      replace e_dd := x_mm _ _ e_dd
      replace e_tr := x_mm _ _ e_tr
      replace e_tn := x_mm _ _ e_tn
      replace e_ue := x_mm _ _ e_ue
      replace e_te := x_mm _ _ e_te
      have s_mm := s_te.trans x_mm
      have hdl2 := DtAll.same (off_mono (sA.trans (off_mono s_mm))) hdl
      have hall : ∀ v ∈ [V.non, .ref ta, .ref tb, .ref dd, .int 0, .str "a", .ref tr, .ref tn, .ref te], ∃ x, Dt K (SL.off (SL.off HHx8 p) D0) v x := by
        simp only [List.forall_mem_cons]
        refine ⟨⟨_, .non⟩, ⟨_, .tup (SqT.of (by rw [off_ne h_ta, off_ne f_ta.1]; exact e_ta)) .nil (show 0 ≤ 100000 by decide)⟩, dt_lst2 e_tb f_tb.1 h_tb .nil (show 0 ≤ 100000 by decide), dt_dic2 e_dd f_dd.1 h_dd, ⟨_, .int 0⟩, ⟨_, .str _ (by decide)⟩, dt_lst2 e_tr f_tr.1 h_tr (DtAll.times hdl2 _) ?_, dt_lst2 e_tn f_tn.1 h_tn (.cons .non .nil) (show 1 ≤ 100000 by decide), ?_, fun _ z => nomatch z⟩
        · rw [flat_len]
          show 41 * ws.length ≤ 100000
          omega
        · obtain ⟨x, hx⟩ := dt_lst2 (K := K) e_ue f_ue.1 h_ue .nil (show 0 ≤ 100000 by decide)
          exact dt_lst2 e_te f_te.1 h_te (.cons hx .nil) (show 1 ≤ 100000 by decide)
      refine ⟨_, rfl, p, q, 9, rfl, hP_mm, by decide, by decide, fun H' d s' hP' d0 d1 => ?_⟩
      obtain ⟨v, x, hv, hx⟩ := drawn_of (H := SL.off HHx8 p) (H' := SL.off H' p) (p := D0) (off_mono s') hall d0 d1
      exact ⟨mm, _, d, v, rfl, rfl, SqL.of (off_get s' f_mm.1 e_mm), hv, done H' v x ((off_mono s_mm).trans s') hP' hx⟩
    obtain ⟨_, nwq⟩ := hP0.at_p nwH
    obtain ⟨_, naq⟩ := hP0.at_p naH
    have lsn : ∀ l ∈ ls, l.length ≤ 1000 := zl2
    have endW : ∀ H' vs3, Same (SL.off HH p) (SL.off H' p) → PoolAt H' p q → (∃ ds, DtAll K (SL.off (SL.off (SL.off H' p) D0) wl) vs3 ds) → vs3.length ≤ 1000 → Q (.ref wl) (upd H' wl (.lst vs3)) := fun H' vs3 s' hP' h z => by
      obtain ⟨ds, hd⟩ := h
      have hd2 := DtAll.same (same5 (o := .lst vs3)) hd
      exact fin _ _ _ (off_put2 (sA.trans s') nwH) (hP'.put nwp nwq) (.lst (SqL.of (by rw [off_ne nwD, off_ne nwp, upd_same])) hd2 (by rw [← DtAll.length hd]; omega))
    refine ⟨_, rfl, rfl, _, rfl, ite2 (fun _ => ?_) fun _ => ?_⟩
    · -- another line
        refine ⟨few (n := 0) (by decide), fun tb mb => ?_⟩
        have x_tb := same_upd (o := .lst []) mb
        have f_tb := hP.at_p mb
        have e_tb : (upd HH tb (.lst [])) tb = some (.lst []) := upd_same
        have hP_tb := hP.same x_tb
        have g_tb := (ne_of_none bW mb).symm
        have h_tb := (ne_of_none bD mb).symm
        generalize upd HH tb (.lst []) = HHx1 at x_tb e_tb hP_tb ⊢
        replace bW := x_tb _ _ bW
        replace bA := x_tb _ _ bA
        replace bD := x_tb _ _ bD
        have s_tb := x_tb
        refine ⟨_, rfl, _, rfl, wl, ws2, _, .ref a, rfl, rfl, SqL.of bW, atI_nat hA, few (n := 1) (by decide), fun u1 w1 => ?_⟩
        have x_u1 := same_upd (o := .lst [.int 0]) w1
        have f_u1 := hP_tb.at_p w1
        have e_u1 : (upd HHx1 u1 (.lst [.int 0])) u1 = some (.lst [.int 0]) := upd_same
        have hP_u1 := hP_tb.same x_u1
        have g_u1 := (ne_of_none bW w1).symm
        have h_u1 := (ne_of_none bD w1).symm
        generalize upd HHx1 u1 (.lst [.int 0]) = HHx2 at x_u1 e_u1 hP_u1 ⊢
        replace bW := x_u1 _ _ bW
        replace bA := x_u1 _ _ bA
        replace bD := x_u1 _ _ bD
        replace e_tb := x_u1 _ _ e_tb
        have s_u1 := s_tb.trans x_u1
        refine ⟨a, u1, _, _, rfl, rfl, bA, e_u1, lenA, fun t1 m1 => ?_⟩
        have x_t1 := same_upd (o := .lst (l.map V.int ++ [.int 0])) m1
        have f_t1 := hP_u1.at_p m1
        have e_t1 : (upd HHx2 t1 (.lst (l.map V.int ++ [.int 0]))) t1 = some (.lst (l.map V.int ++ [.int 0])) := upd_same
        have hP_t1 := hP_u1.same x_t1
        have g_t1 := (ne_of_none bW m1).symm
        have h_t1 := (ne_of_none bD m1).symm
        generalize upd HHx2 t1 (.lst (l.map V.int ++ [.int 0])) = HHx3 at x_t1 e_t1 hP_t1 ⊢
        replace bW := x_t1 _ _ bW
        replace bA := x_t1 _ _ bA
        replace bD := x_t1 _ _ bD
        replace e_tb := x_t1 _ _ e_tb
        replace e_u1 := x_t1 _ _ e_u1
        have s_t1 := s_u1.trans x_t1
        refine ⟨_, rfl, _, rfl, wl, ws2, _, .ref a, rfl, rfl, SqL.of bW, atI_nat hA, 1, rfl, a, _, rfl, SqL.of bA, ?_⟩
        rw [cut_one]
        refine fun t2 m2 => ?_
        have x_t2 := same_upd (o := .lst ((l.map V.int).drop 1)) m2
        have f_t2 := hP_t1.at_p m2
        have e_t2 : (upd HHx3 t2 (.lst ((l.map V.int).drop 1))) t2 = some (.lst ((l.map V.int).drop 1)) := upd_same
        have hP_t2 := hP_t1.same x_t2
        have g_t2 := (ne_of_none bW m2).symm
        have h_t2 := (ne_of_none bD m2).symm
        generalize upd HHx3 t2 (.lst ((l.map V.int).drop 1)) = HHx4 at x_t2 e_t2 hP_t2 ⊢
        replace bW := x_t2 _ _ bW
        replace bA := x_t2 _ _ bA
        replace bD := x_t2 _ _ bD
        replace e_tb := x_t2 _ _ e_tb
        replace e_u1 := x_t2 _ _ e_u1
        replace e_t1 := x_t2 _ _ e_t1
        have s_t2 := s_t1.trans x_t2
        refine fun dd nd => ?_
        have x_dd := same_upd (o := .dK []) nd
        have f_dd := hP_t2.at_p nd
        have e_dd : (upd HHx4 dd (.dK [])) dd = some (.dK []) := upd_same
        have hP_dd := hP_t2.same x_dd
        have g_dd := (ne_of_none bW nd).symm
        have h_dd := (ne_of_none bD nd).symm
        generalize upd HHx4 dd (.dK []) = HHx5 at x_dd e_dd hP_dd ⊢
        replace bW := x_dd _ _ bW
        replace bA := x_dd _ _ bA
        replace bD := x_dd _ _ bD
        replace e_tb := x_dd _ _ e_tb
        replace e_u1 := x_dd _ _ e_u1
        replace e_t1 := x_dd _ _ e_t1
        replace e_t2 := x_dd _ _ e_t2
        have s_dd := s_t2.trans x_dd
        refine ⟨few (n := 7) (by decide), fun mm nm => ?_⟩
        have x_mm := same_upd (o := .lst [.non, .ref tb, .ref t1, .ref t2, .ref dd, .str "0", .int 0]) nm
        have f_mm := hP_dd.at_p nm
        have e_mm : (upd HHx5 mm (.lst [.non, .ref tb, .ref t1, .ref t2, .ref dd, .str "0", .int 0])) mm = some (.lst [.non, .ref tb, .ref t1, .ref t2, .ref dd, .str "0", .int 0]) := upd_same
        have hP_mm := hP_dd.same x_mm
        have g_mm := (ne_of_none bW nm).symm
        have h_mm := (ne_of_none bD nm).symm
        generalize upd HHx5 mm (.lst [.non, .ref tb, .ref t1, .ref t2, .ref dd, .str "0", .int 0]) = HHx6 at x_mm e_mm hP_mm ⊢
        replace bW := x_mm _ _ bW
        replace bA := x_mm _ _ bA
        replace bD := x_mm _ _ bD
        replace e_tb := x_mm _ _ e_tb
        replace e_u1 := x_mm _ _ e_u1
        replace e_t1 := x_mm _ _ e_t1
        replace e_t2 := x_mm _ _ e_t2
        replace e_dd := x_mm _ _ e_dd
        have s_mm := s_dd.trans x_mm
        have hall : ∀ v ∈ [V.non, .ref tb, .ref t1, .ref t2, .ref dd, .str "0", .int 0], ∃ x, Dt K (SL.off (SL.off (SL.off HHx6 p) D0) wl) v x := by
          have ee : ∀ {t : Addr} {o : HO}, t ≠ wl → t ≠ D0 → t ≠ p → HHx6 t = some o → SL.off (SL.off (SL.off HHx6 p) D0) wl t = some o := fun g h f e => by rw [off_ne g, off_ne h, off_ne f]; exact e
          have lmi : (l.map V.int).length ≤ 1000 := by rw [List.length_map]; exact zL.2
          simp only [List.forall_mem_cons]
          refine ⟨⟨_, .non⟩, dt_in (ee g_tb h_tb f_tb.1 e_tb) .nil (show 0 ≤ 100000 by decide), dt_in (ee g_t1 h_t1 f_t1.1 e_t1) (DtAll.append (.cons (.int 0) .nil) (dts_int l)) (by rw [List.length_append]; show _ + 1 ≤ _; omega), dt_in (ee g_t2 h_t2 f_t2.1 e_t2) (DtAll.drop 1 (dts_int l)) (by rw [List.length_drop]; omega), ⟨_, .dic (ee g_dd h_dd f_dd.1 e_dd)⟩, ⟨_, .str _ (by decide)⟩, ⟨_, .int 0⟩, fun _ z => nomatch z⟩
        refine ⟨_, rfl, p, q, 7, rfl, hP_mm, by decide, by decide, fun H' d s' hP' d0 d1 => ?_⟩
        obtain ⟨v, x, hv, hx⟩ := drawn_of (H := SL.off (SL.off HHx6 p) D0) (H' := SL.off (SL.off H' p) D0) (p := wl) (off_mono (off_mono s')) hall d0 d1
        refine ⟨mm, _, d, v, rfl, rfl, SqL.of (off_get s' f_mm.1 e_mm), hv, _, rfl, _, rfl, wl, ws2, _, k, rfl, rfl, off_get s' nwp bW, Evl.ixN_nat (by omega), _, rfl, ?_⟩
        have sH := (off_mono (p := p) s_mm).trans s'
        obtain ⟨ds, hd⟩ := lines_all (K := K) (hL.same (off_mono (off_mono sH))) lsn
        exact endW H' _ sH hP' ⟨_, DtAll.put hx k hd⟩ (by rw [List.length_set]; omega)
    refine ⟨_, rfl, rfl, _, rfl, ite2 (fun _ => ?_) fun _ => ?_⟩
    · -- another first item
        refine ⟨_, rfl, mv, ws, rfl, .inl (SqL.of bM), _, rfl, few (n := 1) (by decide), fun t1 m1 => ?_⟩
        have x_t1 := same_upd (o := .tup [.int 0]) m1
        have f_t1 := hP.at_p m1
        have e_t1 : (upd HH t1 (.tup [.int 0])) t1 = some (.tup [.int 0]) := upd_same
        have hP_t1 := hP.same x_t1
        have g_t1 := (ne_of_none bA m1).symm
        have h_t1 := (ne_of_none bD m1).symm
        generalize upd HH t1 (.tup [.int 0]) = HHx1 at x_t1 e_t1 hP_t1 ⊢
        replace bM := x_t1 _ _ bM
        replace bW := x_t1 _ _ bW
        replace bA := x_t1 _ _ bA
        replace bD := x_t1 _ _ bD
        have s_t1 := x_t1
        refine ⟨_, _, rfl, rfl, ⟨by decide, by decide, by decide⟩, few (n := 7) (by decide), fun mm nm => ?_⟩
        have x_mm := same_upd (o := .lst [.int (ws.length : Nat), .int (-1), .non, .bl true, .str "0", .ref t1, .int (10 ^ (20 : Int).toNat)]) nm
        have f_mm := hP_t1.at_p nm
        have e_mm : (upd HHx1 mm (.lst [.int (ws.length : Nat), .int (-1), .non, .bl true, .str "0", .ref t1, .int (10 ^ (20 : Int).toNat)])) mm = some (.lst [.int (ws.length : Nat), .int (-1), .non, .bl true, .str "0", .ref t1, .int (10 ^ (20 : Int).toNat)]) := upd_same
        have hP_mm := hP_t1.same x_mm
        have g_mm := (ne_of_none bA nm).symm
        have h_mm := (ne_of_none bD nm).symm
        generalize upd HHx1 mm (.lst [.int (ws.length : Nat), .int (-1), .non, .bl true, .str "0", .ref t1, .int (10 ^ (20 : Int).toNat)]) = HHx2 at x_mm e_mm hP_mm ⊢
        replace bM := x_mm _ _ bM
        replace bW := x_mm _ _ bW
        replace bA := x_mm _ _ bA
        replace bD := x_mm _ _ bD
        replace e_t1 := x_mm _ _ e_t1
        have s_mm := s_t1.trans x_mm
        have hall : ∀ v ∈ [V.int (ws.length : Nat), .int (-1), .non, .bl true, .str "0", .ref t1, .int (10 ^ (20 : Int).toNat)], ∃ x, Dt K (SL.off (SL.off (SL.off HHx2 p) D0) a) v x := by
          simp only [List.forall_mem_cons]
          refine ⟨⟨_, .int _⟩, ⟨_, .int _⟩, ⟨_, .non⟩, ⟨_, .bl _⟩, ⟨_, .str _ (by decide)⟩, ⟨_, .tup (SqT.of (by rw [off_ne g_t1, off_ne h_t1, off_ne f_t1.1]; exact e_t1)) (.cons (.int 0) .nil) (show 1 ≤ 100000 by decide)⟩, ⟨_, .int _⟩, fun _ z => nomatch z⟩
        refine ⟨_, rfl, p, q, 7, rfl, hP_mm, by decide, by decide, fun H' d s' hP' d0 d1 => ?_⟩
        obtain ⟨v, x, hv, hx⟩ := drawn_of (H := SL.off (SL.off HHx2 p) D0) (H' := SL.off (SL.off H' p) D0) (p := a) (off_mono (off_mono s')) hall d0 d1
        have bA' := off_get s' nap bA
        have bW' := off_get s' nwp bW
        refine ⟨mm, _, d, v, rfl, rfl, SqL.of (off_get s' f_mm.1 e_mm), hv, _, rfl, _, rfl, wl, ws2, _, .ref a, rfl, rfl, SqL.of bW', atI_nat hA, a, l.map V.int, 0, 0, rfl, rfl, bA', Evl.ixN_nat (j := 0) (by rw [List.length_map]; omega), _, rfl, ?_⟩
        have sH := (off_mono (p := p) s_mm).trans s'
        have hx2 := hx.same (same5 (o := .lst ((l.map V.int).set 0 v)))
        have hline : Dt K (SL.off (SL.off (upd H' a (.lst ((l.map V.int).set 0 v))) p) D0) (.ref a) _ := .lst (SqL.of (by rw [off_ne naD, off_ne nap, upd_same])) (DtAll.put hx2 0 (dts_int l)) (by rw [List.length_set, List.length_map]; omega)
        obtain ⟨ds, hd⟩ := lines_dt (a := a) (fun b o nb e => by
          have nbw : b ≠ wl := fun z => by rw [z, off_at] at e; cases e
          rw [off_ne nbw] at e
          have nbD : b ≠ D0 := fun z => by rw [z, off_at] at e; cases e
          rw [off_ne nbD] at e ⊢
          have nbp : b ≠ p := fun z => by rw [z, off_at] at e; cases e
          rw [off_ne nbp] at e ⊢
          rw [upd_ne nb]
          exact e) hline (hL.same (off_mono (off_mono sH))) lsn
        refine fin _ _ _ (off_put2 (sA.trans sH) naH) (hP'.put nap naq) (.lst (SqL.of (by rw [off_ne nwD, off_ne nwp, upd_ne naw.symm]; exact bW')) hd (by rw [← DtAll.length hd]; omega))
    obtain ⟨ds0, hd0⟩ := lines_all (K := K) hL lsn
    refine ⟨_, rfl, rfl, _, rfl, ite2 (fun _ => ?_) fun _ => ?_⟩
    · refine ⟨_, rfl, .inl ⟨rfl, _, SqL.of bW⟩, _, rfl, wl, ws2, _, k, .ref a, rfl, rfl, bW, by omega, by omega, seqIndex_of (by omega) (by omega), hy, _, rfl, ?_⟩
      exact endW HH _ (Same.refl _) hP ⟨_, DtAll.cutAt k hd0⟩ (by rw [List.length_eraseIdx]; split <;> omega)
    · refine ⟨_, rfl, .inl ⟨rfl, _, SqL.of bW⟩, _, rfl, _, rfl, wl, ws2, _, .ref a, rfl, rfl, SqL.of bW, atI_nat hA, a, l.map V.int, rfl, .inl ⟨SqL.of bA, fun t nt => ?_⟩⟩
      have st := same_upd (o := .tup (l.map V.int)) nt
      have ntw := (ne_of_none bW nt).symm
      obtain ⟨ntp, _⟩ := hP.at_p nt
      have ntD := (ne_of_none bD nt).symm
      refine ⟨wl, ws2, _, rfl, rfl, st _ _ bW, lineN (by omega), _, rfl, ?_⟩
      refine endW _ _ (off_mono st) (hP.same st) ⟨_, DtAll.append (.cons (.tup (SqT.of (by rw [off_ne ntw, off_ne ntD, off_ne ntp, upd_same])) (dts_int l) (by rw [List.length_map]; omega)) .nil) (DtAll.same (off_mono (off_mono (off_mono st))) hd0)⟩ (by rw [List.length_append]; show _ + 1 ≤ _; omega)
end

end K09
namespace K09
open PySem PySem.Spec PyProof.Rows L2 SL
section
variable {P : Program} {w : World} {K : PySem.W.Frag} {mg : Str → Option Value} {base : Heap} {cB iB cU fU cL : Addr} {fdU : FuncData} {f : Addr} {fd : FuncData}
/-! ### the law -/
theorem rising_ints : ∀ {gs : List Int}, gs.Pairwise (· < ·) → rising (gs.map D.int) = true
  | [], _ => rfl
  | [_], _ => rfl
  | a :: b :: r, h => by
    have h1 := List.pairwise_cons.mp h
    have ih := rising_ints h1.2
    have lt : ltD (.int a) (.int b) = true := decide_eq_true (h1.1 b (List.mem_cons_self ..))
    unfold rising at ih ⊢
    show (ltD (.int a) (.int b) :: steps ((b :: r).map D.int)).all id = true
    rw [List.all_cons, ih, lt]
    rfl
theorem states_ok {n : Nat} {l : List Int} (h : InStates n l) : statesOk (n : Int) (l.map D.int) = true := by
  unfold statesOk
  rw [List.all_eq_true]
  intro d hd
  obtain ⟨x, hx, rfl⟩ := List.mem_map.mp hd
  have := h x hx
  show (decide (0 ≤ x) && decide (x ≤ (n : Int) - 1)) = true
  rw [decide_eq_true this.1, decide_eq_true (by omega)]
  rfl
def signsD (cs : List Nat) : List D := cs.map fun c => D.str (ch c)
def linesD (ls : List (List Int)) : List D := ls.map fun l => D.lst (l.map D.int)
theorem lines_data {G : Hp} : ∀ {ws : List V} {ls : List (List Int)}, LinesAt G ws ls → (∀ l ∈ ls, l.length ≤ 1000) → DtAll K G ws (linesD ls)
  | _, _, .nil, _ => .nil
  | _, _, .cons (b := l) ⟨b, e, q⟩ t, z => by
    subst e
    exact .cons (.lst (SqL.of q) (dts_int l) (by rw [List.length_map]; have := z l (List.mem_cons_self ..); omega)) (lines_data t fun l hl => z l (List.mem_cons_of_mem _ hl))
theorem way_model {cs : List Nat} {ls : List (List Int)} {gs : List Int} (hs : SignsAt cs) (c1 : 1 ≤ cs.length) (c10 : cs.length ≤ 10) (l1 : 1 ≤ ls.length) (l40 : ls.length ≤ 40) (hb : ∀ l ∈ ls, l.length = cs.length ∧ InStates ls.length l) (pw : gs.Pairwise (· < ·)) (bg : InStates ls.length gs) :
    wayOf (.tup (signsD cs)) (.lst (linesD ls)) (.tup (gs.map D.int)) = "made" := by
  have e1 : (signsD cs).length = cs.length := by unfold signsD; rw [List.length_map]
  have e2 : (linesD ls).length = ls.length := by unfold linesD; rw [List.length_map]
  refine way_made (ss := signsD cs) (ms := linesD ls) ?_ rfl ?_ rfl ?_
  · rw [signsOk_yes (ds := signsD cs) rfl, e1, decide_eq_true c1, decide_eq_true c10, show (signsD cs).all (signD SG) = true from signs_ch hs.2.1, show rising (signsD cs) = true from hs.2.2]
    rfl
  · rw [movesOk_yes (ds := linesD ls) rfl, e2, decide_eq_true l1, decide_eq_true l40]
    show (linesD ls).all (lineOk (signsD cs).length ls.length) = true
    rw [List.all_eq_true]
    intro d hd
    obtain ⟨l, hl, rfl⟩ := List.mem_map.mp hd
    obtain ⟨h1, h2⟩ := hb l hl
    show (decide ((l.map D.int).length = (signsD cs).length) && statesOk ls.length (l.map D.int)) = true
    rw [states_ok h2, decide_eq_true (by rw [List.length_map, h1, e1])]
    rfl
  · rw [goodOk_yes (ds := gs.map D.int) rfl, e2, states_ok bg, rising_ints pw]
    rfl
/-- the drawn rule, its parts -/
def BaseAt (G : Hp) (sl r s2 mv gd : Addr) (cs : List Nat) (ws : List V) (ls : List (List Int)) (gs : List Int) : Prop := G sl = some (.lst (cs.map chV)) ∧ G r = some (.lst [.ref s2, .ref mv, .ref gd]) ∧ G mv = some (.lst ws) ∧ LinesAt G ws ls ∧ G gd = some (.lst (gs.map V.int))
theorem BaseAt.same {G G' : Hp} {sl r s2 mv gd : Addr} {cs : List Nat} {ws : List V} {ls : List (List Int)} {gs : List Int} (s : Same G G') (h : BaseAt G sl r s2 mv gd cs ws ls gs) : BaseAt G' sl r s2 mv gd cs ws ls gs := ⟨s _ _ h.1, s _ _ h.2.1, s _ _ h.2.2.1, h.2.2.2.1.same s, s _ _ h.2.2.2.2⟩
/-- what stands in G is at no place that G lacks -/
theorem ne_off {H : Hp} {p b : Addr} {o : HO} (e : SL.off H p b = some o) : b ≠ p := fun z => by rw [z, off_at] at e; cases e
theorem sc_law : FnScope ["script", "pool", "signs", "model", "things", "turn", "pick"] ["script"] (defScope s_law) := ⟨rfl, rfl, rfl, by decide +kernel, rfl, by decide +kernel, by decide +kernel⟩
def spLaw (K : PySem.W.Frag) : Sp := fun vs H Q _ => ∃ (a : Addr) (ns : List Int), vs = [.ref a] ∧ SqL K H a (ns.map V.int) ∧ ns.length ≤ 63 ∧ ∀ H', Q (.bl true) H'
theorem ok_law (M : MF P w K mg cB iB cU fU cL) (F_law_pool : FnC P w K mg base CX0 1 "_law_pool" ["script"] (spPool K)) (F_law_draw : FnC P w K mg base CX0 1 "_law_draw" ["pool", "many"] spDraw) (F_law_signs : FnC P w K mg base CX0 3 "_law_signs" ["pool", "many"] spLSigns)
    (F_law_rule_model : FnC P w K mg base CX0 3 "_law_rule_model" ["pool", "signs", "most"] spModel) (F_law_told : FnC P w K mg base CX0 11 "_law_told" ["signs", "moves", "good"] (spTold K)) (F_law_due : FnC P w K mg base CX0 3 "_law_due" ["signs", "moves", "good"] (spDue K))
    (F_law_wrong_signs : FnC P w K mg base CX0 3 "_law_wrong_signs" ["pool", "signs"] (spWSigns K)) (F_law_wrong_moves : FnC P w K mg base CX0 3 "_law_wrong_moves" ["pool", "moves"] (spWMoves K)) (F_law_wrong_good : FnC P w K mg base CX0 3 "_law_wrong_good" ["pool", "good", "many"] (spWGood K))
    (F : Fun K "law" "law" s_law f fd) : FnOk P w K mg base CX0 14 f fd ["script"] (spLaw K) := by
  refine F.ok (k := 13) sc_law (fun vs H Q E h => ?_) (fun cdv A outer s H vs Q E hr h => ?_)
  · obtain ⟨a, ns, rfl, _⟩ := h
    rfl
  · obtain ⟨a, ss, rfl, hS, hl, fin⟩ := h
    refine ⟨_, (Evl.pss_cut (ps_set (i := 1) sc_law.nd rfl (Or.inl rfl) (pe_f F_law_pool hr (by omega) pass0 (pa_cons (pv 0) pa_nil)))
      (Evl.pss_cut (ps_set (i := 2) sc_law.nd rfl (Or.inl rfl) (pe_f F_law_signs hr (by omega) pass0 (pa_cons (pv 1) (pa_cons (pe_ix ix_list (pe_lst (pa_cons pe_int (pa_cons pe_int (pa_cons pe_int (pa_cons pe_int (pa_cons pe_int pa_nil)))))) (pe_f F_law_draw hr (by omega) pass0 (pa_cons (pv 1) (pa_cons pe_int pa_nil))) (fun _ _ => rfl)) pa_nil))))
      (Evl.pss_cut (ps_set (i := 3) sc_law.nd rfl (Or.inl rfl) (pe_f F_law_rule_model hr (by omega) pass0 (pa_cons (pv 1) (pa_cons (pv 2) (pa_cons (pe_ix ix_list (pe_lst (pa_cons pe_int (pa_cons pe_int (pa_cons pe_int pa_nil)))) (pe_f F_law_draw hr (by omega) pass0 (pa_cons (pv 1) (pa_cons pe_int pa_nil))) (fun _ _ => rfl)) pa_nil)))))
      (Evl.pss_cut (ps_set (i := 4) sc_law.nd rfl (Or.inl rfl) (pe_lst (pa_cons (pv 2) (pa_cons (pe_ix ix_list (pv 3) pe_int (fun _ _ => rfl)) (pa_cons (pe_ix ix_list (pv 3) pe_int (fun _ _ => rfl)) pa_nil)))))
      (Evl.pss_cut (ps_if (pt_cmpR op_ne (pe_f F_law_told hr (by omega) pass0 (pa_cons (pe_callTy call_tuple_of (by rfl) M.m_tuple (by decide +kernel) (pa_cons (pv 2) pa_nil)) (pa_cons (pe_ix ix_list (pv 3) pe_int (fun _ _ => rfl)) (pa_cons (pe_callTy call_tuple_of (by rfl) M.m_tuple (by decide +kernel) (pa_cons (pe_ix ix_list (pv 3) pe_int (fun _ _ => rfl)) pa_nil)) pa_nil)))) pe_str (nomark _))
      (pss_one (ps_ret pe_bl)) pss_nil)
      (pss_cons (ps_for PassesOwn.never rfl (pi_range1 (by rfl) M.m_range (pa_cons (pe_op op_add pe_int (pe_f F_law_draw hr (by omega) pass0 (pa_cons (pv 1) (pa_cons pe_int pa_nil)))) pa_nil)) (pg_name (i := 5) sc_law.nd rfl (Or.inl rfl))
      (Evl.pss_cut (ps_set (i := 6) sc_law.nd rfl (Or.inl rfl) (pe_f F_law_draw hr (by omega) pass0 (pa_cons (pv 1) (pa_cons pe_int pa_nil))))
      (Evl.pss_cut (ps_if (pt_cmpR op_eq (pv 6) pe_int (nomark _))
      (pss_one (ps_asg (pe_f F_law_wrong_signs hr (by omega) pass0 (pa_cons (pv 1) (pa_cons (pv 2) pa_nil))) (pg_sub (pv 4) pe_int set_list))) (pss_one (ps_if (pt_cmpR op_eq (pv 6) pe_int (nomark _))
      (pss_one (ps_asg (pe_f F_law_wrong_moves hr (by omega) pass0 (pa_cons (pv 1) (pa_cons (pe_ix ix_list (pv 3) pe_int (fun _ _ => rfl)) pa_nil))) (pg_sub (pv 4) pe_int set_list))) (pss_one (ps_asg (pe_f F_law_wrong_good hr (by omega) pass0 (pa_cons (pv 1) (pa_cons (pe_ix ix_list (pv 3) pe_int (fun _ _ => rfl)) (pa_cons (pe_callB call_len_seq (by rfl) M.m_len (by decide +kernel) (pa_cons (pe_ix ix_list (pv 3) pe_int (fun _ _ => rfl)) pa_nil)) pa_nil)))) (pg_sub (pv 4) pe_int set_list))))))
      (pss_one (ps_if (pt_cmpR op_ne (pe_f F_law_told hr (by omega) pass0 (pa_cons (pe_ix ix_list (pv 4) pe_int (fun _ _ => rfl)) (pa_cons (pe_ix ix_list (pv 4) pe_int (fun _ _ => rfl)) (pa_cons (pe_ix ix_list (pv 4) pe_int (fun _ _ => rfl)) pa_nil)))) (pe_f F_law_due hr (by omega) pass0 (pa_cons (pe_ix ix_list (pv 4) pe_int (fun _ _ => rfl)) (pa_cons (pe_ix ix_list (pv 4) pe_int (fun _ _ => rfl)) (pa_cons (pe_ix ix_list (pv 4) pe_int (fun _ _ => rfl)) pa_nil)))) (nomark _))
      (pss_one (ps_ret pe_bl)) pss_nil)))))
      (pss_one (ps_ret pe_bl)))))))), ?_⟩
    -- pool
    refine ⟨fun σ H' => ∃ p q, σ = [some (.ref a), some (.ref p), none, none, none, none, none] ∧ PoolAt H' p q, ⟨_, rfl, a, ss, rfl, hS, hl, fun H' p q s' np hP => ⟨p, q, rfl, hP⟩⟩, ?_⟩
    rintro _ H1 ⟨p, q, rfl, hP1⟩
    -- signs
    refine ⟨fun σ H' => ∃ sl cs, σ = [some (.ref a), some (.ref p), some (.ref sl), none, none, none, none] ∧ PoolAt H' p q ∧ SL.off H' p sl = some (.lst (cs.map chV)) ∧ SignsAt cs ∧ 1 ≤ cs.length ∧ cs.length ≤ 10, ?_, ?_⟩
    · refine ⟨_, rfl, few (n := 5) (by decide), fun l nl => ⟨_, rfl, p, q, 5, rfl, hP1.same (same_upd nl), by decide, by decide, fun H2 d s2 hP2 d0 d1 => ?_⟩⟩
      have el : H2 l = some (.lst [.int 1, .int 2, .int 2, .int 3, .int 10]) := off_get s2 (hP1.at_p nl).1 upd_same
      obtain ⟨n, hn, n1, n10⟩ : ∃ n : Nat, atI [V.int 1, .int 2, .int 2, .int 3, .int 10] d = some (.int (n : Int)) ∧ 1 ≤ n ∧ n ≤ 10 := by
        have c5 : d = 0 ∨ d = 1 ∨ d = 2 ∨ d = 3 ∨ d = 4 := by omega
        rcases c5 with rfl | rfl | rfl | rfl | rfl
        · exact ⟨1, rfl, by decide, by decide⟩
        · exact ⟨2, rfl, by decide, by decide⟩
        · exact ⟨2, rfl, by decide, by decide⟩
        · exact ⟨3, rfl, by decide, by decide⟩
        · exact ⟨10, rfl, by decide, by decide⟩
      refine ⟨l, _, d, _, rfl, rfl, SqL.of el, hn, p, q, n, rfl, hP2, n10, fun H3 r cs s3 hP3 nr er lc hs => ⟨r, cs, rfl, hP3, ?_, hs, by omega, by omega⟩⟩
      rw [off_ne (hP2.at_p nr).1]
      exact er
    rintro _ H2 ⟨sl, cs, rfl, hP2, esl, hs, c1, c10⟩
    have nsp := ne_off esl
    -- model
    refine ⟨fun σ H' => ∃ r, σ = [some (.ref a), some (.ref p), some (.ref sl), some (.ref r), none, none, none] ∧ PoolAt H' p q ∧ SL.off H' p sl = some (.lst (cs.map chV)) ∧ r ≠ p ∧ ModelAt (SL.off H' p) H' r cs, ?_, ?_⟩
    · refine ⟨_, rfl, _, rfl, few (n := 3) (by decide), fun l nl => ⟨_, rfl, p, q, 3, rfl, hP2.same (same_upd nl), by decide, by decide, fun H3 d s3 hP3 d0 d1 => ?_⟩⟩
      have el : H3 l = some (.lst [.int 3, .int 4, .int 6]) := off_get s3 (hP2.at_p nl).1 upd_same
      have esl3 := s3 _ _ ((off_mono (p := p) (same_upd (o := .lst [.int 3, .int 4, .int 6]) nl)) _ _ esl)
      obtain ⟨n, hn, n1, n10⟩ : ∃ n : Int, atI [V.int 3, .int 4, .int 6] d = some (.int n) ∧ 0 < n ∧ n ≤ 40 := by
        have c3 : d = 0 ∨ d = 1 ∨ d = 2 := by omega
        rcases c3 with rfl | rfl | rfl
        · exact ⟨3, rfl, by decide, by decide⟩
        · exact ⟨4, rfl, by decide, by decide⟩
        · exact ⟨6, rfl, by decide, by decide⟩
      refine ⟨l, _, d, _, rfl, rfl, SqL.of el, hn, p, q, sl, cs, n, rfl, hP3, nsp, off_same H3 p _ _ esl3, c10, n1, n10, fun H4 r s4 hP4 nr hM => ⟨r, rfl, hP4, s4 _ _ esl3, (hP3.at_p nr).1, hM⟩⟩
    rintro _ H3 ⟨r, rfl, hP3, esl3, nrp, hM⟩
    obtain ⟨s2, mv, gd, ws, ls, gs, er, es2, emv, hL, l1, l40, hb, egd, pw, bg⟩ := hM
    have er' : SL.off H3 p r = some (.lst [.ref s2, .ref mv, .ref gd]) := by rw [off_ne nrp]; exact er
    have zl : ∀ l ∈ ls, 1 ≤ l.length ∧ l.length ≤ 1000 := fun l hl => by
      have := (hb l hl).1
      omega
    have lgs : gs.length ≤ 1000 := by
      have h40 : ∀ (n : Nat) (l : List Int), l.Pairwise (· < ·) → InStates n l → l.length ≤ n := fun n => by
        induction n with
        | zero =>
          intro l _ h
          cases l with
          | nil => exact Nat.le_refl _
          | cons x r =>
            have := h x (List.mem_cons_self ..)
            omega
        | succ n ih =>
          intro l hp h
          rcases List.eq_nil_or_concat l with rfl | ⟨l', x, rfl⟩
          · exact Nat.zero_le _
          · rw [List.concat_eq_append] at hp h ⊢
            rw [List.pairwise_append] at hp
            have hx := h x (List.mem_append_right _ (List.mem_singleton.mpr rfl))
            have := ih l' hp.1 fun y hy => by
              have h1 := h y (List.mem_append_left _ hy)
              have h2 := hp.2.2 y hy x (List.mem_singleton.mpr rfl)
              omega
            rw [List.length_append]
            show l'.length + 1 ≤ n + 1
            omega
      have := h40 _ gs pw bg
      omega
    -- things
    refine ⟨fun σ H' => ∃ th, σ = [some (.ref a), some (.ref p), some (.ref sl), some (.ref r), some (.ref th), none, none] ∧ PoolAt H' p q ∧ th ≠ p ∧ th ≠ q ∧ BaseAt (SL.off (SL.off H' p) th) sl r s2 mv gd cs ws ls gs ∧ H' th = some (.lst [.ref sl, .ref mv, .ref gd]), ?_, ?_⟩
    · refine ⟨_, rfl, _, rfl, r, _, 1, .ref mv, rfl, rfl, SqL.of er, atI_nat (j := 1) rfl, _, rfl, r, _, 2, .ref gd, rfl, rfl, SqL.of er, atI_nat (j := 2) rfl, few (n := 3) (by decide), fun th nth => ?_⟩
      have st := same_upd (o := .lst [.ref sl, .ref mv, .ref gd]) nth
      have so : Same (SL.off H3 p) (SL.off (SL.off (upd H3 th (.lst [.ref sl, .ref mv, .ref gd])) p) th) := fun b o e => by
        have nb : b ≠ th := fun z => by rw [z] at e; have := off_same H3 p _ _ e; rw [nth] at this; cases this
        rw [off_ne nb]
        exact off_mono st _ _ e
      exact ⟨th, rfl, hP3.same st, (hP3.at_p nth).1, (hP3.at_p nth).2, BaseAt.same so ⟨esl3, er', emv, hL, egd⟩, upd_same⟩
    rintro _ H4 ⟨th, rfl, hP4, ntp, ntq, hB4, eth4⟩
    -- the right one is made
    refine ⟨fun σ H' => σ = [some (.ref a), some (.ref p), some (.ref sl), some (.ref r), some (.ref th), none, none] ∧ PoolAt H' p q ∧ BaseAt (SL.off (SL.off H' p) th) sl r s2 mv gd cs ws ls gs ∧ H' th = some (.lst [.ref sl, .ref mv, .ref gd]), ?_, ?_⟩
    · have sB : Same (SL.off (SL.off H4 p) th) H4 := (off_same _ th).trans (off_same H4 p)
      obtain ⟨b1, b2, b3, b4, b5⟩ := hB4.same sB
      refine ⟨.ref sl, rfl, sl, _, rfl, .inl ⟨SqL.of b1, fun t nt => ?_⟩⟩
      have x1 := same_upd (o := .tup (cs.map chV)) nt
      refine ⟨_, rfl, r, _, 1, .ref mv, rfl, rfl, SqL.of (x1 _ _ b2), atI_nat (j := 1) rfl, _, rfl, r, _, 2, .ref gd, rfl, rfl, SqL.of (x1 _ _ b2), atI_nat (j := 2) rfl, gd, _, rfl, .inl ⟨SqL.of (x1 _ _ b5), fun t2 nt2 => ?_⟩⟩
      have x2 := same_upd (o := .tup (gs.map V.int)) nt2
      have x12 := x1.trans x2
      refine ⟨_, _, _, .tup (signsD cs), .lst (linesD ls), .tup (gs.map D.int), rfl, .tup (SqT.of (x2 _ _ upd_same)) (dts_ch cs) (by unfold signsD; rw [List.length_map]; omega), .lst (SqL.of (x12 _ _ b3)) (lines_data (b4.same x12) fun l hl => (zl l hl).2) (by unfold linesD; rw [List.length_map]; omega),
        .tup (SqT.of upd_same) (dts_int gs) (by rw [List.length_map]; omega), fun H' s' => ⟨rfl, _, rfl, ?_⟩⟩
      rw [way_model hs c1 c10 l1 l40 hb pw bg, decide_eq_true rfl]
      have x3 := x12.trans s'
      exact iteF ⟨rfl, hP4.same x3, hB4.same (off_mono (off_mono x3)), x3 _ _ eth4⟩
    rintro _ H5 ⟨rfl, hP5, hB5, eth5⟩
    clear hB4 eth4 hP4
    -- the turns
    refine ⟨_, rfl, p, q, 3, rfl, hP5, by decide, by decide, fun H6 d s6 hP6 d0 d1 => ⟨_, _, rfl, rfl, 1 + d, rfl, by omega, by omega, ?_⟩⟩
    refine for_range (lo := 0) (n := (1 + d).toNat) (fun i σ H' => PoolAt H' p q ∧ BaseAt (SL.off (SL.off H' p) th) sl r s2 mv gd cs ws ls gs ∧ ∃ v1 v2 v3 e1 e2 e3 x5 x6, σ = [some (.ref a), some (.ref p), some (.ref sl), some (.ref r), some (.ref th), x5, x6] ∧ H' th = some (.lst [v1, v2, v3]) ∧
      Dt K (SL.off (SL.off H' p) th) v1 e1 ∧ Dt K (SL.off (SL.off H' p) th) v2 e2 ∧ Dt K (SL.off (SL.off H' p) th) v3 e3) ?_ ?_ ?_
    · have hB6 := hB5.same (off_mono (p := th) s6)
      exact ⟨hP6, hB6, _, _, _, _, _, _, none, none, rfl, off_get s6 ntp eth5, .lst (SqL.of hB6.1) (dts_ch cs) (by rw [List.length_map]; omega), .lst (SqL.of hB6.2.2.1) (lines_data hB6.2.2.2.1 fun l hl => (zl l hl).2) (by unfold linesD; rw [List.length_map]; omega), .lst (SqL.of hB6.2.2.2.2) (dts_int gs) (by rw [List.length_map]; omega)⟩
    · rintro i _ H7 hi ⟨hP7, hB7, v1, v2, v3, e1, e2, e3, x5, x6, rfl, eth7, h1, h2, h3⟩
      -- pick
      refine ⟨fun σ H' => ∃ c : Int, σ = [some (.ref a), some (.ref p), some (.ref sl), some (.ref r), some (.ref th), some (.int (0 + (i : Nat))), some (.int c)] ∧ PoolAt H' p q ∧ Same (SL.off H7 p) (SL.off H' p), ⟨_, rfl, p, q, 3, rfl, hP7, by decide, by decide, fun H' c s' hP' _ _ => ⟨c, rfl, hP', s'⟩⟩, ?_⟩
      rintro _ H8 ⟨c, rfl, hP8, s8⟩
      have hB8 := hB7.same (off_mono (p := th) s8)
      have eth8 := off_get s8 ntp eth7
      have h1 := h1.same (off_mono (p := th) s8)
      have h2 := h2.same (off_mono (p := th) s8)
      have h3 := h3.same (off_mono (p := th) s8)
      have sB : Same (SL.off (SL.off H8 p) th) H8 := (off_same _ th).trans (off_same H8 p)
      obtain ⟨b1, b2, b3, b4, b5⟩ := hB8.same sB
      have nst := ne_off hB8.1
      have nmp := ne_off (off_same (SL.off H8 p) th _ _ hB8.2.2.1)
      have ngp := ne_off (off_same (SL.off H8 p) th _ _ hB8.2.2.2.2)
      -- another part
      refine ⟨fun σ H' => PoolAt H' p q ∧ BaseAt (SL.off (SL.off H' p) th) sl r s2 mv gd cs ws ls gs ∧ ∃ v1 v2 v3 e1 e2 e3 x5 x6, σ = [some (.ref a), some (.ref p), some (.ref sl), some (.ref r), some (.ref th), x5, x6] ∧ H' th = some (.lst [v1, v2, v3]) ∧
        Dt K (SL.off (SL.off H' p) th) v1 e1 ∧ Dt K (SL.off (SL.off H' p) th) v2 e2 ∧ Dt K (SL.off (SL.off H' p) th) v3 e3, ?_, ?_⟩
      · have put : ∀ H9 (o : HO), Same (SL.off H8 p) (SL.off H9 p) → Same (SL.off (SL.off H8 p) th) (SL.off (SL.off (upd H9 th o) p) th) := fun H9 o s9 => (off_mono (p := th) s9).trans (same2 (Same.refl _))
        refine ⟨_, rfl, rfl, _, rfl, ite2 (fun _ => ?_) fun _ => ?_⟩
        · refine ⟨_, rfl, _, rfl, p, q, sl, th, _, cs, rfl, eth8, nst, hP8, nsp, b1, c10, fun H9 v x s9 hP9 hx => ⟨_, rfl, th, _, 0, 0, rfl, rfl, off_get s9 ntp eth8, rfl, ?_⟩⟩
          exact ⟨hP9.put ntp ntq, hB8.same (put H9 _ s9), _, _, _, x, e2, e3, _, _, rfl, upd_same, hx.same (same2 (Same.refl _)), h2.same (put H9 _ s9), h3.same (put H9 _ s9)⟩
        refine ⟨_, rfl, rfl, _, rfl, ite2 (fun _ => ?_) fun _ => ?_⟩
        · refine ⟨_, rfl, _, rfl, r, _, 1, .ref mv, rfl, rfl, SqL.of b2, atI_nat (j := 1) rfl, p, q, mv, th, _, ws, ls, rfl, eth8, ntp, hP8, nmp, b3, hB8.2.2.2.1, l1, l40, zl, fun H9 v x s9 hP9 hx => ⟨_, rfl, th, _, 1, 1, rfl, rfl, off_get s9 ntp eth8, rfl, ?_⟩⟩
          exact ⟨hP9.put ntp ntq, hB8.same (put H9 _ s9), _, _, _, e1, x, e3, _, _, rfl, upd_same, h1.same (put H9 _ s9), hx.same (same2 (Same.refl _)), h3.same (put H9 _ s9)⟩
        · refine ⟨_, rfl, _, rfl, r, _, 2, .ref gd, rfl, rfl, SqL.of b2, atI_nat (j := 2) rfl, _, rfl, r, _, 1, .ref mv, rfl, rfl, SqL.of b2, atI_nat (j := 1) rfl, mv, ws, rfl, .inl (SqL.of b3), p, q, gd, th, _, gs, _, rfl, eth8, hP8, ngp, b5, lgs, fun H9 v x s9 hP9 hx => ⟨_, rfl, th, _, 2, 2, rfl, rfl, off_get s9 ntp eth8, rfl, ?_⟩⟩
          exact ⟨hP9.put ntp ntq, hB8.same (put H9 _ s9), _, _, _, e1, e2, x, _, _, rfl, upd_same, h1.same (put H9 _ s9), h2.same (put H9 _ s9), hx.same (same2 (Same.refl _))⟩
      clear hB7 eth7 hP7 h1 h2 h3 hB8 eth8 hP8 b1 b2 b3 b4 b5 sB s8
      rintro _ HA ⟨hPA, hBA, v1, v2, v3, e1, e2, e3, x5, x6, rfl, ethA, h1, h2, h3⟩
      have sB : Same (SL.off (SL.off HA p) th) HA := (off_same _ th).trans (off_same HA p)
      have g1 := h1.same sB
      have g2 := h2.same sB
      have g3 := h3.same sB
      refine ⟨_, rfl, th, _, 0, v1, rfl, rfl, SqL.of ethA, atI_nat (j := 0) rfl, _, rfl, th, _, 1, v2, rfl, rfl, SqL.of ethA, atI_nat (j := 1) rfl, _, rfl, th, _, 2, v3, rfl, rfl, SqL.of ethA, atI_nat (j := 2) rfl, v1, v2, v3, e1, e2, e3, rfl, g1, g2, g3, fun HB sb => ?_⟩
      have ethB := sb _ _ ethA
      refine ⟨_, rfl, th, _, 0, v1, rfl, rfl, SqL.of ethB, atI_nat (j := 0) rfl, _, rfl, th, _, 1, v2, rfl, rfl, SqL.of ethB, atI_nat (j := 1) rfl, _, rfl, th, _, 2, v3, rfl, rfl, SqL.of ethB, atI_nat (j := 2) rfl, v1, v2, v3, e1, e2, e3, rfl, g1.same sb, g2.same sb, g3.same sb, fun HC sc => ⟨rfl, _, rfl, ?_⟩⟩
      rw [decide_eq_true rfl]
      have sC := sb.trans sc
      exact iteF ⟨hPA.same sC, hBA.same (off_mono (off_mono sC)), v1, v2, v3, e1, e2, e3, _, _, rfl, sC _ _ ethA, h1.same (off_mono (off_mono sC)), h2.same (off_mono (off_mono sC)), h3.same (off_mono (off_mono sC))⟩
    · rintro _ H' _
      exact fin H'
end

theorem exm_ref {K : PySem.W.Frag} {C D : Addr} {b : Bool} (h1 : PySem.W.subIn K (.ref D) (.type "BaseException") = some true) (h2 : PySem.W.isClsIn K D = true) (h3 : PySem.W.typeIn K (.ref D) = some (.type "type")) (h4 : PySem.W.subIn K (.ref C) (.ref D) = some b) : PySem.W.exmOne K (.ref C) (.ref D) = some b := by
  have h2a : (PySem.W.clsIn K D).isSome = true := h2
  unfold PySem.W.exmOne
  rw [h1]
  show (if (some true == some true) = true then (if ((PySem.W.clsIn K D).isSome && PySem.W.typeIn K (.ref D) == some (.type "type")) = true then PySem.W.subIn K (.ref C) (.ref D) else none) else none) = some b
  rw [h2a, h3]
  exact h4
theorem along_of {K : PySem.W.Frag} {C N : Addr} {nm q : Str} {bs bm : List Value} {sn : List Str} {sub : List Value} {ab : Bool} {col : Option Bool} {dd : Option Addr} {k0 k1 k2 k3 k5 : Option Value} {name : Str} {nw : String} {r : Option (Option Value)} (hC : K.lookup C = some (excClassObj nm q C N bs bm true sn sub ab col dd k0 k1 k2 k3 k5 nw)) (h : PySem.W.ks_superIn K C C name = r) : PySem.W.alongIn K name bm = r := by
  unfold PySem.W.ks_superIn PySem.W.clsIn at h
  rw [hC] at h
  rw [← h]
  simp [List.dropWhile_cons]
theorem all_mk {w : World} {K : PySem.W.Frag} {h : Heap} {mg : Str → Option Value} {fa cL : Addr} (X : K.In h) (G : h.Ns mainGlobals mg) (hfa : mg "law" = some (.ref fa))
    {cB iB cc_BadRule cd_BadRule : Addr} {nm_BadRule q_BadRule : Str} {N_BadRule : Addr} {bs_BadRule : List Value} {sn_BadRule : List Str} {sb_BadRule : List Value} {ab_BadRule : Bool} {co_BadRule : Option Bool} {dd_BadRule od_BadRule an_BadRule cl1_BadRule cl2_BadRule : Option Addr} {m0_BadRule m1_BadRule m2_BadRule m3_BadRule m5_BadRule : Option Value} {oc_BadRule kV_BadRule dc_BadRule pm_BadRule ct_BadRule c1_BadRule c2_BadRule : Value} {sl_BadRule s1_BadRule s2_BadRule : Array (Option Value)} {vs_BadRule : Array Value} {fl_BadRule : Str} {tf_BadRule : Tok}
    {f_is_whole : Addr} {od_is_whole an_is_whole : Option Addr} {sl_is_whole : Array (Option Value)} {oc_is_whole kV_is_whole dc_is_whole pm_is_whole cd_is_whole ct_is_whole : Value}
    {f_is_within : Addr} {od_is_within an_is_within : Option Addr} {sl_is_within : Array (Option Value)} {oc_is_within kV_is_within dc_is_within pm_is_within cd_is_within ct_is_within : Value}
    {f_items_of : Addr} {od_items_of an_items_of : Option Addr} {sl_items_of : Array (Option Value)} {oc_items_of kV_items_of dc_items_of pm_items_of cd_items_of ct_items_of : Value}
    {f_is_rising : Addr} {od_is_rising an_is_rising : Option Addr} {sl_is_rising : Array (Option Value)} {oc_is_rising kV_is_rising dc_is_rising pm_is_rising cd_is_rising ct_is_rising : Value}
    {f_is_sign : Addr} {od_is_sign an_is_sign : Option Addr} {sl_is_sign : Array (Option Value)} {oc_is_sign kV_is_sign dc_is_sign pm_is_sign cd_is_sign ct_is_sign : Value}
    {f_signs_of : Addr} {od_signs_of an_signs_of : Option Addr} {sl_signs_of : Array (Option Value)} {oc_signs_of kV_signs_of dc_signs_of pm_signs_of cd_signs_of ct_signs_of : Value}
    {f_are_states : Addr} {od_are_states an_are_states : Option Addr} {sl_are_states : Array (Option Value)} {oc_are_states kV_are_states dc_are_states pm_are_states cd_are_states ct_are_states : Value}
    {f_moves_of : Addr} {od_moves_of an_moves_of : Option Addr} {sl_moves_of : Array (Option Value)} {oc_moves_of kV_moves_of dc_moves_of pm_moves_of cd_moves_of ct_moves_of : Value}
    {f_good_of : Addr} {od_good_of an_good_of : Option Addr} {sl_good_of : Array (Option Value)} {oc_good_of kV_good_of dc_good_of pm_good_of cd_good_of ct_good_of : Value}
    {f_law_pool : Addr} {od_law_pool an_law_pool : Option Addr} {sl_law_pool : Array (Option Value)} {oc_law_pool kV_law_pool dc_law_pool pm_law_pool cd_law_pool ct_law_pool : Value}
    {f_law_draw : Addr} {od_law_draw an_law_draw : Option Addr} {sl_law_draw : Array (Option Value)} {oc_law_draw kV_law_draw dc_law_draw pm_law_draw cd_law_draw ct_law_draw : Value}
    {f_law_signs : Addr} {od_law_signs an_law_signs : Option Addr} {sl_law_signs : Array (Option Value)} {oc_law_signs kV_law_signs dc_law_signs pm_law_signs cd_law_signs ct_law_signs : Value}
    {f_law_rule_model : Addr} {od_law_rule_model an_law_rule_model : Option Addr} {sl_law_rule_model : Array (Option Value)} {oc_law_rule_model kV_law_rule_model dc_law_rule_model pm_law_rule_model cd_law_rule_model ct_law_rule_model : Value}
    {f_law_is_items : Addr} {od_law_is_items an_law_is_items : Option Addr} {sl_law_is_items : Array (Option Value)} {oc_law_is_items kV_law_is_items dc_law_is_items pm_law_is_items cd_law_is_items ct_law_is_items : Value}
    {f_law_are_states : Addr} {od_law_are_states an_law_are_states : Option Addr} {sl_law_are_states : Array (Option Value)} {oc_law_are_states kV_law_are_states dc_law_are_states pm_law_are_states cd_law_are_states ct_law_are_states : Value}
    {f_law_ascends : Addr} {od_law_ascends an_law_ascends : Option Addr} {sl_law_ascends : Array (Option Value)} {oc_law_ascends kV_law_ascends dc_law_ascends pm_law_ascends cd_law_ascends ct_law_ascends : Value}
    {f_law_due : Addr} {od_law_due an_law_due : Option Addr} {sl_law_due : Array (Option Value)} {oc_law_due kV_law_due dc_law_due pm_law_due cd_law_due ct_law_due : Value}
    {f_law_told : Addr} {od_law_told an_law_told : Option Addr} {sl_law_told : Array (Option Value)} {oc_law_told kV_law_told dc_law_told pm_law_told cd_law_told ct_law_told : Value}
    {f_law_wrong_signs : Addr} {od_law_wrong_signs an_law_wrong_signs : Option Addr} {sl_law_wrong_signs : Array (Option Value)} {oc_law_wrong_signs kV_law_wrong_signs dc_law_wrong_signs pm_law_wrong_signs cd_law_wrong_signs ct_law_wrong_signs : Value}
    {f_law_wrong_moves : Addr} {od_law_wrong_moves an_law_wrong_moves : Option Addr} {sl_law_wrong_moves : Array (Option Value)} {oc_law_wrong_moves kV_law_wrong_moves dc_law_wrong_moves pm_law_wrong_moves cd_law_wrong_moves ct_law_wrong_moves : Value}
    {f_law_wrong_good : Addr} {od_law_wrong_good an_law_wrong_good : Option Addr} {sl_law_wrong_good : Array (Option Value)} {oc_law_wrong_good kV_law_wrong_good dc_law_wrong_good pm_law_wrong_good cd_law_wrong_good ct_law_wrong_good : Value}
    {f_law : Addr} {od_law an_law : Option Addr} {sl_law : Array (Option Value)} {oc_law kV_law dc_law pm_law cd_law ct_law : Value}
    {cU fU : Addr} {od_R an_R : Option Addr} {sl_R : Array (Option Value)} {oc_R kV_R dc_R pm_R cd_R ct_R : Value} {tSG : Tok}
    (a_BadRule : PySem.W.nsIn K mainGlobals "BadRule" = some (some (.ref cB)))
    (x_BadRule : K.lookup cB = some (excClassObj nm_BadRule q_BadRule cB N_BadRule bs_BadRule [.ref cL, .type "ValueError", .type "Exception", .type "BaseException", .type "object"] true sn_BadRule sb_BadRule ab_BadRule co_BadRule dd_BadRule m0_BadRule m1_BadRule m2_BadRule m3_BadRule m5_BadRule "ValueError.__new__"))
    (su_BadRule : PySem.W.ks_superIn K cB cB "__init__" = some (some (.builtin "ValueError.__init__")))
    (sa_BadRule : PySem.W.findIn K (.ref cB) "__setattr__" = some (some (.builtin "object.__setattr__")))
    (ga_BadRule : PySem.W.findIn K (.ref cB) "__getattribute__" = some (some (.builtin "BaseException.__getattribute__")))
    (gg_BadRule : PySem.W.findIn K (.ref cB) "__getattr__" = some none)
    (nb_BadRule : PySem.W.findIn K (.ref cB) "part" = some none)
    (in_BadRule : PySem.W.findIn K (.ref cB) "__init__" = some (some (.ref iB)))
    (ti_BadRule : PySem.W.typeIn K (.ref iB) = some (.type "function"))
    (l_BadRule : K.lookup iB = some ⟨oc_BadRule, od_BadRule, .func (PySem.W.ksFn "__init__" "BadRule.__init__" (defArgs (inClass (topS 4) 0)) (defBody (inClass (topS 4) 0)) (defScope (inClass (topS 4) 0)) .none kV_BadRule dc_BadRule pm_BadRule an_BadRule (.ref cd_BadRule) ct_BadRule cc_BadRule), sl_BadRule⟩)
    (c_BadRule : PySem.W.codeIn K (.ref cd_BadRule) "BadRule.__init__" = true)
    (cell_BadRule : K.lookup cc_BadRule = some ⟨c1_BadRule, cl1_BadRule, .cell (some (.ref cB)), s1_BadRule⟩)
    (code_BadRule : K.lookup cd_BadRule = some ⟨c2_BadRule, cl2_BadRule, .fields vs_BadRule, s2_BadRule⟩)
    (v2_BadRule : vs_BadRule[2]? = some (.str fl_BadRule tf_BadRule))
    (fi_BadRule : ((PySem.Challenge.rw_surelabels_k09_wrong_rules.prog.main.file : Str) == fl_BadRule) = true)
    (kC_BadRule : PySem.W.keepIn K (.ref cB) = true)
    (eC_BadRule : PySem.W.subIn K (.ref cB) (.type "BaseException") = some true)
    (vC_BadRule : PySem.W.subIn K (.ref cB) (.type "ValueError") = some true)
    (tC_BadRule : PySem.W.typeIn K (.ref cB) = some (.type "type"))
    (hC_BadRule : PySem.W.hasDictIn K cB = true)
    (iC_BadRule : PySem.W.isClsIn K cB = true)
    (mC_BadRule : PySem.W.mroIn K cB (.ref cB) = some true)
    (s_BadRule_BadRule : PySem.W.subIn K (.ref cB) (.ref cB) = some true)
    (a_LE : PySem.W.nsIn K mainGlobals "LabelError" = some (some (.ref cL)))
    (opq : PySem.W.nsIn K cStatics "thirdparty.any" = some none)
    (z_isinstance : PySem.W.nsIn K mainGlobals "isinstance" = some none)
    (z_int : PySem.W.nsIn K mainGlobals "int" = some none)
    (z_bool : PySem.W.nsIn K mainGlobals "bool" = some none)
    (z_str : PySem.W.nsIn K mainGlobals "str" = some none)
    (z_list : PySem.W.nsIn K mainGlobals "list" = some none)
    (z_tuple : PySem.W.nsIn K mainGlobals "tuple" = some none)
    (z_len : PySem.W.nsIn K mainGlobals "len" = some none)
    (z_all : PySem.W.nsIn K mainGlobals "all" = some none)
    (z_range : PySem.W.nsIn K mainGlobals "range" = some none)
    (z_zip : PySem.W.nsIn K mainGlobals "zip" = some none)
    (z_enumerate : PySem.W.nsIn K mainGlobals "enumerate" = some none)
    (z_sorted : PySem.W.nsIn K mainGlobals "sorted" = some none)
    (z_super : PySem.W.nsIn K mainGlobals "super" = some none)
    (a_is_whole : PySem.W.nsIn K mainGlobals "is_whole" = some (some (.ref f_is_whole)))
    (l_is_whole : K.lookup f_is_whole = some ⟨oc_is_whole, od_is_whole, .func (PySem.W.fnOf "is_whole" "is_whole" (defArgs s_is_whole) (defBody s_is_whole) (defScope s_is_whole) .none kV_is_whole dc_is_whole pm_is_whole an_is_whole cd_is_whole ct_is_whole), sl_is_whole⟩)
    (c_is_whole : PySem.W.codeIn K cd_is_whole "is_whole" = true)
    (k_is_whole : PySem.W.keepIn K (.ref f_is_whole) = true)
    (a_is_within : PySem.W.nsIn K mainGlobals "is_within" = some (some (.ref f_is_within)))
    (l_is_within : K.lookup f_is_within = some ⟨oc_is_within, od_is_within, .func (PySem.W.fnOf "is_within" "is_within" (defArgs s_is_within) (defBody s_is_within) (defScope s_is_within) .none kV_is_within dc_is_within pm_is_within an_is_within cd_is_within ct_is_within), sl_is_within⟩)
    (c_is_within : PySem.W.codeIn K cd_is_within "is_within" = true)
    (k_is_within : PySem.W.keepIn K (.ref f_is_within) = true)
    (a_items_of : PySem.W.nsIn K mainGlobals "items_of" = some (some (.ref f_items_of)))
    (l_items_of : K.lookup f_items_of = some ⟨oc_items_of, od_items_of, .func (PySem.W.fnOf "items_of" "items_of" (defArgs s_items_of) (defBody s_items_of) (defScope s_items_of) .none kV_items_of dc_items_of pm_items_of an_items_of cd_items_of ct_items_of), sl_items_of⟩)
    (c_items_of : PySem.W.codeIn K cd_items_of "items_of" = true)
    (k_items_of : PySem.W.keepIn K (.ref f_items_of) = true)
    (a_is_rising : PySem.W.nsIn K mainGlobals "is_rising" = some (some (.ref f_is_rising)))
    (l_is_rising : K.lookup f_is_rising = some ⟨oc_is_rising, od_is_rising, .func (PySem.W.fnOf "is_rising" "is_rising" (defArgs s_is_rising) (defBody s_is_rising) (defScope s_is_rising) .none kV_is_rising dc_is_rising pm_is_rising an_is_rising cd_is_rising ct_is_rising), sl_is_rising⟩)
    (c_is_rising : PySem.W.codeIn K cd_is_rising "is_rising" = true)
    (k_is_rising : PySem.W.keepIn K (.ref f_is_rising) = true)
    (a_is_sign : PySem.W.nsIn K mainGlobals "is_sign" = some (some (.ref f_is_sign)))
    (l_is_sign : K.lookup f_is_sign = some ⟨oc_is_sign, od_is_sign, .func (PySem.W.fnOf "is_sign" "is_sign" (defArgs s_is_sign) (defBody s_is_sign) (defScope s_is_sign) .none kV_is_sign dc_is_sign pm_is_sign an_is_sign cd_is_sign ct_is_sign), sl_is_sign⟩)
    (c_is_sign : PySem.W.codeIn K cd_is_sign "is_sign" = true)
    (k_is_sign : PySem.W.keepIn K (.ref f_is_sign) = true)
    (a_signs_of : PySem.W.nsIn K mainGlobals "signs_of" = some (some (.ref f_signs_of)))
    (l_signs_of : K.lookup f_signs_of = some ⟨oc_signs_of, od_signs_of, .func (PySem.W.fnOf "signs_of" "signs_of" (defArgs s_signs_of) (defBody s_signs_of) (defScope s_signs_of) .none kV_signs_of dc_signs_of pm_signs_of an_signs_of cd_signs_of ct_signs_of), sl_signs_of⟩)
    (c_signs_of : PySem.W.codeIn K cd_signs_of "signs_of" = true)
    (k_signs_of : PySem.W.keepIn K (.ref f_signs_of) = true)
    (a_are_states : PySem.W.nsIn K mainGlobals "_are_states" = some (some (.ref f_are_states)))
    (l_are_states : K.lookup f_are_states = some ⟨oc_are_states, od_are_states, .func (PySem.W.fnOf "_are_states" "_are_states" (defArgs s_are_states) (defBody s_are_states) (defScope s_are_states) .none kV_are_states dc_are_states pm_are_states an_are_states cd_are_states ct_are_states), sl_are_states⟩)
    (c_are_states : PySem.W.codeIn K cd_are_states "_are_states" = true)
    (k_are_states : PySem.W.keepIn K (.ref f_are_states) = true)
    (a_moves_of : PySem.W.nsIn K mainGlobals "_moves_of" = some (some (.ref f_moves_of)))
    (l_moves_of : K.lookup f_moves_of = some ⟨oc_moves_of, od_moves_of, .func (PySem.W.fnOf "_moves_of" "_moves_of" (defArgs s_moves_of) (defBody s_moves_of) (defScope s_moves_of) .none kV_moves_of dc_moves_of pm_moves_of an_moves_of cd_moves_of ct_moves_of), sl_moves_of⟩)
    (c_moves_of : PySem.W.codeIn K cd_moves_of "_moves_of" = true)
    (k_moves_of : PySem.W.keepIn K (.ref f_moves_of) = true)
    (a_good_of : PySem.W.nsIn K mainGlobals "_good_of" = some (some (.ref f_good_of)))
    (l_good_of : K.lookup f_good_of = some ⟨oc_good_of, od_good_of, .func (PySem.W.fnOf "_good_of" "_good_of" (defArgs s_good_of) (defBody s_good_of) (defScope s_good_of) .none kV_good_of dc_good_of pm_good_of an_good_of cd_good_of ct_good_of), sl_good_of⟩)
    (c_good_of : PySem.W.codeIn K cd_good_of "_good_of" = true)
    (k_good_of : PySem.W.keepIn K (.ref f_good_of) = true)
    (a_law_pool : PySem.W.nsIn K mainGlobals "_law_pool" = some (some (.ref f_law_pool)))
    (l_law_pool : K.lookup f_law_pool = some ⟨oc_law_pool, od_law_pool, .func (PySem.W.fnOf "_law_pool" "_law_pool" (defArgs s_law_pool) (defBody s_law_pool) (defScope s_law_pool) .none kV_law_pool dc_law_pool pm_law_pool an_law_pool cd_law_pool ct_law_pool), sl_law_pool⟩)
    (c_law_pool : PySem.W.codeIn K cd_law_pool "_law_pool" = true)
    (k_law_pool : PySem.W.keepIn K (.ref f_law_pool) = true)
    (a_law_draw : PySem.W.nsIn K mainGlobals "_law_draw" = some (some (.ref f_law_draw)))
    (l_law_draw : K.lookup f_law_draw = some ⟨oc_law_draw, od_law_draw, .func (PySem.W.fnOf "_law_draw" "_law_draw" (defArgs s_law_draw) (defBody s_law_draw) (defScope s_law_draw) .none kV_law_draw dc_law_draw pm_law_draw an_law_draw cd_law_draw ct_law_draw), sl_law_draw⟩)
    (c_law_draw : PySem.W.codeIn K cd_law_draw "_law_draw" = true)
    (k_law_draw : PySem.W.keepIn K (.ref f_law_draw) = true)
    (a_law_signs : PySem.W.nsIn K mainGlobals "_law_signs" = some (some (.ref f_law_signs)))
    (l_law_signs : K.lookup f_law_signs = some ⟨oc_law_signs, od_law_signs, .func (PySem.W.fnOf "_law_signs" "_law_signs" (defArgs s_law_signs) (defBody s_law_signs) (defScope s_law_signs) .none kV_law_signs dc_law_signs pm_law_signs an_law_signs cd_law_signs ct_law_signs), sl_law_signs⟩)
    (c_law_signs : PySem.W.codeIn K cd_law_signs "_law_signs" = true)
    (k_law_signs : PySem.W.keepIn K (.ref f_law_signs) = true)
    (a_law_rule_model : PySem.W.nsIn K mainGlobals "_law_rule_model" = some (some (.ref f_law_rule_model)))
    (l_law_rule_model : K.lookup f_law_rule_model = some ⟨oc_law_rule_model, od_law_rule_model, .func (PySem.W.fnOf "_law_rule_model" "_law_rule_model" (defArgs s_law_rule_model) (defBody s_law_rule_model) (defScope s_law_rule_model) .none kV_law_rule_model dc_law_rule_model pm_law_rule_model an_law_rule_model cd_law_rule_model ct_law_rule_model), sl_law_rule_model⟩)
    (c_law_rule_model : PySem.W.codeIn K cd_law_rule_model "_law_rule_model" = true)
    (k_law_rule_model : PySem.W.keepIn K (.ref f_law_rule_model) = true)
    (a_law_is_items : PySem.W.nsIn K mainGlobals "_law_is_items" = some (some (.ref f_law_is_items)))
    (l_law_is_items : K.lookup f_law_is_items = some ⟨oc_law_is_items, od_law_is_items, .func (PySem.W.fnOf "_law_is_items" "_law_is_items" (defArgs s_law_is_items) (defBody s_law_is_items) (defScope s_law_is_items) .none kV_law_is_items dc_law_is_items pm_law_is_items an_law_is_items cd_law_is_items ct_law_is_items), sl_law_is_items⟩)
    (c_law_is_items : PySem.W.codeIn K cd_law_is_items "_law_is_items" = true)
    (k_law_is_items : PySem.W.keepIn K (.ref f_law_is_items) = true)
    (a_law_are_states : PySem.W.nsIn K mainGlobals "_law_are_states" = some (some (.ref f_law_are_states)))
    (l_law_are_states : K.lookup f_law_are_states = some ⟨oc_law_are_states, od_law_are_states, .func (PySem.W.fnOf "_law_are_states" "_law_are_states" (defArgs s_law_are_states) (defBody s_law_are_states) (defScope s_law_are_states) .none kV_law_are_states dc_law_are_states pm_law_are_states an_law_are_states cd_law_are_states ct_law_are_states), sl_law_are_states⟩)
    (c_law_are_states : PySem.W.codeIn K cd_law_are_states "_law_are_states" = true)
    (k_law_are_states : PySem.W.keepIn K (.ref f_law_are_states) = true)
    (a_law_ascends : PySem.W.nsIn K mainGlobals "_law_ascends" = some (some (.ref f_law_ascends)))
    (l_law_ascends : K.lookup f_law_ascends = some ⟨oc_law_ascends, od_law_ascends, .func (PySem.W.fnOf "_law_ascends" "_law_ascends" (defArgs s_law_ascends) (defBody s_law_ascends) (defScope s_law_ascends) .none kV_law_ascends dc_law_ascends pm_law_ascends an_law_ascends cd_law_ascends ct_law_ascends), sl_law_ascends⟩)
    (c_law_ascends : PySem.W.codeIn K cd_law_ascends "_law_ascends" = true)
    (k_law_ascends : PySem.W.keepIn K (.ref f_law_ascends) = true)
    (a_law_due : PySem.W.nsIn K mainGlobals "_law_due" = some (some (.ref f_law_due)))
    (l_law_due : K.lookup f_law_due = some ⟨oc_law_due, od_law_due, .func (PySem.W.fnOf "_law_due" "_law_due" (defArgs s_law_due) (defBody s_law_due) (defScope s_law_due) .none kV_law_due dc_law_due pm_law_due an_law_due cd_law_due ct_law_due), sl_law_due⟩)
    (c_law_due : PySem.W.codeIn K cd_law_due "_law_due" = true)
    (k_law_due : PySem.W.keepIn K (.ref f_law_due) = true)
    (a_law_told : PySem.W.nsIn K mainGlobals "_law_told" = some (some (.ref f_law_told)))
    (l_law_told : K.lookup f_law_told = some ⟨oc_law_told, od_law_told, .func (PySem.W.fnOf "_law_told" "_law_told" (defArgs s_law_told) (defBody s_law_told) (defScope s_law_told) .none kV_law_told dc_law_told pm_law_told an_law_told cd_law_told ct_law_told), sl_law_told⟩)
    (c_law_told : PySem.W.codeIn K cd_law_told "_law_told" = true)
    (k_law_told : PySem.W.keepIn K (.ref f_law_told) = true)
    (a_law_wrong_signs : PySem.W.nsIn K mainGlobals "_law_wrong_signs" = some (some (.ref f_law_wrong_signs)))
    (l_law_wrong_signs : K.lookup f_law_wrong_signs = some ⟨oc_law_wrong_signs, od_law_wrong_signs, .func (PySem.W.fnOf "_law_wrong_signs" "_law_wrong_signs" (defArgs s_law_wrong_signs) (defBody s_law_wrong_signs) (defScope s_law_wrong_signs) .none kV_law_wrong_signs dc_law_wrong_signs pm_law_wrong_signs an_law_wrong_signs cd_law_wrong_signs ct_law_wrong_signs), sl_law_wrong_signs⟩)
    (c_law_wrong_signs : PySem.W.codeIn K cd_law_wrong_signs "_law_wrong_signs" = true)
    (k_law_wrong_signs : PySem.W.keepIn K (.ref f_law_wrong_signs) = true)
    (a_law_wrong_moves : PySem.W.nsIn K mainGlobals "_law_wrong_moves" = some (some (.ref f_law_wrong_moves)))
    (l_law_wrong_moves : K.lookup f_law_wrong_moves = some ⟨oc_law_wrong_moves, od_law_wrong_moves, .func (PySem.W.fnOf "_law_wrong_moves" "_law_wrong_moves" (defArgs s_law_wrong_moves) (defBody s_law_wrong_moves) (defScope s_law_wrong_moves) .none kV_law_wrong_moves dc_law_wrong_moves pm_law_wrong_moves an_law_wrong_moves cd_law_wrong_moves ct_law_wrong_moves), sl_law_wrong_moves⟩)
    (c_law_wrong_moves : PySem.W.codeIn K cd_law_wrong_moves "_law_wrong_moves" = true)
    (k_law_wrong_moves : PySem.W.keepIn K (.ref f_law_wrong_moves) = true)
    (a_law_wrong_good : PySem.W.nsIn K mainGlobals "_law_wrong_good" = some (some (.ref f_law_wrong_good)))
    (l_law_wrong_good : K.lookup f_law_wrong_good = some ⟨oc_law_wrong_good, od_law_wrong_good, .func (PySem.W.fnOf "_law_wrong_good" "_law_wrong_good" (defArgs s_law_wrong_good) (defBody s_law_wrong_good) (defScope s_law_wrong_good) .none kV_law_wrong_good dc_law_wrong_good pm_law_wrong_good an_law_wrong_good cd_law_wrong_good ct_law_wrong_good), sl_law_wrong_good⟩)
    (c_law_wrong_good : PySem.W.codeIn K cd_law_wrong_good "_law_wrong_good" = true)
    (k_law_wrong_good : PySem.W.keepIn K (.ref f_law_wrong_good) = true)
    (a_law : PySem.W.nsIn K mainGlobals "law" = some (some (.ref f_law)))
    (l_law : K.lookup f_law = some ⟨oc_law, od_law, .func (PySem.W.fnOf "law" "law" (defArgs s_law) (defBody s_law) (defScope s_law) .none kV_law dc_law pm_law an_law cd_law ct_law), sl_law⟩)
    (c_law : PySem.W.codeIn K cd_law "law" = true)
    (k_law : PySem.W.keepIn K (.ref f_law) = true)
    (a_Rule : PySem.W.nsIn K mainGlobals "Rule" = some (some (.ref cU)))
    (mk_Rule : PySem.W.makesIn K cU = true)
    (in_Rule : PySem.W.findIn K (.ref cU) "__init__" = some (some (.ref fU)))
    (fn_Rule : PySem.W.isFn K (.ref fU) = true)
    (kp_Rule : PySem.W.keepIn K (.ref cU) = true)
    (pg_Rule : PySem.W.plainGet K cU Str.empty = true)
    (hd_Rule : PySem.W.hasDictIn K cU = true)
    (po_Rule : PySem.W.plainOver K cU = true)
    (sa_Rule : PySem.W.findIn K (.ref cU) "__setattr__" = some (some (.builtin "object.__setattr__")))
    (n1_Rule : PySem.W.findIn K (.ref cU) "signs" = some none)
    (n2_Rule : PySem.W.findIn K (.ref cU) "moves" = some none)
    (n3_Rule : PySem.W.findIn K (.ref cU) "good" = some none)
    (n4_Rule : PySem.W.findIn K (.ref cU) "_columns" = some none)
    (l_Rule_init : K.lookup fU = some ⟨oc_R, od_R, .func (PySem.W.fnOf "__init__" "Rule.__init__" (defArgs s_Rule_init) (defBody s_Rule_init) (defScope s_Rule_init) .none kV_R dc_R pm_R an_R cd_R ct_R), sl_R⟩)
    (c_Rule_init : PySem.W.codeIn K cd_R "Rule.__init__" = true)
    (k_Rule_init : PySem.W.keepIn K (.ref fU) = true)
    (a_SIGNS : PySem.W.nsIn K mainGlobals "SIGNS" = some (some (.str "0123456789abcdefghijklmnopqrstuvwxyz" tSG))) :
    ∃ fd : FuncData, (∀ (s : Shared) (v : Value), BindsTo s fd ⟨[v], []⟩ [("script", v)]) ∧ ∀ base : Heap, K.In base → base.Ns mainGlobals mg → FnOk PySem.Challenge.rw_surelabels_k09_wrong_rules.prog w K mg base CX0 14 fa fd ["script"] (spLaw K) := by
  have e := hfa.symm.trans (PySem.W.mg_of X G a_law)
  cases e
  have F1_is_whole := fun_mk (st := s_is_whole) l_is_whole c_is_whole k_is_whole
  have B_is_whole := F1_is_whole.binds (ps := ["thing"]) fun _ _ _ _ _ _ us hl => match us, hl with | [_], _ => rfl
  have F1_is_within := fun_mk (st := s_is_within) l_is_within c_is_within k_is_within
  have B_is_within := F1_is_within.binds (ps := ["thing", "low", "high"]) fun _ _ _ _ _ _ us hl => match us, hl with | [_, _, _], _ => rfl
  have F1_items_of := fun_mk (st := s_items_of) l_items_of c_items_of k_items_of
  have B_items_of := F1_items_of.binds (ps := ["thing"]) fun _ _ _ _ _ _ us hl => match us, hl with | [_], _ => rfl
  have F1_is_rising := fun_mk (st := s_is_rising) l_is_rising c_is_rising k_is_rising
  have B_is_rising := F1_is_rising.binds (ps := ["things"]) fun _ _ _ _ _ _ us hl => match us, hl with | [_], _ => rfl
  have F1_is_sign := fun_mk (st := s_is_sign) l_is_sign c_is_sign k_is_sign
  have B_is_sign := F1_is_sign.binds (ps := ["thing"]) fun _ _ _ _ _ _ us hl => match us, hl with | [_], _ => rfl
  have F1_signs_of := fun_mk (st := s_signs_of) l_signs_of c_signs_of k_signs_of
  have B_signs_of := F1_signs_of.binds (ps := ["thing"]) fun _ _ _ _ _ _ us hl => match us, hl with | [_], _ => rfl
  have F1_are_states := fun_mk (st := s_are_states) l_are_states c_are_states k_are_states
  have B_are_states := F1_are_states.binds (ps := ["things", "many"]) fun _ _ _ _ _ _ us hl => match us, hl with | [_, _], _ => rfl
  have F1_moves_of := fun_mk (st := s_moves_of) l_moves_of c_moves_of k_moves_of
  have B_moves_of := F1_moves_of.binds (ps := ["thing", "width"]) fun _ _ _ _ _ _ us hl => match us, hl with | [_, _], _ => rfl
  have F1_good_of := fun_mk (st := s_good_of) l_good_of c_good_of k_good_of
  have B_good_of := F1_good_of.binds (ps := ["thing", "many"]) fun _ _ _ _ _ _ us hl => match us, hl with | [_, _], _ => rfl
  have F1_law_pool := fun_mk (st := s_law_pool) l_law_pool c_law_pool k_law_pool
  have B_law_pool := F1_law_pool.binds (ps := ["script"]) fun _ _ _ _ _ _ us hl => match us, hl with | [_], _ => rfl
  have F1_law_draw := fun_mk (st := s_law_draw) l_law_draw c_law_draw k_law_draw
  have B_law_draw := F1_law_draw.binds (ps := ["pool", "many"]) fun _ _ _ _ _ _ us hl => match us, hl with | [_, _], _ => rfl
  have F1_law_signs := fun_mk (st := s_law_signs) l_law_signs c_law_signs k_law_signs
  have B_law_signs := F1_law_signs.binds (ps := ["pool", "many"]) fun _ _ _ _ _ _ us hl => match us, hl with | [_, _], _ => rfl
  have F1_law_rule_model := fun_mk (st := s_law_rule_model) l_law_rule_model c_law_rule_model k_law_rule_model
  have B_law_rule_model := F1_law_rule_model.binds (ps := ["pool", "signs", "most"]) fun _ _ _ _ _ _ us hl => match us, hl with | [_, _, _], _ => rfl
  have F1_law_is_items := fun_mk (st := s_law_is_items) l_law_is_items c_law_is_items k_law_is_items
  have B_law_is_items := F1_law_is_items.binds (ps := ["thing"]) fun _ _ _ _ _ _ us hl => match us, hl with | [_], _ => rfl
  have F1_law_are_states := fun_mk (st := s_law_are_states) l_law_are_states c_law_are_states k_law_are_states
  have B_law_are_states := F1_law_are_states.binds (ps := ["thing", "many"]) fun _ _ _ _ _ _ us hl => match us, hl with | [_, _], _ => rfl
  have F1_law_ascends := fun_mk (st := s_law_ascends) l_law_ascends c_law_ascends k_law_ascends
  have B_law_ascends := F1_law_ascends.binds (ps := ["things"]) fun _ _ _ _ _ _ us hl => match us, hl with | [_], _ => rfl
  have F1_law_due := fun_mk (st := s_law_due) l_law_due c_law_due k_law_due
  have B_law_due := F1_law_due.binds (ps := ["signs", "moves", "good"]) fun _ _ _ _ _ _ us hl => match us, hl with | [_, _, _], _ => rfl
  have F1_law_told := fun_mk (st := s_law_told) l_law_told c_law_told k_law_told
  have B_law_told := F1_law_told.binds (ps := ["signs", "moves", "good"]) fun _ _ _ _ _ _ us hl => match us, hl with | [_, _, _], _ => rfl
  have F1_law_wrong_signs := fun_mk (st := s_law_wrong_signs) l_law_wrong_signs c_law_wrong_signs k_law_wrong_signs
  have B_law_wrong_signs := F1_law_wrong_signs.binds (ps := ["pool", "signs"]) fun _ _ _ _ _ _ us hl => match us, hl with | [_, _], _ => rfl
  have F1_law_wrong_moves := fun_mk (st := s_law_wrong_moves) l_law_wrong_moves c_law_wrong_moves k_law_wrong_moves
  have B_law_wrong_moves := F1_law_wrong_moves.binds (ps := ["pool", "moves"]) fun _ _ _ _ _ _ us hl => match us, hl with | [_, _], _ => rfl
  have F1_law_wrong_good := fun_mk (st := s_law_wrong_good) l_law_wrong_good c_law_wrong_good k_law_wrong_good
  have B_law_wrong_good := F1_law_wrong_good.binds (ps := ["pool", "good", "many"]) fun _ _ _ _ _ _ us hl => match us, hl with | [_, _, _], _ => rfl
  have F1_law := fun_mk (st := s_law) l_law c_law k_law
  have B_law := F1_law.binds (ps := ["script"]) fun _ _ _ _ _ _ us hl => match us, hl with | [_], _ => rfl
  have T_BadRule : PySem.SLX.ExTxt K mg PySem.Challenge.rw_surelabels_k09_wrong_rules.prog w "BadRule" "part" "part" (fun v => ∃ (y : Str) (t : Tok), v = .str y t ∧ (reprText y).length ≤ 1000) cB iB :=
    { gC := PySem.W.mg_of X G a_BadRule, cls := ⟨_, _, _, _, _, _, _, _, _, _, _, _, _, _, _, x_BadRule, rfl, along_of x_BadRule su_BadRule⟩, sa := sa_BadRule, ga := ga_BadRule, gg := gg_BadRule, noN := nb_BadRule, iC := in_BadRule, tC := ti_BadRule, kC := kC_BadRule, exC := eC_BadRule, veC := vC_BadRule, tyC := tC_BadRule, hdC := hC_BadRule, selfC := mC_BadRule, opq := opq, sup := PySem.W.mg_none_of X G z_super,
      fn := ⟨_, _, _, _, _, _, _, _, _, _, _, _, _, _, _, _, _, _, _, _, _, _, _, _, _, _, _, _, _, _, _, _, l_BadRule, c_BadRule, cell_BadRule, code_BadRule, v2_BadRule, fi_BadRule, PySem.SLX.msg_repr rfl rfl (by decide) (by decide +kernel), fun _ => rfl, fun _ => ⟨_, rfl⟩, fun _ _ => rfl⟩,
      okN := ⟨by decide, by decide, by decide, by decide⟩, top := by decide +kernel }
  have F1_Rule_init := fun_mk (st := s_Rule_init) l_Rule_init c_Rule_init k_Rule_init
  have B_Rule_init := F1_Rule_init.binds (ps := ["self", "signs", "moves", "good"]) fun _ _ _ _ _ _ us hl => match us, hl with | [_, _, _, _], _ => rfl
  have M : MF PySem.Challenge.rw_surelabels_k09_wrong_rules.prog w K mg cB iB cU fU cL := { m_isinstance := PySem.W.mg_none_of X G z_isinstance, m_int := PySem.W.mg_none_of X G z_int, m_bool := PySem.W.mg_none_of X G z_bool, m_str := PySem.W.mg_none_of X G z_str, m_list := PySem.W.mg_none_of X G z_list, m_tuple := PySem.W.mg_none_of X G z_tuple, m_len := PySem.W.mg_none_of X G z_len, m_all := PySem.W.mg_none_of X G z_all, m_range := PySem.W.mg_none_of X G z_range, m_zip := PySem.W.mg_none_of X G z_zip, m_enumerate := PySem.W.mg_none_of X G z_enumerate, m_sorted := PySem.W.mg_none_of X G z_sorted, x_BadRule := T_BadRule, g_BadRule := PySem.W.mg_of X G a_BadRule, g_LabelError := PySem.W.mg_of X G a_LE, e_BB := exm_ref eC_BadRule iC_BadRule tC_BadRule s_BadRule_BadRule, g_SIGNS := ⟨tSG, PySem.W.mg_of X G a_SIGNS⟩, g_Rule := PySem.W.mg_of X G a_Rule, mk_Rule := ⟨mk_Rule, in_Rule, fn_Rule, kp_Rule⟩, cl_Rule := ⟨pg_Rule, hd_Rule, po_Rule, sa_Rule⟩, n_signs := n1_Rule, n_moves := n2_Rule, n_good := n3_Rule, n_columns := n4_Rule }
  refine ⟨PySem.W.fnOf "law" "law" (defArgs s_law) (defBody s_law) (defScope s_law) .none kV_law dc_law pm_law an_law cd_law ct_law, fun s v => .of_eq rfl, fun base _ _ => ?_⟩
  · have F_is_whole : FnC PySem.Challenge.rw_surelabels_k09_wrong_rules.prog w K mg base CX0 1 "is_whole" ["thing"] (spWhole K) := ⟨_, _, ok_is_whole M F1_is_whole, PySem.W.mg_of X G a_is_whole, k_is_whole, B_is_whole⟩
    have F_is_within : FnC PySem.Challenge.rw_surelabels_k09_wrong_rules.prog w K mg base CX0 2 "is_within" ["thing", "low", "high"] (spWithin K) := ⟨_, _, ok_is_within F_is_whole F1_is_within, PySem.W.mg_of X G a_is_within, k_is_within, B_is_within⟩
    have F_items_of : FnC PySem.Challenge.rw_surelabels_k09_wrong_rules.prog w K mg base CX0 1 "items_of" ["thing"] (spItems K) := ⟨_, _, ok_items_of M F1_items_of, PySem.W.mg_of X G a_items_of, k_items_of, B_items_of⟩
    have F_is_rising : FnC PySem.Challenge.rw_surelabels_k09_wrong_rules.prog w K mg base CX0 1 "is_rising" ["things"] (spRising K) := ⟨_, _, ok_is_rising M F1_is_rising, PySem.W.mg_of X G a_is_rising, k_is_rising, B_is_rising⟩
    have F_is_sign : FnC PySem.Challenge.rw_surelabels_k09_wrong_rules.prog w K mg base CX0 1 "is_sign" ["thing"] (spSign K) := ⟨_, _, ok_is_sign M F1_is_sign, PySem.W.mg_of X G a_is_sign, k_is_sign, B_is_sign⟩
    have F_signs_of : FnC PySem.Challenge.rw_surelabels_k09_wrong_rules.prog w K mg base (L2.CX PySem.Challenge.rw_surelabels_k09_wrong_rules.prog w) 4 "signs_of" ["thing"] (spSigns K cB) := ⟨_, _, ok_signs_of M F_items_of F_is_sign F_is_rising F1_signs_of, PySem.W.mg_of X G a_signs_of, k_signs_of, B_signs_of⟩
    have F_are_states : FnC PySem.Challenge.rw_surelabels_k09_wrong_rules.prog w K mg base CX0 4 "_are_states" ["things", "many"] (spStates K) := ⟨_, _, ok_are_states M F_is_within F1_are_states, PySem.W.mg_of X G a_are_states, k_are_states, B_are_states⟩
    have F_moves_of : FnC PySem.Challenge.rw_surelabels_k09_wrong_rules.prog w K mg base (L2.CX PySem.Challenge.rw_surelabels_k09_wrong_rules.prog w) 6 "_moves_of" ["thing", "width"] (spMoves K cB) := ⟨_, _, ok_moves_of M F_items_of F_are_states F1_moves_of, PySem.W.mg_of X G a_moves_of, k_moves_of, B_moves_of⟩
    have F_good_of : FnC PySem.Challenge.rw_surelabels_k09_wrong_rules.prog w K mg base (L2.CX PySem.Challenge.rw_surelabels_k09_wrong_rules.prog w) 6 "_good_of" ["thing", "many"] (spGood K cB) := ⟨_, _, ok_good_of M F_items_of F_are_states F_is_rising F1_good_of, PySem.W.mg_of X G a_good_of, k_good_of, B_good_of⟩
    have F_law_pool : FnC PySem.Challenge.rw_surelabels_k09_wrong_rules.prog w K mg base CX0 1 "_law_pool" ["script"] (spPool K) := ⟨_, _, ok_law_pool M F1_law_pool, PySem.W.mg_of X G a_law_pool, k_law_pool, B_law_pool⟩
    have F_law_draw : FnC PySem.Challenge.rw_surelabels_k09_wrong_rules.prog w K mg base CX0 1 "_law_draw" ["pool", "many"] spDraw := ⟨_, _, ok_law_draw M F1_law_draw, PySem.W.mg_of X G a_law_draw, k_law_draw, B_law_draw⟩
    have F_law_signs : FnC PySem.Challenge.rw_surelabels_k09_wrong_rules.prog w K mg base CX0 3 "_law_signs" ["pool", "many"] spLSigns := ⟨_, _, ok_law_signs M F_law_draw F1_law_signs, PySem.W.mg_of X G a_law_signs, k_law_signs, B_law_signs⟩
    have F_law_rule_model : FnC PySem.Challenge.rw_surelabels_k09_wrong_rules.prog w K mg base CX0 3 "_law_rule_model" ["pool", "signs", "most"] spModel := ⟨_, _, ok_law_rule_model M F_law_draw F1_law_rule_model, PySem.W.mg_of X G a_law_rule_model, k_law_rule_model, B_law_rule_model⟩
    have F_law_is_items : FnC PySem.Challenge.rw_surelabels_k09_wrong_rules.prog w K mg base CX0 1 "_law_is_items" ["thing"] (spIsItems K) := ⟨_, _, ok_law_is_items M F1_law_is_items, PySem.W.mg_of X G a_law_is_items, k_law_is_items, B_law_is_items⟩
    have F_law_are_states : FnC PySem.Challenge.rw_surelabels_k09_wrong_rules.prog w K mg base CX0 2 "_law_are_states" ["thing", "many"] (spLStates K) := ⟨_, _, ok_law_are_states M F_law_is_items F1_law_are_states, PySem.W.mg_of X G a_law_are_states, k_law_are_states, B_law_are_states⟩
    have F_law_ascends : FnC PySem.Challenge.rw_surelabels_k09_wrong_rules.prog w K mg base CX0 1 "_law_ascends" ["things"] (spAsc K) := ⟨_, _, ok_law_ascends M F1_law_ascends, PySem.W.mg_of X G a_law_ascends, k_law_ascends, B_law_ascends⟩
    have F_law_due : FnC PySem.Challenge.rw_surelabels_k09_wrong_rules.prog w K mg base CX0 3 "_law_due" ["signs", "moves", "good"] (spDue K) := ⟨_, _, ok_law_due M F_law_is_items F_law_are_states F_law_ascends F1_law_due, PySem.W.mg_of X G a_law_due, k_law_due, B_law_due⟩
    have F_law_told : FnC PySem.Challenge.rw_surelabels_k09_wrong_rules.prog w K mg base CX0 11 "_law_told" ["signs", "moves", "good"] (spTold K) := ⟨_, _, ok_law_told M (ok_Rule_init M F_signs_of F_moves_of F_good_of F1_Rule_init) B_Rule_init F1_law_told, PySem.W.mg_of X G a_law_told, k_law_told, B_law_told⟩
    have F_law_wrong_signs : FnC PySem.Challenge.rw_surelabels_k09_wrong_rules.prog w K mg base CX0 3 "_law_wrong_signs" ["pool", "signs"] (spWSigns K) := ⟨_, _, ok_law_wrong_signs M F_law_draw F1_law_wrong_signs, PySem.W.mg_of X G a_law_wrong_signs, k_law_wrong_signs, B_law_wrong_signs⟩
    have F_law_wrong_moves : FnC PySem.Challenge.rw_surelabels_k09_wrong_rules.prog w K mg base CX0 3 "_law_wrong_moves" ["pool", "moves"] (spWMoves K) := ⟨_, _, ok_law_wrong_moves M F_law_draw F1_law_wrong_moves, PySem.W.mg_of X G a_law_wrong_moves, k_law_wrong_moves, B_law_wrong_moves⟩
    have F_law_wrong_good : FnC PySem.Challenge.rw_surelabels_k09_wrong_rules.prog w K mg base CX0 3 "_law_wrong_good" ["pool", "good", "many"] (spWGood K) := ⟨_, _, ok_law_wrong_good M F_law_draw F1_law_wrong_good, PySem.W.mg_of X G a_law_wrong_good, k_law_wrong_good, B_law_wrong_good⟩
    exact ok_law M F_law_pool F_law_draw F_law_signs F_law_rule_model F_law_told F_law_due F_law_wrong_signs F_law_wrong_moves F_law_wrong_good F1_law
end K09
open PySem PySem.W PyProof.Rows
set_option maxHeartbeats 0 in
theorem PySem.Challenge.cw_surelabels_k09_wrong_rules_holds : PySem.Challenge.rw_surelabels_k09_wrong_rules.Holds := by
  w_on; o_law; k_head; (case hw => w_witness2)
  k_fill
  refine L2.walk_of (l := PySem.Challenge.rw_surelabels_k09_wrong_rules) (n := 63) (k := 14) (x := "script") (CX := fun _ => L2.CX0) (sp := fun w => K09.spLaw _) rfl (by decide) rfl ⟨rfl, by decide, by decide⟩ (fun w h Y => PySem.W.kIn_of Y) ?F (fun _ _ a ns hl _ hS => ⟨a, ns, rfl, hS, hl, fun _ => rfl⟩) (fun _ _ _ _ _ h => h)
  case F =>
    intro w mg fa h KX G hmg
    refine' K09.all_mk KX G hmg ?h0 ?h1 ?h2 ?h3 ?h4 ?h5 ?h6 ?h7 ?h8 ?h9 ?h10 ?h11 ?h12 ?h13 ?h14 ?h15 ?h16 ?h17 ?h18 ?h19 ?h20 ?h21 ?h22 ?h23 ?h24 ?h25 ?h26 ?h27 ?h28 ?h29 ?h30 ?h31 ?h32 ?h33 ?h34 ?h35 ?h36 ?h37 ?h38 ?h39 ?h40 ?h41 ?h42 ?h43 ?h44 ?h45 ?h46 ?h47 ?h48 ?h49 ?h50 ?h51 ?h52 ?h53 ?h54 ?h55 ?h56 ?h57 ?h58 ?h59 ?h60 ?h61 ?h62 ?h63 ?h64 ?h65 ?h66 ?h67 ?h68 ?h69 ?h70 ?h71 ?h72 ?h73 ?h74 ?h75 ?h76 ?h77 ?h78 ?h79 ?h80 ?h81 ?h82 ?h83 ?h84 ?h85 ?h86 ?h87 ?h88 ?h89 ?h90 ?h91 ?h92 ?h93 ?h94 ?h95 ?h96 ?h97 ?h98 ?h99 ?h100 ?h101 ?h102 ?h103 ?h104 ?h105 ?h106 ?h107 ?h108 ?h109 ?h110 ?h111 ?h112 ?h113 ?h114 ?h115 ?h116 ?h117 ?h118 ?h119 ?h120 ?h121 ?h122 ?h123 ?h124 ?h125 ?h126 ?h127 ?h128 ?h129 ?h130 ?h131 ?h132 ?h133 ?h134 ?h135 ?h136 ?h137 ?h138 ?h139 ?h140 ?h141 ?h142
    (case h0 => k_is)
    (case h1 => k_is)
    (case h2 => ks_is)
    (case h3 => k_is)
    (case h4 => k_is)
    (case h5 => k_is)
    (case h6 => k_is)
    (case h7 => k_is)
    (case h8 => k_is)
    (case h9 => k_is)
    (case h10 => k_is)
    (case h11 => k_is)
    (case h12 => k_is)
    (case h13 => rfl)
    (case h14 => decide +kernel)
    (case h15 => k_is)
    (case h16 => k_is)
    (case h17 => k_is)
    (case h18 => k_is)
    (case h19 => k_is)
    (case h20 => k_is)
    (case h21 => k_is)
    (case h22 => k_is)
    (case h23 => k_is)
    (case h24 => k_is)
    (case h25 => k_is)
    (case h26 => k_is)
    (case h27 => k_is)
    (case h28 => k_is)
    (case h29 => k_is)
    (case h30 => k_is)
    (case h31 => k_is)
    (case h32 => k_is)
    (case h33 => k_is)
    (case h34 => k_is)
    (case h35 => k_is)
    (case h36 => k_is)
    (case h37 => k_is)
    (case h38 => k_is)
    (case h39 => k_is)
    (case h40 => k_is)
    (case h41 => k_is)
    (case h42 => k_is)
    (case h43 => k_is)
    (case h44 => k_is)
    (case h45 => k_is)
    (case h46 => k_is)
    (case h47 => k_is)
    (case h48 => k_is)
    (case h49 => k_is)
    (case h50 => k_is)
    (case h51 => k_is)
    (case h52 => k_is)
    (case h53 => k_is)
    (case h54 => k_is)
    (case h55 => k_is)
    (case h56 => k_is)
    (case h57 => k_is)
    (case h58 => k_is)
    (case h59 => k_is)
    (case h60 => k_is)
    (case h61 => k_is)
    (case h62 => k_is)
    (case h63 => k_is)
    (case h64 => k_is)
    (case h65 => k_is)
    (case h66 => k_is)
    (case h67 => k_is)
    (case h68 => k_is)
    (case h69 => k_is)
    (case h70 => k_is)
    (case h71 => k_is)
    (case h72 => k_is)
    (case h73 => k_is)
    (case h74 => k_is)
    (case h75 => k_is)
    (case h76 => k_is)
    (case h77 => k_is)
    (case h78 => k_is)
    (case h79 => k_is)
    (case h80 => k_is)
    (case h81 => k_is)
    (case h82 => k_is)
    (case h83 => k_is)
    (case h84 => k_is)
    (case h85 => k_is)
    (case h86 => k_is)
    (case h87 => k_is)
    (case h88 => k_is)
    (case h89 => k_is)
    (case h90 => k_is)
    (case h91 => k_is)
    (case h92 => k_is)
    (case h93 => k_is)
    (case h94 => k_is)
    (case h95 => k_is)
    (case h96 => k_is)
    (case h97 => k_is)
    (case h98 => k_is)
    (case h99 => k_is)
    (case h100 => k_is)
    (case h101 => k_is)
    (case h102 => k_is)
    (case h103 => k_is)
    (case h104 => k_is)
    (case h105 => k_is)
    (case h106 => k_is)
    (case h107 => k_is)
    (case h108 => k_is)
    (case h109 => k_is)
    (case h110 => k_is)
    (case h111 => k_is)
    (case h112 => k_is)
    (case h113 => k_is)
    (case h114 => k_is)
    (case h115 => k_is)
    (case h116 => k_is)
    (case h117 => k_is)
    (case h118 => k_is)
    (case h119 => k_is)
    (case h120 => k_is)
    (case h121 => k_is)
    (case h122 => k_is)
    (case h123 => k_is)
    (case h124 => k_is)
    (case h125 => k_is)
    (case h126 => k_is)
    (case h127 => k_is)
    (case h128 => k_is)
    (case h129 => k_is)
    (case h130 => k_is)
    (case h131 => k_is)
    (case h132 => k_is)
    (case h133 => k_is)
    (case h134 => k_is)
    (case h135 => k_is)
    (case h136 => k_is)
    (case h137 => k_is)
    (case h138 => k_is)
    (case h139 => k_is)
    (case h140 => k_is)
    (case h141 => k_is)
    (case h142 => k_is)
