import PyProof.Rows.All
import Wide.All
import OpenK.AllK
import Wide.FinOn
import PyProof.EqAt
import PyProof.EqKinds
import PyProof.TupleCall
import PyProof.FString
import PyProof.FString4
import KE.KExcSuper
import HandS.Base
import HandS.Call
import HandS.Exc
import HandS.ExcInit
import HandS.ForMost
import HandS.ExcOwn
import HandS.WordsExc
import HandS.IsInst
import HandS.TupAny
import HandS.List
import HandS.Comp
import HandS.Iter
import HandS.Style
import HandS.Zip
import HandS.Walk
import HandS.Evl
import HandS.RevRange
import HandS.WideBits
import PySem.Challenge.RW_surelabels_k01_rows
import HandS.More
set_option Elab.async false
set_option linter.all false
set_option maxRecDepth 100000
set_option maxHeartbeats 4000000
/-! An own error class whose __init__ says super().__init__(message) and keeps one field: made, raised, caught, its field read. -/
namespace PySem
namespace SLX
open PySem.W PySem.Calls PyProof.Rows PySem.HandSPX
/-- the message, evaluated where the one parameter stands: nothing but tokens changes -/
def MsgOk (prog : Program) (w : World) (sc : Scope) (par : Str) (msg : Expr) (okv : Value → Prop) : Prop :=
  ∀ (A : Around) (E : Value → Shared → Prop) (s : Shared) (env : Env) (m : Str → Option Value) (v : Value) (Q : Value → Shared → Prop), env.scope = sc → s.heap.Ns env.locals m → m par = some v → okv v → (∀ u t, Q u { s with toks := t }) →
    wpAny (model prog w) A (eval msg env) Q E s
theorem msg_const {prog : Program} {w : World} {sc : Scope} {par x : Str} {j : Nat} {p : Pos} {okv : Value → Prop} : MsgOk prog w sc par (.Constant (.str x) j p) okv :=
  fun A E s env m v Q _ _ _ _ h => Calls.Constant_str (h _ _)
/-- f'..{part!r}' -/
theorem msg_repr {prog : Program} {w : World} {sc : Scope} {par x : Str} {j : Nat} {p1 p2 p3 p4 : Pos} (hk : sc.kind = .function) (hl : sc.names.lookup par = some .local) (hd : (par == ("__debug__" : Str)) = false) (hx : x.length ≤ 1000) :
    MsgOk prog w sc par (.JoinedStr [.Constant (.str x) j p1, .FormattedValue (.Name par p2) 114 none p3] p4) (fun v => ∃ (y : Str) (t : Tok), v = .str y t ∧ (reprText y).length ≤ 1000) := by
  intro A E s env m v Q hs hn hv ho h
  obtain ⟨y, t, rfl, hy⟩ := ho
  subst hs
  have z1 : (1000 : Nat) ≤ sizeLine := by rw [sizeLine_eq]; decide
  have z2 : (2000 : Nat) ≤ sizeLine := by rw [sizeLine_eq]; decide
  have hyl : (reprText y).length ≤ sizeLine := Nat.le_trans hy z1
  have app : ∀ a b : Str, (a ++ b).length = a.length + b.length := fun a b => by
    show (a.cps ++ b.cps).size = a.cps.size + b.cps.size
    exact Array.size_append
  have e0 : (Str.empty : Str).length = 0 := rfl
  refine wpAny_JoinedStr ?_
  show wpAny _ _ (eval (.Constant (.str x) j p1) env) _ _ _
  refine Calls.Constant_str ?_
  refine ⟨x, s.toks, rfl, by rw [app, e0]; omega, ?_⟩
  show wpAny _ _ (eval (.FormattedValue (.Name par p2) 114 none p3) env) _ _ _
  refine wpAny_FormattedValue_repr ?_
  refine wpAny_Name (wpAny_loadName_local hk hl hn hv ?_) hd
  refine pyReprObj_str ?_ hyl
  refine wpAny_formatField_str ?_ ?_ hyl
  · refine ⟨reprText y, _, rfl, by rw [app, app, e0]; omega, ?_⟩
    exact ⟨by rw [app, app, e0]; omega, h _ _⟩
  · refine ⟨reprText y, _, rfl, by rw [app, app, e0]; omega, ?_⟩
    exact ⟨by rw [app, app, e0]; omega, h _ _⟩

/-! ### the text of __init__ -/
def iP (par : Str) (p1 p2 : Pos) : Arguments := { posonlyargs := [], args := [{ arg := "self", annotation := none, pos := p1 }, { arg := par, annotation := none, pos := p2 }], vararg := none, kwonlyargs := [], kw_defaults := [], kwarg := none, defaults := [] }
def iB (fld par : Str) (msg : Expr) (q1 q2 q3 q4 q5 q6 q7 q8 q9 : Pos) : List Stmt :=
  [.Expr (.Call (.Attribute (.Call (.Name "super" q1) [] [] q2) "__init__" q3) [msg] [] q4) q5, .Assign [.Attribute (.Name "self" q6) fld q7] (.Name par q8) q9]
def iS (par : Str) : Scope := { kind := .function, names := [(PySem.Str.ofString "self", .local), (par, .local), (PySem.Str.ofString "__class__", .free), (PySem.Str.ofString "super", .globalImplicit)], isGenerator := false, isCoroutine := false, more := [] }
/-- super().__init__(msg), as the evaluator takes it -/
def CallForm (msg : Expr) (q1 q2 q3 q4 : Pos) : Prop := ∀ env : Env, ∃ pl : Sem Bool, eval (.Call (.Attribute (.Call (.Name "super" q1) [] [] q2) "__init__" q3) [msg] [] q4) env = (do
  let ov ← attributeBase (.Call (.Name "super" q1) [] [] q2) "__init__" env (eval (.Call (.Name "super" q1) [] [] q2) env)
  standAt q3.atName
  let (f, first) ← holding [ov] (getMethod ov "__init__" pl)
  callWith q4 f first (backTo q4 (starEach [msg] env)) [])
/-- what the written part says of the class cn, at C, and of its __init__, at fI; vok: the values that its message can show -/
structure ExTxt (K : Frag) (mg : Str → Option Value) (prog : Program) (w : World) (cn fld par : Str) (vok : Value → Prop) (C fI : Addr) : Prop where
  gC : mg cn = some (.ref C)
  cls : ∃ nm q N bs bm sn sub ab col dd k0 k1 k2 k3 k5, K.lookup C = some (excClassObj nm q C N bs bm true sn sub ab col dd k0 k1 k2 k3 k5 "ValueError.__new__") ∧ refsVE bm = true ∧ alongIn K "__init__" bm = some (some (.builtin "ValueError.__init__"))
  sa : findIn K (.ref C) "__setattr__" = some (some (.builtin "object.__setattr__"))
  ga : findIn K (.ref C) "__getattribute__" = some (some (.builtin "BaseException.__getattribute__"))
  gg : findIn K (.ref C) "__getattr__" = some none
  noN : findIn K (.ref C) fld = some none
  iC : findIn K (.ref C) "__init__" = some (some (.ref fI))
  tC : typeIn K (.ref fI) = some (.type "function")
  kC : keepIn K (.ref C) = true
  exC : subIn K (.ref C) (.type "BaseException") = some true
  veC : subIn K (.ref C) (.type "ValueError") = some true
  tyC : typeIn K (.ref C) = some (.type "type")
  hdC : hasDictIn K C = true
  selfC : mroIn K C (.ref C) = some true
  opq : nsIn K cStatics "thirdparty.any" = some none
  sup : mg "super" = none
  fn : ∃ (oc : Value) (od : Option Addr) (qual : Str) (kV doc pm : Value) (an : Option Addr) (ct : Value) (osl : Array (Option Value)) (cc cda : Addr) (msg : Expr) (p1 p2 q1 q2 q3 q4 q5 q6 q7 q8 q9 : Pos) (cl ccl : Value) (cld cdd : Option Addr) (csl ccs : Array (Option Value)) (vs : Array Value) (file : Str) (tf : Tok),
    K.lookup fI = some ⟨oc, od, .func (ksFn "__init__" qual (iP par p1 p2) (iB fld par msg q1 q2 q3 q4 q5 q6 q7 q8 q9) (iS par) .none kV doc pm an (.ref cda) ct cc), osl⟩ ∧ codeIn K (.ref cda) qual = true ∧
    K.lookup cc = some ⟨cl, cld, .cell (some (.ref C)), csl⟩ ∧ K.lookup cda = some ⟨ccl, cdd, .fields vs, ccs⟩ ∧ vs[2]? = some (.str file tf) ∧ ((prog.main.file : Str) == file) = true ∧ MsgOk prog w (iS par) par msg vok ∧
    (∀ env, starEach [msg] env = (false, eval msg env) :: starEach [] env) ∧ CallForm msg q1 q2 q3 q4 ∧ ∀ a b : Value, bindArgs (ksFn "__init__" qual (iP par p1 p2) (iB fld par msg q1 q2 q3 q4 q5 q6 q7 q8 q9) (iS par) .none kV doc pm an (.ref cda) ct cc) ⟨[a, b], []⟩ = pure [(PySem.Str.ofString "self", a), (par, b)]
  okN : par ≠ ("self" : Str) ∧ par ≠ ("__class__" : Str) ∧ par ≠ ("super" : Str) ∧ (par == ("__debug__" : Str)) = false
  top : (prog.main.scope.names.lookup ("super" : Str)).isSome = false
theorem one_size (v : Value) : [v].length ≤ sizeLine := by
  rw [sizeLine_eq]
  exact (by decide : 1 ≤ 16777216)
/-- what __init__ leaves of a fresh exception at x -/
structure InitEnd (h h' : Heap) (x C dx t1 : Addr) (fld : Str) (v : Value) : Prop where
  keep : ∀ b o, b ≠ x → h.get? b = some o → h'.get? b = some o
  obj : h'.get? x = some { cls := .ref C, dict := some dx, data := .fields #[.ref t1, .none, .none, .none, .bool false, .none] }
  dbig : h.objs.size ≤ dx
  dne : dx ≠ x
  ns : h'.Ns1 dx (fun y => if y = fld then some v else none)
theorem kept_but {K : Frag} {h h' : Heap} {x : Addr} (X : K.In h) (hx : K.lookup x = none) (k : ∀ b o, b ≠ x → h.get? b = some o → h'.get? b = some o) : K.In h' := fun a o e =>
  k a o (fun z => by rw [z, hx] at e; cases e) (X a o e)
section
variable {prog : Program} {w : World} {A : Around} {E : Value → Shared → Prop} {R : Result → Shared → Prop} {s : Shared} {K : Frag} {mg mb : Str → Option Value} {cn fld par : Str} {vok : Value → Prop} {C fI : Addr}
/-- the wrapper called: the exception's args are laid anew -/
theorem call_mw {h : Heap} {g : Array GenState} {d : Drawn} {t : Nat} {os : OsState} {nm q : Str} {N : Addr} {bs bm : List Value} {sn : List Str} {sub : List Value} {ab : Bool} {col : Option Bool} {dd : Option Addr} {k0 k1 k2 k3 k5 : Option Value}
    {u x t0 : Addr} {rest : List Value} {Q : Value → Shared → Prop} (hC : h.get? C = some (excClassObj nm q C N bs bm true sn sub ab col dd k0 k1 k2 k3 k5 "ValueError.__new__")) (hbm : refsVE bm = true) (he : h.get? x = some (excO C t0))
    (hu : h.get? u = some (kxs_mw "ValueError.__init__" x)) (hz : rest.length ≤ sizeLine)
    (hq : ∀ h' t1, (∀ b o, b ≠ x → h.get? b = some o → h'.get? b = some o) → h'.get? x = some (excO C t1) → Q .none ⟨h', g, d, t, os⟩) :
    wpAny (model prog w) A (call (.ref u) rest) Q E ⟨h, g, d, t, os⟩ := by
  refine wpAny_call (codeAny_of_tree ?_)
  show wpAny _ A.in1 (callAny (.ref u) ⟨rest, []⟩) _ _ _
  simp only [callAny]
  refine wpAny_bind (wpAny_load hu ?_)
  simp only [kxs_mw, show (Value.type "method-wrapper" == Value.type "method" || Value.type "method-wrapper" == Value.type "builtin_function_or_method" || Value.type "method-wrapper" == Value.type "method-wrapper") = true by decide, if_true]
  refine KFB.if_so (by decide) ?_
  refine wpAny_bind (check_bound_init F.excBase_ValueError.toExcCallFacts hC he rfl ?_)
  refine wpAny_bind (wpAny_pure (wpAny_pure ?_))
  refine ⟨plainId_quiet F.excBase_ValueError.init.plain _, codeAny_builtin F.excBase_ValueError.initEntry ?_⟩
  exact exc_init_tree (cls := .ref C) (t0 := t0) (dv := none) (c2 := .none) (c3 := .none) (b4 := .bool false) he hz fun h' k e' _ => hq h' _ k e'

theorem own_init (T : ExTxt K mg prog w cn fld par vok C fI) {x t0 : Addr} {v : Value} (hvok : vok v) (X : K.In s.heap) (hlim : s.heap.NoLimit) (hg : s.heap.Ns mainGlobals mg) (hb : s.heap.Ns builtinsNs mb) (hbb : ∀ y : Str, y ≠ "__name__" → mb y = bootBuiltins y)
    (hx : s.heap.get? x = some (excO C t0)) (hnx : K.lookup x = none) (hroom : A.depth < recursionLimit)
    (hq : ∀ h' tk dx t1, InitEnd s.heap h' x C dx t1 fld v → R (.ok (.ret .none)) { s with heap := h', toks := tk }) :
    codeAny (model prog w) A (.call (.ref fI) ⟨[.ref x, v], []⟩) R s := by
  obtain ⟨oc, od, qual, kV, doc, pm, an, ct, osl, cc, cda, msg, p1, p2, q1, q2, q3, q4, q5, q6, q7, q8, q9, cl, ccl, cld, cdd, csl, ccs, vs, file, tf, ho, hcd, hcc, hcda, hvs, hfile, hmsg, hstar, hform, hbd⟩ := T.fn
  obtain ⟨nm, q, N, bs, bm, sn, sub, ab, col, dd, k0, k1, k2, k3, k5, hC, hbm, hal⟩ := T.cls
  obtain ⟨n1, n2, n3, n4⟩ := T.okN
  have hcl : clsIn K C = some { name := nm, bases := bs, mro := .ref C :: bm, ns := N, qualname := q, hasDict := true, slotNames := sn, subclasses := sub, abstract := ab, collection := col, hasDel := false } := by unfold clsIn; rw [hC] <;> rfl
  have hxs : s.heap.objs.size ≠ x := Nat.ne_of_gt (Heap.lt_size hx)
  have par1 : List.lookup par (iS par).names = some .local := by
    show List.lookup par [(PySem.Str.ofString "self", _), (par, _), _, _] = _
    have e : (par == ("self" : Str)) = false := by simpa using n1
    simp [List.lookup, e]
  have cls1 : List.lookup ("__class__" : Str) (iS par).names = some .free := by
    show List.lookup ("__class__" : Str) [(PySem.Str.ofString "self", _), (par, _), (PySem.Str.ofString "__class__", _), _] = _
    have e1 : (("__class__" : Str) == ("self" : Str)) = false := by decide
    have e2 : (("__class__" : Str) == par) = false := by simpa using Ne.symm n2
    simp [List.lookup, e1, e2]
  have sup1 : List.lookup ("super" : Str) (iS par).names = some .globalImplicit := by
    show List.lookup ("super" : Str) [(PySem.Str.ofString "self", _), (par, _), (PySem.Str.ofString "__class__", _), (PySem.Str.ofString "super", _)] = _
    have e1 : (("super" : Str) == ("self" : Str)) = false := by decide
    have e2 : (("super" : Str) == par) = false := by simpa using Ne.symm n3
    have e3 : (("super" : Str) == ("__class__" : Str)) = false := by decide
    simp [List.lookup, e1, e2, e3]
  have hbind : BindsTo s (ksFn "__init__" qual (iP par p1 p2) (iB fld par msg q1 q2 q3 q4 q5 q6 q7 q8 q9) (iS par) .none kV doc pm an (.ref cda) ct cc) ⟨[.ref x, v], []⟩ [("self", .ref x), (par, v)] := BindsTo.of_eq (hbd _ _)
  refine ks_codeAny_call_defAt (binds := [("self", .ref x), (par, v)]) hroom (X _ _ ho) rfl hlim (codeRec_of X hcd) rfl hbind (fun y hy => ?_) (fun y hy => ?_) (fun h₀ hns hk => ?_) rfl rfl rfl
  · have hy' : y ∈ [(PySem.Str.ofString "self", NameKind.local), (par, .local), (PySem.Str.ofString "__class__", .free), (PySem.Str.ofString "super", .globalImplicit)] := hy
    simp only [List.mem_cons, List.not_mem_nil, or_false] at hy'
    rcases hy' with rfl | rfl | rfl | rfl <;> exact fun z => nomatch z
  · simp only [List.mem_cons, List.not_mem_nil, or_false] at hy
    rcases hy with rfl | rfl
    · rfl
    · exact par1
  have hlook : List.lookup par [(par, v), (("self" : Str), Value.ref x)] = some v := by simp [List.lookup]
  have hlookS : List.lookup ("self" : Str) [(par, v), (("self" : Str), Value.ref x)] = some (.ref x) := by
    have e : ((("self" : Str) : Str) == par) = false := by simpa using Ne.symm n1
    simp [List.lookup, e]
  have X0 : K.In h₀ := X.keeps hk
  have hx0 := hk _ _ hx
  show wpAt (model prog w) _ _ (execs (iB fld par msg q1 q2 q3 q4 q5 q6 q7 q8 q9) _) _ _ _
  refine ks_wpAt_execs_cons ?_
  refine ks_wpAt_Expr_any ?_
  obtain ⟨pl, hpl⟩ := hform (callEnv (ksFn "__init__" qual (iP par p1 p2) (iB fld par msg q1 q2 q3 q4 q5 q6 q7 q8 q9) (iS par) .none kV doc pm an (.ref cda) ct cc) s.heap.objs.size fI)
  refine ks_wpAt_MethodCall (pl := pl) ?_ hpl
  refine ks_wpAt_super_base (f := fI) (cc := cda) sup1 cls1 (by decide) rfl (X0 _ _ ho) rfl rfl rfl (X0 _ _ hcda) rfl hvs hfile T.top ?_
  refine ks_loadName_global rfl sup1 (loadGlobal_builtin (mg := mg) (mb := mb) (hg.keeps hk) T.sup (hb.keeps hk) ((hbb "super" (by decide)).trans PyProof.Rows.Boot.«super») ⟨rfl, ?_⟩)
  refine wpAny_loadName_free rfl cls1 (c := cc) rfl ⟨_, X0 _ _ hcc, rfl⟩ ?_
  refine wpAny_loadName_local rfl rfl hns hlookS ?_
  refine ks_wpAny_isType_cls (X0 _ _ hC) rfl ⟨rfl, ?_⟩
  refine ks_wpAny_call_super (X0 _ _ hC) rfl hx0 rfl (fun c z => nomatch z) (looks_mroIn X0 T.selfC) (fun h1 e1 k1 => ?_)
  have X1 : K.In h1 := X0.keeps k1
  have hx1 := k1 _ _ hx0
  have hxC : x ≠ C := fun z => by
    rw [z] at hnx
    have hC' : List.lookup C K = none := hnx
    rw [hC] at hC'
    cases hC'
  have I1 : InstAt h1 x (excO C t0) C none := ⟨hx1, rfl, rfl, trivial⟩
  have hI : Looks (model prog w) h1 (isInstance (.ref x) (.type "ValueError")) true := I1.type.andThen (looks_subIn X1 T.veC)
  refine kxs_getMethod kxs_ValueError (l₀ := .ref C :: bm) (l := bm) e1 (looks_opaque X1 T.opq) ((looks_clsIn X1 hcl).andThen .now) (by simp [List.dropWhile_cons]) X1 hal hI hxC (by decide) ?_
  show wpAny (model prog w) _ (callWith q4 (.ref h1.objs.size) [] (backTo q4 (starEach [msg] _)) []) _ _ _
  have kp : ∀ b o, h1.get? b = some o → (h1.push (kxs_mw "ValueError.__init__" x)).get? b = some o := fun b o e => Heap.get?_push_of_some _ e
  have hup : (h1.push (kxs_mw "ValueError.__init__" x)).get? h1.objs.size = some (kxs_mw "ValueError.__init__" x) := Heap.get?_push_at rfl rfl
  refine kxs_callWith (i := "ValueError.__init__") (x := x) (by rw [hstar]; rfl) ?_
  rw [hstar]
  refine evalArgs_plain ?_
  refine Calls.spliced_cons (hmsg _ _ _ _ _ v _ rfl ((hns.keeps k1).keeps kp) hlook hvok fun u tk => ?_)
  refine Calls.spliced_nil ⟨hup, ?_⟩
  refine call_mw (kp _ _ (X1 _ _ hC)) hbm (kp _ _ hx1) hup (one_size _) fun h2 t1 k2 e2 => ?_
  have X2 : K.In h2 := kept_but (X1.keeps kp) hnx k2
  have hL : s.heap.objs.size ≠ x := hxs
  have hn2 : h2.Ns s.heap.objs.size (fun y => List.lookup y ([("self", Value.ref x), (par, v)] : List (Str × Value)).reverse) := by
    obtain ⟨oL, es, ep, hLo, r⟩ := (hns.keeps k1).keeps kp
    exact ⟨oL, es, ep, k2 _ _ hL hLo, r⟩
  show wpAt (model prog w) _ _ (execs _ _) _ _ _
  refine wpAt_of_wpAny (wpAny_execs_cons (plainObj_wpAny_Assign_Attribute ?_))
  refine wpAny_Name (wpAny_loadName_local rfl par1 hn2 hlook ?_) n4
  refine wpAny_Name (wpAny_loadName_local rfl rfl hn2 hlookS ?_) (by decide)
  refine set_plain X2 (ox := excO C t1) (od := none) ⟨e2, rfl, rfl, trivial⟩ T.sa ?_
  refine exc_osa X2 e2 hcl (show refsVE (.ref C :: bm) = true from hbm) rfl T.noN (fun h3 tk3 dx k3 dn dne hx3 hn3 => ?_)
  have old : ∀ b o, b ≠ x → s.heap.get? b = some o → h2.get? b = some o := fun b o hbx e => k2 b o hbx (kp _ _ (k1 _ _ (hk _ _ e)))
  have z : s.heap.objs.size ≤ h2.objs.size := Nat.le_of_lt hn2.lt
  exact wpAny_execs_nil (hq h3 tk3 dx t1 ⟨fun b o hbx e => k3 b o hbx (old b o hbx e), hx3, Nat.le_trans z dn, dne, hn3⟩)

/-- a made error -/
structure OwnMade (h h' : Heap) (e C d : Addr) (fld : Str) (v : Value) : Prop where
  keep : ∀ b o, h.get? b = some o → h'.get? b = some o
  new : h.objs.size ≤ e
  obj : ∃ oe vs, h'.get? e = some oe ∧ oe.cls = .ref C ∧ oe.dict = some d ∧ oe.data = .fields vs ∧ vs[1]? = some .none
  dbig : h.objs.size ≤ d
  dne : d ≠ e
  ns : h'.Ns1 d (fun y => if y = fld then some v else none)
theorem own_made (T : ExTxt K mg prog w cn fld par vok C fI) {v : Value} (hvok : vok v) (X : K.In s.heap) (hlim : s.heap.NoLimit) (hg : s.heap.Ns mainGlobals mg) (hb : s.heap.Ns builtinsNs mb) (hbb : ∀ y : Str, y ≠ "__name__" → mb y = bootBuiltins y)
    (hroom : A.depth + 1 < recursionLimit) (hq : ∀ h' tk e d, OwnMade s.heap h' e C d fld v → R (.ok (.ret (.ref e))) { s with heap := h', toks := tk }) :
    codeAny (model prog w) A (.call (.ref C) ⟨[v], []⟩) R s := by
  obtain ⟨nm, q, N, bs, bm, sn, sub, ab, col, dd, k0, k1, k2, k3, k5, hC, hbm, _⟩ := T.cls
  obtain ⟨hp, g, dr, tk, os⟩ := s
  have k : ∀ b o, hp.get? b = some o → ((hp.push (kdv_tup [v])).push (excO C hp.objs.size)).get? b = some o := fun b o e => Heap.get?_push_of_some _ (Heap.get?_push_of_some _ e)
  have hget : ((hp.push (kdv_tup [v])).push (excO C hp.objs.size)).get? (hp.objs.size + 1) = some (excO C hp.objs.size) := by heap_get
  have hnx : K.lookup (hp.objs.size + 1) = none := by
    cases e : K.lookup (hp.objs.size + 1) with
    | none => rfl
    | some o =>
      have z : hp.get? (hp.objs.size + 1) = some o := X _ _ e
      exact absurd (Nat.lt_of_succ_lt (Heap.lt_size z)) (Nat.lt_irrefl _)
  refine call_own F.excBase_ValueError (fun Y => refsVE_contains Y bm hbm) (X _ _ hC) (looks_findIn X T.iC) (fun self => bind_fn X self T.tC) (one_size v) ?_
  refine own_init (s := ⟨(hp.push (kdv_tup [v])).push (excO C hp.objs.size), g, dr, tk, os⟩) T hvok (X.keeps k) (hlim.keeps k) (hg.keeps k) (hb.keeps k) hbb hget hnx ?_ fun h' tk' dx t1 ⟨k', hx, dn, dne, hns⟩ => ?_
  · show A.depth + 1 < recursionLimit
    exact hroom
  · have old : ∀ b o, hp.get? b = some o → h'.get? b = some o := fun b o e => k' b o (Nat.ne_of_lt (Nat.lt_succ_of_lt (Heap.lt_size e))) (k b o e)
    have z : hp.objs.size + 1 + 1 ≤ dx := by
      first
        | (simpa only [Heap.size_push] using dn)
        | exact dn
        | (have q := dn; rw [Heap.size_push, Heap.size_push] at q; exact q)
    exact ⟨rfl, hq h' tk' (hp.objs.size + 1) dx ⟨old, Nat.le_succ _, ⟨_, _, hx, rfl, rfl, rfl, rfl⟩, Nat.le_trans (Nat.le_trans (Nat.le_succ _) (Nat.le_succ _)) z, dne, hns⟩⟩
end
end SLX
end PySem
namespace L2
open PySem PySem.Spec PyProof.Rows
theorem relO_one {v : V} {v' : Value} {fld : Str} (r : RelV v v') (f : Str) : RelO (List.lookup f [(fld, v)]) (if f = fld then some v' else none) := by
  by_cases hw : f = fld
  · subst hw
    rw [if_pos rfl]
    have q : List.lookup f [(f, v)] = some v := by simp [List.lookup]
    rw [q]
    exact r
  · rw [if_neg hw]
    have qw : (f == fld) = false := by simpa using hw
    have q2 : List.lookup f [(fld, v)] = none := by simp [List.lookup, qw]
    rw [q2]
    trivial
section
variable {X : Cx} {C fI : Addr} {cn fld par : Str} {vok : Value → Prop}
/-- C(e), the error's own dict d new -/
def tMkEx (C : Addr) (fld : Str) (vok : Value → Prop) (ta : TA) : St → Hp → XK → Prop := fun σ H Q => ta σ H fun vs H1 => ∃ v, vs = [v] ∧ (∀ u, RelV v u → vok u) ∧ ∀ d, H1 d = none → Q (.ref C) (some d) (upd H1 d (.xd [(fld, v)]))
theorem pmk_ex {a : Expr} {ta : TA} {p pos : Pos} {k : Nat} (T : PySem.SLX.ExTxt X.K X.mg X.prog X.w cn fld par vok C fI) (hr : Room k X.A) (ha : PA X [a] ta) (hg : Gl X cn := by rfl) (hdb : (cn == ("__debug__" : Str)) = false := by decide)
    (he : starEach (a :: []) X.env = (false, eval a X.env) :: starEach [] X.env := by rfl) (hpl : (backTo pos (starEach [] X.env)).any (·.1) = false := by rfl) :
    PMk X (.Call (.Name cn p) [a] [] pos) (tMkEx C fld vok ta) := by
  intro pins s σ H Q I h
  refine wpAny_Call_Name_kw (ld_glob I hg T.gC ?_ hdb)
  refine PySem.W.callWith_K (h₀ := X.base) I.ok.mod.kin T.kC (thn (ha.run pos pins s σ H _ I h) fun us s1 hh => ?_) he hpl
  obtain ⟨vs, H1, I1, r1, v, ev, hv, q1⟩ := hh
  subst ev
  refine ⟨I1.kIn, ?_⟩
  cases r1 with
  | cons rv rn =>
    rename_i v' us'
    cases rn
    show wpAny _ _ (call (.ref C) [v']) _ _ _
    have hlim := I1.nolimit
    have hmg := I1.ok.mod.glob.keeps I1.bk
    obtain ⟨mb, hmb, hbb⟩ := I1.ok.mod.blt
    have hmb' := hmb.keeps I1.bk
    obtain ⟨hp, g, dr, tk, os⟩ := s1
    refine wpAny_call (PySem.SLX.own_made T (hv _ rv) I1.kIn hlim hmg hmb' hbb (by have := hr.dp; omega) fun h' tk' e d M => ?_)
    show MkP X pins σ Q (.ref e) ⟨h', g, dr, tk', os⟩
    obtain ⟨oe, fv, hoe, hc, hd, hdat, h1⟩ := M.obj
    have hns := M.ns
    obtain ⟨G', g1, g2⟩ := restrict h' fun b => decide (b ≠ e)
    have gk : ∀ b, b ≠ e → G'.get? b = h'.get? b := fun b hb => g1 b (decide_eq_true hb)
    have ge : G'.get? e = none := g2 e (by simp)
    have old : ∀ b o, hp.get? b = some o → G'.get? b = some o := fun b o q => (gk b (Nat.ne_of_lt (Nat.lt_of_lt_of_le (Heap.lt_size q) M.new))).trans (M.keep b o q)
    have ob : ObjOk X.prog X.w (upd H1 d (.xd [(fld, v)])) G' d (.xd [(fld, v)]) :=
      ⟨_, hns.at (fun o q => (gk d M.dne).trans q), fun f => relO_one rv f⟩
    have J : Inv X pins σ (upd H1 d (.xd [(fld, v)])) ⟨G', g, dr, tk', os⟩ := I1.laid (t' := tk') old M.dbig ob
    refine ⟨e, oe, fv, ⟨G', g, dr, tk', os⟩, _, .ref C, some d, rfl, J, fun b o q => ?_, ge, hoe, ⟨hc, hd⟩, hdat, h1, ?_, rfl, I1.bare, raises_own T.exC T.tyC, q1 d (I1.hok.fresh M.dbig)⟩
    · by_cases hb : b = e
      · have q' : G'.get? b = some o := q
        rw [hb, ge] at q'; cases q'
      · exact (gk b hb).symm.trans q
    · rw [upd_ne (Ne.symm M.dne)]
      exact I1.hok.fresh M.new
/-- raise C(e) -/
theorem ps_raiseEx {a : Expr} {ta : TA} {W : WX} {p pos pos2 : Pos} {k : Nat} (hc : X.calm = true) (T : PySem.SLX.ExTxt X.K X.mg X.prog X.w cn fld par vok C fI) (hr : Room k X.A) (tk : Takes X W) (ha : PA X [a] ta) (hg : Gl X cn := by rfl) (hdb : (cn == ("__debug__" : Str)) = false := by decide)
    (he : starEach (a :: []) X.env = (false, eval a X.env) :: starEach [] X.env := by rfl) (hpl : (backTo pos (starEach [] X.env)).any (·.1) = false := by rfl) :
    PS X (.Raise (some (.Call (.Name cn p) [a] [] pos)) none pos2) (fun _ σ H => tMkEx C fld vok ta σ H fun cls d H' => W cls d σ H') := ps_raise hc tk (pmk_ex T hr ha hg hdb he hpl)
/-- e.fld, e the error that the suite holds (at a; its class cls, its dict d) -/
def tExF (C : Addr) (fld : Str) (a : Addr) (cls : Value) (d : Option Addr) (te : TE) : TE := fun σ H Q => te σ H fun x H1 => x = .ref a ∧ cls = .ref C ∧ ∃ (dd : Addr) (v : V), d = some dd ∧ H1 dd = some (.xd [(fld, v)]) ∧ Q v H1
theorem pe_exf {a : Addr} {oe : Obj} {cls : Value} {d : Option Addr} {pn : List (Addr × Obj)} {e : Expr} {te : TE} {pos : Pos} (T : PySem.SLX.ExTxt X.K X.mg X.prog X.w cn fld par vok C fI) (hz : Zc cls d oe) (hf : ∃ vs, oe.data = .fields vs) (he : PE (X.suite a ((a, oe) :: pn)) e te)
    (hb : attributeBase e fld X.env (eval e X.env) = eval e X.env := by rfl) :
    PE (X.suite a ((a, oe) :: pn)) (.Attribute e fld pos) (tExF C fld a cls d te) := by
  refine ⟨fun pins s σ H Q I h => ?_⟩
  refine attr_of hb (thn (he.run pins s σ H _ I h) fun u s1 hh => ?_)
  obtain ⟨x, H1, I1, rx, ex, ec, dd, v, ed, ea, q⟩ := hh
  subst ex
  obtain rfl : u = Value.ref a := rx
  subst ec
  subst ed
  obtain ⟨ha, _⟩ := I1.pin (a, oe) (List.mem_append_left _ List.mem_cons_self)
  obtain ⟨vs, hd⟩ := hf
  have hx : ObjOk X.prog X.w H1 s1.heap dd (.xd [(fld, v)]) := I1.hok dd _ ea
  obtain ⟨mA, hns, hr⟩ := hx
  obtain ⟨od, ho, hl⟩ := lookIn_ns hns
  have l : List.lookup fld [(fld, v)] = some v := by simp [List.lookup]
  obtain ⟨u, hu, ru⟩ := RelO.some_of (v := v) (o := mA fld) (by rw [← l]; exact hr fld)
  have J : PySem.W.InstAt s1.heap a oe C (some od) := ⟨ha, hz.1, by unfold PySem.W.notCls; rw [hd] <;> rfl, by rw [hz.2]; exact ho⟩
  exact HandSPX.exc_get I1.kIn J T.ga T.gg T.exC (PySem.W.findObj_own T.hdC T.noN rfl (by rw [hl, hu])) (handed_of ru) ⟨v, H1, I1.tok _, ru, q⟩
end

/-! ### several except clauses, some with a name -/
abbrev Clause := Value × Option Nat × (Addr → Value → Option Addr → TS)
def unnamed (i : Nat) (D : Ends) : Ends := { nx := fun σ' H' => D.nx (σ'.set i none) H', rt := D.rt, bk := fun σ' H' => D.bk (σ'.set i none) H', ct := fun σ' H' => D.ct (σ'.set i none) H' }
/-- what the clauses wish of an exception of the body, one after the other -/
def wClauses (K : PySem.W.Frag) (Wout : WX) (D : Ends) : List Clause → WX
  | [] => Wout
  | (c, none, ts) :: r => fun cls d σ H => ∃ b, PySem.W.exmOne K cls c = some b ∧ (b = true → ∀ a, H a = none → ts a cls d D σ H) ∧ (b = false → wClauses K Wout D r cls d σ H)
  | (c, some i, ts) :: r => fun cls d σ H => ∃ b, PySem.W.exmOne K cls c = some b ∧ (b = true → ∀ a, H a = none → ts a cls d (unnamed i D) (σ.set i (some (.ref a))) H) ∧ (b = false → wClauses K Wout D r cls d σ H)
inductive ClausesOk (X : Cx) : List ExceptHandler → List Clause → Prop
  | nil : ClausesOk X [] []
  | only {x : Str} {c : Value} {ts : Addr → Value → Option Addr → TS} {b₀ : Stmt} {suite : List Stmt} {np pos' : Pos} {hds : List ExceptHandler} {l : List Clause} (hc : Names X x c)
      (hsu : ∀ (a : Addr) (oe : Obj) (cls : Value) (d : Option Addr) (pn : List (Addr × Obj)), Zc cls d oe → (∃ vs, oe.data = .fields vs) → PSs (X.suite a ((a, oe) :: pn)) (b₀ :: suite) (ts a cls d)) (r : ClausesOk X hds l) :
      ClausesOk X (.ExceptHandler (some (.Name x np)) none (b₀ :: suite) pos' :: hds) ((c, none, ts) :: l)
  | named {x n : Str} {i : Nat} {c : Value} {ts : Addr → Value → Option Addr → TS} {b₀ : Stmt} {suite : List Stmt} {np pos' : Pos} {hds : List ExceptHandler} {l : List Clause} (hi : X.N[i]? = some n) (hln : X.env.kindOf n = some .local) (hc : Names X x c)
      (hsu : ∀ (a : Addr) (oe : Obj) (cls : Value) (d : Option Addr) (pn : List (Addr × Obj)), Zc cls d oe → (∃ vs, oe.data = .fields vs) → PSs (X.suite a ((a, oe) :: pn)) (b₀ :: suite) (ts a cls d)) (r : ClausesOk X hds l) :
      ClausesOk X (.ExceptHandler (some (.Name x np)) (some n) (b₀ :: suite) pos' :: hds) ((c, some i, ts) :: l)
section
variable {X : Cx} {body : List Stmt} {h₀ : ExceptHandler} {hds : List ExceptHandler} {l : List Clause} {pos : Pos} {tb : WX → TS} {Wout : WX}
/-- how a suite's end is an end of the statement, where no name is to be undone -/
theorem suite_end {pins : List (Addr × Obj)} {D : Ends} {a : Addr} {q : Addr × Obj} {f : Flow} {s : Shared} (ok : X.Ok) (h : SP (X.suite a (q :: (X.pn ++ pins))) [] D f s) : SP X pins D f s := by
  cases f with
  | ret u =>
    obtain ⟨v, σ', H', S, r, g⟩ := h
    exact ⟨v, σ', H', S.unsuite ok, r, g⟩
  | next =>
    obtain ⟨σ', H', S, g⟩ := h
    exact ⟨σ', H', S.unsuite ok, g⟩
  | brk =>
    obtain ⟨σ', H', S, g⟩ := h
    exact ⟨σ', H', S.unsuite ok, g⟩
  | cont =>
    obtain ⟨σ', H', S, g⟩ := h
    exact ⟨σ', H', S.unsuite ok, g⟩
theorem try_end {pins pn' : List (Addr × Obj)} {D : Ends} {xe : Value → Shared → Prop} {f : Flow} {s : Shared} (ok : X.Ok) (h : SP (X.tr (X.pn ++ pins) xe) pn' D f s) : SP X pins D f s := by
  cases f with
  | ret u =>
    obtain ⟨v, σ', H', S, r, g⟩ := h
    exact ⟨v, σ', H', S.ofTry ok, r, g⟩
  | next =>
    obtain ⟨σ', H', S, g⟩ := h
    exact ⟨σ', H', S.ofTry ok, g⟩
  | brk =>
    obtain ⟨σ', H', S, g⟩ := h
    exact ⟨σ', H', S.ofTry ok, g⟩
  | cont =>
    obtain ⟨σ', H', S, g⟩ := h
    exact ⟨σ', H', S.ofTry ok, g⟩
/-- the statement: X is a def's own frame -/
theorem ps_clauses (hs : X.stack = X.env :: X.outer) (hf : X.env.frame = some X.env.locals) (hN : X.N.Nodup) (tk : Takes X Wout)
    (hb : ∀ (W : WX) (pn : List (Addr × Obj)) (xe : Value → Shared → Prop), Takes (X.tr pn xe) W → PassesOwn (model X.prog X.w) X.A X.env xe → PSs (X.tr pn xe) body (tb W))
    (hh : ClausesOk X (h₀ :: hds) l) : PS X (.Try body (h₀ :: hds) [] [] pos) (fun D σ H => tb (wClauses X.K Wout D l) D σ H) := by
  refine ⟨fun pins s σ H D I h => ?_⟩
  have ok := I.ok
  have hfr : X.A.frames = some (X.env :: X.outer) := by rw [ok.frames, hs]
  have body_run := (hb (wClauses X.K Wout D l) (X.pn ++ pins) (fun e s₁ => wpAny (model X.prog X.w) X.A (noteFrame e X.env) (fun _ s₂ => wpAny (model X.prog X.w) X.A (setFlight e none) (fun _ s₃ => wpAny (model X.prog X.w) X.A (handleBy e X.env (h₀ :: hds)) (SP X pins D) X.xe s₃) X.xe s₂) X.xe s₁)
    (fun u s' air => ?_) PassesOwn.looking).run [] s σ H D (I.toTry _) h
  · refine wpAny_Try_except (wpAny_mono body_run (fun f s1 hsp => ?_) fun e s1 he => he)
    have z := try_end ok hsp
    cases f with
    | next =>
      obtain ⟨σ', H', J, q⟩ := z
      exact wpAny_execs_nil ⟨σ', H', J, q⟩
    | brk => exact z
    | cont => exact z
    | ret u => exact z
  · obtain ⟨a, B, sI, pins', σ', H', cls, d, rfl, J', nb, up, sky, na, os, ag, wish⟩ := air
    have J : Inv X pins σ' H' sI := J'.ofTry ok
    rw [show (X.tr (X.pn ++ pins) _).stack = X.env :: X.outer from hs] at sky
    refine Sky.land Zc.steady hfr hf sky fun h3 fl3 up3 => ?_
    have J3 : Inv X pins σ' H' { s' with heap := h3 } := J.landed nb fl3.1 (up.trans up3) os ag
    obtain ⟨oe3, vs3, he3, hz3, hd3⟩ := fl3.there
    have out : a ∉ frs (X.env :: X.outer) := fun hm => by
      obtain ⟨_, o', e', hnf⟩ := fl3.2.2.1.mem hm
      rw [he3] at e'
      cases e'
      exact hnf _ hd3
    have nL : a ≠ X.env.locals := fun z => out (List.mem_filterMap.mpr ⟨X.env, List.mem_cons_self, by rw [hf, z]⟩)
    have nF : a ∉ X.fs := fun hm => by
      obtain ⟨e, he, q⟩ := List.mem_filterMap.mp hm
      exact out (List.mem_filterMap.mpr ⟨e, List.mem_cons_of_mem _ he, q⟩)
    have S3 := J3.suite he3 hd3 na nL nF
    have LT : PySem.W.Looks (model X.prog X.w) h3 (typeOf (.ref a)) cls := fun A Q E s k q => wpAny_typeOf_ref (k _ _ he3) (by rw [hz3.1]; exact q)
    have name : ∀ {x : Str} {c : Value} {np : Pos} {Q E : Value → Shared → Prop}, Names X x c → Q c { s' with heap := h3 } → wpAny (model X.prog X.w) (X.A.mark (some (.ref a))) (eval (.Name x np) X.env) Q E { s' with heap := h3 } := fun {x c np Q E} hc q => by
      obtain ⟨hg, hdbg, hm | ⟨hm, hv, hnn⟩⟩ := hc
      · exact ld_glob (X := X.suite a ((a, oe3) :: (X.pn ++ pins))) S3 hg hm q hdbg
      · exact ld_blt (X := X.suite a ((a, oe3) :: (X.pn ++ pins))) S3 hg hm hv q hnn hdbg
    have go : ∀ {hds' : List ExceptHandler} {l' : List Clause}, ClausesOk X hds' l' → wClauses X.K Wout D l' cls d σ' H' → wpAny (model X.prog X.w) X.A (handleBy (.ref a) X.env hds') (SP X pins D) X.xe { s' with heap := h3 } := by
      intro hds' l' hk
      induction hk with
      | nil =>
        intro wsh
        have w0 : Wout cls d σ' H' := wsh
        refine wpAny_handleBy_nil ?_
        obtain ⟨k1, k2, k3, oe, vs, T, oT, ts', he, hz, hd, h1, hr⟩ := id fl3
        have fin : wpAny (model X.prog X.w) X.A (setFlight (.ref a) X.env.frame) (fun _ s4 => wpAny (model X.prog X.w) X.A (throw (.ref a) : Sem Flow) (SP X pins D) X.xe s4) X.xe { s' with heap := h3 } := by
          rw [hf]
          refine HandSPX.setFlight_upZ fl3 fun h4 hh4 up4 => wpAny_throw (tk _ _ ⟨a, B, sI, pins, σ', H', cls, d, rfl, J, nb, (up.trans up3).trans up4, .inr (.inr (by rw [hs]; exact hh4)), na, os, ag, w0⟩)
        unfold PySem.passOn
        refine wpAny_bind (wpAny_field he hd h1 ?_)
        rw [if_neg (show ¬ ((Value.ref T == Value.none) = true) from by simp)]
        first
          | exact wpAny_bind (wpAny_pure (wpAny_bind fin))
          | exact wpAny_bind fin
      | only hc hsu r ih =>
        rintro ⟨b, hb1, hyes, hno⟩
        refine wpAny_handleBy_cons (codeAny_handlers_test (name hc ((PySem.W.exm_one (M := model X.prog X.w) J3.kIn LT hb1).here ?_))) (by intro q; cases q)
        cases b with
        | false => exact ih (hno rfl)
        | true =>
          refine codeAny_handlers_suite (HandSPX.lands_againZ fl3 fun h4 fl4 up4 => ?_)
          have J4 : Inv X pins σ' H' { s' with heap := h4 } := J.landed nb fl4.1 ((up.trans up3).trans up4) os ag
          obtain ⟨oe4, vs4, he4, hz4, hd4⟩ := fl4.there
          exact wpAny_mono ((hsu a oe4 cls d (X.pn ++ pins) hz4 ⟨_, hd4⟩).run [] _ _ H' _ (J4.suite he4 hd4 na nL nF) (hyes rfl a na)) (fun f s6 hsp => suite_end ok hsp) fun _ _ z => False.elim z
      | @named x n i c ts b₀ suite np pos' hds2 l2 hi hln hc hsu r ih =>
        rintro ⟨b, hb1, hyes, hno⟩
        refine wpAny_handleBy_cons (codeAny_handlers_test (name hc ((PySem.W.exm_one (M := model X.prog X.w) J3.kIn LT hb1).here ?_))) (by intro q; cases q)
        cases b with
        | false => exact ih (hno rfl)
        | true =>
          refine codeAny_handlers_suite_as (HandSPX.lands_againZ fl3 fun h4 fl4 up4 => ?_)
          have J4 : Inv X pins σ' H' { s' with heap := h4 } := J.landed nb fl4.1 ((up.trans up3).trans up4) os ag
          obtain ⟨oe4, vs4, he4, hz4, hd4⟩ := fl4.there
          refine store_ok (X := X.suite a ((a, oe4) :: (X.pn ++ pins))) (v := .ref a) (J4.suite he4 hd4 na nL nF) hN hi (.inl hln) rfl (fun s5 S5 => ?_) (.inr hln)
          refine wpAny_mono ((hsu a oe4 cls d (X.pn ++ pins) hz4 ⟨_, hd4⟩).run [] s5 _ H' _ S5 (hyes rfl a na)) (fun f s6 hsp => ?_) fun _ _ z => False.elim z
          have undo : ∀ {σ6 : St} {H6 : Hp} {Q : Shared → Prop}, Inv (X.suite a ((a, oe4) :: (X.pn ++ pins))) [] σ6 H6 s6 → (∀ s7, Inv X pins (σ6.set i none) H6 s7 → Q s7) →
            wpAny (model X.prog X.w) X.A (do bindName X.env n .none; unbindBehindTheSuite X.env n pos') (fun _ s7 => Q s7) X.xe s6 := fun {σ6 H6 Q} S6 hq => gone_ok (S6.unsuite ok) hN hi hln hq
          cases f with
          | ret u =>
            obtain ⟨v6, σ6, H6, S6, r6, q6⟩ := hsp
            exact undo S6 fun s7 J7 => ⟨_, _, _, J7, r6, q6⟩
          | next =>
            obtain ⟨σ6, H6, S6, q6⟩ := hsp
            exact undo S6 fun s7 J7 => ⟨_, _, J7, q6⟩
          | brk =>
            obtain ⟨σ6, H6, S6, q6⟩ := hsp
            exact undo S6 fun s7 J7 => ⟨_, _, J7, q6⟩
          | cont =>
            obtain ⟨σ6, H6, S6, q6⟩ := hsp
            exact undo S6 fun s7 J7 => ⟨_, _, J7, q6⟩
    exact go hh wish
end
end L2
/-! What the laws of this program share: kinds of values, heaps, calls of a def by its name. -/
namespace SL
open PySem PySem.Spec PyProof.Rows L2
/-! ### kinds -/
inductive Knw (K : PySem.W.Frag) (H : Hp) : V → String → Prop
  | non : Knw K H .non "NoneType"
  | bl (b : Bool) : Knw K H (.bl b) "bool"
  | int (i : Int) : Knw K H (.int i) "int"
  | str (x : Str) : Knw K H (.str x) "str"
  | lst {a : Addr} {xs : List V} (h : SqL K H a xs) : Knw K H (.ref a) "list"
  | tup {a : Addr} {xs : List V} (h : SqT K H a xs) : Knw K H (.ref a) "tuple"
  | dic {a : Addr} {kvs : List (Key × V)} (h : H a = some (.dK kvs)) : Knw K H (.ref a) "dict"
theorem Same.seqT {K : PySem.W.Frag} {H H' : Hp} {a : Addr} {xs : List V} (e : Same H H') (h : SqT K H a xs) : SqT K H' a xs := by
  rcases h with (h | ⟨o, h⟩) | h
  · exact .inl (.inl (e _ _ h))
  · exact .inl (.inr ⟨o, e _ _ h⟩)
  · exact .inr h
section
variable {K : PySem.W.Frag} {H H' : Hp} {x : V} {T : String}
theorem Knw.ty (h : Knw K H x T) : TyX K H x (.type T) := by
  cases h with
  | non => exact .base .non
  | bl b => exact .base (.bl b)
  | int i => exact .base (.int i)
  | str s => exact .base (.str s)
  | lst h =>
    rcases h with (h | ⟨o, h⟩) | ⟨o, its, n, h, c, _⟩
    · exact .base (.lst h)
    · exact .base (.frz h)
    · exact .kList h c
  | tup h =>
    rcases h with (h | ⟨o, h⟩) | ⟨o, its, n, h, c, _⟩
    · exact .base (.tup h)
    · exact .fTuple h
    · exact .kTuple h c
  | dic h => exact .base (.dK h)
theorem Knw.same (s : Same H H') (h : Knw K H x T) : Knw K H' x T := by
  cases h with
  | non => exact .non
  | bl b => exact .bl b
  | int i => exact .int i
  | str z => exact .str z
  | lst h => exact .lst (s.seq h)
  | tup h => exact .tup (Same.seqT s h)
  | dic h => exact .dic (s _ _ h)
end
theorem kit_is {K : PySem.W.Frag} {a b : String} {r : Bool} (h : kitB a b = some r) : PySem.W.kitOne K (.type a) (.type b) = some r := kit_ty h
/-- isinstance against int, bool, list, tuple, str: of the seven kinds -/
def kinds : List String := ["NoneType", "bool", "int", "str", "list", "tuple", "dict"]
theorem Knw.mem {K : PySem.W.Frag} {H : Hp} {x : V} {T : String} (h : Knw K H x T) : T ∈ kinds := by cases h <;> decide
theorem kit_int {K : PySem.W.Frag} {T : String} (h : T ∈ kinds) : PySem.W.kitOne K (.type T) (.type "int") = some (decide (T = "int" ∨ T = "bool")) := by
  simp only [kinds, List.mem_cons, List.not_mem_nil, or_false] at h
  rcases h with rfl | rfl | rfl | rfl | rfl | rfl | rfl <;> exact kit_ty (by decide +kernel)
theorem kit_bool {K : PySem.W.Frag} {T : String} (h : T ∈ kinds) : PySem.W.kitOne K (.type T) (.type "bool") = some (decide (T = "bool")) := by
  simp only [kinds, List.mem_cons, List.not_mem_nil, or_false] at h
  rcases h with rfl | rfl | rfl | rfl | rfl | rfl | rfl <;> exact kit_ty (by decide +kernel)
theorem kit_str {K : PySem.W.Frag} {T : String} (h : T ∈ kinds) : PySem.W.kitOne K (.type T) (.type "str") = some (decide (T = "str")) := by
  simp only [kinds, List.mem_cons, List.not_mem_nil, or_false] at h
  rcases h with rfl | rfl | rfl | rfl | rfl | rfl | rfl <;> exact kit_ty (by decide +kernel)
theorem kit_list {K : PySem.W.Frag} {T : String} (h : T ∈ kinds) : PySem.W.kitOne K (.type T) (.type "list") = some (decide (T = "list")) := by
  simp only [kinds, List.mem_cons, List.not_mem_nil, or_false] at h
  rcases h with rfl | rfl | rfl | rfl | rfl | rfl | rfl <;> exact kit_ty (by decide +kernel)
theorem kit_tuple {K : PySem.W.Frag} {T : String} (h : T ∈ kinds) : PySem.W.kitOne K (.type T) (.type "tuple") = some (decide (T = "tuple")) := by
  simp only [kinds, List.mem_cons, List.not_mem_nil, or_false] at h
  rcases h with rfl | rfl | rfl | rfl | rfl | rfl | rfl <;> exact kit_ty (by decide +kernel)
theorem lineN {n : Nat} (h : n ≤ 100000) : n < sizeLine := Nat.lt_of_le_of_lt h (by rw [sizeLine_eq]; decide)
theorem few {n : Nat} (h : n ≤ 1000) : n ≤ sizeLine := Nat.le_trans h (by rw [sizeLine_eq]; decide)
theorem pos_i {n : Int} (h : decide (0 < n) = true) : 0 < n := of_decide_eq_true h
theorem iteV {A B : Prop} {x y : V} (h : x ≠ y) (k : B) : if decide (x = y) = true then A else B := by rw [decide_eq_false h]; exact iteF k
theorem iteS {A B : Prop} {x y : String} (h : decide (x = y) = false) (k : B) : if decide (x = y) = true then A else B := by rw [h]; exact iteF k
theorem iteU {A B : Prop} {c : Prop} [Decidable c] (h : c) (k : A) : if decide c = true then A else B := by rw [decide_eq_true h]; exact iteT k
theorem iteW {A B : Prop} {c : Prop} [Decidable c] (h : ¬ c) (k : B) : if decide c = true then A else B := by rw [decide_eq_false h]; exact iteF k
theorem lc_yes {A B : Hp → Prop} {σ : L2.St} {H : Hp} (h : A H) : tYes σ H (fun b H3 => if b = true then A H3 else B H3) := (iteT h : if true = true then A H else B H)
/-! ### the rules with the written part told (for blocks) -/
section
variable {X : Cx}
theorem sl_tupK (K : PySem.W.Frag) (h : X.K = K := by rfl) : SlR X (rSlA K) := by subst h; exact sl_tupA
theorem sl_listK (K : PySem.W.Frag) (h : X.K = K := by rfl) : SlR X (rSlL K) := by subst h; exact sl_list
theorem ix_listK (K : PySem.W.Frag) (h : X.K = K := by rfl) : IxR X (rIxL K) := by subst h; exact ix_list
theorem ix_tupK (K : PySem.W.Frag) (h : X.K = K := by rfl) : IxR X (rIxT K) := by subst h; exact ix_tup
theorem ix_seqK (K : PySem.W.Frag) (h : X.K = K := by rfl) : IxR X (rIx K) := by subst h; exact ix_seq
theorem call_isiK' (K : PySem.W.Frag) (h : X.K = K := by rfl) : CallR X (.builtin "isinstance") (rIsi K) := by subst h; exact call_isi
theorem call_lenK (K : PySem.W.Frag) (h : X.K = K := by rfl) : CallR X (.builtin "len") (fun xs H Q => ∃ p ys, xs = [.ref p] ∧ (SqL K H p ys ∨ SqT K H p ys) ∧ Q (.int ys.length) H) := by subst h; exact call_len_seq
theorem call_tupleK (K : PySem.W.Frag) (h : X.K = K := by rfl) : CallR X (.type "tuple") (fun xs H Q => ∃ p ys, xs = [.ref p] ∧ ((SqL K H p ys ∧ ∀ l, H l = none → Q (.ref l) (upd H l (.tup ys))) ∨ (SqT K H p ys ∧ Q (.ref p) H))) := by subst h; exact call_tuple_of
theorem op_catK (K : PySem.W.Frag) (h : X.K = K := by rfl) : OpR X (binaryOp .Add) (rCatA K) := by subst h; exact op_catA
end
/-! ### heaps -/
theorem same_upd {H : Hp} {p : Addr} {o : HO} (h : H p = none) : Same H (upd H p o) := fun b x e => by
  rw [upd_ne (ne_of_none e h)]
  exact e
/-- the heap without what stands at p -/
def off (H : Hp) (p : Addr) : Hp := fun b => if b = p then none else H b
theorem off_same (H : Hp) (p : Addr) : Same (off H p) H := fun b o e => by
  unfold off at e
  split at e
  · cases e
  · exact e
theorem off_at {H : Hp} {p : Addr} : off H p p = none := if_pos rfl
theorem off_ne {H : Hp} {p b : Addr} (h : b ≠ p) : off H p b = H b := if_neg h
theorem off_mono {H H' : Hp} {p : Addr} (s : Same H H') : Same (off H p) (off H' p) := fun b o e => by
  unfold off at e ⊢
  split at e
  · cases e
  · rename_i h
    rw [if_neg h]
    exact s _ _ e
theorem off_upd {H : Hp} {p : Addr} {o : HO} : Same (off H p) (off (upd H p o) p) := fun b u e => by
  unfold off at e ⊢
  split at e
  · cases e
  · rename_i h
    rw [if_neg h, upd_ne h]
    exact e
/-- what was said of the rest stays true whatever is stored at p -/
theorem off_put {H : Hp} {p : Addr} {o : HO} : Same (off H p) (upd H p o) := fun b u e => by
  unfold off at e
  split at e
  · cases e
  · rename_i h
    rw [upd_ne h]
    exact e
theorem off_of {H H' : Hp} {p : Addr} (s : Same H H') (n : H p = none) : Same H (off H' p) := fun b o e => by
  rw [off_ne (ne_of_none e n)]
  exact s _ _ e
/-- what stood at b stands there, if b is not p -/
theorem off_get {H H' : Hp} {p b : Addr} {o : HO} (s : Same (off H p) (off H' p)) (n : b ≠ p) (e : H b = some o) : H' b = some o := by
  have z := s b o (by rw [off_ne n]; exact e)
  rw [off_ne n] at z
  exact z
/-! ### sums and slices of tuples, whatever they reuse -/
section
variable {X : Cx}
def rCatU (K : PySem.W.Frag) : R2 := fun x y H Q => ∃ a b xs ys, x = .ref a ∧ y = .ref b ∧ SqT K H a xs ∧ SqT K H b ys ∧ xs.length + ys.length ≤ 100000 ∧ ∀ c H', Same H H' → SqT K H' c (xs ++ ys) → Q (.ref c) H'
theorem op_catU (K : PySem.W.Frag) (h : X.K = K := by rfl) : OpR X (binaryOp .Add) (rCatU K) := by
  subst h
  intro pins s σ H x y v u Q I rx ry z
  obtain ⟨a, b, xs, ys, e1, e2, ha, hb, hz, q⟩ := z
  refine op_catA pins s σ H x y v u Q I rx ry ⟨a, b, xs, ys, e1, e2, ha, hb, Nat.le_of_lt (lineN hz), fun e => ?_, fun _ e => ?_, fun _ _ p np => ?_⟩
  · subst e
    exact q b H (Same.refl H) hb
  · subst e
    exact q a H (Same.refl H) (by rw [List.append_nil]; exact ha)
  · exact q p _ (same_upd np) (SqT.of upd_same)
def rSlU (K : PySem.W.Frag) : V → Option Int → Option Int → Hp → VK → Prop := fun x lo hi H Q => ∃ a xs, x = .ref a ∧ SqT K H a xs ∧ ∀ c H', Same H H' → SqT K H' c (cutV xs lo hi) → Q (.ref c) H'
theorem sl_tupU (K : PySem.W.Frag) (h : X.K = K := by rfl) : SlR X (rSlU K) := by
  subst h
  intro pins s σ H x v vl vu lo hi sl Q I rx hs pl pu z
  obtain ⟨a, xs, e, hx, q⟩ := z
  refine sl_tupA pins s σ H x v vl vu lo hi sl Q I rx hs pl pu ⟨a, xs, e, hx, fun w => q a H (Same.refl H) ?_, fun _ p np => q p _ (same_upd np) (SqT.of upd_same)⟩
  unfold cutV
  rw [w.1, w.2, List.drop_zero, Nat.sub_zero, List.take_length]
  exact hx
end
theorem Tups.get {K : PySem.W.Frag} {H : Hp} : ∀ {vs : List V} {cs : List (List V)} {i : Nat} {v : V}, Paired (fun v c => ∃ a, v = V.ref a ∧ SqT K H a c) vs cs → vs[i]? = some v → ∃ c b, cs[i]? = some c ∧ v = .ref b ∧ SqT K H b c
  | _, _, _, _, .nil, h => by simp at h
  | _, _, 0, v, .cons (b := c) h _, e => by
    simp at e
    subst e
    obtain ⟨b, e1, e2⟩ := h
    exact ⟨c, b, rfl, e1, e2⟩
  | _, _, i + 1, v, .cons _ t, e => by
    obtain ⟨c, b, h1, h2, h3⟩ := Tups.get (i := i) t (by simpa using e)
    exact ⟨c, b, by simpa using h1, h2, h3⟩
/-! ### data -/
mutual
theorem Dp.same {K : PySem.W.Frag} {H H' : Hp} (s : Same H H') : ∀ {v : V} {d : PyData}, Dp K H v d → Dp K H' v d
  | _, _, .non => .non
  | _, _, .bl b => .bl b
  | _, _, .int i => .int i
  | _, _, .str x => .str x
  | _, _, .lst h a => .lst (s.seq h) (DpAll.same s a)
  | _, _, .tup h a => .tup (Same.seqT s h) (DpAll.same s a)
theorem DpAll.same {K : PySem.W.Frag} {H H' : Hp} (s : Same H H') : ∀ {vs : List V} {ds : List PyData}, DpAll K H vs ds → DpAll K H' vs ds
  | _, _, .nil => .nil
  | _, _, .cons h t => .cons (Dp.same s h) (DpAll.same s t)
end
theorem DpAll.ints {K : PySem.W.Frag} {H : Hp} : ∀ ns : List Int, DpAll K H (ns.map V.int) (ns.map PyData.int)
  | [] => .nil
  | n :: r => .cons (.int n) (DpAll.ints r)
theorem DpAll.length {K : PySem.W.Frag} {H : Hp} : ∀ {vs : List V} {ds : List PyData}, DpAll K H vs ds → vs.length = ds.length
  | _, _, .nil => rfl
  | _, _, .cons _ t => congrArg (· + 1) (DpAll.length t)
theorem DpAll.get {K : PySem.W.Frag} {H : Hp} : ∀ {vs : List V} {ds : List PyData} {i : Nat} {d : PyData}, DpAll K H vs ds → ds[i]? = some d → ∃ v, vs[i]? = some v ∧ Dp K H v d
  | _, _, _, _, .nil, h => by simp at h
  | _, _, 0, _, .cons h _, e => by
    simp at e
    subst e
    exact ⟨_, rfl, h⟩
  | _, _, i + 1, _, .cons _ t, e => by
    obtain ⟨v, h1, h2⟩ := DpAll.get (i := i) t (by simpa using e)
    exact ⟨v, by simpa using h1, h2⟩
theorem DpAll.append {K : PySem.W.Frag} {H : Hp} {ws : List V} {es : List PyData} (b : DpAll K H ws es) : ∀ {vs : List V} {ds : List PyData}, DpAll K H vs ds → DpAll K H (vs ++ ws) (ds ++ es)
  | _, _, .nil => b
  | _, _, .cons h t => .cons h (DpAll.append b t)
mutual
/-- no dict in it, not too deep -/
def plainD : Nat → PyData → Bool
  | _, .none => true
  | _, .bool _ => true
  | _, .int _ => true
  | _, .str _ => true
  | 0, .list _ => false
  | 0, .tuple _ => false
  | n + 1, .list ds => decide (ds.length ≤ 100000) && plainDs n ds
  | n + 1, .tuple ds => decide (ds.length ≤ 100000) && plainDs n ds
  | _, .dict _ => false
def plainDs : Nat → List PyData → Bool
  | _, [] => true
  | n, d :: ds => plainD n d && plainDs n ds
end
theorem plainDs_get : ∀ {n : Nat} {ds : List PyData} {i : Nat} {d : PyData}, plainDs n ds = true → ds[i]? = some d → plainD n d = true
  | _, [], _, _, _, h => by simp at h
  | n, e :: r, 0, d, h, q => by
    simp at q
    subst q
    have h' : (plainD n e && plainDs n r) = true := by simpa [plainDs] using h
    exact (Bool.and_eq_true_iff.mp h').1
  | n, e :: r, i + 1, d, h, q => by
    have h' : (plainD n e && plainDs n r) = true := by simpa [plainDs] using h
    exact plainDs_get (i := i) (Bool.and_eq_true_iff.mp h').2 (by simpa using q)
theorem plainDs_all {n : Nat} : ∀ {ds : List PyData}, (∀ d ∈ ds, plainD n d = true) → plainDs n ds = true
  | [], _ => by simp [plainDs]
  | d :: r, h => by
    have h1 := h d (List.mem_cons_self ..)
    have h2 := plainDs_all (ds := r) fun e he => h e (List.mem_cons_of_mem _ he)
    simp [plainDs, h1, h2]
theorem Dp.boxlst {K : PySem.W.Frag} {H H' : Hp} {a : Addr} {xs : List V} (s : Same H H') (h : SqL K H a xs) : SqL K H' a xs := s.seq h
theorem Dp.boxtup {K : PySem.W.Frag} {H H' : Hp} {a : Addr} {xs : List V} (s : Same H H') (h : SqT K H a xs) : SqT K H' a xs := Same.seqT s h
/-- the kind of a value that stands for such data -/
theorem Dp.knw {K : PySem.W.Frag} {H : Hp} {v : V} {d : PyData} (h : Dp K H v d) : ∃ T, Knw K H v T := by
  cases h with
  | non => exact ⟨_, .non⟩
  | bl b => exact ⟨_, .bl b⟩
  | int i => exact ⟨_, .int i⟩
  | str x => exact ⟨_, .str x⟩
  | lst h _ => exact ⟨_, .lst h⟩
  | tup h _ => exact ⟨_, .tup h⟩
/-! ### ranges with a step, chunks -/
theorem rgc_chunks {n w : Nat} (h1 : 1 ≤ w) (h6 : w ≤ 6) (hn : n * w ≤ 100000) : RgC 0 ((n * w : Nat) : Int) (w : Int) n := by
  have c : w = 1 ∨ w = 2 ∨ w = 3 ∨ w = 4 ∨ w = 5 ∨ w = 6 := by omega
  have size : Builtin.Range.rangeSize 0 ((n * w : Nat) : Int) (w : Int) = (n : Int) := by
    unfold Builtin.Range.rangeSize
    rcases c with rfl | rfl | rfl | rfl | rfl | rfl <;> (rw [if_pos (by decide)]; split <;> omega)
  have fit : ∀ x : Int, -1000000 ≤ x → x ≤ 1000000 → Builtin.Range.rangeFitsLong x = true := fun x l u => by
    unfold Builtin.Range.rangeFitsLong
    rw [decide_eq_true (by omega : (-2 ^ 63 : Int) ≤ x), decide_eq_true (by omega : x < 2 ^ 63)]
    rfl
  have big : n ≤ n * w := Nat.le_mul_of_pos_right n (by omega)
  refine ⟨by omega, by omega, ?_, size⟩
  unfold Builtin.Range.small
  rw [size, if_pos (by omega : (w : Int) > 0), fit 0 (by omega) (by omega), fit ((n * w : Nat) : Int) (by omega) (by omega), fit (w : Int) (by omega) (by omega), fit (n : Int) (by omega) (by omega), fit (((n * w : Nat) : Int) + ((w : Int) - 1)) (by omega) (by omega), Bool.or_true]
  rfl
/-- a comprehension over a range with a step -/
theorem lc_rangeC {lo c : Int} {n : Nat} {g : TG} {tt : TT} {te : TE} {vs : List Nat} {σ : L2.St} {H1 : Hp} {D : Addr} {Qd : Hp → Prop} (Pv : Nat → Hp → Prop) (h0 : Pv 0 (upd H1 D (.lst [])))
    (hs : ∀ i H, i < n → Pv i H → g (.int (lo + (i : Nat) * c)) (wipe σ vs) H fun σ2 H2 => wipe σ2 vs = wipe σ vs ∧ tt σ2 H2 fun b H3 => if b = true then te σ2 H3 fun y H4 => ∃ acc, H4 D = some (.lst acc) ∧ acc.length < sizeLine ∧ Pv (i + 1) (upd H4 D (.lst (acc ++ [y]))) else Pv (i + 1) H3)
    (hd : ∀ H, Pv n H → Qd H) : ∃ W : Nat → Nat → Hp → Prop, (∃ m, W 0 m (upd H1 D (.lst []))) ∧ ∀ i m H, W i m H → ((Itc lo c n).stop i H ∧ Qd H) ∨ ((Itc lo c n).go i H ∧ ∃ Nx : Hp → Prop, (∀ H', Nx H' → ∃ m', m' < m ∧ W (i + 1) m' H') ∧
      ∀ x H', (Itc lo c n).yld i H x H' → g x (wipe σ vs) H' fun σ2 H2 => wipe σ2 vs = wipe σ vs ∧ tt σ2 H2 fun b H3 => if b = true then te σ2 H3 fun y H4 => ∃ acc, H4 D = some (.lst acc) ∧ acc.length < sizeLine ∧ Nx (upd H4 D (.lst (acc ++ [y]))) else Nx H3) := by
  refine ⟨fun i m H => m = n - i ∧ i ≤ n ∧ Pv i H, ⟨n, rfl, Nat.zero_le _, h0⟩, fun i m H hW => ?_⟩
  obtain ⟨e, hi, p⟩ := hW
  rcases Nat.lt_or_ge i n with hlt | hge
  · refine .inr ⟨hlt, Pv (i + 1), fun H' p' => ⟨n - (i + 1), by omega, rfl, hlt, p'⟩, fun x H' y => ?_⟩
    obtain ⟨y1, y2⟩ := y
    rw [y1, y2]
    exact hs i H hlt p
  · have q : i = n := by omega
    rw [q] at p
    exact .inl ⟨hge, hd H p⟩
/-- the i-th of the parts of w items -/
def part (w : Nat) (xs : List V) (i : Nat) : List V := (xs.drop (i * w)).take w
def parts (w : Nat) (xs : List V) (n : Nat) : List (List V) := (List.range n).map (part w xs)
theorem parts_take {w : Nat} {xs : List V} {n i : Nat} (h : i < n) : (parts w xs n).take (i + 1) = (parts w xs n).take i ++ [part w xs i] := by
  have e : (parts w xs n)[i]? = some (part w xs i) := by
    unfold parts
    rw [List.getElem?_map, List.getElem?_range h]
    rfl
  rw [List.take_add_one, e]
  rfl
theorem parts_len (w : Nat) (xs : List V) (n : Nat) : (parts w xs n).length = n := by simp [parts]
theorem cut_part {w : Nat} {xs : List V} {n i : Nat} (hx : xs.length = n * w) (hi : i < n) : cutV xs (some ((i * w : Nat) : Int)) (some ((i * w + w : Nat) : Int)) = part w xs i := by
  have h1 : i * w + w ≤ n * w := by
    have := Nat.mul_le_mul_right w (show i + 1 ≤ n from hi)
    rw [Nat.add_mul, Nat.one_mul] at this
    exact this
  unfold cutV part
  rw [show HT.sIx xs.length 0 (some ((i * w : Nat) : Int)) = min (i * w) xs.length from HT.sIx_nat _ _ _, show HT.sIx xs.length xs.length (some ((i * w + w : Nat) : Int)) = min (i * w + w) xs.length from HT.sIx_nat _ _ _]
  rw [show min (i * w) xs.length = i * w by omega, show min (i * w + w) xs.length = i * w + w by omega, Nat.add_sub_cancel_left]
/-- the whole of it is the one part -/
theorem whole_part {w : Nat} {xs : List V} {n i : Nat} (hx : xs.length = n * w) (hi : i < n) (h : HT.sIx xs.length 0 (some ((i * w : Nat) : Int)) = 0 ∧ HT.sIx xs.length xs.length (some ((i * w + w : Nat) : Int)) = xs.length) : part w xs i = xs := by
  rw [← cut_part hx hi]
  unfold cutV
  rw [h.1, h.2, List.drop_zero, Nat.sub_zero, List.take_length]
/-- values that are tuples -/
abbrev Tups (K : PySem.W.Frag) (H : Hp) : List V → List (List V) → Prop := Paired fun v c => ∃ a, v = V.ref a ∧ SqT K H a c
theorem Tups.same {K : PySem.W.Frag} {H H' : Hp} (s : Same H H') {vs : List V} {cs : List (List V)} (h : Tups K H vs cs) : Tups K H' vs cs := Paired.mapP h fun v c ⟨a, e, q⟩ => ⟨a, e, Same.seqT s q⟩
theorem Tups.snoc {K : PySem.W.Frag} {H : Hp} {a : Addr} {c : List V} (h : SqT K H a c) : ∀ {vs : List V} {cs : List (List V)}, Tups K H vs cs → Tups K H (vs ++ [V.ref a]) (cs ++ [c])
  | _, _, .nil => .cons ⟨a, rfl, h⟩ .nil
  | _, _, .cons q t => .cons q (Tups.snoc h t)
/-! ### a def, by its name -/
structure FnC (P : Program) (w : World) (K : PySem.W.Frag) (mg : Str → Option Value) (base : Heap) (CX : CXT) (k : Nat) (x : Str) (ps : List Str) (sp : Sp) : Prop where
  ex : ∃ (f : Addr) (fd : FuncData), FnOk P w K mg base CX k f fd ps sp ∧ mg x = some (.ref f) ∧ PySem.W.keepIn K (.ref f) = true ∧ Binds K fd ps []
section
variable {X : Cx} {CX : CXT} {k j : Nat} {x : Str} {ps : List Str} {sp : Sp} {e : Expr} {es : List Expr} {t : TA} {p pos : Pos}
theorem pe_f {E : XK} (c : FnC X.prog X.w X.K X.mg X.base CX k x ps sp) (hr : Room j X.A) (hk : k ≤ j) (hx : Passes CX X E) (ha : PA X (e :: es) t) (hg : Gl X x := by rfl) (hdb : (x == ("__debug__" : Str)) = false := by decide)
    (he : starEach (e :: es) X.env = (false, eval e X.env) :: starEach es X.env := by rfl) (hpl : (backTo pos (starEach es X.env)).any (·.1) = false := by rfl) : PE X (.Call (.Name x p) (e :: es) [] pos) (tCall sp [] E t) := by
  obtain ⟨f, fd, F, hm, hkp, hb⟩ := c.ex
  exact pe_call F (hr.mono hk) hg hm hkp hb .nil hx ha hdb he hpl
theorem pe_fS {E : L2.St → XK} (c : FnC X.prog X.w X.K X.mg X.base CX k x ps sp) (hr : Room j X.A) (hk : k ≤ j) (hx : ∀ σ, PassesAt CX X σ (E σ)) (ha : PA X (e :: es) t) (hg : Gl X x := by rfl) (hdb : (x == ("__debug__" : Str)) = false := by decide)
    (he : starEach (e :: es) X.env = (false, eval e X.env) :: starEach es X.env := by rfl) (hpl : (backTo pos (starEach es X.env)).any (·.1) = false := by rfl) : PE X (.Call (.Name x p) (e :: es) [] pos) (tCallS sp E t) := by
  obtain ⟨f, fd, F, hm, hkp, hb⟩ := c.ex
  exact pe_callS F (hr.mono hk) hg hm hkp hb hx ha hdb he hpl
end
end SL
/-! t[::-1] of a tuple; a walk over the zip of two tuples. -/
namespace SL
open PySem PySem.Spec PyProof.Rows L2 HT
theorem fm_congr {α β : Type} {f g : α → Option β} : ∀ l : List α, (∀ k ∈ l, f k = g k) → l.filterMap f = l.filterMap g
  | [], _ => rfl
  | k :: r, h => by rw [List.filterMap_cons, List.filterMap_cons, h k (List.mem_cons_self ..), fm_congr r fun j hj => h j (List.mem_cons_of_mem _ hj)]
theorem rev_pick (xs : Array Value) : ((List.range xs.size).filterMap fun (k : Nat) => xs[(((xs.size : Int) - 1) + (k : Int) * (-1)).toNat]?).toArray = xs.toList.reverse.toArray := by
  have e : (List.range xs.size).filterMap (fun (k : Nat) => xs[(((xs.size : Int) - 1) + (k : Int) * (-1)).toNat]?) = ((List.range xs.size).map fun k => xs.size - 1 - k).filterMap (xs[·]?) := by
    rw [List.filterMap_map]
    refine fm_congr _ fun k hk => ?_
    have := List.mem_range.mp hk
    show xs[_]? = xs[xs.size - 1 - k]?
    rw [show (((xs.size : Int) - 1) + (k : Int) * (-1)).toNat = xs.size - 1 - k by omega]
  rw [e, PySem.W.krv_range, List.filterMap_reverse, PySem.W.krv_all]
section
variable {prog : Program} {w : World} {A : Around} {E : Value → Shared → Prop} {s : Shared}
theorem adjust_rev (n : Nat) : Builtin.Slice.sliceAdjust none none (-1) (n : Int) = ((n : Int) - 1, -1) := by
  unfold Builtin.Slice.sliceAdjust
  simp
theorem places_rev (n : Nat) : Builtin.Slice.slicePlaces ((n : Int) - 1) (-1) (-1) = n := by
  unfold Builtin.Slice.slicePlaces
  have h1 : ¬ ((-1 : Int) > 0) := by decide
  simp only [h1, if_false]
  rw [show (- -1 : Int) = 1 by decide, Int.ediv_one]
  split <;> omega
theorem sliceApplied_rev {sl : Addr} {vl vu vs : Value} {n : Nat} {Q : Int × Int × Nat → Shared → Prop} (hs : s.heap.IsSliceOf sl vl vu vs) (pl : IsPart vl none) (pu : IsPart vu none) (ps : IsPart vs (some (-1)))
    (h : Q ((n : Int) - 1, -1, n) s) : wpAny (model prog w) A (Builtin.Slice.sliceApplied (.ref sl) (pure (n : Int))) Q E s := by
  obtain ⟨os, hos, hcs, hds⟩ := id hs
  unfold Builtin.Slice.sliceApplied Builtin.Slice.sliceFields
  refine wpAny_bind (wpAny_bind (wpAny_field hos hds (x := vl) rfl (wpAny_bind (wpAny_field hos hds (x := vu) rfl (wpAny_bind (wpAny_field hos hds (x := vs) rfl (wpAny_pure ?_)))))))
  refine wpAny_bind (slicePart_ ps ?_)
  show wpAny _ _ (if ((-1 : Int) == 0) = true then _ else _) _ _ s
  rw [if_neg (by decide)]
  refine wpAny_bind (slicePart_ pl (wpAny_bind (slicePart_ pu (wpAny_bind (wpAny_pure ?_)))))
  show wpAny _ _ (match Builtin.Slice.sliceAdjust none none (-1) (n : Int) with | (lo, hi) => pure (lo, (-1 : Int), Builtin.Slice.slicePlaces lo hi (-1))) _ _ s
  rw [adjust_rev n]
  show wpAny _ _ (pure ((n : Int) - 1, (-1 : Int), Builtin.Slice.slicePlaces ((n : Int) - 1) (-1) (-1))) _ _ s
  rw [places_rev]
  exact wpAny_pure h
theorem getItem_tuple_rev {t sl : Addr} {items : Array Value} {vl vu vs : Value} {Q : Value → Shared → Prop} (ht : IsTup s.heap t items) (hs : s.heap.IsSliceOf sl vl vu vs) (pl : IsPart vl none) (pu : IsPart vu none) (ps : IsPart vs (some (-1)))
    (h : Q (.ref s.heap.objs.size) { s with heap := s.heap.push { cls := .type "tuple", data := .seq items.toList.reverse.toArray } })
    (hsz : items.size ≤ sizeLine) : wpAny (model prog w) A (getItem (.ref t) (.ref sl)) Q E s := by
  have htake : sizeOk (.seq items.toList.reverse.toArray) := by
    show items.toList.reverse.toArray.size ≤ sizeLine
    rw [List.size_toArray, List.length_reverse, Array.length_toList]
    exact hsz
  obtain ⟨os, hos, hcs, hds⟩ := id hs
  have hTs : s.TypeIs (.ref sl) "slice" := ⟨os, hos, hcs⟩
  unfold getItem
  try with_reducible refine wpAny_holding ?_
  first | refine wpAny_bind (wpAny_pure ?_) | skip
  refine wpAny_bind (wpAny_sequenceKey ht.typeIs (by decide) ?_)
  refine wpAny_bind (wpAny_callSpecial?_slot (name := Str.ofString "__getitem__") ht.typeIs PyProof.Rows.slot_tuple_getitem
    (wpAny_call_entry PyProof.Rows.slot_tuple_getitem ht.typeIs entry_tuple_getitem ?_ (args_tuple_getitem _ _)))
  show wpAny _ _ (Builtin.Tuple.tupleItemsOf (.ref t) >>= _) _ _ s
  refine wpAny_bind (tupleItemsOf_ ht ?_)
  refine wpAny_bind (wpAny_typeOf hTs ?_)
  rw [if_pos (by decide)]
  refine wpAny_bind (sliceApplied_rev hs pl pu ps ?_)
  have hno : ¬ ((((items.size : Int) - 1 == 0) && (-1 : Int) == 1 && items.size == items.size) = true) := by
    rw [show ((-1 : Int) == 1) = false from by decide, Bool.and_false, Bool.false_and]
    exact Bool.false_ne_true
  show wpAny _ _ (if (((items.size : Int) - 1 == 0) && (-1 : Int) == 1 && items.size == items.size) = true then _ else _) _ _ s
  rw [if_neg hno, rev_pick]
  first
    | exact wpAny_bind (m := Builtin.Tuple.tupleExact _) (wpAny_newObj_type (wpAny_pure ⟨_, rfl, wpAny_pure h⟩) htake)
    | exact wpAny_bind (m := Builtin.Tuple.tupleExact _) (wpAny_newObj_type (wpAny_bind (wpAny_pure (wpAny_pure ⟨_, rfl, wpAny_pure h⟩))) htake)
    | exact wpAny_bind (wpAny_bind (m := Builtin.Tuple.tupleExact _) (wpAny_newObj_type (wpAny_pure (wpAny_pure ⟨_, rfl, wpAny_pure h⟩)) htake))
    | exact wpAny_bind (wpAny_bind (m := Builtin.Tuple.tupleExact _) (wpAny_newObj_type (wpAny_pure ⟨_, rfl, wpAny_pure h⟩) htake))
end
section
variable {X : Cx}
def tRevT (K : PySem.W.Frag) (te : TE) : TE := fun σ H Q => te σ H fun x H1 => ∃ a xs, x = .ref a ∧ SqT K H1 a xs ∧ ∀ p, H1 p = none → Q (.ref p) (upd H1 p (.tup xs.reverse))
theorem pe_revT {e : Expr} {te : TE} {k : Nat} {p1 p2 p3 pos : Pos} (he : PE X e te) : PE X (.Subscript e (.Slice none none (some (.UnaryOp .USub (.Constant (.int 1) k p1) p2)) p3) pos) (tRevT X.K te) := by
  refine ⟨fun pins s σ H Q I h => ?_⟩
  refine Subscript_ (thn (he.run pins s σ H _ I h) fun v s1 ⟨x, H1, I1, r1, q1⟩ => ?_)
  obtain ⟨a, xs, ex, hx, q⟩ := q1
  subst ex
  cases r1
  have hst : PO X (some (.UnaryOp .USub (.Constant (.int 1) k p1) p2)) (tPart (tUn (rU fun i => .int (-i)) (tC (.int 1)))) := po_some (pe_un un_neg pe_int)
  refine wpAny_Slice (thn (po_none.run pins s1 σ H1 (fun o H2 => o = none ∧ H2 = H1) I1 ⟨rfl, rfl⟩) fun vl s2 ⟨l, H2, I2, pl, el, e2⟩ => ?_)
  subst el e2
  refine thn (po_none.run pins s2 σ H2 (fun o H3 => o = none ∧ H3 = H2) I2 ⟨rfl, rfl⟩) fun vu s3 ⟨u, H3, I3, pu, eu, e3⟩ => ?_
  subst eu e3
  refine thn (hst.run pins s3 σ H3 (fun o H4 => o = some (-1) ∧ H4 = H3) I3 ⟨1, rfl, -1, rfl, rfl, rfl⟩) fun vs s4 ⟨o, H4, I4, ps, eo, e4⟩ => ?_
  subst eo e4
  have I5 : Inv X pins σ H4 { s4 with heap := s4.heap.push { cls := .type "slice", data := .fields #[vl, vu, vs] } } := I4.kept (t' := s4.toks) fun b ob q => Heap.get?_push_of_some _ q
  obtain ⟨its, r, ht, hz⟩ := I5.tuple hx
  have hlen := r.length
  show wpAny (model X.prog X.w) X.A (subscriptTail e (.Slice none none (some (.UnaryOp .USub (.Constant (.int 1) k p1) p2)) p3) (.ref a) (.ref s4.heap.objs.size)) (EP X pins σ Q) X.xe { s4 with heap := s4.heap.push { cls := .type "slice", data := .fields #[vl, vu, vs] } }
  refine tail_any (ops := [.ref a, .ref s4.heap.objs.size]) ht.typeIs (PyProof.Rows.slot_tuple_getitem.lookup) ?_ (by with_unfolding_all rfl)
  refine getItem_tuple_rev ht (Heap.IsSliceOf.new _ vl vu vs) pl pu ps ?_ (by rw [List.size_toArray]; omega)
  refine ⟨.ref _, _, I5.laid (t' := s4.toks) (o := .tup xs.reverse) (fun b ob q => Heap.get?_push_of_some _ q) (Nat.le_refl _) ?_, rfl, q _ (I5.hok.fresh (Nat.le_refl _))⟩
  exact ⟨by rw [List.length_reverse]; exact hz, _, r.reverse, IsTup.new _ _⟩
end
theorem walk_zipT {K : PySem.W.Frag} {a b : Addr} {xs ys : List V} {n : Nat} (hn : n = min xs.length ys.length) : Walk (RZ.ItzT K a b) n (fun H => SqT K H a xs ∧ SqT K H b ys) (YPair (fun i => xs[i]?) (fun i => ys[i]?)) := by
  subst hn
  refine ⟨fun i _ hi q => ?_, fun _ q => ⟨xs, ys, q.1, q.2, by omega⟩, fun i H v H' _ q y => ?_⟩
  · have h1 : i < xs.length := by omega
    have h2 : i < ys.length := by omega
    exact ⟨xs, ys, xs[i], ys[i], q.1, q.2, by simp [h1], by simp [h2]⟩
  · obtain ⟨T, x, z, h1, h2, h3, h4, h5⟩ := y
    exact ⟨T, x, z, h1, h2, h3, h4 xs q.1, h5 ys q.2⟩
section
variable {X : Cx}
theorem pg_tupK {pos : Pos} {es : List Expr} {k : Nat} {t : TGs} {n : Nat} (K : PySem.W.Frag) (hc : X.calm = true) (h : PGs X es t) (e : X.K = K := by rfl)
    (hn : (assignEach es X.env).length = n := by rfl) (hst : (assignEach es X.env).findIdx? (·.1) = none := by rfl) : PG X (.Tuple es k pos) (gTup K n t) := by
  subst e
  exact pg_tup hc h hn hst
theorem pe_f0 {CX : CXT} {k j : Nat} {x : Str} {sp : Sp} {p pos : Pos} {E : XK} (c : FnC X.prog X.w X.K X.mg X.base CX k x [] sp) (hr : Room j X.A) (hk : k ≤ j) (hx : Passes CX X E) (hg : Gl X x := by rfl) (hdb : (x == ("__debug__" : Str)) = false := by decide) :
    PE X (.Call (.Name x p) [] [] pos) (tCall sp [] E tNil) := by
  obtain ⟨f, fd, F, hm, hkp, hb⟩ := c.ex
  exact pe_call0 F (hr.mono hk) hg hm hkp hb .nil hx hdb
end
end SL
namespace K01
open PySem PySem.Spec PyProof.Rows L2 SL
def topS (i : Nat) : Stmt := PySem.Challenge.pw_surelabels_k01_rows.main.body.getD i (.Pass ⟨0, 0, 0, 0⟩)
abbrev s_LabelError : Stmt := topS 1
abbrev s_BadRow : Stmt := topS 2
abbrev s_BadNumber : Stmt := topS 3
abbrev s_is_whole : Stmt := topS 5
abbrev s_is_within : Stmt := topS 6
abbrev s_check_within : Stmt := topS 7
abbrev s_is_row : Stmt := topS 9
abbrev s_check_row : Stmt := topS 10
abbrev s_apart : Stmt := topS 11
abbrev s_turned : Stmt := topS 12
abbrev s_cell_number : Stmt := topS 13
abbrev s_row_with : Stmt := topS 14
abbrev s_law_pool : Stmt := topS 16
abbrev s_law_draw : Stmt := topS 17
abbrev s_law_same : Stmt := topS 18
abbrev s_law_row : Stmt := topS 19
abbrev s_law_power : Stmt := topS 20
abbrev s_law_row_of : Stmt := topS 21
abbrev s_law_deep : Stmt := topS 22
abbrev s_law_apart : Stmt := topS 23
abbrev s_law_with : Stmt := topS 24
abbrev s_law_value : Stmt := topS 25
abbrev s_law_numbers_right : Stmt := topS 26
abbrev s_law : Stmt := topS 27
/-! ### what the top has written -/
structure MF (P : Program) (w : World) (K : PySem.W.Frag) (mg : Str → Option Value) (cR iR cN iN cL : Addr) : Prop where
  m_isinstance : mg "isinstance" = none
  m_int : mg "int" = none
  m_bool : mg "bool" = none
  m_str : mg "str" = none
  m_list : mg "list" = none
  m_tuple : mg "tuple" = none
  m_len : mg "len" = none
  m_all : mg "all" = none
  m_range : mg "range" = none
  m_zip : mg "zip" = none
  m_reversed : mg "reversed" = none
  m_sum : mg "sum" = none
  x_BadRow : PySem.SLX.ExTxt K mg P w "BadRow" "part" "part" (fun v => ∃ (y : Str) (t : Tok), v = .str y t ∧ (reprText y).length ≤ 1000) cR iR
  x_BadNumber : PySem.SLX.ExTxt K mg P w "BadNumber" "part" "part" (fun v => ∃ (y : Str) (t : Tok), v = .str y t ∧ (reprText y).length ≤ 1000) cN iN
  g_BadRow : mg "BadRow" = some (.ref cR)
  g_BadNumber : mg "BadNumber" = some (.ref cN)
  g_LabelError : mg "LabelError" = some (.ref cL)
  e_RR : PySem.W.exmOne K (.ref cR) (.ref cR) = some true
  e_NR : PySem.W.exmOne K (.ref cN) (.ref cR) = some false
  e_NN : PySem.W.exmOne K (.ref cN) (.ref cN) = some true
section
variable {P : Program} {w : World} {K : PySem.W.Frag} {mg : Str → Option Value} {base : Heap} {cR iR cN iN cL : Addr} {f : Addr} {fd : FuncData}
/-! ### is_whole, is_within, check_within -/
def wholeV : V → Bool
  | .int _ => true
  | _ => false
def withinV (lo hi : Int) : V → Bool
  | .int i => decide (lo ≤ i) && decide (i ≤ hi)
  | _ => false
theorem whole_of {H : Hp} {x : V} {T : String} (h : Knw K H x T) : (decide (T = "int" ∨ T = "bool") && !decide (T = "bool")) = wholeV x := by
  cases h <;> rfl
theorem sc_is_whole : FnScope ["thing"] ["thing"] (defScope s_is_whole) := ⟨rfl, rfl, rfl, by decide +kernel, rfl, by decide +kernel, by decide +kernel⟩
def spWhole (K : PySem.W.Frag) : Sp := fun vs H Q _ => ∃ x T, vs = [x] ∧ Knw K H x T ∧ Q (.bl (wholeV x)) H
theorem ok_is_whole (M : MF P w K mg cR iR cN iN cL) (F : Fun K "is_whole" "is_whole" s_is_whole f fd) : FnOk P w K mg base CX0 1 f fd ["thing"] (spWhole K) := by
  refine F.ok sc_is_whole (fun vs H Q E h => ?_) (fun cdv A outer s H vs Q E hr h => ?_)
  · obtain ⟨x, T, rfl, _⟩ := h
    rfl
  · obtain ⟨x, T, rfl, hk, q⟩ := h
    refine ⟨_, (pss_one (ps_ret (pe_and (pe_callB call_isi (by rfl) M.m_isinstance (by decide +kernel) (pa_cons (pv 0) (pa_cons (pe_bltn (v := .ty "int") (by rfl) M.m_int (by decide +kernel) rfl) pa_nil))) (pe_one (pe_not (pe_callB call_isi (by rfl) M.m_isinstance (by decide +kernel) (pa_cons (pv 0) (pa_cons (pe_bltn (v := .ty "bool") (by rfl) M.m_bool (by decide +kernel) rfl) pa_nil)))))))), ?_⟩
    refine ⟨x, rfl, x, .ty "int", _, _, _, rfl, .ty _, hk.ty, kit_int hk.mem, _, rfl, ?_⟩
    have e := whole_of hk
    by_cases c : T = "int" ∨ T = "bool"
    · rw [decide_eq_true c]
      refine iteT ?_
      refine ⟨x, rfl, x, .ty "bool", _, _, _, rfl, .ty _, hk.ty, kit_bool hk.mem, _, rfl, ?_⟩
      rw [decide_eq_true c, Bool.true_and] at e
      rw [e]
      exact q
    · rw [decide_eq_false c]
      refine iteF ?_
      rw [decide_eq_false c, Bool.false_and] at e
      rw [e]
      exact q
theorem sc_is_within : FnScope ["thing", "low", "high"] ["thing", "low", "high"] (defScope s_is_within) := ⟨rfl, rfl, rfl, by decide +kernel, rfl, by decide +kernel, by decide +kernel⟩
def spWithin (K : PySem.W.Frag) : Sp := fun vs H Q _ => ∃ x lo hi T, vs = [x, .int lo, .int hi] ∧ Knw K H x T ∧ Q (.bl (withinV lo hi x)) H
theorem ok_is_within (F_is_whole : FnC P w K mg base CX0 1 "is_whole" ["thing"] (spWhole K)) (F : Fun K "is_within" "is_within" s_is_within f fd) : FnOk P w K mg base CX0 2 f fd ["thing", "low", "high"] (spWithin K) := by
  refine F.ok sc_is_within (fun vs H Q E h => ?_) (fun cdv A outer s H vs Q E hr h => ?_)
  · obtain ⟨x, lo, hi, T, rfl, _⟩ := h
    rfl
  · obtain ⟨x, lo, hi, T, rfl, hk, q⟩ := h
    refine ⟨_, (pss_one (ps_ret (pe_and (pe_f F_is_whole hr (by omega) pass0 (pa_cons (pv 0) pa_nil)) (pe_one (pe_chain op_le op_le (pv 1) (pv 0) (pv 2)))))), ?_⟩
    refine ⟨x, rfl, x, T, rfl, hk, _, rfl, ?_⟩
    cases x with
    | int i =>
      refine iteT ?_
      refine ⟨_, rfl, _, rfl, _, _, rfl, rfl, _, rfl, ?_⟩
      by_cases c : lo ≤ i
      · rw [decide_eq_true c]
        refine iteT ⟨_, rfl, _, _, rfl, rfl, ?_⟩
        have q' : Q (.bl (decide (lo ≤ i) && decide (i ≤ hi))) H := q
        rw [decide_eq_true c, Bool.true_and] at q'
        exact q'
      · rw [decide_eq_false c]
        refine iteF ?_
        have q' : Q (.bl (decide (lo ≤ i) && decide (i ≤ hi))) H := q
        rw [decide_eq_false c, Bool.false_and] at q'
        exact q'
    | _ => exact iteF q
theorem sc_check_within : FnScope ["thing", "low", "high", "part"] ["thing", "low", "high", "part"] (defScope s_check_within) := ⟨rfl, rfl, rfl, by decide +kernel, rfl, by decide +kernel, by decide +kernel⟩
def spCheckWithin (K : PySem.W.Frag) (cN : Addr) : Sp := fun vs H Q E => ∃ x lo hi part T, vs = [x, .int lo, .int hi, .str part] ∧ Knw K H x T ∧ (reprText part).length ≤ 1000 ∧ (withinV lo hi x = true → Q .non H) ∧
  (withinV lo hi x = false → ∀ d, H d = none → E (.ref cN) (some d) (upd H d (.xd [(("part" : Str), .str part)])))
theorem ok_check_within (M : MF P w K mg cR iR cN iN cL) (F_is_within : FnC P w K mg base CX0 2 "is_within" ["thing", "low", "high"] (spWithin K)) (F : Fun K "check_within" "check_within" s_check_within f fd) :
    FnOk P w K mg base (L2.CX P w) 4 f fd ["thing", "low", "high", "part"] (spCheckWithin K cN) := by
  refine F.okX sc_check_within (fun vs H Q E h => ?_) (fun cdv A outer s H vs Q E hr h => ?_)
  · obtain ⟨x, lo, hi, part, T, rfl, _⟩ := h
    rfl
  · obtain ⟨x, lo, hi, part, T, rfl, hk, hp, q1, q2⟩ := h
    refine ⟨_, (pss_one (ps_if (pt_not (pt_val (pe_f F_is_within hr (by omega) pass0 (pa_cons (pv 0) (pa_cons (pv 1) (pa_cons (pv 2) pa_nil))))))
      (pss_one (ps_raiseEx rfl M.x_BadNumber hr (takes_of rfl rfl rfl rfl) (pa_cons (pv 3) pa_nil))) pss_nil)), ?_⟩
    refine ⟨_, rfl, _, rfl, _, rfl, x, lo, hi, T, rfl, hk, _, rfl, ?_⟩
    cases c : withinV lo hi x with
    | true => exact iteF (q1 c)
    | false =>
      refine iteT ⟨_, rfl, _, rfl, fun u ru => ?_, fun d nd => q2 c d nd⟩
      obtain ⟨t, rfl⟩ := ru
      exact ⟨part, t, rfl, hp⟩
end

section
variable {P : Program} {w : World} {K : PySem.W.Frag} {mg : Str → Option Value} {base : Heap} {cR iR cN iN cL : Addr} {f : Addr} {fd : FuncData}
/-! ### is_row, check_row -/
inductive RowV (K : PySem.W.Frag) (H : Hp) : V → Bool → Prop
  | no {x : V} {T : String} (h : Knw K H x T) (n : T ≠ "tuple") : RowV K H x false
  | tup {a : Addr} {xs : List V} (h : SqT K H a xs) (k : ∀ y ∈ xs, ∃ T, Knw K H y T) (z : xs.length ≤ 100000) : RowV K H (.ref a) (xs.all (withinV 0 1))
theorem RowV.same {H H' : Hp} {x : V} {b : Bool} (s : Same H H') (r : RowV K H x b) : RowV K H' x b := by
  cases r with
  | no h n => exact .no (h.same s) n
  | tup h k z => exact .tup (Same.seqT s h) (fun y hy => let ⟨T, q⟩ := k y hy; ⟨T, q.same s⟩) z
theorem sc_is_row : FnScope ["thing", "cell"] ["thing"] (defScope s_is_row) := ⟨rfl, rfl, rfl, by decide +kernel, rfl, by decide +kernel, by decide +kernel⟩
def spRowQ (K : PySem.W.Frag) : Sp := fun vs H Q _ => ∃ x b, vs = [x] ∧ RowV K H x b ∧ ∀ H', Same H H' → Q (.bl b) H'
theorem ok_is_row (M : MF P w K mg cR iR cN iN cL) (F_is_within : FnC P w K mg base CX0 2 "is_within" ["thing", "low", "high"] (spWithin K)) (F : Fun K "is_row" "is_row" s_is_row f fd) : FnOk P w K mg base CX0 4 f fd ["thing"] (spRowQ K) := by
  refine F.ok sc_is_row (fun vs H Q E h => ?_) (fun cdv A outer s H vs Q E hr h => ?_)
  · obtain ⟨x, b, rfl, _⟩ := h
    rfl
  · obtain ⟨x, b, rfl, hb, q⟩ := h
    refine ⟨_, (pss_one (ps_ret (pe_and (pe_callB call_isi (by rfl) M.m_isinstance (by decide +kernel) (pa_cons (pv 0) (pa_cons (pe_bltn (v := .ty "tuple") (by rfl) M.m_tuple (by decide +kernel) rfl) pa_nil))) (pe_one (pe_callB (cr_all rfl) (by rfl) M.m_all (by decide +kernel) (pa_cons (pe_lc (own := [("cell", 1)]) (tt := tYes) rfl sc_is_row.nd (pi_tup (pv 0)) (blkOk_by (N := ["thing", "cell"]) (sc := defScope s_is_row) (by decide +kernel)) (fun _ _ _ _ _ => (pg_name (i := 1) sc_is_row.nd rfl (Or.inl rfl))) (fun _ _ _ _ _ => pts_nil) (fun _ _ _ _ _ => (pe_f F_is_within hr (by omega) pass0 (pa_cons (pv 1) (pa_cons pe_int (pa_cons pe_int pa_nil)))))) pa_nil)))))), ?_⟩
    cases hb with
    | @no _ T hk n =>
      refine ⟨x, rfl, x, .ty "tuple", _, _, _, rfl, .ty _, hk.ty, kit_tuple hk.mem, _, rfl, ?_⟩
      rw [decide_eq_false n]
      exact iteF (q H (Same.refl H))
    | @tup a xs h k z =>
      refine ⟨.ref a, rfl, .ref a, .ty "tuple", _, _, _, rfl, .ty _, (Knw.tup h).ty, kit_tuple (Knw.tup h).mem, _, rfl, ?_⟩
      refine iteT ⟨.ref a, rfl, a, rfl, ⟨xs, h⟩, fun D nD => ?_⟩
      refine lc_tup (K := K) (a := a) (xs := xs) (fun i H' => Same H H' ∧ H' D = some (.lst ((xs.take i).map fun v => V.bl (withinV 0 1 v)))) ⟨same_upd nD, upd_same⟩ (fun i H' _ p => Same.seqT p.1 h) (fun i y H' hy p => ?_) (fun H' p => ?_)
      · obtain ⟨T, hT⟩ := k y (List.mem_of_getElem? hy)
        refine ⟨rfl, lc_yes ⟨y, rfl, y, 0, 1, T, rfl, hT.same p.1, _, p.2, ?_, ?_⟩⟩
        · rw [List.length_map, List.length_take]
          exact lineN (Nat.le_trans (Nat.min_le_right _ _) z)
        · refine ⟨fun b o e => ?_, ?_⟩
          · rw [upd_ne (ne_of_none e nD)]
            exact p.1 _ _ e
          · rw [upd_same, List.take_add_one, hy, List.map_append]
            rfl
      · refine ⟨D, xs.map (withinV 0 1), rfl, SqL.of ?_, ?_⟩
        · rw [p.2, List.take_length, List.map_map]
          rfl
        · rw [List.all_map]
          exact q H' p.1
theorem sc_check_row : FnScope ["thing", "part"] ["thing", "part"] (defScope s_check_row) := ⟨rfl, rfl, rfl, by decide +kernel, rfl, by decide +kernel, by decide +kernel⟩
def spCheckRow (K : PySem.W.Frag) (cR : Addr) : Sp := fun vs H Q E => ∃ x b part, vs = [x, .str part] ∧ RowV K H x b ∧ (reprText part).length ≤ 1000 ∧ (b = true → ∀ H', Same H H' → Q .non H') ∧
  (b = false → ∀ H' d, Same H H' → H' d = none → E (.ref cR) (some d) (upd H' d (.xd [(("part" : Str), .str part)])))
theorem ok_check_row (M : MF P w K mg cR iR cN iN cL) (F_is_row : FnC P w K mg base CX0 4 "is_row" ["thing"] (spRowQ K)) (F : Fun K "check_row" "check_row" s_check_row f fd) : FnOk P w K mg base (L2.CX P w) 6 f fd ["thing", "part"] (spCheckRow K cR) := by
  refine F.okX sc_check_row (fun vs H Q E h => ?_) (fun cdv A outer s H vs Q E hr h => ?_)
  · obtain ⟨x, b, part, rfl, _⟩ := h
    rfl
  · obtain ⟨x, b, part, rfl, hb, hp, q1, q2⟩ := h
    refine ⟨_, (pss_one (ps_if (pt_not (pt_val (pe_f F_is_row hr (by omega) pass0 (pa_cons (pv 0) pa_nil))))
      (pss_one (ps_raiseEx rfl M.x_BadRow hr (takes_of rfl rfl rfl rfl) (pa_cons (pv 1) pa_nil))) pss_nil)), ?_⟩
    refine ⟨_, rfl, x, b, rfl, hb, fun H' s' => ⟨_, rfl, ?_⟩⟩
    cases b with
    | true => exact iteF (q1 rfl H' s')
    | false =>
      refine iteT ⟨_, rfl, _, rfl, fun u ru => ?_, fun d nd => q2 rfl H' d s' nd⟩
      obtain ⟨t, rfl⟩ := ru
      exact ⟨part, t, rfl, hp⟩
/-! ### cell_number -/
def numOf (ns : List Int) : Int := ns.foldl (fun n c => 2 * n + c) 0
theorem take_more {α : Type} : ∀ {l : List α} {i : Nat} {x : α}, l[i]? = some x → l.take (i + 1) = l.take i ++ [x] := fun {l i x} h => by rw [List.take_add_one, h]; rfl
theorem sc_cell_number : FnScope ["row", "number", "cell"] ["row"] (defScope s_cell_number) := ⟨rfl, rfl, rfl, by decide +kernel, rfl, by decide +kernel, by decide +kernel⟩
def spCellNumber (K : PySem.W.Frag) : Sp := fun vs H Q _ => ∃ a ns, vs = [.ref a] ∧ SqT K H a (ns.map V.int) ∧ Q (.int (numOf ns)) H
theorem ok_cell_number (F : Fun K "cell_number" "cell_number" s_cell_number f fd) : FnOk P w K mg base CX0 1 f fd ["row"] (spCellNumber K) := by
  refine F.ok sc_cell_number (fun vs H Q E h => ?_) (fun cdv A outer s H vs Q E hr h => ?_)
  · obtain ⟨a, ns, rfl, _⟩ := h
    rfl
  · obtain ⟨a, ns, rfl, hS, q⟩ := h
    refine ⟨_, (pss_cons (ps_set (i := 1) sc_cell_number.nd rfl (Or.inl rfl) pe_int)
      (pss_cons (ps_for PassesOwn.never rfl (pi_tup (pv 0)) (pg_name (i := 2) sc_cell_number.nd rfl (Or.inl rfl))
      (pss_one (ps_set (i := 1) sc_cell_number.nd rfl (Or.inl rfl) (pe_op op_add (pe_op op_mul pe_int (pv 1)) (pv 2)))))
      (pss_one (ps_ret (pv 1))))), ?_⟩
    refine ⟨_, rfl, a, rfl, ⟨_, hS⟩, for_tup (K := K) (a := a) (xs := ns.map V.int) (fun i σ H' => H' = H ∧ ∃ v, σ = [some (.ref a), some (.int (numOf (ns.take i))), v]) ⟨rfl, none, rfl⟩ (fun i σ H' _ p => by rw [p.1]; exact hS) ?_ ?_⟩
    · rintro i y σ H' hy ⟨rfl, v, rfl⟩
      rw [List.getElem?_map] at hy
      cases e : ns[i]? with
      | none =>
        rw [e] at hy
        cases hy
      | some c =>
        rw [e] at hy
        cases hy
        refine ⟨_, rfl, _, _, rfl, rfl, .inl ⟨by decide, by decide⟩, _, rfl, _, _, rfl, rfl, rfl, some (.int c), ?_⟩
        rw [take_more e]
        show [_, some (V.int (2 * numOf (ns.take i) + c)), _] = _
        unfold numOf
        rw [List.foldl_append]
        rfl
    · rintro σ H' ⟨rfl, v, rfl⟩
      rw [List.length_map, List.take_length]
      exact ⟨_, rfl, q⟩
end

section
variable {P : Program} {w : World} {K : PySem.W.Frag} {mg : Str → Option Value} {base : Heap} {cR iR cN iN cL : Addr} {f : Addr} {fd : FuncData}
/-! ### apart, turned, row_with -/
def raised (c : Addr) (part : Str) (E : XK) (H : Hp) : Prop := ∀ H' d, Same H H' → H' d = none → E (.ref c) (some d) (upd H' d (.xd [(("part" : Str), .str part)]))
/-- the number of the first n places at which the two differ -/
def unl (ns ms : List Int) (n : Nat) : Nat := ((List.range n).filter fun k => decide (ns.getD k 0 ≠ ms.getD k 0)).length
theorem unl_le (ns ms : List Int) (n : Nat) : unl ns ms n ≤ n := by
  have h := List.length_filter_le (fun k => decide (ns.getD k 0 ≠ ms.getD k 0)) (List.range n)
  rw [List.length_range] at h
  exact h
theorem unl_yes {ns ms : List Int} {n : Nat} {x y : Int} (h1 : ns[n]? = some x) (h2 : ms[n]? = some y) (h : x ≠ y) : unl ns ms (n + 1) = unl ns ms n + 1 := by
  unfold unl
  rw [List.range_succ, List.filter_append, List.length_append]
  simp [List.getD, h1, h2, h]
theorem unl_no {ns ms : List Int} {n : Nat} {x y : Int} (h1 : ns[n]? = some x) (h2 : ms[n]? = some y) (h : x = y) : unl ns ms (n + 1) = unl ns ms n := by
  unfold unl
  rw [List.range_succ, List.filter_append, List.length_append]
  simp [List.getD, h1, h2, h]
theorem map_int {ns : List Int} {i : Nat} {v : V} (h : (ns.map V.int)[i]? = some v) : ∃ c, ns[i]? = some c ∧ v = .int c := by
  rw [List.getElem?_map] at h
  cases e : ns[i]? with
  | none =>
    rw [e] at h
    cases h
  | some c =>
    rw [e] at h
    cases h
    exact ⟨c, rfl, rfl⟩
theorem sc_apart : FnScope ["one", "other", "cell", "beside"] ["one", "other"] (defScope s_apart) := ⟨rfl, rfl, rfl, by decide +kernel, rfl, by decide +kernel, by decide +kernel⟩
def spApart (K : PySem.W.Frag) (cR : Addr) : Sp := fun vs H Q E => ∃ x y b1 b2, vs = [x, y] ∧ RowV K H x b1 ∧ RowV K H y b2 ∧ (b1 = false → raised cR "one" E H) ∧ (b1 = true → b2 = false → raised cR "other" E H) ∧
  (b1 = true → b2 = true → ∃ (a b : Addr) (ns ms : List Int), x = .ref a ∧ y = .ref b ∧ SqT K H a (ns.map V.int) ∧ SqT K H b (ms.map V.int) ∧ ns.length ≤ 100000 ∧ (ns.length ≠ ms.length → raised cR "length" E H) ∧
    (ns.length = ms.length → ∀ H', Same H H' → Q (.int (unl ns ms ns.length : Nat)) H'))
theorem ok_apart (M : MF P w K mg cR iR cN iN cL) (F_check_row : FnC P w K mg base (L2.CX P w) 6 "check_row" ["thing", "part"] (spCheckRow K cR)) (F : Fun K "apart" "apart" s_apart f fd) :
    FnOk P w K mg base (L2.CX P w) 8 f fd ["one", "other"] (spApart K cR) := by
  refine F.okX sc_apart (fun vs H Q E h => ?_) (fun cdv A outer s H vs Q E hr h => ?_)
  · obtain ⟨x, y, b1, b2, rfl, _⟩ := h
    rfl
  · obtain ⟨x, y, b1, b2, rfl, r1, r2, e1, e2, e3⟩ := h
    refine ⟨_, (pss_cons (ps_expr (pe_f F_check_row hr (by omega) (passes_call (takes_of rfl rfl rfl rfl) (fun _ _ _ _ h => h)) (pa_cons (pv 0) (pa_cons pe_str pa_nil))))
      (pss_cons (ps_expr (pe_f F_check_row hr (by omega) (passes_call (takes_of rfl rfl rfl rfl) (fun _ _ _ _ h => h)) (pa_cons (pv 1) (pa_cons pe_str pa_nil))))
      (pss_cons (ps_if (pt_cmpR op_ne (pe_callB call_len_seq (by rfl) M.m_len (by decide +kernel) (pa_cons (pv 0) pa_nil)) (pe_callB call_len_seq (by rfl) M.m_len (by decide +kernel) (pa_cons (pv 1) pa_nil)) (nomark _))
      (pss_one (ps_raiseEx rfl M.x_BadRow hr (takes_of rfl rfl rfl rfl) (pa_cons pe_str pa_nil))) pss_nil)
      (pss_one (ps_ret (pe_callB call_len_seq (by rfl) M.m_len (by decide +kernel) (pa_cons (pe_lc (own := [("cell", 2), ("beside", 3)]) rfl sc_apart.nd (RZ.pi_zipA (by rfl) M.m_zip (pa_cons (pv 0) (pa_cons (pv 1) pa_nil))) (blkOk_by (N := ["one", "other", "cell", "beside"]) (sc := defScope s_apart) (by decide +kernel)) (fun _ _ _ _ _ => (pg_tupK (n := 2) K rfl (pgs_cons (pg_name (i := 2) sc_apart.nd rfl (Or.inl rfl)) (pgs_cons (pg_name (i := 3) sc_apart.nd rfl (Or.inl rfl)) pgs_nil)))) (fun _ _ _ _ _ => (pts_one (pt_cmpR op_ne (pv 2) (pv 3) (nomark _)))) (fun _ _ _ _ _ => pe_int)) pa_nil))))))), ?_⟩
    refine ⟨x, rfl, x, b1, _, rfl, r1, by decide +kernel, fun t1 H1 s1 => ?_, fun z H' d s' nd => e1 z H' d s' nd⟩
    refine ⟨y, rfl, y, b2, _, rfl, r2.same s1, by decide +kernel, fun t2 H2 s2 => ?_, fun z H' d s' nd => e2 t1 z H' d (s1.trans s') nd⟩
    obtain ⟨a, b, ns, ms, rfl, rfl, h1, h2, z, e4, q⟩ := e3 t1 t2
    have s12 := s1.trans s2
    have g1 := Same.seqT s12 h1
    have g2 := Same.seqT s12 h2
    refine ⟨.ref a, rfl, a, _, rfl, .inr g1, .ref b, rfl, b, _, rfl, .inr g2, rfl, _, rfl, ?_⟩
    rw [List.length_map, List.length_map]
    by_cases c : ns.length = ms.length
    · rw [show decide (V.int (ns.length : Nat) = V.int (ms.length : Nat)) = true from decide_eq_true (by rw [c])]
      refine iteF ?_
      refine ⟨.ref a, rfl, .ref b, rfl, a, b, _, _, rfl, .inr ⟨g1, g2, fun D nD => ?_⟩⟩
      refine lc_it (walk_zipT (K := K) (a := a) (b := b) (xs := ns.map V.int) (ys := ms.map V.int) (n := ns.length) (by rw [List.length_map, List.length_map]; omega))
        (fun i H' => Same H2 H' ∧ H' D = some (.lst (List.replicate (unl ns ms i) (V.int 1)))) ⟨same_upd nD, upd_same⟩ (fun i H' _ p => ⟨Same.seqT p.1 g1, Same.seqT p.1 g2⟩) (fun i v H' H3 hi p y => ?_) (fun H' p => ?_)
      · obtain ⟨T, u1, u2, rfl, nT, rfl, y1, y2⟩ := y
        obtain ⟨c1, k1, rfl⟩ := map_int y1
        obtain ⟨c2, k2, rfl⟩ := map_int y2
        have nDT : D ≠ T := ne_of_none p.2 nT
        have eD : (upd H' T (.tup [.int c1, .int c2])) D = some (.lst (List.replicate (unl ns ms i) (V.int 1))) := by
          rw [upd_ne nDT]
          exact p.2
        have sT := p.1.trans (same_upd (o := .tup [.int c1, .int c2]) nT)
        refine ⟨T, _, rfl, SqT.of upd_same, rfl, _, _, rfl, _, _, rfl, rfl, rfl, _, rfl, _, rfl, rfl, _, rfl, ?_⟩
        by_cases cc : c1 = c2
        · rw [show decide (V.int c1 = V.int c2) = true from decide_eq_true (by rw [cc])]
          refine iteF ⟨sT, ?_⟩
          rw [unl_no k1 k2 cc]
          exact eD
        · rw [show decide (V.int c1 = V.int c2) = false from decide_eq_false fun z => cc (V.int.inj z)]
          refine iteT ⟨_, eD, ?_, ?_, ?_⟩
          · rw [List.length_replicate]
            have := unl_le ns ms i
            exact lineN (by omega)
          · exact fun b o e => by
              rw [upd_ne (ne_of_none e nD)]
              exact sT _ _ e
          · rw [upd_same, unl_yes k1 k2 cc, List.replicate_succ']
      · refine ⟨D, _, rfl, .inl (SqL.of p.2), ?_⟩
        rw [List.length_replicate]
        exact q c H' (s12.trans p.1)
    · rw [show decide (V.int (ns.length : Nat) = V.int (ms.length : Nat)) = false from decide_eq_false fun z => c (by have := V.int.inj z; omega)]
      refine iteT ⟨_, rfl, fun u ru => ?_, fun d nd => e4 c H2 d s12 nd⟩
      obtain ⟨t, rfl⟩ := ru
      exact ⟨_, t, rfl, by decide +kernel⟩
theorem sc_turned : FnScope ["row"] ["row"] (defScope s_turned) := ⟨rfl, rfl, rfl, by decide +kernel, rfl, by decide +kernel, by decide +kernel⟩
def spTurned (K : PySem.W.Frag) : Sp := fun vs H Q _ => ∃ a xs, vs = [.ref a] ∧ SqT K H a xs ∧ ∀ r, H r = none → Q (.ref r) (upd H r (.tup xs.reverse))
theorem ok_turned (F : Fun K "turned" "turned" s_turned f fd) : FnOk P w K mg base CX0 1 f fd ["row"] (spTurned K) := by
  refine F.ok sc_turned (fun vs H Q E h => ?_) (fun cdv A outer s H vs Q E hr h => ?_)
  · obtain ⟨a, xs, rfl, _⟩ := h
    rfl
  · obtain ⟨a, xs, rfl, hS, q⟩ := h
    refine ⟨_, (pss_one (ps_ret (pe_revT (pv 0)))), ?_⟩
    exact ⟨_, rfl, a, xs, rfl, hS, q⟩
/-- the digits of a number, the highest first -/
def digits (N W : Nat) : List Int := (List.range W).map fun i => ((N / 2 ^ (W - 1 - i) % 2 : Nat) : Int)
theorem sc_row_with : FnScope ["number", "width", "place"] ["number", "width"] (defScope s_row_with) := ⟨rfl, rfl, rfl, by decide +kernel, rfl, by decide +kernel, by decide +kernel⟩
def spRowWith (K : PySem.W.Frag) (cN : Addr) : Sp := fun vs H Q E => ∃ nv wv T1 T2, vs = [nv, wv] ∧ Knw K H nv T1 ∧ Knw K H wv T2 ∧ (withinV 0 12 wv = false → raised cN "width" E H) ∧
  (withinV 0 12 wv = true → ∃ W : Nat, wv = .int (W : Int) ∧ (withinV 0 (2 ^ W - 1) nv = false → raised cN "number" E H) ∧
    (withinV 0 (2 ^ W - 1) nv = true → ∃ N : Nat, nv = .int (N : Int) ∧ ∀ H' r, Same H H' → H r = none → H' r = some (.tup ((digits N W).map V.int)) → Q (.ref r) H'))
theorem ok_row_with (M : MF P w K mg cR iR cN iN cL) (F_check_within : FnC P w K mg base (L2.CX P w) 4 "check_within" ["thing", "low", "high", "part"] (spCheckWithin K cN)) (F : Fun K "row_with" "row_with" s_row_with f fd) :
    FnOk P w K mg base (L2.CX P w) 6 f fd ["number", "width"] (spRowWith K cN) := by
  refine F.okX sc_row_with (fun vs H Q E h => ?_) (fun cdv A outer s H vs Q E hr h => ?_)
  · obtain ⟨nv, wv, T1, T2, rfl, _⟩ := h
    rfl
  · obtain ⟨nv, wv, T1, T2, rfl, k1, k2, e1, e2⟩ := h
    refine ⟨_, (pss_cons (ps_expr (pe_f F_check_within hr (by omega) (passes_call (takes_of rfl rfl rfl rfl) (fun _ _ _ _ h => h)) (pa_cons (pv 1) (pa_cons pe_int (pa_cons pe_int (pa_cons pe_str pa_nil))))))
      (pss_cons (ps_expr (pe_f F_check_within hr (by omega) (passes_call (takes_of rfl rfl rfl rfl) (fun _ _ _ _ h => h)) (pa_cons (pv 0) (pa_cons pe_int (pa_cons (pe_op op_sub (pe_op op_oneShl pe_int (pv 1)) pe_int) (pa_cons pe_str pa_nil))))))
      (pss_one (ps_ret (pe_callTy call_tuple_of (by rfl) M.m_tuple (by decide +kernel) (pa_cons (pe_lc (own := [("place", 2)]) (tt := tYes) rfl sc_row_with.nd (pi_revR (by rfl) M.m_reversed (prg_1 (by rfl) M.m_range (pv 1))) (blkOk_by (N := ["number", "width", "place"]) (sc := defScope s_row_with) (by decide +kernel)) (fun _ _ _ _ _ => (pg_name (i := 2) sc_row_with.nd rfl (Or.inl rfl))) (fun _ _ _ _ _ => pts_nil) (fun _ _ _ _ _ => (pe_op op_odd (pe_op op_shrN (pv 0) (pv 2)) pe_int))) pa_nil)))))), ?_⟩
    refine ⟨wv, rfl, wv, 0, 12, _, T2, rfl, k2, by decide +kernel, fun w1 => ?_, fun w0 d nd => e1 w0 H d (Same.refl H) nd⟩
    obtain ⟨W, rfl, e3, q⟩ := e2 w1
    have w1' : (decide ((0 : Int) ≤ W) && decide ((W : Int) ≤ 12)) = true := w1
    rw [Bool.and_eq_true, decide_eq_true_eq, decide_eq_true_eq] at w1'
    obtain ⟨l1, l2⟩ := w1'
    refine ⟨nv, rfl, .int (W : Int), rfl, W, rfl, rfl, by omega, _, _, rfl, rfl, nv, 0, 2 ^ W - 1, _, T1, rfl, k1, by decide +kernel, fun n1 => ?_, fun n0 d nd => e3 n0 H d (Same.refl H) nd⟩
    obtain ⟨N, rfl, q2⟩ := q n1
    refine ⟨_, rfl, (W : Int), rfl, by decide, by decide, by omega, by omega, fun D nD => ?_⟩
    have eW : ((W : Int) - 0).toNat = W := by omega
    rw [eW]
    refine lc_rangeC (fun i H' => Same H H' ∧ H' D = some (.lst (((digits N W).take i).map V.int))) ⟨same_upd nD, upd_same⟩ (fun i H' hi p => ?_) (fun H' p => ?_)
    · have ei : (0 : Int) + (W : Int) - 1 + (i : Nat) * (-1) = ((W - 1 - i : Nat) : Int) := by omega
      refine ⟨rfl, lc_yes ⟨_, rfl, _, rfl, (N : Int), W - 1 - i, rfl, ?_, N / 2 ^ (W - 1 - i), ?_, rfl, _, p.2, ?_, ?_, ?_⟩⟩
      · rw [ei]
      · rw [Int.natCast_ediv, Int.natCast_pow]
        rfl
      · rw [List.length_map, List.length_take]
        exact lineN (by omega)
      · exact fun b o e => by
          rw [upd_ne (ne_of_none e nD)]
          exact p.1 _ _ e
      · have ed : (digits N W)[i]? = some ((N / 2 ^ (W - 1 - i) % 2 : Nat) : Int) := by
          unfold digits
          rw [List.getElem?_map, List.getElem?_range hi]
          rfl
        rw [upd_same, take_more ed, List.map_append]
        rfl
    · have el : (digits N W).length = W := by
        unfold digits
        rw [List.length_map, List.length_range]
      refine ⟨D, _, rfl, .inl ⟨SqL.of p.2, fun r nr => ?_⟩⟩
      rw [List.take_of_length_le (by omega)]
      exact q2 _ r (p.1.trans (same_upd nr)) (p.1.free nr) upd_same
end

end K01
namespace K01
open PySem PySem.Spec PyProof.Rows L2 SL
section
variable {P : Program} {w : World} {K : PySem.W.Frag} {mg : Str → Option Value} {base : Heap} {cR iR cN iN cL : Addr} {f : Addr} {fd : FuncData}
/-! ### _law_pool, _law_draw, _law_row -/
/-- the pool at p, its numbers at q -/
def PoolAt (H : Hp) (p q : Addr) : Prop := ∃ (ms : List Int) (c u d e : Int), H p = some (.lst [.ref q, .int c, .int u, .int d, .int e]) ∧ H q = some (.lst (ms.map V.int)) ∧ p ≠ q ∧ 0 ≤ c ∧ 0 ≤ u ∧ 0 ≤ d ∧ 0 ≤ e ∧ e < 2147483629
theorem sc_law_pool : FnScope ["script", "seed", "value"] ["script"] (defScope s_law_pool) := ⟨rfl, rfl, rfl, by decide +kernel, rfl, by decide +kernel, by decide +kernel⟩
def spPool (K : PySem.W.Frag) : Sp := fun vs H Q _ => ∃ (a : Addr) (ns : List Int), vs = [.ref a] ∧ SqL K H a (ns.map V.int) ∧ ns.length ≤ 63 ∧ ∀ H' p q, Same H H' → H p = none → PoolAt H' p q → Q (.ref p) H'
theorem ok_law_pool (M : MF P w K mg cR iR cN iN cL) (F : Fun K "_law_pool" "_law_pool" s_law_pool f fd) : FnOk P w K mg base CX0 1 f fd ["script"] (spPool K) := by
  refine F.ok sc_law_pool (fun vs H Q E h => ?_) (fun cdv A outer s H vs Q E hr h => ?_)
  · obtain ⟨a, ns, rfl, _⟩ := h
    rfl
  · obtain ⟨a, ns, rfl, hS, hl, q⟩ := h
    refine ⟨_, (pss_cons (ps_set (i := 1) sc_law_pool.nd rfl (Or.inl rfl) pe_int)
      (pss_cons (ps_for PassesOwn.never rfl (pi_list (pe_slice sl_list (pv 0) po_none (po_some pe_int))) (pg_name (i := 2) sc_law_pool.nd rfl (Or.inl rfl))
      (pss_one (ps_set (i := 1) sc_law_pool.nd rfl (Or.inl rfl) (pe_op op_mod (pe_callTy call_int1 (by rfl) M.m_int (by decide +kernel) (pa_cons (pe_op op_add (pe_op op_add (pe_op op_mul (pv 1) pe_int) (pv 2)) pe_int) pa_nil)) pe_int))))
      (pss_one (ps_ret (pe_lst (pa_cons (pe_callTy call_list_of (by rfl) M.m_list (by decide +kernel) (pa_cons (pe_slice sl_list (pv 0) po_none (po_some pe_int)) pa_nil)) (pa_cons pe_int (pa_cons pe_int (pa_cons pe_int (pa_cons (pv 1) pa_nil)))))))))), ?_⟩
    have cut : cutV (ns.map V.int) none (some 63) = ns.map V.int := by
      unfold cutV
      rw [HT.sIx_none, show HT.sIx (ns.map V.int).length (ns.map V.int).length (some 63) = min 63 (ns.map V.int).length from HT.sIx_nat _ _ 63, List.drop_zero, Nat.sub_zero, List.length_map, Nat.min_eq_right hl, List.take_of_length_le (by rw [List.length_map]; exact Nat.le_refl _)]
    refine ⟨.ref a, rfl, 63, rfl, a, _, rfl, hS, fun c nc => ?_⟩
    rw [cut]
    have s1 : Same H (upd H c (.lst (ns.map V.int))) := same_upd nc
    refine ⟨c, rfl, ⟨_, SqL.of upd_same⟩, for_list (K := K) (a := c) (xs := ns.map V.int) (fun i σ H' => Same H H' ∧ H' c = some (.lst (ns.map V.int)) ∧ ∃ e v, σ = [some (.ref a), some (.int e), v] ∧ 0 ≤ e ∧ e < 2147483629) ⟨s1, upd_same, 31, none, rfl, by decide, by decide⟩ (fun i σ H' _ p => SqL.of p.2.1) ?_ ?_⟩
    · rintro i y σ H' hy ⟨s', ec, e, v, rfl, l1, l2⟩
      rw [List.getElem?_map] at hy
      cases en : ns[i]? with
      | none =>
        rw [en] at hy
        cases hy
      | some n =>
        rw [en] at hy
        cases hy
        refine ⟨_, rfl, _, _, rfl, rfl, .inr ⟨by decide, by decide⟩, _, rfl, _, _, rfl, rfl, _, _, rfl, rfl, .inl ⟨_, rfl, _, _, rfl, rfl, pos_i rfl, s', ec, _, _, rfl, Int.emod_nonneg _ (by decide), Int.emod_lt_of_pos _ (by decide)⟩⟩
    · rintro σ H' ⟨s', ec, e, v, rfl, l1, l2⟩
      have hS' := s'.seq hS
      refine ⟨.ref a, rfl, 63, rfl, a, _, rfl, hS', fun c2 nc2 => ?_⟩
      rw [cut]
      refine ⟨c2, _, rfl, .inl (SqL.of upd_same), fun l nl => ⟨_, rfl, few (n := 5) (by decide), fun p np => ?_⟩⟩
      have nlc : l ≠ c2 := fun z => by
        rw [z, upd_same] at nl
        cases nl
      have sl : Same H' (upd (upd H' c2 (.lst (ns.map V.int))) l (.lst (ns.map V.int))) := (same_upd nc2).trans (same_upd nl)
      have npl : p ≠ l := fun z => by
        rw [z, upd_same] at np
        cases np
      refine q _ p l (s'.trans (sl.trans (same_upd np))) ((s'.trans sl).free np) ⟨ns, 0, 0, 0, e, upd_same, ?_, npl, by decide, by decide, by decide, l1, l2⟩
      rw [upd_ne npl.symm, upd_same]
theorem sc_law_draw : FnScope ["pool", "many", "value", "digit", "mixed"] ["pool", "many"] (defScope s_law_draw) := ⟨rfl, rfl, rfl, by decide +kernel, rfl, by decide +kernel, by decide +kernel⟩
def spDraw : Sp := fun vs H Q _ => ∃ (p q : Addr) (m : Int), vs = [.ref p, .int m] ∧ PoolAt H p q ∧ 0 < m ∧ m < 1073741824 ∧ ∀ H' d, Same (off H p) (off H' p) → PoolAt H' p q → 0 ≤ d → d < m → Q (.int d) H'
theorem ok_law_draw (M : MF P w K mg cR iR cN iN cL) (F : Fun K "_law_draw" "_law_draw" s_law_draw f fd) : FnOk P w K mg base CX0 1 f fd ["pool", "many"] spDraw := by
  refine F.ok sc_law_draw (fun vs H Q E h => ?_) (fun cdv A outer s H vs Q E hr h => ?_)
  · obtain ⟨p, q, m, rfl, _⟩ := h
    rfl
  · obtain ⟨p, q, m, rfl, ⟨ms, c, u, d, e, hp, hq, npq, c0, u0, d0, e0, e1⟩, m0, m1, k⟩ := h
    refine ⟨_, (Evl.pss_cut (ps_asg (pe_op op_add (pe_ix ix_list (pv 0) pe_int (fun _ _ => rfl)) pe_int) (pg_sub (pv 0) pe_int set_list))
      (Evl.pss_cut (ps_if (PW.pt (pw_and (pt_cmpR op_eq (pe_ix ix_list (pv 0) pe_int (fun _ _ => rfl)) pe_int (nomark _)) (pw_and1 (pt_cmpR op_lt (pe_ix ix_list (pv 0) pe_int (fun _ _ => rfl)) (pe_callB call_len_seq (by rfl) M.m_len (by decide +kernel) (pa_cons (pe_ix ix_list (pv 0) pe_int (fun _ _ => rfl)) pa_nil)) (nomark _)))))
      (pss_cons (ps_set (i := 2) sc_law_draw.nd rfl (Or.inl rfl) (pe_ix ix_list (pe_ix ix_list (pv 0) pe_int (fun _ _ => rfl)) (pe_ix ix_list (pv 0) pe_int (fun _ _ => rfl)) (fun _ _ => rfl)))
      (pss_cons (ps_asg (pe_op op_add (pe_ix ix_list (pv 0) pe_int (fun _ _ => rfl)) pe_int) (pg_sub (pv 0) pe_int set_list))
      (pss_one (ps_if (pt_cmpR op_ge (pv 2) (pe_op op_pow pe_int pe_int) (nomark _))
      (pss_one (ps_asg (pv 2) (pg_sub (pv 0) pe_int set_list))) (pss_one (ps_asg (pe_op op_mod (pe_callTy call_int1 (by rfl) M.m_int (by decide +kernel) (pa_cons (pe_op op_add (pe_op op_add (pe_op op_mul (pe_ix ix_list (pv 0) pe_int (fun _ _ => rfl)) pe_int) (pv 2)) pe_int) pa_nil)) pe_int) (pg_sub (pv 0) pe_int set_list))))))) pss_nil)
      (pss_cons (ps_if (pt_cmpR op_gt (pe_ix ix_list (pv 0) pe_int (fun _ _ => rfl)) pe_int (nomark _))
      (pss_cons (ps_set (i := 3) sc_law_draw.nd rfl (Or.inl rfl) (pe_op op_mod (pe_callTy call_int1 (by rfl) M.m_int (by decide +kernel) (pa_cons (pe_ix ix_list (pv 0) pe_int (fun _ _ => rfl)) pa_nil)) (pv 1)))
      (pss_cons (ps_asg (pe_op op_fdiv (pe_ix ix_list (pv 0) pe_int (fun _ _ => rfl)) (pv 1)) (pg_sub (pv 0) pe_int set_list))
      (pss_one (ps_ret (pv 3))))) pss_nil)
      (Evl.pss_cut (ps_set (i := 4) sc_law_draw.nd rfl (Or.inl rfl) (pe_op op_mod (pe_callTy call_int1 (by rfl) M.m_int (by decide +kernel) (pa_cons (pe_op op_add (pe_op op_add (pe_op op_mul (pe_ix ix_list (pv 0) pe_int (fun _ _ => rfl)) pe_int) (pe_op op_mul (pe_ix ix_list (pv 0) pe_int (fun _ _ => rfl)) pe_int)) pe_int) pa_nil)) pe_int))
      (Evl.pss_cut (ps_set (i := 4) sc_law_draw.nd rfl (Or.inl rfl) (pe_op op_mod (pe_callTy call_int1 (by rfl) M.m_int (by decide +kernel) (pa_cons (pe_op op_mul (pv 4) (pe_op op_add (pe_op op_fdiv (pv 4) pe_int) pe_int)) pa_nil)) pe_int))
      (Evl.pss_cut (ps_set (i := 4) sc_law_draw.nd rfl (Or.inl rfl) (pe_op op_mod (pe_callTy call_int1 (by rfl) M.m_int (by decide +kernel) (pa_cons (pe_op op_mul (pv 4) (pe_op op_add (pe_op op_fdiv (pv 4) pe_int) pe_int)) pa_nil)) pe_int))
      (pss_one (ps_ret (pe_op op_mod (pe_callTy call_int1 (by rfl) M.m_int (by decide +kernel) (pa_cons (pe_op op_fdiv (pv 4) pe_int) pa_nil)) (pv 1)))))))))), ?_⟩
    -- pool[3] = pool[3] + 1
    refine ⟨fun σ H' => ∃ d', σ = [some (.ref p), some (.int m), none, none, none] ∧ H' = upd H p (.lst [.ref q, .int c, .int u, .int d', .int e]) ∧ 0 ≤ d',
      ⟨.ref p, rfl, p, _, 3, .int d, rfl, rfl, SqL.of hp, atI_nat (j := 3) rfl, _, _, rfl, rfl, .ref p, rfl, p, _, 3, 3, rfl, rfl, hp, rfl, d + 1, rfl, rfl, by omega⟩, ?_⟩
    rintro _ _ ⟨d', rfl, rfl, dd0⟩
    have h1 : (upd H p (.lst [.ref q, .int c, .int u, .int d', .int e])) p = some (.lst [.ref q, .int c, .int u, .int d', .int e]) := upd_same
    have h1q : (upd H p (.lst [.ref q, .int c, .int u, .int d', .int e])) q = some (.lst (ms.map V.int)) := by rw [upd_ne npq.symm]; exact hq
    have s1 : Same (off H p) (off (upd H p (.lst [.ref q, .int c, .int u, .int d', .int e])) p) := off_upd
    generalize upd H p (.lst [.ref q, .int c, .int u, .int d', .int e]) = H1 at h1 h1q s1 ⊢
    -- the next value of the script
    refine ⟨fun σ H' => ∃ v2 c' u' e', σ = [some (.ref p), some (.int m), v2, none, none] ∧ Same (off H p) (off H' p) ∧ H' p = some (.lst [.ref q, .int c', .int u', .int d', .int e']) ∧ H' q = some (.lst (ms.map V.int)) ∧ 0 ≤ c' ∧ 0 ≤ u' ∧ 0 ≤ e' ∧ e' < 2147483629, ?_, ?_⟩
    · refine ⟨.ref p, rfl, p, _, 2, .int u, rfl, rfl, SqL.of h1, atI_nat (j := 2) rfl, rfl, _, rfl, ite2 (fun cu => ?_) (fun cu => ite2 (fun z => nomatch z) fun _ => ⟨none, c, u, e, rfl, s1, h1, h1q, c0, u0, e0, e1⟩)⟩
      refine ⟨.ref p, rfl, p, _, 1, .int c, rfl, rfl, SqL.of h1, atI_nat (j := 1) rfl, .ref p, rfl, p, _, 0, .ref q, rfl, rfl, SqL.of h1, atI_nat (j := 0) rfl, q, _, rfl, .inl (SqL.of h1q), _, _, rfl, rfl, _, rfl, ite2 (fun cc => ?_) (fun cc => ⟨none, c, u, e, rfl, s1, h1, h1q, c0, u0, e0, e1⟩)⟩
      have cl : c < ((ms.map V.int).length : Int) := of_decide_eq_true cc
      obtain ⟨j, rfl⟩ : ∃ j : Nat, c = (j : Int) := ⟨c.toNat, by omega⟩
      have jl : j < ms.length := by
        rw [List.length_map] at cl
        omega
      have em : (ms.map V.int)[j]? = some (.int ms[j]) := by
        rw [List.getElem?_map, List.getElem?_eq_getElem jl]
        rfl
      refine ⟨.ref p, rfl, p, _, 0, .ref q, rfl, rfl, SqL.of h1, atI_nat (j := 0) rfl, .ref p, rfl, p, _, 1, .int j, rfl, rfl, SqL.of h1, atI_nat (j := 1) rfl, q, _, j, _, rfl, rfl, SqL.of h1q, atI_nat em, ?_⟩
      refine ⟨.ref p, rfl, p, _, 1, .int j, rfl, rfl, SqL.of h1, atI_nat (j := 1) rfl, _, _, rfl, rfl, .ref p, rfl, p, _, 1, 1, rfl, rfl, h1, rfl, ?_⟩
      have h2 : (upd H1 p (.lst [.ref q, .int ((j : Int) + 1), .int u, .int d', .int e])) p = some (.lst [.ref q, .int ((j : Int) + 1), .int u, .int d', .int e]) := upd_same
      have h2q : (upd H1 p (.lst [.ref q, .int ((j : Int) + 1), .int u, .int d', .int e])) q = some (.lst (ms.map V.int)) := by rw [upd_ne npq.symm]; exact h1q
      have s2 : Same (off H p) (off (upd H1 p (.lst [.ref q, .int ((j : Int) + 1), .int u, .int d', .int e])) p) := s1.trans off_upd
      refine ⟨_, rfl, _, _, rfl, rfl, ⟨by decide, by decide, by decide⟩, _, _, rfl, rfl, _, rfl, ite2 (fun cv => ?_) (fun cv => ?_)⟩
      · have v0 : (10 : Int) ^ (18 : Int).toNat ≤ ms[j] := of_decide_eq_true cv
        have p18 : (0 : Int) ≤ (10 : Int) ^ (18 : Int).toNat := by decide
        refine ⟨_, rfl, .ref p, rfl, p, _, 2, 2, rfl, rfl, h2, rfl, _, (j : Int) + 1, ms[j], e, rfl, s2.trans off_upd, upd_same, ?_, by omega, by omega, e0, e1⟩
        rw [upd_ne npq.symm]
        exact h2q
      · refine ⟨.ref p, rfl, p, _, 4, .int e, rfl, rfl, SqL.of h2, atI_nat (j := 4) rfl, _, _, rfl, rfl, .inr ⟨by decide, by decide⟩, _, rfl, _, _, rfl, rfl, _, _, rfl, rfl, .inl ⟨_, rfl, _, _, rfl, rfl, pos_i rfl, .ref p, rfl, p, _, 4, 4, rfl, rfl, h2, rfl, _, (j : Int) + 1, u, _, rfl, s2.trans off_upd, upd_same, ?_, by omega, u0, Int.emod_nonneg _ (by decide), Int.emod_lt_of_pos _ (by decide)⟩⟩
        rw [upd_ne npq.symm]
        exact h2q
    · rintro _ H2 ⟨v2, c', u', e', rfl, s2, h2, h2q, c1, u1, ee0, ee1⟩
      refine ⟨.ref p, rfl, p, _, 2, .int u', rfl, rfl, SqL.of h2, atI_nat (j := 2) rfl, _, _, rfl, rfl, _, rfl, ite2 (fun cu => ?_) (fun cu => ?_)⟩
      · refine ⟨.ref p, rfl, p, _, 2, .int u', rfl, rfl, SqL.of h2, atI_nat (j := 2) rfl, .inl ⟨_, rfl, _, rfl, _, _, rfl, rfl, m0, ?_⟩⟩
        refine ⟨.ref p, rfl, p, _, 2, .int u', rfl, rfl, SqL.of h2, atI_nat (j := 2) rfl, _, rfl, _, _, rfl, rfl, ⟨m0, m1⟩, .ref p, rfl, p, _, 2, 2, rfl, rfl, h2, rfl, ?_⟩
        refine ⟨_, rfl, k _ _ (s2.trans off_upd) ⟨ms, c', u' / m, d', e', upd_same, ?_, npq, c1, Int.ediv_nonneg u1 (by omega), dd0, ee0, ee1⟩ (Int.emod_nonneg _ (by omega)) (Int.emod_lt_of_pos _ m0)⟩
        rw [upd_ne npq.symm]
        exact h2q
      · refine ⟨fun σ H' => ∃ x, σ = [some (.ref p), some (.int m), v2, none, some (.int x)] ∧ H2 = H' ∧ 0 ≤ x ∧ x < 2147483647, ?_, ?_⟩
        · refine ⟨.ref p, rfl, p, _, 4, .int e', rfl, rfl, SqL.of h2, atI_nat (j := 4) rfl, _, _, rfl, rfl, .inr ⟨by decide, by decide⟩, .ref p, rfl, p, _, 3, .int d', rfl, rfl, SqL.of h2, atI_nat (j := 3) rfl, _, _, rfl, rfl, .inr ⟨by decide, by decide⟩, _, _, rfl, rfl, _, _, rfl, rfl, .inl ⟨_, rfl, _, _, rfl, rfl, pos_i rfl, ?_⟩⟩
          exact ⟨_, rfl, rfl, Int.emod_nonneg _ (by decide), Int.emod_lt_of_pos _ (by decide)⟩
        rintro _ _ ⟨x, rfl, rfl, x0, x1⟩
        refine ⟨fun σ H' => ∃ x, σ = [some (.ref p), some (.int m), v2, none, some (.int x)] ∧ H2 = H' ∧ 0 ≤ x ∧ x < 2147483647, ?_, ?_⟩
        · refine ⟨.int x, rfl, .int x, rfl, _, _, rfl, rfl, ⟨by decide, by decide⟩, _, _, rfl, rfl, _, _, rfl, rfl, .inl ⟨by omega, by omega⟩, .inl ⟨_, rfl, _, _, rfl, rfl, pos_i rfl, ?_⟩⟩
          exact ⟨_, rfl, rfl, Int.emod_nonneg _ (by decide), Int.emod_lt_of_pos _ (by decide)⟩
        rintro _ _ ⟨y, rfl, rfl, y0, y1⟩
        refine ⟨fun σ H' => ∃ x, σ = [some (.ref p), some (.int m), v2, none, some (.int x)] ∧ H2 = H', ?_, ?_⟩
        · exact ⟨.int y, rfl, .int y, rfl, _, _, rfl, rfl, ⟨by decide, by decide⟩, _, _, rfl, rfl, _, _, rfl, rfl, .inl ⟨by omega, by omega⟩, .inl ⟨_, rfl, _, _, rfl, rfl, pos_i rfl, _, rfl, rfl⟩⟩
        rintro _ _ ⟨z, rfl, rfl⟩
        refine ⟨.int z, rfl, _, _, rfl, rfl, ⟨by decide, by decide⟩, .inl ⟨_, rfl, _, rfl, _, _, rfl, rfl, m0, ?_⟩⟩
        exact k _ _ s2 ⟨ms, c', u', d', e', h2, h2q, npq, c1, u1, dd0, ee0, ee1⟩ (Int.emod_nonneg _ (by omega)) (Int.emod_lt_of_pos _ m0)
theorem PoolAt.same {H H' : Hp} {p q : Addr} (s : Same H H') (h : PoolAt H p q) : PoolAt H' p q := by
  obtain ⟨ms, c, u, d, e, h1, h2, r⟩ := h
  exact ⟨ms, c, u, d, e, s _ _ h1, s _ _ h2, r⟩
theorem PoolAt.put {H : Hp} {p q b : Addr} {o : HO} (hp : b ≠ p) (hq : b ≠ q) (h : PoolAt H p q) : PoolAt (upd H b o) p q := by
  obtain ⟨ms, c, u, d, e, h1, h2, r⟩ := h
  exact ⟨ms, c, u, d, e, by rw [upd_ne hp.symm]; exact h1, by rw [upd_ne hq.symm]; exact h2, r⟩
theorem PoolAt.at_p {H : Hp} {p q : Addr} (h : PoolAt H p q) {b : Addr} (n : H b = none) : b ≠ p ∧ b ≠ q := by
  obtain ⟨ms, c, u, d, e, h1, h2, r⟩ := h
  exact ⟨(ne_of_none h1 n).symm, (ne_of_none h2 n).symm⟩
theorem off_put2 {H H' : Hp} {p b : Addr} {o : HO} (s : Same (off H p) (off H' p)) (n : H b = none) : Same (off H p) (off (upd H' b o) p) := fun x u e => by
  have z := s x u e
  by_cases hx : x = p
  · rw [hx, off_at] at e
    cases e
  · rw [off_ne hx] at e z ⊢
    rw [upd_ne (ne_of_none e n)]
    exact z
def bits (ns : List Int) : Prop := ∀ c ∈ ns, c = 0 ∨ c = 1
theorem sc_law_row : FnScope ["pool", "length", "k"] ["pool", "length"] (defScope s_law_row) := ⟨rfl, rfl, rfl, by decide +kernel, rfl, by decide +kernel, by decide +kernel⟩
def spLRow : Sp := fun vs H Q _ => ∃ (p q : Addr) (n : Nat), vs = [.ref p, .int (n : Int)] ∧ PoolAt H p q ∧ n ≤ 100000 ∧ ∀ H' r ns, Same (off H p) (off H' p) → PoolAt H' p q → H r = none → H' r = some (.tup (ns.map V.int)) → ns.length = n → bits ns → Q (.ref r) H'
theorem ok_law_row (M : MF P w K mg cR iR cN iN cL) (F_law_draw : FnC P w K mg base CX0 1 "_law_draw" ["pool", "many"] spDraw) (F : Fun K "_law_row" "_law_row" s_law_row f fd) : FnOk P w K mg base CX0 3 f fd ["pool", "length"] spLRow := by
  refine F.ok sc_law_row (fun vs H Q E h => ?_) (fun cdv A outer s H vs Q E hr h => ?_)
  · obtain ⟨p, q, n, rfl, _⟩ := h
    rfl
  · obtain ⟨p, q, n, rfl, hP, hn, k⟩ := h
    refine ⟨_, (pss_one (ps_ret (pe_callTy call_tuple_of (by rfl) M.m_tuple (by decide +kernel) (pa_cons (pe_lc (own := [("k", 2)]) (tt := tYes) rfl sc_law_row.nd (pi_range1 (by rfl) M.m_range (pa_cons (pv 1) pa_nil)) (blkOk_by (N := ["pool", "length", "k"]) (sc := defScope s_law_row) (by decide +kernel)) (fun _ _ _ _ _ => (pg_name (i := 2) sc_law_row.nd rfl (Or.inl rfl))) (fun _ _ _ _ _ => pts_nil) (fun _ _ _ _ _ => (pe_f F_law_draw hr (by omega) pass0 (pa_cons (pv 0) (pa_cons pe_int pa_nil))))) pa_nil)))), ?_⟩
    refine ⟨_, rfl, (n : Int), rfl, by omega, by omega, fun D nD => ?_⟩
    obtain ⟨nDp, nDq⟩ := hP.at_p nD
    refine lc_range (lo := 0) (n := n) (fun i H' => Same (off H p) (off H' p) ∧ PoolAt H' p q ∧ ∃ ns : List Int, H' D = some (.lst (ns.map V.int)) ∧ ns.length = i ∧ bits ns) ⟨off_mono (same_upd nD), hP.same (same_upd nD), [], upd_same, rfl, fun _ z => nomatch z⟩ (fun i H' hi z => ?_) (fun H' z => ?_)
    · obtain ⟨s1, hP1, ns, eD, ln, hb⟩ := z
      refine ⟨rfl, lc_yes ⟨_, rfl, p, q, 2, rfl, hP1, by decide, by decide, fun H3 d s3 hP3 d0 d1 => ⟨ns.map V.int, ?_, ?_, ?_, hP3.put nDp nDq, ns ++ [d], ?_, ?_, ?_⟩⟩⟩
      · have z := s3 D _ (by rw [off_ne nDp]; exact eD)
        rw [off_ne nDp] at z
        exact z
      · rw [List.length_map]
        exact lineN (by omega)
      · exact off_put2 (s1.trans s3) nD
      · rw [upd_same, List.map_append]
        rfl
      · rw [List.length_append, ln]
        rfl
      · intro c hc
        rcases List.mem_append.mp hc with hc | hc
        · exact hb c hc
        · rw [List.mem_singleton] at hc
          omega
    · obtain ⟨s1, hP1, ns, eD, ln, hb⟩ := z
      refine ⟨D, _, rfl, .inl ⟨SqL.of eD, fun r nr => ?_⟩⟩
      obtain ⟨nrp, nrq⟩ := hP1.at_p nr
      have nrH : H r = none := by
        cases e : H r with
        | none => rfl
        | some o =>
          have z := s1 r o (by rw [off_ne nrp]; exact e)
          rw [off_ne nrp, nr] at z
          cases z
      exact k _ r ns (off_put2 s1 nrH) (hP1.put nrp nrq) nrH upd_same ln hb
end

section
variable {P : Program} {w : World} {K : PySem.W.Frag} {mg : Str → Option Value} {base : Heap} {cR iR cN iN cL : Addr} {f : Addr} {fd : FuncData}
/-! ### _law_same, of equal data -/
theorem sc_law_same : FnScope ["actual", "due", "k"] ["actual", "due"] (defScope s_law_same) := ⟨rfl, rfl, rfl, by decide +kernel, rfl, by decide +kernel, by decide +kernel⟩
def spSame (K : PySem.W.Frag) (n : Nat) : Sp := fun vs H Q _ => ∃ a b d, vs = [a, b] ∧ Dp K H a d ∧ Dp K H b d ∧ plainD n d = true ∧ ∀ H', Same H H' → Q (.bl true) H'
theorem seqIx {H : Hp} {a : Addr} {xs : List V} {i : Nat} {v : V} {Q : VK} (h : SqL K H a xs ∨ SqT K H a xs) (e : xs[i]? = some v) (q : Q v H) : rIx K (.ref a) (.int ((0 : Int) + (i : Nat))) H Q := by
  rw [Int.zero_add]
  rcases h with h | h
  · exact .inl ⟨a, xs, i, v, rfl, rfl, h, atI_nat e, q⟩
  · exact .inr (.inl ⟨a, xs, i, v, rfl, rfl, h, atI_nat e, q⟩)
theorem any_box {T : String} (h : T = "list" ∨ T = "tuple") : PySem.W.kitAny K (.type T) [.type "list", .type "tuple"] = some true := by
  rcases h with rfl | rfl
  · exact kitAny_cons (kit_list (by decide)) (fun z => by cases z) fun _ => rfl
  · exact kitAny_cons (kit_list (by decide)) (fun _ => kitAny_cons (kit_tuple (by decide)) (fun z => by cases z) fun _ => rfl) fun _ => rfl
theorem same_body (M : MF P w K mg cR iR cN iN cL) (F : Fun K "_law_same" "_law_same" s_law_same f fd) {n k : Nat} {spR : Sp} (F_law_same : FnC P w K mg base CX0 k "_law_same" ["actual", "due"] spR) (hs : ∀ m, n = m + 1 → spR = spSame K m) :
    FnOk P w K mg base CX0 (k + 2) f fd ["actual", "due"] (spSame K n) := by
  refine F.ok (k := k + 1) sc_law_same (fun vs H Q E h => ?_) (fun cdv A outer s H vs Q E hr h => ?_)
  · obtain ⟨a, b, d, rfl, _⟩ := h
    rfl
  · obtain ⟨a, b, d, rfl, h1, h2, hp, q⟩ := h
    refine ⟨_, (pss_cons (ps_if (pt_cmpR op_isN (pv 1) pe_non (nomark _))
      (pss_one (ps_ret (pe_cmpR op_isN (pv 0) pe_non (nomark _)))) pss_nil)
      (pss_cons (ps_if (PW.pt (pw_or (pt_val (pe_callB call_isi (by rfl) M.m_isinstance (by decide +kernel) (pa_cons (pv 1) (pa_cons (pe_bltn (v := .ty "bool") (by rfl) M.m_bool (by decide +kernel) rfl) pa_nil)))) (pw_or1 (pt_val (pe_callB call_isi (by rfl) M.m_isinstance (by decide +kernel) (pa_cons (pv 0) (pa_cons (pe_bltn (v := .ty "bool") (by rfl) M.m_bool (by decide +kernel) rfl) pa_nil)))))))
      (pss_one (ps_ret (pe_and (pe_callB call_isi (by rfl) M.m_isinstance (by decide +kernel) (pa_cons (pv 1) (pa_cons (pe_bltn (v := .ty "bool") (by rfl) M.m_bool (by decide +kernel) rfl) pa_nil))) (pe_and (pe_callB call_isi (by rfl) M.m_isinstance (by decide +kernel) (pa_cons (pv 0) (pa_cons (pe_bltn (v := .ty "bool") (by rfl) M.m_bool (by decide +kernel) rfl) pa_nil))) (pe_one (pe_cmpR op_eq (pv 0) (pv 1) (nomark _))))))) pss_nil)
      (pss_cons (ps_if (pt_val (pe_callB call_isi (by rfl) M.m_isinstance (by decide +kernel) (pa_cons (pv 1) (pa_cons (pe_bltn (v := .ty "int") (by rfl) M.m_int (by decide +kernel) rfl) pa_nil))))
      (pss_one (ps_ret (pe_and (pe_callB call_isi (by rfl) M.m_isinstance (by decide +kernel) (pa_cons (pv 0) (pa_cons (pe_bltn (v := .ty "int") (by rfl) M.m_int (by decide +kernel) rfl) pa_nil))) (pe_one (pe_cmpR op_eq (pv 0) (pv 1) (nomark _)))))) pss_nil)
      (pss_cons (ps_if (pt_val (pe_callB call_isi (by rfl) M.m_isinstance (by decide +kernel) (pa_cons (pv 1) (pa_cons (pe_bltn (v := .ty "str") (by rfl) M.m_str (by decide +kernel) rfl) pa_nil))))
      (pss_one (ps_ret (pe_and (pe_callB call_isi (by rfl) M.m_isinstance (by decide +kernel) (pa_cons (pv 0) (pa_cons (pe_bltn (v := .ty "str") (by rfl) M.m_str (by decide +kernel) rfl) pa_nil))) (pe_one (pe_cmpR op_eq (pv 0) (pv 1) (nomark _)))))) pss_nil)
      (pss_cons (ps_if (PW.pt (pw_or (pt_cmpR op_ne (pe_callB call_isi (by rfl) M.m_isinstance (by decide +kernel) (pa_cons (pv 1) (pa_cons (pe_bltn (v := .ty "list") (by rfl) M.m_list (by decide +kernel) rfl) pa_nil))) (pe_callB call_isi (by rfl) M.m_isinstance (by decide +kernel) (pa_cons (pv 0) (pa_cons (pe_bltn (v := .ty "list") (by rfl) M.m_list (by decide +kernel) rfl) pa_nil))) (nomark _)) (pw_or1 (pt_not (pt_val (pe_callB call_isiT (by rfl) M.m_isinstance (by decide +kernel) (pa_cons (pv 0) (pa_cons (pe_tup (pa_cons (pe_bltn (v := .ty "list") (by rfl) M.m_list (by decide +kernel) rfl) (pa_cons (pe_bltn (v := .ty "tuple") (by rfl) M.m_tuple (by decide +kernel) rfl) pa_nil))) pa_nil))))))))
      (pss_one (ps_ret pe_bl)) pss_nil)
      (pss_cons (ps_if (pt_cmpR op_ne (pe_callB call_len_seq (by rfl) M.m_len (by decide +kernel) (pa_cons (pv 0) pa_nil)) (pe_callB call_len_seq (by rfl) M.m_len (by decide +kernel) (pa_cons (pv 1) pa_nil)) (nomark _))
      (pss_one (ps_ret pe_bl)) pss_nil)
      (pss_one (ps_ret (pe_cmpR op_eq (pe_callB call_len_seq (by rfl) M.m_len (by decide +kernel) (pa_cons (pe_lc (own := [("k", 2)]) rfl sc_law_same.nd (pi_range1 (by rfl) M.m_range (pa_cons (pe_callB call_len_seq (by rfl) M.m_len (by decide +kernel) (pa_cons (pv 1) pa_nil)) pa_nil)) (blkOk_by (N := ["actual", "due", "k"]) (sc := defScope s_law_same) (by decide +kernel)) (fun _ _ _ _ _ => (pg_name (i := 2) sc_law_same.nd rfl (Or.inl rfl))) (fun _ _ _ _ _ => (pts_one (pt_not (pt_val (pe_f F_law_same hr (by omega) pass0 (pa_cons (pe_ix (ix_seqK K) (pv 0) (pv 2) (fun _ _ => rfl)) (pa_cons (pe_ix (ix_seqK K) (pv 1) (pv 2) (fun _ _ => rfl)) pa_nil))))))) (fun _ _ _ _ _ => (pv 2))) pa_nil)) pe_int (nomark _)))))))))), ?_⟩
    cases h1 with
    | non =>
      cases h2
      refine ⟨_, rfl, rfl, _, rfl, iteU rfl ⟨_, rfl, rfl, ?_⟩⟩
      rw [decide_eq_true rfl]
      exact q H (Same.refl H)
    | bl x =>
      cases h2
      have hk := Knw.bl (K := K) (H := H) x
      refine ⟨_, rfl, rfl, _, rfl, iteV (fun z => nomatch z) ?_⟩
      refine ⟨_, rfl, _, .ty "bool", _, _, _, rfl, .ty _, hk.ty, kit_bool hk.mem, _, rfl, iteU rfl (iteT ?_)⟩
      refine ⟨_, rfl, _, .ty "bool", _, _, _, rfl, .ty _, hk.ty, kit_bool hk.mem, _, rfl, iteU rfl ?_⟩
      refine ⟨_, rfl, _, .ty "bool", _, _, _, rfl, .ty _, hk.ty, kit_bool hk.mem, _, rfl, iteU rfl ?_⟩
      refine ⟨_, rfl, _, rfl, rfl, ?_⟩
      rw [decide_eq_true rfl]
      exact q H (Same.refl H)
    | int x =>
      cases h2
      have hk := Knw.int (K := K) (H := H) x
      refine ⟨_, rfl, rfl, _, rfl, iteV (fun z => nomatch z) ?_⟩
      refine ⟨_, rfl, _, .ty "bool", _, _, _, rfl, .ty _, hk.ty, kit_bool hk.mem, _, rfl, iteS rfl ?_⟩
      refine ⟨_, rfl, _, .ty "bool", _, _, _, rfl, .ty _, hk.ty, kit_bool hk.mem, _, rfl, iteS rfl ?_⟩
      refine ⟨_, rfl, _, .ty "int", _, _, _, rfl, .ty _, hk.ty, kit_int hk.mem, _, rfl, iteU (.inl rfl) ?_⟩
      refine ⟨_, rfl, _, .ty "int", _, _, _, rfl, .ty _, hk.ty, kit_int hk.mem, _, rfl, iteU (.inl rfl) ?_⟩
      refine ⟨_, rfl, _, rfl, rfl, ?_⟩
      rw [decide_eq_true rfl]
      exact q H (Same.refl H)
    | str x =>
      cases h2
      have hk := Knw.str (K := K) (H := H) x
      refine ⟨_, rfl, rfl, _, rfl, iteV (fun z => nomatch z) ?_⟩
      refine ⟨_, rfl, _, .ty "bool", _, _, _, rfl, .ty _, hk.ty, kit_bool hk.mem, _, rfl, iteS rfl ?_⟩
      refine ⟨_, rfl, _, .ty "bool", _, _, _, rfl, .ty _, hk.ty, kit_bool hk.mem, _, rfl, iteS rfl ?_⟩
      refine ⟨_, rfl, _, .ty "int", _, _, _, rfl, .ty _, hk.ty, kit_int hk.mem, _, rfl, iteW (by decide) ?_⟩
      refine ⟨_, rfl, _, .ty "str", _, _, _, rfl, .ty _, hk.ty, kit_str hk.mem, _, rfl, iteU rfl ?_⟩
      refine ⟨_, rfl, _, .ty "str", _, _, _, rfl, .ty _, hk.ty, kit_str hk.mem, _, rfl, iteU rfl ?_⟩
      refine ⟨_, rfl, _, rfl, rfl, ?_⟩
      rw [decide_eq_true rfl]
      exact q H (Same.refl H)
    | @lst x xs ds hx ax =>
      cases h2 with
      | @lst y ys es hy ay =>
        cases n with
        | zero => cases hp
        | succ n =>
          have hp' : (decide (ds.length ≤ 100000) && plainDs n ds) = true := hp
          rw [Bool.and_eq_true, decide_eq_true_eq] at hp'
          obtain ⟨hlen, hds⟩ := hp'
          obtain rfl := hs n rfl
          have k1 := Knw.lst hx
          have k2 := Knw.lst hy
          have lx := DpAll.length ax
          have ly := DpAll.length ay
          refine ⟨_, rfl, rfl, _, rfl, iteV (fun z => nomatch z) ?_⟩
          refine ⟨_, rfl, _, .ty "bool", _, _, _, rfl, .ty _, k2.ty, kit_bool k2.mem, _, rfl, iteS rfl ?_⟩
          refine ⟨_, rfl, _, .ty "bool", _, _, _, rfl, .ty _, k1.ty, kit_bool k1.mem, _, rfl, iteS rfl ?_⟩
          refine ⟨_, rfl, _, .ty "int", _, _, _, rfl, .ty _, k2.ty, kit_int k2.mem, _, rfl, iteW (by decide) ?_⟩
          refine ⟨_, rfl, _, .ty "str", _, _, _, rfl, .ty _, k2.ty, kit_str k2.mem, _, rfl, iteS rfl ?_⟩
          refine ⟨_, rfl, _, .ty "list", _, _, _, rfl, .ty _, k2.ty, kit_list k2.mem, _, rfl, _, .ty "list", _, _, _, rfl, .ty _, k1.ty, kit_list k1.mem, rfl, _, rfl, iteNS rfl ?_⟩
          refine ⟨_, rfl, few (n := 2) (by decide), fun p np => ?_⟩
          have s1 : Same H (upd H p (.tup [.ty "list", .ty "tuple"])) := same_upd np
          refine ⟨_, p, _, _, _, true, rfl, upd_same, .cons (.ty _) (.cons (.ty _) .nil), (k1.same s1).ty, any_box (by decide), _, rfl, iteF ?_⟩
          generalize upd H p (.tup [.ty "list", .ty "tuple"]) = H1 at s1 ⊢
          have bx : SqL K H1 x xs ∨ SqT K H1 x xs := .inl (Dp.boxlst s1 hx)
          have by' : SqL K H1 y ys ∨ SqT K H1 y ys := .inl (Dp.boxlst s1 hy)
          refine ⟨_, rfl, x, xs, rfl, bx, _, rfl, y, ys, rfl, by', rfl, _, rfl, iteNS (by rw [lx, ly]) ?_⟩
          refine ⟨_, rfl, y, ys, rfl, by', (ys.length : Int), rfl, by omega, by omega, fun D nD => ?_⟩
          refine lc_range (lo := 0) (n := ys.length) (fun i H' => Same H1 H' ∧ H' D = some (.lst [])) ⟨same_upd nD, upd_same⟩ (fun i H' hi p => ?_) (fun H' p => ?_)
          · obtain ⟨s2, eD⟩ := p
            have hd : ds[i]? = some ds[i] := List.getElem?_eq_getElem (by omega)
            obtain ⟨v, ev, dv⟩ := DpAll.get ax hd
            obtain ⟨u, eu, du⟩ := DpAll.get ay hd
            refine ⟨rfl, _, rfl, _, rfl, seqIx (bx.imp (fun z => s2.seq z) fun z => Same.seqT s2 z) ev ?_⟩
            refine ⟨_, rfl, _, rfl, seqIx (by'.imp (fun z => s2.seq z) fun z => Same.seqT s2 z) eu ?_⟩
            exact ⟨v, u, ds[i], rfl, Dp.same (s1.trans s2) dv, Dp.same (s1.trans s2) du, plainDs_get hds hd, fun H3 s3 => ⟨_, rfl, iteF ⟨s2.trans s3, s3 _ _ eD⟩⟩⟩
          · refine ⟨D, [], rfl, .inl (SqL.of p.2), rfl, ?_⟩
            rw [show decide (V.int ((([] : List V).length : Nat) : Int) = V.int 0) = true from decide_eq_true rfl]
            exact q H' (s1.trans p.1)
    | @tup x xs ds hx ax =>
      cases h2 with
      | @tup y ys es hy ay =>
        cases n with
        | zero => cases hp
        | succ n =>
          have hp' : (decide (ds.length ≤ 100000) && plainDs n ds) = true := hp
          rw [Bool.and_eq_true, decide_eq_true_eq] at hp'
          obtain ⟨hlen, hds⟩ := hp'
          obtain rfl := hs n rfl
          have k1 := Knw.tup hx
          have k2 := Knw.tup hy
          have lx := DpAll.length ax
          have ly := DpAll.length ay
          refine ⟨_, rfl, rfl, _, rfl, iteV (fun z => nomatch z) ?_⟩
          refine ⟨_, rfl, _, .ty "bool", _, _, _, rfl, .ty _, k2.ty, kit_bool k2.mem, _, rfl, iteS rfl ?_⟩
          refine ⟨_, rfl, _, .ty "bool", _, _, _, rfl, .ty _, k1.ty, kit_bool k1.mem, _, rfl, iteS rfl ?_⟩
          refine ⟨_, rfl, _, .ty "int", _, _, _, rfl, .ty _, k2.ty, kit_int k2.mem, _, rfl, iteW (by decide) ?_⟩
          refine ⟨_, rfl, _, .ty "str", _, _, _, rfl, .ty _, k2.ty, kit_str k2.mem, _, rfl, iteS rfl ?_⟩
          refine ⟨_, rfl, _, .ty "list", _, _, _, rfl, .ty _, k2.ty, kit_list k2.mem, _, rfl, _, .ty "list", _, _, _, rfl, .ty _, k1.ty, kit_list k1.mem, rfl, _, rfl, iteNS rfl ?_⟩
          refine ⟨_, rfl, few (n := 2) (by decide), fun p np => ?_⟩
          have s1 : Same H (upd H p (.tup [.ty "list", .ty "tuple"])) := same_upd np
          refine ⟨_, p, _, _, _, true, rfl, upd_same, .cons (.ty _) (.cons (.ty _) .nil), (k1.same s1).ty, any_box (by decide), _, rfl, iteF ?_⟩
          generalize upd H p (.tup [.ty "list", .ty "tuple"]) = H1 at s1 ⊢
          have bx : SqL K H1 x xs ∨ SqT K H1 x xs := .inr (Dp.boxtup s1 hx)
          have by' : SqL K H1 y ys ∨ SqT K H1 y ys := .inr (Dp.boxtup s1 hy)
          refine ⟨_, rfl, x, xs, rfl, bx, _, rfl, y, ys, rfl, by', rfl, _, rfl, iteNS (by rw [lx, ly]) ?_⟩
          refine ⟨_, rfl, y, ys, rfl, by', (ys.length : Int), rfl, by omega, by omega, fun D nD => ?_⟩
          refine lc_range (lo := 0) (n := ys.length) (fun i H' => Same H1 H' ∧ H' D = some (.lst [])) ⟨same_upd nD, upd_same⟩ (fun i H' hi p => ?_) (fun H' p => ?_)
          · obtain ⟨s2, eD⟩ := p
            have hd : ds[i]? = some ds[i] := List.getElem?_eq_getElem (by omega)
            obtain ⟨v, ev, dv⟩ := DpAll.get ax hd
            obtain ⟨u, eu, du⟩ := DpAll.get ay hd
            refine ⟨rfl, _, rfl, _, rfl, seqIx (bx.imp (fun z => s2.seq z) fun z => Same.seqT s2 z) ev ?_⟩
            refine ⟨_, rfl, _, rfl, seqIx (by'.imp (fun z => s2.seq z) fun z => Same.seqT s2 z) eu ?_⟩
            exact ⟨v, u, ds[i], rfl, Dp.same (s1.trans s2) dv, Dp.same (s1.trans s2) du, plainDs_get hds hd, fun H3 s3 => ⟨_, rfl, iteF ⟨s2.trans s3, s3 _ _ eD⟩⟩⟩
          · refine ⟨D, [], rfl, .inl (SqL.of p.2), rfl, ?_⟩
            rw [show decide (V.int ((([] : List V).length : Nat) : Int) = V.int 0) = true from decide_eq_true rfl]
            exact q H' (s1.trans p.1)
theorem ok_law_same (M : MF P w K mg cR iR cN iN cL) (F : Fun K "_law_same" "_law_same" s_law_same f fd) (gf : mg "_law_same" = some (.ref f)) (bf : Binds K fd ["actual", "due"] []) : ∀ n, FnOk P w K mg base CX0 (2 * n + 2) f fd ["actual", "due"] (spSame K n)
  | 0 => same_body M F (k := 0) (spR := fun _ _ _ _ => False) ⟨f, fd, ⟨fun _ _ _ _ z => z.elim, fun _ _ _ _ _ _ _ _ _ _ _ _ _ z => z.elim⟩, gf, F.kp, bf⟩ fun m e => nomatch e
  | n + 1 => same_body M F (k := 2 * n + 2) ⟨f, fd, ok_law_same M F gf bf n, gf, F.kp, bf⟩ fun m e => by
    cases e
    rfl
end

section
variable {P : Program} {w : World} {K : PySem.W.Frag} {mg : Str → Option Value} {base : Heap} {cR iR cN iN cL : Addr} {f : Addr} {fd : FuncData}
/-! ### _law_power, _law_row_of, _law_deep, _law_value -/
theorem sc_law_power : FnScope ["many", "found", "k"] ["many"] (defScope s_law_power) := ⟨rfl, rfl, rfl, by decide +kernel, rfl, by decide +kernel, by decide +kernel⟩
def spPower : Sp := fun vs H Q _ => ∃ n : Nat, vs = [.int (n : Int)] ∧ n ≤ 100 ∧ Q (.int (2 ^ n)) H
theorem ok_law_power (M : MF P w K mg cR iR cN iN cL) (F : Fun K "_law_power" "_law_power" s_law_power f fd) : FnOk P w K mg base CX0 1 f fd ["many"] spPower := by
  refine F.ok sc_law_power (fun vs H Q E h => ?_) (fun cdv A outer s H vs Q E hr h => ?_)
  · obtain ⟨n, rfl, _⟩ := h
    rfl
  · obtain ⟨n, rfl, hn, q⟩ := h
    refine ⟨_, (pss_cons (ps_set (i := 1) sc_law_power.nd rfl (Or.inl rfl) pe_int)
      (pss_cons (ps_for PassesOwn.never rfl (pi_range1 (by rfl) M.m_range (pa_cons (pv 0) pa_nil)) (pg_name (i := 2) sc_law_power.nd rfl (Or.inl rfl))
      (pss_one (ps_set (i := 1) sc_law_power.nd rfl (Or.inl rfl) (pe_op op_add (pv 1) (pv 1)))))
      (pss_one (ps_ret (pv 1))))), ?_⟩
    refine ⟨_, rfl, (n : Int), rfl, by omega, by omega, for_range (lo := 0) (n := n) (fun i σ H' => H' = H ∧ ∃ v, σ = [some (.int (n : Int)), some (.int (2 ^ i)), v]) ⟨rfl, none, rfl⟩ ?_ ?_⟩
    · rintro i _ H' hi ⟨rfl, v, rfl⟩
      refine ⟨_, rfl, _, rfl, _, _, rfl, rfl, rfl, some (.int (0 + (i : Nat))), ?_⟩
      rw [show (2 : Int) ^ (i + 1) = 2 ^ i + 2 ^ i by rw [Int.pow_succ]; omega]
      rfl
    · rintro _ H' ⟨rfl, v, rfl⟩
      exact ⟨_, rfl, q⟩
theorem digits_succ (N k : Nat) : digits N (k + 1) = ((N / 2 ^ k % 2 : Nat) : Int) :: digits N k := by
  unfold digits
  rw [List.range_succ_eq_map, List.map_cons, List.map_map]
  have a : ((N / 2 ^ (k + 1 - 1 - 0) % 2 : Nat) : Int) = ((N / 2 ^ k % 2 : Nat) : Int) := by rw [show k + 1 - 1 - 0 = k by omega]
  have b : (List.range k).map ((fun i => ((N / 2 ^ (k + 1 - 1 - i) % 2 : Nat) : Int)) ∘ Nat.succ) = (List.range k).map fun i => ((N / 2 ^ (k - 1 - i) % 2 : Nat) : Int) := List.map_congr_left fun i hi => by
    show ((N / 2 ^ (k + 1 - 1 - (i + 1)) % 2 : Nat) : Int) = _
    rw [show k + 1 - 1 - (i + 1) = k - 1 - i by omega]
  rw [a, b]
theorem digits_len (N k : Nat) : (digits N k).length = k := by
  unfold digits
  rw [List.length_map, List.length_range]
theorem sc_law_row_of : FnScope ["number", "width", "cells", "k"] ["number", "width"] (defScope s_law_row_of) := ⟨rfl, rfl, rfl, by decide +kernel, rfl, by decide +kernel, by decide +kernel⟩
def spRowOf : Sp := fun vs H Q _ => ∃ N W : Nat, vs = [.int (N : Int), .int (W : Int)] ∧ W ≤ 100 ∧ ∀ H' r, Same H H' → H r = none → H' r = some (.tup ((digits N W).map V.int)) → Q (.ref r) H'
theorem ok_law_row_of (M : MF P w K mg cR iR cN iN cL) (F : Fun K "_law_row_of" "_law_row_of" s_law_row_of f fd) : FnOk P w K mg base CX0 1 f fd ["number", "width"] spRowOf := by
  refine F.ok sc_law_row_of (fun vs H Q E h => ?_) (fun cdv A outer s H vs Q E hr h => ?_)
  · obtain ⟨N, W, rfl, _⟩ := h
    rfl
  · obtain ⟨N, W, rfl, hW, q⟩ := h
    refine ⟨_, (pss_cons (ps_set (i := 2) sc_law_row_of.nd rfl (Or.inl rfl) (pe_lst pa_nil))
      (pss_cons (ps_for PassesOwn.never rfl (pi_range1 (by rfl) M.m_range (pa_cons (pv 1) pa_nil)) (pg_name (i := 3) sc_law_row_of.nd rfl (Or.inl rfl))
      (pss_cons (ps_expr (pe_bm PySem.F.plainAttrs_list PySem.F.slot_list_insert PySem.F.type_list_insert mt_insert (pv 2) (pa_cons pe_int (pa_cons (pe_op op_sub (pv 0) (pe_op op_mul (pe_op op_fdiv (pv 0) pe_int) pe_int)) pa_nil))))
      (pss_one (ps_set (i := 0) sc_law_row_of.nd rfl (Or.inl rfl) (pe_op op_fdiv (pv 0) pe_int)))))
      (pss_one (ps_ret (pe_callTy call_tuple_of (by rfl) M.m_tuple (by decide +kernel) (pa_cons (pv 2) pa_nil)))))), ?_⟩
    refine ⟨few (n := 0) (by decide), fun c nc => ?_⟩
    refine ⟨_, rfl, (W : Int), rfl, by omega, by omega, for_range (lo := 0) (n := W) (fun i σ H' => Same H H' ∧ H' c = some (.lst ((digits N i).map V.int)) ∧ ∃ v, σ = [some (.int ((N / 2 ^ i : Nat) : Int)), some (.int (W : Int)), some (.ref c), v]) ⟨same_upd nc, upd_same, none, ?_⟩ ?_ ?_⟩
    · rw [show N / 2 ^ 0 = N by rw [Nat.pow_zero, Nat.div_one]]
      rfl
    · rintro i _ H' hi ⟨s', ec, v, rfl⟩
      have e1 : ((N / 2 ^ i : Nat) : Int) - ((N / 2 ^ i : Nat) : Int) / 2 * 2 = ((N / 2 ^ i % 2 : Nat) : Int) := by
        generalize N / 2 ^ i = m
        omega
      have e2 : ((N / 2 ^ i : Nat) : Int) / 2 = ((N / 2 ^ (i + 1) : Nat) : Int) := by
        rw [Nat.pow_succ, ← Nat.div_div_eq_div_mul]
        generalize N / 2 ^ i = m
        omega
      refine ⟨.ref c, rfl, .inl ⟨rfl, _, SqL.of ec⟩, _, rfl, _, rfl, _, _, rfl, rfl, ⟨by decide, by decide⟩, _, _, rfl, rfl, .inr ⟨by decide, by decide⟩, _, _, rfl, rfl, c, _, 0, _, rfl, rfl, ec, ?_, by decide, by decide, _, rfl, _, _, rfl, rfl, ⟨by decide, by decide⟩, ?_, ?_, some (.int (0 + (i : Nat))), ?_⟩
      · rw [List.length_map, digits_len]
        exact lineN (by omega)
      · exact fun b o e => by
          rw [upd_ne (ne_of_none e nc)]
          exact s' _ _ e
      · rw [upd_same, digits_succ, ← e1]
        rfl
      · rw [← e2]
        rfl
    · rintro _ H' ⟨s', ec, v, rfl⟩
      refine ⟨.ref c, rfl, c, _, rfl, .inl ⟨SqL.of ec, fun r nr => ?_⟩⟩
      exact q _ r (s'.trans (same_upd nr)) (s'.free nr) upd_same
theorem sc_law_deep : FnScope ["found", "k"] [] (defScope s_law_deep) := ⟨rfl, rfl, rfl, by decide +kernel, rfl, by decide +kernel, by decide +kernel⟩
def spDeep : Sp := fun vs H Q _ => vs = [] ∧ ∀ H' a xs, Same H H' → H a = none → H' a = some (.lst xs) → Q (.ref a) H'
theorem ok_law_deep (M : MF P w K mg cR iR cN iN cL) (F : Fun K "_law_deep" "_law_deep" s_law_deep f fd) : FnOk P w K mg base CX0 1 f fd [] spDeep := by
  refine F.ok sc_law_deep (fun vs H Q E h => ?_) (fun cdv A outer s H vs Q E hr h => ?_)
  · obtain ⟨rfl, _⟩ := h
    rfl
  · obtain ⟨rfl, q⟩ := h
    refine ⟨_, (pss_cons (ps_set (i := 0) sc_law_deep.nd rfl (Or.inl rfl) (pe_lst (pa_cons pe_int pa_nil)))
      (pss_cons (ps_for PassesOwn.never rfl (pi_range1 (by rfl) M.m_range (pa_cons pe_int pa_nil)) (pg_name (i := 1) sc_law_deep.nd rfl (Or.inl rfl))
      (pss_one (ps_set (i := 0) sc_law_deep.nd rfl (Or.inl rfl) (pe_lst (pa_cons (pv 0) pa_nil)))))
      (pss_one (ps_ret (pv 0))))), ?_⟩
    refine ⟨few (n := 1) (by decide), fun c nc => ?_⟩
    refine ⟨27, rfl, by decide, by decide, for_range (lo := 0) (n := 27) (fun i σ H' => Same H H' ∧ ∃ a xs v, σ = [some (.ref a), v] ∧ H a = none ∧ H' a = some (.lst xs)) ⟨same_upd nc, c, _, none, rfl, nc, upd_same⟩ ?_ ?_⟩
    · rintro i _ H' hi ⟨s', a, xs, v, rfl, na, ea⟩
      exact ⟨_, rfl, few (n := 1) (by decide), fun d nd => ⟨s'.trans (same_upd nd), d, _, some (.int (0 + (i : Nat))), rfl, s'.free nd, upd_same⟩⟩
    · rintro _ H' ⟨s', a, xs, v, rfl, na, ea⟩
      exact ⟨_, rfl, q H' a xs s' na ea⟩
theorem sc_law_value : FnScope ["row", "total", "cell"] ["row"] (defScope s_law_value) := ⟨rfl, rfl, rfl, by decide +kernel, rfl, by decide +kernel, by decide +kernel⟩
def spValue (K : PySem.W.Frag) : Sp := fun vs H Q _ => ∃ a ns, vs = [.ref a] ∧ SqT K H a (ns.map V.int) ∧ Q (.int (numOf ns)) H
theorem ok_law_value (F : Fun K "_law_value" "_law_value" s_law_value f fd) : FnOk P w K mg base CX0 1 f fd ["row"] (spValue K) := by
  refine F.ok sc_law_value (fun vs H Q E h => ?_) (fun cdv A outer s H vs Q E hr h => ?_)
  · obtain ⟨a, ns, rfl, _⟩ := h
    rfl
  · obtain ⟨a, ns, rfl, hS, q⟩ := h
    refine ⟨_, (pss_cons (ps_set (i := 1) sc_law_value.nd rfl (Or.inl rfl) pe_int)
      (pss_cons (ps_for PassesOwn.never rfl (pi_tup (pv 0)) (pg_name (i := 2) sc_law_value.nd rfl (Or.inl rfl))
      (pss_one (ps_set (i := 1) sc_law_value.nd rfl (Or.inl rfl) (pe_op op_add (pe_op op_add (pv 1) (pv 1)) (pv 2)))))
      (pss_one (ps_ret (pv 1))))), ?_⟩
    refine ⟨_, rfl, a, rfl, ⟨_, hS⟩, for_tup (K := K) (a := a) (xs := ns.map V.int) (fun i σ H' => H' = H ∧ ∃ v, σ = [some (.ref a), some (.int (numOf (ns.take i))), v]) ⟨rfl, none, rfl⟩ (fun i σ H' _ p => by rw [p.1]; exact hS) ?_ ?_⟩
    · rintro i y σ H' hy ⟨rfl, v, rfl⟩
      obtain ⟨c, e, rfl⟩ := map_int hy
      refine ⟨_, rfl, _, rfl, _, _, rfl, rfl, _, rfl, _, _, rfl, rfl, rfl, some (.int c), ?_⟩
      rw [take_more e]
      have e2 : numOf (ns.take i ++ [c]) = numOf (ns.take i) + numOf (ns.take i) + c := by
        have z : numOf (ns.take i ++ [c]) = 2 * numOf (ns.take i) + c := by
          unfold numOf
          rw [List.foldl_append]
          rfl
        rw [z]
        omega
      rw [e2]
      rfl
    · rintro σ H' ⟨rfl, v, rfl⟩
      rw [List.length_map, List.take_length]
      exact ⟨_, rfl, q⟩
/-! ### _law_apart, _law_with -/
def answers (vs : List V) (Q : VK) (H : Hp) : Prop := ∀ H' t, Same H H' → H t = none → H' t = some (.lst vs) → Q (.ref t) H'
theorem sc_law_apart : FnScope ["one", "other", "told", "e"] ["one", "other"] (defScope s_law_apart) := ⟨rfl, rfl, rfl, by decide +kernel, rfl, by decide +kernel, by decide +kernel⟩
def spLApart (K : PySem.W.Frag) : Sp := fun vs H Q _ => ∃ x y b1 b2, vs = [x, y] ∧ RowV K H x b1 ∧ RowV K H y b2 ∧ (b1 = false → answers [.str "row", .str "one"] Q H) ∧ (b1 = true → b2 = false → answers [.str "row", .str "other"] Q H) ∧
  (b1 = true → b2 = true → ∃ (a b : Addr) (ns ms : List Int), x = .ref a ∧ y = .ref b ∧ SqT K H a (ns.map V.int) ∧ SqT K H b (ms.map V.int) ∧ ns.length ≤ 100000 ∧ (ns.length ≠ ms.length → answers [.str "row", .str "length"] Q H) ∧
    (ns.length = ms.length → answers [.str "told", .int (unl ns ms ns.length : Nat)] Q H))
theorem ok_law_apart (M : MF P w K mg cR iR cN iN cL) (F_apart : FnC P w K mg base (L2.CX P w) 8 "apart" ["one", "other"] (spApart K cR)) (F : Fun K "_law_apart" "_law_apart" s_law_apart f fd) : FnOk P w K mg base CX0 10 f fd ["one", "other"] (spLApart K) := by
  refine F.ok sc_law_apart (fun vs H Q E h => ?_) (fun cdv A outer s H vs Q E hr h => ?_)
  · obtain ⟨x, y, b1, b2, rfl, _⟩ := h
    rfl
  · obtain ⟨x, y, b1, b2, rfl, r1, r2, e1, e2, e3⟩ := h
    refine ⟨_, (pss_cons (ps_clauses rfl rfl sc_law_apart.nd takes0 (fun W pn xe tk _ => (pss_one (ps_set (i := 2) sc_law_apart.nd rfl (Or.inl rfl) (pe_lst (pa_cons pe_str (pa_cons (pe_fS F_apart hr (by omega) (fun σ => passAt tk σ) (pa_cons (pv 0) (pa_cons (pv 1) pa_nil))) pa_nil))))))
      (ClausesOk.named (i := 3) rfl rfl ⟨rfl, by decide, .inl M.g_BadRow⟩ (fun a oe cls d pn hz hf => (pss_one (ps_set (i := 2) sc_law_apart.nd rfl (Or.inl rfl) (pe_lst (pa_cons pe_str (pa_cons (pe_exf M.x_BadRow hz hf (pv 3)) pa_nil)))))) (ClausesOk.only ⟨rfl, by decide, .inl M.g_LabelError⟩ (fun a oe cls d pn hz hf => (pss_one (ps_set (i := 2) sc_law_apart.nd rfl (Or.inl rfl) (pe_lst (pa_cons pe_str pa_nil))))) ClausesOk.nil)))
      (pss_one (ps_ret (pv 2)))), ?_⟩
    refine ⟨x, rfl, y, rfl, x, y, b1, b2, rfl, r1, r2, ?_, ?_, ?_⟩
    · intro b0 H' d s' nd
      refine ⟨true, M.e_RR, fun _ ee na => ⟨.ref ee, rfl, rfl, rfl, d, _, rfl, upd_same, few (n := 2) (by decide), fun t nt => ⟨_, rfl, ?_⟩⟩, fun z => nomatch z⟩
      exact e1 b0 _ t (s'.trans ((same_upd nd).trans (same_upd nt))) ((s'.trans (same_upd nd)).free nt) upd_same
    · intro b0 b1 H' d s' nd
      refine ⟨true, M.e_RR, fun _ ee na => ⟨.ref ee, rfl, rfl, rfl, d, _, rfl, upd_same, few (n := 2) (by decide), fun t nt => ⟨_, rfl, ?_⟩⟩, fun z => nomatch z⟩
      exact e2 b0 b1 _ t (s'.trans ((same_upd nd).trans (same_upd nt))) ((s'.trans (same_upd nd)).free nt) upd_same
    · intro t1 t2
      obtain ⟨a, b, ns, ms, rfl, rfl, h1, h2, z, e4, q⟩ := e3 t1 t2
      refine ⟨a, b, ns, ms, rfl, rfl, h1, h2, z, fun c H' d s' nd => ?_, fun c H' s' => ?_⟩
      · refine ⟨true, M.e_RR, fun _ ee na => ⟨.ref ee, rfl, rfl, rfl, d, _, rfl, upd_same, few (n := 2) (by decide), fun t nt => ⟨_, rfl, ?_⟩⟩, fun z => nomatch z⟩
        exact e4 c _ t (s'.trans ((same_upd nd).trans (same_upd nt))) ((s'.trans (same_upd nd)).free nt) upd_same
      · refine ⟨few (n := 2) (by decide), fun t nt => ⟨_, rfl, ?_⟩⟩
        exact q c _ t (s'.trans (same_upd nt)) (s'.free nt) upd_same
theorem sc_law_with : FnScope ["number", "width", "told", "e"] ["number", "width"] (defScope s_law_with) := ⟨rfl, rfl, rfl, by decide +kernel, rfl, by decide +kernel, by decide +kernel⟩
def spLWith (K : PySem.W.Frag) : Sp := fun vs H Q _ => ∃ nv wv T1 T2, vs = [nv, wv] ∧ Knw K H nv T1 ∧ Knw K H wv T2 ∧ (withinV 0 12 wv = false → answers [.str "number", .str "width"] Q H) ∧
  (withinV 0 12 wv = true → ∃ W : Nat, wv = .int (W : Int) ∧ (withinV 0 (2 ^ W - 1) nv = false → answers [.str "number", .str "number"] Q H) ∧
    (withinV 0 (2 ^ W - 1) nv = true → ∃ N : Nat, nv = .int (N : Int) ∧ ∀ H' t r, Same H H' → H t = none → H r = none → H' t = some (.lst [.str "told", .ref r]) → H' r = some (.tup ((digits N W).map V.int)) → Q (.ref t) H'))
theorem ok_law_with (M : MF P w K mg cR iR cN iN cL) (F_row_with : FnC P w K mg base (L2.CX P w) 6 "row_with" ["number", "width"] (spRowWith K cN)) (F : Fun K "_law_with" "_law_with" s_law_with f fd) : FnOk P w K mg base CX0 8 f fd ["number", "width"] (spLWith K) := by
  refine F.ok sc_law_with (fun vs H Q E h => ?_) (fun cdv A outer s H vs Q E hr h => ?_)
  · obtain ⟨nv, wv, T1, T2, rfl, _⟩ := h
    rfl
  · obtain ⟨nv, wv, T1, T2, rfl, k1, k2, e1, e2⟩ := h
    refine ⟨_, (pss_cons (ps_clauses rfl rfl sc_law_with.nd takes0 (fun W pn xe tk _ => (pss_one (ps_set (i := 2) sc_law_with.nd rfl (Or.inl rfl) (pe_lst (pa_cons pe_str (pa_cons (pe_fS F_row_with hr (by omega) (fun σ => passAt tk σ) (pa_cons (pv 0) (pa_cons (pv 1) pa_nil))) pa_nil))))))
      (ClausesOk.named (i := 3) rfl rfl ⟨rfl, by decide, .inl M.g_BadNumber⟩ (fun a oe cls d pn hz hf => (pss_one (ps_set (i := 2) sc_law_with.nd rfl (Or.inl rfl) (pe_lst (pa_cons pe_str (pa_cons (pe_exf M.x_BadNumber hz hf (pv 3)) pa_nil)))))) (ClausesOk.only ⟨rfl, by decide, .inl M.g_LabelError⟩ (fun a oe cls d pn hz hf => (pss_one (ps_set (i := 2) sc_law_with.nd rfl (Or.inl rfl) (pe_lst (pa_cons pe_str pa_nil))))) ClausesOk.nil)))
      (pss_one (ps_ret (pv 2)))), ?_⟩
    refine ⟨nv, rfl, wv, rfl, nv, wv, T1, T2, rfl, k1, k2, ?_, ?_⟩
    · intro b0 H' d s' nd
      refine ⟨true, M.e_NN, fun _ ee na => ⟨.ref ee, rfl, rfl, rfl, d, _, rfl, upd_same, few (n := 2) (by decide), fun t nt => ⟨_, rfl, ?_⟩⟩, fun z => nomatch z⟩
      exact e1 b0 _ t (s'.trans ((same_upd nd).trans (same_upd nt))) ((s'.trans (same_upd nd)).free nt) upd_same
    · intro w1
      obtain ⟨W, rfl, e3, q⟩ := e2 w1
      refine ⟨W, rfl, fun c H' d s' nd => ?_, fun n1 => ?_⟩
      · refine ⟨true, M.e_NN, fun _ ee na => ⟨.ref ee, rfl, rfl, rfl, d, _, rfl, upd_same, few (n := 2) (by decide), fun t nt => ⟨_, rfl, ?_⟩⟩, fun z => nomatch z⟩
        exact e3 c _ t (s'.trans ((same_upd nd).trans (same_upd nt))) ((s'.trans (same_upd nd)).free nt) upd_same
      · obtain ⟨N, rfl, q2⟩ := q n1
        refine ⟨N, rfl, fun H' r s' nr er => ⟨few (n := 2) (by decide), fun t nt => ⟨_, rfl, ?_⟩⟩⟩
        exact q2 _ t r (s'.trans (same_upd nt)) (s'.free nt) nr upd_same (same_upd nt _ _ er)
end

end K01
namespace K01
open PySem PySem.Spec PyProof.Rows L2 SL
section
variable {P : Program} {w : World} {K : PySem.W.Frag} {mg : Str → Option Value} {base : Heap} {cR iR cN iN cL : Addr} {f : Addr} {fd : FuncData}
/-! ### facts -/
theorem numOf_app (a b : List Int) : numOf (a ++ b) = numOf a * 2 ^ b.length + numOf b := by
  have key : ∀ (b : List Int) (n : Int), b.foldl (fun n c => 2 * n + c) n = n * 2 ^ b.length + b.foldl (fun n c => 2 * n + c) 0 := by
    intro b
    induction b with
    | nil => intro n; simp
    | cons c r ih =>
      intro n
      rw [List.foldl_cons, List.foldl_cons, ih (2 * n + c), ih (2 * 0 + c), List.length_cons]
      have e : (2 : Int) ^ (r.length + 1) = 2 * 2 ^ r.length := by rw [Int.pow_succ, Int.mul_comm]
      rw [e]
      generalize (2 : Int) ^ r.length = z
      generalize List.foldl (fun n c => 2 * n + c) 0 r = y
      rw [Int.add_mul, Int.mul_zero, Int.zero_add, Int.mul_comm 2 n, Int.mul_assoc n 2 z]
      omega
  unfold numOf
  rw [List.foldl_append]
  exact key b _
theorem numOf_digits (N : Nat) : ∀ W : Nat, numOf (digits N W) = ((N % 2 ^ W : Nat) : Int)
  | 0 => by
    rw [Nat.pow_zero, Nat.mod_one]
    rfl
  | k + 1 => by
    rw [digits_succ, show ((N / 2 ^ k % 2 : Nat) : Int) :: digits N k = [((N / 2 ^ k % 2 : Nat) : Int)] ++ digits N k from rfl, numOf_app, numOf_digits N k, digits_len, Nat.mod_pow_succ]
    have e : numOf [((N / 2 ^ k % 2 : Nat) : Int)] = ((N / 2 ^ k % 2 : Nat) : Int) := by
      unfold numOf
      simp
    rw [e, Int.natCast_add, Int.natCast_mul, Int.natCast_pow]
    rw [Int.mul_comm, Int.add_comm]
    rfl
theorem all_bits {ns : List Int} (h : bits ns) : (ns.map V.int).all (withinV 0 1) = true := by
  rw [List.all_eq_true]
  intro v hv
  obtain ⟨c, hc, rfl⟩ := List.mem_map.mp hv
  rcases h c hc with rfl | rfl <;> rfl
theorem row_of {H : Hp} {r : Addr} {ns : List Int} (h : SqT K H r (ns.map V.int)) (hb : bits ns) (z : ns.length ≤ 100000) : RowV K H (.ref r) true := by
  have q := RowV.tup (K := K) h (fun y hy => by
    obtain ⟨c, _, rfl⟩ := List.mem_map.mp hy
    exact ⟨_, .int c⟩) (by rw [List.length_map]; exact z)
  rw [all_bits hb] at q
  exact q
theorem plain_ints (n : Nat) (ns : List Int) (h : ns.length ≤ 100000) : plainD (n + 1) (.tuple (ns.map PyData.int)) = true := by
  have h0 : plainDs n (ns.map PyData.int) = true := plainDs_all fun d hd => by
    obtain ⟨c, _, rfl⟩ := List.mem_map.mp hd
    simp [plainD]
  show (decide (_ ≤ 100000) && plainDs n _) = true
  rw [decide_eq_true (by rw [List.length_map]; exact h), h0]
  rfl
theorem two_str {H : Hp} {t : Addr} {x y : Str} (e : H t = some (.lst [.str x, .str y])) : Dp K H (.ref t) (.list [.str x, .str y]) := .lst (SqL.of e) (.cons (.str _) (.cons (.str _) .nil))
theorem pow13 {W : Nat} (h : W ≤ 12) : (0 : Int) < 2 ^ W ∧ (2 : Int) ^ W ≤ 4096 := by
  have c : W = 0 ∨ W = 1 ∨ W = 2 ∨ W = 3 ∨ W = 4 ∨ W = 5 ∨ W = 6 ∨ W = 7 ∨ W = 8 ∨ W = 9 ∨ W = 10 ∨ W = 11 ∨ W = 12 := by omega
  rcases c with rfl | rfl | rfl | rfl | rfl | rfl | rfl | rfl | rfl | rfl | rfl | rfl | rfl <;> exact ⟨by decide, by decide⟩
theorem within_yes {lo hi i : Int} (h1 : lo ≤ i) (h2 : i ≤ hi) : withinV lo hi (.int i) = true := by
  show (decide (lo ≤ i) && decide (i ≤ hi)) = true
  rw [decide_eq_true h1, decide_eq_true h2]
  rfl
theorem within_no {lo hi i : Int} (h : ¬ i ≤ hi) : withinV lo hi (.int i) = false := by
  show (decide (lo ≤ i) && decide (i ≤ hi)) = false
  rw [decide_eq_false h, Bool.and_false]
/-! ### _law_numbers_right -/
theorem sc_law_numbers_right : FnScope ["pool", "width", "number", "odd", "wrong"] ["pool"] (defScope s_law_numbers_right) := ⟨rfl, rfl, rfl, by decide +kernel, rfl, by decide +kernel, by decide +kernel⟩
def spRight : Sp := fun vs H Q _ => ∃ p q, vs = [.ref p] ∧ PoolAt H p q ∧ ∀ H', Q (.bl true) H'
theorem ok_law_numbers_right (M : MF P w K mg cR iR cN iN cL) (F_law_draw : FnC P w K mg base CX0 1 "_law_draw" ["pool", "many"] spDraw) (F_law_power : FnC P w K mg base CX0 1 "_law_power" ["many"] spPower)
    (F_law_same : FnC P w K mg base CX0 8 "_law_same" ["actual", "due"] (spSame K 3)) (F_law_with : FnC P w K mg base CX0 8 "_law_with" ["number", "width"] (spLWith K)) (F_law_row_of : FnC P w K mg base CX0 1 "_law_row_of" ["number", "width"] spRowOf)
    (F_cell_number : FnC P w K mg base CX0 1 "cell_number" ["row"] (spCellNumber K)) (F_row_with : FnC P w K mg base (L2.CX P w) 6 "row_with" ["number", "width"] (spRowWith K cN))
    (F : Fun K "_law_numbers_right" "_law_numbers_right" s_law_numbers_right f fd) : FnOk P w K mg base CX0 10 f fd ["pool"] spRight := by
  refine F.ok (k := 9) sc_law_numbers_right (fun vs H Q E h => ?_) (fun cdv A outer s H vs Q E hr h => ?_)
  · obtain ⟨p, q, rfl, _⟩ := h
    rfl
  · obtain ⟨p, q, rfl, hP, fin⟩ := h
    refine ⟨_, (Evl.pss_cut (ps_set (i := 1) sc_law_numbers_right.nd rfl (Or.inl rfl) (pe_f F_law_draw hr (by omega) pass0 (pa_cons (pv 0) (pa_cons pe_int pa_nil))))
      (Evl.pss_cut (ps_set (i := 2) sc_law_numbers_right.nd rfl (Or.inl rfl) (pe_f F_law_draw hr (by omega) pass0 (pa_cons (pv 0) (pa_cons (pe_f F_law_power hr (by omega) pass0 (pa_cons (pv 1) pa_nil)) pa_nil))))
      (Evl.pss_cut (ps_if (pt_not (pt_val (pe_f F_law_same hr (by omega) pass0 (pa_cons (pe_f F_law_with hr (by omega) pass0 (pa_cons (pv 2) (pa_cons (pv 1) pa_nil))) (pa_cons (pe_lst (pa_cons pe_str (pa_cons (pe_f F_law_row_of hr (by omega) pass0 (pa_cons (pv 2) (pa_cons (pv 1) pa_nil))) pa_nil))) pa_nil)))))
      (pss_one (ps_ret pe_bl)) pss_nil)
      (Evl.pss_cut (ps_set (i := 3) sc_law_numbers_right.nd rfl (Or.inl rfl) (pe_ix ix_list (pe_lst (pa_cons pe_non (pa_cons pe_bl (pa_cons pe_str (pa_cons (pe_un un_neg pe_int) (pa_cons pe_int (pa_cons (pe_lst (pa_cons pe_int pa_nil)) (pa_cons (pe_op op_pow pe_int pe_int) pa_nil)))))))) (pe_f F_law_draw hr (by omega) pass0 (pa_cons (pv 0) (pa_cons pe_int pa_nil))) (fun _ _ => rfl)))
      (Evl.pss_cut (ps_set (i := 4) sc_law_numbers_right.nd rfl (Or.inl rfl) (pe_ix ix_list (pe_lst (pa_cons pe_non (pa_cons pe_bl (pa_cons pe_str (pa_cons (pe_un un_neg pe_int) (pa_cons (pe_f F_law_power hr (by omega) pass0 (pa_cons (pv 1) pa_nil)) (pa_cons (pe_tup (pa_cons pe_int pa_nil)) (pa_cons (pe_op op_pow pe_int pe_int) pa_nil)))))))) (pe_f F_law_draw hr (by omega) pass0 (pa_cons (pv 0) (pa_cons pe_int pa_nil))) (fun _ _ => rfl)))
      (Evl.pss_cut (ps_if (PW.pt (pw_or (pt_cmpR (op_neD hr.units) (pe_f F_law_with hr (by omega) pass0 (pa_cons (pv 4) (pa_cons (pv 3) pa_nil))) (pe_lst (pa_cons pe_str (pa_cons pe_str pa_nil))) (nomark _)) (pw_or1 (pt_cmpR (op_neD hr.units) (pe_f F_law_with hr (by omega) pass0 (pa_cons (pv 4) (pa_cons (pv 1) pa_nil))) (pe_lst (pa_cons pe_str (pa_cons pe_str pa_nil))) (nomark _)))))
      (pss_one (ps_ret pe_bl)) pss_nil)
      (pss_one (ps_ret (pe_f F_law_same hr (by omega) pass0 (pa_cons (pe_f F_cell_number hr (by omega) pass0 (pa_cons (pe_f F_row_with hr (by omega) passL (pa_cons (pv 2) (pa_cons (pv 1) pa_nil))) pa_nil)) (pa_cons (pv 2) pa_nil))))))))))), ?_⟩
    -- width
    refine ⟨fun σ H' => ∃ W : Nat, σ = [some (.ref p), some (.int (W : Int)), none, none, none] ∧ PoolAt H' p q ∧ W ≤ 12, ?_, ?_⟩
    · refine ⟨_, rfl, p, q, 13, rfl, hP, by decide, by decide, fun H' d s' hP d0 d1 => ⟨d.toNat, ?_, hP, by omega⟩⟩
      rw [show (d.toNat : Int) = d by omega]
      rfl
    rintro _ H1 ⟨W, rfl, hP1, W12⟩
    obtain ⟨w0, w1⟩ := pow13 W12
    -- number
    refine ⟨fun σ H' => ∃ N : Nat, σ = [some (.ref p), some (.int (W : Int)), some (.int (N : Int)), none, none] ∧ PoolAt H' p q ∧ (N : Int) < 2 ^ W, ?_, ?_⟩
    · refine ⟨_, rfl, _, rfl, W, rfl, by omega, p, q, 2 ^ W, rfl, hP1, w0, by omega, fun H' d s' hP d0 d1 => ⟨d.toNat, ?_, hP, by omega⟩⟩
      rw [show (d.toNat : Int) = d by omega]
      rfl
    rintro _ H2 ⟨N, rfl, hP2, hN⟩
    have hW : withinV 0 12 (.int (W : Int)) = true := within_yes (by omega) (by omega)
    have hNW : withinV 0 (2 ^ W - 1) (.int (N : Int)) = true := within_yes (by omega) (by omega)
    have pD : plainD 3 (.list [.str "told", .tuple ((digits N W).map PyData.int)]) = true := by
      have e1 : plainD 2 (.tuple ((digits N W).map PyData.int)) = true := plain_ints 1 (digits N W) (by rw [digits_len]; omega)
      have e2 : plainDs 2 [.str "told", .tuple ((digits N W).map PyData.int)] = true := plainDs_all fun d hd => by
        rcases List.mem_cons.mp hd with rfl | hd
        · simp [plainD]
        · rw [List.mem_singleton] at hd
          rw [hd]
          exact e1
      show (decide (2 ≤ 100000) && plainDs 2 [.str "told", .tuple ((digits N W).map PyData.int)]) = true
      rw [e2]
      rfl
    -- the right one
    refine ⟨fun σ H' => σ = [some (.ref p), some (.int (W : Int)), some (.int (N : Int)), none, none] ∧ PoolAt H' p q, ?_, ?_⟩
    · refine ⟨_, rfl, _, rfl, _, _, _, _, rfl, .int _, .int _, (fun z => by rw [hW] at z; cases z), fun _ => ⟨W, rfl, (fun z => by rw [hNW] at z; cases z), fun _ => ⟨N, rfl, fun H3 t r s3 nt nr et er => ?_⟩⟩⟩
      refine ⟨_, rfl, _, rfl, N, W, rfl, by omega, fun H4 r2 s4 nr2 er2 => ⟨few (n := 2) (by decide), fun u nu => ?_⟩⟩
      have su := same_upd (o := .lst [.str "told", .ref r2]) nu
      have s45 := s4.trans su
      refine ⟨_, _, _, rfl, .lst (SqL.of (s45 _ _ et)) (.cons (.str _) (.cons (.tup (SqT.of (s45 _ _ er)) (DpAll.ints _)) .nil)), .lst (SqL.of upd_same) (.cons (.str _) (.cons (.tup (SqT.of (su _ _ er2)) (DpAll.ints _)) .nil)), pD, fun H5 s5 => ⟨_, rfl, iteF ⟨rfl, ?_⟩⟩⟩
      exact hP2.same (s3.trans (s45.trans s5))
    rintro _ H3 ⟨rfl, hP3⟩
    clear hP2 hP1 hP
    -- odd
    refine ⟨fun σ H' => ∃ v T, σ = [some (.ref p), some (.int (W : Int)), some (.int (N : Int)), some v, none] ∧ PoolAt H' p q ∧ Knw K (off H' p) v T ∧ withinV 0 12 v = false, ?_, ?_⟩
    · refine ⟨_, rfl, few (n := 1) (by decide), fun t1 m1 => ⟨_, _, rfl, rfl, ⟨by decide, by decide, by decide⟩, few (n := 7) (by decide), fun m nm => ?_⟩⟩
      have q1 := hP3.same (same_upd (o := .lst [.int 2]) m1)
      have e1 := (same_upd (o := .lst [.non, .bl true, .str "3", .int (-1), .int 13, .ref t1, .int (10 ^ (20 : Int).toNat)]) nm) t1 _ upd_same
      have f1 := (hP3.at_p m1).1
      have fm := (q1.at_p nm).1
      have q2 := q1.same (same_upd (o := .lst [.non, .bl true, .str "3", .int (-1), .int 13, .ref t1, .int (10 ^ (20 : Int).toNat)]) nm)
      have em : (upd (upd H3 t1 (.lst [.int 2])) m (.lst [.non, .bl true, .str "3", .int (-1), .int 13, .ref t1, .int (10 ^ (20 : Int).toNat)])) m = some (.lst [.non, .bl true, .str "3", .int (-1), .int 13, .ref t1, .int (10 ^ (20 : Int).toNat)]) := upd_same
      refine ⟨_, rfl, p, q, 7, rfl, q2, by decide, by decide, fun H' d s' hP' d0 d1 => ?_⟩
      obtain ⟨v, T, hv, hk, hw⟩ : ∃ v T, atI [V.non, .bl true, .str "3", .int (-1), .int 13, .ref t1, .int (10 ^ (20 : Int).toNat)] d = some v ∧ Knw K (off H' p) v T ∧ withinV 0 12 v = false := by
        have c7 : d = 0 ∨ d = 1 ∨ d = 2 ∨ d = 3 ∨ d = 4 ∨ d = 5 ∨ d = 6 := by omega
        rcases c7 with rfl | rfl | rfl | rfl | rfl | rfl | rfl
        · exact ⟨_, _, rfl, .non, rfl⟩
        · exact ⟨_, _, rfl, .bl _, rfl⟩
        · exact ⟨_, _, rfl, .str _, rfl⟩
        · exact ⟨_, _, rfl, .int _, rfl⟩
        · exact ⟨_, _, rfl, .int _, rfl⟩
        · exact ⟨_, _, rfl, .lst (SqL.of (s' t1 _ (by rw [off_ne f1]; exact e1))), rfl⟩
        · exact ⟨_, _, rfl, .int _, rfl⟩
      exact ⟨m, _, d, v, rfl, rfl, SqL.of (off_get s' fm em), hv, v, T, rfl, hP', hk, hw⟩
    rintro _ H4 ⟨v4, T4, rfl, hP4, hk4, hw4⟩
    clear hP3
    -- wrong
    refine ⟨fun σ H' => ∃ v T, σ = [some (.ref p), some (.int (W : Int)), some (.int (N : Int)), some v4, some v] ∧ PoolAt H' p q ∧ Knw K H' v4 T4 ∧ Knw K H' v T ∧ withinV 0 (2 ^ W - 1) v = false, ?_, ?_⟩
    · refine ⟨_, rfl, _, rfl, W, rfl, by omega, few (n := 1) (by decide), fun t1 m1 => ⟨_, _, rfl, rfl, ⟨by decide, by decide, by decide⟩, few (n := 7) (by decide), fun m nm => ?_⟩⟩
      have q1 := hP4.same (same_upd (o := .tup [.int 0]) m1)
      have e1 := (same_upd (o := .lst [.non, .bl false, .str "0", .int (-1), .int (2 ^ W), .ref t1, .int (10 ^ (20 : Int).toNat)]) nm) t1 _ upd_same
      have f1 := (hP4.at_p m1).1
      have fm := (q1.at_p nm).1
      have sB := (same_upd (o := .tup [.int 0]) m1).trans (same_upd (o := .lst [.non, .bl false, .str "0", .int (-1), .int (2 ^ W), .ref t1, .int (10 ^ (20 : Int).toNat)]) nm)
      have q2 := q1.same (same_upd (o := .lst [.non, .bl false, .str "0", .int (-1), .int (2 ^ W), .ref t1, .int (10 ^ (20 : Int).toNat)]) nm)
      have em : (upd (upd H4 t1 (.tup [.int 0])) m (.lst [.non, .bl false, .str "0", .int (-1), .int (2 ^ W), .ref t1, .int (10 ^ (20 : Int).toNat)])) m = some (.lst [.non, .bl false, .str "0", .int (-1), .int (2 ^ W), .ref t1, .int (10 ^ (20 : Int).toNat)]) := upd_same
      refine ⟨_, rfl, p, q, 7, rfl, q2, by decide, by decide, fun H' d s' hP' d0 d1 => ?_⟩
      obtain ⟨v, T, hv, hk, hw⟩ : ∃ v T, atI [V.non, .bl false, .str "0", .int (-1), .int (2 ^ W), .ref t1, .int (10 ^ (20 : Int).toNat)] d = some v ∧ Knw K (off H' p) v T ∧ withinV 0 (2 ^ W - 1) v = false := by
        have c7 : d = 0 ∨ d = 1 ∨ d = 2 ∨ d = 3 ∨ d = 4 ∨ d = 5 ∨ d = 6 := by omega
        rcases c7 with rfl | rfl | rfl | rfl | rfl | rfl | rfl
        · exact ⟨_, _, rfl, .non, rfl⟩
        · exact ⟨_, _, rfl, .bl _, rfl⟩
        · exact ⟨_, _, rfl, .str _, rfl⟩
        · exact ⟨_, _, rfl, .int _, rfl⟩
        · exact ⟨_, _, rfl, .int _, within_no (by omega)⟩
        · exact ⟨_, _, rfl, .tup (SqT.of (s' t1 _ (by rw [off_ne f1]; exact e1))), rfl⟩
        · exact ⟨_, _, rfl, .int _, within_no (by
            have : (10 : Int) ^ (20 : Int).toNat = 100000000000000000000 := by decide
            omega)⟩
      exact ⟨m, _, d, v, rfl, rfl, SqL.of (off_get s' fm em), hv, v, T, rfl, hP', ((hk4.same (off_mono sB)).same s').same (off_same H' p), hk.same (off_same H' p), hw⟩
    rintro _ H5 ⟨v5, T5, rfl, hP5, hK4, hK5, hw5⟩
    clear hP4 hk4
    have eW : PyData.eqv (.list [.str "number", .str "width"]) (.list [.str "number", .str "width"]) = true := by decide +kernel
    have eN : PyData.eqv (.list [.str "number", .str "number"]) (.list [.str "number", .str "number"]) = true := by decide +kernel
    have zW : SeqAt.shaped (.list [.str "number", .str "width"]) = true := by decide +kernel
    have zN : SeqAt.shaped (.list [.str "number", .str "number"]) = true := by decide +kernel
    -- the wrong ones
    refine ⟨fun σ H' => σ = [some (.ref p), some (.int (W : Int)), some (.int (N : Int)), some v4, some v5], ?_, ?_⟩
    · refine ⟨v5, rfl, v4, rfl, v5, v4, T5, T4, rfl, hK5, hK4, (fun _ H' t s' nt et => ⟨few (n := 2) (by decide), fun u nu => ?_⟩), fun z => by rw [hw4] at z; cases z⟩
      refine ⟨_, _, two_str (same_upd nu _ _ et), two_str upd_same, zW, zW, _, rfl, ite2 (fun z => by rw [eW] at z; cases z) fun _ => ?_⟩
      have s2 := s'.trans (same_upd (o := .lst [.str "number", .str "width"]) nu)
      generalize upd H' u (.lst [.str "number", .str "width"]) = H6 at s2 ⊢
      refine ⟨v5, rfl, _, rfl, v5, .int (W : Int), T5, _, rfl, hK5.same s2, .int _, (fun z => by rw [hW] at z; cases z), fun _ => ⟨W, rfl, (fun _ H' t s' nt et => ⟨few (n := 2) (by decide), fun u nu => ?_⟩), fun z => by rw [hw5] at z; cases z⟩⟩
      exact ⟨_, _, two_str (same_upd nu _ _ et), two_str upd_same, zN, zN, _, rfl, ite2 (fun z => by rw [eN] at z; cases z) fun _ => rfl⟩
    rintro _ H6 rfl
    -- cell_number(row_with(number, width))
    refine ⟨_, rfl, _, rfl, .int (N : Int), .int (W : Int), _, _, rfl, .int _, .int _, (fun z => by rw [hW] at z; cases z), fun _ => ⟨W, rfl, (fun z => by rw [hNW] at z; cases z), fun _ => ⟨N, rfl, fun H7 r s7 nr er => ?_⟩⟩⟩
    refine ⟨r, _, rfl, SqT.of er, ?_⟩
    have eD : numOf (digits N W) = (N : Int) := by
      rw [numOf_digits, Nat.mod_eq_of_lt]
      have e : ((2 ^ W : Nat) : Int) = (2 : Int) ^ W := by
        rw [Int.natCast_pow]
        rfl
      omega
    rw [eD]
    exact ⟨_, rfl, _, _, _, rfl, .int _, .int _, by simp [plainD], fun H8 _ => fin H8⟩
end

end K01
namespace K01
open PySem PySem.Spec PyProof.Rows L2 SL
section
variable {P : Program} {w : World} {K : PySem.W.Frag} {mg : Str → Option Value} {base : Heap} {cR iR cN iN cL : Addr} {f : Addr} {fd : FuncData}
/-! ### counts -/
theorem filter_congr' {α : Type} {f g : α → Bool} : ∀ l : List α, (∀ k ∈ l, f k = g k) → l.filter f = l.filter g
  | [], _ => rfl
  | k :: r, h => by
    rw [List.filter_cons, List.filter_cons, h k (List.mem_cons_self ..), filter_congr' r fun j hj => h j (List.mem_cons_of_mem _ hj)]
theorem unl_comm (ns ms : List Int) (n : Nat) : unl ms ns n = unl ns ms n := by
  unfold unl
  refine congrArg List.length (filter_congr' _ fun k _ => ?_)
  by_cases h : ns.getD k 0 = ms.getD k 0
  · rw [decide_eq_false fun z => z h.symm, decide_eq_false fun z => z h]
  · have h' : ¬ ms.getD k 0 = ns.getD k 0 := fun z => h z.symm
    rw [decide_eq_true (p := ms.getD k 0 ≠ ns.getD k 0) h', decide_eq_true (p := ns.getD k 0 ≠ ms.getD k 0) h]
theorem unl_self (ns : List Int) (n : Nat) : unl ns ns n = 0 := by
  unfold unl
  rw [List.filter_eq_nil_iff.mpr fun k _ => by simp]
  rfl
theorem unl_rev (ns ms : List Int) (n : Nat) (h1 : ns.length = n) (h2 : ms.length = n) : unl ns.reverse ms.reverse n = unl ns ms n := by
  unfold unl
  have e : (List.range n).filter (fun k => decide (ns.reverse.getD k 0 ≠ ms.reverse.getD k 0)) = (List.range n).filter ((fun k => decide (ns.getD k 0 ≠ ms.getD k 0)) ∘ fun k => n - 1 - k) := filter_congr' _ fun k hk => by
    have := List.mem_range.mp hk
    show decide (ns.reverse.getD k 0 ≠ ms.reverse.getD k 0) = decide (ns.getD (n - 1 - k) 0 ≠ ms.getD (n - 1 - k) 0)
    rw [List.getD_eq_getElem?_getD, List.getD_eq_getElem?_getD, List.getD_eq_getElem?_getD, List.getD_eq_getElem?_getD, List.getElem?_reverse (by omega), List.getElem?_reverse (by omega), h1, h2]
  rw [e]
  have m : ∀ l : List Nat, (l.filter ((fun k => decide (ns.getD k 0 ≠ ms.getD k 0)) ∘ fun k => n - 1 - k)).length = ((l.map fun k => n - 1 - k).filter fun k => decide (ns.getD k 0 ≠ ms.getD k 0)).length := fun l => by
    rw [List.filter_map, List.length_map]
  rw [m, PySem.W.krv_range, List.filter_reverse, List.length_reverse]
theorem sum_ones : ∀ k : Nat, (List.replicate k (1 : Int)).sum = (k : Int)
  | 0 => rfl
  | k + 1 => by
    rw [List.replicate_succ, List.sum_cons, sum_ones k]
    omega
theorem same_put {H H' : Hp} {l : Addr} {o : HO} (s : Same H H') (n : H l = none) : Same H (upd H' l o) := fun b u e => by
  rw [upd_ne (ne_of_none e n)]
  exact s _ _ e
theorem bit_at {ns : List Int} {i : Nat} {c : Int} (h : bits ns) (e : ns[i]? = some c) : c = 0 ∨ c = 1 := h c (List.mem_of_getElem? e)
theorem at_nat {ns : List Int} {i : Nat} {c : Int} (e : ns[i]? = some c) : atI (ns.map V.int) ((0 : Int) + (i : Nat)) = some (.int c) := by
  rw [Int.zero_add]
  refine atI_nat ?_
  rw [List.getElem?_map, e]
  rfl
theorem map_at {ns : List Int} {i : Nat} {c : Int} (e : ns[i]? = some c) : (ns.map V.int)[i]? = some (.int c) := by
  rw [List.getElem?_map, e]
  rfl
/-- what stands behind each statement: the pool, the rows -/
def Ct2 (K : PySem.W.Frag) (p q r1 r2 : Addr) (ns ms : List Int) (H : Hp) : Prop := PoolAt H p q ∧ SqT K (off H p) r1 (ns.map V.int) ∧ SqT K (off H p) r2 (ms.map V.int)
theorem Ct2.same {p q r1 r2 : Addr} {ns ms : List Int} {H H' : Hp} (s : Same H H') (h : Ct2 K p q r1 r2 ns ms H) : Ct2 K p q r1 r2 ns ms H' := ⟨h.1.same s, Same.seqT (off_mono s) h.2.1, Same.seqT (off_mono s) h.2.2⟩
theorem Ct2.one {p q r1 r2 : Addr} {ns ms : List Int} {H : Hp} (h : Ct2 K p q r1 r2 ns ms H) : SqT K H r1 (ns.map V.int) := Same.seqT (off_same H p) h.2.1
theorem Ct2.two {p q r1 r2 : Addr} {ns ms : List Int} {H : Hp} (h : Ct2 K p q r1 r2 ns ms H) : SqT K H r2 (ms.map V.int) := Same.seqT (off_same H p) h.2.2
/-- a tuple that is no row -/
theorem notup {H : Hp} {t : Addr} {xs : List V} (h : H t = some (.tup xs)) (k : ∀ y ∈ xs, ∃ T, Knw K H y T) (z : xs.length ≤ 100000) (n : xs.all (withinV 0 1) = false) : RowV K H (.ref t) false := by
  have q := RowV.tup (K := K) (SqT.of h) k z
  rw [n] at q
  exact q
theorem kn1 {H : Hp} {x : V} {T : String} (h : Knw K H x T) : ∀ y ∈ [x], ∃ T, Knw K H y T := fun y hy => by
  rw [List.mem_singleton] at hy
  rw [hy]
  exact ⟨T, h⟩
theorem kn2 {H : Hp} {x x' : V} {T T' : String} (h : Knw K H x T) (h' : Knw K H x' T') : ∀ y ∈ [x, x'], ∃ T, Knw K H y T := fun y hy => by
  rcases List.mem_cons.mp hy with hy | hy
  · rw [hy]
    exact ⟨T, h⟩
  · exact kn1 h' y hy
/-! ### the law -/
theorem sc_law : FnScope ["script", "pool", "length", "one", "other", "due", "back", "wrong", "thing", "at"] ["script"] (defScope s_law) := ⟨rfl, rfl, rfl, by decide +kernel, rfl, by decide +kernel, by decide +kernel⟩
def spLaw (K : PySem.W.Frag) : Sp := fun vs H Q _ => ∃ (a : Addr) (ns : List Int), vs = [.ref a] ∧ SqL K H a (ns.map V.int) ∧ ns.length ≤ 63 ∧ ∀ H', Q (.bl true) H'
theorem ok_law (M : MF P w K mg cR iR cN iN cL) (F_law_pool : FnC P w K mg base CX0 1 "_law_pool" ["script"] (spPool K)) (F_law_draw : FnC P w K mg base CX0 1 "_law_draw" ["pool", "many"] spDraw) (F_law_row : FnC P w K mg base CX0 3 "_law_row" ["pool", "length"] spLRow)
    (F_law_same : FnC P w K mg base CX0 8 "_law_same" ["actual", "due"] (spSame K 3)) (F_law_apart : FnC P w K mg base CX0 10 "_law_apart" ["one", "other"] (spLApart K)) (F_apart : FnC P w K mg base (L2.CX P w) 8 "apart" ["one", "other"] (spApart K cR))
    (F_turned : FnC P w K mg base CX0 1 "turned" ["row"] (spTurned K)) (F_cell_number : FnC P w K mg base CX0 1 "cell_number" ["row"] (spCellNumber K)) (F_law_value : FnC P w K mg base CX0 1 "_law_value" ["row"] (spValue K))
    (F_law_deep : FnC P w K mg base CX0 1 "_law_deep" [] spDeep) (F_is_row : FnC P w K mg base CX0 4 "is_row" ["thing"] (spRowQ K)) (F_law_numbers_right : FnC P w K mg base CX0 10 "_law_numbers_right" ["pool"] spRight)
    (F : Fun K "law" "law" s_law f fd) : FnOk P w K mg base CX0 13 f fd ["script"] (spLaw K) := by
  refine F.ok (k := 12) sc_law (fun vs H Q E h => ?_) (fun cdv A outer s H vs Q E hr h => ?_)
  · obtain ⟨a, ns, rfl, _⟩ := h
    rfl
  · obtain ⟨a, ss, rfl, hS, hl, fin⟩ := h
    refine ⟨_, (Evl.pss_cut (ps_set (i := 1) sc_law.nd rfl (Or.inl rfl) (pe_f F_law_pool hr (by omega) pass0 (pa_cons (pv 0) pa_nil)))
      (Evl.pss_cut (ps_set (i := 2) sc_law.nd rfl (Or.inr rfl) (pe_ix ix_list (pe_lst (pa_cons (pe_f F_law_draw hr (by omega) pass0 (pa_cons (pv 1) (pa_cons pe_int pa_nil))) (pa_cons pe_int pa_nil))) (pe_callTy call_int1 (by rfl) M.m_int (by decide +kernel) (pa_cons (pe_cmpR op_eq (pe_f F_law_draw hr (by omega) pass0 (pa_cons (pv 1) (pa_cons pe_int pa_nil))) pe_int (nomark _)) pa_nil)) (fun _ _ => rfl)))
      (Evl.pss_cut (ps_set (i := 3) sc_law.nd rfl (Or.inr rfl) (pe_f F_law_row hr (by omega) pass0 (pa_cons (pv 1) (pa_cons (pv 2) pa_nil))))
      (Evl.pss_cut (ps_set (i := 4) sc_law.nd rfl (Or.inr rfl) (pe_f F_law_row hr (by omega) pass0 (pa_cons (pv 1) (pa_cons (pv 2) pa_nil))))
      (Evl.pss_cut (ps_set (i := 5) sc_law.nd rfl (Or.inl rfl) (pe_callB (cr_sum rfl) (by rfl) M.m_sum (by decide +kernel) (pa_cons (pe_lc (own := [("at", 9)]) rfl sc_law.nd (pi_range1 (by rfl) M.m_range (pa_cons (pv 2) pa_nil)) (blkOk_by (N := ["script", "pool", "length", "one", "other", "due", "back", "wrong", "thing", "at"]) (sc := defScope s_law) (by decide +kernel)) (fun _ _ _ _ _ => (pg_name (i := 9) sc_law.nd rfl (Or.inl rfl))) (fun _ _ _ _ _ => (pts_one (pt_cmpR op_eq (pe_op op_add (pe_ix (ix_tupK K) (pv 3) (pv 9) (fun _ _ => rfl)) (pe_ix (ix_tupK K) (pv 4) (pv 9) (fun _ _ => rfl))) pe_int (nomark _)))) (fun _ _ _ _ _ => pe_int)) pa_nil)))
      (Evl.pss_cut (ps_if (PW.pt (pw_or (pt_not (pt_val (pe_f F_law_same hr (by omega) pass0 (pa_cons (pe_f F_law_apart hr (by omega) pass0 (pa_cons (pv 3) (pa_cons (pv 4) pa_nil))) (pa_cons (pe_lst (pa_cons pe_str (pa_cons (pv 5) pa_nil))) pa_nil))))) (pw_or1 (pt_not (pt_val (pe_f F_law_same hr (by omega) pass0 (pa_cons (pe_f F_apart hr (by omega) passL (pa_cons (pv 4) (pa_cons (pv 3) pa_nil))) (pa_cons (pv 5) pa_nil))))))))
      (pss_one (ps_ret pe_bl)) pss_nil)
      (Evl.pss_cut (ps_set (i := 6) sc_law.nd rfl (Or.inl rfl) (pe_f F_turned hr (by omega) pass0 (pa_cons (pv 3) pa_nil)))
      (Evl.pss_cut (ps_if (PW.pt (pw_or (pt_not (pt_val (pe_f F_law_same hr (by omega) pass0 (pa_cons (pv 6) (pa_cons (pe_callTy call_tuple_of (by rfl) M.m_tuple (by decide +kernel) (pa_cons (pe_lc (own := [("at", 9)]) (tt := tYes) rfl sc_law.nd (pi_range1 (by rfl) M.m_range (pa_cons (pv 2) pa_nil)) (blkOk_by (N := ["script", "pool", "length", "one", "other", "due", "back", "wrong", "thing", "at"]) (sc := defScope s_law) (by decide +kernel)) (fun _ _ _ _ _ => (pg_name (i := 9) sc_law.nd rfl (Or.inl rfl))) (fun _ _ _ _ _ => pts_nil) (fun _ _ _ _ _ => (pe_ix (ix_tupK K) (pv 3) (pe_op op_sub (pe_op op_sub (pv 2) pe_int) (pv 9)) (fun _ _ => rfl)))) pa_nil)) pa_nil))))) (pw_or1 (pt_not (pt_val (pe_f F_law_same hr (by omega) pass0 (pa_cons (pe_f F_turned hr (by omega) pass0 (pa_cons (pv 6) pa_nil)) (pa_cons (pv 3) pa_nil))))))))
      (pss_one (ps_ret pe_bl)) pss_nil)
      (Evl.pss_cut (ps_if (PW.pt (pw_or (pt_cmpR op_ne (pe_f F_apart hr (by omega) passL (pa_cons (pe_f F_turned hr (by omega) pass0 (pa_cons (pv 3) pa_nil)) (pa_cons (pe_f F_turned hr (by omega) pass0 (pa_cons (pv 4) pa_nil)) pa_nil))) (pv 5) (nomark _)) (pw_or1 (pt_not (pt_val (pe_f F_law_same hr (by omega) pass0 (pa_cons (pe_f F_apart hr (by omega) passL (pa_cons (pv 3) (pa_cons (pv 3) pa_nil))) (pa_cons pe_int pa_nil))))))))
      (pss_one (ps_ret pe_bl)) pss_nil)
      (Evl.pss_cut (ps_if (PW.pt (pw_or (pt_not (pt_val (pe_f F_law_same hr (by omega) pass0 (pa_cons (pe_f F_cell_number hr (by omega) pass0 (pa_cons (pv 3) pa_nil)) (pa_cons (pe_f F_law_value hr (by omega) pass0 (pa_cons (pv 3) pa_nil)) pa_nil))))) (pw_or1 (pt_not (pt_val (pe_f F_law_same hr (by omega) pass0 (pa_cons (pe_f F_cell_number hr (by omega) pass0 (pa_cons (pe_tup pa_nil) pa_nil)) (pa_cons pe_int pa_nil))))))))
      (pss_one (ps_ret pe_bl)) pss_nil)
      (Evl.pss_cut (ps_set (i := 7) sc_law.nd rfl (Or.inl rfl) (pe_ix ix_list (pe_lst (pa_cons pe_non (pa_cons pe_int (pa_cons pe_str (pa_cons (pe_callTy call_list_of (by rfl) M.m_list (by decide +kernel) (pa_cons (pv 3) pa_nil)) (pa_cons pe_dnewK (pa_cons (pe_tup (pa_cons pe_int (pa_cons pe_int pa_nil))) (pa_cons (pe_tup (pa_cons pe_bl pa_nil)) (pa_cons (pe_tup (pa_cons pe_int (pa_cons pe_non pa_nil))) (pa_cons (pe_tup (pa_cons (pe_tup (pa_cons pe_int pa_nil)) pa_nil)) (pa_cons (pe_tup (pa_cons pe_int (pa_cons (pe_un un_neg pe_int) pa_nil))) (pa_cons (pe_tup (pa_cons pe_str pa_nil)) (pa_cons (pe_lst (pa_cons (pe_tup (pa_cons pe_int pa_nil)) pa_nil)) (pa_cons (pe_tup (pa_cons (pe_lst pa_nil) (pa_cons pe_int pa_nil))) (pa_cons (pe_tup (pa_cons (pe_f0 F_law_deep hr (by omega) pass0) pa_nil)) pa_nil))))))))))))))) (pe_f F_law_draw hr (by omega) pass0 (pa_cons (pv 1) (pa_cons pe_int pa_nil))) (fun _ _ => rfl)))
      (Evl.pss_cut (ps_for PassesOwn.never rfl (pi_list (pe_lst (pa_cons (pv 3) (pa_cons (pv 4) (pa_cons (pe_tup pa_nil) pa_nil))))) (pg_name (i := 8) sc_law.nd rfl (Or.inl rfl))
      (pss_one (ps_if (pt_not (pt_val (pe_f F_law_same hr (by omega) pass0 (pa_cons (pe_f F_is_row hr (by omega) pass0 (pa_cons (pv 8) pa_nil)) (pa_cons pe_bl pa_nil)))))
      (pss_one (ps_ret pe_bl)) pss_nil)))
      (Evl.pss_cut (ps_if (pt_not (pt_val (pe_f F_law_same hr (by omega) pass0 (pa_cons (pe_f F_is_row hr (by omega) pass0 (pa_cons (pv 7) pa_nil)) (pa_cons pe_bl pa_nil)))))
      (pss_one (ps_ret pe_bl)) pss_nil)
      (Evl.pss_cut (ps_if (PW.pt (pw_or (pt_cmpR (op_neD hr.units) (pe_f F_law_apart hr (by omega) pass0 (pa_cons (pv 7) (pa_cons (pv 7) pa_nil))) (pe_lst (pa_cons pe_str (pa_cons pe_str pa_nil))) (nomark _)) (pw_or1 (pt_cmpR (op_neD hr.units) (pe_f F_law_apart hr (by omega) pass0 (pa_cons (pv 3) (pa_cons (pv 7) pa_nil))) (pe_lst (pa_cons pe_str (pa_cons pe_str pa_nil))) (nomark _)))))
      (pss_one (ps_ret pe_bl)) pss_nil)
      (Evl.pss_cut (ps_if (PW.pt (pw_or (pt_cmpR (op_neD hr.units) (pe_f F_law_apart hr (by omega) pass0 (pa_cons (pv 3) (pa_cons (pe_op (op_catU K) (pv 4) (pe_tup (pa_cons pe_int pa_nil))) pa_nil))) (pe_lst (pa_cons pe_str (pa_cons pe_str pa_nil))) (nomark _)) (pw_or1 (pt_cmpR (op_neD hr.units) (pe_f F_law_apart hr (by omega) pass0 (pa_cons (pe_op (op_catU K) (pv 3) (pe_tup (pa_cons pe_int (pa_cons pe_int pa_nil)))) (pa_cons (pv 4) pa_nil))) (pe_lst (pa_cons pe_str (pa_cons pe_str pa_nil))) (nomark _)))))
      (pss_one (ps_ret pe_bl)) pss_nil)
      (pss_one (ps_ret (pe_f F_law_numbers_right hr (by omega) pass0 (pa_cons (pv 1) pa_nil))))))))))))))))))), ?_⟩
    -- pool
    refine ⟨fun σ H' => ∃ p q, σ = [some (.ref a), some (.ref p), none, none, none, none, none, none, none, none] ∧ PoolAt H' p q, ⟨_, rfl, a, ss, rfl, hS, hl, fun H' p q s' np hP => ⟨p, q, rfl, hP⟩⟩, ?_⟩
    rintro _ H1 ⟨p, q, rfl, hP1⟩
    -- length
    refine ⟨fun σ H' => ∃ n : Nat, σ = [some (.ref a), some (.ref p), some (.int (n : Int)), none, none, none, none, none, none, none] ∧ PoolAt H' p q ∧ n ≤ 40, ?_, ?_⟩
    · refine ⟨_, rfl, p, q, 13, rfl, hP1, by decide, by decide, fun H' d s' hP' d0 d1 => ⟨few (n := 2) (by decide), fun l nl => ?_⟩⟩
      have nlp := (hP'.at_p nl).1
      have hP2 := hP'.same (same_upd (o := .lst [.int d, .int 40]) nl)
      refine ⟨_, rfl, p, q, 8, rfl, hP2, by decide, by decide, fun H2 e s2 hP3 e0 e1 => ⟨rfl, .inr ⟨_, rfl, ?_⟩⟩⟩
      have el : H2 l = some (.lst [.int d, .int 40]) := off_get s2 nlp upd_same
      by_cases c : e = 0
      · rw [show decide (V.int e = V.int 0) = true from decide_eq_true (by rw [c])]
        exact ⟨l, _, 1, .int 40, rfl, rfl, SqL.of el, rfl, 40, rfl, hP3, by decide⟩
      · rw [show decide (V.int e = V.int 0) = false from decide_eq_false fun z => c (V.int.inj z)]
        refine ⟨l, _, 0, .int d, rfl, rfl, SqL.of el, rfl, d.toNat, ?_, hP3, by omega⟩
        rw [show (d.toNat : Int) = d by omega]
        rfl
    rintro _ H2 ⟨n, rfl, hP2, n40⟩
    -- one, other
    refine ⟨fun σ H' => ∃ r1 ns, σ = [some (.ref a), some (.ref p), some (.int (n : Int)), some (.ref r1), none, none, none, none, none, none] ∧ PoolAt H' p q ∧ SqT K (off H' p) r1 (ns.map V.int) ∧ ns.length = n ∧ bits ns, ?_, ?_⟩
    · refine ⟨_, rfl, _, rfl, p, q, n, rfl, hP2, by omega, fun H' r ns s' hP nr er ln hb => ⟨r, ns, rfl, hP, SqT.of ?_, ln, hb⟩⟩
      rw [off_ne (hP2.at_p nr).1]
      exact er
    rintro _ H3 ⟨r1, ns, rfl, hP3, h1, ln, hb⟩
    refine ⟨fun σ H' => ∃ r2 ms, σ = [some (.ref a), some (.ref p), some (.int (n : Int)), some (.ref r1), some (.ref r2), none, none, none, none, none] ∧ Ct2 K p q r1 r2 ns ms H' ∧ ms.length = n ∧ bits ms, ?_, ?_⟩
    · refine ⟨_, rfl, _, rfl, p, q, n, rfl, hP3, by omega, fun H' r ms s' hP nr er lm hm => ⟨r, ms, rfl, ⟨hP, Same.seqT s' h1, SqT.of ?_⟩, lm, hm⟩⟩
      rw [off_ne (hP3.at_p nr).1]
      exact er
    rintro _ H4 ⟨r2, ms, rfl, hC4, lm, hm⟩
    clear hP3 hP2 hP1 h1
    -- due
    refine ⟨fun σ H' => σ = [some (.ref a), some (.ref p), some (.int (n : Int)), some (.ref r1), some (.ref r2), some (.int (unl ns ms n : Nat)), none, none, none, none] ∧ Ct2 K p q r1 r2 ns ms H', ?_, ?_⟩
    · refine ⟨_, rfl, (n : Int), rfl, by omega, by omega, fun D nD => ?_⟩
      refine lc_range (lo := 0) (n := n) (fun i H' => Same H4 H' ∧ H' D = some (.lst (List.replicate (unl ns ms i) (V.int 1)))) ⟨same_upd nD, upd_same⟩ (fun i H' hi z => ?_) (fun H' z => ?_)
      · obtain ⟨c1, k1⟩ : ∃ c, ns[i]? = some c := ⟨ns[i]'(by omega), List.getElem?_eq_getElem (by omega)⟩
        obtain ⟨c2, k2⟩ : ∃ c, ms[i]? = some c := ⟨ms[i]'(by omega), List.getElem?_eq_getElem (by omega)⟩
        have g1 := Same.seqT z.1 hC4.one
        have g2 := Same.seqT z.1 hC4.two
        refine ⟨rfl, .ref r1, rfl, _, rfl, r1, _, _, .int c1, rfl, rfl, g1, at_nat k1, .ref r2, rfl, _, rfl, r2, _, _, .int c2, rfl, rfl, g2, at_nat k2, _, _, rfl, rfl, rfl, _, rfl, ?_⟩
        have b1 := bit_at hb k1
        have b2 := bit_at hm k2
        by_cases cc : c1 = c2
        · rw [show decide (V.int (c1 + c2) = V.int 1) = false from decide_eq_false fun z => by have := V.int.inj z; omega]
          refine iteF ⟨z.1, ?_⟩
          rw [unl_no k1 k2 cc]
          exact z.2
        · rw [show decide (V.int (c1 + c2) = V.int 1) = true from decide_eq_true (by rw [show c1 + c2 = 1 by omega])]
          refine iteT ⟨_, z.2, ?_, same_put z.1 nD, ?_⟩
          · rw [List.length_replicate]
            have := unl_le ns ms i
            exact lineN (by omega)
          · rw [upd_same, unl_yes k1 k2 cc, List.replicate_succ']
      · refine ⟨D, List.replicate (unl ns ms n) 1, rfl, SqL.of ?_, ?_⟩
        · rw [z.2, List.map_replicate]
        · rw [sum_ones]
          exact ⟨rfl, hC4.same z.1⟩
    rintro _ H5 ⟨rfl, hC5⟩
    have R1 : ∀ {H' : Hp}, SqT K H' r1 (ns.map V.int) → RowV K H' (.ref r1) true := fun h => row_of h hb (by omega)
    have R2 : ∀ {H' : Hp}, SqT K H' r2 (ms.map V.int) → RowV K H' (.ref r2) true := fun h => row_of h hm (by omega)
    have pT : plainD 3 (.list [.str "told", .int (unl ns ms n : Nat)]) = true := by
      have e : plainDs 2 [.str "told", .int (unl ns ms n : Nat)] = true := plainDs_all fun d hd => by
        rcases List.mem_cons.mp hd with rfl | hd
        · simp [plainD]
        · rw [List.mem_singleton] at hd
          rw [hd]
          simp [plainD]
      show (decide (2 ≤ 100000) && plainDs 2 [.str "told", .int (unl ns ms n : Nat)]) = true
      rw [e]
      rfl
    have pI : ∀ i : Int, plainD 3 (.int i) = true := fun i => by simp [plainD]
    have pR : ∀ xs : List Int, xs.length ≤ 100000 → plainD 3 (.tuple (xs.map PyData.int)) = true := fun xs h => plain_ints 2 xs h
    -- apart
    refine ⟨fun σ H' => σ = [some (.ref a), some (.ref p), some (.int (n : Int)), some (.ref r1), some (.ref r2), some (.int (unl ns ms n : Nat)), none, none, none, none] ∧ Ct2 K p q r1 r2 ns ms H', ?_, ?_⟩
    · refine ⟨.ref r1, rfl, .ref r2, rfl, .ref r1, .ref r2, true, true, rfl, R1 hC5.one, R2 hC5.two, (fun z => nomatch z), (fun _ z => nomatch z), fun _ _ => ⟨r1, r2, ns, ms, rfl, rfl, hC5.one, hC5.two, by omega, (fun c => absurd (ln.trans lm.symm) c), fun _ H' t s' nt et => ?_⟩⟩
      refine ⟨_, rfl, few (n := 2) (by decide), fun u nu => ?_⟩
      have su := same_upd (o := .lst [.str "told", .int (unl ns ms n : Nat)]) nu
      rw [ln] at et
      refine ⟨_, _, _, rfl, .lst (SqL.of (su _ _ et)) (.cons (.str _) (.cons (.int _) .nil)), .lst (SqL.of upd_same) (.cons (.str _) (.cons (.int _) .nil)), pT, fun H6 s6 => ⟨_, rfl, iteF ?_⟩⟩
      have hC6 := hC5.same (s'.trans (su.trans s6))
      refine ⟨.ref r2, rfl, .ref r1, rfl, .ref r2, .ref r1, true, true, rfl, R2 hC6.two, R1 hC6.one, (fun z => nomatch z), (fun _ z => nomatch z), fun _ _ => ⟨r2, r1, ms, ns, rfl, rfl, hC6.two, hC6.one, by omega, (fun c => absurd (lm.trans ln.symm) c), fun _ H7 s7 => ?_⟩⟩
      rw [lm, unl_comm]
      exact ⟨_, rfl, _, _, _, rfl, .int _, .int _, pI _, fun H8 s8 => ⟨_, rfl, iteF ⟨rfl, hC6.same (s7.trans s8)⟩⟩⟩
    rintro _ H6 ⟨rfl, hC6⟩
    clear hC4 hC5
    have rev1 : (ns.map V.int).reverse = (ns.reverse).map V.int := List.map_reverse.symm
    have rev2 : (ms.map V.int).reverse = (ms.reverse).map V.int := List.map_reverse.symm
    have lr1 : ns.reverse.length = n := by rw [List.length_reverse, ln]
    have lr2 : ms.reverse.length = n := by rw [List.length_reverse, lm]
    have br1 : bits ns.reverse := fun c hc => hb c (List.mem_reverse.mp hc)
    have br2 : bits ms.reverse := fun c hc => hm c (List.mem_reverse.mp hc)
    -- back
    refine ⟨fun σ H' => ∃ b, σ = [some (.ref a), some (.ref p), some (.int (n : Int)), some (.ref r1), some (.ref r2), some (.int (unl ns ms n : Nat)), some (.ref b), none, none, none] ∧ Ct2 K p q r1 r2 ns ms H' ∧ SqT K H' b (ns.reverse.map V.int), ?_, ?_⟩
    · refine ⟨.ref r1, rfl, r1, _, rfl, hC6.one, fun r nr => ⟨r, rfl, hC6.same (same_upd nr), SqT.of ?_⟩⟩
      rw [upd_same, rev1]
    rintro _ H7 ⟨b, rfl, hC7, hB7⟩
    clear hC6
    refine ⟨fun σ H' => σ = [some (.ref a), some (.ref p), some (.int (n : Int)), some (.ref r1), some (.ref r2), some (.int (unl ns ms n : Nat)), some (.ref b), none, none, none] ∧ Ct2 K p q r1 r2 ns ms H', ?_, ?_⟩
    · refine ⟨.ref b, rfl, _, rfl, (n : Int), rfl, by omega, by omega, fun D nD => ?_⟩
      refine lc_range (lo := 0) (n := n) (fun i H' => Same H7 H' ∧ H' D = some (.lst ((ns.reverse.take i).map V.int))) ⟨same_upd nD, upd_same⟩ (fun i H' hi z => ?_) (fun H' z => ?_)
      · obtain ⟨c1, k1⟩ : ∃ c, ns.reverse[i]? = some c := ⟨ns.reverse[i]'(by omega), List.getElem?_eq_getElem (by omega)⟩
        have k1' : ns[n - 1 - i]? = some c1 := by
          rw [List.getElem?_reverse (by omega), ln] at k1
          exact k1
        have ei : (n : Int) - 1 - ((0 : Int) + (i : Nat)) = ((n - 1 - i : Nat) : Int) := by omega
        refine ⟨rfl, lc_yes ⟨.ref r1, rfl, _, rfl, _, _, rfl, rfl, _, rfl, _, _, rfl, rfl, r1, _, _, .int c1, rfl, rfl, Same.seqT z.1 hC7.one, ?_, _, z.2, ?_, same_put z.1 nD, ?_⟩⟩
        · rw [ei]
          exact atI_nat (map_at k1')
        · rw [List.length_map, List.length_take]
          exact lineN (by omega)
        · rw [upd_same, take_more k1, List.map_append]
          rfl
      · refine ⟨D, _, rfl, .inl ⟨SqL.of z.2, fun t nt => ?_⟩⟩
        rw [List.take_of_length_le (by omega)]
        have st := z.1.trans (same_upd (o := .tup (ns.reverse.map V.int)) nt)
        refine ⟨_, _, _, rfl, .tup (Same.seqT st hB7) (DpAll.ints _), .tup (SqT.of upd_same) (DpAll.ints _), pR _ (by omega), fun H8 s8 => ⟨_, rfl, iteF ?_⟩⟩
        have s78 := st.trans s8
        refine ⟨.ref b, rfl, b, _, rfl, Same.seqT s78 hB7, fun r nr => ⟨.ref r1, rfl, ?_⟩⟩
        have hC9 := (hC7.same s78).same (same_upd (o := .tup (ns.reverse.map V.int).reverse) nr)
        have eb : (ns.reverse.map V.int).reverse = ns.map V.int := by rw [← rev1, List.reverse_reverse]
        refine ⟨_, _, _, rfl, .tup (SqT.of (by rw [upd_same, eb])) (DpAll.ints ns), .tup hC9.one (DpAll.ints ns), pR _ (by omega), fun H9 s9 => ⟨_, rfl, iteF ⟨rfl, hC9.same s9⟩⟩⟩
    rintro _ H8 ⟨rfl, hC8⟩
    clear hC7 hB7
    -- apart of the turned ones, of one and itself
    refine ⟨fun σ H' => σ = [some (.ref a), some (.ref p), some (.int (n : Int)), some (.ref r1), some (.ref r2), some (.int (unl ns ms n : Nat)), some (.ref b), none, none, none] ∧ Ct2 K p q r1 r2 ns ms H', ?_, ?_⟩
    · refine ⟨.ref r1, rfl, r1, _, rfl, hC8.one, fun t1 m1 => ⟨.ref r2, rfl, r2, _, rfl, (hC8.same (same_upd m1)).two, fun t2 m2 => ?_⟩⟩
      rw [rev1] at m2 ⊢
      rw [rev2]
      have s1 := same_upd (o := .tup (ns.reverse.map V.int)) m1
      have s2 := same_upd (o := .tup (ms.reverse.map V.int)) m2
      have hC9 := (hC8.same s1).same s2
      have g1 : SqT K (upd (upd H8 t1 (.tup (ns.reverse.map V.int))) t2 (.tup (ms.reverse.map V.int))) t1 (ns.reverse.map V.int) := SqT.of (s2 _ _ upd_same)
      have g2 : SqT K (upd (upd H8 t1 (.tup (ns.reverse.map V.int))) t2 (.tup (ms.reverse.map V.int))) t2 (ms.reverse.map V.int) := SqT.of upd_same
      generalize upd (upd H8 t1 (.tup (ns.reverse.map V.int))) t2 (.tup (ms.reverse.map V.int)) = H9 at hC9 g1 g2 ⊢
      refine ⟨.ref t1, .ref t2, true, true, rfl, row_of g1 br1 (by omega), row_of g2 br2 (by omega), (fun z => nomatch z), (fun _ z => nomatch z), fun _ _ => ⟨t1, t2, _, _, rfl, rfl, g1, g2, by omega, (fun c => absurd (lr1.trans lr2.symm) c), fun _ H' s' => ?_⟩⟩
      rw [lr1, unl_rev ns ms n ln lm]
      refine ⟨_, rfl, rfl, _, rfl, ?_⟩
      rw [decide_eq_true rfl]
      refine iteF ?_
      have hC10 := hC9.same s'
      refine ⟨.ref r1, rfl, .ref r1, rfl, .ref r1, .ref r1, true, true, rfl, R1 hC10.one, R1 hC10.one, (fun z => nomatch z), (fun _ z => nomatch z), fun _ _ => ⟨r1, r1, ns, ns, rfl, rfl, hC10.one, hC10.one, by omega, (fun c => absurd rfl c), fun _ H7 s7 => ?_⟩⟩
      rw [unl_self]
      exact ⟨_, _, _, rfl, .int _, .int _, pI _, fun H8 s8 => ⟨_, rfl, iteF ⟨rfl, hC10.same (s7.trans s8)⟩⟩⟩
    rintro _ H9 ⟨rfl, hC9⟩
    clear hC8
    -- cell_number
    refine ⟨fun σ H' => σ = [some (.ref a), some (.ref p), some (.int (n : Int)), some (.ref r1), some (.ref r2), some (.int (unl ns ms n : Nat)), some (.ref b), none, none, none] ∧ Ct2 K p q r1 r2 ns ms H', ?_, ?_⟩
    · refine ⟨.ref r1, rfl, r1, ns, rfl, hC9.one, .ref r1, rfl, r1, ns, rfl, hC9.one, _, _, _, rfl, .int _, .int _, pI _, fun H' s' => ⟨_, rfl, iteF ?_⟩⟩
      refine ⟨few (n := 0) (by decide), fun t nt => ⟨t, [], rfl, SqT.of upd_same, _, _, _, rfl, .int _, .int _, pI _, fun H2 s2 => ⟨_, rfl, iteF ⟨rfl, hC9.same (s'.trans ((same_upd nt).trans s2))⟩⟩⟩⟩
    rintro _ H10 ⟨rfl, hC10⟩
    clear hC9
    -- wrong
    refine ⟨fun σ H' => ∃ v, σ = [some (.ref a), some (.ref p), some (.int (n : Int)), some (.ref r1), some (.ref r2), some (.int (unl ns ms n : Nat)), some (.ref b), some v, none, none] ∧ Ct2 K p q r1 r2 ns ms H' ∧ RowV K (off H' p) v false, ?_, ?_⟩
    · refine ⟨.ref r1, rfl, r1, _, rfl, .inr hC10.one, fun l1 n1 => ?_⟩
      have xa := same_upd (o := .lst (ns.map V.int)) n1
      have fa := (hC10.1.at_p n1).1
      have ea : off (upd H10 l1 (.lst (ns.map V.int))) p l1 = some (.lst (ns.map V.int)) := by rw [off_ne fa, upd_same]
      have hCa := hC10.same xa
      generalize upd H10 l1 (.lst (ns.map V.int)) = Ha at xa ea hCa ⊢
      have ga : RowV K (off Ha p) (.ref l1) false := .no (.lst (SqL.of ea)) (by decide)
      refine fun dd nd => ?_
      have xb := same_upd (o := .dK []) nd
      have fb := (hCa.1.at_p nd).1
      have eb : off (upd Ha dd (.dK [])) p dd = some (.dK []) := by rw [off_ne fb, upd_same]
      have hCb := hCa.same xb
      generalize upd Ha dd (.dK []) = Hb at xb eb hCb ⊢
      have ga := ga.same (off_mono xb)
      have gb : RowV K (off Hb p) (.ref dd) false := .no (.dic eb) (by decide)
      refine ⟨few (n := 2) (by decide), fun t1 m1 => ?_⟩
      have xc := same_upd (o := .tup [.int 0, .int 2]) m1
      have fc := (hCb.1.at_p m1).1
      have ec : off (upd Hb t1 (.tup [.int 0, .int 2])) p t1 = some (.tup [.int 0, .int 2]) := by rw [off_ne fc, upd_same]
      have hCc := hCb.same xc
      generalize upd Hb t1 (.tup [.int 0, .int 2]) = Hc at xc ec hCc ⊢
      have ga := ga.same (off_mono xc)
      have gb := gb.same (off_mono xc)
      have gc : RowV K (off Hc p) (.ref t1) false := notup ec (kn2 (.int 0) (.int 2)) (by decide) rfl
      refine ⟨few (n := 1) (by decide), fun t2 m2 => ?_⟩
      have xd := same_upd (o := .tup [.bl true]) m2
      have fd := (hCc.1.at_p m2).1
      have ed : off (upd Hc t2 (.tup [.bl true])) p t2 = some (.tup [.bl true]) := by rw [off_ne fd, upd_same]
      have hCd := hCc.same xd
      generalize upd Hc t2 (.tup [.bl true]) = Hd at xd ed hCd ⊢
      have ga := ga.same (off_mono xd)
      have gb := gb.same (off_mono xd)
      have gc := gc.same (off_mono xd)
      have gd : RowV K (off Hd p) (.ref t2) false := notup ed (kn1 (.bl true)) (by decide) rfl
      refine ⟨few (n := 2) (by decide), fun t3 m3 => ?_⟩
      have xe := same_upd (o := .tup [.int 0, .non]) m3
      have fe := (hCd.1.at_p m3).1
      have ee : off (upd Hd t3 (.tup [.int 0, .non])) p t3 = some (.tup [.int 0, .non]) := by rw [off_ne fe, upd_same]
      have hCe := hCd.same xe
      generalize upd Hd t3 (.tup [.int 0, .non]) = He at xe ee hCe ⊢
      have ga := ga.same (off_mono xe)
      have gb := gb.same (off_mono xe)
      have gc := gc.same (off_mono xe)
      have gd := gd.same (off_mono xe)
      have ge : RowV K (off He p) (.ref t3) false := notup ee (kn2 (.int 0) .non) (by decide) rfl
      refine ⟨few (n := 1) (by decide), fun u4 w4 => ?_⟩
      have xf := same_upd (o := .tup [.int 0]) w4
      have ff := (hCe.1.at_p w4).1
      have ef : off (upd He u4 (.tup [.int 0])) p u4 = some (.tup [.int 0]) := by rw [off_ne ff, upd_same]
      have hCf := hCe.same xf
      generalize upd He u4 (.tup [.int 0]) = Hf at xf ef hCf ⊢
      have ga := ga.same (off_mono xf)
      have gb := gb.same (off_mono xf)
      have gc := gc.same (off_mono xf)
      have gd := gd.same (off_mono xf)
      have ge := ge.same (off_mono xf)
      have gf : Knw K (off Hf p) (.ref u4) "tuple" := .tup (SqT.of ef)
      refine ⟨few (n := 1) (by decide), fun t4 m4 => ?_⟩
      have xg := same_upd (o := .tup [.ref u4]) m4
      have fg := (hCf.1.at_p m4).1
      have eg : off (upd Hf t4 (.tup [.ref u4])) p t4 = some (.tup [.ref u4]) := by rw [off_ne fg, upd_same]
      have hCg := hCf.same xg
      generalize upd Hf t4 (.tup [.ref u4]) = Hg at xg eg hCg ⊢
      have ga := ga.same (off_mono xg)
      have gb := gb.same (off_mono xg)
      have gc := gc.same (off_mono xg)
      have gd := gd.same (off_mono xg)
      have ge := ge.same (off_mono xg)
      have gf := gf.same (off_mono xg)
      have gg : RowV K (off Hg p) (.ref t4) false := notup eg (kn1 gf) (show 1 ≤ 100000 by decide) rfl
      refine ⟨_, rfl, few (n := 2) (by decide), fun t5 m5 => ?_⟩
      have xh := same_upd (o := .tup [.int 0, .int (-1)]) m5
      have fh := (hCg.1.at_p m5).1
      have eh : off (upd Hg t5 (.tup [.int 0, .int (-1)])) p t5 = some (.tup [.int 0, .int (-1)]) := by rw [off_ne fh, upd_same]
      have hCh := hCg.same xh
      generalize upd Hg t5 (.tup [.int 0, .int (-1)]) = Hh at xh eh hCh ⊢
      have ga := ga.same (off_mono xh)
      have gb := gb.same (off_mono xh)
      have gc := gc.same (off_mono xh)
      have gd := gd.same (off_mono xh)
      have ge := ge.same (off_mono xh)
      have gf := gf.same (off_mono xh)
      have gg := gg.same (off_mono xh)
      have gh : RowV K (off Hh p) (.ref t5) false := notup eh (kn2 (.int 0) (.int (-1))) (by decide) rfl
      refine ⟨few (n := 1) (by decide), fun t6 m6 => ?_⟩
      have xi := same_upd (o := .tup [.str "0"]) m6
      have fi := (hCh.1.at_p m6).1
      have ei : off (upd Hh t6 (.tup [.str "0"])) p t6 = some (.tup [.str "0"]) := by rw [off_ne fi, upd_same]
      have hCi := hCh.same xi
      generalize upd Hh t6 (.tup [.str "0"]) = Hi at xi ei hCi ⊢
      have ga := ga.same (off_mono xi)
      have gb := gb.same (off_mono xi)
      have gc := gc.same (off_mono xi)
      have gd := gd.same (off_mono xi)
      have ge := ge.same (off_mono xi)
      have gf := gf.same (off_mono xi)
      have gg := gg.same (off_mono xi)
      have gh := gh.same (off_mono xi)
      have gi : RowV K (off Hi p) (.ref t6) false := notup ei (kn1 (.str "0")) (by decide) rfl
      refine ⟨few (n := 1) (by decide), fun u7 w7 => ?_⟩
      have xj := same_upd (o := .tup [.int 0]) w7
      have fj := (hCi.1.at_p w7).1
      have ej : off (upd Hi u7 (.tup [.int 0])) p u7 = some (.tup [.int 0]) := by rw [off_ne fj, upd_same]
      have hCj := hCi.same xj
      generalize upd Hi u7 (.tup [.int 0]) = Hj at xj ej hCj ⊢
      have ga := ga.same (off_mono xj)
      have gb := gb.same (off_mono xj)
      have gc := gc.same (off_mono xj)
      have gd := gd.same (off_mono xj)
      have ge := ge.same (off_mono xj)
      have gf := gf.same (off_mono xj)
      have gg := gg.same (off_mono xj)
      have gh := gh.same (off_mono xj)
      have gi := gi.same (off_mono xj)
      have gj : Knw K (off Hj p) (.ref u7) "tuple" := .tup (SqT.of ej)
      refine ⟨few (n := 1) (by decide), fun t7 m7 => ?_⟩
      have xk := same_upd (o := .lst [.ref u7]) m7
      have fk := (hCj.1.at_p m7).1
      have ek : off (upd Hj t7 (.lst [.ref u7])) p t7 = some (.lst [.ref u7]) := by rw [off_ne fk, upd_same]
      have hCk := hCj.same xk
      generalize upd Hj t7 (.lst [.ref u7]) = Hk at xk ek hCk ⊢
      have ga := ga.same (off_mono xk)
      have gb := gb.same (off_mono xk)
      have gc := gc.same (off_mono xk)
      have gd := gd.same (off_mono xk)
      have ge := ge.same (off_mono xk)
      have gf := gf.same (off_mono xk)
      have gg := gg.same (off_mono xk)
      have gh := gh.same (off_mono xk)
      have gi := gi.same (off_mono xk)
      have gj := gj.same (off_mono xk)
      have gk : RowV K (off Hk p) (.ref t7) false := .no (.lst (SqL.of ek)) (by decide)
      refine ⟨few (n := 0) (by decide), fun u8 w8 => ?_⟩
      have xl := same_upd (o := .lst []) w8
      have fl := (hCk.1.at_p w8).1
      have el : off (upd Hk u8 (.lst [])) p u8 = some (.lst []) := by rw [off_ne fl, upd_same]
      have hCl := hCk.same xl
      generalize upd Hk u8 (.lst []) = Hl at xl el hCl ⊢
      have ga := ga.same (off_mono xl)
      have gb := gb.same (off_mono xl)
      have gc := gc.same (off_mono xl)
      have gd := gd.same (off_mono xl)
      have ge := ge.same (off_mono xl)
      have gf := gf.same (off_mono xl)
      have gg := gg.same (off_mono xl)
      have gh := gh.same (off_mono xl)
      have gi := gi.same (off_mono xl)
      have gj := gj.same (off_mono xl)
      have gk := gk.same (off_mono xl)
      have gl : Knw K (off Hl p) (.ref u8) "list" := .lst (SqL.of el)
      refine ⟨few (n := 2) (by decide), fun t8 m8 => ?_⟩
      have xm := same_upd (o := .tup [.ref u8, .int 1]) m8
      have fm := (hCl.1.at_p m8).1
      have em : off (upd Hl t8 (.tup [.ref u8, .int 1])) p t8 = some (.tup [.ref u8, .int 1]) := by rw [off_ne fm, upd_same]
      have hCm := hCl.same xm
      generalize upd Hl t8 (.tup [.ref u8, .int 1]) = Hm at xm em hCm ⊢
      have ga := ga.same (off_mono xm)
      have gb := gb.same (off_mono xm)
      have gc := gc.same (off_mono xm)
      have gd := gd.same (off_mono xm)
      have ge := ge.same (off_mono xm)
      have gf := gf.same (off_mono xm)
      have gg := gg.same (off_mono xm)
      have gh := gh.same (off_mono xm)
      have gi := gi.same (off_mono xm)
      have gj := gj.same (off_mono xm)
      have gk := gk.same (off_mono xm)
      have gl := gl.same (off_mono xm)
      have gm : RowV K (off Hm p) (.ref t8) false := notup em (kn2 gl (.int 1)) (show 2 ≤ 100000 by decide) rfl
      refine ⟨rfl, fun Hn u9 xs9 xn nn ev => ?_⟩
      have fn := (hCm.1.at_p nn).1
      have en : off Hn p u9 = some (.lst xs9) := by rw [off_ne fn, ev]
      have hCn := hCm.same xn
      have ga := ga.same (off_mono xn)
      have gb := gb.same (off_mono xn)
      have gc := gc.same (off_mono xn)
      have gd := gd.same (off_mono xn)
      have ge := ge.same (off_mono xn)
      have gf := gf.same (off_mono xn)
      have gg := gg.same (off_mono xn)
      have gh := gh.same (off_mono xn)
      have gi := gi.same (off_mono xn)
      have gj := gj.same (off_mono xn)
      have gk := gk.same (off_mono xn)
      have gl := gl.same (off_mono xn)
      have gm := gm.same (off_mono xn)
      have gn : Knw K (off Hn p) (.ref u9) "list" := .lst (SqL.of en)
      refine ⟨few (n := 1) (by decide), fun t9 m9 => ?_⟩
      have xo := same_upd (o := .tup [.ref u9]) m9
      have fo := (hCn.1.at_p m9).1
      have eo : off (upd Hn t9 (.tup [.ref u9])) p t9 = some (.tup [.ref u9]) := by rw [off_ne fo, upd_same]
      have hCo := hCn.same xo
      generalize upd Hn t9 (.tup [.ref u9]) = Ho at xo eo hCo ⊢
      have ga := ga.same (off_mono xo)
      have gb := gb.same (off_mono xo)
      have gc := gc.same (off_mono xo)
      have gd := gd.same (off_mono xo)
      have ge := ge.same (off_mono xo)
      have gf := gf.same (off_mono xo)
      have gg := gg.same (off_mono xo)
      have gh := gh.same (off_mono xo)
      have gi := gi.same (off_mono xo)
      have gj := gj.same (off_mono xo)
      have gk := gk.same (off_mono xo)
      have gl := gl.same (off_mono xo)
      have gm := gm.same (off_mono xo)
      have gn := gn.same (off_mono xo)
      have go : RowV K (off Ho p) (.ref t9) false := notup eo (kn1 gn) (show 1 ≤ 100000 by decide) rfl
      refine ⟨few (n := 14) (by decide), fun mm nm => ?_⟩
      have xp := same_upd (o := .lst [.non, .int 0, .str "01", .ref l1, .ref dd, .ref t1, .ref t2, .ref t3, .ref t4, .ref t5, .ref t6, .ref t7, .ref t8, .ref t9]) nm
      have fm := (hCo.1.at_p nm).1
      have ep : (upd Ho mm (.lst [.non, .int 0, .str "01", .ref l1, .ref dd, .ref t1, .ref t2, .ref t3, .ref t4, .ref t5, .ref t6, .ref t7, .ref t8, .ref t9])) mm = some (.lst [.non, .int 0, .str "01", .ref l1, .ref dd, .ref t1, .ref t2, .ref t3, .ref t4, .ref t5, .ref t6, .ref t7, .ref t8, .ref t9]) := upd_same
      have hCp := hCo.same xp
      generalize upd Ho mm (.lst [.non, .int 0, .str "01", .ref l1, .ref dd, .ref t1, .ref t2, .ref t3, .ref t4, .ref t5, .ref t6, .ref t7, .ref t8, .ref t9]) = Hp at xp ep hCp ⊢
      have hall : ∀ v ∈ ([.non, .int 0, .str "01", .ref l1, .ref dd, .ref t1, .ref t2, .ref t3, .ref t4, .ref t5, .ref t6, .ref t7, .ref t8, .ref t9] : List V), RowV K (off Hp p) v false := List.forall_mem_cons.mpr ⟨.no .non (by decide), List.forall_mem_cons.mpr ⟨.no (.int 0) (by decide), List.forall_mem_cons.mpr ⟨.no (.str "01") (by decide), List.forall_mem_cons.mpr ⟨(ga.same (off_mono xp)), List.forall_mem_cons.mpr ⟨(gb.same (off_mono xp)), List.forall_mem_cons.mpr ⟨(gc.same (off_mono xp)), List.forall_mem_cons.mpr ⟨(gd.same (off_mono xp)), List.forall_mem_cons.mpr ⟨(ge.same (off_mono xp)), List.forall_mem_cons.mpr ⟨(gg.same (off_mono xp)), List.forall_mem_cons.mpr ⟨(gh.same (off_mono xp)), List.forall_mem_cons.mpr ⟨(gi.same (off_mono xp)), List.forall_mem_cons.mpr ⟨(gk.same (off_mono xp)), List.forall_mem_cons.mpr ⟨(gm.same (off_mono xp)), List.forall_mem_cons.mpr ⟨(go.same (off_mono xp)), fun _ z => nomatch z⟩⟩⟩⟩⟩⟩⟩⟩⟩⟩⟩⟩⟩⟩
      refine ⟨_, rfl, p, q, 14, rfl, hCp.1, by decide, by decide, fun H' d s' hP' d0 d1 => ?_⟩
      obtain ⟨v, hv⟩ : ∃ v, ([.non, .int 0, .str "01", .ref l1, .ref dd, .ref t1, .ref t2, .ref t3, .ref t4, .ref t5, .ref t6, .ref t7, .ref t8, .ref t9] : List V)[d.toNat]? = some v := ⟨_, List.getElem?_eq_getElem (show d.toNat < 14 by omega)⟩
      have hd : ((d.toNat : Nat) : Int) = d := by omega
      have hat := atI_nat hv
      rw [hd] at hat
      exact ⟨mm, _, d, v, rfl, rfl, SqL.of (off_get s' fm ep), hat, v, rfl, ⟨hP', Same.seqT s' hCp.2.1, Same.seqT s' hCp.2.2⟩, (hall v (List.mem_of_getElem? hv)).same s'⟩
    rintro _ H11 ⟨v7, rfl, hC11, hR11⟩
    clear hC10
    -- for thing in [one, other, ()]
    refine ⟨fun σ H' => ∃ v8, σ = [some (.ref a), some (.ref p), some (.int (n : Int)), some (.ref r1), some (.ref r2), some (.int (unl ns ms n : Nat)), some (.ref b), some v7, v8, none] ∧ Same H11 H', ?_, ?_⟩
    · refine ⟨.ref r1, rfl, .ref r2, rfl, few (n := 0) (by decide), fun t nt => ⟨few (n := 3) (by decide), fun l nl => ?_⟩⟩
      have s1 := (same_upd (o := .tup []) nt).trans (same_upd (o := .lst [.ref r1, .ref r2, .ref t]) nl)
      have et : (upd (upd H11 t (.tup [])) l (.lst [.ref r1, .ref r2, .ref t])) t = some (.tup []) := (same_upd nl) _ _ upd_same
      refine ⟨l, rfl, ⟨_, SqL.of upd_same⟩, for_list (K := K) (a := l) (xs := [V.ref r1, V.ref r2, V.ref t]) (fun i σ H' => ∃ v8, σ = [some (.ref a), some (.ref p), some (.int (n : Int)), some (.ref r1), some (.ref r2), some (.int (unl ns ms n : Nat)), some (.ref b), some v7, v8, none] ∧ Same (upd (upd H11 t (.tup [])) l (.lst [.ref r1, .ref r2, .ref t])) H') ⟨none, rfl, Same.refl _⟩ (fun i σ H' _ z => ?_) ?_ ?_⟩
      · obtain ⟨v8, _, s'⟩ := z
        exact SqL.of (s' _ _ upd_same)
      · rintro i y _ H' hy ⟨v8, rfl, s'⟩
        have hC12 := hC11.same (s1.trans s')
        have hy' : RowV K H' y true := by
          have hm := List.mem_of_getElem? hy
          rcases List.mem_cons.mp hm with rfl | hm
          · exact R1 hC12.one
          rcases List.mem_cons.mp hm with rfl | hm
          · exact R2 hC12.two
          rw [List.mem_singleton] at hm
          rw [hm]
          exact RowV.tup (SqT.of (s' _ _ et)) (fun _ z => nomatch z) (show 0 ≤ 100000 by decide)
        exact ⟨_, rfl, y, true, rfl, hy', fun H2 s2 => ⟨_, _, _, rfl, .bl _, .bl _, by simp [plainD], fun H3 s3 => ⟨_, rfl, iteF ⟨some y, rfl, s'.trans (s2.trans s3)⟩⟩⟩⟩
      · rintro _ H' ⟨v8, rfl, s'⟩
        exact ⟨v8, rfl, s1.trans s'⟩
    rintro _ H12 ⟨v8, rfl, s12⟩
    have hC12 := hC11.same s12
    have hR12 := hR11.same (off_mono s12)
    clear hC11 hR11 s12
    -- is_row(wrong)
    refine ⟨fun σ H' => σ = [some (.ref a), some (.ref p), some (.int (n : Int)), some (.ref r1), some (.ref r2), some (.int (unl ns ms n : Nat)), some (.ref b), some v7, v8, none] ∧ Ct2 K p q r1 r2 ns ms H' ∧ RowV K H' v7 false, ?_, ?_⟩
    · have hR := hR12.same (off_same H12 p)
      exact ⟨_, rfl, v7, false, rfl, hR, fun H2 s2 => ⟨_, _, _, rfl, .bl _, .bl _, by simp [plainD], fun H3 s3 => ⟨_, rfl, iteF ⟨rfl, hC12.same (s2.trans s3), hR.same (s2.trans s3)⟩⟩⟩⟩
    rintro _ H13 ⟨rfl, hC13, hR13⟩
    clear hC12 hR12
    have eO : PyData.eqv (.list [.str "row", .str "one"]) (.list [.str "row", .str "one"]) = true := by decide +kernel
    have eT : PyData.eqv (.list [.str "row", .str "other"]) (.list [.str "row", .str "other"]) = true := by decide +kernel
    have eL : PyData.eqv (.list [.str "row", .str "length"]) (.list [.str "row", .str "length"]) = true := by decide +kernel
    have zO : SeqAt.shaped (.list [.str "row", .str "one"]) = true := by decide +kernel
    have zT : SeqAt.shaped (.list [.str "row", .str "other"]) = true := by decide +kernel
    have zL : SeqAt.shaped (.list [.str "row", .str "length"]) = true := by decide +kernel
    -- apart with the wrong one
    refine ⟨fun σ H' => σ = [some (.ref a), some (.ref p), some (.int (n : Int)), some (.ref r1), some (.ref r2), some (.int (unl ns ms n : Nat)), some (.ref b), some v7, v8, none] ∧ Ct2 K p q r1 r2 ns ms H', ?_, ?_⟩
    · refine ⟨v7, rfl, v7, rfl, v7, v7, false, false, rfl, hR13, hR13, (fun _ H' t s' nt et => ⟨few (n := 2) (by decide), fun u nu => ?_⟩), (fun z => nomatch z), fun z => nomatch z⟩
      refine ⟨_, _, two_str (same_upd nu _ _ et), two_str upd_same, zO, zO, _, rfl, ite2 (fun z => by rw [eO] at z; cases z) fun _ => ?_⟩
      have s2 := s'.trans (same_upd (o := .lst [.str "row", .str "one"]) nu)
      generalize upd H' u (.lst [.str "row", .str "one"]) = H14 at s2 ⊢
      have hC14 := hC13.same s2
      refine ⟨.ref r1, rfl, v7, rfl, .ref r1, v7, true, false, rfl, R1 hC14.one, hR13.same s2, (fun z => nomatch z), (fun _ _ H' t s' nt et => ⟨few (n := 2) (by decide), fun u nu => ?_⟩), fun _ z => nomatch z⟩
      exact ⟨_, _, two_str (same_upd nu _ _ et), two_str upd_same, zT, zT, _, rfl, ite2 (fun z => by rw [eT] at z; cases z) fun _ => ⟨rfl, hC14.same (s'.trans (same_upd nu))⟩⟩
    rintro _ H14 ⟨rfl, hC14⟩
    clear hC13 hR13
    have bapp : ∀ {xs ys : List Int}, bits xs → bits ys → bits (xs ++ ys) := fun h1 h2 c hc => (List.mem_append.mp hc).elim (h1 c) (h2 c)
    -- apart of unlike lengths
    refine ⟨fun σ H' => σ = [some (.ref a), some (.ref p), some (.int (n : Int)), some (.ref r1), some (.ref r2), some (.int (unl ns ms n : Nat)), some (.ref b), some v7, v8, none] ∧ Ct2 K p q r1 r2 ns ms H', ?_, ?_⟩
    · refine ⟨.ref r1, rfl, .ref r2, rfl, few (n := 1) (by decide), fun t0 m0 => ⟨r2, t0, _, [.int 0], rfl, rfl, (hC14.same (same_upd m0)).two, SqT.of upd_same, by rw [List.length_map]; show ms.length + 1 ≤ 100000; omega, fun c H15 s15 hc => ?_⟩⟩
      have s3 := (same_upd (o := .tup [.int 0]) m0).trans s15
      have hC15 := hC14.same s3
      have hc' : SqT K H15 c ((ms ++ [0]).map V.int) := by
        rw [List.map_append]
        exact hc
      have l0 : (ms ++ [0]).length = n + 1 := by
        rw [List.length_append, lm]
        rfl
      refine ⟨.ref r1, .ref c, true, true, rfl, R1 hC15.one, row_of hc' (bapp hm fun x hx => by rw [List.mem_singleton] at hx; exact .inl hx) (by omega), (fun z => nomatch z), (fun _ z => nomatch z), fun _ _ => ⟨r1, c, ns, _, rfl, rfl, hC15.one, hc', by omega, (fun _ H' t s' nt et => ⟨few (n := 2) (by decide), fun u nu => ?_⟩), fun e => absurd e (by omega)⟩⟩
      refine ⟨_, _, two_str (same_upd nu _ _ et), two_str upd_same, zL, zL, _, rfl, ite2 (fun z => by rw [eL] at z; cases z) fun _ => ?_⟩
      have s4 := s'.trans (same_upd (o := .lst [.str "row", .str "length"]) nu)
      generalize upd H' u (.lst [.str "row", .str "length"]) = H16 at s4 ⊢
      have hC16 := hC15.same s4
      refine ⟨.ref r1, rfl, few (n := 2) (by decide), fun t1 m1 => ⟨r1, t1, _, [.int 1, .int 0], rfl, rfl, (hC16.same (same_upd m1)).one, SqT.of upd_same, by rw [List.length_map]; show ns.length + 2 ≤ 100000; omega, fun c2 H17 s17 hc2 => ?_⟩⟩
      have s5 := (same_upd (o := .tup [.int 1, .int 0]) m1).trans s17
      have hC17 := hC16.same s5
      have hc2' : SqT K H17 c2 ((ns ++ [1, 0]).map V.int) := by
        rw [List.map_append]
        exact hc2
      have l2 : (ns ++ [1, 0]).length = n + 2 := by
        rw [List.length_append, ln]
        rfl
      refine ⟨.ref r2, rfl, .ref c2, .ref r2, true, true, rfl, row_of hc2' (bapp hb fun x hx => by
        rcases List.mem_cons.mp hx with hx | hx
        · exact .inr hx
        · rw [List.mem_singleton] at hx
          exact .inl hx) (by omega), R2 hC17.two, (fun z => nomatch z), (fun _ z => nomatch z), fun _ _ => ⟨c2, r2, _, ms, rfl, rfl, hc2', hC17.two, by omega, (fun _ H' t s' nt et => ⟨few (n := 2) (by decide), fun u nu => ?_⟩), fun e => absurd e (by omega)⟩⟩
      exact ⟨_, _, two_str (same_upd nu _ _ et), two_str upd_same, zL, zL, _, rfl, ite2 (fun z => by rw [eL] at z; cases z) fun _ => ⟨rfl, hC17.same (s'.trans (same_upd nu))⟩⟩
    rintro _ H15 ⟨rfl, hC15⟩
    exact ⟨_, rfl, p, q, rfl, hC15.1, fin⟩
end

theorem exm_ref {K : PySem.W.Frag} {C D : Addr} {b : Bool} (h1 : PySem.W.subIn K (.ref D) (.type "BaseException") = some true) (h2 : PySem.W.isClsIn K D = true) (h3 : PySem.W.typeIn K (.ref D) = some (.type "type")) (h4 : PySem.W.subIn K (.ref C) (.ref D) = some b) : PySem.W.exmOne K (.ref C) (.ref D) = some b := by
  have h2a : (PySem.W.clsIn K D).isSome = true := h2
  unfold PySem.W.exmOne
  rw [h1]
  show (if (some true == some true) = true then (if ((PySem.W.clsIn K D).isSome && PySem.W.typeIn K (.ref D) == some (.type "type")) = true then PySem.W.subIn K (.ref C) (.ref D) else none) else none) = some b
  rw [h2a, h3]
  exact h4
theorem along_of {K : PySem.W.Frag} {C N : Addr} {nm q : Str} {bs bm : List Value} {sn : List Str} {sub : List Value} {ab : Bool} {col : Option Bool} {dd : Option Addr} {k0 k1 k2 k3 k5 : Option Value} {name : Str} {nw : String} {r : Option (Option Value)} (hC : K.lookup C = some (excClassObj nm q C N bs bm true sn sub ab col dd k0 k1 k2 k3 k5 nw)) (h : PySem.W.ks_superIn K C C name = r) : PySem.W.alongIn K name bm = r := by
  unfold PySem.W.ks_superIn PySem.W.clsIn at h
  rw [hC] at h
  rw [← h]
  simp [List.dropWhile_cons]
theorem all_mk {w : World} {K : PySem.W.Frag} {h : Heap} {mg : Str → Option Value} {fa cL : Addr} (X : K.In h) (G : h.Ns mainGlobals mg) (hfa : mg "law" = some (.ref fa))
    {cR iR cc_BadRow cd_BadRow : Addr} {nm_BadRow q_BadRow : Str} {N_BadRow : Addr} {bs_BadRow : List Value} {sn_BadRow : List Str} {sb_BadRow : List Value} {ab_BadRow : Bool} {co_BadRow : Option Bool} {dd_BadRow od_BadRow an_BadRow cl1_BadRow cl2_BadRow : Option Addr} {m0_BadRow m1_BadRow m2_BadRow m3_BadRow m5_BadRow : Option Value} {oc_BadRow kV_BadRow dc_BadRow pm_BadRow ct_BadRow c1_BadRow c2_BadRow : Value} {sl_BadRow s1_BadRow s2_BadRow : Array (Option Value)} {vs_BadRow : Array Value} {fl_BadRow : Str} {tf_BadRow : Tok}
    {cN iN cc_BadNumber cd_BadNumber : Addr} {nm_BadNumber q_BadNumber : Str} {N_BadNumber : Addr} {bs_BadNumber : List Value} {sn_BadNumber : List Str} {sb_BadNumber : List Value} {ab_BadNumber : Bool} {co_BadNumber : Option Bool} {dd_BadNumber od_BadNumber an_BadNumber cl1_BadNumber cl2_BadNumber : Option Addr} {m0_BadNumber m1_BadNumber m2_BadNumber m3_BadNumber m5_BadNumber : Option Value} {oc_BadNumber kV_BadNumber dc_BadNumber pm_BadNumber ct_BadNumber c1_BadNumber c2_BadNumber : Value} {sl_BadNumber s1_BadNumber s2_BadNumber : Array (Option Value)} {vs_BadNumber : Array Value} {fl_BadNumber : Str} {tf_BadNumber : Tok}
    {f_is_whole : Addr} {od_is_whole an_is_whole : Option Addr} {sl_is_whole : Array (Option Value)} {oc_is_whole kV_is_whole dc_is_whole pm_is_whole cd_is_whole ct_is_whole : Value}
    {f_is_within : Addr} {od_is_within an_is_within : Option Addr} {sl_is_within : Array (Option Value)} {oc_is_within kV_is_within dc_is_within pm_is_within cd_is_within ct_is_within : Value}
    {f_check_within : Addr} {od_check_within an_check_within : Option Addr} {sl_check_within : Array (Option Value)} {oc_check_within kV_check_within dc_check_within pm_check_within cd_check_within ct_check_within : Value}
    {f_is_row : Addr} {od_is_row an_is_row : Option Addr} {sl_is_row : Array (Option Value)} {oc_is_row kV_is_row dc_is_row pm_is_row cd_is_row ct_is_row : Value}
    {f_check_row : Addr} {od_check_row an_check_row : Option Addr} {sl_check_row : Array (Option Value)} {oc_check_row kV_check_row dc_check_row pm_check_row cd_check_row ct_check_row : Value}
    {f_apart : Addr} {od_apart an_apart : Option Addr} {sl_apart : Array (Option Value)} {oc_apart kV_apart dc_apart pm_apart cd_apart ct_apart : Value}
    {f_turned : Addr} {od_turned an_turned : Option Addr} {sl_turned : Array (Option Value)} {oc_turned kV_turned dc_turned pm_turned cd_turned ct_turned : Value}
    {f_cell_number : Addr} {od_cell_number an_cell_number : Option Addr} {sl_cell_number : Array (Option Value)} {oc_cell_number kV_cell_number dc_cell_number pm_cell_number cd_cell_number ct_cell_number : Value}
    {f_row_with : Addr} {od_row_with an_row_with : Option Addr} {sl_row_with : Array (Option Value)} {oc_row_with kV_row_with dc_row_with pm_row_with cd_row_with ct_row_with : Value}
    {f_law_pool : Addr} {od_law_pool an_law_pool : Option Addr} {sl_law_pool : Array (Option Value)} {oc_law_pool kV_law_pool dc_law_pool pm_law_pool cd_law_pool ct_law_pool : Value}
    {f_law_draw : Addr} {od_law_draw an_law_draw : Option Addr} {sl_law_draw : Array (Option Value)} {oc_law_draw kV_law_draw dc_law_draw pm_law_draw cd_law_draw ct_law_draw : Value}
    {f_law_same : Addr} {od_law_same an_law_same : Option Addr} {sl_law_same : Array (Option Value)} {oc_law_same kV_law_same dc_law_same pm_law_same cd_law_same ct_law_same : Value}
    {f_law_row : Addr} {od_law_row an_law_row : Option Addr} {sl_law_row : Array (Option Value)} {oc_law_row kV_law_row dc_law_row pm_law_row cd_law_row ct_law_row : Value}
    {f_law_power : Addr} {od_law_power an_law_power : Option Addr} {sl_law_power : Array (Option Value)} {oc_law_power kV_law_power dc_law_power pm_law_power cd_law_power ct_law_power : Value}
    {f_law_row_of : Addr} {od_law_row_of an_law_row_of : Option Addr} {sl_law_row_of : Array (Option Value)} {oc_law_row_of kV_law_row_of dc_law_row_of pm_law_row_of cd_law_row_of ct_law_row_of : Value}
    {f_law_deep : Addr} {od_law_deep an_law_deep : Option Addr} {sl_law_deep : Array (Option Value)} {oc_law_deep kV_law_deep dc_law_deep pm_law_deep cd_law_deep ct_law_deep : Value}
    {f_law_apart : Addr} {od_law_apart an_law_apart : Option Addr} {sl_law_apart : Array (Option Value)} {oc_law_apart kV_law_apart dc_law_apart pm_law_apart cd_law_apart ct_law_apart : Value}
    {f_law_with : Addr} {od_law_with an_law_with : Option Addr} {sl_law_with : Array (Option Value)} {oc_law_with kV_law_with dc_law_with pm_law_with cd_law_with ct_law_with : Value}
    {f_law_value : Addr} {od_law_value an_law_value : Option Addr} {sl_law_value : Array (Option Value)} {oc_law_value kV_law_value dc_law_value pm_law_value cd_law_value ct_law_value : Value}
    {f_law_numbers_right : Addr} {od_law_numbers_right an_law_numbers_right : Option Addr} {sl_law_numbers_right : Array (Option Value)} {oc_law_numbers_right kV_law_numbers_right dc_law_numbers_right pm_law_numbers_right cd_law_numbers_right ct_law_numbers_right : Value}
    {f_law : Addr} {od_law an_law : Option Addr} {sl_law : Array (Option Value)} {oc_law kV_law dc_law pm_law cd_law ct_law : Value}
    (a_BadRow : PySem.W.nsIn K mainGlobals "BadRow" = some (some (.ref cR)))
    (x_BadRow : K.lookup cR = some (excClassObj nm_BadRow q_BadRow cR N_BadRow bs_BadRow [.ref cL, .type "ValueError", .type "Exception", .type "BaseException", .type "object"] true sn_BadRow sb_BadRow ab_BadRow co_BadRow dd_BadRow m0_BadRow m1_BadRow m2_BadRow m3_BadRow m5_BadRow "ValueError.__new__"))
    (su_BadRow : PySem.W.ks_superIn K cR cR "__init__" = some (some (.builtin "ValueError.__init__")))
    (sa_BadRow : PySem.W.findIn K (.ref cR) "__setattr__" = some (some (.builtin "object.__setattr__")))
    (ga_BadRow : PySem.W.findIn K (.ref cR) "__getattribute__" = some (some (.builtin "BaseException.__getattribute__")))
    (gg_BadRow : PySem.W.findIn K (.ref cR) "__getattr__" = some none)
    (nb_BadRow : PySem.W.findIn K (.ref cR) "part" = some none)
    (in_BadRow : PySem.W.findIn K (.ref cR) "__init__" = some (some (.ref iR)))
    (ti_BadRow : PySem.W.typeIn K (.ref iR) = some (.type "function"))
    (l_BadRow : K.lookup iR = some ⟨oc_BadRow, od_BadRow, .func (PySem.W.ksFn "__init__" "BadRow.__init__" (defArgs (inClass (topS 2) 0)) (defBody (inClass (topS 2) 0)) (defScope (inClass (topS 2) 0)) .none kV_BadRow dc_BadRow pm_BadRow an_BadRow (.ref cd_BadRow) ct_BadRow cc_BadRow), sl_BadRow⟩)
    (c_BadRow : PySem.W.codeIn K (.ref cd_BadRow) "BadRow.__init__" = true)
    (cell_BadRow : K.lookup cc_BadRow = some ⟨c1_BadRow, cl1_BadRow, .cell (some (.ref cR)), s1_BadRow⟩)
    (code_BadRow : K.lookup cd_BadRow = some ⟨c2_BadRow, cl2_BadRow, .fields vs_BadRow, s2_BadRow⟩)
    (v2_BadRow : vs_BadRow[2]? = some (.str fl_BadRow tf_BadRow))
    (fi_BadRow : ((PySem.Challenge.rw_surelabels_k01_rows.prog.main.file : Str) == fl_BadRow) = true)
    (kC_BadRow : PySem.W.keepIn K (.ref cR) = true)
    (eC_BadRow : PySem.W.subIn K (.ref cR) (.type "BaseException") = some true)
    (vC_BadRow : PySem.W.subIn K (.ref cR) (.type "ValueError") = some true)
    (tC_BadRow : PySem.W.typeIn K (.ref cR) = some (.type "type"))
    (hC_BadRow : PySem.W.hasDictIn K cR = true)
    (iC_BadRow : PySem.W.isClsIn K cR = true)
    (mC_BadRow : PySem.W.mroIn K cR (.ref cR) = some true)
    (a_BadNumber : PySem.W.nsIn K mainGlobals "BadNumber" = some (some (.ref cN)))
    (x_BadNumber : K.lookup cN = some (excClassObj nm_BadNumber q_BadNumber cN N_BadNumber bs_BadNumber [.ref cL, .type "ValueError", .type "Exception", .type "BaseException", .type "object"] true sn_BadNumber sb_BadNumber ab_BadNumber co_BadNumber dd_BadNumber m0_BadNumber m1_BadNumber m2_BadNumber m3_BadNumber m5_BadNumber "ValueError.__new__"))
    (su_BadNumber : PySem.W.ks_superIn K cN cN "__init__" = some (some (.builtin "ValueError.__init__")))
    (sa_BadNumber : PySem.W.findIn K (.ref cN) "__setattr__" = some (some (.builtin "object.__setattr__")))
    (ga_BadNumber : PySem.W.findIn K (.ref cN) "__getattribute__" = some (some (.builtin "BaseException.__getattribute__")))
    (gg_BadNumber : PySem.W.findIn K (.ref cN) "__getattr__" = some none)
    (nb_BadNumber : PySem.W.findIn K (.ref cN) "part" = some none)
    (in_BadNumber : PySem.W.findIn K (.ref cN) "__init__" = some (some (.ref iN)))
    (ti_BadNumber : PySem.W.typeIn K (.ref iN) = some (.type "function"))
    (l_BadNumber : K.lookup iN = some ⟨oc_BadNumber, od_BadNumber, .func (PySem.W.ksFn "__init__" "BadNumber.__init__" (defArgs (inClass (topS 3) 0)) (defBody (inClass (topS 3) 0)) (defScope (inClass (topS 3) 0)) .none kV_BadNumber dc_BadNumber pm_BadNumber an_BadNumber (.ref cd_BadNumber) ct_BadNumber cc_BadNumber), sl_BadNumber⟩)
    (c_BadNumber : PySem.W.codeIn K (.ref cd_BadNumber) "BadNumber.__init__" = true)
    (cell_BadNumber : K.lookup cc_BadNumber = some ⟨c1_BadNumber, cl1_BadNumber, .cell (some (.ref cN)), s1_BadNumber⟩)
    (code_BadNumber : K.lookup cd_BadNumber = some ⟨c2_BadNumber, cl2_BadNumber, .fields vs_BadNumber, s2_BadNumber⟩)
    (v2_BadNumber : vs_BadNumber[2]? = some (.str fl_BadNumber tf_BadNumber))
    (fi_BadNumber : ((PySem.Challenge.rw_surelabels_k01_rows.prog.main.file : Str) == fl_BadNumber) = true)
    (kC_BadNumber : PySem.W.keepIn K (.ref cN) = true)
    (eC_BadNumber : PySem.W.subIn K (.ref cN) (.type "BaseException") = some true)
    (vC_BadNumber : PySem.W.subIn K (.ref cN) (.type "ValueError") = some true)
    (tC_BadNumber : PySem.W.typeIn K (.ref cN) = some (.type "type"))
    (hC_BadNumber : PySem.W.hasDictIn K cN = true)
    (iC_BadNumber : PySem.W.isClsIn K cN = true)
    (mC_BadNumber : PySem.W.mroIn K cN (.ref cN) = some true)
    (s_BadRow_BadRow : PySem.W.subIn K (.ref cR) (.ref cR) = some true)
    (s_BadRow_BadNumber : PySem.W.subIn K (.ref cR) (.ref cN) = some false)
    (s_BadNumber_BadRow : PySem.W.subIn K (.ref cN) (.ref cR) = some false)
    (s_BadNumber_BadNumber : PySem.W.subIn K (.ref cN) (.ref cN) = some true)
    (a_LE : PySem.W.nsIn K mainGlobals "LabelError" = some (some (.ref cL)))
    (opq : PySem.W.nsIn K cStatics "thirdparty.any" = some none)
    (z_isinstance : PySem.W.nsIn K mainGlobals "isinstance" = some none)
    (z_int : PySem.W.nsIn K mainGlobals "int" = some none)
    (z_bool : PySem.W.nsIn K mainGlobals "bool" = some none)
    (z_str : PySem.W.nsIn K mainGlobals "str" = some none)
    (z_list : PySem.W.nsIn K mainGlobals "list" = some none)
    (z_tuple : PySem.W.nsIn K mainGlobals "tuple" = some none)
    (z_len : PySem.W.nsIn K mainGlobals "len" = some none)
    (z_all : PySem.W.nsIn K mainGlobals "all" = some none)
    (z_range : PySem.W.nsIn K mainGlobals "range" = some none)
    (z_zip : PySem.W.nsIn K mainGlobals "zip" = some none)
    (z_reversed : PySem.W.nsIn K mainGlobals "reversed" = some none)
    (z_sum : PySem.W.nsIn K mainGlobals "sum" = some none)
    (z_super : PySem.W.nsIn K mainGlobals "super" = some none)
    (a_is_whole : PySem.W.nsIn K mainGlobals "is_whole" = some (some (.ref f_is_whole)))
    (l_is_whole : K.lookup f_is_whole = some ⟨oc_is_whole, od_is_whole, .func (PySem.W.fnOf "is_whole" "is_whole" (defArgs s_is_whole) (defBody s_is_whole) (defScope s_is_whole) .none kV_is_whole dc_is_whole pm_is_whole an_is_whole cd_is_whole ct_is_whole), sl_is_whole⟩)
    (c_is_whole : PySem.W.codeIn K cd_is_whole "is_whole" = true)
    (k_is_whole : PySem.W.keepIn K (.ref f_is_whole) = true)
    (a_is_within : PySem.W.nsIn K mainGlobals "is_within" = some (some (.ref f_is_within)))
    (l_is_within : K.lookup f_is_within = some ⟨oc_is_within, od_is_within, .func (PySem.W.fnOf "is_within" "is_within" (defArgs s_is_within) (defBody s_is_within) (defScope s_is_within) .none kV_is_within dc_is_within pm_is_within an_is_within cd_is_within ct_is_within), sl_is_within⟩)
    (c_is_within : PySem.W.codeIn K cd_is_within "is_within" = true)
    (k_is_within : PySem.W.keepIn K (.ref f_is_within) = true)
    (a_check_within : PySem.W.nsIn K mainGlobals "check_within" = some (some (.ref f_check_within)))
    (l_check_within : K.lookup f_check_within = some ⟨oc_check_within, od_check_within, .func (PySem.W.fnOf "check_within" "check_within" (defArgs s_check_within) (defBody s_check_within) (defScope s_check_within) .none kV_check_within dc_check_within pm_check_within an_check_within cd_check_within ct_check_within), sl_check_within⟩)
    (c_check_within : PySem.W.codeIn K cd_check_within "check_within" = true)
    (k_check_within : PySem.W.keepIn K (.ref f_check_within) = true)
    (a_is_row : PySem.W.nsIn K mainGlobals "is_row" = some (some (.ref f_is_row)))
    (l_is_row : K.lookup f_is_row = some ⟨oc_is_row, od_is_row, .func (PySem.W.fnOf "is_row" "is_row" (defArgs s_is_row) (defBody s_is_row) (defScope s_is_row) .none kV_is_row dc_is_row pm_is_row an_is_row cd_is_row ct_is_row), sl_is_row⟩)
    (c_is_row : PySem.W.codeIn K cd_is_row "is_row" = true)
    (k_is_row : PySem.W.keepIn K (.ref f_is_row) = true)
    (a_check_row : PySem.W.nsIn K mainGlobals "check_row" = some (some (.ref f_check_row)))
    (l_check_row : K.lookup f_check_row = some ⟨oc_check_row, od_check_row, .func (PySem.W.fnOf "check_row" "check_row" (defArgs s_check_row) (defBody s_check_row) (defScope s_check_row) .none kV_check_row dc_check_row pm_check_row an_check_row cd_check_row ct_check_row), sl_check_row⟩)
    (c_check_row : PySem.W.codeIn K cd_check_row "check_row" = true)
    (k_check_row : PySem.W.keepIn K (.ref f_check_row) = true)
    (a_apart : PySem.W.nsIn K mainGlobals "apart" = some (some (.ref f_apart)))
    (l_apart : K.lookup f_apart = some ⟨oc_apart, od_apart, .func (PySem.W.fnOf "apart" "apart" (defArgs s_apart) (defBody s_apart) (defScope s_apart) .none kV_apart dc_apart pm_apart an_apart cd_apart ct_apart), sl_apart⟩)
    (c_apart : PySem.W.codeIn K cd_apart "apart" = true)
    (k_apart : PySem.W.keepIn K (.ref f_apart) = true)
    (a_turned : PySem.W.nsIn K mainGlobals "turned" = some (some (.ref f_turned)))
    (l_turned : K.lookup f_turned = some ⟨oc_turned, od_turned, .func (PySem.W.fnOf "turned" "turned" (defArgs s_turned) (defBody s_turned) (defScope s_turned) .none kV_turned dc_turned pm_turned an_turned cd_turned ct_turned), sl_turned⟩)
    (c_turned : PySem.W.codeIn K cd_turned "turned" = true)
    (k_turned : PySem.W.keepIn K (.ref f_turned) = true)
    (a_cell_number : PySem.W.nsIn K mainGlobals "cell_number" = some (some (.ref f_cell_number)))
    (l_cell_number : K.lookup f_cell_number = some ⟨oc_cell_number, od_cell_number, .func (PySem.W.fnOf "cell_number" "cell_number" (defArgs s_cell_number) (defBody s_cell_number) (defScope s_cell_number) .none kV_cell_number dc_cell_number pm_cell_number an_cell_number cd_cell_number ct_cell_number), sl_cell_number⟩)
    (c_cell_number : PySem.W.codeIn K cd_cell_number "cell_number" = true)
    (k_cell_number : PySem.W.keepIn K (.ref f_cell_number) = true)
    (a_row_with : PySem.W.nsIn K mainGlobals "row_with" = some (some (.ref f_row_with)))
    (l_row_with : K.lookup f_row_with = some ⟨oc_row_with, od_row_with, .func (PySem.W.fnOf "row_with" "row_with" (defArgs s_row_with) (defBody s_row_with) (defScope s_row_with) .none kV_row_with dc_row_with pm_row_with an_row_with cd_row_with ct_row_with), sl_row_with⟩)
    (c_row_with : PySem.W.codeIn K cd_row_with "row_with" = true)
    (k_row_with : PySem.W.keepIn K (.ref f_row_with) = true)
    (a_law_pool : PySem.W.nsIn K mainGlobals "_law_pool" = some (some (.ref f_law_pool)))
    (l_law_pool : K.lookup f_law_pool = some ⟨oc_law_pool, od_law_pool, .func (PySem.W.fnOf "_law_pool" "_law_pool" (defArgs s_law_pool) (defBody s_law_pool) (defScope s_law_pool) .none kV_law_pool dc_law_pool pm_law_pool an_law_pool cd_law_pool ct_law_pool), sl_law_pool⟩)
    (c_law_pool : PySem.W.codeIn K cd_law_pool "_law_pool" = true)
    (k_law_pool : PySem.W.keepIn K (.ref f_law_pool) = true)
    (a_law_draw : PySem.W.nsIn K mainGlobals "_law_draw" = some (some (.ref f_law_draw)))
    (l_law_draw : K.lookup f_law_draw = some ⟨oc_law_draw, od_law_draw, .func (PySem.W.fnOf "_law_draw" "_law_draw" (defArgs s_law_draw) (defBody s_law_draw) (defScope s_law_draw) .none kV_law_draw dc_law_draw pm_law_draw an_law_draw cd_law_draw ct_law_draw), sl_law_draw⟩)
    (c_law_draw : PySem.W.codeIn K cd_law_draw "_law_draw" = true)
    (k_law_draw : PySem.W.keepIn K (.ref f_law_draw) = true)
    (a_law_same : PySem.W.nsIn K mainGlobals "_law_same" = some (some (.ref f_law_same)))
    (l_law_same : K.lookup f_law_same = some ⟨oc_law_same, od_law_same, .func (PySem.W.fnOf "_law_same" "_law_same" (defArgs s_law_same) (defBody s_law_same) (defScope s_law_same) .none kV_law_same dc_law_same pm_law_same an_law_same cd_law_same ct_law_same), sl_law_same⟩)
    (c_law_same : PySem.W.codeIn K cd_law_same "_law_same" = true)
    (k_law_same : PySem.W.keepIn K (.ref f_law_same) = true)
    (a_law_row : PySem.W.nsIn K mainGlobals "_law_row" = some (some (.ref f_law_row)))
    (l_law_row : K.lookup f_law_row = some ⟨oc_law_row, od_law_row, .func (PySem.W.fnOf "_law_row" "_law_row" (defArgs s_law_row) (defBody s_law_row) (defScope s_law_row) .none kV_law_row dc_law_row pm_law_row an_law_row cd_law_row ct_law_row), sl_law_row⟩)
    (c_law_row : PySem.W.codeIn K cd_law_row "_law_row" = true)
    (k_law_row : PySem.W.keepIn K (.ref f_law_row) = true)
    (a_law_power : PySem.W.nsIn K mainGlobals "_law_power" = some (some (.ref f_law_power)))
    (l_law_power : K.lookup f_law_power = some ⟨oc_law_power, od_law_power, .func (PySem.W.fnOf "_law_power" "_law_power" (defArgs s_law_power) (defBody s_law_power) (defScope s_law_power) .none kV_law_power dc_law_power pm_law_power an_law_power cd_law_power ct_law_power), sl_law_power⟩)
    (c_law_power : PySem.W.codeIn K cd_law_power "_law_power" = true)
    (k_law_power : PySem.W.keepIn K (.ref f_law_power) = true)
    (a_law_row_of : PySem.W.nsIn K mainGlobals "_law_row_of" = some (some (.ref f_law_row_of)))
    (l_law_row_of : K.lookup f_law_row_of = some ⟨oc_law_row_of, od_law_row_of, .func (PySem.W.fnOf "_law_row_of" "_law_row_of" (defArgs s_law_row_of) (defBody s_law_row_of) (defScope s_law_row_of) .none kV_law_row_of dc_law_row_of pm_law_row_of an_law_row_of cd_law_row_of ct_law_row_of), sl_law_row_of⟩)
    (c_law_row_of : PySem.W.codeIn K cd_law_row_of "_law_row_of" = true)
    (k_law_row_of : PySem.W.keepIn K (.ref f_law_row_of) = true)
    (a_law_deep : PySem.W.nsIn K mainGlobals "_law_deep" = some (some (.ref f_law_deep)))
    (l_law_deep : K.lookup f_law_deep = some ⟨oc_law_deep, od_law_deep, .func (PySem.W.fnOf "_law_deep" "_law_deep" (defArgs s_law_deep) (defBody s_law_deep) (defScope s_law_deep) .none kV_law_deep dc_law_deep pm_law_deep an_law_deep cd_law_deep ct_law_deep), sl_law_deep⟩)
    (c_law_deep : PySem.W.codeIn K cd_law_deep "_law_deep" = true)
    (k_law_deep : PySem.W.keepIn K (.ref f_law_deep) = true)
    (a_law_apart : PySem.W.nsIn K mainGlobals "_law_apart" = some (some (.ref f_law_apart)))
    (l_law_apart : K.lookup f_law_apart = some ⟨oc_law_apart, od_law_apart, .func (PySem.W.fnOf "_law_apart" "_law_apart" (defArgs s_law_apart) (defBody s_law_apart) (defScope s_law_apart) .none kV_law_apart dc_law_apart pm_law_apart an_law_apart cd_law_apart ct_law_apart), sl_law_apart⟩)
    (c_law_apart : PySem.W.codeIn K cd_law_apart "_law_apart" = true)
    (k_law_apart : PySem.W.keepIn K (.ref f_law_apart) = true)
    (a_law_with : PySem.W.nsIn K mainGlobals "_law_with" = some (some (.ref f_law_with)))
    (l_law_with : K.lookup f_law_with = some ⟨oc_law_with, od_law_with, .func (PySem.W.fnOf "_law_with" "_law_with" (defArgs s_law_with) (defBody s_law_with) (defScope s_law_with) .none kV_law_with dc_law_with pm_law_with an_law_with cd_law_with ct_law_with), sl_law_with⟩)
    (c_law_with : PySem.W.codeIn K cd_law_with "_law_with" = true)
    (k_law_with : PySem.W.keepIn K (.ref f_law_with) = true)
    (a_law_value : PySem.W.nsIn K mainGlobals "_law_value" = some (some (.ref f_law_value)))
    (l_law_value : K.lookup f_law_value = some ⟨oc_law_value, od_law_value, .func (PySem.W.fnOf "_law_value" "_law_value" (defArgs s_law_value) (defBody s_law_value) (defScope s_law_value) .none kV_law_value dc_law_value pm_law_value an_law_value cd_law_value ct_law_value), sl_law_value⟩)
    (c_law_value : PySem.W.codeIn K cd_law_value "_law_value" = true)
    (k_law_value : PySem.W.keepIn K (.ref f_law_value) = true)
    (a_law_numbers_right : PySem.W.nsIn K mainGlobals "_law_numbers_right" = some (some (.ref f_law_numbers_right)))
    (l_law_numbers_right : K.lookup f_law_numbers_right = some ⟨oc_law_numbers_right, od_law_numbers_right, .func (PySem.W.fnOf "_law_numbers_right" "_law_numbers_right" (defArgs s_law_numbers_right) (defBody s_law_numbers_right) (defScope s_law_numbers_right) .none kV_law_numbers_right dc_law_numbers_right pm_law_numbers_right an_law_numbers_right cd_law_numbers_right ct_law_numbers_right), sl_law_numbers_right⟩)
    (c_law_numbers_right : PySem.W.codeIn K cd_law_numbers_right "_law_numbers_right" = true)
    (k_law_numbers_right : PySem.W.keepIn K (.ref f_law_numbers_right) = true)
    (a_law : PySem.W.nsIn K mainGlobals "law" = some (some (.ref f_law)))
    (l_law : K.lookup f_law = some ⟨oc_law, od_law, .func (PySem.W.fnOf "law" "law" (defArgs s_law) (defBody s_law) (defScope s_law) .none kV_law dc_law pm_law an_law cd_law ct_law), sl_law⟩)
    (c_law : PySem.W.codeIn K cd_law "law" = true)
    (k_law : PySem.W.keepIn K (.ref f_law) = true) :
    ∃ fd : FuncData, (∀ (s : Shared) (v : Value), BindsTo s fd ⟨[v], []⟩ [("script", v)]) ∧ ∀ base : Heap, K.In base → base.Ns mainGlobals mg → FnOk PySem.Challenge.rw_surelabels_k01_rows.prog w K mg base CX0 13 fa fd ["script"] (spLaw K) := by
  have e := hfa.symm.trans (PySem.W.mg_of X G a_law)
  cases e
  have F1_is_whole := fun_mk (st := s_is_whole) l_is_whole c_is_whole k_is_whole
  have B_is_whole := F1_is_whole.binds (ps := ["thing"]) fun _ _ _ _ _ _ us hl => match us, hl with | [_], _ => rfl
  have F1_is_within := fun_mk (st := s_is_within) l_is_within c_is_within k_is_within
  have B_is_within := F1_is_within.binds (ps := ["thing", "low", "high"]) fun _ _ _ _ _ _ us hl => match us, hl with | [_, _, _], _ => rfl
  have F1_check_within := fun_mk (st := s_check_within) l_check_within c_check_within k_check_within
  have B_check_within := F1_check_within.binds (ps := ["thing", "low", "high", "part"]) fun _ _ _ _ _ _ us hl => match us, hl with | [_, _, _, _], _ => rfl
  have F1_is_row := fun_mk (st := s_is_row) l_is_row c_is_row k_is_row
  have B_is_row := F1_is_row.binds (ps := ["thing"]) fun _ _ _ _ _ _ us hl => match us, hl with | [_], _ => rfl
  have F1_check_row := fun_mk (st := s_check_row) l_check_row c_check_row k_check_row
  have B_check_row := F1_check_row.binds (ps := ["thing", "part"]) fun _ _ _ _ _ _ us hl => match us, hl with | [_, _], _ => rfl
  have F1_apart := fun_mk (st := s_apart) l_apart c_apart k_apart
  have B_apart := F1_apart.binds (ps := ["one", "other"]) fun _ _ _ _ _ _ us hl => match us, hl with | [_, _], _ => rfl
  have F1_turned := fun_mk (st := s_turned) l_turned c_turned k_turned
  have B_turned := F1_turned.binds (ps := ["row"]) fun _ _ _ _ _ _ us hl => match us, hl with | [_], _ => rfl
  have F1_cell_number := fun_mk (st := s_cell_number) l_cell_number c_cell_number k_cell_number
  have B_cell_number := F1_cell_number.binds (ps := ["row"]) fun _ _ _ _ _ _ us hl => match us, hl with | [_], _ => rfl
  have F1_row_with := fun_mk (st := s_row_with) l_row_with c_row_with k_row_with
  have B_row_with := F1_row_with.binds (ps := ["number", "width"]) fun _ _ _ _ _ _ us hl => match us, hl with | [_, _], _ => rfl
  have F1_law_pool := fun_mk (st := s_law_pool) l_law_pool c_law_pool k_law_pool
  have B_law_pool := F1_law_pool.binds (ps := ["script"]) fun _ _ _ _ _ _ us hl => match us, hl with | [_], _ => rfl
  have F1_law_draw := fun_mk (st := s_law_draw) l_law_draw c_law_draw k_law_draw
  have B_law_draw := F1_law_draw.binds (ps := ["pool", "many"]) fun _ _ _ _ _ _ us hl => match us, hl with | [_, _], _ => rfl
  have F1_law_same := fun_mk (st := s_law_same) l_law_same c_law_same k_law_same
  have B_law_same := F1_law_same.binds (ps := ["actual", "due"]) fun _ _ _ _ _ _ us hl => match us, hl with | [_, _], _ => rfl
  have F1_law_row := fun_mk (st := s_law_row) l_law_row c_law_row k_law_row
  have B_law_row := F1_law_row.binds (ps := ["pool", "length"]) fun _ _ _ _ _ _ us hl => match us, hl with | [_, _], _ => rfl
  have F1_law_power := fun_mk (st := s_law_power) l_law_power c_law_power k_law_power
  have B_law_power := F1_law_power.binds (ps := ["many"]) fun _ _ _ _ _ _ us hl => match us, hl with | [_], _ => rfl
  have F1_law_row_of := fun_mk (st := s_law_row_of) l_law_row_of c_law_row_of k_law_row_of
  have B_law_row_of := F1_law_row_of.binds (ps := ["number", "width"]) fun _ _ _ _ _ _ us hl => match us, hl with | [_, _], _ => rfl
  have F1_law_deep := fun_mk (st := s_law_deep) l_law_deep c_law_deep k_law_deep
  have B_law_deep := F1_law_deep.binds (ps := []) fun _ _ _ _ _ _ us hl => match us, hl with | [], _ => rfl
  have F1_law_apart := fun_mk (st := s_law_apart) l_law_apart c_law_apart k_law_apart
  have B_law_apart := F1_law_apart.binds (ps := ["one", "other"]) fun _ _ _ _ _ _ us hl => match us, hl with | [_, _], _ => rfl
  have F1_law_with := fun_mk (st := s_law_with) l_law_with c_law_with k_law_with
  have B_law_with := F1_law_with.binds (ps := ["number", "width"]) fun _ _ _ _ _ _ us hl => match us, hl with | [_, _], _ => rfl
  have F1_law_value := fun_mk (st := s_law_value) l_law_value c_law_value k_law_value
  have B_law_value := F1_law_value.binds (ps := ["row"]) fun _ _ _ _ _ _ us hl => match us, hl with | [_], _ => rfl
  have F1_law_numbers_right := fun_mk (st := s_law_numbers_right) l_law_numbers_right c_law_numbers_right k_law_numbers_right
  have B_law_numbers_right := F1_law_numbers_right.binds (ps := ["pool"]) fun _ _ _ _ _ _ us hl => match us, hl with | [_], _ => rfl
  have F1_law := fun_mk (st := s_law) l_law c_law k_law
  have B_law := F1_law.binds (ps := ["script"]) fun _ _ _ _ _ _ us hl => match us, hl with | [_], _ => rfl
  have T_BadRow : PySem.SLX.ExTxt K mg PySem.Challenge.rw_surelabels_k01_rows.prog w "BadRow" "part" "part" (fun v => ∃ (y : Str) (t : Tok), v = .str y t ∧ (reprText y).length ≤ 1000) cR iR :=
    { gC := PySem.W.mg_of X G a_BadRow, cls := ⟨_, _, _, _, _, _, _, _, _, _, _, _, _, _, _, x_BadRow, rfl, along_of x_BadRow su_BadRow⟩, sa := sa_BadRow, ga := ga_BadRow, gg := gg_BadRow, noN := nb_BadRow, iC := in_BadRow, tC := ti_BadRow, kC := kC_BadRow, exC := eC_BadRow, veC := vC_BadRow, tyC := tC_BadRow, hdC := hC_BadRow, selfC := mC_BadRow, opq := opq, sup := PySem.W.mg_none_of X G z_super,
      fn := ⟨_, _, _, _, _, _, _, _, _, _, _, _, _, _, _, _, _, _, _, _, _, _, _, _, _, _, _, _, _, _, _, _, l_BadRow, c_BadRow, cell_BadRow, code_BadRow, v2_BadRow, fi_BadRow, PySem.SLX.msg_repr rfl rfl (by decide) (by decide +kernel), fun _ => rfl, fun _ => ⟨_, rfl⟩, fun _ _ => rfl⟩,
      okN := ⟨by decide, by decide, by decide, by decide⟩, top := by decide +kernel }
  have T_BadNumber : PySem.SLX.ExTxt K mg PySem.Challenge.rw_surelabels_k01_rows.prog w "BadNumber" "part" "part" (fun v => ∃ (y : Str) (t : Tok), v = .str y t ∧ (reprText y).length ≤ 1000) cN iN :=
    { gC := PySem.W.mg_of X G a_BadNumber, cls := ⟨_, _, _, _, _, _, _, _, _, _, _, _, _, _, _, x_BadNumber, rfl, along_of x_BadNumber su_BadNumber⟩, sa := sa_BadNumber, ga := ga_BadNumber, gg := gg_BadNumber, noN := nb_BadNumber, iC := in_BadNumber, tC := ti_BadNumber, kC := kC_BadNumber, exC := eC_BadNumber, veC := vC_BadNumber, tyC := tC_BadNumber, hdC := hC_BadNumber, selfC := mC_BadNumber, opq := opq, sup := PySem.W.mg_none_of X G z_super,
      fn := ⟨_, _, _, _, _, _, _, _, _, _, _, _, _, _, _, _, _, _, _, _, _, _, _, _, _, _, _, _, _, _, _, _, l_BadNumber, c_BadNumber, cell_BadNumber, code_BadNumber, v2_BadNumber, fi_BadNumber, PySem.SLX.msg_repr rfl rfl (by decide) (by decide +kernel), fun _ => rfl, fun _ => ⟨_, rfl⟩, fun _ _ => rfl⟩,
      okN := ⟨by decide, by decide, by decide, by decide⟩, top := by decide +kernel }
  have M : MF PySem.Challenge.rw_surelabels_k01_rows.prog w K mg cR iR cN iN cL := { m_isinstance := PySem.W.mg_none_of X G z_isinstance, m_int := PySem.W.mg_none_of X G z_int, m_bool := PySem.W.mg_none_of X G z_bool, m_str := PySem.W.mg_none_of X G z_str, m_list := PySem.W.mg_none_of X G z_list, m_tuple := PySem.W.mg_none_of X G z_tuple, m_len := PySem.W.mg_none_of X G z_len, m_all := PySem.W.mg_none_of X G z_all, m_range := PySem.W.mg_none_of X G z_range, m_zip := PySem.W.mg_none_of X G z_zip, m_reversed := PySem.W.mg_none_of X G z_reversed, m_sum := PySem.W.mg_none_of X G z_sum, x_BadRow := T_BadRow, x_BadNumber := T_BadNumber, g_BadRow := PySem.W.mg_of X G a_BadRow, g_BadNumber := PySem.W.mg_of X G a_BadNumber, g_LabelError := PySem.W.mg_of X G a_LE, e_RR := exm_ref eC_BadRow iC_BadRow tC_BadRow s_BadRow_BadRow, e_NR := exm_ref eC_BadRow iC_BadRow tC_BadRow s_BadNumber_BadRow, e_NN := exm_ref eC_BadNumber iC_BadNumber tC_BadNumber s_BadNumber_BadNumber }
  refine ⟨PySem.W.fnOf "law" "law" (defArgs s_law) (defBody s_law) (defScope s_law) .none kV_law dc_law pm_law an_law cd_law ct_law, fun s v => .of_eq rfl, fun base _ _ => ?_⟩
  · have F_is_whole : FnC PySem.Challenge.rw_surelabels_k01_rows.prog w K mg base CX0 1 "is_whole" ["thing"] (spWhole K) := ⟨_, _, ok_is_whole M F1_is_whole, PySem.W.mg_of X G a_is_whole, k_is_whole, B_is_whole⟩
    have F_is_within : FnC PySem.Challenge.rw_surelabels_k01_rows.prog w K mg base CX0 2 "is_within" ["thing", "low", "high"] (spWithin K) := ⟨_, _, ok_is_within F_is_whole F1_is_within, PySem.W.mg_of X G a_is_within, k_is_within, B_is_within⟩
    have F_check_within : FnC PySem.Challenge.rw_surelabels_k01_rows.prog w K mg base (L2.CX PySem.Challenge.rw_surelabels_k01_rows.prog w) 4 "check_within" ["thing", "low", "high", "part"] (spCheckWithin K cN) := ⟨_, _, ok_check_within M F_is_within F1_check_within, PySem.W.mg_of X G a_check_within, k_check_within, B_check_within⟩
    have F_is_row : FnC PySem.Challenge.rw_surelabels_k01_rows.prog w K mg base CX0 4 "is_row" ["thing"] (spRowQ K) := ⟨_, _, ok_is_row M F_is_within F1_is_row, PySem.W.mg_of X G a_is_row, k_is_row, B_is_row⟩
    have F_check_row : FnC PySem.Challenge.rw_surelabels_k01_rows.prog w K mg base (L2.CX PySem.Challenge.rw_surelabels_k01_rows.prog w) 6 "check_row" ["thing", "part"] (spCheckRow K cR) := ⟨_, _, ok_check_row M F_is_row F1_check_row, PySem.W.mg_of X G a_check_row, k_check_row, B_check_row⟩
    have F_apart : FnC PySem.Challenge.rw_surelabels_k01_rows.prog w K mg base (L2.CX PySem.Challenge.rw_surelabels_k01_rows.prog w) 8 "apart" ["one", "other"] (spApart K cR) := ⟨_, _, ok_apart M F_check_row F1_apart, PySem.W.mg_of X G a_apart, k_apart, B_apart⟩
    have F_turned : FnC PySem.Challenge.rw_surelabels_k01_rows.prog w K mg base CX0 1 "turned" ["row"] (spTurned K) := ⟨_, _, ok_turned F1_turned, PySem.W.mg_of X G a_turned, k_turned, B_turned⟩
    have F_cell_number : FnC PySem.Challenge.rw_surelabels_k01_rows.prog w K mg base CX0 1 "cell_number" ["row"] (spCellNumber K) := ⟨_, _, ok_cell_number F1_cell_number, PySem.W.mg_of X G a_cell_number, k_cell_number, B_cell_number⟩
    have F_row_with : FnC PySem.Challenge.rw_surelabels_k01_rows.prog w K mg base (L2.CX PySem.Challenge.rw_surelabels_k01_rows.prog w) 6 "row_with" ["number", "width"] (spRowWith K cN) := ⟨_, _, ok_row_with M F_check_within F1_row_with, PySem.W.mg_of X G a_row_with, k_row_with, B_row_with⟩
    have F_law_pool : FnC PySem.Challenge.rw_surelabels_k01_rows.prog w K mg base CX0 1 "_law_pool" ["script"] (spPool K) := ⟨_, _, ok_law_pool M F1_law_pool, PySem.W.mg_of X G a_law_pool, k_law_pool, B_law_pool⟩
    have F_law_draw : FnC PySem.Challenge.rw_surelabels_k01_rows.prog w K mg base CX0 1 "_law_draw" ["pool", "many"] spDraw := ⟨_, _, ok_law_draw M F1_law_draw, PySem.W.mg_of X G a_law_draw, k_law_draw, B_law_draw⟩
    have F_law_same : FnC PySem.Challenge.rw_surelabels_k01_rows.prog w K mg base CX0 8 "_law_same" ["actual", "due"] (spSame K 3) := ⟨_, _, ok_law_same M F1_law_same (PySem.W.mg_of X G a_law_same) B_law_same 3, PySem.W.mg_of X G a_law_same, k_law_same, B_law_same⟩
    have F_law_row : FnC PySem.Challenge.rw_surelabels_k01_rows.prog w K mg base CX0 3 "_law_row" ["pool", "length"] spLRow := ⟨_, _, ok_law_row M F_law_draw F1_law_row, PySem.W.mg_of X G a_law_row, k_law_row, B_law_row⟩
    have F_law_power : FnC PySem.Challenge.rw_surelabels_k01_rows.prog w K mg base CX0 1 "_law_power" ["many"] spPower := ⟨_, _, ok_law_power M F1_law_power, PySem.W.mg_of X G a_law_power, k_law_power, B_law_power⟩
    have F_law_row_of : FnC PySem.Challenge.rw_surelabels_k01_rows.prog w K mg base CX0 1 "_law_row_of" ["number", "width"] spRowOf := ⟨_, _, ok_law_row_of M F1_law_row_of, PySem.W.mg_of X G a_law_row_of, k_law_row_of, B_law_row_of⟩
    have F_law_deep : FnC PySem.Challenge.rw_surelabels_k01_rows.prog w K mg base CX0 1 "_law_deep" [] spDeep := ⟨_, _, ok_law_deep M F1_law_deep, PySem.W.mg_of X G a_law_deep, k_law_deep, B_law_deep⟩
    have F_law_apart : FnC PySem.Challenge.rw_surelabels_k01_rows.prog w K mg base CX0 10 "_law_apart" ["one", "other"] (spLApart K) := ⟨_, _, ok_law_apart M F_apart F1_law_apart, PySem.W.mg_of X G a_law_apart, k_law_apart, B_law_apart⟩
    have F_law_with : FnC PySem.Challenge.rw_surelabels_k01_rows.prog w K mg base CX0 8 "_law_with" ["number", "width"] (spLWith K) := ⟨_, _, ok_law_with M F_row_with F1_law_with, PySem.W.mg_of X G a_law_with, k_law_with, B_law_with⟩
    have F_law_value : FnC PySem.Challenge.rw_surelabels_k01_rows.prog w K mg base CX0 1 "_law_value" ["row"] (spValue K) := ⟨_, _, ok_law_value F1_law_value, PySem.W.mg_of X G a_law_value, k_law_value, B_law_value⟩
    have F_law_numbers_right : FnC PySem.Challenge.rw_surelabels_k01_rows.prog w K mg base CX0 10 "_law_numbers_right" ["pool"] spRight := ⟨_, _, ok_law_numbers_right M F_law_draw F_law_power F_law_same F_law_with F_law_row_of F_cell_number F_row_with F1_law_numbers_right, PySem.W.mg_of X G a_law_numbers_right, k_law_numbers_right, B_law_numbers_right⟩
    exact ok_law M F_law_pool F_law_draw F_law_row F_law_same F_law_apart F_apart F_turned F_cell_number F_law_value F_law_deep F_is_row F_law_numbers_right F1_law
end K01
open PySem PySem.W PyProof.Rows
set_option maxHeartbeats 0 in
theorem PySem.Challenge.cw_surelabels_k01_rows_holds : PySem.Challenge.rw_surelabels_k01_rows.Holds := by
  w_on; o_law; k_head; (case hw => w_witness2)
  k_fill
  refine L2.walk_of (l := PySem.Challenge.rw_surelabels_k01_rows) (n := 63) (k := 13) (x := "script") (CX := fun _ => L2.CX0) (sp := fun w => K01.spLaw _) rfl (by decide) rfl ⟨rfl, by decide, by decide⟩ (fun w h Y => PySem.W.kIn_of Y) ?F (fun _ _ a ns hl _ hS => ⟨a, ns, rfl, hS, hl, fun _ => rfl⟩) (fun _ _ _ _ _ h => h)
  case F =>
    intro w mg fa h KX G hmg
    refine' K01.all_mk KX G hmg ?h0 ?h1 ?h2 ?h3 ?h4 ?h5 ?h6 ?h7 ?h8 ?h9 ?h10 ?h11 ?h12 ?h13 ?h14 ?h15 ?h16 ?h17 ?h18 ?h19 ?h20 ?h21 ?h22 ?h23 ?h24 ?h25 ?h26 ?h27 ?h28 ?h29 ?h30 ?h31 ?h32 ?h33 ?h34 ?h35 ?h36 ?h37 ?h38 ?h39 ?h40 ?h41 ?h42 ?h43 ?h44 ?h45 ?h46 ?h47 ?h48 ?h49 ?h50 ?h51 ?h52 ?h53 ?h54 ?h55 ?h56 ?h57 ?h58 ?h59 ?h60 ?h61 ?h62 ?h63 ?h64 ?h65 ?h66 ?h67 ?h68 ?h69 ?h70 ?h71 ?h72 ?h73 ?h74 ?h75 ?h76 ?h77 ?h78 ?h79 ?h80 ?h81 ?h82 ?h83 ?h84 ?h85 ?h86 ?h87 ?h88 ?h89 ?h90 ?h91 ?h92 ?h93 ?h94 ?h95 ?h96 ?h97 ?h98 ?h99 ?h100 ?h101 ?h102 ?h103 ?h104 ?h105 ?h106 ?h107 ?h108 ?h109 ?h110 ?h111 ?h112 ?h113 ?h114 ?h115 ?h116 ?h117 ?h118 ?h119 ?h120 ?h121 ?h122 ?h123 ?h124 ?h125 ?h126 ?h127 ?h128 ?h129 ?h130 ?h131 ?h132 ?h133 ?h134 ?h135 ?h136 ?h137 ?h138 ?h139 ?h140 ?h141 ?h142 ?h143 ?h144 ?h145 ?h146
    (case h0 => k_is)
    (case h1 => k_is)
    (case h2 => ks_is)
    (case h3 => k_is)
    (case h4 => k_is)
    (case h5 => k_is)
    (case h6 => k_is)
    (case h7 => k_is)
    (case h8 => k_is)
    (case h9 => k_is)
    (case h10 => k_is)
    (case h11 => k_is)
    (case h12 => k_is)
    (case h13 => rfl)
    (case h14 => decide +kernel)
    (case h15 => k_is)
    (case h16 => k_is)
    (case h17 => k_is)
    (case h18 => k_is)
    (case h19 => k_is)
    (case h20 => k_is)
    (case h21 => k_is)
    (case h22 => k_is)
    (case h23 => k_is)
    (case h24 => ks_is)
    (case h25 => k_is)
    (case h26 => k_is)
    (case h27 => k_is)
    (case h28 => k_is)
    (case h29 => k_is)
    (case h30 => k_is)
    (case h31 => k_is)
    (case h32 => k_is)
    (case h33 => k_is)
    (case h34 => k_is)
    (case h35 => rfl)
    (case h36 => decide +kernel)
    (case h37 => k_is)
    (case h38 => k_is)
    (case h39 => k_is)
    (case h40 => k_is)
    (case h41 => k_is)
    (case h42 => k_is)
    (case h43 => k_is)
    (case h44 => k_is)
    (case h45 => k_is)
    (case h46 => k_is)
    (case h47 => k_is)
    (case h48 => k_is)
    (case h49 => k_is)
    (case h50 => k_is)
    (case h51 => k_is)
    (case h52 => k_is)
    (case h53 => k_is)
    (case h54 => k_is)
    (case h55 => k_is)
    (case h56 => k_is)
    (case h57 => k_is)
    (case h58 => k_is)
    (case h59 => k_is)
    (case h60 => k_is)
    (case h61 => k_is)
    (case h62 => k_is)
    (case h63 => k_is)
    (case h64 => k_is)
    (case h65 => k_is)
    (case h66 => k_is)
    (case h67 => k_is)
    (case h68 => k_is)
    (case h69 => k_is)
    (case h70 => k_is)
    (case h71 => k_is)
    (case h72 => k_is)
    (case h73 => k_is)
    (case h74 => k_is)
    (case h75 => k_is)
    (case h76 => k_is)
    (case h77 => k_is)
    (case h78 => k_is)
    (case h79 => k_is)
    (case h80 => k_is)
    (case h81 => k_is)
    (case h82 => k_is)
    (case h83 => k_is)
    (case h84 => k_is)
    (case h85 => k_is)
    (case h86 => k_is)
    (case h87 => k_is)
    (case h88 => k_is)
    (case h89 => k_is)
    (case h90 => k_is)
    (case h91 => k_is)
    (case h92 => k_is)
    (case h93 => k_is)
    (case h94 => k_is)
    (case h95 => k_is)
    (case h96 => k_is)
    (case h97 => k_is)
    (case h98 => k_is)
    (case h99 => k_is)
    (case h100 => k_is)
    (case h101 => k_is)
    (case h102 => k_is)
    (case h103 => k_is)
    (case h104 => k_is)
    (case h105 => k_is)
    (case h106 => k_is)
    (case h107 => k_is)
    (case h108 => k_is)
    (case h109 => k_is)
    (case h110 => k_is)
    (case h111 => k_is)
    (case h112 => k_is)
    (case h113 => k_is)
    (case h114 => k_is)
    (case h115 => k_is)
    (case h116 => k_is)
    (case h117 => k_is)
    (case h118 => k_is)
    (case h119 => k_is)
    (case h120 => k_is)
    (case h121 => k_is)
    (case h122 => k_is)
    (case h123 => k_is)
    (case h124 => k_is)
    (case h125 => k_is)
    (case h126 => k_is)
    (case h127 => k_is)
    (case h128 => k_is)
    (case h129 => k_is)
    (case h130 => k_is)
    (case h131 => k_is)
    (case h132 => k_is)
    (case h133 => k_is)
    (case h134 => k_is)
    (case h135 => k_is)
    (case h136 => k_is)
    (case h137 => k_is)
    (case h138 => k_is)
    (case h139 => k_is)
    (case h140 => k_is)
    (case h141 => k_is)
    (case h142 => k_is)
    (case h143 => k_is)
    (case h144 => k_is)
    (case h145 => k_is)
    (case h146 => k_is)
