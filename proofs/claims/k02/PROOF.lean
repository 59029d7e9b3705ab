import PyProof.Rows.All
import Wide.All
import OpenK.AllK
import Wide.FinOn
import PyProof.EqAt
import PyProof.EqKinds
import PyProof.TupleCall
import PyProof.FString
import PyProof.FString4
import KE.KExcSuper
import HandS.Base
import HandS.Call
import HandS.Exc
import HandS.ExcInit
import HandS.ForMost
import HandS.ExcOwn
import HandS.WordsExc
import HandS.IsInst
import HandS.TupAny
import PySem.Challenge.RW_surelabels_k02_blocks
import HandS.Evl
set_option Elab.async false
set_option linter.all false
set_option maxRecDepth 100000
set_option maxHeartbeats 4000000
/-! An own error class whose __init__ says super().__init__(message) and keeps one field: made, raised, caught, its field read. -/
namespace PySem
namespace SLX
open PySem.W PySem.Calls PyProof.Rows PySem.HandSPX
/-- the message, evaluated where the one parameter stands: nothing but tokens changes -/
def MsgOk (prog : Program) (w : World) (sc : Scope) (par : Str) (msg : Expr) (okv : Value → Prop) : Prop :=
  ∀ (A : Around) (E : Value → Shared → Prop) (s : Shared) (env : Env) (m : Str → Option Value) (v : Value) (Q : Value → Shared → Prop), env.scope = sc → s.heap.Ns env.locals m → m par = some v → okv v → (∀ u t, Q u { s with toks := t }) →
    wpAny (model prog w) A (eval msg env) Q E s
theorem msg_const {prog : Program} {w : World} {sc : Scope} {par x : Str} {j : Nat} {p : Pos} {okv : Value → Prop} : MsgOk prog w sc par (.Constant (.str x) j p) okv :=
  fun A E s env m v Q _ _ _ _ h => Calls.Constant_str (h _ _)
/-- f'..{part!r}' -/
theorem msg_repr {prog : Program} {w : World} {sc : Scope} {par x : Str} {j : Nat} {p1 p2 p3 p4 : Pos} (hk : sc.kind = .function) (hl : sc.names.lookup par = some .local) (hd : (par == ("__debug__" : Str)) = false) (hx : x.length ≤ 1000) :
    MsgOk prog w sc par (.JoinedStr [.Constant (.str x) j p1, .FormattedValue (.Name par p2) 114 none p3] p4) (fun v => ∃ (y : Str) (t : Tok), v = .str y t ∧ (reprText y).length ≤ 1000) := by
  intro A E s env m v Q hs hn hv ho h
  obtain ⟨y, t, rfl, hy⟩ := ho
  subst hs
  have z1 : (1000 : Nat) ≤ sizeLine := by rw [sizeLine_eq]; decide
  have z2 : (2000 : Nat) ≤ sizeLine := by rw [sizeLine_eq]; decide
  have hyl : (reprText y).length ≤ sizeLine := Nat.le_trans hy z1
  have app : ∀ a b : Str, (a ++ b).length = a.length + b.length := fun a b => by
    show (a.cps ++ b.cps).size = a.cps.size + b.cps.size
    exact Array.size_append
  have e0 : (Str.empty : Str).length = 0 := rfl
  refine wpAny_JoinedStr ?_
  show wpAny _ _ (eval (.Constant (.str x) j p1) env) _ _ _
  refine Calls.Constant_str ?_
  refine ⟨x, s.toks, rfl, by rw [app, e0]; omega, ?_⟩
  show wpAny _ _ (eval (.FormattedValue (.Name par p2) 114 none p3) env) _ _ _
  refine wpAny_FormattedValue_repr ?_
  refine wpAny_Name (wpAny_loadName_local hk hl hn hv ?_) hd
  refine pyReprObj_str ?_ hyl
  refine wpAny_formatField_str ?_ ?_ hyl
  · refine ⟨reprText y, _, rfl, by rw [app, app, e0]; omega, ?_⟩
    exact ⟨by rw [app, app, e0]; omega, h _ _⟩
  · refine ⟨reprText y, _, rfl, by rw [app, app, e0]; omega, ?_⟩
    exact ⟨by rw [app, app, e0]; omega, h _ _⟩

/-! ### the text of __init__ -/
def iP (par : Str) (p1 p2 : Pos) : Arguments := { posonlyargs := [], args := [{ arg := "self", annotation := none, pos := p1 }, { arg := par, annotation := none, pos := p2 }], vararg := none, kwonlyargs := [], kw_defaults := [], kwarg := none, defaults := [] }
def iB (fld par : Str) (msg : Expr) (q1 q2 q3 q4 q5 q6 q7 q8 q9 : Pos) : List Stmt :=
  [.Expr (.Call (.Attribute (.Call (.Name "super" q1) [] [] q2) "__init__" q3) [msg] [] q4) q5, .Assign [.Attribute (.Name "self" q6) fld q7] (.Name par q8) q9]
def iS (par : Str) : Scope := { kind := .function, names := [(PySem.Str.ofString "self", .local), (par, .local), (PySem.Str.ofString "__class__", .free), (PySem.Str.ofString "super", .globalImplicit)], isGenerator := false, isCoroutine := false, more := [] }
/-- super().__init__(msg), as the evaluator takes it -/
def CallForm (msg : Expr) (q1 q2 q3 q4 : Pos) : Prop := ∀ env : Env, ∃ pl : Sem Bool, eval (.Call (.Attribute (.Call (.Name "super" q1) [] [] q2) "__init__" q3) [msg] [] q4) env = (do
  let ov ← attributeBase (.Call (.Name "super" q1) [] [] q2) "__init__" env (eval (.Call (.Name "super" q1) [] [] q2) env)
  standAt q3.atName
  let (f, first) ← holding [ov] (getMethod ov "__init__" pl)
  callWith q4 f first (backTo q4 (starEach [msg] env)) [])
/-- what the written part says of the class cn, at C, and of its __init__, at fI; vok: the values that its message can show -/
structure ExTxt (K : Frag) (mg : Str → Option Value) (prog : Program) (w : World) (cn fld par : Str) (vok : Value → Prop) (C fI : Addr) : Prop where
  gC : mg cn = some (.ref C)
  cls : ∃ nm q N bs bm sn sub ab col dd k0 k1 k2 k3 k5, K.lookup C = some (excClassObj nm q C N bs bm true sn sub ab col dd k0 k1 k2 k3 k5 "ValueError.__new__") ∧ refsVE bm = true ∧ alongIn K "__init__" bm = some (some (.builtin "ValueError.__init__"))
  sa : findIn K (.ref C) "__setattr__" = some (some (.builtin "object.__setattr__"))
  ga : findIn K (.ref C) "__getattribute__" = some (some (.builtin "BaseException.__getattribute__"))
  gg : findIn K (.ref C) "__getattr__" = some none
  noN : findIn K (.ref C) fld = some none
  iC : findIn K (.ref C) "__init__" = some (some (.ref fI))
  tC : typeIn K (.ref fI) = some (.type "function")
  kC : keepIn K (.ref C) = true
  exC : subIn K (.ref C) (.type "BaseException") = some true
  veC : subIn K (.ref C) (.type "ValueError") = some true
  tyC : typeIn K (.ref C) = some (.type "type")
  hdC : hasDictIn K C = true
  selfC : mroIn K C (.ref C) = some true
  opq : nsIn K cStatics "thirdparty.any" = some none
  sup : mg "super" = none
  fn : ∃ (oc : Value) (od : Option Addr) (qual : Str) (kV doc pm : Value) (an : Option Addr) (ct : Value) (osl : Array (Option Value)) (cc cda : Addr) (msg : Expr) (p1 p2 q1 q2 q3 q4 q5 q6 q7 q8 q9 : Pos) (cl ccl : Value) (cld cdd : Option Addr) (csl ccs : Array (Option Value)) (vs : Array Value) (file : Str) (tf : Tok),
    K.lookup fI = some ⟨oc, od, .func (ksFn "__init__" qual (iP par p1 p2) (iB fld par msg q1 q2 q3 q4 q5 q6 q7 q8 q9) (iS par) .none kV doc pm an (.ref cda) ct cc), osl⟩ ∧ codeIn K (.ref cda) qual = true ∧
    K.lookup cc = some ⟨cl, cld, .cell (some (.ref C)), csl⟩ ∧ K.lookup cda = some ⟨ccl, cdd, .fields vs, ccs⟩ ∧ vs[2]? = some (.str file tf) ∧ ((prog.main.file : Str) == file) = true ∧ MsgOk prog w (iS par) par msg vok ∧
    (∀ env, starEach [msg] env = (false, eval msg env) :: starEach [] env) ∧ CallForm msg q1 q2 q3 q4 ∧ ∀ a b : Value, bindArgs (ksFn "__init__" qual (iP par p1 p2) (iB fld par msg q1 q2 q3 q4 q5 q6 q7 q8 q9) (iS par) .none kV doc pm an (.ref cda) ct cc) ⟨[a, b], []⟩ = pure [(PySem.Str.ofString "self", a), (par, b)]
  okN : par ≠ ("self" : Str) ∧ par ≠ ("__class__" : Str) ∧ par ≠ ("super" : Str) ∧ (par == ("__debug__" : Str)) = false
  top : (prog.main.scope.names.lookup ("super" : Str)).isSome = false
theorem one_size (v : Value) : [v].length ≤ sizeLine := by
  rw [sizeLine_eq]
  exact (by decide : 1 ≤ 16777216)
/-- what __init__ leaves of a fresh exception at x -/
structure InitEnd (h h' : Heap) (x C dx t1 : Addr) (fld : Str) (v : Value) : Prop where
  keep : ∀ b o, b ≠ x → h.get? b = some o → h'.get? b = some o
  obj : h'.get? x = some { cls := .ref C, dict := some dx, data := .fields #[.ref t1, .none, .none, .none, .bool false, .none] }
  dbig : h.objs.size ≤ dx
  dne : dx ≠ x
  ns : h'.Ns1 dx (fun y => if y = fld then some v else none)
theorem kept_but {K : Frag} {h h' : Heap} {x : Addr} (X : K.In h) (hx : K.lookup x = none) (k : ∀ b o, b ≠ x → h.get? b = some o → h'.get? b = some o) : K.In h' := fun a o e =>
  k a o (fun z => by rw [z, hx] at e; cases e) (X a o e)
section
variable {prog : Program} {w : World} {A : Around} {E : Value → Shared → Prop} {R : Result → Shared → Prop} {s : Shared} {K : Frag} {mg mb : Str → Option Value} {cn fld par : Str} {vok : Value → Prop} {C fI : Addr}
/-- the wrapper called: the exception's args are laid anew -/
theorem call_mw {h : Heap} {g : Array GenState} {d : Drawn} {t : Nat} {os : OsState} {nm q : Str} {N : Addr} {bs bm : List Value} {sn : List Str} {sub : List Value} {ab : Bool} {col : Option Bool} {dd : Option Addr} {k0 k1 k2 k3 k5 : Option Value}
    {u x t0 : Addr} {rest : List Value} {Q : Value → Shared → Prop} (hC : h.get? C = some (excClassObj nm q C N bs bm true sn sub ab col dd k0 k1 k2 k3 k5 "ValueError.__new__")) (hbm : refsVE bm = true) (he : h.get? x = some (excO C t0))
    (hu : h.get? u = some (kxs_mw "ValueError.__init__" x)) (hz : rest.length ≤ sizeLine)
    (hq : ∀ h' t1, (∀ b o, b ≠ x → h.get? b = some o → h'.get? b = some o) → h'.get? x = some (excO C t1) → Q .none ⟨h', g, d, t, os⟩) :
    wpAny (model prog w) A (call (.ref u) rest) Q E ⟨h, g, d, t, os⟩ := by
  refine wpAny_call (codeAny_of_tree ?_)
  show wpAny _ A.in1 (callAny (.ref u) ⟨rest, []⟩) _ _ _
  simp only [callAny]
  refine wpAny_bind (wpAny_load hu ?_)
  simp only [kxs_mw, show (Value.type "method-wrapper" == Value.type "method" || Value.type "method-wrapper" == Value.type "builtin_function_or_method" || Value.type "method-wrapper" == Value.type "method-wrapper") = true by decide, if_true]
  refine KFB.if_so (by decide) ?_
  refine wpAny_bind (check_bound_init F.excBase_ValueError.toExcCallFacts hC he rfl ?_)
  refine wpAny_bind (wpAny_pure (wpAny_pure ?_))
  refine ⟨plainId_quiet F.excBase_ValueError.init.plain _, codeAny_builtin F.excBase_ValueError.initEntry ?_⟩
  exact exc_init_tree (cls := .ref C) (t0 := t0) (dv := none) (c2 := .none) (c3 := .none) (b4 := .bool false) he hz fun h' k e' _ => hq h' _ k e'

theorem own_init (T : ExTxt K mg prog w cn fld par vok C fI) {x t0 : Addr} {v : Value} (hvok : vok v) (X : K.In s.heap) (hlim : s.heap.NoLimit) (hg : s.heap.Ns mainGlobals mg) (hb : s.heap.Ns builtinsNs mb) (hbb : ∀ y : Str, y ≠ "__name__" → mb y = bootBuiltins y)
    (hx : s.heap.get? x = some (excO C t0)) (hnx : K.lookup x = none) (hroom : A.depth < recursionLimit)
    (hq : ∀ h' tk dx t1, InitEnd s.heap h' x C dx t1 fld v → R (.ok (.ret .none)) { s with heap := h', toks := tk }) :
    codeAny (model prog w) A (.call (.ref fI) ⟨[.ref x, v], []⟩) R s := by
  obtain ⟨oc, od, qual, kV, doc, pm, an, ct, osl, cc, cda, msg, p1, p2, q1, q2, q3, q4, q5, q6, q7, q8, q9, cl, ccl, cld, cdd, csl, ccs, vs, file, tf, ho, hcd, hcc, hcda, hvs, hfile, hmsg, hstar, hform, hbd⟩ := T.fn
  obtain ⟨nm, q, N, bs, bm, sn, sub, ab, col, dd, k0, k1, k2, k3, k5, hC, hbm, hal⟩ := T.cls
  obtain ⟨n1, n2, n3, n4⟩ := T.okN
  have hcl : clsIn K C = some { name := nm, bases := bs, mro := .ref C :: bm, ns := N, qualname := q, hasDict := true, slotNames := sn, subclasses := sub, abstract := ab, collection := col, hasDel := false } := by unfold clsIn; rw [hC] <;> rfl
  have hxs : s.heap.objs.size ≠ x := Nat.ne_of_gt (Heap.lt_size hx)
  have par1 : List.lookup par (iS par).names = some .local := by
    show List.lookup par [(PySem.Str.ofString "self", _), (par, _), _, _] = _
    have e : (par == ("self" : Str)) = false := by simpa using n1
    simp [List.lookup, e]
  have cls1 : List.lookup ("__class__" : Str) (iS par).names = some .free := by
    show List.lookup ("__class__" : Str) [(PySem.Str.ofString "self", _), (par, _), (PySem.Str.ofString "__class__", _), _] = _
    have e1 : (("__class__" : Str) == ("self" : Str)) = false := by decide
    have e2 : (("__class__" : Str) == par) = false := by simpa using Ne.symm n2
    simp [List.lookup, e1, e2]
  have sup1 : List.lookup ("super" : Str) (iS par).names = some .globalImplicit := by
    show List.lookup ("super" : Str) [(PySem.Str.ofString "self", _), (par, _), (PySem.Str.ofString "__class__", _), (PySem.Str.ofString "super", _)] = _
    have e1 : (("super" : Str) == ("self" : Str)) = false := by decide
    have e2 : (("super" : Str) == par) = false := by simpa using Ne.symm n3
    have e3 : (("super" : Str) == ("__class__" : Str)) = false := by decide
    simp [List.lookup, e1, e2, e3]
  have hbind : BindsTo s (ksFn "__init__" qual (iP par p1 p2) (iB fld par msg q1 q2 q3 q4 q5 q6 q7 q8 q9) (iS par) .none kV doc pm an (.ref cda) ct cc) ⟨[.ref x, v], []⟩ [("self", .ref x), (par, v)] := BindsTo.of_eq (hbd _ _)
  refine ks_codeAny_call_defAt (binds := [("self", .ref x), (par, v)]) hroom (X _ _ ho) rfl hlim (codeRec_of X hcd) rfl hbind (fun y hy => ?_) (fun y hy => ?_) (fun h₀ hns hk => ?_) rfl rfl rfl
  · have hy' : y ∈ [(PySem.Str.ofString "self", NameKind.local), (par, .local), (PySem.Str.ofString "__class__", .free), (PySem.Str.ofString "super", .globalImplicit)] := hy
    simp only [List.mem_cons, List.not_mem_nil, or_false] at hy'
    rcases hy' with rfl | rfl | rfl | rfl <;> exact fun z => nomatch z
  · simp only [List.mem_cons, List.not_mem_nil, or_false] at hy
    rcases hy with rfl | rfl
    · rfl
    · exact par1
  have hlook : List.lookup par [(par, v), (("self" : Str), Value.ref x)] = some v := by simp [List.lookup]
  have hlookS : List.lookup ("self" : Str) [(par, v), (("self" : Str), Value.ref x)] = some (.ref x) := by
    have e : ((("self" : Str) : Str) == par) = false := by simpa using Ne.symm n1
    simp [List.lookup, e]
  have X0 : K.In h₀ := X.keeps hk
  have hx0 := hk _ _ hx
  show wpAt (model prog w) _ _ (execs (iB fld par msg q1 q2 q3 q4 q5 q6 q7 q8 q9) _) _ _ _
  refine ks_wpAt_execs_cons ?_
  refine ks_wpAt_Expr_any ?_
  obtain ⟨pl, hpl⟩ := hform (callEnv (ksFn "__init__" qual (iP par p1 p2) (iB fld par msg q1 q2 q3 q4 q5 q6 q7 q8 q9) (iS par) .none kV doc pm an (.ref cda) ct cc) s.heap.objs.size fI)
  refine ks_wpAt_MethodCall (pl := pl) ?_ hpl
  refine ks_wpAt_super_base (f := fI) (cc := cda) sup1 cls1 (by decide) rfl (X0 _ _ ho) rfl rfl rfl (X0 _ _ hcda) rfl hvs hfile T.top ?_
  refine ks_loadName_global rfl sup1 (loadGlobal_builtin (mg := mg) (mb := mb) (hg.keeps hk) T.sup (hb.keeps hk) ((hbb "super" (by decide)).trans PyProof.Rows.Boot.«super») ⟨rfl, ?_⟩)
  refine wpAny_loadName_free rfl cls1 (c := cc) rfl ⟨_, X0 _ _ hcc, rfl⟩ ?_
  refine wpAny_loadName_local rfl rfl hns hlookS ?_
  refine ks_wpAny_isType_cls (X0 _ _ hC) rfl ⟨rfl, ?_⟩
  refine ks_wpAny_call_super (X0 _ _ hC) rfl hx0 rfl (fun c z => nomatch z) (looks_mroIn X0 T.selfC) (fun h1 e1 k1 => ?_)
  have X1 : K.In h1 := X0.keeps k1
  have hx1 := k1 _ _ hx0
  have hxC : x ≠ C := fun z => by
    rw [z] at hnx
    have hC' : List.lookup C K = none := hnx
    rw [hC] at hC'
    cases hC'
  have I1 : InstAt h1 x (excO C t0) C none := ⟨hx1, rfl, rfl, trivial⟩
  have hI : Looks (model prog w) h1 (isInstance (.ref x) (.type "ValueError")) true := I1.type.andThen (looks_subIn X1 T.veC)
  refine kxs_getMethod kxs_ValueError (l₀ := .ref C :: bm) (l := bm) e1 (looks_opaque X1 T.opq) ((looks_clsIn X1 hcl).andThen .now) (by simp [List.dropWhile_cons]) X1 hal hI hxC (by decide) ?_
  show wpAny (model prog w) _ (callWith q4 (.ref h1.objs.size) [] (backTo q4 (starEach [msg] _)) []) _ _ _
  have kp : ∀ b o, h1.get? b = some o → (h1.push (kxs_mw "ValueError.__init__" x)).get? b = some o := fun b o e => Heap.get?_push_of_some _ e
  have hup : (h1.push (kxs_mw "ValueError.__init__" x)).get? h1.objs.size = some (kxs_mw "ValueError.__init__" x) := Heap.get?_push_at rfl rfl
  refine kxs_callWith (i := "ValueError.__init__") (x := x) (by rw [hstar]; rfl) ?_
  rw [hstar]
  refine evalArgs_plain ?_
  refine Calls.spliced_cons (hmsg _ _ _ _ _ v _ rfl ((hns.keeps k1).keeps kp) hlook hvok fun u tk => ?_)
  refine Calls.spliced_nil ⟨hup, ?_⟩
  refine call_mw (kp _ _ (X1 _ _ hC)) hbm (kp _ _ hx1) hup (one_size _) fun h2 t1 k2 e2 => ?_
  have X2 : K.In h2 := kept_but (X1.keeps kp) hnx k2
  have hL : s.heap.objs.size ≠ x := hxs
  have hn2 : h2.Ns s.heap.objs.size (fun y => List.lookup y ([("self", Value.ref x), (par, v)] : List (Str × Value)).reverse) := by
    obtain ⟨oL, es, ep, hLo, r⟩ := (hns.keeps k1).keeps kp
    exact ⟨oL, es, ep, k2 _ _ hL hLo, r⟩
  show wpAt (model prog w) _ _ (execs _ _) _ _ _
  refine wpAt_of_wpAny (wpAny_execs_cons (plainObj_wpAny_Assign_Attribute ?_))
  refine wpAny_Name (wpAny_loadName_local rfl par1 hn2 hlook ?_) n4
  refine wpAny_Name (wpAny_loadName_local rfl rfl hn2 hlookS ?_) (by decide)
  refine set_plain X2 (ox := excO C t1) (od := none) ⟨e2, rfl, rfl, trivial⟩ T.sa ?_
  refine exc_osa X2 e2 hcl (show refsVE (.ref C :: bm) = true from hbm) rfl T.noN (fun h3 tk3 dx k3 dn dne hx3 hn3 => ?_)
  have old : ∀ b o, b ≠ x → s.heap.get? b = some o → h2.get? b = some o := fun b o hbx e => k2 b o hbx (kp _ _ (k1 _ _ (hk _ _ e)))
  have z : s.heap.objs.size ≤ h2.objs.size := Nat.le_of_lt hn2.lt
  exact wpAny_execs_nil (hq h3 tk3 dx t1 ⟨fun b o hbx e => k3 b o hbx (old b o hbx e), hx3, Nat.le_trans z dn, dne, hn3⟩)

/-- a made error -/
structure OwnMade (h h' : Heap) (e C d : Addr) (fld : Str) (v : Value) : Prop where
  keep : ∀ b o, h.get? b = some o → h'.get? b = some o
  new : h.objs.size ≤ e
  obj : ∃ oe vs, h'.get? e = some oe ∧ oe.cls = .ref C ∧ oe.dict = some d ∧ oe.data = .fields vs ∧ vs[1]? = some .none
  dbig : h.objs.size ≤ d
  dne : d ≠ e
  ns : h'.Ns1 d (fun y => if y = fld then some v else none)
theorem own_made (T : ExTxt K mg prog w cn fld par vok C fI) {v : Value} (hvok : vok v) (X : K.In s.heap) (hlim : s.heap.NoLimit) (hg : s.heap.Ns mainGlobals mg) (hb : s.heap.Ns builtinsNs mb) (hbb : ∀ y : Str, y ≠ "__name__" → mb y = bootBuiltins y)
    (hroom : A.depth + 1 < recursionLimit) (hq : ∀ h' tk e d, OwnMade s.heap h' e C d fld v → R (.ok (.ret (.ref e))) { s with heap := h', toks := tk }) :
    codeAny (model prog w) A (.call (.ref C) ⟨[v], []⟩) R s := by
  obtain ⟨nm, q, N, bs, bm, sn, sub, ab, col, dd, k0, k1, k2, k3, k5, hC, hbm, _⟩ := T.cls
  obtain ⟨hp, g, dr, tk, os⟩ := s
  have k : ∀ b o, hp.get? b = some o → ((hp.push (kdv_tup [v])).push (excO C hp.objs.size)).get? b = some o := fun b o e => Heap.get?_push_of_some _ (Heap.get?_push_of_some _ e)
  have hget : ((hp.push (kdv_tup [v])).push (excO C hp.objs.size)).get? (hp.objs.size + 1) = some (excO C hp.objs.size) := by heap_get
  have hnx : K.lookup (hp.objs.size + 1) = none := by
    cases e : K.lookup (hp.objs.size + 1) with
    | none => rfl
    | some o =>
      have z : hp.get? (hp.objs.size + 1) = some o := X _ _ e
      exact absurd (Nat.lt_of_succ_lt (Heap.lt_size z)) (Nat.lt_irrefl _)
  refine call_own F.excBase_ValueError (fun Y => refsVE_contains Y bm hbm) (X _ _ hC) (looks_findIn X T.iC) (fun self => bind_fn X self T.tC) (one_size v) ?_
  refine own_init (s := ⟨(hp.push (kdv_tup [v])).push (excO C hp.objs.size), g, dr, tk, os⟩) T hvok (X.keeps k) (hlim.keeps k) (hg.keeps k) (hb.keeps k) hbb hget hnx ?_ fun h' tk' dx t1 ⟨k', hx, dn, dne, hns⟩ => ?_
  · show A.depth + 1 < recursionLimit
    exact hroom
  · have old : ∀ b o, hp.get? b = some o → h'.get? b = some o := fun b o e => k' b o (Nat.ne_of_lt (Nat.lt_succ_of_lt (Heap.lt_size e))) (k b o e)
    have z : hp.objs.size + 1 + 1 ≤ dx := by
      first
        | (simpa only [Heap.size_push] using dn)
        | exact dn
        | (have q := dn; rw [Heap.size_push, Heap.size_push] at q; exact q)
    exact ⟨rfl, hq h' tk' (hp.objs.size + 1) dx ⟨old, Nat.le_succ _, ⟨_, _, hx, rfl, rfl, rfl, rfl⟩, Nat.le_trans (Nat.le_trans (Nat.le_succ _) (Nat.le_succ _)) z, dne, hns⟩⟩
end
end SLX
end PySem
namespace L2
open PySem PySem.Spec PyProof.Rows
theorem relO_one {v : V} {v' : Value} {fld : Str} (r : RelV v v') (f : Str) : RelO (List.lookup f [(fld, v)]) (if f = fld then some v' else none) := by
  by_cases hw : f = fld
  · subst hw
    rw [if_pos rfl]
    have q : List.lookup f [(f, v)] = some v := by simp [List.lookup]
    rw [q]
    exact r
  · rw [if_neg hw]
    have qw : (f == fld) = false := by simpa using hw
    have q2 : List.lookup f [(fld, v)] = none := by simp [List.lookup, qw]
    rw [q2]
    trivial
section
variable {X : Cx} {C fI : Addr} {cn fld par : Str} {vok : Value → Prop}
/-- C(e), the error's own dict d new -/
def tMkEx (C : Addr) (fld : Str) (vok : Value → Prop) (ta : TA) : St → Hp → XK → Prop := fun σ H Q => ta σ H fun vs H1 => ∃ v, vs = [v] ∧ (∀ u, RelV v u → vok u) ∧ ∀ d, H1 d = none → Q (.ref C) (some d) (upd H1 d (.xd [(fld, v)]))
theorem pmk_ex {a : Expr} {ta : TA} {p pos : Pos} {k : Nat} (T : PySem.SLX.ExTxt X.K X.mg X.prog X.w cn fld par vok C fI) (hr : Room k X.A) (ha : PA X [a] ta) (hg : Gl X cn := by rfl) (hdb : (cn == ("__debug__" : Str)) = false := by decide)
    (he : starEach (a :: []) X.env = (false, eval a X.env) :: starEach [] X.env := by rfl) (hpl : (backTo pos (starEach [] X.env)).any (·.1) = false := by rfl) :
    PMk X (.Call (.Name cn p) [a] [] pos) (tMkEx C fld vok ta) := by
  intro pins s σ H Q I h
  refine wpAny_Call_Name_kw (ld_glob I hg T.gC ?_ hdb)
  refine PySem.W.callWith_K (h₀ := X.base) I.ok.mod.kin T.kC (thn (ha.run pos pins s σ H _ I h) fun us s1 hh => ?_) he hpl
  obtain ⟨vs, H1, I1, r1, v, ev, hv, q1⟩ := hh
  subst ev
  refine ⟨I1.kIn, ?_⟩
  cases r1 with
  | cons rv rn =>
    rename_i v' us'
    cases rn
    show wpAny _ _ (call (.ref C) [v']) _ _ _
    have hlim := I1.nolimit
    have hmg := I1.ok.mod.glob.keeps I1.bk
    obtain ⟨mb, hmb, hbb⟩ := I1.ok.mod.blt
    have hmb' := hmb.keeps I1.bk
    obtain ⟨hp, g, dr, tk, os⟩ := s1
    refine wpAny_call (PySem.SLX.own_made T (hv _ rv) I1.kIn hlim hmg hmb' hbb (by have := hr.dp; omega) fun h' tk' e d M => ?_)
    show MkP X pins σ Q (.ref e) ⟨h', g, dr, tk', os⟩
    obtain ⟨oe, fv, hoe, hc, hd, hdat, h1⟩ := M.obj
    have hns := M.ns
    obtain ⟨G', g1, g2⟩ := restrict h' fun b => decide (b ≠ e)
    have gk : ∀ b, b ≠ e → G'.get? b = h'.get? b := fun b hb => g1 b (decide_eq_true hb)
    have ge : G'.get? e = none := g2 e (by simp)
    have old : ∀ b o, hp.get? b = some o → G'.get? b = some o := fun b o q => (gk b (Nat.ne_of_lt (Nat.lt_of_lt_of_le (Heap.lt_size q) M.new))).trans (M.keep b o q)
    have ob : ObjOk X.prog X.w (upd H1 d (.xd [(fld, v)])) G' d (.xd [(fld, v)]) :=
      ⟨_, hns.at (fun o q => (gk d M.dne).trans q), fun f => relO_one rv f⟩
    have J : Inv X pins σ (upd H1 d (.xd [(fld, v)])) ⟨G', g, dr, tk', os⟩ := I1.laid (t' := tk') old M.dbig ob
    refine ⟨e, oe, fv, ⟨G', g, dr, tk', os⟩, _, .ref C, some d, rfl, J, fun b o q => ?_, ge, hoe, ⟨hc, hd⟩, hdat, h1, ?_, rfl, I1.bare, raises_own T.exC T.tyC, q1 d (I1.hok.fresh M.dbig)⟩
    · by_cases hb : b = e
      · have q' : G'.get? b = some o := q
        rw [hb, ge] at q'; cases q'
      · exact (gk b hb).symm.trans q
    · rw [upd_ne (Ne.symm M.dne)]
      exact I1.hok.fresh M.new
/-- raise C(e) -/
theorem ps_raiseEx {a : Expr} {ta : TA} {W : WX} {p pos pos2 : Pos} {k : Nat} (hc : X.calm = true) (T : PySem.SLX.ExTxt X.K X.mg X.prog X.w cn fld par vok C fI) (hr : Room k X.A) (tk : Takes X W) (ha : PA X [a] ta) (hg : Gl X cn := by rfl) (hdb : (cn == ("__debug__" : Str)) = false := by decide)
    (he : starEach (a :: []) X.env = (false, eval a X.env) :: starEach [] X.env := by rfl) (hpl : (backTo pos (starEach [] X.env)).any (·.1) = false := by rfl) :
    PS X (.Raise (some (.Call (.Name cn p) [a] [] pos)) none pos2) (fun _ σ H => tMkEx C fld vok ta σ H fun cls d H' => W cls d σ H') := ps_raise hc tk (pmk_ex T hr ha hg hdb he hpl)
/-- e.fld, e the error that the suite holds (at a; its class cls, its dict d) -/
def tExF (C : Addr) (fld : Str) (a : Addr) (cls : Value) (d : Option Addr) (te : TE) : TE := fun σ H Q => te σ H fun x H1 => x = .ref a ∧ cls = .ref C ∧ ∃ (dd : Addr) (v : V), d = some dd ∧ H1 dd = some (.xd [(fld, v)]) ∧ Q v H1
theorem pe_exf {a : Addr} {oe : Obj} {cls : Value} {d : Option Addr} {pn : List (Addr × Obj)} {e : Expr} {te : TE} {pos : Pos} (T : PySem.SLX.ExTxt X.K X.mg X.prog X.w cn fld par vok C fI) (hz : Zc cls d oe) (hf : ∃ vs, oe.data = .fields vs) (he : PE (X.suite a ((a, oe) :: pn)) e te)
    (hb : attributeBase e fld X.env (eval e X.env) = eval e X.env := by rfl) :
    PE (X.suite a ((a, oe) :: pn)) (.Attribute e fld pos) (tExF C fld a cls d te) := by
  refine ⟨fun pins s σ H Q I h => ?_⟩
  refine attr_of hb (thn (he.run pins s σ H _ I h) fun u s1 hh => ?_)
  obtain ⟨x, H1, I1, rx, ex, ec, dd, v, ed, ea, q⟩ := hh
  subst ex
  obtain rfl : u = Value.ref a := rx
  subst ec
  subst ed
  obtain ⟨ha, _⟩ := I1.pin (a, oe) (List.mem_append_left _ List.mem_cons_self)
  obtain ⟨vs, hd⟩ := hf
  have hx : ObjOk X.prog X.w H1 s1.heap dd (.xd [(fld, v)]) := I1.hok dd _ ea
  obtain ⟨mA, hns, hr⟩ := hx
  obtain ⟨od, ho, hl⟩ := lookIn_ns hns
  have l : List.lookup fld [(fld, v)] = some v := by simp [List.lookup]
  obtain ⟨u, hu, ru⟩ := RelO.some_of (v := v) (o := mA fld) (by rw [← l]; exact hr fld)
  have J : PySem.W.InstAt s1.heap a oe C (some od) := ⟨ha, hz.1, by unfold PySem.W.notCls; rw [hd] <;> rfl, by rw [hz.2]; exact ho⟩
  exact HandSPX.exc_get I1.kIn J T.ga T.gg T.exC (PySem.W.findObj_own T.hdC T.noN rfl (by rw [hl, hu])) (handed_of ru) ⟨v, H1, I1.tok _, ru, q⟩
end

/-! ### several except clauses, some with a name -/
abbrev Clause := Value × Option Nat × (Addr → Value → Option Addr → TS)
def unnamed (i : Nat) (D : Ends) : Ends := { nx := fun σ' H' => D.nx (σ'.set i none) H', rt := D.rt, bk := fun σ' H' => D.bk (σ'.set i none) H', ct := fun σ' H' => D.ct (σ'.set i none) H' }
/-- what the clauses wish of an exception of the body, one after the other -/
def wClauses (K : PySem.W.Frag) (Wout : WX) (D : Ends) : List Clause → WX
  | [] => Wout
  | (c, none, ts) :: r => fun cls d σ H => ∃ b, PySem.W.exmOne K cls c = some b ∧ (b = true → ∀ a, H a = none → ts a cls d D σ H) ∧ (b = false → wClauses K Wout D r cls d σ H)
  | (c, some i, ts) :: r => fun cls d σ H => ∃ b, PySem.W.exmOne K cls c = some b ∧ (b = true → ∀ a, H a = none → ts a cls d (unnamed i D) (σ.set i (some (.ref a))) H) ∧ (b = false → wClauses K Wout D r cls d σ H)
inductive ClausesOk (X : Cx) : List ExceptHandler → List Clause → Prop
  | nil : ClausesOk X [] []
  | only {x : Str} {c : Value} {ts : Addr → Value → Option Addr → TS} {b₀ : Stmt} {suite : List Stmt} {np pos' : Pos} {hds : List ExceptHandler} {l : List Clause} (hc : Names X x c)
      (hsu : ∀ (a : Addr) (oe : Obj) (cls : Value) (d : Option Addr) (pn : List (Addr × Obj)), Zc cls d oe → (∃ vs, oe.data = .fields vs) → PSs (X.suite a ((a, oe) :: pn)) (b₀ :: suite) (ts a cls d)) (r : ClausesOk X hds l) :
      ClausesOk X (.ExceptHandler (some (.Name x np)) none (b₀ :: suite) pos' :: hds) ((c, none, ts) :: l)
  | named {x n : Str} {i : Nat} {c : Value} {ts : Addr → Value → Option Addr → TS} {b₀ : Stmt} {suite : List Stmt} {np pos' : Pos} {hds : List ExceptHandler} {l : List Clause} (hi : X.N[i]? = some n) (hln : X.env.kindOf n = some .local) (hc : Names X x c)
      (hsu : ∀ (a : Addr) (oe : Obj) (cls : Value) (d : Option Addr) (pn : List (Addr × Obj)), Zc cls d oe → (∃ vs, oe.data = .fields vs) → PSs (X.suite a ((a, oe) :: pn)) (b₀ :: suite) (ts a cls d)) (r : ClausesOk X hds l) :
      ClausesOk X (.ExceptHandler (some (.Name x np)) (some n) (b₀ :: suite) pos' :: hds) ((c, some i, ts) :: l)
section
variable {X : Cx} {body : List Stmt} {h₀ : ExceptHandler} {hds : List ExceptHandler} {l : List Clause} {pos : Pos} {tb : WX → TS} {Wout : WX}
/-- how a suite's end is an end of the statement, where no name is to be undone -/
theorem suite_end {pins : List (Addr × Obj)} {D : Ends} {a : Addr} {q : Addr × Obj} {f : Flow} {s : Shared} (ok : X.Ok) (h : SP (X.suite a (q :: (X.pn ++ pins))) [] D f s) : SP X pins D f s := by
  cases f with
  | ret u =>
    obtain ⟨v, σ', H', S, r, g⟩ := h
    exact ⟨v, σ', H', S.unsuite ok, r, g⟩
  | next =>
    obtain ⟨σ', H', S, g⟩ := h
    exact ⟨σ', H', S.unsuite ok, g⟩
  | brk =>
    obtain ⟨σ', H', S, g⟩ := h
    exact ⟨σ', H', S.unsuite ok, g⟩
  | cont =>
    obtain ⟨σ', H', S, g⟩ := h
    exact ⟨σ', H', S.unsuite ok, g⟩
theorem try_end {pins pn' : List (Addr × Obj)} {D : Ends} {xe : Value → Shared → Prop} {f : Flow} {s : Shared} (ok : X.Ok) (h : SP (X.tr (X.pn ++ pins) xe) pn' D f s) : SP X pins D f s := by
  cases f with
  | ret u =>
    obtain ⟨v, σ', H', S, r, g⟩ := h
    exact ⟨v, σ', H', S.ofTry ok, r, g⟩
  | next =>
    obtain ⟨σ', H', S, g⟩ := h
    exact ⟨σ', H', S.ofTry ok, g⟩
  | brk =>
    obtain ⟨σ', H', S, g⟩ := h
    exact ⟨σ', H', S.ofTry ok, g⟩
  | cont =>
    obtain ⟨σ', H', S, g⟩ := h
    exact ⟨σ', H', S.ofTry ok, g⟩
/-- the statement: X is a def's own frame -/
theorem ps_clauses (hs : X.stack = X.env :: X.outer) (hf : X.env.frame = some X.env.locals) (hN : X.N.Nodup) (tk : Takes X Wout)
    (hb : ∀ (W : WX) (pn : List (Addr × Obj)) (xe : Value → Shared → Prop), Takes (X.tr pn xe) W → PassesOwn (model X.prog X.w) X.A X.env xe → PSs (X.tr pn xe) body (tb W))
    (hh : ClausesOk X (h₀ :: hds) l) : PS X (.Try body (h₀ :: hds) [] [] pos) (fun D σ H => tb (wClauses X.K Wout D l) D σ H) := by
  refine ⟨fun pins s σ H D I h => ?_⟩
  have ok := I.ok
  have hfr : X.A.frames = some (X.env :: X.outer) := by rw [ok.frames, hs]
  have body_run := (hb (wClauses X.K Wout D l) (X.pn ++ pins) (fun e s₁ => wpAny (model X.prog X.w) X.A (noteFrame e X.env) (fun _ s₂ => wpAny (model X.prog X.w) X.A (setFlight e none) (fun _ s₃ => wpAny (model X.prog X.w) X.A (handleBy e X.env (h₀ :: hds)) (SP X pins D) X.xe s₃) X.xe s₂) X.xe s₁)
    (fun u s' air => ?_) PassesOwn.looking).run [] s σ H D (I.toTry _) h
  · refine wpAny_Try_except (wpAny_mono body_run (fun f s1 hsp => ?_) fun e s1 he => he)
    have z := try_end ok hsp
    cases f with
    | next =>
      obtain ⟨σ', H', J, q⟩ := z
      exact wpAny_execs_nil ⟨σ', H', J, q⟩
    | brk => exact z
    | cont => exact z
    | ret u => exact z
  · obtain ⟨a, B, sI, pins', σ', H', cls, d, rfl, J', nb, up, sky, na, os, ag, wish⟩ := air
    have J : Inv X pins σ' H' sI := J'.ofTry ok
    rw [show (X.tr (X.pn ++ pins) _).stack = X.env :: X.outer from hs] at sky
    refine Sky.land Zc.steady hfr hf sky fun h3 fl3 up3 => ?_
    have J3 : Inv X pins σ' H' { s' with heap := h3 } := J.landed nb fl3.1 (up.trans up3) os ag
    obtain ⟨oe3, vs3, he3, hz3, hd3⟩ := fl3.there
    have out : a ∉ frs (X.env :: X.outer) := fun hm => by
      obtain ⟨_, o', e', hnf⟩ := fl3.2.2.1.mem hm
      rw [he3] at e'
      cases e'
      exact hnf _ hd3
    have nL : a ≠ X.env.locals := fun z => out (List.mem_filterMap.mpr ⟨X.env, List.mem_cons_self, by rw [hf, z]⟩)
    have nF : a ∉ X.fs := fun hm => by
      obtain ⟨e, he, q⟩ := List.mem_filterMap.mp hm
      exact out (List.mem_filterMap.mpr ⟨e, List.mem_cons_of_mem _ he, q⟩)
    have S3 := J3.suite he3 hd3 na nL nF
    have LT : PySem.W.Looks (model X.prog X.w) h3 (typeOf (.ref a)) cls := fun A Q E s k q => wpAny_typeOf_ref (k _ _ he3) (by rw [hz3.1]; exact q)
    have name : ∀ {x : Str} {c : Value} {np : Pos} {Q E : Value → Shared → Prop}, Names X x c → Q c { s' with heap := h3 } → wpAny (model X.prog X.w) (X.A.mark (some (.ref a))) (eval (.Name x np) X.env) Q E { s' with heap := h3 } := fun {x c np Q E} hc q => by
      obtain ⟨hg, hdbg, hm | ⟨hm, hv, hnn⟩⟩ := hc
      · exact ld_glob (X := X.suite a ((a, oe3) :: (X.pn ++ pins))) S3 hg hm q hdbg
      · exact ld_blt (X := X.suite a ((a, oe3) :: (X.pn ++ pins))) S3 hg hm hv q hnn hdbg
    have go : ∀ {hds' : List ExceptHandler} {l' : List Clause}, ClausesOk X hds' l' → wClauses X.K Wout D l' cls d σ' H' → wpAny (model X.prog X.w) X.A (handleBy (.ref a) X.env hds') (SP X pins D) X.xe { s' with heap := h3 } := by
      intro hds' l' hk
      induction hk with
      | nil =>
        intro wsh
        have w0 : Wout cls d σ' H' := wsh
        refine wpAny_handleBy_nil ?_
        obtain ⟨k1, k2, k3, oe, vs, T, oT, ts', he, hz, hd, h1, hr⟩ := id fl3
        have fin : wpAny (model X.prog X.w) X.A (setFlight (.ref a) X.env.frame) (fun _ s4 => wpAny (model X.prog X.w) X.A (throw (.ref a) : Sem Flow) (SP X pins D) X.xe s4) X.xe { s' with heap := h3 } := by
          rw [hf]
          refine HandSPX.setFlight_upZ fl3 fun h4 hh4 up4 => wpAny_throw (tk _ _ ⟨a, B, sI, pins, σ', H', cls, d, rfl, J, nb, (up.trans up3).trans up4, .inr (.inr (by rw [hs]; exact hh4)), na, os, ag, w0⟩)
        unfold PySem.passOn
        refine wpAny_bind (wpAny_field he hd h1 ?_)
        rw [if_neg (show ¬ ((Value.ref T == Value.none) = true) from by simp)]
        first
          | exact wpAny_bind (wpAny_pure (wpAny_bind fin))
          | exact wpAny_bind fin
      | only hc hsu r ih =>
        rintro ⟨b, hb1, hyes, hno⟩
        refine wpAny_handleBy_cons (codeAny_handlers_test (name hc ((PySem.W.exm_one (M := model X.prog X.w) J3.kIn LT hb1).here ?_))) (by intro q; cases q)
        cases b with
        | false => exact ih (hno rfl)
        | true =>
          refine codeAny_handlers_suite (HandSPX.lands_againZ fl3 fun h4 fl4 up4 => ?_)
          have J4 : Inv X pins σ' H' { s' with heap := h4 } := J.landed nb fl4.1 ((up.trans up3).trans up4) os ag
          obtain ⟨oe4, vs4, he4, hz4, hd4⟩ := fl4.there
          exact wpAny_mono ((hsu a oe4 cls d (X.pn ++ pins) hz4 ⟨_, hd4⟩).run [] _ _ H' _ (J4.suite he4 hd4 na nL nF) (hyes rfl a na)) (fun f s6 hsp => suite_end ok hsp) fun _ _ z => False.elim z
      | @named x n i c ts b₀ suite np pos' hds2 l2 hi hln hc hsu r ih =>
        rintro ⟨b, hb1, hyes, hno⟩
        refine wpAny_handleBy_cons (codeAny_handlers_test (name hc ((PySem.W.exm_one (M := model X.prog X.w) J3.kIn LT hb1).here ?_))) (by intro q; cases q)
        cases b with
        | false => exact ih (hno rfl)
        | true =>
          refine codeAny_handlers_suite_as (HandSPX.lands_againZ fl3 fun h4 fl4 up4 => ?_)
          have J4 : Inv X pins σ' H' { s' with heap := h4 } := J.landed nb fl4.1 ((up.trans up3).trans up4) os ag
          obtain ⟨oe4, vs4, he4, hz4, hd4⟩ := fl4.there
          refine store_ok (X := X.suite a ((a, oe4) :: (X.pn ++ pins))) (v := .ref a) (J4.suite he4 hd4 na nL nF) hN hi (.inl hln) rfl (fun s5 S5 => ?_) (.inr hln)
          refine wpAny_mono ((hsu a oe4 cls d (X.pn ++ pins) hz4 ⟨_, hd4⟩).run [] s5 _ H' _ S5 (hyes rfl a na)) (fun f s6 hsp => ?_) fun _ _ z => False.elim z
          have undo : ∀ {σ6 : St} {H6 : Hp} {Q : Shared → Prop}, Inv (X.suite a ((a, oe4) :: (X.pn ++ pins))) [] σ6 H6 s6 → (∀ s7, Inv X pins (σ6.set i none) H6 s7 → Q s7) →
            wpAny (model X.prog X.w) X.A (do bindName X.env n .none; unbindBehindTheSuite X.env n pos') (fun _ s7 => Q s7) X.xe s6 := fun {σ6 H6 Q} S6 hq => gone_ok (S6.unsuite ok) hN hi hln hq
          cases f with
          | ret u =>
            obtain ⟨v6, σ6, H6, S6, r6, q6⟩ := hsp
            exact undo S6 fun s7 J7 => ⟨_, _, _, J7, r6, q6⟩
          | next =>
            obtain ⟨σ6, H6, S6, q6⟩ := hsp
            exact undo S6 fun s7 J7 => ⟨_, _, J7, q6⟩
          | brk =>
            obtain ⟨σ6, H6, S6, q6⟩ := hsp
            exact undo S6 fun s7 J7 => ⟨_, _, J7, q6⟩
          | cont =>
            obtain ⟨σ6, H6, S6, q6⟩ := hsp
            exact undo S6 fun s7 J7 => ⟨_, _, J7, q6⟩
    exact go hh wish
end
end L2
/-! What the laws of this program share: kinds of values, heaps, calls of a def by its name. -/
namespace SL
open PySem PySem.Spec PyProof.Rows L2
/-! ### kinds -/
inductive Knw (K : PySem.W.Frag) (H : Hp) : V → String → Prop
  | non : Knw K H .non "NoneType"
  | bl (b : Bool) : Knw K H (.bl b) "bool"
  | int (i : Int) : Knw K H (.int i) "int"
  | str (x : Str) : Knw K H (.str x) "str"
  | lst {a : Addr} {xs : List V} (h : SqL K H a xs) : Knw K H (.ref a) "list"
  | tup {a : Addr} {xs : List V} (h : SqT K H a xs) : Knw K H (.ref a) "tuple"
  | dic {a : Addr} {kvs : List (Key × V)} (h : H a = some (.dK kvs)) : Knw K H (.ref a) "dict"
theorem Same.seqT {K : PySem.W.Frag} {H H' : Hp} {a : Addr} {xs : List V} (e : Same H H') (h : SqT K H a xs) : SqT K H' a xs := by
  rcases h with (h | ⟨o, h⟩) | h
  · exact .inl (.inl (e _ _ h))
  · exact .inl (.inr ⟨o, e _ _ h⟩)
  · exact .inr h
section
variable {K : PySem.W.Frag} {H H' : Hp} {x : V} {T : String}
theorem Knw.ty (h : Knw K H x T) : TyX K H x (.type T) := by
  cases h with
  | non => exact .base .non
  | bl b => exact .base (.bl b)
  | int i => exact .base (.int i)
  | str s => exact .base (.str s)
  | lst h =>
    rcases h with (h | ⟨o, h⟩) | ⟨o, its, n, h, c, _⟩
    · exact .base (.lst h)
    · exact .base (.frz h)
    · exact .kList h c
  | tup h =>
    rcases h with (h | ⟨o, h⟩) | ⟨o, its, n, h, c, _⟩
    · exact .base (.tup h)
    · exact .fTuple h
    · exact .kTuple h c
  | dic h => exact .base (.dK h)
theorem Knw.same (s : Same H H') (h : Knw K H x T) : Knw K H' x T := by
  cases h with
  | non => exact .non
  | bl b => exact .bl b
  | int i => exact .int i
  | str z => exact .str z
  | lst h => exact .lst (s.seq h)
  | tup h => exact .tup (Same.seqT s h)
  | dic h => exact .dic (s _ _ h)
end
theorem kit_is {K : PySem.W.Frag} {a b : String} {r : Bool} (h : kitB a b = some r) : PySem.W.kitOne K (.type a) (.type b) = some r := kit_ty h
/-- isinstance against int, bool, list, tuple, str: of the seven kinds -/
def kinds : List String := ["NoneType", "bool", "int", "str", "list", "tuple", "dict"]
theorem Knw.mem {K : PySem.W.Frag} {H : Hp} {x : V} {T : String} (h : Knw K H x T) : T ∈ kinds := by cases h <;> decide
theorem kit_int {K : PySem.W.Frag} {T : String} (h : T ∈ kinds) : PySem.W.kitOne K (.type T) (.type "int") = some (decide (T = "int" ∨ T = "bool")) := by
  simp only [kinds, List.mem_cons, List.not_mem_nil, or_false] at h
  rcases h with rfl | rfl | rfl | rfl | rfl | rfl | rfl <;> exact kit_ty (by decide +kernel)
theorem kit_bool {K : PySem.W.Frag} {T : String} (h : T ∈ kinds) : PySem.W.kitOne K (.type T) (.type "bool") = some (decide (T = "bool")) := by
  simp only [kinds, List.mem_cons, List.not_mem_nil, or_false] at h
  rcases h with rfl | rfl | rfl | rfl | rfl | rfl | rfl <;> exact kit_ty (by decide +kernel)
theorem kit_str {K : PySem.W.Frag} {T : String} (h : T ∈ kinds) : PySem.W.kitOne K (.type T) (.type "str") = some (decide (T = "str")) := by
  simp only [kinds, List.mem_cons, List.not_mem_nil, or_false] at h
  rcases h with rfl | rfl | rfl | rfl | rfl | rfl | rfl <;> exact kit_ty (by decide +kernel)
theorem kit_list {K : PySem.W.Frag} {T : String} (h : T ∈ kinds) : PySem.W.kitOne K (.type T) (.type "list") = some (decide (T = "list")) := by
  simp only [kinds, List.mem_cons, List.not_mem_nil, or_false] at h
  rcases h with rfl | rfl | rfl | rfl | rfl | rfl | rfl <;> exact kit_ty (by decide +kernel)
theorem kit_tuple {K : PySem.W.Frag} {T : String} (h : T ∈ kinds) : PySem.W.kitOne K (.type T) (.type "tuple") = some (decide (T = "tuple")) := by
  simp only [kinds, List.mem_cons, List.not_mem_nil, or_false] at h
  rcases h with rfl | rfl | rfl | rfl | rfl | rfl | rfl <;> exact kit_ty (by decide +kernel)
theorem lineN {n : Nat} (h : n ≤ 100000) : n < sizeLine := Nat.lt_of_le_of_lt h (by rw [sizeLine_eq]; decide)
theorem few {n : Nat} (h : n ≤ 1000) : n ≤ sizeLine := Nat.le_trans h (by rw [sizeLine_eq]; decide)
theorem pos_i {n : Int} (h : decide (0 < n) = true) : 0 < n := of_decide_eq_true h
theorem iteV {A B : Prop} {x y : V} (h : x ≠ y) (k : B) : if decide (x = y) = true then A else B := by rw [decide_eq_false h]; exact iteF k
theorem iteS {A B : Prop} {x y : String} (h : decide (x = y) = false) (k : B) : if decide (x = y) = true then A else B := by rw [h]; exact iteF k
theorem iteU {A B : Prop} {c : Prop} [Decidable c] (h : c) (k : A) : if decide c = true then A else B := by rw [decide_eq_true h]; exact iteT k
theorem iteW {A B : Prop} {c : Prop} [Decidable c] (h : ¬ c) (k : B) : if decide c = true then A else B := by rw [decide_eq_false h]; exact iteF k
theorem lc_yes {A B : Hp → Prop} {σ : L2.St} {H : Hp} (h : A H) : tYes σ H (fun b H3 => if b = true then A H3 else B H3) := (iteT h : if true = true then A H else B H)
/-! ### the rules with the written part told (for blocks) -/
section
variable {X : Cx}
theorem sl_tupK (K : PySem.W.Frag) (h : X.K = K := by rfl) : SlR X (rSlA K) := by subst h; exact sl_tupA
theorem sl_listK (K : PySem.W.Frag) (h : X.K = K := by rfl) : SlR X (rSlL K) := by subst h; exact sl_list
theorem ix_listK (K : PySem.W.Frag) (h : X.K = K := by rfl) : IxR X (rIxL K) := by subst h; exact ix_list
theorem ix_tupK (K : PySem.W.Frag) (h : X.K = K := by rfl) : IxR X (rIxT K) := by subst h; exact ix_tup
theorem ix_seqK (K : PySem.W.Frag) (h : X.K = K := by rfl) : IxR X (rIx K) := by subst h; exact ix_seq
theorem call_isiK' (K : PySem.W.Frag) (h : X.K = K := by rfl) : CallR X (.builtin "isinstance") (rIsi K) := by subst h; exact call_isi
theorem call_lenK (K : PySem.W.Frag) (h : X.K = K := by rfl) : CallR X (.builtin "len") (fun xs H Q => ∃ p ys, xs = [.ref p] ∧ (SqL K H p ys ∨ SqT K H p ys) ∧ Q (.int ys.length) H) := by subst h; exact call_len_seq
theorem call_tupleK (K : PySem.W.Frag) (h : X.K = K := by rfl) : CallR X (.type "tuple") (fun xs H Q => ∃ p ys, xs = [.ref p] ∧ ((SqL K H p ys ∧ ∀ l, H l = none → Q (.ref l) (upd H l (.tup ys))) ∨ (SqT K H p ys ∧ Q (.ref p) H))) := by subst h; exact call_tuple_of
theorem op_catK (K : PySem.W.Frag) (h : X.K = K := by rfl) : OpR X (binaryOp .Add) (rCatA K) := by subst h; exact op_catA
end
/-! ### heaps -/
theorem same_upd {H : Hp} {p : Addr} {o : HO} (h : H p = none) : Same H (upd H p o) := fun b x e => by
  rw [upd_ne (ne_of_none e h)]
  exact e
/-- the heap without what stands at p -/
def off (H : Hp) (p : Addr) : Hp := fun b => if b = p then none else H b
theorem off_same (H : Hp) (p : Addr) : Same (off H p) H := fun b o e => by
  unfold off at e
  split at e
  · cases e
  · exact e
theorem off_at {H : Hp} {p : Addr} : off H p p = none := if_pos rfl
theorem off_ne {H : Hp} {p b : Addr} (h : b ≠ p) : off H p b = H b := if_neg h
theorem off_mono {H H' : Hp} {p : Addr} (s : Same H H') : Same (off H p) (off H' p) := fun b o e => by
  unfold off at e ⊢
  split at e
  · cases e
  · rename_i h
    rw [if_neg h]
    exact s _ _ e
theorem off_upd {H : Hp} {p : Addr} {o : HO} : Same (off H p) (off (upd H p o) p) := fun b u e => by
  unfold off at e ⊢
  split at e
  · cases e
  · rename_i h
    rw [if_neg h, upd_ne h]
    exact e
/-- what was said of the rest stays true whatever is stored at p -/
theorem off_put {H : Hp} {p : Addr} {o : HO} : Same (off H p) (upd H p o) := fun b u e => by
  unfold off at e
  split at e
  · cases e
  · rename_i h
    rw [upd_ne h]
    exact e
theorem off_of {H H' : Hp} {p : Addr} (s : Same H H') (n : H p = none) : Same H (off H' p) := fun b o e => by
  rw [off_ne (ne_of_none e n)]
  exact s _ _ e
/-- what stood at b stands there, if b is not p -/
theorem off_get {H H' : Hp} {p b : Addr} {o : HO} (s : Same (off H p) (off H' p)) (n : b ≠ p) (e : H b = some o) : H' b = some o := by
  have z := s b o (by rw [off_ne n]; exact e)
  rw [off_ne n] at z
  exact z
/-! ### sums and slices of tuples, whatever they reuse -/
section
variable {X : Cx}
def rCatU (K : PySem.W.Frag) : R2 := fun x y H Q => ∃ a b xs ys, x = .ref a ∧ y = .ref b ∧ SqT K H a xs ∧ SqT K H b ys ∧ xs.length + ys.length ≤ 100000 ∧ ∀ c H', Same H H' → SqT K H' c (xs ++ ys) → Q (.ref c) H'
theorem op_catU (K : PySem.W.Frag) (h : X.K = K := by rfl) : OpR X (binaryOp .Add) (rCatU K) := by
  subst h
  intro pins s σ H x y v u Q I rx ry z
  obtain ⟨a, b, xs, ys, e1, e2, ha, hb, hz, q⟩ := z
  refine op_catA pins s σ H x y v u Q I rx ry ⟨a, b, xs, ys, e1, e2, ha, hb, Nat.le_of_lt (lineN hz), fun e => ?_, fun _ e => ?_, fun _ _ p np => ?_⟩
  · subst e
    exact q b H (Same.refl H) hb
  · subst e
    exact q a H (Same.refl H) (by rw [List.append_nil]; exact ha)
  · exact q p _ (same_upd np) (SqT.of upd_same)
def rSlU (K : PySem.W.Frag) : V → Option Int → Option Int → Hp → VK → Prop := fun x lo hi H Q => ∃ a xs, x = .ref a ∧ SqT K H a xs ∧ ∀ c H', Same H H' → SqT K H' c (cutV xs lo hi) → Q (.ref c) H'
theorem sl_tupU (K : PySem.W.Frag) (h : X.K = K := by rfl) : SlR X (rSlU K) := by
  subst h
  intro pins s σ H x v vl vu lo hi sl Q I rx hs pl pu z
  obtain ⟨a, xs, e, hx, q⟩ := z
  refine sl_tupA pins s σ H x v vl vu lo hi sl Q I rx hs pl pu ⟨a, xs, e, hx, fun w => q a H (Same.refl H) ?_, fun _ p np => q p _ (same_upd np) (SqT.of upd_same)⟩
  unfold cutV
  rw [w.1, w.2, List.drop_zero, Nat.sub_zero, List.take_length]
  exact hx
end
theorem Tups.get {K : PySem.W.Frag} {H : Hp} : ∀ {vs : List V} {cs : List (List V)} {i : Nat} {v : V}, Paired (fun v c => ∃ a, v = V.ref a ∧ SqT K H a c) vs cs → vs[i]? = some v → ∃ c b, cs[i]? = some c ∧ v = .ref b ∧ SqT K H b c
  | _, _, _, _, .nil, h => by simp at h
  | _, _, 0, v, .cons (b := c) h _, e => by
    simp at e
    subst e
    obtain ⟨b, e1, e2⟩ := h
    exact ⟨c, b, rfl, e1, e2⟩
  | _, _, i + 1, v, .cons _ t, e => by
    obtain ⟨c, b, h1, h2, h3⟩ := Tups.get (i := i) t (by simpa using e)
    exact ⟨c, b, by simpa using h1, h2, h3⟩
/-! ### data -/
mutual
theorem Dp.same {K : PySem.W.Frag} {H H' : Hp} (s : Same H H') : ∀ {v : V} {d : PyData}, Dp K H v d → Dp K H' v d
  | _, _, .non => .non
  | _, _, .bl b => .bl b
  | _, _, .int i => .int i
  | _, _, .str x => .str x
  | _, _, .lst h a => .lst (s.seq h) (DpAll.same s a)
  | _, _, .tup h a => .tup (Same.seqT s h) (DpAll.same s a)
theorem DpAll.same {K : PySem.W.Frag} {H H' : Hp} (s : Same H H') : ∀ {vs : List V} {ds : List PyData}, DpAll K H vs ds → DpAll K H' vs ds
  | _, _, .nil => .nil
  | _, _, .cons h t => .cons (Dp.same s h) (DpAll.same s t)
end
theorem DpAll.ints {K : PySem.W.Frag} {H : Hp} : ∀ ns : List Int, DpAll K H (ns.map V.int) (ns.map PyData.int)
  | [] => .nil
  | n :: r => .cons (.int n) (DpAll.ints r)
theorem DpAll.length {K : PySem.W.Frag} {H : Hp} : ∀ {vs : List V} {ds : List PyData}, DpAll K H vs ds → vs.length = ds.length
  | _, _, .nil => rfl
  | _, _, .cons _ t => congrArg (· + 1) (DpAll.length t)
theorem DpAll.get {K : PySem.W.Frag} {H : Hp} : ∀ {vs : List V} {ds : List PyData} {i : Nat} {d : PyData}, DpAll K H vs ds → ds[i]? = some d → ∃ v, vs[i]? = some v ∧ Dp K H v d
  | _, _, _, _, .nil, h => by simp at h
  | _, _, 0, _, .cons h _, e => by
    simp at e
    subst e
    exact ⟨_, rfl, h⟩
  | _, _, i + 1, _, .cons _ t, e => by
    obtain ⟨v, h1, h2⟩ := DpAll.get (i := i) t (by simpa using e)
    exact ⟨v, by simpa using h1, h2⟩
theorem DpAll.append {K : PySem.W.Frag} {H : Hp} {ws : List V} {es : List PyData} (b : DpAll K H ws es) : ∀ {vs : List V} {ds : List PyData}, DpAll K H vs ds → DpAll K H (vs ++ ws) (ds ++ es)
  | _, _, .nil => b
  | _, _, .cons h t => .cons h (DpAll.append b t)
mutual
/-- no dict in it, not too deep -/
def plainD : Nat → PyData → Bool
  | _, .none => true
  | _, .bool _ => true
  | _, .int _ => true
  | _, .str _ => true
  | 0, .list _ => false
  | 0, .tuple _ => false
  | n + 1, .list ds => decide (ds.length ≤ 100000) && plainDs n ds
  | n + 1, .tuple ds => decide (ds.length ≤ 100000) && plainDs n ds
  | _, .dict _ => false
def plainDs : Nat → List PyData → Bool
  | _, [] => true
  | n, d :: ds => plainD n d && plainDs n ds
end
theorem plainDs_get : ∀ {n : Nat} {ds : List PyData} {i : Nat} {d : PyData}, plainDs n ds = true → ds[i]? = some d → plainD n d = true
  | _, [], _, _, _, h => by simp at h
  | n, e :: r, 0, d, h, q => by
    simp at q
    subst q
    have h' : (plainD n e && plainDs n r) = true := by simpa [plainDs] using h
    exact (Bool.and_eq_true_iff.mp h').1
  | n, e :: r, i + 1, d, h, q => by
    have h' : (plainD n e && plainDs n r) = true := by simpa [plainDs] using h
    exact plainDs_get (i := i) (Bool.and_eq_true_iff.mp h').2 (by simpa using q)
theorem plainDs_all {n : Nat} : ∀ {ds : List PyData}, (∀ d ∈ ds, plainD n d = true) → plainDs n ds = true
  | [], _ => by simp [plainDs]
  | d :: r, h => by
    have h1 := h d (List.mem_cons_self ..)
    have h2 := plainDs_all (ds := r) fun e he => h e (List.mem_cons_of_mem _ he)
    simp [plainDs, h1, h2]
theorem Dp.boxlst {K : PySem.W.Frag} {H H' : Hp} {a : Addr} {xs : List V} (s : Same H H') (h : SqL K H a xs) : SqL K H' a xs := s.seq h
theorem Dp.boxtup {K : PySem.W.Frag} {H H' : Hp} {a : Addr} {xs : List V} (s : Same H H') (h : SqT K H a xs) : SqT K H' a xs := Same.seqT s h
/-- the kind of a value that stands for such data -/
theorem Dp.knw {K : PySem.W.Frag} {H : Hp} {v : V} {d : PyData} (h : Dp K H v d) : ∃ T, Knw K H v T := by
  cases h with
  | non => exact ⟨_, .non⟩
  | bl b => exact ⟨_, .bl b⟩
  | int i => exact ⟨_, .int i⟩
  | str x => exact ⟨_, .str x⟩
  | lst h _ => exact ⟨_, .lst h⟩
  | tup h _ => exact ⟨_, .tup h⟩
/-! ### ranges with a step, chunks -/
theorem rgc_chunks {n w : Nat} (h1 : 1 ≤ w) (h6 : w ≤ 6) (hn : n * w ≤ 100000) : RgC 0 ((n * w : Nat) : Int) (w : Int) n := by
  have c : w = 1 ∨ w = 2 ∨ w = 3 ∨ w = 4 ∨ w = 5 ∨ w = 6 := by omega
  have size : Builtin.Range.rangeSize 0 ((n * w : Nat) : Int) (w : Int) = (n : Int) := by
    unfold Builtin.Range.rangeSize
    rcases c with rfl | rfl | rfl | rfl | rfl | rfl <;> (rw [if_pos (by decide)]; split <;> omega)
  have fit : ∀ x : Int, -1000000 ≤ x → x ≤ 1000000 → Builtin.Range.rangeFitsLong x = true := fun x l u => by
    unfold Builtin.Range.rangeFitsLong
    rw [decide_eq_true (by omega : (-2 ^ 63 : Int) ≤ x), decide_eq_true (by omega : x < 2 ^ 63)]
    rfl
  have big : n ≤ n * w := Nat.le_mul_of_pos_right n (by omega)
  refine ⟨by omega, by omega, ?_, size⟩
  unfold Builtin.Range.small
  rw [size, if_pos (by omega : (w : Int) > 0), fit 0 (by omega) (by omega), fit ((n * w : Nat) : Int) (by omega) (by omega), fit (w : Int) (by omega) (by omega), fit (n : Int) (by omega) (by omega), fit (((n * w : Nat) : Int) + ((w : Int) - 1)) (by omega) (by omega), Bool.or_true]
  rfl
/-- a comprehension over a range with a step -/
theorem lc_rangeC {lo c : Int} {n : Nat} {g : TG} {tt : TT} {te : TE} {vs : List Nat} {σ : L2.St} {H1 : Hp} {D : Addr} {Qd : Hp → Prop} (Pv : Nat → Hp → Prop) (h0 : Pv 0 (upd H1 D (.lst [])))
    (hs : ∀ i H, i < n → Pv i H → g (.int (lo + (i : Nat) * c)) (wipe σ vs) H fun σ2 H2 => wipe σ2 vs = wipe σ vs ∧ tt σ2 H2 fun b H3 => if b = true then te σ2 H3 fun y H4 => ∃ acc, H4 D = some (.lst acc) ∧ acc.length < sizeLine ∧ Pv (i + 1) (upd H4 D (.lst (acc ++ [y]))) else Pv (i + 1) H3)
    (hd : ∀ H, Pv n H → Qd H) : ∃ W : Nat → Nat → Hp → Prop, (∃ m, W 0 m (upd H1 D (.lst []))) ∧ ∀ i m H, W i m H → ((Itc lo c n).stop i H ∧ Qd H) ∨ ((Itc lo c n).go i H ∧ ∃ Nx : Hp → Prop, (∀ H', Nx H' → ∃ m', m' < m ∧ W (i + 1) m' H') ∧
      ∀ x H', (Itc lo c n).yld i H x H' → g x (wipe σ vs) H' fun σ2 H2 => wipe σ2 vs = wipe σ vs ∧ tt σ2 H2 fun b H3 => if b = true then te σ2 H3 fun y H4 => ∃ acc, H4 D = some (.lst acc) ∧ acc.length < sizeLine ∧ Nx (upd H4 D (.lst (acc ++ [y]))) else Nx H3) := by
  refine ⟨fun i m H => m = n - i ∧ i ≤ n ∧ Pv i H, ⟨n, rfl, Nat.zero_le _, h0⟩, fun i m H hW => ?_⟩
  obtain ⟨e, hi, p⟩ := hW
  rcases Nat.lt_or_ge i n with hlt | hge
  · refine .inr ⟨hlt, Pv (i + 1), fun H' p' => ⟨n - (i + 1), by omega, rfl, hlt, p'⟩, fun x H' y => ?_⟩
    obtain ⟨y1, y2⟩ := y
    rw [y1, y2]
    exact hs i H hlt p
  · have q : i = n := by omega
    rw [q] at p
    exact .inl ⟨hge, hd H p⟩
/-- the i-th of the parts of w items -/
def part (w : Nat) (xs : List V) (i : Nat) : List V := (xs.drop (i * w)).take w
def parts (w : Nat) (xs : List V) (n : Nat) : List (List V) := (List.range n).map (part w xs)
theorem parts_take {w : Nat} {xs : List V} {n i : Nat} (h : i < n) : (parts w xs n).take (i + 1) = (parts w xs n).take i ++ [part w xs i] := by
  have e : (parts w xs n)[i]? = some (part w xs i) := by
    unfold parts
    rw [List.getElem?_map, List.getElem?_range h]
    rfl
  rw [List.take_add_one, e]
  rfl
theorem parts_len (w : Nat) (xs : List V) (n : Nat) : (parts w xs n).length = n := by simp [parts]
theorem cut_part {w : Nat} {xs : List V} {n i : Nat} (hx : xs.length = n * w) (hi : i < n) : cutV xs (some ((i * w : Nat) : Int)) (some ((i * w + w : Nat) : Int)) = part w xs i := by
  have h1 : i * w + w ≤ n * w := by
    have := Nat.mul_le_mul_right w (show i + 1 ≤ n from hi)
    rw [Nat.add_mul, Nat.one_mul] at this
    exact this
  unfold cutV part
  rw [show HT.sIx xs.length 0 (some ((i * w : Nat) : Int)) = min (i * w) xs.length from HT.sIx_nat _ _ _, show HT.sIx xs.length xs.length (some ((i * w + w : Nat) : Int)) = min (i * w + w) xs.length from HT.sIx_nat _ _ _]
  rw [show min (i * w) xs.length = i * w by omega, show min (i * w + w) xs.length = i * w + w by omega, Nat.add_sub_cancel_left]
/-- the whole of it is the one part -/
theorem whole_part {w : Nat} {xs : List V} {n i : Nat} (hx : xs.length = n * w) (hi : i < n) (h : HT.sIx xs.length 0 (some ((i * w : Nat) : Int)) = 0 ∧ HT.sIx xs.length xs.length (some ((i * w + w : Nat) : Int)) = xs.length) : part w xs i = xs := by
  rw [← cut_part hx hi]
  unfold cutV
  rw [h.1, h.2, List.drop_zero, Nat.sub_zero, List.take_length]
/-- values that are tuples -/
abbrev Tups (K : PySem.W.Frag) (H : Hp) : List V → List (List V) → Prop := Paired fun v c => ∃ a, v = V.ref a ∧ SqT K H a c
theorem Tups.same {K : PySem.W.Frag} {H H' : Hp} (s : Same H H') {vs : List V} {cs : List (List V)} (h : Tups K H vs cs) : Tups K H' vs cs := Paired.mapP h fun v c ⟨a, e, q⟩ => ⟨a, e, Same.seqT s q⟩
theorem Tups.snoc {K : PySem.W.Frag} {H : Hp} {a : Addr} {c : List V} (h : SqT K H a c) : ∀ {vs : List V} {cs : List (List V)}, Tups K H vs cs → Tups K H (vs ++ [V.ref a]) (cs ++ [c])
  | _, _, .nil => .cons ⟨a, rfl, h⟩ .nil
  | _, _, .cons q t => .cons q (Tups.snoc h t)
/-! ### a def, by its name -/
structure FnC (P : Program) (w : World) (K : PySem.W.Frag) (mg : Str → Option Value) (base : Heap) (CX : CXT) (k : Nat) (x : Str) (ps : List Str) (sp : Sp) : Prop where
  ex : ∃ (f : Addr) (fd : FuncData), FnOk P w K mg base CX k f fd ps sp ∧ mg x = some (.ref f) ∧ PySem.W.keepIn K (.ref f) = true ∧ Binds K fd ps []
section
variable {X : Cx} {CX : CXT} {k j : Nat} {x : Str} {ps : List Str} {sp : Sp} {e : Expr} {es : List Expr} {t : TA} {p pos : Pos}
theorem pe_f {E : XK} (c : FnC X.prog X.w X.K X.mg X.base CX k x ps sp) (hr : Room j X.A) (hk : k ≤ j) (hx : Passes CX X E) (ha : PA X (e :: es) t) (hg : Gl X x := by rfl) (hdb : (x == ("__debug__" : Str)) = false := by decide)
    (he : starEach (e :: es) X.env = (false, eval e X.env) :: starEach es X.env := by rfl) (hpl : (backTo pos (starEach es X.env)).any (·.1) = false := by rfl) : PE X (.Call (.Name x p) (e :: es) [] pos) (tCall sp [] E t) := by
  obtain ⟨f, fd, F, hm, hkp, hb⟩ := c.ex
  exact pe_call F (hr.mono hk) hg hm hkp hb .nil hx ha hdb he hpl
theorem pe_fS {E : L2.St → XK} (c : FnC X.prog X.w X.K X.mg X.base CX k x ps sp) (hr : Room j X.A) (hk : k ≤ j) (hx : ∀ σ, PassesAt CX X σ (E σ)) (ha : PA X (e :: es) t) (hg : Gl X x := by rfl) (hdb : (x == ("__debug__" : Str)) = false := by decide)
    (he : starEach (e :: es) X.env = (false, eval e X.env) :: starEach es X.env := by rfl) (hpl : (backTo pos (starEach es X.env)).any (·.1) = false := by rfl) : PE X (.Call (.Name x p) (e :: es) [] pos) (tCallS sp E t) := by
  obtain ⟨f, fd, F, hm, hkp, hb⟩ := c.ex
  exact pe_callS F (hr.mono hk) hg hm hkp hb hx ha hdb he hpl
end
end SL
namespace K02
open PySem PySem.Spec PyProof.Rows L2 SL
def topS (i : Nat) : Stmt := PySem.Challenge.pw_surelabels_k02_blocks.main.body.getD i (.Pass ⟨0, 0, 0, 0⟩)
abbrev s_LabelError : Stmt := topS 1
abbrev s_BadRow : Stmt := topS 2
abbrev s_BadNumber : Stmt := topS 3
abbrev s_is_whole : Stmt := topS 5
abbrev s_is_within : Stmt := topS 6
abbrev s_check_within : Stmt := topS 7
abbrev s_is_row : Stmt := topS 9
abbrev s_check_row : Stmt := topS 10
abbrev s_cell_number : Stmt := topS 11
abbrev s_blocks : Stmt := topS 12
abbrev s_law_pool : Stmt := topS 14
abbrev s_law_draw : Stmt := topS 15
abbrev s_law_same : Stmt := topS 16
abbrev s_law_row : Stmt := topS 17
abbrev s_law_asked : Stmt := topS 18
abbrev s_law : Stmt := topS 19
/-! ### what the top has written -/
structure MF (P : Program) (w : World) (K : PySem.W.Frag) (mg : Str → Option Value) (cR iR cN iN cL : Addr) : Prop where
  m_isinstance : mg "isinstance" = none
  m_int : mg "int" = none
  m_bool : mg "bool" = none
  m_str : mg "str" = none
  m_list : mg "list" = none
  m_tuple : mg "tuple" = none
  m_len : mg "len" = none
  m_all : mg "all" = none
  m_range : mg "range" = none
  x_BadRow : PySem.SLX.ExTxt K mg P w "BadRow" "part" "part" (fun v => ∃ (y : Str) (t : Tok), v = .str y t ∧ (reprText y).length ≤ 1000) cR iR
  x_BadNumber : PySem.SLX.ExTxt K mg P w "BadNumber" "part" "part" (fun v => ∃ (y : Str) (t : Tok), v = .str y t ∧ (reprText y).length ≤ 1000) cN iN
  g_BadRow : mg "BadRow" = some (.ref cR)
  g_BadNumber : mg "BadNumber" = some (.ref cN)
  g_LabelError : mg "LabelError" = some (.ref cL)
  e_RR : PySem.W.exmOne K (.ref cR) (.ref cR) = some true
  e_NR : PySem.W.exmOne K (.ref cN) (.ref cR) = some false
  e_NN : PySem.W.exmOne K (.ref cN) (.ref cN) = some true
section
variable {P : Program} {w : World} {K : PySem.W.Frag} {mg : Str → Option Value} {base : Heap} {cR iR cN iN cL : Addr} {f : Addr} {fd : FuncData}
/-! ### is_whole, is_within, check_within -/
def wholeV : V → Bool
  | .int _ => true
  | _ => false
def withinV (lo hi : Int) : V → Bool
  | .int i => decide (lo ≤ i) && decide (i ≤ hi)
  | _ => false
theorem whole_of {H : Hp} {x : V} {T : String} (h : Knw K H x T) : (decide (T = "int" ∨ T = "bool") && !decide (T = "bool")) = wholeV x := by
  cases h <;> rfl
theorem sc_is_whole : FnScope ["thing"] ["thing"] (defScope s_is_whole) := ⟨rfl, rfl, rfl, by decide +kernel, rfl, by decide +kernel, by decide +kernel⟩
def spWhole (K : PySem.W.Frag) : Sp := fun vs H Q _ => ∃ x T, vs = [x] ∧ Knw K H x T ∧ Q (.bl (wholeV x)) H
theorem ok_is_whole (M : MF P w K mg cR iR cN iN cL) (F : Fun K "is_whole" "is_whole" s_is_whole f fd) : FnOk P w K mg base CX0 1 f fd ["thing"] (spWhole K) := by
  refine F.ok sc_is_whole (fun vs H Q E h => ?_) (fun cdv A outer s H vs Q E hr h => ?_)
  · obtain ⟨x, T, rfl, _⟩ := h
    rfl
  · obtain ⟨x, T, rfl, hk, q⟩ := h
    refine ⟨_, (pss_one (ps_ret (pe_and (pe_callB call_isi (by rfl) M.m_isinstance (by decide +kernel) (pa_cons (pv 0) (pa_cons (pe_bltn (v := .ty "int") (by rfl) M.m_int (by decide +kernel) rfl) pa_nil))) (pe_one (pe_not (pe_callB call_isi (by rfl) M.m_isinstance (by decide +kernel) (pa_cons (pv 0) (pa_cons (pe_bltn (v := .ty "bool") (by rfl) M.m_bool (by decide +kernel) rfl) pa_nil)))))))), ?_⟩
    refine ⟨x, rfl, x, .ty "int", _, _, _, rfl, .ty _, hk.ty, kit_int hk.mem, _, rfl, ?_⟩
    have e := whole_of hk
    by_cases c : T = "int" ∨ T = "bool"
    · rw [decide_eq_true c]
      refine iteT ?_
      refine ⟨x, rfl, x, .ty "bool", _, _, _, rfl, .ty _, hk.ty, kit_bool hk.mem, _, rfl, ?_⟩
      rw [decide_eq_true c, Bool.true_and] at e
      rw [e]
      exact q
    · rw [decide_eq_false c]
      refine iteF ?_
      rw [decide_eq_false c, Bool.false_and] at e
      rw [e]
      exact q
theorem sc_is_within : FnScope ["thing", "low", "high"] ["thing", "low", "high"] (defScope s_is_within) := ⟨rfl, rfl, rfl, by decide +kernel, rfl, by decide +kernel, by decide +kernel⟩
def spWithin (K : PySem.W.Frag) : Sp := fun vs H Q _ => ∃ x lo hi T, vs = [x, .int lo, .int hi] ∧ Knw K H x T ∧ Q (.bl (withinV lo hi x)) H
theorem ok_is_within (F_is_whole : FnC P w K mg base CX0 1 "is_whole" ["thing"] (spWhole K)) (F : Fun K "is_within" "is_within" s_is_within f fd) : FnOk P w K mg base CX0 2 f fd ["thing", "low", "high"] (spWithin K) := by
  refine F.ok sc_is_within (fun vs H Q E h => ?_) (fun cdv A outer s H vs Q E hr h => ?_)
  · obtain ⟨x, lo, hi, T, rfl, _⟩ := h
    rfl
  · obtain ⟨x, lo, hi, T, rfl, hk, q⟩ := h
    refine ⟨_, (pss_one (ps_ret (pe_and (pe_f F_is_whole hr (by omega) pass0 (pa_cons (pv 0) pa_nil)) (pe_one (pe_chain op_le op_le (pv 1) (pv 0) (pv 2)))))), ?_⟩
    refine ⟨x, rfl, x, T, rfl, hk, _, rfl, ?_⟩
    cases x with
    | int i =>
      refine iteT ?_
      refine ⟨_, rfl, _, rfl, _, _, rfl, rfl, _, rfl, ?_⟩
      by_cases c : lo ≤ i
      · rw [decide_eq_true c]
        refine iteT ⟨_, rfl, _, _, rfl, rfl, ?_⟩
        have q' : Q (.bl (decide (lo ≤ i) && decide (i ≤ hi))) H := q
        rw [decide_eq_true c, Bool.true_and] at q'
        exact q'
      · rw [decide_eq_false c]
        refine iteF ?_
        have q' : Q (.bl (decide (lo ≤ i) && decide (i ≤ hi))) H := q
        rw [decide_eq_false c, Bool.false_and] at q'
        exact q'
    | _ => exact iteF q
theorem sc_check_within : FnScope ["thing", "low", "high", "part"] ["thing", "low", "high", "part"] (defScope s_check_within) := ⟨rfl, rfl, rfl, by decide +kernel, rfl, by decide +kernel, by decide +kernel⟩
def spCheckWithin (K : PySem.W.Frag) (cN : Addr) : Sp := fun vs H Q E => ∃ x lo hi part T, vs = [x, .int lo, .int hi, .str part] ∧ Knw K H x T ∧ (reprText part).length ≤ 1000 ∧ (withinV lo hi x = true → Q .non H) ∧
  (withinV lo hi x = false → ∀ d, H d = none → E (.ref cN) (some d) (upd H d (.xd [(("part" : Str), .str part)])))
theorem ok_check_within (M : MF P w K mg cR iR cN iN cL) (F_is_within : FnC P w K mg base CX0 2 "is_within" ["thing", "low", "high"] (spWithin K)) (F : Fun K "check_within" "check_within" s_check_within f fd) :
    FnOk P w K mg base (L2.CX P w) 4 f fd ["thing", "low", "high", "part"] (spCheckWithin K cN) := by
  refine F.okX sc_check_within (fun vs H Q E h => ?_) (fun cdv A outer s H vs Q E hr h => ?_)
  · obtain ⟨x, lo, hi, part, T, rfl, _⟩ := h
    rfl
  · obtain ⟨x, lo, hi, part, T, rfl, hk, hp, q1, q2⟩ := h
    refine ⟨_, (pss_one (ps_if (pt_not (pt_val (pe_f F_is_within hr (by omega) pass0 (pa_cons (pv 0) (pa_cons (pv 1) (pa_cons (pv 2) pa_nil))))))
      (pss_one (ps_raiseEx rfl M.x_BadNumber hr (takes_of rfl rfl rfl rfl) (pa_cons (pv 3) pa_nil))) pss_nil)), ?_⟩
    refine ⟨_, rfl, _, rfl, _, rfl, x, lo, hi, T, rfl, hk, _, rfl, ?_⟩
    cases c : withinV lo hi x with
    | true => exact iteF (q1 c)
    | false =>
      refine iteT ⟨_, rfl, _, rfl, fun u ru => ?_, fun d nd => q2 c d nd⟩
      obtain ⟨t, rfl⟩ := ru
      exact ⟨part, t, rfl, hp⟩
end

section
variable {P : Program} {w : World} {K : PySem.W.Frag} {mg : Str → Option Value} {base : Heap} {cR iR cN iN cL : Addr} {f : Addr} {fd : FuncData}
/-! ### is_row, check_row -/
inductive RowV (K : PySem.W.Frag) (H : Hp) : V → Bool → Prop
  | no {x : V} {T : String} (h : Knw K H x T) (n : T ≠ "tuple") : RowV K H x false
  | tup {a : Addr} {xs : List V} (h : SqT K H a xs) (k : ∀ y ∈ xs, ∃ T, Knw K H y T) (z : xs.length ≤ 100000) : RowV K H (.ref a) (xs.all (withinV 0 1))
theorem RowV.same {H H' : Hp} {x : V} {b : Bool} (s : Same H H') (r : RowV K H x b) : RowV K H' x b := by
  cases r with
  | no h n => exact .no (h.same s) n
  | tup h k z => exact .tup (Same.seqT s h) (fun y hy => let ⟨T, q⟩ := k y hy; ⟨T, q.same s⟩) z
theorem sc_is_row : FnScope ["thing", "cell"] ["thing"] (defScope s_is_row) := ⟨rfl, rfl, rfl, by decide +kernel, rfl, by decide +kernel, by decide +kernel⟩
def spRowQ (K : PySem.W.Frag) : Sp := fun vs H Q _ => ∃ x b, vs = [x] ∧ RowV K H x b ∧ ∀ H', Same H H' → Q (.bl b) H'
theorem ok_is_row (M : MF P w K mg cR iR cN iN cL) (F_is_within : FnC P w K mg base CX0 2 "is_within" ["thing", "low", "high"] (spWithin K)) (F : Fun K "is_row" "is_row" s_is_row f fd) : FnOk P w K mg base CX0 4 f fd ["thing"] (spRowQ K) := by
  refine F.ok sc_is_row (fun vs H Q E h => ?_) (fun cdv A outer s H vs Q E hr h => ?_)
  · obtain ⟨x, b, rfl, _⟩ := h
    rfl
  · obtain ⟨x, b, rfl, hb, q⟩ := h
    refine ⟨_, (pss_one (ps_ret (pe_and (pe_callB call_isi (by rfl) M.m_isinstance (by decide +kernel) (pa_cons (pv 0) (pa_cons (pe_bltn (v := .ty "tuple") (by rfl) M.m_tuple (by decide +kernel) rfl) pa_nil))) (pe_one (pe_callB (cr_all rfl) (by rfl) M.m_all (by decide +kernel) (pa_cons (pe_lc (own := [("cell", 1)]) (tt := tYes) rfl sc_is_row.nd (pi_tup (pv 0)) (blkOk_by (N := ["thing", "cell"]) (sc := defScope s_is_row) (by decide +kernel)) (fun _ _ _ _ _ => (pg_name (i := 1) sc_is_row.nd rfl (Or.inl rfl))) (fun _ _ _ _ _ => pts_nil) (fun _ _ _ _ _ => (pe_f F_is_within hr (by omega) pass0 (pa_cons (pv 1) (pa_cons pe_int (pa_cons pe_int pa_nil)))))) pa_nil)))))), ?_⟩
    cases hb with
    | @no _ T hk n =>
      refine ⟨x, rfl, x, .ty "tuple", _, _, _, rfl, .ty _, hk.ty, kit_tuple hk.mem, _, rfl, ?_⟩
      rw [decide_eq_false n]
      exact iteF (q H (Same.refl H))
    | @tup a xs h k z =>
      refine ⟨.ref a, rfl, .ref a, .ty "tuple", _, _, _, rfl, .ty _, (Knw.tup h).ty, kit_tuple (Knw.tup h).mem, _, rfl, ?_⟩
      refine iteT ⟨.ref a, rfl, a, rfl, ⟨xs, h⟩, fun D nD => ?_⟩
      refine lc_tup (K := K) (a := a) (xs := xs) (fun i H' => Same H H' ∧ H' D = some (.lst ((xs.take i).map fun v => V.bl (withinV 0 1 v)))) ⟨same_upd nD, upd_same⟩ (fun i H' _ p => Same.seqT p.1 h) (fun i y H' hy p => ?_) (fun H' p => ?_)
      · obtain ⟨T, hT⟩ := k y (List.mem_of_getElem? hy)
        refine ⟨rfl, lc_yes ⟨y, rfl, y, 0, 1, T, rfl, hT.same p.1, _, p.2, ?_, ?_⟩⟩
        · rw [List.length_map, List.length_take]
          exact lineN (Nat.le_trans (Nat.min_le_right _ _) z)
        · refine ⟨fun b o e => ?_, ?_⟩
          · rw [upd_ne (ne_of_none e nD)]
            exact p.1 _ _ e
          · rw [upd_same, List.take_add_one, hy, List.map_append]
            rfl
      · refine ⟨D, xs.map (withinV 0 1), rfl, SqL.of ?_, ?_⟩
        · rw [p.2, List.take_length, List.map_map]
          rfl
        · rw [List.all_map]
          exact q H' p.1
theorem sc_check_row : FnScope ["thing", "part"] ["thing", "part"] (defScope s_check_row) := ⟨rfl, rfl, rfl, by decide +kernel, rfl, by decide +kernel, by decide +kernel⟩
def spCheckRow (K : PySem.W.Frag) (cR : Addr) : Sp := fun vs H Q E => ∃ x b part, vs = [x, .str part] ∧ RowV K H x b ∧ (reprText part).length ≤ 1000 ∧ (b = true → ∀ H', Same H H' → Q .non H') ∧
  (b = false → ∀ H' d, Same H H' → H' d = none → E (.ref cR) (some d) (upd H' d (.xd [(("part" : Str), .str part)])))
theorem ok_check_row (M : MF P w K mg cR iR cN iN cL) (F_is_row : FnC P w K mg base CX0 4 "is_row" ["thing"] (spRowQ K)) (F : Fun K "check_row" "check_row" s_check_row f fd) : FnOk P w K mg base (L2.CX P w) 6 f fd ["thing", "part"] (spCheckRow K cR) := by
  refine F.okX sc_check_row (fun vs H Q E h => ?_) (fun cdv A outer s H vs Q E hr h => ?_)
  · obtain ⟨x, b, part, rfl, _⟩ := h
    rfl
  · obtain ⟨x, b, part, rfl, hb, hp, q1, q2⟩ := h
    refine ⟨_, (pss_one (ps_if (pt_not (pt_val (pe_f F_is_row hr (by omega) pass0 (pa_cons (pv 0) pa_nil))))
      (pss_one (ps_raiseEx rfl M.x_BadRow hr (takes_of rfl rfl rfl rfl) (pa_cons (pv 1) pa_nil))) pss_nil)), ?_⟩
    refine ⟨_, rfl, x, b, rfl, hb, fun H' s' => ⟨_, rfl, ?_⟩⟩
    cases b with
    | true => exact iteF (q1 rfl H' s')
    | false =>
      refine iteT ⟨_, rfl, _, rfl, fun u ru => ?_, fun d nd => q2 rfl H' d s' nd⟩
      obtain ⟨t, rfl⟩ := ru
      exact ⟨part, t, rfl, hp⟩
/-! ### cell_number -/
def numOf (ns : List Int) : Int := ns.foldl (fun n c => 2 * n + c) 0
theorem take_more {α : Type} : ∀ {l : List α} {i : Nat} {x : α}, l[i]? = some x → l.take (i + 1) = l.take i ++ [x] := fun {l i x} h => by rw [List.take_add_one, h]; rfl
theorem sc_cell_number : FnScope ["row", "number", "cell"] ["row"] (defScope s_cell_number) := ⟨rfl, rfl, rfl, by decide +kernel, rfl, by decide +kernel, by decide +kernel⟩
def spCellNumber (K : PySem.W.Frag) : Sp := fun vs H Q _ => ∃ a ns, vs = [.ref a] ∧ SqT K H a (ns.map V.int) ∧ Q (.int (numOf ns)) H
theorem ok_cell_number (F : Fun K "cell_number" "cell_number" s_cell_number f fd) : FnOk P w K mg base CX0 1 f fd ["row"] (spCellNumber K) := by
  refine F.ok sc_cell_number (fun vs H Q E h => ?_) (fun cdv A outer s H vs Q E hr h => ?_)
  · obtain ⟨a, ns, rfl, _⟩ := h
    rfl
  · obtain ⟨a, ns, rfl, hS, q⟩ := h
    refine ⟨_, (pss_cons (ps_set (i := 1) sc_cell_number.nd rfl (Or.inl rfl) pe_int)
      (pss_cons (ps_for PassesOwn.never rfl (pi_tup (pv 0)) (pg_name (i := 2) sc_cell_number.nd rfl (Or.inl rfl))
      (pss_one (ps_set (i := 1) sc_cell_number.nd rfl (Or.inl rfl) (pe_op op_add (pe_op op_mul pe_int (pv 1)) (pv 2)))))
      (pss_one (ps_ret (pv 1))))), ?_⟩
    refine ⟨_, rfl, a, rfl, ⟨_, hS⟩, for_tup (K := K) (a := a) (xs := ns.map V.int) (fun i σ H' => H' = H ∧ ∃ v, σ = [some (.ref a), some (.int (numOf (ns.take i))), v]) ⟨rfl, none, rfl⟩ (fun i σ H' _ p => by rw [p.1]; exact hS) ?_ ?_⟩
    · rintro i y σ H' hy ⟨rfl, v, rfl⟩
      rw [List.getElem?_map] at hy
      cases e : ns[i]? with
      | none =>
        rw [e] at hy
        cases hy
      | some c =>
        rw [e] at hy
        cases hy
        refine ⟨_, rfl, _, _, rfl, rfl, .inl ⟨by decide, by decide⟩, _, rfl, _, _, rfl, rfl, rfl, some (.int c), ?_⟩
        rw [take_more e]
        show [_, some (V.int (2 * numOf (ns.take i) + c)), _] = _
        unfold numOf
        rw [List.foldl_append]
        rfl
    · rintro σ H' ⟨rfl, v, rfl⟩
      rw [List.length_map, List.take_length]
      exact ⟨_, rfl, q⟩
end

section
variable {P : Program} {w : World} {K : PySem.W.Frag} {mg : Str → Option Value} {base : Heap} {cR iR cN iN cL : Addr} {f : Addr} {fd : FuncData}
/-! ### blocks -/
theorem sc_blocks : FnScope ["row", "width", "place"] ["row", "width"] (defScope s_blocks) := ⟨rfl, rfl, rfl, by decide +kernel, rfl, by decide +kernel, by decide +kernel⟩
def raised (c : Addr) (part : Str) (E : XK) (H : Hp) : Prop := ∀ H' d, Same H H' → H' d = none → E (.ref c) (some d) (upd H' d (.xd [(("part" : Str), .str part)]))
def spBlocks (K : PySem.W.Frag) (cR cN : Addr) : Sp := fun vs H Q E => ∃ x wv b T, vs = [x, wv] ∧ RowV K H x b ∧ Knw K H wv T ∧ (b = false → raised cR "row" E H) ∧ (b = true → withinV 1 6 wv = false → raised cN "width" E H) ∧
  (b = true → withinV 1 6 wv = true → ∃ (a : Addr) (xs : List V) (wd : Nat), x = .ref a ∧ wv = .int (wd : Int) ∧ SqT K H a xs ∧ xs.length ≤ 100000 ∧ ((xs.length : Int) % (wd : Int) ≠ 0 → raised cR "length" E H) ∧
    ∀ n, xs.length = n * wd → ∀ H' l ws, Same H H' → H l = none → H' l = some (.lst ws) → Tups K (off H' l) ws (parts wd xs n) → Q (.ref l) H')
theorem ok_blocks (M : MF P w K mg cR iR cN iN cL) (F_check_row : FnC P w K mg base (L2.CX P w) 6 "check_row" ["thing", "part"] (spCheckRow K cR)) (F_check_within : FnC P w K mg base (L2.CX P w) 4 "check_within" ["thing", "low", "high", "part"] (spCheckWithin K cN))
    (F : Fun K "blocks" "blocks" s_blocks f fd) : FnOk P w K mg base (L2.CX P w) 8 f fd ["row", "width"] (spBlocks K cR cN) := by
  refine F.okX sc_blocks (fun vs H Q E h => ?_) (fun cdv A outer s H vs Q E hr h => ?_)
  · obtain ⟨x, wv, b, T, rfl, _⟩ := h
    rfl
  · obtain ⟨x, wv, b, T, rfl, hb, hk, e1, e2, e3⟩ := h
    refine ⟨_, (pss_cons (ps_expr (pe_f F_check_row hr (by omega) (passes_call (takes_of rfl rfl rfl rfl) (fun _ _ _ _ h => h)) (pa_cons (pv 0) (pa_cons pe_str pa_nil))))
      (pss_cons (ps_expr (pe_f F_check_within hr (by omega) (passes_call (takes_of rfl rfl rfl rfl) (fun _ _ _ _ h => h)) (pa_cons (pv 1) (pa_cons pe_int (pa_cons pe_int (pa_cons pe_str pa_nil))))))
      (pss_cons (ps_if (pt_cmpR op_ne (pe_op op_mod (pe_callB call_len_seq (by rfl) M.m_len (by decide +kernel) (pa_cons (pv 0) pa_nil)) (pv 1)) pe_int (nomark _))
      (pss_one (ps_raiseEx rfl M.x_BadRow hr (takes_of rfl rfl rfl rfl) (pa_cons pe_str pa_nil))) pss_nil)
      (pss_one (ps_ret (pe_lc (own := [("place", 2)]) (tt := tYes) rfl sc_blocks.nd (pi_range3 (by rfl) M.m_range (pa_cons pe_int (pa_cons (pe_callB call_len_seq (by rfl) M.m_len (by decide +kernel) (pa_cons (pv 0) pa_nil)) (pa_cons (pv 1) pa_nil)))) (blkOk_by (N := ["row", "width", "place"]) (sc := defScope s_blocks) (by decide +kernel)) (fun _ _ _ _ _ => (pg_name (i := 2) sc_blocks.nd rfl (Or.inl rfl))) (fun _ _ _ _ _ => pts_nil) (fun _ _ _ _ _ => (pe_slice (sl_tupK K) (pv 0) (po_some (pv 2)) (po_some (pe_op op_add (pv 2) (pv 1))))))))))), ?_⟩
    refine ⟨x, rfl, x, b, _, rfl, hb, by decide +kernel, fun b1 H1 s1 => ?_, fun b0 H' d s' nd => e1 b0 H' d s' nd⟩
    refine ⟨wv, rfl, wv, 1, 6, _, T, rfl, hk.same s1, by decide +kernel, fun w1 => ?_, fun w0 d nd => e2 b1 w0 H1 d s1 nd⟩
    obtain ⟨a, xs, wn, rfl, rfl, h, z, e3, q⟩ := e3 b1 w1
    have w1' : (decide ((1 : Int) ≤ wn) && decide ((wn : Int) ≤ 6)) = true := w1
    rw [Bool.and_eq_true, decide_eq_true_eq, decide_eq_true_eq] at w1'
    obtain ⟨l1, l2⟩ := w1'
    have h1 := Same.seqT s1 h
    refine ⟨.ref a, rfl, a, xs, rfl, .inr h1, .int (wn : Int), rfl, _, _, rfl, rfl, by omega, rfl, _, rfl, ?_⟩
    by_cases c : (xs.length : Int) % (wn : Int) = 0
    · rw [show decide (V.int ((xs.length : Int) % (wn : Int)) = V.int 0) = true from decide_eq_true (by rw [c])]
      refine iteF ?_
      obtain ⟨n, hn⟩ : ∃ n : Nat, xs.length = n * wn := ⟨xs.length / wn, by
        have hc : xs.length % wn = 0 := by omega
        have := Nat.div_add_mod xs.length wn
        rw [hc, Nat.add_zero, Nat.mul_comm] at this
        exact this.symm⟩
      have hw1 : 1 ≤ wn := by omega
      have hw6 : wn ≤ 6 := by omega
      refine ⟨.ref a, rfl, a, xs, rfl, .inr h1, .int wn, rfl, 0, _, wn, n, rfl, ?_, fun D nD => ?_⟩
      · rw [hn]
        exact rgc_chunks hw1 hw6 (by omega)
      refine lc_rangeC (fun i H' => Same H1 H' ∧ ∃ ws, H' D = some (.lst ws) ∧ ws.length = i ∧ Tups K (off H' D) ws ((parts wn xs n).take i)) ⟨same_upd nD, [], upd_same, rfl, ?_⟩ (fun i H' hi p => ?_) (fun H' p => ?_)
      · exact .nil
      · obtain ⟨s2, ws, eD, lw, tw⟩ := p
        have h2 := Same.seqT s2 h1
        have ei : (0 : Int) + (i : Nat) * (wn : Int) = ((i * wn : Nat) : Int) := by rw [Int.zero_add, Int.natCast_mul]
        have ew : ((i * wn : Nat) : Int) + (wn : Int) = ((i * wn + wn : Nat) : Int) := by rw [Int.natCast_add]
        have hle : n ≤ n * wn := Nat.le_mul_of_pos_right n (by omega)
        refine ⟨rfl, lc_yes ⟨.ref a, rfl, _, rfl, _, rfl, _, rfl, _, rfl, _, _, rfl, rfl, _, rfl, a, xs, rfl, h2, fun hw => ?_, fun hw p np => ?_⟩⟩
        · rw [ei, ew] at hw
          refine ⟨ws, eD, ?_, ?_, ws ++ [.ref a], upd_same, ?_, ?_⟩
          · exact lineN (by omega)
          · exact fun b o e => by
              rw [upd_ne (ne_of_none e nD)]
              exact s2 _ _ e
          · rw [List.length_append, lw]
            rfl
          · rw [parts_take hi, whole_part hn hi hw]
            have sO : Same (off H' D) (off (upd H' D (.lst (ws ++ [.ref a]))) D) := off_upd
            exact Tups.snoc (Same.seqT sO (Same.seqT (off_of s2 nD) h1)) (tw.same sO)
        · rw [ei, ew]
          have nDp : D ≠ p := ne_of_none eD np
          have sP : Same H' (upd H' p (.tup (cutV xs (some ((i * wn : Nat) : Int)) (some ((i * wn + wn : Nat) : Int))))) := same_upd np
          refine ⟨ws, by rw [upd_ne nDp]; exact eD, ?_, ?_, ws ++ [.ref p], upd_same, ?_, ?_⟩
          · exact lineN (by omega)
          · exact fun b o e => by
              rw [upd_ne (ne_of_none e nD)]
              exact sP _ _ (s2 _ _ e)
          · rw [List.length_append, lw]
            rfl
          · rw [parts_take hi, cut_part hn hi]
            have sO : Same (off H' D) (off (upd (upd H' p (.tup (part wn xs i))) D (.lst (ws ++ [.ref p]))) D) := fun b o e => by
              have z := off_mono (p := D) (same_upd (o := .tup (part wn xs i)) np) b o e
              exact off_upd b o z
            refine Tups.snoc (SqT.of ?_) (tw.same sO)
            rw [off_ne nDp.symm, upd_ne nDp.symm, upd_same]
      · obtain ⟨s2, ws, eD, lw, tw⟩ := p
        rw [List.take_of_length_le (by rw [parts_len]; exact Nat.le_refl _)] at tw
        exact q n hn H' D ws (s1.trans s2) (s1.free nD) eD tw
    · rw [show decide (V.int ((xs.length : Int) % (wn : Int)) = V.int 0) = false from decide_eq_false fun z => c (V.int.inj z)]
      refine iteT ⟨_, rfl, fun u ru => ?_, fun d nd => e3 c H1 d s1 nd⟩
      obtain ⟨t, rfl⟩ := ru
      exact ⟨_, t, rfl, by decide +kernel⟩
end

section
variable {P : Program} {w : World} {K : PySem.W.Frag} {mg : Str → Option Value} {base : Heap} {cR iR cN iN cL : Addr} {f : Addr} {fd : FuncData}
/-! ### _law_pool, _law_draw, _law_row -/
/-- the pool at p, its numbers at q -/
def PoolAt (H : Hp) (p q : Addr) : Prop := ∃ (ms : List Int) (c u d e : Int), H p = some (.lst [.ref q, .int c, .int u, .int d, .int e]) ∧ H q = some (.lst (ms.map V.int)) ∧ p ≠ q ∧ 0 ≤ c ∧ 0 ≤ u ∧ 0 ≤ d ∧ 0 ≤ e ∧ e < 2147483629
theorem sc_law_pool : FnScope ["script", "seed", "value"] ["script"] (defScope s_law_pool) := ⟨rfl, rfl, rfl, by decide +kernel, rfl, by decide +kernel, by decide +kernel⟩
def spPool (K : PySem.W.Frag) : Sp := fun vs H Q _ => ∃ (a : Addr) (ns : List Int), vs = [.ref a] ∧ SqL K H a (ns.map V.int) ∧ ns.length ≤ 63 ∧ ∀ H' p q, Same H H' → H p = none → PoolAt H' p q → Q (.ref p) H'
theorem ok_law_pool (M : MF P w K mg cR iR cN iN cL) (F : Fun K "_law_pool" "_law_pool" s_law_pool f fd) : FnOk P w K mg base CX0 1 f fd ["script"] (spPool K) := by
  refine F.ok sc_law_pool (fun vs H Q E h => ?_) (fun cdv A outer s H vs Q E hr h => ?_)
  · obtain ⟨a, ns, rfl, _⟩ := h
    rfl
  · obtain ⟨a, ns, rfl, hS, hl, q⟩ := h
    refine ⟨_, (pss_cons (ps_set (i := 1) sc_law_pool.nd rfl (Or.inl rfl) pe_int)
      (pss_cons (ps_for PassesOwn.never rfl (pi_list (pe_slice sl_list (pv 0) po_none (po_some pe_int))) (pg_name (i := 2) sc_law_pool.nd rfl (Or.inl rfl))
      (pss_one (ps_set (i := 1) sc_law_pool.nd rfl (Or.inl rfl) (pe_op op_mod (pe_callTy call_int1 (by rfl) M.m_int (by decide +kernel) (pa_cons (pe_op op_add (pe_op op_add (pe_op op_mul (pv 1) pe_int) (pv 2)) pe_int) pa_nil)) pe_int))))
      (pss_one (ps_ret (pe_lst (pa_cons (pe_callTy call_list_of (by rfl) M.m_list (by decide +kernel) (pa_cons (pe_slice sl_list (pv 0) po_none (po_some pe_int)) pa_nil)) (pa_cons pe_int (pa_cons pe_int (pa_cons pe_int (pa_cons (pv 1) pa_nil)))))))))), ?_⟩
    have cut : cutV (ns.map V.int) none (some 63) = ns.map V.int := by
      unfold cutV
      rw [HT.sIx_none, show HT.sIx (ns.map V.int).length (ns.map V.int).length (some 63) = min 63 (ns.map V.int).length from HT.sIx_nat _ _ 63, List.drop_zero, Nat.sub_zero, List.length_map, Nat.min_eq_right hl, List.take_of_length_le (by rw [List.length_map]; exact Nat.le_refl _)]
    refine ⟨.ref a, rfl, 63, rfl, a, _, rfl, hS, fun c nc => ?_⟩
    rw [cut]
    have s1 : Same H (upd H c (.lst (ns.map V.int))) := same_upd nc
    refine ⟨c, rfl, ⟨_, SqL.of upd_same⟩, for_list (K := K) (a := c) (xs := ns.map V.int) (fun i σ H' => Same H H' ∧ H' c = some (.lst (ns.map V.int)) ∧ ∃ e v, σ = [some (.ref a), some (.int e), v] ∧ 0 ≤ e ∧ e < 2147483629) ⟨s1, upd_same, 31, none, rfl, by decide, by decide⟩ (fun i σ H' _ p => SqL.of p.2.1) ?_ ?_⟩
    · rintro i y σ H' hy ⟨s', ec, e, v, rfl, l1, l2⟩
      rw [List.getElem?_map] at hy
      cases en : ns[i]? with
      | none =>
        rw [en] at hy
        cases hy
      | some n =>
        rw [en] at hy
        cases hy
        refine ⟨_, rfl, _, _, rfl, rfl, .inr ⟨by decide, by decide⟩, _, rfl, _, _, rfl, rfl, _, _, rfl, rfl, .inl ⟨_, rfl, _, _, rfl, rfl, pos_i rfl, s', ec, _, _, rfl, Int.emod_nonneg _ (by decide), Int.emod_lt_of_pos _ (by decide)⟩⟩
    · rintro σ H' ⟨s', ec, e, v, rfl, l1, l2⟩
      have hS' := s'.seq hS
      refine ⟨.ref a, rfl, 63, rfl, a, _, rfl, hS', fun c2 nc2 => ?_⟩
      rw [cut]
      refine ⟨c2, _, rfl, .inl (SqL.of upd_same), fun l nl => ⟨_, rfl, few (n := 5) (by decide), fun p np => ?_⟩⟩
      have nlc : l ≠ c2 := fun z => by
        rw [z, upd_same] at nl
        cases nl
      have sl : Same H' (upd (upd H' c2 (.lst (ns.map V.int))) l (.lst (ns.map V.int))) := (same_upd nc2).trans (same_upd nl)
      have npl : p ≠ l := fun z => by
        rw [z, upd_same] at np
        cases np
      refine q _ p l (s'.trans (sl.trans (same_upd np))) ((s'.trans sl).free np) ⟨ns, 0, 0, 0, e, upd_same, ?_, npl, by decide, by decide, by decide, l1, l2⟩
      rw [upd_ne npl.symm, upd_same]
theorem sc_law_draw : FnScope ["pool", "many", "value", "digit", "mixed"] ["pool", "many"] (defScope s_law_draw) := ⟨rfl, rfl, rfl, by decide +kernel, rfl, by decide +kernel, by decide +kernel⟩
def spDraw : Sp := fun vs H Q _ => ∃ (p q : Addr) (m : Int), vs = [.ref p, .int m] ∧ PoolAt H p q ∧ 0 < m ∧ m < 1073741824 ∧ ∀ H' d, Same (off H p) (off H' p) → PoolAt H' p q → 0 ≤ d → d < m → Q (.int d) H'
theorem ok_law_draw (M : MF P w K mg cR iR cN iN cL) (F : Fun K "_law_draw" "_law_draw" s_law_draw f fd) : FnOk P w K mg base CX0 1 f fd ["pool", "many"] spDraw := by
  refine F.ok sc_law_draw (fun vs H Q E h => ?_) (fun cdv A outer s H vs Q E hr h => ?_)
  · obtain ⟨p, q, m, rfl, _⟩ := h
    rfl
  · obtain ⟨p, q, m, rfl, ⟨ms, c, u, d, e, hp, hq, npq, c0, u0, d0, e0, e1⟩, m0, m1, k⟩ := h
    refine ⟨_, (Evl.pss_cut (ps_asg (pe_op op_add (pe_ix ix_list (pv 0) pe_int (fun _ _ => rfl)) pe_int) (pg_sub (pv 0) pe_int set_list))
      (Evl.pss_cut (ps_if (PW.pt (pw_and (pt_cmpR op_eq (pe_ix ix_list (pv 0) pe_int (fun _ _ => rfl)) pe_int (nomark _)) (pw_and1 (pt_cmpR op_lt (pe_ix ix_list (pv 0) pe_int (fun _ _ => rfl)) (pe_callB call_len_seq (by rfl) M.m_len (by decide +kernel) (pa_cons (pe_ix ix_list (pv 0) pe_int (fun _ _ => rfl)) pa_nil)) (nomark _)))))
      (pss_cons (ps_set (i := 2) sc_law_draw.nd rfl (Or.inl rfl) (pe_ix ix_list (pe_ix ix_list (pv 0) pe_int (fun _ _ => rfl)) (pe_ix ix_list (pv 0) pe_int (fun _ _ => rfl)) (fun _ _ => rfl)))
      (pss_cons (ps_asg (pe_op op_add (pe_ix ix_list (pv 0) pe_int (fun _ _ => rfl)) pe_int) (pg_sub (pv 0) pe_int set_list))
      (pss_one (ps_if (pt_cmpR op_ge (pv 2) (pe_op op_pow pe_int pe_int) (nomark _))
      (pss_one (ps_asg (pv 2) (pg_sub (pv 0) pe_int set_list))) (pss_one (ps_asg (pe_op op_mod (pe_callTy call_int1 (by rfl) M.m_int (by decide +kernel) (pa_cons (pe_op op_add (pe_op op_add (pe_op op_mul (pe_ix ix_list (pv 0) pe_int (fun _ _ => rfl)) pe_int) (pv 2)) pe_int) pa_nil)) pe_int) (pg_sub (pv 0) pe_int set_list))))))) pss_nil)
      (pss_cons (ps_if (pt_cmpR op_gt (pe_ix ix_list (pv 0) pe_int (fun _ _ => rfl)) pe_int (nomark _))
      (pss_cons (ps_set (i := 3) sc_law_draw.nd rfl (Or.inl rfl) (pe_op op_mod (pe_callTy call_int1 (by rfl) M.m_int (by decide +kernel) (pa_cons (pe_ix ix_list (pv 0) pe_int (fun _ _ => rfl)) pa_nil)) (pv 1)))
      (pss_cons (ps_asg (pe_op op_fdiv (pe_ix ix_list (pv 0) pe_int (fun _ _ => rfl)) (pv 1)) (pg_sub (pv 0) pe_int set_list))
      (pss_one (ps_ret (pv 3))))) pss_nil)
      (Evl.pss_cut (ps_set (i := 4) sc_law_draw.nd rfl (Or.inl rfl) (pe_op op_mod (pe_callTy call_int1 (by rfl) M.m_int (by decide +kernel) (pa_cons (pe_op op_add (pe_op op_add (pe_op op_mul (pe_ix ix_list (pv 0) pe_int (fun _ _ => rfl)) pe_int) (pe_op op_mul (pe_ix ix_list (pv 0) pe_int (fun _ _ => rfl)) pe_int)) pe_int) pa_nil)) pe_int))
      (Evl.pss_cut (ps_set (i := 4) sc_law_draw.nd rfl (Or.inl rfl) (pe_op op_mod (pe_callTy call_int1 (by rfl) M.m_int (by decide +kernel) (pa_cons (pe_op op_mul (pv 4) (pe_op op_add (pe_op op_fdiv (pv 4) pe_int) pe_int)) pa_nil)) pe_int))
      (Evl.pss_cut (ps_set (i := 4) sc_law_draw.nd rfl (Or.inl rfl) (pe_op op_mod (pe_callTy call_int1 (by rfl) M.m_int (by decide +kernel) (pa_cons (pe_op op_mul (pv 4) (pe_op op_add (pe_op op_fdiv (pv 4) pe_int) pe_int)) pa_nil)) pe_int))
      (pss_one (ps_ret (pe_op op_mod (pe_callTy call_int1 (by rfl) M.m_int (by decide +kernel) (pa_cons (pe_op op_fdiv (pv 4) pe_int) pa_nil)) (pv 1)))))))))), ?_⟩
    -- pool[3] = pool[3] + 1
    refine ⟨fun σ H' => ∃ d', σ = [some (.ref p), some (.int m), none, none, none] ∧ H' = upd H p (.lst [.ref q, .int c, .int u, .int d', .int e]) ∧ 0 ≤ d',
      ⟨.ref p, rfl, p, _, 3, .int d, rfl, rfl, SqL.of hp, atI_nat (j := 3) rfl, _, _, rfl, rfl, .ref p, rfl, p, _, 3, 3, rfl, rfl, hp, rfl, d + 1, rfl, rfl, by omega⟩, ?_⟩
    rintro _ _ ⟨d', rfl, rfl, dd0⟩
    have h1 : (upd H p (.lst [.ref q, .int c, .int u, .int d', .int e])) p = some (.lst [.ref q, .int c, .int u, .int d', .int e]) := upd_same
    have h1q : (upd H p (.lst [.ref q, .int c, .int u, .int d', .int e])) q = some (.lst (ms.map V.int)) := by rw [upd_ne npq.symm]; exact hq
    have s1 : Same (off H p) (off (upd H p (.lst [.ref q, .int c, .int u, .int d', .int e])) p) := off_upd
    generalize upd H p (.lst [.ref q, .int c, .int u, .int d', .int e]) = H1 at h1 h1q s1 ⊢
    -- the next value of the script
    refine ⟨fun σ H' => ∃ v2 c' u' e', σ = [some (.ref p), some (.int m), v2, none, none] ∧ Same (off H p) (off H' p) ∧ H' p = some (.lst [.ref q, .int c', .int u', .int d', .int e']) ∧ H' q = some (.lst (ms.map V.int)) ∧ 0 ≤ c' ∧ 0 ≤ u' ∧ 0 ≤ e' ∧ e' < 2147483629, ?_, ?_⟩
    · refine ⟨.ref p, rfl, p, _, 2, .int u, rfl, rfl, SqL.of h1, atI_nat (j := 2) rfl, rfl, _, rfl, ite2 (fun cu => ?_) (fun cu => ite2 (fun z => nomatch z) fun _ => ⟨none, c, u, e, rfl, s1, h1, h1q, c0, u0, e0, e1⟩)⟩
      refine ⟨.ref p, rfl, p, _, 1, .int c, rfl, rfl, SqL.of h1, atI_nat (j := 1) rfl, .ref p, rfl, p, _, 0, .ref q, rfl, rfl, SqL.of h1, atI_nat (j := 0) rfl, q, _, rfl, .inl (SqL.of h1q), _, _, rfl, rfl, _, rfl, ite2 (fun cc => ?_) (fun cc => ⟨none, c, u, e, rfl, s1, h1, h1q, c0, u0, e0, e1⟩)⟩
      have cl : c < ((ms.map V.int).length : Int) := of_decide_eq_true cc
      obtain ⟨j, rfl⟩ : ∃ j : Nat, c = (j : Int) := ⟨c.toNat, by omega⟩
      have jl : j < ms.length := by
        rw [List.length_map] at cl
        omega
      have em : (ms.map V.int)[j]? = some (.int ms[j]) := by
        rw [List.getElem?_map, List.getElem?_eq_getElem jl]
        rfl
      refine ⟨.ref p, rfl, p, _, 0, .ref q, rfl, rfl, SqL.of h1, atI_nat (j := 0) rfl, .ref p, rfl, p, _, 1, .int j, rfl, rfl, SqL.of h1, atI_nat (j := 1) rfl, q, _, j, _, rfl, rfl, SqL.of h1q, atI_nat em, ?_⟩
      refine ⟨.ref p, rfl, p, _, 1, .int j, rfl, rfl, SqL.of h1, atI_nat (j := 1) rfl, _, _, rfl, rfl, .ref p, rfl, p, _, 1, 1, rfl, rfl, h1, rfl, ?_⟩
      have h2 : (upd H1 p (.lst [.ref q, .int ((j : Int) + 1), .int u, .int d', .int e])) p = some (.lst [.ref q, .int ((j : Int) + 1), .int u, .int d', .int e]) := upd_same
      have h2q : (upd H1 p (.lst [.ref q, .int ((j : Int) + 1), .int u, .int d', .int e])) q = some (.lst (ms.map V.int)) := by rw [upd_ne npq.symm]; exact h1q
      have s2 : Same (off H p) (off (upd H1 p (.lst [.ref q, .int ((j : Int) + 1), .int u, .int d', .int e])) p) := s1.trans off_upd
      refine ⟨_, rfl, _, _, rfl, rfl, ⟨by decide, by decide, by decide⟩, _, _, rfl, rfl, _, rfl, ite2 (fun cv => ?_) (fun cv => ?_)⟩
      · have v0 : (10 : Int) ^ (18 : Int).toNat ≤ ms[j] := of_decide_eq_true cv
        have p18 : (0 : Int) ≤ (10 : Int) ^ (18 : Int).toNat := by decide
        refine ⟨_, rfl, .ref p, rfl, p, _, 2, 2, rfl, rfl, h2, rfl, _, (j : Int) + 1, ms[j], e, rfl, s2.trans off_upd, upd_same, ?_, by omega, by omega, e0, e1⟩
        rw [upd_ne npq.symm]
        exact h2q
      · refine ⟨.ref p, rfl, p, _, 4, .int e, rfl, rfl, SqL.of h2, atI_nat (j := 4) rfl, _, _, rfl, rfl, .inr ⟨by decide, by decide⟩, _, rfl, _, _, rfl, rfl, _, _, rfl, rfl, .inl ⟨_, rfl, _, _, rfl, rfl, pos_i rfl, .ref p, rfl, p, _, 4, 4, rfl, rfl, h2, rfl, _, (j : Int) + 1, u, _, rfl, s2.trans off_upd, upd_same, ?_, by omega, u0, Int.emod_nonneg _ (by decide), Int.emod_lt_of_pos _ (by decide)⟩⟩
        rw [upd_ne npq.symm]
        exact h2q
    · rintro _ H2 ⟨v2, c', u', e', rfl, s2, h2, h2q, c1, u1, ee0, ee1⟩
      refine ⟨.ref p, rfl, p, _, 2, .int u', rfl, rfl, SqL.of h2, atI_nat (j := 2) rfl, _, _, rfl, rfl, _, rfl, ite2 (fun cu => ?_) (fun cu => ?_)⟩
      · refine ⟨.ref p, rfl, p, _, 2, .int u', rfl, rfl, SqL.of h2, atI_nat (j := 2) rfl, .inl ⟨_, rfl, _, rfl, _, _, rfl, rfl, m0, ?_⟩⟩
        refine ⟨.ref p, rfl, p, _, 2, .int u', rfl, rfl, SqL.of h2, atI_nat (j := 2) rfl, _, rfl, _, _, rfl, rfl, ⟨m0, m1⟩, .ref p, rfl, p, _, 2, 2, rfl, rfl, h2, rfl, ?_⟩
        refine ⟨_, rfl, k _ _ (s2.trans off_upd) ⟨ms, c', u' / m, d', e', upd_same, ?_, npq, c1, Int.ediv_nonneg u1 (by omega), dd0, ee0, ee1⟩ (Int.emod_nonneg _ (by omega)) (Int.emod_lt_of_pos _ m0)⟩
        rw [upd_ne npq.symm]
        exact h2q
      · refine ⟨fun σ H' => ∃ x, σ = [some (.ref p), some (.int m), v2, none, some (.int x)] ∧ H2 = H' ∧ 0 ≤ x ∧ x < 2147483647, ?_, ?_⟩
        · refine ⟨.ref p, rfl, p, _, 4, .int e', rfl, rfl, SqL.of h2, atI_nat (j := 4) rfl, _, _, rfl, rfl, .inr ⟨by decide, by decide⟩, .ref p, rfl, p, _, 3, .int d', rfl, rfl, SqL.of h2, atI_nat (j := 3) rfl, _, _, rfl, rfl, .inr ⟨by decide, by decide⟩, _, _, rfl, rfl, _, _, rfl, rfl, .inl ⟨_, rfl, _, _, rfl, rfl, pos_i rfl, ?_⟩⟩
          exact ⟨_, rfl, rfl, Int.emod_nonneg _ (by decide), Int.emod_lt_of_pos _ (by decide)⟩
        rintro _ _ ⟨x, rfl, rfl, x0, x1⟩
        refine ⟨fun σ H' => ∃ x, σ = [some (.ref p), some (.int m), v2, none, some (.int x)] ∧ H2 = H' ∧ 0 ≤ x ∧ x < 2147483647, ?_, ?_⟩
        · refine ⟨.int x, rfl, .int x, rfl, _, _, rfl, rfl, ⟨by decide, by decide⟩, _, _, rfl, rfl, _, _, rfl, rfl, .inl ⟨by omega, by omega⟩, .inl ⟨_, rfl, _, _, rfl, rfl, pos_i rfl, ?_⟩⟩
          exact ⟨_, rfl, rfl, Int.emod_nonneg _ (by decide), Int.emod_lt_of_pos _ (by decide)⟩
        rintro _ _ ⟨y, rfl, rfl, y0, y1⟩
        refine ⟨fun σ H' => ∃ x, σ = [some (.ref p), some (.int m), v2, none, some (.int x)] ∧ H2 = H', ?_, ?_⟩
        · exact ⟨.int y, rfl, .int y, rfl, _, _, rfl, rfl, ⟨by decide, by decide⟩, _, _, rfl, rfl, _, _, rfl, rfl, .inl ⟨by omega, by omega⟩, .inl ⟨_, rfl, _, _, rfl, rfl, pos_i rfl, _, rfl, rfl⟩⟩
        rintro _ _ ⟨z, rfl, rfl⟩
        refine ⟨.int z, rfl, _, _, rfl, rfl, ⟨by decide, by decide⟩, .inl ⟨_, rfl, _, rfl, _, _, rfl, rfl, m0, ?_⟩⟩
        exact k _ _ s2 ⟨ms, c', u', d', e', h2, h2q, npq, c1, u1, dd0, ee0, ee1⟩ (Int.emod_nonneg _ (by omega)) (Int.emod_lt_of_pos _ m0)
theorem PoolAt.same {H H' : Hp} {p q : Addr} (s : Same H H') (h : PoolAt H p q) : PoolAt H' p q := by
  obtain ⟨ms, c, u, d, e, h1, h2, r⟩ := h
  exact ⟨ms, c, u, d, e, s _ _ h1, s _ _ h2, r⟩
theorem PoolAt.put {H : Hp} {p q b : Addr} {o : HO} (hp : b ≠ p) (hq : b ≠ q) (h : PoolAt H p q) : PoolAt (upd H b o) p q := by
  obtain ⟨ms, c, u, d, e, h1, h2, r⟩ := h
  exact ⟨ms, c, u, d, e, by rw [upd_ne hp.symm]; exact h1, by rw [upd_ne hq.symm]; exact h2, r⟩
theorem PoolAt.at_p {H : Hp} {p q : Addr} (h : PoolAt H p q) {b : Addr} (n : H b = none) : b ≠ p ∧ b ≠ q := by
  obtain ⟨ms, c, u, d, e, h1, h2, r⟩ := h
  exact ⟨(ne_of_none h1 n).symm, (ne_of_none h2 n).symm⟩
theorem off_put2 {H H' : Hp} {p b : Addr} {o : HO} (s : Same (off H p) (off H' p)) (n : H b = none) : Same (off H p) (off (upd H' b o) p) := fun x u e => by
  have z := s x u e
  by_cases hx : x = p
  · rw [hx, off_at] at e
    cases e
  · rw [off_ne hx] at e z ⊢
    rw [upd_ne (ne_of_none e n)]
    exact z
def bits (ns : List Int) : Prop := ∀ c ∈ ns, c = 0 ∨ c = 1
theorem sc_law_row : FnScope ["pool", "length", "k"] ["pool", "length"] (defScope s_law_row) := ⟨rfl, rfl, rfl, by decide +kernel, rfl, by decide +kernel, by decide +kernel⟩
def spLRow : Sp := fun vs H Q _ => ∃ (p q : Addr) (n : Nat), vs = [.ref p, .int (n : Int)] ∧ PoolAt H p q ∧ n ≤ 100000 ∧ ∀ H' r ns, Same (off H p) (off H' p) → PoolAt H' p q → H r = none → H' r = some (.tup (ns.map V.int)) → ns.length = n → bits ns → Q (.ref r) H'
theorem ok_law_row (M : MF P w K mg cR iR cN iN cL) (F_law_draw : FnC P w K mg base CX0 1 "_law_draw" ["pool", "many"] spDraw) (F : Fun K "_law_row" "_law_row" s_law_row f fd) : FnOk P w K mg base CX0 3 f fd ["pool", "length"] spLRow := by
  refine F.ok sc_law_row (fun vs H Q E h => ?_) (fun cdv A outer s H vs Q E hr h => ?_)
  · obtain ⟨p, q, n, rfl, _⟩ := h
    rfl
  · obtain ⟨p, q, n, rfl, hP, hn, k⟩ := h
    refine ⟨_, (pss_one (ps_ret (pe_callTy call_tuple_of (by rfl) M.m_tuple (by decide +kernel) (pa_cons (pe_lc (own := [("k", 2)]) (tt := tYes) rfl sc_law_row.nd (pi_range1 (by rfl) M.m_range (pa_cons (pv 1) pa_nil)) (blkOk_by (N := ["pool", "length", "k"]) (sc := defScope s_law_row) (by decide +kernel)) (fun _ _ _ _ _ => (pg_name (i := 2) sc_law_row.nd rfl (Or.inl rfl))) (fun _ _ _ _ _ => pts_nil) (fun _ _ _ _ _ => (pe_f F_law_draw hr (by omega) pass0 (pa_cons (pv 0) (pa_cons pe_int pa_nil))))) pa_nil)))), ?_⟩
    refine ⟨_, rfl, (n : Int), rfl, by omega, by omega, fun D nD => ?_⟩
    obtain ⟨nDp, nDq⟩ := hP.at_p nD
    refine lc_range (lo := 0) (n := n) (fun i H' => Same (off H p) (off H' p) ∧ PoolAt H' p q ∧ ∃ ns : List Int, H' D = some (.lst (ns.map V.int)) ∧ ns.length = i ∧ bits ns) ⟨off_mono (same_upd nD), hP.same (same_upd nD), [], upd_same, rfl, fun _ z => nomatch z⟩ (fun i H' hi z => ?_) (fun H' z => ?_)
    · obtain ⟨s1, hP1, ns, eD, ln, hb⟩ := z
      refine ⟨rfl, lc_yes ⟨_, rfl, p, q, 2, rfl, hP1, by decide, by decide, fun H3 d s3 hP3 d0 d1 => ⟨ns.map V.int, ?_, ?_, ?_, hP3.put nDp nDq, ns ++ [d], ?_, ?_, ?_⟩⟩⟩
      · have z := s3 D _ (by rw [off_ne nDp]; exact eD)
        rw [off_ne nDp] at z
        exact z
      · rw [List.length_map]
        exact lineN (by omega)
      · exact off_put2 (s1.trans s3) nD
      · rw [upd_same, List.map_append]
        rfl
      · rw [List.length_append, ln]
        rfl
      · intro c hc
        rcases List.mem_append.mp hc with hc | hc
        · exact hb c hc
        · rw [List.mem_singleton] at hc
          omega
    · obtain ⟨s1, hP1, ns, eD, ln, hb⟩ := z
      refine ⟨D, _, rfl, .inl ⟨SqL.of eD, fun r nr => ?_⟩⟩
      obtain ⟨nrp, nrq⟩ := hP1.at_p nr
      have nrH : H r = none := by
        cases e : H r with
        | none => rfl
        | some o =>
          have z := s1 r o (by rw [off_ne nrp]; exact e)
          rw [off_ne nrp, nr] at z
          cases z
      exact k _ r ns (off_put2 s1 nrH) (hP1.put nrp nrq) nrH upd_same ln hb
end

section
variable {P : Program} {w : World} {K : PySem.W.Frag} {mg : Str → Option Value} {base : Heap} {cR iR cN iN cL : Addr} {f : Addr} {fd : FuncData}
/-! ### _law_same, of equal data -/
theorem sc_law_same : FnScope ["actual", "due", "k"] ["actual", "due"] (defScope s_law_same) := ⟨rfl, rfl, rfl, by decide +kernel, rfl, by decide +kernel, by decide +kernel⟩
def spSame (K : PySem.W.Frag) (n : Nat) : Sp := fun vs H Q _ => ∃ a b d, vs = [a, b] ∧ Dp K H a d ∧ Dp K H b d ∧ plainD n d = true ∧ ∀ H', Same H H' → Q (.bl true) H'
theorem seqIx {H : Hp} {a : Addr} {xs : List V} {i : Nat} {v : V} {Q : VK} (h : SqL K H a xs ∨ SqT K H a xs) (e : xs[i]? = some v) (q : Q v H) : rIx K (.ref a) (.int ((0 : Int) + (i : Nat))) H Q := by
  rw [Int.zero_add]
  rcases h with h | h
  · exact .inl ⟨a, xs, i, v, rfl, rfl, h, atI_nat e, q⟩
  · exact .inr (.inl ⟨a, xs, i, v, rfl, rfl, h, atI_nat e, q⟩)
theorem any_box {T : String} (h : T = "list" ∨ T = "tuple") : PySem.W.kitAny K (.type T) [.type "list", .type "tuple"] = some true := by
  rcases h with rfl | rfl
  · exact kitAny_cons (kit_list (by decide)) (fun z => by cases z) fun _ => rfl
  · exact kitAny_cons (kit_list (by decide)) (fun _ => kitAny_cons (kit_tuple (by decide)) (fun z => by cases z) fun _ => rfl) fun _ => rfl
theorem same_body (M : MF P w K mg cR iR cN iN cL) (F : Fun K "_law_same" "_law_same" s_law_same f fd) {n k : Nat} {spR : Sp} (F_law_same : FnC P w K mg base CX0 k "_law_same" ["actual", "due"] spR) (hs : ∀ m, n = m + 1 → spR = spSame K m) :
    FnOk P w K mg base CX0 (k + 2) f fd ["actual", "due"] (spSame K n) := by
  refine F.ok (k := k + 1) sc_law_same (fun vs H Q E h => ?_) (fun cdv A outer s H vs Q E hr h => ?_)
  · obtain ⟨a, b, d, rfl, _⟩ := h
    rfl
  · obtain ⟨a, b, d, rfl, h1, h2, hp, q⟩ := h
    refine ⟨_, (pss_cons (ps_if (pt_cmpR op_isN (pv 1) pe_non (nomark _))
      (pss_one (ps_ret (pe_cmpR op_isN (pv 0) pe_non (nomark _)))) pss_nil)
      (pss_cons (ps_if (PW.pt (pw_or (pt_val (pe_callB call_isi (by rfl) M.m_isinstance (by decide +kernel) (pa_cons (pv 1) (pa_cons (pe_bltn (v := .ty "bool") (by rfl) M.m_bool (by decide +kernel) rfl) pa_nil)))) (pw_or1 (pt_val (pe_callB call_isi (by rfl) M.m_isinstance (by decide +kernel) (pa_cons (pv 0) (pa_cons (pe_bltn (v := .ty "bool") (by rfl) M.m_bool (by decide +kernel) rfl) pa_nil)))))))
      (pss_one (ps_ret (pe_and (pe_callB call_isi (by rfl) M.m_isinstance (by decide +kernel) (pa_cons (pv 1) (pa_cons (pe_bltn (v := .ty "bool") (by rfl) M.m_bool (by decide +kernel) rfl) pa_nil))) (pe_and (pe_callB call_isi (by rfl) M.m_isinstance (by decide +kernel) (pa_cons (pv 0) (pa_cons (pe_bltn (v := .ty "bool") (by rfl) M.m_bool (by decide +kernel) rfl) pa_nil))) (pe_one (pe_cmpR op_eq (pv 0) (pv 1) (nomark _))))))) pss_nil)
      (pss_cons (ps_if (pt_val (pe_callB call_isi (by rfl) M.m_isinstance (by decide +kernel) (pa_cons (pv 1) (pa_cons (pe_bltn (v := .ty "int") (by rfl) M.m_int (by decide +kernel) rfl) pa_nil))))
      (pss_one (ps_ret (pe_and (pe_callB call_isi (by rfl) M.m_isinstance (by decide +kernel) (pa_cons (pv 0) (pa_cons (pe_bltn (v := .ty "int") (by rfl) M.m_int (by decide +kernel) rfl) pa_nil))) (pe_one (pe_cmpR op_eq (pv 0) (pv 1) (nomark _)))))) pss_nil)
      (pss_cons (ps_if (pt_val (pe_callB call_isi (by rfl) M.m_isinstance (by decide +kernel) (pa_cons (pv 1) (pa_cons (pe_bltn (v := .ty "str") (by rfl) M.m_str (by decide +kernel) rfl) pa_nil))))
      (pss_one (ps_ret (pe_and (pe_callB call_isi (by rfl) M.m_isinstance (by decide +kernel) (pa_cons (pv 0) (pa_cons (pe_bltn (v := .ty "str") (by rfl) M.m_str (by decide +kernel) rfl) pa_nil))) (pe_one (pe_cmpR op_eq (pv 0) (pv 1) (nomark _)))))) pss_nil)
      (pss_cons (ps_if (PW.pt (pw_or (pt_cmpR op_ne (pe_callB call_isi (by rfl) M.m_isinstance (by decide +kernel) (pa_cons (pv 1) (pa_cons (pe_bltn (v := .ty "list") (by rfl) M.m_list (by decide +kernel) rfl) pa_nil))) (pe_callB call_isi (by rfl) M.m_isinstance (by decide +kernel) (pa_cons (pv 0) (pa_cons (pe_bltn (v := .ty "list") (by rfl) M.m_list (by decide +kernel) rfl) pa_nil))) (nomark _)) (pw_or1 (pt_not (pt_val (pe_callB call_isiT (by rfl) M.m_isinstance (by decide +kernel) (pa_cons (pv 0) (pa_cons (pe_tup (pa_cons (pe_bltn (v := .ty "list") (by rfl) M.m_list (by decide +kernel) rfl) (pa_cons (pe_bltn (v := .ty "tuple") (by rfl) M.m_tuple (by decide +kernel) rfl) pa_nil))) pa_nil))))))))
      (pss_one (ps_ret pe_bl)) pss_nil)
      (pss_cons (ps_if (pt_cmpR op_ne (pe_callB call_len_seq (by rfl) M.m_len (by decide +kernel) (pa_cons (pv 0) pa_nil)) (pe_callB call_len_seq (by rfl) M.m_len (by decide +kernel) (pa_cons (pv 1) pa_nil)) (nomark _))
      (pss_one (ps_ret pe_bl)) pss_nil)
      (pss_one (ps_ret (pe_cmpR op_eq (pe_callB call_len_seq (by rfl) M.m_len (by decide +kernel) (pa_cons (pe_lc (own := [("k", 2)]) rfl sc_law_same.nd (pi_range1 (by rfl) M.m_range (pa_cons (pe_callB call_len_seq (by rfl) M.m_len (by decide +kernel) (pa_cons (pv 1) pa_nil)) pa_nil)) (blkOk_by (N := ["actual", "due", "k"]) (sc := defScope s_law_same) (by decide +kernel)) (fun _ _ _ _ _ => (pg_name (i := 2) sc_law_same.nd rfl (Or.inl rfl))) (fun _ _ _ _ _ => (pts_one (pt_not (pt_val (pe_f F_law_same hr (by omega) pass0 (pa_cons (pe_ix (ix_seqK K) (pv 0) (pv 2) (fun _ _ => rfl)) (pa_cons (pe_ix (ix_seqK K) (pv 1) (pv 2) (fun _ _ => rfl)) pa_nil))))))) (fun _ _ _ _ _ => (pv 2))) pa_nil)) pe_int (nomark _)))))))))), ?_⟩
    cases h1 with
    | non =>
      cases h2
      refine ⟨_, rfl, rfl, _, rfl, iteU rfl ⟨_, rfl, rfl, ?_⟩⟩
      rw [decide_eq_true rfl]
      exact q H (Same.refl H)
    | bl x =>
      cases h2
      have hk := Knw.bl (K := K) (H := H) x
      refine ⟨_, rfl, rfl, _, rfl, iteV (fun z => nomatch z) ?_⟩
      refine ⟨_, rfl, _, .ty "bool", _, _, _, rfl, .ty _, hk.ty, kit_bool hk.mem, _, rfl, iteU rfl (iteT ?_)⟩
      refine ⟨_, rfl, _, .ty "bool", _, _, _, rfl, .ty _, hk.ty, kit_bool hk.mem, _, rfl, iteU rfl ?_⟩
      refine ⟨_, rfl, _, .ty "bool", _, _, _, rfl, .ty _, hk.ty, kit_bool hk.mem, _, rfl, iteU rfl ?_⟩
      refine ⟨_, rfl, _, rfl, rfl, ?_⟩
      rw [decide_eq_true rfl]
      exact q H (Same.refl H)
    | int x =>
      cases h2
      have hk := Knw.int (K := K) (H := H) x
      refine ⟨_, rfl, rfl, _, rfl, iteV (fun z => nomatch z) ?_⟩
      refine ⟨_, rfl, _, .ty "bool", _, _, _, rfl, .ty _, hk.ty, kit_bool hk.mem, _, rfl, iteS rfl ?_⟩
      refine ⟨_, rfl, _, .ty "bool", _, _, _, rfl, .ty _, hk.ty, kit_bool hk.mem, _, rfl, iteS rfl ?_⟩
      refine ⟨_, rfl, _, .ty "int", _, _, _, rfl, .ty _, hk.ty, kit_int hk.mem, _, rfl, iteU (.inl rfl) ?_⟩
      refine ⟨_, rfl, _, .ty "int", _, _, _, rfl, .ty _, hk.ty, kit_int hk.mem, _, rfl, iteU (.inl rfl) ?_⟩
      refine ⟨_, rfl, _, rfl, rfl, ?_⟩
      rw [decide_eq_true rfl]
      exact q H (Same.refl H)
    | str x =>
      cases h2
      have hk := Knw.str (K := K) (H := H) x
      refine ⟨_, rfl, rfl, _, rfl, iteV (fun z => nomatch z) ?_⟩
      refine ⟨_, rfl, _, .ty "bool", _, _, _, rfl, .ty _, hk.ty, kit_bool hk.mem, _, rfl, iteS rfl ?_⟩
      refine ⟨_, rfl, _, .ty "bool", _, _, _, rfl, .ty _, hk.ty, kit_bool hk.mem, _, rfl, iteS rfl ?_⟩
      refine ⟨_, rfl, _, .ty "int", _, _, _, rfl, .ty _, hk.ty, kit_int hk.mem, _, rfl, iteW (by decide) ?_⟩
      refine ⟨_, rfl, _, .ty "str", _, _, _, rfl, .ty _, hk.ty, kit_str hk.mem, _, rfl, iteU rfl ?_⟩
      refine ⟨_, rfl, _, .ty "str", _, _, _, rfl, .ty _, hk.ty, kit_str hk.mem, _, rfl, iteU rfl ?_⟩
      refine ⟨_, rfl, _, rfl, rfl, ?_⟩
      rw [decide_eq_true rfl]
      exact q H (Same.refl H)
    | @lst x xs ds hx ax =>
      cases h2 with
      | @lst y ys es hy ay =>
        cases n with
        | zero => cases hp
        | succ n =>
          have hp' : (decide (ds.length ≤ 100000) && plainDs n ds) = true := hp
          rw [Bool.and_eq_true, decide_eq_true_eq] at hp'
          obtain ⟨hlen, hds⟩ := hp'
          obtain rfl := hs n rfl
          have k1 := Knw.lst hx
          have k2 := Knw.lst hy
          have lx := DpAll.length ax
          have ly := DpAll.length ay
          refine ⟨_, rfl, rfl, _, rfl, iteV (fun z => nomatch z) ?_⟩
          refine ⟨_, rfl, _, .ty "bool", _, _, _, rfl, .ty _, k2.ty, kit_bool k2.mem, _, rfl, iteS rfl ?_⟩
          refine ⟨_, rfl, _, .ty "bool", _, _, _, rfl, .ty _, k1.ty, kit_bool k1.mem, _, rfl, iteS rfl ?_⟩
          refine ⟨_, rfl, _, .ty "int", _, _, _, rfl, .ty _, k2.ty, kit_int k2.mem, _, rfl, iteW (by decide) ?_⟩
          refine ⟨_, rfl, _, .ty "str", _, _, _, rfl, .ty _, k2.ty, kit_str k2.mem, _, rfl, iteS rfl ?_⟩
          refine ⟨_, rfl, _, .ty "list", _, _, _, rfl, .ty _, k2.ty, kit_list k2.mem, _, rfl, _, .ty "list", _, _, _, rfl, .ty _, k1.ty, kit_list k1.mem, rfl, _, rfl, iteNS rfl ?_⟩
          refine ⟨_, rfl, few (n := 2) (by decide), fun p np => ?_⟩
          have s1 : Same H (upd H p (.tup [.ty "list", .ty "tuple"])) := same_upd np
          refine ⟨_, p, _, _, _, true, rfl, upd_same, .cons (.ty _) (.cons (.ty _) .nil), (k1.same s1).ty, any_box (by decide), _, rfl, iteF ?_⟩
          generalize upd H p (.tup [.ty "list", .ty "tuple"]) = H1 at s1 ⊢
          have bx : SqL K H1 x xs ∨ SqT K H1 x xs := .inl (Dp.boxlst s1 hx)
          have by' : SqL K H1 y ys ∨ SqT K H1 y ys := .inl (Dp.boxlst s1 hy)
          refine ⟨_, rfl, x, xs, rfl, bx, _, rfl, y, ys, rfl, by', rfl, _, rfl, iteNS (by rw [lx, ly]) ?_⟩
          refine ⟨_, rfl, y, ys, rfl, by', (ys.length : Int), rfl, by omega, by omega, fun D nD => ?_⟩
          refine lc_range (lo := 0) (n := ys.length) (fun i H' => Same H1 H' ∧ H' D = some (.lst [])) ⟨same_upd nD, upd_same⟩ (fun i H' hi p => ?_) (fun H' p => ?_)
          · obtain ⟨s2, eD⟩ := p
            have hd : ds[i]? = some ds[i] := List.getElem?_eq_getElem (by omega)
            obtain ⟨v, ev, dv⟩ := DpAll.get ax hd
            obtain ⟨u, eu, du⟩ := DpAll.get ay hd
            refine ⟨rfl, _, rfl, _, rfl, seqIx (bx.imp (fun z => s2.seq z) fun z => Same.seqT s2 z) ev ?_⟩
            refine ⟨_, rfl, _, rfl, seqIx (by'.imp (fun z => s2.seq z) fun z => Same.seqT s2 z) eu ?_⟩
            exact ⟨v, u, ds[i], rfl, Dp.same (s1.trans s2) dv, Dp.same (s1.trans s2) du, plainDs_get hds hd, fun H3 s3 => ⟨_, rfl, iteF ⟨s2.trans s3, s3 _ _ eD⟩⟩⟩
          · refine ⟨D, [], rfl, .inl (SqL.of p.2), rfl, ?_⟩
            rw [show decide (V.int ((([] : List V).length : Nat) : Int) = V.int 0) = true from decide_eq_true rfl]
            exact q H' (s1.trans p.1)
    | @tup x xs ds hx ax =>
      cases h2 with
      | @tup y ys es hy ay =>
        cases n with
        | zero => cases hp
        | succ n =>
          have hp' : (decide (ds.length ≤ 100000) && plainDs n ds) = true := hp
          rw [Bool.and_eq_true, decide_eq_true_eq] at hp'
          obtain ⟨hlen, hds⟩ := hp'
          obtain rfl := hs n rfl
          have k1 := Knw.tup hx
          have k2 := Knw.tup hy
          have lx := DpAll.length ax
          have ly := DpAll.length ay
          refine ⟨_, rfl, rfl, _, rfl, iteV (fun z => nomatch z) ?_⟩
          refine ⟨_, rfl, _, .ty "bool", _, _, _, rfl, .ty _, k2.ty, kit_bool k2.mem, _, rfl, iteS rfl ?_⟩
          refine ⟨_, rfl, _, .ty "bool", _, _, _, rfl, .ty _, k1.ty, kit_bool k1.mem, _, rfl, iteS rfl ?_⟩
          refine ⟨_, rfl, _, .ty "int", _, _, _, rfl, .ty _, k2.ty, kit_int k2.mem, _, rfl, iteW (by decide) ?_⟩
          refine ⟨_, rfl, _, .ty "str", _, _, _, rfl, .ty _, k2.ty, kit_str k2.mem, _, rfl, iteS rfl ?_⟩
          refine ⟨_, rfl, _, .ty "list", _, _, _, rfl, .ty _, k2.ty, kit_list k2.mem, _, rfl, _, .ty "list", _, _, _, rfl, .ty _, k1.ty, kit_list k1.mem, rfl, _, rfl, iteNS rfl ?_⟩
          refine ⟨_, rfl, few (n := 2) (by decide), fun p np => ?_⟩
          have s1 : Same H (upd H p (.tup [.ty "list", .ty "tuple"])) := same_upd np
          refine ⟨_, p, _, _, _, true, rfl, upd_same, .cons (.ty _) (.cons (.ty _) .nil), (k1.same s1).ty, any_box (by decide), _, rfl, iteF ?_⟩
          generalize upd H p (.tup [.ty "list", .ty "tuple"]) = H1 at s1 ⊢
          have bx : SqL K H1 x xs ∨ SqT K H1 x xs := .inr (Dp.boxtup s1 hx)
          have by' : SqL K H1 y ys ∨ SqT K H1 y ys := .inr (Dp.boxtup s1 hy)
          refine ⟨_, rfl, x, xs, rfl, bx, _, rfl, y, ys, rfl, by', rfl, _, rfl, iteNS (by rw [lx, ly]) ?_⟩
          refine ⟨_, rfl, y, ys, rfl, by', (ys.length : Int), rfl, by omega, by omega, fun D nD => ?_⟩
          refine lc_range (lo := 0) (n := ys.length) (fun i H' => Same H1 H' ∧ H' D = some (.lst [])) ⟨same_upd nD, upd_same⟩ (fun i H' hi p => ?_) (fun H' p => ?_)
          · obtain ⟨s2, eD⟩ := p
            have hd : ds[i]? = some ds[i] := List.getElem?_eq_getElem (by omega)
            obtain ⟨v, ev, dv⟩ := DpAll.get ax hd
            obtain ⟨u, eu, du⟩ := DpAll.get ay hd
            refine ⟨rfl, _, rfl, _, rfl, seqIx (bx.imp (fun z => s2.seq z) fun z => Same.seqT s2 z) ev ?_⟩
            refine ⟨_, rfl, _, rfl, seqIx (by'.imp (fun z => s2.seq z) fun z => Same.seqT s2 z) eu ?_⟩
            exact ⟨v, u, ds[i], rfl, Dp.same (s1.trans s2) dv, Dp.same (s1.trans s2) du, plainDs_get hds hd, fun H3 s3 => ⟨_, rfl, iteF ⟨s2.trans s3, s3 _ _ eD⟩⟩⟩
          · refine ⟨D, [], rfl, .inl (SqL.of p.2), rfl, ?_⟩
            rw [show decide (V.int ((([] : List V).length : Nat) : Int) = V.int 0) = true from decide_eq_true rfl]
            exact q H' (s1.trans p.1)
theorem ok_law_same (M : MF P w K mg cR iR cN iN cL) (F : Fun K "_law_same" "_law_same" s_law_same f fd) (gf : mg "_law_same" = some (.ref f)) (bf : Binds K fd ["actual", "due"] []) : ∀ n, FnOk P w K mg base CX0 (2 * n + 2) f fd ["actual", "due"] (spSame K n)
  | 0 => same_body M F (k := 0) (spR := fun _ _ _ _ => False) ⟨f, fd, ⟨fun _ _ _ _ z => z.elim, fun _ _ _ _ _ _ _ _ _ _ _ _ _ z => z.elim⟩, gf, F.kp, bf⟩ fun m e => nomatch e
  | n + 1 => same_body M F (k := 2 * n + 2) ⟨f, fd, ok_law_same M F gf bf n, gf, F.kp, bf⟩ fun m e => by
    cases e
    rfl
end

section
variable {P : Program} {w : World} {K : PySem.W.Frag} {mg : Str → Option Value} {base : Heap} {cR iR cN iN cL : Addr} {f : Addr} {fd : FuncData}
/-! ### _law_asked -/
theorem sc_law_asked : FnScope ["row", "width", "told", "e"] ["row", "width"] (defScope s_law_asked) := ⟨rfl, rfl, rfl, by decide +kernel, rfl, by decide +kernel, by decide +kernel⟩
def answers (vs : List V) (Q : VK) (H : Hp) : Prop := ∀ H' t, Same H H' → H t = none → H' t = some (.lst vs) → Q (.ref t) H'
def spAsked (K : PySem.W.Frag) : Sp := fun vs H Q _ => ∃ x wv b T, vs = [x, wv] ∧ RowV K H x b ∧ Knw K H wv T ∧ (b = false → answers [.str "row", .str "row"] Q H) ∧ (b = true → withinV 1 6 wv = false → answers [.str "number", .str "width"] Q H) ∧
  (b = true → withinV 1 6 wv = true → ∃ (a : Addr) (xs : List V) (wd : Nat), x = .ref a ∧ wv = .int (wd : Int) ∧ SqT K H a xs ∧ xs.length ≤ 100000 ∧ ((xs.length : Int) % (wd : Int) ≠ 0 → answers [.str "row", .str "length"] Q H) ∧
    ∀ n, xs.length = n * wd → ∀ H' t l ws, Same H H' → H t = none → H l = none → t ≠ l → H' t = some (.lst [.str "told", .ref l]) → H' l = some (.lst ws) → Tups K (off H' l) ws (parts wd xs n) → Q (.ref t) H')
theorem ok_law_asked (M : MF P w K mg cR iR cN iN cL) (F_blocks : FnC P w K mg base (L2.CX P w) 8 "blocks" ["row", "width"] (spBlocks K cR cN)) (F : Fun K "_law_asked" "_law_asked" s_law_asked f fd) : FnOk P w K mg base CX0 10 f fd ["row", "width"] (spAsked K) := by
  refine F.ok sc_law_asked (fun vs H Q E h => ?_) (fun cdv A outer s H vs Q E hr h => ?_)
  · obtain ⟨x, wv, b, T, rfl, _⟩ := h
    rfl
  · obtain ⟨x, wv, b, T, rfl, hb, hk, e1, e2, e3⟩ := h
    refine ⟨_, (pss_cons (ps_clauses rfl rfl sc_law_asked.nd takes0 (fun W pn xe tk _ => (pss_one (ps_set (i := 2) sc_law_asked.nd rfl (Or.inl rfl) (pe_lst (pa_cons pe_str (pa_cons (pe_fS F_blocks hr (by omega) (fun σ => passAt tk σ) (pa_cons (pv 0) (pa_cons (pv 1) pa_nil))) pa_nil))))))
      (ClausesOk.named (i := 3) rfl rfl ⟨rfl, by decide, .inl M.g_BadRow⟩ (fun a oe cls d pn hz hf => (pss_one (ps_set (i := 2) sc_law_asked.nd rfl (Or.inl rfl) (pe_lst (pa_cons pe_str (pa_cons (pe_exf M.x_BadRow hz hf (pv 3)) pa_nil)))))) (ClausesOk.named (i := 3) rfl rfl ⟨rfl, by decide, .inl M.g_BadNumber⟩ (fun a oe cls d pn hz hf => (pss_one (ps_set (i := 2) sc_law_asked.nd rfl (Or.inl rfl) (pe_lst (pa_cons pe_str (pa_cons (pe_exf M.x_BadNumber hz hf (pv 3)) pa_nil)))))) (ClausesOk.only ⟨rfl, by decide, .inl M.g_LabelError⟩ (fun a oe cls d pn hz hf => (pss_one (ps_set (i := 2) sc_law_asked.nd rfl (Or.inl rfl) (pe_lst (pa_cons pe_str pa_nil))))) ClausesOk.nil))))
      (pss_one (ps_ret (pv 2)))), ?_⟩
    refine ⟨x, rfl, wv, rfl, x, wv, b, T, rfl, hb, hk, ?_, ?_, ?_⟩
    · intro b0 H' d s' nd
      refine ⟨true, M.e_RR, fun _ ee na => ⟨.ref ee, rfl, rfl, rfl, d, _, rfl, upd_same, few (n := 2) (by decide), fun t nt => ⟨_, rfl, ?_⟩⟩, fun z => nomatch z⟩
      exact e1 b0 _ t (s'.trans ((same_upd nd).trans (same_upd nt))) ((s'.trans (same_upd nd)).free nt) upd_same
    · intro b1 w0 H' d s' nd
      refine ⟨false, M.e_NR, (fun z => nomatch z), fun _ => ⟨true, M.e_NN, fun _ ee na => ⟨.ref ee, rfl, rfl, rfl, d, _, rfl, upd_same, few (n := 2) (by decide), fun t nt => ⟨_, rfl, ?_⟩⟩, fun z => nomatch z⟩⟩
      exact e2 b1 w0 _ t (s'.trans ((same_upd nd).trans (same_upd nt))) ((s'.trans (same_upd nd)).free nt) upd_same
    · intro b1 w1
      obtain ⟨a, xs, wd, rfl, rfl, hS, z, e4, q⟩ := e3 b1 w1
      refine ⟨a, xs, wd, rfl, rfl, hS, z, fun c H' d s' nd => ?_, fun n hn H' l ws s' nl el tw => ?_⟩
      · refine ⟨true, M.e_RR, fun _ ee na => ⟨.ref ee, rfl, rfl, rfl, d, _, rfl, upd_same, few (n := 2) (by decide), fun t nt => ⟨_, rfl, ?_⟩⟩, fun z => nomatch z⟩
        exact e4 c _ t (s'.trans ((same_upd nd).trans (same_upd nt))) ((s'.trans (same_upd nd)).free nt) upd_same
      · refine ⟨few (n := 2) (by decide), fun t nt => ⟨_, rfl, ?_⟩⟩
        have ntl : t ≠ l := (ne_of_none el nt).symm
        refine q n hn _ t l ws (s'.trans (same_upd nt)) (s'.free nt) nl ntl upd_same ?_ (tw.same (off_mono (same_upd nt)))
        rw [upd_ne ntl.symm]
        exact el
end

section
variable {P : Program} {w : World} {K : PySem.W.Frag} {mg : Str → Option Value} {base : Heap} {cR iR cN iN cL : Addr} {f : Addr} {fd : FuncData}
/-! ### the law -/
def partI (w : Nat) (ns : List Int) (i : Nat) : List Int := (ns.drop (i * w)).take w
theorem part_int (w : Nat) (ns : List Int) (i : Nat) : SL.part w (ns.map V.int) i = (partI w ns i).map V.int := by
  unfold SL.part partI
  rw [List.map_take, List.map_drop]
theorem numOf_app (a b : List Int) : numOf (a ++ b) = numOf a * 2 ^ b.length + numOf b := by
  have key : ∀ (b : List Int) (n : Int), b.foldl (fun n c => 2 * n + c) n = n * 2 ^ b.length + b.foldl (fun n c => 2 * n + c) 0 := by
    intro b
    induction b with
    | nil => intro n; simp
    | cons c r ih =>
      intro n
      rw [List.foldl_cons, List.foldl_cons, ih (2 * n + c), ih (2 * 0 + c), List.length_cons]
      have e : (2 : Int) ^ (r.length + 1) = 2 * 2 ^ r.length := by rw [Int.pow_succ, Int.mul_comm]
      rw [e]
      generalize (2 : Int) ^ r.length = z
      generalize List.foldl (fun n c => 2 * n + c) 0 r = y
      rw [Int.add_mul, Int.mul_zero, Int.zero_add, Int.mul_comm 2 n, Int.mul_assoc n 2 z]
      omega
  unfold numOf
  rw [List.foldl_append]
  exact key b _
def partsD (w : Nat) (ns : List Int) (n : Nat) : PyData := .list ((List.range n).map fun i => .tuple ((partI w ns i).map PyData.int))
theorem tups_dp {H : Hp} {w : Nat} {ns : List Int} : ∀ {is : List Nat} {ws : List V}, Tups K H ws (is.map (SL.part w (ns.map V.int))) → DpAll K H ws (is.map fun i => .tuple ((partI w ns i).map PyData.int))
  | [], _, h => by
    cases h
    exact .nil
  | i :: r, _, h => by
    cases h with
    | cons h t =>
      obtain ⟨a, rfl, h⟩ := h
      refine .cons (.tup h ?_) (tups_dp t)
      rw [part_int]
      exact DpAll.ints _
theorem partsD_plain (w : Nat) (ns : List Int) (n : Nat) (hw : w ≤ 100000) (hn : n ≤ 100000) : plainD 2 (partsD w ns n) = true := by
  have h : plainDs 1 ((List.range n).map fun i => PyData.tuple ((partI w ns i).map PyData.int)) = true := plainDs_all fun d hd => by
    obtain ⟨i, _, rfl⟩ := List.mem_map.mp hd
    have h0 : plainDs 0 ((partI w ns i).map PyData.int) = true := plainDs_all fun d hd => by
      obtain ⟨c, _, rfl⟩ := List.mem_map.mp hd
      simp [plainD]
    have hl : ((partI w ns i).map PyData.int).length ≤ 100000 := by
      rw [List.length_map]
      unfold partI
      rw [List.length_take]
      omega
    show (decide (_ ≤ 100000) && plainDs 0 _) = true
    rw [decide_eq_true hl, h0]
    rfl
  have hl : ((List.range n).map fun i => PyData.tuple ((partI w ns i).map PyData.int)).length ≤ 100000 := by
    rw [List.length_map, List.length_range]
    exact hn
  show (decide (_ ≤ 100000) && plainDs 1 _) = true
  rw [decide_eq_true hl, h]
  rfl
theorem all_bits {ns : List Int} (h : bits ns) : (ns.map V.int).all (withinV 0 1) = true := by
  rw [List.all_eq_true]
  intro v hv
  obtain ⟨c, hc, rfl⟩ := List.mem_map.mp hv
  rcases h c hc with rfl | rfl <;> rfl
theorem row_of {H : Hp} {r : Addr} {ns : List Int} (h : SqT K H r (ns.map V.int)) (hb : bits ns) (z : ns.length ≤ 100000) : RowV K H (.ref r) true := by
  have q := RowV.tup (K := K) h (fun y hy => by
    obtain ⟨c, _, rfl⟩ := List.mem_map.mp hy
    exact ⟨_, .int c⟩) (by rw [List.length_map]; exact z)
  rw [all_bits hb] at q
  exact q
theorem same_put {H H' : Hp} {l : Addr} {o : HO} (s : Same H H') (n : H l = none) : Same H (upd H' l o) := fun b u e => by
  rw [upd_ne (ne_of_none e n)]
  exact s _ _ e
/-- what stands behind each statement: the pool, the row -/
def Ct (K : PySem.W.Frag) (p q r : Addr) (ns : List Int) (H : Hp) : Prop := PoolAt H p q ∧ SqT K (off H p) r (ns.map V.int)
theorem Ct.same {p q r : Addr} {ns : List Int} {H H' : Hp} (s : Same H H') (h : Ct K p q r ns H) : Ct K p q r ns H' := ⟨h.1.same s, Same.seqT (off_mono s) h.2⟩
theorem Ct.row {p q r : Addr} {ns : List Int} {H : Hp} (h : Ct K p q r ns H) : SqT K H r (ns.map V.int) := Same.seqT (off_same H p) h.2
theorem sc_law : FnScope ["script", "pool", "width", "many", "row", "due", "turn", "told", "joined", "total", "block", "wrong", "odd", "k"] ["script"] (defScope s_law) := ⟨rfl, rfl, rfl, by decide +kernel, rfl, by decide +kernel, by decide +kernel⟩
def spLaw (K : PySem.W.Frag) : Sp := fun vs H Q _ => ∃ (a : Addr) (ns : List Int), vs = [.ref a] ∧ SqL K H a (ns.map V.int) ∧ ns.length ≤ 63 ∧ ∀ H', Q (.bl true) H'
theorem ok_law (M : MF P w K mg cR iR cN iN cL) (F_law_pool : FnC P w K mg base CX0 1 "_law_pool" ["script"] (spPool K)) (F_law_draw : FnC P w K mg base CX0 1 "_law_draw" ["pool", "many"] spDraw) (F_law_row : FnC P w K mg base CX0 3 "_law_row" ["pool", "length"] spLRow)
    (F_law_asked : FnC P w K mg base CX0 10 "_law_asked" ["row", "width"] (spAsked K)) (F_law_same : FnC P w K mg base CX0 8 "_law_same" ["actual", "due"] (spSame K 3)) (F_blocks : FnC P w K mg base (L2.CX P w) 8 "blocks" ["row", "width"] (spBlocks K cR cN))
    (F_cell_number : FnC P w K mg base CX0 1 "cell_number" ["row"] (spCellNumber K)) (F : Fun K "law" "law" s_law f fd) : FnOk P w K mg base CX0 13 f fd ["script"] (spLaw K) := by
  refine F.ok (k := 12) sc_law (fun vs H Q E h => ?_) (fun cdv A outer s H vs Q E hr h => ?_)
  · obtain ⟨a, ns, rfl, _⟩ := h
    rfl
  · obtain ⟨a, ss, rfl, hS, hl, fin⟩ := h
    refine ⟨_, (Evl.pss_cut (ps_set (i := 1) sc_law.nd rfl (Or.inl rfl) (pe_f F_law_pool hr (by omega) pass0 (pa_cons (pv 0) pa_nil)))
      (Evl.pss_cut (ps_set (i := 2) sc_law.nd rfl (Or.inr rfl) (pe_op op_add pe_int (pe_f F_law_draw hr (by omega) pass0 (pa_cons (pv 1) (pa_cons pe_int pa_nil)))))
      (Evl.pss_cut (ps_set (i := 3) sc_law.nd rfl (Or.inl rfl) (pe_f F_law_draw hr (by omega) pass0 (pa_cons (pv 1) (pa_cons pe_int pa_nil))))
      (Evl.pss_cut (ps_set (i := 4) sc_law.nd rfl (Or.inr rfl) (pe_f F_law_row hr (by omega) pass0 (pa_cons (pv 1) (pa_cons (pe_op op_mul (pv 2) (pv 3)) pa_nil))))
      (Evl.pss_cut (ps_setLc (i := 5) (own := [("k", 13)]) (tt := tYes) rfl sc_law.nd rfl rfl (sw_true rfl rfl rfl (by decide +kernel)) (pi_range1 (by rfl) M.m_range (pa_cons (pv 3) pa_nil)) (blkOk_by (N := ["script", "pool", "width", "many", "row", "due", "turn", "told", "joined", "total", "block", "wrong", "odd", "k"]) (sc := defScope s_law) (by decide +kernel)) (fun _ _ _ _ _ => (pg_name (i := 13) sc_law.nd rfl (Or.inl rfl))) (fun _ _ _ _ _ => pts_nil) (fun _ _ _ _ _ => (pe_slice (sl_tupK K) (pv 4) (po_some (pe_op op_mul (pv 2) (pv 13))) (po_some (pe_op op_add (pe_op op_mul (pv 2) (pv 13)) (pv 2))))))
      (Evl.pss_cut (ps_for PassesOwn.never rfl (pi_range1 (by rfl) M.m_range (pa_cons pe_int pa_nil)) (pg_name (i := 6) sc_law.nd rfl (Or.inl rfl))
      (pss_cons (ps_set (i := 7) sc_law.nd rfl (Or.inl rfl) (pe_f F_law_asked hr (by omega) pass0 (pa_cons (pv 4) (pa_cons (pv 2) pa_nil))))
      (pss_cons (ps_if (pt_not (pt_val (pe_f F_law_same hr (by omega) pass0 (pa_cons (pv 7) (pa_cons (pe_lst (pa_cons pe_str (pa_cons (pv 5) pa_nil))) pa_nil)))))
      (pss_one (ps_ret pe_bl)) pss_nil)
      (pss_one (ps_expr (pe_bm PySem.F.plainAttrs_list PySem.F.slot_list_append PySem.F.type_list_append mt_append (pe_ix ix_list (pv 7) pe_int (fun _ _ => rfl)) (pa_cons (pe_tup pa_nil) pa_nil)))))))
      (Evl.pss_cut (ps_set (i := 8) sc_law.nd rfl (Or.inl rfl) (pe_tup pa_nil))
      (Evl.pss_cut (ps_set (i := 9) sc_law.nd rfl (Or.inl rfl) pe_int)
      (Evl.pss_cut (ps_for PassesOwn.never rfl (pi_list (pe_f F_blocks hr (by omega) passL (pa_cons (pv 4) (pa_cons (pv 2) pa_nil)))) (pg_name (i := 10) sc_law.nd rfl (Or.inl rfl))
      (Evl.pss_cut (ps_set (i := 8) sc_law.nd rfl (Or.inl rfl) (pe_op (op_catU K) (pv 8) (pv 10)))
      (pss_one (ps_set (i := 9) sc_law.nd rfl (Or.inl rfl) (pe_op op_add (pe_op op_mul (pv 9) (pe_ix ix_list (pe_lst (pa_cons pe_int (pa_cons pe_int (pa_cons pe_int (pa_cons pe_int (pa_cons pe_int (pa_cons pe_int pa_nil))))))) (pe_op op_sub (pv 2) pe_int) (fun _ _ => rfl))) (pe_f F_cell_number hr (by omega) pass0 (pa_cons (pv 10) pa_nil)))))))
      (Evl.pss_cut (ps_if (PW.pt (pw_or (pt_not (pt_val (pe_f F_law_same hr (by omega) pass0 (pa_cons (pv 8) (pa_cons (pv 4) pa_nil))))) (pw_or1 (pt_not (pt_val (pe_f F_law_same hr (by omega) pass0 (pa_cons (pv 9) (pa_cons (pe_f F_cell_number hr (by omega) pass0 (pa_cons (pv 4) pa_nil)) pa_nil))))))))
      (pss_one (ps_ret pe_bl)) pss_nil)
      (Evl.pss_cut (ps_set (i := 11) sc_law.nd rfl (Or.inl rfl) (pe_ix ix_list (pe_lst (pa_cons pe_non (pa_cons pe_int (pa_cons pe_str (pa_cons (pe_op op_cat (pe_callTy call_list_of (by rfl) M.m_list (by decide +kernel) (pa_cons (pv 4) pa_nil)) (pe_lst (pa_cons pe_int pa_nil))) (pa_cons pe_dnewK (pa_cons (pe_tup (pa_cons pe_int (pa_cons pe_int pa_nil))) (pa_cons (pe_tup (pa_cons pe_bl pa_nil)) (pa_cons (pe_tup (pa_cons (pe_tup (pa_cons pe_int pa_nil)) pa_nil)) pa_nil))))))))) (pe_f F_law_draw hr (by omega) pass0 (pa_cons (pv 1) (pa_cons pe_int pa_nil))) (fun _ _ => rfl)))
      (Evl.pss_cut (ps_set (i := 12) sc_law.nd rfl (Or.inl rfl) (pe_ix ix_list (pe_lst (pa_cons pe_int (pa_cons pe_int (pa_cons (pe_un un_neg pe_int) (pa_cons pe_non (pa_cons pe_bl (pa_cons pe_str (pa_cons (pe_tup (pa_cons pe_int pa_nil)) (pa_cons (pe_op op_pow pe_int pe_int) pa_nil))))))))) (pe_f F_law_draw hr (by omega) pass0 (pa_cons (pv 1) (pa_cons pe_int pa_nil))) (fun _ _ => rfl)))
      (Evl.pss_cut (ps_if (PW.pt (pw_or (pt_cmpR (op_neD hr.units) (pe_f F_law_asked hr (by omega) pass0 (pa_cons (pv 11) (pa_cons (pv 12) pa_nil))) (pe_lst (pa_cons pe_str (pa_cons pe_str pa_nil))) (nomark _)) (pw_or1 (pt_cmpR (op_neD hr.units) (pe_f F_law_asked hr (by omega) pass0 (pa_cons (pe_op (op_catU K) (pv 4) (pe_tup (pa_cons pe_int pa_nil))) (pa_cons (pv 12) pa_nil))) (pe_lst (pa_cons pe_str (pa_cons pe_str pa_nil))) (nomark _)))))
      (pss_one (ps_ret pe_bl)) pss_nil)
      (Evl.pss_cut (ps_if (PW.pt (pw_and (pt_cmpR op_gt (pv 2) pe_int (nomark _)) (pw_and1 (pt_cmpR (op_neD hr.units) (pe_f F_law_asked hr (by omega) pass0 (pa_cons (pe_op (op_catU K) (pv 4) (pe_tup (pa_cons pe_int pa_nil))) (pa_cons (pv 2) pa_nil))) (pe_lst (pa_cons pe_str (pa_cons pe_str pa_nil))) (nomark _)))))
      (pss_one (ps_ret pe_bl)) pss_nil)
      (pss_one (ps_ret (pe_or (pe_cmpR op_eq (pv 2) pe_int (nomark _)) (pe_one (pe_cmpR (op_eqD hr.units) (pe_f F_law_asked hr (by omega) pass0 (pa_cons (pe_op (op_catU K) (pv 4) (pe_tup (pa_cons pe_int pa_nil))) (pa_cons (pv 2) pa_nil))) (pe_lst (pa_cons pe_str (pa_cons pe_str pa_nil))) (nomark _)))))))))))))))))))), ?_⟩
    -- pool
    refine ⟨fun σ H' => ∃ p q, σ = [some (.ref a), some (.ref p), none, none, none, none, none, none, none, none, none, none, none, none] ∧ PoolAt H' p q, ⟨_, rfl, a, ss, rfl, hS, hl, fun H' p q s' np hP => ⟨p, q, rfl, hP⟩⟩, ?_⟩
    rintro _ H1 ⟨p, q, rfl, hP1⟩
    -- width
    refine ⟨fun σ H' => ∃ W : Nat, σ = [some (.ref a), some (.ref p), some (.int (W : Int)), none, none, none, none, none, none, none, none, none, none, none] ∧ PoolAt H' p q ∧ 1 ≤ W ∧ W ≤ 6, ?_, ?_⟩
    · refine ⟨_, rfl, p, q, 6, rfl, hP1, by decide, by decide, fun H' d s' hP d0 d1 => ⟨_, _, rfl, rfl, (1 + d).toNat, ?_, hP, by omega, by omega⟩⟩
      rw [show ((1 + d).toNat : Int) = 1 + d by omega]
      rfl
    rintro _ H2 ⟨W, rfl, hP2, W1, W6⟩
    -- many
    refine ⟨fun σ H' => ∃ N : Nat, σ = [some (.ref a), some (.ref p), some (.int (W : Int)), some (.int (N : Int)), none, none, none, none, none, none, none, none, none, none] ∧ PoolAt H' p q ∧ N ≤ 9, ?_, ?_⟩
    · refine ⟨_, rfl, p, q, 10, rfl, hP2, by decide, by decide, fun H' d s' hP d0 d1 => ⟨d.toNat, ?_, hP, by omega⟩⟩
      rw [show (d.toNat : Int) = d by omega]
      rfl
    rintro _ H3 ⟨N, rfl, hP3, N9⟩
    -- row
    have WN : N * W ≤ 54 := Nat.le_trans (Nat.mul_le_mul N9 W6) (by decide)
    refine ⟨fun σ H' => ∃ r ns, σ = [some (.ref a), some (.ref p), some (.int (W : Int)), some (.int (N : Int)), some (.ref r), none, none, none, none, none, none, none, none, none] ∧ Ct K p q r ns H' ∧ ns.length = N * W ∧ bits ns, ?_, ?_⟩
    · refine ⟨_, rfl, _, rfl, _, rfl, _, _, rfl, rfl, .inl ⟨by omega, by omega⟩, p, q, N * W, ?_, hP3, by omega, fun H' r ns s' hP nr er ln hb => ⟨r, ns, rfl, ⟨hP, ?_⟩, ln, hb⟩⟩
      · rw [Int.natCast_mul, Int.mul_comm]
        rfl
      · refine SqT.of ?_
        rw [off_ne (hP3.at_p nr).1]
        exact er
    rintro _ H4 ⟨r, ns, rfl, hC4, ln, hb⟩
    have lx : (ns.map V.int).length = N * W := by rw [List.length_map, ln]
    -- due
    refine ⟨fun σ H' => ∃ D, σ = [some (.ref a), some (.ref p), some (.int (W : Int)), some (.int (N : Int)), some (.ref r), some (.ref D), none, none, none, none, none, none, none, none] ∧ Ct K p q r ns H' ∧ Dp K H' (.ref D) (partsD W ns N), ?_, ?_⟩
    · refine ⟨_, rfl, (N : Int), rfl, by omega, by omega, fun D nD => ?_⟩
      refine lc_range (lo := 0) (n := N) (fun i H' => Same H4 H' ∧ ∃ ws, H' D = some (.lst ws) ∧ ws.length = i ∧ Tups K (off H' D) ws ((parts W (ns.map V.int) N).take i)) ⟨same_upd nD, [], upd_same, rfl, .nil⟩ (fun i H' hi z => ?_) (fun H' z => ?_)
      · obtain ⟨s2, ws, eD, lw, tw⟩ := z
        have hR := hC4.row
        have ei : (W : Int) * ((0 : Int) + (i : Nat)) = ((i * W : Nat) : Int) := by rw [Int.zero_add, Int.natCast_mul, Int.mul_comm]
        have ew : ((i * W : Nat) : Int) + (W : Int) = ((i * W + W : Nat) : Int) := by rw [Int.natCast_add]
        refine ⟨rfl, lc_yes ⟨.ref r, rfl, _, rfl, _, rfl, _, _, rfl, rfl, .inl ⟨by omega, by omega⟩, _, rfl, _, rfl, _, rfl, _, _, rfl, rfl, .inl ⟨by omega, by omega⟩, _, rfl, _, _, rfl, rfl, _, rfl, r, ns.map V.int, rfl, Same.seqT s2 hR, fun hw => ?_, fun hw b nb => ?_⟩⟩
        · rw [ei, ew] at hw
          refine ⟨ws, eD, lineN (by omega), same_put s2 nD, ws ++ [.ref r], upd_same, by rw [List.length_append, lw]; rfl, ?_⟩
          rw [parts_take hi, whole_part lx hi hw]
          have sO : Same (off H' D) (off (upd H' D (.lst (ws ++ [.ref r]))) D) := off_upd
          exact Tups.snoc (Same.seqT sO (Same.seqT (off_of s2 nD) hR)) (tw.same sO)
        · rw [ei, ew, cut_part lx hi]
          have nDb : D ≠ b := ne_of_none eD nb
          refine ⟨ws, by rw [upd_ne nDb]; exact eD, lineN (by omega), same_put (s2.trans (same_upd nb)) nD, ws ++ [.ref b], upd_same, by rw [List.length_append, lw]; rfl, ?_⟩
          rw [parts_take hi]
          have sO : Same (off H' D) (off (upd (upd H' b (.tup (SL.part W (ns.map V.int) i))) D (.lst (ws ++ [.ref b]))) D) := fun x o e => off_upd x o (off_mono (p := D) (same_upd (o := .tup (SL.part W (ns.map V.int) i)) nb) x o e)
          refine Tups.snoc (SqT.of ?_) (tw.same sO)
          rw [off_ne nDb.symm, upd_ne nDb.symm, upd_same]
      · obtain ⟨s2, ws, eD, lw, tw⟩ := z
        rw [List.take_of_length_le (by rw [parts_len]; exact Nat.le_refl _)] at tw
        exact ⟨D, rfl, hC4.same s2, .lst (SqL.of eD) (tups_dp (tw.same (off_same H' D)))⟩
    rintro _ H5 ⟨D, rfl, hC5, hD5⟩
    have hRV : ∀ H', Same H5 H' → RowV K H' (.ref r) true := fun H' s' => row_of (hC5.same s').row hb (by omega)
    have hmod : ((ns.map V.int).length : Int) % (W : Int) = 0 := by
      rw [lx, Int.natCast_mul]
      exact Int.mul_emod_left _ _
    have hW : withinV 1 6 (.int (W : Int)) = true := by
      show (decide ((1 : Int) ≤ W) && decide ((W : Int) ≤ 6)) = true
      rw [decide_eq_true (by omega), decide_eq_true (by omega)]
      rfl
    have pD : plainD 3 (.list [.str "told", partsD W ns N]) = true := by
      have e1 := partsD_plain W ns N (by omega) (by omega)
      show (decide (2 ≤ 100000) && plainDs 2 [.str "told", partsD W ns N]) = true
      rw [show plainDs 2 [.str "told", partsD W ns N] = true by simp [plainDs, plainD, e1]]
      rfl
    -- for turn in range(2)
    refine ⟨fun σ H' => ∃ v6 v7, σ = [some (.ref a), some (.ref p), some (.int (W : Int)), some (.int (N : Int)), some (.ref r), some (.ref D), v6, v7, none, none, none, none, none, none] ∧ Same H5 H', ?_, ?_⟩
    · refine ⟨2, rfl, by decide, by decide, for_range (lo := 0) (n := 2) (fun i σ H' => ∃ v6 v7, σ = [some (.ref a), some (.ref p), some (.int (W : Int)), some (.int (N : Int)), some (.ref r), some (.ref D), v6, v7, none, none, none, none, none, none] ∧ Same H5 H') ⟨none, none, rfl, Same.refl _⟩ ?_ (fun σ H' z => z)⟩
      rintro i _ H' hi ⟨v6, v7, rfl, s'⟩
      refine ⟨.ref r, rfl, .int (W : Int), rfl, .ref r, .int (W : Int), true, _, rfl, hRV H' s', .int _, (fun z => nomatch z), (fun _ z => by rw [hW] at z; cases z), fun _ _ => ⟨r, ns.map V.int, W, rfl, rfl, (hC5.same s').row, by omega, fun z => absurd hmod z, fun n hn H6 t l ws s6 nt nl ntl et el tw => ?_⟩⟩
      obtain rfl : n = N := Nat.eq_of_mul_eq_mul_right (by omega : 0 < W) (hn.symm.trans lx)
      have dl : Dp K H6 (.ref l) (partsD W ns n) := .lst (SqL.of el) (tups_dp (tw.same (off_same H6 l)))
      have dt : Dp K H6 (.ref t) (.list [.str "told", partsD W ns n]) := .lst (SqL.of et) (.cons (.str _) (.cons dl .nil))
      refine ⟨.ref t, rfl, .ref D, rfl, few (n := 2) (by decide), fun u nu => ?_⟩
      have su := same_upd (o := .lst [.str "told", .ref D]) nu
      refine ⟨_, _, _, rfl, Dp.same su dt, .lst (SqL.of upd_same) (.cons (.str _) (.cons (Dp.same (s'.trans (s6.trans su)) hD5) .nil)), pD, fun H7 s7 => ⟨_, rfl, iteF ?_⟩⟩
      have s67 := su.trans s7
      have nlw : ws.length ≤ 9 := by
        rw [Paired.length tw, parts_len]
        exact N9
      refine ⟨.ref t, rfl, t, _, 1, .ref l, rfl, rfl, SqL.of (s67 _ _ et), atI_nat (j := 1) rfl, .inl ⟨rfl, _, SqL.of (s67 _ _ el)⟩, few (n := 0) (by decide), fun e ne => ?_⟩
      have se := same_upd (o := .tup []) ne
      refine ⟨l, ws, _, rfl, rfl, se _ _ (s67 _ _ el), lineN (by omega), _, _, rfl, ?_⟩
      exact same_put (s'.trans (s6.trans (s67.trans se))) (s'.free nl)
    rintro _ H6 ⟨v6, v7, rfl, s6⟩
    have hC6 := hC5.same s6
    clear s6 hC5 hRV
    -- joined, total
    refine ⟨fun σ H' => ∃ j, σ = [some (.ref a), some (.ref p), some (.int (W : Int)), some (.int (N : Int)), some (.ref r), some (.ref D), v6, v7, some (.ref j), none, none, none, none, none] ∧ Ct K p q r ns H' ∧ SqT K H' j [], ⟨few (n := 0) (by decide), fun j nj => ⟨j, rfl, hC6.same (same_upd nj), SqT.of upd_same⟩⟩, ?_⟩
    rintro _ H7 ⟨j, rfl, hC7, hj⟩
    refine ⟨fun σ H' => σ = [some (.ref a), some (.ref p), some (.int (W : Int)), some (.int (N : Int)), some (.ref r), some (.ref D), v6, v7, some (.ref j), some (.int 0), none, none, none, none] ∧ Ct K p q r ns H' ∧ SqT K H' j [], ⟨rfl, hC7, hj⟩, ?_⟩
    rintro _ H8 ⟨rfl, hC8, hj8⟩
    clear hC7 hj
    -- for block in blocks(row, width)
    refine ⟨fun σ H' => ∃ v10 j, σ = [some (.ref a), some (.ref p), some (.int (W : Int)), some (.int (N : Int)), some (.ref r), some (.ref D), v6, v7, some (.ref j), some (.int (numOf ns)), v10, none, none, none] ∧ Ct K p q r ns H' ∧ SqT K H' j (ns.map V.int), ?_, ?_⟩
    · refine ⟨.ref r, rfl, .int (W : Int), rfl, .ref r, .int (W : Int), true, _, rfl, row_of hC8.row hb (by omega), .int _, (fun z => nomatch z), (fun _ z => by rw [hW] at z; cases z), fun _ _ => ⟨r, ns.map V.int, W, rfl, rfl, hC8.row, by omega, fun z => absurd hmod z, fun n hn H9 l ws s9 nl el tw => ?_⟩⟩
      obtain rfl : n = N := Nat.eq_of_mul_eq_mul_right (by omega : 0 < W) (hn.symm.trans lx)
      have lw : ws.length = n := by rw [Paired.length tw, parts_len]
      refine ⟨l, rfl, ⟨_, SqL.of el⟩, for_list (K := K) (a := l) (xs := ws) (fun i σ H' => ∃ v10 j, σ = [some (.ref a), some (.ref p), some (.int (W : Int)), some (.int (n : Int)), some (.ref r), some (.ref D), v6, v7, some (.ref j), some (.int (numOf (ns.take (i * W)))), v10, none, none, none] ∧ Same H9 H' ∧ SqT K H' j ((ns.take (i * W)).map V.int)) ⟨none, j, ?_, Same.refl _, ?_⟩ (fun i σ H' _ z => ?_) ?_ ?_⟩
      · rw [Nat.zero_mul]
        rfl
      · rw [Nat.zero_mul]
        exact Same.seqT s9 hj8
      · obtain ⟨v10, j, _, s', _⟩ := z
        exact SqL.of (s' _ _ el)
      · rintro i y _ H' hy ⟨v10, j, rfl, s', hj'⟩
        have hi : i < n := by
          have := (List.getElem?_eq_some_iff.mp hy).1
          omega
        have hle : i * W + W ≤ n * W := by
          have := Nat.mul_le_mul_right W (show i + 1 ≤ n from hi)
          rw [Nat.add_mul, Nat.one_mul] at this
          exact this
        obtain ⟨c, b, hc, rfl, hcb⟩ := Tups.get tw hy
        have ec : c = (partI W ns i).map V.int := by
          have q : (parts W (ns.map V.int) n)[i]? = some (SL.part W (ns.map V.int) i) := by
            unfold parts
            rw [List.getElem?_map, List.getElem?_range hi]
            rfl
          rw [q] at hc
          rw [← part_int]
          exact (Option.some.inj hc).symm
        subst ec
        have hb9 : SqT K H9 b ((partI W ns i).map V.int) := Same.seqT (off_same H9 l) hcb
        have lp : (partI W ns i).length = W := by
          unfold partI
          rw [List.length_take, List.length_drop, ln]
          omega
        have tk : ns.take ((i + 1) * W) = ns.take (i * W) ++ partI W ns i := by
          rw [Nat.add_mul, Nat.one_mul, List.take_add]
          rfl
        refine ⟨fun σ H2 => ∃ j, σ = [some (.ref a), some (.ref p), some (.int (W : Int)), some (.int (n : Int)), some (.ref r), some (.ref D), v6, v7, some (.ref j), some (.int (numOf (ns.take (i * W)))), some (.ref b), none, none, none] ∧ Same H9 H2 ∧ SqT K H2 j ((ns.take ((i + 1) * W)).map V.int), ?_, ?_⟩
        · refine ⟨.ref j, rfl, .ref b, rfl, j, b, _, _, rfl, rfl, hj', Same.seqT s' hb9, ?_, fun cc H2 s2 h2 => ⟨cc, rfl, s'.trans s2, ?_⟩⟩
          · rw [List.length_map, List.length_map, lp, List.length_take]
            omega
          · rw [tk, List.map_append]
            exact h2
        rintro _ H2 ⟨j2, rfl, s2, h2⟩
        have p2 : (0 : Int) < 2 ^ W ∧ (2 : Int) ^ W ≤ 64 ∧ atI [V.int 2, V.int 4, V.int 8, V.int 16, V.int 32, V.int 64] ((W : Int) - 1) = some (.int (2 ^ W)) := by
          have c6 : W = 1 ∨ W = 2 ∨ W = 3 ∨ W = 4 ∨ W = 5 ∨ W = 6 := by omega
          rcases c6 with rfl | rfl | rfl | rfl | rfl | rfl <;> exact ⟨by decide, by decide, rfl⟩
        refine ⟨_, rfl, few (n := 6) (by decide), fun m nm => ⟨_, rfl, _, _, rfl, rfl, m, _, (W : Int) - 1, _, rfl, rfl, SqL.of upd_same, p2.2.2, _, _, rfl, rfl, .inr ⟨by omega, by omega⟩, .ref b, rfl, b, partI W ns i, rfl, Same.seqT (s2.trans (same_upd nm)) hb9, _, _, rfl, rfl, some (.ref b), j2, ?_, s2.trans (same_upd nm), Same.seqT (same_upd nm) h2⟩⟩
        rw [tk, numOf_app, lp]
        rfl
      · rintro _ H' ⟨v10, j, rfl, s', hj'⟩
        rw [lw, List.take_of_length_le (by omega)] at hj'
        refine ⟨v10, j, ?_, hC8.same (s9.trans s'), hj'⟩
        rw [lw, List.take_of_length_le (by omega)]
    rintro _ H9 ⟨v10, j9, rfl, hC9, hj9⟩
    clear hC8 hj8
    have hln : ns.length ≤ 54 := by omega
    -- the sums agree
    have pT : plainD 3 (.tuple (ns.map PyData.int)) = true := by
      have h0 : plainDs 2 (ns.map PyData.int) = true := plainDs_all fun d hd => by
        obtain ⟨c, _, rfl⟩ := List.mem_map.mp hd
        simp [plainD]
      show (decide (_ ≤ 100000) && plainDs 2 _) = true
      rw [decide_eq_true (by rw [List.length_map]; omega), h0]
      rfl
    refine ⟨fun σ H' => ∃ v10, σ = [some (.ref a), some (.ref p), some (.int (W : Int)), some (.int (N : Int)), some (.ref r), some (.ref D), v6, v7, some (.ref j9), some (.int (numOf ns)), v10, none, none, none] ∧ Ct K p q r ns H', ?_, ?_⟩
    · refine ⟨.ref j9, rfl, .ref r, rfl, _, _, _, rfl, .tup hj9 (DpAll.ints ns), .tup hC9.row (DpAll.ints ns), pT, fun H' s' => ⟨_, rfl, iteF ?_⟩⟩
      refine ⟨_, rfl, .ref r, rfl, r, ns, rfl, (hC9.same s').row, _, _, _, rfl, .int _, .int _, by simp [plainD], fun H2 s2 => ⟨_, rfl, iteF ⟨v10, rfl, hC9.same (s'.trans s2)⟩⟩⟩
    clear hC9 hj9
    rintro _ H10 ⟨v10', rfl, hC10⟩
    -- wrong
    refine ⟨fun σ H' => ∃ v, σ = [some (.ref a), some (.ref p), some (.int (W : Int)), some (.int (N : Int)), some (.ref r), some (.ref D), v6, v7, some (.ref j9), some (.int (numOf ns)), v10', some v, none, none] ∧ Ct K p q r ns H' ∧ RowV K (off H' p) v false, ?_, ?_⟩
    · refine ⟨.ref r, rfl, r, _, rfl, .inr hC10.row, fun l1 n1 => ⟨few (n := 1) (by decide), fun l2 n2 => ⟨l1, l2, ns.map V.int, [.int 0], rfl, rfl, same_upd n2 _ _ upd_same, upd_same, Nat.le_of_lt (lineN (by rw [List.length_map]; show ns.length + 1 ≤ 100000; omega)), fun l3 n3 => fun dd nd => ⟨few (n := 2) (by decide), fun t1 m1 => ⟨few (n := 1) (by decide), fun t2 m2 => ⟨few (n := 1) (by decide), fun t30 m30 => ⟨few (n := 1) (by decide), fun t3 m3 => ⟨few (n := 8) (by decide), fun m nm => ?_⟩⟩⟩⟩⟩⟩⟩⟩
      have hP := hC10.1
      have q1 := hP.same (same_upd (o := .lst (ns.map V.int)) n1)
      have q2 := q1.same (same_upd (o := .lst [.int 0]) n2)
      have q3 := q2.same (same_upd (o := .lst (ns.map V.int ++ [.int 0])) n3)
      have q4 := q3.same (same_upd (o := .dK []) nd)
      have q5 := q4.same (same_upd (o := .tup [.int 0, .int 2]) m1)
      have q6 := q5.same (same_upd (o := .tup [.bl true]) m2)
      have q7 := q6.same (same_upd (o := .tup [.int 0]) m30)
      have q8 := q7.same (same_upd (o := .tup [.ref t30]) m3)
      have sA : Same H10 _ := (same_upd (o := .lst (ns.map V.int)) n1).trans ((same_upd (o := .lst [.int 0]) n2).trans (same_upd (o := .lst (ns.map V.int ++ [.int 0])) n3))
      have x3 := same_upd (o := .dK []) nd
      have x4 := x3.trans (same_upd (o := .tup [.int 0, .int 2]) m1)
      have x5 := (same_upd (o := .tup [.int 0, .int 2]) m1).trans (same_upd (o := .tup [.bl true]) m2)
      have x6 := (same_upd (o := .tup [.bl true]) m2).trans (same_upd (o := .tup [.int 0]) m30)
      have x7 := (same_upd (o := .tup [.int 0]) m30).trans (same_upd (o := .tup [.ref t30]) m3)
      have x8 := (same_upd (o := .tup [.ref t30]) m3).trans (same_upd (o := .lst [.non, .int 0, .str "01", .ref l3, .ref dd, .ref t1, .ref t2, .ref t3]) nm)
      have sB := sA.trans ((x4.trans x6).trans x8)
      have e3 := ((x4.trans x6).trans x8) l3 _ upd_same
      have e4 := ((same_upd (o := .tup [.int 0, .int 2]) m1).trans (x6.trans x8)) dd _ upd_same
      have e5 := (x6.trans x8) t1 _ upd_same
      have e6 := ((same_upd (o := .tup [.int 0]) m30).trans x8) t2 _ upd_same
      have e7 := x8 t30 _ upd_same
      have e8 := (same_upd (o := .lst [.non, .int 0, .str "01", .ref l3, .ref dd, .ref t1, .ref t2, .ref t3]) nm) t3 _ upd_same
      have f3 := (q2.at_p n3).1
      have f4 := (q3.at_p nd).1
      have f5 := (q4.at_p m1).1
      have f6 := (q5.at_p m2).1
      have f7 := (q6.at_p m30).1
      have f8 := (q7.at_p m3).1
      have fm := (q8.at_p nm).1
      have em : (upd (upd (upd (upd (upd (upd (upd (upd (upd H10 l1 (.lst (ns.map V.int))) l2 (.lst [.int 0])) l3 (.lst (ns.map V.int ++ [.int 0]))) dd (.dK [])) t1 (.tup [.int 0, .int 2])) t2 (.tup [.bl true])) t30 (.tup [.int 0])) t3 (.tup [.ref t30])) m (.lst [.non, .int 0, .str "01", .ref l3, .ref dd, .ref t1, .ref t2, .ref t3])) m = some (.lst [.non, .int 0, .str "01", .ref l3, .ref dd, .ref t1, .ref t2, .ref t3]) := upd_same
      have hC11 := hC10.same sB
      refine ⟨_, rfl, p, q, 8, rfl, hC11.1, by decide, by decide, fun H' d s' hP' d0 d1 => ?_⟩
      obtain ⟨v, hv, hr⟩ : ∃ v, atI [V.non, .int 0, .str "01", .ref l3, .ref dd, .ref t1, .ref t2, .ref t3] d = some v ∧ RowV K (off H' p) v false := by
        have g : ∀ {x : Addr} {o : HO}, x ≠ p → _ → off H' p x = some o := fun {x o} n e => s' x o (by rw [off_ne n]; exact e)
        have c8 : d = 0 ∨ d = 1 ∨ d = 2 ∨ d = 3 ∨ d = 4 ∨ d = 5 ∨ d = 6 ∨ d = 7 := by omega
        rcases c8 with rfl | rfl | rfl | rfl | rfl | rfl | rfl | rfl
        · exact ⟨_, rfl, .no .non (by decide)⟩
        · exact ⟨_, rfl, .no (.int 0) (by decide)⟩
        · exact ⟨_, rfl, .no (.str _) (by decide)⟩
        · exact ⟨_, rfl, .no (.lst (SqL.of (g f3 e3))) (by decide)⟩
        · exact ⟨_, rfl, .no (.dic (g f4 e4)) (by decide)⟩
        · exact ⟨_, rfl, RowV.tup (SqT.of (g f5 e5)) (fun y hy => by
            rcases List.mem_cons.mp hy with rfl | hy
            · exact ⟨_, .int 0⟩
            · rw [List.mem_singleton] at hy
              subst hy
              exact ⟨_, .int 2⟩) (by decide)⟩
        · exact ⟨_, rfl, RowV.tup (SqT.of (g f6 e6)) (fun y hy => by
            rw [List.mem_singleton] at hy
            subst hy
            exact ⟨_, .bl true⟩) (by decide)⟩
        · exact ⟨_, rfl, RowV.tup (SqT.of (g f8 e8)) (fun y hy => by
            rw [List.mem_singleton] at hy
            subst hy
            exact ⟨_, .tup (SqT.of (g f7 e7))⟩) (show 1 ≤ 100000 by decide)⟩
      exact ⟨m, _, d, v, rfl, rfl, SqL.of (off_get s' fm em), hv, v, rfl, ⟨hP', Same.seqT s' hC11.2⟩, hr⟩
    rintro _ H11 ⟨v11, rfl, hC11, hR11⟩
    clear hC10
    -- odd
    refine ⟨fun σ H' => ∃ v T, σ = [some (.ref a), some (.ref p), some (.int (W : Int)), some (.int (N : Int)), some (.ref r), some (.ref D), v6, v7, some (.ref j9), some (.int (numOf ns)), v10', some v11, some v, none] ∧ Ct K p q r ns H' ∧ RowV K (off H' p) v11 false ∧ Knw K (off H' p) v T ∧ withinV 1 6 v = false, ?_, ?_⟩
    · refine ⟨_, rfl, few (n := 1) (by decide), fun t1 m1 => ⟨_, _, rfl, rfl, ⟨by decide, by decide, by decide⟩, few (n := 8) (by decide), fun m nm => ?_⟩⟩
      have hP := hC11.1
      have q1 := hP.same (same_upd (o := .tup [.int 2]) m1)
      have sB := (same_upd (o := .tup [.int 2]) m1).trans (same_upd (o := .lst [.int 0, .int 7, .int (-1), .non, .bl true, .str "2", .ref t1, .int (10 ^ (20 : Int).toNat)]) nm)
      have e1 := (same_upd (o := .lst [.int 0, .int 7, .int (-1), .non, .bl true, .str "2", .ref t1, .int (10 ^ (20 : Int).toNat)]) nm) t1 _ upd_same
      have f1 := (hP.at_p m1).1
      have fm := (q1.at_p nm).1
      have em : (upd (upd H11 t1 (.tup [.int 2])) m (.lst [.int 0, .int 7, .int (-1), .non, .bl true, .str "2", .ref t1, .int (10 ^ (20 : Int).toNat)])) m = some (.lst [.int 0, .int 7, .int (-1), .non, .bl true, .str "2", .ref t1, .int (10 ^ (20 : Int).toNat)]) := upd_same
      have hC12 := hC11.same sB
      refine ⟨_, rfl, p, q, 8, rfl, hC12.1, by decide, by decide, fun H' d s' hP' d0 d1 => ?_⟩
      obtain ⟨v, T, hv, hk, hw⟩ : ∃ v T, atI [V.int 0, .int 7, .int (-1), .non, .bl true, .str "2", .ref t1, .int (10 ^ (20 : Int).toNat)] d = some v ∧ Knw K (off H' p) v T ∧ withinV 1 6 v = false := by
        have c8 : d = 0 ∨ d = 1 ∨ d = 2 ∨ d = 3 ∨ d = 4 ∨ d = 5 ∨ d = 6 ∨ d = 7 := by omega
        rcases c8 with rfl | rfl | rfl | rfl | rfl | rfl | rfl | rfl
        · exact ⟨_, _, rfl, .int _, rfl⟩
        · exact ⟨_, _, rfl, .int _, rfl⟩
        · exact ⟨_, _, rfl, .int _, rfl⟩
        · exact ⟨_, _, rfl, .non, rfl⟩
        · exact ⟨_, _, rfl, .bl _, rfl⟩
        · exact ⟨_, _, rfl, .str _, rfl⟩
        · exact ⟨_, _, rfl, .tup (SqT.of (s' t1 _ (by rw [off_ne f1]; exact e1))), rfl⟩
        · exact ⟨_, _, rfl, .int _, rfl⟩
      exact ⟨m, _, d, v, rfl, rfl, SqL.of (off_get s' fm em), hv, v, T, rfl, ⟨hP', Same.seqT s' hC12.2⟩, (hR11.same (off_mono sB)).same s', hk, hw⟩
    rintro _ H12 ⟨v12, T12, rfl, hC12, hR12, hk12, hw12⟩
    clear hC11 hR11
    have hR := hR12.same (off_same H12 p)
    have hK := hk12.same (off_same H12 p)
    have ns1 : ∀ c : Int, c = 0 ∨ c = 1 → bits (ns ++ [c]) := fun c hc x hx => by
      rcases List.mem_append.mp hx with hx | hx
      · exact hb x hx
      · rw [List.mem_singleton] at hx
        rw [hx]
        exact hc
    have lns1 : ∀ c : Int, (ns ++ [c]).length ≤ 100000 := fun c => by
      rw [List.length_append]
      show ns.length + 1 ≤ 100000
      omega
    have eR : PyData.eqv (.list [.str "row", .str "row"]) (.list [.str "row", .str "row"]) = true := by decide +kernel
    have eN : PyData.eqv (.list [.str "number", .str "width"]) (.list [.str "number", .str "width"]) = true := by decide +kernel
    have eL : PyData.eqv (.list [.str "row", .str "length"]) (.list [.str "row", .str "length"]) = true := by decide +kernel
    have zR : SeqAt.shaped (.list [.str "row", .str "row"]) = true := by decide +kernel
    have zN : SeqAt.shaped (.list [.str "number", .str "width"]) = true := by decide +kernel
    have zL : SeqAt.shaped (.list [.str "row", .str "length"]) = true := by decide +kernel
    have two : ∀ {H' : Hp} {t : Addr} {x y : Str}, H' t = some (.lst [.str x, .str y]) → Dp K H' (.ref t) (.list [.str x, .str y]) := fun e => .lst (SqL.of e) (.cons (.str _) (.cons (.str _) .nil))
    have cat : ∀ {H' : Hp} {c : Addr} {z : Int}, SqT K H' c (ns.map V.int ++ [V.int z]) → SqT K H' c ((ns ++ [z]).map V.int) := fun h => by
      rw [List.map_append]
      exact h
    have nomod : 1 < W → (((ns ++ [0]).map V.int).length : Int) % (W : Int) ≠ 0 := fun hw => by
      rw [List.length_map, List.length_append, ln, Int.natCast_add, Int.natCast_mul, Int.add_emod, Int.mul_emod_left, Int.zero_add, Int.emod_emod]
      show (1 : Int) % (W : Int) ≠ 0
      rw [Int.emod_eq_of_lt (by decide) (by omega)]
      decide
    have nomod1 : 1 < W → (((ns ++ [1]).map V.int).length : Int) % (W : Int) ≠ 0 := fun hw => by
      have e : ((ns ++ [1]).map V.int).length = ((ns ++ [0]).map V.int).length := by simp
      rw [e]
      exact nomod hw
    have nodiv : ∀ c : Int, 1 < W → ∀ n : Nat, ((ns ++ [c]).map V.int).length ≠ n * W := fun c hw n e => by
      have e2 : ((ns ++ [c]).map V.int).length = ((ns ++ [0]).map V.int).length := by simp
      rw [e2] at e
      refine nomod hw ?_
      rw [e, Int.natCast_mul]
      exact Int.mul_emod_left _ _
    -- the wrong ones
    refine ⟨fun σ H' => σ = [some (.ref a), some (.ref p), some (.int (W : Int)), some (.int (N : Int)), some (.ref r), some (.ref D), v6, v7, some (.ref j9), some (.int (numOf ns)), v10', some v11, some v12, none] ∧ Ct K p q r ns H', ?_, ?_⟩
    · refine ⟨v11, rfl, v12, rfl, v11, v12, false, _, rfl, hR, hK, (fun _ H' t s' nt et => ⟨few (n := 2) (by decide), fun u nu => ?_⟩), (fun z => nomatch z), fun z => nomatch z⟩
      refine ⟨_, _, two (same_upd nu _ _ et), two upd_same, zR, zR, _, rfl, ite2 (fun z => by rw [eR] at z; cases z) fun _ => ?_⟩
      have s2 := s'.trans (same_upd (o := .lst [.str "row", .str "row"]) nu)
      generalize upd H' u (.lst [.str "row", .str "row"]) = H13 at s2 ⊢
      have hC13 := hC12.same s2
      refine ⟨.ref r, rfl, few (n := 1) (by decide), fun t0 m0 => ⟨r, t0, _, _, rfl, rfl, (hC13.same (same_upd m0)).row, SqT.of upd_same, by rw [List.length_map]; show ns.length + 1 ≤ 100000; omega, fun c H14 s14 hc => ?_⟩⟩
      have s3 := (same_upd (o := .tup [.int 0]) m0).trans s14
      refine ⟨v12, rfl, .ref c, v12, true, _, rfl, row_of (cat hc) (ns1 0 (.inl rfl)) (lns1 0), hK.same (s2.trans s3), (fun z => nomatch z), (fun _ _ H' t s' nt et => ⟨few (n := 2) (by decide), fun u nu => ?_⟩), fun _ z => by rw [hw12] at z; cases z⟩
      exact ⟨_, _, two (same_upd nu _ _ et), two upd_same, zN, zN, _, rfl, ite2 (fun z => by rw [eN] at z; cases z) fun _ => ⟨rfl, hC13.same (s3.trans (s'.trans (same_upd nu)))⟩⟩
    rintro _ H13 ⟨rfl, hC13⟩
    clear hC12 hR12 hk12 hR hK
    refine ⟨fun σ H' => σ = [some (.ref a), some (.ref p), some (.int (W : Int)), some (.int (N : Int)), some (.ref r), some (.ref D), v6, v7, some (.ref j9), some (.int (numOf ns)), v10', some v11, some v12, none] ∧ Ct K p q r ns H', ?_, ?_⟩
    · refine ⟨_, rfl, _, _, rfl, rfl, _, rfl, ite2 (fun z => ?_) (fun _ => ite2 (fun z => nomatch z) fun _ => ⟨rfl, hC13⟩)⟩
      have hw : 1 < W := by
        have := of_decide_eq_true z
        omega
      refine ⟨.ref r, rfl, few (n := 1) (by decide), fun t0 m0 => ⟨r, t0, _, _, rfl, rfl, (hC13.same (same_upd m0)).row, SqT.of upd_same, by rw [List.length_map]; show ns.length + 1 ≤ 100000; omega, fun c H14 s14 hc => ?_⟩⟩
      have s3 := (same_upd (o := .tup [.int 0]) m0).trans s14
      refine ⟨_, rfl, .ref c, .int (W : Int), true, _, rfl, row_of (cat hc) (ns1 0 (.inl rfl)) (lns1 0), .int _, (fun z => nomatch z), (fun _ z => by rw [hW] at z; cases z), fun _ _ => ⟨c, _, W, rfl, rfl, cat hc, by rw [List.length_map]; exact lns1 0, fun _ H' t s' nt et => ⟨few (n := 2) (by decide), fun u nu => ?_⟩, fun n hn => absurd hn (nodiv 0 hw n)⟩⟩
      exact ⟨_, _, two (same_upd nu _ _ et), two upd_same, zL, zL, _, rfl, ite2 (fun z => by rw [eL] at z; cases z) fun _ => ⟨rfl, hC13.same (s3.trans (s'.trans (same_upd nu)))⟩⟩
    rintro _ H14 ⟨rfl, hC14⟩
    clear hC13
    refine ⟨_, rfl, rfl, _, rfl, ite2 (fun _ => fin _) fun z => ?_⟩
    have hw : 1 < W := by
      by_cases e : W = 1
      · exact absurd (decide_eq_true (by rw [e]; rfl)) z
      · omega
    refine ⟨.ref r, rfl, few (n := 1) (by decide), fun t0 m0 => ⟨r, t0, _, _, rfl, rfl, (hC14.same (same_upd m0)).row, SqT.of upd_same, by rw [List.length_map]; show ns.length + 1 ≤ 100000; omega, fun c H15 s15 hc => ?_⟩⟩
    refine ⟨_, rfl, .ref c, .int (W : Int), true, _, rfl, row_of (cat hc) (ns1 1 (.inr rfl)) (lns1 1), .int _, (fun z => nomatch z), (fun _ z => by rw [hW] at z; cases z), fun _ _ => ⟨c, _, W, rfl, rfl, cat hc, by rw [List.length_map]; exact lns1 1, fun _ H' t s' nt et => ⟨few (n := 2) (by decide), fun u nu => ?_⟩, fun n hn => absurd hn (nodiv 1 hw n)⟩⟩
    refine ⟨_, _, two (same_upd nu _ _ et), two upd_same, zL, zL, ?_⟩
    rw [eL]
    exact fin _
end

theorem exm_ref {K : PySem.W.Frag} {C D : Addr} {b : Bool} (h1 : PySem.W.subIn K (.ref D) (.type "BaseException") = some true) (h2 : PySem.W.isClsIn K D = true) (h3 : PySem.W.typeIn K (.ref D) = some (.type "type")) (h4 : PySem.W.subIn K (.ref C) (.ref D) = some b) : PySem.W.exmOne K (.ref C) (.ref D) = some b := by
  have h2a : (PySem.W.clsIn K D).isSome = true := h2
  unfold PySem.W.exmOne
  rw [h1]
  show (if (some true == some true) = true then (if ((PySem.W.clsIn K D).isSome && PySem.W.typeIn K (.ref D) == some (.type "type")) = true then PySem.W.subIn K (.ref C) (.ref D) else none) else none) = some b
  rw [h2a, h3]
  exact h4
theorem along_of {K : PySem.W.Frag} {C N : Addr} {nm q : Str} {bs bm : List Value} {sn : List Str} {sub : List Value} {ab : Bool} {col : Option Bool} {dd : Option Addr} {k0 k1 k2 k3 k5 : Option Value} {name : Str} {nw : String} {r : Option (Option Value)} (hC : K.lookup C = some (excClassObj nm q C N bs bm true sn sub ab col dd k0 k1 k2 k3 k5 nw)) (h : PySem.W.ks_superIn K C C name = r) : PySem.W.alongIn K name bm = r := by
  unfold PySem.W.ks_superIn PySem.W.clsIn at h
  rw [hC] at h
  rw [← h]
  simp [List.dropWhile_cons]
theorem all_mk {w : World} {K : PySem.W.Frag} {h : Heap} {mg : Str → Option Value} {fa cL : Addr} (X : K.In h) (G : h.Ns mainGlobals mg) (hfa : mg "law" = some (.ref fa))
    {cR iR cc_BadRow cd_BadRow : Addr} {nm_BadRow q_BadRow : Str} {N_BadRow : Addr} {bs_BadRow : List Value} {sn_BadRow : List Str} {sb_BadRow : List Value} {ab_BadRow : Bool} {co_BadRow : Option Bool} {dd_BadRow od_BadRow an_BadRow cl1_BadRow cl2_BadRow : Option Addr} {m0_BadRow m1_BadRow m2_BadRow m3_BadRow m5_BadRow : Option Value} {oc_BadRow kV_BadRow dc_BadRow pm_BadRow ct_BadRow c1_BadRow c2_BadRow : Value} {sl_BadRow s1_BadRow s2_BadRow : Array (Option Value)} {vs_BadRow : Array Value} {fl_BadRow : Str} {tf_BadRow : Tok}
    {cN iN cc_BadNumber cd_BadNumber : Addr} {nm_BadNumber q_BadNumber : Str} {N_BadNumber : Addr} {bs_BadNumber : List Value} {sn_BadNumber : List Str} {sb_BadNumber : List Value} {ab_BadNumber : Bool} {co_BadNumber : Option Bool} {dd_BadNumber od_BadNumber an_BadNumber cl1_BadNumber cl2_BadNumber : Option Addr} {m0_BadNumber m1_BadNumber m2_BadNumber m3_BadNumber m5_BadNumber : Option Value} {oc_BadNumber kV_BadNumber dc_BadNumber pm_BadNumber ct_BadNumber c1_BadNumber c2_BadNumber : Value} {sl_BadNumber s1_BadNumber s2_BadNumber : Array (Option Value)} {vs_BadNumber : Array Value} {fl_BadNumber : Str} {tf_BadNumber : Tok}
    {f_is_whole : Addr} {od_is_whole an_is_whole : Option Addr} {sl_is_whole : Array (Option Value)} {oc_is_whole kV_is_whole dc_is_whole pm_is_whole cd_is_whole ct_is_whole : Value}
    {f_is_within : Addr} {od_is_within an_is_within : Option Addr} {sl_is_within : Array (Option Value)} {oc_is_within kV_is_within dc_is_within pm_is_within cd_is_within ct_is_within : Value}
    {f_check_within : Addr} {od_check_within an_check_within : Option Addr} {sl_check_within : Array (Option Value)} {oc_check_within kV_check_within dc_check_within pm_check_within cd_check_within ct_check_within : Value}
    {f_is_row : Addr} {od_is_row an_is_row : Option Addr} {sl_is_row : Array (Option Value)} {oc_is_row kV_is_row dc_is_row pm_is_row cd_is_row ct_is_row : Value}
    {f_check_row : Addr} {od_check_row an_check_row : Option Addr} {sl_check_row : Array (Option Value)} {oc_check_row kV_check_row dc_check_row pm_check_row cd_check_row ct_check_row : Value}
    {f_cell_number : Addr} {od_cell_number an_cell_number : Option Addr} {sl_cell_number : Array (Option Value)} {oc_cell_number kV_cell_number dc_cell_number pm_cell_number cd_cell_number ct_cell_number : Value}
    {f_blocks : Addr} {od_blocks an_blocks : Option Addr} {sl_blocks : Array (Option Value)} {oc_blocks kV_blocks dc_blocks pm_blocks cd_blocks ct_blocks : Value}
    {f_law_pool : Addr} {od_law_pool an_law_pool : Option Addr} {sl_law_pool : Array (Option Value)} {oc_law_pool kV_law_pool dc_law_pool pm_law_pool cd_law_pool ct_law_pool : Value}
    {f_law_draw : Addr} {od_law_draw an_law_draw : Option Addr} {sl_law_draw : Array (Option Value)} {oc_law_draw kV_law_draw dc_law_draw pm_law_draw cd_law_draw ct_law_draw : Value}
    {f_law_same : Addr} {od_law_same an_law_same : Option Addr} {sl_law_same : Array (Option Value)} {oc_law_same kV_law_same dc_law_same pm_law_same cd_law_same ct_law_same : Value}
    {f_law_row : Addr} {od_law_row an_law_row : Option Addr} {sl_law_row : Array (Option Value)} {oc_law_row kV_law_row dc_law_row pm_law_row cd_law_row ct_law_row : Value}
    {f_law_asked : Addr} {od_law_asked an_law_asked : Option Addr} {sl_law_asked : Array (Option Value)} {oc_law_asked kV_law_asked dc_law_asked pm_law_asked cd_law_asked ct_law_asked : Value}
    {f_law : Addr} {od_law an_law : Option Addr} {sl_law : Array (Option Value)} {oc_law kV_law dc_law pm_law cd_law ct_law : Value}
    (a_BadRow : PySem.W.nsIn K mainGlobals "BadRow" = some (some (.ref cR)))
    (x_BadRow : K.lookup cR = some (excClassObj nm_BadRow q_BadRow cR N_BadRow bs_BadRow [.ref cL, .type "ValueError", .type "Exception", .type "BaseException", .type "object"] true sn_BadRow sb_BadRow ab_BadRow co_BadRow dd_BadRow m0_BadRow m1_BadRow m2_BadRow m3_BadRow m5_BadRow "ValueError.__new__"))
    (su_BadRow : PySem.W.ks_superIn K cR cR "__init__" = some (some (.builtin "ValueError.__init__")))
    (sa_BadRow : PySem.W.findIn K (.ref cR) "__setattr__" = some (some (.builtin "object.__setattr__")))
    (ga_BadRow : PySem.W.findIn K (.ref cR) "__getattribute__" = some (some (.builtin "BaseException.__getattribute__")))
    (gg_BadRow : PySem.W.findIn K (.ref cR) "__getattr__" = some none)
    (nb_BadRow : PySem.W.findIn K (.ref cR) "part" = some none)
    (in_BadRow : PySem.W.findIn K (.ref cR) "__init__" = some (some (.ref iR)))
    (ti_BadRow : PySem.W.typeIn K (.ref iR) = some (.type "function"))
    (l_BadRow : K.lookup iR = some ⟨oc_BadRow, od_BadRow, .func (PySem.W.ksFn "__init__" "BadRow.__init__" (defArgs (inClass (topS 2) 0)) (defBody (inClass (topS 2) 0)) (defScope (inClass (topS 2) 0)) .none kV_BadRow dc_BadRow pm_BadRow an_BadRow (.ref cd_BadRow) ct_BadRow cc_BadRow), sl_BadRow⟩)
    (c_BadRow : PySem.W.codeIn K (.ref cd_BadRow) "BadRow.__init__" = true)
    (cell_BadRow : K.lookup cc_BadRow = some ⟨c1_BadRow, cl1_BadRow, .cell (some (.ref cR)), s1_BadRow⟩)
    (code_BadRow : K.lookup cd_BadRow = some ⟨c2_BadRow, cl2_BadRow, .fields vs_BadRow, s2_BadRow⟩)
    (v2_BadRow : vs_BadRow[2]? = some (.str fl_BadRow tf_BadRow))
    (fi_BadRow : ((PySem.Challenge.rw_surelabels_k02_blocks.prog.main.file : Str) == fl_BadRow) = true)
    (kC_BadRow : PySem.W.keepIn K (.ref cR) = true)
    (eC_BadRow : PySem.W.subIn K (.ref cR) (.type "BaseException") = some true)
    (vC_BadRow : PySem.W.subIn K (.ref cR) (.type "ValueError") = some true)
    (tC_BadRow : PySem.W.typeIn K (.ref cR) = some (.type "type"))
    (hC_BadRow : PySem.W.hasDictIn K cR = true)
    (iC_BadRow : PySem.W.isClsIn K cR = true)
    (mC_BadRow : PySem.W.mroIn K cR (.ref cR) = some true)
    (a_BadNumber : PySem.W.nsIn K mainGlobals "BadNumber" = some (some (.ref cN)))
    (x_BadNumber : K.lookup cN = some (excClassObj nm_BadNumber q_BadNumber cN N_BadNumber bs_BadNumber [.ref cL, .type "ValueError", .type "Exception", .type "BaseException", .type "object"] true sn_BadNumber sb_BadNumber ab_BadNumber co_BadNumber dd_BadNumber m0_BadNumber m1_BadNumber m2_BadNumber m3_BadNumber m5_BadNumber "ValueError.__new__"))
    (su_BadNumber : PySem.W.ks_superIn K cN cN "__init__" = some (some (.builtin "ValueError.__init__")))
    (sa_BadNumber : PySem.W.findIn K (.ref cN) "__setattr__" = some (some (.builtin "object.__setattr__")))
    (ga_BadNumber : PySem.W.findIn K (.ref cN) "__getattribute__" = some (some (.builtin "BaseException.__getattribute__")))
    (gg_BadNumber : PySem.W.findIn K (.ref cN) "__getattr__" = some none)
    (nb_BadNumber : PySem.W.findIn K (.ref cN) "part" = some none)
    (in_BadNumber : PySem.W.findIn K (.ref cN) "__init__" = some (some (.ref iN)))
    (ti_BadNumber : PySem.W.typeIn K (.ref iN) = some (.type "function"))
    (l_BadNumber : K.lookup iN = some ⟨oc_BadNumber, od_BadNumber, .func (PySem.W.ksFn "__init__" "BadNumber.__init__" (defArgs (inClass (topS 3) 0)) (defBody (inClass (topS 3) 0)) (defScope (inClass (topS 3) 0)) .none kV_BadNumber dc_BadNumber pm_BadNumber an_BadNumber (.ref cd_BadNumber) ct_BadNumber cc_BadNumber), sl_BadNumber⟩)
    (c_BadNumber : PySem.W.codeIn K (.ref cd_BadNumber) "BadNumber.__init__" = true)
    (cell_BadNumber : K.lookup cc_BadNumber = some ⟨c1_BadNumber, cl1_BadNumber, .cell (some (.ref cN)), s1_BadNumber⟩)
    (code_BadNumber : K.lookup cd_BadNumber = some ⟨c2_BadNumber, cl2_BadNumber, .fields vs_BadNumber, s2_BadNumber⟩)
    (v2_BadNumber : vs_BadNumber[2]? = some (.str fl_BadNumber tf_BadNumber))
    (fi_BadNumber : ((PySem.Challenge.rw_surelabels_k02_blocks.prog.main.file : Str) == fl_BadNumber) = true)
    (kC_BadNumber : PySem.W.keepIn K (.ref cN) = true)
    (eC_BadNumber : PySem.W.subIn K (.ref cN) (.type "BaseException") = some true)
    (vC_BadNumber : PySem.W.subIn K (.ref cN) (.type "ValueError") = some true)
    (tC_BadNumber : PySem.W.typeIn K (.ref cN) = some (.type "type"))
    (hC_BadNumber : PySem.W.hasDictIn K cN = true)
    (iC_BadNumber : PySem.W.isClsIn K cN = true)
    (mC_BadNumber : PySem.W.mroIn K cN (.ref cN) = some true)
    (s_BadRow_BadRow : PySem.W.subIn K (.ref cR) (.ref cR) = some true)
    (s_BadRow_BadNumber : PySem.W.subIn K (.ref cR) (.ref cN) = some false)
    (s_BadNumber_BadRow : PySem.W.subIn K (.ref cN) (.ref cR) = some false)
    (s_BadNumber_BadNumber : PySem.W.subIn K (.ref cN) (.ref cN) = some true)
    (a_LE : PySem.W.nsIn K mainGlobals "LabelError" = some (some (.ref cL)))
    (opq : PySem.W.nsIn K cStatics "thirdparty.any" = some none)
    (z_isinstance : PySem.W.nsIn K mainGlobals "isinstance" = some none)
    (z_int : PySem.W.nsIn K mainGlobals "int" = some none)
    (z_bool : PySem.W.nsIn K mainGlobals "bool" = some none)
    (z_str : PySem.W.nsIn K mainGlobals "str" = some none)
    (z_list : PySem.W.nsIn K mainGlobals "list" = some none)
    (z_tuple : PySem.W.nsIn K mainGlobals "tuple" = some none)
    (z_len : PySem.W.nsIn K mainGlobals "len" = some none)
    (z_all : PySem.W.nsIn K mainGlobals "all" = some none)
    (z_range : PySem.W.nsIn K mainGlobals "range" = some none)
    (z_super : PySem.W.nsIn K mainGlobals "super" = some none)
    (a_is_whole : PySem.W.nsIn K mainGlobals "is_whole" = some (some (.ref f_is_whole)))
    (l_is_whole : K.lookup f_is_whole = some ⟨oc_is_whole, od_is_whole, .func (PySem.W.fnOf "is_whole" "is_whole" (defArgs s_is_whole) (defBody s_is_whole) (defScope s_is_whole) .none kV_is_whole dc_is_whole pm_is_whole an_is_whole cd_is_whole ct_is_whole), sl_is_whole⟩)
    (c_is_whole : PySem.W.codeIn K cd_is_whole "is_whole" = true)
    (k_is_whole : PySem.W.keepIn K (.ref f_is_whole) = true)
    (a_is_within : PySem.W.nsIn K mainGlobals "is_within" = some (some (.ref f_is_within)))
    (l_is_within : K.lookup f_is_within = some ⟨oc_is_within, od_is_within, .func (PySem.W.fnOf "is_within" "is_within" (defArgs s_is_within) (defBody s_is_within) (defScope s_is_within) .none kV_is_within dc_is_within pm_is_within an_is_within cd_is_within ct_is_within), sl_is_within⟩)
    (c_is_within : PySem.W.codeIn K cd_is_within "is_within" = true)
    (k_is_within : PySem.W.keepIn K (.ref f_is_within) = true)
    (a_check_within : PySem.W.nsIn K mainGlobals "check_within" = some (some (.ref f_check_within)))
    (l_check_within : K.lookup f_check_within = some ⟨oc_check_within, od_check_within, .func (PySem.W.fnOf "check_within" "check_within" (defArgs s_check_within) (defBody s_check_within) (defScope s_check_within) .none kV_check_within dc_check_within pm_check_within an_check_within cd_check_within ct_check_within), sl_check_within⟩)
    (c_check_within : PySem.W.codeIn K cd_check_within "check_within" = true)
    (k_check_within : PySem.W.keepIn K (.ref f_check_within) = true)
    (a_is_row : PySem.W.nsIn K mainGlobals "is_row" = some (some (.ref f_is_row)))
    (l_is_row : K.lookup f_is_row = some ⟨oc_is_row, od_is_row, .func (PySem.W.fnOf "is_row" "is_row" (defArgs s_is_row) (defBody s_is_row) (defScope s_is_row) .none kV_is_row dc_is_row pm_is_row an_is_row cd_is_row ct_is_row), sl_is_row⟩)
    (c_is_row : PySem.W.codeIn K cd_is_row "is_row" = true)
    (k_is_row : PySem.W.keepIn K (.ref f_is_row) = true)
    (a_check_row : PySem.W.nsIn K mainGlobals "check_row" = some (some (.ref f_check_row)))
    (l_check_row : K.lookup f_check_row = some ⟨oc_check_row, od_check_row, .func (PySem.W.fnOf "check_row" "check_row" (defArgs s_check_row) (defBody s_check_row) (defScope s_check_row) .none kV_check_row dc_check_row pm_check_row an_check_row cd_check_row ct_check_row), sl_check_row⟩)
    (c_check_row : PySem.W.codeIn K cd_check_row "check_row" = true)
    (k_check_row : PySem.W.keepIn K (.ref f_check_row) = true)
    (a_cell_number : PySem.W.nsIn K mainGlobals "cell_number" = some (some (.ref f_cell_number)))
    (l_cell_number : K.lookup f_cell_number = some ⟨oc_cell_number, od_cell_number, .func (PySem.W.fnOf "cell_number" "cell_number" (defArgs s_cell_number) (defBody s_cell_number) (defScope s_cell_number) .none kV_cell_number dc_cell_number pm_cell_number an_cell_number cd_cell_number ct_cell_number), sl_cell_number⟩)
    (c_cell_number : PySem.W.codeIn K cd_cell_number "cell_number" = true)
    (k_cell_number : PySem.W.keepIn K (.ref f_cell_number) = true)
    (a_blocks : PySem.W.nsIn K mainGlobals "blocks" = some (some (.ref f_blocks)))
    (l_blocks : K.lookup f_blocks = some ⟨oc_blocks, od_blocks, .func (PySem.W.fnOf "blocks" "blocks" (defArgs s_blocks) (defBody s_blocks) (defScope s_blocks) .none kV_blocks dc_blocks pm_blocks an_blocks cd_blocks ct_blocks), sl_blocks⟩)
    (c_blocks : PySem.W.codeIn K cd_blocks "blocks" = true)
    (k_blocks : PySem.W.keepIn K (.ref f_blocks) = true)
    (a_law_pool : PySem.W.nsIn K mainGlobals "_law_pool" = some (some (.ref f_law_pool)))
    (l_law_pool : K.lookup f_law_pool = some ⟨oc_law_pool, od_law_pool, .func (PySem.W.fnOf "_law_pool" "_law_pool" (defArgs s_law_pool) (defBody s_law_pool) (defScope s_law_pool) .none kV_law_pool dc_law_pool pm_law_pool an_law_pool cd_law_pool ct_law_pool), sl_law_pool⟩)
    (c_law_pool : PySem.W.codeIn K cd_law_pool "_law_pool" = true)
    (k_law_pool : PySem.W.keepIn K (.ref f_law_pool) = true)
    (a_law_draw : PySem.W.nsIn K mainGlobals "_law_draw" = some (some (.ref f_law_draw)))
    (l_law_draw : K.lookup f_law_draw = some ⟨oc_law_draw, od_law_draw, .func (PySem.W.fnOf "_law_draw" "_law_draw" (defArgs s_law_draw) (defBody s_law_draw) (defScope s_law_draw) .none kV_law_draw dc_law_draw pm_law_draw an_law_draw cd_law_draw ct_law_draw), sl_law_draw⟩)
    (c_law_draw : PySem.W.codeIn K cd_law_draw "_law_draw" = true)
    (k_law_draw : PySem.W.keepIn K (.ref f_law_draw) = true)
    (a_law_same : PySem.W.nsIn K mainGlobals "_law_same" = some (some (.ref f_law_same)))
    (l_law_same : K.lookup f_law_same = some ⟨oc_law_same, od_law_same, .func (PySem.W.fnOf "_law_same" "_law_same" (defArgs s_law_same) (defBody s_law_same) (defScope s_law_same) .none kV_law_same dc_law_same pm_law_same an_law_same cd_law_same ct_law_same), sl_law_same⟩)
    (c_law_same : PySem.W.codeIn K cd_law_same "_law_same" = true)
    (k_law_same : PySem.W.keepIn K (.ref f_law_same) = true)
    (a_law_row : PySem.W.nsIn K mainGlobals "_law_row" = some (some (.ref f_law_row)))
    (l_law_row : K.lookup f_law_row = some ⟨oc_law_row, od_law_row, .func (PySem.W.fnOf "_law_row" "_law_row" (defArgs s_law_row) (defBody s_law_row) (defScope s_law_row) .none kV_law_row dc_law_row pm_law_row an_law_row cd_law_row ct_law_row), sl_law_row⟩)
    (c_law_row : PySem.W.codeIn K cd_law_row "_law_row" = true)
    (k_law_row : PySem.W.keepIn K (.ref f_law_row) = true)
    (a_law_asked : PySem.W.nsIn K mainGlobals "_law_asked" = some (some (.ref f_law_asked)))
    (l_law_asked : K.lookup f_law_asked = some ⟨oc_law_asked, od_law_asked, .func (PySem.W.fnOf "_law_asked" "_law_asked" (defArgs s_law_asked) (defBody s_law_asked) (defScope s_law_asked) .none kV_law_asked dc_law_asked pm_law_asked an_law_asked cd_law_asked ct_law_asked), sl_law_asked⟩)
    (c_law_asked : PySem.W.codeIn K cd_law_asked "_law_asked" = true)
    (k_law_asked : PySem.W.keepIn K (.ref f_law_asked) = true)
    (a_law : PySem.W.nsIn K mainGlobals "law" = some (some (.ref f_law)))
    (l_law : K.lookup f_law = some ⟨oc_law, od_law, .func (PySem.W.fnOf "law" "law" (defArgs s_law) (defBody s_law) (defScope s_law) .none kV_law dc_law pm_law an_law cd_law ct_law), sl_law⟩)
    (c_law : PySem.W.codeIn K cd_law "law" = true)
    (k_law : PySem.W.keepIn K (.ref f_law) = true) :
    ∃ fd : FuncData, (∀ (s : Shared) (v : Value), BindsTo s fd ⟨[v], []⟩ [("script", v)]) ∧ ∀ base : Heap, K.In base → base.Ns mainGlobals mg → FnOk PySem.Challenge.rw_surelabels_k02_blocks.prog w K mg base CX0 13 fa fd ["script"] (spLaw K) := by
  have e := hfa.symm.trans (PySem.W.mg_of X G a_law)
  cases e
  have F1_is_whole := fun_mk (st := s_is_whole) l_is_whole c_is_whole k_is_whole
  have B_is_whole := F1_is_whole.binds (ps := ["thing"]) fun _ _ _ _ _ _ us hl => match us, hl with | [_], _ => rfl
  have F1_is_within := fun_mk (st := s_is_within) l_is_within c_is_within k_is_within
  have B_is_within := F1_is_within.binds (ps := ["thing", "low", "high"]) fun _ _ _ _ _ _ us hl => match us, hl with | [_, _, _], _ => rfl
  have F1_check_within := fun_mk (st := s_check_within) l_check_within c_check_within k_check_within
  have B_check_within := F1_check_within.binds (ps := ["thing", "low", "high", "part"]) fun _ _ _ _ _ _ us hl => match us, hl with | [_, _, _, _], _ => rfl
  have F1_is_row := fun_mk (st := s_is_row) l_is_row c_is_row k_is_row
  have B_is_row := F1_is_row.binds (ps := ["thing"]) fun _ _ _ _ _ _ us hl => match us, hl with | [_], _ => rfl
  have F1_check_row := fun_mk (st := s_check_row) l_check_row c_check_row k_check_row
  have B_check_row := F1_check_row.binds (ps := ["thing", "part"]) fun _ _ _ _ _ _ us hl => match us, hl with | [_, _], _ => rfl
  have F1_cell_number := fun_mk (st := s_cell_number) l_cell_number c_cell_number k_cell_number
  have B_cell_number := F1_cell_number.binds (ps := ["row"]) fun _ _ _ _ _ _ us hl => match us, hl with | [_], _ => rfl
  have F1_blocks := fun_mk (st := s_blocks) l_blocks c_blocks k_blocks
  have B_blocks := F1_blocks.binds (ps := ["row", "width"]) fun _ _ _ _ _ _ us hl => match us, hl with | [_, _], _ => rfl
  have F1_law_pool := fun_mk (st := s_law_pool) l_law_pool c_law_pool k_law_pool
  have B_law_pool := F1_law_pool.binds (ps := ["script"]) fun _ _ _ _ _ _ us hl => match us, hl with | [_], _ => rfl
  have F1_law_draw := fun_mk (st := s_law_draw) l_law_draw c_law_draw k_law_draw
  have B_law_draw := F1_law_draw.binds (ps := ["pool", "many"]) fun _ _ _ _ _ _ us hl => match us, hl with | [_, _], _ => rfl
  have F1_law_same := fun_mk (st := s_law_same) l_law_same c_law_same k_law_same
  have B_law_same := F1_law_same.binds (ps := ["actual", "due"]) fun _ _ _ _ _ _ us hl => match us, hl with | [_, _], _ => rfl
  have F1_law_row := fun_mk (st := s_law_row) l_law_row c_law_row k_law_row
  have B_law_row := F1_law_row.binds (ps := ["pool", "length"]) fun _ _ _ _ _ _ us hl => match us, hl with | [_, _], _ => rfl
  have F1_law_asked := fun_mk (st := s_law_asked) l_law_asked c_law_asked k_law_asked
  have B_law_asked := F1_law_asked.binds (ps := ["row", "width"]) fun _ _ _ _ _ _ us hl => match us, hl with | [_, _], _ => rfl
  have F1_law := fun_mk (st := s_law) l_law c_law k_law
  have B_law := F1_law.binds (ps := ["script"]) fun _ _ _ _ _ _ us hl => match us, hl with | [_], _ => rfl
  have T_BadRow : PySem.SLX.ExTxt K mg PySem.Challenge.rw_surelabels_k02_blocks.prog w "BadRow" "part" "part" (fun v => ∃ (y : Str) (t : Tok), v = .str y t ∧ (reprText y).length ≤ 1000) cR iR :=
    { gC := PySem.W.mg_of X G a_BadRow, cls := ⟨_, _, _, _, _, _, _, _, _, _, _, _, _, _, _, x_BadRow, rfl, along_of x_BadRow su_BadRow⟩, sa := sa_BadRow, ga := ga_BadRow, gg := gg_BadRow, noN := nb_BadRow, iC := in_BadRow, tC := ti_BadRow, kC := kC_BadRow, exC := eC_BadRow, veC := vC_BadRow, tyC := tC_BadRow, hdC := hC_BadRow, selfC := mC_BadRow, opq := opq, sup := PySem.W.mg_none_of X G z_super,
      fn := ⟨_, _, _, _, _, _, _, _, _, _, _, _, _, _, _, _, _, _, _, _, _, _, _, _, _, _, _, _, _, _, _, _, l_BadRow, c_BadRow, cell_BadRow, code_BadRow, v2_BadRow, fi_BadRow, PySem.SLX.msg_repr rfl rfl (by decide) (by decide +kernel), fun _ => rfl, fun _ => ⟨_, rfl⟩, fun _ _ => rfl⟩,
      okN := ⟨by decide, by decide, by decide, by decide⟩, top := by decide +kernel }
  have T_BadNumber : PySem.SLX.ExTxt K mg PySem.Challenge.rw_surelabels_k02_blocks.prog w "BadNumber" "part" "part" (fun v => ∃ (y : Str) (t : Tok), v = .str y t ∧ (reprText y).length ≤ 1000) cN iN :=
    { gC := PySem.W.mg_of X G a_BadNumber, cls := ⟨_, _, _, _, _, _, _, _, _, _, _, _, _, _, _, x_BadNumber, rfl, along_of x_BadNumber su_BadNumber⟩, sa := sa_BadNumber, ga := ga_BadNumber, gg := gg_BadNumber, noN := nb_BadNumber, iC := in_BadNumber, tC := ti_BadNumber, kC := kC_BadNumber, exC := eC_BadNumber, veC := vC_BadNumber, tyC := tC_BadNumber, hdC := hC_BadNumber, selfC := mC_BadNumber, opq := opq, sup := PySem.W.mg_none_of X G z_super,
      fn := ⟨_, _, _, _, _, _, _, _, _, _, _, _, _, _, _, _, _, _, _, _, _, _, _, _, _, _, _, _, _, _, _, _, l_BadNumber, c_BadNumber, cell_BadNumber, code_BadNumber, v2_BadNumber, fi_BadNumber, PySem.SLX.msg_repr rfl rfl (by decide) (by decide +kernel), fun _ => rfl, fun _ => ⟨_, rfl⟩, fun _ _ => rfl⟩,
      okN := ⟨by decide, by decide, by decide, by decide⟩, top := by decide +kernel }
  have M : MF PySem.Challenge.rw_surelabels_k02_blocks.prog w K mg cR iR cN iN cL := { m_isinstance := PySem.W.mg_none_of X G z_isinstance, m_int := PySem.W.mg_none_of X G z_int, m_bool := PySem.W.mg_none_of X G z_bool, m_str := PySem.W.mg_none_of X G z_str, m_list := PySem.W.mg_none_of X G z_list, m_tuple := PySem.W.mg_none_of X G z_tuple, m_len := PySem.W.mg_none_of X G z_len, m_all := PySem.W.mg_none_of X G z_all, m_range := PySem.W.mg_none_of X G z_range, x_BadRow := T_BadRow, x_BadNumber := T_BadNumber, g_BadRow := PySem.W.mg_of X G a_BadRow, g_BadNumber := PySem.W.mg_of X G a_BadNumber, g_LabelError := PySem.W.mg_of X G a_LE, e_RR := exm_ref eC_BadRow iC_BadRow tC_BadRow s_BadRow_BadRow, e_NR := exm_ref eC_BadRow iC_BadRow tC_BadRow s_BadNumber_BadRow, e_NN := exm_ref eC_BadNumber iC_BadNumber tC_BadNumber s_BadNumber_BadNumber }
  refine ⟨PySem.W.fnOf "law" "law" (defArgs s_law) (defBody s_law) (defScope s_law) .none kV_law dc_law pm_law an_law cd_law ct_law, fun s v => .of_eq rfl, fun base _ _ => ?_⟩
  · have F_is_whole : FnC PySem.Challenge.rw_surelabels_k02_blocks.prog w K mg base CX0 1 "is_whole" ["thing"] (spWhole K) := ⟨_, _, ok_is_whole M F1_is_whole, PySem.W.mg_of X G a_is_whole, k_is_whole, B_is_whole⟩
    have F_is_within : FnC PySem.Challenge.rw_surelabels_k02_blocks.prog w K mg base CX0 2 "is_within" ["thing", "low", "high"] (spWithin K) := ⟨_, _, ok_is_within F_is_whole F1_is_within, PySem.W.mg_of X G a_is_within, k_is_within, B_is_within⟩
    have F_check_within : FnC PySem.Challenge.rw_surelabels_k02_blocks.prog w K mg base (L2.CX PySem.Challenge.rw_surelabels_k02_blocks.prog w) 4 "check_within" ["thing", "low", "high", "part"] (spCheckWithin K cN) := ⟨_, _, ok_check_within M F_is_within F1_check_within, PySem.W.mg_of X G a_check_within, k_check_within, B_check_within⟩
    have F_is_row : FnC PySem.Challenge.rw_surelabels_k02_blocks.prog w K mg base CX0 4 "is_row" ["thing"] (spRowQ K) := ⟨_, _, ok_is_row M F_is_within F1_is_row, PySem.W.mg_of X G a_is_row, k_is_row, B_is_row⟩
    have F_check_row : FnC PySem.Challenge.rw_surelabels_k02_blocks.prog w K mg base (L2.CX PySem.Challenge.rw_surelabels_k02_blocks.prog w) 6 "check_row" ["thing", "part"] (spCheckRow K cR) := ⟨_, _, ok_check_row M F_is_row F1_check_row, PySem.W.mg_of X G a_check_row, k_check_row, B_check_row⟩
    have F_cell_number : FnC PySem.Challenge.rw_surelabels_k02_blocks.prog w K mg base CX0 1 "cell_number" ["row"] (spCellNumber K) := ⟨_, _, ok_cell_number F1_cell_number, PySem.W.mg_of X G a_cell_number, k_cell_number, B_cell_number⟩
    have F_blocks : FnC PySem.Challenge.rw_surelabels_k02_blocks.prog w K mg base (L2.CX PySem.Challenge.rw_surelabels_k02_blocks.prog w) 8 "blocks" ["row", "width"] (spBlocks K cR cN) := ⟨_, _, ok_blocks M F_check_row F_check_within F1_blocks, PySem.W.mg_of X G a_blocks, k_blocks, B_blocks⟩
    have F_law_pool : FnC PySem.Challenge.rw_surelabels_k02_blocks.prog w K mg base CX0 1 "_law_pool" ["script"] (spPool K) := ⟨_, _, ok_law_pool M F1_law_pool, PySem.W.mg_of X G a_law_pool, k_law_pool, B_law_pool⟩
    have F_law_draw : FnC PySem.Challenge.rw_surelabels_k02_blocks.prog w K mg base CX0 1 "_law_draw" ["pool", "many"] spDraw := ⟨_, _, ok_law_draw M F1_law_draw, PySem.W.mg_of X G a_law_draw, k_law_draw, B_law_draw⟩
    have F_law_same : FnC PySem.Challenge.rw_surelabels_k02_blocks.prog w K mg base CX0 8 "_law_same" ["actual", "due"] (spSame K 3) := ⟨_, _, ok_law_same M F1_law_same (PySem.W.mg_of X G a_law_same) B_law_same 3, PySem.W.mg_of X G a_law_same, k_law_same, B_law_same⟩
    have F_law_row : FnC PySem.Challenge.rw_surelabels_k02_blocks.prog w K mg base CX0 3 "_law_row" ["pool", "length"] spLRow := ⟨_, _, ok_law_row M F_law_draw F1_law_row, PySem.W.mg_of X G a_law_row, k_law_row, B_law_row⟩
    have F_law_asked : FnC PySem.Challenge.rw_surelabels_k02_blocks.prog w K mg base CX0 10 "_law_asked" ["row", "width"] (spAsked K) := ⟨_, _, ok_law_asked M F_blocks F1_law_asked, PySem.W.mg_of X G a_law_asked, k_law_asked, B_law_asked⟩
    exact ok_law M F_law_pool F_law_draw F_law_row F_law_asked F_law_same F_blocks F_cell_number F1_law
end K02
open PySem PySem.W PyProof.Rows
set_option maxHeartbeats 0 in
theorem PySem.Challenge.cw_surelabels_k02_blocks_holds : PySem.Challenge.rw_surelabels_k02_blocks.Holds := by
  w_on; o_law; k_head; (case hw => w_witness2)
  k_fill
  refine L2.walk_of (l := PySem.Challenge.rw_surelabels_k02_blocks) (n := 63) (k := 13) (x := "script") (CX := fun _ => L2.CX0) (sp := fun w => K02.spLaw _) rfl (by decide) rfl ⟨rfl, by decide, by decide⟩ (fun w h Y => PySem.W.kIn_of Y) ?F (fun _ _ a ns hl _ hS => ⟨a, ns, rfl, hS, hl, fun _ => rfl⟩) (fun _ _ _ _ _ h => h)
  case F =>
    intro w mg fa h KX G hmg
    refine' K02.all_mk KX G hmg ?h0 ?h1 ?h2 ?h3 ?h4 ?h5 ?h6 ?h7 ?h8 ?h9 ?h10 ?h11 ?h12 ?h13 ?h14 ?h15 ?h16 ?h17 ?h18 ?h19 ?h20 ?h21 ?h22 ?h23 ?h24 ?h25 ?h26 ?h27 ?h28 ?h29 ?h30 ?h31 ?h32 ?h33 ?h34 ?h35 ?h36 ?h37 ?h38 ?h39 ?h40 ?h41 ?h42 ?h43 ?h44 ?h45 ?h46 ?h47 ?h48 ?h49 ?h50 ?h51 ?h52 ?h53 ?h54 ?h55 ?h56 ?h57 ?h58 ?h59 ?h60 ?h61 ?h62 ?h63 ?h64 ?h65 ?h66 ?h67 ?h68 ?h69 ?h70 ?h71 ?h72 ?h73 ?h74 ?h75 ?h76 ?h77 ?h78 ?h79 ?h80 ?h81 ?h82 ?h83 ?h84 ?h85 ?h86 ?h87 ?h88 ?h89 ?h90 ?h91 ?h92 ?h93 ?h94 ?h95 ?h96 ?h97 ?h98 ?h99 ?h100 ?h101 ?h102 ?h103 ?h104 ?h105 ?h106 ?h107 ?h108 ?h109 ?h110 ?h111
    (case h0 => k_is)
    (case h1 => k_is)
    (case h2 => ks_is)
    (case h3 => k_is)
    (case h4 => k_is)
    (case h5 => k_is)
    (case h6 => k_is)
    (case h7 => k_is)
    (case h8 => k_is)
    (case h9 => k_is)
    (case h10 => k_is)
    (case h11 => k_is)
    (case h12 => k_is)
    (case h13 => rfl)
    (case h14 => decide +kernel)
    (case h15 => k_is)
    (case h16 => k_is)
    (case h17 => k_is)
    (case h18 => k_is)
    (case h19 => k_is)
    (case h20 => k_is)
    (case h21 => k_is)
    (case h22 => k_is)
    (case h23 => k_is)
    (case h24 => ks_is)
    (case h25 => k_is)
    (case h26 => k_is)
    (case h27 => k_is)
    (case h28 => k_is)
    (case h29 => k_is)
    (case h30 => k_is)
    (case h31 => k_is)
    (case h32 => k_is)
    (case h33 => k_is)
    (case h34 => k_is)
    (case h35 => rfl)
    (case h36 => decide +kernel)
    (case h37 => k_is)
    (case h38 => k_is)
    (case h39 => k_is)
    (case h40 => k_is)
    (case h41 => k_is)
    (case h42 => k_is)
    (case h43 => k_is)
    (case h44 => k_is)
    (case h45 => k_is)
    (case h46 => k_is)
    (case h47 => k_is)
    (case h48 => k_is)
    (case h49 => k_is)
    (case h50 => k_is)
    (case h51 => k_is)
    (case h52 => k_is)
    (case h53 => k_is)
    (case h54 => k_is)
    (case h55 => k_is)
    (case h56 => k_is)
    (case h57 => k_is)
    (case h58 => k_is)
    (case h59 => k_is)
    (case h60 => k_is)
    (case h61 => k_is)
    (case h62 => k_is)
    (case h63 => k_is)
    (case h64 => k_is)
    (case h65 => k_is)
    (case h66 => k_is)
    (case h67 => k_is)
    (case h68 => k_is)
    (case h69 => k_is)
    (case h70 => k_is)
    (case h71 => k_is)
    (case h72 => k_is)
    (case h73 => k_is)
    (case h74 => k_is)
    (case h75 => k_is)
    (case h76 => k_is)
    (case h77 => k_is)
    (case h78 => k_is)
    (case h79 => k_is)
    (case h80 => k_is)
    (case h81 => k_is)
    (case h82 => k_is)
    (case h83 => k_is)
    (case h84 => k_is)
    (case h85 => k_is)
    (case h86 => k_is)
    (case h87 => k_is)
    (case h88 => k_is)
    (case h89 => k_is)
    (case h90 => k_is)
    (case h91 => k_is)
    (case h92 => k_is)
    (case h93 => k_is)
    (case h94 => k_is)
    (case h95 => k_is)
    (case h96 => k_is)
    (case h97 => k_is)
    (case h98 => k_is)
    (case h99 => k_is)
    (case h100 => k_is)
    (case h101 => k_is)
    (case h102 => k_is)
    (case h103 => k_is)
    (case h104 => k_is)
    (case h105 => k_is)
    (case h106 => k_is)
    (case h107 => k_is)
    (case h108 => k_is)
    (case h109 => k_is)
    (case h110 => k_is)
    (case h111 => k_is)
