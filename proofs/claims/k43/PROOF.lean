import PyProof.Rows.All
import Wide.All
import OpenK.AllK
import Wide.FinOn
import HandS.ForMost
import HandS.ForExc
import PySem.Challenge.RW_sawnsheets_k43_texts_rejected
import KE.KExcSuper
import KE.KUnpackStar
import HandS.TryOnly
import HandS.Call
import PyProof.MakeMany
import HandS.Iter
import HandS.TupAny
import KE.GoesEnum
import KE.GoesEnumKw
import PyProof.Rows.CallKwBuiltin
import HandS.ExcIs
import HandS.ExcField
import PyProof.EqAt
import PyProof.EqKinds
import HandS.Base
import HandS.Exc
import HandS.IsInst
import HandS.Property
import PySem.Syntax
import PySem.PyData
import PySem.Eval
import HandS.TupMul
import HandS.SortInts
import HandS.Conv
import HandS.Flow
import PyProof.Draws
import PyProof.EnumMake
import KE.GoesMore
import HandS.Zip
import HandS.Style
import HandS.SetFor
import HandS.Strs
import HandS.Replace
import HandS.Star
import HandS.Text
import HandS.RaiseMore
import HandS.Small
import KE.KNestM
import HandS.Ends
set_option Elab.async false
set_option linter.all false
set_option maxRecDepth 100000
set_option maxHeartbeats 8000000
namespace Kn
open PySem PySem.Spec L2
def topS (i : Nat) : Stmt := PySem.Challenge.pw_sawnsheets_k43_texts_rejected.main.body.getD i (.Pass ⟨0, 0, 0, 0⟩)
abbrev sFromTo : Stmt := topS 6
abbrev sNum : Stmt := topS 5
abbrev sSide : Stmt := topS 7
abbrev sSize : Stmt := topS 8
abbrev sSheet : Stmt := topS 9
abbrev sSheets : Stmt := topS 10
abbrev sErrC : Stmt := topS 13
abbrev sPacket : Stmt := topS 16
abbrev sWrong : Stmt := topS 17
abbrev sTaken : Stmt := topS 25
abbrev sLaw : Stmt := topS 27
abbrev sIsSW : Stmt := topS 19
abbrev sChkW : Stmt := topS 20
abbrev sSzOf : Stmt := topS 21
abbrev sShOf : Stmt := topS 22
abbrev sParse : Stmt := topS 23
abbrev sPlace : Stmt := topS 26
abbrev sInit : Stmt := inClass sPacket 0
abbrev sW : Stmt := inClass sPacket 1
abbrev sH : Stmt := inClass sPacket 2
abbrev sS : Stmt := inClass sPacket 3
abbrev sC : Stmt := inClass sPacket 4
abbrev sLen : Stmt := inClass sPacket 5
abbrev sEq : Stmt := inClass sPacket 6
end Kn

/-! An own error over ValueError (through another own class) whose __init__ says super().__init__(f'..{part}') and keeps the field part. -/
namespace Xp
open PySem PySem.W PySem.Calls PyProof.Rows PySem.HandSPX
abbrev F1 : Str := "part"
/-- the __init__'s text -/
def pA (q1 q2 : Pos) : Arguments := { posonlyargs := [], args := [{ arg := "self", annotation := none, pos := q1 }, { arg := F1, annotation := none, pos := q2 }], vararg := none, kwonlyargs := [], kw_defaults := [], kwarg := none, defaults := [] }
def pB (lit : Str) (a1 a2 a3 a4 a5 a6 a7 a8 a9 b1 b2 b3 b4 : Pos) : List Stmt :=
  [.Expr (.Call (.Attribute (.Call (.Name "super" a1) [] [] a2) "__init__" a3) [.JoinedStr [.Constant (.str lit) 0 a4, .FormattedValue (.Name F1 a5) (-1) none a6] a7] [] a8) a9,
   .Assign [.Attribute (.Name "self" b1) F1 b2] (.Name F1 b3) b4]
def pS : Scope := { kind := .function, names := [(PySem.Str.ofString "self", .local), (PySem.Str.ofString "part", .local), (PySem.Str.ofString "__class__", .free), (PySem.Str.ofString "super", .globalImplicit)], isGenerator := false, isCoroutine := false, more := [] }
/-- what is known of the class at C and of its __init__ at fI -/
structure PTxt (prog : Program) (K : Frag) (mg : Str → Option Value) (cn : Str) (C fI : Addr) : Prop where
  gC : mg cn = some (.ref C)
  cls : ∃ nm q N bs bm sn sub ab col dd k0 k1 k2 k3 k5, K.lookup C = some (excClassObj nm q C N bs bm true sn sub ab col dd k0 k1 k2 k3 k5 "ValueError.__new__") ∧ refsVE bm = true
  sa : findIn K (.ref C) "__setattr__" = some (some (.builtin "object.__setattr__"))
  ga : findIn K (.ref C) "__getattribute__" = some (some (.builtin "BaseException.__getattribute__"))
  gg : findIn K (.ref C) "__getattr__" = some none
  noN : findIn K (.ref C) F1 = some none
  iC : findIn K (.ref C) "__init__" = some (some (.ref fI))
  tC : typeIn K (.ref fI) = some (.type "function")
  kC : keepIn K (.ref C) = true
  exC : subIn K (.ref C) (.type "BaseException") = some true
  veC : subIn K (.ref C) (.type "ValueError") = some true
  tyC : typeIn K (.ref C) = some (.type "type")
  hdC : hasDictIn K C = true
  mC : mroIn K C (.ref C) = some true
  su : ks_superIn K C C "__init__" = some (some (.builtin "ValueError.__init__"))
  op : nsIn K cStatics "thirdparty.any" = some none
  gs : mg "super" = none
  top : (prog.main.scope.names.lookup ("super" : Str)).isSome = false
  fn : ∃ (lit : Str) (oc : Value) (od : Option Addr) (kV doc pm : Value) (an : Option Addr) (cda cc : Addr) (ct : Value) (osl : Array (Option Value)) (qn : Str) (q1 q2 a1 a2 a3 a4 a5 a6 a7 a8 a9 b1 b2 b3 b4 : Pos),
    lit.length ≤ 100 ∧ (a3.endLine == a8.line) = true ∧ K.lookup fI = some ⟨oc, od, .func (ksFn "__init__" qn (pA q1 q2) (pB lit a1 a2 a3 a4 a5 a6 a7 a8 a9 b1 b2 b3 b4) pS .none kV doc pm an (.ref cda) ct cc), osl⟩ ∧ codeIn K (.ref cda) qn = true ∧
    (∃ (ccl : Value) (cdd : Option Addr) (vs : Array Value) (ccs : Array (Option Value)) (file : Str) (tf : Tok), K.lookup cda = some ⟨ccl, cdd, .fields vs, ccs⟩ ∧ vs[2]? = some (.str file tf) ∧ ((prog.main.file : Str) == file) = true) ∧
    ∃ (cl : Value) (cld : Option Addr) (csl : Array (Option Value)), K.lookup cc = some ⟨cl, cld, .cell (some (.ref C)), csl⟩
/-- a value that the message takes in -/
inductive Msg : Value → Prop where
  | str (y : Str) (t : Tok) (h : y.length ≤ 1000) : Msg (.str y t)
  | int (i : Int) (t : Tok) (h : i.natAbs.log2 < 1000) (h2 : (Str.ofString (toString i)).length ≤ 1000) : Msg (.int i t)
/-- what __init__ leaves -/
structure PEnd (h h' : Heap) (x C dx : Addr) (v : Value) : Prop where
  keep : ∀ b o, b ≠ x → h.get? b = some o → h'.get? b = some o
  obj : ∃ t1 : Addr, h'.get? x = some { cls := .ref C, dict := some dx, data := .fields #[.ref t1, .none, .none, .none, .bool false, .none] }
  dbig : h.objs.size ≤ dx
  dne : dx ≠ x
  ns : h'.Ns1 dx (fun y => if y = F1 then some v else none)
section
variable {prog : Program} {w : World} {A : Around} {E : Value → Shared → Prop} {R : Result → Shared → Prop} {s : Shared} {K : Frag} {mg : Str → Option Value} {cn : Str} {C fI : Addr} {base : Heap}
theorem call_form {o : Expr} {name : Str} {apos pos : Pos} {e : Expr} {env : Env} (h : (apos.endLine == pos.line) = true) (hp : (backTo pos (starEach [e] env)).all (!·.1) = true := by rfl) :
    eval (.Call (.Attribute o name apos) [e] [] pos) env = (do
      let ov ← attributeBase o name env (eval o env)
      standAt apos.atName
      let (f, first) ← holding [ov] (getMethod ov name (do return (← importBound o env).getD true))
      callWith pos f first (backTo pos (starEach [e] env)) []) := by
  have z : ∀ few, methodCallPos few o env apos pos = pure pos := fun few => by unfold methodCallPos; simp [h]
  have f : methodCallForm 1 (backTo pos (starEach [e] env)) (backToKw pos (keywordEach [] env)) = true := by
    unfold methodCallForm
    rw [hp]
    rfl
  rw [arm_eval_Call]
  unfold methodCall
  simp only [List.length_cons, List.length_nil, Nat.zero_add, Nat.add_zero, f, z, pure_bind, calleeOf, if_true]
  rfl
/-- the message -/
theorem p_msg {env : Env} {m : Str → Option Value} {lit : Str} {v : Value} {a4 a5 a6 a7 : Pos} {Q : Value → Shared → Prop} (hlit : lit.length ≤ 100) (hv : Msg v) (hk : env.scope.kind = .function) (hl : env.kindOf F1 = some .local) (hn : s.heap.Ns env.locals m) (hm : m F1 = some v)
    (h : ∀ y t tk, Q (.str y t) { s with toks := tk }) : wpAny (model prog w) A (eval (.JoinedStr [.Constant (.str lit) 0 a4, .FormattedValue (.Name F1 a5) (-1) none a6] a7) env) Q E s := by
  have hz : ∀ n : Nat, n ≤ 3000 → n ≤ sizeLine := fun n hn => Nat.le_trans hn (by decide)
  have le0 : (Str.empty ++ lit).length ≤ 100 := by rw [strLen_append]; exact (by show 0 + lit.length ≤ 100; omega)
  refine wpAny_JoinedStr ?_
  have e1 : evalEach [Expr.Constant (Const.str lit) 0 a4, Expr.FormattedValue (Expr.Name F1 a5) (-1) none a6] env = [eval (Expr.Constant (Const.str lit) 0 a4) env, eval (Expr.FormattedValue (Expr.Name F1 a5) (-1) none a6) env] := by first | rfl | simp [evalEach]
  rw [e1]
  refine wpAny_Constant_str ⟨lit, _, rfl, hz _ (by omega), ?_⟩
  refine wpAny_FormattedValue_plain (wpAny_Name (wpAny_loadName_local hk hl hn hm ?_))
  cases hv with
  | str y t hy =>
    have le1 : (Str.empty ++ lit ++ y).length ≤ 3000 := by rw [strLen_append]; omega
    exact wpAny_formatField_str ⟨y, t, rfl, hz _ le1, hz _ le1, h _ _ _⟩ ⟨y, _, rfl, hz _ le1, hz _ le1, h _ _ _⟩ (hz _ (by omega))
  | int i t hi h2 =>
    have le1 : (Str.empty ++ lit ++ toString i).length ≤ sizeLine := by
      rw [strLen_append]
      exact hz _ (by omega)
    exact wpAny_formatField_int (by omega) ⟨_, _, rfl, le1, le1, h _ _ _⟩
/-- ValueError.__init__, bound to e, called -/
theorem p_wrap {nm q : Str} {N : Addr} {bs bm : List Value} {hdct : Bool} {sn : List Str} {sub : List Value} {ab : Bool} {col : Option Bool} {dd : Option Addr} {k0 k1 k2 k3 k5 : Option Value} {u e t0 : Addr} {z : Value} {vs : List Value} {Q : Value → Shared → Prop}
    (hC : s.heap.get? C = some (excClassObj nm q C N bs bm hdct sn sub ab col dd k0 k1 k2 k3 k5 "ValueError.__new__")) (he : s.heap.get? e = some (excO C t0)) (hu : s.heap.get? u = some (kxs_mw "ValueError.__init__" e)) (hvs : vs = [z])
    (hq : ∀ h' t1, (∀ b o, b ≠ e → s.heap.get? b = some o → h'.get? b = some o) → h'.get? e = some (excO C t1) → Q .none { s with heap := h' }) :
    wpAny (model prog w) A (call (.ref u) vs) Q E s := by
  subst hvs
  have FB := F.excBase_ValueError
  obtain ⟨hh, g, d, tk, os⟩ := s
  refine wpAny_call (codeAny_of_tree ?_)
  show wpAny _ A.in1 (callAny (.ref u) ⟨[z], []⟩) _ _ _
  unfold callAny
  refine wpAny_bind (wpAny_load hu ?_)
  have m1 : (Value.type "method-wrapper" == Value.type "method" || Value.type "method-wrapper" == Value.type "builtin_function_or_method" || Value.type "method-wrapper" == Value.type "method-wrapper") = true := by decide
  simp only [kxs_mw, m1, if_true]
  refine KFB.if_so (by decide) (wpAny_bind (check_bound_init FB.toExcCallFacts hC he rfl ?_))
  refine wpAny_bind (wpAny_pure (wpAny_pure ⟨plainId_quiet FB.init.plain _, codeAny_builtin FB.initEntry ?_⟩))
  refine exc_init_tree (cls := .ref C) (t0 := t0) (dv := none) (c2 := .none) (c3 := .none) (b4 := .bool false) (rest := [z]) he (by show 1 ≤ sizeLine; decide) fun h' kk ee _ => ?_
  exact hq h' _ kk ee
theorem p_init (T : PTxt prog K mg cn C fI) {x t0 : Addr} {v : Value} (M : L2.Mod K mg base) (bk : ∀ b o, base.get? b = some o → s.heap.get? b = some o) (hx : s.heap.get? x = some (excO C t0)) (hnx : K.lookup x = none) (hroom : A.depth < recursionLimit) (hv : Msg v)
    (hq : ∀ h' tk dx, PEnd s.heap h' x C dx v → R (.ok (.ret .none)) { s with heap := h', toks := tk }) :
    codeAny (model prog w) A (.call (.ref fI) ⟨[.ref x, v], []⟩) R s := by
  obtain ⟨lit, oc, od, kV, doc, pm, an, cda, cc, ct, osl, qn, q1, q2, a1, a2, a3, a4, a5, a6, a7, a8, a9, b1, b2, b3, b4, hlit, hline, lk, hcd, ⟨ccl, cdd, vs, ccs, file, tf, hcda, hvs, hfile⟩, cl, cld, csl, hcc⟩ := T.fn
  obtain ⟨nm, q, N, bs, bm, sn, sub, ab, col, dd, k0, k1, k2, k3, k5, hC, hbm⟩ := T.cls
  have hcl : clsIn K C = some { name := nm, bases := bs, mro := .ref C :: bm, ns := N, qualname := q, hasDict := true, slotNames := sn, subclasses := sub, abstract := ab, collection := col, hasDel := false } := by unfold clsIn; rw [hC] <;> rfl
  obtain ⟨mb, hmb, hbb⟩ := M.blt
  have X : K.In s.heap := M.kin.keeps bk
  refine ks_codeAny_call_defAt (fd := ksFn "__init__" qn (pA q1 q2) (pB lit a1 a2 a3 a4 a5 a6 a7 a8 a9 b1 b2 b3 b4) pS .none kV doc pm an (.ref cda) ct cc) (binds := [("self", .ref x), (F1, v)]) hroom (X _ _ lk) rfl (M.nolimit.keeps bk) (codeRec_of X hcd) rfl (BindsTo.of_eq rfl) (show ∀ y ∈ pS.names, y.2 ≠ .cell by decide) (by intro y hy; simp only [List.mem_cons, List.not_mem_nil, or_false] at hy; rcases hy with rfl | rfl <;> rfl) (fun h₀ hns kp => ?_) rfl rfl rfl
  have X0 : K.In h₀ := X.keeps kp
  have bk0 : ∀ b o, base.get? b = some o → h₀.get? b = some o := fun b o e => kp b o (bk b o e)
  have hx0 := kp _ _ hx
  have hL : s.heap.objs.size ≠ x := Nat.ne_of_gt (Heap.lt_size hx)
  have lk0 := X0 _ _ lk
  refine ks_wpAt_execs_cons (ks_wpAt_Expr_any (ks_wpAt_MethodCall (pl := (do return (← importBound (.Call (.Name "super" a1) [] [] a2) (callEnv (ksFn "__init__" qn (pA q1 q2) (pB lit a1 a2 a3 a4 a5 a6 a7 a8 a9 b1 b2 b3 b4) pS .none kV doc pm an (.ref cda) ct cc) s.heap.objs.size fI)).getD true)) ?_ (call_form hline)))
  refine ks_wpAt_super_base (fd := ksFn "__init__" qn (pA q1 q2) (pB lit a1 a2 a3 a4 a5 a6 a7 a8 a9 b1 b2 b3 b4) pS .none kV doc pm an (.ref cda) ct cc) rfl rfl (by decide) rfl lk0 rfl rfl rfl (X0 _ _ hcda) rfl hvs hfile T.top ?_
  refine ks_loadName_global rfl rfl (loadGlobal_builtin (mg := mg) (mb := mb) (v := .type "super") (M.glob.keeps bk0) T.gs (hmb.keeps bk0) ((hbb _ (by decide +kernel)).trans (by decide +kernel)) ⟨rfl, ?_⟩)
  refine wpAny_loadName_free (c := cc) rfl rfl rfl ⟨_, X0 _ _ hcc, rfl⟩ ?_
  refine wpAny_loadName_local rfl rfl hns (v := .ref x) (by first | rfl | with_unfolding_all rfl | kernel_rfl) ?_
  refine ks_wpAny_isType_cls (X0 _ _ hC) rfl ⟨rfl, ?_⟩
  refine ks_wpAny_call_super (X0 _ _ hC) rfl hx0 rfl (fun c z => nomatch z) (looks_mroIn X0 T.mC) (fun h' e k => ?_)
  have X1 : K.In h' := X0.keeps k
  have hx1 := k _ _ hx0
  have hsu := T.su
  unfold ks_superIn at hsu
  rw [hcl] at hsu
  have I1 : InstAt h' x (excO C t0) C none := ⟨hx1, rfl, rfl, trivial⟩
  refine kxs_getMethod kxs_ValueError (l₀ := .ref C :: bm) e (looks_opaque X1 T.op) ?_ rfl X1 hsu (I1.type.andThen (looks_subIn X1 T.veC)) (ks_ne X1 I1 hcl) (by decide) ?_
  · exact fun A Q E s k q => wpAny_bind ((looks_clsIn X1 hcl) A _ E s k (wpAny_pure q))
  -- the wrapper at u, then the message
  have hu : (h'.push (kxs_mw "ValueError.__init__" x)).get? h'.objs.size = some (kxs_mw "ValueError.__init__" x) := Heap.get?_push_at rfl rfl
  have k2 : ∀ b o, h'.get? b = some o → (h'.push (kxs_mw "ValueError.__init__" x)).get? b = some o := fun b o e => Heap.get?_push_of_some _ e
  have hns2 : (h'.push (kxs_mw "ValueError.__init__" x)).Ns s.heap.objs.size fun z => List.lookup z [(Str.ofString "self", Value.ref x), (F1, v)].reverse := (hns.keeps k).keeps k2
  refine kxs_callWith (i := "ValueError.__init__") (x := x) rfl ?_
  refine evalArgs_plain (spliced_cons (p_msg (a7 := a7) hlit hv rfl rfl hns2 (by first | rfl | with_unfolding_all rfl | kernel_rfl) fun z tz tk => spliced_nil ⟨hu, ?_⟩))
  refine p_wrap (C := C) (k2 _ _ (X1.keeps (fun _ _ z => z) _ _ hC)) (k2 _ _ hx1) hu rfl fun h3 t1 k3 e3 => ?_
  have kx : ∀ b o, b ≠ x → s.heap.get? b = some o → h3.get? b = some o := fun b o hb z => k3 b o hb (k2 _ _ (k _ _ (kp _ _ z)))
  have hns3 : h3.Ns s.heap.objs.size fun z => List.lookup z [(Str.ofString "self", Value.ref x), (F1, v)].reverse := by
    obtain ⟨o, es, ep, z, r⟩ := hns2
    exact ⟨o, es, ep, k3 _ _ hL z, r⟩
  have nK : ∀ b o, K.lookup b = some o → b ≠ x := fun b o z y => by
    rw [y, hnx] at z
    cases z
  have X3 : K.In h3 := fun b o z => kx b o (nK b o z) (X _ _ z)
  -- self.part = part
  refine wpAt_of_wpAny (wpAny_execs_cons (plainObj_wpAny_Assign_Attribute ?_))
  refine wpAny_Name (wpAny_loadName_local rfl rfl hns3 (v := v) (by first | rfl | with_unfolding_all rfl | kernel_rfl) ?_)
  refine wpAny_Name (wpAny_loadName_local rfl rfl hns3 (v := .ref x) (by first | rfl | with_unfolding_all rfl | kernel_rfl) ?_)
  refine set_plain X3 (ox := excO C t1) (od := none) ⟨e3, rfl, rfl, trivial⟩ T.sa ?_
  refine exc_osa X3 e3 hcl (show refsVE (.ref C :: bm) = true from hbm) rfl T.noN (fun h5 tk5 dx k5 dn dne hx5 hn5 => ?_)
  have z : s.heap.objs.size ≤ h3.objs.size := by
    obtain ⟨o, es, ep, z, r⟩ := hns3
    exact Nat.le_of_lt (Heap.lt_size z)
  exact wpAny_execs_nil (hq h5 tk5 dx ⟨fun b o hb e => k5 b o hb (kx b o hb e), ⟨_, hx5⟩, Nat.le_trans z dn, dne, hn5⟩)
/-- a made error: e, its own dict d -/
structure PMade (h h' : Heap) (e C d : Addr) (v : Value) : Prop where
  keep : ∀ b o, h.get? b = some o → h'.get? b = some o
  new : h.objs.size ≤ e
  obj : ∃ oe vs, h'.get? e = some oe ∧ oe.cls = .ref C ∧ oe.dict = some d ∧ oe.data = .fields vs ∧ vs[1]? = some .none
  dbig : h.objs.size ≤ d
  dne : d ≠ e
  ns : h'.Ns1 d (fun y => if y = F1 then some v else none)
theorem p_made (T : PTxt prog K mg cn C fI) {v : Value} (M : L2.Mod K mg base) (bk : ∀ b o, base.get? b = some o → s.heap.get? b = some o) (hroom : A.depth + 1 < recursionLimit) (hv : Msg v)
    (hq : ∀ h' tk e d, PMade s.heap h' e C d v → R (.ok (.ret (.ref e))) { s with heap := h', toks := tk }) :
    codeAny (model prog w) A (.call (.ref C) ⟨[v], []⟩) R s := by
  have X : K.In s.heap := M.kin.keeps bk
  obtain ⟨nm, q, N, bs, bm, sn, sub, ab, col, dd, k0, k1, k2, k3, k5, hC, hbm⟩ := T.cls
  obtain ⟨hp, g, dr, tk, os⟩ := s
  have k : ∀ b o, hp.get? b = some o → ((hp.push (kdv_tup [v])).push (excO C hp.objs.size)).get? b = some o := fun b o e => Heap.get?_push_of_some _ (Heap.get?_push_of_some _ e)
  have hget : ((hp.push (kdv_tup [v])).push (excO C hp.objs.size)).get? (hp.objs.size + 1) = some (excO C hp.objs.size) := by heap_get
  have hnx : K.lookup (hp.objs.size + 1) = none := by
    cases e : K.lookup (hp.objs.size + 1) with
    | none => rfl
    | some o =>
      have z : hp.get? (hp.objs.size + 1) = some o := X _ _ e
      exact absurd (Nat.lt_of_succ_lt (Heap.lt_size z)) (Nat.lt_irrefl _)
  refine call_own F.excBase_ValueError (fun X => refsVE_contains X bm hbm) (X _ _ hC) (looks_findIn X T.iC) (fun self => bind_fn X self T.tC) (by show 1 ≤ sizeLine; decide) ?_
  refine p_init (s := ⟨(hp.push (kdv_tup [v])).push (excO C hp.objs.size), g, dr, tk, os⟩) T M (fun b o e => k b o (bk b o e)) hget hnx ?_ hv fun h' tk' dx ⟨k', ⟨t1, hx⟩, dn, dne, hns⟩ => ?_
  · show A.depth + 1 < recursionLimit
    exact hroom
  · have old : ∀ b o, hp.get? b = some o → h'.get? b = some o := fun b o e => k' b o (Nat.ne_of_lt (Nat.lt_succ_of_lt (Heap.lt_size e))) (k b o e)
    have z : hp.objs.size + 1 + 1 ≤ dx := by
      first
        | (simpa only [Heap.size_push] using dn)
        | exact dn
        | (have q := dn; rw [Heap.size_push, Heap.size_push] at q; exact q)
    exact ⟨rfl, hq h' tk' (hp.objs.size + 1) dx ⟨old, Nat.le_succ _, ⟨_, _, hx, rfl, rfl, rfl, rfl⟩, Nat.le_trans (Nat.le_trans (Nat.le_succ _) (Nat.le_succ _)) z, dne, hns⟩⟩
end
end Xp
namespace L2
open PySem PySem.Spec PyProof.Rows
theorem relO_part {v : V} {v' : Value} (r : RelV v v') (f : Str) : RelO (List.lookup f [(Xp.F1, v)]) (if f = Xp.F1 then some v' else none) := by
  by_cases hw : f = Xp.F1
  · subst hw
    rw [if_pos rfl]
    have q : List.lookup Xp.F1 [(Xp.F1, v)] = some v := by simp [List.lookup]
    rw [q]
    exact r
  · rw [if_neg hw]
    have qw : (f == Xp.F1) = false := by simpa using hw
    have q2 : List.lookup f [(Xp.F1, v)] = none := by simp [List.lookup, qw]
    rw [q2]
    trivial
/-- what the message may take in -/
def MsgV : V → Prop
  | .str y => y.length ≤ 1000
  | .int i => i.natAbs.log2 < 1000 ∧ (Str.ofString (toString i)).length ≤ 1000
  | _ => False
theorem MsgV.of {v : V} {u : Value} (h : MsgV v) (r : RelV v u) : Xp.Msg u := by
  cases v with
  | str y => obtain ⟨t, rfl⟩ := r; exact .str y t h
  | int i => obtain ⟨t, rfl⟩ := r; exact .int i t h.1 h.2
  | _ => exact h.elim
section
variable {X : Cx} {C fI : Addr} {cn : Str}
/-- the error's making -/
def tMkPart (C : Addr) (ta : TA) : St → Hp → XK → Prop := fun σ H Q => ta σ H fun vs H1 => ∃ v, vs = [v] ∧ MsgV v ∧ ∀ d, H1 d = none → Q (.ref C) (some d) (upd H1 d (.xd [(Xp.F1, v)]))
theorem pmk_part {a : Expr} {ta : TA} {p pos : Pos} {k : Nat} (T : Xp.PTxt X.prog X.K X.mg cn C fI) (hr : Room k X.A) (ha : PA X [a] ta) (hg : Gl X cn := by rfl) (hdb : (cn == ("__debug__" : Str)) = false := by decide)
    (he : starEach (a :: []) X.env = (false, eval a X.env) :: starEach [] X.env := by rfl) (hpl : (backTo pos (starEach [] X.env)).any (·.1) = false := by rfl) :
    PMk X (.Call (.Name cn p) [a] [] pos) (tMkPart C ta) := by
  intro pins s σ H Q I h
  refine wpAny_Call_Name_kw (ld_glob I hg T.gC ?_ hdb)
  refine PySem.W.callWith_K (h₀ := X.base) I.ok.mod.kin T.kC (thn (ha.run pos pins s σ H _ I h) fun us s1 hh => ?_) he hpl
  obtain ⟨vs, H1, I1, r1, v, ev, hm, q1⟩ := hh
  subst ev
  refine ⟨I1.kIn, ?_⟩
  cases r1 with
  | cons rv rn =>
    rename_i v' us'
    cases rn
    show wpAny _ _ (call (.ref C) [v']) _ _ _
    have hmod := I1.mod
    have hbk := I1.bk
    obtain ⟨hp, g, dr, tk, os⟩ := s1
    refine wpAny_call (Xp.p_made T hmod hbk (by have := hr.dp; omega) (hm.of rv) fun h' tk' e d M => ?_)
    show MkP X pins σ Q (.ref e) ⟨h', g, dr, tk', os⟩
    obtain ⟨oe, fv, hoe, hc, hd, hdat, h1⟩ := M.obj
    have hns := M.ns
    obtain ⟨G', g1, g2⟩ := restrict h' fun b => decide (b ≠ e)
    have gk : ∀ b, b ≠ e → G'.get? b = h'.get? b := fun b hb => g1 b (decide_eq_true hb)
    have ge : G'.get? e = none := g2 e (by simp)
    have old : ∀ b o, hp.get? b = some o → G'.get? b = some o := fun b o q => (gk b (Nat.ne_of_lt (Nat.lt_of_lt_of_le (Heap.lt_size q) M.new))).trans (M.keep b o q)
    have ob : ObjOk X.prog X.w (upd H1 d (.xd [(Xp.F1, v)])) G' d (.xd [(Xp.F1, v)]) :=
      ⟨_, hns.at (fun o q => (gk d M.dne).trans q), fun f => relO_part rv f⟩
    have J : Inv X pins σ (upd H1 d (.xd [(Xp.F1, v)])) ⟨G', g, dr, tk', os⟩ := I1.laid (t' := tk') old M.dbig ob
    refine ⟨e, oe, fv, ⟨G', g, dr, tk', os⟩, _, .ref C, some d, rfl, J, fun b o q => ?_, ge, hoe, ⟨hc, hd⟩, hdat, h1, ?_, rfl, I1.bare, raises_own T.exC T.tyC, q1 d (I1.hok.fresh M.dbig)⟩
    · by_cases hb : b = e
      · have q' : G'.get? b = some o := q
        rw [hb, ge] at q'; cases q'
      · exact (gk b hb).symm.trans q
    · rw [upd_ne (Ne.symm M.dne)]
      exact I1.hok.fresh M.new
/-- raise cn(e) -/
def tRaisePart (C : Addr) (W : WX) (ta : TA) : TS := fun _ σ H => tMkPart C ta σ H fun cls d H' => W cls d σ H'
theorem ps_raisePart {a : Expr} {ta : TA} {W : WX} {p pos pos2 : Pos} {k : Nat} (hc : X.calm = true) (T : Xp.PTxt X.prog X.K X.mg cn C fI) (hr : Room k X.A) (tk : Takes X W) (ha : PA X [a] ta) (hg : Gl X cn := by rfl) (hdb : (cn == ("__debug__" : Str)) = false := by decide)
    (he : starEach (a :: []) X.env = (false, eval a X.env) :: starEach [] X.env := by rfl) (hpl : (backTo pos (starEach [] X.env)).any (·.1) = false := by rfl) :
    PS X (.Raise (some (.Call (.Name cn p) [a] [] pos)) none pos2) (tRaisePart C W ta) := ps_raise hc tk (pmk_part T hr ha hg hdb he hpl)
end
end L2

/-! An own error over ValueError (through another own class) whose __init__ says super().__init__(f'..{index}') and keeps the field index. -/
namespace Xi
open PySem PySem.W PySem.Calls PyProof.Rows PySem.HandSPX
abbrev F1 : Str := "index"
/-- the __init__'s text -/
def pA (q1 q2 : Pos) : Arguments := { posonlyargs := [], args := [{ arg := "self", annotation := none, pos := q1 }, { arg := F1, annotation := none, pos := q2 }], vararg := none, kwonlyargs := [], kw_defaults := [], kwarg := none, defaults := [] }
def pB (lit : Str) (a1 a2 a3 a4 a5 a6 a7 a8 a9 b1 b2 b3 b4 : Pos) : List Stmt :=
  [.Expr (.Call (.Attribute (.Call (.Name "super" a1) [] [] a2) "__init__" a3) [.JoinedStr [.Constant (.str lit) 0 a4, .FormattedValue (.Name F1 a5) (-1) none a6] a7] [] a8) a9,
   .Assign [.Attribute (.Name "self" b1) F1 b2] (.Name F1 b3) b4]
def pS : Scope := { kind := .function, names := [(PySem.Str.ofString "self", .local), (PySem.Str.ofString "index", .local), (PySem.Str.ofString "__class__", .free), (PySem.Str.ofString "super", .globalImplicit)], isGenerator := false, isCoroutine := false, more := [] }
/-- what is known of the class at C and of its __init__ at fI -/
structure PTxt (prog : Program) (K : Frag) (mg : Str → Option Value) (cn : Str) (C fI : Addr) : Prop where
  gC : mg cn = some (.ref C)
  cls : ∃ nm q N bs bm sn sub ab col dd k0 k1 k2 k3 k5, K.lookup C = some (excClassObj nm q C N bs bm true sn sub ab col dd k0 k1 k2 k3 k5 "ValueError.__new__") ∧ refsVE bm = true
  sa : findIn K (.ref C) "__setattr__" = some (some (.builtin "object.__setattr__"))
  ga : findIn K (.ref C) "__getattribute__" = some (some (.builtin "BaseException.__getattribute__"))
  gg : findIn K (.ref C) "__getattr__" = some none
  noN : findIn K (.ref C) F1 = some none
  iC : findIn K (.ref C) "__init__" = some (some (.ref fI))
  tC : typeIn K (.ref fI) = some (.type "function")
  kC : keepIn K (.ref C) = true
  exC : subIn K (.ref C) (.type "BaseException") = some true
  veC : subIn K (.ref C) (.type "ValueError") = some true
  tyC : typeIn K (.ref C) = some (.type "type")
  hdC : hasDictIn K C = true
  mC : mroIn K C (.ref C) = some true
  su : ks_superIn K C C "__init__" = some (some (.builtin "ValueError.__init__"))
  op : nsIn K cStatics "thirdparty.any" = some none
  gs : mg "super" = none
  top : (prog.main.scope.names.lookup ("super" : Str)).isSome = false
  fn : ∃ (lit : Str) (oc : Value) (od : Option Addr) (kV doc pm : Value) (an : Option Addr) (cda cc : Addr) (ct : Value) (osl : Array (Option Value)) (qn : Str) (q1 q2 a1 a2 a3 a4 a5 a6 a7 a8 a9 b1 b2 b3 b4 : Pos),
    lit.length ≤ 100 ∧ (a3.endLine == a8.line) = true ∧ K.lookup fI = some ⟨oc, od, .func (ksFn "__init__" qn (pA q1 q2) (pB lit a1 a2 a3 a4 a5 a6 a7 a8 a9 b1 b2 b3 b4) pS .none kV doc pm an (.ref cda) ct cc), osl⟩ ∧ codeIn K (.ref cda) qn = true ∧
    (∃ (ccl : Value) (cdd : Option Addr) (vs : Array Value) (ccs : Array (Option Value)) (file : Str) (tf : Tok), K.lookup cda = some ⟨ccl, cdd, .fields vs, ccs⟩ ∧ vs[2]? = some (.str file tf) ∧ ((prog.main.file : Str) == file) = true) ∧
    ∃ (cl : Value) (cld : Option Addr) (csl : Array (Option Value)), K.lookup cc = some ⟨cl, cld, .cell (some (.ref C)), csl⟩
/-- a value that the message takes in -/
inductive Msg : Value → Prop where
  | str (y : Str) (t : Tok) (h : y.length ≤ 1000) : Msg (.str y t)
  | int (i : Int) (t : Tok) (h : i.natAbs.log2 < 1000) (h2 : (Str.ofString (toString i)).length ≤ 1000) : Msg (.int i t)
/-- what __init__ leaves -/
structure PEnd (h h' : Heap) (x C dx : Addr) (v : Value) : Prop where
  keep : ∀ b o, b ≠ x → h.get? b = some o → h'.get? b = some o
  obj : ∃ t1 : Addr, h'.get? x = some { cls := .ref C, dict := some dx, data := .fields #[.ref t1, .none, .none, .none, .bool false, .none] }
  dbig : h.objs.size ≤ dx
  dne : dx ≠ x
  ns : h'.Ns1 dx (fun y => if y = F1 then some v else none)
section
variable {prog : Program} {w : World} {A : Around} {E : Value → Shared → Prop} {R : Result → Shared → Prop} {s : Shared} {K : Frag} {mg : Str → Option Value} {cn : Str} {C fI : Addr} {base : Heap}
theorem call_form {o : Expr} {name : Str} {apos pos : Pos} {e : Expr} {env : Env} (h : (apos.endLine == pos.line) = true) (hp : (backTo pos (starEach [e] env)).all (!·.1) = true := by rfl) :
    eval (.Call (.Attribute o name apos) [e] [] pos) env = (do
      let ov ← attributeBase o name env (eval o env)
      standAt apos.atName
      let (f, first) ← holding [ov] (getMethod ov name (do return (← importBound o env).getD true))
      callWith pos f first (backTo pos (starEach [e] env)) []) := by
  have z : ∀ few, methodCallPos few o env apos pos = pure pos := fun few => by unfold methodCallPos; simp [h]
  have f : methodCallForm 1 (backTo pos (starEach [e] env)) (backToKw pos (keywordEach [] env)) = true := by
    unfold methodCallForm
    rw [hp]
    rfl
  rw [arm_eval_Call]
  unfold methodCall
  simp only [List.length_cons, List.length_nil, Nat.zero_add, Nat.add_zero, f, z, pure_bind, calleeOf, if_true]
  rfl
/-- the message -/
theorem p_msg {env : Env} {m : Str → Option Value} {lit : Str} {v : Value} {a4 a5 a6 a7 : Pos} {Q : Value → Shared → Prop} (hlit : lit.length ≤ 100) (hv : Msg v) (hk : env.scope.kind = .function) (hl : env.kindOf F1 = some .local) (hn : s.heap.Ns env.locals m) (hm : m F1 = some v)
    (h : ∀ y t tk, Q (.str y t) { s with toks := tk }) : wpAny (model prog w) A (eval (.JoinedStr [.Constant (.str lit) 0 a4, .FormattedValue (.Name F1 a5) (-1) none a6] a7) env) Q E s := by
  have hz : ∀ n : Nat, n ≤ 3000 → n ≤ sizeLine := fun n hn => Nat.le_trans hn (by decide)
  have le0 : (Str.empty ++ lit).length ≤ 100 := by rw [strLen_append]; exact (by show 0 + lit.length ≤ 100; omega)
  refine wpAny_JoinedStr ?_
  have e1 : evalEach [Expr.Constant (Const.str lit) 0 a4, Expr.FormattedValue (Expr.Name F1 a5) (-1) none a6] env = [eval (Expr.Constant (Const.str lit) 0 a4) env, eval (Expr.FormattedValue (Expr.Name F1 a5) (-1) none a6) env] := by first | rfl | simp [evalEach]
  rw [e1]
  refine wpAny_Constant_str ⟨lit, _, rfl, hz _ (by omega), ?_⟩
  refine wpAny_FormattedValue_plain (wpAny_Name (wpAny_loadName_local hk hl hn hm ?_))
  cases hv with
  | str y t hy =>
    have le1 : (Str.empty ++ lit ++ y).length ≤ 3000 := by rw [strLen_append]; omega
    exact wpAny_formatField_str ⟨y, t, rfl, hz _ le1, hz _ le1, h _ _ _⟩ ⟨y, _, rfl, hz _ le1, hz _ le1, h _ _ _⟩ (hz _ (by omega))
  | int i t hi h2 =>
    have le1 : (Str.empty ++ lit ++ toString i).length ≤ sizeLine := by
      rw [strLen_append]
      exact hz _ (by omega)
    exact wpAny_formatField_int (by omega) ⟨_, _, rfl, le1, le1, h _ _ _⟩
/-- ValueError.__init__, bound to e, called -/
theorem p_wrap {nm q : Str} {N : Addr} {bs bm : List Value} {hdct : Bool} {sn : List Str} {sub : List Value} {ab : Bool} {col : Option Bool} {dd : Option Addr} {k0 k1 k2 k3 k5 : Option Value} {u e t0 : Addr} {z : Value} {vs : List Value} {Q : Value → Shared → Prop}
    (hC : s.heap.get? C = some (excClassObj nm q C N bs bm hdct sn sub ab col dd k0 k1 k2 k3 k5 "ValueError.__new__")) (he : s.heap.get? e = some (excO C t0)) (hu : s.heap.get? u = some (kxs_mw "ValueError.__init__" e)) (hvs : vs = [z])
    (hq : ∀ h' t1, (∀ b o, b ≠ e → s.heap.get? b = some o → h'.get? b = some o) → h'.get? e = some (excO C t1) → Q .none { s with heap := h' }) :
    wpAny (model prog w) A (call (.ref u) vs) Q E s := by
  subst hvs
  have FB := F.excBase_ValueError
  obtain ⟨hh, g, d, tk, os⟩ := s
  refine wpAny_call (codeAny_of_tree ?_)
  show wpAny _ A.in1 (callAny (.ref u) ⟨[z], []⟩) _ _ _
  unfold callAny
  refine wpAny_bind (wpAny_load hu ?_)
  have m1 : (Value.type "method-wrapper" == Value.type "method" || Value.type "method-wrapper" == Value.type "builtin_function_or_method" || Value.type "method-wrapper" == Value.type "method-wrapper") = true := by decide
  simp only [kxs_mw, m1, if_true]
  refine KFB.if_so (by decide) (wpAny_bind (check_bound_init FB.toExcCallFacts hC he rfl ?_))
  refine wpAny_bind (wpAny_pure (wpAny_pure ⟨plainId_quiet FB.init.plain _, codeAny_builtin FB.initEntry ?_⟩))
  refine exc_init_tree (cls := .ref C) (t0 := t0) (dv := none) (c2 := .none) (c3 := .none) (b4 := .bool false) (rest := [z]) he (by show 1 ≤ sizeLine; decide) fun h' kk ee _ => ?_
  exact hq h' _ kk ee
theorem p_init (T : PTxt prog K mg cn C fI) {x t0 : Addr} {v : Value} (M : L2.Mod K mg base) (bk : ∀ b o, base.get? b = some o → s.heap.get? b = some o) (hx : s.heap.get? x = some (excO C t0)) (hnx : K.lookup x = none) (hroom : A.depth < recursionLimit) (hv : Msg v)
    (hq : ∀ h' tk dx, PEnd s.heap h' x C dx v → R (.ok (.ret .none)) { s with heap := h', toks := tk }) :
    codeAny (model prog w) A (.call (.ref fI) ⟨[.ref x, v], []⟩) R s := by
  obtain ⟨lit, oc, od, kV, doc, pm, an, cda, cc, ct, osl, qn, q1, q2, a1, a2, a3, a4, a5, a6, a7, a8, a9, b1, b2, b3, b4, hlit, hline, lk, hcd, ⟨ccl, cdd, vs, ccs, file, tf, hcda, hvs, hfile⟩, cl, cld, csl, hcc⟩ := T.fn
  obtain ⟨nm, q, N, bs, bm, sn, sub, ab, col, dd, k0, k1, k2, k3, k5, hC, hbm⟩ := T.cls
  have hcl : clsIn K C = some { name := nm, bases := bs, mro := .ref C :: bm, ns := N, qualname := q, hasDict := true, slotNames := sn, subclasses := sub, abstract := ab, collection := col, hasDel := false } := by unfold clsIn; rw [hC] <;> rfl
  obtain ⟨mb, hmb, hbb⟩ := M.blt
  have X : K.In s.heap := M.kin.keeps bk
  refine ks_codeAny_call_defAt (fd := ksFn "__init__" qn (pA q1 q2) (pB lit a1 a2 a3 a4 a5 a6 a7 a8 a9 b1 b2 b3 b4) pS .none kV doc pm an (.ref cda) ct cc) (binds := [("self", .ref x), (F1, v)]) hroom (X _ _ lk) rfl (M.nolimit.keeps bk) (codeRec_of X hcd) rfl (BindsTo.of_eq rfl) (show ∀ y ∈ pS.names, y.2 ≠ .cell by decide) (by intro y hy; simp only [List.mem_cons, List.not_mem_nil, or_false] at hy; rcases hy with rfl | rfl <;> rfl) (fun h₀ hns kp => ?_) rfl rfl rfl
  have X0 : K.In h₀ := X.keeps kp
  have bk0 : ∀ b o, base.get? b = some o → h₀.get? b = some o := fun b o e => kp b o (bk b o e)
  have hx0 := kp _ _ hx
  have hL : s.heap.objs.size ≠ x := Nat.ne_of_gt (Heap.lt_size hx)
  have lk0 := X0 _ _ lk
  refine ks_wpAt_execs_cons (ks_wpAt_Expr_any (ks_wpAt_MethodCall (pl := (do return (← importBound (.Call (.Name "super" a1) [] [] a2) (callEnv (ksFn "__init__" qn (pA q1 q2) (pB lit a1 a2 a3 a4 a5 a6 a7 a8 a9 b1 b2 b3 b4) pS .none kV doc pm an (.ref cda) ct cc) s.heap.objs.size fI)).getD true)) ?_ (call_form hline)))
  refine ks_wpAt_super_base (fd := ksFn "__init__" qn (pA q1 q2) (pB lit a1 a2 a3 a4 a5 a6 a7 a8 a9 b1 b2 b3 b4) pS .none kV doc pm an (.ref cda) ct cc) rfl rfl (by decide) rfl lk0 rfl rfl rfl (X0 _ _ hcda) rfl hvs hfile T.top ?_
  refine ks_loadName_global rfl rfl (loadGlobal_builtin (mg := mg) (mb := mb) (v := .type "super") (M.glob.keeps bk0) T.gs (hmb.keeps bk0) ((hbb _ (by decide +kernel)).trans (by decide +kernel)) ⟨rfl, ?_⟩)
  refine wpAny_loadName_free (c := cc) rfl rfl rfl ⟨_, X0 _ _ hcc, rfl⟩ ?_
  refine wpAny_loadName_local rfl rfl hns (v := .ref x) (by first | rfl | with_unfolding_all rfl | kernel_rfl) ?_
  refine ks_wpAny_isType_cls (X0 _ _ hC) rfl ⟨rfl, ?_⟩
  refine ks_wpAny_call_super (X0 _ _ hC) rfl hx0 rfl (fun c z => nomatch z) (looks_mroIn X0 T.mC) (fun h' e k => ?_)
  have X1 : K.In h' := X0.keeps k
  have hx1 := k _ _ hx0
  have hsu := T.su
  unfold ks_superIn at hsu
  rw [hcl] at hsu
  have I1 : InstAt h' x (excO C t0) C none := ⟨hx1, rfl, rfl, trivial⟩
  refine kxs_getMethod kxs_ValueError (l₀ := .ref C :: bm) e (looks_opaque X1 T.op) ?_ rfl X1 hsu (I1.type.andThen (looks_subIn X1 T.veC)) (ks_ne X1 I1 hcl) (by decide) ?_
  · exact fun A Q E s k q => wpAny_bind ((looks_clsIn X1 hcl) A _ E s k (wpAny_pure q))
  -- the wrapper at u, then the message
  have hu : (h'.push (kxs_mw "ValueError.__init__" x)).get? h'.objs.size = some (kxs_mw "ValueError.__init__" x) := Heap.get?_push_at rfl rfl
  have k2 : ∀ b o, h'.get? b = some o → (h'.push (kxs_mw "ValueError.__init__" x)).get? b = some o := fun b o e => Heap.get?_push_of_some _ e
  have hns2 : (h'.push (kxs_mw "ValueError.__init__" x)).Ns s.heap.objs.size fun z => List.lookup z [(Str.ofString "self", Value.ref x), (F1, v)].reverse := (hns.keeps k).keeps k2
  refine kxs_callWith (i := "ValueError.__init__") (x := x) rfl ?_
  refine evalArgs_plain (spliced_cons (p_msg (a7 := a7) hlit hv rfl rfl hns2 (by first | rfl | with_unfolding_all rfl | kernel_rfl) fun z tz tk => spliced_nil ⟨hu, ?_⟩))
  refine p_wrap (C := C) (k2 _ _ (X1.keeps (fun _ _ z => z) _ _ hC)) (k2 _ _ hx1) hu rfl fun h3 t1 k3 e3 => ?_
  have kx : ∀ b o, b ≠ x → s.heap.get? b = some o → h3.get? b = some o := fun b o hb z => k3 b o hb (k2 _ _ (k _ _ (kp _ _ z)))
  have hns3 : h3.Ns s.heap.objs.size fun z => List.lookup z [(Str.ofString "self", Value.ref x), (F1, v)].reverse := by
    obtain ⟨o, es, ep, z, r⟩ := hns2
    exact ⟨o, es, ep, k3 _ _ hL z, r⟩
  have nK : ∀ b o, K.lookup b = some o → b ≠ x := fun b o z y => by
    rw [y, hnx] at z
    cases z
  have X3 : K.In h3 := fun b o z => kx b o (nK b o z) (X _ _ z)
  -- self.part = part
  refine wpAt_of_wpAny (wpAny_execs_cons (plainObj_wpAny_Assign_Attribute ?_))
  refine wpAny_Name (wpAny_loadName_local rfl rfl hns3 (v := v) (by first | rfl | with_unfolding_all rfl | kernel_rfl) ?_)
  refine wpAny_Name (wpAny_loadName_local rfl rfl hns3 (v := .ref x) (by first | rfl | with_unfolding_all rfl | kernel_rfl) ?_)
  refine set_plain X3 (ox := excO C t1) (od := none) ⟨e3, rfl, rfl, trivial⟩ T.sa ?_
  refine exc_osa X3 e3 hcl (show refsVE (.ref C :: bm) = true from hbm) rfl T.noN (fun h5 tk5 dx k5 dn dne hx5 hn5 => ?_)
  have z : s.heap.objs.size ≤ h3.objs.size := by
    obtain ⟨o, es, ep, z, r⟩ := hns3
    exact Nat.le_of_lt (Heap.lt_size z)
  exact wpAny_execs_nil (hq h5 tk5 dx ⟨fun b o hb e => k5 b o hb (kx b o hb e), ⟨_, hx5⟩, Nat.le_trans z dn, dne, hn5⟩)
/-- a made error: e, its own dict d -/
structure PMade (h h' : Heap) (e C d : Addr) (v : Value) : Prop where
  keep : ∀ b o, h.get? b = some o → h'.get? b = some o
  new : h.objs.size ≤ e
  obj : ∃ oe vs, h'.get? e = some oe ∧ oe.cls = .ref C ∧ oe.dict = some d ∧ oe.data = .fields vs ∧ vs[1]? = some .none
  dbig : h.objs.size ≤ d
  dne : d ≠ e
  ns : h'.Ns1 d (fun y => if y = F1 then some v else none)
theorem p_made (T : PTxt prog K mg cn C fI) {v : Value} (M : L2.Mod K mg base) (bk : ∀ b o, base.get? b = some o → s.heap.get? b = some o) (hroom : A.depth + 1 < recursionLimit) (hv : Msg v)
    (hq : ∀ h' tk e d, PMade s.heap h' e C d v → R (.ok (.ret (.ref e))) { s with heap := h', toks := tk }) :
    codeAny (model prog w) A (.call (.ref C) ⟨[v], []⟩) R s := by
  have X : K.In s.heap := M.kin.keeps bk
  obtain ⟨nm, q, N, bs, bm, sn, sub, ab, col, dd, k0, k1, k2, k3, k5, hC, hbm⟩ := T.cls
  obtain ⟨hp, g, dr, tk, os⟩ := s
  have k : ∀ b o, hp.get? b = some o → ((hp.push (kdv_tup [v])).push (excO C hp.objs.size)).get? b = some o := fun b o e => Heap.get?_push_of_some _ (Heap.get?_push_of_some _ e)
  have hget : ((hp.push (kdv_tup [v])).push (excO C hp.objs.size)).get? (hp.objs.size + 1) = some (excO C hp.objs.size) := by heap_get
  have hnx : K.lookup (hp.objs.size + 1) = none := by
    cases e : K.lookup (hp.objs.size + 1) with
    | none => rfl
    | some o =>
      have z : hp.get? (hp.objs.size + 1) = some o := X _ _ e
      exact absurd (Nat.lt_of_succ_lt (Heap.lt_size z)) (Nat.lt_irrefl _)
  refine call_own F.excBase_ValueError (fun X => refsVE_contains X bm hbm) (X _ _ hC) (looks_findIn X T.iC) (fun self => bind_fn X self T.tC) (by show 1 ≤ sizeLine; decide) ?_
  refine p_init (s := ⟨(hp.push (kdv_tup [v])).push (excO C hp.objs.size), g, dr, tk, os⟩) T M (fun b o e => k b o (bk b o e)) hget hnx ?_ hv fun h' tk' dx ⟨k', ⟨t1, hx⟩, dn, dne, hns⟩ => ?_
  · show A.depth + 1 < recursionLimit
    exact hroom
  · have old : ∀ b o, hp.get? b = some o → h'.get? b = some o := fun b o e => k' b o (Nat.ne_of_lt (Nat.lt_succ_of_lt (Heap.lt_size e))) (k b o e)
    have z : hp.objs.size + 1 + 1 ≤ dx := by
      first
        | (simpa only [Heap.size_push] using dn)
        | exact dn
        | (have q := dn; rw [Heap.size_push, Heap.size_push] at q; exact q)
    exact ⟨rfl, hq h' tk' (hp.objs.size + 1) dx ⟨old, Nat.le_succ _, ⟨_, _, hx, rfl, rfl, rfl, rfl⟩, Nat.le_trans (Nat.le_trans (Nat.le_succ _) (Nat.le_succ _)) z, dne, hns⟩⟩
end
end Xi
namespace L2
open PySem PySem.Spec PyProof.Rows
theorem relO_idx {v : V} {v' : Value} (r : RelV v v') (f : Str) : RelO (List.lookup f [(Xi.F1, v)]) (if f = Xi.F1 then some v' else none) := by
  by_cases hw : f = Xi.F1
  · subst hw
    rw [if_pos rfl]
    have q : List.lookup Xi.F1 [(Xi.F1, v)] = some v := by simp [List.lookup]
    rw [q]
    exact r
  · rw [if_neg hw]
    have qw : (f == Xi.F1) = false := by simpa using hw
    have q2 : List.lookup f [(Xi.F1, v)] = none := by simp [List.lookup, qw]
    rw [q2]
    trivial
/-- what the message may take in -/
def MsgI : V → Prop
  | .str y => y.length ≤ 1000
  | .int i => i.natAbs.log2 < 1000 ∧ (Str.ofString (toString i)).length ≤ 1000
  | _ => False
theorem MsgI.of {v : V} {u : Value} (h : MsgI v) (r : RelV v u) : Xi.Msg u := by
  cases v with
  | str y => obtain ⟨t, rfl⟩ := r; exact .str y t h
  | int i => obtain ⟨t, rfl⟩ := r; exact .int i t h.1 h.2
  | _ => exact h.elim
section
variable {X : Cx} {C fI : Addr} {cn : Str}
/-- the error's making -/
def tMkIdx (C : Addr) (ta : TA) : St → Hp → XK → Prop := fun σ H Q => ta σ H fun vs H1 => ∃ v, vs = [v] ∧ MsgI v ∧ ∀ d, H1 d = none → Q (.ref C) (some d) (upd H1 d (.xd [(Xi.F1, v)]))
theorem pmk_idx {a : Expr} {ta : TA} {p pos : Pos} {k : Nat} (T : Xi.PTxt X.prog X.K X.mg cn C fI) (hr : Room k X.A) (ha : PA X [a] ta) (hg : Gl X cn := by rfl) (hdb : (cn == ("__debug__" : Str)) = false := by decide)
    (he : starEach (a :: []) X.env = (false, eval a X.env) :: starEach [] X.env := by rfl) (hpl : (backTo pos (starEach [] X.env)).any (·.1) = false := by rfl) :
    PMk X (.Call (.Name cn p) [a] [] pos) (tMkIdx C ta) := by
  intro pins s σ H Q I h
  refine wpAny_Call_Name_kw (ld_glob I hg T.gC ?_ hdb)
  refine PySem.W.callWith_K (h₀ := X.base) I.ok.mod.kin T.kC (thn (ha.run pos pins s σ H _ I h) fun us s1 hh => ?_) he hpl
  obtain ⟨vs, H1, I1, r1, v, ev, hm, q1⟩ := hh
  subst ev
  refine ⟨I1.kIn, ?_⟩
  cases r1 with
  | cons rv rn =>
    rename_i v' us'
    cases rn
    show wpAny _ _ (call (.ref C) [v']) _ _ _
    have hmod := I1.mod
    have hbk := I1.bk
    obtain ⟨hp, g, dr, tk, os⟩ := s1
    refine wpAny_call (Xi.p_made T hmod hbk (by have := hr.dp; omega) (hm.of rv) fun h' tk' e d M => ?_)
    show MkP X pins σ Q (.ref e) ⟨h', g, dr, tk', os⟩
    obtain ⟨oe, fv, hoe, hc, hd, hdat, h1⟩ := M.obj
    have hns := M.ns
    obtain ⟨G', g1, g2⟩ := restrict h' fun b => decide (b ≠ e)
    have gk : ∀ b, b ≠ e → G'.get? b = h'.get? b := fun b hb => g1 b (decide_eq_true hb)
    have ge : G'.get? e = none := g2 e (by simp)
    have old : ∀ b o, hp.get? b = some o → G'.get? b = some o := fun b o q => (gk b (Nat.ne_of_lt (Nat.lt_of_lt_of_le (Heap.lt_size q) M.new))).trans (M.keep b o q)
    have ob : ObjOk X.prog X.w (upd H1 d (.xd [(Xi.F1, v)])) G' d (.xd [(Xi.F1, v)]) :=
      ⟨_, hns.at (fun o q => (gk d M.dne).trans q), fun f => relO_idx rv f⟩
    have J : Inv X pins σ (upd H1 d (.xd [(Xi.F1, v)])) ⟨G', g, dr, tk', os⟩ := I1.laid (t' := tk') old M.dbig ob
    refine ⟨e, oe, fv, ⟨G', g, dr, tk', os⟩, _, .ref C, some d, rfl, J, fun b o q => ?_, ge, hoe, ⟨hc, hd⟩, hdat, h1, ?_, rfl, I1.bare, raises_own T.exC T.tyC, q1 d (I1.hok.fresh M.dbig)⟩
    · by_cases hb : b = e
      · have q' : G'.get? b = some o := q
        rw [hb, ge] at q'; cases q'
      · exact (gk b hb).symm.trans q
    · rw [upd_ne (Ne.symm M.dne)]
      exact I1.hok.fresh M.new
/-- raise cn(e) -/
def tRaiseIdx (C : Addr) (W : WX) (ta : TA) : TS := fun _ σ H => tMkIdx C ta σ H fun cls d H' => W cls d σ H'
theorem ps_raiseIdx {a : Expr} {ta : TA} {W : WX} {p pos pos2 : Pos} {k : Nat} (hc : X.calm = true) (T : Xi.PTxt X.prog X.K X.mg cn C fI) (hr : Room k X.A) (tk : Takes X W) (ha : PA X [a] ta) (hg : Gl X cn := by rfl) (hdb : (cn == ("__debug__" : Str)) = false := by decide)
    (he : starEach (a :: []) X.env = (false, eval a X.env) :: starEach [] X.env := by rfl) (hpl : (backTo pos (starEach [] X.env)).any (·.1) = false := by rfl) :
    PS X (.Raise (some (.Call (.Name cn p) [a] [] pos)) none pos2) (tRaiseIdx C W ta) := ps_raise hc tk (pmk_idx T hr ha hg hdb he hpl)
end
end L2

/-! An own error over ValueError (through another own class) whose __init__ says super().__init__(f'..{index}') and keeps the field offset. -/
namespace Xo
open PySem PySem.W PySem.Calls PyProof.Rows PySem.HandSPX
abbrev F1 : Str := "offset"
/-- the __init__'s text -/
def pA (q1 q2 : Pos) : Arguments := { posonlyargs := [], args := [{ arg := "self", annotation := none, pos := q1 }, { arg := F1, annotation := none, pos := q2 }], vararg := none, kwonlyargs := [], kw_defaults := [], kwarg := none, defaults := [] }
def pB (lit : Str) (a1 a2 a3 a4 a5 a6 a7 a8 a9 b1 b2 b3 b4 : Pos) : List Stmt :=
  [.Expr (.Call (.Attribute (.Call (.Name "super" a1) [] [] a2) "__init__" a3) [.JoinedStr [.Constant (.str lit) 0 a4, .FormattedValue (.Name F1 a5) (-1) none a6] a7] [] a8) a9,
   .Assign [.Attribute (.Name "self" b1) F1 b2] (.Name F1 b3) b4]
def pS : Scope := { kind := .function, names := [(PySem.Str.ofString "self", .local), (PySem.Str.ofString "offset", .local), (PySem.Str.ofString "__class__", .free), (PySem.Str.ofString "super", .globalImplicit)], isGenerator := false, isCoroutine := false, more := [] }
/-- what is known of the class at C and of its __init__ at fI -/
structure PTxt (prog : Program) (K : Frag) (mg : Str → Option Value) (cn : Str) (C fI : Addr) : Prop where
  gC : mg cn = some (.ref C)
  cls : ∃ nm q N bs bm sn sub ab col dd k0 k1 k2 k3 k5, K.lookup C = some (excClassObj nm q C N bs bm true sn sub ab col dd k0 k1 k2 k3 k5 "ValueError.__new__") ∧ refsVE bm = true
  sa : findIn K (.ref C) "__setattr__" = some (some (.builtin "object.__setattr__"))
  ga : findIn K (.ref C) "__getattribute__" = some (some (.builtin "BaseException.__getattribute__"))
  gg : findIn K (.ref C) "__getattr__" = some none
  noN : findIn K (.ref C) F1 = some none
  iC : findIn K (.ref C) "__init__" = some (some (.ref fI))
  tC : typeIn K (.ref fI) = some (.type "function")
  kC : keepIn K (.ref C) = true
  exC : subIn K (.ref C) (.type "BaseException") = some true
  veC : subIn K (.ref C) (.type "ValueError") = some true
  tyC : typeIn K (.ref C) = some (.type "type")
  hdC : hasDictIn K C = true
  mC : mroIn K C (.ref C) = some true
  su : ks_superIn K C C "__init__" = some (some (.builtin "ValueError.__init__"))
  op : nsIn K cStatics "thirdparty.any" = some none
  gs : mg "super" = none
  top : (prog.main.scope.names.lookup ("super" : Str)).isSome = false
  fn : ∃ (lit : Str) (oc : Value) (od : Option Addr) (kV doc pm : Value) (an : Option Addr) (cda cc : Addr) (ct : Value) (osl : Array (Option Value)) (qn : Str) (q1 q2 a1 a2 a3 a4 a5 a6 a7 a8 a9 b1 b2 b3 b4 : Pos),
    lit.length ≤ 100 ∧ (a3.endLine == a8.line) = true ∧ K.lookup fI = some ⟨oc, od, .func (ksFn "__init__" qn (pA q1 q2) (pB lit a1 a2 a3 a4 a5 a6 a7 a8 a9 b1 b2 b3 b4) pS .none kV doc pm an (.ref cda) ct cc), osl⟩ ∧ codeIn K (.ref cda) qn = true ∧
    (∃ (ccl : Value) (cdd : Option Addr) (vs : Array Value) (ccs : Array (Option Value)) (file : Str) (tf : Tok), K.lookup cda = some ⟨ccl, cdd, .fields vs, ccs⟩ ∧ vs[2]? = some (.str file tf) ∧ ((prog.main.file : Str) == file) = true) ∧
    ∃ (cl : Value) (cld : Option Addr) (csl : Array (Option Value)), K.lookup cc = some ⟨cl, cld, .cell (some (.ref C)), csl⟩
/-- a value that the message takes in -/
inductive Msg : Value → Prop where
  | str (y : Str) (t : Tok) (h : y.length ≤ 1000) : Msg (.str y t)
  | int (i : Int) (t : Tok) (h : i.natAbs.log2 < 1000) (h2 : (Str.ofString (toString i)).length ≤ 1000) : Msg (.int i t)
/-- what __init__ leaves -/
structure PEnd (h h' : Heap) (x C dx : Addr) (v : Value) : Prop where
  keep : ∀ b o, b ≠ x → h.get? b = some o → h'.get? b = some o
  obj : ∃ t1 : Addr, h'.get? x = some { cls := .ref C, dict := some dx, data := .fields #[.ref t1, .none, .none, .none, .bool false, .none] }
  dbig : h.objs.size ≤ dx
  dne : dx ≠ x
  ns : h'.Ns1 dx (fun y => if y = F1 then some v else none)
section
variable {prog : Program} {w : World} {A : Around} {E : Value → Shared → Prop} {R : Result → Shared → Prop} {s : Shared} {K : Frag} {mg : Str → Option Value} {cn : Str} {C fI : Addr} {base : Heap}
theorem call_form {o : Expr} {name : Str} {apos pos : Pos} {e : Expr} {env : Env} (h : (apos.endLine == pos.line) = true) (hp : (backTo pos (starEach [e] env)).all (!·.1) = true := by rfl) :
    eval (.Call (.Attribute o name apos) [e] [] pos) env = (do
      let ov ← attributeBase o name env (eval o env)
      standAt apos.atName
      let (f, first) ← holding [ov] (getMethod ov name (do return (← importBound o env).getD true))
      callWith pos f first (backTo pos (starEach [e] env)) []) := by
  have z : ∀ few, methodCallPos few o env apos pos = pure pos := fun few => by unfold methodCallPos; simp [h]
  have f : methodCallForm 1 (backTo pos (starEach [e] env)) (backToKw pos (keywordEach [] env)) = true := by
    unfold methodCallForm
    rw [hp]
    rfl
  rw [arm_eval_Call]
  unfold methodCall
  simp only [List.length_cons, List.length_nil, Nat.zero_add, Nat.add_zero, f, z, pure_bind, calleeOf, if_true]
  rfl
/-- the message -/
theorem p_msg {env : Env} {m : Str → Option Value} {lit : Str} {v : Value} {a4 a5 a6 a7 : Pos} {Q : Value → Shared → Prop} (hlit : lit.length ≤ 100) (hv : Msg v) (hk : env.scope.kind = .function) (hl : env.kindOf F1 = some .local) (hn : s.heap.Ns env.locals m) (hm : m F1 = some v)
    (h : ∀ y t tk, Q (.str y t) { s with toks := tk }) : wpAny (model prog w) A (eval (.JoinedStr [.Constant (.str lit) 0 a4, .FormattedValue (.Name F1 a5) (-1) none a6] a7) env) Q E s := by
  have hz : ∀ n : Nat, n ≤ 3000 → n ≤ sizeLine := fun n hn => Nat.le_trans hn (by decide)
  have le0 : (Str.empty ++ lit).length ≤ 100 := by rw [strLen_append]; exact (by show 0 + lit.length ≤ 100; omega)
  refine wpAny_JoinedStr ?_
  have e1 : evalEach [Expr.Constant (Const.str lit) 0 a4, Expr.FormattedValue (Expr.Name F1 a5) (-1) none a6] env = [eval (Expr.Constant (Const.str lit) 0 a4) env, eval (Expr.FormattedValue (Expr.Name F1 a5) (-1) none a6) env] := by first | rfl | simp [evalEach]
  rw [e1]
  refine wpAny_Constant_str ⟨lit, _, rfl, hz _ (by omega), ?_⟩
  refine wpAny_FormattedValue_plain (wpAny_Name (wpAny_loadName_local hk hl hn hm ?_))
  cases hv with
  | str y t hy =>
    have le1 : (Str.empty ++ lit ++ y).length ≤ 3000 := by rw [strLen_append]; omega
    exact wpAny_formatField_str ⟨y, t, rfl, hz _ le1, hz _ le1, h _ _ _⟩ ⟨y, _, rfl, hz _ le1, hz _ le1, h _ _ _⟩ (hz _ (by omega))
  | int i t hi h2 =>
    have le1 : (Str.empty ++ lit ++ toString i).length ≤ sizeLine := by
      rw [strLen_append]
      exact hz _ (by omega)
    exact wpAny_formatField_int (by omega) ⟨_, _, rfl, le1, le1, h _ _ _⟩
/-- ValueError.__init__, bound to e, called -/
theorem p_wrap {nm q : Str} {N : Addr} {bs bm : List Value} {hdct : Bool} {sn : List Str} {sub : List Value} {ab : Bool} {col : Option Bool} {dd : Option Addr} {k0 k1 k2 k3 k5 : Option Value} {u e t0 : Addr} {z : Value} {vs : List Value} {Q : Value → Shared → Prop}
    (hC : s.heap.get? C = some (excClassObj nm q C N bs bm hdct sn sub ab col dd k0 k1 k2 k3 k5 "ValueError.__new__")) (he : s.heap.get? e = some (excO C t0)) (hu : s.heap.get? u = some (kxs_mw "ValueError.__init__" e)) (hvs : vs = [z])
    (hq : ∀ h' t1, (∀ b o, b ≠ e → s.heap.get? b = some o → h'.get? b = some o) → h'.get? e = some (excO C t1) → Q .none { s with heap := h' }) :
    wpAny (model prog w) A (call (.ref u) vs) Q E s := by
  subst hvs
  have FB := F.excBase_ValueError
  obtain ⟨hh, g, d, tk, os⟩ := s
  refine wpAny_call (codeAny_of_tree ?_)
  show wpAny _ A.in1 (callAny (.ref u) ⟨[z], []⟩) _ _ _
  unfold callAny
  refine wpAny_bind (wpAny_load hu ?_)
  have m1 : (Value.type "method-wrapper" == Value.type "method" || Value.type "method-wrapper" == Value.type "builtin_function_or_method" || Value.type "method-wrapper" == Value.type "method-wrapper") = true := by decide
  simp only [kxs_mw, m1, if_true]
  refine KFB.if_so (by decide) (wpAny_bind (check_bound_init FB.toExcCallFacts hC he rfl ?_))
  refine wpAny_bind (wpAny_pure (wpAny_pure ⟨plainId_quiet FB.init.plain _, codeAny_builtin FB.initEntry ?_⟩))
  refine exc_init_tree (cls := .ref C) (t0 := t0) (dv := none) (c2 := .none) (c3 := .none) (b4 := .bool false) (rest := [z]) he (by show 1 ≤ sizeLine; decide) fun h' kk ee _ => ?_
  exact hq h' _ kk ee
theorem p_init (T : PTxt prog K mg cn C fI) {x t0 : Addr} {v : Value} (M : L2.Mod K mg base) (bk : ∀ b o, base.get? b = some o → s.heap.get? b = some o) (hx : s.heap.get? x = some (excO C t0)) (hnx : K.lookup x = none) (hroom : A.depth < recursionLimit) (hv : Msg v)
    (hq : ∀ h' tk dx, PEnd s.heap h' x C dx v → R (.ok (.ret .none)) { s with heap := h', toks := tk }) :
    codeAny (model prog w) A (.call (.ref fI) ⟨[.ref x, v], []⟩) R s := by
  obtain ⟨lit, oc, od, kV, doc, pm, an, cda, cc, ct, osl, qn, q1, q2, a1, a2, a3, a4, a5, a6, a7, a8, a9, b1, b2, b3, b4, hlit, hline, lk, hcd, ⟨ccl, cdd, vs, ccs, file, tf, hcda, hvs, hfile⟩, cl, cld, csl, hcc⟩ := T.fn
  obtain ⟨nm, q, N, bs, bm, sn, sub, ab, col, dd, k0, k1, k2, k3, k5, hC, hbm⟩ := T.cls
  have hcl : clsIn K C = some { name := nm, bases := bs, mro := .ref C :: bm, ns := N, qualname := q, hasDict := true, slotNames := sn, subclasses := sub, abstract := ab, collection := col, hasDel := false } := by unfold clsIn; rw [hC] <;> rfl
  obtain ⟨mb, hmb, hbb⟩ := M.blt
  have X : K.In s.heap := M.kin.keeps bk
  refine ks_codeAny_call_defAt (fd := ksFn "__init__" qn (pA q1 q2) (pB lit a1 a2 a3 a4 a5 a6 a7 a8 a9 b1 b2 b3 b4) pS .none kV doc pm an (.ref cda) ct cc) (binds := [("self", .ref x), (F1, v)]) hroom (X _ _ lk) rfl (M.nolimit.keeps bk) (codeRec_of X hcd) rfl (BindsTo.of_eq rfl) (show ∀ y ∈ pS.names, y.2 ≠ .cell by decide) (by intro y hy; simp only [List.mem_cons, List.not_mem_nil, or_false] at hy; rcases hy with rfl | rfl <;> rfl) (fun h₀ hns kp => ?_) rfl rfl rfl
  have X0 : K.In h₀ := X.keeps kp
  have bk0 : ∀ b o, base.get? b = some o → h₀.get? b = some o := fun b o e => kp b o (bk b o e)
  have hx0 := kp _ _ hx
  have hL : s.heap.objs.size ≠ x := Nat.ne_of_gt (Heap.lt_size hx)
  have lk0 := X0 _ _ lk
  refine ks_wpAt_execs_cons (ks_wpAt_Expr_any (ks_wpAt_MethodCall (pl := (do return (← importBound (.Call (.Name "super" a1) [] [] a2) (callEnv (ksFn "__init__" qn (pA q1 q2) (pB lit a1 a2 a3 a4 a5 a6 a7 a8 a9 b1 b2 b3 b4) pS .none kV doc pm an (.ref cda) ct cc) s.heap.objs.size fI)).getD true)) ?_ (call_form hline)))
  refine ks_wpAt_super_base (fd := ksFn "__init__" qn (pA q1 q2) (pB lit a1 a2 a3 a4 a5 a6 a7 a8 a9 b1 b2 b3 b4) pS .none kV doc pm an (.ref cda) ct cc) rfl rfl (by decide) rfl lk0 rfl rfl rfl (X0 _ _ hcda) rfl hvs hfile T.top ?_
  refine ks_loadName_global rfl rfl (loadGlobal_builtin (mg := mg) (mb := mb) (v := .type "super") (M.glob.keeps bk0) T.gs (hmb.keeps bk0) ((hbb _ (by decide +kernel)).trans (by decide +kernel)) ⟨rfl, ?_⟩)
  refine wpAny_loadName_free (c := cc) rfl rfl rfl ⟨_, X0 _ _ hcc, rfl⟩ ?_
  refine wpAny_loadName_local rfl rfl hns (v := .ref x) (by first | rfl | with_unfolding_all rfl | kernel_rfl) ?_
  refine ks_wpAny_isType_cls (X0 _ _ hC) rfl ⟨rfl, ?_⟩
  refine ks_wpAny_call_super (X0 _ _ hC) rfl hx0 rfl (fun c z => nomatch z) (looks_mroIn X0 T.mC) (fun h' e k => ?_)
  have X1 : K.In h' := X0.keeps k
  have hx1 := k _ _ hx0
  have hsu := T.su
  unfold ks_superIn at hsu
  rw [hcl] at hsu
  have I1 : InstAt h' x (excO C t0) C none := ⟨hx1, rfl, rfl, trivial⟩
  refine kxs_getMethod kxs_ValueError (l₀ := .ref C :: bm) e (looks_opaque X1 T.op) ?_ rfl X1 hsu (I1.type.andThen (looks_subIn X1 T.veC)) (ks_ne X1 I1 hcl) (by decide) ?_
  · exact fun A Q E s k q => wpAny_bind ((looks_clsIn X1 hcl) A _ E s k (wpAny_pure q))
  -- the wrapper at u, then the message
  have hu : (h'.push (kxs_mw "ValueError.__init__" x)).get? h'.objs.size = some (kxs_mw "ValueError.__init__" x) := Heap.get?_push_at rfl rfl
  have k2 : ∀ b o, h'.get? b = some o → (h'.push (kxs_mw "ValueError.__init__" x)).get? b = some o := fun b o e => Heap.get?_push_of_some _ e
  have hns2 : (h'.push (kxs_mw "ValueError.__init__" x)).Ns s.heap.objs.size fun z => List.lookup z [(Str.ofString "self", Value.ref x), (F1, v)].reverse := (hns.keeps k).keeps k2
  refine kxs_callWith (i := "ValueError.__init__") (x := x) rfl ?_
  refine evalArgs_plain (spliced_cons (p_msg (a7 := a7) hlit hv rfl rfl hns2 (by first | rfl | with_unfolding_all rfl | kernel_rfl) fun z tz tk => spliced_nil ⟨hu, ?_⟩))
  refine p_wrap (C := C) (k2 _ _ (X1.keeps (fun _ _ z => z) _ _ hC)) (k2 _ _ hx1) hu rfl fun h3 t1 k3 e3 => ?_
  have kx : ∀ b o, b ≠ x → s.heap.get? b = some o → h3.get? b = some o := fun b o hb z => k3 b o hb (k2 _ _ (k _ _ (kp _ _ z)))
  have hns3 : h3.Ns s.heap.objs.size fun z => List.lookup z [(Str.ofString "self", Value.ref x), (F1, v)].reverse := by
    obtain ⟨o, es, ep, z, r⟩ := hns2
    exact ⟨o, es, ep, k3 _ _ hL z, r⟩
  have nK : ∀ b o, K.lookup b = some o → b ≠ x := fun b o z y => by
    rw [y, hnx] at z
    cases z
  have X3 : K.In h3 := fun b o z => kx b o (nK b o z) (X _ _ z)
  -- self.part = part
  refine wpAt_of_wpAny (wpAny_execs_cons (plainObj_wpAny_Assign_Attribute ?_))
  refine wpAny_Name (wpAny_loadName_local rfl rfl hns3 (v := v) (by first | rfl | with_unfolding_all rfl | kernel_rfl) ?_)
  refine wpAny_Name (wpAny_loadName_local rfl rfl hns3 (v := .ref x) (by first | rfl | with_unfolding_all rfl | kernel_rfl) ?_)
  refine set_plain X3 (ox := excO C t1) (od := none) ⟨e3, rfl, rfl, trivial⟩ T.sa ?_
  refine exc_osa X3 e3 hcl (show refsVE (.ref C :: bm) = true from hbm) rfl T.noN (fun h5 tk5 dx k5 dn dne hx5 hn5 => ?_)
  have z : s.heap.objs.size ≤ h3.objs.size := by
    obtain ⟨o, es, ep, z, r⟩ := hns3
    exact Nat.le_of_lt (Heap.lt_size z)
  exact wpAny_execs_nil (hq h5 tk5 dx ⟨fun b o hb e => k5 b o hb (kx b o hb e), ⟨_, hx5⟩, Nat.le_trans z dn, dne, hn5⟩)
/-- a made error: e, its own dict d -/
structure PMade (h h' : Heap) (e C d : Addr) (v : Value) : Prop where
  keep : ∀ b o, h.get? b = some o → h'.get? b = some o
  new : h.objs.size ≤ e
  obj : ∃ oe vs, h'.get? e = some oe ∧ oe.cls = .ref C ∧ oe.dict = some d ∧ oe.data = .fields vs ∧ vs[1]? = some .none
  dbig : h.objs.size ≤ d
  dne : d ≠ e
  ns : h'.Ns1 d (fun y => if y = F1 then some v else none)
theorem p_made (T : PTxt prog K mg cn C fI) {v : Value} (M : L2.Mod K mg base) (bk : ∀ b o, base.get? b = some o → s.heap.get? b = some o) (hroom : A.depth + 1 < recursionLimit) (hv : Msg v)
    (hq : ∀ h' tk e d, PMade s.heap h' e C d v → R (.ok (.ret (.ref e))) { s with heap := h', toks := tk }) :
    codeAny (model prog w) A (.call (.ref C) ⟨[v], []⟩) R s := by
  have X : K.In s.heap := M.kin.keeps bk
  obtain ⟨nm, q, N, bs, bm, sn, sub, ab, col, dd, k0, k1, k2, k3, k5, hC, hbm⟩ := T.cls
  obtain ⟨hp, g, dr, tk, os⟩ := s
  have k : ∀ b o, hp.get? b = some o → ((hp.push (kdv_tup [v])).push (excO C hp.objs.size)).get? b = some o := fun b o e => Heap.get?_push_of_some _ (Heap.get?_push_of_some _ e)
  have hget : ((hp.push (kdv_tup [v])).push (excO C hp.objs.size)).get? (hp.objs.size + 1) = some (excO C hp.objs.size) := by heap_get
  have hnx : K.lookup (hp.objs.size + 1) = none := by
    cases e : K.lookup (hp.objs.size + 1) with
    | none => rfl
    | some o =>
      have z : hp.get? (hp.objs.size + 1) = some o := X _ _ e
      exact absurd (Nat.lt_of_succ_lt (Heap.lt_size z)) (Nat.lt_irrefl _)
  refine call_own F.excBase_ValueError (fun X => refsVE_contains X bm hbm) (X _ _ hC) (looks_findIn X T.iC) (fun self => bind_fn X self T.tC) (by show 1 ≤ sizeLine; decide) ?_
  refine p_init (s := ⟨(hp.push (kdv_tup [v])).push (excO C hp.objs.size), g, dr, tk, os⟩) T M (fun b o e => k b o (bk b o e)) hget hnx ?_ hv fun h' tk' dx ⟨k', ⟨t1, hx⟩, dn, dne, hns⟩ => ?_
  · show A.depth + 1 < recursionLimit
    exact hroom
  · have old : ∀ b o, hp.get? b = some o → h'.get? b = some o := fun b o e => k' b o (Nat.ne_of_lt (Nat.lt_succ_of_lt (Heap.lt_size e))) (k b o e)
    have z : hp.objs.size + 1 + 1 ≤ dx := by
      first
        | (simpa only [Heap.size_push] using dn)
        | exact dn
        | (have q := dn; rw [Heap.size_push, Heap.size_push] at q; exact q)
    exact ⟨rfl, hq h' tk' (hp.objs.size + 1) dx ⟨old, Nat.le_succ _, ⟨_, _, hx, rfl, rfl, rfl, rfl⟩, Nat.le_trans (Nat.le_trans (Nat.le_succ _) (Nat.le_succ _)) z, dne, hns⟩⟩
end
end Xo
namespace L2
open PySem PySem.Spec PyProof.Rows
theorem relO_off {v : V} {v' : Value} (r : RelV v v') (f : Str) : RelO (List.lookup f [(Xo.F1, v)]) (if f = Xo.F1 then some v' else none) := by
  by_cases hw : f = Xo.F1
  · subst hw
    rw [if_pos rfl]
    have q : List.lookup Xo.F1 [(Xo.F1, v)] = some v := by simp [List.lookup]
    rw [q]
    exact r
  · rw [if_neg hw]
    have qw : (f == Xo.F1) = false := by simpa using hw
    have q2 : List.lookup f [(Xo.F1, v)] = none := by simp [List.lookup, qw]
    rw [q2]
    trivial
/-- what the message may take in -/
def MsgO : V → Prop
  | .str y => y.length ≤ 1000
  | .int i => i.natAbs.log2 < 1000 ∧ (Str.ofString (toString i)).length ≤ 1000
  | _ => False
theorem MsgO.of {v : V} {u : Value} (h : MsgO v) (r : RelV v u) : Xo.Msg u := by
  cases v with
  | str y => obtain ⟨t, rfl⟩ := r; exact .str y t h
  | int i => obtain ⟨t, rfl⟩ := r; exact .int i t h.1 h.2
  | _ => exact h.elim
section
variable {X : Cx} {C fI : Addr} {cn : Str}
/-- the error's making -/
def tMkOff (C : Addr) (ta : TA) : St → Hp → XK → Prop := fun σ H Q => ta σ H fun vs H1 => ∃ v, vs = [v] ∧ MsgO v ∧ ∀ d, H1 d = none → Q (.ref C) (some d) (upd H1 d (.xd [(Xo.F1, v)]))
theorem pmk_off {a : Expr} {ta : TA} {p pos : Pos} {k : Nat} (T : Xo.PTxt X.prog X.K X.mg cn C fI) (hr : Room k X.A) (ha : PA X [a] ta) (hg : Gl X cn := by rfl) (hdb : (cn == ("__debug__" : Str)) = false := by decide)
    (he : starEach (a :: []) X.env = (false, eval a X.env) :: starEach [] X.env := by rfl) (hpl : (backTo pos (starEach [] X.env)).any (·.1) = false := by rfl) :
    PMk X (.Call (.Name cn p) [a] [] pos) (tMkOff C ta) := by
  intro pins s σ H Q I h
  refine wpAny_Call_Name_kw (ld_glob I hg T.gC ?_ hdb)
  refine PySem.W.callWith_K (h₀ := X.base) I.ok.mod.kin T.kC (thn (ha.run pos pins s σ H _ I h) fun us s1 hh => ?_) he hpl
  obtain ⟨vs, H1, I1, r1, v, ev, hm, q1⟩ := hh
  subst ev
  refine ⟨I1.kIn, ?_⟩
  cases r1 with
  | cons rv rn =>
    rename_i v' us'
    cases rn
    show wpAny _ _ (call (.ref C) [v']) _ _ _
    have hmod := I1.mod
    have hbk := I1.bk
    obtain ⟨hp, g, dr, tk, os⟩ := s1
    refine wpAny_call (Xo.p_made T hmod hbk (by have := hr.dp; omega) (hm.of rv) fun h' tk' e d M => ?_)
    show MkP X pins σ Q (.ref e) ⟨h', g, dr, tk', os⟩
    obtain ⟨oe, fv, hoe, hc, hd, hdat, h1⟩ := M.obj
    have hns := M.ns
    obtain ⟨G', g1, g2⟩ := restrict h' fun b => decide (b ≠ e)
    have gk : ∀ b, b ≠ e → G'.get? b = h'.get? b := fun b hb => g1 b (decide_eq_true hb)
    have ge : G'.get? e = none := g2 e (by simp)
    have old : ∀ b o, hp.get? b = some o → G'.get? b = some o := fun b o q => (gk b (Nat.ne_of_lt (Nat.lt_of_lt_of_le (Heap.lt_size q) M.new))).trans (M.keep b o q)
    have ob : ObjOk X.prog X.w (upd H1 d (.xd [(Xo.F1, v)])) G' d (.xd [(Xo.F1, v)]) :=
      ⟨_, hns.at (fun o q => (gk d M.dne).trans q), fun f => relO_off rv f⟩
    have J : Inv X pins σ (upd H1 d (.xd [(Xo.F1, v)])) ⟨G', g, dr, tk', os⟩ := I1.laid (t' := tk') old M.dbig ob
    refine ⟨e, oe, fv, ⟨G', g, dr, tk', os⟩, _, .ref C, some d, rfl, J, fun b o q => ?_, ge, hoe, ⟨hc, hd⟩, hdat, h1, ?_, rfl, I1.bare, raises_own T.exC T.tyC, q1 d (I1.hok.fresh M.dbig)⟩
    · by_cases hb : b = e
      · have q' : G'.get? b = some o := q
        rw [hb, ge] at q'; cases q'
      · exact (gk b hb).symm.trans q
    · rw [upd_ne (Ne.symm M.dne)]
      exact I1.hok.fresh M.new
/-- raise cn(e) -/
def tRaiseOff (C : Addr) (W : WX) (ta : TA) : TS := fun _ σ H => tMkOff C ta σ H fun cls d H' => W cls d σ H'
theorem ps_raiseOff {a : Expr} {ta : TA} {W : WX} {p pos pos2 : Pos} {k : Nat} (hc : X.calm = true) (T : Xo.PTxt X.prog X.K X.mg cn C fI) (hr : Room k X.A) (tk : Takes X W) (ha : PA X [a] ta) (hg : Gl X cn := by rfl) (hdb : (cn == ("__debug__" : Str)) = false := by decide)
    (he : starEach (a :: []) X.env = (false, eval a X.env) :: starEach [] X.env := by rfl) (hpl : (backTo pos (starEach [] X.env)).any (·.1) = false := by rfl) :
    PS X (.Raise (some (.Call (.Name cn p) [a] [] pos)) none pos2) (tRaiseOff C W ta) := ps_raise hc tk (pmk_off T hr ha hg hdb he hpl)
end
end L2

/-! An own error over ValueError (through another own class) whose __init__ says super().__init__(f'..{word}..{row}') and keeps the fields row and word. -/
namespace Xw
open PySem PySem.W PySem.Calls PyProof.Rows PySem.HandSPX PySem.Builtin PySem.Builtin.ObjectAttr
abbrev F1 : Str := "row"
abbrev F2 : Str := "word"
/-- the __init__'s text -/
def pA (q1 q2 q3 : Pos) : Arguments := { posonlyargs := [], args := [{ arg := "self", annotation := none, pos := q1 }, { arg := F1, annotation := none, pos := q2 }, { arg := F2, annotation := none, pos := q3 }], vararg := none, kwonlyargs := [], kw_defaults := [], kwarg := none, defaults := [] }
def pB (lit lit2 : Str) (a1 a2 a3 a4 a5 a6 a7 a8 a9 a10 a11 a12 b1 b2 b3 b4 c1 c2 c3 c4 : Pos) : List Stmt :=
  [.Expr (.Call (.Attribute (.Call (.Name "super" a1) [] [] a2) "__init__" a3) [.JoinedStr [.Constant (.str lit) 0 a4, .FormattedValue (.Name F2 a5) (-1) none a6, .Constant (.str lit2) 0 a10, .FormattedValue (.Name F1 a11) (-1) none a12] a7] [] a8) a9,
   .Assign [.Attribute (.Name "self" b1) F1 b2] (.Name F1 b3) b4,
   .Assign [.Attribute (.Name "self" c1) F2 c2] (.Name F2 c3) c4]
def pS : Scope := { kind := .function, names := [(PySem.Str.ofString "self", .local), (PySem.Str.ofString "row", .local), (PySem.Str.ofString "word", .local), (PySem.Str.ofString "__class__", .free), (PySem.Str.ofString "super", .globalImplicit)], isGenerator := false, isCoroutine := false, more := [] }
/-- what is known of the class at C and of its __init__ at fI -/
structure PTxt (prog : Program) (K : Frag) (mg : Str → Option Value) (cn : Str) (C fI : Addr) : Prop where
  gC : mg cn = some (.ref C)
  cls : ∃ nm q N bs bm sn sub ab col dd k0 k1 k2 k3 k5, K.lookup C = some (excClassObj nm q C N bs bm true sn sub ab col dd k0 k1 k2 k3 k5 "ValueError.__new__") ∧ refsVE bm = true
  sa : findIn K (.ref C) "__setattr__" = some (some (.builtin "object.__setattr__"))
  ga : findIn K (.ref C) "__getattribute__" = some (some (.builtin "BaseException.__getattribute__"))
  gg : findIn K (.ref C) "__getattr__" = some none
  noN : findIn K (.ref C) F1 = some none
  noM : findIn K (.ref C) F2 = some none
  iC : findIn K (.ref C) "__init__" = some (some (.ref fI))
  tC : typeIn K (.ref fI) = some (.type "function")
  kC : keepIn K (.ref C) = true
  exC : subIn K (.ref C) (.type "BaseException") = some true
  veC : subIn K (.ref C) (.type "ValueError") = some true
  tyC : typeIn K (.ref C) = some (.type "type")
  hdC : hasDictIn K C = true
  mC : mroIn K C (.ref C) = some true
  su : ks_superIn K C C "__init__" = some (some (.builtin "ValueError.__init__"))
  op : nsIn K cStatics "thirdparty.any" = some none
  gs : mg "super" = none
  top : (prog.main.scope.names.lookup ("super" : Str)).isSome = false
  fn : ∃ (lit lit2 : Str) (oc : Value) (od : Option Addr) (kV doc pm : Value) (an : Option Addr) (cda cc : Addr) (ct : Value) (osl : Array (Option Value)) (qn : Str) (q1 q2 q3 a1 a2 a3 a4 a5 a6 a7 a8 a9 a10 a11 a12 b1 b2 b3 b4 c1 c2 c3 c4 : Pos),
    lit.length ≤ 100 ∧ lit2.length ≤ 100 ∧ (a3.endLine == a8.line) = true ∧ K.lookup fI = some ⟨oc, od, .func (ksFn "__init__" qn (pA q1 q2 q3) (pB lit lit2 a1 a2 a3 a4 a5 a6 a7 a8 a9 a10 a11 a12 b1 b2 b3 b4 c1 c2 c3 c4) pS .none kV doc pm an (.ref cda) ct cc), osl⟩ ∧ codeIn K (.ref cda) qn = true ∧
    (∃ (ccl : Value) (cdd : Option Addr) (vs : Array Value) (ccs : Array (Option Value)) (file : Str) (tf : Tok), K.lookup cda = some ⟨ccl, cdd, .fields vs, ccs⟩ ∧ vs[2]? = some (.str file tf) ∧ ((prog.main.file : Str) == file) = true) ∧
    ∃ (cl : Value) (cld : Option Addr) (csl : Array (Option Value)), K.lookup cc = some ⟨cl, cld, .cell (some (.ref C)), csl⟩
/-- a value that the message takes in -/
inductive Msg : Value → Prop where
  | int (i : Int) (t : Tok) (h : i.natAbs.log2 < 1000) (h2 : (Str.ofString (toString i)).length ≤ 1000) : Msg (.int i t)
/-- what __init__ leaves -/
structure PEnd (h h' : Heap) (x C dx : Addr) (v u : Value) : Prop where
  keep : ∀ b o, b ≠ x → h.get? b = some o → h'.get? b = some o
  obj : ∃ t1 : Addr, h'.get? x = some { cls := .ref C, dict := some dx, data := .fields #[.ref t1, .none, .none, .none, .bool false, .none] }
  dbig : h.objs.size ≤ dx
  dne : dx ≠ x
  ns : h'.Ns1 dx (fun y => if y = F2 then some u else if y = F1 then some v else none)
section
variable {prog : Program} {w : World} {A : Around} {E : Value → Shared → Prop} {R : Result → Shared → Prop} {s : Shared} {K : Frag} {mg : Str → Option Value} {cn : Str} {C fI : Addr} {base : Heap}
theorem osaD_in {M : Model} {hp : Heap} {g : Array GenState} {d : Drawn} {t : Nat} {os : OsState} {dx : Addr} {name : Str} {tk : Tok} {v : Value} {m : Str → Option Value} {ns : List Str} {Q : Fin → Shared → Prop} (hns : hp.Ns1 dx m) (hw : Within m ns) (hsz : ns.length ≤ 100)
    (hq : ∀ h' tk', h'.Ns1 dx (fun y => if y = name then some v else m y) → Heap.SameBut dx hp h' → Q (.done (.ret .none)) ⟨h', g, d, tk', os⟩) :
    wpAny M A (storeInDict dx (.str name tk) name v) Q E ⟨hp, g, d, t, os⟩ := by
  unfold storeInDict newKeyGuard
  refine wpAny_bind (wpAny_pure (wpAny_bind (wpAny_nsSet1 hns fun h' hn' hs => ?_)))
  obtain ⟨oD, esD, epD, hoD, hdD, hcD⟩ := hn'.count (Within.cons name v hw)
  refine wpAny_bind (wpAny_lookBehind hoD (by rw [hdD]; exact pastItsLine_dict (Nat.le_trans hcD (by rw [List.length_cons, sizeLine_eq]; omega))) ?_)
  wp_walk
  exact hq h' _ hn' hs
/-- self.name = v on an exception that has a dict -/
theorem osaD {hp : Heap} {g : Array GenState} {d : Drawn} {t : Nat} {os : OsState} {name : Str} {tk : Tok} {v : Value} {x dx : Addr} {fv : Array Value} {cd : ClassData} {m : Str → Option Value} {ns : List Str}
    (X : K.In hp) (hx : hp.get? x = some { cls := .ref C, dict := some dx, data := .fields fv }) (hne : dx ≠ x) (hcd : clsIn K C = some cd) (hm : refsVE cd.mro = true) (hh : cd.hasDict = true) (ha : findIn K (.ref C) name = some none) (hns : hp.Ns1 dx m) (hw : Within m ns) (hsz : ns.length ≤ 100)
    (hq : ∀ h' tk', (∀ b o, b ≠ dx → hp.get? b = some o → h'.get? b = some o) → h'.Ns1 dx (fun y => if y = name then some v else m y) → R (.ok (.ret .none)) ⟨h', g, d, tk', os⟩) :
    codeAny (model prog w) A (.call (.builtin "object.__setattr__") ⟨[.ref x, .str name tk, v], []⟩) R ⟨hp, g, d, t, os⟩ := by
  obtain ⟨oD0, esD0, epD0, eD0, rD0⟩ := id hns
  have I : InstAt hp x { cls := .ref C, dict := some dx, data := .fields fv } C (some oD0) := ⟨hx, rfl, rfl, eD0⟩
  have SF := F.store_object
  have ne := refsVE_ne hm
  have hob : cd.mro.contains (.type "object") = true := (refsVE_contains "object" _ hm).trans (by decide +kernel)
  have sub : Looks (model prog w) hp (isInstance (.ref x) (.type "object")) true := I.type.andThen (looks_mroIn X (by unfold mroIn; rw [hcd, Option.bind_some, if_neg (by rw [ne]; decide), hob]))
  refine codeAny_call_builtin SF.slot.plain SF.entry (@check_slot (model prog w) _ _ ⟨hp, g, d, t, os⟩ "object.__setattr__" "object" "__setattr__" (.ref x) [.str name tk, v] [] _ SF.kind SF.split sub (SF.args (.ref x) (.str name tk) v) ?_)
  have hmr : Looks (model prog w) hp (mroOf (.ref C)) cd.mro := (looks_clsIn X hcd).andThen .now
  have L3 : Looks (model prog w) hp (storeTaker? none) none := .now
  have hcls : Looks (model prog w) hp (classData C) cd := looks_clsIn X hcd
  rw [osa_eq, refuse_eq]
  refine wpAny_bind (wpAny_bind (I.type.at (wpAny_bind (hmr.at ?_))))
  rw [refsVE_pass _ _ hm]
  refine wpAny_pure (wpAny_bind (I.type.at (wpAny_bind ((looks_findIn X ha).at (wpAny_bind (L3.at ?_))))))
  show wpAny _ _ (storeInOwnDict (.ref x) (.ref C) (.str name tk) name v false) _ _ _
  unfold storeInOwnDict ownDictForStores
  repeat (first | with_reducible refine wpAny_loadPart_at hx ?_ | with_reducible refine hcls.at ?_ | with_reducible refine osaD_in hns hw hsz ?_ | wp_step)
  exact fun h' tk' hn hs => hq h' tk' (fun b o hb e => (hs.2 b hb).trans e) hn
theorem call_form {o : Expr} {name : Str} {apos pos : Pos} {e : Expr} {env : Env} (h : (apos.endLine == pos.line) = true) (hp : (backTo pos (starEach [e] env)).all (!·.1) = true := by rfl) :
    eval (.Call (.Attribute o name apos) [e] [] pos) env = (do
      let ov ← attributeBase o name env (eval o env)
      standAt apos.atName
      let (f, first) ← holding [ov] (getMethod ov name (do return (← importBound o env).getD true))
      callWith pos f first (backTo pos (starEach [e] env)) []) := by
  have z : ∀ few, methodCallPos few o env apos pos = pure pos := fun few => by unfold methodCallPos; simp [h]
  have f : methodCallForm 1 (backTo pos (starEach [e] env)) (backToKw pos (keywordEach [] env)) = true := by
    unfold methodCallForm
    rw [hp]
    rfl
  rw [arm_eval_Call]
  unfold methodCall
  simp only [List.length_cons, List.length_nil, Nat.zero_add, Nat.add_zero, f, z, pure_bind, calleeOf, if_true]
  rfl
/-- the message -/
theorem p_msg {env : Env} {m : Str → Option Value} {lit lit2 : Str} {v u : Value} {a4 a5 a6 a7 a10 a11 a12 : Pos} {Q : Value → Shared → Prop} (hlit : lit.length ≤ 100) (hlit2 : lit2.length ≤ 100) (hv : Msg v) (hu : Msg u) (hk : env.scope.kind = .function) (hl : env.kindOf F1 = some .local) (hl2 : env.kindOf F2 = some .local) (hn : s.heap.Ns env.locals m) (hm : m F1 = some v) (hm2 : m F2 = some u)
    (h : ∀ y t tk, Q (.str y t) { s with toks := tk }) : wpAny (model prog w) A (eval (.JoinedStr [.Constant (.str lit) 0 a4, .FormattedValue (.Name F2 a5) (-1) none a6, .Constant (.str lit2) 0 a10, .FormattedValue (.Name F1 a11) (-1) none a12] a7) env) Q E s := by
  have hz : ∀ n : Nat, n ≤ 3000 → n ≤ sizeLine := fun n hn => Nat.le_trans hn (by decide)
  have le0 : (Str.empty ++ lit).length ≤ 100 := by rw [strLen_append]; exact (by show 0 + lit.length ≤ 100; omega)
  refine wpAny_JoinedStr ?_
  have e1 : evalEach [Expr.Constant (Const.str lit) 0 a4, Expr.FormattedValue (Expr.Name F2 a5) (-1) none a6, Expr.Constant (Const.str lit2) 0 a10, Expr.FormattedValue (Expr.Name F1 a11) (-1) none a12] env = [eval (Expr.Constant (Const.str lit) 0 a4) env, eval (Expr.FormattedValue (Expr.Name F2 a5) (-1) none a6) env, eval (Expr.Constant (Const.str lit2) 0 a10) env, eval (Expr.FormattedValue (Expr.Name F1 a11) (-1) none a12) env] := by first | rfl | simp [evalEach]
  rw [e1]
  cases hu with
  | int j tj hj hj2 =>
  cases hv with
  | int i ti hi hi2 =>
  have le1 : (Str.empty ++ lit ++ toString j).length ≤ 1100 := by
    rw [strLen_append]
    have : (Str.ofString (toString j)).length ≤ 1000 := hj2
    show (Str.empty ++ lit).length + (Str.ofString (toString j)).length ≤ 1100
    omega
  have le2 : (Str.empty ++ lit ++ toString j ++ lit2).length ≤ 1200 := by rw [strLen_append]; omega
  have le3 : (Str.empty ++ lit ++ toString j ++ lit2 ++ toString i).length ≤ 2200 := by
    rw [strLen_append]
    have : (Str.ofString (toString i)).length ≤ 1000 := hi2
    show (Str.empty ++ lit ++ toString j ++ lit2).length + (Str.ofString (toString i)).length ≤ 2200
    omega
  refine wpAny_Constant_str ⟨lit, _, rfl, hz _ (by omega), ?_⟩
  refine wpAny_FormattedValue_plain (wpAny_Name (wpAny_loadName_local hk hl2 hn hm2 ?_))
  refine wpAny_formatField_int (by omega) ⟨_, _, rfl, hz _ (by omega), ?_⟩
  refine wpAny_Constant_str ⟨lit2, _, rfl, hz _ (by omega), ?_⟩
  refine wpAny_FormattedValue_plain (wpAny_Name (wpAny_loadName_local hk hl hn hm ?_))
  exact wpAny_formatField_int (by omega) ⟨_, _, rfl, hz _ (by omega), hz _ (by omega), h _ _ _⟩
/-- ValueError.__init__, bound to e, called -/
theorem p_wrap {nm q : Str} {N : Addr} {bs bm : List Value} {hdct : Bool} {sn : List Str} {sub : List Value} {ab : Bool} {col : Option Bool} {dd : Option Addr} {k0 k1 k2 k3 k5 : Option Value} {u e t0 : Addr} {z : Value} {vs : List Value} {Q : Value → Shared → Prop}
    (hC : s.heap.get? C = some (excClassObj nm q C N bs bm hdct sn sub ab col dd k0 k1 k2 k3 k5 "ValueError.__new__")) (he : s.heap.get? e = some (excO C t0)) (hu : s.heap.get? u = some (kxs_mw "ValueError.__init__" e)) (hvs : vs = [z])
    (hq : ∀ h' t1, (∀ b o, b ≠ e → s.heap.get? b = some o → h'.get? b = some o) → h'.get? e = some (excO C t1) → Q .none { s with heap := h' }) :
    wpAny (model prog w) A (call (.ref u) vs) Q E s := by
  subst hvs
  have FB := F.excBase_ValueError
  obtain ⟨hh, g, d, tk, os⟩ := s
  refine wpAny_call (codeAny_of_tree ?_)
  show wpAny _ A.in1 (callAny (.ref u) ⟨[z], []⟩) _ _ _
  unfold callAny
  refine wpAny_bind (wpAny_load hu ?_)
  have m1 : (Value.type "method-wrapper" == Value.type "method" || Value.type "method-wrapper" == Value.type "builtin_function_or_method" || Value.type "method-wrapper" == Value.type "method-wrapper") = true := by decide
  simp only [kxs_mw, m1, if_true]
  refine KFB.if_so (by decide) (wpAny_bind (check_bound_init FB.toExcCallFacts hC he rfl ?_))
  refine wpAny_bind (wpAny_pure (wpAny_pure ⟨plainId_quiet FB.init.plain _, codeAny_builtin FB.initEntry ?_⟩))
  refine exc_init_tree (cls := .ref C) (t0 := t0) (dv := none) (c2 := .none) (c3 := .none) (b4 := .bool false) (rest := [z]) he (by show 1 ≤ sizeLine; decide) fun h' kk ee _ => ?_
  exact hq h' _ kk ee
theorem p_init (T : PTxt prog K mg cn C fI) {x t0 : Addr} {v u : Value} (M : L2.Mod K mg base) (bk : ∀ b o, base.get? b = some o → s.heap.get? b = some o) (hx : s.heap.get? x = some (excO C t0)) (hnx : K.lookup x = none) (hroom : A.depth < recursionLimit) (hv : Msg v) (hu0 : Msg u)
    (hq : ∀ h' tk dx, PEnd s.heap h' x C dx v u → R (.ok (.ret .none)) { s with heap := h', toks := tk }) :
    codeAny (model prog w) A (.call (.ref fI) ⟨[.ref x, v, u], []⟩) R s := by
  obtain ⟨lit, lit2, oc, od, kV, doc, pm, an, cda, cc, ct, osl, qn, q1, q2, q3, a1, a2, a3, a4, a5, a6, a7, a8, a9, a10, a11, a12, b1, b2, b3, b4, c1, c2, c3, c4, hlit, hlit2, hline, lk, hcd, ⟨ccl, cdd, vs, ccs, file, tf, hcda, hvs, hfile⟩, cl, cld, csl, hcc⟩ := T.fn
  obtain ⟨nm, q, N, bs, bm, sn, sub, ab, col, dd, k0, k1, k2, k3, k5, hC, hbm⟩ := T.cls
  have hcl : clsIn K C = some { name := nm, bases := bs, mro := .ref C :: bm, ns := N, qualname := q, hasDict := true, slotNames := sn, subclasses := sub, abstract := ab, collection := col, hasDel := false } := by unfold clsIn; rw [hC] <;> rfl
  obtain ⟨mb, hmb, hbb⟩ := M.blt
  have X : K.In s.heap := M.kin.keeps bk
  refine ks_codeAny_call_defAt (fd := ksFn "__init__" qn (pA q1 q2 q3) (pB lit lit2 a1 a2 a3 a4 a5 a6 a7 a8 a9 a10 a11 a12 b1 b2 b3 b4 c1 c2 c3 c4) pS .none kV doc pm an (.ref cda) ct cc) (binds := [("self", .ref x), (F1, v), (F2, u)]) hroom (X _ _ lk) rfl (M.nolimit.keeps bk) (codeRec_of X hcd) rfl (BindsTo.of_eq rfl) (show ∀ y ∈ pS.names, y.2 ≠ .cell by decide) (by intro y hy; simp only [List.mem_cons, List.not_mem_nil, or_false] at hy; rcases hy with rfl | rfl | rfl <;> rfl) (fun h₀ hns kp => ?_) rfl rfl rfl
  have X0 : K.In h₀ := X.keeps kp
  have bk0 : ∀ b o, base.get? b = some o → h₀.get? b = some o := fun b o e => kp b o (bk b o e)
  have hx0 := kp _ _ hx
  have hL : s.heap.objs.size ≠ x := Nat.ne_of_gt (Heap.lt_size hx)
  have lk0 := X0 _ _ lk
  refine ks_wpAt_execs_cons (ks_wpAt_Expr_any (ks_wpAt_MethodCall (pl := (do return (← importBound (.Call (.Name "super" a1) [] [] a2) (callEnv (ksFn "__init__" qn (pA q1 q2 q3) (pB lit lit2 a1 a2 a3 a4 a5 a6 a7 a8 a9 a10 a11 a12 b1 b2 b3 b4 c1 c2 c3 c4) pS .none kV doc pm an (.ref cda) ct cc) s.heap.objs.size fI)).getD true)) ?_ (call_form hline)))
  refine ks_wpAt_super_base (fd := ksFn "__init__" qn (pA q1 q2 q3) (pB lit lit2 a1 a2 a3 a4 a5 a6 a7 a8 a9 a10 a11 a12 b1 b2 b3 b4 c1 c2 c3 c4) pS .none kV doc pm an (.ref cda) ct cc) rfl rfl (by decide) rfl lk0 rfl rfl rfl (X0 _ _ hcda) rfl hvs hfile T.top ?_
  refine ks_loadName_global rfl rfl (loadGlobal_builtin (mg := mg) (mb := mb) (v := .type "super") (M.glob.keeps bk0) T.gs (hmb.keeps bk0) ((hbb _ (by decide +kernel)).trans (by decide +kernel)) ⟨rfl, ?_⟩)
  refine wpAny_loadName_free (c := cc) rfl rfl rfl ⟨_, X0 _ _ hcc, rfl⟩ ?_
  refine wpAny_loadName_local rfl rfl hns (v := .ref x) (by first | rfl | with_unfolding_all rfl | kernel_rfl) ?_
  refine ks_wpAny_isType_cls (X0 _ _ hC) rfl ⟨rfl, ?_⟩
  refine ks_wpAny_call_super (X0 _ _ hC) rfl hx0 rfl (fun c z => nomatch z) (looks_mroIn X0 T.mC) (fun h' e k => ?_)
  have X1 : K.In h' := X0.keeps k
  have hx1 := k _ _ hx0
  have hsu := T.su
  unfold ks_superIn at hsu
  rw [hcl] at hsu
  have I1 : InstAt h' x (excO C t0) C none := ⟨hx1, rfl, rfl, trivial⟩
  refine kxs_getMethod kxs_ValueError (l₀ := .ref C :: bm) e (looks_opaque X1 T.op) ?_ rfl X1 hsu (I1.type.andThen (looks_subIn X1 T.veC)) (ks_ne X1 I1 hcl) (by decide) ?_
  · exact fun A Q E s k q => wpAny_bind ((looks_clsIn X1 hcl) A _ E s k (wpAny_pure q))
  -- the wrapper at u, then the message
  have hu : (h'.push (kxs_mw "ValueError.__init__" x)).get? h'.objs.size = some (kxs_mw "ValueError.__init__" x) := Heap.get?_push_at rfl rfl
  have k2 : ∀ b o, h'.get? b = some o → (h'.push (kxs_mw "ValueError.__init__" x)).get? b = some o := fun b o e => Heap.get?_push_of_some _ e
  have hns2 : (h'.push (kxs_mw "ValueError.__init__" x)).Ns s.heap.objs.size fun z => List.lookup z [(Str.ofString "self", Value.ref x), (F1, v), (F2, u)].reverse := (hns.keeps k).keeps k2
  refine kxs_callWith (i := "ValueError.__init__") (x := x) rfl ?_
  refine evalArgs_plain (spliced_cons (p_msg (a7 := a7) hlit hlit2 hv hu0 rfl rfl rfl hns2 (by first | rfl | with_unfolding_all rfl | kernel_rfl) (by first | rfl | with_unfolding_all rfl | kernel_rfl) fun z tz tk => spliced_nil ⟨hu, ?_⟩))
  refine p_wrap (C := C) (k2 _ _ (X1.keeps (fun _ _ z => z) _ _ hC)) (k2 _ _ hx1) hu rfl fun h3 t1 k3 e3 => ?_
  have kx : ∀ b o, b ≠ x → s.heap.get? b = some o → h3.get? b = some o := fun b o hb z => k3 b o hb (k2 _ _ (k _ _ (kp _ _ z)))
  have hns3 : h3.Ns s.heap.objs.size fun z => List.lookup z [(Str.ofString "self", Value.ref x), (F1, v), (F2, u)].reverse := by
    obtain ⟨o, es, ep, z, r⟩ := hns2
    exact ⟨o, es, ep, k3 _ _ hL z, r⟩
  have nK : ∀ b o, K.lookup b = some o → b ≠ x := fun b o z y => by
    rw [y, hnx] at z
    cases z
  have X3 : K.In h3 := fun b o z => kx b o (nK b o z) (X _ _ z)
  -- self.part = part
  refine wpAt_of_wpAny (wpAny_execs_cons (plainObj_wpAny_Assign_Attribute ?_))
  refine wpAny_Name (wpAny_loadName_local rfl rfl hns3 (v := v) (by first | rfl | with_unfolding_all rfl | kernel_rfl) ?_)
  refine wpAny_Name (wpAny_loadName_local rfl rfl hns3 (v := .ref x) (by first | rfl | with_unfolding_all rfl | kernel_rfl) ?_)
  refine set_plain X3 (ox := excO C t1) (od := none) ⟨e3, rfl, rfl, trivial⟩ T.sa ?_
  refine exc_osa X3 e3 hcl (show refsVE (.ref C :: bm) = true from hbm) rfl T.noN (fun h5 tk5 dx k5 dn dne hx5 hn5 => ?_)
  have z : s.heap.objs.size ≤ h3.objs.size := by
    obtain ⟨o, es, ep, z, r⟩ := hns3
    exact Nat.le_of_lt (Heap.lt_size z)
  have dL : s.heap.objs.size ≠ dx := by
    obtain ⟨o, es, ep, z2, r⟩ := hns3
    exact Nat.ne_of_lt (Nat.lt_of_lt_of_le (Heap.lt_size z2) dn)
  have X5 : K.In h5 := fun b o z => k5 b o (nK b o z) (X3 _ _ z)
  have hns5 : h5.Ns s.heap.objs.size fun z => List.lookup z [(Str.ofString "self", Value.ref x), (F1, v), (F2, u)].reverse := by
    obtain ⟨o, es, ep, z, r⟩ := hns3
    exact ⟨o, es, ep, k5 _ _ hL z, r⟩
  refine wpAny_execs_cons (plainObj_wpAny_Assign_Attribute ?_)
  refine wpAny_Name (wpAny_loadName_local rfl rfl hns5 (v := u) (by first | rfl | with_unfolding_all rfl | kernel_rfl) ?_)
  refine wpAny_Name (wpAny_loadName_local rfl rfl hns5 (v := .ref x) (by first | rfl | with_unfolding_all rfl | kernel_rfl) ?_)
  refine set_plain X5 (ox := { cls := .ref C, dict := some dx, data := .fields #[.ref t1, .none, .none, .none, .bool false, .none] }) (od := some _) ⟨hx5, rfl, rfl, hn5.choose_spec.choose_spec.choose_spec.1⟩ T.sa ?_
  refine osaD X5 hx5 dne hcl (show refsVE (.ref C :: bm) = true from hbm) rfl T.noM hn5 (Within.cons F1 v Within.nil) (by decide) (fun h6 tk6 k6 hn6 => ?_)
  exact wpAny_execs_nil (hq h6 tk6 dx ⟨fun b o hb e => k6 b o (fun hbd => absurd (Heap.lt_size e) (by rw [hbd]; exact Nat.not_lt.mpr (Nat.le_trans z dn))) (k5 b o hb (kx b o hb e)), ⟨_, k6 _ _ (Ne.symm dne) hx5⟩, Nat.le_trans z dn, dne, hn6⟩)
/-- a made error: e, its own dict d -/
structure PMade (h h' : Heap) (e C d : Addr) (v u : Value) : Prop where
  keep : ∀ b o, h.get? b = some o → h'.get? b = some o
  new : h.objs.size ≤ e
  obj : ∃ oe vs, h'.get? e = some oe ∧ oe.cls = .ref C ∧ oe.dict = some d ∧ oe.data = .fields vs ∧ vs[1]? = some .none
  dbig : h.objs.size ≤ d
  dne : d ≠ e
  ns : h'.Ns1 d (fun y => if y = F2 then some u else if y = F1 then some v else none)
theorem p_made (T : PTxt prog K mg cn C fI) {v u : Value} (M : L2.Mod K mg base) (bk : ∀ b o, base.get? b = some o → s.heap.get? b = some o) (hroom : A.depth + 1 < recursionLimit) (hv : Msg v) (hu0 : Msg u)
    (hq : ∀ h' tk e d, PMade s.heap h' e C d v u → R (.ok (.ret (.ref e))) { s with heap := h', toks := tk }) :
    codeAny (model prog w) A (.call (.ref C) ⟨[v, u], []⟩) R s := by
  have X : K.In s.heap := M.kin.keeps bk
  obtain ⟨nm, q, N, bs, bm, sn, sub, ab, col, dd, k0, k1, k2, k3, k5, hC, hbm⟩ := T.cls
  obtain ⟨hp, g, dr, tk, os⟩ := s
  have k : ∀ b o, hp.get? b = some o → ((hp.push (kdv_tup [v, u])).push (excO C hp.objs.size)).get? b = some o := fun b o e => Heap.get?_push_of_some _ (Heap.get?_push_of_some _ e)
  have hget : ((hp.push (kdv_tup [v, u])).push (excO C hp.objs.size)).get? (hp.objs.size + 1) = some (excO C hp.objs.size) := by heap_get
  have hnx : K.lookup (hp.objs.size + 1) = none := by
    cases e : K.lookup (hp.objs.size + 1) with
    | none => rfl
    | some o =>
      have z : hp.get? (hp.objs.size + 1) = some o := X _ _ e
      exact absurd (Nat.lt_of_succ_lt (Heap.lt_size z)) (Nat.lt_irrefl _)
  refine call_own F.excBase_ValueError (fun X => refsVE_contains X bm hbm) (X _ _ hC) (looks_findIn X T.iC) (fun self => bind_fn X self T.tC) (by show 2 ≤ sizeLine; decide) ?_
  refine p_init (s := ⟨(hp.push (kdv_tup [v, u])).push (excO C hp.objs.size), g, dr, tk, os⟩) T M (fun b o e => k b o (bk b o e)) hget hnx ?_ hv hu0 fun h' tk' dx ⟨k', ⟨t1, hx⟩, dn, dne, hns⟩ => ?_
  · show A.depth + 1 < recursionLimit
    exact hroom
  · have old : ∀ b o, hp.get? b = some o → h'.get? b = some o := fun b o e => k' b o (Nat.ne_of_lt (Nat.lt_succ_of_lt (Heap.lt_size e))) (k b o e)
    have z : hp.objs.size + 1 + 1 ≤ dx := by
      first
        | (simpa only [Heap.size_push] using dn)
        | exact dn
        | (have q := dn; rw [Heap.size_push, Heap.size_push] at q; exact q)
    exact ⟨rfl, hq h' tk' (hp.objs.size + 1) dx ⟨old, Nat.le_succ _, ⟨_, _, hx, rfl, rfl, rfl, rfl⟩, Nat.le_trans (Nat.le_trans (Nat.le_succ _) (Nat.le_succ _)) z, dne, hns⟩⟩
end
end Xw
namespace L2
open PySem PySem.Spec PyProof.Rows
theorem relO_two {v u : V} {v' u' : Value} (r : RelV v v') (ru : RelV u u') (f : Str) : RelO (List.lookup f [(Xw.F1, v), (Xw.F2, u)]) (if f = Xw.F2 then some u' else if f = Xw.F1 then some v' else none) := by
  by_cases h2 : f = Xw.F2
  · subst h2
    rw [if_pos rfl]
    have n : ((Xw.F2 : Str) == Xw.F1) = false := by decide
    have q : List.lookup Xw.F2 [(Xw.F1, v), (Xw.F2, u)] = some u := by simp [List.lookup, n]
    rw [q]
    exact ru
  · rw [if_neg h2]
    have n2 : (f == Xw.F2) = false := by simpa using h2
    by_cases hw : f = Xw.F1
    · subst hw
      rw [if_pos rfl]
      have q : List.lookup Xw.F1 [(Xw.F1, v), (Xw.F2, u)] = some v := by simp [List.lookup]
      rw [q]
      exact r
    · rw [if_neg hw]
      have qw : (f == Xw.F1) = false := by simpa using hw
      have q2 : List.lookup f [(Xw.F1, v), (Xw.F2, u)] = none := by simp [List.lookup, qw, n2]
      rw [q2]
      trivial
/-- what the message may take in -/
def MsgW : V → Prop
  | .int i => i.natAbs.log2 < 1000 ∧ (Str.ofString (toString i)).length ≤ 1000
  | _ => False
theorem MsgW.of {v : V} {u : Value} (h : MsgW v) (r : RelV v u) : Xw.Msg u := by
  cases v with
  | int i => obtain ⟨t, rfl⟩ := r; exact .int i t h.1 h.2
  | _ => exact h.elim
section
variable {X : Cx} {C fI : Addr} {cn : Str}
/-- the error's making -/
def tMkTwo (C : Addr) (ta : TA) : St → Hp → XK → Prop := fun σ H Q => ta σ H fun vs H1 => ∃ v u, vs = [v, u] ∧ MsgW v ∧ MsgW u ∧ ∀ d, H1 d = none → Q (.ref C) (some d) (upd H1 d (.xd [(Xw.F1, v), (Xw.F2, u)]))
theorem pmk_two {a b : Expr} {ta : TA} {p pos : Pos} {k : Nat} (T : Xw.PTxt X.prog X.K X.mg cn C fI) (hr : Room k X.A) (ha : PA X [a, b] ta) (hg : Gl X cn := by rfl) (hdb : (cn == ("__debug__" : Str)) = false := by decide)
    (he : starEach (a :: [b]) X.env = (false, eval a X.env) :: starEach [b] X.env := by rfl) (hpl : (backTo pos (starEach [b] X.env)).any (·.1) = false := by rfl) :
    PMk X (.Call (.Name cn p) [a, b] [] pos) (tMkTwo C ta) := by
  intro pins s σ H Q I h
  refine wpAny_Call_Name_kw (ld_glob I hg T.gC ?_ hdb)
  refine PySem.W.callWith_K (h₀ := X.base) I.ok.mod.kin T.kC (thn (ha.run pos pins s σ H _ I h) fun us s1 hh => ?_) he hpl
  obtain ⟨vs, H1, I1, r1, v, u, ev, hm, hm2, q1⟩ := hh
  subst ev
  refine ⟨I1.kIn, ?_⟩
  cases r1 with
  | cons rv rn =>
    rename_i v' us'
    cases rn with
    | cons ru rn =>
    rename_i u' us2
    cases rn
    show wpAny _ _ (call (.ref C) [v', u']) _ _ _
    have hmod := I1.mod
    have hbk := I1.bk
    obtain ⟨hp, g, dr, tk, os⟩ := s1
    refine wpAny_call (Xw.p_made T hmod hbk (by have := hr.dp; omega) (hm.of rv) (hm2.of ru) fun h' tk' e d M => ?_)
    show MkP X pins σ Q (.ref e) ⟨h', g, dr, tk', os⟩
    obtain ⟨oe, fv, hoe, hc, hd, hdat, h1⟩ := M.obj
    have hns := M.ns
    obtain ⟨G', g1, g2⟩ := restrict h' fun b => decide (b ≠ e)
    have gk : ∀ b, b ≠ e → G'.get? b = h'.get? b := fun b hb => g1 b (decide_eq_true hb)
    have ge : G'.get? e = none := g2 e (by simp)
    have old : ∀ b o, hp.get? b = some o → G'.get? b = some o := fun b o q => (gk b (Nat.ne_of_lt (Nat.lt_of_lt_of_le (Heap.lt_size q) M.new))).trans (M.keep b o q)
    have ob : ObjOk X.prog X.w (upd H1 d (.xd [(Xw.F1, v), (Xw.F2, u)])) G' d (.xd [(Xw.F1, v), (Xw.F2, u)]) :=
      ⟨_, hns.at (fun o q => (gk d M.dne).trans q), fun f => relO_two rv ru f⟩
    have J : Inv X pins σ (upd H1 d (.xd [(Xw.F1, v), (Xw.F2, u)])) ⟨G', g, dr, tk', os⟩ := I1.laid (t' := tk') old M.dbig ob
    refine ⟨e, oe, fv, ⟨G', g, dr, tk', os⟩, _, .ref C, some d, rfl, J, fun b o q => ?_, ge, hoe, ⟨hc, hd⟩, hdat, h1, ?_, rfl, I1.bare, raises_own T.exC T.tyC, q1 d (I1.hok.fresh M.dbig)⟩
    · by_cases hb : b = e
      · have q' : G'.get? b = some o := q
        rw [hb, ge] at q'; cases q'
      · exact (gk b hb).symm.trans q
    · rw [upd_ne (Ne.symm M.dne)]
      exact I1.hok.fresh M.new
/-- raise cn(e) -/
def tRaiseTwo (C : Addr) (W : WX) (ta : TA) : TS := fun _ σ H => tMkTwo C ta σ H fun cls d H' => W cls d σ H'
theorem ps_raiseTwo {a b : Expr} {ta : TA} {W : WX} {p pos pos2 : Pos} {k : Nat} (hc : X.calm = true) (T : Xw.PTxt X.prog X.K X.mg cn C fI) (hr : Room k X.A) (tk : Takes X W) (ha : PA X [a, b] ta) (hg : Gl X cn := by rfl) (hdb : (cn == ("__debug__" : Str)) = false := by decide)
    (he : starEach (a :: [b]) X.env = (false, eval a X.env) :: starEach [b] X.env := by rfl) (hpl : (backTo pos (starEach [b] X.env)).any (·.1) = false := by rfl) :
    PS X (.Raise (some (.Call (.Name cn p) [a, b] [] pos)) none pos2) (tRaiseTwo C W ta) := ps_raise hc tk (pmk_two T hr ha hg hdb he hpl)
end
end L2

/-! a, .., *r = a list: the target's last name takes the rest. -/
namespace L2
open PySem PySem.Spec PyProof.Rows PySem.W
def gStar (K : PySem.W.Frag) (n : Nat) (t : TGs) : TG := fun v σ H Q => ∃ a xs, v = .ref a ∧ SqL K H a xs ∧ n ≤ xs.length ∧ xs.length ≤ 16384 ∧ ∀ p, H p = none → t (xs.take n ++ [.ref p]) σ (upd H p (.lst (xs.drop n))) Q
theorem vals_take : ∀ {n : Nat} {xs : List V} {us : List Value}, Vals xs us → Vals (xs.take n) (us.take n)
  | 0, _, _, _ => .nil
  | _ + 1, _, _, .nil => .nil
  | _ + 1, _, _, .cons a r => .cons a (vals_take r)
theorem vals_drop : ∀ {n : Nat} {xs : List V} {us : List Value}, Vals xs us → Vals (xs.drop n) (us.drop n)
  | 0, _, _, h => h
  | _ + 1, _, _, .nil => .nil
  | n + 1, _, _, .cons _ r => vals_drop (n := n) r
theorem vals_app : ∀ {xs : List V} {us : List Value} {v : V} {u : Value}, Vals xs us → RelV v u → Vals (xs ++ [v]) (us ++ [u])
  | _, _, _, _, .nil, h => .cons h .nil
  | _, _, _, _, .cons a r, h => .cons a (vals_app r h)
section
variable {X : Cx} {pos : Pos}
theorem pg_star {es es' : List Expr} {k : Nat} {t : TGs} {n : Nat} (hc : X.calm = true) (h : PGs X es' t) (hm : (assignEach es X.env).map (·.2) = (assignEach es' X.env).map (·.2))
    (hn : (assignEach es X.env).length = n + 1) (hst : (assignEach es X.env).findIdx? (·.1) = some n) : PG X (.Tuple es k pos) (gStar X.K n t) := by
  refine ⟨fun pins s σ H v u Q I r hw => ?_⟩
  obtain ⟨l, xs, e1, hq, hl, hz2, hw⟩ := hw
  subst e1
  cases r
  obtain ⟨its, rv, pl, hz⟩ := I.list hq
  have il := pl.isList
  have len : its.length = xs.length := rv.length.symm
  have hh : X.A.handled = none := I.ok.hd hc
  rw [PyProof.Rows.assign_Tuple]
  refine wpAny_bind (wpAny_standAt ?_)
  unfold unpack
  rw [hn, hst]
  refine wpAny_bind (wpAny_holding ?_)
  have hlt : l ≠ s.heap.objs.size := by obtain ⟨o, ho, _⟩ := il; exact Nat.ne_of_lt (Heap.lt_size ho)
  have hll : l < s.heap.objs.size := by obtain ⟨o, ho, _⟩ := il; exact Heap.lt_size ho
  unfold unpackItems
  refine wpAny_bind ?_
  unfold notIterableAtAll
  refine wpAny_bind (wpAny_specialOf il.typeIs slot_list_iter.lookup ?_)
  refine wpAny_pure ?_
  simp only [Bool.false_eq_true, if_false]
  refine wpAny_bind (wpAny_holding (wpAny_pyIter_list il ?_))
  have hsz : its.toArray.size = xs.length := by rw [List.size_toArray, len]
  refine wpAny_bind (wpAny_holding (kun_draw hlt n 0 _ _ ⟨_, Heap.get?_push_size _ rfl, rfl, rfl⟩ (il.push _) (by omega) fun h₁ hit₁ hs₁ => ?_))
  have hl₁ : h₁.IsList l its.toArray := (il.push _).extBut hs₁.extBut hlt
  rw [Nat.zero_add] at hit₁
  have hit₁' := hit₁
  obtain ⟨oi, hoi, _⟩ := hit₁'
  have hl₁' := hl₁
  obtain ⟨ol, hol, _⟩ := hl₁'
  rw [List.drop_zero]
  have hfl : (its.toArray.toList.take n).length = n := by rw [List.length_take, Array.length_toList]; omega
  rw [if_neg (show ¬ ((its.toArray.toList.take n).length < n) by rw [hfl]; omega)]
  refine wpAny_bind (wpAny_holding (kun_collect (s := { s with heap := h₁ }) (T := "list_iterator") (.inr (.inr (.inl rfl))) (Walks.list (A := X.A.in1) hh s.heap.objs.size l hlt its.toArray) (fun j u st => st.1.typeIs) (k := n) (by omega) ⟨hit₁, hl₁⟩ (Heap.lt_size hoi) (Heap.lt_size hol) (fun h₂ tk hk => ?_) (by rw [hsz]; exact hz)))
  have hnn : n + 1 - 1 - n = 0 := by omega
  show wpAny _ _ (if (its.toArray.toList.drop n).length < n + 1 - 1 - n then _ else _) _ _ _
  rw [if_neg (by rw [hnn]; omega)]
  show wpAny _ _ (newList ((its.toArray.toList.drop n).take ((its.toArray.toList.drop n).length - (n + 1 - 1 - n))) >>= fun d => pure (its.toArray.toList.take n ++ [d] ++ (its.toArray.toList.drop n).drop ((its.toArray.toList.drop n).length - (n + 1 - 1 - n)))) _ _ _
  rw [hnn, Nat.sub_zero, List.take_length, List.drop_length]
  have he : ∀ b o, s.heap.get? b = some o → h₂.get? b = some o := fun b o e => hk b o (Nat.ne_of_lt (Heap.lt_size e)) (hs₁.extBut b o (Nat.ne_of_lt (Heap.lt_size e)) (Heap.get?_push_of_some _ e))
  have I1 : Inv X pins σ H { s with heap := h₂, toks := tk } := I.kept he
  refine wpAny_bind (wpAny_newList ?_ (by rw [List.length_drop, Array.length_toList, sizeLine_eq]; omega))
  refine wpAny_pure ?_
  rw [List.append_nil, hm]
  have e1 : its.toArray.toList = its := rfl
  rw [e1]
  have I2 : Inv X pins σ (upd H h₂.objs.size (.lst (xs.drop n))) { s with heap := h₂.push { cls := .type "list", data := .seq (its.drop n).toArray }, toks := tk } :=
    I1.laid (t' := tk) (fun b u e => Heap.get?_push_of_some _ e) (Nat.le_refl _)
      (show ObjOk X.prog X.w _ _ _ (.lst (xs.drop n)) from ⟨by rw [List.length_drop]; omega, its.drop n, 0, vals_drop rv, Heap.get?_push_size _ rfl⟩)
  exact h.run pins _ σ _ _ _ Q I2 (vals_app (v := .ref h₂.objs.size) (vals_take rv) rfl) (hw _ (I1.hok.fresh (Nat.le_refl _)))
end
end L2

/-! enumerate(list, start=k), walked. -/
namespace L2
open PySem PySem.Spec PyProof.Rows
theorem en_end {prog : Program} {w : World} {A : Around} {E : Value → Shared → Prop} {s : Shared} {e it l : Addr} {k : Int} {i : Nat} {items : Array Value} {old : Value} {Q : Option Value → Shared → Prop} (hh : A.handled = none)
    (he : IsEnum s.heap e it k old) (hit : s.heap.IsListIter it l i) (hl : s.heap.IsList l items) (hx : items[i]? = none)
    (hQ : ∀ h', Heap.ExtBut it s.heap h' → Q none { s with heap := h' }) : wpAny (model prog w) A (pyNext (.ref e)) Q E s := by
  have hT : s.TypeIs (.ref e) "enumerate" := ⟨_, he, rfl⟩
  unfold pyNext
  refine wpAny_bind (wpAny_attempt (wpAny_callSpecial?_slot (name := Str.ofString "__next__") hT F.slot_enumerate_next
    (wpAny_call_entry F.slot_enumerate_next hT F.entry_enumerate_next ?_ (F.args_enumerate_next_1 _))))
  show wpAny _ _ (field (.ref e) 2 >>= _) _ _ _
  refine wpAny_bind (wpAny_field he rfl (x := .ref it) rfl ?_)
  refine wpAny_bind (wpAny_nextOf_list_end hh hit hl hx fun h' x he' hx' => ?_)
  obtain ⟨o, ho, hc⟩ := hx'
  refine wpAny_bind (wpAny_isInstance (T := "StopIteration") (b := true) ⟨o, ho, hc⟩ isSubtype_stop ?_)
  exact wpAny_pure (hQ _ he')
theorem callWith_typeKw {M : Model} {A : Around} {E : Value → Shared → Prop} {s : Shared} {pos : Pos} {T : String} {first : List Value} {args : List (Bool × Sem Value)} {kws : List (Option Str × Sem Value)} {Q : Value → Shared → Prop}
    (hplain : args.any (·.1) = false) (hkw : kws.any (·.1.isNone) = false)
    (h : wpAny M A (evalArgs (.type T) true args kws) (fun a s₁ => wpAny M A (call (.type T) (first ++ a.pos) a.kw) Q E s₁) E s) :
    wpAny M A (callWith pos (.type T) first args kws) Q E s := by
  unfold callWith
  refine wpAny_bind (wpAny_holding (wpAny_mono h (fun a s₁ h₁ => wpAny_bind (wpAny_standAt ?_)) fun _ _ x => x))
  simp only [hplain, hkw, Bool.or_false]
  refine wpAny_bind (wpAny_pure ?_)
  exact wpAny_bind (wpAny_mono h₁ (fun r s₂ hr => wpAny_bind (wpAny_holding (wpAny_point (wpAny_pure hr)))) fun _ _ x => x)
/-- the list at a as it stands at each turn, each item in a new pair, counted from c -/
def IteC (K : PySem.W.Frag) (a : Addr) (c : Int) : It :=
  ⟨fun i H => ∃ (xs : List V) (x : V), SqL K H a xs ∧ xs[i]? = some x, fun i H v H' => ∃ T x, v = .ref T ∧ H T = none ∧ H' = upd H T (.tup [.int (c + (i : Nat)), x]) ∧ ∀ xs, SqL K H a xs → xs[i]? = some x, fun i H => ∃ xs : List V, SqL K H a xs ∧ xs.length ≤ i⟩
theorem turn_enumC {P : Program} {w : World} {K : PySem.W.Frag} {elts : List Expr} {kk : Nat} {tpos : Pos} (a e it : Addr) (c : Int) :
    Turn P w K (.Tuple elts kk tpos) (IteC K a c) [e, it] e (fun i h => (∃ old, IsEnum h e it (c + (i : Nat)) old) ∧ h.IsListIter it a i ∧ e ≠ it ∧ a ≠ it ∧ a ≠ e) where
  mem := by simp
  obj := fun i h st b hb => by
    obtain ⟨⟨old, he⟩, ⟨o, ho, hc, hd⟩, _⟩ := st
    have e' : b = e ∨ b = it := by simpa using hb
    rcases e' with z | z
    · rw [z]; exact ⟨_, he, fun v q => nomatch q⟩
    · rw [z]; exact ⟨o, ho, fun v q => by rw [hd] at q; cases q⟩
  keep := fun i h h' st k => let ⟨⟨old, he⟩, hi, hne⟩ := st; ⟨⟨old, k e (by simp) _ he⟩, hi.at fun o q => k it (by simp) o q, hne⟩
  item := by
    intro X hP hw hK hc i pins s σ H E I hf st hg
    subst hP hw hK
    obtain ⟨⟨old, he⟩, hit, hne, ha1, ha2⟩ := st
    obtain ⟨xs, x, hq, hx⟩ := hg
    obtain ⟨its, rv, p, hz⟩ := I.list hq
    obtain ⟨u, hu, ru⟩ := rv.get hx
    have hel : e < s.heap.objs.size := Heap.lt_size he
    have hil : it < s.heap.objs.size := by obtain ⟨_, q, _⟩ := hit; exact Heap.lt_size q
    have hlt : i < its.toArray.size := by
      rw [List.size_toArray]
      exact (List.getElem?_eq_some_iff.mp hu).1
    refine wpAny_pyNext_enum_itemC (Draws.list (A := X.A.in1) (I.ok.hd hc) it a ha1 its.toArray) he ⟨hit, p.isList⟩ hlt hne (by simp [hne, Ne.symm ha2]) fun x2 h' tk hx2 ho hst hT hsz hk => ?_
    have ex : x2 = u := by
      have hx3 : its[i]? = some x2 := by simpa using hx2
      rw [hu] at hx3
      exact (Option.some.inj hx3).symm
    subst ex
    refine ⟨_, rfl, wpAny_letOwnedTupleGo_enum (s := { s with heap := h', toks := tk + 1 }) ho fun h'' he' sb => ?_⟩
    have hT2 : h''.get? s.heap.objs.size = some { cls := .type "tuple", data := .seq #[.int (c + (i : Nat)) tk, x2] } := (sb.2 _ (Nat.ne_of_gt hel)).trans hT
    have new : ObjOk X.prog X.w (upd H s.heap.objs.size (.tup [.int (c + (i : Nat)), x])) h'' s.heap.objs.size (.tup [.int (c + (i : Nat)), x]) :=
      ⟨by show 2 ≤ sizeLine; decide, [.int (c + (i : Nat)) tk, x2], .cons ⟨_, rfl⟩ (.cons ru .nil), ⟨_, hT2, rfl, _, rfl⟩⟩
    have I1 : Inv X pins σ (upd H s.heap.objs.size (.tup [.int (c + (i : Nat)), x])) { s with heap := h'', toks := tk + 1 } :=
      I.turnedNew (ch := [e, it]) (fun b ob hb q => (sb.2 b (fun z => hb (by simp [z]))).trans (hk b ob (fun z => hb (by simp [z])) (fun z => hb (by simp [z])) q)) hf (Nat.le_refl _) new
    refine ⟨.ref s.heap.objs.size, _, I1, rfl, ⟨_, x, rfl, I.hok.fresh (Nat.le_refl _), rfl, fun ys hy => by rw [I.list_inj hy hq]; exact hx⟩, ⟨⟨x2, ?_⟩, hst.1.at fun o q => (sb.2 it (Ne.symm hne)).trans q, hne, ha1, ha2⟩, fun b hb => ?_⟩
    · have e1 : c + ((i + 1 : Nat) : Int) = c + (i : Int) + 1 := by omega
      rw [e1]; exact he'
    · have hb' : b < s.heap.objs.size := by
        have e' : b = e ∨ b = it := by simpa using hb
        rcases e' with z | z
        · rw [z]; exact hel
        · rw [z]; exact hil
      rw [upd_ne (Nat.ne_of_lt hb')]
      exact (hf b hb).1
  done := by
    intro X hP hw hK hc i pins s σ H E I hf st hg
    subst hP hw hK
    obtain ⟨⟨old, he⟩, hit, hne, ha1, ha2⟩ := st
    obtain ⟨xs, hq, hx⟩ := hg
    obtain ⟨its, rv, p, hz⟩ := I.list hq
    obtain ⟨f0, f1, f2, f3, f4, f5⟩ := hf it (by simp)
    have hl := rv.length
    exact en_end (I.ok.hd hc) he hit p.isList (by simp; omega) fun h' eb => ⟨rfl, I.turned (t' := s.toks) (fun b o hb q => eb b o hb q) f0 f1 f3 f4 f5⟩
  self := fun A i s Q E st h => let ⟨⟨_, he⟩, _⟩ := st; wpAny_pyIter_enum he h
def iEnumC (K : PySem.W.Frag) (c : Int) (ta : TA) : TI := fun σ H R => ta σ H fun vs H1 => ∃ a xs, vs = [.ref a] ∧ SqL K H1 a xs ∧ R (IteC K a c) H1
theorem pi_enumC {X : Cx} {e : Expr} {ta : TA} {p pos tpos kp cp : Pos} {ck : Nat} {c : Int} {elts : List Expr} {kk : Nat} (h0 : -(2 ^ 63) ≤ c) (h1 : c < 2 ^ 63) (hg : Gl X "enumerate") (hm : X.mg "enumerate" = none) (ha : PA X [e] ta) (hs : starEach [e] X.env = [(false, eval e X.env)] := by rfl) :
    PI X (.Tuple elts kk tpos) (.Call (.Name "enumerate" p) [e] [⟨some (Str.ofString "start"), .Constant (.int c) ck cp, kp⟩] pos) (iEnumC X.K c ta) := by
  refine ⟨fun pins s σ H R I h => ?_⟩
  refine wpAny_Call_Name_kw (ld_blt I hg hm boot_enumerate ?_ (by decide) (by decide))
  refine callWith_typeKw (by rw [hs]; rfl) rfl ?_
  rw [hs]
  refine evalArgs_kwB rfl ?_
  have hr := ha.run pos pins s σ H _ I h
  rw [hs] at hr
  refine thn hr fun us s1 ⟨vs, H1, I1, r1, q1⟩ => ?_
  show wpAny _ _ (evalAll [_]) _ _ _
  refine wpAny_evalAll_cons (wpAny_bind (wpAny_Constant_int (wpAny_bind (wpAny_standAt (wpAny_pure ?_)))))
  refine wpAny_evalAll_nil ?_
  obtain ⟨a, xs, ex, hq, q⟩ := q1
  subst ex
  cases r1 with
  | cons r rr =>
    cases rr
    cases r
    obtain ⟨its, rv, p', hz⟩ := I1.list hq
    refine PySem.enum_begins_start (PySem.begins_list a its.toArray) p'.isList h0 h1 fun h' he hit hsz hk => wpAny_pyIter_enum he ?_
    have hal : a < s1.heap.objs.size := by
      obtain ⟨o, ho, _⟩ := p'.isList
      exact Heap.lt_size ho
    refine ⟨s1.heap.objs.size + 1, [s1.heap.objs.size + 1, s1.heap.objs.size], _, _, H1, rfl, I1.kept hk, turn_enumC a (s1.heap.objs.size + 1) s1.heap.objs.size c,
      ⟨⟨.none, by rw [show c + ((0 : Nat) : Int) = c by omega]; exact he⟩, ⟨_, hit, rfl, rfl⟩, Nat.succ_ne_self _, Nat.ne_of_lt hal, Nat.ne_of_lt (Nat.lt_succ_of_lt hal)⟩, fun b hb => ?_, q⟩
    have e' : b = s1.heap.objs.size + 1 ∨ b = s1.heap.objs.size := by simpa using hb
    have hle : s1.heap.objs.size ≤ b := by
      rcases e' with z | z
      · rw [z]; exact Nat.le_add_right _ _
      · rw [z]; exact Nat.le_refl _
    exact I1.fpOk hle (I1.hok.fresh hle)
end L2

/-! isinstance(e, C): e an own error that may have a dict of its own -/
namespace Xp
open PySem PySem.W PySem.Calls PyProof.Rows
section
variable {prog : Program} {w : World} {A : Around} {E : Value → Shared → Prop} {s : Shared} {K : Frag} {x D : Addr} {ox : Obj} {od : Option Obj}
theorem find_data {C : Addr} {name : Str} {a g : Value} (hc : (clsIn K C).isSome = true) (ha : findIn K (.ref C) name = some (some a)) (hg : specialIn K a "__get__" = some (some g)) (ht : takesIn K a = some true) : findObj K C od name = some (.bind g a) := by
  obtain ⟨cd, hcd⟩ := Option.isSome_iff_exists.mp hc
  unfold findObj
  rw [hcd, Option.bind_some, ha, Option.bind_some]
  simp [hg, ht]
theorem cls_attr {Q : Option Value → Shared → Prop} (T : L2.ExcC K D) (X : K.In s.heap) (I : InstAt s.heap x ox D od) (h : Q (some (.ref D)) { s with toks := s.toks + 1 }) :
    wpAny (model prog w) A (getAttr? (.ref x) "__class__") Q E s := by
  have hfo : findObj K D od "__class__" = some (.bind (.builtin "getset_descriptor.__get__") (.builtin "object.__class__")) := find_data (by obtain ⟨cd, z, _⟩ := any_some T.hd; rw [z]; rfl) T.ha T.hn T.ht
  obtain ⟨hp, g, d, t, os⟩ := s
  have La := I.type (M := model prog w)
  have Lb := looks_findIn (M := model prog w) X T.hg
  have Lc := looks_findIn (M := model prog w) X T.hk
  have Ld := looks_find (M := model prog w) X I hfo
  have isB : Looks (model prog w) hp (isInstance (.ref x) (.type "BaseException")) true := La.andThen (looks_subIn X T.hs)
  have g0 : (Value.builtin "BaseException.__getattribute__" == Value.builtin "object.__getattribute__") = false := by decide +kernel
  have g1 : (onTheHeap (Value.ref D) && Value.builtin "BaseException.__getattribute__" == Value.builtin "object.__getattribute__") = false := by rw [g0]; rfl
  have g2 : (false && onTheHeap (Value.builtin "BaseException.__getattribute__")) = false := rfl
  unfold getAttr? getAttrBy? getAttrBy
  refine wpAny_bind (wpAny_mkText (wpAny_bind (wpAny_attempt (wpAny_holding (wpAny_bind (La.at (wpAny_bind (Lb.at ?_))))))))
  show wpAny _ _ (if (onTheHeap (Value.ref D) && Value.builtin "BaseException.__getattribute__" == Value.builtin "object.__getattribute__") = true then _ else _) _ _ _
  rw [g1, if_neg Bool.false_ne_true]
  unfold getAttrByItsOwn hookBefore
  refine wpAny_bind ?_
  rw [if_pos (show onTheHeap (Value.ref D) = true from rfl)]
  refine Lc.at (wpAny_bind (wpAny_attempt (wpAny_holding ?_)))
  unfold callGetattribute
  rw [g2, if_neg Bool.false_ne_true]
  unfold boundAndCalled
  rw [PySem.F.excAttr_ValueError.ga.bind (.ref x)]
  refine wpAny_bind (wpAny_pure ?_)
  show wpAny _ _ (call (.builtin "BaseException.__getattribute__") [.ref x, .str "__class__" t]) _ _ _
  refine wpAny_call (codeAny_call_builtin PySem.F.excAttr_ValueError.ga.plain PySem.F.entry_bexc_ga ?_)
  refine @check_slot (model prog w) _ _ ⟨hp, g, d, t + 1, os⟩ "BaseException.__getattribute__" "BaseException" "__getattribute__" (.ref x) [.str "__class__" t] [] _ (by decide +kernel) (by decide +kernel) isB (PySem.F.args_bexc_ga (.ref x) (.str "__class__" t)) ?_
  unfold Builtin.«object.__getattribute__»
  refine wpAny_bind (wpAny_of_eq (a := ((Value.ref x : Value), [Value.str "__class__" t])) (by first | rfl | (simp only [slotArgs]; rfl)) ?_)
  refine wpAny_bind (wpAny_pure (wpAny_bind (La.at (wpAny_bind (Ld.at ?_)))))
  show wpAny _ _ (holding [Value.builtin "object.__class__"] (call (.builtin "getset_descriptor.__get__") [.builtin "object.__class__", .ref x, .ref D]) >>= ret) _ _ _
  refine wpAny_bind (wpAny_holding (wpAny_call (class_get (s := ⟨hp, g, d, t + 1, os⟩) (ox := ox) (od := od) X I T.hm (wpAny_pure ?_))))
  show wpAny _ _ (handedOut (.ref D)) _ _ _
  rw [handedOut_of (v := .ref D) rfl]
  first
    | exact wpAny_pure (wpAny_pure h)
    | exact wpAny_pure h
    | exact wpAny_pure (wpAny_bind (wpAny_pure (wpAny_pure h)))
theorem kitx_err (T : L2.ExcC K D) : KitX K (.ref x) (.ref D) (fun h => InstAt h x ox D od) where
  ty := fun _ _ _ I => I.type
  it := fun _ _ X _ => by
    obtain ⟨cdD, hcD, _⟩ := any_some T.hd
    unfold clsIn at hcD
    split at hcD
    · rename_i c' d' cd' sl' ho
      intro A' Q' E' s' k q
      unfold isType loadHead
      exact wpAny_bind (wpAny_loadPart (k _ _ (X _ _ ho)) (wpAny_pure q))
    · cases hcD
  ne := fun h tp dd its n sl X htp => by
    obtain ⟨cdD, hcD, _⟩ := any_some T.hd
    refine Bool.eq_false_iff.mpr fun q => ?_
    have e : D = tp := Value.ref.inj (beq_iff_eq.mp q)
    subst e
    unfold clsIn at hcD
    split at hcD
    · rename_i c' d' cd' sl' ho
      cases (X _ _ ho).symm.trans htp
    · cases hcD
  ca := fun X I k => cls_attr T X I k
end
end Xp
namespace L2
open PySem PySem.Spec PyProof.Rows
/-- isinstance(e, c) in a suite that holds the error at a, whose class is at D and whose dict is dd -/
def rIsX (K : PySem.W.Frag) (D a dd : Addr) : List V → Hp → VK → Prop := fun xs H Q => ∃ (c : V) (cv : Value) (b : Bool), xs = [.ref a, c] ∧ (∃ fs, H dd = some (.xd fs)) ∧ (∀ u, RelV c u → u = cv) ∧ PySem.W.kitOne K (.ref D) cv = some b ∧ Q (.bl b) H
theorem call_isX {X : Cx} {a D dd : Addr} {oe : Obj} {pn : List (Addr × Obj)} (T : ExcC X.K D) (hz : Zc (.ref D) (some dd) oe) (hf : ∃ vs, oe.data = .fields vs) : CallR (X.suite a ((a, oe) :: pn)) (.builtin "isinstance") (rIsX X.K D a dd) := by
  intro pins s σ H xs us Q I r h
  obtain ⟨c, cv, b, rfl, ⟨fs, hdd⟩, hcv, e, q⟩ := h
  obtain ⟨u1, u2, rfl, r1, r2⟩ := vals2 r
  cases (show u1 = Value.ref a from r1)
  obtain rfl := hcv _ r2
  obtain ⟨hget, _⟩ := I.pin (a, oe) (List.mem_append.mpr (.inl List.mem_cons_self))
  obtain ⟨vs, hv⟩ := hf
  have hx : ObjOk X.prog X.w H s.heap dd (.xd fs) := I.hok dd _ hdd
  obtain ⟨mA, ⟨o, es, ep, ho, _⟩, _⟩ := hx
  have J : PySem.W.InstAt s.heap a oe D (some o) := ⟨hget, hz.1, by unfold PySem.W.notCls; rw [hv], by rw [hz.2]; exact ho⟩
  exact PySem.W.kia_one (Xp.kitx_err T) I.kIn J e (fun z => nomatch z) fun tk => ⟨.bl b, H, I.kept (t' := tk) fun _ _ z => z, rfl, q⟩
end L2

/-! try with several clauses, each of which gives the exception a name. -/
namespace XTry
open PySem PySem.Spec L2 PyProof.Rows
/-- a clause: the class that it names, its name's slot, its suite's reading -/
abbrev Cl := Value × Nat × (Addr → Value → Option Addr → TS)
/-- behind a suite its name is empty -/
def gone (i : Nat) (D : Ends) : Ends where
  nx := fun τ G => D.nx (τ.set i none) G
  rt := D.rt
  bk := fun τ G => D.bk (τ.set i none) G
  ct := fun τ G => D.ct (τ.set i none) G
/-- what the clauses want of the body's exception -/
def wCls (K : PySem.W.Frag) (out : WX) (D : Ends) : List Cl → WX
  | [] => out
  | k :: r => fun cls d τ G => ∃ hit, PySem.W.exmOne K cls k.1 = some hit ∧ (hit = true → ∀ e, G e = none → k.2.2 e cls d (gone k.2.1 D) (τ.set k.2.1 (some (.ref e))) G) ∧ (hit = false → wCls K out D r cls d τ G)
inductive ClsOk (X : Cx) : List ExceptHandler → List Cl → Prop
  | nil : ClsOk X [] []
  | cons {x n : Str} {c : Value} {i : Nat} {ts : Addr → Value → Option Addr → TS} {st : Stmt} {sts : List Stmt} {p q : Pos} {hds : List ExceptHandler} {l : List Cl} (nm : Names X x c) (at_ : X.N[i]? = some n) (lc : X.env.kindOf n = some .local)
      (rd : ∀ (e : Addr) (o : Obj) (cls : Value) (d : Option Addr) (pn : List (Addr × Obj)), Zc cls d o → (∃ vs, o.data = .fields vs) → PSs (X.suite e ((e, o) :: pn)) (st :: sts) (ts e cls d)) (r : ClsOk X hds l) :
      ClsOk X (.ExceptHandler (some (.Name x p)) (some n) (st :: sts) q :: hds) ((c, i, ts) :: l)
section
variable {X : Cx} {body : List Stmt} {out : WX} {D : Ends} {pins : List (Addr × Obj)}
/-- the exception e has come down to this frame, its flight ended -/
structure Here (X : Cx) (pins : List (Addr × Obj)) (e : Addr) (cls : Value) (d : Option Addr) (τ : L2.St) (G : Hp) (B : Heap) (s0 s1 : Shared) : Prop where
  ok : X.Ok
  fr : X.env.frame = some X.env.locals
  stk : X.stack = X.env :: X.outer
  inv : Inv X pins τ G s0
  old : ∀ b o, s0.heap.get? b = some o → b ∉ frs X.stack → B.get? b = some o
  up : s0.heap.UpToSlots s1.heap
  fl : HandSPX.FlyingZ B (X.env :: X.outer) e (Zc cls d) s1.heap
  new : G e = none
  os : s1.os = s0.os
  gens : AllBare s1.gens
variable {e : Addr} {cls : Value} {d : Option Addr} {τ : L2.St} {G : Hp} {B : Heap} {s0 s1 : Shared}
theorem Here.now (z : Here X pins e cls d τ G B s0 s1) : Inv X pins τ G s1 := z.inv.landed z.old z.fl.1 z.up z.os z.gens
/-- e's object, apart from the frames -/
theorem Here.obj (z : Here X pins e cls d τ G B s0 s1) : ∃ (o : Obj) (vs : Array Value), s1.heap.get? e = some o ∧ Zc cls d o ∧ o.data = .fields vs ∧ e ≠ X.env.locals ∧ e ∉ X.fs := by
  obtain ⟨o, vs, ho, hzc, hdt⟩ := z.fl.there
  have far : e ∉ frs (X.env :: X.outer) := fun hm => by
    obtain ⟨_, o2, h2, h3⟩ := z.fl.2.2.1.mem hm
    rw [ho] at h2
    cases h2
    exact h3 _ hdt
  refine ⟨o, vs, ho, hzc, hdt, fun q => far (List.mem_filterMap.mpr ⟨X.env, List.mem_cons_self, ?_⟩), fun hm => ?_⟩
  · rw [z.fr, q]
  · obtain ⟨en, he, q⟩ := List.mem_filterMap.mp hm
    exact far (List.mem_filterMap.mpr ⟨en, List.mem_cons_of_mem _ he, q⟩)
theorem Here.suite (z : Here X pins e cls d τ G B s0 s1) : ∃ o : Obj, Zc cls d o ∧ (∃ vs, o.data = .fields vs) ∧ s1.heap.get? e = some o ∧ Inv (X.suite e ((e, o) :: (X.pn ++ pins))) [] τ G s1 := by
  obtain ⟨o, vs, h1, h2, h3, h4, h5⟩ := z.obj
  exact ⟨o, h2, ⟨vs, h3⟩, h1, z.now.suite h1 h3 z.new h4 h5⟩
theorem clauses (nd : X.N.Nodup) (tk : Takes X out) : ∀ {hds : List ExceptHandler} {l : List Cl}, ClsOk X hds l → ∀ {s1 : Shared}, Here X pins e cls d τ G B s0 s1 → wCls X.K out D l cls d τ G → wpAny (model X.prog X.w) X.A (handleBy (.ref e) X.env hds) (SP X pins D) X.xe s1
  | _, _, .nil, s1, z, w => by
    refine wpAny_handleBy_nil ?_
    have fly : wpAny (model X.prog X.w) X.A (setFlight (.ref e) X.env.frame) (fun _ s2 => wpAny (model X.prog X.w) X.A (throw (.ref e) : Sem Flow) (SP X pins D) X.xe s2) X.xe s1 := by
      rw [z.fr]
      refine HandSPX.setFlight_upZ z.fl fun h2 held up2 => wpAny_throw (tk _ _ ⟨e, B, s0, pins, τ, G, cls, d, rfl, z.inv, z.old, z.up.trans up2, ?_, z.new, z.os, z.gens, w⟩)
      rw [z.stk]
      exact .inr (.inr held)
    obtain ⟨_, _, _, o, vs, T, oT, ts, ho, _, hdt, at1, _⟩ := id z.fl
    unfold PySem.passOn
    refine wpAny_bind (wpAny_field ho hdt at1 ?_)
    have nn : ¬ ((Value.ref T == Value.none) = true) := by simp
    rw [if_neg nn]
    first
      | exact wpAny_bind (wpAny_pure (wpAny_bind fly))
      | exact wpAny_bind fly
  | _, _, .cons (x := x) (n := n) (c := c) (i := i) (ts := ts) (st := st) (sts := sts) (p := p) (q := q) (hds := hds) (l := l) nm at_ lc rd r, s1, z, w => by
    obtain ⟨hit, hm, yes, no⟩ := w
    obtain ⟨o, zc, df, ho, I1⟩ := z.suite
    refine wpAny_handleBy_cons (codeAny_handlers_test ?_) (by intro h; cases h)
    have kind : PySem.W.Looks (model X.prog X.w) s1.heap (typeOf (.ref e)) cls := fun A Q E s k h => wpAny_typeOf_ref (k _ _ ho) (by rw [zc.1]; exact h)
    have look := PySem.W.exm_one (M := model X.prog X.w) z.now.kIn kind hm
    have named : ∀ {Q E : Value → Shared → Prop}, Q c s1 → wpAny (model X.prog X.w) (X.A.mark (some (.ref e))) (eval (.Name x p) X.env) Q E s1 := fun {Q E} h => by
      rcases nm with ⟨g, dbg, m | ⟨m, bt, nn⟩⟩
      · exact ld_glob (X := X.suite e ((e, o) :: (X.pn ++ pins))) I1 g m h dbg
      · exact ld_blt (X := X.suite e ((e, o) :: (X.pn ++ pins))) I1 g m bt h nn dbg
    refine named (look.here ?_)
    cases hit with
    | false =>
      show wpAny _ X.A (handleBy (.ref e) X.env hds) _ _ _
      exact clauses nd tk r z (no rfl)
    | true =>
      refine codeAny_handlers_suite_as (HandSPX.lands_againZ z.fl fun h2 fl2 up2 => ?_)
      have z2 : Here X pins e cls d τ G B s0 { s1 with heap := h2 } := ⟨z.ok, z.fr, z.stk, z.inv, z.old, z.up.trans up2, fl2, z.new, z.os, z.gens⟩
      obtain ⟨o2, zc2, df2, ho2, I2⟩ := z2.suite
      refine store_ok (X := X.suite e ((e, o2) :: (X.pn ++ pins))) (v := .ref e) I2 nd at_ (.inl lc) rfl (fun s3 I3 => ?_) (.inr lc)
      have leave : ∀ {s4 : Shared} {τ4 : L2.St} {G4 : Hp} {Q : Shared → Prop}, Inv (X.suite e ((e, o2) :: (X.pn ++ pins))) [] τ4 G4 s4 → (∀ s5, Inv X pins (τ4.set i none) G4 s5 → Q s5) →
          wpAny (model X.prog X.w) X.A (do bindName X.env n .none; unbindBehindTheSuite X.env n q) (fun _ s5 => Q s5) X.xe s4 := fun I4 h => gone_ok (I4.unsuite z.ok) nd at_ lc h
      refine wpAny_mono ((rd e o2 cls d (X.pn ++ pins) zc2 df2).run [] s3 _ G _ I3 (yes rfl e z.new)) (fun fl s4 h4 => ?_) (fun _ _ h => False.elim h)
      cases fl with
      | ret u =>
        obtain ⟨v, τ4, G4, I4, rv, h4⟩ := h4
        exact leave I4 fun s5 I5 => ⟨v, _, _, I5, rv, h4⟩
      | next =>
        obtain ⟨τ4, G4, I4, h4⟩ := h4
        exact leave I4 fun s5 I5 => ⟨_, _, I5, h4⟩
      | brk =>
        obtain ⟨τ4, G4, I4, h4⟩ := h4
        exact leave I4 fun s5 I5 => ⟨_, _, I5, h4⟩
      | cont =>
        obtain ⟨τ4, G4, I4, h4⟩ := h4
        exact leave I4 fun s5 I5 => ⟨_, _, I5, h4⟩
theorem ps_tryCls {tb : WX → TS} {h0 : ExceptHandler} {hds : List ExceptHandler} {l : List Cl} {pos : Pos} (stk : X.stack = X.env :: X.outer) (fr : X.env.frame = some X.env.locals) (nd : X.N.Nodup) (tk : Takes X out)
    (rdb : ∀ (W : WX) (pn : List (Addr × Obj)) (xe : Value → Shared → Prop), Takes (X.tr pn xe) W → PassesOwn (model X.prog X.w) X.A X.env xe → PSs (X.tr pn xe) body (tb W)) (ok : ClsOk X (h0 :: hds) l) :
    PS X (.Try body (h0 :: hds) [] [] pos) (fun D σ H => tb (wCls X.K out D l) D σ H) := by
  refine ⟨fun pins s σ H D I hw => wpAny_Try_except ?_⟩
  have frs_ : X.A.frames = some (X.env :: X.outer) := by rw [I.ok.frames, stk]
  have bodyRun := (rdb (wCls X.K out D l) (X.pn ++ pins) (fun u s1 => wpAny (model X.prog X.w) X.A (noteFrame u X.env) (fun _ s2 => wpAny (model X.prog X.w) X.A (setFlight u none) (fun _ s3 => wpAny (model X.prog X.w) X.A (handleBy u X.env (h0 :: hds)) (SP X pins D) X.xe s3) X.xe s2) X.xe s1) (fun u s1 air => ?_) PassesOwn.looking).run [] s σ H D (I.toTry _) hw
  · refine wpAny_mono bodyRun (fun fl s1 h1 => ?_) (fun _ _ h => h)
    cases fl with
    | ret u =>
      obtain ⟨v, τ, G, I1, rv, h1⟩ := h1
      exact ⟨v, τ, G, I1.ofTry I.ok, rv, h1⟩
    | next =>
      obtain ⟨τ, G, I1, h1⟩ := h1
      exact wpAny_execs_nil ⟨τ, G, I1.ofTry I.ok, h1⟩
    | brk =>
      obtain ⟨τ, G, I1, h1⟩ := h1
      exact ⟨τ, G, I1.ofTry I.ok, h1⟩
    | cont =>
      obtain ⟨τ, G, I1, h1⟩ := h1
      exact ⟨τ, G, I1.ofTry I.ok, h1⟩
  · obtain ⟨e, B, s0, pn2, τ, G, cls, d, eq, I0, old, up, sky, new, os, gens, w⟩ := air
    subst eq
    have sky2 : Sky B (X.env :: X.outer) e (Zc cls d) X.env.locals s1.heap := by rw [← stk]; exact sky
    show wpAny _ X.A (noteFrame (.ref e) X.env) _ _ _
    refine Sky.land Zc.steady frs_ fr sky2 fun h2 fl up2 => ?_
    exact clauses nd tk ok (⟨I.ok, fr, stk, I0.ofTry I.ok, old, up.trans up2, fl, new, os, gens⟩ : Here X pins e cls d τ G B s0 { s1 with heap := h2 }) w
end
end XTry

/-! Words of our own over the hand layer: what is walked as a list of values, comprehensions and loops by one invariant, a def by its promise. -/
namespace Kw
open PySem PySem.Spec L2
/-- J walks over the items xs, wherever P holds -/
def Over (J : It) (xs : List V) (P : Hp → Prop) : Prop := ∀ i H, P H → (i < xs.length → J.go i H) ∧ (xs.length ≤ i → J.stop i H) ∧ ∀ v H', i < xs.length → J.yld i H v H' → H' = H ∧ xs[i]? = some v
def signs (x : Str) : List V := x.cps.toList.map fun c => .str ⟨#[c]⟩
theorem signs_len (x : Str) : (signs x).length = x.length := by unfold signs; rw [List.length_map]; exact Array.length_toList
theorem over_str (x : Str) : Over (Its x) (signs x) fun _ => True := fun i H _ => by
  have e : (signs x).length = x.cps.size := signs_len x
  refine ⟨fun h => ?_, fun h => ?_, fun v H' hi y => ?_⟩
  · show i < x.cps.size
    omega
  · show x.cps.size ≤ i
    omega
  · obtain ⟨e1, c, hc, rfl⟩ := y
    refine ⟨e1, ?_⟩
    unfold signs
    rw [List.getElem?_map, Array.getElem?_toList, hc]
    rfl
def upto (n : Nat) : List V := (List.range n).map fun i => .int ((i : Nat) : Int)
theorem upto_len (n : Nat) : (upto n).length = n := by unfold upto; rw [List.length_map, List.length_range]
theorem upto_at {n i : Nat} {x : V} (h : (upto n)[i]? = some x) : i < n ∧ x = .int (i : Int) := by
  unfold upto at h
  rw [List.getElem?_map] at h
  by_cases hi : i < n
  · rw [List.getElem?_range hi] at h
    exact ⟨hi, (Option.some.inj h).symm⟩
  · rw [List.getElem?_eq_none (by rw [List.length_range]; omega)] at h
    cases h
theorem over_rng (n : Nat) : Over (Itr 0 n) (upto n) fun _ => True := fun i H _ => by
  have e := upto_len n
  refine ⟨fun h => ?_, fun h => ?_, fun v H' hi y => ?_⟩
  · show i < n
    omega
  · show n ≤ i
    omega
  · obtain ⟨e1, rfl⟩ := y
    refine ⟨e1, ?_⟩
    unfold upto
    rw [List.getElem?_map, List.getElem?_range (by omega)]
    show some (V.int ((i : Nat) : Int)) = some (V.int (0 + ((i : Nat) : Int)))
    rw [Int.zero_add]
theorem over_tup {K : PySem.W.Frag} (a : Addr) (xs : List V) : Over (Itt K a) xs fun H => SqT K H a xs := fun i H p => by
  refine ⟨fun h => ⟨xs, xs[i], p, by simp [h]⟩, fun h => ⟨xs, p, h⟩, fun v H' _ y => ⟨y.1, y.2 xs p⟩⟩
theorem over_lst {K : PySem.W.Frag} (a : Addr) (xs : List V) : Over (Itl K a) xs fun H => SqL K H a xs := fun i H p => by
  refine ⟨fun h => ⟨xs, xs[i], p, by simp [h]⟩, fun h => ⟨xs, p, h⟩, fun v H' _ y => ⟨y.1, y.2 xs p⟩⟩
/-- a comprehension, by an invariant over the turn, the list made so far, the heap -/
theorem lc_of {J : It} {xs : List V} {P : Hp → Prop} {g : TG} {tt : TT} {te : TE} {vs : List Nat} {σ : L2.St} {H1 : Hp} {D : Addr} {Q : Hp → Prop} (o : Over J xs P) (Pv : Nat → List V → Hp → Prop) (hx : xs.length ≤ 100000)
    (h0 : Pv 0 [] (upd H1 D (.lst []))) (hp : ∀ i acc H, Pv i acc H → P H)
    (hs : ∀ i x acc H (Nx : Hp → Prop), xs[i]? = some x → Pv i acc H → H D = some (.lst acc) →
      (∀ y H4, H4 D = some (.lst acc) → Pv (i + 1) (acc ++ [y]) (upd H4 D (.lst (acc ++ [y]))) → ∃ acc, H4 D = some (.lst acc) ∧ acc.length < sizeLine ∧ Nx (upd H4 D (.lst (acc ++ [y])))) →
      (∀ H3, H3 D = some (.lst acc) → Pv (i + 1) acc H3 → Nx H3) → g x (wipe σ vs) H fun σ2 H2 => wipe σ2 vs = wipe σ vs ∧ tt σ2 H2 fun b H3 =>
      if b = true then te σ2 H3 fun y H4 => ∃ acc, H4 D = some (.lst acc) ∧ acc.length < sizeLine ∧ Nx (upd H4 D (.lst (acc ++ [y]))) else Nx H3)
    (hd : ∀ acc H, acc.length ≤ xs.length → Pv xs.length acc H → H D = some (.lst acc) → Q H) :
    ∃ W : Nat → Nat → Hp → Prop, (∃ m, W 0 m (upd H1 D (.lst []))) ∧ ∀ i m H, W i m H →
      (J.stop i H ∧ Q H) ∨ (J.go i H ∧ ∃ Nx : Hp → Prop, (∀ H', Nx H' → ∃ m', m' < m ∧ W (i + 1) m' H') ∧ ∀ x H', J.yld i H x H' → g x (wipe σ vs) H' fun σ2 H2 => wipe σ2 vs = wipe σ vs ∧ tt σ2 H2 fun b H3 =>
        if b = true then te σ2 H3 fun y H4 => ∃ acc, H4 D = some (.lst acc) ∧ acc.length < sizeLine ∧ Nx (upd H4 D (.lst (acc ++ [y]))) else Nx H3) := by
  refine ⟨fun i m H => m = xs.length - i ∧ i ≤ xs.length ∧ ∃ acc, acc.length ≤ i ∧ H D = some (.lst acc) ∧ Pv i acc H, ⟨xs.length, by simp, Nat.zero_le _, [], Nat.zero_le _, upd_same, h0⟩, ?_⟩
  rintro i m H ⟨rfl, hi, acc, hl, hD, p⟩
  obtain ⟨h1, h2, h3⟩ := o i H (hp _ _ _ p)
  by_cases hlt : i < xs.length
  · refine .inr ⟨h1 hlt, fun H' => ∃ acc, acc.length ≤ i + 1 ∧ H' D = some (.lst acc) ∧ Pv (i + 1) acc H', fun H' p' => ⟨xs.length - (i + 1), by omega, rfl, hlt, p'⟩, fun x H' y => ?_⟩
    obtain ⟨rfl, hx'⟩ := h3 x H' hlt y
    exact hs i x acc _ _ hx' p hD (fun y H4 hD4 p4 => ⟨acc, hD4, Nat.lt_of_le_of_lt (show acc.length ≤ 100000 by omega) (by decide), acc ++ [y], by rw [List.length_append]; exact Nat.succ_le_succ hl, upd_same, p4⟩) fun H3 hD3 p3 => ⟨acc, by omega, hD3, p3⟩
  · have e : i = xs.length := by omega
    rw [e] at p hl
    exact .inl ⟨h2 (by omega), hd acc H hl p hD⟩
/-- a for, by an invariant over the turn, the slots, the heap -/
theorem for_of {J : It} {xs : List V} {P : Hp → Prop} {g : TG} {tb : TS} {D : Ends} {σ : L2.St} {H1 : Hp} (o : Over J xs P) (Pv : Nat → L2.St → Hp → Prop) (h0 : Pv 0 σ H1) (hp : ∀ i σ H, Pv i σ H → P H)
    (hs : ∀ i x σ H, xs[i]? = some x → Pv i σ H → g x σ H fun σ2 H2 => tb { D with nx := Pv (i + 1), ct := Pv (i + 1), bk := D.nx } σ2 H2) (hd : ∀ σ H, Pv xs.length σ H → D.nx σ H) :
    ∃ W : Nat → Nat → L2.St → Hp → Prop, (∃ m, W 0 m σ H1) ∧ ∀ i m σ H, W i m σ H →
      (J.stop i H ∧ D.nx σ H) ∨ (J.go i H ∧ ∃ N : L2.St → Hp → Prop, (∀ σ' H', N σ' H' → ∃ m', m' < m ∧ W (i + 1) m' σ' H') ∧ ∀ x H', J.yld i H x H' → g x σ H' fun σ2 H2 => tb { D with nx := N, ct := N, bk := D.nx } σ2 H2) := by
  refine ⟨fun i m σ H => m = xs.length - i ∧ i ≤ xs.length ∧ Pv i σ H, ⟨xs.length, by simp, Nat.zero_le _, h0⟩, ?_⟩
  rintro i m σ H ⟨rfl, hi, p⟩
  obtain ⟨h1, h2, h3⟩ := o i H (hp _ _ _ p)
  by_cases hlt : i < xs.length
  · refine .inr ⟨h1 hlt, Pv (i + 1), fun σ' H' p' => ⟨xs.length - (i + 1), by omega, rfl, hlt, p'⟩, fun x H' y => ?_⟩
    obtain ⟨rfl, hx'⟩ := h3 x H' hlt y
    exact hs i x σ _ hx' p
  · have e : i = xs.length := by omega
    rw [e] at p
    exact .inl ⟨h2 (by omega), hd σ H p⟩
/-- the module's name x holds a def that keeps sp -/
structure Has (P : Program) (w : World) (K : PySem.W.Frag) (mg : Str → Option Value) (base : Heap) (CX : CXT) (k : Nat) (x : Str) (ps : List Str) (sp : Sp) : Prop where
  ex : ∃ (f : Addr) (fd : FuncData), FnOk P w K mg base CX k f fd ps sp ∧ mg x = some (.ref f) ∧ PySem.W.keepIn K (.ref f) = true ∧ Binds K fd ps []
section
variable {X : Cx} {CX : CXT} {k j : Nat} {x : Str} {ps : List Str} {sp : Sp} {E : XK} {e : Expr} {es : List Expr} {t : TA} {p pos : Pos}
theorem pe_has (h : Has X.prog X.w X.K X.mg X.base CX k x ps sp) (hr : Room j X.A) (hk : k ≤ j) (hx : Passes CX X E) (ha : PA X (e :: es) t) (hg : Gl X x := by rfl) (hdb : (x == ("__debug__" : Str)) = false := by decide)
    (he : starEach (e :: es) X.env = (false, eval e X.env) :: starEach es X.env := by rfl) (hpl : (backTo pos (starEach es X.env)).any (·.1) = false := by rfl) :
    PE X (.Call (.Name x p) (e :: es) [] pos) (tCall sp [] E t) := by
  obtain ⟨f, fd, F, hm, kp, b⟩ := h.ex
  exact pe_call F (hr.mono hk) hg hm kp b .nil hx ha hdb he hpl
end
theorem same_new {H : Hp} {p : Addr} {o : HO} (h : H p = none) : Same H (upd H p o) := fun b x e => by
  rw [upd_ne (ne_of_none e h)]
  exact e
theorem Same.tup {K : PySem.W.Frag} {H H' : Hp} {a : Addr} {xs : List V} (e : Same H H') (h : SqT K H a xs) : SqT K H' a xs := by
  rcases h with (h | ⟨o, h⟩) | h
  · exact .inl (.inl (e _ _ h))
  · exact .inl (.inr ⟨o, e _ _ h⟩)
  · exact .inr h
end Kw

/-! != of instances whose class has an __eq__ and no __ne__ of its own; len of instances with an own __len__ -/
namespace Xo
open PySem PySem.W PySem.Calls PyProof.Rows
section
variable {prog : Program} {w : World} {M : Model} {A : Around} {E : Value → Shared → Prop} {s : Shared} {K : Frag} {x y C f : Addr} {ox oy : Obj} {od oe : Option Obj}
theorem bound_ne {more : List Value} {Q : Option Value → Shared → Prop} (X : K.In s.heap) (I : InstAt s.heap x ox C od) (hs : findIn K (.ref C) "__ne__" = some (some (.builtin "object.__ne__")))
    (h : wpAny M A (call (.builtin "object.__ne__") (.ref x :: more)) (fun v => Q (some v)) E s) : wpAny M A (callSpecialIfBound? (.ref x) "__ne__" more) Q E s := by
  have go : wpAny M A (call (.builtin "object.__ne__") ([.ref x] ++ more) >>= fun v => pure (some v)) Q E s := wpAny_bind (wpAny_mono h (fun v s' z => wpAny_pure z) fun _ _ z => z)
  simp only [callSpecialIfBound?, bindSpecialIfBound?]
  refine wpAny_holding (wpAny_bind (wpAny_bind (wpAny_bind (I.type.here ((looks_findIn X hs).here (wpAny_bind (wpAny_askSetting (wpAny_ite ?_))))))))
  split
  · exact wpAny_bind (wpAny_of_eq (F.cmp_object.ne.bind _) (wpAny_pure (by exact go)))
  · exact wpAny_tryCatch (wpAny_bind (wpAny_of_eq (F.cmp_object.ne.bind _) (wpAny_pure (by exact go))))
theorem call_ne {Q : Value → Shared → Prop} (hu : A.in1.units < cLine) (X : K.In s.heap) (I : InstAt s.heap x ox C od) (hm : mroIn K C (.type "object") = some true) (he : findIn K (.ref C) "__eq__" = some (some (.ref f))) (hf : isFn K (.ref f) = true)
    (h : wpAny (model prog w) A.in1 (call (.ref f) [.ref x, .ref y]) (fun v s' => ∃ b, v = .bool b ∧ Q (.bool (!b)) s') E s) : wpAny (model prog w) A (call (.builtin "object.__ne__") [.ref x, .ref y]) Q E s := by
  refine wpAny_call (codeAny_call_builtin F.cmp_object.ne.plain F.cmpEntry_ne (check_slot F.cmpKind_ne F.cmpSplit_ne (I.type.andThen (looks_mroIn X hm)) (F.cmpArgs_ne _ _) ?_))
  unfold Builtin.«object.__ne__»
  refine wpAny_bind (wpAny_of_eq (a := ((Value.ref x : Value), [Value.ref y])) (by first | rfl | (simp only [slotArgs]; rfl)) ?_)
  refine wpAny_bind (wpAny_cRoomFor hu ?_)
  refine wpAny_bind (ifBound_K X I he hf (wpAny_mono h (fun v s' z => ?_) fun _ _ z => z))
  obtain ⟨b, rfl, q⟩ := z
  exact wpAny_bind (wpAny_truthy_bool (wpAny_pure q))
theorem rich_ne {Q : Value → Shared → Prop} (hu : A.units < cLine) (hu1 : A.in1.units < cLine) (X : K.In s.heap) (I : InstAt s.heap x ox C od) (J : InstAt s.heap y oy C oe) (hm : mroIn K C (.type "object") = some true)
    (hn : findIn K (.ref C) "__ne__" = some (some (.builtin "object.__ne__"))) (he : findIn K (.ref C) "__eq__" = some (some (.ref f))) (hf : isFn K (.ref f) = true)
    (h : wpAny (model prog w) A.in1 (call (.ref f) [.ref x, .ref y]) (fun v s' => ∃ b, v = .bool b ∧ Q (.bool (!b)) s') E s) : wpAny (model prog w) A (compareOp .NotEq (.ref x) (.ref y)) Q E s := by
  refine cmp_ofNotEq ?_
  have one : wpAny (model prog w) A (tryCompare (.ref x) "__ne__" (.ref y)) (fun r s' => ∃ b, r = some (.bool b) ∧ Q (.bool b) s') E s := by
    unfold tryCompare
    refine wpAny_bind (bound_ne X I hn (call_ne hu1 X I hm he hf (wpAny_mono h (fun v s' z => ?_) fun _ _ z => z)))
    obtain ⟨b, rfl, q⟩ := z
    exact ⟨b, rfl, wpAny_pure ⟨!b, rfl, q⟩⟩
  have e0 : (Value.ref C != Value.ref C) = false := by simp
  unfold richCompare
  simp only [oneThing_ref, cmpInfo_NotEq]
  refine wpAny_holding (wpAny_bind (wpAny_cRoomFor hu ?_))
  refine wpAny_bind (I.type.here (wpAny_bind (J.type.here ?_)))
  rw [e0]
  refine wpAny_bind (wpAny_pure ?_)
  simp only [Bool.false_eq_true, if_false, Bool.not_false, if_true]
  refine wpAny_bind (wpAny_mono one (fun r s' z => ?_) fun _ _ z => z)
  obtain ⟨b, rfl, q⟩ := z
  exact wpAny_pure q
theorem rich_eq {Q : Value → Shared → Prop} (hu : A.units < cLine) (X : K.In s.heap) (I : InstAt s.heap x ox C od) (J : InstAt s.heap y oy C oe)
    (he : findIn K (.ref C) "__eq__" = some (some (.ref f))) (hf : isFn K (.ref f) = true)
    (h : wpAny (model prog w) A (call (.ref f) [.ref x, .ref y]) (fun v s' => ∃ b, v = .bool b ∧ Q (.bool b) s') E s) : wpAny (model prog w) A (compareOp .Eq (.ref x) (.ref y)) Q E s := by
  refine cmp_ofEq ?_
  have one : wpAny (model prog w) A (tryCompare (.ref x) "__eq__" (.ref y)) (fun r s' => ∃ b, r = some (.bool b) ∧ Q (.bool b) s') E s := by
    unfold tryCompare
    refine wpAny_bind (ifBound_K X I he hf (wpAny_mono h (fun v s' z => ?_) fun _ _ z => z))
    obtain ⟨b, rfl, q⟩ := z
    exact wpAny_pure ⟨b, rfl, q⟩
  have e0 : (Value.ref C != Value.ref C) = false := by simp
  unfold richCompare
  simp only [oneThing_ref, cmpInfo_Eq]
  refine wpAny_holding (wpAny_bind (wpAny_cRoomFor hu ?_))
  refine wpAny_bind (I.type.here (wpAny_bind (J.type.here ?_)))
  rw [e0]
  refine wpAny_bind (wpAny_pure ?_)
  simp only [Bool.false_eq_true, if_false, Bool.not_false, if_true]
  refine wpAny_bind (wpAny_mono one (fun r s' z => ?_) fun _ _ z => z)
  obtain ⟨b, rfl, q⟩ := z
  exact wpAny_pure q
end
end Xo
namespace L2
open PySem PySem.Spec PyProof.Rows
structure NeC (K : PySem.W.Frag) (C f : Addr) : Prop where
  hm : PySem.W.mroIn K C (.type "object") = some true
  hn : PySem.W.findIn K (.ref C) "__ne__" = some (some (.builtin "object.__ne__"))
  he : PySem.W.findIn K (.ref C) "__eq__" = some (some (.ref f))
  hf : PySem.W.isFn K (.ref f) = true
def rNeO (C : Addr) (sp : Sp) : R2 := fun x y H Q => ∃ a b dx fs dy gs, x = .ref a ∧ y = .ref b ∧ H a = some (.ins C dx fs) ∧ H b = some (.ins C dy gs) ∧ sp [.ref a, .ref b] H (fun v H' => ∃ r, v = .bl r ∧ Q (.bl (!r)) H') (fun _ _ _ => False)
def rLenO (C : Addr) (sp : Sp) : List V → Hp → VK → Prop := fun vs H Q => ∃ a dx fs, vs = [.ref a] ∧ H a = some (.ins C dx fs) ∧ sp [.ref a] H (fun v H' => ∃ n : Int, v = .int n ∧ 0 ≤ n ∧ n < 2 ^ 63 ∧ Q (.int n) H') (fun _ _ _ => False)
section
variable {X : Cx} {C f : Addr} {k : Nat} {fd : FuncData} {ps : List Str} {sp : Sp}
/-- one of the own methods runs within a built-in -/
theorem run_in1 {pins : List (Addr × Obj)} {σ : St} {H : Hp} {s : Shared} {Q : VK} {E : Value → Shared → Prop} {us : List Value} {vs : List V} (F : FnOk X.prog X.w X.K X.mg X.base CX0 k f fd ps sp) (hr : Room (k + 1) X.A) (hb : Binds X.K fd ps [])
    (I : Inv X pins σ H s) (r : Vals vs us) (h : sp vs H Q (fun _ _ _ => False)) : wpAny (model X.prog X.w) X.A.in1 (call (.ref f) us) (EP X pins σ Q) E s := by
  have hl : us.length = ps.length := by rw [← r.length]; exact F.len _ _ _ _ h
  have b := hb s us I.kIn (by rw [List.append_nil]; exact hl)
  rw [List.append_nil] at b
  refine wpAny_call (codeAny_mono (F.run X.A.in1 X.stack s H ⟨us, []⟩ us vs Q (fun _ _ _ => False) hr.in1 I.env0.in1 b r h) fun z s' hq => ?_)
  cases z with
  | error e => exact (show False from hq).elim
  | ok fl =>
    cases fl with
    | ret u => exact I.after hq
    | next => exact False.elim hq
    | brk => exact False.elim hq
    | cont => exact False.elim hq
theorem op_neO (c : NeC X.K C f) (F : FnOk X.prog X.w X.K X.mg X.base CX0 k f fd ps sp) (hr : Room (k + 1) X.A) (hb : Binds X.K fd ps []) : OpR X (compareOp .NotEq) (rNeO C sp) := by
  intro pins s σ H x y v u Q I rx ry h
  obtain ⟨a, b, dx, fs, dy, gs, rfl, rfl, ha, hb', hs⟩ := h
  cases rx
  cases ry
  obtain ⟨mA, J, _⟩ := ins_get I.hok ha
  obtain ⟨mB, J', _⟩ := ins_get I.hok hb'
  obtain ⟨od, J, _⟩ := J.look
  obtain ⟨od', J', _⟩ := J'.look
  refine Xo.rich_ne hr.units0 hr.in1.units0 I.kIn J J' c.hm c.hn c.he c.hf ?_
  refine wpAny_mono (run_in1 (vs := [V.ref a, V.ref b]) F hr hb I (.cons rfl (.cons rfl .nil)) hs) (fun z s' q => ?_) fun _ _ e => e
  obtain ⟨v', H', I', rv, r, rfl, q⟩ := q
  obtain rfl : z = Value.bool r := rv
  exact ⟨r, rfl, .bl (!r), H', I', rfl, q⟩
theorem run_in0 {pins : List (Addr × Obj)} {σ : St} {H : Hp} {s : Shared} {Q : VK} {E : Value → Shared → Prop} {us : List Value} {vs : List V} (F : FnOk X.prog X.w X.K X.mg X.base CX0 k f fd ps sp) (hr : Room k X.A) (hb : Binds X.K fd ps [])
    (I : Inv X pins σ H s) (r : Vals vs us) (h : sp vs H Q (fun _ _ _ => False)) : wpAny (model X.prog X.w) X.A (call (.ref f) us) (EP X pins σ Q) E s := by
  have hl : us.length = ps.length := by rw [← r.length]; exact F.len _ _ _ _ h
  have b := hb s us I.kIn (by rw [List.append_nil]; exact hl)
  rw [List.append_nil] at b
  refine wpAny_call (codeAny_mono (F.run X.A X.stack s H ⟨us, []⟩ us vs Q (fun _ _ _ => False) hr I.env0 b r h) fun z s' hq => ?_)
  cases z with
  | error e => exact (show False from hq).elim
  | ok fl =>
    cases fl with
    | ret u => exact I.after hq
    | next => exact False.elim hq
    | brk => exact False.elim hq
    | cont => exact False.elim hq
def rEqO (C : Addr) (sp : Sp) : R2 := fun x y H Q => ∃ a b dx fs dy gs, x = .ref a ∧ y = .ref b ∧ H a = some (.ins C dx fs) ∧ H b = some (.ins C dy gs) ∧ sp [.ref a, .ref b] H (fun v H' => ∃ r, v = .bl r ∧ Q (.bl r) H') (fun _ _ _ => False)
theorem op_eqO (c : NeC X.K C f) (F : FnOk X.prog X.w X.K X.mg X.base CX0 k f fd ps sp) (hr : Room k X.A) (hb : Binds X.K fd ps []) : OpR X (compareOp .Eq) (rEqO C sp) := by
  intro pins s σ H x y v u Q I rx ry h
  obtain ⟨a, b, dx, fs, dy, gs, rfl, rfl, ha, hb', hs⟩ := h
  cases rx
  cases ry
  obtain ⟨mA, J, _⟩ := ins_get I.hok ha
  obtain ⟨mB, J', _⟩ := ins_get I.hok hb'
  obtain ⟨od, J, _⟩ := J.look
  obtain ⟨od', J', _⟩ := J'.look
  refine Xo.rich_eq hr.units0 I.kIn J J' c.he c.hf ?_
  refine wpAny_mono (run_in0 (vs := [V.ref a, V.ref b]) F hr hb I (.cons rfl (.cons rfl .nil)) hs) (fun z s' q => ?_) fun _ _ e => e
  obtain ⟨v', H', I', rv, r, rfl, q⟩ := q
  obtain rfl : z = Value.bool r := rv
  exact ⟨r, rfl, .bl r, H', I', rfl, q⟩
theorem call_lenO (hs : PySem.W.findIn X.K (.ref C) "__len__" = some (some (.ref f))) (hf : PySem.W.isFn X.K (.ref f) = true) (F : FnOk X.prog X.w X.K X.mg X.base CX0 k f fd ps sp) (hr : Room (k + 1) X.A) (hb : Binds X.K fd ps []) :
    CallR X (.builtin "len") (rLenO C sp) := by
  intro pins s σ H xs us Q I r h
  obtain ⟨a, dx, fs, rfl, ha, hsp⟩ := h
  rw [Vals.ref1 r]
  obtain ⟨mA, J, _⟩ := ins_get I.hok ha
  obtain ⟨od, J, _⟩ := J.look
  obtain ⟨m, fr⟩ := I.fr
  refine PySem.W.len_K fr I.ok.mod.kin J hs hf (wpAny_mono (run_in1 (vs := [V.ref a]) F hr hb I (.cons rfl .nil) hsp) (fun z s' q => ?_) fun _ _ e => e)
  obtain ⟨v', H', I', rv, n, rfl, h0, h1, q⟩ := q
  obtain ⟨t, rfl⟩ : ∃ t, z = Value.int n t := rv
  exact ⟨⟨h0, h1⟩, .int n, H', I'.tok _, ⟨_, rfl⟩, q⟩
end
end L2

/-! A reader of pure Python: what expressions and statements give over plain data (nothing here knows of a heap). -/
namespace Ev
open PySem

/-- data: none, bools, ints, texts, lists, tuples; an object by its class and parts; the law's reader -/
inductive D where
  | non | bl (b : Bool) | int (i : Int) | str (s : Str)
  | lst (l : List D) | tup (l : List D) | obj (c : Str) (l : List D) | row

/-- a run: an end, nothing told, an error with its fields, a number drawn below n -/
inductive T (α : Type) where
  | ret (a : α)
  | fail
  | exc (c : Str) (fs : List D)
  | draw (n : Int) (k : Int → T α)
def T.bind {α β : Type} : T α → (α → T β) → T β
  | .ret a, f => f a
  | .fail, _ => .fail
  | .exc c fs, _ => .exc c fs
  | .draw n k, f => .draw n fun i => (k i).bind f
/-- errors shut out -/
def T.safe {α : Type} : T α → T α
  | .ret a => .ret a
  | .fail => .fail
  | .exc _ _ => .fail
  | .draw n k => .draw n fun i => (k i).safe
/-- every end of a run is P, every error E -/
def wpT {α : Type} : T α → (α → Prop) → (Str → List D → Prop) → Prop
  | .ret a, P, _ => P a
  | .fail, _, _ => False
  | .exc c fs, _, E => E c fs
  | .draw n k, P, E => 0 < n ∧ ∀ i : Int, 0 ≤ i → i < n → wpT (k i) P E
theorem wpT_ret {α : Type} {a : α} {P : α → Prop} {E : Str → List D → Prop} : wpT (.ret a) P E = P a := rfl
theorem wpT_exc {α : Type} {c : Str} {fs : List D} {P : α → Prop} {E : Str → List D → Prop} : wpT (.exc c fs) P E = E c fs := rfl
theorem bind_ret {α β : Type} (a : α) (f : α → T β) : (T.ret a).bind f = f a := rfl
theorem bind_fail {α β : Type} (f : α → T β) : (T.fail : T α).bind f = .fail := rfl
theorem bind_exc {α β : Type} (c : Str) (fs : List D) (f : α → T β) : (T.exc c fs : T α).bind f = .exc c fs := rfl
theorem bind_draw {α β : Type} (n : Int) (k : Int → T α) (f : α → T β) : (T.draw n k).bind f = .draw n fun i => (k i).bind f := rfl
theorem bind_assoc {α β γ : Type} (t : T α) (f : α → T β) (g : β → T γ) : (t.bind f).bind g = t.bind fun a => (f a).bind g := by
  induction t with
  | ret a => rfl
  | fail => rfl
  | exc c fs => rfl
  | draw n k ih => simp only [T.bind]; congr 1; funext i; exact ih i
theorem bind_ret_right {α : Type} (t : T α) : t.bind .ret = t := by
  induction t with
  | ret a => rfl
  | fail => rfl
  | exc c fs => rfl
  | draw n k ih => simp only [T.bind]; congr 1; funext i; exact ih i
theorem wpT_bind {α β : Type} (t : T α) (f : α → T β) (P : β → Prop) (E : Str → List D → Prop) : wpT (t.bind f) P E ↔ wpT t (fun a => wpT (f a) P E) E := by
  induction t with
  | ret a => exact Iff.rfl
  | fail => exact Iff.rfl
  | exc c fs => exact Iff.rfl
  | draw n k ih => exact ⟨fun h => ⟨h.1, fun i a b => (ih i).mp (h.2 i a b)⟩, fun h => ⟨h.1, fun i a b => (ih i).mpr (h.2 i a b)⟩⟩
theorem wpT_mono {α : Type} {t : T α} {P P' : α → Prop} {E E' : Str → List D → Prop} (h : wpT t P E) (hp : ∀ a, P a → P' a) (he : ∀ c fs, E c fs → E' c fs) : wpT t P' E' := by
  induction t with
  | ret a => exact hp a h
  | fail => exact h
  | exc c fs => exact he c fs h
  | draw n k ih => exact ⟨h.1, fun i a b => ih i (h.2 i a b)⟩
theorem wpT_safe {α : Type} {t : T α} {P : α → Prop} {E : Str → List D → Prop} (h : wpT t.safe P E) (E' : Str → List D → Prop) : wpT t P E' := by
  induction t with
  | ret a => exact h
  | fail => exact h
  | exc c fs => exact (show False from h).elim
  | draw n k ih => exact ⟨h.1, fun i a b => ih i (h.2 i a b)⟩
theorem safe_ret {α : Type} (a : α) : (T.ret a).safe = .ret a := rfl

/-! ### equality, by places -/
def D.flat : D → Bool
  | .non => true
  | .bl _ => true
  | .int _ => true
  | .str _ => true
  | _ => false
def b2 (b : Bool) : Int := if b then 1 else 0
/-- all of two lists, one by one -/
def all2 {α : Type} (f : α → α → Bool) : List α → List α → Bool
  | [], [] => true
  | a :: l, b :: m => f a b && all2 f l m
  | _, _ => false
/-- equal to Python (True is 1) -/
def D.beq : Nat → D → D → Bool
  | _, .non, .non => true
  | _, .bl a, .bl b => a == b
  | _, .int a, .int b => decide (a = b)
  | _, .bl a, .int b => decide (b2 a = b)
  | _, .int a, .bl b => decide (a = b2 b)
  | _, .str a, .str b => decide (a = b)
  | n + 1, .lst l, .lst m => all2 (D.beq n) l m
  | n + 1, .tup l, .tup m => all2 (D.beq n) l m
  | _, _, _ => false
def goodS (s : Str) : Bool := s.cps.all (· < 0x110000)
/-- data that can be compared: no objects, n deep, texts of good signs -/
def D.ok : Nat → D → Bool
  | _, .non => true
  | _, .bl _ => true
  | _, .int _ => true
  | _, .str s => goodS s
  | n + 1, .lst l => l.all (D.ok n)
  | n + 1, .tup l => l.all (D.ok n)
  | _, _ => false

/-! ### operators -/
def ltS (a b : Str) : Bool := decide (a.cps.toList < b.cps.toList)
def eqD (a b : D) : T D := if a.ok 6 && b.ok 6 then .ret (.bl (D.beq 6 a b)) else .fail
def most : Nat := 100000
def binD : Operator → D → D → T D
  | .Add, .int i, .int j => .ret (.int (i + j))
  | .Add, .str a, .str b => if a.length + b.length ≤ most then .ret (.str (a ++ b)) else .fail
  | .Add, .lst a, .lst b => if a.length + b.length ≤ most then .ret (.lst (a ++ b)) else .fail
  | .Add, .tup a, .tup b => if a.length + b.length ≤ most then .ret (.tup (a ++ b)) else .fail
  | .Sub, .int i, .int j => .ret (.int (i - j))
  | .Mult, .int i, .int j => if -(2 ^ 64) < i ∧ i < 2 ^ 64 then .ret (.int (i * j)) else .fail
  | .Mult, .lst a, .int k => if -1000 ≤ k ∧ k ≤ 1000 ∧ a.length ≤ 1000 then .ret (.lst (List.replicate k.toNat a).flatten) else .fail
  | .Mult, .tup a, .int k => if 2 ≤ k ∧ k ≤ 1000 ∧ a ≠ [] ∧ a.length ≤ 1000 then .ret (.tup (List.replicate k.toNat a).flatten) else .fail
  | .FloorDiv, .int i, .int j => if 0 < j ∧ j < 1073741824 then .ret (.int (i / j)) else .fail
  | .Mod, .int i, .int j => if 0 < j then .ret (.int (i % j)) else .fail
  | .Pow, .int i, .int j => if 0 ≤ j ∧ j ≤ 64 ∧ -100 ≤ i ∧ i ≤ 100 then .ret (.int (i ^ j.toNat)) else .fail
  | _, _, _ => .fail
def isNon : D → Bool
  | .non => true
  | _ => false
/-- x among some things -/
def inD (x : D) (l : List D) : Bool := l.any fun y => D.beq 0 y x
def cmpD (eqO : D → D → T D) : CmpOp → D → D → T D
  | .Lt, .int i, .int j => .ret (.bl (decide (i < j)))
  | .LtE, .int i, .int j => .ret (.bl (decide (i ≤ j)))
  | .Gt, .int i, .int j => .ret (.bl (decide (j < i)))
  | .GtE, .int i, .int j => .ret (.bl (decide (j ≤ i)))
  | .Lt, .str i, .str j => .ret (.bl (ltS i j))
  | .LtE, .str i, .str j => .ret (.bl (!ltS j i))
  | .Gt, .str i, .str j => .ret (.bl (ltS j i))
  | .GtE, .str i, .str j => .ret (.bl (!ltS i j))
  | .Eq, .obj c a, .obj d b => eqO (.obj c a) (.obj d b)
  | .NotEq, .obj c a, .obj d b => (eqO (.obj c a) (.obj d b)).bind fun r => match r with
    | .bl r => .ret (.bl (!r))
    | _ => .fail
  | .Eq, a, b => eqD a b
  | .NotEq, a, b => (eqD a b).bind fun r => match r with
    | .bl r => .ret (.bl (!r))
    | _ => .fail
  | .In, x, .lst l => if x.flat && l.all D.flat then .ret (.bl (inD x l)) else .fail
  | .In, x, .tup l => if x.flat && l.all D.flat then .ret (.bl (inD x l)) else .fail
  | .NotIn, x, .lst l => if x.flat && l.all D.flat then .ret (.bl (!inD x l)) else .fail
  | .NotIn, x, .tup l => if x.flat && l.all D.flat then .ret (.bl (!inD x l)) else .fail
  | .In, .str a, .str z => match a.cps.toList with
    | [c] => .ret (.bl (decide (c ∈ z.cps.toList)))
    | _ => .fail
  | .NotIn, .str a, .str z => match a.cps.toList with
    | [c] => .ret (.bl (!decide (c ∈ z.cps.toList)))
    | _ => .fail
  | .Is, x, .non => .ret (.bl (isNon x))
  | .IsNot, x, .non => .ret (.bl (!isNon x))
  | _, _, _ => .fail
def ixZ (n : Nat) (i : Int) : Option Nat := if 0 ≤ i then (if i < n then some i.toNat else none) else if -(n : Int) ≤ i then some (i + n).toNat else none
def atZ {α : Type} (xs : List α) (i : Int) : Option α := (ixZ xs.length i).bind fun j => xs[j]?
def ofO {α : Type} : Option α → T α
  | some a => .ret a
  | none => .fail
def sign (c : Nat) : D := .str ⟨#[c]⟩
def subD : D → D → T D
  | .lst l, .int i => ofO (atZ l i)
  | .tup l, .int i => ofO (atZ l i)
  | .str z, .int i => if z.length ≤ most then (ofO (atZ z.cps.toList i)).bind fun c => .ret (sign c) else .fail
  | _, _ => .fail
/-- an end of a slice -/
def ixS (n d : Nat) : Option Int → Nat
  | none => d
  | some i => if i < 0 then (i + n).toNat else min i.toNat n
def cutL {α : Type} (xs : List α) (lo hi : Option Int) : List α := (xs.drop (ixS xs.length 0 lo)).take (ixS xs.length xs.length hi - ixS xs.length 0 lo)
def sliceD (lo hi : Option Int) : D → T D
  | .lst l => .ret (.lst (cutL l lo hi))
  | .tup l => .ret (.tup (cutL l lo hi))
  | .str z => if z.length ≤ most then .ret (.str ⟨(cutL z.cps.toList lo hi).toArray⟩) else .fail
  | _ => .fail

/-! ### built-ins -/
def toInts : List D → Option (List Int)
  | [] => some []
  | .int i :: l => (toInts l).map (i :: ·)
  | _ => none
def toStrs : List D → Option (List Str)
  | [] => some []
  | .str z :: l => (toStrs l).map (z :: ·)
  | _ => none
def toBls : List D → Option (List Bool)
  | [] => some []
  | .bl z :: l => (toBls l).map (z :: ·)
  | _ => none
def maxI : List Int → Int
  | [] => 0
  | [x] => x
  | x :: l => max x (maxI l)
def minI : List Int → Int
  | [] => 0
  | [x] => x
  | x :: l => min x (minI l)
def insI (x : Int) : List Int → List Int
  | [] => [x]
  | y :: l => if x ≤ y then x :: y :: l else y :: insI x l
def sortI (l : List Int) : List Int := l.foldr insI []
def insS (x : Str) : List Str → List Str
  | [] => [x]
  | y :: l => if ltS y x then y :: insS x l else x :: y :: l
def sortS (l : List Str) : List Str := l.foldr insS []
def signsD (z : Str) : List D := z.cps.toList.map sign
def sumLen (l : List Str) : Nat := (l.map (·.length)).sum
/-- the built-in f of some data -/
def bltD (lenO : D → T D) (f : Str) (ds : List D) : T D :=
  if f = "len" then match ds with
    | [.lst l] => .ret (.int l.length)
    | [.tup l] => .ret (.int l.length)
    | [.str z] => if z.length ≤ most then .ret (.int z.length) else .fail
    | [.obj c l] => lenO (.obj c l)
    | _ => .fail
  else if f = "int" then match ds with
    | [.int i] => .ret (.int i)
    | _ => .fail
  else if f = "tuple" then match ds with
    | [.lst l] => .ret (.tup l)
    | [.tup l] => .ret (.tup l)
    | _ => .fail
  else if f = "list" then match ds with
    | [.lst l] => .ret (.lst l)
    | [.tup l] => .ret (.lst l)
    | _ => .fail
  else if f = "all" then match ds with
    | [.lst l] => (ofO (toBls l)).bind fun bs => .ret (.bl (bs.all id))
    | _ => .fail
  else if f = "any" then match ds with
    | [.lst l] => (ofO (toBls l)).bind fun bs => .ret (.bl (bs.any id))
    | _ => .fail
  else if f = "max" then match ds with
    | [.int i, .int j] => .ret (.int (if j > i then j else i))
    | [.lst l] => if l.isEmpty then .fail else (ofO (toInts l)).bind fun ns => .ret (.int (maxI ns))
    | _ => .fail
  else if f = "min" then match ds with
    | [.int i, .int j] => .ret (.int (if j < i then j else i))
    | [.lst l] => if l.isEmpty then .fail else (ofO (toInts l)).bind fun ns => .ret (.int (minI ns))
    | _ => .fail
  else if f = "sum" then match ds with
    | [.lst l] => (ofO (toInts l)).bind fun ns => .ret (.int ns.sum)
    | _ => .fail
  else if f = "sorted" then match ds with
    | [.lst l] => match toInts l with
      | some ns => if ns.length ≤ 1000 then .ret (.lst ((sortI ns).map .int)) else .fail
      | none => match toStrs l with
        | some zs => if zs.length < 64 then .ret (.lst ((sortS zs).map .str)) else .fail
        | none => .fail
    | _ => .fail
  else .fail

def isBlt (f : Str) : Bool := f = "len" || f = "int" || f = "tuple" || f = "list" || f = "all" || f = "any" || f = "max" || f = "min" || f = "sum" || f = "sorted"
/-! ### names -/
inductive Sl where
  | emp | dat (d : D) | own (l : List D)
/-- what is known of the text: its constants, its own defs, what objects tell -/
structure Info where
  cst : Str → Option D
  own : Str → Bool
  attN : Str → Bool
  att : Str → D → T D
  lenO : D → T D
  eqO : D → D → T D
  /-- further forms, their parts being read by the function given -/
  spc : (Str → List D → T D) → Scope → Expr → Option ((Expr → T D) → T D)
  /-- further things to walk -/
  spi : (Str → List D → T D) → Scope → Expr → Expr → Option ((Expr → T D) → T (List D))
def isComp : Expr → Bool
  | .ListComp _ _ _ _ => true
  | .SetComp _ _ _ _ => true
  | .DictComp _ _ _ _ _ => true
  | _ => false
/-- comprehensions are read by the rule alone -/
def hook (G : Info) (call : Str → List D → T D) (sc : Scope) (e : Expr) : Option ((Expr → T D) → T D) := if isComp e then none else G.spc call sc e
def isStar : Expr → Bool
  | .Starred _ _ => true
  | _ => false
def isSet : Expr → Bool
  | .Set _ _ _ => true
  | _ => false
def ixOf (x : Str) : List Str → Option Nat
  | [] => none
  | y :: l => if x = y then some 0 else (ixOf x l).map (· + 1)
def dbg (x : Str) : Bool := x == ("__debug__" : Str) || x == ("__classdict__" : Str)
def isSlice : Expr → Bool
  | .Slice _ _ _ _ => true
  | _ => false
def isTup : Expr → Bool
  | .Tuple _ _ _ => true
  | _ => false
def isName : Expr → Bool
  | .Name _ _ => true
  | _ => false
def isVis (sc : Scope) (x : Str) : Bool := match sc.names.lookup x with
  | some .local => true
  | some .cell => true
  | some .free => true
  | _ => false
def isGlo (sc : Scope) (x : Str) : Bool := match sc.names.lookup x with
  | some .globalImplicit => true
  | _ => false
def slotD (ρ : List Sl) (i : Nat) : T D := match ρ[i]? with
  | some (.dat d) => .ret d
  | _ => .fail
/-- where code stands: its names by slot, its scope, the names whose cells are its own -/
structure Sc0 where
  N : List Str
  sc : Scope
  fn : Str → Bool
def nameD (G : Info) (C : Sc0) (ρ : List Sl) (x : Str) : T D :=
  if isVis C.sc x then (match ixOf x C.N with
    | some i => slotD ρ i
    | none => .fail)
  else if isGlo C.sc x then ofO (G.cst x)
  else .fail
/-- a comprehension's own names, with their places -/
def ownOf (N : List Str) (sc : Scope) : List (Str × Nat) := sc.names.filterMap fun y => match y.2 with
  | .local => (ixOf y.1 N).map fun i => (y.1, i)
  | .cell => (ixOf y.1 N).map fun i => (y.1, i)
  | _ => none
def wipeR (ρ : List Sl) : List Nat → List Sl
  | [] => ρ
  | v :: vs => (wipeR ρ vs).set v .emp
def relN (sc : Scope) (names : List (Str × NameKind)) : List (Str × NameKind) :=
  names.map fun (n, k) => if (k == .free && sc.kind == .function && sc.names.lookup n == some .cell) then (n, .cell) else (n, k)
def relSc (scope sc : Scope) : Scope := { scope with names := relN sc scope.names }
def blkD (N : List Str) (sc scope : Scope) (own : List (Str × Nat)) : Bool :=
  (match scope.kind with | .function => true | _ => false) && (scope.names.all fun y => decide (scope.names.lookup y.1 = some y.2)) && (own.all fun p => decide (N[p.2]? = some p.1)) &&
    (scope.names.all fun y => match y.2 with
      | .free => (match sc.names.lookup y.1 with | some .cell => true | some .free => true | _ => false)
      | .local => decide (y.1 ∈ own.map (·.1)) || decide (y.1 ∉ N)
      | .cell => decide (y.1 ∈ own.map (·.1)) || decide (y.1 ∉ N)
      | _ => true)
/-- a target's names are among some slots -/
def nameIn (N : List Str) (vs : List Nat) : Expr → Bool
  | .Name x _ => match ixOf x N with
    | some i => vs.contains i
    | none => false
  | _ => false
def tgIn (N : List Str) (vs : List Nat) : Expr → Bool
  | .Tuple es _ _ => es.all (nameIn N vs)
  | e => nameIn N vs e
/-- a value to a name, or a tuple to names -/
def isLoc (C : Sc0) (x : Str) : Bool := match C.sc.names.lookup x with
  | some .local => true
  | some .cell => C.fn x
  | _ => false
def bindN (C : Sc0) (ρ : List Sl) (x : Str) (d : D) : T (List Sl) :=
  if isLoc C x then (match ixOf x C.N with
    | some i => .ret (ρ.set i (.dat d))
    | none => .fail)
  else .fail
def bindNs (C : Sc0) : List Sl → List Expr → List D → T (List Sl)
  | ρ, [], [] => .ret ρ
  | ρ, .Name x _ :: es, d :: ds => (bindN C ρ x d).bind fun ρ' => bindNs C ρ' es ds
  | _, _, _ => .fail
def bindT (C : Sc0) (ρ : List Sl) (tg : Expr) (d : D) : T (List Sl) := match tg with
  | .Name x _ => bindN C ρ x d
  | .Tuple es _ _ => match d with
    | .tup ds => bindNs C ρ es ds
    | .lst ds => bindNs C ρ es ds
    | _ => .fail
  | _ => .fail
/-- one by one -/
def mapT {α β : Type} (f : α → T β) : List α → T (List β)
  | [] => .ret []
  | a :: l => (f a).bind fun b => (mapT f l).bind fun bs => .ret (b :: bs)
/-- a comprehension's turns -/
def compT (f : D → T (Option D)) : List D → T (List D)
  | [] => .ret []
  | a :: l => (f a).bind fun b => (compT f l).bind fun bs => .ret (match b with
    | some b => b :: bs
    | none => bs)
def pairs (i : Nat) : List D → List D
  | [] => []
  | d :: l => .tup [.int i, d] :: pairs (i + 1) l
def zipD : List D → List D → List D
  | a :: l, b :: m => .tup [a, b] :: zipD l m
  | _, _ => []
def intsD (lo : Int) (n : Nat) : List D := (List.range n).map fun i => .int (lo + (i : Nat))
/-- a built-in's method -/
def mthD (o : D) (m : Str) (ds : List D) : T D := match o with
  | .str a => if m = "join" then (match ds with
      | [.lst l] => (ofO (toStrs l)).bind fun zs => if sumLen zs + zs.length * a.length ≤ most then .ret (.str (Str.join a zs)) else .fail
      | [.tup l] => (ofO (toStrs l)).bind fun zs => if sumLen zs + zs.length * a.length ≤ most then .ret (.str (Str.join a zs)) else .fail
      | _ => .fail) else .fail
  | _ => .fail
def asBl : D → T Bool
  | .bl b => .ret b
  | _ => .fail
def asInt : D → T Int
  | .int b => .ret b
  | _ => .fail
/-- known ahead -/
def known {α : Type} (t : T D) (f : D → T α) : T α := match t with
  | .ret d => f d
  | .exc c fs => .exc c fs
  | _ => .fail
/-- known ahead, no error -/
def sure {α : Type} (t : T D) (f : D → T α) : T α := match t with
  | .ret d => f d
  | _ => .fail
/-- a method that is told -/
def hasM (o : D) (m : Str) : Bool := match o with
  | .str _ => m = "join"
  | _ => false
def plainT : Expr → Bool
  | .UnaryOp .Not _ _ => false
  | .BoolOp _ _ _ => false
  | .IfExp _ _ _ _ => false
  | .Compare _ _ _ _ => false
  | _ => true
def walkD : D → T (List D)
  | .lst l => .ret l
  | .tup l => .ret l
  | .str z => .ret (signsD z)
  | _ => .fail
def Sc0.blk (C : Sc0) (sc' : Scope) : Sc0 := ⟨C.N, relSc sc' C.sc, fun x => sc'.names.lookup x == some .cell⟩
/-- what is walked, its parts being read by vE -/
def bodyI (vE : Sc0 → List Sl → Expr → T D) (C : Sc0) (ρ : List Sl) (tg e : Expr) : T (List D) := match e with
  | .Call f args kws pos => match f with
    | .Name x _ => if kws.isEmpty && isGlo C.sc x && x = "range" then (match args with
        | [a] => if isStar a then .fail else (vE C ρ a).bind fun d => (asInt d).bind fun j => if -(2 ^ 62) ≤ j ∧ j < 2 ^ 62 then .ret (intsD 0 j.toNat) else .fail
        | [a, b] => if isStar a || isStar b then .fail else (vE C ρ a).bind fun d => (vE C ρ b).bind fun e => (asInt d).bind fun i => (asInt e).bind fun j =>
            if -(2 ^ 62) ≤ i ∧ i < 2 ^ 62 ∧ -(2 ^ 62) ≤ j ∧ j < 2 ^ 62 then .ret (intsD i (j - i).toNat) else .fail
        | _ => .fail)
      else if kws.isEmpty && isGlo C.sc x && x = "enumerate" && isTup tg then (match args with
        | [a] => if isStar a then .fail else known (vE C ρ a) fun d => match d with
          | .lst l => .ret (pairs 0 l)
          | .tup l => .ret (pairs 0 l)
          | _ => .fail
        | _ => .fail)
      else if kws.isEmpty && isGlo C.sc x && x = "zip" && isTup tg then (match args with
        | [a, b] => if isStar a || isStar b then .fail else (vE C ρ a).bind fun d => (vE C ρ b).bind fun e => match d, e with
          | .lst l, .lst m => .ret (zipD l m)
          | .tup l, .tup m => .ret (zipD l m)
          | _, _ => .fail
        | _ => .fail)
      else known (vE C ρ (.Call f args kws pos)) walkD
    | _ => known (vE C ρ (.Call f args kws pos)) walkD
  | .Set _ _ _ => .fail
  | e => known (vE C ρ e) walkD
/-- one expression, its parts being read by vE, vT, vO, vI, vF -/
def bodyE (G : Info) (call : Str → List D → T D) (vE : Sc0 → List Sl → Expr → T D) (vT : Sc0 → List Sl → Expr → T Bool) (vO : Sc0 → List Sl → Option Expr → T (Option Int)) (vI : Sc0 → List Sl → Expr → Expr → T (List D)) (vF : Sc0 → List Sl → List Expr → T Bool) (C : Sc0) (ρ : List Sl) (e : Expr) : T D := match e with
  | .Constant c _ _ => match c with
    | .int i => .ret (.int i)
    | .bool b => .ret (.bl b)
    | .none => .ret .non
    | .str s => .ret (.str s)
    | _ => .fail
  | .Name x _ => if dbg x then .fail else nameD G C ρ x
  | .BinOp a op b _ => (vE C ρ a).bind fun x => (vE C ρ b).bind fun y => binD op x y
  | .UnaryOp op a _ => match op with
    | .Not => (vE C ρ a).bind fun x => (asBl x).bind fun b => .ret (.bl (!b))
    | .USub => (vE C ρ a).bind fun x => (asInt x).bind fun b => .ret (.int (-b))
    | _ => .fail
  | .BoolOp op vs pos => match vs with
    | [a] => vE C ρ a
    | a :: b :: rest => match op with
      | .And => (vE C ρ a).bind fun x => (asBl x).bind fun c => if c then vE C ρ (.BoolOp .And (b :: rest) pos) else .ret (.bl false)
      | .Or => (vE C ρ a).bind fun x => (asBl x).bind fun c => if c then .ret (.bl true) else vE C ρ (.BoolOp .Or (b :: rest) pos)
    | _ => .fail
  | .Compare a ops bs _ => match ops, bs with
    | [op], [b] => if isSet b then .fail else (vE C ρ a).bind fun x => (vE C ρ b).bind fun y => cmpD G.eqO op x y
    | [op, op'], [b, c] => if isSet b || isSet c then .fail else (vE C ρ a).bind fun x => (vE C ρ b).bind fun y => (cmpD G.eqO op x y).bind fun r =>
        (asBl r).bind fun k => if k then (vE C ρ c).bind fun z => cmpD G.eqO op' y z else .ret (.bl false)
    | _, _ => .fail
  | .IfExp c a b _ => (vT C ρ c).bind fun t => if t then vE C ρ a else vE C ρ b
  | .Tuple es _ _ => if es.any isStar then .fail else (mapT (vE C ρ) es).bind fun ds => if ds.length ≤ most then .ret (.tup ds) else .fail
  | .List es _ => if es.any isStar then .fail else (mapT (vE C ρ) es).bind fun ds => if ds.length ≤ most then .ret (.lst ds) else .fail
  | .Attribute o f _ => match o with
    | .Call _ _ _ _ => .fail
    | _ => if G.attN f then (vE C ρ o).bind fun d => G.att f d else .fail
  | .Subscript a b _ => match b with
    | .Slice lo hi st _ => match st with
      | none => (vE C ρ a).bind fun x => (vO C ρ lo).bind fun l => (vO C ρ hi).bind fun h => sliceD l h x
      | some _ => .fail
    | .Tuple _ _ _ => .fail
    | _ => (vE C ρ a).bind fun x => (vE C ρ b).bind fun y => subD x y
  | .ListComp elt gens sc' _ => match gens with
    | [⟨tg, iter, ifs, as⟩] => if as = 0 ∧ isSet iter = false ∧ tgIn C.N ((ownOf C.N sc').map (·.2)) tg = true ∧ blkD C.N C.sc sc' (ownOf C.N sc') = true then
        (vI C ρ tg iter).bind fun ds => if ds.length ≤ most then
          (compT (fun d => ((bindT (C.blk sc') (wipeR ρ ((ownOf C.N sc').map (·.2))) tg d).bind fun ρ' => (vF (C.blk sc') ρ' ifs).bind fun ok =>
            if ok then (vE (C.blk sc') ρ' elt).bind fun x => .ret (some x) else .ret none).safe) ds).bind fun xs => .ret (.lst xs)
        else .fail
      else .fail
    | _ => .fail
  | .Call f args kws cpos => if !kws.isEmpty || args.any isStar then .fail else match f with
    | .Name x _ => if !isGlo C.sc x then .fail else if x = "__debug__" then .fail
      else if G.own x then (mapT (vE C ρ) args).bind fun ds => call x ds
      else if !isBlt x || args.isEmpty then .fail else match args with
        | [.Call (.Name y _) as' kws' _] => if y = "range" && isGlo C.sc y && x = "list" && kws'.isEmpty then match as' with
            | [a] => if isStar a then .fail else (vE C ρ a).bind fun d => (asInt d).bind fun j => if -100000 ≤ j ∧ j ≤ 100000 then .ret (.lst (intsD 0 j.toNat)) else .fail
            | _ => .fail
          else (mapT (vE C ρ) args).bind fun ds => bltD G.lenO x ds
        | _ => (mapT (vE C ρ) args).bind fun ds => bltD G.lenO x ds
    | .Attribute o mt apos => if !(apos.endLine == cpos.line) || !decide (args.length < 20) || args.isEmpty then .fail else match o with
      | .Call _ _ _ _ => .fail
      | _ => sure (vE C ρ o) fun d => if hasM d mt then (mapT (vE C ρ) args).bind fun ds => mthD d mt ds else .fail
    | _ => .fail
  | _ => .fail
mutual
/-- an expression -/
def evE (G : Info) (call : Str → List D → T D) : Nat → Sc0 → List Sl → Expr → T D
  | 0, _, _, _ => .fail
  | m + 1, C, ρ, e => match hook G call C.sc e with
    | some f => f (evE G call m C ρ)
    | none => bodyE G call (evE G call m) (evT G call m) (evO G call m) (evI G call m) (evF G call m) C ρ e
/-- a test -/
def evT (G : Info) (call : Str → List D → T D) : Nat → Sc0 → List Sl → Expr → T Bool
  | 0, _, _, _ => .fail
  | m + 1, C, ρ, e => match e with
    | .UnaryOp op a _ => match op with
      | .Not => (evT G call m C ρ a).bind fun b => .ret (!b)
      | _ => .fail
    | .BoolOp op vs pos => match vs with
      | [a] => evT G call m C ρ a
      | a :: b :: rest => match op with
        | .And => (evT G call m C ρ a).bind fun c => if c then evT G call m C ρ (.BoolOp .And (b :: rest) pos) else .ret false
        | .Or => (evT G call m C ρ a).bind fun c => if c then .ret true else evT G call m C ρ (.BoolOp .Or (b :: rest) pos)
      | _ => .fail
    | .Compare a ops bs _ => match ops, bs with
      | [op], [b] => if isSet b then .fail else (evE G call m C ρ a).bind fun x => (evE G call m C ρ b).bind fun y => (cmpD G.eqO op x y).bind asBl
      | [op, op'], [b, c] => if isSet b || isSet c then .fail else (evE G call m C ρ a).bind fun x => (evE G call m C ρ b).bind fun y => (cmpD G.eqO op x y).bind fun r =>
          (asBl r).bind fun k => if k then (evE G call m C ρ c).bind fun z => (cmpD G.eqO op' y z).bind asBl else .ret false
      | _, _ => .fail
    | .IfExp _ _ _ _ => .fail
    | e => (evE G call m C ρ e).bind asBl
/-- an end of a slice -/
def evO (G : Info) (call : Str → List D → T D) : Nat → Sc0 → List Sl → Option Expr → T (Option Int)
  | 0, _, _, _ => .fail
  | m + 1, C, ρ, e => match e with
    | none => .ret none
    | some e => (evE G call m C ρ e).bind fun d => (asInt d).bind fun i => .ret (some i)
/-- what is walked -/
def evI (G : Info) (call : Str → List D → T D) : Nat → Sc0 → List Sl → Expr → Expr → T (List D)
  | 0, _, _, _, _ => .fail
  | m + 1, C, ρ, tg, e => match G.spi call C.sc tg e with
    | some f => f (evE G call m C ρ)
    | none => bodyI (evE G call m) C ρ tg e
/-- a comprehension's ifs -/
def evF (G : Info) (call : Str → List D → T D) : Nat → Sc0 → List Sl → List Expr → T Bool
  | 0, _, _, _ => .fail
  | m + 1, C, ρ, es => match es with
    | [] => .ret true
    | [c] => evT G call m C ρ c
    | _ => .fail
end
theorem evE_none {G : Info} {call : Str → List D → T D} {m : Nat} {C : Sc0} {ρ : List Sl} {e : Expr} (h : hook G call C.sc e = none) : evE G call (m + 1) C ρ e = bodyE G call (evE G call m) (evT G call m) (evO G call m) (evI G call m) (evF G call m) C ρ e := by
  show (match hook G call C.sc e with | some f => f (evE G call m C ρ) | none => _) = _
  rw [h]
theorem evE_some {G : Info} {call : Str → List D → T D} {m : Nat} {C : Sc0} {ρ : List Sl} {e : Expr} {f : (Expr → T D) → T D} (h : hook G call C.sc e = some f) : evE G call (m + 1) C ρ e = f (evE G call m C ρ) := by
  show (match hook G call C.sc e with | some f => f (evE G call m C ρ) | none => _) = _
  rw [h]
theorem evI_none {G : Info} {call : Str → List D → T D} {m : Nat} {C : Sc0} {ρ : List Sl} {tg e : Expr} (h : G.spi call C.sc tg e = none) : evI G call (m + 1) C ρ tg e = bodyI (evE G call m) C ρ tg e := by
  show (match G.spi call C.sc tg e with | some f => f (evE G call m C ρ) | none => _) = _
  rw [h]
theorem evI_some {G : Info} {call : Str → List D → T D} {m : Nat} {C : Sc0} {ρ : List Sl} {tg e : Expr} {f : (Expr → T D) → T (List D)} (h : G.spi call C.sc tg e = some f) : evI G call (m + 1) C ρ tg e = f (evE G call m C ρ) := by
  show (match G.spi call C.sc tg e with | some f => f (evE G call m C ρ) | none => _) = _
  rw [h]
end Ev

/-! Statements over data, own defs called. -/
namespace Ev
open PySem
/-- the names that stand in an expression -/
def nmE : Nat → Expr → List Str
  | 0, _ => []
  | n + 1, e => match e with
    | .Name x _ => [x]
    | .BinOp a _ b _ => nmE n a ++ nmE n b
    | .UnaryOp _ a _ => nmE n a
    | .BoolOp _ vs _ => vs.flatMap (nmE n)
    | .Compare a _ bs _ => nmE n a ++ bs.flatMap (nmE n)
    | .IfExp c a b _ => nmE n c ++ nmE n a ++ nmE n b
    | .Call f args _ _ => nmE n f ++ args.flatMap (nmE n)
    | .Attribute o _ _ => nmE n o
    | .Subscript a b _ => nmE n a ++ nmE n b
    | .Slice lo hi _ _ => (match lo with | some e => nmE n e | none => []) ++ (match hi with | some e => nmE n e | none => [])
    | .ListComp elt gens _ _ => nmE n elt ++ gens.flatMap fun g => nmE n g.iter ++ g.ifs.flatMap (nmE n)
    | .Tuple es _ _ => es.flatMap (nmE n)
    | .List es _ => es.flatMap (nmE n)
    | .Starred e _ => nmE n e
    | _ => []
/-- lists that are still written, read: from then on as they stand -/
def frzR (xs : List Str) : List Str → List Sl → List Sl
  | n :: N, s :: ρ => (match s with
    | .own l => if xs.contains n then .dat (.lst l) else .own l
    | s => s) :: frzR xs N ρ
  | _, ρ => ρ
inductive Fl where
  | nx (ρ : List Sl) | rt (d : D) | bk (ρ : List Sl) | ct (ρ : List Sl)
/-- a list that is new -/
def freshF : Expr → Bool
  | .List _ _ => true
  | .ListComp _ _ _ _ => true
  | .BinOp _ .Add _ _ => true
  | .BinOp _ .Mult _ _ => true
  | .Call (.Name x _) _ _ _ => x = "list"
  | _ => false
def forT (bnd : List Sl → D → T (List Sl)) (body : List Sl → T Fl) : List D → List Sl → T Fl
  | [], ρ => .ret (.nx ρ)
  | d :: ds, ρ => (bnd ρ d).bind fun ρ1 => (body ρ1).bind fun fl => match fl with
    | .nx ρ' => forT bnd body ds ρ'
    | .ct ρ' => forT bnd body ds ρ'
    | .bk ρ' => .ret (.nx ρ')
    | .rt d => .ret (.rt d)
def whT (test : List Sl → T Bool) (body : List Sl → T Fl) : Nat → List Sl → T Fl
  | 0, _ => .fail
  | n + 1, ρ => (test ρ).bind fun b => if b then (body ρ).bind fun fl => match fl with
    | .nx ρ' => whT test body n ρ'
    | .ct ρ' => whT test body n ρ'
    | .bk ρ' => .ret (.nx ρ')
    | .rt d => .ret (.rt d) else .ret (.nx ρ)
/-- the fields of an error of some arguments -/
abbrev ErrF := Str → Nat → Option (List D → Option (List D))
section
variable (G : Info) (call : Str → List D → T D) (err : ErrF) (C : Sc0) (mu : List Str)
/-- an expression where lists may still be written -/
def evV (m : Nat) (ρ : List Sl) (e : Expr) : T (D × List Sl) :=
  (evE G call m C (frzR (nmE m e) C.N ρ) e).bind fun d => .ret (d, if d.flat then ρ else frzR (nmE m e) C.N ρ)
def ownAt (ρ : List Sl) (y : Str) : Option (Nat × List D) := match ixOf y C.N with
  | some i => match ρ[i]? with
    | some (.own l) => some (i, l)
    | _ => none
  | none => none
/-- .. or y.pop(k) of such a list -/
def evP (m : Nat) (ρ : List Sl) (e : Expr) : T (D × List Sl) := match e with
  | .Call (.Attribute (.Name y yp) mt apos) [k] [] pos => match ownAt C ρ y with
    | some _ => if mt = "pop" ∧ isVis C.sc y = true ∧ dbg y = false ∧ isStar k = false ∧ (apos.endLine == pos.line) = true then
        (evV G call C m ρ k).bind fun r => match ownAt C r.2 y with
          | some (i, l) => (asInt r.1).bind fun j => (ofO (if l.length ≤ most then ixZ l.length j else none)).bind fun q => (ofO l[q]?).bind fun d => .ret (d, r.2.set i (.own (l.eraseIdx q)))
          | none => .fail
      else .fail
    | none => evV G call C m ρ (.Call (.Attribute (.Name y yp) mt apos) [k] [] pos)
  | e => evV G call C m ρ e
def evTV (m : Nat) (ρ : List Sl) (e : Expr) : T Bool := evT G call m C (frzR (nmE m e) C.N ρ) e
/-- what a name is to take: data, or a new list that is still written -/
def evR (m : Nat) (ρ : List Sl) (x : Str) (e : Expr) : T (Sl × List Sl) :=
  if mu.contains x then (if freshF e && !G.own "list" && (hook G call C.sc e).isNone then (evE G call m C (frzR (nmE m e) C.N ρ) e).bind fun d => match d with
      | .lst l => .ret (.own l, if l.all D.flat then ρ else frzR (nmE m e) C.N ρ)
      | _ => .fail else .fail)
  else (evP G call C m ρ e).bind fun r => .ret (.dat r.1, r.2)
def setN (ρ : List Sl) (x : Str) (s : Sl) : T (List Sl) := match ixOf x C.N with
  | some i => if isLoc C x then .ret (ρ.set i s) else .fail
  | none => .fail
def isLcl (x : Str) : Bool := match C.sc.names.lookup x with
  | some .local => true
  | _ => false
def lclName : Expr → Bool
  | .Name x _ => isLcl C x
  | _ => false
/-- a, b = x, y: stored from the right, no pair made -/
def parOk (px py : Pos) (x y : Str) (vs : List Expr) : Bool := isLcl C x && isLcl C y && decide (x ≠ y) && (px.line == py.line) && !(vs.all (foldedForSure 8)) && !(vs.all (constantsAlone 8)) && !(vs.any isStar)
/-- a tuple of names takes a tuple's items, one by one -/
def noSw (ts vs : List Expr) : Bool := decide (4 ≤ ts.length) || (vs.all (foldedForSure 8) && !(vs.any isStar)) || (ts.any isName && !(ts.all (lclName C)))
/-- x.append(a), x a list that is still written -/
def appOf (ρ : List Sl) : Expr → Option (Str × Expr)
  | .Call (.Attribute (.Name x _) mt apos) [a] [] cpos => if mt = "append" ∧ isVis C.sc x = true ∧ dbg x = false ∧ isStar a = false ∧ (apos.endLine == cpos.line) = true ∧ (ownAt C ρ x).isSome = true then some (x, a) else none
  | _ => none
/-- x.extend(a), likewise -/
def extOf (ρ : List Sl) : Expr → Option (Str × Expr)
  | .Call (.Attribute (.Name x _) mt apos) [a] [] cpos => if mt = "extend" ∧ isVis C.sc x = true ∧ dbg x = false ∧ isStar a = false ∧ (apos.endLine == cpos.line) = true ∧ (ownAt C ρ x).isSome = true then some (x, a) else none
  | _ => none
/-- range(a) -/
def rangeOf : Expr → Option Expr
  | .Call (.Name x _) [a] [] _ => if x = "range" ∧ isGlo C.sc x = true ∧ isStar a = false then some a else none
  | _ => none
def raiseOf : Option Expr → Option Expr → Option (Str × List Expr)
  | some (.Call (.Name x _) args [] _), none => if args.any isStar = false ∧ isGlo C.sc x = true ∧ dbg x = false then some (x, args) else none
  | _, _ => none
/-- a, b = x, y of plain names -/
def parOf : List Expr → List Expr → Option ((Str × Nat) × (Str × Nat) × Expr × Expr)
  | [.Name x px, .Name y py], [a, b] => if parOk C px py x y [a, b] then (match ixOf x C.N, ixOf y C.N with
    | some i, some n => some ((x, i), (y, n), a, b)
    | _, _ => none) else none
  | _, _ => none
def parOk3 (px py pz : Pos) (x y z : Str) (vs : List Expr) : Bool := isLcl C x && isLcl C y && isLcl C z && decide (x ≠ y) && decide (x ≠ z) && decide (y ≠ z) && (px.line == py.line) && (px.line == pz.line) && !(vs.all (foldedForSure 8)) && !(vs.all (constantsAlone 8)) && !(vs.any isStar)
/-- a, b, c = x, y, z of plain names -/
def parOf3 : List Expr → List Expr → Option ((Str × Nat) × (Str × Nat) × (Str × Nat) × Expr × Expr × Expr)
  | [.Name x px, .Name y py, .Name z pz], [a, b, c] => if parOk3 C px py pz x y z [a, b, c] then (match ixOf x C.N, ixOf y C.N, ixOf z C.N with
    | some i, some n, some l => some ((x, i), (y, n), (z, l), a, b, c)
    | _, _, _ => none) else none
  | _, _ => none
/-- the names of a target whose last is starred -/
def starOf : List Expr → Option (List Expr)
  | [.Starred (.Name x p) _] => some [.Name x p]
  | .Name x p :: es => (starOf es).map (Expr.Name x p :: ·)
  | _ => none
/-- what they get -/
def restT (n : Nat) : D → T (List D)
  | .lst ds => if n ≤ ds.length + 1 ∧ ds.length ≤ 16384 then .ret (ds.take (n - 1) ++ [.lst (ds.drop (n - 1))]) else .fail
  | _ => .fail
/-- x[i] = .. of a list that is still written -/
def stoOf (ρ : List Sl) (o i e : Expr) : Option Str := match o with
  | .Name x _ => if isVis C.sc x = true ∧ dbg x = false ∧ isComp e = false ∧ isSlice i = false ∧ (ownAt C ρ x).isSome = true then some x else none
  | _ => none
def asg1 (m : Nat) (ρ : List Sl) (tg e : Expr) : T Fl := match tg with
  | .Name x _ => (ofO (if isLoc C x then ixOf x C.N else none)).bind fun i => (evR G call C mu m ρ x e).bind fun r => .ret (.nx (r.2.set i r.1))
  | .Tuple ts j tp => match e with
    | .Tuple es j2 ep => match parOf C ts es with
      | some (xi, yn, a, b) => (evR G call C mu m ρ xi.1 a).bind fun r => (evR G call C mu m r.2 yn.1 b).bind fun q => .ret (.nx ((q.2.set xi.2 r.1).set yn.2 q.1))
      | none => match parOf3 C ts es with
        | some (xi, yn, zl, a, b, c) => (evP G call C m ρ a).bind fun r => (evP G call C m r.2 b).bind fun q => (evP G call C m q.2 c).bind fun t => .ret (.nx (((t.2.set xi.2 (.dat r.1)).set yn.2 (.dat q.1)).set zl.2 (.dat t.1)))
        | none => if noSw C ts es then (evV G call C m ρ (.Tuple es j2 ep)).bind fun r => (bindT C r.2 (.Tuple ts j tp) r.1).bind fun ρ' => .ret (.nx ρ') else .fail
    | e => if isComp e || isTup e then .fail else match starOf ts with
      | some ns => (evP G call C m ρ e).bind fun r => (restT ns.length r.1).bind fun ds => (bindNs C r.2 ns ds).bind fun ρ' => .ret (.nx ρ')
      | none => (evP G call C m ρ e).bind fun r => (bindT C r.2 (.Tuple ts j tp) r.1).bind fun ρ' => .ret (.nx ρ')
  | .Subscript o i _ => match stoOf C ρ o i e with
    | some x => (evP G call C m ρ e).bind fun r => (evV G call C m r.2 i).bind fun q => (asInt q.1).bind fun k => match ownAt C q.2 x with
        | some (n, l) => (ofO (ixZ l.length k)).bind fun j => .ret (.nx (q.2.set n (.own (l.set j r.1))))
        | none => .fail
    | none => .fail
  | _ => .fail
/-- x += .., x -= .. of numbers -/
def augI (g : Int → Int → Int) (m : Nat) (ρ : List Sl) (tg e : Expr) : T Fl := match tg with
  | .Name x _ => (ofO (if isLoc C x then ixOf x C.N else none)).bind fun i => match ρ[i]? with
    | some (.dat (.int a)) => (evV G call C m ρ e).bind fun r => (asInt r.1).bind fun b => .ret (.nx (r.2.set i (.dat (.int (g a b)))))
    | _ => .fail
  | _ => .fail
def augT (m : Nat) (ρ : List Sl) (tg : Expr) (op : Operator) (e : Expr) : T Fl := match op with
  | .Add => augI G call C (fun a b => a + b) m ρ tg e
  | .Sub => augI G call C (fun a b => a - b) m ρ tg e
  | _ => .fail
mutual
def exS : Nat → List Sl → Stmt → T Fl
  | 0, _, _ => .fail
  | m + 1, ρ, st => match st with
    | .Pass _ => .ret (.nx ρ)
    | .Break _ => .ret (.bk ρ)
    | .Continue _ => .ret (.ct ρ)
    | .Return e _ => match e with
      | some e => (evP G call C m ρ e).bind fun r => .ret (.rt r.1)
      | none => .ret (.rt .non)
    | .Expr e _ => match appOf C ρ e with
      | some (x, a) => (evP G call C m ρ a).bind fun r => match ownAt C r.2 x with
              | some (i', l') => if l'.length < most then .ret (.nx (r.2.set i' (.own (l' ++ [r.1])))) else .fail
              | none => .fail
      | none => match extOf C ρ e with
        | some (x, a) => (evP G call C m ρ a).bind fun r => match ownAt C r.2 x with
              | some (i', l') => (match r.1 with
                | .lst l2 => if l'.length + l2.length ≤ most then .ret (.nx (r.2.set i' (.own (l' ++ l2)))) else .fail
                | _ => .fail)
              | none => .fail
        | none => if isComp e then .fail else (evV G call C m ρ e).bind fun r => .ret (.nx r.2)
    | .Assign tgs e _ => match tgs with
      | [tg] => asg1 G call C mu m ρ tg e
      | _ => .fail
    | .AugAssign tg op e _ => augT G call C m ρ tg op e
    | .If c a b _ => (evTV G call C m ρ c).bind fun t => if t then exB m ρ a else exB m ρ b
    | .For tg it body orelse _ => match orelse with
      | [] => if isSet it then .fail else match rangeOf C it with
        | some a => (evV G call C m ρ a).bind fun r => (asInt r.1).bind fun j => if -(2 ^ 62) ≤ j ∧ j < 2 ^ 62 then forT (fun ρ d => bindT C ρ tg d) (fun ρ => exB m ρ body) (intsD 0 j.toNat) r.2 else .fail
        | none => (evI G call m C (frzR (nmE m it) C.N ρ) tg it).bind fun ds => forT (fun ρ d => bindT C ρ tg d) (fun ρ => exB m ρ body) ds (frzR (nmE m it) C.N ρ)
      | _ => .fail
    | .While c body orelse _ => match orelse with
      | [] => whT (fun ρ => evTV G call C m ρ c) (fun ρ => exB m ρ body) 200 ρ
      | _ => .fail
    | .Raise e cause _ => match raiseOf C e cause with
      | some (x, args) => (ofO (err x args.length)).bind fun f => (mapT (evE G call m C (frzR (args.flatMap (nmE m)) C.N ρ)) args).bind fun ds => (ofO (f ds)).bind fun fs => .exc x fs
      | none => .fail
    | _ => .fail
def exB : Nat → List Sl → List Stmt → T Fl
  | 0, _, _ => .fail
  | m + 1, ρ, sts => match sts with
    | [] => .ret (.nx ρ)
    | [st] => exS m ρ st
    | st :: r => (exS m ρ st).bind fun fl => match fl with
      | .nx ρ' => exB m ρ' r
      | fl => .ret fl
end
end
/-- an own def: its parameters, where its body stands, the names that it writes as lists, its body -/
structure Fn where
  ps : List Str
  C : Sc0
  mu : List Str
  body : List Stmt
def startR (f : Fn) (ds : List D) : List Sl := ds.map Sl.dat ++ List.replicate (f.C.N.length - ds.length) Sl.emp
def ofFl : Fl → T D
  | .rt d => .ret d
  | .nx _ => .ret .non
  | _ => .fail
/-- calls, n deep -/
def callN (G : Info) (err : ErrF) (prim : Str → Option (List D → T D)) (tbl : Str → Option Fn) (fuel : Nat) : Nat → Str → List D → T D
  | 0, _, _ => .fail
  | n + 1, f, ds => match prim f with
    | some p => p ds
    | none => match tbl f with
      | some fn => if ds.length = fn.ps.length then (exB G (callN G err prim tbl fuel n) err fn.C fn.mu fuel (startR fn ds) fn.body).bind ofFl else .fail
      | none => .fail
end Ev

/-! What data are in a heap: a frozen part B of the tracked heap H; lists that are still written stand in H alone. -/
namespace Ev
open PySem PySem.Spec L2
/-- what is known besides: the address of the law's reader, what holds of it, what objects are, what errors are -/
structure Sem0 where
  K : PySem.W.Frag
  r : Addr
  RW : Hp → Hp → Prop
  OB : Hp → V → Str → List D → Prop
  EX : Hp → Value → Option Addr → Str → List D → Prop
  rw_mono : ∀ {B B' H H' : Hp}, Same B B' → (∀ o, H r = some o → H' r = some o) → RW B H → RW B' H'
  rw_down : ∀ {B B' H H' : Hp}, Same B B' → RW B H → RW B' H' → RW B H'
  ob_mono : ∀ {B B' : Hp} {v : V} {c : Str} {fs : List D}, Same B B' → OB B v c fs → OB B' v c fs
variable {S : Sem0}
mutual
/-- the value v is the data d, in the frozen heap -/
inductive Dr (S : Sem0) (B : Hp) : V → D → Prop
  | non : Dr S B .non .non
  | bl (b : Bool) : Dr S B (.bl b) (.bl b)
  | int (i : Int) : Dr S B (.int i) (.int i)
  | str (x : Str) : Dr S B (.str x) (.str x)
  | lst {a : Addr} {vs : List V} {ds : List D} : B a = some (.lst vs) → DrAll S B vs ds → Dr S B (.ref a) (.lst ds)
  | tup {a : Addr} {vs : List V} {ds : List D} : SqT S.K B a vs → DrAll S B vs ds → Dr S B (.ref a) (.tup ds)
  | obj {v : V} {c : Str} {fs : List D} : S.OB B v c fs → Dr S B v (.obj c fs)
  | row : Dr S B (.ref S.r) .row
inductive DrAll (S : Sem0) (B : Hp) : List V → List D → Prop
  | nil : DrAll S B [] []
  | cons {v : V} {vs : List V} {d : D} {ds : List D} : Dr S B v d → DrAll S B vs ds → DrAll S B (v :: vs) (d :: ds)
end
theorem Same.tupK {K : PySem.W.Frag} {H H' : Hp} {a : Addr} {xs : List V} (e : Same H H') (h : SqT K H a xs) : SqT K H' a xs := by
  rcases h with (h | ⟨o, h⟩) | h
  · exact .inl (.inl (e _ _ h))
  · exact .inl (.inr ⟨o, e _ _ h⟩)
  · exact .inr h
mutual
theorem Dr.mono {B B' : Hp} (s : Same B B') : ∀ {v : V} {d : D}, Dr S B v d → Dr S B' v d
  | _, _, .non => .non
  | _, _, .bl b => .bl b
  | _, _, .int i => .int i
  | _, _, .str x => .str x
  | _, _, .lst h a => .lst (s _ _ h) (DrAll.mono s a)
  | _, _, .tup h a => .tup (Same.tupK s h) (DrAll.mono s a)
  | _, _, .obj h => .obj (S.ob_mono s h)
  | _, _, .row => .row
theorem DrAll.mono {B B' : Hp} (s : Same B B') : ∀ {vs : List V} {ds : List D}, DrAll S B vs ds → DrAll S B' vs ds
  | _, _, .nil => .nil
  | _, _, .cons a r => .cons (Dr.mono s a) (DrAll.mono s r)
end
theorem DrAll.len {B : Hp} : ∀ {vs : List V} {ds : List D}, DrAll S B vs ds → vs.length = ds.length
  | _, _, .nil => rfl
  | _, _, .cons _ r => by rw [List.length_cons, List.length_cons, r.len]
theorem DrAll.at_ {B : Hp} : ∀ {vs : List V} {ds : List D} {i : Nat} {d : D}, DrAll S B vs ds → ds[i]? = some d → ∃ v, vs[i]? = some v ∧ Dr S B v d
  | _, _, _, _, .nil, h => by simp at h
  | _, _, 0, _, .cons a _, h => ⟨_, rfl, by simp at h; exact h ▸ a⟩
  | _, _, i + 1, _, .cons _ r, h => DrAll.at_ (i := i) r (by simpa using h)
theorem DrAll.atV {B : Hp} : ∀ {vs : List V} {ds : List D} {i : Nat} {v : V}, DrAll S B vs ds → vs[i]? = some v → ∃ d, ds[i]? = some d ∧ Dr S B v d
  | _, _, _, _, .nil, h => by simp at h
  | _, _, 0, _, .cons a _, h => ⟨_, rfl, by simp at h; exact h ▸ a⟩
  | _, _, i + 1, _, .cons _ r, h => DrAll.atV (i := i) r (by simpa using h)
theorem DrAll.app {B : Hp} : ∀ {vs us : List V} {ds es : List D}, DrAll S B vs ds → DrAll S B us es → DrAll S B (vs ++ us) (ds ++ es)
  | _, _, _, _, .nil, q => q
  | _, _, _, _, .cons a r, q => .cons a (r.app q)
theorem DrAll.take {B : Hp} : ∀ {vs : List V} {ds : List D} (n : Nat), DrAll S B vs ds → DrAll S B (vs.take n) (ds.take n)
  | _, _, 0, _ => .nil
  | _, _, _ + 1, .nil => .nil
  | _, _, n + 1, .cons a r => .cons a (r.take n)
theorem DrAll.drop {B : Hp} : ∀ {vs : List V} {ds : List D} (n : Nat), DrAll S B vs ds → DrAll S B (vs.drop n) (ds.drop n)
  | _, _, 0, r => r
  | _, _, _ + 1, .nil => .nil
  | _, _, n + 1, .cons _ r => r.drop n
theorem DrAll.rep {B : Hp} {vs : List V} {ds : List D} (h : DrAll S B vs ds) : ∀ n, DrAll S B (List.replicate n vs).flatten (List.replicate n ds).flatten
  | 0 => .nil
  | n + 1 => by
    rw [List.replicate_succ, List.replicate_succ, List.flatten_cons, List.flatten_cons]
    exact h.app (h.rep n)
theorem DrAll.set {B : Hp} {v : V} {d : D} (q : Dr S B v d) : ∀ {vs : List V} {ds : List D} (n : Nat), DrAll S B vs ds → DrAll S B (vs.set n v) (ds.set n d)
  | _, _, _, .nil => .nil
  | _, _, 0, .cons _ r => .cons q r
  | _, _, n + 1, .cons a r => .cons a (r.set q n)
theorem DrAll.erase {B : Hp} : ∀ {vs : List V} {ds : List D} (n : Nat), DrAll S B vs ds → DrAll S B (vs.eraseIdx n) (ds.eraseIdx n)
  | _, _, _, .nil => .nil
  | _, _, 0, .cons _ r => r
  | _, _, n + 1, .cons a r => .cons a (r.erase n)
theorem DrAll.ints {B : Hp} : ∀ {vs : List V} {ds : List D} {ns : List Int}, DrAll S B vs ds → toInts ds = some ns → vs = ns.map V.int
  | _, _, ns, .nil, h => by
    have h : some [] = some ns := h
    cases h
    rfl
  | _, _, ns, .cons (d := d) (ds := ds) a r, h => by
    cases d with
    | int i =>
      have h : (toInts ds).map (i :: ·) = some ns := h
      cases e : toInts ds with
      | none => rw [e] at h; cases h
      | some m =>
        rw [e] at h
        cases h
        cases a
        rw [r.ints e]
        rfl
    | _ => cases h
theorem DrAll.strs {B : Hp} : ∀ {vs : List V} {ds : List D} {ns : List Str}, DrAll S B vs ds → toStrs ds = some ns → vs = ns.map V.str
  | _, _, ns, .nil, h => by
    have h : some [] = some ns := h
    cases h
    rfl
  | _, _, ns, .cons (d := d) (ds := ds) a r, h => by
    cases d with
    | str i =>
      have h : (toStrs ds).map (i :: ·) = some ns := h
      cases e : toStrs ds with
      | none => rw [e] at h; cases h
      | some m =>
        rw [e] at h
        cases h
        cases a
        rw [r.strs e]
        rfl
    | _ => cases h
theorem DrAll.bls {B : Hp} : ∀ {vs : List V} {ds : List D} {ns : List Bool}, DrAll S B vs ds → toBls ds = some ns → vs = ns.map V.bl
  | _, _, ns, .nil, h => by
    have h : some [] = some ns := h
    cases h
    rfl
  | _, _, ns, .cons (d := d) (ds := ds) a r, h => by
    cases d with
    | bl i =>
      have h : (toBls ds).map (i :: ·) = some ns := h
      cases e : toBls ds with
      | none => rw [e] at h; cases h
      | some m =>
        rw [e] at h
        cases h
        cases a
        rw [r.bls e]
        rfl
    | _ => cases h
theorem drAll_ints {B : Hp} : ∀ ns : List Int, DrAll S B (ns.map V.int) (ns.map D.int)
  | [] => .nil
  | n :: ns => .cons (.int n) (drAll_ints ns)
theorem drAll_strs {B : Hp} : ∀ ns : List Str, DrAll S B (ns.map V.str) (ns.map D.str)
  | [] => .nil
  | n :: ns => .cons (.str n) (drAll_strs ns)

/-! ### heaps -/
/-- a heap with its frozen part -/
structure Ok (S : Sem0) (H B : Hp) : Prop where
  sub : Same B H
  rw : S.RW B H
  rn : B S.r = none
  rt : ∃ o, H S.r = some o
/-- nothing that stood has changed, but the reader -/
structure Grow (S : Sem0) (H B H' B' : Hp) : Prop where
  bb : Same B B'
  fr : ∀ a o, H a = some o → B a = none → B' a = none
  kp : ∀ a o, a ≠ S.r → H a = some o → H' a = some o
  ok : Ok S H' B'
theorem Grow.refl {H B : Hp} (o : Ok S H B) : Grow S H B H B := ⟨Same.refl B, fun _ _ _ h => h, fun _ _ _ h => h, o⟩
theorem Grow.trans {H B H1 B1 H2 B2 : Hp} (a : Grow S H B H1 B1) (b : Grow S H1 B1 H2 B2) : Grow S H B H2 B2 := by
  refine ⟨a.bb.trans b.bb, fun c o h hb => ?_, fun c o n h => b.kp c o n (a.kp c o n h), b.ok⟩
  by_cases e : c = S.r
  · rw [e]
    exact b.ok.rn
  · exact b.fr c o (a.kp c o e h) (a.fr c o h hb)
theorem Ok.ne {H B : Hp} (o : Ok S H B) {p : Addr} (h : H p = none) : p ≠ S.r := fun e => by
  obtain ⟨x, hx⟩ := o.rt
  rw [e, hx] at h
  cases h
theorem Ok.free {H B : Hp} (o : Ok S H B) {p : Addr} (h : H p = none) : B p = none := o.sub.free h
/-- a new thing, frozen at once -/
theorem Grow.new {H B : Hp} (o : Ok S H B) {p : Addr} (h : H p = none) (x : HO) : Grow S H B (upd H p x) (upd B p x) := by
  have n := o.ne h
  have f := o.free h
  have sb : Same B (upd B p x) := fun c u e => by rw [upd_ne (ne_of_none e f)]; exact e
  have sh : Same H (upd H p x) := fun c u e => by rw [upd_ne (ne_of_none e h)]; exact e
  refine ⟨sb, fun c u e b => ?_, fun c u _ e => sh c u e, ⟨fun c u e => ?_, S.rw_mono sb (fun u e => sh _ _ e) o.rw, ?_, ?_⟩⟩
  · rw [upd_ne (ne_of_none e h)]
    exact b
  · by_cases q : c = p
    · rw [q, upd_same] at e
      rw [q, upd_same]
      exact e
    · rw [upd_ne q] at e
      rw [upd_ne q]
      exact o.sub _ _ e
  · rw [upd_ne n.symm]
    exact o.rn
  · obtain ⟨u, e⟩ := o.rt
    exact ⟨u, sh _ _ e⟩
/-- a new thing that is still written -/
theorem Grow.open_ {H B : Hp} (o : Ok S H B) {p : Addr} (h : H p = none) (x : HO) : Grow S H B (upd H p x) B := by
  have sh : Same H (upd H p x) := fun c u e => by rw [upd_ne (ne_of_none e h)]; exact e
  exact ⟨Same.refl B, fun _ _ _ b => b, fun c u _ e => sh c u e, ⟨o.sub.trans sh, S.rw_mono (Same.refl B) (fun u e => sh _ _ e) o.rw, o.rn, let ⟨u, e⟩ := o.rt; ⟨u, sh _ _ e⟩⟩⟩
/-- what is still written is written -/
theorem Ok.put {H B : Hp} (o : Ok S H B) {p : Addr} (hB : B p = none) (n : p ≠ S.r) (x : HO) : Ok S (upd H p x) B :=
  ⟨fun c u e => by rw [upd_ne (ne_of_none e hB)]; exact o.sub _ _ e, S.rw_mono (Same.refl B) (fun u e => by rw [upd_ne n.symm]; exact e) o.rw, o.rn, let ⟨u, e⟩ := o.rt; ⟨u, by rw [upd_ne n.symm]; exact e⟩⟩
/-- .. and is frozen -/
theorem Grow.freeze {H B : Hp} (o : Ok S H B) {p : Addr} {x : HO} (h : H p = some x) (hB : B p = none) (n : p ≠ S.r) : Ok S H (upd B p x) ∧ Same B (upd B p x) := by
  have sb : Same B (upd B p x) := fun c u e => by rw [upd_ne (ne_of_none e hB)]; exact e
  refine ⟨⟨fun c u e => ?_, S.rw_mono sb (fun _ e => e) o.rw, by rw [upd_ne n.symm]; exact o.rn, o.rt⟩, sb⟩
  by_cases q : c = p
  · rw [q, upd_same] at e
    rw [q, h]
    exact e
  · rw [upd_ne q] at e
    exact o.sub _ _ e

/-! ### slots -/
structure Rep (S : Sem0) (H0 B0 : Hp) (ρ : List Sl) (σ : L2.St) (H B : Hp) : Prop where
  gr : Grow S H0 B0 H B
  len : ρ.length = σ.length
  dat : ∀ (i : Nat) (d : D), ρ[i]? = some (.dat d) → ∃ v, σ[i]? = some (some v) ∧ Dr S B v d
  own : ∀ (i : Nat) (l : List D), ρ[i]? = some (.own l) → ∃ a vs, σ[i]? = some (some (.ref a)) ∧ H a = some (.lst vs) ∧ B a = none ∧ a ≠ S.r ∧ H0 a = none ∧ DrAll S B vs l
  sep : ∀ (i j : Nat) (a : Addr) (l m : List D), ρ[i]? = some (.own l) → ρ[j]? = some (.own m) → σ[i]? = some (some (.ref a)) → σ[j]? = some (some (.ref a)) → i = j
theorem Rep.grow {H0 B0 H B H' B' : Hp} {ρ : List Sl} {σ : L2.St} (p : Rep S H0 B0 ρ σ H B) (g : Grow S H B H' B') : Rep S H0 B0 ρ σ H' B' := by
  refine ⟨p.gr.trans g, p.len, fun i d e => ?_, fun i l e => ?_, p.sep⟩
  · obtain ⟨v, h1, h2⟩ := p.dat i d e
    exact ⟨v, h1, h2.mono g.bb⟩
  · obtain ⟨a, vs, h1, h2, h3, h4, h5, h6⟩ := p.own i l e
    exact ⟨a, vs, h1, g.kp _ _ h4 h2, g.fr _ _ h2 h3, h4, h5, h6.mono g.bb⟩
theorem Rep.ok {H0 B0 H B : Hp} {ρ : List Sl} {σ : L2.St} (p : Rep S H0 B0 ρ σ H B) : Ok S H B := p.gr.ok
theorem Rep.start {H B : Hp} (o : Ok S H B) {N : List Str} {vs : List V} {ds : List D} (h : DrAll S B vs ds) (hl : vs.length ≤ N.length) (ρ : List Sl) (σ : L2.St) (e1 : ρ = ds.map Sl.dat ++ List.replicate (N.length - ds.length) Sl.emp) (e2 : σ = vs.map some ++ List.replicate (N.length - vs.length) none) :
    Rep S H B ρ σ H B := by
  have hn := h.len
  subst e1
  subst e2
  refine ⟨Grow.refl o, by simp [hn], fun i d e => ?_, fun i l e => ?_, fun i j a l m e => ?_⟩
  · by_cases q : i < ds.length
    · rw [List.getElem?_append_left (by simpa using q), List.getElem?_map] at e
      cases z : ds[i]? with
      | none => rw [z] at e; cases e
      | some d' =>
        rw [z] at e
        cases e
        obtain ⟨v, hv, hd⟩ := h.at_ z
        refine ⟨v, ?_, hd⟩
        rw [List.getElem?_append_left (by simp; omega), List.getElem?_map, hv]
        rfl
    · rw [List.getElem?_append_right (by simpa using q), List.getElem?_replicate] at e
      split at e <;> cases e
  · exfalso
    by_cases q : i < ds.length
    · rw [List.getElem?_append_left (by simpa using q), List.getElem?_map] at e
      cases z : ds[i]? with
      | none => rw [z] at e; cases e
      | some d' => rw [z] at e; cases e
    · rw [List.getElem?_append_right (by simpa using q), List.getElem?_replicate] at e
      split at e <;> cases e
  · exfalso
    by_cases q : i < ds.length
    · rw [List.getElem?_append_left (by simpa using q), List.getElem?_map] at e
      cases z : ds[i]? with
      | none => rw [z] at e; cases e
      | some d' => rw [z] at e; cases e
    · rw [List.getElem?_append_right (by simpa using q), List.getElem?_replicate] at e
      split at e <;> cases e
/-- a name takes data -/
theorem Rep.set {H0 B0 H B : Hp} {ρ : List Sl} {σ : L2.St} (p : Rep S H0 B0 ρ σ H B) {v : V} {d : D} (h : Dr S B v d) (i : Nat) : Rep S H0 B0 (ρ.set i (.dat d)) (σ.set i (some v)) H B := by
  refine ⟨p.gr, by simp [p.len], fun j d' e => ?_, fun j l e => ?_, fun j k a l m e1 e2 e3 e4 => ?_⟩
  · by_cases q : i = j
    · subst q
      by_cases z : i < ρ.length
      · rw [List.getElem?_set_self z] at e
        cases e
        exact ⟨v, List.getElem?_set_self (by rw [← p.len]; exact z), h⟩
      · rw [List.getElem?_eq_none (by simpa using z)] at e
        cases e
    · rw [List.getElem?_set_ne q] at e
      rw [List.getElem?_set_ne q]
      exact p.dat j d' e
  · by_cases q : i = j
    · subst q
      by_cases z : i < ρ.length
      · rw [List.getElem?_set_self z] at e
        cases e
      · rw [List.getElem?_eq_none (by simpa using z)] at e
        cases e
    · rw [List.getElem?_set_ne q] at e
      rw [List.getElem?_set_ne q]
      exact p.own j l e
  · have nj : ∀ {j l}, (ρ.set i (.dat d))[j]? = some (.own l) → i ≠ j := fun {j l} e q => by
      subst q
      by_cases z : i < ρ.length
      · rw [List.getElem?_set_self z] at e
        cases e
      · rw [List.getElem?_eq_none (by simpa using z)] at e
        cases e
    have n1 := nj e1
    have n2 := nj e2
    rw [List.getElem?_set_ne n1] at e1 e3
    rw [List.getElem?_set_ne n2] at e2 e4
    exact p.sep j k a l m e1 e2 e3 e4
/-- slots forgotten -/
theorem Rep.wipe1 {H0 B0 H B : Hp} {ρ : List Sl} {σ : L2.St} (p : Rep S H0 B0 ρ σ H B) (i : Nat) (o : Option V) : Rep S H0 B0 (ρ.set i .emp) (σ.set i o) H B := by
  have ne : ∀ {j s}, (ρ.set i .emp)[j]? = some s → s ≠ .emp → i ≠ j := fun {j s} e n q => by
    subst q
    by_cases z : i < ρ.length
    · rw [List.getElem?_set_self z] at e
      exact n (Option.some.inj e).symm
    · rw [List.getElem?_eq_none (by simpa using z)] at e
      cases e
  refine ⟨p.gr, by simp [p.len], fun j d' e => ?_, fun j l e => ?_, fun j k a l m e1 e2 e3 e4 => ?_⟩
  · have q := ne e (by intro z; cases z)
    rw [List.getElem?_set_ne q] at e
    rw [List.getElem?_set_ne q]
    exact p.dat j d' e
  · have q := ne e (by intro z; cases z)
    rw [List.getElem?_set_ne q] at e
    rw [List.getElem?_set_ne q]
    exact p.own j l e
  · have n1 := ne e1 (by intro z; cases z)
    have n2 := ne e2 (by intro z; cases z)
    rw [List.getElem?_set_ne n1] at e1 e3
    rw [List.getElem?_set_ne n2] at e2 e4
    exact p.sep j k a l m e1 e2 e3 e4
theorem Rep.wipe {H0 B0 H B : Hp} {ρ : List Sl} {σ : L2.St} (p : Rep S H0 B0 ρ σ H B) : ∀ vs : List Nat, Rep S H0 B0 (wipeR ρ vs) (L2.wipe σ vs) H B
  | [] => p
  | v :: vs => (p.wipe vs).wipe1 v none
end Ev

/-! Operators, comparisons, subscripts, built-ins: what they give over data is what they give. -/
namespace Ev
open PySem PySem.Spec L2
def WO (X : Cx) (f : Value → Value → Sem Value) : R2 := fun x y H Q => ∃ r, OpR X f r ∧ r x y H Q
theorem opW {X : Cx} {f : Value → Value → Sem Value} : OpR X f (WO X f) := fun pins s σ H x y v u Q I rx ry ⟨r, h, q⟩ => h pins s σ H x y v u Q I rx ry q
def WC (X : Cx) (f : Value) : List V → Hp → VK → Prop := fun xs H Q => ∃ r, CallR X f r ∧ r xs H Q
theorem callW {X : Cx} {f : Value} : CallR X f (WC X f) := fun pins s σ H xs us Q I rx ⟨r, h, q⟩ => h pins s σ H xs us Q I rx q
def WIx (X : Cx) : R2 := fun x y H Q => ∃ r, IxR X r ∧ r x y H Q
theorem ixW {X : Cx} : IxR X (WIx X) := fun va sl pins s σ H x y v u Q I rx ry ⟨r, h, q⟩ hs => h va sl pins s σ H x y v u Q I rx ry q hs
def WSl (X : Cx) : V → Option Int → Option Int → Hp → VK → Prop := fun x lo hi H Q => ∃ r, SlR X r ∧ r x lo hi H Q
theorem slW {X : Cx} : SlR X (WSl X) := fun pins s σ H x v vl vu lo hi sl Q I rx hs pl pu ⟨r, h, q⟩ => h pins s σ H x v vl vu lo hi sl Q I rx hs pl pu q
def WU (X : Cx) (f : Value → Sem Value) : V → Hp → VK → Prop := fun x H Q => ∃ r, UnR X f r ∧ r x H Q
theorem unW {X : Cx} {f : Value → Sem Value} : UnR X f (WU X f) := fun pins s σ H x v Q I rx ⟨r, h, q⟩ => h pins s σ H x v Q I rx q
/-- what is wanted behind data -/
def Aft (S : Sem0) (H B : Hp) (Q : VK) : D → Prop := fun d => ∀ v H' B', Grow S H B H' B' → Dr S B' v d → Q v H'
variable {S : Sem0} {X : Cx} {H B : Hp} {v u : V} {x y : D} {Q : VK} {E : Str → List D → Prop}
theorem Aft.here {d : D} (o : Ok S H B) (h : Aft S H B Q d) {v : V} (r : Dr S B v d) : Q v H := h v H B (Grow.refl o) r
theorem Aft.newL {ds : List D} {vs : List V} (o : Ok S H B) (h : Aft S H B Q (.lst ds)) (r : DrAll S B vs ds) : ∀ p, H p = none → Q (.ref p) (upd H p (.lst vs)) := fun p hp => by
  have g := Grow.new o hp (.lst vs)
  exact h _ _ _ g (.lst upd_same (r.mono g.bb))
theorem Aft.newT {ds : List D} {vs : List V} (o : Ok S H B) (h : Aft S H B Q (.tup ds)) (r : DrAll S B vs ds) : ∀ p, H p = none → Q (.ref p) (upd H p (.tup vs)) := fun p hp => by
  have g := Grow.new o hp (.tup vs)
  exact h _ _ _ g (.tup (SqT.of upd_same) (r.mono g.bb))
theorem most_le {n : Nat} (h : n ≤ most) : n ≤ sizeLine := Nat.le_trans h (by decide)
theorem rep_len {α : Type} (l : List α) : ∀ n, (List.replicate n l).flatten.length = n * l.length
  | 0 => by simp
  | n + 1 => by rw [List.replicate_succ, List.flatten_cons, List.length_append, rep_len l n, Nat.succ_mul, Nat.add_comm]
theorem seqL_of {a : Addr} {vs : List V} (o : Ok S H B) (h : B a = some (.lst vs)) : H a = some (.lst vs) := o.sub _ _ h
theorem seqT_of {a : Addr} {vs : List V} (o : Ok S H B) (h : SqT S.K B a vs) : SqT S.K H a vs := Same.tupK o.sub h
theorem so_bin (hK : X.K = S.K) {op : Operator} (o : Ok S H B) (hx : Dr S B v x) (hy : Dr S B u y) (h : wpT (binD op x y) (Aft S H B Q) E) : WO X (binaryOp op) v u H Q := by
  unfold binD at h
  split at h
  · cases hx; cases hy
    exact ⟨_, op_add, _, _, rfl, rfl, Aft.here o h (.int _)⟩
  · cases hx; cases hy
    split at h
    · rename_i z
      exact ⟨_, op_add_str, _, _, rfl, rfl, most_le z, Aft.here o h (.str _)⟩
    · exact h.elim
  · cases hx with
    | lst h1 r1 =>
      cases hy with
      | lst h2 r2 =>
        split at h
        · rename_i z
          exact ⟨_, op_cat, _, _, _, _, rfl, rfl, seqL_of o h1, seqL_of o h2, by rw [r1.len, r2.len]; exact most_le z, Aft.newL o h (r1.app r2)⟩
        · exact h.elim
  · cases hx with
    | tup h1 r1 =>
      cases hy with
      | tup h2 r2 =>
        split at h
        · rename_i z
          refine ⟨_, op_catA, _, _, _, _, rfl, rfl, by rw [hK]; exact seqT_of o h1, by rw [hK]; exact seqT_of o h2, by rw [r1.len, r2.len]; exact most_le z, fun e => ?_, fun _ e => ?_, fun _ _ => Aft.newT o h (r1.app r2)⟩
          · subst e
            cases r1
            exact Aft.here o h (.tup h2 r2)
          · subst e
            cases r2
            rw [List.append_nil] at h
            exact Aft.here o h (.tup h1 r1)
        · exact h.elim
  · cases hx; cases hy
    exact ⟨_, op_sub, _, _, rfl, rfl, Aft.here o h (.int _)⟩
  · cases hx; cases hy
    split at h
    · rename_i z
      exact ⟨_, op_mul, _, _, rfl, rfl, .inl z, Aft.here o h (.int _)⟩
    · exact h.elim
  · cases hx with
    | lst h1 r1 =>
      cases hy
      split at h
      · rename_i z
        refine ⟨_, op_rep, _, _, _, rfl, rfl, seqL_of o h1, by omega, by omega, ?_, Aft.newL o h (r1.rep _)⟩
        rw [r1.len]
        refine Nat.le_trans (Nat.mul_le_mul z.2.2 (show _ ≤ 1000 by omega)) (by decide)
      · exact h.elim
  · cases hx with
    | tup h1 r1 =>
      cases hy
      split at h
      · rename_i z
        refine ⟨_, op_repT, _, _, _, rfl, rfl, by rw [hK]; exact seqT_of o h1, fun e => ?_, z.1, z.2.1, by rw [r1.len]; exact z.2.2.2, Aft.newT o h (r1.rep _)⟩
        subst e
        cases r1
        exact z.2.2.1 rfl
      · exact h.elim
  · cases hx; cases hy
    split at h
    · rename_i z
      exact ⟨_, op_fdiv, _, _, rfl, rfl, z, Aft.here o h (.int _)⟩
    · exact h.elim
  · cases hx; cases hy
    split at h
    · rename_i z
      exact ⟨_, op_mod, _, _, rfl, rfl, z, Aft.here o h (.int _)⟩
    · exact h.elim
  · cases hx; cases hy
    split at h
    · rename_i z
      exact ⟨_, op_pow, _, _, rfl, rfl, ⟨z.1, by omega, by omega⟩, Aft.here o h (.int _)⟩
    · exact h.elim
  · exact h.elim

/-! ### equality -/
def D.py : Nat → D → PyData
  | _, .non => .none
  | _, .bl b => .bool b
  | _, .int i => .int i
  | _, .str s => .str s
  | n + 1, .lst l => .list (l.map (D.py n))
  | n + 1, .tup l => .tuple (l.map (D.py n))
  | _, _ => .none
theorem dp_py (o : Ok S H B) : ∀ (n : Nat) (d : D) (v : V), D.ok n d = true → Dr S B v d → Dp S.K H v (D.py n d) := by
  intro n
  induction n with
  | zero =>
    intro d v h r
    cases r with
    | non => exact .non
    | bl b => exact .bl b
    | int i => exact .int i
    | str s => exact .str s
    | _ => cases h
  | succ n ih =>
    have all : ∀ (ds : List D) (vs : List V), ds.all (D.ok n) = true → DrAll S B vs ds → DpAll S.K H vs (ds.map (D.py n)) := by
      intro ds
      induction ds with
      | nil =>
        intro vs _ r
        cases r
        exact .nil
      | cons d ds ih2 =>
        intro vs h r
        rw [List.all_cons, Bool.and_eq_true] at h
        cases r with
        | cons a r => exact .cons (ih d _ h.1 a) (ih2 _ h.2 r)
    intro d v h r
    cases r with
    | non => exact .non
    | bl b => exact .bl b
    | int i => exact .int i
    | str s => exact .str s
    | lst h1 r => exact .lst (SqL.of (o.sub _ _ h1)) (all _ _ h r)
    | tup h1 r => exact .tup (seqT_of o h1) (all _ _ h r)
    | _ => cases h
theorem lay_py : ∀ (n : Nat) (d : D), D.ok n d = true → (D.py n d).canLay0 = true ∧ (D.py n d).depth ≤ n := by
  intro n
  induction n with
  | zero =>
    intro d h
    cases d with
    | str s => exact ⟨by show PyData.canLay0 (.str s) = true; rw [PyData.canLay0]; exact h, by show PyData.depth (.str s) ≤ 0; rw [PyData.depth]; exact Nat.le_refl 0⟩
    | non => exact ⟨by show PyData.canLay0 .none = true; rw [PyData.canLay0], by show PyData.depth .none ≤ 0; rw [PyData.depth]; exact Nat.le_refl 0⟩
    | bl s => exact ⟨by show PyData.canLay0 (.bool s) = true; rw [PyData.canLay0], by show PyData.depth (.bool s) ≤ 0; rw [PyData.depth]; exact Nat.le_refl 0⟩
    | int s => exact ⟨by show PyData.canLay0 (.int s) = true; rw [PyData.canLay0], by show PyData.depth (.int s) ≤ 0; rw [PyData.depth]; exact Nat.le_refl 0⟩
    | _ => cases h
  | succ n ih =>
    have all : ∀ ds : List D, ds.all (D.ok n) = true → PyData.canLayAll0 (ds.map (D.py n)) = true ∧ PyData.depthAll (ds.map (D.py n)) ≤ n := by
      intro ds
      induction ds with
      | nil => intro _; exact ⟨by rw [List.map_nil, PyData.canLayAll0], by rw [List.map_nil, PyData.depthAll]; exact Nat.zero_le _⟩
      | cons d ds ih2 =>
        intro h
        rw [List.all_cons, Bool.and_eq_true] at h
        obtain ⟨a, b⟩ := ih d h.1
        obtain ⟨c, e⟩ := ih2 h.2
        exact ⟨by rw [List.map_cons, PyData.canLayAll0, a, c]; rfl, by rw [List.map_cons, PyData.depthAll]; exact Nat.max_le.mpr ⟨b, e⟩⟩
    intro d h
    cases d with
    | str s => exact ⟨by show PyData.canLay0 (.str s) = true; rw [PyData.canLay0]; exact h, by show PyData.depth (.str s) ≤ _; rw [PyData.depth]; exact Nat.zero_le _⟩
    | non => exact ⟨by show PyData.canLay0 .none = true; rw [PyData.canLay0], by show PyData.depth .none ≤ _; rw [PyData.depth]; exact Nat.zero_le _⟩
    | bl s => exact ⟨by show PyData.canLay0 (.bool s) = true; rw [PyData.canLay0], by show PyData.depth (.bool s) ≤ _; rw [PyData.depth]; exact Nat.zero_le _⟩
    | int s => exact ⟨by show PyData.canLay0 (.int s) = true; rw [PyData.canLay0], by show PyData.depth (.int s) ≤ _; rw [PyData.depth]; exact Nat.zero_le _⟩
    | lst l =>
      obtain ⟨a, b⟩ := all l h
      exact ⟨by show PyData.canLay0 (.list (l.map (D.py n))) = true; rw [PyData.canLay0]; exact a, by show PyData.depth (.list (l.map (D.py n))) ≤ _; rw [PyData.depth]; exact Nat.succ_le_succ b⟩
    | tup l =>
      obtain ⟨a, b⟩ := all l h
      exact ⟨by show PyData.canLay0 (.tuple (l.map (D.py n))) = true; rw [PyData.canLay0]; exact a, by show PyData.depth (.tuple (l.map (D.py n))) ≤ _; rw [PyData.depth]; exact Nat.succ_le_succ b⟩
    | _ => cases h
theorem shaped_py {d : D} (h : D.ok 6 d = true) : SeqAt.shaped (D.py 6 d) = true := by
  obtain ⟨a, b⟩ := lay_py 6 d h
  unfold SeqAt.shaped
  rw [a, decide_eq_true (Nat.le_trans b (by decide))]
  rfl
theorem eqv_py : ∀ (n : Nat) (d e : D), D.ok n d = true → D.ok n e = true → PyData.eqv (D.py n d) (D.py n e) = D.beq n d e := by
  intro n
  induction n with
  | zero =>
    intro d e h h'
    cases d <;> first | (cases h; done) | skip
    all_goals (cases e <;> first | (cases h'; done) | skip)
    all_goals simp only [D.py, PyData.eqv, D.beq, b2]
    all_goals first | rfl | (rw [Bool.eq_iff_iff]; simp)
  | succ n ih =>
    have all : ∀ (ds es : List D), ds.all (D.ok n) = true → es.all (D.ok n) = true → PyData.eqvAll (ds.map (D.py n)) (es.map (D.py n)) = all2 (D.beq n) ds es := by
      intro ds
      induction ds with
      | nil =>
        intro es _ _
        cases es with
        | nil => simp only [List.map_nil, PyData.eqvAll, all2]
        | cons e es => simp only [List.map_nil, List.map_cons, PyData.eqvAll, all2]
      | cons d ds ih2 =>
        intro es h h'
        cases es with
        | nil => simp only [List.map_nil, List.map_cons, PyData.eqvAll, all2]
        | cons e es =>
          rw [List.all_cons, Bool.and_eq_true] at h h'
          simp only [List.map_cons, PyData.eqvAll, all2]
          rw [ih d e h.1 h'.1, ih2 es h.2 h'.2]
    intro d e h h'
    cases d <;> first | (cases h; done) | skip
    all_goals (cases e <;> first | (cases h'; done) | skip)
    all_goals simp only [D.py, PyData.eqv, D.beq, b2]
    all_goals first | rfl | exact all _ _ h h' | (rw [Bool.eq_iff_iff]; simp; done)
theorem so_eq (hK : X.K = S.K) (hu : X.A.units + 64 < cLine) (o : Ok S H B) (hx : Dr S B v x) (hy : Dr S B u y) (h : wpT (eqD x y) (Aft S H B Q) E) : WO X (compareOp .Eq) v u H Q := by
  unfold eqD at h
  split at h
  · rename_i z
    rw [Bool.and_eq_true] at z
    refine ⟨_, op_eqD hu, D.py 6 x, D.py 6 y, by rw [hK]; exact dp_py o 6 x v z.1 hx, by rw [hK]; exact dp_py o 6 y u z.2 hy, shaped_py z.1, shaped_py z.2, ?_⟩
    rw [eqv_py 6 x y z.1 z.2]
    exact Aft.here o h (.bl _)
  · exact h.elim
theorem so_ne (hK : X.K = S.K) (hu : X.A.units + 64 < cLine) (o : Ok S H B) (hx : Dr S B v x) (hy : Dr S B u y) (h : wpT ((eqD x y).bind fun r => match r with | .bl r => .ret (.bl (!r)) | _ => .fail) (Aft S H B Q) E) : WO X (compareOp .NotEq) v u H Q := by
  unfold eqD at h
  split at h
  · rename_i z
    rw [Bool.and_eq_true] at z
    refine ⟨_, op_neD hu, D.py 6 x, D.py 6 y, by rw [hK]; exact dp_py o 6 x v z.1 hx, by rw [hK]; exact dp_py o 6 y u z.2 hy, shaped_py z.1, shaped_py z.2, ?_⟩
    rw [eqv_py 6 x y z.1 z.2]
    exact Aft.here o h (.bl _)
  · exact h.elim
theorem flat_dr (hx : Dr S B v x) (h : x.flat = true) : flatV v = true := by
  cases hx <;> first | rfl | cases h
theorem eqV_beq (hx : Dr S B v x) (hy : Dr S B u y) (f : x.flat = true) (g : y.flat = true) : eqV v u = D.beq 0 x y := by
  cases hx <;> first | (cases f; done) | skip
  all_goals (cases hy <;> first | (cases g; done) | skip)
  all_goals simp only [eqV, D.beq, b2]
  all_goals (rw [Bool.eq_iff_iff]; first | (simp; done) | (simp only [beq_iff_eq]; exact decide_eq_true_iff.symm))
theorem inV_inD (hx : Dr S B v x) (f : x.flat = true) : ∀ {vs : List V} {ds : List D}, DrAll S B vs ds → ds.all D.flat = true → vs.all flatV = true ∧ inV v vs = inD x ds
  | _, _, .nil, _ => ⟨rfl, rfl⟩
  | _, _, .cons (d := d) a r, h => by
    rw [List.all_cons, Bool.and_eq_true] at h
    obtain ⟨h1, h2⟩ := inV_inD hx f r h.2
    refine ⟨by rw [List.all_cons, flat_dr a h.1, h1]; rfl, ?_⟩
    unfold inV inD at h2 ⊢
    rw [List.any_cons, List.any_cons, h2, eqV_beq a hx h.1 f]
theorem isNon_dr (hx : Dr S B v x) (ob : ∀ c fs, x = .obj c fs → v ≠ .non) : decide (v = .non) = isNon x := by
  cases hx <;> first | rfl | skip
  rename_i c fs h
  rw [decide_eq_false (ob c fs rfl)]
  rfl
/-- what the text's objects do -/
structure Hooks (S : Sem0) (G : Info) (X : Cx) : Prop where
  ob : ∀ {B : Hp} {v : V} {c : Str} {fs : List D}, S.OB B v c fs → ∃ a, v = .ref a
  len : ∀ {H B : Hp} {v : V} {c : Str} {fs : List D} {Q : VK} {E : Str → List D → Prop}, Ok S H B → S.OB B v c fs → wpT (G.lenO (.obj c fs)) (Aft S H B Q) E → WC X (.builtin "len") [v] H Q
  eq : ∀ {H B : Hp} {v u : V} {c c' : Str} {fs fs' : List D} {Q : VK} {E : Str → List D → Prop}, Ok S H B → S.OB B v c fs → S.OB B u c' fs' → wpT (G.eqO (.obj c fs) (.obj c' fs')) (Aft S H B Q) E → WO X (compareOp .Eq) v u H Q
  ne : ∀ {H B : Hp} {v u : V} {c c' : Str} {fs fs' : List D} {Q : VK} {E : Str → List D → Prop}, Ok S H B → S.OB B v c fs → S.OB B u c' fs' →
    wpT ((G.eqO (.obj c fs) (.obj c' fs')).bind fun r => match r with | .bl r => .ret (.bl (!r)) | _ => .fail) (Aft S H B Q) E → WO X (compareOp .NotEq) v u H Q
theorem so_in_core (hK : X.K = S.K) (o : Ok S H B) {a : Addr} {vs : List V} {l : List D} (hx : Dr S B v x) (hs : SqL S.K H a vs ∨ SqT S.K H a vs) (r : DrAll S B vs l) (z : (x.flat && l.all D.flat) = true) (neg : Bool) (q : Q (.bl (if neg then !inD x l else inD x l)) H) :
    rIn X.K neg v (.ref a) H Q := by
  rw [Bool.and_eq_true] at z
  obtain ⟨h1, h2⟩ := inV_inD hx z.1 r z.2
  refine ⟨a, vs, rfl, by rw [hK]; exact hs, flat_dr hx z.1, h1, ?_⟩
  rw [h2]
  exact q
theorem ltS_eq (a b : Str) : decide (a.cps.toList < b.cps.toList) = ltS a b := rfl
theorem one_sign {a : Str} {c : Nat} (h : a.cps.toList = [c]) : a = ⟨#[c]⟩ := by
  obtain ⟨cps⟩ := a
  have h : cps.toList = [c] := h
  rw [show cps = #[c] from Array.toList_inj.mp h]
theorem so_cmp {G : Info} (hK : X.K = S.K) (hu : X.A.units + 64 < cLine) (hk : Hooks S G X) {op : CmpOp} (o : Ok S H B) (hx : Dr S B v x) (hy : Dr S B u y) (h : wpT (cmpD G.eqO op x y) (Aft S H B Q) E) : WO X (compareOp op) v u H Q := by
  unfold cmpD at h
  split at h
  · cases hx; cases hy; exact ⟨_, op_lt, _, _, rfl, rfl, Aft.here o h (.bl _)⟩
  · cases hx; cases hy; exact ⟨_, op_le, _, _, rfl, rfl, Aft.here o h (.bl _)⟩
  · cases hx; cases hy; exact ⟨_, op_gt, _, _, rfl, rfl, Aft.here o h (.bl _)⟩
  · cases hx; cases hy; exact ⟨_, op_ge, _, _, rfl, rfl, Aft.here o h (.bl _)⟩
  · cases hx; cases hy; exact ⟨_, op_lt_str, _, _, rfl, rfl, Aft.here o h (.bl _)⟩
  · cases hx; cases hy; exact ⟨_, op_le_str, _, _, rfl, rfl, Aft.here o h (.bl _)⟩
  · cases hx; cases hy; exact ⟨_, op_gt_str, _, _, rfl, rfl, Aft.here o h (.bl _)⟩
  · cases hx; cases hy; exact ⟨_, op_ge_str, _, _, rfl, rfl, Aft.here o h (.bl _)⟩
  · cases hx with
    | obj h1 => cases hy with
      | obj h2 => exact hk.eq o h1 h2 h
  · cases hx with
    | obj h1 => cases hy with
      | obj h2 => exact hk.ne o h1 h2 h
  · exact so_eq hK hu o hx hy h
  · exact so_ne hK hu o hx hy h
  · split at h
    · rename_i z
      cases hy with
      | lst h2 r2 => exact ⟨_, op_in_seq, so_in_core hK o hx (.inl (SqL.of (o.sub _ _ h2))) r2 z false (Aft.here o h (.bl _))⟩
    · exact h.elim
  · split at h
    · rename_i z
      cases hy with
      | tup h2 r2 => exact ⟨_, op_in_seq, so_in_core hK o hx (.inr (seqT_of o h2)) r2 z false (Aft.here o h (.bl _))⟩
    · exact h.elim
  · split at h
    · rename_i z
      cases hy with
      | lst h2 r2 => exact ⟨_, op_notIn_seq, so_in_core hK o hx (.inl (SqL.of (o.sub _ _ h2))) r2 z true (Aft.here o h (.bl _))⟩
    · exact h.elim
  · split at h
    · rename_i z
      cases hy with
      | tup h2 r2 => exact ⟨_, op_notIn_seq, so_in_core hK o hx (.inr (seqT_of o h2)) r2 z true (Aft.here o h (.bl _))⟩
    · exact h.elim
  · cases hx; cases hy
    split at h
    · rename_i c e
      rw [one_sign e]
      exact ⟨_, op_in_sign, c, _, rfl, rfl, Aft.here o h (.bl _)⟩
    · exact h.elim
  · cases hx; cases hy
    split at h
    · rename_i c e
      rw [one_sign e]
      exact ⟨_, op_notIn_sign, c, _, rfl, rfl, Aft.here o h (.bl _)⟩
    · exact h.elim
  · cases hy
    refine ⟨_, op_isN, rfl, ?_⟩
    rw [isNon_dr hx (fun c fs e => by subst e; cases hx with | obj h1 => obtain ⟨a, rfl⟩ := hk.ob h1; intro z; cases z)]
    exact Aft.here o h (.bl _)
  · cases hy
    refine ⟨_, op_notN, rfl, ?_⟩
    rw [isNon_dr hx (fun c fs e => by subst e; cases hx with | obj h1 => obtain ⟨a, rfl⟩ := hk.ob h1; intro z; cases z)]
    exact Aft.here o h (.bl _)
  · exact h.elim

/-! ### subscripts, slices -/
theorem ixZ_eq (n : Nat) (i : Int) : ixZ n i = ixN n i := rfl
theorem atZ_dr {vs : List V} {ds : List D} (r : DrAll S B vs ds) {i : Int} {d : D} (h : atZ ds i = some d) : ∃ v, atI vs i = some v ∧ Dr S B v d := by
  unfold atZ at h
  unfold atI
  rw [ixZ_eq, ← r.len] at h
  cases e : ixN vs.length i with
  | none => rw [e] at h; cases h
  | some j =>
    rw [e] at h
    exact r.at_ h
theorem wp_ofO {α : Type} {o : Option α} {P : α → Prop} (h : wpT (ofO o) P E) : ∃ a, o = some a ∧ P a := by
  cases o with
  | none => exact h.elim
  | some a => exact ⟨a, rfl, h⟩
theorem so_sub (hK : X.K = S.K) (o : Ok S H B) (hx : Dr S B v x) (hy : Dr S B u y) (h : wpT (subD x y) (Aft S H B Q) E) : WIx X v u H Q := by
  unfold subD at h
  split at h
  · cases hy
    cases hx with
    | lst h1 r1 =>
      obtain ⟨d, e, h⟩ := wp_ofO h
      obtain ⟨v', e', r'⟩ := atZ_dr r1 e
      exact ⟨_, ix_list, _, _, _, _, rfl, rfl, by rw [hK]; exact SqL.of (o.sub _ _ h1), e', Aft.here o h r'⟩
  · cases hy
    cases hx with
    | tup h1 r1 =>
      obtain ⟨d, e, h⟩ := wp_ofO h
      obtain ⟨v', e', r'⟩ := atZ_dr r1 e
      exact ⟨_, ix_tup, _, _, _, _, rfl, rfl, by rw [hK]; exact seqT_of o h1, e', Aft.here o h r'⟩
  · cases hy
    cases hx
    split at h
    · rename_i hz
      rw [wpT_bind] at h
      obtain ⟨c, e, h⟩ := wp_ofO h
      exact ⟨_, ix_str, _, _, c, rfl, rfl, most_le hz, e, Aft.here o h (.str _)⟩
    · exact h.elim
  · exact h.elim
theorem ixS_eq (n d : Nat) (i : Option Int) : ixS n d i = HT.sIx n d i := by cases i <;> rfl
theorem cut_dr {vs : List V} {ds : List D} (r : DrAll S B vs ds) (lo hi : Option Int) : DrAll S B (cutV vs lo hi) (cutL ds lo hi) := by
  unfold cutV cutL
  rw [ixS_eq, ixS_eq, ← r.len]
  exact (r.drop _).take _
theorem so_slice (hK : X.K = S.K) (o : Ok S H B) (hx : Dr S B v x) {lo hi : Option Int} (h : wpT (sliceD lo hi x) (Aft S H B Q) E) : WSl X v lo hi H Q := by
  unfold sliceD at h
  split at h
  · cases hx with
    | lst h1 r1 => exact ⟨_, sl_list, _, _, rfl, by rw [hK]; exact SqL.of (o.sub _ _ h1), Aft.newL o h (cut_dr r1 lo hi)⟩
  · cases hx with
    | tup h1 r1 =>
      refine ⟨_, sl_tupA, _, _, rfl, by rw [hK]; exact seqT_of o h1, fun e => ?_, fun _ => Aft.newT o h (cut_dr r1 lo hi)⟩
      refine Aft.here o h (.tup h1 ?_)
      have e2 : ∀ {l : List D}, DrAll S B _ l → cutL l lo hi = l := fun {l} r1 => by
        unfold cutL
        rw [ixS_eq, ixS_eq, ← r1.len, e.1, e.2, Nat.sub_zero, List.drop_zero, r1.len, List.take_length]
      rw [e2 r1]
      exact r1
  · cases hx
    split at h
    · rename_i z hz
      refine ⟨_, sl_str, z, rfl, most_le hz, ?_⟩
      have e : cutS z lo hi = ⟨(cutL z.cps.toList lo hi).toArray⟩ := by
        unfold cutS cutL
        rw [ixS_eq, ixS_eq]
        rfl
      rw [e]
      exact Aft.here o h (.str _)
    · exact h.elim
  · exact h.elim
end Ev

/-! Built-ins and methods. -/
namespace Ev
open PySem PySem.Spec L2 PyProof.Rows
variable {S : Sem0} {X : Cx} {H B : Hp} {Q : VK} {E : Str → List D → Prop}
/-! ### greatest, least, sorted -/
theorem maxI_spec : ∀ (l : List Int), l ≠ [] → maxI l ∈ l ∧ ∀ y ∈ l, y ≤ maxI l
  | [], h => absurd rfl h
  | [x], _ => ⟨by simp [maxI], fun y hy => by rw [List.mem_singleton.mp hy]; exact Int.le_refl _⟩
  | x :: y :: l, _ => by
    obtain ⟨h1, h2⟩ := maxI_spec (y :: l) (by simp)
    have e : maxI (x :: y :: l) = max x (maxI (y :: l)) := rfl
    rw [e]
    refine ⟨?_, fun z hz => ?_⟩
    · rcases Int.le_total x (maxI (y :: l)) with q | q
      · rw [Int.max_eq_right q]; exact List.mem_cons_of_mem _ h1
      · rw [Int.max_eq_left q]; exact List.mem_cons_self
    · rcases List.mem_cons.mp hz with rfl | hz
      · exact Int.le_max_left ..
      · exact Int.le_trans (h2 z hz) (Int.le_max_right ..)
theorem minI_spec : ∀ (l : List Int), l ≠ [] → minI l ∈ l ∧ ∀ y ∈ l, minI l ≤ y
  | [], h => absurd rfl h
  | [x], _ => ⟨by simp [minI], fun y hy => by rw [List.mem_singleton.mp hy]; exact Int.le_refl _⟩
  | x :: y :: l, _ => by
    obtain ⟨h1, h2⟩ := minI_spec (y :: l) (by simp)
    have e : minI (x :: y :: l) = min x (minI (y :: l)) := rfl
    rw [e]
    refine ⟨?_, fun z hz => ?_⟩
    · rcases Int.le_total x (minI (y :: l)) with q | q
      · rw [Int.min_eq_left q]; exact List.mem_cons_self
      · rw [Int.min_eq_right q]; exact List.mem_cons_of_mem _ h1
    · rcases List.mem_cons.mp hz with rfl | hz
      · exact Int.min_le_left ..
      · exact Int.le_trans (Int.min_le_right ..) (h2 z hz)
theorem insI_perm (x : Int) : ∀ l : List Int, (insI x l).Perm (x :: l)
  | [] => .refl _
  | y :: l => by
    unfold insI
    split
    · exact .refl _
    · exact ((insI_perm x l).cons y).trans (.swap x y l)
theorem sortI_perm : ∀ l : List Int, (sortI l).Perm l
  | [] => .refl _
  | x :: l => (insI_perm x (sortI l)).trans ((sortI_perm l).cons x)
theorem insI_sorted (x : Int) : ∀ l : List Int, l.Pairwise (· ≤ ·) → (insI x l).Pairwise (· ≤ ·)
  | [], _ => by simp [insI]
  | y :: l, h => by
    rw [List.pairwise_cons] at h
    unfold insI
    split
    · rename_i q
      refine List.pairwise_cons.mpr ⟨fun z hz => ?_, List.pairwise_cons.mpr h⟩
      rcases List.mem_cons.mp hz with rfl | hz
      · exact q
      · exact Int.le_trans q (h.1 z hz)
    · rename_i q
      refine List.pairwise_cons.mpr ⟨fun z hz => ?_, insI_sorted x l h.2⟩
      rcases List.mem_cons.mp ((insI_perm x l).mem_iff.mp hz) with rfl | hz
      · omega
      · exact h.1 z hz
theorem sortI_sorted : ∀ l : List Int, (sortI l).Pairwise (· ≤ ·)
  | [] => .nil
  | x :: l => insI_sorted x _ (sortI_sorted l)
theorem sortI_eq {l m : List Int} (p : m.Perm l) (h : m.Pairwise (· ≤ ·)) : m = sortI l :=
  (p.trans (sortI_perm l).symm).eq_of_pairwise (fun a b _ _ x y => Int.le_antisymm x y) h (sortI_sorted l)
/-! texts by their signs -/
theorem ltCps_iff : ∀ a b : List Nat, Spec.ltCps a b = true ↔ a < b
  | [], [] => by simp [Spec.ltCps]
  | [], _ :: _ => by simp [Spec.ltCps]
  | _ :: _, [] => by simp [Spec.ltCps]
  | x :: a, y :: b => by
    have ih := ltCps_iff a b
    simp only [Spec.ltCps, Bool.or_eq_true, decide_eq_true_eq, Bool.and_eq_true, beq_iff_eq, List.cons_lt_cons_iff, ih]
theorem ltS_iff (a b : Str) : ltS a b = true ↔ a.cps.toList < b.cps.toList := by unfold ltS; exact decide_eq_true_iff
def leS (a b : Str) : Prop := ltS b a = false
theorem leS_iff (a b : Str) : leS a b ↔ ¬ b.cps.toList < a.cps.toList := by
  unfold leS
  rw [← ltS_iff]
  cases ltS b a <;> simp
theorem leS_total (a b : Str) : leS a b ∨ leS b a := by
  rw [leS_iff, leS_iff]
  by_cases h : b.cps.toList < a.cps.toList
  · exact .inr (List.lt_asymm h)
  · exact .inl h
theorem leS_trans {a b c : Str} (h1 : leS a b) (h2 : leS b c) : leS a c := by
  rw [leS_iff] at *
  exact fun q => (List.le_trans (show a.cps.toList ≤ b.cps.toList from h1) (show b.cps.toList ≤ c.cps.toList from h2)) q
theorem leS_antisymm {a b : Str} (h1 : leS a b) (h2 : leS b a) : a = b := by
  rw [leS_iff] at *
  have := List.le_antisymm (show a.cps.toList ≤ b.cps.toList from h1) (show b.cps.toList ≤ a.cps.toList from h2)
  have e := Array.toList_inj.mp this
  cases a
  cases b
  exact congrArg Str.mk e
theorem insS_perm (x : Str) : ∀ l : List Str, (insS x l).Perm (x :: l)
  | [] => .refl _
  | y :: l => by
    unfold insS
    split
    · exact ((insS_perm x l).cons y).trans (.swap x y l)
    · exact .refl _
theorem sortS_perm : ∀ l : List Str, (sortS l).Perm l
  | [] => .refl _
  | x :: l => (insS_perm x (sortS l)).trans ((sortS_perm l).cons x)
theorem insS_sorted (x : Str) : ∀ l : List Str, l.Pairwise leS → (insS x l).Pairwise leS
  | [], _ => by simp [insS]
  | y :: l, h => by
    rw [List.pairwise_cons] at h
    unfold insS
    split
    · rename_i q
      have q' : leS y x := by
        rcases leS_total y x with z | z
        · exact z
        · unfold leS at z
          rw [q] at z
          cases z
      refine List.pairwise_cons.mpr ⟨fun z hz => ?_, insS_sorted x l h.2⟩
      rcases List.mem_cons.mp ((insS_perm x l).mem_iff.mp hz) with rfl | hz
      · exact q'
      · exact h.1 z hz
    · rename_i q
      have q' : leS x y := by
        unfold leS
        cases e : ltS y x with
        | false => rfl
        | true => exact absurd e q
      refine List.pairwise_cons.mpr ⟨fun z hz => ?_, List.pairwise_cons.mpr h⟩
      rcases List.mem_cons.mp hz with rfl | hz
      · exact q'
      · exact leS_trans q' (h.1 z hz)
theorem sortS_sorted : ∀ l : List Str, (sortS l).Pairwise leS
  | [] => .nil
  | x :: l => insS_sorted x _ (sortS_sorted l)
theorem sortS_eq {l m : List Str} (p : m.Perm l) (h : m.Pairwise leS) : m = sortS l :=
  (p.trans (sortS_perm l).symm).eq_of_pairwise (fun a b _ _ x y => leS_antisymm x y) h (sortS_sorted l)
theorem rising_pw : ∀ (l : List Str) (p : Str), risingS p l = true → (p :: l).Pairwise leS
  | [], p, _ => by simp
  | x :: l, p, h => by
    unfold risingS at h
    rw [Bool.and_eq_true] at h
    have ih := rising_pw l x h.2
    have e : leS p x := by
      rw [leS_iff]
      intro q
      rw [(ltCps_iff _ _).mpr q] at h
      cases h.1
    refine List.pairwise_cons.mpr ⟨fun z hz => ?_, ih⟩
    rcases List.mem_cons.mp hz with rfl | hz
    · exact e
    · exact leS_trans e ((List.pairwise_cons.mp ih).1 z hz)
theorem sortedS_pw : ∀ l : List Str, sortedS l = true → l.Pairwise leS
  | [], _ => .nil
  | x :: l, h => rising_pw l x h

/-! ### built-ins by name -/
def bltV (f : Str) : Option Value :=
  if f = "len" then some (.builtin "len") else if f = "int" then some (.type "int") else if f = "tuple" then some (.type "tuple") else if f = "list" then some (.type "list")
  else if f = "all" then some (.builtin "all") else if f = "any" then some (.builtin "any") else if f = "max" then some (.builtin "max") else if f = "min" then some (.builtin "min")
  else if f = "sum" then some (.builtin "sum") else if f = "sorted" then some (.builtin "sorted") else none
theorem boot_of {f : Str} {w : Value} (h : bltV f = some w) : bootBuiltins f = some w := by
  unfold bltV at h
  repeat' split at h
  all_goals first
    | (cases h; done)
    | (rename_i e; subst e; cases h; decide +kernel)
    | (subst_vars; cases h; decide +kernel)
theorem drAll_nil {vs : List V} (h : DrAll S B vs []) : vs = [] := by cases h; rfl
theorem drAll_one {vs : List V} {d : D} (h : DrAll S B vs [d]) : ∃ v, vs = [v] ∧ Dr S B v d := by
  cases h with
  | cons a r => cases r; exact ⟨_, rfl, a⟩
theorem drAll_two {vs : List V} {d e : D} (h : DrAll S B vs [d, e]) : ∃ v u, vs = [v, u] ∧ Dr S B v d ∧ Dr S B u e := by
  cases h with
  | cons a r => cases r with
    | cons b r => cases r; exact ⟨_, _, rfl, a, b⟩
theorem so_len {lenO : D → T D} (hK : X.K = S.K) (o : Ok S H B) {vs : List V} {ds : List D} (hd : DrAll S B vs ds)
    (hk : ∀ {v : V} {c : Str} {fs : List D}, S.OB B v c fs → wpT (lenO (.obj c fs)) (Aft S H B Q) E → WC X (.builtin "len") [v] H Q)
    (h : wpT (bltD lenO "len" ds) (Aft S H B Q) E) : WC X (.builtin "len") vs H Q := by
  unfold bltD at h
  rw [if_pos rfl] at h
  split at h
  · obtain ⟨v, rfl, hv⟩ := drAll_one hd
    cases hv with
    | lst h1 r1 =>
      rw [← r1.len] at h
      exact ⟨_, call_len_seq, _, _, rfl, .inl (SqL.of (o.sub _ _ h1)), Aft.here o h (.int _)⟩
  · obtain ⟨v, rfl, hv⟩ := drAll_one hd
    cases hv with
    | tup h1 r1 =>
      rw [← r1.len] at h
      exact ⟨_, call_len_seq, _, _, rfl, .inr (by rw [hK]; exact seqT_of o h1), Aft.here o h (.int _)⟩
  · obtain ⟨v, rfl, hv⟩ := drAll_one hd
    cases hv
    split at h
    · rename_i z
      exact ⟨_, call_len_str, _, rfl, most_le z, Aft.here o h (.int _)⟩
    · exact h.elim
  · obtain ⟨v, rfl, hv⟩ := drAll_one hd
    cases hv with
    | obj h1 => exact hk h1 h
  · exact h.elim
theorem so_blt {G : Info} (hK : X.K = S.K) (hc : X.calm = true) (hk : Hooks S G X) (o : Ok S H B) {vs : List V} {ds : List D} {f : Str} {w : Value} (hw : bltV f = some w) (hd : DrAll S B vs ds)
    (h : wpT (bltD G.lenO f ds) (Aft S H B Q) E) : WC X w vs H Q := by
  unfold bltV at hw
  split at hw
  · rename_i e
    subst e
    cases hw
    exact so_len hK o hd (fun ob h => hk.len o ob h) h
  rename_i e1
  unfold bltD at h
  rw [if_neg e1] at h
  split at hw
  · rename_i e
    rw [if_pos e] at h
    cases hw
    split at h
    · obtain ⟨v, rfl, hv⟩ := drAll_one hd
      cases hv
      exact ⟨_, call_int1, .inl ⟨_, rfl, Aft.here o h (.int _)⟩⟩
    · exact h.elim
  rename_i e2
  rw [if_neg e2] at h
  split at hw
  · rename_i e
    rw [if_pos e] at h
    cases hw
    split at h
    · obtain ⟨v, rfl, hv⟩ := drAll_one hd
      cases hv with
      | lst h1 r1 => exact ⟨_, call_tuple_of, _, _, rfl, .inl ⟨SqL.of (o.sub _ _ h1), Aft.newT o h r1⟩⟩
    · obtain ⟨v, rfl, hv⟩ := drAll_one hd
      cases hv with
      | tup h1 r1 => exact ⟨_, call_tuple_of, _, _, rfl, .inr ⟨by rw [hK]; exact seqT_of o h1, Aft.here o h (.tup h1 r1)⟩⟩
    · exact h.elim
  rename_i e3
  rw [if_neg e3] at h
  split at hw
  · rename_i e
    rw [if_pos e] at h
    cases hw
    split at h
    · obtain ⟨v, rfl, hv⟩ := drAll_one hd
      cases hv with
      | lst h1 r1 => exact ⟨_, call_list_of, _, _, rfl, .inl (SqL.of (o.sub _ _ h1)), Aft.newL o h r1⟩
    · obtain ⟨v, rfl, hv⟩ := drAll_one hd
      cases hv with
      | tup h1 r1 => exact ⟨_, call_list_of, _, _, rfl, .inr (by rw [hK]; exact seqT_of o h1), Aft.newL o h r1⟩
    · exact h.elim
  rename_i e4
  rw [if_neg e4] at h
  split at hw
  · rename_i e
    rw [if_pos e] at h
    cases hw
    split at h
    · obtain ⟨v, rfl, hv⟩ := drAll_one hd
      rw [wpT_bind] at h
      obtain ⟨bs, eb, h⟩ := wp_ofO h
      cases hv with
      | lst h1 r1 => exact ⟨_, cr_all hc, _, bs, rfl, by rw [hK, ← r1.bls eb]; exact SqL.of (o.sub _ _ h1), Aft.here o h (.bl _)⟩
    · exact h.elim
  rename_i e5
  rw [if_neg e5] at h
  split at hw
  · rename_i e
    rw [if_pos e] at h
    cases hw
    split at h
    · obtain ⟨v, rfl, hv⟩ := drAll_one hd
      rw [wpT_bind] at h
      obtain ⟨bs, eb, h⟩ := wp_ofO h
      cases hv with
      | lst h1 r1 => exact ⟨_, cr_any hc, _, bs, rfl, by rw [hK, ← r1.bls eb]; exact SqL.of (o.sub _ _ h1), Aft.here o h (.bl _)⟩
    · exact h.elim
  rename_i e6
  rw [if_neg e6] at h
  split at hw
  · rename_i e
    rw [if_pos e] at h
    cases hw
    split at h
    · obtain ⟨v, u, rfl, hv, hu⟩ := drAll_two hd
      cases hv
      cases hu
      exact ⟨_, call_max2 hc, _, _, rfl, Aft.here o h (.int _)⟩
    · obtain ⟨v, rfl, hv⟩ := drAll_one hd
      split at h
      · exact h.elim
      · rename_i ne
        rw [wpT_bind] at h
        obtain ⟨ns, en, h⟩ := wp_ofO h
        cases hv with
        | lst h1 r1 =>
          have evs := r1.ints en
          have nn : ns ≠ [] := fun z => by
            subst z
            rw [List.map_nil] at evs
            subst evs
            cases r1
            exact ne rfl
          refine ⟨_, cr_max hc, _, ns, rfl, by rw [hK, ← evs]; exact SqL.of (o.sub _ _ h1), by cases ns with | nil => exact absurd rfl nn | cons => exact Nat.succ_pos _, fun m hm hx => ?_⟩
          obtain ⟨k1, k2⟩ := maxI_spec ns nn
          rw [Int.le_antisymm (k2 m hm) (hx _ k1)]
          exact Aft.here o h (.int _)
    · exact h.elim
  rename_i e7
  rw [if_neg e7] at h
  split at hw
  · rename_i e
    rw [if_pos e] at h
    cases hw
    split at h
    · obtain ⟨v, u, rfl, hv, hu⟩ := drAll_two hd
      cases hv
      cases hu
      exact ⟨_, call_min2 hc, _, _, rfl, Aft.here o h (.int _)⟩
    · obtain ⟨v, rfl, hv⟩ := drAll_one hd
      split at h
      · exact h.elim
      · rename_i ne
        rw [wpT_bind] at h
        obtain ⟨ns, en, h⟩ := wp_ofO h
        cases hv with
        | lst h1 r1 =>
          have evs := r1.ints en
          have nn : ns ≠ [] := fun z => by
            subst z
            rw [List.map_nil] at evs
            subst evs
            cases r1
            exact ne rfl
          refine ⟨_, cr_min hc, _, ns, rfl, by rw [hK, ← evs]; exact SqL.of (o.sub _ _ h1), by cases ns with | nil => exact absurd rfl nn | cons => exact Nat.succ_pos _, fun m hm hx => ?_⟩
          obtain ⟨k1, k2⟩ := minI_spec ns nn
          rw [Int.le_antisymm (hx _ k1) (k2 m hm)]
          exact Aft.here o h (.int _)
    · exact h.elim
  rename_i e8
  rw [if_neg e8] at h
  split at hw
  · rename_i e
    rw [if_pos e] at h
    cases hw
    split at h
    · obtain ⟨v, rfl, hv⟩ := drAll_one hd
      rw [wpT_bind] at h
      obtain ⟨ns, en, h⟩ := wp_ofO h
      cases hv with
      | lst h1 r1 => exact ⟨_, cr_sum hc, _, ns, rfl, by rw [hK, ← r1.ints en]; exact SqL.of (o.sub _ _ h1), Aft.here o h (.int _)⟩
    · exact h.elim
  rename_i e9
  rw [if_neg e9] at h
  split at hw
  · rename_i e
    rw [if_pos e] at h
    cases hw
    split at h
    · obtain ⟨v, rfl, hv⟩ := drAll_one hd
      cases hv with
      | lst h1 r1 =>
        split at h
        · rename_i ns en
          split at h
          · refine ⟨_, cr_sortedI, _, ns, rfl, by rw [hK, ← r1.ints en]; exact SqL.of (o.sub _ _ h1), fun ns' p hp hs hn => ?_⟩
            rw [sortI_eq hp hs]
            exact Aft.newL o h (drAll_ints _) p hn
          · exact h.elim
        · split at h
          · rename_i zs ez
            split at h
            · rename_i few
              refine ⟨_, cr_sortedS, _, zs, rfl, by rw [hK, ← r1.strs ez]; exact SqL.of (o.sub _ _ h1), few, fun ns' p hp hs hn => ?_⟩
              rw [sortS_eq hp (sortedS_pw _ hs)]
              exact Aft.newL o h (drAll_strs _) p hn
            · exact h.elim
          · exact h.elim
    · exact h.elim
  · cases hw
/-- a name that is no built-in gives nothing -/
theorem blt_none {lenO : D → T D} {f : Str} {ds : List D} (h : bltV f = none) : bltD lenO f ds = .fail := by
  unfold bltV at h
  unfold bltD
  repeat' split at h
  all_goals first | (cases h; done) | skip
  all_goals (repeat (first | rw [if_neg (by assumption)] | rfl))
def WM (X : Cx) (id : String) : V → List V → Hp → VK → Prop := fun x xs H Q => ∃ r, MtR X id r ∧ r x xs H Q
theorem mtW {X : Cx} {id : String} : MtR X id (WM X id) := fun pins s σ H x xs v us Q I rx rs ⟨r, h, q⟩ => h pins s σ H x xs v us Q I rx rs q
/-- the method m of some data: its type's name, its own -/
def mthV (o : D) (m : Str) : Option (String × String) := match o with
  | .str _ => if m = "join" then some ("str", "str.join") else none
  | _ => none
theorem so_mth {T id : String} (hK : X.K = S.K) (o : Ok S H B) {v : V} {d : D} (hv : Dr S B v d) {m : Str} (hm : mthV d m = some (T, id)) {vs : List V} {ds : List D} (hd : DrAll S B vs ds) (h : wpT (mthD d m ds) (Aft S H B Q) E) : WM X id v vs H Q := by
  unfold mthV at hm
  unfold mthD at h
  split at hm
  · rename_i z
    cases hv
    have h : wpT (if m = "join" then _ else _) _ _ := h
    split at hm
    · rename_i e
      rw [if_pos e] at h
      cases hm
      split at h
      · obtain ⟨u, rfl, hu⟩ := drAll_one hd
        rw [wpT_bind] at h
        obtain ⟨zs, ez, h⟩ := wp_ofO h
        split at h
        · rename_i hz
          cases hu with
          | lst h1 r1 =>
            refine ⟨_, mt_join, _, _, zs, rfl, rfl, .inl (by rw [hK, ← r1.strs ez]; exact SqL.of (o.sub _ _ h1)), Nat.le_trans (m := most) hz (by decide), ?_⟩
            rw [TL.join_eq]
            exact Aft.here o h (.str _)
        · exact h.elim
      · obtain ⟨u, rfl, hu⟩ := drAll_one hd
        rw [wpT_bind] at h
        obtain ⟨zs, ez, h⟩ := wp_ofO h
        split at h
        · rename_i hz
          cases hu with
          | tup h1 r1 =>
            refine ⟨_, mt_join, _, _, zs, rfl, rfl, .inr (by rw [hK, ← r1.strs ez]; exact seqT_of o h1), Nat.le_trans (m := most) hz (by decide), ?_⟩
            rw [TL.join_eq]
            exact Aft.here o h (.str _)
        · exact h.elim
      · exact h.elim
    · cases hm
  · cases hm
theorem hasM_some {d : D} {m : Str} (h : hasM d m = true) : ∃ T id, mthV d m = some (T, id) := by
  cases d with
  | str a =>
    have h : decide (m = "join") = true := h
    exact ⟨_, _, if_pos (of_decide_eq_true h)⟩
  | _ => cases h
theorem so_ty {T id : String} (hK : X.K = S.K) (o : Ok S H B) {v : V} {d : D} (hv : Dr S B v d) {m : Str} (hm : mthV d m = some (T, id)) : tyV X.K T v H := by
  unfold mthV at hm
  split at hm
  · split at hm
    · cases hm
      cases hv
      rfl
    · cases hm
  · cases hm
end Ev

/-! Expressions: what the reader of pure Python tells of them holds of their runs. -/
namespace Ev
open PySem PySem.Spec L2 PyProof.Rows
/-! ### the weakest readings -/
def W (X : Cx) (e : Expr) : TE := fun σ H Q => ∃ t, PE X e t ∧ t σ H Q
theorem peW {X : Cx} {e : Expr} : PE X e (W X e) := ⟨fun pins s σ H Q I ⟨t, h, q⟩ => h.run pins s σ H Q I q⟩
def WT (X : Cx) (e : Expr) : TT := fun σ H Q => ∃ t, PT X e t ∧ t σ H Q
theorem ptW {X : Cx} {e : Expr} : PT X e (WT X e) := ⟨fun pins s σ H Q I ⟨t, h, q⟩ => h.run pins s σ H Q I q⟩
def WW (X : Cx) (e : Expr) : TT := fun σ H Q => ∃ t, PW X e t ∧ t σ H Q
theorem pwW {X : Cx} {e : Expr} : PW X e (WW X e) := ⟨fun wh pins s σ H Q I ⟨t, h, q⟩ => h.run wh pins s σ H Q I q⟩
def WA (X : Cx) (es : List Expr) : TA := fun σ H Q => ∃ t, PA X es t ∧ t σ H Q
theorem paW {X : Cx} {es : List Expr} : PA X es (WA X es) := ⟨fun pos pins s σ H Q I ⟨t, h, q⟩ => h.run pos pins s σ H Q I q⟩
def WP (X : Cx) (e : Option Expr) : TO := fun σ H Q => ∃ t, PO X e t ∧ t σ H Q
theorem poW {X : Cx} {e : Option Expr} : PO X e (WP X e) := ⟨fun pins s σ H Q I ⟨t, h, q⟩ => h.run pins s σ H Q I q⟩
def WI (X : Cx) (tg e : Expr) : TI := fun σ H R => ∃ t, PI X tg e t ∧ t σ H R
theorem piW {X : Cx} {tg e : Expr} : PI X tg e (WI X tg e) := ⟨fun pins s σ H R I ⟨t, h, q⟩ => h.run pins s σ H R I q⟩
def WG (X : Cx) (tg : Expr) : TG := fun v σ H Q => ∃ t, PG X tg t ∧ t v σ H Q
theorem pgW {X : Cx} {tg : Expr} : PG X tg (WG X tg) := ⟨fun pins s σ H v u Q I r ⟨t, h, q⟩ => h.run pins s σ H v u Q I r q⟩
def WGs (X : Cx) (tg : List Expr) : TGs := fun v σ H Q => ∃ t, PGs X tg t ∧ t v σ H Q
theorem pgsW {X : Cx} {tg : List Expr} : PGs X tg (WGs X tg) := ⟨fun pins s σ H v u Q I r ⟨t, h, q⟩ => h.run pins s σ H v u Q I r q⟩
def WF (X : Cx) (ifs : List Expr) : TT := fun σ H Q => ∃ t, PTs X ifs t ∧ t σ H Q
theorem pfW {X : Cx} {ifs : List Expr} : PTs X ifs (WF X ifs) := ⟨fun pins s σ H Q I ⟨t, h, q⟩ => h.run pins s σ H Q I q⟩

/-! ### forms -/
theorem star_cons {e : Expr} {es : List Expr} {env : Env} (h : isStar e = false) : starEach (e :: es) env = (false, eval e env) :: starEach es env := by
  cases e <;> first | rfl | cases h
theorem star_any {env : Env} {pos : Pos} : ∀ {es : List Expr}, es.any isStar = false → (backTo pos (starEach es env)).any (·.1) = false
  | [], _ => rfl
  | e :: es, h => by
    rw [List.any_cons, Bool.or_eq_false_iff] at h
    rw [star_cons h.1]
    show (false || (backTo pos (starEach es env)).any (·.1)) = false
    rw [star_any h.2]
    rfl
theorem star_all {env : Env} {pos : Pos} : ∀ {es : List Expr}, es.any isStar = false → (backTo pos (starEach es env)).all (fun x => !x.1) = true
  | [], _ => rfl
  | e :: es, h => by
    rw [List.any_cons, Bool.or_eq_false_iff] at h
    rw [star_cons h.1]
    show (!false && (backTo pos (starEach es env)).all (fun x => !x.1)) = true
    rw [star_all h.2]
    rfl
theorem behind_set {op : CmpOp} {b : Expr} (h : isSet b = false) : behindInMarks op b = false := by
  cases b <;> first | rfl | cases h
def isCall : Expr → Bool
  | .Call _ _ _ _ => true
  | _ => false
theorem base_call {o : Expr} {name : Str} {env : Env} (h : isCall o = false) : attributeBase o name env (eval o env) = eval o env := by
  cases o <;> first | rfl | cases h
theorem plain_ix {b : Expr} (h : isSlice b = false) : PlainIx b := fun o i => by
  cases b <;> first | rfl | cases h
theorem plain_true {e : Expr} {env : Env} (h : plainT e = true) : ∀ whole, isTrue e env whole = (do let v ← whole; standAt e.pos; holding [v] (truthy v)) := fun whole => by
  cases e with
  | UnaryOp op a p => cases op <;> first | rfl | cases h
  | BoolOp op a p => cases h
  | IfExp op a b p => cases h
  | Compare op a b p => cases h
  | _ => rfl
theorem fold_set {e : Expr} {env : Env} (h : isSet e = false) : ∀ x, foldedSetIterable e env x = pure x := fun x => by
  cases e <;> first | rfl | cases h

/-! ### where code stands -/
structure CxIs (S : Sem0) (P : Program) (w : World) (mg : Str → Option Value) (base : Heap) (k : Nat) (C : Sc0) (E : XK) (X : Cx) : Prop where
  prog : X.prog = P
  wo : X.w = w
  K : X.K = S.K
  mg : X.mg = mg
  base : X.base = base
  N : X.N = C.N
  nd : C.N.Nodup
  sc : X.env.scope = C.sc
  fn : ∀ x, C.fn x = true → X.fn x = true
  calm : X.calm = true
  room : Room k X.A
  pass : Passes (L2.CX P w) X E
  tk : Takes X (fun cls d _ H => E cls d H)
  po : PassesOwn (model X.prog X.w) X.A X.env X.xe
def AftE (S : Sem0) (H B : Hp) (E : XK) : Str → List D → Prop := fun c fs => ∀ cls oe H' B', Grow S H B H' B' → S.EX H' cls oe c fs → E cls oe H'
theorem AftE.grow {S : Sem0} {H B H1 B1 : Hp} {E : XK} (g : Grow S H B H1 B1) {c : Str} {fs : List D} (h : AftE S H B E c fs) : AftE S H1 B1 E c fs := fun cls oe H' B' g' x => h cls oe H' B' (g.trans g') x
theorem Aft.grow {S : Sem0} {H B H1 B1 : Hp} {Q : VK} (g : Grow S H B H1 B1) {d : D} (h : Aft S H B Q d) : Aft S H1 B1 Q d := fun v H' B' g' r => h v H' B' (g.trans g') r
/-- an iteration J yields the data ds, one by one -/
def OverD (S : Sem0) (J : It) (B : Hp) (ds : List D) : Prop := ∀ (i : Nat) (H1 B1 : Hp), Same B B1 → Ok S H1 B1 →
  (i < ds.length → J.go i H1) ∧ (ds.length ≤ i → J.stop i H1) ∧ ∀ v H2, i < ds.length → J.yld i H1 v H2 → ∃ B2 d, Grow S H1 B1 H2 B2 ∧ ds[i]? = some d ∧ Dr S B2 v d
/-- the own defs keep what call tells -/
def Fns (S : Sem0) (G : Info) (P : Program) (w : World) (mg : Str → Option Value) (base : Heap) (k : Nat) (call : Str → List D → T D) : Prop :=
  ∀ f, G.own f = true → ∃ (a : Addr) (fd : FuncData) (ps : List Str) (sp : Sp), FnOk P w S.K mg base (L2.CX P w) k a fd ps sp ∧ mg f = some (.ref a) ∧ PySem.W.keepIn S.K (.ref a) = true ∧ Binds S.K fd ps [] ∧
    ∀ vs ds H B Q E, Ok S H B → DrAll S B vs ds → wpT (call f ds) (Aft S H B Q) (AftE S H B E) → sp vs H Q E
/-- what is told of an expression holds -/
def SndE (S : Sem0) (X : Cx) (E : XK) (e : Expr) (ρ : List Sl) (t : T D) : Prop :=
  ∀ (H0 B0 H B : Hp) (σ : L2.St) (Q : VK), Rep S H0 B0 ρ σ H B → wpT t (Aft S H B Q) (AftE S H B E) → W X e σ H Q
def SndI (S : Sem0) (X : Cx) (E : XK) (tg e : Expr) (ρ : List Sl) (t : T (List D)) : Prop :=
  ∀ (H0 B0 H B : Hp) (σ : L2.St) (R : It → Hp → Prop), Rep S H0 B0 ρ σ H B → wpT t (fun ds => ∀ J H' B', Grow S H B H' B' → OverD S J B' ds → R J H') (AftE S H B E) → WI X tg e σ H R
/-- further forms are read soundly -/
def Spc (S : Sem0) (P : Program) (w : World) (mg : Str → Option Value) (base : Heap) (k : Nat) (spc : Scope → Expr → Option ((Expr → T D) → T D)) : Prop :=
  ∀ (C : Sc0) (E : XK) (X : Cx), CxIs S P w mg base k C E X → ∀ (e : Expr) (f : (Expr → T D) → T D), spc C.sc e = some f → ∀ (ρ : List Sl) (fe : Expr → T D), (∀ a, SndE S X E a ρ (fe a)) → SndE S X E e ρ (f fe)
/-- further things are walked soundly -/
def Spi (S : Sem0) (P : Program) (w : World) (mg : Str → Option Value) (base : Heap) (k : Nat) (spi : Scope → Expr → Expr → Option ((Expr → T D) → T (List D))) : Prop :=
  ∀ (C : Sc0) (E : XK) (X : Cx), CxIs S P w mg base k C E X → ∀ (tg e : Expr) (f : (Expr → T D) → T (List D)), spi C.sc tg e = some f → ∀ (ρ : List Sl) (fe : Expr → T D), (∀ a, SndE S X E a ρ (fe a)) → SndI S X E tg e ρ (f fe)
/-- what is known of the text: its own defs keep what call tells; its constants; the built-in names that stay -/
structure Text (S : Sem0) (G : Info) (P : Program) (w : World) (mg : Str → Option Value) (base : Heap) (k : Nat) (call : Str → List D → T D) : Prop where
  fns : Fns S G P w mg base k call
  spc : Spc S P w mg base k (G.spc call)
  spi : Spi S P w mg base k (G.spi call)
  cst : ∀ x d, G.cst x = some d → ∃ (v : V) (u : Value), mg x = some u ∧ RelV v u ∧ ∀ B, Dr S B v d
  blt : ∀ f w, bltV f = some w → mg f = none
  rng : mg "range" = none
  enm : mg "enumerate" = none
  zip : mg "zip" = none
  ob : ∀ C E X, CxIs S P w mg base k C E X → Hooks S G X
  attE : ∀ (f : Str) (d : D) (P' : D → Prop) (E1 : Str → List D → Prop), wpT (G.att f d) P' E1 → wpT (G.att f d) P' (fun _ _ => False)
  att : ∀ C E X, CxIs S P w mg base k C E X → ∀ (o : Expr) (f : Str) (pos : Pos) (σ : L2.St) (H : Hp) (Q : VK), G.attN f = true → isCall o = false →
    W X o σ H (fun v H1 => ∃ B1 d, Ok S H1 B1 ∧ Dr S B1 v d ∧ wpT (G.att f d) (Aft S H1 B1 Q) (fun _ _ => False)) → W X (.Attribute o f pos) σ H Q

section
variable {S : Sem0} {G : Info} {P : Program} {w : World} {mg : Str → Option Value} {base : Heap} {k : Nat} {call : Str → List D → T D} {C : Sc0} {E : XK} {X : Cx}
theorem CxIs.hu (c : CxIs S P w mg base k C E X) : X.A.units + 64 < cLine := c.room.units
theorem CxIs.Nn (c : CxIs S P w mg base k C E X) : X.N.Nodup := c.N ▸ c.nd
def SndT (S : Sem0) (X : Cx) (E : XK) (e : Expr) (ρ : List Sl) (t : T Bool) : Prop :=
  ∀ (H0 B0 H B : Hp) (σ : L2.St) (Q : Bool → Hp → Prop), Rep S H0 B0 ρ σ H B → wpT t (fun b => ∀ H' B', Grow S H B H' B' → Q b H') (AftE S H B E) → WT X e σ H Q
def SndW (S : Sem0) (X : Cx) (E : XK) (e : Expr) (ρ : List Sl) (t : T Bool) : Prop :=
  ∀ (H0 B0 H B : Hp) (σ : L2.St) (Q : Bool → Hp → Prop), Rep S H0 B0 ρ σ H B → wpT t (fun b => ∀ H' B', Grow S H B H' B' → Q b H') (AftE S H B E) → WW X e σ H Q
def SndO (S : Sem0) (X : Cx) (E : XK) (e : Option Expr) (ρ : List Sl) (t : T (Option Int)) : Prop :=
  ∀ (H0 B0 H B : Hp) (σ : L2.St) (Q : Option Int → Hp → Prop), Rep S H0 B0 ρ σ H B → wpT t (fun b => ∀ H' B', Grow S H B H' B' → Q b H') (AftE S H B E) → WP X e σ H Q
def SndA (S : Sem0) (X : Cx) (E : XK) (es : List Expr) (ρ : List Sl) (t : T (List D)) : Prop :=
  ∀ (H0 B0 H B : Hp) (σ : L2.St) (Q : List V → Hp → Prop), Rep S H0 B0 ρ σ H B → wpT t (fun ds => ∀ vs H' B', Grow S H B H' B' → DrAll S B' vs ds → Q vs H') (AftE S H B E) → WA X es σ H Q
/-- one behind another -/
theorem sndE_bind {e : Expr} {ρ : List Sl} {t : T D} {f : D → T D} {H0 B0 H B : Hp} {σ : L2.St} {Q Q' : VK} (h : SndE S X E e ρ t) (p : Rep S H0 B0 ρ σ H B) (hw : wpT (t.bind f) (Aft S H B Q) (AftE S H B E))
    (hq : ∀ d v H' B', Grow S H B H' B' → Dr S B' v d → wpT (f d) (Aft S H' B' Q) (AftE S H' B' E) → Q' v H') : W X e σ H Q' := by
  rw [wpT_bind] at hw
  exact h H0 B0 H B σ Q' p (wpT_mono hw (fun d hd v H' B' g r => hq d v H' B' g r (wpT_mono hd (fun _ a => a.grow g) fun _ _ a => a.grow g)) fun _ _ a => a)
/-- .. with another kind of end -/
theorem sndE_then {α : Type} {e : Expr} {ρ : List Sl} {t : T D} {f : D → T α} {H0 B0 H B : Hp} {σ : L2.St} {P' : α → Prop} {Q' : VK} (h : SndE S X E e ρ t) (p : Rep S H0 B0 ρ σ H B) (hw : wpT (t.bind f) P' (AftE S H B E))
    (hq : ∀ d v H' B', Grow S H B H' B' → Dr S B' v d → wpT (f d) P' (AftE S H' B' E) → Q' v H') : W X e σ H Q' := by
  rw [wpT_bind] at hw
  exact h H0 B0 H B σ Q' p (wpT_mono hw (fun d hd v H' B' g r => hq d v H' B' g r (wpT_mono hd (fun _ a => a) fun _ _ a => a.grow g)) fun _ _ a => a)
theorem sndT_then {α : Type} {e : Expr} {ρ : List Sl} {t : T Bool} {f : Bool → T α} {H0 B0 H B : Hp} {σ : L2.St} {P' : α → Prop} {Q' : Bool → Hp → Prop} (h : SndT S X E e ρ t) (p : Rep S H0 B0 ρ σ H B) (hw : wpT (t.bind f) P' (AftE S H B E))
    (hq : ∀ b H' B', Grow S H B H' B' → wpT (f b) P' (AftE S H' B' E) → Q' b H') : WT X e σ H Q' := by
  rw [wpT_bind] at hw
  exact h H0 B0 H B σ Q' p (wpT_mono hw (fun d hd H' B' g => hq d H' B' g (wpT_mono hd (fun _ a => a) fun _ _ a => a.grow g)) fun _ _ a => a)
theorem sndA_then {α : Type} {es : List Expr} {ρ : List Sl} {t : T (List D)} {f : List D → T α} {H0 B0 H B : Hp} {σ : L2.St} {P' : α → Prop} {Q' : List V → Hp → Prop} (h : SndA S X E es ρ t) (p : Rep S H0 B0 ρ σ H B) (hw : wpT (t.bind f) P' (AftE S H B E))
    (hq : ∀ ds vs H' B', Grow S H B H' B' → DrAll S B' vs ds → wpT (f ds) P' (AftE S H' B' E) → Q' vs H') : WA X es σ H Q' := by
  rw [wpT_bind] at hw
  exact h H0 B0 H B σ Q' p (wpT_mono hw (fun d hd vs H' B' g r => hq d vs H' B' g r (wpT_mono hd (fun _ a => a) fun _ _ a => a.grow g)) fun _ _ a => a)
theorem wp_grow {α : Type} {t : T α} {H B H1 B1 : Hp} {P' : α → Prop} (g : Grow S H B H1 B1) (h : wpT t P' (AftE S H B E)) : wpT t P' (AftE S H1 B1 E) := wpT_mono h (fun _ a => a) fun _ _ a => a.grow g
theorem wp_aft {t : T D} {H B H1 B1 : Hp} {Q : VK} (g : Grow S H B H1 B1) {E1 : Str → List D → Prop} (h : wpT t (Aft S H B Q) E1) : wpT t (Aft S H1 B1 Q) E1 := wpT_mono h (fun _ a => a.grow g) fun _ _ a => a
/-- arguments -/
theorem snd_args {ρ : List Sl} {f : Expr → T D} : ∀ {es : List Expr}, es.any isStar = false → (∀ e ∈ es, SndE S X E e ρ (f e)) → SndA S X E es ρ (mapT f es)
  | [], _, _ => fun H0 B0 H B σ Q p h => ⟨_, pa_nil, h [] H B (Grow.refl p.ok) .nil⟩
  | e :: es, hs, hf => fun H0 B0 H B σ Q p h => by
    rw [List.any_cons, Bool.or_eq_false_iff] at hs
    refine ⟨_, pa_cons peW paW (star_cons hs.1), ?_⟩
    refine sndE_then (hf e List.mem_cons_self) p h fun d v H1 B1 g1 r1 h1 => ?_
    refine sndA_then (snd_args hs.2 fun e' he => hf e' (List.mem_cons_of_mem _ he)) (p.grow g1) h1 fun ds vs H2 B2 g2 r2 h2 => ?_
    exact h2 (v :: vs) H2 B2 (g1.trans g2) (.cons (r1.mono g2.bb) r2)

/-! ### names -/
theorem ixOf_at {x : Str} : ∀ {N : List Str} {i : Nat}, ixOf x N = some i → N[i]? = some x
  | [], i, h => by cases h
  | y :: l, i, h => by
    unfold ixOf at h
    split at h
    · rename_i e
      cases h
      rw [e]
      rfl
    · cases e : ixOf x l with
      | none => rw [e] at h; cases h
      | some j =>
        rw [e] at h
        cases h
        show l[j]? = some x
        exact ixOf_at e
theorem vis_of {sc : Scope} {x : Str} (h : isVis sc x = true) : Vis sc x := by
  unfold isVis at h
  split at h
  · exact .inl (by assumption)
  · exact .inr (.inl (by assumption))
  · exact .inr (.inr (by assumption))
  · cases h
theorem glo_of {sc : Scope} {x : Str} (h : isGlo sc x = true) : sc.names.lookup x = some .globalImplicit := by
  unfold isGlo at h
  split at h
  · assumption
  · cases h
theorem CxIs.glo (c : CxIs S P w mg base k C E X) {x : Str} (h : isGlo C.sc x = true) : Gl X x := by
  show X.env.scope.names.lookup x = some .globalImplicit
  rw [c.sc]
  exact glo_of h
theorem snd_name (c : CxIs S P w mg base k C E X) (tx : Text S G P w mg base k call) {x : Str} {pos : Pos} {ρ : List Sl} (hd : dbg x = false) : SndE S X E (.Name x pos) ρ (nameD G C ρ x) := by
  unfold dbg at hd
  rw [Bool.or_eq_false_iff] at hd
  intro H0 B0 H B σ Q p h
  unfold nameD at h
  split at h
  · rename_i hv
    split at h
    · rename_i i hi
      unfold slotD at h
      split at h
      · rename_i d hd2
        obtain ⟨v, e, r⟩ := p.dat i d hd2
        exact ⟨_, pe_var (i := i) (by rw [c.N]; exact ixOf_at hi) (by rw [c.sc]; exact vis_of hv) hd.1 hd.2, v, e, Aft.here p.ok h r⟩
      · exact h.elim
    · exact h.elim
  · split at h
    · rename_i hg
      obtain ⟨d, e, h⟩ := wp_ofO h
      obtain ⟨v, u, hm, rv, hr⟩ := tx.cst x d e
      exact ⟨_, pe_glob (c.glo hg) (by rw [c.mg]; exact hm) rv hd.1, Aft.here p.ok h (hr _)⟩
    · exact h.elim
theorem snd_const (c : CxIs S P w mg base k C E X) {cc : Const} {j : Nat} {pos : Pos} {ρ : List Sl} : SndE S X E (.Constant cc j pos) ρ (match cc with
      | .int i => .ret (.int i)
      | .bool b => .ret (.bl b)
      | .none => .ret .non
      | .str s => .ret (.str s)
      | _ => .fail) := fun H0 B0 H B σ Q p h => by
  split at h
  · exact ⟨_, pe_int, Aft.here p.ok h (.int _)⟩
  · exact ⟨_, pe_bl, Aft.here p.ok h (.bl _)⟩
  · exact ⟨_, pe_non, Aft.here p.ok h .non⟩
  · exact ⟨_, pe_str, Aft.here p.ok h (.str _)⟩
  · exact h.elim

/-! ### operators -/
theorem snd_bin (c : CxIs S P w mg base k C E X) {a b : Expr} {op : Operator} {pos : Pos} {ρ : List Sl} {ta tb : T D} (ha : SndE S X E a ρ ta) (hb : SndE S X E b ρ tb) : SndE S X E (.BinOp a op b pos) ρ (ta.bind fun x => tb.bind fun y => binD op x y) := fun H0 B0 H B σ Q p h => by
  refine ⟨_, pe_op opW peW peW, ?_⟩
  refine sndE_bind ha p h fun x v H1 B1 g1 r1 h1 => ?_
  refine sndE_bind hb (p.grow g1) h1 fun y u H2 B2 g2 r2 h2 => ?_
  exact so_bin c.K (p.grow (g1.trans g2)).ok (r1.mono g2.bb) r2 h2
theorem wp_asBl {d : D} {P' : Bool → Prop} {E1 : Str → List D → Prop} (h : wpT (asBl d) P' E1) : ∃ b, d = .bl b ∧ P' b := by
  cases d <;> first | exact ⟨_, rfl, h⟩ | exact h.elim
theorem wp_asInt {d : D} {P' : Int → Prop} {E1 : Str → List D → Prop} (h : wpT (asInt d) P' E1) : ∃ b, d = .int b ∧ P' b := by
  cases d <;> first | exact ⟨_, rfl, h⟩ | exact h.elim
theorem dr_bl {B : Hp} {v : V} {b : Bool} (h : Dr S B v (.bl b)) : v = .bl b := by cases h; rfl
theorem dr_int {B : Hp} {v : V} {b : Int} (h : Dr S B v (.int b)) : v = .int b := by cases h; rfl
theorem snd_not (c : CxIs S P w mg base k C E X) {a : Expr} {pos : Pos} {ρ : List Sl} {ta : T D} (ha : SndE S X E a ρ ta) : SndE S X E (.UnaryOp .Not a pos) ρ (ta.bind fun x => (asBl x).bind fun b => .ret (.bl (!b))) := fun H0 B0 H B σ Q p h => by
  refine ⟨_, pe_not peW, ?_⟩
  refine sndE_bind ha p h fun x v H1 B1 g1 r1 h1 => ?_
  rw [wpT_bind] at h1
  obtain ⟨b, rfl, h1⟩ := wp_asBl h1
  exact ⟨b, dr_bl r1, Aft.here (p.grow g1).ok h1 (.bl _)⟩
theorem snd_neg (c : CxIs S P w mg base k C E X) {a : Expr} {pos : Pos} {ρ : List Sl} {ta : T D} (ha : SndE S X E a ρ ta) : SndE S X E (.UnaryOp .USub a pos) ρ (ta.bind fun x => (asInt x).bind fun b => .ret (.int (-b))) := fun H0 B0 H B σ Q p h => by
  refine ⟨_, pe_un un_neg peW, ?_⟩
  refine sndE_bind ha p h fun x v H1 B1 g1 r1 h1 => ?_
  rw [wpT_bind] at h1
  obtain ⟨b, rfl, h1⟩ := wp_asInt h1
  exact ⟨b, dr_int r1, Aft.here (p.grow g1).ok h1 (.int _)⟩
theorem snd_and (c : CxIs S P w mg base k C E X) {a b : Expr} {rest : List Expr} {pos : Pos} {ρ : List Sl} {ta tb : T D} (ha : SndE S X E a ρ ta) (hb : SndE S X E (.BoolOp .And (b :: rest) pos) ρ tb) :
    SndE S X E (.BoolOp .And (a :: b :: rest) pos) ρ (ta.bind fun x => (asBl x).bind fun c => if c then tb else .ret (.bl false)) := fun H0 B0 H B σ Q p h => by
  refine ⟨_, pe_and peW peW, ?_⟩
  refine sndE_bind ha p h fun x v H1 B1 g1 r1 h1 => ?_
  rw [wpT_bind] at h1
  obtain ⟨b, rfl, h1⟩ := wp_asBl h1
  refine ⟨b, dr_bl r1, ?_⟩
  cases b with
  | true => exact iteT (hb _ _ _ _ _ _ (p.grow g1) h1)
  | false => exact iteF (Aft.here (p.grow g1).ok h1 (.bl _))
theorem snd_or (c : CxIs S P w mg base k C E X) {a b : Expr} {rest : List Expr} {pos : Pos} {ρ : List Sl} {ta tb : T D} (ha : SndE S X E a ρ ta) (hb : SndE S X E (.BoolOp .Or (b :: rest) pos) ρ tb) :
    SndE S X E (.BoolOp .Or (a :: b :: rest) pos) ρ (ta.bind fun x => (asBl x).bind fun c => if c then .ret (.bl true) else tb) := fun H0 B0 H B σ Q p h => by
  refine ⟨_, pe_or peW peW, ?_⟩
  refine sndE_bind ha p h fun x v H1 B1 g1 r1 h1 => ?_
  rw [wpT_bind] at h1
  obtain ⟨b, rfl, h1⟩ := wp_asBl h1
  refine ⟨b, dr_bl r1, ?_⟩
  cases b with
  | true => exact iteT (Aft.here (p.grow g1).ok h1 (.bl _))
  | false => exact iteF (hb _ _ _ _ _ _ (p.grow g1) h1)
theorem snd_one {op : BoolOp} {a : Expr} {pos : Pos} {ρ : List Sl} {ta : T D} (ha : SndE S X E a ρ ta) : SndE S X E (.BoolOp op [a] pos) ρ ta := fun H0 B0 H B σ Q p h => ⟨_, pe_one peW, ha _ _ _ _ _ _ p h⟩
theorem snd_cmp (c : CxIs S P w mg base k C E X) (tx : Text S G P w mg base k call) {a b : Expr} {op : CmpOp} {pos : Pos} {ρ : List Sl} {ta tb : T D} (hs : isSet b = false) (ha : SndE S X E a ρ ta) (hb : SndE S X E b ρ tb) :
    SndE S X E (.Compare a [op] [b] pos) ρ (ta.bind fun x => tb.bind fun y => cmpD G.eqO op x y) := fun H0 B0 H B σ Q p h => by
  refine ⟨_, pe_cmpR opW peW peW (behind_set hs), ?_⟩
  refine sndE_bind ha p h fun x v H1 B1 g1 r1 h1 => ?_
  refine sndE_bind hb (p.grow g1) h1 fun y u H2 B2 g2 r2 h2 => ?_
  exact so_cmp c.K c.hu (tx.ob C E X c) (p.grow (g1.trans g2)).ok (r1.mono g2.bb) r2 h2
/-- a comparison's truth -/
theorem so_cmpB (c : CxIs S P w mg base k C E X) (tx : Text S G P w mg base k call) {op : CmpOp} {H B : Hp} {v u : V} {x y : D} {Q : VK} {P' : Bool → Prop} {E1 : Str → List D → Prop} (o : Ok S H B) (hx : Dr S B v x) (hy : Dr S B u y) (h : wpT ((cmpD G.eqO op x y).bind asBl) P' E1)
    (hq : ∀ b H' B', P' b → Grow S H B H' B' → Q (.bl b) H') : WO X (compareOp op) v u H Q := by
  rw [wpT_bind] at h
  refine so_cmp c.K c.hu (tx.ob C E X c) o hx hy (wpT_mono h (fun d hd v' H' B' g r => ?_) fun _ _ a => a)
  obtain ⟨b, rfl, hb⟩ := wp_asBl hd
  rw [dr_bl r]
  exact hq b H' B' hb g
theorem lastMarks_two {op op' : CmpOp} {b d : Expr} (h : (isSet b || isSet d) = false) : lastMarks [op, op'] [b, d] = false := by
  rw [Bool.or_eq_false_iff] at h
  show behindInMarks op' d = false
  exact behind_set h.2
theorem snd_chain (c : CxIs S P w mg base k C E X) (tx : Text S G P w mg base k call) {a b d : Expr} {op op' : CmpOp} {pos : Pos} {ρ : List Sl} {ta tb td : T D} (hs : (isSet b || isSet d) = false) (ha : SndE S X E a ρ ta) (hb : SndE S X E b ρ tb) (hd : SndE S X E d ρ td) :
    SndE S X E (.Compare a [op, op'] [b, d] pos) ρ (ta.bind fun x => tb.bind fun y => (cmpD G.eqO op x y).bind fun r => (asBl r).bind fun k => if k then td.bind fun z => cmpD G.eqO op' y z else .ret (.bl false)) := fun H0 B0 H B σ Q p h => by
  refine ⟨_, pe_chain opW opW peW peW peW (lastMarks_two hs), ?_⟩
  refine sndE_bind ha p h fun x v H1 B1 g1 r1 h1 => ?_
  refine sndE_bind hb (p.grow g1) h1 fun y u H2 B2 g2 r2 h2 => ?_
  rw [← bind_assoc] at h2
  have p2 := p.grow (g1.trans g2)
  rw [wpT_bind] at h2
  refine so_cmpB c tx p2.ok (r1.mono g2.bb) r2 h2 fun b H3 B3 hb3 g3 => ?_
  have p3 := p2.grow g3
  refine ⟨b, rfl, ?_⟩
  cases b with
  | false => exact iteF (Aft.here (p3).ok (hb3.grow g3) (.bl _))
  | true =>
    refine iteT ?_
    have hb3 : wpT (td.bind fun z => cmpD G.eqO op' y z) _ _ := hb3
    refine sndE_bind hd p3 (wp_aft g3 (wp_grow g3 hb3)) fun z uz H4 B4 g4 r4 h4 => ?_
    exact so_cmp c.K c.hu (tx.ob C E X c) (p3.grow g4).ok (r2.mono (g3.trans g4).bb) r4 h4
theorem snd_if {t a b : Expr} {pos : Pos} {ρ : List Sl} {tt : T Bool} {ta tb : T D} (ht : SndT S X E t ρ tt) (ha : SndE S X E a ρ ta) (hb : SndE S X E b ρ tb) : SndE S X E (.IfExp t a b pos) ρ (tt.bind fun k => if k then ta else tb) := fun H0 B0 H B σ Q p h => by
  refine ⟨_, pe_ifExp ptW peW peW, ?_⟩
  refine sndT_then ht p h fun k H1 B1 g1 h1 => ?_
  cases k with
  | true => exact iteT (ha _ _ _ _ _ _ (p.grow g1) (wp_aft g1 h1))
  | false => exact iteF (hb _ _ _ _ _ _ (p.grow g1) (wp_aft g1 h1))
theorem snd_tup {es : List Expr} {j : Nat} {pos : Pos} {ρ : List Sl} {t : T (List D)} (hA : SndA S X E es ρ t) : SndE S X E (.Tuple es j pos) ρ (t.bind fun ds => if ds.length ≤ most then .ret (.tup ds) else .fail) := fun H0 B0 H B σ Q p h => by
  refine ⟨_, pe_tup paW, ?_⟩
  refine sndA_then hA p h fun ds vs H1 B1 g1 r1 h1 => ?_
  split at h1
  · rename_i z
    exact ⟨by rw [r1.len]; exact most_le z, Aft.newT (p.grow g1).ok (Aft.grow g1 h1) r1⟩
  · exact h1.elim
theorem snd_lst {es : List Expr} {pos : Pos} {ρ : List Sl} {t : T (List D)} (hA : SndA S X E es ρ t) : SndE S X E (.List es pos) ρ (t.bind fun ds => if ds.length ≤ most then .ret (.lst ds) else .fail) := fun H0 B0 H B σ Q p h => by
  refine ⟨_, pe_lst paW, ?_⟩
  refine sndA_then hA p h fun ds vs H1 B1 g1 r1 h1 => ?_
  split at h1
  · rename_i z
    exact ⟨by rw [r1.len]; exact most_le z, Aft.newL (p.grow g1).ok (Aft.grow g1 h1) r1⟩
  · exact h1.elim
theorem snd_sub (c : CxIs S P w mg base k C E X) {a b : Expr} {pos : Pos} {ρ : List Sl} {ta tb : T D} (hs : isSlice b = false) (ha : SndE S X E a ρ ta) (hb : SndE S X E b ρ tb) : SndE S X E (.Subscript a b pos) ρ (ta.bind fun x => tb.bind fun y => subD x y) := fun H0 B0 H B σ Q p h => by
  refine ⟨_, pe_ix ixW peW peW (plain_ix hs), ?_⟩
  refine sndE_bind ha p h fun x v H1 B1 g1 r1 h1 => ?_
  refine sndE_bind hb (p.grow g1) h1 fun y u H2 B2 g2 r2 h2 => ?_
  exact so_sub c.K (p.grow (g1.trans g2)).ok (r1.mono g2.bb) r2 h2
theorem snd_slice (c : CxIs S P w mg base k C E X) {a : Expr} {lo hi : Option Expr} {pos p2 : Pos} {ρ : List Sl} {ta : T D} {tl th : T (Option Int)} (ha : SndE S X E a ρ ta) (hl : SndO S X E lo ρ tl) (hh : SndO S X E hi ρ th) :
    SndE S X E (.Subscript a (.Slice lo hi none p2) pos) ρ (ta.bind fun x => tl.bind fun l => th.bind fun u => sliceD l u x) := fun H0 B0 H B σ Q p h => by
  refine ⟨_, pe_slice slW peW poW poW, ?_⟩
  show W X a σ H fun x H1 => WP X lo σ H1 fun l H2 => WP X hi σ H2 fun u H3 => WSl X x l u H3 Q
  refine sndE_bind ha p h fun x v H1 B1 g1 r1 h1 => ?_
  rw [wpT_bind] at h1
  refine hl _ _ _ _ _ _ (p.grow g1) (wpT_mono h1 (fun l h2 H2 B2 g2 => ?_) fun _ _ a => a)
  rw [wpT_bind] at h2
  refine hh _ _ _ _ _ _ (p.grow (g1.trans g2)) (wpT_mono h2 (fun u h3 H3 B3 g3 => ?_) fun _ _ a => a.grow g2)
  exact so_slice c.K (p.grow ((g1.trans g2).trans g3)).ok (r1.mono (g2.trans g3).bb) (wp_aft (g2.trans g3) h3)
theorem snd_att (c : CxIs S P w mg base k C E X) (tx : Text S G P w mg base k call) {o : Expr} {f : Str} {pos : Pos} {ρ : List Sl} {ta : T D} (hn : G.attN f = true) (hc : isCall o = false) (ha : SndE S X E o ρ ta) :
    SndE S X E (.Attribute o f pos) ρ (ta.bind fun d => G.att f d) := fun H0 B0 H B σ Q p h => by
  refine tx.att C E X c o f pos σ H Q hn hc ?_
  refine sndE_bind ha p h fun x v H1 B1 g1 r1 h1 => ?_
  exact ⟨B1, x, (p.grow g1).ok, r1, tx.attE _ _ _ _ h1⟩
end
end Ev

/-! for i, x in enumerate(t), t a tuple. -/
namespace PySem
open Sem (wp)
open AutoSeq1 (wpAny_loadPart')
/-- the tuple's iterator, the enumeration, as they are made -/
abbrev tIter (l : Addr) : Obj := { cls := .type "tuple_iterator", data := .fields #[.ref l, .int 0 0] }
abbrev enm (it : Addr) : Obj := { cls := .type "enumerate", data := .fields #[.none, .bool false, .ref it, rawInt 0, .none, .none] }
theorem meets_enum_tup (l : Addr) (items : Array Value) (n : Nat) (dct : Option Addr) (sl : Array (Option Value)) :
    Meets (Builtin.«enumerate.__new__» ⟨[.type "enumerate", .ref l], []⟩) (fun _ R s => s.heap.get? l = some { cls := .type "tuple", dict := dct, data := .seq items n, slots := sl } ∧
      R (.ok (.ret (.ref (s.heap.push (tIter l)).objs.size))) { s with heap := (s.heap.push (tIter l)).push (enm s.heap.objs.size) }) :=
  .of_wp fun prog w A R s h => by
    obtain ⟨hp, g, d, tk, os⟩ := s
    obtain ⟨hl, h⟩ := h
    have hsub := sub_enumerate
    have hL : Heap.IsTuple (Shared.heap ⟨hp, g, d, tk, os⟩) l items := ⟨_, hl, rfl, n, rfl⟩
    wp_walk using wpAny_loadPart' hl
    refine wpAny_stack_any fun st => wpAny_pure ?_
    split
    · rename_i c _ _ _ _ _
      cases (c == Value.type "enumerate")
      · wp_walk using wpAny_loadPart' hl, wpAny_pyIter_tuple hL
        exact ⟨_, rfl, h⟩
      · wp_walk using wpAny_loadPart' hl, wpAny_pyIter_tuple hL
        exact ⟨_, rfl, h⟩
    · wp_walk using wpAny_loadPart' hl, wpAny_pyIter_tuple hL
      exact ⟨_, rfl, h⟩
section
variable {prog : Program} {w : World} {A : Around} {E : Value → Shared → Prop} {s : Shared}
theorem call_enum_tup {l : Addr} {items : Array Value} {Q : Value → Shared → Prop} (hL : s.heap.IsTuple l items)
    (h : ∀ h', IsEnum h' (s.heap.objs.size + 1) s.heap.objs.size 0 .none → h'.IsTupleIter s.heap.objs.size l 0 → h'.objs.size = s.heap.objs.size + 2 → (∀ b o, s.heap.get? b = some o → h'.get? b = some o) → Q (.ref (s.heap.objs.size + 1)) { s with heap := h' }) :
    wpAny (model prog w) A (call (.type "enumerate") [.ref l]) Q E s := by
  obtain ⟨⟨c, dct, dt, sl⟩, hl, hc, n, hd⟩ := hL
  have hc : c = .type "tuple" := hc
  have hd : dt = .seq items n := hd
  subst hc
  subst hd
  have hz : (s.heap.push (tIter l)).objs.size = s.heap.objs.size + 1 := Heap.size_push ..
  refine callType_new F.called_enumerate (by decide) (F.typeCall_enumerate_1 _) (F.newCall_enumerate_1 _) (fun obj => F.args_object_init_2 obj _) F.entry_enumerate_new (meets_enum_tup l items n dct sl) ⟨hl, ?_⟩
  show _ ∧ _
  rw [hz]
  have he : IsEnum ((s.heap.push (tIter l)).push (enm s.heap.objs.size)) (s.heap.objs.size + 1) s.heap.objs.size 0 .none := by
    have z := Heap.get?_push_size (s.heap.push (tIter l)) (o := enm s.heap.objs.size) rfl
    rw [hz] at z
    exact z
  exact ⟨⟨_, he, rfl⟩, h _ he ⟨_, Heap.get?_push_of_some _ (Heap.get?_push_size _ rfl), rfl, rfl⟩ (by rw [Heap.size_push, hz]) fun b o x => Heap.get?_push_of_some _ (Heap.get?_push_of_some _ x)⟩
theorem enum_end_tup {e it a : Addr} {i : Nat} {items : Array Value} {old : Value} {Q : Option Value → Shared → Prop} (hh : A.handled = none) (he : IsEnum s.heap e it ((i : Nat) : Int) old) (hit : s.heap.IsTupleIter it a i) (hl : s.heap.IsTuple a items) (hx : items[i]? = none)
    (hQ : ∀ h', Heap.ExtBut it s.heap h' → Q none { s with heap := h' }) : wpAny (model prog w) A (pyNext (.ref e)) Q E s := by
  have ty : s.TypeIs (.ref e) "enumerate" := ⟨_, he, rfl⟩
  unfold pyNext
  refine wpAny_bind (wpAny_attempt (wpAny_callSpecial?_slot (name := Str.ofString "__next__") ty F.slot_enumerate_next (wpAny_call_entry F.slot_enumerate_next ty F.entry_enumerate_next ?_ (F.args_enumerate_next_1 _))))
  refine (show wpAny _ _ (field (.ref e) 2 >>= _) _ _ _ from wpAny_bind (wpAny_field he rfl (x := .ref it) rfl (wpAny_bind (wpAny_nextOf_tuple_end (by simp [hh]) hit hl hx fun h' x e1 e2 => ?_))))
  obtain ⟨o, ho, hc⟩ := e2
  exact wpAny_bind (wpAny_isInstance (T := "StopIteration") (b := true) ⟨o, ho, hc⟩ isSubtype_stop (wpAny_pure (hQ _ e1)))
end
end PySem
namespace L2
open PySem PySem.Spec PyProof.Rows
def IteT (K : PySem.W.Frag) (a : Addr) : It :=
  ⟨fun i H => ∃ (xs : List V) (x : V), SqT K H a xs ∧ xs[i]? = some x, fun i H v H' => ∃ T x, v = .ref T ∧ H T = none ∧ H' = upd H T (.tup [.int (i : Nat), x]) ∧ ∀ xs, SqT K H a xs → xs[i]? = some x, fun i H => ∃ xs : List V, SqT K H a xs ∧ xs.length ≤ i⟩
theorem turn_enumT {P : Program} {w : World} {K : PySem.W.Frag} {elts : List Expr} {kk : Nat} {tpos : Pos} (a e it : Addr) :
    Turn P w K (.Tuple elts kk tpos) (IteT K a) [e, it] e (fun i h => (∃ old, IsEnum h e it ((i : Nat) : Int) old) ∧ h.IsTupleIter it a i ∧ e ≠ it ∧ a ≠ it ∧ a ≠ e) where
  mem := by simp
  obj := fun i h st b hb => by
    obtain ⟨⟨old, he⟩, ⟨o, ho, hc, hd⟩, _⟩ := st
    rcases (show b = e ∨ b = it by simpa using hb) with z | z
    · rw [z]; exact ⟨_, he, fun v q => nomatch q⟩
    · rw [z]; exact ⟨o, ho, fun v q => by rw [hd] at q; cases q⟩
  keep := fun i h h' st k => let ⟨⟨old, he⟩, hi, hne⟩ := st; ⟨⟨old, k e (by simp) _ he⟩, hi.at fun o q => k it (by simp) o q, hne⟩
  item := by
    intro X hP hw hK hc i pins s σ H E I hf st hg
    subst hP hw hK
    obtain ⟨⟨old, he⟩, hit, n1, n2, n3⟩ := st
    obtain ⟨xs, x, hq, hx⟩ := hg
    obtain ⟨its, rv, p, hz⟩ := I.tuple hq
    have hel : e < s.heap.objs.size := Heap.lt_size he
    have hil : it < s.heap.objs.size := by obtain ⟨_, q, _⟩ := hit; exact Heap.lt_size q
    have hlt : i < its.toArray.size := by
      have := (List.getElem?_eq_some_iff.mp hx).1
      have := rv.length
      rw [List.size_toArray]
      omega
    refine wpAny_pyNext_enum_itemD (Draws.tuple (show X.A.in1.handled = none by simp [I.ok.hd hc]) it a n2 its.toArray) he ⟨hit, p⟩ hlt n1 (by simp [n1, n3.symm]) fun u h' tk hu ho hst hT hsz hk => ?_
    have ru : RelV x u := by
      obtain ⟨v, hv, rr⟩ := rv.get hx
      have e2 : its[i]? = some u := by simpa using hu
      rw [hv] at e2
      cases e2
      exact rr
    refine ⟨_, rfl, wpAny_letOwnedTupleGo_enum (s := { s with heap := h', toks := tk + 1 }) ho fun h'' he' sb => ?_⟩
    have hT2 : h''.get? s.heap.objs.size = some { cls := .type "tuple", data := .seq #[.int i tk, u] } := (sb.2 _ (Nat.ne_of_gt hel)).trans hT
    have new : ObjOk X.prog X.w (upd H s.heap.objs.size (.tup [.int (i : Nat), x])) h'' s.heap.objs.size (.tup [.int (i : Nat), x]) :=
      ⟨by show 2 ≤ sizeLine; decide, [.int i tk, u], .cons ⟨_, rfl⟩ (.cons ru .nil), ⟨_, hT2, rfl, _, rfl⟩⟩
    have I1 : Inv X pins σ (upd H s.heap.objs.size (.tup [.int (i : Nat), x])) { s with heap := h'', toks := tk + 1 } :=
      I.turnedNew (ch := [e, it]) (fun b ob hb q => (sb.2 b (fun z => hb (by simp [z]))).trans (hk b ob (fun z => hb (by simp [z])) (fun z => hb (by simp [z])) q)) hf (Nat.le_refl _) new
    refine ⟨.ref s.heap.objs.size, _, I1, rfl, ⟨_, x, rfl, I.hok.fresh (Nat.le_refl _), rfl, fun ys hy => by rw [I.tuple_inj hy hq]; exact hx⟩, ⟨⟨u, ?_⟩, hst.1.at fun o q => (sb.2 it (Ne.symm n1)).trans q, n1, n2, n3⟩, fun b hb => ?_⟩
    · have e1 : ((i + 1 : Nat) : Int) = (i : Int) + 1 := by omega
      rw [e1]; exact he'
    · have hb' : b < s.heap.objs.size := by
        rcases (show b = e ∨ b = it by simpa using hb) with z | z
        · rw [z]; exact hel
        · rw [z]; exact hil
      rw [upd_ne (Nat.ne_of_lt hb')]
      exact (hf b hb).1
  done := by
    intro X hP hw hK hc i pins s σ H E I hf st hg
    subst hP hw hK
    obtain ⟨⟨old, he⟩, hit, n1, n2, n3⟩ := st
    obtain ⟨xs, hq, hx⟩ := hg
    obtain ⟨its, rv, p, hz⟩ := I.tuple hq
    obtain ⟨f0, f1, f2, f3, f4, f5⟩ := hf it (by simp)
    have hl := rv.length
    exact enum_end_tup (I.ok.hd hc) he hit p (by simp; omega) fun h' eb => ⟨rfl, I.turned (t' := s.toks) (fun b o hb q => eb b o hb q) f0 f1 f3 f4 f5⟩
  self := fun A i s Q E st h => let ⟨⟨_, he⟩, _⟩ := st; wpAny_pyIter_enum he h
def iEnumT (K : PySem.W.Frag) (ta : TA) : TI := fun σ H R => ta σ H fun vs H1 => ∃ a xs, vs = [.ref a] ∧ SqT K H1 a xs ∧ R (IteT K a) H1
theorem pi_enumT {X : Cx} {e : Expr} {ta : TA} {p pos tpos : Pos} {elts : List Expr} {kk : Nat} (hg : Gl X "enumerate") (hm : X.mg "enumerate" = none) (ha : PA X [e] ta) (hs : starEach [e] X.env = [(false, eval e X.env)] := by rfl) :
    PI X (.Tuple elts kk tpos) (.Call (.Name "enumerate" p) [e] [] pos) (iEnumT X.K ta) := by
  refine ⟨fun pins s σ H R I h => ?_⟩
  refine Call_ (ld_blt I hg hm boot_enumerate (PyProof.Rows.callWith_type1 (thn (ha.run pos pins s σ H _ I h) fun us s1 ⟨vs, H1, I1, r1, q1⟩ => ?_) hs rfl))
  obtain ⟨a, xs, ex, hq, q⟩ := q1
  subst ex
  cases r1 with
  | cons r rr =>
    cases rr
    cases r
    obtain ⟨its, rv, p', hz⟩ := I1.tuple hq
    have la : a < s1.heap.objs.size := by
      obtain ⟨o, ho, _⟩ := id p'
      exact Heap.lt_size ho
    refine call_enum_tup p' fun h' he hit hsz hk => wpAny_pyIter_enum he ?_
    have I2 : Inv X pins σ H1 { s1 with heap := h' } := I1.kept (t' := s1.toks) hk
    refine ⟨s1.heap.objs.size + 1, [s1.heap.objs.size + 1, s1.heap.objs.size], _, _, H1, rfl, I2, turn_enumT a (s1.heap.objs.size + 1) s1.heap.objs.size, ⟨⟨.none, he⟩, hit, Nat.succ_ne_self _, Nat.ne_of_lt la, Nat.ne_of_lt (Nat.lt_succ_of_lt la)⟩, fun b hb => ?_, q⟩
    have hle : s1.heap.objs.size ≤ b := by
      rcases (show b = s1.heap.objs.size + 1 ∨ b = s1.heap.objs.size by simpa using hb) with z | z
      · rw [z]; exact Nat.le_add_right _ _
      · rw [z]; exact Nat.le_refl _
    exact I1.fpOk hle (I1.hok.fresh hle)
end L2

/-! Calls, methods, tests, what is walked, comprehensions. -/
namespace Ev
open PySem PySem.Spec L2 PyProof.Rows
section
variable {S : Sem0} {G : Info} {P : Program} {w : World} {mg : Str → Option Value} {base : Heap} {k : Nat} {call : Str → List D → T D} {C : Sc0} {E : XK} {X : Cx}
/-! ### calls -/
theorem snd_own (c : CxIs S P w mg base k C E X) (tx : Text S G P w mg base k call) {f : Str} {args : List Expr} {p0 pos : Pos} {ρ : List Sl} {fe : Expr → T D} (hg : isGlo C.sc f = true) (hd : f ≠ "__debug__") (ho : G.own f = true) (hs : args.any isStar = false) (hf : ∀ e ∈ args, SndE S X E e ρ (fe e)) :
    SndE S X E (.Call (.Name f p0) args [] pos) ρ ((mapT fe args).bind fun ds => call f ds) := fun H0 B0 H B σ Q p h => by
  obtain ⟨a, fd, ps, sp, F, hm, hk, hb, hsp⟩ := tx.fns f ho
  have hdb : (f == ("__debug__" : Str)) = false := beq_eq_false_iff_ne.mpr hd
  obtain ⟨e1, e2, e3, e4, e5, eN, nd, esc, fn, calm, room, pass, tk, po⟩ := c
  have c' : CxIs S P w mg base k C E X := ⟨e1, e2, e3, e4, e5, eN, nd, esc, fn, calm, room, pass, tk, po⟩
  subst e1 e2 e4 e5
  have F' : FnOk X.prog X.w X.K X.mg X.base (L2.CX X.prog X.w) k a fd ps sp := e3 ▸ F
  have hk' : PySem.W.keepIn X.K (.ref a) = true := e3 ▸ hk
  have hb' : Binds X.K fd ps [] := e3 ▸ hb
  cases args with
  | nil => exact ⟨_, pe_call0 F' room (c'.glo hg) hm hk' hb' .nil pass hdb, hsp _ _ _ B _ _ p.ok .nil h⟩
  | cons e es =>
    have hs' : isStar e = false ∧ es.any isStar = false := by rw [List.any_cons, Bool.or_eq_false_iff] at hs; exact hs
    refine ⟨_, pe_call F' room (c'.glo hg) hm hk' hb' .nil pass paW hdb (star_cons hs'.1) (star_any hs'.2), ?_⟩
    refine sndA_then (snd_args hs hf) p h fun ds vs H1 B1 g1 r1 h1 => ?_
    show sp (vs ++ []) H1 Q E
    rw [List.append_nil]
    exact hsp _ _ _ B1 _ _ (p.grow g1).ok r1 (wpT_mono h1 (fun _ a => a.grow g1) fun _ _ a => a)
theorem blt_shape {f : Str} {v : Value} (h : bltV f = some v) : (∃ id, v = .builtin id) ∨ ∃ T, v = .type T := by
  unfold bltV at h
  repeat' split at h
  all_goals first | (cases h; done) | (cases h; exact .inl ⟨_, rfl⟩) | (cases h; exact .inr ⟨_, rfl⟩)
theorem blt_name {f : Str} {v : Value} (h : bltV f = some v) : f ≠ "__name__" := fun e => by
  subst e
  have n : bltV "__name__" = none := by decide +kernel
  rw [n] at h
  cases h
theorem isBlt_some {f : Str} (h : isBlt f = true) : ∃ v, bltV f = some v := by
  unfold isBlt at h
  unfold bltV
  simp only [Bool.or_eq_true, decide_eq_true_eq] at h
  repeat' split
  all_goals first | exact ⟨_, rfl⟩ | skip
  exfalso
  simp_all
theorem snd_blt (c : CxIs S P w mg base k C E X) (tx : Text S G P w mg base k call) {f : Str} {args : List Expr} {p0 pos : Pos} {ρ : List Sl} {fe : Expr → T D} (hg : isGlo C.sc f = true) (hd : f ≠ "__debug__") (hB : isBlt f = true) (hN : args.isEmpty = false) (hs : args.any isStar = false) (hf : ∀ e ∈ args, SndE S X E e ρ (fe e)) :
    SndE S X E (.Call (.Name f p0) args [] pos) ρ ((mapT fe args).bind fun ds => bltD G.lenO f ds) := fun H0 B0 H B σ Q p h => by
  have hdb : (f == ("__debug__" : Str)) = false := beq_eq_false_iff_ne.mpr hd
  obtain ⟨v, hv⟩ := isBlt_some hB
  have hm := tx.blt f v hv
  cases args with
  | nil => cases hN
  | cons e es =>
    have hs' : isStar e = false ∧ es.any isStar = false := by rw [List.any_cons, Bool.or_eq_false_iff] at hs; exact hs
    rcases blt_shape hv with ⟨id, rfl⟩ | ⟨T, rfl⟩
    · refine ⟨_, pe_callB callW (c.glo hg) (by rw [c.mg]; exact hm) (boot_of hv) paW (blt_name hv) hdb (star_cons hs'.1) (star_any hs'.2), ?_⟩
      refine sndA_then (snd_args hs hf) p h fun ds vs H1 B1 g1 r1 h1 => ?_
      exact so_blt c.K c.calm (tx.ob C E X c) (p.grow g1).ok hv r1 (wp_aft g1 h1)
    · refine ⟨_, pe_callTy callW (c.glo hg) (by rw [c.mg]; exact hm) (boot_of hv) paW (blt_name hv) hdb (star_cons hs'.1) (star_any hs'.2), ?_⟩
      refine sndA_then (snd_args hs hf) p h fun ds vs H1 B1 g1 r1 h1 => ?_
      exact so_blt c.K c.calm (tx.ob C E X c) (p.grow g1).ok hv r1 (wp_aft g1 h1)
/-- list(range(n)) -/
theorem snd_listRg (c : CxIs S P w mg base k C E X) (tx : Text S G P w mg base k call) {a : Expr} {p0 p1 pos q : Pos} {ρ : List Sl} {ta : T D} (hg : isGlo C.sc "list" = true) (hr : isGlo C.sc "range" = true) (hs : isStar a = false) (ha : SndE S X E a ρ ta) :
    SndE S X E (.Call (.Name "list" p0) [.Call (.Name "range" p1) [a] [] q] [] pos) ρ (ta.bind fun d => (asInt d).bind fun j => if -100000 ≤ j ∧ j ≤ 100000 then .ret (.lst (intsD 0 j.toNat)) else .fail) := fun H0 B0 H B σ Q p h => by
  refine ⟨_, pe_listRg c.calm (c.glo hg) (by rw [c.mg]; exact tx.blt "list" (.type "list") (by decide +kernel)) (prg_1 (c.glo hr) (by rw [c.mg]; exact tx.rng) peW (star_cons hs)) (star_cons rfl), ?_⟩
  refine sndE_bind ha p h fun x v H1 B1 g1 r1 h1 => ?_
  rw [wpT_bind] at h1
  obtain ⟨j, rfl, h2⟩ := wp_asInt h1
  refine ⟨j, dr_int r1, ?_⟩
  split at h2
  · rename_i z
    refine ⟨⟨by omega, by omega, by omega, by omega, by omega⟩, ?_⟩
    · intro q hq
      have e : rgV 0 j = ((List.range j.toNat).map fun i => V.int (0 + (i : Nat))) := by
        unfold rgV
        rw [Int.sub_zero]
      rw [e]
      refine Aft.newL (p.grow g1).ok h2 ?_ q hq
      unfold intsD
      generalize j.toNat = n
      induction n with
      | zero => exact .nil
      | succ n ih =>
        rw [List.range_succ, List.map_append, List.map_append]
        exact ih.app (.cons (.int _) .nil)
  · exact h2.elim
/-! ### methods -/
theorem mth_facts {d : D} {m : Str} {T id : String} (h : mthV d m = some (T, id)) : PlainAttrs T ∧ Slot T m id ∧ typeOf (.builtin id) = pure (.type "method_descriptor") := by
  unfold mthV at h
  split at h
  · split at h
    · rename_i e
      subst e
      cases h
      exact ⟨PySem.F.plainAttrs_str, PySem.F.slot_str_join, PySem.F.type_str_join⟩
    · cases h
  · cases h
theorem snd_mth (c : CxIs S P w mg base k C E X) {o : Expr} {m : Str} {args : List Expr} {apos pos : Pos} {ρ : List Sl} {to : T D} {fe : Expr → T D} (hl : (apos.endLine == pos.line) = true) (hn : args.length < 20) (hN : args.isEmpty = false) (hc : isCall o = false) (hs : args.any isStar = false)
    (ho : SndE S X E o ρ to) (hf : ∀ e ∈ args, SndE S X E e ρ (fe e)) : SndE S X E (.Call (.Attribute o m apos) args [] pos) ρ (sure to fun d => if hasM d m then (mapT fe args).bind fun ds => mthD d m ds else .fail) := fun H0 B0 H B σ Q p h => by
  cases to with
  | ret d =>
    have h : wpT (if hasM d m then (mapT fe args).bind fun ds => mthD d m ds else .fail) _ _ := h
    split at h
    · rename_i hm
      obtain ⟨T, id, hm⟩ := hasM_some hm
      obtain ⟨f1, f2, f3⟩ := mth_facts hm
      cases args with
      | nil => cases hN
      | cons e es =>
        have hs' : isStar e = false ∧ es.any isStar = false := by rw [List.any_cons, Bool.or_eq_false_iff] at hs; exact hs
        refine ⟨_, pe_bm f1 f2 f3 mtW peW paW (base_call hc) ?_ hl (star_cons hs'.1) (star_any hs'.2), ?_⟩
        · rw [star_all hs]
          show (true && true && decide ((e :: es).length + 0 + 0 < 30)) = true
          rw [decide_eq_true (show (e :: es).length + 0 + 0 < 30 by omega)]
          rfl
        · show W X o σ H fun x H1 => tyV X.K T x H1 ∧ WA X (e :: es) σ H1 fun xs H2 => WM X id x xs H2 Q
          refine ho _ _ _ _ _ _ p (show Aft S H B _ d from fun v H1 B1 g1 r1 => ⟨so_ty c.K (p.grow g1).ok r1 hm, ?_⟩)
          refine sndA_then (snd_args hs hf) (p.grow g1) (wp_grow g1 h) fun ds vs H2 B2 g2 r2 h2 => ?_
          exact so_mth c.K (p.grow (g1.trans g2)).ok (r1.mono g2.bb) hm r2 (wp_aft (g1.trans g2) h2)
    · exact h.elim
  | _ => exact h.elim

/-! ### tests -/
theorem sndT_val (c : CxIs S P w mg base k C E X) {e : Expr} {ρ : List Sl} {t : T D} (hp : plainT e = true) (he : SndE S X E e ρ t) : SndT S X E e ρ (t.bind asBl) := fun H0 B0 H B σ Q p h => by
  refine ⟨_, pt_val peW (plain_true hp), ?_⟩
  show W X e σ H fun x H1 => ∃ c, x = .bl c ∧ Q c H1
  refine sndE_then he p h fun d v H1 B1 g1 r1 h1 => ?_
  obtain ⟨b, rfl, hb⟩ := wp_asBl h1
  exact ⟨b, dr_bl r1, hb H1 B1 g1⟩
theorem sndT_not {a : Expr} {pos : Pos} {ρ : List Sl} {t : T Bool} (ha : SndT S X E a ρ t) : SndT S X E (.UnaryOp .Not a pos) ρ (t.bind fun b => .ret (!b)) := fun H0 B0 H B σ Q p h => by
  refine ⟨_, pt_not ptW, ?_⟩
  exact sndT_then ha p h fun b H1 B1 g1 h1 => h1 H1 B1 g1
theorem sndW_one {op : BoolOp} {a : Expr} {pos : Pos} {ρ : List Sl} {t : T Bool} (ha : SndT S X E a ρ t) : SndW S X E (.BoolOp op [a] pos) ρ t := fun H0 B0 H B σ Q p h => by
  cases op with
  | And => exact ⟨_, pw_and1 ptW, ha _ _ _ _ _ _ p h⟩
  | Or => exact ⟨_, pw_or1 ptW, ha _ _ _ _ _ _ p h⟩
theorem sndW_and {a b : Expr} {rest : List Expr} {pos : Pos} {ρ : List Sl} {ta tb : T Bool} (ha : SndT S X E a ρ ta) (hb : SndW S X E (.BoolOp .And (b :: rest) pos) ρ tb) : SndW S X E (.BoolOp .And (a :: b :: rest) pos) ρ (ta.bind fun c => if c then tb else .ret false) := fun H0 B0 H B σ Q p h => by
  refine ⟨_, pw_and ptW pwW, ?_⟩
  refine sndT_then ha p h fun b H1 B1 g1 h1 => ?_
  cases b with
  | true => exact iteT (hb _ _ _ _ _ _ (p.grow g1) (wpT_mono h1 (fun b hb H2 B2 g2 => hb H2 B2 (g1.trans g2)) fun _ _ a => a))
  | false => exact iteF (h1 H1 B1 g1)
theorem sndW_or {a b : Expr} {rest : List Expr} {pos : Pos} {ρ : List Sl} {ta tb : T Bool} (ha : SndT S X E a ρ ta) (hb : SndW S X E (.BoolOp .Or (b :: rest) pos) ρ tb) : SndW S X E (.BoolOp .Or (a :: b :: rest) pos) ρ (ta.bind fun c => if c then .ret true else tb) := fun H0 B0 H B σ Q p h => by
  refine ⟨_, pw_or ptW pwW, ?_⟩
  refine sndT_then ha p h fun b H1 B1 g1 h1 => ?_
  cases b with
  | true => exact iteT (h1 H1 B1 g1)
  | false => exact iteF (hb _ _ _ _ _ _ (p.grow g1) (wpT_mono h1 (fun b hb H2 B2 g2 => hb H2 B2 (g1.trans g2)) fun _ _ a => a))
theorem sndT_w {e : Expr} {ρ : List Sl} {t : T Bool} (h : SndW S X E e ρ t) : SndT S X E e ρ t := fun H0 B0 H B σ Q p hw => ⟨_, pwW.pt, h _ _ _ _ _ _ p hw⟩
theorem sndT_cmp (c : CxIs S P w mg base k C E X) (tx : Text S G P w mg base k call) {a b : Expr} {op : CmpOp} {pos : Pos} {ρ : List Sl} {ta tb : T D} (hs : isSet b = false) (ha : SndE S X E a ρ ta) (hb : SndE S X E b ρ tb) :
    SndT S X E (.Compare a [op] [b] pos) ρ (ta.bind fun x => tb.bind fun y => (cmpD G.eqO op x y).bind asBl) := fun H0 B0 H B σ Q p h => by
  refine ⟨_, pt_cmpR opW peW peW (behind_set hs), ?_⟩
  refine sndE_then ha p h fun x v H1 B1 g1 r1 h1 => ?_
  refine sndE_then hb (p.grow g1) h1 fun y u H2 B2 g2 r2 h2 => ?_
  exact so_cmpB c tx (p.grow (g1.trans g2)).ok (r1.mono g2.bb) r2 h2 fun b H3 B3 hb3 g3 => ⟨b, rfl, hb3 H3 B3 ((g1.trans g2).trans g3)⟩
theorem sndT_chain (c : CxIs S P w mg base k C E X) (tx : Text S G P w mg base k call) {a b d : Expr} {op op' : CmpOp} {pos : Pos} {ρ : List Sl} {ta tb td : T D} (hs : (isSet b || isSet d) = false) (ha : SndE S X E a ρ ta) (hb : SndE S X E b ρ tb) (hd : SndE S X E d ρ td) :
    SndT S X E (.Compare a [op, op'] [b, d] pos) ρ (ta.bind fun x => tb.bind fun y => (cmpD G.eqO op x y).bind fun r => (asBl r).bind fun k => if k then td.bind fun z => (cmpD G.eqO op' y z).bind asBl else .ret false) := fun H0 B0 H B σ Q p h => by
  refine ⟨_, pt_chain opW opW peW peW peW (lastMarks_two hs), ?_⟩
  refine sndE_then ha p h fun x v H1 B1 g1 r1 h1 => ?_
  refine sndE_then hb (p.grow g1) h1 fun y u H2 B2 g2 r2 h2 => ?_
  rw [← bind_assoc] at h2
  have p2 := p.grow (g1.trans g2)
  rw [wpT_bind] at h2
  refine so_cmpB c tx p2.ok (r1.mono g2.bb) r2 h2 fun b H3 B3 hb3 g3 => ?_
  have p3 := p2.grow g3
  refine ⟨b, rfl, ?_⟩
  cases b with
  | false => exact iteF ⟨false, rfl, hb3 H3 B3 ((g1.trans g2).trans g3)⟩
  | true =>
    refine iteT ?_
    have hb3 : wpT (td.bind fun z => (cmpD G.eqO op' y z).bind asBl) _ _ := hb3
    refine sndE_then hd p3 (wp_grow g3 hb3) fun z uz H4 B4 g4 r4 h4 => ?_
    exact so_cmpB c tx (p3.grow g4).ok (r2.mono (g3.trans g4).bb) r4 h4 fun b H5 B5 hb5 g5 => ⟨b, rfl, hb5 H5 B5 ((((g1.trans g2).trans g3).trans g4).trans g5)⟩
/-! ### ends of slices -/
theorem sndO_none {ρ : List Sl} : SndO S X E none ρ (.ret none) := fun H0 B0 H B σ Q p h => ⟨_, po_none, h H B (Grow.refl p.ok)⟩
theorem sndO_some {e : Expr} {ρ : List Sl} {t : T D} (he : SndE S X E e ρ t) : SndO S X E (some e) ρ (t.bind fun d => (asInt d).bind fun i => .ret (some i)) := fun H0 B0 H B σ Q p h => by
  refine ⟨_, po_some peW, ?_⟩
  show W X e σ H fun x H1 => ∃ i, x = .int i ∧ Q (some i) H1
  refine sndE_then he p h fun d v H1 B1 g1 r1 h1 => ?_
  rw [wpT_bind] at h1
  obtain ⟨i, rfl, h2⟩ := wp_asInt h1
  exact ⟨i, dr_int r1, h2 H1 B1 g1⟩
end
end Ev

/-! What is walked; targets; comprehensions. -/
namespace Ev
open PySem PySem.Spec L2 PyProof.Rows RZ
/-- J goes over the data ds -/
theorem OverD.of {S : Sem0} {J : It} {B : Hp} {vs : List V} {ds : List D} {P : Hp → Prop} (o : Kw.Over J vs P) (hp : ∀ H1 B1, Same B B1 → Ok S H1 B1 → P H1) (r : DrAll S B vs ds) : OverD S J B ds := fun i H1 B1 s k => by
  obtain ⟨h1, h2, h3⟩ := o i H1 (hp H1 B1 s k)
  rw [← r.len]
  refine ⟨h1, h2, fun v H2 hi y => ?_⟩
  obtain ⟨rfl, hv⟩ := h3 v H2 hi y
  obtain ⟨d, hd, hr⟩ := r.atV hv
  exact ⟨B1, d, Grow.refl k, hd, hr.mono s⟩
theorem over_rngL (lo : Int) (n : Nat) : Kw.Over (Itr lo n) ((List.range n).map fun i => V.int (lo + (i : Nat))) fun _ => True := fun i H _ => by
  have e : ((List.range n).map fun i => V.int (lo + (i : Nat))).length = n := by simp
  refine ⟨fun h => ?_, fun h => ?_, fun v H' hi y => ?_⟩
  · show i < n
    omega
  · show n ≤ i
    omega
  · obtain ⟨e1, rfl⟩ := y
    refine ⟨e1, ?_⟩
    rw [List.getElem?_map, List.getElem?_range (by omega)]
    rfl
theorem drAll_rng {S : Sem0} {B : Hp} (lo : Int) : ∀ n, DrAll S B ((List.range n).map fun i => V.int (lo + (i : Nat))) (intsD lo n) := fun n => by
  unfold intsD
  induction n with
  | zero => exact .nil
  | succ n ih =>
    rw [List.range_succ, List.map_append, List.map_append]
    exact ih.app (.cons (.int _) .nil)
theorem drAll_signs {S : Sem0} {B : Hp} (z : Str) : DrAll S B (Kw.signs z) (signsD z) := by
  unfold Kw.signs signsD
  generalize z.cps.toList = l
  induction l with
  | nil => exact .nil
  | cons c l ih => exact .cons (.str _) ih
theorem pairs_at : ∀ (l : List D) (j i : Nat), (pairs j l)[i]? = (l[i]?).map fun d => .tup [.int ((j + i : Nat) : Int), d]
  | [], j, i => by simp [pairs]
  | d :: l, j, 0 => by simp [pairs]
  | d :: l, j, i + 1 => by
    have e : j + 1 + i = j + (i + 1) := by omega
    simp only [pairs, List.getElem?_cons_succ, pairs_at l (j + 1) i, e]
theorem pairs_len : ∀ (l : List D) (j : Nat), (pairs j l).length = l.length
  | [], _ => rfl
  | _ :: l, j => by simp [pairs, pairs_len l (j + 1)]
theorem zip_at : ∀ (l m : List D) (i : Nat) (a b : D), l[i]? = some a → m[i]? = some b → (zipD l m)[i]? = some (.tup [a, b])
  | [], _, _, _, _, h, _ => by simp at h
  | _ :: _, [], _, _, _, _, h => by simp at h
  | x :: l, y :: m, 0, a, b, h, h' => by simp at h h'; subst h; subst h'; rfl
  | x :: l, y :: m, i + 1, a, b, h, h' => by simp only [zipD, List.getElem?_cons_succ]; exact zip_at l m i a b (by simpa using h) (by simpa using h')
theorem zip_len : ∀ (l m : List D), (zipD l m).length = min l.length m.length
  | [], _ => by simp [zipD]
  | _ :: _, [] => by simp [zipD]
  | _ :: l, _ :: m => by simp [zipD, zip_len l m]
/-- a new pair -/
theorem pair_new {S : Sem0} {H1 B1 : Hp} (o : Ok S H1 B1) {T : Addr} (hT : H1 T = none) {x y : V} {d e : D} (rx : Dr S B1 x d) (ry : Dr S B1 y e) : ∃ B2, Grow S H1 B1 (upd H1 T (.tup [x, y])) B2 ∧ Dr S B2 (.ref T) (.tup [d, e]) := by
  have g := Grow.new o hT (.tup [x, y])
  exact ⟨_, g, .tup (SqT.of upd_same) (.cons (rx.mono g.bb) (.cons (ry.mono g.bb) .nil))⟩
section
variable {S : Sem0} {G : Info} {P : Program} {w : World} {mg : Str → Option Value} {base : Heap} {k : Nat} {call : Str → List D → T D} {C : Sc0} {E : XK} {X : Cx}
theorem over_enumL {H B : Hp} {a : Addr} {vs : List V} {l : List D} {K : PySem.W.Frag} (hB : B a = some (.lst vs)) (r : DrAll S B vs l) : OverD S (Ite K a) B (pairs 0 l) := fun i H1 B1 s o => by
  have hq : SqL K H1 a vs := SqL.of (o.sub _ _ (s _ _ hB))
  rw [pairs_len, ← r.len]
  refine ⟨fun hi => ⟨vs, vs[i], hq, by simp [hi]⟩, fun hi => ⟨vs, hq, hi⟩, fun v H2 hi y => ?_⟩
  obtain ⟨T, x, rfl, hT, rfl, hx⟩ := y
  obtain ⟨d, hd, rd⟩ := r.atV (hx vs hq)
  obtain ⟨B2, g, rp⟩ := pair_new o hT (.int ((i : Nat) : Int)) (rd.mono s)
  refine ⟨B2, _, g, ?_, rp⟩
  rw [pairs_at, hd, Nat.zero_add]
  rfl
theorem over_enumT {B : Hp} {a : Addr} {vs : List V} {l : List D} (hB : SqT S.K B a vs) (r : DrAll S B vs l) : OverD S (IteT S.K a) B (pairs 0 l) := fun i H1 B1 s o => by
  have hq : SqT S.K H1 a vs := Same.tupK o.sub (Same.tupK s hB)
  rw [pairs_len, ← r.len]
  refine ⟨fun hi => ⟨vs, vs[i], hq, by simp [hi]⟩, fun hi => ⟨vs, hq, hi⟩, fun v H2 hi y => ?_⟩
  obtain ⟨T, x, rfl, hT, rfl, hx⟩ := y
  obtain ⟨d, hd, rd⟩ := r.atV (hx vs hq)
  obtain ⟨B2, g, rp⟩ := pair_new o hT (.int ((i : Nat) : Int)) (rd.mono s)
  refine ⟨B2, _, g, ?_, rp⟩
  rw [pairs_at, hd, Nat.zero_add]
  rfl
theorem over_zipL {B : Hp} {a b : Addr} {vs us : List V} {l m : List D} {K : PySem.W.Frag} (ha : B a = some (.lst vs)) (hb : B b = some (.lst us)) (r : DrAll S B vs l) (q : DrAll S B us m) : OverD S (Itz K a b) B (zipD l m) := fun i H1 B1 s o => by
  have h1 : SqL K H1 a vs := SqL.of (o.sub _ _ (s _ _ ha))
  have h2 : SqL K H1 b us := SqL.of (o.sub _ _ (s _ _ hb))
  rw [zip_len, ← r.len, ← q.len]
  refine ⟨fun hi => ⟨vs, us, vs[i]'(by omega), us[i]'(by omega), h1, h2, by simp, by simp⟩, fun hi => ⟨vs, us, h1, h2, by omega⟩, fun v H2 hi y => ?_⟩
  obtain ⟨T, x, y, rfl, hT, rfl, hx, hy⟩ := y
  obtain ⟨d, hd, rd⟩ := r.atV (hx vs h1)
  obtain ⟨e, he, re⟩ := q.atV (hy us h2)
  obtain ⟨B2, g, rp⟩ := pair_new o hT (rd.mono s) (re.mono s)
  exact ⟨B2, _, g, zip_at l m i d e hd he, rp⟩
theorem over_zipT {B : Hp} {a b : Addr} {vs us : List V} {l m : List D} (ha : SqT S.K B a vs) (hb : SqT S.K B b us) (r : DrAll S B vs l) (q : DrAll S B us m) : OverD S (ItzT S.K a b) B (zipD l m) := fun i H1 B1 s o => by
  have h1 : SqT S.K H1 a vs := Same.tupK o.sub (Same.tupK s ha)
  have h2 : SqT S.K H1 b us := Same.tupK o.sub (Same.tupK s hb)
  rw [zip_len, ← r.len, ← q.len]
  refine ⟨fun hi => ⟨vs, us, vs[i]'(by omega), us[i]'(by omega), h1, h2, by simp, by simp⟩, fun hi => ⟨vs, us, h1, h2, by omega⟩, fun v H2 hi y => ?_⟩
  obtain ⟨T, x, y, rfl, hT, rfl, hx, hy⟩ := y
  obtain ⟨d, hd, rd⟩ := r.atV (hx vs h1)
  obtain ⟨e, he, re⟩ := q.atV (hy us h2)
  obtain ⟨B2, g, rp⟩ := pair_new o hT (rd.mono s) (re.mono s)
  exact ⟨B2, _, g, zip_at l m i d e hd he, rp⟩
theorem sndI_any (c : CxIs S P w mg base k C E X) {tg e : Expr} {ρ : List Sl} {t : T D} (he : SndE S X E e ρ t) : SndI S X E tg e ρ (known t walkD) := fun H0 B0 H B σ R p h => by
  cases t with
  | ret d =>
    have h : wpT (walkD d) _ _ := h
    unfold walkD at h
    split at h
    · refine ⟨_, pi_list peW, ?_⟩
      show W X e σ H fun x H1 => ∃ a, x = .ref a ∧ (∃ xs, SqL X.K H1 a xs) ∧ R (Itl X.K a) H1
      refine he _ _ _ _ _ _ p (show Aft S H B _ _ from fun v H1 B1 g1 r1 => ?_)
      cases r1 with
      | lst h1 r1 => exact ⟨_, rfl, ⟨_, SqL.of (g1.ok.sub _ _ h1)⟩, h _ H1 B1 g1 (.of (Kw.over_lst _ _) (fun H2 B2 s o => SqL.of (o.sub _ _ (s _ _ h1))) r1)⟩
    · refine ⟨_, pi_tup peW, ?_⟩
      show W X e σ H fun x H1 => ∃ a, x = .ref a ∧ (∃ xs, SqT X.K H1 a xs) ∧ R (Itt X.K a) H1
      refine he _ _ _ _ _ _ p (show Aft S H B _ _ from fun v H1 B1 g1 r1 => ?_)
      cases r1 with
      | tup h1 r1 => exact ⟨_, rfl, ⟨_, by rw [c.K]; exact seqT_of g1.ok h1⟩, h _ H1 B1 g1 (.of (Kw.over_tup _ _) (fun H2 B2 s o => by rw [c.K]; exact Same.tupK o.sub (Same.tupK s h1)) r1)⟩
    · refine ⟨_, pi_str peW, ?_⟩
      show W X e σ H fun v H1 => ∃ x, v = .str x ∧ R (Its x) H1
      refine he _ _ _ _ _ _ p (show Aft S H B _ _ from fun v H1 B1 g1 r1 => ?_)
      cases r1
      exact ⟨_, rfl, h _ H1 B1 g1 (.of (Kw.over_str _) (fun _ _ _ _ => trivial) (drAll_signs _))⟩
    · exact h.elim
  | exc cc fs =>
    refine ⟨_, pi_list peW, ?_⟩
    show W X e σ H fun x H1 => ∃ a, x = .ref a ∧ (∃ xs, SqL X.K H1 a xs) ∧ R (Itl X.K a) H1
    exact he _ _ _ _ _ _ p h
  | _ => exact h.elim
theorem star_one {e : Expr} {env : Env} (h : isStar e = false) : starEach [e] env = [(false, eval e env)] := star_cons h
theorem sndI_rng1 (c : CxIs S P w mg base k C E X) (tx : Text S G P w mg base k call) {tg a : Expr} {p0 pos : Pos} {ρ : List Sl} {t : T D} (hg : isGlo C.sc "range" = true) (hs : isStar a = false) (ha : SndE S X E a ρ t) :
    SndI S X E tg (.Call (.Name "range" p0) [a] [] pos) ρ (t.bind fun d => (asInt d).bind fun j => if -(2 ^ 62) ≤ j ∧ j < 2 ^ 62 then .ret (intsD 0 j.toNat) else .fail) := fun H0 B0 H B σ R p h => by
  refine ⟨_, pi_range1 (c.glo hg) (by rw [c.mg]; exact tx.rng) (pa_cons peW pa_nil (star_cons hs)) (star_one hs), ?_⟩
  show W X a σ H fun x H1 => ∃ j : Int, [x] = [.int j] ∧ -(2 ^ 62) ≤ j ∧ j < 2 ^ 62 ∧ R (Itr 0 j.toNat) H1
  refine sndE_then ha p h fun d v H1 B1 g1 r1 h1 => ?_
  rw [wpT_bind] at h1
  obtain ⟨j, rfl, h2⟩ := wp_asInt h1
  split at h2
  · rename_i z
    exact ⟨j, by rw [dr_int r1], z.1, z.2, h2 _ H1 B1 g1 (.of (over_rngL 0 j.toNat) (fun _ _ _ _ => trivial) (drAll_rng 0 _))⟩
  · exact h2.elim
theorem sndI_rng2 (c : CxIs S P w mg base k C E X) (tx : Text S G P w mg base k call) {tg a b : Expr} {p0 pos : Pos} {ρ : List Sl} {t u : T D} (hg : isGlo C.sc "range" = true) (hs : isStar a = false) (hs2 : isStar b = false) (ha : SndE S X E a ρ t) (hb : SndE S X E b ρ u) :
    SndI S X E tg (.Call (.Name "range" p0) [a, b] [] pos) ρ (t.bind fun d => u.bind fun e => (asInt d).bind fun i => (asInt e).bind fun j => if -(2 ^ 62) ≤ i ∧ i < 2 ^ 62 ∧ -(2 ^ 62) ≤ j ∧ j < 2 ^ 62 then .ret (intsD i (j - i).toNat) else .fail) := fun H0 B0 H B σ R p h => by
  refine ⟨_, pi_range2 (c.glo hg) (by rw [c.mg]; exact tx.rng) (pa_cons peW (pa_cons peW pa_nil (star_cons hs2)) (star_cons hs)) (by rw [star_cons hs, star_one hs2]) (star_one hs2), ?_⟩
  show W X a σ H fun x H1 => W X b σ H1 fun y H2 => ∃ i j : Int, [x, y] = [.int i, .int j] ∧ (-(2 ^ 62) ≤ i ∧ i < 2 ^ 62 ∧ -(2 ^ 62) ≤ j ∧ j < 2 ^ 62) ∧ R (Itr i (j - i).toNat) H2
  refine sndE_then ha p h fun d v H1 B1 g1 r1 h1 => ?_
  refine sndE_then hb (p.grow g1) h1 fun e y H2 B2 g2 r2 h2 => ?_
  rw [wpT_bind] at h2
  obtain ⟨i, rfl, h3⟩ := wp_asInt h2
  rw [wpT_bind] at h3
  obtain ⟨j, rfl, h4⟩ := wp_asInt h3
  split at h4
  · rename_i z
    exact ⟨i, j, by rw [dr_int r1, dr_int r2], z, h4 _ H2 B2 (g1.trans g2) (.of (over_rngL i _) (fun _ _ _ _ => trivial) (drAll_rng i _))⟩
  · exact h4.elim
theorem sndI_enum (c : CxIs S P w mg base k C E X) (tx : Text S G P w mg base k call) {tg a : Expr} {p0 pos : Pos} {ρ : List Sl} {t : T D} (hg : isGlo C.sc "enumerate" = true) (ht : isTup tg = true) (hs : isStar a = false) (ha : SndE S X E a ρ t) :
    SndI S X E tg (.Call (.Name "enumerate" p0) [a] [] pos) ρ (known t fun d => match d with | .lst l => .ret (pairs 0 l) | .tup l => .ret (pairs 0 l) | _ => .fail) := fun H0 B0 H B σ R p h => by
  cases tg <;> first | (cases ht; done) | skip
  have L : ∀ {Q : VK}, W X a σ H Q → True := fun _ => trivial
  cases t with
  | ret d =>
    have h : wpT (match d with | .lst l => .ret (pairs 0 l) | .tup l => .ret (pairs 0 l) | _ => .fail) _ _ := h
    split at h
    · refine ⟨_, pi_enum (c.glo hg) (by rw [c.mg]; exact tx.enm) (pa_cons peW pa_nil (star_cons hs)) (star_one hs), ?_⟩
      show W X a σ H fun x H1 => ∃ a xs, [x] = [.ref a] ∧ SqL X.K H1 a xs ∧ R (Ite X.K a) H1
      refine ha _ _ _ _ _ _ p (show Aft S H B _ _ from fun v H1 B1 g1 r1 => ?_)
      cases r1 with
      | lst h1 r1 => exact ⟨_, _, rfl, SqL.of (g1.ok.sub _ _ h1), h _ H1 B1 g1 (over_enumL (H := H1) h1 r1)⟩
    · refine ⟨_, pi_enumT (c.glo hg) (by rw [c.mg]; exact tx.enm) (pa_cons peW pa_nil (star_cons hs)) (star_one hs), ?_⟩
      show W X a σ H fun x H1 => ∃ a xs, [x] = [.ref a] ∧ SqT X.K H1 a xs ∧ R (IteT X.K a) H1
      refine ha _ _ _ _ _ _ p (show Aft S H B _ _ from fun v H1 B1 g1 r1 => ?_)
      cases r1 with
      | tup h1 r1 => exact ⟨_, _, rfl, by rw [c.K]; exact seqT_of g1.ok h1, h _ H1 B1 g1 (by rw [c.K]; exact over_enumT h1 r1)⟩
    · exact h.elim
  | exc cc fs =>
    refine ⟨_, pi_enum (c.glo hg) (by rw [c.mg]; exact tx.enm) (pa_cons peW pa_nil (star_cons hs)) (star_one hs), ?_⟩
    show W X a σ H fun x H1 => ∃ a xs, [x] = [.ref a] ∧ SqL X.K H1 a xs ∧ R (Ite X.K a) H1
    exact ha _ _ _ _ _ _ p h
  | _ => exact h.elim
theorem sndI_zip (c : CxIs S P w mg base k C E X) (tx : Text S G P w mg base k call) {tg a b : Expr} {p0 pos : Pos} {ρ : List Sl} {t u : T D} (hg : isGlo C.sc "zip" = true) (ht : isTup tg = true) (hs : isStar a = false) (hs2 : isStar b = false) (ha : SndE S X E a ρ t) (hb : SndE S X E b ρ u) :
    SndI S X E tg (.Call (.Name "zip" p0) [a, b] [] pos) ρ (t.bind fun d => u.bind fun e => match d, e with | .lst l, .lst m => .ret (zipD l m) | .tup l, .tup m => .ret (zipD l m) | _, _ => .fail) := fun H0 B0 H B σ R p h => by
  cases tg <;> first | (cases ht; done) | skip
  refine ⟨_, pi_zipA (c.glo hg) (by rw [c.mg]; exact tx.zip) (pa_cons peW (pa_cons peW pa_nil (star_cons hs2)) (star_cons hs)) (star_cons hs) (star_any (by rw [List.any_cons, hs2]; rfl)), ?_⟩
  show W X a σ H fun x H1 => W X b σ H1 fun y H2 => ∃ a b xs ys, [x, y] = [.ref a, .ref b] ∧ ((SqL X.K H2 a xs ∧ SqL X.K H2 b ys ∧ R (Itz X.K a b) H2) ∨ (SqT X.K H2 a xs ∧ SqT X.K H2 b ys ∧ R (ItzT X.K a b) H2))
  refine sndE_then ha p h fun d v H1 B1 g1 r1 h1 => ?_
  refine sndE_then hb (p.grow g1) h1 fun e y H2 B2 g2 r2 h2 => ?_
  split at h2
  · have r1 := r1.mono g2.bb
    cases r1 with
    | lst k1 q1 => cases r2 with
      | lst k2 q2 => exact ⟨_, _, _, _, rfl, .inl ⟨SqL.of (g2.ok.sub _ _ k1), SqL.of (g2.ok.sub _ _ k2), h2 _ H2 B2 (g1.trans g2) (over_zipL k1 k2 q1 q2)⟩⟩
  · have r1 := r1.mono g2.bb
    cases r1 with
    | tup k1 q1 => cases r2 with
      | tup k2 q2 => exact ⟨_, _, _, _, rfl, .inr ⟨by rw [c.K]; exact seqT_of g2.ok k1, by rw [c.K]; exact seqT_of g2.ok k2, h2 _ H2 B2 (g1.trans g2) (by rw [c.K]; exact over_zipT k1 k2 q1 q2)⟩⟩
  · exact h2.elim

/-! ### targets -/
theorem wipe_set {σ : L2.St} {i : Nat} {o : Option V} : ∀ {vs : List Nat}, i ∈ vs → L2.wipe (σ.set i o) vs = L2.wipe σ vs
  | v :: vs, h => by
    unfold L2.wipe
    by_cases e : i ∈ vs
    · rw [wipe_set e]
    · have ev : i = v := by
        rcases List.mem_cons.mp h with z | z
        · exact z
        · exact absurd z e
      have out : ∀ (us : List Nat) (τ : L2.St), i ∉ us → L2.wipe (τ.set i o) us = (L2.wipe τ us).set i o := by
        intro us
        induction us with
        | nil => intro τ _; rfl
        | cons u us ih =>
          intro τ hu
          rw [List.mem_cons, not_or] at hu
          unfold L2.wipe
          rw [ih τ hu.2, List.set_comm _ _ hu.1]
      rw [out vs σ e, ← ev, List.set_set]
theorem loc_of {x : Str} (h : isLoc C x = true) : Loc C.sc x ∧ (C.fn x = true ∨ C.sc.names.lookup x = some .local) := by
  unfold isLoc at h
  split at h
  · rename_i e
    exact ⟨.inl e, .inr e⟩
  · rename_i e
    exact ⟨.inr e, .inl h⟩
  · cases h
theorem pg_nameW (c : CxIs S P w mg base k C E X) {x : Str} {pos : Pos} {i : Nat} (hl : isLoc C x = true) (hi : ixOf x C.N = some i) : PG X (.Name x pos) (gName i) := by
  obtain ⟨h1, h2⟩ := loc_of hl
  exact pg_name c.Nn (by rw [c.N]; exact ixOf_at hi) (by rw [c.sc]; exact h1) (by rw [c.sc]; exact h2.elim (fun h => .inl (c.fn _ h)) .inr)
theorem snd_nm (c : CxIs S P w mg base k C E X) {x : Str} {pos : Pos} {ρ : List Sl} {H0 B0 H B : Hp} {σ : L2.St} {v : V} {d : D} {Q : L2.St → Hp → Prop} {E1 : Str → List D → Prop} (p : Rep S H0 B0 ρ σ H B) (r : Dr S B v d)
    (h : wpT (bindN C ρ x d) (fun ρ' => ∀ σ', Rep S H0 B0 ρ' σ' H B → (∀ vs, nameIn C.N vs (.Name x pos) = true → L2.wipe σ' vs = L2.wipe σ vs) → Q σ' H) E1) : WG X (.Name x pos) v σ H Q := by
  unfold bindN at h
  split at h
  · rename_i hl
    split at h
    · rename_i i hi
      refine ⟨_, pg_nameW c hl hi, ?_⟩
      refine h _ (p.set r i) fun vs hv => wipe_set ?_
      have hv : (match ixOf x C.N with
        | some i => vs.contains i
        | none => false) = true := hv
      rw [hi] at hv
      have hv : vs.contains i = true := hv
      simpa using hv
    · exact h.elim
  · exact h.elim
theorem bindNs_names : ∀ {es : List Expr} {ds : List D} {ρ : List Sl} {P' : List Sl → Prop} {E1 : Str → List D → Prop}, wpT (bindNs C ρ es ds) P' E1 → es.all isName = true ∧ es.length = ds.length
  | [], [], _, _, _, _ => ⟨rfl, rfl⟩
  | [], _ :: _, _, _, _, h => h.elim
  | e :: es, ds, ρ, P', E1, h => by
    cases e with
    | Name x pos =>
      cases ds with
      | nil => exact h.elim
      | cons d ds =>
        have h : wpT ((bindN C ρ x d).bind fun ρ' => bindNs C ρ' es ds) P' E1 := h
        unfold bindN at h
        split at h
        · split at h
          · obtain ⟨h1, h2⟩ := bindNs_names (show wpT (bindNs C _ es ds) P' E1 from h)
            exact ⟨by rw [List.all_cons, h1]; rfl, by rw [List.length_cons, List.length_cons, h2]⟩
          · exact h.elim
        · exact h.elim
    | _ => cases ds <;> exact h.elim
theorem snd_nms (c : CxIs S P w mg base k C E X) : ∀ {es : List Expr} {ds : List D} {vs : List V} {ρ : List Sl} {H0 B0 H B : Hp} {σ : L2.St} {Q : L2.St → Hp → Prop} {E1 : Str → List D → Prop}, Rep S H0 B0 ρ σ H B → DrAll S B vs ds →
    wpT (bindNs C ρ es ds) (fun ρ' => ∀ σ', Rep S H0 B0 ρ' σ' H B → (∀ us, es.all (nameIn C.N us) = true → L2.wipe σ' us = L2.wipe σ us) → Q σ' H) E1 → WGs X es vs σ H Q
  | [], [], _, _, _, _, _, _, _, _, _, p, r, h => by
    cases r
    exact ⟨_, pgs_nil, rfl, h _ p fun _ _ => rfl⟩
  | [], _ :: _, _, _, _, _, _, _, _, _, _, _, _, h => h.elim
  | e :: es, ds, vs, ρ, H0, B0, H, B, σ, Q, E1, p, r, h => by
    cases e with
    | Name x pos =>
      cases ds with
      | nil => exact h.elim
      | cons d ds =>
        cases r with
        | cons a r =>
          have h : wpT ((bindN C ρ x d).bind fun ρ' => bindNs C ρ' es ds) _ E1 := h
          rw [wpT_bind] at h
          refine ⟨_, pgs_cons pgW pgsW, _, _, rfl, ?_⟩
          refine snd_nm c p a (wpT_mono h (fun ρ' hρ σ' p' wq => ?_) fun _ _ a => a)
          refine snd_nms c p' r (wpT_mono hρ (fun ρ2 h2 σ2 p2 w2 => h2 σ2 p2 fun us hu => ?_) fun _ _ a => a)
          rw [List.all_cons, Bool.and_eq_true] at hu
          rw [w2 us hu.2, wq us hu.1]
    | _ => cases ds <;> exact h.elim
theorem each_names {env : Env} : ∀ {es : List Expr}, es.all isName = true → (assignEach es env).length = es.length ∧ (assignEach es env).findIdx? (·.1) = none
  | [], _ => ⟨rfl, rfl⟩
  | e :: es, h => by
    rw [List.all_cons, Bool.and_eq_true] at h
    cases e with
    | Name x pos =>
      obtain ⟨h1, h2⟩ := each_names (env := env) h.2
      refine ⟨?_, ?_⟩
      · show (assignEach es env).length + 1 = es.length + 1
        rw [h1]
      · show ((false, assign (.Name x pos) env) :: assignEach es env).findIdx? (·.1) = none
        rw [List.findIdx?_cons, h2]
        rfl
    | _ => cases h.1
theorem snd_tg (c : CxIs S P w mg base k C E X) {tg : Expr} {ρ : List Sl} {H0 B0 H B : Hp} {σ : L2.St} {v : V} {d : D} {Q : L2.St → Hp → Prop} {E1 : Str → List D → Prop} (p : Rep S H0 B0 ρ σ H B) (r : Dr S B v d)
    (h : wpT (bindT C ρ tg d) (fun ρ' => ∀ σ', Rep S H0 B0 ρ' σ' H B → (∀ vs, tgIn C.N vs tg = true → L2.wipe σ' vs = L2.wipe σ vs) → Q σ' H) E1) : WG X tg v σ H Q := by
  cases tg with
  | Name x pos => exact snd_nm c p r h
  | Tuple es j pos =>
    cases d with
    | tup ds =>
      cases r with
      | tup h1 r1 =>
        have h : wpT (bindNs C ρ es ds) _ E1 := h
        obtain ⟨n1, n2⟩ := bindNs_names h
        obtain ⟨l1, l2⟩ := each_names (env := X.env) n1
        refine ⟨_, pg_tup c.calm pgsW l1 l2, _, _, rfl, by rw [c.K]; exact seqT_of p.ok h1, by rw [r1.len, n2], ?_⟩
        exact snd_nms c p r1 h
    | lst ds =>
      cases r with
      | lst h1 r1 =>
        have h : wpT (bindNs C ρ es ds) _ E1 := h
        obtain ⟨n1, n2⟩ := bindNs_names h
        obtain ⟨l1, l2⟩ := each_names (env := X.env) n1
        refine ⟨_, pg_lst c.calm pgsW l1 l2, _, _, rfl, SqL.of (p.ok.sub _ _ h1), by rw [r1.len, n2], ?_⟩
        exact snd_nms c p r1 h
    | _ => exact h.elim
  | _ => exact h.elim
end
end Ev

/-! Comprehensions, and all expressions at once. -/
namespace Ev
open PySem PySem.Spec L2 PyProof.Rows RZ
section
variable {S : Sem0} {G : Info} {P : Program} {w : World} {mg : Str → Option Value} {base : Heap} {k : Nat} {call : Str → List D → T D} {C : Sc0} {E : XK} {X : Cx}
theorem Grow.putN {H1 B1 H2 B2 : Hp} {a : Addr} {o : HO} (g : Grow S H1 B1 H2 B2) (n1 : H1 a = none) (n2 : B2 a = none) (nr : a ≠ S.r) : Grow S H1 B1 (upd H2 a o) B2 :=
  ⟨g.bb, g.fr, fun b u n h => by rw [upd_ne (ne_of_none h n1)]; exact g.kp b u n h, g.ok.put n2 nr o⟩
theorem Grow.frz {H1 B1 H2 B2 : Hp} {a : Addr} {o : HO} (g : Grow S H1 B1 H2 B2) (n1 : H1 a = none) (h2 : H2 a = some o) (n2 : B2 a = none) (nr : a ≠ S.r) : Grow S H1 B1 H2 (upd B2 a o) := by
  obtain ⟨k1, k2⟩ := Grow.freeze g.ok h2 n2 nr
  exact ⟨g.bb.trans k2, fun b u h hb => by rw [upd_ne (ne_of_none h n1)]; exact g.fr b u h hb, g.kp, k1⟩
theorem Grow.none {H1 B1 H2 B2 : Hp} (g : Grow S H1 B1 H2 B2) {a : Addr} (h : H2 a = Option.none) : H1 a = Option.none := by
  cases e : H1 a with
  | none => rfl
  | some o =>
    have n : a ≠ S.r := g.ok.ne h
    rw [g.kp a o n e] at h
    cases h
theorem wipe_wipe {σ : L2.St} {vs : List Nat} : ∀ {us : List Nat}, (∀ u ∈ us, u ∈ vs) → L2.wipe (L2.wipe σ us) vs = L2.wipe σ vs
  | [], _ => rfl
  | u :: us, h => by
    show L2.wipe ((L2.wipe σ us).set u none) vs = _
    rw [wipe_set (h u List.mem_cons_self)]
    exact wipe_wipe fun v hv => h v (List.mem_cons_of_mem _ hv)
theorem safe_any {α : Type} {t : T α} {P' : α → Prop} {E1 : Str → List D → Prop} (h : wpT t.safe P' E1) (E2 : Str → List D → Prop) : wpT t.safe P' E2 := by
  induction t with
  | ret a => exact h
  | fail => exact h
  | exc c fs => exact (show False from h).elim
  | draw n k ih => exact ⟨h.1, fun i a b => ih i (h.2 i a b)⟩
theorem comp_any {t : D → T (Option D)} : ∀ {ds : List D} {P' : List D → Prop} {E1 : Str → List D → Prop}, wpT (compT (fun d => (t d).safe) ds) P' E1 → ∀ E2, wpT (compT (fun d => (t d).safe) ds) P' E2
  | [], _, _, h, _ => h
  | d :: ds, P', E1, h, E2 => by
    have h : wpT (((t d).safe).bind fun b => (compT (fun d => (t d).safe) ds).bind fun bs => .ret (match b with | some b => b :: bs | none => bs)) P' E1 := h
    show wpT (((t d).safe).bind fun b => (compT (fun d => (t d).safe) ds).bind fun bs => .ret (match b with | some b => b :: bs | none => bs)) P' E2
    rw [wpT_bind] at h ⊢
    refine wpT_mono (safe_any h E2) (fun b hb => ?_) fun _ _ a => a
    rw [wpT_bind] at hb ⊢
    exact comp_any hb E2
/-- the block of a comprehension -/
theorem CxIs.blk (c : CxIs S P w mg base k C E X) (s : Shared) (H : Hp) (sc' : Scope) (cc : Addr) (cl : List (Str × Addr)) (fp : List Addr) : CxIs S P w mg base k (C.blk sc') E0 (X.blk s H sc' (compEnvC sc' cl cc X.env) fp) := by
  obtain ⟨e1, e2, e3, e4, e5, eN, nd, esc, fn, calm, room, pass, tk, po⟩ := c
  refine ⟨e1, e2, e3, e4, e5, eN, nd, ?_, fun x h => h, calm, room, ?_, takes0, PassesOwn.never⟩
  · show relabel sc' X.env = relSc sc' C.sc
    rw [← esc]
    rfl
  · subst e1 e2
    exact passL
def SndF (S : Sem0) (X : Cx) (E : XK) (ifs : List Expr) (ρ : List Sl) (t : T Bool) : Prop :=
  ∀ (H0 B0 H B : Hp) (σ : L2.St) (Q : Bool → Hp → Prop), Rep S H0 B0 ρ σ H B → wpT t (fun b => ∀ H' B', Grow S H B H' B' → Q b H') (AftE S H B E) → WF X ifs σ H Q
theorem sndF_nil {ρ : List Sl} : SndF S X E [] ρ (.ret true) := fun H0 B0 H B σ Q p h => ⟨_, pts_nil, h H B (Grow.refl p.ok)⟩
theorem sndF_one {c : Expr} {ρ : List Sl} {t : T Bool} (hc : SndT S X E c ρ t) : SndF S X E [c] ρ t := fun H0 B0 H B σ Q p h => ⟨_, pts_one ptW, hc _ _ _ _ _ _ p h⟩
def gC (S : Sem0) (P : Program) (w : World) (mg : Str → Option Value) (base : Heap) (k : Nat) (C : Sc0) (tg : Expr) : TG := fun v σ H Q => ∀ X', CxIs S P w mg base k C E0 X' → WG X' tg v σ H Q
def fC (S : Sem0) (P : Program) (w : World) (mg : Str → Option Value) (base : Heap) (k : Nat) (C : Sc0) (ifs : List Expr) : TT := fun σ H Q => ∀ X', CxIs S P w mg base k C E0 X' → WF X' ifs σ H Q
def eC (S : Sem0) (P : Program) (w : World) (mg : Str → Option Value) (base : Heap) (k : Nat) (C : Sc0) (e : Expr) : TE := fun σ H Q => ∀ X', CxIs S P w mg base k C E0 X' → W X' e σ H Q
/-- what a comprehension makes: the new list is still open -/
theorem lc_read (c : CxIs S P w mg base k C E X) {tg iter elt : Expr} {ifs : List Expr} {sc' : Scope} {vs : List Nat} {ρ : List Sl} {ti : T (List D)} {tf : List Sl → T Bool} {te : List Sl → T D} (hi : SndI S X E tg iter ρ ti) (htg : tgIn C.N vs tg = true)
    (hf : ∀ ρ' X', CxIs S P w mg base k (C.blk sc') E0 X' → SndF S X' E0 ifs ρ' (tf ρ')) (he : ∀ ρ' X', CxIs S P w mg base k (C.blk sc') E0 X' → SndE S X' E0 elt ρ' (te ρ'))
    {H0 B0 H B : Hp} {σ : L2.St} {Q : VK} (p : Rep S H0 B0 ρ σ H B)
    (h : wpT (ti.bind fun ds => if ds.length ≤ most then compT (fun d => ((bindT (C.blk sc') (wipeR ρ vs) tg d).bind fun ρ' => (tf ρ').bind fun ok => if ok then (te ρ').bind fun x => .ret (some x) else .ret none).safe) ds else .fail)
      (fun xs => ∀ a acc H' B', Grow S H B H' B' → H a = none → H' a = some (.lst acc) → B' a = none → DrAll S B' acc xs → Q (.ref a) H') (AftE S H B E)) :
    tLc (WI X tg iter) (gC S P w mg base k (C.blk sc') tg) (fC S P w mg base k (C.blk sc') ifs) (eC S P w mg base k (C.blk sc') elt) vs σ H Q := by
  rw [wpT_bind] at h
  refine hi _ _ _ _ _ _ p (wpT_mono h (fun ds hd J H1 B1 g1 ov => ?_) fun _ _ a => a)
  split at hd
  case isFalse => exact hd.elim
  rename_i hz
  intro D hD
  have nr : D ≠ S.r := g1.ok.ne hD
  generalize hfn : (fun d => ((bindT (C.blk sc') (wipeR ρ vs) tg d).bind fun ρ' => (tf ρ').bind fun ok => if ok then (te ρ').bind fun x => .ret (some x) else .ret none).safe) = f at hd
  have hd := (show wpT (compT f ds) _ (fun _ _ => False) by rw [← hfn] at hd ⊢; exact comp_any hd _)
  have nx : ∀ i, i < ds.length → ∃ d, ds[i]? = some d ∧ ds.drop i = d :: ds.drop (i + 1) := fun i hi => ⟨ds[i], List.getElem?_eq_getElem hi, List.drop_eq_getElem_cons hi⟩
  refine ⟨fun i m H' => m = ds.length - i ∧ i ≤ ds.length ∧ ∃ acc B' dn, H' D = some (.lst acc) ∧ B' D = none ∧ Grow S H1 B1 H' B' ∧ DrAll S B' acc dn ∧ acc.length ≤ i ∧
      wpT (compT f (ds.drop i)) (fun xs => ∀ a acc H' B', Grow S H B H' B' → H a = none → H' a = some (.lst acc) → B' a = none → DrAll S B' acc (dn ++ xs) → Q (.ref a) H') (fun _ _ => False),
    ⟨ds.length, by simp, Nat.zero_le _, [], B1, [], upd_same, g1.ok.free hD, Grow.open_ g1.ok hD _, .nil, Nat.zero_le _, hd⟩, ?_⟩
  rintro i m H2 ⟨rfl, hi, acc, B2, dn, hD2, nB2, g2, ra, la, hw⟩
  obtain ⟨o1, o2, o3⟩ := ov i H2 B2 g2.bb g2.ok
  by_cases hlt : i < ds.length
  · obtain ⟨d, hdi, hdr⟩ := nx i hlt
    rw [hdr] at hw
    have hw : wpT ((f d).bind fun b => (compT f (ds.drop (i + 1))).bind fun bs => .ret (match b with | some b => b :: bs | none => bs)) _ _ := hw
    rw [wpT_bind] at hw
    refine .inr ⟨o1 hlt, fun H' => ∃ acc B' dn, H' D = some (.lst acc) ∧ B' D = none ∧ Grow S H1 B1 H' B' ∧ DrAll S B' acc dn ∧ acc.length ≤ i + 1 ∧
      wpT (compT f (ds.drop (i + 1))) (fun xs => ∀ a acc H' B', Grow S H B H' B' → H a = none → H' a = some (.lst acc) → B' a = none → DrAll S B' acc (dn ++ xs) → Q (.ref a) H') (fun _ _ => False), fun H' q => ⟨ds.length - (i + 1), by omega, rfl, hlt, q⟩, fun x H3 y => ?_⟩
    obtain ⟨B3, d', g3, hd', r3⟩ := o3 x H3 hlt y
    rw [hdi] at hd'
    cases hd'
    have g13 := g2.trans g3
    have hD3 : H3 D = some (.lst acc) := g3.kp _ _ nr hD2
    have nB3 : B3 D = none := g3.fr _ _ hD2 nB2
    have p3 := (p.grow (g1.trans g13)).wipe vs
    rw [show f d = ((bindT (C.blk sc') (wipeR ρ vs) tg d).bind fun ρ' => (tf ρ').bind fun ok => if ok then (te ρ').bind fun x => .ret (some x) else .ret none).safe by rw [← hfn]] at hw
    have hw := wpT_safe hw (AftE S H3 B3 E0)
    rw [wpT_bind] at hw
    intro X' c'
    refine snd_tg c' p3 r3 (wpT_mono hw (fun ρ' hρ σ' p' wq => ⟨by rw [wq vs htg, wipe_wipe fun u hu => hu], fun X2 c2 => ?_⟩) fun _ _ a => a)
    rw [wpT_bind] at hρ
    refine hf ρ' X2 c2 _ _ _ _ _ _ p' (wpT_mono hρ (fun ok hok H4 B4 g4 => ?_) fun _ _ a => a)
    have hD4 : H4 D = some (.lst acc) := g4.kp _ _ nr hD3
    have nB4 : B4 D = none := g4.fr _ _ hD3 nB3
    cases ok with
    | false =>
      refine iteF ⟨acc, B4, dn, hD4, nB4, g13.trans g4, ra.mono (g3.bb.trans g4.bb), by omega, ?_⟩
      have hok : wpT ((compT f (ds.drop (i + 1))).bind fun bs => .ret bs) _ _ := hok
      rw [bind_ret_right] at hok
      exact hok
    | true =>
      refine iteT fun X3 c3 => ?_
      have hok : wpT ((te ρ').bind fun x => .ret (some x)) _ _ := hok
      rw [wpT_bind] at hok
      refine he ρ' X3 c3 _ _ _ _ _ _ (p'.grow g4) (wpT_mono hok (fun xd hx yv H5 B5 g5 r5 => ?_) fun _ _ a => a.grow g4)
      have hD5 : H5 D = some (.lst acc) := g5.kp _ _ nr hD4
      have nB5 : B5 D = none := g5.fr _ _ hD4 nB4
      refine ⟨acc, hD5, Nat.lt_of_le_of_lt (Nat.le_trans la (Nat.le_trans (Nat.le_of_lt hlt) hz)) (by decide), acc ++ [yv], B5, dn ++ [xd], upd_same, nB5, ((g13.trans g4).trans g5).putN hD nB5 nr, ?_, by rw [List.length_append]; exact Nat.succ_le_succ la, ?_⟩
      · exact (ra.mono ((g3.bb.trans g4.bb).trans g5.bb)).app (.cons r5 .nil)
      · have hx : wpT ((compT f (ds.drop (i + 1))).bind fun bs => .ret (xd :: bs)) _ _ := hx
        rw [wpT_bind] at hx
        refine wpT_mono hx (fun xs hxs => ?_) fun _ _ a => a
        rw [List.append_assoc]
        exact hxs
  · have e : i = ds.length := by omega
    refine .inl ⟨o2 (by omega), ?_⟩
    rw [e, List.drop_length] at hw
    have hw : ∀ a acc H' B', Grow S H B H' B' → H a = none → H' a = some (.lst acc) → B' a = none → DrAll S B' acc (dn ++ []) → Q (.ref a) H' := hw
    rw [List.append_nil] at hw
    exact hw D acc H2 B2 (g1.trans g2) (g1.none hD) hD2 nB2 ra
theorem blkD_ok {sc' : Scope} {own : List (Str × Nat)} (c : CxIs S P w mg base k C E X) (h : blkD C.N C.sc sc' own = true) : BlkOk X.N X.env.scope sc' own := by
  rw [c.N, c.sc]
  exact blkOk_by h
theorem snd_lc (c : CxIs S P w mg base k C E X) {tg iter elt : Expr} {ifs : List Expr} {sc' : Scope} {pos : Pos} {ρ : List Sl} {ti : T (List D)} {tf : List Sl → T Bool} {te : List Sl → T D} (hset : isSet iter = false) (htg : tgIn C.N ((ownOf C.N sc').map (·.2)) tg = true) (hblk : blkD C.N C.sc sc' (ownOf C.N sc') = true) (hi : SndI S X E tg iter ρ ti)
    (hf : ∀ ρ' X', CxIs S P w mg base k (C.blk sc') E0 X' → SndF S X' E0 ifs ρ' (tf ρ')) (he : ∀ ρ' X', CxIs S P w mg base k (C.blk sc') E0 X' → SndE S X' E0 elt ρ' (te ρ')) :
    SndE S X E (.ListComp elt [⟨tg, iter, ifs, 0⟩] sc' pos) ρ (ti.bind fun ds => if ds.length ≤ most then
        (compT (fun d => ((bindT (C.blk sc') (wipeR ρ ((ownOf C.N sc').map (·.2))) tg d).bind fun ρ' => (tf ρ').bind fun ok => if ok then (te ρ').bind fun x => .ret (some x) else .ret none).safe) ds).bind fun xs => .ret (.lst xs) else .fail) := fun H0 B0 H B σ Q p h => by
  refine ⟨_, pe_lc (own := ownOf C.N sc') (g := gC S P w mg base k (C.blk sc') tg) (tt := fC S P w mg base k (C.blk sc') ifs) (te := eC S P w mg base k (C.blk sc') elt) c.calm c.Nn piW (blkD_ok c hblk) (fun s H cc cl fp => ⟨fun pins s' σ' H' v u Q' I r hh => pgW.run pins s' σ' H' v u Q' I r (hh _ (c.blk s H sc' cc cl fp))⟩)
    (fun s H cc cl fp => ⟨fun pins s' σ' H' Q' I hh => pfW.run pins s' σ' H' Q' I (hh _ (c.blk s H sc' cc cl fp))⟩) (fun s H cc cl fp => ⟨fun pins s' σ' H' Q' I hh => peW.run pins s' σ' H' Q' I (hh _ (c.blk s H sc' cc cl fp))⟩) (fold_set hset), ?_⟩
  refine lc_read c hi htg hf he p ?_
  rw [wpT_bind] at h ⊢
  refine wpT_mono h (fun ds hds => ?_) fun _ _ a => a
  split at hds
  · rename_i z
    rw [if_pos z]
    rw [wpT_bind] at hds
    refine wpT_mono hds (fun xs hx a acc H' B' g n1 h2 n2 r => ?_) fun _ _ a => a
    have nr : a ≠ S.r := (p.ok).ne n1
    have g' := g.frz n1 h2 n2 nr
    have sb : Same B' (upd B' a (.lst acc)) := (Grow.freeze g.ok h2 n2 nr).2
    exact hx _ H' _ g' (.lst upd_same (r.mono sb))
  · exact hds.elim
end
end Ev

/-! All expressions at once. -/
namespace Ev
open PySem PySem.Spec L2 PyProof.Rows RZ
section
variable {S : Sem0} {G : Info} {P : Program} {w : World} {mg : Str → Option Value} {base : Heap} {k : Nat} {call : Str → List D → T D}
structure Snd (S : Sem0) (G : Info) (P : Program) (w : World) (mg : Str → Option Value) (base : Heap) (k : Nat) (call : Str → List D → T D) (m : Nat) : Prop where
  e : ∀ C E X, CxIs S P w mg base k C E X → ∀ ρ e, SndE S X E e ρ (evE G call m C ρ e)
  t : ∀ C E X, CxIs S P w mg base k C E X → ∀ ρ e, SndT S X E e ρ (evT G call m C ρ e)
  b : ∀ C E X, CxIs S P w mg base k C E X → ∀ ρ op vs pos, SndW S X E (.BoolOp op vs pos) ρ (evT G call m C ρ (.BoolOp op vs pos))
  o : ∀ C E X, CxIs S P w mg base k C E X → ∀ ρ e, SndO S X E e ρ (evO G call m C ρ e)
  i : ∀ C E X, CxIs S P w mg base k C E X → ∀ ρ tg e, SndI S X E tg e ρ (evI G call m C ρ tg e)
  f : ∀ C E X, CxIs S P w mg base k C E X → ∀ ρ es, SndF S X E es ρ (evF G call m C ρ es)
theorem sndE_fail {X : Cx} {E : XK} {e : Expr} {ρ : List Sl} : SndE S X E e ρ .fail := fun _ _ _ _ _ _ _ h => h.elim
theorem sndT_fail {X : Cx} {E : XK} {e : Expr} {ρ : List Sl} : SndT S X E e ρ .fail := fun _ _ _ _ _ _ _ h => h.elim
theorem sndW_fail {X : Cx} {E : XK} {e : Expr} {ρ : List Sl} : SndW S X E e ρ .fail := fun _ _ _ _ _ _ _ h => h.elim
theorem sndO_fail {X : Cx} {E : XK} {e : Option Expr} {ρ : List Sl} : SndO S X E e ρ .fail := fun _ _ _ _ _ _ _ h => h.elim
theorem sndI_fail {X : Cx} {E : XK} {tg e : Expr} {ρ : List Sl} : SndI S X E tg e ρ .fail := fun _ _ _ _ _ _ _ h => h.elim
theorem sndF_fail {X : Cx} {E : XK} {e : List Expr} {ρ : List Sl} : SndF S X E e ρ .fail := fun _ _ _ _ _ _ _ h => h.elim
theorem snd_zero : Snd S G P w mg base k call 0 := ⟨fun _ _ _ _ _ _ => sndE_fail, fun _ _ _ _ _ _ => sndT_fail, fun _ _ _ _ _ _ _ _ => sndW_fail, fun _ _ _ _ _ _ => sndO_fail, fun _ _ _ _ _ _ _ => sndI_fail, fun _ _ _ _ _ _ => sndF_fail⟩
section
variable {m : Nat} (ih : Snd S G P w mg base k call m) (tx : Text S G P w mg base k call) {C : Sc0} {E : XK} {X : Cx} (c : CxIs S P w mg base k C E X) {ρ : List Sl}
include ih tx c
theorem step_call {f : Expr} {args : List Expr} {kws : List Keyword} {pos : Pos} : SndE S X E (.Call f args kws pos) ρ (bodyE G call (evE G call m) (evT G call m) (evO G call m) (evI G call m) (evF G call m) C ρ (.Call f args kws pos)) := by
  show SndE S X E _ ρ (ite _ _ _)
  split
  · exact sndE_fail
  rename_i hks
  simp only [Bool.or_eq_true, Bool.not_eq_true', not_or, Bool.not_eq_false, Bool.not_eq_true] at hks
  obtain ⟨hk, hs⟩ := hks
  cases kws with
  | cons a b => cases hk
  | nil =>
    cases f with
    | Name x p0 =>
      show SndE S X E _ ρ (ite _ _ _)
      split
      · exact sndE_fail
      rename_i hg
      have hg : isGlo C.sc x = true := by simpa using hg
      split
      · exact sndE_fail
      rename_i hd
      split
      · rename_i ho
        exact snd_own c tx hg hd ho hs fun e _ => ih.e C E X c ρ e
      split
      · exact sndE_fail
      rename_i hb
      simp only [Bool.or_eq_true, Bool.not_eq_true', not_or, Bool.not_eq_false, Bool.not_eq_true] at hb
      split
      · split
        · rename_i y p1 as' kws' q hr
          simp only [Bool.and_eq_true, decide_eq_true_eq] at hr
          obtain ⟨⟨⟨rfl, h2⟩, rfl⟩, h4⟩ := hr
          cases kws' with
          | cons a b => cases h4
          | nil =>
            split
            · split
              · exact sndE_fail
              · rename_i hst
                exact snd_listRg c tx hg h2 (by simpa using hst) (ih.e C E X c ρ _)
            · exact sndE_fail
        · exact snd_blt c tx hg hd hb.1 hb.2 hs fun e _ => ih.e C E X c ρ e
      · exact snd_blt c tx hg hd hb.1 hb.2 hs fun e _ => ih.e C E X c ρ e
    | Attribute o mt apos =>
      show SndE S X E _ ρ (ite _ _ _)
      split
      · exact sndE_fail
      rename_i hb
      simp only [Bool.or_eq_true, Bool.not_eq_true', not_or, Bool.not_eq_false, Bool.not_eq_true, decide_eq_false_iff_not] at hb
      obtain ⟨⟨h1, h2⟩, h3⟩ := hb
      cases o with
      | Call a b d e => exact sndE_fail
      | _ => exact snd_mth c h1 (by omega) h3 rfl hs (ih.e C E X c ρ _) fun e _ => ih.e C E X c ρ e
    | _ => exact sndE_fail
theorem step_e0 (e : Expr) : SndE S X E e ρ (bodyE G call (evE G call m) (evT G call m) (evO G call m) (evI G call m) (evF G call m) C ρ e) := by
  cases e with
  | Constant cc j pos => exact snd_const c
  | Name x pos =>
    show SndE S X E _ ρ (ite _ _ _)
    split
    · exact sndE_fail
    · rename_i h
      exact snd_name c tx (by simpa using h)
  | BinOp a op b pos => exact snd_bin c (ih.e C E X c ρ a) (ih.e C E X c ρ b)
  | UnaryOp op a pos =>
    cases op with
    | Not => exact snd_not c (ih.e C E X c ρ a)
    | USub => exact snd_neg c (ih.e C E X c ρ a)
    | _ => exact sndE_fail
  | BoolOp op vs pos =>
    match vs, op with
    | [], op => exact sndE_fail
    | [a], op => exact snd_one (ih.e C E X c ρ a)
    | a :: b :: rest, .And => exact snd_and c (ih.e C E X c ρ a) (ih.e C E X c ρ _)
    | a :: b :: rest, .Or => exact snd_or c (ih.e C E X c ρ a) (ih.e C E X c ρ _)
  | Compare a ops bs pos =>
    match ops, bs with
    | [], bs => cases bs <;> exact sndE_fail
    | [op], [] => exact sndE_fail
    | [op], [b] =>
      show SndE S X E _ ρ (ite _ _ _)
      split
      · exact sndE_fail
      · rename_i h
        exact snd_cmp c tx (by simpa using h) (ih.e C E X c ρ a) (ih.e C E X c ρ b)
    | [op], _ :: _ :: _ => exact sndE_fail
    | [op, op'], [] => exact sndE_fail
    | [op, op'], [b] => exact sndE_fail
    | [op, op'], [b, d] =>
      show SndE S X E _ ρ (ite _ _ _)
      split
      · exact sndE_fail
      · rename_i h
        exact snd_chain c tx (by simpa using h) (ih.e C E X c ρ a) (ih.e C E X c ρ b) (ih.e C E X c ρ d)
    | [op, op'], _ :: _ :: _ :: _ => exact sndE_fail
    | _ :: _ :: _ :: _, bs => exact sndE_fail
  | IfExp t a b pos => exact snd_if (ih.t C E X c ρ t) (ih.e C E X c ρ a) (ih.e C E X c ρ b)
  | Tuple es j pos =>
    show SndE S X E _ ρ (ite _ _ _)
    split
    · exact sndE_fail
    · rename_i h
      exact snd_tup (snd_args (by simpa using h) fun e _ => ih.e C E X c ρ e)
  | List es pos =>
    show SndE S X E _ ρ (ite _ _ _)
    split
    · exact sndE_fail
    · rename_i h
      exact snd_lst (snd_args (by simpa using h) fun e _ => ih.e C E X c ρ e)
  | Attribute o f pos =>
    cases o with
    | Call a b d e => exact sndE_fail
    | _ =>
      show SndE S X E _ ρ (ite _ _ _)
      split
      · rename_i hn
        exact snd_att c tx hn rfl (ih.e C E X c ρ _)
      · exact sndE_fail
  | Subscript a b pos =>
    cases b with
    | Slice lo hi st p2 =>
      cases st with
      | none => exact snd_slice c (ih.e C E X c ρ a) (ih.o C E X c ρ _) (ih.o C E X c ρ _)
      | some _ => exact sndE_fail
    | Tuple _ _ _ => exact sndE_fail
    | _ => exact snd_sub c rfl (ih.e C E X c ρ a) (ih.e C E X c ρ _)
  | ListComp elt gens sc' pos =>
    match gens with
    | [] => exact sndE_fail
    | [⟨tg, iter, ifs, as⟩] =>
      show SndE S X E _ ρ (ite _ _ _)
      split
      · rename_i h
        obtain ⟨rfl, h2, h3, h4⟩ := h
        exact snd_lc c h2 h3 h4 (ih.i C E X c ρ tg iter) (fun ρ' X' c' => ih.f _ _ X' c' ρ' ifs) (fun ρ' X' c' => ih.e _ _ X' c' ρ' elt)
      · exact sndE_fail
    | ⟨_, _, _, _⟩ :: _ :: _ => exact sndE_fail
  | Call f args kws pos => exact step_call ih tx c
  | _ => exact sndE_fail
theorem step_e (e : Expr) : SndE S X E e ρ (evE G call (m + 1) C ρ e) := by
  cases hh : hook G call C.sc e with
  | none =>
    rw [evE_none hh]
    exact step_e0 ih tx c e
  | some z =>
    rw [evE_some hh]
    have hh : G.spc call C.sc e = some z := by
      unfold hook at hh
      split at hh
      · cases hh
      · exact hh
    exact tx.spc C E X c e z hh ρ _ fun a => ih.e C E X c ρ a
theorem step_b (op : BoolOp) (vs : List Expr) (pos : Pos) : SndW S X E (.BoolOp op vs pos) ρ (evT G call (m + 1) C ρ (.BoolOp op vs pos)) := by
  match vs, op with
  | [], op => exact sndW_fail
  | [a], op => exact sndW_one (ih.t C E X c ρ a)
  | a :: b :: rest, .And => exact sndW_and (ih.t C E X c ρ a) (ih.b C E X c ρ _ _ _)
  | a :: b :: rest, .Or => exact sndW_or (ih.t C E X c ρ a) (ih.b C E X c ρ _ _ _)
theorem step_t (e : Expr) : SndT S X E e ρ (evT G call (m + 1) C ρ e) := by
  cases e with
  | UnaryOp op a pos =>
    cases op with
    | Not => exact sndT_not (ih.t C E X c ρ a)
    | _ => exact sndT_fail
  | BoolOp op vs pos => exact sndT_w (step_b ih tx c op vs pos)
  | Compare a ops bs pos =>
    match ops, bs with
    | [], bs => cases bs <;> exact sndT_fail
    | [op], [] => exact sndT_fail
    | [op], [b] =>
      show SndT S X E _ ρ (ite _ _ _)
      split
      · exact sndT_fail
      · rename_i h
        exact sndT_cmp c tx (by simpa using h) (ih.e C E X c ρ a) (ih.e C E X c ρ b)
    | [op], _ :: _ :: _ => exact sndT_fail
    | [op, op'], [] => exact sndT_fail
    | [op, op'], [b] => exact sndT_fail
    | [op, op'], [b, d] =>
      show SndT S X E _ ρ (ite _ _ _)
      split
      · exact sndT_fail
      · rename_i h
        exact sndT_chain c tx (by simpa using h) (ih.e C E X c ρ a) (ih.e C E X c ρ b) (ih.e C E X c ρ d)
    | [op, op'], _ :: _ :: _ :: _ => exact sndT_fail
    | _ :: _ :: _ :: _, bs => exact sndT_fail
  | IfExp t a b pos => exact sndT_fail
  | _ => exact sndT_val c rfl (ih.e C E X c ρ _)
theorem step_o (e : Option Expr) : SndO S X E e ρ (evO G call (m + 1) C ρ e) := by
  cases e with
  | none => exact sndO_none
  | some e => exact sndO_some (ih.e C E X c ρ e)
theorem step_f (es : List Expr) : SndF S X E es ρ (evF G call (m + 1) C ρ es) := by
  match es with
  | [] => exact sndF_nil
  | [a] => exact sndF_one (ih.t C E X c ρ a)
  | _ :: _ :: _ => exact sndF_fail
theorem step_i0 (tg e : Expr) : SndI S X E tg e ρ (bodyI (evE G call m) C ρ tg e) := by
  cases e with
  | Call f args kws pos =>
    cases f with
    | Name x p0 =>
      show SndI S X E tg _ ρ (ite _ _ _)
      split
      · rename_i h
        simp only [Bool.and_eq_true, decide_eq_true_eq] at h
        obtain ⟨⟨h1, h2⟩, rfl⟩ := h
        cases kws with
        | cons a b => cases h1
        | nil =>
          split
          · split
            · exact sndI_fail
            · rename_i hs
              exact sndI_rng1 c tx h2 (by simpa using hs) (ih.e C E X c ρ _)
          · split
            · exact sndI_fail
            · rename_i hs
              simp only [Bool.or_eq_true, not_or, Bool.not_eq_true] at hs
              exact sndI_rng2 c tx h2 hs.1 hs.2 (ih.e C E X c ρ _) (ih.e C E X c ρ _)
          · exact sndI_fail
      split
      · rename_i h
        simp only [Bool.and_eq_true, decide_eq_true_eq] at h
        obtain ⟨⟨⟨h1, h2⟩, rfl⟩, h3⟩ := h
        cases kws with
        | cons a b => cases h1
        | nil =>
          split
          · split
            · exact sndI_fail
            · rename_i hs
              exact sndI_enum c tx h2 h3 (by simpa using hs) (ih.e C E X c ρ _)
          · exact sndI_fail
      split
      · rename_i h
        simp only [Bool.and_eq_true, decide_eq_true_eq] at h
        obtain ⟨⟨⟨h1, h2⟩, rfl⟩, h3⟩ := h
        cases kws with
        | cons a b => cases h1
        | nil =>
          split
          · split
            · exact sndI_fail
            · rename_i hs
              simp only [Bool.or_eq_true, not_or, Bool.not_eq_true] at hs
              exact sndI_zip c tx h2 h3 hs.1 hs.2 (ih.e C E X c ρ _) (ih.e C E X c ρ _)
          · exact sndI_fail
      · exact sndI_any c (ih.e C E X c ρ _)
    | _ => exact sndI_any c (ih.e C E X c ρ _)
  | Set es j pos => exact sndI_fail
  | _ => exact sndI_any c (ih.e C E X c ρ _)
theorem step_i (tg e : Expr) : SndI S X E tg e ρ (evI G call (m + 1) C ρ tg e) := by
  cases hh : G.spi call C.sc tg e with
  | none =>
    rw [evI_none hh]
    exact step_i0 ih tx c tg e
  | some z =>
    rw [evI_some hh]
    exact tx.spi C E X c tg e z hh ρ _ fun a => ih.e C E X c ρ a
end
theorem sound_e (tx : Text S G P w mg base k call) : ∀ m, Snd S G P w mg base k call m
  | 0 => snd_zero
  | m + 1 => by
    have ih := sound_e tx m
    exact ⟨fun C E X c ρ e => step_e ih tx c e, fun C E X c ρ e => step_t ih tx c e, fun C E X c ρ op vs pos => step_b ih tx c op vs pos, fun C E X c ρ e => step_o ih tx c e, fun C E X c ρ tg e => step_i ih tx c tg e, fun C E X c ρ es => step_f ih tx c es⟩
end
end Ev

/-! Statements: slots frozen and given back; new lists; names that take values. -/
namespace Ev
open PySem PySem.Spec L2 PyProof.Rows RZ
section
variable {S : Sem0}
/-! ### lists that are read -/
def frz1 (xs : List Str) (n : Option Str) : Sl → Sl
  | .own l => match n with
    | some n => if xs.contains n then .dat (.lst l) else .own l
    | none => .own l
  | s => s
theorem frz_at (xs : List Str) : ∀ (N : List Str) (ρ : List Sl) (i : Nat), (frzR xs N ρ)[i]? = (ρ[i]?).map (frz1 xs N[i]?)
  | [], ρ, i => by
    have e : frzR xs [] ρ = ρ := by cases ρ <;> rfl
    rw [e]
    cases ρ[i]? with
    | none => rfl
    | some s => cases s <;> rfl
  | n :: N, [], i => by simp [frzR]
  | n :: N, s :: ρ, 0 => by cases s <;> rfl
  | n :: N, s :: ρ, i + 1 => by
    have ih := frz_at xs N ρ i
    show (frzR xs N ρ)[i]? = _
    rw [ih]
    rfl
theorem frz_len (xs : List Str) : ∀ (N : List Str) (ρ : List Sl), (frzR xs N ρ).length = ρ.length
  | [], ρ => by cases ρ <;> rfl
  | n :: N, [] => rfl
  | n :: N, s :: ρ => by show (frzR xs N ρ).length + 1 = ρ.length + 1; rw [frz_len xs N ρ]
theorem frz_own {xs N : List Str} {ρ : List Sl} {i : Nat} {l : List D} (h : (frzR xs N ρ)[i]? = some (.own l)) : ρ[i]? = some (.own l) ∧ ∀ n, N[i]? = some n → xs.contains n = false := by
  rw [frz_at] at h
  cases e : ρ[i]? with
  | none => rw [e] at h; cases h
  | some s =>
    rw [e] at h
    have h : some (frz1 xs N[i]? s) = some (.own l) := h
    cases s with
    | own l' =>
      cases en : N[i]? with
      | none => rw [en] at h; cases h; exact ⟨rfl, fun n h => by cases h⟩
      | some n =>
        rw [en] at h
        have h : some (if xs.contains n then Sl.dat (.lst l') else .own l') = some (.own l) := h
        cases ec : xs.contains n with
        | true => rw [ec] at h; cases h
        | false => rw [ec] at h; cases h; exact ⟨rfl, fun n' hn => by cases hn; exact ec⟩
    | _ => cases h
theorem frz_dat {xs N : List Str} {ρ : List Sl} {i : Nat} {d : D} (h : (frzR xs N ρ)[i]? = some (.dat d)) : ρ[i]? = some (.dat d) ∨ ∃ l n, ρ[i]? = some (.own l) ∧ N[i]? = some n ∧ xs.contains n = true ∧ d = .lst l := by
  rw [frz_at] at h
  cases e : ρ[i]? with
  | none => rw [e] at h; cases h
  | some s =>
    rw [e] at h
    have h : some (frz1 xs N[i]? s) = some (.dat d) := h
    cases s with
    | own l' =>
      cases en : N[i]? with
      | none => rw [en] at h; cases h
      | some n =>
        rw [en] at h
        have h : some (if xs.contains n then Sl.dat (.lst l') else .own l') = some (.dat d) := h
        cases ec : xs.contains n with
        | true => rw [ec] at h; cases h; exact .inr ⟨l', n, rfl, rfl, ec, rfl⟩
        | false => rw [ec] at h; cases h
    | dat d' => cases h; exact .inl rfl
    | emp => cases h
/-- the address of a list that is still written and read -/
def Sel (xs N : List Str) (ρ : List Sl) (σ : L2.St) (a : Addr) : Prop := ∃ (i : Nat) (l : List D) (n : Str), ρ[i]? = some (.own l) ∧ N[i]? = some n ∧ xs.contains n = true ∧ σ[i]? = some (some (.ref a))
open Classical in
theorem Rep.frz {H0 B0 H B : Hp} {ρ : List Sl} {σ : L2.St} (p : Rep S H0 B0 ρ σ H B) (xs N : List Str) : ∃ B1, Same B B1 ∧ Rep S H0 B0 (frzR xs N ρ) σ H B1 ∧ ∀ a, B a = none → (∀ (i : Nat) (l : List D), ρ[i]? = some (.own l) → σ[i]? ≠ some (some (.ref a))) → B1 a = none := by
  have facts : ∀ a, Sel xs N ρ σ a → ∃ vs, H a = some (.lst vs) ∧ B a = none ∧ a ≠ S.r ∧ H0 a = none := fun a ⟨i, l, n, h1, _, _, h4⟩ => by
    obtain ⟨b, vs, e1, e2, e3, e4, e5, _⟩ := p.own i l h1
    rw [h4] at e1
    cases e1
    exact ⟨vs, e2, e3, e4, e5⟩
  refine ⟨fun a => if Sel xs N ρ σ a then H a else B a, fun a o h => ?_, ⟨?_, by rw [frz_len]; exact p.len, fun i d h => ?_, fun i l h => ?_, fun i j a l m h1 h2 h3 h4 => p.sep i j a l m (frz_own h1).1 (frz_own h2).1 h3 h4⟩, fun a h n => ?_⟩
  · show (if Sel xs N ρ σ a then H a else B a) = some o
    rw [if_neg (fun q => by obtain ⟨vs, _, e, _⟩ := facts a q; rw [h] at e; cases e)]
    exact h
  · have sb : Same B (fun a => if Sel xs N ρ σ a then H a else B a) := fun a o h => by
      show (if Sel xs N ρ σ a then H a else B a) = some o
      rw [if_neg (fun q => by obtain ⟨vs, _, e, _⟩ := facts a q; rw [h] at e; cases e)]
      exact h
    refine ⟨p.gr.bb.trans sb, fun a o h hb => ?_, p.gr.kp, ⟨fun a o h => ?_, S.rw_mono sb (fun _ e => e) p.ok.rw, ?_, p.ok.rt⟩⟩
    · show (if Sel xs N ρ σ a then H a else B a) = none
      rw [if_neg (fun q => by obtain ⟨vs, _, _, _, e⟩ := facts a q; rw [h] at e; cases e)]
      exact p.gr.fr a o h hb
    · have h : (if Sel xs N ρ σ a then H a else B a) = some o := h
      by_cases q : Sel xs N ρ σ a
      · rw [if_pos q] at h; exact h
      · rw [if_neg q] at h; exact p.ok.sub _ _ h
    · show (if Sel xs N ρ σ S.r then H S.r else B S.r) = none
      rw [if_neg (fun q => by obtain ⟨vs, _, _, e, _⟩ := facts _ q; exact e rfl)]
      exact p.ok.rn
  · have sb : Same B (fun a => if Sel xs N ρ σ a then H a else B a) := fun a o h => by
      show (if Sel xs N ρ σ a then H a else B a) = some o
      rw [if_neg (fun q => by obtain ⟨vs, _, e, _⟩ := facts a q; rw [h] at e; cases e)]
      exact h
    rcases frz_dat h with h | ⟨l, n, h1, h2, h3, rfl⟩
    · obtain ⟨v, e, r⟩ := p.dat i d h
      exact ⟨v, e, r.mono sb⟩
    · obtain ⟨a, vs, e1, e2, e3, e4, e5, e6⟩ := p.own i l h1
      refine ⟨_, e1, .lst ?_ (e6.mono sb)⟩
      show (if Sel xs N ρ σ a then H a else B a) = _
      rw [if_pos ⟨i, l, n, h1, h2, h3, e1⟩]
      exact e2
  · have sb : Same B (fun a => if Sel xs N ρ σ a then H a else B a) := fun a o h => by
      show (if Sel xs N ρ σ a then H a else B a) = some o
      rw [if_neg (fun q => by obtain ⟨vs, _, e, _⟩ := facts a q; rw [h] at e; cases e)]
      exact h
    obtain ⟨h1, h2⟩ := frz_own h
    obtain ⟨a, vs, e1, e2, e3, e4, e5, e6⟩ := p.own i l h1
    refine ⟨a, vs, e1, e2, ?_, e4, e5, e6.mono sb⟩
    show (if Sel xs N ρ σ a then H a else B a) = none
    rw [if_neg]
    · exact e3
    · rintro ⟨j, l', n, k1, k2, k3, k4⟩
      have := p.sep i j a l l' h1 k1 e1 k4
      subst this
      rw [h2 n k2] at k3
      cases k3
  · show (if Sel xs N ρ σ a then H a else B a) = none
    rw [if_neg]
    · exact h
    · rintro ⟨i, l, n', h1, _, _, h4⟩
      exact n i l h1 h4
/-- .. and given back -/
theorem Rep.back {H0 B0 H B B1 H' B' : Hp} {ρ : List Sl} {σ : L2.St} (p : Rep S H0 B0 ρ σ H B) (s : Same B B1) (g : Grow S H B1 H' B') : Rep S H0 B0 ρ σ H' B := by
  refine ⟨⟨p.gr.bb, p.gr.fr, fun a o n h => g.kp a o n (p.gr.kp a o n h), ⟨(s.trans g.bb).trans g.ok.sub, S.rw_down (s.trans g.bb) p.ok.rw ?_, p.ok.rn, g.ok.rt⟩⟩, p.len, p.dat, fun i l h => ?_, p.sep⟩
  · exact g.ok.rw
  · obtain ⟨a, vs, e1, e2, e3, e4, e5, e6⟩ := p.own i l h
    exact ⟨a, vs, e1, g.kp _ _ e4 e2, e3, e4, e5, e6⟩
/-- a list that is still written is written -/
theorem Rep.write {H0 B0 H B : Hp} {ρ : List Sl} {σ : L2.St} (p : Rep S H0 B0 ρ σ H B) {i : Nat} {l l' : List D} {a : Addr} {vs' : List V} (hi : ρ[i]? = some (.own l)) (ha : σ[i]? = some (some (.ref a))) (r : DrAll S B vs' l') :
    Rep S H0 B0 (ρ.set i (.own l')) σ (upd H a (.lst vs')) B := by
  obtain ⟨b, ws, e1, e2, e3, e4, e5, e6⟩ := p.own i l hi
  rw [ha] at e1
  cases e1
  have hlt : i < ρ.length := (List.getElem?_eq_some_iff.mp hi).1
  have own' : ∀ {j : Nat} {m : List D}, (ρ.set i (.own l'))[j]? = some (.own m) → (j = i ∧ m = l') ∨ (j ≠ i ∧ ρ[j]? = some (.own m)) := fun {j m} h => by
    by_cases e : i = j
    · subst e
      rw [List.getElem?_set_self hlt] at h
      cases h
      exact .inl ⟨rfl, rfl⟩
    · rw [List.getElem?_set_ne e] at h
      exact .inr ⟨fun z => e z.symm, h⟩
  have isOwn : ∀ {j : Nat} {m : List D}, (ρ.set i (.own l'))[j]? = some (.own m) → ∃ m', ρ[j]? = some (.own m') := fun {j m} h => by
    rcases own' h with ⟨rfl, _⟩ | ⟨_, h⟩
    · exact ⟨l, hi⟩
    · exact ⟨m, h⟩
  refine ⟨⟨p.gr.bb, p.gr.fr, fun b o n h => by rw [upd_ne (ne_of_none h e5)]; exact p.gr.kp b o n h, p.ok.put e3 e4 _⟩, by rw [List.length_set]; exact p.len, fun j d h => ?_, fun j m h => ?_, fun j k b m m' h1 h2 h3 h4 => ?_⟩
  · by_cases e : i = j
    · subst e
      rw [List.getElem?_set_self hlt] at h
      cases h
    · rw [List.getElem?_set_ne e] at h
      exact p.dat j d h
  · rcases own' h with ⟨rfl, rfl⟩ | ⟨ne, h⟩
    · exact ⟨a, vs', ha, upd_same, e3, e4, e5, r⟩
    · obtain ⟨b, us, k1, k2, k3, k4, k5, k6⟩ := p.own j m h
      have nb : b ≠ a := fun z => ne (p.sep j i a m l h hi (z ▸ k1) ha)
      exact ⟨b, us, k1, by rw [upd_ne nb]; exact k2, k3, k4, k5, k6⟩
  · obtain ⟨x, hx⟩ := isOwn h1
    obtain ⟨y, hy⟩ := isOwn h2
    exact p.sep j k b x y hx hy h3 h4
/-- a name takes a new list -/
theorem Rep.setOwn {H0 B0 H B : Hp} {ρ : List Sl} {σ : L2.St} (p : Rep S H0 B0 ρ σ H B) {i : Nat} {l : List D} {a : Addr} {vs : List V} (hH : H a = some (.lst vs)) (hB : B a = none) (hr : a ≠ S.r) (h0 : H0 a = none) (r : DrAll S B vs l)
    (nw : ∀ (j : Nat) (m : List D), ρ[j]? = some (.own m) → σ[j]? ≠ some (some (.ref a))) : Rep S H0 B0 (ρ.set i (.own l)) (σ.set i (some (.ref a))) H B := by
  have own' : ∀ {j : Nat} {m : List D}, (ρ.set i (.own l))[j]? = some (.own m) → (j = i ∧ m = l ∧ i < ρ.length) ∨ (i ≠ j ∧ ρ[j]? = some (.own m)) := fun {j m} h => by
    by_cases e : i = j
    · subst e
      by_cases z : i < ρ.length
      · rw [List.getElem?_set_self z] at h
        cases h
        exact .inl ⟨rfl, rfl, z⟩
      · rw [List.getElem?_eq_none (by simpa using z)] at h
        cases h
    · rw [List.getElem?_set_ne e] at h
      exact .inr ⟨e, h⟩
  refine ⟨p.gr, by simp [p.len], fun j d h => ?_, fun j m h => ?_, fun j k b m m' h1 h2 h3 h4 => ?_⟩
  · by_cases e : i = j
    · subst e
      by_cases z : i < ρ.length
      · rw [List.getElem?_set_self z] at h
        cases h
      · rw [List.getElem?_eq_none (by simpa using z)] at h
        cases h
    · rw [List.getElem?_set_ne e] at h
      rw [List.getElem?_set_ne e]
      exact p.dat j d h
  · rcases own' h with ⟨rfl, rfl, z⟩ | ⟨e, h⟩
    · exact ⟨a, vs, List.getElem?_set_self (by rw [← p.len]; exact z), hH, hB, hr, h0, r⟩
    · rw [List.getElem?_set_ne e]
      exact p.own j m h
  · rcases own' h1 with ⟨ej, _, z⟩ | ⟨e1, g1⟩
    · rcases own' h2 with ⟨ek, _, _⟩ | ⟨e2, g2⟩
      · rw [ej, ek]
      · rw [ej, List.getElem?_set_self (by rw [← p.len]; exact z)] at h3
        cases h3
        rw [List.getElem?_set_ne e2] at h4
        exact absurd h4 (nw k m' g2)
    · rw [List.getElem?_set_ne e1] at h3
      rcases own' h2 with ⟨ek, _, z⟩ | ⟨e2, g2⟩
      · rw [ek, List.getElem?_set_self (by rw [← p.len]; exact z)] at h4
        cases h4
        exact absurd h3 (nw j m g1)
      · rw [List.getElem?_set_ne e2] at h4
        exact p.sep j k b m m' g1 g2 h3 h4
theorem flat_any {B B' : Hp} {v : V} {d : D} (h : Dr S B v d) (f : d.flat = true) : Dr S B' v d := by
  cases h with
  | non => exact .non
  | bl b => exact .bl b
  | int i => exact .int i
  | str x => exact .str x
  | _ => cases f
theorem flats_any {B B' : Hp} : ∀ {vs : List V} {ds : List D}, DrAll S B vs ds → ds.all D.flat = true → DrAll S B' vs ds
  | _, _, .nil, _ => .nil
  | _, _, .cons a r, f => by
    rw [List.all_cons, Bool.and_eq_true] at f
    exact .cons (flat_any a f.1) (flats_any r f.2)
end
end Ev

/-! Expressions within statements. -/
namespace Ev
open PySem PySem.Spec L2 PyProof.Rows RZ
section
variable {S : Sem0} {G : Info} {P : Program} {w : World} {mg : Str → Option Value} {base : Heap} {k : Nat} {call : Str → List D → T D} {C : Sc0} {E : XK} {X : Cx} {mu : List Str}
/-- a is not the place of a list that is still written by a name -/
def NotOwn (ρ : List Sl) (σ : L2.St) (a : Addr) : Prop := ∀ (i : Nat) (l : List D), ρ[i]? = some (.own l) → σ[i]? ≠ some (some (.ref a))
/-- what stays through an expression -/
structure Kp (S : Sem0) (ρ : List Sl) (σ : L2.St) (H B : Hp) (ρ' : List Sl) (H' B' : Hp) : Prop where
  bb : Same B B'
  kp : ∀ a o, a ≠ S.r → H a = some o → NotOwn ρ σ a → H' a = some o
  fr : ∀ a o, H a = some o → B a = none → NotOwn ρ σ a → B' a = none
  ow : ∀ (i : Nat) (l : List D), ρ'[i]? = some (.own l) → ∃ l', ρ[i]? = some (.own l')
theorem NotOwn.next {ρ ρ' : List Sl} {σ : L2.St} {H B H' B' : Hp} (q : Kp S ρ σ H B ρ' H' B') {a : Addr} (n : NotOwn ρ σ a) : NotOwn ρ' σ a := fun i l h => by
  obtain ⟨l', h'⟩ := q.ow i l h
  exact n i l' h'
theorem frz_ow {xs N : List Str} {ρ : List Sl} (i : Nat) (l : List D) (h : (frzR xs N ρ)[i]? = some (.own l)) : ∃ l', ρ[i]? = some (.own l') := ⟨l, (frz_own h).1⟩
theorem AftE.up {H0 B0 H B : Hp} {c : Str} {fs : List D} (g : Grow S H0 B0 H B) (h : AftE S H0 B0 E c fs) : AftE S H B E c fs := h.grow g
theorem evV_ok (ih : ∀ m, Snd S G P w mg base k call m) (c : CxIs S P w mg base k C E X) {m : Nat} {e : Expr} {ρ : List Sl} {H0 B0 H B : Hp} {σ : L2.St} {P' : D × List Sl → Prop} {Q : VK} (p : Rep S H0 B0 ρ σ H B) (h : wpT (evV G call C m ρ e) P' (AftE S H0 B0 E))
    (hq : ∀ d ρ' v H' B', P' (d, ρ') → Rep S H0 B0 ρ' σ H' B' → Dr S B' v d → Kp S ρ σ H B ρ' H' B' → Q v H') : W X e σ H Q := by
  obtain ⟨B1, s1, p1, n1⟩ := p.frz (nmE m e) C.N
  unfold evV at h
  rw [wpT_bind] at h
  refine (ih m).e C E X c _ e _ _ _ _ _ _ p1 (wpT_mono h (fun d hd v H' B' g r => ?_) fun _ _ a => a.up p1.gr)
  have hd : P' (d, if d.flat then ρ else frzR (nmE m e) C.N ρ) := hd
  cases f : d.flat with
  | true =>
    rw [f] at hd
    exact hq d ρ v H' B hd (p.back s1 g) (flat_any r f) ⟨Same.refl B, fun a o n h _ => g.kp a o n h, fun _ _ _ hb _ => hb, fun i l h => ⟨l, h⟩⟩
  | false =>
    rw [f] at hd
    exact hq d _ v H' B' hd (p1.grow g) r ⟨s1.trans g.bb, fun a o n h _ => g.kp a o n h, fun a o h hb n => g.fr a o h (n1 a hb n), frz_ow⟩
theorem evTV_ok (ih : ∀ m, Snd S G P w mg base k call m) (c : CxIs S P w mg base k C E X) {m : Nat} {e : Expr} {ρ : List Sl} {H0 B0 H B : Hp} {σ : L2.St} {P' : Bool → Prop} {Q : Bool → Hp → Prop} (p : Rep S H0 B0 ρ σ H B) (h : wpT (evTV G call C m ρ e) P' (AftE S H0 B0 E))
    (hq : ∀ b H' B', P' b → Rep S H0 B0 ρ σ H' B' → Q b H') : WT X e σ H Q := by
  obtain ⟨B1, s1, p1, n1⟩ := p.frz (nmE m e) C.N
  unfold evTV at h
  exact (ih m).t C E X c _ e _ _ _ _ _ _ p1 (wpT_mono h (fun b hb H' B' g => hq b H' B hb (p.back s1 g)) fun _ _ a => a.up p1.gr)
theorem ownAt_some {ρ : List Sl} {y : Str} {i : Nat} {l : List D} (h : ownAt C ρ y = some (i, l)) : ixOf y C.N = some i ∧ ρ[i]? = some (.own l) := by
  unfold ownAt at h
  split at h
  · split at h
    · cases h
      exact ⟨by assumption, by assumption⟩
    · cases h
  · cases h
theorem w_own (c : CxIs S P w mg base k C E X) {y : Str} {pos : Pos} {i : Nat} {σ : L2.St} {H : Hp} {v : V} {Q : VK} (hi : ixOf y C.N = some i) (hv : isVis C.sc y = true) (hd : dbg y = false) (e : σ[i]? = some (some v)) (q : Q v H) : W X (.Name y pos) σ H Q := by
  unfold dbg at hd
  rw [Bool.or_eq_false_iff] at hd
  exact ⟨_, pe_var (i := i) (by rw [c.N]; exact ixOf_at hi) (by rw [c.sc]; exact vis_of hv) hd.1 hd.2, v, e, q⟩
theorem one_few {k : Expr} {env : Env} {pos : Pos} (h : isStar k = false) : ((backTo pos (starEach [k] env)).all (fun x => !x.1) && (backToKw pos (keywordEach [] env)).all (fun x => x.1.isSome)
      && decide (([k] : List Expr).length + ([] : List Keyword).length + (if ([] : List Keyword).isEmpty then 0 else 1) < 30)) = true := by
  rw [star_all (by rw [List.any_cons, h]; rfl)]
  rfl
theorem evP_ok (ih : ∀ m, Snd S G P w mg base k call m) (c : CxIs S P w mg base k C E X) {m : Nat} {e : Expr} {ρ : List Sl} {H0 B0 H B : Hp} {σ : L2.St} {P' : D × List Sl → Prop} {Q : VK} (p : Rep S H0 B0 ρ σ H B) (h : wpT (evP G call C m ρ e) P' (AftE S H0 B0 E))
    (hq : ∀ d ρ' v H' B', P' (d, ρ') → Rep S H0 B0 ρ' σ H' B' → Dr S B' v d → Kp S ρ σ H B ρ' H' B' → Q v H') : W X e σ H Q := by
  unfold evP at h
  split at h
  case h_2 => exact evV_ok ih c p h hq
  split at h
  case h_2 => exact evV_ok ih c p h hq
  rename_i y yp mt apos k0 pos _ il hown
  obtain ⟨i, l⟩ := il
  split at h
  case isFalse => exact h.elim
  rename_i hc
  obtain ⟨rfl, hv, hdb, hst, hl⟩ := hc
  obtain ⟨hi, ho⟩ := ownAt_some hown
  obtain ⟨a, vs, e1, e2, e3, e4, e5, e6⟩ := p.own i l ho
  refine ⟨_, pe_bm PySem.F.plainAttrs_list PySem.F.slot_list_pop PySem.F.type_list_pop mt_popAt peW paW (base_call rfl) (one_few hst) hl (star_cons hst) rfl, ?_⟩
  show W X (.Name y yp) σ H fun x H1 => tyV X.K "list" x H1 ∧ WA X [k0] σ H1 fun xs H2 => rPopAt x xs H2 Q
  refine w_own c hi hv hdb e1 ⟨.inl ⟨rfl, _, SqL.of e2⟩, _, pa_cons peW pa_nil (star_cons hst), ?_⟩
  show W X k0 σ H fun x H2 => rPopAt (.ref a) [x] H2 Q
  rw [wpT_bind] at h
  refine evV_ok ih c p h fun d ρ' v H' B' hP p' r q => ?_
  split at hP
  case h_2 => exact hP.elim
  rename_i i' l' hown'
  obtain ⟨hi', ho'⟩ := ownAt_some hown'
  rw [hi] at hi'
  cases hi'
  obtain ⟨a', vs', k1, k2, k3, k4, k5, k6⟩ := p'.own i l' ho'
  rw [e1] at k1
  cases k1
  rw [wpT_bind] at hP
  obtain ⟨j, hj, hP⟩ := wp_asInt hP
  have hj : d = .int j := hj
  subst hj
  rw [wpT_bind] at hP
  obtain ⟨n, hn, hP⟩ := wp_ofO hP
  rw [wpT_bind] at hP
  obtain ⟨x, hx, hP⟩ := wp_ofO hP
  cases dr_int r
  obtain ⟨xv, hxv, rx⟩ := k6.at_ hx
  split at hn
  case isFalse => cases hn
  rename_i hz
  rw [ixZ_eq, ← k6.len] at hn
  obtain ⟨n1, n2, n3, n4⟩ := ixN_seq hn
  have hz : vs'.length ≤ 100000 := by rw [k6.len]; exact hz
  refine ⟨a, vs', j, n, xv, rfl, rfl, k2, by omega, by omega, n1, hxv, ?_⟩
  refine hq x _ xv _ B' hP (p'.write (vs' := vs'.eraseIdx n) ho' e1 (k6.erase n)) rx ⟨q.bb, fun b o nb hb no => ?_, q.fr, fun i' m h => ?_⟩
  · rw [upd_ne (fun z => by
      obtain ⟨l2, h2⟩ := q.ow i l' ho'
      exact no i l2 h2 (z ▸ e1))]
    exact q.kp b o nb hb no
  · by_cases z : i = i'
    · subst z
      exact ⟨l, ho⟩
    · rw [List.getElem?_set_ne z] at h
      exact q.ow i' m h
end
end Ev

/-! New lists; names that take values. -/
namespace Ev
open PySem PySem.Spec L2 PyProof.Rows RZ
def WS (X : Cx) (st : Stmt) : TS := fun D σ H => ∃ t, PS X st t ∧ t D σ H
theorem psW {X : Cx} {st : Stmt} : PS X st (WS X st) := ⟨fun pins s σ H D I ⟨t, h, q⟩ => h.run pins s σ H D I q⟩
def WSs (X : Cx) (st : List Stmt) : TS := fun D σ H => ∃ t, PSs X st t ∧ t D σ H
theorem pssW {X : Cx} {st : List Stmt} : PSs X st (WSs X st) := ⟨fun pins s σ H D I ⟨t, h, q⟩ => h.run pins s σ H D I q⟩
section
variable {S : Sem0} {G : Info} {P : Program} {w : World} {mg : Str → Option Value} {base : Heap} {k : Nat} {call : Str → List D → T D} {C : Sc0} {E : XK} {X : Cx} {mu : List Str}
/-- a new list stands at a, still open -/
def Opn (S : Sem0) (H B : Hp) (Q : VK) (ds : List D) : Prop := ∀ a acc H' B', Grow S H B H' B' → H a = none → H' a = some (.lst acc) → B' a = none → DrAll S B' acc ds → Q (.ref a) H'
theorem Opn.new {H B H1 B1 : Hp} {Q : VK} {ds : List D} {vs : List V} (g : Grow S H B H1 B1) (h : Opn S H B Q ds) (r : DrAll S B1 vs ds) : ∀ p, H1 p = none → Q (.ref p) (upd H1 p (.lst vs)) := fun p hp =>
  h p vs _ B1 (g.trans (Grow.open_ g.ok hp _)) (g.none hp) upd_same (g.ok.free hp) r
theorem wp_bindOk {α β : Type} {t : T α} {f : α → T β} {P' : β → Prop} {E1 : Str → List D → Prop} (h : wpT (t.bind f) P' E1) : wpT t (fun a => wpT (f a) P' E1) E1 := (wpT_bind t f P' E1).mp h
theorem bin_lst {op : Operator} {x y : D} {P' : D → Prop} {E1 : Str → List D → Prop} (h : wpT (binD op x y) P' E1) (hl : ∀ d, P' d → ∃ l, d = .lst l) (ho : op = .Add ∨ op = .Mult) :
    (∃ a b, op = .Add ∧ x = .lst a ∧ y = .lst b ∧ a.length + b.length ≤ most ∧ P' (.lst (a ++ b))) ∨ (∃ a k, op = .Mult ∧ x = .lst a ∧ y = .int k ∧ -1000 ≤ k ∧ k ≤ 1000 ∧ a.length ≤ 1000 ∧ P' (.lst (List.replicate k.toNat a).flatten)) := by
  unfold binD at h
  split at h
  all_goals first
    | (exfalso; exact h.elim)
    | (exfalso; obtain ⟨l, e⟩ := hl _ h; cases e; done)
    | skip
  all_goals try (split at h)
  all_goals first
    | (exfalso; exact h.elim)
    | (exfalso; obtain ⟨l, e⟩ := hl _ h; cases e; done)
    | (exfalso; rcases ho with z | z <;> cases z; done)
    | exact .inl ⟨_, _, rfl, rfl, rfl, by assumption, h⟩
    | (rename_i z; exact .inr ⟨_, _, rfl, rfl, rfl, z.1, z.2.1, z.2.2, h⟩)
theorem blt_list (c : CxIs S P w mg base k C E X) {H1 B1 : Hp} {vs : List V} {ds : List D} {G : Info} {P' : D → Prop} {E1 : Str → List D → Prop} {Q : VK} (o : Ok S H1 B1) (hd : DrAll S B1 vs ds) (h : wpT (bltD G.lenO "list" ds) P' E1)
    (hq : ∀ us l, P' (.lst l) → DrAll S B1 us l → ∀ p, H1 p = none → Q (.ref p) (upd H1 p (.lst us))) : WC X (.type "list") vs H1 Q := by
  have e1 : ¬ ("list" : Str) = "len" := by decide +kernel
  have e2 : ¬ ("list" : Str) = "int" := by decide +kernel
  have e3 : ¬ ("list" : Str) = "tuple" := by decide +kernel
  unfold bltD at h
  rw [if_neg e1, if_neg e2, if_neg e3, if_pos rfl] at h
  split at h
  · obtain ⟨v, rfl, hv⟩ := drAll_one hd
    cases hv with
    | lst h1 r1 => exact ⟨_, call_list_of, _, _, rfl, .inl (SqL.of (o.sub _ _ h1)), hq _ _ h r1⟩
  · obtain ⟨v, rfl, hv⟩ := drAll_one hd
    cases hv with
    | tup h1 r1 => exact ⟨_, call_list_of, _, _, rfl, .inr (by rw [c.K]; exact seqT_of o h1), hq _ _ h r1⟩
  · exact h.elim
theorem fresh_ok (ih : ∀ m, Snd S G P w mg base k call m) (tx : Text S G P w mg base k call) (c : CxIs S P w mg base k C E X) {m : Nat} {e : Expr} {ρ : List Sl} {H0 B0 H B : Hp} {σ : L2.St} {P' : D → Prop} {Q : VK} (p : Rep S H0 B0 ρ σ H B) (hf : freshF e = true) (hL : G.own "list" = false) (hz : hook G call C.sc e = none) (nc : isComp e = false)
    (h : wpT (evE G call m C ρ e) P' (AftE S H B E)) (hl : ∀ d, P' d → ∃ l, d = .lst l) (hq : ∀ l, P' (.lst l) → Opn S H B Q l) : W X e σ H Q := by
  cases m with
  | zero => exact h.elim
  | succ m =>
    rw [evE_none hz] at h
    cases e with
    | List es pos =>
      change wpT (ite _ _ _) P' (AftE S H B E) at h
      split at h
      · exact h.elim
      · rename_i hs
        refine ⟨_, pe_lst paW, ?_⟩
        refine sndA_then (snd_args (by simpa using hs) fun e _ => (ih m).e C E X c ρ e) p h fun ds vs H1 B1 g1 r1 h1 => ?_
        split at h1
        · rename_i z
          exact ⟨by rw [r1.len]; exact most_le z, (hq _ h1).new g1 r1⟩
        · exact h1.elim
    | BinOp a op b pos =>
      have ho : op = .Add ∨ op = .Mult := by cases op <;> first | exact .inl rfl | exact .inr rfl | cases hf
      refine ⟨_, pe_op opW peW peW, ?_⟩
      change wpT ((evE G call m C ρ a).bind fun x => (evE G call m C ρ b).bind fun y => binD op x y) P' (AftE S H B E) at h
      refine sndE_then ((ih m).e C E X c ρ a) p h fun x v H1 B1 g1 r1 h1 => ?_
      refine sndE_then ((ih m).e C E X c ρ b) (p.grow g1) h1 fun y u H2 B2 g2 r2 h2 => ?_
      have r1 := r1.mono g2.bb
      rcases bin_lst h2 hl ho with ⟨l1, l2, rfl, rfl, rfl, hz, hP⟩ | ⟨l1, n, rfl, rfl, rfl, n0, n1, hz, hP⟩
      · cases r1 with
        | lst k1 q1 => cases r2 with
          | lst k2 q2 => exact ⟨_, op_cat, _, _, _, _, rfl, rfl, g2.ok.sub _ _ k1, g2.ok.sub _ _ k2, by rw [q1.len, q2.len]; exact most_le hz, (hq _ hP).new (g1.trans g2) (q1.app q2)⟩
      · cases r2
        cases r1 with
        | lst k1 q1 =>
          refine ⟨_, op_rep, _, _, _, rfl, rfl, g2.ok.sub _ _ k1, by omega, by omega, ?_, (hq _ hP).new (g1.trans g2) (q1.rep _)⟩
          rw [q1.len]
          exact Nat.le_trans (Nat.mul_le_mul hz (show _ ≤ 1000 by omega)) (by decide)
    | Call f args kws pos =>
      cases f with
      | Name x p0 =>
        have hx : x = "list" := of_decide_eq_true hf
        subst hx
        change wpT (ite _ _ _) P' (AftE S H B E) at h
        split at h
        · exact h.elim
        rename_i hks
        simp only [Bool.or_eq_true, Bool.not_eq_true', not_or, Bool.not_eq_false, Bool.not_eq_true] at hks
        obtain ⟨hk, hs⟩ := hks
        cases kws with
        | cons a b => cases hk
        | nil =>
          have hdb : (("list" : Str) == ("__debug__" : Str)) = false := by decide +kernel
          have nd : ¬ ("list" : Str) = "__debug__" := by decide +kernel
          cases hg : isGlo C.sc "list" with
          | false =>
            change wpT (if (!isGlo C.sc "list") = true then T.fail else _) P' (AftE S H B E) at h
            rw [hg] at h
            exact h.elim
          | true =>
          change wpT (if (!isGlo C.sc "list") = true then T.fail else _) P' (AftE S H B E) at h
          rw [if_neg (by rw [hg]; exact Bool.false_ne_true), if_neg nd, if_neg (by rw [hL]; exact Bool.false_ne_true)] at h
          cases hb : (!isBlt "list" || args.isEmpty) with
          | true =>
            rw [if_pos hb] at h
            exact h.elim
          | false =>
          rw [if_neg (by rw [hb]; exact Bool.false_ne_true)] at h
          rw [Bool.or_eq_false_iff] at hb
          have hv : bltV "list" = some (.type "list") := by decide +kernel
          have hm := tx.blt "list" _ hv
          have gen : wpT ((mapT (evE G call m C ρ) args).bind fun ds => bltD G.lenO "list" ds) P' (AftE S H B E) → W X (.Call (.Name "list" p0) args [] pos) σ H Q := fun h => by
            cases args with
            | nil => cases hb.2
            | cons a es =>
              have hs' : isStar a = false ∧ es.any isStar = false := by rw [List.any_cons, Bool.or_eq_false_iff] at hs; exact hs
              refine ⟨_, pe_callTy callW (c.glo hg) (by rw [c.mg]; exact hm) (boot_of hv) paW (by decide +kernel) hdb (star_cons hs'.1) (star_any hs'.2), ?_⟩
              refine sndA_then (snd_args hs fun e _ => (ih m).e C E X c ρ e) p h fun ds vs H1 B1 g1 r1 h1 => ?_
              exact blt_list c g1.ok r1 h1 fun us l hP r => (hq _ hP).new g1 r
          split at h
          · split at h
            · rename_i y p1 as' kws' q hr
              simp only [Bool.and_eq_true, decide_eq_true_eq] at hr
              obtain ⟨⟨⟨rfl, h2⟩, _⟩, h4⟩ := hr
              cases kws' with
              | cons a b => cases h4
              | nil =>
                split at h
                · split at h
                  · exact h.elim
                  · rename_i a hst
                    have hst : isStar a = false := by simpa using hst
                    refine ⟨_, pe_listRg c.calm (c.glo hg) (by rw [c.mg]; exact hm) (prg_1 (c.glo h2) (by rw [c.mg]; exact tx.rng) peW (star_cons hst)) (star_cons rfl), ?_⟩
                    refine sndE_then ((ih m).e C E X c ρ a) p h fun x v H1 B1 g1 r1 h1 => ?_
                    rw [wpT_bind] at h1
                    obtain ⟨j, rfl, h2⟩ := wp_asInt h1
                    refine ⟨j, dr_int r1, ?_⟩
                    split at h2
                    · rename_i z
                      refine ⟨⟨by omega, by omega, by omega, by omega, by omega⟩, ?_⟩
                      intro q hq'
                      have e : rgV 0 j = ((List.range j.toNat).map fun i => V.int (0 + (i : Nat))) := by
                        unfold rgV
                        rw [Int.sub_zero]
                      rw [e]
                      exact (hq _ h2).new g1 (drAll_rng 0 _) q hq'
                    · exact h2.elim
                · exact h.elim
            · exact gen h
          · exact gen h
      | _ => cases hf
    | ListComp a b d e => cases nc
    | _ => cases hf
/-- a comprehension, as a value and to a name -/
theorem lc_open (ih : ∀ m, Snd S G P w mg base k call m) (c : CxIs S P w mg base k C E X) {m : Nat} {elt : Expr} {gens : List Comprehension} {sc' : Scope} {pos : Pos} {ρ : List Sl} {H0 B0 H B : Hp} {σ : L2.St} {P' : D → Prop} {Q : VK} (p : Rep S H0 B0 ρ σ H B)
    (h : wpT (evE G call m C ρ (.ListComp elt gens sc' pos)) P' (AftE S H B E)) (hq : ∀ l, P' (.lst l) → Opn S H B Q l) :
    W X (.ListComp elt gens sc' pos) σ H Q ∧ ∀ (y : Str) (py spos : Pos) (i : Nat) (D : Ends), X.N[i]? = some y → X.env.scope.names.lookup y = some .local → swapsWith (.ListComp elt gens sc' pos) (some (.Name y py)) spos.line X.env = pure true →
      (∀ v H1, Q v H1 → D.nx (σ.set i (some v)) H1) → WS X (.Assign [.Name y py] (.ListComp elt gens sc' pos) spos) D σ H := by
  cases m with
  | zero => exact h.elim
  | succ m =>
    match gens with
    | [] => exact h.elim
    | ⟨_, _, _, _⟩ :: _ :: _ => exact h.elim
    | [⟨tg, iter, ifs, as⟩] =>
      rw [evE_none (e := .ListComp elt [⟨tg, iter, ifs, as⟩] sc' pos) rfl] at h
      change wpT (ite _ _ _) P' (AftE S H B E) at h
      split at h
      case isFalse => exact h.elim
      rename_i hc
      obtain ⟨rfl, hset, htg, hblk⟩ := hc
      have read := lc_read (sc' := sc') (ifs := ifs) (tf := fun ρ' => evF G call m (C.blk sc') ρ' ifs) (te := fun ρ' => evE G call m (C.blk sc') ρ' elt) (Q := Q) c ((ih m).i C E X c ρ tg iter) htg (fun ρ' X' c' => (ih m).f _ _ X' c' ρ' ifs) (fun ρ' X' c' => (ih m).e _ _ X' c' ρ' elt) p (by
        rw [wpT_bind] at h ⊢
        refine wpT_mono h (fun ds hds => ?_) fun _ _ a => a
        split at hds
        · rename_i z
          rw [if_pos z]
          rw [wpT_bind] at hds
          exact wpT_mono hds (fun xs hx a acc H' B' g n1 h2 n2 r => hq xs hx a acc H' B' g n1 h2 n2 r) fun _ _ a => a
        · exact hds.elim)
      refine ⟨⟨_, pe_lc (own := ownOf C.N sc') (g := gC S P w mg base k (C.blk sc') tg) (tt := fC S P w mg base k (C.blk sc') ifs) (te := eC S P w mg base k (C.blk sc') elt) c.calm c.Nn piW (blkD_ok c hblk) (fun s H cc cl fp => ⟨fun pins s' σ' H' v u Q' I r hh => pgW.run pins s' σ' H' v u Q' I r (hh _ (c.blk s H sc' cc cl fp))⟩)
        (fun s H cc cl fp => ⟨fun pins s' σ' H' Q' I hh => pfW.run pins s' σ' H' Q' I (hh _ (c.blk s H sc' cc cl fp))⟩) (fun s H cc cl fp => ⟨fun pins s' σ' H' Q' I hh => peW.run pins s' σ' H' Q' I (hh _ (c.blk s H sc' cc cl fp))⟩) (fold_set hset), read⟩, fun y py spos i D hy hyl hsw hD => ?_⟩
      refine ⟨_, ps_setLc (own := ownOf C.N sc') (g := gC S P w mg base k (C.blk sc') tg) (tt := fC S P w mg base k (C.blk sc') ifs) (te := eC S P w mg base k (C.blk sc') elt) c.calm c.Nn hy hyl hsw piW (blkD_ok c hblk) (fun s H cc cl fp => ⟨fun pins s' σ' H' v u Q' I r hh => pgW.run pins s' σ' H' v u Q' I r (hh _ (c.blk s H sc' cc cl fp))⟩)
        (fun s H cc cl fp => ⟨fun pins s' σ' H' Q' I hh => pfW.run pins s' σ' H' Q' I (hh _ (c.blk s H sc' cc cl fp))⟩) (fun s H cc cl fp => ⟨fun pins s' σ' H' Q' I hh => peW.run pins s' σ' H' Q' I (hh _ (c.blk s H sc' cc cl fp))⟩) (fold_set hset), ?_⟩
      refine lc_read (sc' := sc') (ifs := ifs) (tf := fun ρ' => evF G call m (C.blk sc') ρ' ifs) (te := fun ρ' => evE G call m (C.blk sc') ρ' elt) c ((ih m).i C E X c ρ tg iter) htg (fun ρ' X' c' => (ih m).f _ _ X' c' ρ' ifs) (fun ρ' X' c' => (ih m).e _ _ X' c' ρ' elt) p (by
        rw [wpT_bind] at h ⊢
        refine wpT_mono h (fun ds hds => ?_) fun _ _ a => a
        split at hds
        · rename_i z
          rw [if_pos z]
          rw [wpT_bind] at hds
          exact wpT_mono hds (fun xs hx a acc H' B' g n1 h2 n2 r => hD _ _ (hq xs hx a acc H' B' g n1 h2 n2 r)) fun _ _ a => a
        · exact hds.elim)
end
end Ev

/-! Assignments. -/
namespace Ev
open PySem PySem.Spec L2 PyProof.Rows RZ
section
variable {S : Sem0} {G : Info} {P : Program} {w : World} {mg : Str → Option Value} {base : Heap} {k : Nat} {call : Str → List D → T D} {C : Sc0} {E : XK} {X : Cx} {mu : List Str}
/-- what a name may take: data, or a new list that is still open (H: the heap ahead) -/
def SlOk (S : Sem0) (H H' B' : Hp) (v : V) : Sl → Prop
  | .dat d => Dr S B' v d
  | .own l => ∃ a vs, v = .ref a ∧ H' a = some (.lst vs) ∧ B' a = none ∧ H a = none ∧ DrAll S B' vs l
  | .emp => False
theorem Rep.setSl {H0 B0 H H' B' : Hp} {ρ' : List Sl} {σ : L2.St} {v : V} {sl : Sl} (p : Rep S H0 B0 ρ' σ H' B') (o : SlOk S H H' B' v sl) (hn : ∀ a, H a = none → a ≠ S.r ∧ H0 a = none) (tr : ∀ (j : Nat) (m : List D) (b : Addr), ρ'[j]? = some (.own m) → σ[j]? = some (some (.ref b)) → ∃ u, H b = some u) (i : Nat) :
    Rep S H0 B0 (ρ'.set i sl) (σ.set i (some v)) H' B' := by
  cases sl with
  | dat d => exact p.set o i
  | emp => exact o.elim
  | own l =>
    obtain ⟨a, vs, rfl, h1, h2, h3, r⟩ := o
    refine p.setOwn h1 h2 (hn a h3).1 (hn a h3).2 r fun j m hj e => ?_
    obtain ⟨u, hu⟩ := tr j m a hj e
    rw [h3] at hu
    cases hu
theorem Rep.tr {H0 B0 H B H' B' : Hp} {ρ ρ' : List Sl} {σ : L2.St} (p0 : Rep S H0 B0 ρ σ H B) (q : Kp S ρ σ H B ρ' H' B') : ∀ (j : Nat) (m : List D) (b : Addr), ρ'[j]? = some (.own m) → σ[j]? = some (some (.ref b)) → ∃ u, H b = some u := fun j m b hj e => by
  obtain ⟨m', hm⟩ := q.ow j m hj
  obtain ⟨b', us, e1, e2, _⟩ := p0.own j m' hm
  rw [e] at e1
  cases e1
  exact ⟨_, e2⟩
theorem Rep.hn {H0 B0 H B : Hp} {ρ : List Sl} {σ : L2.St} (p0 : Rep S H0 B0 ρ σ H B) : ∀ a, H a = none → a ≠ S.r ∧ H0 a = none := fun a h => ⟨p0.ok.ne h, p0.gr.none h⟩
theorem SlOk.keep {H H1 B1 H2 B2 : Hp} {ρ1 ρ2 : List Sl} {σ : L2.St} {v : V} {sl : Sl} (o : SlOk S H H1 B1 v sl) (q : Kp S ρ1 σ H1 B1 ρ2 H2 B2) (hr : ∀ a, H a = none → a ≠ S.r) (no : ∀ a, H a = none → NotOwn ρ1 σ a) : SlOk S H H2 B2 v sl := by
  cases sl with
  | dat d => exact Dr.mono q.bb o
  | emp => exact o
  | own l =>
    obtain ⟨a, vs, rfl, h1, h2, h3, r⟩ := o
    exact ⟨a, vs, rfl, q.kp a _ (hr a h3) h1 (no a h3), q.fr a _ h1 h2 (no a h3), h3, r.mono q.bb⟩
/-- the end of what is read: a new list -/
theorem opn_sl {H0 B0 H B B1 : Hp} {ρ : List Sl} {σ : L2.St} {xs : List Str} {l : List D} {P' : Sl × List Sl → Prop} {Q : VK} (p : Rep S H0 B0 ρ σ H B) (s1 : Same B B1) (p1 : Rep S H0 B0 (frzR xs C.N ρ) σ H B1) (n1 : ∀ a, B a = none → NotOwn ρ σ a → B1 a = none)
    (hP : P' (.own l, if l.all D.flat then ρ else frzR xs C.N ρ)) (hq : ∀ sl ρ' v H' B', P' (sl, ρ') → Rep S H0 B0 ρ' σ H' B' → SlOk S H H' B' v sl → Kp S ρ σ H B ρ' H' B' → Q v H') : Opn S H B1 Q l := fun a acc H' B' g h1 h2 h3 r => by
  cases f : l.all D.flat with
  | true =>
    rw [f] at hP
    exact hq _ ρ _ H' B hP (p.back s1 g) ⟨a, acc, rfl, h2, p.ok.free h1, h1, flats_any r f⟩ ⟨Same.refl B, fun a o n h _ => g.kp a o n h, fun _ _ _ hb _ => hb, fun i l h => ⟨l, h⟩⟩
  | false =>
    rw [f] at hP
    exact hq _ _ _ H' B' hP (p1.grow g) ⟨a, acc, rfl, h2, h3, h1, r⟩ ⟨s1.trans g.bb, fun a o n h _ => g.kp a o n h, fun a o h hb n => g.fr a o h (n1 a hb n), frz_ow⟩
theorem evE_comp {m : Nat} {ρ : List Sl} {e : Expr} (h : isComp e = true) : (∃ a b c d, e = .ListComp a b c d) ∨ evE G call m C ρ e = .fail := by
  cases e <;> first | exact .inl ⟨_, _, _, _, rfl⟩ | (cases m <;> exact .inr rfl) | cases h
/-- evP of a comprehension -/
theorem evP_comp {m : Nat} {ρ : List Sl} {e : Expr} (h : isComp e = true) : evP G call C m ρ e = evV G call C m ρ e := by
  cases e <;> first | rfl | cases h
/-- what a name takes, by its value; and a comprehension stored at once -/
theorem evR_ok (ih : ∀ m, Snd S G P w mg base k call m) (tx : Text S G P w mg base k call) (c : CxIs S P w mg base k C E X) {m : Nat} {x : Str} {e : Expr} {ρ : List Sl} {H0 B0 H B : Hp} {σ : L2.St} {P' : Sl × List Sl → Prop} {Q : VK} (p : Rep S H0 B0 ρ σ H B)
    (h : wpT (evR G call C mu m ρ x e) P' (AftE S H0 B0 E)) (hq : ∀ sl ρ' v H' B', P' (sl, ρ') → Rep S H0 B0 ρ' σ H' B' → SlOk S H H' B' v sl → Kp S ρ σ H B ρ' H' B' → Q v H') :
    W X e σ H Q ∧ (isComp e = true → ∀ (y : Str) (py spos : Pos) (i : Nat) (D : Ends), X.N[i]? = some y → X.env.scope.names.lookup y = some .local → swapsWith e (some (.Name y py)) spos.line X.env = pure true →
      (∀ v H1, Q v H1 → D.nx (σ.set i (some v)) H1) → WS X (.Assign [.Name y py] e spos) D σ H) := by
  unfold evR at h
  split at h
  · split at h
    case isFalse => exact h.elim
    rename_i hf
    rw [Bool.and_eq_true, Bool.and_eq_true, Bool.not_eq_true'] at hf
    have hz := Option.isNone_iff_eq_none.mp hf.2
    have hf := hf.1
    obtain ⟨B1, s1, p1, n1⟩ := p.frz (nmE m e) C.N
    rw [wpT_bind] at h
    have h := wpT_mono (E' := AftE S H B1 E) h (fun _ a => a) fun _ _ a => a.up p1.gr
    have hl : ∀ d : D, wpT (match d with | .lst l => T.ret (Sl.own l, if l.all D.flat then ρ else frzR (nmE m e) C.N ρ) | _ => .fail) P' (AftE S H0 B0 E) → ∃ l, d = .lst l := fun d hd => by
      cases d <;> first | exact ⟨_, rfl⟩ | exact hd.elim
    have op : ∀ l : List D, wpT (match D.lst l with | .lst l => T.ret (Sl.own l, if l.all D.flat then ρ else frzR (nmE m e) C.N ρ) | _ => .fail) P' (AftE S H0 B0 E) → Opn S H B1 Q l := fun l hP => opn_sl p s1 p1 n1 hP hq
    cases hc : isComp e with
    | false => exact ⟨fresh_ok ih tx c p1 hf.1 hf.2 hz hc h hl op, fun z => by cases z⟩
    | true =>
      rcases evE_comp (G := G) (call := call) (C := C) (m := m) (ρ := frzR (nmE m e) C.N ρ) hc with ⟨a, b, d, f, rfl⟩ | z
      · obtain ⟨k1, k2⟩ := lc_open ih c p1 h op
        exact ⟨k1, fun _ => k2⟩
      · rw [z] at h
        exact h.elim
  · rw [wpT_bind] at h
    have hP : ∀ (d : D) (ρ' : List Sl) (v : V) (H' B' : Hp), wpT (T.ret (Sl.dat d, ρ')) P' (AftE S H0 B0 E) → Rep S H0 B0 ρ' σ H' B' → Dr S B' v d → Kp S ρ σ H B ρ' H' B' → Q v H' := fun d ρ' v H' B' hP p' r q => hq (.dat d) ρ' v H' B' hP p' r q
    refine ⟨evP_ok ih c p h hP, fun hc y py spos i D hy hyl hsw hD => ?_⟩
    rw [evP_comp hc] at h
    unfold evV at h
    obtain ⟨B1, s1, p1, n1⟩ := p.frz (nmE m e) C.N
    rw [wpT_bind] at h
    have h := wpT_mono (E' := AftE S H B1 E) h (fun _ a => a) fun _ _ a => a.up p1.gr
    rcases evE_comp (G := G) (call := call) (C := C) (m := m) (ρ := frzR (nmE m e) C.N ρ) hc with ⟨a, b, d, f, rfl⟩ | z
    · refine (lc_open (Q := fun v H1 => D.nx (σ.set i (some v)) H1) ih c p1 h fun l hl a acc H' B' g h1 h2 h3 r => hD _ _ ?_).2 y py spos i D hy hyl hsw fun _ _ q => q
      have nr := p.ok.ne h1
      have g' := g.frz h1 h2 h3 nr
      have sb : Same B' (upd B' a (.lst acc)) := (Grow.freeze g.ok h2 h3 nr).2
      exact hP (.lst l) _ _ H' _ hl (p1.grow g') (.lst upd_same (r.mono sb)) ⟨s1.trans g'.bb, fun a o n h _ => g'.kp a o n h, fun a o h hb n => g'.fr a o h (n1 a hb n), frz_ow⟩
    · rw [z] at h
      exact h.elim
theorem swaps_no {e : Expr} {tg : Option Expr} {l : Nat} {env : Env} (h : isComp e = false) : swapsWith e tg l env = pure false := by
  cases e <;> first | rfl | cases h
theorem swaps_lc {e : Expr} {y : Str} {py : Pos} {l : Nat} {env : Env} (h : ∃ a b c d, e = .ListComp a b c d) : swapsWith e (some (.Name y py)) l env = pure true ∨ swapsWith e (some (.Name y py)) l env = pure false := by
  obtain ⟨a, b, sc, d, rfl⟩ := h
  have e : swapsWith (.ListComp a b sc d) (some (.Name y py)) l env = pure (env.blockKind == .function && env.kindOf y == some .local && py.line == d.line && !(sc.names.any fun (n, k) => n == y && (k == .local || k == .cell))) := rfl
  rw [e]
  cases env.blockKind == .function && env.kindOf y == some .local && py.line == d.line && !(sc.names.any fun (n, k) => n == y && (k == .local || k == .cell)) with
  | true => exact .inl rfl
  | false => exact .inr rfl
theorem swaps_loc {e : Expr} {y : Str} {py : Pos} {l : Nat} {env : Env} (h : swapsWith e (some (.Name y py)) l env = pure true) (nl : env.scope.names.lookup y ≠ some .local) : swapsWith e (some (.Name y py)) l env = pure false := by
  cases e with
  | ListComp a b sc d =>
    have e : swapsWith (.ListComp a b sc d) (some (.Name y py)) l env = pure (env.blockKind == .function && env.kindOf y == some .local && py.line == d.line && !(sc.names.any fun (n, k) => n == y && (k == .local || k == .cell))) := rfl
    have e2 : (env.kindOf y == some .local) = false := beq_eq_false_iff_ne.mpr nl
    rw [e, e2]
    cases env.blockKind == .function <;> rfl
  | SetComp a b sc d =>
    have e : swapsWith (.SetComp a b sc d) (some (.Name y py)) l env = pure (env.blockKind == .function && env.kindOf y == some .local && py.line == d.line && !(sc.names.any fun (n, k) => n == y && (k == .local || k == .cell))) := rfl
    have e2 : (env.kindOf y == some .local) = false := beq_eq_false_iff_ne.mpr nl
    rw [e, e2]
    cases env.blockKind == .function <;> rfl
  | DictComp a a2 b sc d =>
    have e : swapsWith (.DictComp a a2 b sc d) (some (.Name y py)) l env = pure (env.blockKind == .function && env.kindOf y == some .local && py.line == d.line && !(sc.names.any fun (n, k) => n == y && (k == .local || k == .cell))) := rfl
    have e2 : (env.kindOf y == some .local) = false := beq_eq_false_iff_ne.mpr nl
    rw [e, e2]
    cases env.blockKind == .function <;> rfl
  | _ => rfl
/-- name = value -/
theorem ws_set (c : CxIs S P w mg base k C E X) {x : Str} {py spos : Pos} {e : Expr} {i : Nat} {σ : L2.St} {H : Hp} {D : Ends} (hl : isLoc C x = true) (hi : ixOf x C.N = some i)
    (h : W X e σ H (fun v H1 => D.nx (σ.set i (some v)) H1)) (h2 : isComp e = true → ∀ (y : Str) (py spos : Pos) (i' : Nat) (D' : Ends), X.N[i']? = some y → X.env.scope.names.lookup y = some .local → swapsWith e (some (.Name y py)) spos.line X.env = pure true →
      (∀ v H1, D.nx (σ.set i (some v)) H1 → D'.nx (σ.set i' (some v)) H1) → WS X (.Assign [.Name y py] e spos) D' σ H) (hc : isComp e = true → ∃ a b c d, e = .ListComp a b c d) : WS X (.Assign [.Name x py] e spos) D σ H := by
  obtain ⟨l1, l2⟩ := loc_of hl
  have hN : X.N[i]? = some x := by rw [c.N]; exact ixOf_at hi
  have plain : swapsWith e (some (.Name x py)) spos.line X.env = pure false → WS X (.Assign [.Name x py] e spos) D σ H := fun hs =>
    ⟨_, ps_set c.Nn hN (by rw [c.sc]; exact l1) peW hs (by rw [c.sc]; exact l2.elim (fun h => .inl (c.fn _ h)) .inr), h⟩
  cases hk : isComp e with
  | false => exact plain (swaps_no hk)
  | true =>
    rcases swaps_lc (y := x) (py := py) (l := spos.line) (env := X.env) (hc hk) with z | z
    · by_cases nl : X.env.scope.names.lookup x = some .local
      · exact h2 hk x py spos i D hN nl z fun _ _ q => q
      · exact plain (swaps_loc z nl)
    · exact plain z
end
end Ev

/-! Statements. -/
namespace Ev
open PySem PySem.Spec L2 PyProof.Rows RZ
section
variable {S : Sem0} {G : Info} {P : Program} {w : World} {mg : Str → Option Value} {base : Heap} {k : Nat} {call : Str → List D → T D} {err : ErrF} {C : Sc0} {E : XK} {X : Cx} {mu : List Str}
/-- the wanted end of a statement, over data -/
def FlP (S : Sem0) (H0 B0 : Hp) (D : Ends) : Fl → Prop
  | .nx ρ => ∀ σ H B, Rep S H0 B0 ρ σ H B → D.nx σ H
  | .rt d => ∀ v H B, Grow S H0 B0 H B → Dr S B v d → D.rt v H
  | .bk ρ => ∀ σ H B, Rep S H0 B0 ρ σ H B → D.bk σ H
  | .ct ρ => ∀ σ H B, Rep S H0 B0 ρ σ H B → D.ct σ H
def SndS (S : Sem0) (X : Cx) (E : XK) (st : Stmt) (ρ : List Sl) (t : T Fl) : Prop := ∀ (H0 B0 H B : Hp) (σ : L2.St) (D : Ends), Rep S H0 B0 ρ σ H B → wpT t (FlP S H0 B0 D) (AftE S H0 B0 E) → WS X st D σ H
def SndSs (S : Sem0) (X : Cx) (E : XK) (st : List Stmt) (ρ : List Sl) (t : T Fl) : Prop := ∀ (H0 B0 H B : Hp) (σ : L2.St) (D : Ends), Rep S H0 B0 ρ σ H B → wpT t (FlP S H0 B0 D) (AftE S H0 B0 E) → WSs X st D σ H
/-- the text's errors: what a raise tells -/
structure TextS (S : Sem0) (G : Info) (P : Program) (w : World) (mg : Str → Option Value) (base : Heap) (k : Nat) (call : Str → List D → T D) (err : ErrF) : Prop where
  tx : Text S G P w mg base k call
  rai : ∀ C E X, CxIs S P w mg base k C E X → ∀ (x : Str) (args : List Expr) (f : List D → Option (List D)), err x args.length = some f → ∀ (p pos pos' : Pos) (D : Ends) (σ : L2.St) (H : Hp), isGlo C.sc x = true → dbg x = false → args.any isStar = false →
    WA X args σ H (fun vs H1 => ∃ ds B1 fs, Ok S H1 B1 ∧ DrAll S B1 vs ds ∧ f ds = some fs ∧ AftE S H1 B1 E x fs) → WS X (.Raise (some (.Call (.Name x p) args [] pos)) none pos') D σ H
theorem ws_ret (ih : ∀ m, Snd S G P w mg base k call m) (c : CxIs S P w mg base k C E X) {m : Nat} {e : Expr} {pos : Pos} {ρ : List Sl} : SndS S X E (.Return (some e) pos) ρ ((evP G call C m ρ e).bind fun r => .ret (.rt r.1)) := fun H0 B0 H B σ D p h => by
  rw [wpT_bind] at h
  exact ⟨_, ps_ret peW, evP_ok ih c p h fun d ρ' v H' B' hP p' r q => hP v H' B' p'.gr r⟩
theorem ws_expr (ih : ∀ m, Snd S G P w mg base k call m) (c : CxIs S P w mg base k C E X) {m : Nat} {e : Expr} {pos : Pos} {ρ : List Sl} (hc : isComp e = false) : SndS S X E (.Expr e pos) ρ ((evV G call C m ρ e).bind fun r => .ret (.nx r.2)) := fun H0 B0 H B σ D p h => by
  rw [wpT_bind] at h
  refine ⟨_, ps_expr peW (swaps_no hc), ?_⟩
  show W X e σ H fun _ H1 => D.nx σ H1
  exact evV_ok ih c p h fun d ρ' v H' B' hP p' r q => hP σ H' B' p'
theorem ws_append (ih : ∀ m, Snd S G P w mg base k call m) (c : CxIs S P w mg base k C E X) {m : Nat} {x : Str} {a : Expr} {xp apos cpos pos : Pos} {ρ : List Sl} {i : Nat} {l : List D} (ho : ownAt C ρ x = some (i, l)) (hv : isVis C.sc x = true) (hdb : dbg x = false) (hst : isStar a = false) (hl : (apos.endLine == cpos.line) = true) :
    SndS S X E (.Expr (.Call (.Attribute (.Name x xp) "append" apos) [a] [] cpos) pos) ρ ((evP G call C m ρ a).bind fun r => match ownAt C r.2 x with
              | some (i', l') => if l'.length < most then .ret (.nx (r.2.set i' (.own (l' ++ [r.1])))) else .fail
              | none => .fail) := fun H0 B0 H B σ D p h => by
  obtain ⟨hi, hw⟩ := ownAt_some ho
  obtain ⟨b, vs, e1, e2, e3, e4, e5, e6⟩ := p.own i l hw
  refine ⟨_, ps_expr peW rfl, ?_⟩
  show W X _ σ H fun _ H1 => D.nx σ H1
  refine ⟨_, pe_bm PySem.F.plainAttrs_list PySem.F.slot_list_append PySem.F.type_list_append mt_append peW paW (base_call rfl) (one_few hst) hl (star_cons hst) rfl, ?_⟩
  show W X (.Name x xp) σ H fun y H1 => tyV X.K "list" y H1 ∧ WA X [a] σ H1 fun xs H2 => rAppend y xs H2 fun _ H3 => D.nx σ H3
  refine w_own c hi hv hdb e1 ⟨.inl ⟨rfl, _, SqL.of e2⟩, _, pa_cons peW pa_nil (star_cons hst), ?_⟩
  show W X a σ H fun y H2 => rAppend (.ref b) [y] H2 fun _ H3 => D.nx σ H3
  rw [wpT_bind] at h
  refine evP_ok ih c p h fun d ρ' v H' B' hP p' r q => ?_
  split at hP
  case h_2 => exact hP.elim
  rename_i i' l' hown'
  obtain ⟨hi', ho'⟩ := ownAt_some hown'
  rw [hi] at hi'
  cases hi'
  obtain ⟨b', vs', k1, k2, k3, k4, k5, k6⟩ := p'.own i l' ho'
  rw [e1] at k1
  cases k1
  split at hP
  · rename_i hz
    refine ⟨b, vs', v, rfl, rfl, k2, Nat.lt_of_lt_of_le (by rw [k6.len]; exact hz) (by decide), ?_⟩
    exact hP σ _ B' (p'.write ho' e1 (k6.app (.cons r .nil)))
  · exact hP.elim
theorem ws_extend (ih : ∀ m, Snd S G P w mg base k call m) (c : CxIs S P w mg base k C E X) {m : Nat} {x : Str} {a : Expr} {xp apos cpos pos : Pos} {ρ : List Sl} {i : Nat} {l : List D} (ho : ownAt C ρ x = some (i, l)) (hv : isVis C.sc x = true) (hdb : dbg x = false) (hst : isStar a = false) (hl : (apos.endLine == cpos.line) = true) :
    SndS S X E (.Expr (.Call (.Attribute (.Name x xp) "extend" apos) [a] [] cpos) pos) ρ ((evP G call C m ρ a).bind fun r => match ownAt C r.2 x with
              | some (i', l') => (match r.1 with
                | .lst l2 => if l'.length + l2.length ≤ most then .ret (.nx (r.2.set i' (.own (l' ++ l2)))) else .fail
                | _ => .fail)
              | none => .fail) := fun H0 B0 H B σ D p h => by
  obtain ⟨hi, hw⟩ := ownAt_some ho
  obtain ⟨b, vs, e1, e2, e3, e4, e5, e6⟩ := p.own i l hw
  refine ⟨_, ps_expr peW rfl, ?_⟩
  show W X _ σ H fun _ H1 => D.nx σ H1
  refine ⟨_, pe_bm PySem.F.plainAttrs_list PySem.F.slot_list_extend PySem.F.type_list_extend mt_extend peW paW (base_call rfl) (one_few hst) hl (star_cons hst) rfl, ?_⟩
  show W X (.Name x xp) σ H fun y H1 => tyV X.K "list" y H1 ∧ WA X [a] σ H1 fun xs H2 => rExtend y xs H2 fun _ H3 => D.nx σ H3
  refine w_own c hi hv hdb e1 ⟨.inl ⟨rfl, _, SqL.of e2⟩, _, pa_cons peW pa_nil (star_cons hst), ?_⟩
  show W X a σ H fun y H2 => rExtend (.ref b) [y] H2 fun _ H3 => D.nx σ H3
  rw [wpT_bind] at h
  refine evP_ok ih c p h fun d ρ' v H' B' hP p' r q => ?_
  split at hP
  case h_2 => exact hP.elim
  rename_i i' l' hown'
  obtain ⟨hi', ho'⟩ := ownAt_some hown'
  rw [hi] at hi'
  cases hi'
  obtain ⟨b', vs', k1, k2, k3, k4, k5, k6⟩ := p'.own i l' ho'
  rw [e1] at k1
  cases k1
  cases d with
  | lst l2 =>
    cases r with
    | @lst a2 _ vs2 h2 r2 =>
      change wpT (ite _ _ _) _ _ at hP
      split at hP
      · rename_i hz
        refine ⟨b, _, vs', _, rfl, rfl, k2, p'.ok.sub _ _ h2, by rw [k6.len, r2.len]; exact most_le hz, ?_⟩
        exact hP σ _ B' (p'.write ho' e1 (k6.app r2))
      · exact hP.elim
  | _ => exact hP.elim
theorem ws_augI (ih : ∀ m, Snd S G P w mg base k call m) (c : CxIs S P w mg base k C E X) {m : Nat} {tg e : Expr} {op : Operator} {g : Int → Int → Int} (ho : PIp X op (ipI g)) {pos : Pos} {ρ : List Sl} : SndS S X E (.AugAssign tg op e pos) ρ (augI G call C g m ρ tg e) := fun H0 B0 H B σ D p h => by
  cases tg with
  | Name x xp =>
    change wpT ((ofO (if isLoc C x then ixOf x C.N else none)).bind _) _ _ at h
    rw [wpT_bind] at h
    obtain ⟨i, hi, h⟩ := wp_ofO h
    split at hi
    case isFalse => cases hi
    rename_i hl
    obtain ⟨l1, l2⟩ := loc_of hl
    split at h
    case h_2 => exact h.elim
    rename_i a ha
    obtain ⟨v, hv, rv⟩ := p.dat i _ ha
    have ev := dr_int rv
    subst ev
    refine ⟨_, ps_aug c.Nn (by rw [c.N]; exact ixOf_at hi) (by rw [c.sc]; exact l1) peW ho (by rw [c.sc]; exact l2.elim (fun h => .inl (c.fn _ h)) .inr), .int a, hv, ?_⟩
    show W X e σ H fun y H1 => ipI g (.int a) y H1 fun z H2 => D.nx (σ.set i (some z)) H2
    have h := wp_bindOk h
    refine evV_ok ih c p h fun d ρ' v' H' B' hP p' r q => ?_
    have hP := wp_bindOk hP
    obtain ⟨b, hb, hP⟩ := wp_asInt hP
    have hb : d = .int b := hb
    subst hb
    have e2 := dr_int r
    subst e2
    exact ⟨a, b, rfl, rfl, hP _ H' B' (p'.set (.int (g a b)) i)⟩
  | _ => exact h.elim
theorem ws_aug (ih : ∀ m, Snd S G P w mg base k call m) (c : CxIs S P w mg base k C E X) {m : Nat} {tg e : Expr} {op : Operator} {pos : Pos} {ρ : List Sl} : SndS S X E (.AugAssign tg op e pos) ρ (augT G call C m ρ tg op e) := by
  cases op with
  | Add => exact ws_augI ih c ip_add
  | Sub => exact ws_augI ih c ip_sub
  | _ => exact fun _ _ _ _ _ _ _ h => h.elim
theorem ws_asg1 (ih : ∀ m, Snd S G P w mg base k call m) (tx : Text S G P w mg base k call) (c : CxIs S P w mg base k C E X) {m : Nat} {x : Str} {e : Expr} {py pos : Pos} {ρ : List Sl} {i : Nat} (hi : ixOf x C.N = some i) (hl : isLoc C x = true) :
    SndS S X E (.Assign [.Name x py] e pos) ρ ((evR G call C mu m ρ x e).bind fun r => .ret (.nx (r.2.set i r.1))) := fun H0 B0 H B σ D p h => by
  rw [wpT_bind] at h
  obtain ⟨k1, k2⟩ := evR_ok (Q := fun v H1 => D.nx (σ.set i (some v)) H1) ih tx c p h fun sl ρ' v H' B' hP p' o q => hP _ H' B' (p'.setSl o p.hn (p.tr q) i)
  refine ws_set c hl hi k1 (fun hc y py spos i' D' hN hy hs hD => k2 hc y py spos i' D' hN hy hs hD) fun hc => ?_
  rcases evE_comp (G := G) (call := call) (C := C) (m := m) (ρ := frzR (nmE m e) C.N ρ) hc with z | z
  · exact z
  · exfalso
    unfold evR at h
    split at h
    · split at h
      · rw [wpT_bind, z] at h
        exact h.elim
      · exact h.elim
    · rw [wpT_bind, evP_comp hc] at h
      unfold evV at h
      rw [wpT_bind, z] at h
      exact h.elim
/-! ### a, b = x, y -/
theorem lcl_of {x : Str} (h : isLcl C x = true) : C.sc.names.lookup x = some .local := by
  unfold isLcl at h
  split at h
  · assumption
  · cases h
theorem swap_par {env : Env} {px py pt p2 : Pos} {x y : Str} {a b : Expr} {kt k2 : Nat} (hk : env.scope.kind = .function) (esc : env.scope = C.sc) (h : parOk C px py x y [a, b] = true) :
    swappedStores [.Tuple [.Name x px, .Name y py] kt pt] (.Tuple [a, b] k2 p2) env = pure (some [x, y]) := by
  unfold parOk at h
  simp only [Bool.and_eq_true, Bool.not_eq_true', decide_eq_true_eq] at h
  obtain ⟨⟨⟨⟨⟨⟨h1, h2⟩, h3⟩, h4⟩, h5⟩, h6⟩, h7⟩ := h
  have kx : (env.kindOf x == some NameKind.local) = true := by
    unfold Env.kindOf
    rw [esc, lcl_of h1]
    rfl
  have ky : (env.kindOf y == some NameKind.local) = true := by
    unfold Env.kindOf
    rw [esc, lcl_of h2]
    rfl
  have hb : env.blockKind = .function := by unfold Env.blockKind; rw [hk]; rfl
  have e4 : px.line = py.line := beq_iff_eq.mp h4
  have st : ∀ e : Expr, isStar e = false → (match e with | .Starred _ _ => true | _ => false) = false := fun e h => by cases e <;> first | rfl | cases h
  simp only [List.any_cons, List.any_nil, Bool.or_false, Bool.or_eq_false_iff] at h7
  have ne : ([x, y] : List Str).eraseDups.length = 2 := by
    have e : (x == y) = false := beq_eq_false_iff_ne.mpr h3
    have e' : (y == x) = false := beq_eq_false_iff_ne.mpr fun z => h3 z.symm
    simp [List.eraseDups, List.eraseDupsBy, List.eraseDupsBy.loop, e, e']
  have sa := st a h7.1
  have sb := st b h7.2
  unfold swappedStores
  simp only [List.any_cons, List.any_nil, sa, sb, hb, h5, h6, Bool.or_false, List.length_cons, List.length_nil, List.filterMap_cons, List.filterMap_nil, kx, ky, List.head?_cons, Option.map_some, Option.getD_some, Expr.pos, e4]
  refine Eq.trans (if_neg (by decide)) ?_
  refine Eq.trans (if_neg (fun z => ?_)) ?_
  · rw [Bool.or_eq_true] at z
    rcases z with z | z
    · cases a <;> first | (cases h7.1; done) | cases z
    · cases b <;> first | (cases h7.2; done) | cases z
  simp only [beq_self_eq_true, Bool.true_and, if_true]
  have n2 : (([x, y] : List Str).length != 0 + 1 + 1 || ([x, y] : List Str).eraseDups.length != ([x, y] : List Str).length) = false := by rw [ne]; rfl
  refine Eq.trans (if_neg (by rw [show _ = false from n2]; exact Bool.false_ne_true)) ?_
  refine Eq.trans (if_neg Bool.false_ne_true) ?_
  refine Eq.trans (if_neg Bool.false_ne_true) ?_
  rfl
end
end Ev

/-! Statements, further. -/
namespace Ev
open PySem PySem.Spec L2 PyProof.Rows RZ
section
variable {S : Sem0} {G : Info} {P : Program} {w : World} {mg : Str → Option Value} {base : Heap} {k : Nat} {call : Str → List D → T D} {err : ErrF} {C : Sc0} {E : XK} {X : Cx} {mu : List Str}
theorem par_star {px py : Pos} {x y : Str} {a b : Expr} (h : parOk C px py x y [a, b] = true) : isStar a = false ∧ isStar b = false ∧ x ≠ y ∧ isLcl C x = true ∧ isLcl C y = true := by
  unfold parOk at h
  simp only [Bool.and_eq_true, Bool.not_eq_true', decide_eq_true_eq] at h
  obtain ⟨⟨⟨⟨⟨⟨h1, h2⟩, h3⟩, h4⟩, h5⟩, h6⟩, h7⟩ := h
  simp only [List.any_cons, List.any_nil, Bool.or_false, Bool.or_eq_false_iff] at h7
  exact ⟨h7.1, h7.2, h3, h1, h2⟩
theorem ws_par (ih : ∀ m, Snd S G P w mg base k call m) (tx : Text S G P w mg base k call) (c : CxIs S P w mg base k C E X) (hk : C.sc.kind = .function) {m : Nat} {x y : Str} {a b : Expr} {px py tp ep pos : Pos} {j j2 : Nat} {ρ : List Sl} {i n : Nat} (hi : ixOf x C.N = some i) (hn : ixOf y C.N = some n) (hp : parOk C px py x y [a, b] = true) :
    SndS S X E (.Assign [.Tuple [.Name x px, .Name y py] j tp] (.Tuple [a, b] j2 ep) pos) ρ ((evR G call C mu m ρ x a).bind fun r => (evR G call C mu m r.2 y b).bind fun q => .ret (.nx ((q.2.set i r.1).set n q.1))) := fun H0 B0 H B σ D p h => by
  obtain ⟨s1, s2, nxy, l1, l2⟩ := par_star hp
  have hx : X.N[i]? = some x := by rw [c.N]; exact ixOf_at hi
  have hy : X.N[n]? = some y := by rw [c.N]; exact ixOf_at hn
  have hin : i ≠ n := fun z => nxy (by rw [z, hy] at hx; exact (Option.some.inj hx).symm)
  refine ⟨_, ps_par c.calm c.Nn hx hy hin (by rw [c.sc]; exact lcl_of l1) (by rw [c.sc]; exact lcl_of l2) (pa_cons peW (pa_cons peW pa_nil (star_cons s2)) (star_cons s1)) (swap_par (by rw [c.sc]; exact hk) c.sc hp) rfl, ?_⟩
  show W X a σ H fun v H1 => W X b σ H1 fun w H2 => ∃ v' w', [v, w] = [v', w'] ∧ D.nx ((σ.set i (some v')).set n (some w')) H2
  rw [wpT_bind] at h
  refine (evR_ok ih tx c p h fun sl1 ρ1 v H1 B1 h1 p1 o1 q1 => ?_).1
  have h1 := wp_bindOk h1
  refine (evR_ok ih tx c p1 h1 fun sl2 ρ2 w H2 B2 h2 p2 o2 q2 => ⟨v, w, rfl, ?_⟩).1
  have no : ∀ a, H a = none → NotOwn ρ1 σ a := fun a ha j m hj e => by
    obtain ⟨u, hu⟩ := p.tr q1 j m a hj e
    rw [ha] at hu
    cases hu
  have o1' := o1.keep q2 (fun a ha => (p.hn a ha).1) no
  have tr2 : ∀ (j : Nat) (m : List Ev.D) (b : Addr), ρ2[j]? = some (.own m) → σ[j]? = some (some (.ref b)) → ∃ u, H b = some u := fun j m b hj e => by
    obtain ⟨m1, h1⟩ := q2.ow j m hj
    exact p.tr q1 j m1 b h1 e
  have p3 := p2.setSl o1' p.hn tr2 i
  have p4 := p3.setSl o2 p1.hn (fun j m b hj e => ?_) n
  · exact h2 _ H2 B2 p4
  · by_cases z : i = j
    · subst z
      by_cases lt : i < ρ2.length
      · rw [List.getElem?_set_self lt] at hj
        rw [List.getElem?_set_self (by rw [← p2.len]; exact lt)] at e
        cases hj
        obtain ⟨a, vs, rfl, k1, _⟩ := o1
        cases e
        exact ⟨_, k1⟩
      · rw [List.getElem?_eq_none (by simpa using lt)] at hj
        cases hj
    · rw [List.getElem?_set_ne z] at hj e
      exact p1.tr q2 j m b hj e
theorem par_star3 {px py pz : Pos} {x y z : Str} {vs : List Expr} (h : parOk3 C px py pz x y z vs = true) : vs.any isStar = false ∧ x ≠ y ∧ x ≠ z ∧ y ≠ z ∧ isLcl C x = true ∧ isLcl C y = true ∧ isLcl C z = true := by
  unfold parOk3 at h
  simp only [Bool.and_eq_true, Bool.not_eq_true', decide_eq_true_eq] at h
  obtain ⟨⟨⟨⟨⟨⟨⟨⟨⟨⟨h1, h2⟩, h3⟩, h4⟩, h5⟩, h6⟩, h7⟩, h8⟩, h9⟩, h10⟩, h11⟩ := h
  exact ⟨h11, h4, h5, h6, h1, h2, h3⟩
theorem swap_par3 {env : Env} {px py pz pt p2 : Pos} {x y z : Str} {a b e : Expr} {kt k2 : Nat} (hk : env.scope.kind = .function) (esc : env.scope = C.sc) (h : parOk3 C px py pz x y z [a, b, e] = true) :
    swappedStores [.Tuple [.Name x px, .Name y py, .Name z pz] kt pt] (.Tuple [a, b, e] k2 p2) env = pure (some [x, y, z]) := by
  unfold parOk3 at h
  simp only [Bool.and_eq_true, Bool.not_eq_true', decide_eq_true_eq] at h
  obtain ⟨⟨⟨⟨⟨⟨⟨⟨⟨⟨h1, h2⟩, h3⟩, n1⟩, n2⟩, n3⟩, e4⟩, e5⟩, h5⟩, h6⟩, h7⟩ := h
  have kk : ∀ x, isLcl C x = true → (env.kindOf x == some NameKind.local) = true := fun x hx => by
    unfold Env.kindOf
    rw [esc, lcl_of hx]
    rfl
  have hb : env.blockKind = .function := by unfold Env.blockKind; rw [hk]; rfl
  have e4 : px.line = py.line := beq_iff_eq.mp e4
  have e5 : px.line = pz.line := beq_iff_eq.mp e5
  have st : ∀ e : Expr, isStar e = false → (match e with | .Starred _ _ => true | _ => false) = false := fun e h => by cases e <;> first | rfl | cases h
  simp only [List.any_cons, List.any_nil, Bool.or_false, Bool.or_eq_false_iff] at h7
  have ne : ([x, y, z] : List Str).eraseDups.length = 3 := by
    have f : ∀ {a b : Str}, a ≠ b → (a == b) = false := fun h => beq_eq_false_iff_ne.mpr h
    simp [List.eraseDups, List.eraseDupsBy, List.eraseDupsBy.loop, f n1, f n2, f n3, f n1.symm, f n2.symm, f n3.symm]
  have sa := st a h7.1
  have sb := st b h7.2.1
  have sc := st e h7.2.2
  unfold swappedStores
  simp only [List.any_cons, List.any_nil, sa, sb, sc, hb, h5, h6, Bool.or_false, List.length_cons, List.length_nil, List.filterMap_cons, List.filterMap_nil, kk x h1, kk y h2, kk z h3, List.head?_cons, Option.map_some, Option.getD_some, Expr.pos, ← e4, ← e5]
  refine Eq.trans (if_neg (by decide)) ?_
  refine Eq.trans (if_neg (fun z => ?_)) ?_
  · simp only [Bool.or_eq_true] at z
    rcases z with z | z | z
    · cases a <;> first | (cases h7.1; done) | cases z
    · cases b <;> first | (cases h7.2.1; done) | cases z
    · cases e <;> first | (cases h7.2.2; done) | cases z
  simp only [beq_self_eq_true, Bool.true_and, if_true]
  have n2 : (([x, y, z] : List Str).length != 0 + 1 + 1 + 1 || ([x, y, z] : List Str).eraseDups.length != ([x, y, z] : List Str).length) = false := by rw [ne]; rfl
  refine Eq.trans (if_neg (by rw [show _ = false from n2]; exact Bool.false_ne_true)) ?_
  refine Eq.trans (if_neg Bool.false_ne_true) ?_
  refine Eq.trans (if_neg Bool.false_ne_true) ?_
  rfl
theorem ws_par3 (ih : ∀ m, Snd S G P w mg base k call m) (c : CxIs S P w mg base k C E X) (hk : C.sc.kind = .function) {m : Nat} {x y z : Str} {a b e : Expr} {px py pz tp ep pos : Pos} {j j2 : Nat} {ρ : List Sl} {i n l : Nat} (hi : ixOf x C.N = some i) (hn : ixOf y C.N = some n) (hl : ixOf z C.N = some l) (hp : parOk3 C px py pz x y z [a, b, e] = true) :
    SndS S X E (.Assign [.Tuple [.Name x px, .Name y py, .Name z pz] j tp] (.Tuple [a, b, e] j2 ep) pos) ρ ((evP G call C m ρ a).bind fun r => (evP G call C m r.2 b).bind fun q => (evP G call C m q.2 e).bind fun t => .ret (.nx (((t.2.set i (.dat r.1)).set n (.dat q.1)).set l (.dat t.1)))) := fun H0 B0 H B σ D p h => by
  obtain ⟨s1, n1, n2, n3, l1, l2, l3⟩ := par_star3 hp
  simp only [List.any_cons, List.any_nil, Bool.or_false, Bool.or_eq_false_iff] at s1
  have at_ : ∀ {x : Str} {i : Nat}, ixOf x C.N = some i → X.N[i]? = some x := fun h => by rw [c.N]; exact ixOf_at h
  have ne : ∀ {x y : Str} {i n : Nat}, ixOf x C.N = some i → ixOf y C.N = some n → x ≠ y → i ≠ n := fun {x y i n} hi hn h q => by
    have a1 := at_ hi
    have a2 := at_ hn
    rw [q, a2] at a1
    exact h (Option.some.inj a1).symm
  refine ⟨_, ps_par3 c.calm c.Nn (at_ hi) (at_ hn) (at_ hl) (ne hi hn n1) (ne hi hl n2) (ne hn hl n3) (by rw [c.sc]; exact lcl_of l1) (by rw [c.sc]; exact lcl_of l2) (by rw [c.sc]; exact lcl_of l3) (pa_cons peW (pa_cons peW (pa_cons peW pa_nil (star_cons s1.2.2)) (star_cons s1.2.1)) (star_cons s1.1)) (swap_par3 (by rw [c.sc]; exact hk) c.sc hp) rfl, ?_⟩
  show W X a σ H fun u H1 => W X b σ H1 fun v H2 => W X e σ H2 fun w H3 => ∃ u' v' w', [u, v, w] = [u', v', w'] ∧ D.nx (((σ.set i (some u')).set n (some v')).set l (some w')) H3
  rw [wpT_bind] at h
  refine evP_ok ih c p h fun d1 ρ1 u H1 B1 h1 p1 r1 q1 => ?_
  have h1 := wp_bindOk h1
  refine evP_ok ih c p1 h1 fun d2 ρ2 v H2 B2 h2 p2 r2 q2 => ?_
  have h2 := wp_bindOk h2
  refine evP_ok ih c p2 h2 fun d3 ρ3 w H3 B3 h3 p3 r3 q3 => ⟨u, v, w, rfl, ?_⟩
  exact h3 _ H3 B3 (((p3.set ((r1.mono q2.bb).mono q3.bb) i).set (r2.mono q3.bb) n).set r3 l)
theorem ite_none {α : Type} {c : Prop} [Decidable c] {x y : α} (h : ¬ c → y = x) : (if c then x else y) = x := by
  by_cases z : c
  · exact if_pos z
  · exact (if_neg z).trans (h z)
theorem filterMap_all {α β : Type} {f : α → Option β} : ∀ {l : List α}, (l.filterMap f).length = l.length → ∀ a ∈ l, (f a).isSome = true
  | [], _, _, h => by cases h
  | x :: l, e, a, h => by
    have le := List.length_filterMap_le f l
    rw [List.filterMap_cons] at e
    cases q : f x with
    | none =>
      rw [q] at e
      have e : (l.filterMap f).length = l.length + 1 := e
      omega
    | some b =>
      rw [q] at e
      have e : (l.filterMap f).length + 1 = l.length + 1 := e
      rcases List.mem_cons.mp h with rfl | h
      · rw [q]; rfl
      · exact filterMap_all (by omega) a h
theorem swap_none {env : Env} {ts es : List Expr} {j j2 : Nat} {tp ep : Pos} (esc : env.scope = C.sc) (h : noSw C ts es = true) : swappedStores [.Tuple ts j tp] (.Tuple es j2 ep) env = pure none := by
  unfold noSw at h
  rw [Bool.or_eq_true, Bool.or_eq_true, decide_eq_true_eq] at h
  unfold swappedStores
  show (if (!(ts.length == 2 || ts.length == 3) || es.length != ts.length || env.blockKind != ScopeKind.function) = true then pure none else _) = _
  by_cases c1 : (!(ts.length == 2 || ts.length == 3) || es.length != ts.length || env.blockKind != ScopeKind.function) = true
  · exact if_pos c1
  refine Eq.trans (if_neg c1) ?_
  rcases h with (h | h) | h
  · exfalso
    apply c1
    have e2 : (ts.length == 2) = false := beq_eq_false_iff_ne.mpr (by omega)
    have e3 : (ts.length == 3) = false := beq_eq_false_iff_ne.mpr (by omega)
    rw [e2, e3]
    rfl
  · rw [Bool.and_eq_true, Bool.not_eq_true'] at h
    refine ite_none (fun c2 => ?_)
    refine ite_none (fun c3 => ?_)
    exact if_pos h.1
  · rw [Bool.and_eq_true, Bool.not_eq_true'] at h
    refine ite_none (fun c2 => ?_)
    refine if_pos ?_
    rw [Bool.or_eq_true]
    refine .inl (bne_iff_ne.mpr fun z => ?_)
    have all := filterMap_all z
    have e : ts.all (lclName C) = true := by
      rw [List.all_eq_true]
      intro a ha
      have q := all a ha
      cases a with
      | Name id pos =>
        simp only [] at q
        split at q
        · rename_i k
          rw [Bool.and_eq_true] at k
          have k1 : env.kindOf id = some .local := beq_iff_eq.mp k.1
          show isLcl C id = true
          unfold isLcl
          rw [← esc, show env.scope.names.lookup id = some .local from k1]
        · cases q
      | _ => cases q
    rw [e] at h
    cases h.2
theorem ws_tgt (ih : ∀ m, Snd S G P w mg base k call m) (c : CxIs S P w mg base k C E X) {m : Nat} {e : Expr} {ts : List Expr} {j : Nat} {tp pos : Pos} {ρ : List Sl} {t : T (D × List Sl)} (hc : isComp e = false) (hw : swappedStores [.Tuple ts j tp] e X.env = pure none)
    (he : ∀ {H0 B0 H B : Hp} {σ : L2.St} {P' : D × List Sl → Prop} {Q : VK}, Rep S H0 B0 ρ σ H B → wpT t P' (AftE S H0 B0 E) → (∀ d ρ' v H' B', P' (d, ρ') → Rep S H0 B0 ρ' σ H' B' → Dr S B' v d → Kp S ρ σ H B ρ' H' B' → Q v H') → W X e σ H Q) :
    SndS S X E (.Assign [.Tuple ts j tp] e pos) ρ (t.bind fun r => (bindT C r.2 (.Tuple ts j tp) r.1).bind fun ρ' => .ret (.nx ρ')) := fun H0 B0 H B σ D p h => by
  rw [wpT_bind] at h
  refine ⟨_, ps_asg peW pgW (by unfold swapsWithSole; exact swaps_no hc) hw rfl, ?_⟩
  show W X e σ H fun v H1 => WG X (.Tuple ts j tp) v σ H1 D.nx
  refine he p h fun d ρ' v H' B' hP p' r q => ?_
  have hP := wp_bindOk hP
  exact snd_tg c p' r (wpT_mono hP (fun ρ2 h2 σ' p2 _ => h2 σ' H' B' p2) fun _ _ a => a)
theorem starOf_some {env : Env} : ∀ {es ns : List Expr}, starOf es = some ns → ∃ n, ns.length = n + 1 ∧ (assignEach es env).map (·.2) = (assignEach ns env).map (·.2) ∧ (assignEach es env).length = n + 1 ∧ (assignEach es env).findIdx? (·.1) = some n
  | [.Starred (.Name x p) q], ns, h => by
    cases h
    exact ⟨0, rfl, rfl, rfl, rfl⟩
  | .Name x p :: es, ns, h => by
    have h : (starOf es).map (Expr.Name x p :: ·) = some ns := by
      cases es with
      | nil => exact h
      | cons a r => exact h
    cases e : starOf es with
    | none => rw [e] at h; cases h
    | some ms =>
      rw [e] at h
      cases h
      obtain ⟨n, h1, h2, h3, h4⟩ := starOf_some (env := env) e
      refine ⟨n + 1, ?_, ?_, ?_, ?_⟩
      · rw [List.length_cons, h1]
      · show assign (.Name x p) env :: (assignEach es env).map (·.2) = assign (.Name x p) env :: (assignEach ms env).map (·.2)
        rw [h2]
      · show (assignEach es env).length + 1 = n + 1 + 1
        rw [h3]
      · show ((false, assign (.Name x p) env) :: assignEach es env).findIdx? (·.1) = some (n + 1)
        rw [List.findIdx?_cons, h4]
        rfl
theorem ws_star (ih : ∀ m, Snd S G P w mg base k call m) (c : CxIs S P w mg base k C E X) {m : Nat} {e : Expr} {ts ns : List Expr} {j : Nat} {tp pos : Pos} {ρ : List Sl} (hs : starOf ts = some ns) (hc : isComp e = false) (hw : swappedStores [.Tuple ts j tp] e X.env = pure none) :
    SndS S X E (.Assign [.Tuple ts j tp] e pos) ρ ((evP G call C m ρ e).bind fun r => (restT ns.length r.1).bind fun ds => (bindNs C r.2 ns ds).bind fun ρ' => .ret (.nx ρ')) := fun H0 B0 H B σ D p h => by
  rw [wpT_bind] at h
  refine ⟨_, ps_asg peW pgW (by unfold swapsWithSole; exact swaps_no hc) hw rfl, ?_⟩
  show W X e σ H fun v H1 => WG X (.Tuple ts j tp) v σ H1 D.nx
  refine evP_ok ih c p h fun d ρ' v H' B' hP p' r q => ?_
  have hP := wp_bindOk hP
  obtain ⟨n, h1, h2, h3, h4⟩ := starOf_some (env := X.env) hs
  rw [h1] at hP
  unfold restT at hP
  split at hP
  · rename_i ds hd
    have hd : d = .lst ds := hd
    subst hd
    split at hP
    · rename_i hz
      have hP := wp_bindOk (show wpT ((bindNs C ρ' ns (ds.take n ++ [.lst (ds.drop n)])).bind _) _ _ from hP)
      cases r with
      | @lst _ vs _ g1 r1 =>
        refine ⟨_, pg_star c.calm pgsW h2 h3 h4, _, _, rfl, SqL.of (p'.ok.sub _ _ g1), by rw [r1.len]; omega, by rw [r1.len]; exact hz.2, fun q hq => ?_⟩
        have g := Grow.new p'.ok hq (.lst (vs.drop n))
        refine snd_nms c (p'.grow g) ((r1.mono g.bb).take n |>.app (.cons (.lst upd_same ((r1.mono g.bb).drop n)) .nil)) (wpT_mono hP (fun ρ2 h2 σ' p2 _ => h2 σ' _ _ p2) fun _ _ a => a)
    · exact hP.elim
  · exact hP.elim
theorem swap_other {env : Env} {tg e : Expr} (h : isTup e = false) : swappedStores [tg] e env = pure none ∨ (∃ ts p, tg = .List ts p) := by
  cases tg with
  | List ts p => exact .inr ⟨ts, p, rfl⟩
  | _ => cases e <;> first | (cases h; done) | exact .inl rfl
theorem ws_store (ih : ∀ m, Snd S G P w mg base k call m) (c : CxIs S P w mg base k C E X) {m : Nat} {x : Str} {e i : Expr} {xp tp pos : Pos} {ρ : List Sl} {il : Nat × List D} (ho : ownAt C ρ x = some il) (hv : isVis C.sc x = true) (hdb : dbg x = false) (hc : isComp e = false) (hsl : isSlice i = false) :
    SndS S X E (.Assign [.Subscript (.Name x xp) i tp] e pos) ρ ((evP G call C m ρ e).bind fun r => (evV G call C m r.2 i).bind fun q => (asInt q.1).bind fun k => match ownAt C q.2 x with
              | some (n, l) => (ofO (ixZ l.length k)).bind fun j => .ret (.nx (q.2.set n (.own (l.set j r.1))))
              | none => .fail) := fun H0 B0 H B σ D p h => by
  obtain ⟨n, l⟩ := il
  obtain ⟨hi, hw⟩ := ownAt_some ho
  obtain ⟨b, vs, e1, e2, e3, e4, e5, e6⟩ := p.own n l hw
  refine ⟨_, ps_asg peW (pg_sub peW peW set_list (fun _ => by cases i <;> first | rfl | cases hsl)) (by unfold swapsWithSole; exact swaps_no hc) (by cases e <;> rfl) rfl, ?_⟩
  show W X e σ H fun v H1 => W X (.Name x xp) σ H1 fun o H2 => W X i σ H2 fun iv H3 => rSetL o iv v H3 fun H4 => D.nx σ H4
  rw [wpT_bind] at h
  refine evP_ok ih c p h fun d ρ1 v H1 B1 h1 p1 r1 q1 => ?_
  refine w_own c hi hv hdb e1 ?_
  have h1 := wp_bindOk h1
  refine evV_ok ih c p1 h1 fun dk ρ2 kv H2 B2 h2 p2 r2 q2 => ?_
  have h2 := wp_bindOk h2
  obtain ⟨z, hz, h2⟩ := wp_asInt h2
  have hz : dk = .int z := hz
  subst hz
  cases dr_int r2
  split at h2
  case h_2 => exact h2.elim
  rename_i n' l' hown'
  obtain ⟨hi', ho'⟩ := ownAt_some hown'
  rw [hi] at hi'
  cases hi'
  obtain ⟨b', vs', k1, k2, k3, k4, k5, k6⟩ := p2.own n l' ho'
  rw [e1] at k1
  cases k1
  have h2 := wp_bindOk h2
  obtain ⟨jj, hj, h2⟩ := wp_ofO h2
  rw [ixZ_eq, ← k6.len] at hj
  refine ⟨b, vs', z, jj, rfl, rfl, k2, hj, ?_⟩
  exact h2 σ _ B2 (p2.write ho' e1 (k6.set (r1.mono q2.bb) jj))
/-! ### if, for, while, blocks -/
theorem ws_if (ih : ∀ m, Snd S G P w mg base k call m) (c : CxIs S P w mg base k C E X) {m : Nat} {t : Expr} {a b : List Stmt} {pos : Pos} {ρ : List Sl} {ta tb : T Fl} (ha : SndSs S X E a ρ ta) (hb : SndSs S X E b ρ tb) : SndS S X E (.If t a b pos) ρ ((evTV G call C m ρ t).bind fun k => if k then ta else tb) := fun H0 B0 H B σ D p h => by
  rw [wpT_bind] at h
  refine ⟨_, ps_if ptW pssW pssW, ?_⟩
  show WT X t σ H fun k H1 => if k = true then WSs X a D σ H1 else WSs X b D σ H1
  refine evTV_ok ih c p h fun k H' B' hk p' => ?_
  cases k with
  | true => exact iteT (ha _ _ _ _ _ _ p' hk)
  | false => exact iteF (hb _ _ _ _ _ _ p' hk)
/-- the floor of what is frozen, raised -/
theorem Grow.up {H0 B0 H1 B1 H B : Hp} (g1 : Grow S H0 B0 H1 B1) (g : Grow S H0 B0 H B) (s : Same B1 B) : Grow S H0 B1 H B :=
  ⟨s, fun a o h hb => g.fr a o h (g1.bb.free hb), g.kp, g.ok⟩
theorem Grow.down {H0 B0 H1 B1 H B : Hp} (g1 : Grow S H0 B0 H1 B1) (g : Grow S H0 B1 H B) : Grow S H0 B0 H B :=
  ⟨g1.bb.trans g.bb, fun a o h hb => g.fr a o h (g1.fr a o h hb), g.kp, g.ok⟩
theorem Rep.up {H0 B0 H1 B1 H B : Hp} {ρ : List Sl} {σ : L2.St} (g1 : Grow S H0 B0 H1 B1) (p : Rep S H0 B0 ρ σ H B) (s : Same B1 B) : Rep S H0 B1 ρ σ H B := ⟨g1.up p.gr s, p.len, p.dat, p.own, p.sep⟩
theorem Rep.down {H0 B0 H1 B1 H B : Hp} {ρ : List Sl} {σ : L2.St} (g1 : Grow S H0 B0 H1 B1) (p : Rep S H0 B1 ρ σ H B) : Rep S H0 B0 ρ σ H B := ⟨g1.down p.gr, p.len, p.dat, p.own, p.sep⟩
theorem AftE.down {H0 B0 H1 B1 : Hp} (g1 : Grow S H0 B0 H1 B1) {c : Str} {fs : List D} (h : AftE S H0 B0 E c fs) : AftE S H0 B1 E c fs := fun cls oe H' B' g x => h cls oe H' B' (g1.down g) x
/-- the turns of a for -/
theorem for_core (c : CxIs S P w mg base k C E X) {tg : Expr} {body : List Stmt} {J : It} {ds : List D} {ρ : List Sl} {H0 B0 H1 B1 : Hp} {σ : L2.St} {D : Ends} {tb : List Sl → T Fl} (hb : ∀ ρ, SndSs S X E body ρ (tb ρ)) (ov : OverD S J B1 ds) (p : Rep S H0 B0 ρ σ H1 B1)
    (h : wpT (forT (fun ρ d => bindT C ρ tg d) tb ds ρ) (FlP S H0 B0 D) (AftE S H0 B0 E)) :
    ∃ W : Nat → Nat → L2.St → Hp → Prop, (∃ m, W 0 m σ H1) ∧ ∀ i m σ H, W i m σ H → (J.stop i H ∧ D.nx σ H) ∨ (J.go i H ∧ ∃ N : L2.St → Hp → Prop, (∀ σ' H', N σ' H' → ∃ m', m' < m ∧ W (i + 1) m' σ' H') ∧ ∀ x H', J.yld i H x H' → WG X tg x σ H' fun σ2 H2 => WSs X body { D with nx := N, ct := N, bk := D.nx } σ2 H2) := by
  have g1 := p.gr
  refine ⟨fun i m σ H => m = ds.length - i ∧ i ≤ ds.length ∧ ∃ ρ B, Same B1 B ∧ Rep S H0 B0 ρ σ H B ∧ wpT (forT (fun ρ d => bindT C ρ tg d) tb (ds.drop i) ρ) (FlP S H0 B0 D) (AftE S H0 B0 E), ⟨ds.length, by simp, Nat.zero_le _, ρ, B1, Same.refl _, p, h⟩, ?_⟩
  rintro i m σ2 H2 ⟨rfl, hi, ρ2, B2, s2, p2, h2⟩
  obtain ⟨o1, o2, o3⟩ := ov i H2 B2 s2 p2.ok
  by_cases hlt : i < ds.length
  · have hdr : ds.drop i = ds[i] :: ds.drop (i + 1) := List.drop_eq_getElem_cons hlt
    rw [hdr] at h2
    have h2 := wp_bindOk h2
    refine .inr ⟨o1 hlt, fun σ' H' => ∃ ρ B, Same B1 B ∧ Rep S H0 B0 ρ σ' H' B ∧ wpT (forT (fun ρ d => bindT C ρ tg d) tb (ds.drop (i + 1)) ρ) (FlP S H0 B0 D) (AftE S H0 B0 E), fun σ' H' q => ⟨ds.length - (i + 1), by omega, rfl, hlt, q⟩, fun x H3 y => ?_⟩
    obtain ⟨B3, d, g3, hd, r3⟩ := o3 x H3 hlt y
    rw [List.getElem?_eq_getElem hlt] at hd
    cases hd
    have p3 := (p2.grow g3).up g1 (s2.trans g3.bb)
    refine snd_tg c p3 r3 (wpT_mono (E' := AftE S H0 B1 E) h2 (fun ρ4 h4 σ4 p4 _ => ?_) fun _ _ a => a.down g1)
    have h4 := wp_bindOk h4
    refine hb ρ4 _ _ _ _ _ _ p4 (wpT_mono (E' := AftE S H0 B1 E) h4 (fun fl hfl => ?_) fun _ _ a => a.down g1)
    cases fl with
    | nx ρ' => exact fun σ5 H5 B5 p5 => ⟨ρ', B5, p5.gr.bb, p5.down g1, hfl⟩
    | ct ρ' => exact fun σ5 H5 B5 p5 => ⟨ρ', B5, p5.gr.bb, p5.down g1, hfl⟩
    | bk ρ' => exact fun σ5 H5 B5 p5 => hfl σ5 H5 B5 (p5.down g1)
    | rt d => exact fun v5 H5 B5 g5 r5 => hfl v5 H5 B5 (g1.down g5) r5
  · have e : i = ds.length := by omega
    rw [e, List.drop_length] at h2
    exact .inl ⟨o2 (by omega), h2 σ2 H2 B2 p2⟩
theorem ws_for (ih : ∀ m, Snd S G P w mg base k call m) (c : CxIs S P w mg base k C E X) {m : Nat} {tg it : Expr} {body : List Stmt} {pos : Pos} {ρ : List Sl} {tb : List Sl → T Fl} (hs : isSet it = false) (hb : ∀ ρ, SndSs S X E body ρ (tb ρ)) :
    SndS S X E (.For tg it body [] pos) ρ ((evI G call m C (frzR (nmE m it) C.N ρ) tg it).bind fun ds => forT (fun ρ d => bindT C ρ tg d) tb ds (frzR (nmE m it) C.N ρ)) := fun H0 B0 H B σ D p h => by
  obtain ⟨B1, s1, p1, n1⟩ := p.frz (nmE m it) C.N
  refine ⟨_, ps_for c.po c.calm piW pgW pssW (fold_set hs), ?_⟩
  rw [wpT_bind] at h
  refine (ih m).i C E X c _ tg it _ _ _ _ _ _ p1 (wpT_mono (E' := AftE S H B1 E) h (fun ds hds J H' B' g ov => ?_) fun _ _ a => a.up p1.gr)
  exact for_core c hb ov (p1.grow g) hds
theorem ws_forR (ih : ∀ m, Snd S G P w mg base k call m) (tx : Text S G P w mg base k call) (c : CxIs S P w mg base k C E X) {m : Nat} {tg a : Expr} {body : List Stmt} {xp cp pos : Pos} {ρ : List Sl} {tb : List Sl → T Fl} (hg : isGlo C.sc "range" = true) (hs : isStar a = false) (hb : ∀ ρ, SndSs S X E body ρ (tb ρ)) :
    SndS S X E (.For tg (.Call (.Name "range" xp) [a] [] cp) body [] pos) ρ ((evV G call C m ρ a).bind fun r => (asInt r.1).bind fun j => if -(2 ^ 62) ≤ j ∧ j < 2 ^ 62 then forT (fun ρ d => bindT C ρ tg d) tb (intsD 0 j.toNat) r.2 else .fail) := fun H0 B0 H B σ D p h => by
  refine ⟨_, ps_for c.po c.calm (pi_range1 (c.glo hg) (by rw [c.mg]; exact tx.rng) (pa_cons peW pa_nil (star_cons hs)) (star_one hs)) pgW pssW (fold_set rfl), ?_⟩
  show W X a σ H fun x H1 => ∃ j : Int, [x] = [.int j] ∧ -(2 ^ 62) ≤ j ∧ j < 2 ^ 62 ∧ _
  rw [wpT_bind] at h
  refine evV_ok ih c p h fun d ρ1 v H1 B1 h1 p1 r1 q1 => ?_
  have h1 := wp_bindOk h1
  obtain ⟨j, hj, h1⟩ := wp_asInt h1
  have hj : d = .int j := hj
  subst hj
  split at h1
  · rename_i z
    refine ⟨j, by rw [dr_int r1], z.1, z.2, ?_⟩
    exact for_core c hb (.of (over_rngL 0 j.toNat) (fun _ _ _ _ => trivial) (drAll_rng 0 _)) p1 h1
  · exact h1.elim
theorem ws_while (ih : ∀ m, Snd S G P w mg base k call m) (c : CxIs S P w mg base k C E X) {m n : Nat} {t : Expr} {body : List Stmt} {pos : Pos} {ρ : List Sl} {tb : List Sl → T Fl} (hb : ∀ ρ, SndSs S X E body ρ (tb ρ)) :
    SndS S X E (.While t body [] pos) ρ (whT (fun ρ => evTV G call C m ρ t) tb n ρ) := fun H0 B0 H B σ D p h => by
  refine ⟨_, ps_while c.po ptW pssW, ?_⟩
  refine ⟨fun n σ H => ∃ ρ B, Rep S H0 B0 ρ σ H B ∧ wpT (whT (fun ρ => evTV G call C m ρ t) tb n ρ) (FlP S H0 B0 D) (AftE S H0 B0 E), ⟨n, ρ, B, p, h⟩, ?_⟩
  rintro n σ1 H1 ⟨ρ1, B1, p1, h1⟩
  cases n with
  | zero => exact h1.elim
  | succ n =>
    have h1 := wp_bindOk h1
    refine evTV_ok ih c p1 h1 fun b H2 B2 h2 p2 => ?_
    cases b with
    | false => exact iteF (h2 σ1 H2 B2 p2)
    | true =>
      refine iteT ⟨fun σ H => ∃ ρ B, Rep S H0 B0 ρ σ H B ∧ wpT (whT (fun ρ => evTV G call C m ρ t) tb n ρ) (FlP S H0 B0 D) (AftE S H0 B0 E), fun σ' H' q => ⟨n, Nat.lt_succ_self n, q⟩, ?_⟩
      have h2 : wpT ((tb ρ1).bind _) _ _ := h2
      have h2 := wp_bindOk h2
      refine hb ρ1 _ _ _ _ _ _ p2 (wpT_mono h2 (fun fl hfl => ?_) fun _ _ a => a)
      cases fl with
      | nx ρ' => exact fun σ5 H5 B5 p5 => ⟨ρ', B5, p5, hfl⟩
      | ct ρ' => exact fun σ5 H5 B5 p5 => ⟨ρ', B5, p5, hfl⟩
      | bk ρ' => exact hfl
      | rt d => exact hfl
theorem ws_raise (ih : ∀ m, Snd S G P w mg base k call m) (tx : TextS S G P w mg base k call err) (c : CxIs S P w mg base k C E X) {m : Nat} {x : Str} {args : List Expr} {xp cp pos : Pos} {ρ : List Sl} (hs : args.any isStar = false) (hg : isGlo C.sc x = true) (hd : dbg x = false) :
    SndS S X E (.Raise (some (.Call (.Name x xp) args [] cp)) none pos) ρ ((ofO (err x args.length)).bind fun f => (mapT (evE G call m C (frzR (args.flatMap (nmE m)) C.N ρ)) args).bind fun ds => (ofO (f ds)).bind fun fs => .exc x fs) := fun H0 B0 H B σ D p h => by
  rw [wpT_bind] at h
  obtain ⟨f, hf0, h⟩ := wp_ofO h
  obtain ⟨B1, s1, p1, n1⟩ := p.frz (args.flatMap (nmE m)) C.N
  refine tx.rai C E X c x args f hf0 xp cp pos D σ H hg hd hs ?_
  refine sndA_then (snd_args hs fun e _ => (ih m).e C E X c _ e) p1 (wpT_mono (E' := AftE S H B1 E) h (fun _ a => a) fun _ _ a => a.up p1.gr) fun ds vs H2 B2 g2 r2 h2 => ?_
  have h2 := wp_bindOk h2
  obtain ⟨fs, hf, h2⟩ := wp_ofO h2
  exact ⟨ds, B2, fs, g2.ok, r2, hf, h2⟩
theorem wss_nil {ρ : List Sl} : SndSs S X E [] ρ (.ret (.nx ρ)) := fun H0 B0 H B σ D p h => ⟨_, pss_nil, h σ H B p⟩
theorem wss_one {st : Stmt} {ρ : List Sl} {t : T Fl} (hs : SndS S X E st ρ t) : SndSs S X E [st] ρ t := fun H0 B0 H B σ D p h => ⟨_, pss_one psW, hs _ _ _ _ _ _ p h⟩
theorem wss_cons {st : Stmt} {r : List Stmt} {ρ : List Sl} {t : T Fl} {tr : List Sl → T Fl} (hs : SndS S X E st ρ t) (hr : ∀ ρ, SndSs S X E r ρ (tr ρ)) : SndSs S X E (st :: r) ρ (t.bind fun fl => match fl with
      | .nx ρ' => tr ρ'
      | fl => .ret fl) := fun H0 B0 H B σ D p h => by
  rw [wpT_bind] at h
  refine ⟨_, pss_cons psW pssW, ?_⟩
  show WS X st { D with nx := WSs X r D } σ H
  refine hs _ _ _ _ _ _ p (wpT_mono h (fun fl hfl => ?_) fun _ _ a => a)
  cases fl with
  | nx ρ' => exact fun σ' H' B' p' => hr ρ' _ _ _ _ _ _ p' hfl
  | rt d => exact hfl
  | bk ρ' => exact hfl
  | ct ρ' => exact hfl
end
end Ev

/-! All statements at once; own defs. -/
namespace Ev
open PySem PySem.Spec L2 PyProof.Rows RZ
section
variable {S : Sem0} {G : Info} {P : Program} {w : World} {mg : Str → Option Value} {base : Heap} {k : Nat} {call : Str → List D → T D} {err : ErrF} {C : Sc0} {E : XK} {X : Cx} {mu : List Str}
theorem sndS_fail {st : Stmt} {ρ : List Sl} : SndS S X E st ρ .fail := fun _ _ _ _ _ _ _ h => h.elim
theorem sndSs_fail {st : List Stmt} {ρ : List Sl} : SndSs S X E st ρ .fail := fun _ _ _ _ _ _ _ h => h.elim
theorem appOf_some {ρ : List Sl} {e : Expr} {x : Str} {a : Expr} (h : appOf C ρ e = some (x, a)) : ∃ xp apos cpos i l, e = .Call (.Attribute (.Name x xp) "append" apos) [a] [] cpos ∧ isVis C.sc x = true ∧ dbg x = false ∧ isStar a = false ∧ (apos.endLine == cpos.line) = true ∧ ownAt C ρ x = some (i, l) := by
  unfold appOf at h
  split at h
  · split at h
    · rename_i z
      cases h
      obtain ⟨rfl, h1, h2, h3, h4, h5⟩ := z
      obtain ⟨⟨i, l⟩, h6⟩ := Option.isSome_iff_exists.mp h5
      exact ⟨_, _, _, i, l, rfl, h1, h2, h3, h4, h6⟩
    · cases h
  · cases h
theorem extOf_some {ρ : List Sl} {e : Expr} {x : Str} {a : Expr} (h : extOf C ρ e = some (x, a)) : ∃ xp apos cpos i l, e = .Call (.Attribute (.Name x xp) "extend" apos) [a] [] cpos ∧ isVis C.sc x = true ∧ dbg x = false ∧ isStar a = false ∧ (apos.endLine == cpos.line) = true ∧ ownAt C ρ x = some (i, l) := by
  unfold extOf at h
  split at h
  · split at h
    · rename_i z
      cases h
      obtain ⟨rfl, h1, h2, h3, h4, h5⟩ := z
      obtain ⟨⟨i, l⟩, h6⟩ := Option.isSome_iff_exists.mp h5
      exact ⟨_, _, _, i, l, rfl, h1, h2, h3, h4, h6⟩
    · cases h
  · cases h
theorem parOf3_some {ts es : List Expr} {x y z : Str} {i n l : Nat} {a b e : Expr} (h : parOf3 C ts es = some ((x, i), (y, n), (z, l), a, b, e)) : ∃ px py pz, ts = [.Name x px, .Name y py, .Name z pz] ∧ es = [a, b, e] ∧ parOk3 C px py pz x y z [a, b, e] = true ∧ ixOf x C.N = some i ∧ ixOf y C.N = some n ∧ ixOf z C.N = some l := by
  unfold parOf3 at h
  split at h
  · split at h
    · rename_i z
      split at h
      · rename_i h1 h2 h3
        cases h
        exact ⟨_, _, _, rfl, rfl, z, h1, h2, h3⟩
      · cases h
    · cases h
  · cases h
theorem rangeOf_some {e a : Expr} (h : rangeOf C e = some a) : ∃ xp cp, e = .Call (.Name "range" xp) [a] [] cp ∧ isGlo C.sc "range" = true ∧ isStar a = false := by
  unfold rangeOf at h
  split at h
  · split at h
    · rename_i z
      cases h
      obtain ⟨rfl, h1, h2⟩ := z
      exact ⟨_, _, rfl, h1, h2⟩
    · cases h
  · cases h
theorem raiseOf_some {e f : Option Expr} {x : Str} {args : List Expr} (h : raiseOf C e f = some (x, args)) : ∃ xp cp, e = some (.Call (.Name x xp) args [] cp) ∧ f = none ∧ args.any isStar = false ∧ isGlo C.sc x = true ∧ dbg x = false := by
  unfold raiseOf at h
  split at h
  · split at h
    · rename_i z
      cases h
      exact ⟨_, _, rfl, rfl, z.1, z.2.1, z.2.2⟩
    · cases h
  · cases h
theorem parOf_some {ts es : List Expr} {x y : Str} {i n : Nat} {a b : Expr} (h : parOf C ts es = some ((x, i), (y, n), a, b)) : ∃ px py, ts = [.Name x px, .Name y py] ∧ es = [a, b] ∧ parOk C px py x y [a, b] = true ∧ ixOf x C.N = some i ∧ ixOf y C.N = some n := by
  unfold parOf at h
  split at h
  · split at h
    · rename_i z
      split at h
      · rename_i h1 h2
        cases h
        exact ⟨_, _, rfl, rfl, z, h1, h2⟩
      · cases h
    · cases h
  · cases h
theorem stoOf_some {ρ : List Sl} {o i e : Expr} {x : Str} (h : stoOf C ρ o i e = some x) : ∃ xp il, o = .Name x xp ∧ isVis C.sc x = true ∧ dbg x = false ∧ isComp e = false ∧ isSlice i = false ∧ ownAt C ρ x = some il := by
  unfold stoOf at h
  split at h
  · split at h
    · rename_i z
      cases h
      obtain ⟨h1, h2, h3, h4, h5⟩ := z
      obtain ⟨il, h6⟩ := Option.isSome_iff_exists.mp h5
      exact ⟨_, il, rfl, h1, h2, h3, h4, h6⟩
    · cases h
  · cases h
theorem wp_fail_of {α β : Type} {o : Option α} {f : α → T β} (h : o = none) : (ofO o).bind f = .fail := by rw [h]; rfl
section
variable {m : Nat} (tx : TextS S G P w mg base k call err) (c : CxIs S P w mg base k C E X) (hk : C.sc.kind = .function) {ρ : List Sl}
include tx c hk
theorem step_asg (tg e : Expr) (pos : Pos) : SndS S X E (.Assign [tg] e pos) ρ (asg1 G call C mu m ρ tg e) := by
  have ih := sound_e tx.tx
  unfold asg1
  split
  · rename_i x py
    cases hi : (if isLoc C x then ixOf x C.N else none) with
    | none =>
      rw [wp_fail_of rfl]
      exact sndS_fail
    | some i =>
      split at hi
      · rename_i hl
        exact ws_asg1 ih tx.tx c hi hl
      · cases hi
  · rename_i ts j tp
    split
    · rename_i es j2 ep
      split
      · rename_i xi yn a b hp
        obtain ⟨x, i⟩ := xi
        obtain ⟨y, n⟩ := yn
        obtain ⟨px, py, rfl, rfl, h1, h2, h3⟩ := parOf_some hp
        exact ws_par ih tx.tx c hk h2 h3 h1
      · split
        · rename_i xi yn zl a b e hp
          obtain ⟨x, i⟩ := xi
          obtain ⟨y, n⟩ := yn
          obtain ⟨z, l⟩ := zl
          obtain ⟨px, py, pz, rfl, rfl, h1, h2, h3, h4⟩ := parOf3_some hp
          exact ws_par3 ih c hk h2 h3 h4 h1
        · split
          · rename_i hn
            exact ws_tgt (m := m) ih c rfl (swap_none c.sc hn) fun p h hq => evV_ok ih c p h hq
          · exact sndS_fail
    · split
      · exact sndS_fail
      · rename_i hc
        simp only [Bool.or_eq_true, not_or, Bool.not_eq_true] at hc
        have hw : swappedStores [.Tuple ts j tp] e X.env = pure none := by
          rcases swap_other (env := X.env) (tg := .Tuple ts j tp) hc.2 with z | ⟨_, _, z⟩
          · exact z
          · cases z
        split
        · rename_i ns hs
          exact ws_star (m := m) ih c hs hc.1 hw
        · exact ws_tgt (m := m) ih c hc.1 hw fun p h hq => evP_ok ih c p h hq
  · rename_i o i tp
    split
    · rename_i x hs
      obtain ⟨xp, il, rfl, h1, h2, h3, h4, h5⟩ := stoOf_some hs
      exact ws_store ih c h5 h1 h2 h3 h4
    · exact sndS_fail
  · exact sndS_fail
theorem step_s (ihb : ∀ ρ sts, SndSs S X E sts ρ (exB G call err C mu m ρ sts)) (st : Stmt) : SndS S X E st ρ (exS G call err C mu (m + 1) ρ st) := by
  have ih := sound_e tx.tx
  cases st with
  | Pass pos => exact fun H0 B0 H B σ D p h => ⟨_, ps_pass, h σ H B p⟩
  | Break pos => exact fun H0 B0 H B σ D p h => ⟨_, ps_break, h σ H B p⟩
  | Continue pos => exact fun H0 B0 H B σ D p h => ⟨_, ps_continue, h σ H B p⟩
  | Return e pos =>
    cases e with
    | some e => exact ws_ret ih c
    | none => exact fun H0 B0 H B σ D p h => ⟨_, ps_retN, h .non H B p.gr .non⟩
  | Expr e pos =>
    cases ha : appOf C ρ e with
    | some xa =>
      obtain ⟨x, a⟩ := xa
      have e2 : exS G call err C mu (m + 1) ρ (.Expr e pos) = ((evP G call C m ρ a).bind fun r => match ownAt C r.2 x with
              | some (i', l') => if l'.length < most then .ret (Fl.nx (r.2.set i' (.own (l' ++ [r.1])))) else .fail
              | none => .fail) := by
        rw [exS]
        rw [ha]
        all_goals rfl
      rw [e2]
      obtain ⟨xp, apos, cpos, i, l, rfl, h1, h2, h3, h4, h5⟩ := appOf_some ha
      exact ws_append ih c h5 h1 h2 h3 h4
    | none =>
      cases hx : extOf C ρ e with
      | some xa =>
        obtain ⟨x, a⟩ := xa
        have e2 : exS G call err C mu (m + 1) ρ (.Expr e pos) = ((evP G call C m ρ a).bind fun r => match ownAt C r.2 x with
              | some (i', l') => (match r.1 with
                | .lst l2 => if l'.length + l2.length ≤ most then .ret (Fl.nx (r.2.set i' (.own (l' ++ l2)))) else .fail
                | _ => .fail)
              | none => .fail) := by
          rw [exS]
          rw [ha]
          dsimp only
          rw [hx]
          all_goals rfl
        rw [e2]
        obtain ⟨xp, apos, cpos, i, l, rfl, h1, h2, h3, h4, h5⟩ := extOf_some hx
        exact ws_extend ih c h5 h1 h2 h3 h4
      | none =>
        have e2 : exS G call err C mu (m + 1) ρ (.Expr e pos) = if isComp e then .fail else (evV G call C m ρ e).bind fun r => .ret (Fl.nx r.2) := by
          rw [exS]
          rw [ha]
          dsimp only
          rw [hx]
        rw [e2]
        split
        · exact sndS_fail
        · rename_i hc
          exact ws_expr ih c (by simpa using hc)
  | Assign tgs e pos =>
    match tgs with
    | [] => exact sndS_fail
    | [tg] => exact step_asg tx c hk tg e pos
    | _ :: _ :: _ => exact sndS_fail
  | AugAssign tg op e pos => exact ws_aug ih c
  | If t a b pos => exact ws_if ih c (ihb ρ a) (ihb ρ b)
  | For tg it body orelse pos =>
    cases orelse with
    | cons a b => exact sndS_fail
    | nil =>
      cases hs : isSet it with
      | true =>
        have e2 : exS G call err C mu (m + 1) ρ (.For tg it body [] pos) = .fail := by
          rw [exS]
          exact if_pos hs
        rw [e2]
        exact sndS_fail
      | false =>
        cases hr : rangeOf C it with
        | some a =>
          have e2 : exS G call err C mu (m + 1) ρ (.For tg it body [] pos) = ((evV G call C m ρ a).bind fun r => (asInt r.1).bind fun j => if -(2 ^ 62) ≤ j ∧ j < 2 ^ 62 then forT (fun ρ d => bindT C ρ tg d) (fun ρ => exB G call err C mu m ρ body) (intsD 0 j.toNat) r.2 else .fail) := by
            rw [exS]
            rw [if_neg (by rw [hs]; exact Bool.false_ne_true), hr]
          rw [e2]
          obtain ⟨xp, cp, rfl, h1, h2⟩ := rangeOf_some hr
          exact ws_forR ih tx.tx c h1 h2 fun ρ => ihb ρ body
        | none =>
          have e2 : exS G call err C mu (m + 1) ρ (.For tg it body [] pos) = ((evI G call m C (frzR (nmE m it) C.N ρ) tg it).bind fun ds => forT (fun ρ d => bindT C ρ tg d) (fun ρ => exB G call err C mu m ρ body) ds (frzR (nmE m it) C.N ρ)) := by
            rw [exS]
            rw [if_neg (by rw [hs]; exact Bool.false_ne_true), hr]
          rw [e2]
          exact ws_for ih c hs fun ρ => ihb ρ body
  | While t body orelse pos =>
    cases orelse with
    | cons a b => exact sndS_fail
    | nil => exact ws_while ih c fun ρ => ihb ρ body
  | Raise e f pos =>
    cases hr : raiseOf C e f with
    | some xa =>
      obtain ⟨x, args⟩ := xa
      have e2 : exS G call err C mu (m + 1) ρ (.Raise e f pos) = ((ofO (err x args.length)).bind fun f => (mapT (evE G call m C (frzR (args.flatMap (nmE m)) C.N ρ)) args).bind fun ds => (ofO (f ds)).bind fun fs => .exc x fs) := by
        rw [exS]
        rw [hr]
      rw [e2]
      obtain ⟨xp, cp, rfl, rfl, h1, h2, h3⟩ := raiseOf_some hr
      exact ws_raise ih tx c h1 h2 h3
    | none =>
      have e2 : exS G call err C mu (m + 1) ρ (.Raise e f pos) = .fail := by
        rw [exS]
        rw [hr]
      rw [e2]
      exact sndS_fail
  | _ => exact sndS_fail
end
theorem sound_s (tx : TextS S G P w mg base k call err) : ∀ m, (∀ C E X, CxIs S P w mg base k C E X → C.sc.kind = .function → ∀ ρ mu st, SndS S X E st ρ (exS G call err C mu m ρ st)) ∧ (∀ C E X, CxIs S P w mg base k C E X → C.sc.kind = .function → ∀ ρ mu sts, SndSs S X E sts ρ (exB G call err C mu m ρ sts))
  | 0 => ⟨fun _ _ _ _ _ _ _ _ => sndS_fail, fun _ _ _ _ _ _ _ _ => sndSs_fail⟩
  | m + 1 => by
    obtain ⟨i1, i2⟩ := sound_s tx m
    refine ⟨fun C E X c hk ρ mu st => step_s tx c hk (fun ρ sts => i2 C E X c hk ρ mu sts) st, fun C E X c hk ρ mu sts => ?_⟩
    match sts with
    | [] => exact wss_nil
    | [st] => exact wss_one (i1 C E X c hk ρ mu st)
    | st :: b :: r => exact wss_cons (i1 C E X c hk ρ mu st) fun ρ => i2 C E X c hk ρ mu (b :: r)
end
end Ev

/-! Own defs, called. -/
namespace Ev
open PySem PySem.Spec L2 PyProof.Rows RZ
section
variable {S : Sem0} {G : Info} {P : Program} {w : World} {mg : Str → Option Value} {base : Heap} {err : ErrF}
/-- the def f stands in the text -/
structure FnT (S : Sem0) (mg : Str → Option Value) (f : Str) (fn : Fn) : Prop where
  ex : ∃ (qual name : Str) (st : Stmt) (a : Addr) (fd : FuncData), Fun S.K name qual st a fd ∧ FnScope fn.C.N fn.ps (defScope st) ∧ fn.C.sc = defScope st ∧ fn.body = defBody st ∧ mg f = some (.ref a) ∧ PySem.W.keepIn S.K (.ref a) = true ∧ Binds S.K fd fn.ps []
/-- a def whose promise is known by other means, by a level k0 -/
structure PrimT (S : Sem0) (P : Program) (w : World) (mg : Str → Option Value) (base : Heap) (k0 : Nat) (f : Str) (p : List D → T D) : Prop where
  ex : ∃ (a : Addr) (fd : FuncData) (ps : List Str) (sp : Sp), FnOk P w S.K mg base (L2.CX P w) k0 a fd ps sp ∧ mg f = some (.ref a) ∧ PySem.W.keepIn S.K (.ref a) = true ∧ Binds S.K fd ps [] ∧
    ∀ vs ds H B Q E, Ok S H B → DrAll S B vs ds → wpT (p ds) (Aft S H B Q) (AftE S H B E) → sp vs H Q E
/-- a text, whatever its defs' calls tell -/
structure Base (S : Sem0) (G : Info) (P : Program) (w : World) (mg : Str → Option Value) (base : Heap) (k0 : Nat) (err : ErrF) (prim : Str → Option (List D → T D)) (tbl : Str → Option Fn) : Prop where
  own : ∀ f, G.own f = true → (prim f).isSome = true ∨ (tbl f).isSome = true
  prims : ∀ f p, prim f = some p → PrimT S P w mg base k0 f p
  defs : ∀ f fn, tbl f = some fn → FnT S mg f fn
  spc : ∀ k call, k0 ≤ k → Fns S G P w mg base k call → Spc S P w mg base k (G.spc call)
  spi : ∀ k call, k0 ≤ k → Fns S G P w mg base k call → Spi S P w mg base k (G.spi call)
  cst : ∀ x d, G.cst x = some d → ∃ (v : V) (u : Value), mg x = some u ∧ RelV v u ∧ ∀ B, Dr S B v d
  blt : ∀ f w, bltV f = some w → mg f = none
  rng : mg "range" = none
  enm : mg "enumerate" = none
  zip : mg "zip" = none
  ob : ∀ k, k0 ≤ k → ∀ C E X, CxIs S P w mg base k C E X → Hooks S G X
  attE : ∀ (f : Str) (d : D) (P' : D → Prop) (E1 : Str → List D → Prop), wpT (G.att f d) P' E1 → wpT (G.att f d) P' (fun _ _ => False)
  att : ∀ k, k0 ≤ k → ∀ C E X, CxIs S P w mg base k C E X → ∀ (o : Expr) (f : Str) (pos : Pos) (σ : L2.St) (H : Hp) (Q : VK), G.attN f = true → isCall o = false →
    W X o σ H (fun v H1 => ∃ B1 d, Ok S H1 B1 ∧ Dr S B1 v d ∧ wpT (G.att f d) (Aft S H1 B1 Q) (fun _ _ => False)) → W X (.Attribute o f pos) σ H Q
  rai : ∀ k, k0 ≤ k → ∀ C E X, CxIs S P w mg base k C E X → ∀ (x : Str) (args : List Expr) (f : List D → Option (List D)), err x args.length = some f → ∀ (p pos pos' : Pos) (D : Ends) (σ : L2.St) (H : Hp), isGlo C.sc x = true → dbg x = false → args.any isStar = false →
    WA X args σ H (fun vs H1 => ∃ ds B1 fs, Ok S H1 B1 ∧ DrAll S B1 vs ds ∧ f ds = some fs ∧ AftE S H1 B1 E x fs) → WS X (.Raise (some (.Call (.Name x p) args [] pos)) none pos') D σ H
variable {k0 : Nat} {prim : Str → Option (List D → T D)} {tbl : Str → Option Fn} {fuel : Nat}
/-- what the def f keeps, n deep -/
def spN (S : Sem0) (t : List D → T D) (np : Nat) : Sp := fun vs H Q E => vs.length = np ∧ ∃ ds B, Ok S H B ∧ DrAll S B vs ds ∧ wpT (t ds) (Aft S H B Q) (AftE S H B E)
theorem def_ok {k : Nat} {call : Str → List D → T D} (tx : TextS S G P w mg base k call err) {f : Str} {fn : Fn} (ht : FnT S mg f fn) (hfn : fn.C.fn = fun _ => true) :
    ∃ (a : Addr) (fd : FuncData), FnOk P w S.K mg base (L2.CX P w) (k + 1) a fd fn.ps (spN S (fun ds => if ds.length = fn.ps.length then (exB G call err fn.C fn.mu fuel (startR fn ds) fn.body).bind ofFl else .fail) fn.ps.length) ∧ mg f = some (.ref a) ∧ PySem.W.keepIn S.K (.ref a) = true ∧ Binds S.K fd fn.ps [] := by
  obtain ⟨qual, name, st, a, fd, F, sc, e1, e2, hm, hkp, hb⟩ := ht.ex
  refine ⟨a, fd, F.okX sc (fun vs H Q E h => h.1) fun cdv A outer s H vs Q E hr hsp => ?_, hm, hkp, hb⟩
  obtain ⟨hl, ds, B, o, r, h⟩ := hsp
  refine ⟨_, pssW, ?_⟩
  dsimp only at h
  split at h
  case isFalse => exact h.elim
  rename_i hds
  have hc : CxIs S P w mg base k fn.C E (cxOf (L2.CX P w) P w S.K mg base fn.C.N qual (defScope st) a cdv A outer s H E) :=
    ⟨rfl, rfl, rfl, rfl, rfl, rfl, sc.nd, e1.symm, fun x _ => rfl, rfl, hr, passes_call (takes_of rfl rfl rfl rfl) (fun _ _ _ _ h => h), takes_of rfl rfl rfl rfl, passes_of rfl⟩
  have hN : fn.ps.length ≤ fn.C.N.length := by
    have := congrArg List.length sc.pre
    rw [List.length_take] at this
    omega
  have p : Rep S H B (startR fn ds) (start fn.C.N vs) H B := Rep.start o r (by omega) _ _ (by unfold startR; rfl) rfl
  rw [← e2]
  refine (sound_s tx fuel).2 fn.C E _ hc (by rw [e1]; exact sc.kind) _ fn.mu fn.body H B H B _ _ p ?_
  rw [wpT_bind] at h
  refine wpT_mono h (fun fl hfl => ?_) fun _ _ a => a
  cases fl with
  | nx ρ => exact fun σ' H' B' p' => hfl .non H' B' p'.gr .non
  | rt d => exact hfl
  | bk ρ => exact hfl.elim
  | ct ρ => exact hfl.elim
/-- the text, from its defs -/
theorem Base.text (b : Base S G P w mg base k0 err prim tbl) {k : Nat} {call : Str → List D → T D} (hk : k0 ≤ k) (hf : Fns S G P w mg base k call) : TextS S G P w mg base k call err :=
  ⟨⟨hf, b.spc k call hk hf, b.spi k call hk hf, b.cst, b.blt, b.rng, b.enm, b.zip, fun C E X c => b.ob _ hk C E X c, b.attE, fun C E X c => b.att _ hk C E X c⟩, fun C E X c => b.rai _ hk C E X c⟩
/-- every call tells the truth, n deep -/
theorem text_n (b : Base S G P w mg base k0 err prim tbl) (hfn : ∀ f fn, tbl f = some fn → fn.C.fn = fun _ => true) : ∀ n, TextS S G P w mg base (k0 + n) (callN G err prim tbl fuel n) err
  | 0 => by
    refine b.text (Nat.le_add_right _ _) fun f hf => ?_
    rcases b.own f hf with h | h
    · obtain ⟨p, hp⟩ := Option.isSome_iff_exists.mp h
      obtain ⟨a, fd, ps, sp, F, hm, hk, hb, _⟩ := (b.prims f p hp).ex
      exact ⟨a, fd, ps, fun _ _ _ _ => False, ⟨fun _ _ _ _ h => h.elim, fun _ _ _ _ _ _ _ _ _ _ _ _ _ h => h.elim⟩, hm, hk, hb, fun _ _ _ _ _ _ _ _ h => h.elim⟩
    · obtain ⟨fn, hf⟩ := Option.isSome_iff_exists.mp h
      obtain ⟨qual, name, st, a, fd, F, sc, e1, e2, hm, hkp, hb⟩ := (b.defs f fn hf).ex
      exact ⟨a, fd, fn.ps, fun _ _ _ _ => False, ⟨fun _ _ _ _ h => h.elim, fun _ _ _ _ _ _ _ _ _ _ _ _ _ h => h.elim⟩, hm, hkp, hb, fun _ _ _ _ _ _ _ _ h => h.elim⟩
  | n + 1 => by
    have ih := text_n b hfn n
    refine b.text (Nat.le_add_right _ _) fun f hf => ?_
    cases hp : prim f with
    | some p =>
      obtain ⟨a, fd, ps, sp, F, hm, hk, hb, hs⟩ := (b.prims f p hp).ex
      refine ⟨a, fd, ps, sp, F.mono (Nat.le_add_right _ _), hm, hk, hb, fun vs ds H B Q E o r h => hs vs ds H B Q E o r ?_⟩
      have e : callN G err prim tbl fuel (n + 1) f ds = p ds := by
        show (match prim f with | some p => p ds | none => _) = _
        rw [hp]
      rw [e] at h
      exact h
    | none =>
      have h : (tbl f).isSome = true := by
        rcases b.own f hf with h | h
        · rw [hp] at h; cases h
        · exact h
      obtain ⟨fn, hf⟩ := Option.isSome_iff_exists.mp h
      obtain ⟨a, fd, F, hm, hk, hb⟩ := def_ok (fuel := fuel) ih (b.defs f fn hf) (hfn f fn hf)
      refine ⟨a, fd, fn.ps, _, F, hm, hk, hb, fun vs ds H B Q E o r h => ⟨?_, ds, B, o, r, ?_⟩⟩
      · have e : callN G err prim tbl fuel (n + 1) f ds = if ds.length = fn.ps.length then (exB G (callN G err prim tbl fuel n) err fn.C fn.mu fuel (startR fn ds) fn.body).bind ofFl else .fail := by
          show (match prim f with | some p => p ds | none => match tbl f with | some fn => _ | none => _) = _
          rw [hp, hf]
        rw [e] at h
        split at h
        · rename_i z
          rw [r.len, z]
        · exact h.elim
      · have e : callN G err prim tbl fuel (n + 1) f ds = if ds.length = fn.ps.length then (exB G (callN G err prim tbl fuel n) err fn.C fn.mu fuel (startR fn ds) fn.body).bind ofFl else .fail := by
          show (match prim f with | some p => p ds | none => match tbl f with | some fn => _ | none => _) = _
          rw [hp, hf]
        rw [e] at h
        exact h
end
end Ev

/-! set(xs), xs a list of ints: what the walk of a set's order wants of it (the library tells it of tuples). -/
namespace L2
open PySem PySem.Spec PyProof.Rows
/-- a set as it is made -/
abbrev set0 (w : World) : Obj := { cls := .type "set", dict := none, data := .set #[] 0 (.fresh 0 0 (!w.params.followText "set-order")) }
section
variable {P : Program} {w : World} {A : Around} {E : Value → Shared → Prop} {s : Shared}
/-- what filling the new set by the list leaves -/
def Filled (w : World) (s : Shared) (ns : List Int) (s2 : Shared) : Prop := ∃ h' tk c, s2 = { s with heap := h', toks := tk } ∧ SetR w h' s.heap.objs.size (fun j => decide (j ∈ ns)) c ∧ c ≤ ns.length ∧ ∀ b o, s.heap.get? b = some o → h'.get? b = some o
set_option maxHeartbeats 8000000 in
theorem call_set_lst {l : Addr} {us : Array Value} (ns : List Int) {Q : Value → Shared → Prop} (nh : A.handled = none) (hl : s.heap.IsList l us) (ui : IntsAre us.toList ns) (few : ns.length + 1 < scanBound) (q : ∀ s2, Filled w s ns s2 → Q (.ref s.heap.objs.size) s2) :
    wpAny (model P w) A (call (.type "set") [.ref l]) Q E s := by
  have un : us.size = ns.length := by rw [← Array.length_toList]; exact ui.length
  obtain ⟨m1, m2, mro⟩ := F.called_set.mro
  have h1 := F.called_set.made
  have h2 := F.called_set.sub
  have h3 := F.called_set.notType
  have h4 := F.called_set.canCreate
  have h5 := F.typeCall_set_1 (.ref l)
  have h6 := F.called_set.init.lookup
  have h7 := F.called_set.init.bind (.ref s.heap.objs.size)
  have at0 : (s.heap.push (set0 w)).get? s.heap.objs.size = some (set0 w) := Heap.get?_push_size _ rfl
  refine wpAny_call (codeAny_of_tree (show wpAny _ _ (callAny (.type "set") _) _ _ _ from wpAny_pure ⟨Code.quiet_builtin _ (by decide +kernel), codeAny_builtin F.entry_type_call ?_⟩))
  rw [Around.under_plain (weight_type_call_type "set" [.ref l] []) rfl]
  repeat (any_goals (first | assumption | wp_step))
  refine codeAny_mono (code_set_led1 (.ref l) (E := E) (Q₁ := fun v s₁ => v = .ref s.heap.objs.size ∧ s₁ = { s with heap := s.heap.push (set0 w) }) ⟨rfl, rfl⟩) fun r s₁ hr => ?_
  match r, hr with
  | .error _, hr => exact hr
  | .ok .next, hr => exact hr.elim
  | .ok .brk, hr => exact hr.elim
  | .ok .cont, hr => exact hr.elim
  | .ok (.ret v), hr =>
    obtain ⟨rfl, rfl⟩ := hr
    have ty : Shared.TypeIs { s with heap := s.heap.push (set0 w) } (.ref s.heap.objs.size) "set" := ⟨_, at0, rfl⟩
    repeat (any_goals (first | assumption | wp_step))
    refine codeAny_mono (codeAny_call_builtin (R := wants (fun r s₂ => r = .none ∧ Filled w s ns s₂) E) F.called_set.init.plain F.entry_set_init (check_set_init_1 ty ?_)) fun r2 s₂ hr2 => ?_
    · obtain ⟨⟨oc, od, da, sl⟩, ho, hc, nl, hd⟩ := hl
      simp only at hc hd
      subst hc
      subst hd
      have ho' := Heap.get?_push_of_some (set0 w) ho
      have e1 := F.sub_list_set
      have e2 := F.sub_list_frozenset
      have e3 : (Value.type "list" == Value.type "dict") = false := by decide
      have hl1 : (s.heap.push (set0 w)).IsList l us := ⟨_, ho', rfl, nl, rfl⟩
      unfold Builtin.«set.__init__» noKeywords Builtin.Frozenset.updateFrom
      generalize hPI : pyIter = PI
      wp_walk
      subst hPI
      refine wpAny_pyIter_list hl1 (wpAny_bind (wpAny_runValue ?_))
      have lt := Heap.lt_size ho
      have nI : l ≠ (s.heap.push (set0 w)).objs.size := by rw [Heap.size_push]; exact Nat.ne_of_lt (Nat.lt_succ_of_lt lt)
      have nS : s.heap.objs.size ∉ [(s.heap.push (set0 w)).objs.size, l] := by
        rw [Heap.size_push]
        simp only [List.mem_cons, List.not_mem_nil, or_false, not_or]
        exact ⟨Nat.ne_of_lt (Nat.lt_succ_self _), Nat.ne_of_gt lt⟩
      have vals : ∀ (i : Nat) (v : Value), us[i]? = some v → ∃ k t, ns[i]? = some k ∧ v = .int k t := fun i v hv => by
        have hi : i < ns.length := by rw [← un]; exact (Array.getElem?_eq_some_iff.mp hv).1
        obtain ⟨t, e⟩ := ui.int_at i v (by rw [Array.getElem?_toList]; exact hv)
        exact ⟨ns[i], t, List.getElem?_eq_getElem hi, by rw [e, List.getD_eq_getElem?_getD, List.getElem?_eq_getElem hi]; rfl⟩
      refine set_update_ints ((Walks.list (show A.in1.in1.in1.handled = none by simp [nh]) _ l nI us).toS) s.heap.objs.size nS ns un few vals (us.size - 0) 0 _ (by omega) (Nat.zero_le _) ⟨⟨_, Heap.get?_push_size _ rfl, rfl, rfl⟩, hl1.push _⟩
        ⟨0, Nat.le_refl 0, setR_new_at (Heap.get?_push_of_some _ at0)⟩ fun s' c mv hc' R => ?_
      obtain ⟨h', g', d', tk', o'⟩ := s'
      have eg : g' = s.gens := mv.gens
      have ed : d' = s.drawn := mv.drawn
      have eo : o' = s.os := mv.os
      subst eg; subst ed; subst eo
      rw [un] at hc'
      refine wpAny_pure (show wpAny _ _ (ret Value.none) _ _ _ from wpAny_pure ⟨rfl, h', tk', c, rfl, R, hc', fun b o e => ?_⟩)
      have hb := Heap.lt_size e
      refine mv.heap b o ?_ (Heap.get?_push_of_some _ (Heap.get?_push_of_some _ e))
      rw [Heap.size_push]
      simp only [List.mem_cons, List.not_mem_nil, or_false, not_or]
      exact ⟨Nat.ne_of_lt hb, Nat.ne_of_lt (Nat.lt_succ_of_lt hb)⟩
    · match r2, hr2 with
      | .error _, hr2 => exact hr2
      | .ok .next, hr2 => exact hr2.elim
      | .ok .brk, hr2 => exact hr2.elim
      | .ok .cont, hr2 => exact hr2.elim
      | .ok (.ret v), hr2 =>
        obtain ⟨rfl, fi⟩ := hr2
        repeat (any_goals (first | assumption | wp_step))
        exact q _ fi
end
section
variable {X : Cx}
def rSetOfI (K : PySem.W.Frag) (w : World) : List V → Hp → VK → Prop := fun xs H Q => ∃ (l : Addr) (ns : List Int), xs = [V.ref l] ∧ SqL K H l (ns.map V.int) ∧ ns.length ≤ 1000 ∧ ∀ a c, H a = none → c ≤ ns.length → Q (.ref a) (upd H a (SetO w a (fun j => decide (j ∈ ns)) c))
theorem cr_setOfI (hc : X.calm = true) : CallR X (.type "set") (rSetOfI X.K X.w) := by
  intro pins s σ H xs us Q I r h
  obtain ⟨l, ns, rfl, hl, few, q⟩ := h
  rw [Vals.ref1 r]
  obtain ⟨its, rv, pl, hz⟩ := I.list hl
  refine call_set_lst ns (I.ok.hd hc) pl.isList (ints_of_vals rv) (by unfold scanBound; omega) fun s2 fi => ?_
  obtain ⟨h', tk, c, rfl, R, hc', k⟩ := fi
  exact ⟨.ref s.heap.objs.size, _, I.laid (t' := tk) k (Nat.le_refl _) (setO_new R), rfl, q _ c (I.hok.fresh (Nat.le_refl _)) hc'⟩
end
end L2

/-! Further forms. -/
namespace Ev
open PySem PySem.Spec L2 PyProof.Rows RZ
abbrev Form := Scope → Expr → Option ((Expr → T D) → T D)
def orF (a b : Form) : Form := fun sc e => match a sc e with
  | some f => some f
  | none => b sc e
def noF : Form := fun _ _ => none
/-! ### the data -/
/-- is d a T? -/
def tyD (t : Str) : D → Option Bool
  | .non => some false
  | .bl _ => some (decide (t = "bool") || decide (t = "int"))
  | .int _ => some (decide (t = "int"))
  | .str _ => some (decide (t = "str"))
  | .lst _ => some (decide (t = "list"))
  | .tup _ => some (decide (t = "tuple"))
  | _ => none
def isTyN (t : Str) : Bool := decide (t = "int") || decide (t = "bool") || decide (t = "str") || decide (t = "list") || decide (t = "tuple")
def insU (x : Int) : List Int → List Int
  | [] => [x]
  | y :: l => if x < y then x :: y :: l else if x = y then y :: l else y :: insU x l
/-- the different ones, rising -/
def setI (l : List Int) : List Int := l.foldr insU []
theorem insU_mem (x k : Int) : ∀ l, k ∈ insU x l ↔ k = x ∨ k ∈ l
  | [] => by simp [insU]
  | y :: l => by
    unfold insU
    split
    · simp
    · split
      · rename_i e
        subst e
        simp
      · rw [List.mem_cons, insU_mem x k l, List.mem_cons]
        constructor
        · rintro (h | h | h)
          · exact .inr (.inl h)
          · exact .inl h
          · exact .inr (.inr h)
        · rintro (h | h | h)
          · exact .inr (.inl h)
          · exact .inl h
          · exact .inr (.inr h)
theorem insU_rising (x : Int) : ∀ l : List Int, l.Pairwise (· < ·) → (insU x l).Pairwise (· < ·)
  | [], _ => List.pairwise_singleton _ _
  | y :: l, h => by
    have hc := List.pairwise_cons.mp h
    unfold insU
    split
    · rename_i e
      refine List.pairwise_cons.mpr ⟨fun z hz => ?_, h⟩
      rcases List.mem_cons.mp hz with rfl | hz
      · exact e
      · have := hc.1 z hz
        omega
    · split
      · exact h
      · refine List.pairwise_cons.mpr ⟨fun z hz => ?_, insU_rising x l hc.2⟩
        rcases (insU_mem x z l).mp hz with rfl | hz
        · omega
        · exact hc.1 z hz
theorem setI_mem (k : Int) : ∀ l, k ∈ setI l ↔ k ∈ l
  | [] => Iff.rfl
  | x :: l => by
    show k ∈ insU x (setI l) ↔ _
    rw [insU_mem, setI_mem k l, List.mem_cons]
theorem setI_rising : ∀ l, (setI l).Pairwise (· < ·)
  | [] => List.Pairwise.nil
  | x :: l => insU_rising x _ (setI_rising l)
theorem rising_eq : ∀ l m : List Int, l.Pairwise (· < ·) → m.Pairwise (· < ·) → (∀ k, k ∈ l ↔ k ∈ m) → l = m
  | [], [], _, _, _ => rfl
  | [], y :: m, _, _, h => absurd ((h y).mpr List.mem_cons_self) (by simp)
  | x :: l, [], _, _, h => absurd ((h x).mp List.mem_cons_self) (by simp)
  | x :: l, y :: m, hl, hm, h => by
    have a := List.pairwise_cons.mp hl
    have b := List.pairwise_cons.mp hm
    have e : x = y := by
      rcases List.mem_cons.mp ((h x).mp List.mem_cons_self) with e | e
      · exact e
      · rcases List.mem_cons.mp ((h y).mpr List.mem_cons_self) with e2 | e2
        · exact e2.symm
        · have := a.1 y e2
          have := b.1 x e
          omega
    subst e
    congr 1
    refine rising_eq l m a.2 b.2 fun k => ⟨fun hk => ?_, fun hk => ?_⟩
    · rcases List.mem_cons.mp ((h k).mp (List.mem_cons_of_mem _ hk)) with e | e
      · have := a.1 k hk
        omega
      · exact e
    · rcases List.mem_cons.mp ((h k).mpr (List.mem_cons_of_mem _ hk)) with e | e
      · have := b.1 k hk
        omega
      · exact e
/-- the first place of y -/
def firstAt (y : D) : List D → Option Nat
  | [] => none
  | x :: l => if D.beq 0 x y then some 0 else (firstAt y l).map (· + 1)
theorem firstAt_spec {y : D} : ∀ {l : List D} {j : Nat}, firstAt y l = some j → ∃ z, l[j]? = some z ∧ D.beq 0 z y = true ∧ ∀ m z', m < j → l[m]? = some z' → D.beq 0 z' y = false
  | [], j, h => by cases h
  | x :: l, j, h => by
    unfold firstAt at h
    split at h
    · rename_i e
      cases h
      exact ⟨x, rfl, e, fun m z' hm => absurd hm (Nat.not_lt_zero _)⟩
    · rename_i e
      cases q : firstAt y l with
      | none => rw [q] at h; cases h
      | some i =>
        rw [q] at h
        cases h
        obtain ⟨z, h1, h2, h3⟩ := firstAt_spec q
        refine ⟨z, h1, h2, fun m z' hm hz => ?_⟩
        cases m with
        | zero =>
          cases hz
          exact eq_false_of_ne_true e
        | succ m => exact h3 m z' (Nat.lt_of_succ_lt_succ hm) hz
section
variable {S : Sem0} {G : Info} {P : Program} {w : World} {mg : Str → Option Value} {base : Heap} {k : Nat} {call : Str → List D → T D} {C : Sc0} {E : XK} {X : Cx}
theorem spc_or {a b : Form} (h1 : Spc S P w mg base k a) (h2 : Spc S P w mg base k b) : Spc S P w mg base k (orF a b) := fun C E X c e f hf ρ fe hfe => by
  unfold orF at hf
  split at hf
  · rename_i g hg
    cases hf
    exact h1 C E X c e _ hg ρ fe hfe
  · exact h2 C E X c e f hf ρ fe hfe
theorem spc_no : Spc S P w mg base k noF := fun C E X c e f hf => by cases hf
/-! ### isinstance -/
def fIsi : Form := fun sc e => match e with
  | .Call (.Name f _) [a, .Name t _] [] _ => if f = "isinstance" ∧ isGlo sc f = true ∧ isGlo sc t = true ∧ isStar a = false ∧ isTyN t = true then some fun fe => (fe a).bind fun d => (ofO (tyD t d)).bind fun b => .ret (.bl b) else none
  | _ => none
theorem tyN_of {t : Str} (h : isTyN t = true) : ∃ T : String, t = Str.ofString T ∧ (T = "int" ∨ T = "bool" ∨ T = "str" ∨ T = "list" ∨ T = "tuple") := by
  unfold isTyN at h
  simp only [Bool.or_eq_true, decide_eq_true_eq] at h
  rcases h with (((h | h) | h) | h) | h
  · exact ⟨"int", h, .inl rfl⟩
  · exact ⟨"bool", h, .inr (.inl rfl)⟩
  · exact ⟨"str", h, .inr (.inr (.inl rfl))⟩
  · exact ⟨"list", h, .inr (.inr (.inr (.inl rfl)))⟩
  · exact ⟨"tuple", h, .inr (.inr (.inr (.inr rfl)))⟩
theorem tyX_tup {K : PySem.W.Frag} {H : Hp} {a : Addr} {xs : List V} (h : SqT K H a xs) : TyX K H (.ref a) (.type "tuple") := by
  rcases h with (h | ⟨o, h⟩) | ⟨o, its, n, h, hc, _⟩
  · exact .base (.tup h)
  · exact .fTuple h
  · exact .kTuple h hc
theorem ty_dr {K : PySem.W.Frag} {H B : Hp} (hK : K = S.K) (o : Ok S H B) {v : V} {d : D} (r : Dr S B v d) {T : String} (hT : T = "int" ∨ T = "bool" ∨ T = "str" ∨ T = "list" ∨ T = "tuple") {b : Bool} (h : tyD (Str.ofString T) d = some b) : ∃ u, TyX K H v u ∧ PySem.W.kitOne K u (.type T) = some b := by
  subst hK
  cases r with
  | non =>
    refine ⟨_, .base .non, kit_ty ?_⟩
    rcases hT with rfl | rfl | rfl | rfl | rfl <;> (revert h; revert b; decide +kernel)
  | bl c =>
    refine ⟨_, .base (.bl c), kit_ty ?_⟩
    change some (decide (Str.ofString T = "bool") || decide (Str.ofString T = "int")) = some b at h
    rcases hT with rfl | rfl | rfl | rfl | rfl <;> (revert h; revert b; decide +kernel)
  | int c =>
    refine ⟨_, .base (.int c), kit_ty ?_⟩
    change some (decide (Str.ofString T = "int")) = some b at h
    rcases hT with rfl | rfl | rfl | rfl | rfl <;> (revert h; revert b; decide +kernel)
  | str c =>
    refine ⟨_, .base (.str c), kit_ty ?_⟩
    change some (decide (Str.ofString T = "str")) = some b at h
    rcases hT with rfl | rfl | rfl | rfl | rfl <;> (revert h; revert b; decide +kernel)
  | lst h1 r1 =>
    refine ⟨_, .base (.lst (o.sub _ _ h1)), kit_ty ?_⟩
    change some (decide (Str.ofString T = "list")) = some b at h
    rcases hT with rfl | rfl | rfl | rfl | rfl <;> (revert h; revert b; decide +kernel)
  | tup h1 r1 =>
    refine ⟨_, tyX_tup (seqT_of o h1), kit_ty ?_⟩
    change some (decide (Str.ofString T = "tuple")) = some b at h
    rcases hT with rfl | rfl | rfl | rfl | rfl <;> (revert h; revert b; decide +kernel)
  | obj h1 => cases h
  | row => cases h
theorem boot_ty {T : String} (hT : T = "int" ∨ T = "bool" ∨ T = "str" ∨ T = "list" ∨ T = "tuple") : bootBuiltins (Str.ofString T) = some (.type T) := by
  rcases hT with rfl | rfl | rfl | rfl | rfl <;> decide +kernel
theorem ty_plain {T : String} (hT : T = "int" ∨ T = "bool" ∨ T = "str" ∨ T = "list" ∨ T = "tuple") : Str.ofString T ≠ "__name__" ∧ (Str.ofString T == ("__debug__" : Str)) = false := by
  rcases hT with rfl | rfl | rfl | rfl | rfl <;> decide +kernel
theorem spc_isi (h0 : mg "isinstance" = none) (h1 : ∀ t, isTyN t = true → mg t = none) : Spc S P w mg base k fIsi := fun C E X c e f hf ρ fe hfe => by
  unfold fIsi at hf
  split at hf
  · rename_i g p1 a t p2 q1
    split at hf
    · rename_i hc
      obtain ⟨rfl, hg, ht, hs, hty⟩ := hc
      cases hf
      obtain ⟨T, rfl, hT⟩ := tyN_of hty
      intro H0 B0 H B σ Q p h
      refine ⟨_, pe_callB call_isi (c.glo hg) (by rw [c.mg]; exact h0) (by decide +kernel) (pa_cons peW (pa_cons (pe_bltn (v := .ty T) (c.glo ht) (by rw [c.mg]; exact h1 _ hty) (boot_ty hT) rfl (ty_plain hT).1 (ty_plain hT).2) pa_nil (star_cons rfl)) (star_cons hs)) (by decide +kernel) (by decide +kernel) (star_cons hs) (star_any rfl), ?_⟩
      show W X a σ H fun x H1 => rIsi X.K [x, .ty T] H1 Q
      refine sndE_then (hfe a) p h fun d v H1 B1 g1 r1 h2 => ?_
      rw [wpT_bind] at h2
      obtain ⟨b, hb, h2⟩ := wp_ofO h2
      obtain ⟨u, k1, k2⟩ := ty_dr c.K g1.ok r1 hT hb
      exact ⟨v, _, u, _, b, rfl, .ty _, k1, k2, h2 _ H1 B1 g1 (.bl b)⟩
    · cases hf
  · cases hf
/-! ### sorted(set(..)) of numbers -/
def sortSetD : D → T D
  | .lst l => (ofO (toInts l)).bind fun ns => if ns.length < 64 then .ret (.lst ((setI ns).map .int)) else .fail
  | _ => .fail
def fSortSet : Form := fun sc e => match e with
  | .Call (.Name f _) [.Call (.Name t _) [a] [] _] [] _ => if f = "sorted" ∧ t = "set" ∧ isGlo sc f = true ∧ isGlo sc t = true ∧ isStar a = false then some fun fe => (fe a).bind sortSetD else none
  | _ => none
theorem spc_sortSet (h0 : mg "sorted" = none) (h1 : mg "set" = none) : Spc S P w mg base k fSortSet := fun C E X c e f hf ρ fe hfe => by
  unfold fSortSet at hf
  split at hf
  · rename_i g p1 t p2 a q1 q2
    split at hf
    · rename_i hc
      obtain ⟨rfl, rfl, hg, ht, hs⟩ := hc
      cases hf
      intro H0 B0 H B σ Q p h
      refine ⟨_, pe_callB (cr_sortedSet c.calm) (c.glo hg) (by rw [c.mg]; exact h0) (by decide +kernel) (pa_cons (pe_callTy (cr_setOfI c.calm) (c.glo ht) (by rw [c.mg]; exact h1) (by decide +kernel) (pa_cons peW pa_nil (star_cons hs)) (by decide +kernel) (by decide +kernel) (star_cons hs) (star_any rfl)) pa_nil (star_cons rfl)) (by decide +kernel) (by decide +kernel) (star_cons rfl) (star_any rfl), ?_⟩
      show W X a σ H fun x H1 => rSetOfI X.K X.w [x] H1 fun y H2 => rSortedSet X.w [y] H2 Q
      refine sndE_then (hfe a) p h fun d v H1 B1 g1 r1 h2 => ?_
      unfold sortSetD at h2
      split at h2
      · rename_i l
        rw [wpT_bind] at h2
        obtain ⟨ns, hb, h2⟩ := wp_ofO h2
        split at h2
        · rename_i hn
          cases r1 with
          | lst k1 r1 =>
            have ev := r1.ints hb
            subst ev
            refine ⟨_, ns, rfl, SqL.of (g1.ok.sub _ _ k1), by omega, fun q cnt hq hcnt => ?_⟩
            refine ⟨q, _, cnt, rfl, upd_same, by omega, fun ms q2 hr hm hl hq2 => ?_⟩
            have e : ms = setI ns := rising_eq _ _ hr (setI_rising ns) fun k => by rw [hm, setI_mem]; exact decide_eq_true_iff
            subst e
            have g2 := g1.trans (Grow.open_ g1.ok hq (SetO X.w q (fun j => decide (j ∈ ns)) cnt))
            have g3 := g2.trans (Grow.new g2.ok hq2 (.lst ((setI ns).map V.int)))
            exact h2 _ _ _ g3 (.lst upd_same (drAll_ints _))
        · exact h2.elim
      · exact h2.elim
    · cases hf
  · cases hf
/-! ### tuple(range(..)) -/
def rngD (a b : D) : T D := (asInt a).bind fun i => (asInt b).bind fun j => if -100000 ≤ i ∧ i ≤ 100000 ∧ -100000 ≤ j ∧ j ≤ 100000 then .ret (.tup (intsD i (j - i).toNat)) else .fail
def fTupRg : Form := fun sc e => match e with
  | .Call (.Name f _) [.Call (.Name t _) [a] [] _] [] _ => if f = "tuple" ∧ t = "range" ∧ isGlo sc f = true ∧ isGlo sc t = true ∧ isStar a = false then some fun fe => (fe a).bind fun d => rngD (.int 0) d else none
  | _ => none
theorem drAll_rg {B : Hp} (i : Int) : ∀ n, DrAll S B ((List.range n).map fun (k : Nat) => V.int (i + (k : Nat))) (intsD i n) := fun n => by
  unfold intsD
  induction n with
  | zero => exact .nil
  | succ n ih =>
    rw [List.range_succ, List.map_append, List.map_append]
    exact ih.app (.cons (.int _) .nil)
theorem spc_tupRg (h0 : mg "tuple" = none) (h1 : mg "range" = none) : Spc S P w mg base k fTupRg := fun C E X c e f hf ρ fe hfe => by
  unfold fTupRg at hf
  split at hf
  · rename_i g p1 t p2 a q1 q2
    split at hf
    · rename_i hc
      obtain ⟨rfl, rfl, hg, ht, hs⟩ := hc
      cases hf
      intro H0 B0 H B σ Q p h
      refine ⟨_, pe_tupRg c.calm (c.glo hg) (by rw [c.mg]; exact h0) (prg_1 (c.glo ht) (by rw [c.mg]; exact h1) peW (star_cons hs)) (star_cons rfl), ?_⟩
      refine sndE_then (hfe a) p h fun d v H1 B1 g1 r1 h2 => ?_
      unfold rngD at h2
      rw [show asInt (.int 0) = T.ret 0 from rfl, bind_ret, wpT_bind] at h2
      obtain ⟨j, rfl, h3⟩ := wp_asInt h2
      refine ⟨j, dr_int r1, ?_⟩
      split at h3
      · rename_i z
        refine ⟨⟨by omega, by omega, by omega, by omega, by omega⟩, ?_⟩
        intro q hq
        have g3 := g1.trans (Grow.new g1.ok hq (.tup (rgV 0 j)))
        refine h3 _ _ _ g3 (.tup (SqT.of upd_same) ?_)
        exact drAll_rg 0 _
      · exact h3.elim
    · cases hf
  · cases hf
end
end Ev

/-! Further methods. -/
namespace Ev
open PySem PySem.Spec L2 PyProof.Rows RZ
section
variable {S : Sem0} {G : Info} {P : Program} {w : World} {mg : Str → Option Value} {base : Heap} {k : Nat} {call : Str → List D → T D} {C : Sc0} {E : XK} {X : Cx}
theorem snd_mthF (c : CxIs S P w mg base k C E X) {o : Expr} {m : Str} {args : List Expr} {apos pos : Pos} {ρ : List Sl} {d : D} {fe : Expr → T D} {T id : String} (f1 : PlainAttrs T) (f2 : Slot T m id) (f3 : typeOf (.builtin id) = pure (.type "method_descriptor"))
    (hl : (apos.endLine == pos.line) = true) (hn : args.length < 20) (hN : args.isEmpty = false) (hc : isCall o = false) (hs : args.any isStar = false)
    (ho : SndE S X E o ρ (.ret d)) (hf : ∀ e ∈ args, SndE S X E e ρ (fe e)) {g : List D → Ev.T D}
    (hty : ∀ H B v, Ok S H B → Dr S B v d → tyV X.K T v H)
    (hg : ∀ H B v vs ds Q E1, Ok S H B → Dr S B v d → DrAll S B vs ds → wpT (g ds) (Aft S H B Q) E1 → WM X id v vs H Q) :
    SndE S X E (.Call (.Attribute o m apos) args [] pos) ρ ((mapT fe args).bind g) := fun H0 B0 H B σ Q p h => by
  cases args with
  | nil => cases hN
  | cons e es =>
    have hs' : isStar e = false ∧ es.any isStar = false := by rw [List.any_cons, Bool.or_eq_false_iff] at hs; exact hs
    refine ⟨_, pe_bm f1 f2 f3 mtW peW paW (base_call hc) ?_ hl (star_cons hs'.1) (star_any hs'.2), ?_⟩
    · rw [star_all hs]
      show (true && true && decide ((e :: es).length + 0 + 0 < 30)) = true
      rw [decide_eq_true (show (e :: es).length + 0 + 0 < 30 by omega)]
      rfl
    · show W X o σ H fun x H1 => tyV X.K T x H1 ∧ WA X (e :: es) σ H1 fun xs H2 => WM X id x xs H2 Q
      refine ho _ _ _ _ _ _ p (show Aft S H B _ d from fun v H1 B1 g1 r1 => ⟨hty _ _ _ g1.ok r1, ?_⟩)
      refine sndA_then (snd_args hs hf) (p.grow g1) (wp_grow g1 h) fun ds vs H2 B2 g2 r2 h2 => ?_
      exact hg _ _ _ _ _ _ _ g2.ok (r1.mono g2.bb) r2 (wp_aft (g1.trans g2) h2)
/-- x.index(y) of a list of plain data -/
def indexD (l : List D) : List D → T D
  | [y] => if y.flat && l.all D.flat then (ofO (firstAt y l)).bind fun j => .ret (.int (j : Nat)) else .fail
  | _ => .fail
/-- x.count(y): of a list of numbers, of a text -/
def countL (l : List D) : List D → T D
  | [.int y] => (ofO (toInts l)).bind fun ns => .ret (.int (ns.count y : Nat))
  | _ => .fail
def countS (a : Str) : List D → T D
  | [.str b] => .ret (.int (Txt.count a b))
  | _ => .fail
theorem tyV_lst {K : PySem.W.Frag} {H B : Hp} {v : V} {l : List D} (o : Ok S H B) (r : Dr S B v (.lst l)) : tyV K "list" v H := by
  cases r with
  | lst h1 r1 => exact .inl ⟨rfl, _, SqL.of (o.sub _ _ h1)⟩
def fMth : Form := fun sc e => match e with
  | .Call (.Attribute o m apos) [a] [] pos => if (m = "index" ∨ m = "count") ∧ (apos.endLine == pos.line) = true ∧ isCall o = false ∧ isStar a = false then some fun fe => sure (fe o) fun d => match d with
      | .lst l => (mapT fe [a]).bind fun ds => if m = "index" then indexD l ds else countL l ds
      | .str z => if m = "index" then .fail else (mapT fe [a]).bind fun ds => countS z ds
      | _ => .fail
    else none
  | _ => none
theorem so_index (hK : X.K = S.K) {H B : Hp} (o : Ok S H B) {v : V} {l : List D} (r : Dr S B v (.lst l)) {vs : List V} {ds : List D} (hd : DrAll S B vs ds) {Q : VK} {E1 : Str → List D → Prop} (h : wpT (indexD l ds) (Aft S H B Q) E1) : WM X "list.index" v vs H Q := by
  unfold indexD at h
  split at h
  · rename_i y
    split at h
    · rename_i z
      rw [Bool.and_eq_true] at z
      rw [wpT_bind] at h
      obtain ⟨j, hj, h⟩ := wp_ofO h
      obtain ⟨x, h1, h2, h3⟩ := firstAt_spec hj
      obtain ⟨u, rfl, hu⟩ := drAll_one hd
      cases r with
      | lst k1 r1 =>
        obtain ⟨xv, e1, e2⟩ := r1.at_ h1
        have fl := List.all_eq_true.mp z.2
        refine ⟨_, mt_index, _, _, u, j, xv, rfl, rfl, SqL.of (o.sub _ _ k1), flat_dr hu z.1, (inV_inD hu z.1 r1 z.2).1, e1, ?_, fun m z' hm hz => ?_, Aft.here o h (.int _)⟩
        · rw [eqV_beq e2 hu (fl _ (List.mem_of_getElem? h1)) z.1]
          exact h2
        · obtain ⟨dz, d1, d2⟩ := r1.atV hz
          rw [eqV_beq d2 hu (fl _ (List.mem_of_getElem? d1)) z.1]
          exact h3 m dz hm d1
    · exact h.elim
  · exact h.elim
theorem so_countL (hK : X.K = S.K) {H B : Hp} (o : Ok S H B) {v : V} {l : List D} (r : Dr S B v (.lst l)) {vs : List V} {ds : List D} (hd : DrAll S B vs ds) {Q : VK} {E1 : Str → List D → Prop} (h : wpT (countL l ds) (Aft S H B Q) E1) : WM X "list.count" v vs H Q := by
  unfold countL at h
  split at h
  · rename_i y
    rw [wpT_bind] at h
    obtain ⟨ns, hj, h⟩ := wp_ofO h
    obtain ⟨u, rfl, hu⟩ := drAll_one hd
    cases r with
    | lst k1 r1 =>
      have e := r1.ints hj
      subst e
      have eu := dr_int hu
      subst eu
      exact ⟨_, mt_lcount, _, ns, y, rfl, rfl, SqL.of (o.sub _ _ k1), Aft.here o h (.int _)⟩
  · exact h.elim
theorem so_countS {H B : Hp} (o : Ok S H B) {v : V} {a : Str} (r : Dr S B v (.str a)) {vs : List V} {ds : List D} (hd : DrAll S B vs ds) {Q : VK} {E1 : Str → List D → Prop} (h : wpT (countS a ds) (Aft S H B Q) E1) : WM X "str.count" v vs H Q := by
  unfold countS at h
  split at h
  · obtain ⟨u, rfl, hu⟩ := drAll_one hd
    cases r
    cases hu
    exact ⟨_, mt_count, _, _, rfl, rfl, Aft.here o h (.int _)⟩
  · exact h.elim
theorem spc_mth : Spc S P w mg base k fMth := fun C E X c e f hf ρ fe hfe => by
  unfold fMth at hf
  split at hf
  · rename_i o m apos a pos
    split at hf
    · rename_i hc
      obtain ⟨hm, hl, ho, hs⟩ := hc
      cases hf
      have hs1 : [a].any isStar = false := by rw [List.any_cons, hs]; rfl
      cases ht : fe o with
      | ret d =>
        have ho' : SndE S X E o ρ (.ret d) := ht ▸ hfe o
        show SndE S X E _ ρ (sure (fe o) _)
        rw [ht]
        cases d with
        | lst l =>
          show SndE S X E _ ρ ((mapT fe [a]).bind fun ds => if m = "index" then indexD l ds else countL l ds)
          by_cases e : m = "index"
          · subst e
            exact snd_mthF c PySem.F.plainAttrs_list PySem.F.slot_list_index PySem.F.type_list_index hl (by show 1 < 20; decide) rfl ho hs1 ho' (fun e _ => hfe e) (fun H B v o r => tyV_lst o r) fun H B v vs ds Q E1 o r hd h => so_index c.K o r hd h
          · have e2 : m = "count" := hm.resolve_left e
            subst e2
            exact snd_mthF c PySem.F.plainAttrs_list PySem.F.slot_list_count PySem.F.type_list_count hl (by show 1 < 20; decide) rfl ho hs1 ho' (fun e _ => hfe e) (fun H B v o r => tyV_lst o r) fun H B v vs ds Q E1 o r hd h => so_countL c.K o r hd h
        | str z =>
          show SndE S X E _ ρ (if m = "index" then T.fail else (mapT fe [a]).bind fun ds => countS z ds)
          split
          · exact sndE_fail
          · rename_i e
            have e2 : m = "count" := hm.resolve_left e
            subst e2
            exact snd_mthF c PySem.F.plainAttrs_str PySem.F.slot_str_count PySem.F.type_str_count hl (by show 1 < 20; decide) rfl ho hs1 ho' (fun e _ => hfe e) (fun H B v o r => by cases r; rfl) fun H B v vs ds Q E1 o r hd h => so_countS o r hd h
        | _ => exact sndE_fail
      | fail => show SndE S X E _ ρ (sure (fe o) _); rw [ht]; exact sndE_fail
      | exc a b => show SndE S X E _ ρ (sure (fe o) _); rw [ht]; exact sndE_fail
      | draw a b => show SndE S X E _ ρ (sure (fe o) _); rw [ht]; exact sndE_fail
    · cases hf
  · cases hf
end
end Ev

/-! Further forms: lists with stars, the place of a sign in a text, range with a step. -/
namespace Ev
open PySem PySem.Spec L2 PyProof.Rows RZ StX
section
variable {S : Sem0} {G : Info} {P : Program} {w : World} {mg : Str → Option Value} {base : Heap} {k : Nat} {call : Str → List D → T D} {C : Sc0} {E : XK} {X : Cx}
/-! ### [*a, b] -/
def itemsOf : D → T (List D)
  | .lst l => .ret l
  | .tup l => .ret l
  | _ => .fail
def starT (fe : Expr → T D) : List Expr → T (List D)
  | [] => .ret []
  | .Starred e _ :: es => (fe e).bind fun d => (itemsOf d).bind fun l => (starT fe es).bind fun xs => .ret (l ++ xs)
  | e :: es => (fe e).bind fun d => (starT fe es).bind fun xs => .ret (d :: xs)
def fStar : Form := fun sc e => match e with
  | .List es _ => if es.any isStar then some fun fe => (starT fe es).bind fun ds => if ds.length ≤ most then .ret (.lst ds) else .fail else none
  | _ => none
theorem starT_cons {fe : Expr → T D} {e : Expr} {es : List Expr} (h : isStar e = false) : starT fe (e :: es) = (fe e).bind fun d => (starT fe es).bind fun xs => .ret (d :: xs) := by
  cases e <;> first | rfl | cases h
theorem drAll_app {B : Hp} : ∀ {vs us : List V} {ds es : List D}, DrAll S B vs ds → DrAll S B us es → DrAll S B (vs ++ us) (ds ++ es)
  | _, _, _, _, .nil, h => h
  | _, _, _, _, .cons a r, h => .cons a (drAll_app r h)
theorem snd_starT (c : CxIs S P w mg base k C E X) {ρ : List Sl} {fe : Expr → T D} (hf : ∀ a, SndE S X E a ρ (fe a)) : ∀ es, SndA S X E es ρ (starT fe es)
  | [] => fun H0 B0 H B σ Q p h => ⟨_, pa_nil, h [] H B (Grow.refl p.ok) .nil⟩
  | e :: es => fun H0 B0 H B σ Q p h => by
    cases hs : isStar e with
    | false =>
      rw [starT_cons hs] at h
      refine ⟨_, pa_cons peW paW (star_cons hs), ?_⟩
      refine sndE_then (hf e) p h fun d v H1 B1 g1 r1 h1 => ?_
      refine sndA_then (snd_starT c hf es) (p.grow g1) h1 fun ds vs H2 B2 g2 r2 h2 => ?_
      exact h2 (v :: vs) H2 B2 (g1.trans g2) (.cons (r1.mono g2.bb) r2)
    | true =>
      cases e with
      | Starred e sp =>
        refine ⟨_, pa_star peW paW, ?_⟩
        show W X e σ H fun x H1 => ∃ p xs, x = V.ref p ∧ (SqT X.K H1 p xs ∨ SqL X.K H1 p xs) ∧ WA X es σ H1 fun ys H2 => Q (xs ++ ys) H2
        refine sndE_then (hf e) p (show wpT ((fe e).bind fun d => (itemsOf d).bind fun l => (starT fe es).bind fun xs => .ret (l ++ xs)) _ _ from h) fun d v H1 B1 g1 r1 h1 => ?_
        cases d with
        | lst l =>
          cases r1 with
          | lst k1 q1 =>
            refine ⟨_, _, rfl, .inr (SqL.of (g1.ok.sub _ _ k1)), ?_⟩
            refine sndA_then (snd_starT c hf es) (p.grow g1) (show wpT ((starT fe es).bind fun xs => .ret (l ++ xs)) _ _ from h1) fun ds vs H2 B2 g2 r2 h2 => ?_
            exact h2 _ H2 B2 (g1.trans g2) (drAll_app (q1.mono g2.bb) r2)
        | tup l =>
          cases r1 with
          | tup k1 q1 =>
            refine ⟨_, _, rfl, .inl (by rw [c.K]; exact seqT_of g1.ok k1), ?_⟩
            refine sndA_then (snd_starT c hf es) (p.grow g1) (show wpT ((starT fe es).bind fun xs => .ret (l ++ xs)) _ _ from h1) fun ds vs H2 B2 g2 r2 h2 => ?_
            exact h2 _ H2 B2 (g1.trans g2) (drAll_app (q1.mono g2.bb) r2)
        | _ => exact h1.elim
      | _ => cases hs
theorem spc_star : Spc S P w mg base k fStar := fun C E X c e f hf ρ fe hfe => by
  unfold fStar at hf
  split at hf
  · split at hf
    · cases hf
      exact snd_lst (snd_starT c hfe _)
    · cases hf
  · cases hf
/-! ### the place of b in a -/
def indexS (a : Str) : List D → T D
  | [.str b] => match Builtin.Str.occurrences a b 0 a.length 1 with
    | i :: _ => .ret (.int (i : Nat))
    | [] => .fail
  | _ => .fail
theorem so_indexS {H B : Hp} (o : Ok S H B) {v : V} {a : Str} (r : Dr S B v (.str a)) {vs : List V} {ds : List D} (hd : DrAll S B vs ds) {Q : VK} {E1 : Str → List D → Prop} (h : wpT (indexS a ds) (Aft S H B Q) E1) : WM X "str.index" v vs H Q := by
  unfold indexS at h
  split at h
  · split at h
    · rename_i z
      obtain ⟨u, rfl, hu⟩ := drAll_one hd
      cases r
      cases hu
      exact ⟨_, mt_sindex, _, _, _, _, rfl, rfl, z, Aft.here o h (.int _)⟩
    · exact h.elim
  · exact h.elim
def fSIx : Form := fun sc e => match e with
  | .Call (.Attribute (.Name x xp) m apos) [a] [] pos => if m = "index" ∧ isGlo sc x = true ∧ (apos.endLine == pos.line) = true ∧ isStar a = false then some fun fe => sure (fe (.Name x xp)) fun d => match d with
      | .str z => (mapT fe [a]).bind fun ds => indexS z ds
      | _ => .fail
    else none
  | .Call (.Attribute (.Constant (.str z) b cp) m apos) [a] [] pos => if m = "index" ∧ (apos.endLine == pos.line) = true ∧ isStar a = false then some fun fe => sure (fe (.Constant (.str z) b cp)) fun d => match d with
      | .str z => (mapT fe [a]).bind fun ds => indexS z ds
      | _ => .fail
    else none
  | _ => none
theorem snd_six (c : CxIs S P w mg base k C E X) {o a : Expr} {apos pos : Pos} {ρ : List Sl} {fe : Expr → T D} (hl : (apos.endLine == pos.line) = true) (hs : isStar a = false) (hc : isCall o = false) (hfe : ∀ a, SndE S X E a ρ (fe a)) : SndE S X E (.Call (.Attribute o "index" apos) [a] [] pos) ρ (sure (fe o) fun d => match d with
      | .str z => (mapT fe [a]).bind fun ds => indexS z ds
      | _ => .fail) := by
  have hs1 : [a].any isStar = false := by rw [List.any_cons, hs]; rfl
  cases ht : fe o with
  | ret d =>
    have ho' : SndE S X E o ρ (.ret d) := ht ▸ hfe o
    cases d with
    | str z => exact snd_mthF c PySem.F.plainAttrs_str PySem.F.slot_str_index PySem.F.type_str_index hl (by show 1 < 20; decide) rfl hc hs1 ho' (fun e _ => hfe e) (fun H B v o r => by cases r; rfl) fun H B v vs ds Q E1 o r hd h => so_indexS o r hd h
    | _ => exact sndE_fail
  | _ => exact sndE_fail
theorem spc_six : Spc S P w mg base k fSIx := fun C E X c e f hf ρ fe hfe => by
  unfold fSIx at hf
  split at hf
  · split at hf
    · rename_i hc
      obtain ⟨rfl, hm, hl, hs⟩ := hc
      cases hf
      exact snd_six c hl hs rfl hfe
    · cases hf
  · split at hf
    · rename_i hc
      obtain ⟨rfl, hl, hs⟩ := hc
      cases hf
      exact snd_six c hl hs rfl hfe
    · cases hf
  · cases hf
/-! ### range(a, b, c) -/
def stepD (lo c : Int) (n : Nat) : List D := (List.range n).map fun i => .int (lo + (i : Nat) * c)
abbrev FormI := Scope → Expr → Expr → Option ((Expr → T D) → T (List D))
def rg3 (i j c : Int) : T (List D) := if c ≠ 0 ∧ c.natAbs < 1073741824 ∧ Builtin.Range.small i j c = true ∧ 0 ≤ Builtin.Range.rangeSize i j c then .ret (stepD i c (Builtin.Range.rangeSize i j c).toNat) else .fail
def iRg3 : FormI := fun sc tg e => match e with
  | .Call (.Name x _) [a, b, d] [] _ => if x = "range" ∧ isGlo sc x = true ∧ isStar a = false ∧ isStar b = false ∧ isStar d = false then some fun fe => (fe a).bind fun x => (fe b).bind fun y => (fe d).bind fun z => (asInt x).bind fun i => (asInt y).bind fun j => (asInt z).bind fun c => rg3 i j c else none
  | _ => none
theorem drAll_stp {B : Hp} (lo c : Int) (n : Nat) : DrAll S B ((List.range n).map fun i => V.int (lo + (i : Nat) * c)) (stepD lo c n) := by
  unfold stepD
  induction List.range n with
  | nil => exact .nil
  | cons a l ih => exact .cons (.int _) ih
theorem over_stpL (lo c : Int) (n : Nat) : Kw.Over (Itc lo c n) ((List.range n).map fun i => V.int (lo + (i : Nat) * c)) fun _ => True := fun i H _ => by
  have e : ((List.range n).map fun i => V.int (lo + (i : Nat) * c)).length = n := by simp
  refine ⟨fun h => ?_, fun h => ?_, fun v H' hi y => ?_⟩
  · show i < n
    omega
  · show n ≤ i
    omega
  · obtain ⟨e1, rfl⟩ := y
    refine ⟨e1, ?_⟩
    rw [List.getElem?_map, List.getElem?_range (by omega)]
    rfl
theorem spi_rg3 (hr : mg "range" = none) : Spi S P w mg base k iRg3 := fun C E X c tg e f hf ρ fe hfe => by
  unfold iRg3 at hf
  split at hf
  · split at hf
    · rename_i a b d _ hc
      obtain ⟨rfl, hg, s1, s2, s3⟩ := hc
      cases hf
      intro H0 B0 H B σ R p h
      refine ⟨_, pi_range3 (c.glo hg) (by rw [c.mg]; exact hr) (pa_cons peW (pa_cons peW (pa_cons peW pa_nil (star_cons s3)) (star_cons s2)) (star_cons s1)) (by rw [star_cons s1]) (star_any (by rw [List.any_cons, List.any_cons, s2, s3]; rfl)), ?_⟩
      show W X a σ H fun x H1 => W X b σ H1 fun y H2 => W X d σ H2 fun z H3 => ∃ (i j c : Int) (n : Nat), [x, y, z] = [.int i, .int j, .int c] ∧ RgC i j c n ∧ R (Itc i c n) H3
      refine sndE_then (hfe a) p h fun d1 v1 H1 B1 g1 r1 h1 => ?_
      refine sndE_then (hfe b) (p.grow g1) h1 fun d2 v2 H2 B2 g2 r2 h2 => ?_
      refine sndE_then (hfe d) ((p.grow g1).grow g2) h2 fun d3 v3 H3 B3 g3 r3 h3 => ?_
      rw [wpT_bind] at h3
      obtain ⟨i, rfl, h4⟩ := wp_asInt h3
      rw [wpT_bind] at h4
      obtain ⟨j, rfl, h5⟩ := wp_asInt h4
      rw [wpT_bind] at h5
      obtain ⟨q, rfl, h6⟩ := wp_asInt h5
      clear h3 h4 h5
      unfold rg3 at h6
      split at h6
      · rename_i z
        refine ⟨i, j, q, _, by rw [dr_int r1, dr_int r2, dr_int r3], ⟨z.1, z.2.1, z.2.2.1, (Int.toNat_of_nonneg z.2.2.2).symm⟩, h6 _ H3 B3 ((g1.trans g2).trans g3) (.of (over_stpL i q _) (fun _ _ _ _ => trivial) (drAll_stp i q _))⟩
      · exact h6.elim
    · cases hf
  · cases hf
end
end Ev

/-! Further forms: text.split(sep), int(text), str(number), divmod. -/
namespace Ev
open PySem PySem.Spec L2 PyProof.Rows RZ
section
variable {S : Sem0} {G : Info} {P : Program} {w : World} {mg : Str → Option Value} {base : Heap} {k : Nat} {call : Str → List D → T D} {C : Sc0} {E : XK} {X : Cx}
/-! ### z.split(b) -/
def splitS (z : Str) : List D → T D
  | [.str b] => if (b.length == 0) = false ∧ z.length + 2 ≤ most then .ret (.lst ((Txt.split z b).map .str)) else .fail
  | _ => .fail
theorem so_split {H B : Hp} (o : Ok S H B) {v : V} {a : Str} (r : Dr S B v (.str a)) {vs : List V} {ds : List D} (hd : DrAll S B vs ds) {Q : VK} {E1 : Str → List D → Prop} (h : wpT (splitS a ds) (Aft S H B Q) E1) : WM X "str.split" v vs H Q := by
  unfold splitS at h
  split at h
  · split at h
    · rename_i z
      obtain ⟨u, rfl, hu⟩ := drAll_one hd
      cases r
      cases hu
      exact ⟨_, mt_split, _, _, rfl, rfl, z.1, Nat.le_trans z.2 (by decide), Aft.newL o h (drAll_strs _)⟩
    · exact h.elim
  · exact h.elim
def fSplit : Form := fun sc e => match e with
  | .Call (.Attribute o m apos) [a] [] pos => if m = "split" ∧ (apos.endLine == pos.line) = true ∧ isCall o = false ∧ isStar a = false then some fun fe => sure (fe o) fun d => match d with
      | .str z => (mapT fe [a]).bind fun ds => splitS z ds
      | _ => .fail
    else none
  | _ => none
theorem spc_split : Spc S P w mg base k fSplit := fun C E X c e f hf ρ fe hfe => by
  unfold fSplit at hf
  split at hf
  · rename_i o m apos a pos
    split at hf
    · rename_i hc
      obtain ⟨rfl, hl, ho, hs⟩ := hc
      cases hf
      have hs1 : [a].any isStar = false := by rw [List.any_cons, hs]; rfl
      show SndE S X E _ ρ (sure (fe o) _)
      cases ht : fe o with
      | ret d =>
        have ho' : SndE S X E o ρ (.ret d) := ht ▸ hfe o
        cases d with
        | str z => exact snd_mthF c PySem.F.plainAttrs_str PySem.F.slot_str_split PySem.F.type_str_split hl (by show 1 < 20; decide) rfl ho hs1 ho' (fun e _ => hfe e) (fun H B v o r => by cases r; rfl) fun H B v vs ds Q E1 o r hd h => so_split o r hd h
        | _ => exact sndE_fail
      | _ => exact sndE_fail
    · cases hf
  · cases hf
/-! ### int(x) -/
def intT : D → T D
  | .int i => .ret (.int i)
  | .str z => if z.length ≤ 640 then (ofO (intText? z)).bind fun n => .ret (.int n) else .fail
  | .bl b => .ret (.int (if b then 1 else 0))
  | _ => .fail
def fInt : Form := fun sc e => match e with
  | .Call (.Name f _) [a] [] _ => if f = "int" ∧ isGlo sc f = true ∧ isStar a = false then some fun fe => (fe a).bind intT else none
  | _ => none
theorem spc_int (h0 : mg "int" = none) : Spc S P w mg base k fInt := fun C E X c e f hf ρ fe hfe => by
  unfold fInt at hf
  split at hf
  · rename_i g p1 a q1
    split at hf
    · rename_i hc
      obtain ⟨rfl, hg, hs⟩ := hc
      cases hf
      intro H0 B0 H B σ Q p h
      refine ⟨_, pe_callTy (T := "int") callW (c.glo hg) (by rw [c.mg]; exact h0) (by decide +kernel) (pa_cons peW pa_nil (star_cons hs)) (by decide +kernel) (by decide +kernel) (star_cons hs) (star_any rfl), ?_⟩
      show W X a σ H fun x H1 => WC X (.type "int") [x] H1 Q
      refine sndE_then (hfe a) p h fun d v H1 B1 g1 r1 h2 => ?_
      unfold intT at h2
      split at h2
      · cases r1
        exact ⟨_, call_int1, .inl ⟨_, rfl, h2 _ H1 B1 g1 (.int _)⟩⟩
      · split at h2
        · rename_i hz
          rw [wpT_bind] at h2
          obtain ⟨n, hn, h2⟩ := wp_ofO h2
          cases r1
          exact ⟨_, call_int_str, _, _, rfl, hn, hz, h2 _ H1 B1 g1 (.int _)⟩
        · exact h2.elim
      · cases r1
        exact ⟨_, call_int1, .inr ⟨_, rfl, h2 _ H1 B1 g1 (.int _)⟩⟩
      · exact h2.elim
    · cases hf
  · cases hf
/-! ### str(i) -/
def strT : D → T D
  | .int i => if i.natAbs.log2 < 1920 then .ret (.str (toString i)) else .fail
  | .str z => .ret (.str z)
  | _ => .fail
def fStr : Form := fun sc e => match e with
  | .Call (.Name f _) [a] [] _ => if f = "str" ∧ isGlo sc f = true ∧ isStar a = false then some fun fe => (fe a).bind strT else none
  | _ => none
theorem spc_str (h0 : mg "str" = none) : Spc S P w mg base k fStr := fun C E X c e f hf ρ fe hfe => by
  unfold fStr at hf
  split at hf
  · rename_i g p1 a q1
    split at hf
    · rename_i hc
      obtain ⟨rfl, hg, hs⟩ := hc
      cases hf
      intro H0 B0 H B σ Q p h
      refine ⟨_, pe_callTy (T := "str") callW (c.glo hg) (by rw [c.mg]; exact h0) (by decide +kernel) (pa_cons peW pa_nil (star_cons hs)) (by decide +kernel) (by decide +kernel) (star_cons hs) (star_any rfl), ?_⟩
      show W X a σ H fun x H1 => WC X (.type "str") [x] H1 Q
      refine sndE_then (hfe a) p h fun d v H1 B1 g1 r1 h2 => ?_
      unfold strT at h2
      split at h2
      · split at h2
        · rename_i hz
          cases r1
          exact ⟨_, call_str_int, _, rfl, hz, h2 _ H1 B1 g1 (.str _)⟩
        · exact h2.elim
      · cases r1
        exact ⟨_, SkE.call_str_str, _, rfl, h2 _ H1 B1 g1 (.str _)⟩
      · exact h2.elim
    · cases hf
  · cases hf
/-! ### divmod(a, b) -/
def divT (x y : D) : T D := match x, y with
  | .int i, .int j => if 0 < j ∧ j < 1073741824 then .ret (.tup [.int (i / j), .int (i % j)]) else .fail
  | _, _ => .fail
def fDiv : Form := fun sc e => match e with
  | .Call (.Name f _) [a, b] [] _ => if f = "divmod" ∧ isGlo sc f = true ∧ isStar a = false ∧ isStar b = false then some fun fe => (fe a).bind fun x => (fe b).bind fun y => divT x y else none
  | _ => none
theorem spc_div (h0 : mg "divmod" = none) : Spc S P w mg base k fDiv := fun C E X c e f hf ρ fe hfe => by
  unfold fDiv at hf
  split at hf
  · rename_i g p1 a b q1
    split at hf
    · rename_i hc
      obtain ⟨rfl, hg, hs, hs2⟩ := hc
      cases hf
      intro H0 B0 H B σ Q p h
      refine ⟨_, pe_callB call_divmod (c.glo hg) (by rw [c.mg]; exact h0) (by decide +kernel) (pa_cons peW (pa_cons peW pa_nil (star_cons hs2)) (star_cons hs)) (by decide +kernel) (by decide +kernel) (star_cons hs) (star_any (by rw [List.any_cons, hs2]; rfl)), ?_⟩
      show W X a σ H fun x H1 => W X b σ H1 fun y H2 => ∃ i j, [x, y] = [.int i, .int j] ∧ CDiv i j ∧ ∀ p, H2 p = none → Q (.ref p) (upd H2 p (.tup [.int (i / j), .int (i % j)]))
      refine sndE_then (hfe a) p h fun d v H1 B1 g1 r1 h1 => ?_
      refine sndE_then (hfe b) (p.grow g1) h1 fun e u H2 B2 g2 r2 h2 => ?_
      unfold divT at h2
      split at h2
      · split at h2
        · rename_i z
          have e1 := dr_int r1
          have e2 := dr_int r2
          subst e1
          subst e2
          exact ⟨_, _, rfl, z, Aft.newT g2.ok (Aft.grow (g1.trans g2) h2) (.cons (.int _) (.cons (.int _) .nil))⟩
        · exact h2.elim
      · exact h2.elim
    · cases hf
  · cases hf
end
end Ev

/-! enumerate(list, start=k); two ways of walking, joined. -/
namespace Ev
open PySem PySem.Spec L2 PyProof.Rows RZ
section
variable {S : Sem0} {G : Info} {P : Program} {w : World} {mg : Str → Option Value} {base : Heap} {k : Nat} {call : Str → List D → T D} {C : Sc0} {E : XK} {X : Cx}
theorem over_enumC {H B : Hp} {a : Addr} {vs : List V} {l : List D} {K : PySem.W.Frag} (n : Nat) (hB : B a = some (.lst vs)) (r : DrAll S B vs l) : OverD S (IteC K a (n : Int)) B (pairs n l) := fun i H1 B1 s o => by
  have hq : SqL K H1 a vs := SqL.of (o.sub _ _ (s _ _ hB))
  rw [pairs_len, ← r.len]
  refine ⟨fun hi => ⟨vs, vs[i], hq, by simp [hi]⟩, fun hi => ⟨vs, hq, hi⟩, fun v H2 hi y => ?_⟩
  obtain ⟨T, x, rfl, hT, rfl, hx⟩ := y
  obtain ⟨d, hd, rd⟩ := r.atV (hx vs hq)
  obtain ⟨B2, g, rp⟩ := pair_new o hT (.int ((n : Int) + (i : Nat))) (rd.mono s)
  refine ⟨B2, _, g, ?_, rp⟩
  rw [pairs_at, hd]
  show some (D.tup [.int ((n + i : Nat) : Int), d]) = _
  rw [Int.natCast_add]
def pairsF (n : Nat) : D → T (List D)
  | .lst l => .ret (pairs n l)
  | _ => .fail
/-- enumerate(list, start=n) -/
def iEnS : FormI := fun sc tg e => match e with
  | .Call (.Name x _) [a] [⟨some y, .Constant (.int c) _ _, _⟩] _ => if x = "enumerate" ∧ y = Str.ofString "start" ∧ isGlo sc x = true ∧ isStar a = false ∧ isTup tg = true ∧ 0 ≤ c ∧ c < 1073741824 then some fun fe => known (fe a) (pairsF c.toNat) else none
  | _ => none
theorem spi_ens (hr : mg "enumerate" = none) : Spi S P w mg base k iEnS := fun C E X c tg e f hf ρ fe hfe => by
  unfold iEnS at hf
  split at hf
  · split at hf
    · rename_i x p0 a y c0 ck cp kp pos hc
      obtain ⟨rfl, rfl, hg, hs, ht, h0, h1⟩ := hc
      cases hf
      have hcn : c0 = ((c0.toNat : Nat) : Int) := (Int.toNat_of_nonneg h0).symm
      cases tg <;> first | (cases ht; done) | skip
      intro H0 B0 H B σ R p h
      refine ⟨_, pi_enumC (by omega) (by omega) (c.glo hg) (by rw [c.mg]; exact hr) (pa_cons peW pa_nil (star_cons hs)) (star_one hs), ?_⟩
      show W X a σ H fun x H1 => ∃ a xs, [x] = [.ref a] ∧ SqL X.K H1 a xs ∧ R (IteC X.K a c0) H1
      have hA := hfe a
      replace h : wpT (known (fe a) (pairsF c0.toNat)) _ _ := h
      cases ht2 : fe a with
      | ret d =>
        rw [ht2] at h hA
        have h : wpT (pairsF c0.toNat d) _ _ := h
        unfold pairsF at h
        split at h
        · refine hA _ _ _ _ _ _ p (show Aft S H B _ _ from fun v H1 B1 g1 r1 => ?_)
          cases r1 with
          | lst h1 r1 =>
            refine ⟨_, _, rfl, SqL.of (g1.ok.sub _ _ h1), ?_⟩
            rw [hcn]
            exact h _ H1 B1 g1 (over_enumC (H := H1) _ h1 r1)
        · exact h.elim
      | exc cc fs =>
        rw [ht2] at h hA
        exact hA _ _ _ _ _ _ p h
      | _ => rw [ht2] at h; exact h.elim
    · cases hf
  · cases hf
/-- two ways of walking -/
def orI (f g : FormI) : FormI := fun sc tg e => match f sc tg e with
  | some z => some z
  | none => g sc tg e
theorem spi_or {f g : FormI} (hf : Spi S P w mg base k f) (hg : Spi S P w mg base k g) : Spi S P w mg base k (orI f g) := fun C E X c tg e z hz => by
  unfold orI at hz
  split at hz
  · rename_i y hy
    cases hz
    exact hf C E X c tg e _ hy
  · exact hg C E X c tg e z hz
end
end Ev

/-! A def's entry for the reader, from its text alone. -/
namespace Ev
open PySem PySem.Spec L2 PyProof.Rows
def argNames (a : Arguments) : List Str := a.args.map (·.arg)
def ownNames (sc : Scope) : List Str := sc.names.filterMap fun y => match y.2 with
  | .local => some y.1
  | .cell => some y.1
  | _ => none
/-- the names of the comprehensions within -/
def cN : Nat → Expr → List Str
  | 0, _ => []
  | n + 1, e => match e with
    | .BinOp a _ b _ => cN n a ++ cN n b
    | .UnaryOp _ a _ => cN n a
    | .BoolOp _ vs _ => vs.flatMap (cN n)
    | .Compare a _ bs _ => cN n a ++ bs.flatMap (cN n)
    | .IfExp c a b _ => cN n c ++ cN n a ++ cN n b
    | .Call f args _ _ => cN n f ++ args.flatMap (cN n)
    | .Attribute o _ _ => cN n o
    | .Subscript a b _ => cN n a ++ cN n b
    | .Slice lo hi _ _ => (match lo with | some e => cN n e | none => []) ++ (match hi with | some e => cN n e | none => [])
    | .ListComp elt gens sc _ => ownNames sc ++ cN n elt ++ gens.flatMap fun g => cN n g.iter ++ g.ifs.flatMap (cN n)
    | .Tuple es _ _ => es.flatMap (cN n)
    | .List es _ => es.flatMap (cN n)
    | .Starred e _ => cN n e
    | _ => []
def cS : Nat → Stmt → List Str
  | 0, _ => []
  | n + 1, st => match st with
    | .Return (some e) _ => cN 30 e
    | .Expr e _ => cN 30 e
    | .Assign tgs e _ => tgs.flatMap (cN 30) ++ cN 30 e
    | .If c a b _ => cN 30 c ++ a.flatMap (cS n) ++ b.flatMap (cS n)
    | .For _ it a b _ => cN 30 it ++ a.flatMap (cS n) ++ b.flatMap (cS n)
    | .While c a b _ => cN 30 c ++ a.flatMap (cS n) ++ b.flatMap (cS n)
    | .Raise (some e) _ _ => cN 30 e
    | _ => []
/-- names whose lists are written -/
def mS : Nat → Stmt → List Str
  | 0, _ => []
  | n + 1, st => match st with
    | .Expr (.Call (.Attribute (.Name x _) m _) _ _ _) _ => if m = "append" ∨ m = "extend" then [x] else []
    | .Assign [.Subscript (.Name x _) _ _] (.Call (.Attribute (.Name y _) m _) _ _ _) _ => x :: (if m = "pop" then [y] else [])
    | .Assign [.Subscript (.Name x _) _ _] _ _ => [x]
    | .Assign _ (.Call (.Attribute (.Name x _) m _) _ _ _) _ => if m = "pop" then [x] else []
    | .If _ a b _ => a.flatMap (mS n) ++ b.flatMap (mS n)
    | .For _ _ a b _ => a.flatMap (mS n) ++ b.flatMap (mS n)
    | .While _ a b _ => a.flatMap (mS n) ++ b.flatMap (mS n)
    | _ => []
def uniq (l : List Str) : List Str := l.foldl (fun acc x => if acc.contains x then acc else acc ++ [x]) []
def fnSt (st : Stmt) : Fn where
  ps := argNames (defArgs st)
  C := ⟨uniq (argNames (defArgs st) ++ ownNames (defScope st) ++ (defBody st).flatMap (cS 30)), defScope st, fun _ => true⟩
  mu := uniq ((defBody st).flatMap (mS 30))
  body := defBody st
def fnGood (st : Stmt) : Bool :=
  (match (defScope st).kind with | .function => true | _ => false) && !(defScope st).isCoroutine && !(defScope st).isGenerator && decide (fnSt st).C.N.Nodup && decide ((fnSt st).C.N.take (fnSt st).ps.length = (fnSt st).ps) &&
    ((fnSt st).ps.all fun x => decide ((defScope st).names.lookup x = some .local) || decide ((defScope st).names.lookup x = some .cell)) && ((defScope st).names.all fun y => decide (y.2 ≠ .free))
theorem fnScope_of {st : Stmt} (h : fnGood st = true) : FnScope (fnSt st).C.N (fnSt st).ps (defScope st) := by
  unfold fnGood at h
  simp only [Bool.and_eq_true, Bool.not_eq_true', decide_eq_true_eq] at h
  obtain ⟨⟨⟨⟨⟨⟨h1, h2⟩, h3⟩, h4⟩, h5⟩, h6⟩, h7⟩ := h
  refine ⟨?_, h2, h3, h4, h5, fun x hx => ?_, fun y hy => ?_⟩
  · cases e : (defScope st).kind <;> simp_all
  · have := List.all_eq_true.mp h6 x hx
    simpa using this
  · have := List.all_eq_true.mp h7 y hy
    simpa using this
theorem fnT_mk {S : Sem0} {mg : Str → Option Value} {f x qual : Str} {st : Stmt} {a : Addr} {fd : FuncData} (F : Fun S.K x qual st a fd) (g : fnGood st = true) (hm : mg f = some (.ref a)) (hb : Binds S.K fd (fnSt st).ps []) : FnT S mg f (fnSt st) :=
  ⟨⟨_, _, st, a, fd, F, fnScope_of g, rfl, rfl, hm, F.kp, hb⟩⟩
/-- a table of defs -/
def tblOf (l : List (Str × Stmt)) : Str → Option Fn := fun f => (l.lookup f).map fnSt
theorem tbl_fn {l : List (Str × Stmt)} : ∀ f fn, tblOf l f = some fn → fn.C.fn = fun _ => true := fun f fn h => by
  unfold tblOf at h
  cases e : l.lookup f with
  | none => rw [e] at h; cases h
  | some st => rw [e] at h; cases h; rfl
end Ev

namespace Kn
open PySem PySem.Spec L2 Kw
theorem scNum : FnScope ["value"] ["value"] (defScope sNum) := ⟨rfl, rfl, rfl, by decide +kernel, rfl, by decide +kernel, by decide +kernel⟩
theorem scSide : FnScope ["value"] ["value"] (defScope sSide) := ⟨rfl, rfl, rfl, by decide +kernel, rfl, by decide +kernel, by decide +kernel⟩
theorem scFromTo : FnScope ["value", "least", "most"] ["value", "least", "most"] (defScope sFromTo) := ⟨rfl, rfl, rfl, by decide +kernel, rfl, by decide +kernel, by decide +kernel⟩
theorem scSize : FnScope ["width", "height"] ["width", "height"] (defScope sSize) := ⟨rfl, rfl, rfl, by decide +kernel, rfl, by decide +kernel, by decide +kernel⟩
theorem scSheet : FnScope ["value", "cells", "sign"] ["value", "cells"] (defScope sSheet) := ⟨rfl, rfl, rfl, by decide +kernel, rfl, by decide +kernel, by decide +kernel⟩
theorem scSheets : FnScope ["value", "cells", "sheet"] ["value", "cells"] (defScope sSheets) := ⟨rfl, rfl, rfl, by decide +kernel, rfl, by decide +kernel, by decide +kernel⟩
/-! ### the mathematics -/
def numV : V → Bool
  | .int _ => true
  | _ => false
def NumLike : V → Prop
  | .int _ => True
  | .bl _ => True
  | _ => False
def sideV : V → Bool
  | .int i => decide (1 ≤ i) && decide (i ≤ 4)
  | _ => false
def valI : V → Int
  | .int i => i
  | _ => 0
def sizeV (a b : V) : Bool := sideV a && (sideV b && decide (valI a * valI b ≤ 9))
def signOk (c : Nat) : Bool := decide (97 ≤ c) && decide (c ≤ 122)
def sheetOk (z : Str) (n : Int) : Bool := decide ((z.length : Int) = n) && z.cps.toList.all signOk
def sheetsOk (l : List Str) (n : Int) : Bool := decide (1 ≤ l.length) && (decide (l.length ≤ 4) && l.all fun z => sheetOk z n)
/-! ### the promises -/
def spNum : Sp := fun vs H Q _ => ∃ v, vs = [v] ∧ NumLike v ∧ Q (.bl (numV v)) H
def spFromTo : Sp := fun vs H Q _ => ∃ v lo hi, vs = [v, .int lo, .int hi] ∧ NumLike v ∧ Q (.bl (match v with | .int i => decide (lo ≤ i) && decide (i ≤ hi) | _ => false)) H
def spSide : Sp := fun vs H Q _ => ∃ v, vs = [v] ∧ NumLike v ∧ Q (.bl (sideV v)) H
def spSize : Sp := fun vs H Q _ => ∃ v u, vs = [v, u] ∧ NumLike v ∧ NumLike u ∧ Q (.bl (sizeV v u)) H
def spSheet : Sp := fun vs H Q _ => ∃ z n, vs = [.str z, .int n] ∧ z.length ≤ 1000 ∧ ∀ H', Same H H' → Q (.bl (sheetOk z n)) H'
def spSheets (K : PySem.W.Frag) : Sp := fun vs H Q _ => ∃ t l n, vs = [.ref t, .int n] ∧ H t = some (.tup (l.map V.str)) ∧ (∀ z ∈ l, z.length ≤ 1000) ∧ l.length ≤ 1000 ∧ ∀ H', Same H H' → Q (.bl (sheetsOk l n)) H'
/-- the built-in names that the text leaves as they are -/
structure Blt (mg : Str → Option Value) : Prop where
  isi : mg "isinstance" = none
  int : mg "int" = none
  bool : mg "bool" = none
  str : mg "str" = none
  tup : mg "tuple" = none
  len : mg "len" = none
  all : mg "all" = none
  range : mg "range" = none
structure Cst (mg : Str → Option Value) : Prop where
  side : ∃ t, mg "LONGEST_SIDE" = some (.int 4 t)
  cells : ∃ t, mg "MOST_CELLS" = some (.int 9 t)
  sheets : ∃ t, mg "MOST_SHEETS" = some (.int 4 t)
section
variable {P : Program} {w : World} {K : PySem.W.Frag} {mg : Str → Option Value} {base : Heap} {f : Addr} {fd : FuncData}
theorem ok_num (F : Fun K "is_number" "is_number" sNum f fd) (B : Blt mg) : FnOk P w K mg base CX0 1 f fd ["value"] spNum := by
  refine F.ok scNum (fun vs H Q E h => ?_) (fun cdv A outer s H vs Q E hr h => ?_)
  · obtain ⟨v, rfl, _⟩ := h
    rfl
  · obtain ⟨v, rfl, hv, q⟩ := h
    refine ⟨_, pss_one (ps_ret (pe_and (pe_callB call_isi (by rfl) B.isi (by decide +kernel) (pa_cons (pv 0) (pa_cons (pe_bltn (v := .ty "int") (by rfl) B.int (by decide +kernel) rfl) pa_nil)))
      (pe_one (pe_not (pe_callB call_isi (by rfl) B.isi (by decide +kernel) (pa_cons (pv 0) (pa_cons (pe_bltn (v := .ty "bool") (by rfl) B.bool (by decide +kernel) rfl) pa_nil))))))), ?_⟩
    cases v with
    | int i => exact ⟨_, rfl, _, _, _, _, _, rfl, .ty _, .base (.int i), kit_ty (b := "int") (r := true) (by decide +kernel), true, rfl, iteT ⟨_, rfl, _, _, _, _, _, rfl, .ty _, .base (.int i), kit_ty (b := "bool") (r := false) (by decide +kernel), false, rfl, q⟩⟩
    | bl i => exact ⟨_, rfl, _, _, _, _, _, rfl, .ty _, .base (.bl i), kit_ty (b := "int") (r := true) (by decide +kernel), true, rfl, iteT ⟨_, rfl, _, _, _, _, _, rfl, .ty _, .base (.bl i), kit_ty (b := "bool") (r := true) (by decide +kernel), true, rfl, q⟩⟩
    | _ => exact hv.elim
theorem ok_fromTo (F : Fun K "is_from_to" "is_from_to" sFromTo f fd) (G : Has P w K mg base CX0 1 "is_number" ["value"] spNum) : FnOk P w K mg base CX0 2 f fd ["value", "least", "most"] spFromTo := by
  refine F.ok scFromTo (fun vs H Q E h => ?_) (fun cdv A outer s H vs Q E hr h => ?_)
  · obtain ⟨v, lo, hi, rfl, _⟩ := h
    rfl
  · obtain ⟨v, lo, hi, rfl, hv, q⟩ := h
    refine ⟨_, pss_one (ps_ret (pe_and (pe_has G hr (by decide) pass0 (pa_cons (pv 0) pa_nil)) (pe_one (pe_chain op_le op_le (pv 1) (pv 0) (pv 2))))), ?_⟩
    refine ⟨v, rfl, v, rfl, hv, ?_⟩
    cases v with
    | int i =>
      refine ⟨true, rfl, iteT ?_⟩
      refine ⟨.int lo, rfl, .int i, rfl, lo, i, rfl, rfl, _, rfl, ite2 (fun h => ?_) fun h => ?_⟩
      · refine ⟨.int hi, rfl, i, hi, rfl, rfl, ?_⟩
        have q' : Q (.bl (decide (lo ≤ i) && decide (i ≤ hi))) H := q
        rw [h, Bool.true_and] at q'
        exact q'
      · have q' : Q (.bl (decide (lo ≤ i) && decide (i ≤ hi))) H := q
        rw [eq_false_of_ne_true h, Bool.false_and] at q'
        exact q'
    | bl i => exact ⟨false, rfl, iteF q⟩
    | _ => exact hv.elim
theorem ok_side (F : Fun K "is_side" "is_side" sSide f fd) (C : Cst mg) (G : Has P w K mg base CX0 2 "is_from_to" ["value", "least", "most"] spFromTo) : FnOk P w K mg base CX0 3 f fd ["value"] spSide := by
  refine F.ok scSide (fun vs H Q E h => ?_) (fun cdv A outer s H vs Q E hr h => ?_)
  · obtain ⟨v, rfl, _⟩ := h
    rfl
  · obtain ⟨v, rfl, hv, q⟩ := h
    obtain ⟨t, ht⟩ := C.side
    refine ⟨_, pss_one (ps_ret (pe_has G hr (by decide) pass0 (pa_cons (pv 0) (pa_cons pe_int (pa_cons (pe_glob (v := .int 4) (by rfl) ht ⟨_, rfl⟩) pa_nil))))), ?_⟩
    refine ⟨v, rfl, v, 1, 4, rfl, hv, ?_⟩
    cases v with
    | int i => exact q
    | bl i => exact q
    | _ => exact hv.elim
theorem ok_size (F : Fun K "is_size" "is_size" sSize f fd) (C : Cst mg) (G : Has P w K mg base CX0 3 "is_side" ["value"] spSide) : FnOk P w K mg base CX0 4 f fd ["width", "height"] spSize := by
  refine F.ok scSize (fun vs H Q E h => ?_) (fun cdv A outer s H vs Q E hr h => ?_)
  · obtain ⟨v, u, rfl, _⟩ := h
    rfl
  · obtain ⟨v, u, rfl, hv, hu, q⟩ := h
    obtain ⟨t, ht⟩ := C.cells
    refine ⟨_, pss_one (ps_ret (pe_and (pe_has G hr (by decide) pass0 (pa_cons (pv 0) pa_nil)) (pe_and (pe_has G hr (by decide) pass0 (pa_cons (pv 1) pa_nil))
      (pe_one (pe_cmpR op_le (pe_op op_mul (pv 0) (pv 1)) (pe_glob (v := .int 9) (by rfl) ht ⟨_, rfl⟩) (nomark _)))))), ?_⟩
    refine ⟨v, rfl, v, rfl, hv, _, rfl, ite2 (fun h => ?_) fun h => ?_⟩
    · refine ⟨u, rfl, u, rfl, hu, _, rfl, ite2 (fun h2 => ?_) fun h2 => ?_⟩
      · cases v with
        | int i =>
          cases u with
          | int j =>
            have h' := h
            unfold sideV at h'
            rw [Bool.and_eq_true, decide_eq_true_eq, decide_eq_true_eq] at h'
            refine ⟨.int i, rfl, .int j, rfl, i, j, rfl, rfl, .inl ⟨by omega, by omega⟩, i * j, 9, rfl, rfl, ?_⟩
            have e : sizeV (.int i) (.int j) = decide (i * j ≤ 9) := by unfold sizeV; rw [h, h2]; rfl
            rw [e] at q
            exact q
          | _ => cases h2
        | _ => cases h
      · have e : sizeV v u = false := by unfold sizeV; rw [eq_false_of_ne_true h2, Bool.false_and, Bool.and_false]
        rw [e] at q
        exact q
    · have e : sizeV v u = false := by unfold sizeV; rw [eq_false_of_ne_true h, Bool.false_and]
      rw [e] at q
      exact q
theorem lt_one (a b : Nat) : decide ([a] < [b]) = decide (a < b) := by
  refine decide_eq_decide.mpr ⟨fun q => ?_, fun h => List.Lex.rel h⟩
  cases q with
  | rel q => exact q
  | cons q => cases q
theorem sign_ok (c : Nat) : ((!decide ((⟨#[c]⟩ : Str).cps.toList < (Str.ofString "a").cps.toList)) && (!decide ((Str.ofString "z").cps.toList < (⟨#[c]⟩ : Str).cps.toList))) = signOk c := by
  have e1 : (Str.ofString "a").cps.toList = [97] := by decide +kernel
  have e2 : (Str.ofString "z").cps.toList = [122] := by decide +kernel
  rw [e1, e2]
  show ((!decide ([c] < [97])) && (!decide ([122] < [c]))) = signOk c
  rw [lt_one, lt_one]
  unfold signOk
  rw [← decide_not, ← decide_not]
  congr 1
  · exact decide_eq_decide.mpr Nat.not_lt
  · exact decide_eq_decide.mpr Nat.not_lt
theorem len_eq (z : Str) : z.cps.toList.length = z.length := Array.length_toList
theorem ok_sheet (F : Fun K "is_sheet" "is_sheet" sSheet f fd) (B : Blt mg) : FnOk P w K mg base CX0 1 f fd ["value", "cells"] spSheet := by
  refine F.ok scSheet (fun vs H Q E h => ?_) (fun cdv A outer s H vs Q E hr h => ?_)
  · obtain ⟨z, n, rfl, _⟩ := h
    rfl
  · obtain ⟨z, n, rfl, hz, q⟩ := h
    refine ⟨_, pss_cons (ps_if (PW.pt (pw_or (pt_not (pt_val (pe_callB call_isi (by rfl) B.isi (by decide +kernel) (pa_cons (pv 0) (pa_cons (pe_bltn (v := .ty "str") (by rfl) B.str (by decide +kernel) rfl) pa_nil)))))
        (pw_or1 (pt_cmpR op_ne (pe_callB call_len_str (by rfl) B.len PySem.boot_len (pa_cons (pv 0) pa_nil)) (pv 1) (nomark _))))) (pss_one (ps_ret pe_bl)) pss_nil)
      (pss_one (ps_ret (pe_callB (cr_all rfl) (by rfl) B.all (by decide +kernel) (pa_cons (pe_lc (own := [("sign", 2)]) (g := gName 2) (tt := tYes) rfl scSheet.nd (pi_str (pv 0)) (blkOk_by (N := ["value", "cells", "sign"]) (sc := defScope sSheet) (by decide +kernel))
        (fun _ _ _ _ _ => pg_name (i := 2) scSheet.nd rfl (Or.inl rfl)) (fun _ _ _ _ _ => pts_nil) (fun _ _ _ _ _ => pe_chain op_le_str op_le_str pe_str (pv 2) pe_str)) pa_nil)))), ?_⟩
    refine ⟨_, rfl, _, _, _, _, _, rfl, .ty _, .base (.str z), kit_ty (b := "str") (r := true) (by decide +kernel), true, rfl, iteF ?_⟩
    refine ⟨_, rfl, z, rfl, Nat.le_trans hz (by decide), .int n, rfl, rfl, _, rfl, ite2 (fun h => ?_) fun h => ?_⟩
    · have e : sheetOk z n = false := by
        unfold sheetOk
        rw [decide_eq_false, Bool.false_and]
        intro y
        rw [y] at h
        simp at h
      rw [e] at q
      exact q H (Same.refl H)
    · have hn : (z.length : Int) = n := by
        by_cases y : (z.length : Int) = n
        · exact y
        · exfalso
          apply h
          rw [decide_eq_false (fun w => y (V.int.inj w))]
          rfl
      refine ⟨_, rfl, z, rfl, fun D hD => lc_of (over_str z) (fun i acc H2 => acc = (z.cps.toList.take i).map (fun c => V.bl (signOk c)) ∧ Same H H2) (by rw [signs_len]; omega) ⟨rfl, same_new hD⟩ (fun _ _ _ _ => trivial) (fun i x acc H2 Nx hx hP hD2 kN kS => ?_) fun acc H2 _ hP hD2 => ?_⟩
      · obtain ⟨rfl, hs⟩ := hP
        obtain ⟨c, hc, rfl⟩ : ∃ c, z.cps.toList[i]? = some c ∧ x = .str ⟨#[c]⟩ := by
          unfold signs at hx
          rw [List.getElem?_map] at hx
          cases e : z.cps.toList[i]? with
          | none => rw [e] at hx; cases hx
          | some c => rw [e] at hx; exact ⟨c, rfl, (Option.some.inj hx).symm⟩
        have fin : ∃ acc, H2 D = some (.lst acc) ∧ acc.length < sizeLine ∧ Nx (upd H2 D (.lst (acc ++ [.bl (signOk c)]))) := by
          refine kN _ _ hD2 ⟨?_, fun b o e => ?_⟩
          · rw [List.take_add_one, hc, List.map_append]
            rfl
          · rw [upd_ne (ne_of_none e hD)]
            exact hs b o e
        have e := sign_ok c
        refine ⟨rfl, iteT (B := Nx H2) ⟨_, rfl, _, _, rfl, rfl, _, rfl, ite2 (fun h1 => ?_) fun h1 => ?_⟩⟩
        · refine ⟨_, _, rfl, rfl, ?_⟩
          rw [h1, Bool.true_and] at e
          rw [e]
          exact fin
        · rw [eq_false_of_ne_true h1, Bool.false_and] at e
          rw [e]
          exact fin
      · obtain ⟨rfl, hs⟩ := hP
        refine ⟨D, z.cps.toList.map signOk, rfl, .inl (.inl ?_), ?_⟩
        · rw [hD2, signs_len, ← len_eq, List.take_length, List.map_map]
          rfl
        · have e : sheetOk z n = (z.cps.toList.map signOk).all id := by
            unfold sheetOk
            rw [decide_eq_true hn, Bool.true_and, List.all_map]
            rfl
          rw [← e]
          exact q H2 hs
theorem ok_sheets (F : Fun K "are_sheets" "are_sheets" sSheets f fd) (B : Blt mg) (C : Cst mg) (G : Has P w K mg base CX0 1 "is_sheet" ["value", "cells"] spSheet) : FnOk P w K mg base CX0 2 f fd ["value", "cells"] (spSheets K) := by
  refine F.ok scSheets (fun vs H Q E h => ?_) (fun cdv A outer s H vs Q E hr h => ?_)
  · obtain ⟨t, l, n, rfl, _⟩ := h
    rfl
  · obtain ⟨t, l, n, rfl, hT, hz, hlen, q⟩ := h
    obtain ⟨tk, ht⟩ := C.sheets
    refine ⟨_, pss_cons (ps_if (PW.pt (pw_or (pt_not (pt_val (pe_callB call_isi (by rfl) B.isi (by decide +kernel) (pa_cons (pv 0) (pa_cons (pe_bltn (v := .ty "tuple") (by rfl) B.tup (by decide +kernel) rfl) pa_nil)))))
        (pw_or1 (pt_not (pt_chain op_le op_le pe_int (pe_callB call_len_seq (by rfl) B.len PySem.boot_len (pa_cons (pv 0) pa_nil)) (pe_glob (v := .int 4) (by rfl) ht ⟨_, rfl⟩)))))) (pss_one (ps_ret pe_bl)) pss_nil)
      (pss_one (ps_ret (pe_callB (cr_all rfl) (by rfl) B.all (by decide +kernel) (pa_cons (pe_lc (own := [("sheet", 2)]) (g := gName 2) (tt := tYes) rfl scSheets.nd (pi_tup (pv 0)) (blkOk_by (N := ["value", "cells", "sheet"]) (sc := defScope sSheets) (by decide +kernel))
        (fun _ _ _ _ _ => pg_name (i := 2) scSheets.nd rfl (Or.inl rfl)) (fun _ _ _ _ _ => pts_nil) (fun _ _ _ _ _ => pe_has G hr (by decide) pass0 (pa_cons (pv 2) (pa_cons (pv 1) pa_nil)))) pa_nil)))), ?_⟩
    refine ⟨_, rfl, _, _, _, _, _, rfl, .ty _, .base (.tup hT), kit_ty (b := "tuple") (r := true) (by decide +kernel), true, rfl, iteF ?_⟩
    have go : decide (1 ≤ l.length) = true → decide (l.length ≤ 4) = true → ∀ H' , Same H H' → Q (.bl (l.all fun z => sheetOk z n)) H' := fun a b H' hs => by
      have e : sheetsOk l n = l.all fun z => sheetOk z n := by
        unfold sheetsOk
        rw [a, b, Bool.true_and, Bool.true_and]
      rw [← e]
      exact q H' hs
    have no : ¬ (decide (1 ≤ l.length) = true ∧ decide (l.length ≤ 4) = true) → Q (.bl false) H := fun a => by
      have e : sheetsOk l n = false := by
        unfold sheetsOk
        cases c1 : decide (1 ≤ l.length) with
        | false => rfl
        | true =>
          cases c2 : decide (l.length ≤ 4) with
          | false => rfl
          | true => exact absurd ⟨c1, c2⟩ a
      rw [← e]
      exact q H (Same.refl H)
    have el : (l.map V.str).length = l.length := List.length_map ..
    refine ⟨_, rfl, t, l.map V.str, rfl, .inr (SqT.of hT), 1, ((l.map V.str).length : Int), rfl, rfl, _, rfl, ?_⟩
    rw [el]
    refine ite2 (fun h1 => ?_) fun h1 => ⟨false, rfl, iteT (no fun a => h1 (decide_eq_true (by have := of_decide_eq_true a.1; omega)))⟩
    refine ⟨(l.length : Int), 4, rfl, rfl, _, rfl, ?_⟩
    have h1' : decide (1 ≤ l.length) = true := decide_eq_true (by have := of_decide_eq_true h1; omega)
    show if (!decide ((l.length : Int) ≤ 4)) = true then _ else _
    cases h2 : decide ((l.length : Int) ≤ 4) with
    | false => exact iteT (no fun a => by
        have := of_decide_eq_false h2
        have := of_decide_eq_true a.2
        omega)
    | true =>
      have h2' : decide (l.length ≤ 4) = true := decide_eq_true (by have := of_decide_eq_true h2; omega)
      refine iteF ?_
      refine ⟨_, rfl, t, rfl, ⟨_, SqT.of hT⟩, fun D hD => lc_of (over_tup t (l.map V.str)) (fun i acc H2 => acc = (l.take i).map (fun z => V.bl (sheetOk z n)) ∧ Same H H2) (by omega) ⟨rfl, same_new hD⟩ (fun i acc H2 hP => SqT.of (hP.2 _ _ hT)) (fun i x acc H2 Nx hx hP hD2 kN kS => ?_) fun acc H2 _ hP hD2 => ?_⟩
      · obtain ⟨rfl, hs⟩ := hP
        obtain ⟨z, hc, rfl⟩ : ∃ z, l[i]? = some z ∧ x = .str z := by
          rw [List.getElem?_map] at hx
          cases e : l[i]? with
          | none => rw [e] at hx; cases hx
          | some c => rw [e] at hx; exact ⟨c, rfl, (Option.some.inj hx).symm⟩
        refine ⟨rfl, iteT (B := Nx H2) ⟨_, rfl, .int n, rfl, z, n, rfl, hz z (List.mem_of_getElem? hc), fun H3 s3 => kN _ _ (s3 _ _ hD2) ⟨?_, fun b o e => ?_⟩⟩⟩
        · rw [List.take_add_one, hc, List.map_append]
          rfl
        · rw [upd_ne (ne_of_none e hD)]
          exact s3 _ _ (hs b o e)
      · obtain ⟨rfl, hs⟩ := hP
        refine ⟨D, l.map fun z => sheetOk z n, rfl, .inl (.inl ?_), ?_⟩
        · rw [hD2, el, List.take_length, List.map_map]
          rfl
        · have e : (l.all fun z => sheetOk z n) = (l.map fun z => sheetOk z n).all id := by
            rw [List.all_map]
            rfl
          rw [← e]
          exact go h1' h2' H2 hs
end
end Kn

namespace Kn
open PySem PySem.Spec L2 Kw
theorem scWrong : FnScope ["width", "height", "sheets"] ["width", "height", "sheets"] (defScope sWrong) := ⟨rfl, rfl, rfl, by decide +kernel, rfl, by decide +kernel, by decide +kernel⟩
theorem scInit : FnScope ["self", "width", "height", "sheets", "part"] ["self", "width", "height", "sheets"] (defScope sInit) := ⟨rfl, rfl, rfl, by decide +kernel, rfl, by decide +kernel, by decide +kernel⟩
theorem scW : FnScope ["self"] ["self"] (defScope sW) := ⟨rfl, rfl, rfl, by decide +kernel, rfl, by decide +kernel, by decide +kernel⟩
theorem scH : FnScope ["self"] ["self"] (defScope sH) := ⟨rfl, rfl, rfl, by decide +kernel, rfl, by decide +kernel, by decide +kernel⟩
theorem scS : FnScope ["self"] ["self"] (defScope sS) := ⟨rfl, rfl, rfl, by decide +kernel, rfl, by decide +kernel, by decide +kernel⟩
theorem scC : FnScope ["self"] ["self"] (defScope sC) := ⟨rfl, rfl, rfl, by decide +kernel, rfl, by decide +kernel, by decide +kernel⟩
theorem scLen : FnScope ["self"] ["self"] (defScope sLen) := ⟨rfl, rfl, rfl, by decide +kernel, rfl, by decide +kernel, by decide +kernel⟩
theorem scEq : FnScope ["self", "other"] ["self", "other"] (defScope sEq) := ⟨rfl, rfl, rfl, by decide +kernel, rfl, by decide +kernel, by decide +kernel⟩
/-! ### what is wrong with the parts -/
def wrongV (v u : V) (l : List Str) : Option Str := if sideV v = true then (if sizeV v u = true then (if sheetsOk l (valI v * valI u) = true then none else some "sheets") else some "height") else some "width"
def optV : Option Str → V
  | none => .non
  | some z => .str z
/-- sheets as they are handed in -/
structure Given (H : Hp) (t : Addr) (l : List Str) : Prop where
  at_ : H t = some (.tup (l.map V.str))
  small : ∀ z ∈ l, z.length ≤ 1000
  few : l.length ≤ 1000
  okc : ∀ z ∈ l, PyData.strOk z = true
theorem Given.same {H H' : Hp} {t : Addr} {l : List Str} (g : Given H t l) (s : Same H H') : Given H' t l := ⟨s _ _ g.at_, g.small, g.few, g.okc⟩
def spWrong : Sp := fun vs H Q _ => ∃ v u t l, vs = [v, u, .ref t] ∧ NumLike v ∧ NumLike u ∧ Given H t l ∧ ∀ H', Same H H' → Q (optV (wrongV v u l)) H'
/-- the fields of a packet -/
def pf (v u : V) (t : Addr) : List (Str × V) := [("_width", v), ("_height", u), ("_sheets", .ref t)]
theorem pf_put (v u : V) (t : Addr) : putF "_sheets" (.ref t) (putF "_height" u (putF "_width" v [])) = pf v u t := by
  have n1 : ("_width" : Str) ≠ "_height" := by decide +kernel
  have n2 : ("_width" : Str) ≠ "_sheets" := by decide +kernel
  have n3 : ("_height" : Str) ≠ "_sheets" := by decide +kernel
  simp only [putF, if_neg n1, if_neg n2, if_neg n3]
  rfl
theorem pf_w (v u : V) (t : Addr) : List.lookup ("_width" : Str) (pf v u t) = some v := by unfold pf; simp [List.lookup]
theorem pf_h (v u : V) (t : Addr) : List.lookup ("_height" : Str) (pf v u t) = some u := by
  have e : (Str.ofString "_height" == Str.ofString "_width") = false := by decide +kernel
  unfold pf
  simp [List.lookup, e]
theorem pf_s (v u : V) (t : Addr) : List.lookup ("_sheets" : Str) (pf v u t) = some (V.ref t) := by
  have e : (Str.ofString "_sheets" == Str.ofString "_width") = false := by decide +kernel
  have e2 : (Str.ofString "_sheets" == Str.ofString "_height") = false := by decide +kernel
  unfold pf
  simp [List.lookup, e, e2]
structure Pk (H : Hp) (C a dx : Addr) (w h : Int) (t : Addr) (l : List Str) : Prop where
  at_ : H a = some (.ins C dx (pf (.int w) (.int h) t))
  giv : Given H t l
/-- what the written part says of the class Packet -/
structure PkC (K : PySem.W.Frag) (mg : Str → Option Value) (C : Addr) : Prop where
  g : mg "Packet" = some (.ref C)
  cl : Cls K C
  nw : NoAttr K C "_width"
  nh : NoAttr K C "_height"
  ns : NoAttr K C "_sheets"
  ca : PySem.W.findIn K (.ref C) "__class__" = some (some (.builtin "object.__class__"))
  cg : PySem.W.specialIn K (.builtin "object.__class__") "__get__" = some (some (.builtin "getset_descriptor.__get__"))
  ct : PySem.W.takesIn K (.builtin "object.__class__") = some true
  mo : PySem.W.mroIn K C (.type "object") = some true
  me : PySem.W.kitOne K (.ref C) (.ref C) = some true
section
variable {P : Program} {w : World} {K : PySem.W.Frag} {mg : Str → Option Value} {base : Heap} {f : Addr} {fd : FuncData}
theorem ok_wrong (F : Fun K "wrong_part" "wrong_part" sWrong f fd) (G1 : Has P w K mg base CX0 3 "is_side" ["value"] spSide) (G2 : Has P w K mg base CX0 4 "is_size" ["width", "height"] spSize)
    (G3 : Has P w K mg base CX0 2 "are_sheets" ["value", "cells"] (spSheets K)) : FnOk P w K mg base CX0 5 f fd ["width", "height", "sheets"] spWrong := by
  refine F.ok scWrong (fun vs H Q E h => ?_) (fun cdv A outer s H vs Q E hr h => ?_)
  · obtain ⟨v, u, t, l, rfl, _⟩ := h
    rfl
  · obtain ⟨v, u, t, l, rfl, hv, hu, g, q⟩ := h
    refine ⟨_, pss_cons (ps_if (pt_not (pt_val (pe_has G1 hr (by decide) pass0 (pa_cons (pv 0) pa_nil)))) (pss_one (ps_ret pe_str)) pss_nil)
      (pss_cons (ps_if (pt_not (pt_val (pe_has G2 hr (by decide) pass0 (pa_cons (pv 0) (pa_cons (pv 1) pa_nil))))) (pss_one (ps_ret pe_str)) pss_nil)
      (pss_cons (ps_if (pt_not (pt_val (pe_has G3 hr (by decide) pass0 (pa_cons (pv 2) (pa_cons (pe_op op_mul (pv 0) (pv 1)) pa_nil))))) (pss_one (ps_ret pe_str)) pss_nil)
      (pss_one (ps_ret pe_non)))), ?_⟩
    refine ⟨v, rfl, v, rfl, hv, _, rfl, ?_⟩
    cases c1 : sideV v with
    | false =>
      have e : wrongV v u l = some "width" := by unfold wrongV; rw [c1]; rfl
      rw [e] at q
      exact iteT (q H (Same.refl H))
    | true =>
      refine iteF ⟨v, rfl, u, rfl, v, u, rfl, hv, hu, _, rfl, ?_⟩
      cases c2 : sizeV v u with
      | false =>
        have e : wrongV v u l = some "height" := by unfold wrongV; rw [c1, c2]; rfl
        rw [e] at q
        exact iteT (q H (Same.refl H))
      | true =>
        cases v with
        | int i =>
          cases u with
          | int j =>
            have c1' : (decide (1 ≤ i) && decide (i ≤ 4)) = true := c1
            rw [Bool.and_eq_true, decide_eq_true_eq, decide_eq_true_eq] at c1'
            refine iteF ⟨.ref t, rfl, .int i, rfl, .int j, rfl, i, j, rfl, rfl, .inl ⟨by omega, by omega⟩, t, l, i * j, rfl, g.at_, g.small, g.few, fun H' s' => ⟨_, rfl, ?_⟩⟩
            cases c3 : sheetsOk l (i * j) with
            | false =>
              have e : wrongV (.int i) (.int j) l = some "sheets" := by unfold wrongV; rw [c1, c2]; show (if (sheetsOk l (i * j) = true) then _ else _) = _; rw [c3]; rfl
              rw [e] at q
              exact iteT (q H' s')
            | true =>
              have e : wrongV (.int i) (.int j) l = none := by unfold wrongV; rw [c1, c2]; show (if (sheetsOk l (i * j) = true) then _ else _) = _; rw [c3]; rfl
              rw [e] at q
              exact iteF (q H' s')
          | _ =>
            unfold sizeV sideV at c2
            simp at c2
        | _ =>
          unfold sideV at c1
          cases c1
/-- Packet(..): the new instance is filled, or InvalidPacket leaves -/
def spInit (C CP : Addr) : Sp := fun vs H Q E => ∃ x dx v u t l, vs = [.ref x, v, u, .ref t] ∧ H x = some (.ins C dx []) ∧ NumLike v ∧ NumLike u ∧ Given H t l ∧
  (wrongV v u l = none → ∀ H', (∀ b o, b ≠ x → H b = some o → H' b = some o) → H' x = some (.ins C dx (pf v u t)) → Q .non H') ∧
  ∀ z, wrongV v u l = some z → ∀ d H', Same H H' → H d = none → H' d = some (.xd [(Xp.F1, .str z)]) → E (.ref CP) (some d) H'
theorem wrong_small {v u : V} {l : List Str} {z : Str} (h : wrongV v u l = some z) : z.length ≤ 1000 := by
  unfold wrongV at h
  split at h
  · split at h
    · split at h
      · cases h
      · cases h
        decide +kernel
    · cases h
      decide +kernel
  · cases h
    decide +kernel
theorem ok_init {C CP fP : Addr} (F : Fun K "__init__" "Packet.__init__" sInit f fd) (T : PkC K mg C) (TP : Xp.PTxt P K mg "InvalidPacket" CP fP) (G : Has P w K mg base CX0 5 "wrong_part" ["width", "height", "sheets"] spWrong) :
    FnOk P w K mg base (L2.CX P w) 6 f fd ["self", "width", "height", "sheets"] (spInit C CP) := by
  refine F.okX scInit (fun vs H Q E h => ?_) (fun cdv A outer s H vs Q E hr h => ?_)
  · obtain ⟨x, dx, v, u, t, l, rfl, _⟩ := h
    rfl
  · obtain ⟨x, dx, v, u, t, l, rfl, hx, hv, hu, g, q, e⟩ := h
    refine ⟨_, pss_cons (ps_set (i := 4) scInit.nd rfl (Or.inl rfl) (pe_has G hr (by decide) pass0 (pa_cons (pv 1) (pa_cons (pv 2) (pa_cons (pv 3) pa_nil)))))
      (pss_cons (ps_if (pt_cmpR op_notN (pv 4) pe_non (nomark _)) (pss_one (ps_raisePart (W := fun cls d _ H => E cls d H) rfl TP hr (takes_of rfl rfl rfl rfl) (by exact (pa_cons (pv 4) pa_nil)))) pss_nil)
      (pss_cons (ps_fld (pv 0) (pv 1) rfl) (pss_cons (ps_fld (pv 0) (pv 2) rfl) (pss_one (ps_fld (pv 0) (pv 3) rfl))))), ?_⟩
    refine ⟨v, rfl, u, rfl, .ref t, rfl, v, u, t, l, rfl, hv, hu, g, fun H1 s1 => ?_⟩
    refine ⟨_, rfl, rfl, _, rfl, ?_⟩
    cases c : wrongV v u l with
    | some z =>
      refine iteT ⟨_, rfl, .str z, rfl, wrong_small c, fun d hd => e z c d _ (fun b o h => ?_) (s1.free hd) upd_same⟩
      rw [upd_ne (ne_of_none (s1 _ _ h) hd)]
      exact s1 _ _ h
    | none =>
      refine iteF ?_
      refine ⟨v, rfl, _, rfl, x, C, dx, [], rfl, s1 _ _ hx, T.cl, T.nw, by decide, ?_⟩
      refine ⟨u, rfl, _, rfl, x, C, dx, _, rfl, upd_same, T.cl, T.nh, by show 1 < 1000; decide, ?_⟩
      refine ⟨.ref t, rfl, _, rfl, x, C, dx, _, rfl, upd_same, T.cl, T.ns, ?_, ?_⟩
      · have n1 : ("_width" : Str) ≠ "_height" := by decide +kernel
        simp only [putF, if_neg n1]
        show 2 < 1000
        decide
      · refine q c _ (fun b o hb h => ?_) ?_
        · rw [upd_ne hb, upd_ne hb, upd_ne hb]
          exact s1 _ _ h
        · rw [upd_same, pf_put]
/-! ### what a packet tells -/
def spW (C : Addr) : Sp := fun vs H Q _ => ∃ a dx w h t l, vs = [.ref a] ∧ Pk H C a dx w h t l ∧ Q (.int w) H
def spH (C : Addr) : Sp := fun vs H Q _ => ∃ a dx w h t l, vs = [.ref a] ∧ Pk H C a dx w h t l ∧ Q (.int h) H
def spS (C : Addr) : Sp := fun vs H Q _ => ∃ a dx w h t l, vs = [.ref a] ∧ Pk H C a dx w h t l ∧ Q (.ref t) H
def spC (C : Addr) : Sp := fun vs H Q _ => ∃ a dx w h t l, vs = [.ref a] ∧ Pk H C a dx w h t l ∧ -100 < w ∧ w < 100 ∧ Q (.int (w * h)) H
def spLen (C : Addr) : Sp := fun vs H Q _ => ∃ a dx w h t l, vs = [.ref a] ∧ Pk H C a dx w h t l ∧ Q (.int l.length) H
def spEqP (C : Addr) : Sp := fun vs H Q _ => ∃ a dx w h t l b dy w' h' t' l', vs = [.ref a, .ref b] ∧ Pk H C a dx w h t l ∧ Pk H C b dy w' h' t' l' ∧ Q (.bl (decide (w = w') && (decide (h = h') && decide (l = l')))) H
theorem ok_w {C : Addr} (F : Fun K "width" "Packet.width" sW f fd) (T : PkC K mg C) : FnOk P w K mg base CX0 1 f fd ["self"] (spW C) := by
  refine F.ok scW (fun vs H Q E h => ?_) (fun cdv A outer s H vs Q E hr h => ?_)
  · obtain ⟨a, dx, w, h, t, l, rfl, _⟩ := h
    rfl
  · obtain ⟨a, dx, w, h, t, l, rfl, p, q⟩ := h
    exact ⟨_, pss_one (ps_ret (pe_fld (pv 0) rfl)), _, rfl, a, C, dx, _, _, rfl, p.at_, T.cl, T.nw, pf_w _ _ _, q⟩
theorem ok_h {C : Addr} (F : Fun K "height" "Packet.height" sH f fd) (T : PkC K mg C) : FnOk P w K mg base CX0 1 f fd ["self"] (spH C) := by
  refine F.ok scH (fun vs H Q E h => ?_) (fun cdv A outer s H vs Q E hr h => ?_)
  · obtain ⟨a, dx, w, h, t, l, rfl, _⟩ := h
    rfl
  · obtain ⟨a, dx, w, h, t, l, rfl, p, q⟩ := h
    exact ⟨_, pss_one (ps_ret (pe_fld (pv 0) rfl)), _, rfl, a, C, dx, _, _, rfl, p.at_, T.cl, T.nh, pf_h _ _ _, q⟩
theorem ok_s {C : Addr} (F : Fun K "sheets" "Packet.sheets" sS f fd) (T : PkC K mg C) : FnOk P w K mg base CX0 1 f fd ["self"] (spS C) := by
  refine F.ok scS (fun vs H Q E h => ?_) (fun cdv A outer s H vs Q E hr h => ?_)
  · obtain ⟨a, dx, w, h, t, l, rfl, _⟩ := h
    rfl
  · obtain ⟨a, dx, w, h, t, l, rfl, p, q⟩ := h
    exact ⟨_, pss_one (ps_ret (pe_fld (pv 0) rfl)), _, rfl, a, C, dx, _, _, rfl, p.at_, T.cl, T.ns, pf_s _ _ _, q⟩
theorem ok_c {C : Addr} (F : Fun K "cells" "Packet.cells" sC f fd) (T : PkC K mg C) : FnOk P w K mg base CX0 1 f fd ["self"] (spC C) := by
  refine F.ok scC (fun vs H Q E h => ?_) (fun cdv A outer s H vs Q E hr h => ?_)
  · obtain ⟨a, dx, w, h, t, l, rfl, _⟩ := h
    rfl
  · obtain ⟨a, dx, w, h, t, l, rfl, p, h0, h1, q⟩ := h
    exact ⟨_, pss_one (ps_ret (pe_op op_mul (pe_fld (pv 0) rfl) (pe_fld (pv 0) rfl))), _, rfl, a, C, dx, _, _, rfl, p.at_, T.cl, T.nw, pf_w _ _ _, _, rfl, a, C, dx, _, _, rfl, p.at_, T.cl, T.nh, pf_h _ _ _, w, h, rfl, rfl, .inl ⟨by omega, by omega⟩, q⟩
theorem ok_len {C : Addr} (F : Fun K "__len__" "Packet.__len__" sLen f fd) (T : PkC K mg C) (B : Blt mg) : FnOk P w K mg base CX0 1 f fd ["self"] (spLen C) := by
  refine F.ok scLen (fun vs H Q E h => ?_) (fun cdv A outer s H vs Q E hr h => ?_)
  · obtain ⟨a, dx, w, h, t, l, rfl, _⟩ := h
    rfl
  · obtain ⟨a, dx, w, h, t, l, rfl, p, q⟩ := h
    refine ⟨_, pss_one (ps_ret (pe_callB call_len_seq (by rfl) B.len PySem.boot_len (pa_cons (pe_fld (pv 0) rfl) pa_nil))), _, rfl, a, C, dx, _, _, rfl, p.at_, T.cl, T.ns, pf_s _ _ _, t, l.map V.str, rfl, .inr (SqT.of p.giv.at_), ?_⟩
    rw [List.length_map]
    exact q
/-! ### data -/
theorem lay_texts : ∀ l : List Str, (∀ z ∈ l, PyData.strOk z = true) → PyData.canLayAll0 (l.map PyData.str) = true ∧ PyData.depthAll (l.map PyData.str) = 0
  | [], _ => by simp [PyData.canLayAll0, PyData.depthAll]
  | z :: l, k => by
    have h := lay_texts l fun y hy => k y (List.mem_cons_of_mem _ hy)
    simp [PyData.canLayAll0, PyData.canLay0, PyData.depthAll, PyData.depth, h.1, h.2, k z List.mem_cons_self]
theorem shaped_texts (l : List Str) (k : ∀ z ∈ l, PyData.strOk z = true) : SeqAt.shaped (.tuple (l.map PyData.str)) = true := by
  have h := lay_texts l k
  simp [SeqAt.shaped, PyData.canLay0, PyData.depth, h.1, h.2]
theorem dp_texts {K : PySem.W.Frag} {H : Hp} : ∀ l : List Str, DpAll K H (l.map V.str) (l.map PyData.str)
  | [] => .nil
  | z :: l => .cons (.str z) (dp_texts l)
theorem eqv_texts : ∀ l l' : List Str, PyData.eqvAll (l.map PyData.str) (l'.map PyData.str) = decide (l = l')
  | [], [] => by simp [PyData.eqvAll]
  | [], _ :: _ => by simp [PyData.eqvAll]
  | _ :: _, [] => by simp [PyData.eqvAll]
  | z :: l, z' :: l' => by
    have h := eqv_texts l l'
    simp only [List.map_cons, PyData.eqvAll, PyData.eqv, h]
    by_cases e : z = z'
    · subst e
      simp
    · simp [e]
theorem eqv_tuple (l l' : List Str) : PyData.eqv (.tuple (l.map PyData.str)) (.tuple (l'.map PyData.str)) = decide (l = l') := by
  rw [← eqv_texts]
  simp [PyData.eqv]
theorem ok_eq {C : Addr} (F : Fun K "__eq__" "Packet.__eq__" sEq f fd) (T : PkC K mg C) (B : Blt mg) : FnOk P w K mg base CX0 1 f fd ["self", "other"] (spEqP C) := by
  refine F.ok scEq (fun vs H Q E h => ?_) (fun cdv A outer s H vs Q E hr h => ?_)
  · obtain ⟨a, dx, w, h, t, l, b, dy, w', h', t', l', rfl, _⟩ := h
    rfl
  · obtain ⟨a, dx, w, h, t, l, b, dy, w', h', t', l', rfl, p, p', q⟩ := h
    refine ⟨_, pss_one (ps_ret (pe_and (pe_callB call_isi (by rfl) B.isi (by decide +kernel) (pa_cons (pv 1) (pa_cons (pe_glob (v := .ref C) (by rfl) T.g rfl) pa_nil)))
      (pe_and (pe_cmpR op_eq (pe_fld (pv 0) rfl) (pe_fld (pv 1) rfl) (nomark _)) (pe_and (pe_cmpR op_eq (pe_fld (pv 0) rfl) (pe_fld (pv 1) rfl) (nomark _))
      (pe_one (pe_cmpR (op_eqD hr.units) (pe_fld (pv 0) rfl) (pe_fld (pv 1) rfl) (nomark _))))))), ?_⟩
    refine ⟨_, rfl, .ref b, .ref C, _, _, true, rfl, .own C, .base (.ins p'.at_ T.cl T.ca T.cg T.ct T.mo), T.me, true, rfl, iteT ?_⟩
    refine ⟨_, rfl, a, C, dx, _, _, rfl, p.at_, T.cl, T.nw, pf_w _ _ _, _, rfl, b, C, dy, _, _, rfl, p'.at_, T.cl, T.nw, pf_w _ _ _, rfl, _, rfl, ?_⟩
    have e1 : decide (V.int w = V.int w') = decide (w = w') := by simp
    have e2 : decide (V.int h = V.int h') = decide (h = h') := by simp
    rw [e1]
    cases c1 : decide (w = w') with
    | false =>
      rw [c1] at q
      exact iteF q
    | true =>
      rw [c1, Bool.true_and] at q
      refine iteT ⟨_, rfl, a, C, dx, _, _, rfl, p.at_, T.cl, T.nh, pf_h _ _ _, _, rfl, b, C, dy, _, _, rfl, p'.at_, T.cl, T.nh, pf_h _ _ _, rfl, _, rfl, ?_⟩
      rw [e2]
      cases c2 : decide (h = h') with
      | false =>
        rw [c2] at q
        exact iteF q
      | true =>
        rw [c2, Bool.true_and] at q
        refine iteT ⟨_, rfl, a, C, dx, _, _, rfl, p.at_, T.cl, T.ns, pf_s _ _ _, _, rfl, b, C, dy, _, _, rfl, p'.at_, T.cl, T.ns, pf_s _ _ _,
          .tuple (l.map PyData.str), .tuple (l'.map PyData.str), .tup (SqT.of p.giv.at_) (dp_texts l), .tup (SqT.of p'.giv.at_) (dp_texts l'), shaped_texts l p.giv.okc, shaped_texts l' p'.giv.okc, ?_⟩
        rw [eqv_tuple]
        exact q
end
end Kn

namespace Kn
open PySem PySem.Spec L2 Kw
theorem scTaken : FnScope ["_law_row", "_law_many", "_law_found", "_law_cell"] ["_law_row", "_law_many"] (defScope sTaken) := ⟨rfl, rfl, rfl, by decide +kernel, rfl, by decide +kernel, by decide +kernel⟩
/-- the list at scr is a part of the text's own state -/
def Wr (K : PySem.W.Frag) (scr : Addr) (xs : List V) : Prop := ∃ (o : Obj) (its : Array Value) (n : Nat), K.lookup scr = some o ∧ o.cls = .type "list" ∧ o.dict = none ∧ o.data = .seq its n ∧ its.size ≤ sizeLine ∧ Vals xs its.toList
/-- the reader at r of the script at scr -/
structure RowAt (K : PySem.W.Frag) (H : Hp) (r scr : Addr) (ns : List Int) : Prop where
  ex : ∃ i seed rest : Int, H r = some (.lst [.ref scr, .int i, .int seed, .int rest]) ∧ 0 ≤ i ∧ 0 ≤ seed ∧ seed < 2147483647 ∧ 0 ≤ rest
  src : (scr ≠ r ∧ Rd H scr (.lst (ns.map V.int))) ∨ Wr K scr (ns.map V.int)
  few : ns.length ≤ 63
theorem RowAt.scr {K : PySem.W.Frag} {H : Hp} {r scr : Addr} {ns : List Int} (a : RowAt K H r scr ns) : SqL K H scr (ns.map V.int) := a.src.elim (fun h => .inl h.2) .inr
/-- all that was tracked is as it was, but what stands at r -/
def But (r : Addr) (H H' : Hp) : Prop := ∀ b o, b ≠ r → H b = some o → H' b = some o
theorem But.refl (r : Addr) (H : Hp) : But r H H := fun _ _ _ h => h
theorem But.trans {r : Addr} {H H1 H2 : Hp} (a : But r H H1) (b : But r H1 H2) : But r H H2 := fun c o n h => b c o n (a c o n h)
theorem But.of {r : Addr} {H H' : Hp} (s : Same H H') : But r H H' := fun c o _ h => s c o h
theorem But.upd {r : Addr} {H H' : Hp} {o : HO} (b : But r H H') : But r H (upd H' r o) := fun c u n h => by
  rw [upd_ne n]
  exact b c u n h
theorem But.new {r p : Addr} {H H' : Hp} {o : HO} (b : But r H H') (hp : H p = none) : But r H (L2.upd H' p o) := fun c u n h => by
  rw [upd_ne (ne_of_none h hp)]
  exact b c u n h
theorem But.seq {K : PySem.W.Frag} {r a : Addr} {H H' : Hp} {xs : List V} (b : But r H H') (n : a ≠ r) (h : SqL K H a xs) : SqL K H' a xs := by
  rcases h with (h | ⟨o, h⟩) | h
  · exact .inl (.inl (b _ _ n h))
  · exact .inl (.inr ⟨o, b _ _ n h⟩)
  · exact .inr h
theorem But.tup {K : PySem.W.Frag} {r a : Addr} {H H' : Hp} {xs : List V} (b : But r H H') (n : a ≠ r) (h : SqT K H a xs) : SqT K H' a xs := by
  rcases h with (h | ⟨o, h⟩) | h
  · exact .inl (.inl (b _ _ n h))
  · exact .inl (.inr ⟨o, b _ _ n h⟩)
  · exact .inr h
theorem RowAt.srcB {K : PySem.W.Frag} {H H' : Hp} {r scr : Addr} {ns : List Int} (a : RowAt K H r scr ns) (b : But r H H') : (scr ≠ r ∧ Rd H' scr (.lst (ns.map V.int))) ∨ Wr K scr (ns.map V.int) :=
  a.src.elim (fun h => .inl ⟨h.1, h.2.elim (fun x => .inl (b _ _ h.1 x)) fun ⟨o, x⟩ => .inr ⟨o, b _ _ h.1 x⟩⟩) .inr
theorem RowAt.same {K : PySem.W.Frag} {H H' : Hp} {r scr : Addr} {ns : List Int} (a : RowAt K H r scr ns) (s : Same H H') : RowAt K H' r scr ns := by
  obtain ⟨i, seed, rest, h, b⟩ := a.ex
  exact ⟨⟨i, seed, rest, s _ _ h, b⟩, a.srcB (But.of s), a.few⟩
theorem RowAt.put {K : PySem.W.Frag} {H : Hp} {r scr : Addr} {ns : List Int} {i seed rest : Int} (a : RowAt K H r scr ns) (h0 : 0 ≤ i) (h1 : 0 ≤ seed) (h2 : seed < 2147483647) (h3 : 0 ≤ rest) :
    RowAt K (upd H r (.lst [.ref scr, .int i, .int seed, .int rest])) r scr ns :=
  ⟨⟨i, seed, rest, upd_same, h0, h1, h2, h3⟩, a.srcB (But.upd (But.refl r H)), a.few⟩
/-- what came behind the reader may change -/
theorem RowAt.late {K : PySem.W.Frag} {H0 H : Hp} {r scr D : Addr} {ns : List Int} {o : HO} (a0 : RowAt K H0 r scr ns) (hD : H0 D = none) (n : D ≠ r) (a : RowAt K H r scr ns) : RowAt K (upd H D o) r scr ns := by
  obtain ⟨i, seed, rest, hr, b⟩ := a.ex
  refine ⟨⟨i, seed, rest, by rw [upd_ne n.symm]; exact hr, b⟩, ?_, a.few⟩
  by_cases e : scr = D
  · rcases a0.src with ⟨_, h | ⟨u, h⟩⟩ | h
    · rw [e, hD] at h
      cases h
    · rw [e, hD] at h
      cases h
    · exact .inr h
  · rcases a.src with ⟨h0, h | ⟨u, h⟩⟩ | h
    · exact .inl ⟨h0, .inl (by rw [upd_ne e]; exact h)⟩
    · exact .inl ⟨h0, .inr ⟨u, by rw [upd_ne e]; exact h⟩⟩
    · exact .inr h
def spTaken (K : PySem.W.Frag) : Sp := fun vs H Q _ => ∃ r scr ns n, vs = [.ref r, .int n] ∧ RowAt K H r scr ns ∧ 1 ≤ n ∧ n ≤ 1000000 ∧ ∀ (x : Int) H', 0 ≤ x → x < n → RowAt K H' r scr ns → But r H H' → Q (.int x) H'
section
variable {P : Program} {w : World} {K : PySem.W.Frag} {mg : Str → Option Value} {base : Heap} {f : Addr} {fd : FuncData}
theorem ok_taken (F : Fun K "_law_taken" "_law_taken" sTaken f fd) (B : Blt mg) : FnOk P w K mg base CX0 1 f fd ["_law_row", "_law_many"] (spTaken K) := by
  refine F.ok scTaken (fun vs H Q E h => ?_) (fun cdv A outer s H vs Q E hr h => ?_)
  · obtain ⟨r, scr, ns, n, rfl, _⟩ := h
    rfl
  · obtain ⟨r, scr, ns, n, rfl, a, n1, n2, q⟩ := h
    obtain ⟨i, seed, rest, hR, i0, s0, s1, r0⟩ := a.ex
    refine ⟨_, pss_cons (ps_if (pt_cmpR op_gt (pe_ix ix_list (pv 0) pe_int (fun _ _ => rfl)) pe_int (nomark _))
        (pss_cons (ps_set (i := 2) scTaken.nd rfl (Or.inl rfl) (pe_op op_mod (pe_callTy call_int1 (by rfl) B.int (by decide +kernel) (pa_cons (pe_ix ix_list (pv 0) pe_int (fun _ _ => rfl)) pa_nil)) (pv 1)))
        (pss_cons (ps_asg (pe_op op_fdiv (pe_ix ix_list (pv 0) pe_int (fun _ _ => rfl)) (pv 1)) (pg_sub (pv 0) pe_int set_list))
        (pss_one (ps_ret (pv 2))))) pss_nil)
      (pss_cons (ps_asg (pe_op op_add (pe_ix ix_list (pv 0) pe_int (fun _ _ => rfl)) pe_int) (pg_sub (pv 0) pe_int set_list))
      (pss_cons (ps_if (pt_cmpR op_gt (pe_ix ix_list (pv 0) pe_int (fun _ _ => rfl)) (pe_callB call_len_seq (by rfl) B.len PySem.boot_len (pa_cons (pe_ix ix_list (pv 0) pe_int (fun _ _ => rfl)) pa_nil)) (nomark _))
        (pss_cons (ps_asg (pe_op op_mod (pe_callTy call_int1 (by rfl) B.int (by decide +kernel) (pa_cons (pe_op op_add (pe_op op_mul (pe_ix ix_list (pv 0) pe_int (fun _ _ => rfl)) pe_int) pe_int) pa_nil)) pe_int) (pg_sub (pv 0) pe_int set_list))
        (pss_one (ps_ret (pe_op op_mod (pe_callTy call_int1 (by rfl) B.int (by decide +kernel) (pa_cons (pe_op op_fdiv (pe_ix ix_list (pv 0) pe_int (fun _ _ => rfl)) pe_int) pa_nil)) (pv 1))))) pss_nil)
      (pss_cons (ps_set (i := 3) scTaken.nd rfl (Or.inl rfl) (pe_ix ix_list (pe_ix ix_list (pv 0) pe_int (fun _ _ => rfl)) (pe_op op_sub (pe_ix ix_list (pv 0) pe_int (fun _ _ => rfl)) pe_int) (fun _ _ => rfl)))
      (pss_cons (ps_asg (pe_op op_mod (pe_callTy call_int1 (by rfl) B.int (by decide +kernel) (pa_cons (pe_op op_add (pe_op op_add (pe_op op_mul (pe_ix ix_list (pv 0) pe_int (fun _ _ => rfl)) pe_int) (pv 3)) pe_int) pa_nil)) pe_int) (pg_sub (pv 0) pe_int set_list))
      (pss_cons (ps_if (pt_cmpR op_ge (pv 3) (pe_op op_pow pe_int pe_int) (nomark _)) (pss_one (ps_asg (pe_op op_fdiv (pv 3) (pv 1)) (pg_sub (pv 0) pe_int set_list))) pss_nil)
      (pss_one (ps_ret (pe_op op_mod (pe_callTy call_int1 (by rfl) B.int (by decide +kernel) (pa_cons (pv 3) pa_nil)) (pv 1))))))))), ?_⟩
    refine ⟨.ref r, rfl, r, _, 3, .int rest, rfl, rfl, SqL.of hR, atI_nat (j := 3) rfl, rest, 0, rfl, rfl, _, rfl, ite2 (fun c => ?_) fun c => ?_⟩
    · refine ⟨.ref r, rfl, r, _, 3, .int rest, rfl, rfl, SqL.of hR, atI_nat (j := 3) rfl, .inl ⟨rest, rfl, .int n, rfl, rest, n, rfl, rfl, by omega, ?_⟩⟩
      refine ⟨.ref r, rfl, r, _, 3, .int rest, rfl, rfl, SqL.of hR, atI_nat (j := 3) rfl, .int n, rfl, rest, n, rfl, rfl, ⟨by omega, by omega⟩, ?_⟩
      refine ⟨.ref r, rfl, r, _, 3, 3, rfl, rfl, hR, rfl, ?_⟩
      exact ⟨_, rfl, q _ _ (Int.emod_nonneg _ (by omega)) (Int.emod_lt_of_pos _ (by omega)) (a.put i0 s0 s1 (Int.ediv_nonneg r0 (by omega))) (But.upd (But.refl r H))⟩
    · -- the place one on
      refine ⟨.ref r, rfl, r, _, 1, .int i, rfl, rfl, SqL.of hR, atI_nat (j := 1) rfl, i, 1, rfl, rfl, .ref r, rfl, r, _, 1, 1, rfl, rfl, hR, rfl, ?_⟩
      have a1 : RowAt K (upd H r (.lst [.ref scr, .int (i + 1), .int seed, .int rest])) r scr ns := a.put (by omega) s0 s1 r0
      have b1 : But r H (upd H r (.lst [.ref scr, .int (i + 1), .int seed, .int rest])) := But.upd (But.refl r H)
      refine ⟨.ref r, rfl, r, _, 1, .int (i + 1), rfl, rfl, SqL.of upd_same, atI_nat (j := 1) rfl, .ref r, rfl, r, _, 0, .ref scr, rfl, rfl, SqL.of upd_same, atI_nat (j := 0) rfl, scr, _, rfl, .inl a1.scr, i + 1, _, rfl, rfl, _, rfl, ?_⟩
      rw [List.length_map]
      refine ite2 (fun c2 => ?_) fun c2 => ?_
      · -- the script is used up
        refine ⟨.ref r, rfl, r, _, 2, .int seed, rfl, rfl, SqL.of upd_same, atI_nat (j := 2) rfl, seed, 48271, rfl, rfl, .inl ⟨by omega, by omega⟩, seed * 48271, 11, rfl, rfl, .inl ⟨_, rfl, _, 2147483647, rfl, rfl, (by show (0 : Int) < 2147483647; decide), .ref r, rfl, r, _, 2, 2, rfl, rfl, upd_same, rfl, ?_⟩⟩
        have e0 : 0 ≤ (seed * 48271 + 11) % 2147483647 := Int.emod_nonneg _ (by decide)
        have e1 : (seed * 48271 + 11) % 2147483647 < 2147483647 := Int.emod_lt_of_pos _ (by decide)
        refine ⟨.ref r, rfl, r, _, 2, _, rfl, rfl, SqL.of upd_same, atI_nat (j := 2) rfl, _, 7, rfl, rfl, ⟨by decide, by decide⟩, .inl ⟨_, rfl, .int n, rfl, _, n, rfl, rfl, by omega, ?_⟩⟩
        exact q _ _ (Int.emod_nonneg _ (by omega)) (Int.emod_lt_of_pos _ (by omega)) (a1.put (i := i + 1) (rest := rest) (by omega) e0 e1 r0) b1.upd
      · have hi : i < ns.length := by
          have := of_decide_eq_false (eq_false_of_ne_true c2)
          omega
        obtain ⟨z, hz⟩ : ∃ z, ns[i.toNat]? = some z := ⟨_, List.getElem?_eq_getElem (by omega)⟩
        have hz2 : (ns.map V.int)[i.toNat]? = some (.int z) := by rw [List.getElem?_map, hz] <;> rfl
        have ei : i + 1 - 1 = ((i.toNat : Nat) : Int) := by omega
        refine ⟨.ref r, rfl, r, _, 0, .ref scr, rfl, rfl, SqL.of upd_same, atI_nat (j := 0) rfl, .ref r, rfl, r, _, 1, .int (i + 1), rfl, rfl, SqL.of upd_same, atI_nat (j := 1) rfl, i + 1, 1, rfl, rfl, scr, _, _, .int z, rfl, rfl, a1.scr, at_of ei hz2, ?_⟩
        refine ⟨.ref r, rfl, r, _, 2, .int seed, rfl, rfl, SqL.of upd_same, atI_nat (j := 2) rfl, seed, 48271, rfl, rfl, .inl ⟨by omega, by omega⟩, .int z, rfl, seed * 48271, z, rfl, rfl, seed * 48271 + z, 11, rfl, rfl, .inl ⟨_, rfl, _, 2147483647, rfl, rfl, (by show (0 : Int) < 2147483647; decide), .ref r, rfl, r, _, 2, 2, rfl, rfl, upd_same, rfl, ?_⟩⟩
        have e0 : 0 ≤ (seed * 48271 + z + 11) % 2147483647 := Int.emod_nonneg _ (by decide)
        have e1 : (seed * 48271 + z + 11) % 2147483647 < 2147483647 := Int.emod_lt_of_pos _ (by decide)
        have a2 := a1.put (i := i + 1) (seed := (seed * 48271 + z + 11) % 2147483647) (rest := rest) (by omega) e0 e1 r0
        refine ⟨.int z, rfl, 10, 18, rfl, rfl, ⟨by decide, by decide, by decide⟩, z, _, rfl, rfl, _, rfl, ite2 (fun c3 => ?_) fun c3 => ?_⟩
        · have z0 : 0 ≤ z := Int.le_trans (by decide) (of_decide_eq_true c3)
          refine ⟨.int z, rfl, .int n, rfl, z, n, rfl, rfl, ⟨by omega, by omega⟩, .ref r, rfl, r, _, 3, 3, rfl, rfl, upd_same, rfl, ?_⟩
          exact ⟨.int z, rfl, .inl ⟨z, rfl, .int n, rfl, z, n, rfl, rfl, by omega, q _ _ (Int.emod_nonneg _ (by omega)) (Int.emod_lt_of_pos _ (by omega)) (a2.put (rest := z / n) (by omega) e0 e1 (Int.ediv_nonneg z0 (by omega))) b1.upd.upd⟩⟩
        · exact ⟨.int z, rfl, .inl ⟨z, rfl, .int n, rfl, z, n, rfl, rfl, by omega, q _ _ (Int.emod_nonneg _ (by omega)) (Int.emod_lt_of_pos _ (by omega)) a2 b1.upd⟩⟩
end
end Kn

namespace Kn
open PySem PySem.Spec L2 Kw
/-- a property of the class at C -/
structure Prp (P : Program) (w : World) (K : PySem.W.Frag) (mg : Str → Option Value) (base : Heap) (C : Addr) (f : Str) (sp : Sp) : Prop where
  ex : ∃ (p g : Addr) (fd : FuncData), PropOf K C f p g ∧ FnOk P w K mg base CX0 1 g fd ["self"] sp ∧ Binds K fd ["self"] []
structure Lnn (P : Program) (w : World) (K : PySem.W.Frag) (mg : Str → Option Value) (base : Heap) (C : Addr) (sp : Sp) : Prop where
  ex : ∃ (g : Addr) (fd : FuncData), PySem.W.findIn K (.ref C) "__len__" = some (some (.ref g)) ∧ PySem.W.isFn K (.ref g) = true ∧ FnOk P w K mg base CX0 1 g fd ["self"] sp ∧ Binds K fd ["self"] []
structure Eqq (P : Program) (w : World) (K : PySem.W.Frag) (mg : Str → Option Value) (base : Heap) (C : Addr) (sp : Sp) : Prop where
  ex : ∃ (g : Addr) (fd : FuncData), NeC K C g ∧ FnOk P w K mg base CX0 1 g fd ["self", "other"] sp ∧ Binds K fd ["self", "other"] []
section
variable {X : Cx} {C : Addr} {f : Str} {sp : Sp} {e : Expr} {ta : TE} {pos : Pos} {j : Nat}
theorem pe_prp (h : Prp X.prog X.w X.K X.mg X.base C f sp) (c : Cls X.K C) (hr : Room j X.A) (hj : 2 ≤ j) (he : PE X e ta) (hab : attributeBase e f X.env (eval e X.env) = eval e X.env := by rfl) : PE X (.Attribute e f pos) (tProp C sp [] E0 ta) := by
  obtain ⟨p, g, fd, hp, F, b⟩ := h.ex
  exact pe_prop he c hp F (hr.mono hj) b .nil pass0 hab
theorem call_lnn (h : Lnn X.prog X.w X.K X.mg X.base C sp) (hr : Room j X.A) (hj : 2 ≤ j) : CallR X (.builtin "len") (rLenO C sp) := by
  obtain ⟨g, fd, h1, h2, F, b⟩ := h.ex
  exact call_lenO h1 h2 F (hr.mono hj) b
theorem op_eqq (h : Eqq X.prog X.w X.K X.mg X.base C sp) (hr : Room j X.A) (hj : 2 ≤ j) : OpR X (compareOp .NotEq) (rNeO C sp) := by
  obtain ⟨g, fd, n, F, b⟩ := h.ex
  exact op_neO n F (hr.mono hj) b
end
end Kn

/-! The program's own things, for the reader: packets, the law's row, errors. -/
namespace Pg
open PySem PySem.Spec L2 Ev PyProof.Rows
/-! ### FnOk without errors is FnOk -/
theorem weak {P : Program} {w : World} {K : PySem.W.Frag} {mg : Str → Option Value} {base : Heap} {k : Nat} {f : Addr} {fd : FuncData} {ps : List Str} {sp : Sp} (F : FnOk P w K mg base CX0 k f fd ps sp) : FnOk P w K mg base (L2.CX P w) k f fd ps sp :=
  ⟨F.len, fun A outer s H args us vs Q E hr he hb hv hs => codeAny_mono (F.run A outer s H args us vs Q E hr he hb hv hs) fun z s' hz => by
    cases z with
    | error e => exact (show False from hz).elim
    | ok fl => cases fl <;> exact hz⟩
/-! ### the law's row -/
def Wr (K : PySem.W.Frag) (scr : Addr) (xs : List V) : Prop := ∃ (o : Obj) (its : Array Value) (n : Nat), K.lookup scr = some o ∧ o.cls = .type "list" ∧ o.dict = none ∧ o.data = .seq its n ∧ its.size ≤ sizeLine ∧ Vals xs its.toList
def rowO (scr : Addr) (i seed rest : Int) : HO := .lst [.ref scr, .int i, .int seed, .int rest]
structure Row (K : PySem.W.Frag) (r scr : Addr) (ns : List Int) (B H : Hp) : Prop where
  ex : ∃ i seed rest : Int, H r = some (rowO scr i seed rest) ∧ 0 ≤ i ∧ 0 ≤ seed ∧ seed < 2147483647 ∧ 0 ≤ rest
  src : (scr ≠ r ∧ Rd B scr (.lst (ns.map V.int))) ∨ Wr K scr (ns.map V.int)
  few : ns.length ≤ 63
/-! ### packets -/
def pf (v u t : V) : List (Str × V) := [("_width", v), ("_height", u), ("_sheets", t)]
theorem pf_put (v u t : V) : putF "_sheets" t (putF "_height" u (putF "_width" v [])) = pf v u t := by
  have n1 : ("_width" : Str) ≠ "_height" := by decide +kernel
  have n2 : ("_width" : Str) ≠ "_sheets" := by decide +kernel
  have n3 : ("_height" : Str) ≠ "_sheets" := by decide +kernel
  simp only [putF, if_neg n1, if_neg n2, if_neg n3]
  rfl
theorem pf_w (v u t : V) : List.lookup ("_width" : Str) (pf v u t) = some v := by unfold pf; simp [List.lookup]
theorem pf_h (v u t : V) : List.lookup ("_height" : Str) (pf v u t) = some u := by
  have e : (Str.ofString "_height" == Str.ofString "_width") = false := by decide +kernel
  unfold pf
  simp [List.lookup, e]
theorem pf_s (v u t : V) : List.lookup ("_sheets" : Str) (pf v u t) = some t := by
  have e : (Str.ofString "_sheets" == Str.ofString "_width") = false := by decide +kernel
  have e2 : (Str.ofString "_sheets" == Str.ofString "_height") = false := by decide +kernel
  unfold pf
  simp [List.lookup, e, e2]
/-- a text of n small letters -/
def sheetOk (n : Int) (z : Str) : Bool := decide ((z.length : Int) = n) && z.cps.toList.all fun c => decide (97 ≤ c) && decide (c ≤ 122)
/-- what is wrong with a packet's parts -/
def wrongP (w h : Int) (l : List Str) : Option Str :=
  if (decide (1 ≤ w) && decide (w ≤ 4)) = true then (if (decide (1 ≤ h) && decide (h ≤ 4) && decide (w * h ≤ 9)) = true then (if (decide (1 ≤ l.length) && decide (l.length ≤ 4) && l.all (sheetOk (w * h))) = true then none else some "sheets") else some "height") else some "width"
structure Good (w h : Int) (l : List Str) : Prop where
  w1 : 1 ≤ w
  w4 : w ≤ 4
  h1 : 1 ≤ h
  h4 : h ≤ 4
  wh : w * h ≤ 9
  l1 : 1 ≤ l.length
  l4 : l.length ≤ 4
  ok : ∀ z ∈ l, sheetOk (w * h) z = true
theorem good_of {w h : Int} {l : List Str} (e : wrongP w h l = none) : Good w h l := by
  unfold wrongP at e
  split at e
  · split at e
    · split at e
      · rename_i a b c
        simp only [Bool.and_eq_true, decide_eq_true_eq] at a b c
        exact ⟨a.1, a.2, b.1.1, b.1.2, b.2, c.1.1, c.1.2, List.all_eq_true.mp c.2⟩
      · cases e
    · cases e
  · cases e
theorem sheet_good {n : Int} {z : Str} (h : sheetOk n z = true) : goodS z = true ∧ (z.length : Int) = n := by
  unfold sheetOk at h
  rw [Bool.and_eq_true, decide_eq_true_eq] at h
  refine ⟨?_, h.1⟩
  unfold goodS
  rw [← Array.all_toList]
  refine List.all_eq_true.mpr fun c hc => ?_
  have := List.all_eq_true.mp h.2 c hc
  rw [Bool.and_eq_true, decide_eq_true_eq, decide_eq_true_eq] at this
  exact decide_eq_true (by omega)
structure Pk (K : PySem.W.Frag) (H : Hp) (C a dx : Addr) (w h : Int) (t : Addr) (l : List Str) : Prop where
  at_ : H a = some (.ins C dx (pf (.int w) (.int h) (.ref t)))
  tup : SqT K H t (l.map V.str)
  ok : wrongP w h l = none
/-- a packet, as data -/
def pkD (w h : Int) (l : List Str) : D := .obj "Packet" [.int w, .int h, .tup (l.map D.str)]
/-! ### errors: their classes, and the field that they hold -/
abbrev ErT := Str → Option (Addr × Option Str)
inductive FldD : V → D → Prop
  | str (z : Str) : FldD (.str z) (.str z)
  | int (i : Int) : FldD (.int i) (.int i)
/-- the mark of an error with the fields row and word -/
def F12 : Str := "row,word"
def exP (er : ErT) (H : Hp) (cls : Value) (oe : Option Addr) (c : Str) (fs : List D) : Prop := ∃ A fo, er c = some (A, fo) ∧ cls = .ref A ∧ match fo with
  | none => fs = []
  | some f => (∃ d x y, oe = some d ∧ fs = [y] ∧ FldD x y ∧ H d = some (.xd [(f, x)])) ∨ (f = F12 ∧ ∃ (d : Addr) (i j : Int), oe = some d ∧ fs = [.int i, .int j] ∧ H d = some (.xd [("row", .int i), ("word", .int j)]))
/-! ### what the reader stands on -/
def PS (K : PySem.W.Frag) (r scr : Addr) (ns : List Int) (C : Addr) (er : ErT) : Sem0 where
  K := K
  r := r
  RW := Row K r scr ns
  OB := fun B v c fs => c = "Packet" ∧ ∃ a dx w h t l, v = .ref a ∧ fs = [.int w, .int h, .tup (l.map D.str)] ∧ Pk K B C a dx w h t l
  EX := exP er
  rw_mono := fun s h a => by
    obtain ⟨i, sd, rs, h1, b⟩ := a.ex
    exact ⟨⟨i, sd, rs, h _ h1, b⟩, a.src.elim (fun q => .inl ⟨q.1, q.2.elim (fun x => .inl (s _ _ x)) fun ⟨o, x⟩ => .inr ⟨o, s _ _ x⟩⟩) .inr, a.few⟩
  rw_down := fun s a b => ⟨b.ex, a.src, a.few⟩
  ob_mono := fun s h => by
    obtain ⟨rfl, a, dx, w, h, t, l, rfl, rfl, p⟩ := h
    exact ⟨rfl, a, dx, w, h, t, l, rfl, rfl, s _ _ p.at_, Same.tupK s p.tup, p.ok⟩
end Pg

/-! What the program's own things tell the reader. -/
namespace Pg
open PySem PySem.Spec L2 Ev Kw PyProof.Rows
theorem W_mono {X : Cx} {e : Expr} {σ : L2.St} {H : Hp} {Q Q' : VK} (h : W X e σ H Q) (hq : ∀ v H, Q v H → Q' v H) : W X e σ H Q' :=
  ⟨fun σ H Q' => ∃ Q, W X e σ H Q ∧ ∀ v H, Q v H → Q' v H, ⟨fun pins s σ H Q' I ⟨Q, h, hq⟩ => wpAny_mono (peW.run pins s σ H Q I h) (fun u s' ⟨v, H', I', r, q⟩ => ⟨v, H', I', r, hq v H' q⟩) fun _ _ z => z⟩, Q, h, hq⟩
theorem upd_upd {H : Hp} {a : Addr} {x y : HO} : upd (upd H a x) a y = upd H a y := by
  funext b
  by_cases e : b = a
  · rw [e, upd_same, upd_same]
  · rw [upd_ne e, upd_ne e, upd_ne e]
section
variable {P : Program} {w' : World} {K : PySem.W.Frag} {mg : Str → Option Value} {base : Heap} {f : Addr} {fd : FuncData} {r scr C : Addr} {ns : List Int} {er : ErT}
/-! ### drawing -/
def takenP : List D → T D
  | [.row, .int n] => if 1 ≤ n ∧ n ≤ 1000000 then .draw n fun i => .ret (.int i) else .fail
  | _ => .fail
theorem prim_taken (G : Has P w' K mg base CX0 1 "_law_taken" ["_law_row", "_law_many"] (Kn.spTaken K)) : PrimT (PS K r scr ns C er) P w' mg base 1 "_law_taken" takenP := by
  obtain ⟨a, fd, F, hm, hk, hb⟩ := G.ex
  refine ⟨⟨a, fd, _, _, weak F, hm, hk, hb, fun vs ds H B Q E o rd h => ?_⟩⟩
  unfold takenP at h
  split at h
  · rename_i n
    obtain ⟨v, u, rfl, hv, hu⟩ := drAll_two rd
    split at h
    · rename_i hn
      have ev : v = .ref r := by cases hv; rfl
      have eu := dr_int hu
      subst ev
      subst eu
      obtain ⟨⟨i, sd, rs, h1, b⟩, src, few⟩ := o.rw
      have ra : Kn.RowAt K H r scr ns := ⟨⟨i, sd, rs, h1, b⟩, src.elim (fun q => .inl ⟨q.1, q.2.elim (fun x => .inl (o.sub _ _ x)) fun ⟨o', x⟩ => .inr ⟨o', o.sub _ _ x⟩⟩) .inr, few⟩
      refine ⟨r, scr, ns, n, rfl, ra, hn.1, hn.2, fun x H' x0 x1 a' b' => ?_⟩
      have q : Aft (PS K r scr ns C er) H B Q (.int x) := h.2 x x0 x1
      refine q (.int x) H' B ⟨Same.refl B, fun _ _ _ h => h, fun c u n e => b' c u n e, ⟨fun c u e => b' c u (fun z => ?_) (o.sub _ _ e), ⟨a'.ex, src, few⟩, o.rn, ?_⟩⟩ (.int x)
      · have := o.rn
        subst z
        exact absurd (this.symm.trans e) (by intro y; cases y)
      · obtain ⟨i', sd', rs', h1', _⟩ := a'.ex
        exact ⟨_, h1'⟩
    · exact h.elim
  · exact h.elim
/-! ### what a packet tells -/
def spW (K : PySem.W.Frag) (C : Addr) : Sp := fun vs H Q _ => ∃ a dx w h t l, vs = [.ref a] ∧ Pk K H C a dx w h t l ∧ Q (.int w) H
def spH (K : PySem.W.Frag) (C : Addr) : Sp := fun vs H Q _ => ∃ a dx w h t l, vs = [.ref a] ∧ Pk K H C a dx w h t l ∧ Q (.int h) H
def spS (K : PySem.W.Frag) (C : Addr) : Sp := fun vs H Q _ => ∃ a dx w h t l, vs = [.ref a] ∧ Pk K H C a dx w h t l ∧ Q (.ref t) H
def spC (K : PySem.W.Frag) (C : Addr) : Sp := fun vs H Q _ => ∃ a dx w h t l, vs = [.ref a] ∧ Pk K H C a dx w h t l ∧ Q (.int (w * h)) H
def spLen (K : PySem.W.Frag) (C : Addr) : Sp := fun vs H Q _ => ∃ a dx w h t l, vs = [.ref a] ∧ Pk K H C a dx w h t l ∧ Q (.int l.length) H
def spEq (K : PySem.W.Frag) (C : Addr) : Sp := fun vs H Q _ => ∃ a dx w h t l b dy w2 h2 t2 l2, vs = [.ref a, .ref b] ∧ Pk K H C a dx w h t l ∧ Pk K H C b dy w2 h2 t2 l2 ∧ Q (.bl (decide (w = w2) && (decide (h = h2) && decide (l = l2)))) H
theorem ok_w (F : Fun K "width" "Packet.width" Kn.sW f fd) (T : Kn.PkC K mg C) : FnOk P w' K mg base CX0 1 f fd ["self"] (spW K C) := by
  refine F.ok Kn.scW (fun vs H Q E h => ?_) (fun cdv A outer s H vs Q E hr h => ?_)
  · obtain ⟨a, dx, w, h, t, l, rfl, _⟩ := h
    rfl
  · obtain ⟨a, dx, w, h, t, l, rfl, p, q⟩ := h
    exact ⟨_, pss_one (ps_ret (pe_fld (pv 0) rfl)), _, rfl, a, C, dx, _, _, rfl, p.at_, T.cl, T.nw, pf_w _ _ _, q⟩
theorem ok_h (F : Fun K "height" "Packet.height" Kn.sH f fd) (T : Kn.PkC K mg C) : FnOk P w' K mg base CX0 1 f fd ["self"] (spH K C) := by
  refine F.ok Kn.scH (fun vs H Q E h => ?_) (fun cdv A outer s H vs Q E hr h => ?_)
  · obtain ⟨a, dx, w, h, t, l, rfl, _⟩ := h
    rfl
  · obtain ⟨a, dx, w, h, t, l, rfl, p, q⟩ := h
    exact ⟨_, pss_one (ps_ret (pe_fld (pv 0) rfl)), _, rfl, a, C, dx, _, _, rfl, p.at_, T.cl, T.nh, pf_h _ _ _, q⟩
theorem ok_s (F : Fun K "sheets" "Packet.sheets" Kn.sS f fd) (T : Kn.PkC K mg C) : FnOk P w' K mg base CX0 1 f fd ["self"] (spS K C) := by
  refine F.ok Kn.scS (fun vs H Q E h => ?_) (fun cdv A outer s H vs Q E hr h => ?_)
  · obtain ⟨a, dx, w, h, t, l, rfl, _⟩ := h
    rfl
  · obtain ⟨a, dx, w, h, t, l, rfl, p, q⟩ := h
    exact ⟨_, pss_one (ps_ret (pe_fld (pv 0) rfl)), _, rfl, a, C, dx, _, _, rfl, p.at_, T.cl, T.ns, pf_s _ _ _, q⟩
theorem ok_c (F : Fun K "cells" "Packet.cells" Kn.sC f fd) (T : Kn.PkC K mg C) : FnOk P w' K mg base CX0 1 f fd ["self"] (spC K C) := by
  refine F.ok Kn.scC (fun vs H Q E h => ?_) (fun cdv A outer s H vs Q E hr h => ?_)
  · obtain ⟨a, dx, w, h, t, l, rfl, _⟩ := h
    rfl
  · obtain ⟨a, dx, w, h, t, l, rfl, p, q⟩ := h
    have g := good_of p.ok
    exact ⟨_, pss_one (ps_ret (pe_op op_mul (pe_fld (pv 0) rfl) (pe_fld (pv 0) rfl))), _, rfl, a, C, dx, _, _, rfl, p.at_, T.cl, T.nw, pf_w _ _ _, _, rfl, a, C, dx, _, _, rfl, p.at_, T.cl, T.nh, pf_h _ _ _, w, h, rfl, rfl, .inl ⟨by have := g.w1; omega, by have := g.w4; omega⟩, q⟩
theorem ok_len (F : Fun K "__len__" "Packet.__len__" Kn.sLen f fd) (T : Kn.PkC K mg C) (B : Kn.Blt mg) : FnOk P w' K mg base CX0 1 f fd ["self"] (spLen K C) := by
  refine F.ok Kn.scLen (fun vs H Q E h => ?_) (fun cdv A outer s H vs Q E hr h => ?_)
  · obtain ⟨a, dx, w, h, t, l, rfl, _⟩ := h
    rfl
  · obtain ⟨a, dx, w, h, t, l, rfl, p, q⟩ := h
    refine ⟨_, pss_one (ps_ret (pe_callB call_len_seq (by rfl) B.len PySem.boot_len (pa_cons (pe_fld (pv 0) rfl) pa_nil))), _, rfl, a, C, dx, _, _, rfl, p.at_, T.cl, T.ns, pf_s _ _ _, t, l.map V.str, rfl, .inr p.tup, ?_⟩
    rw [List.length_map]
    exact q
theorem okc_of {w h : Int} {l : List Str} (e : wrongP w h l = none) : ∀ z ∈ l, PyData.strOk z = true := fun z hz => (sheet_good ((good_of e).ok z hz)).1
theorem ok_eq (F : Fun K "__eq__" "Packet.__eq__" Kn.sEq f fd) (T : Kn.PkC K mg C) (B : Kn.Blt mg) : FnOk P w' K mg base CX0 1 f fd ["self", "other"] (spEq K C) := by
  refine F.ok Kn.scEq (fun vs H Q E h => ?_) (fun cdv A outer s H vs Q E hr h => ?_)
  · obtain ⟨a, dx, w, h, t, l, b, dy, w2, h2, t2, l2, rfl, _⟩ := h
    rfl
  · obtain ⟨a, dx, w, h, t, l, b, dy, w2, h2, t2, l2, rfl, p, p2, q⟩ := h
    refine ⟨_, pss_one (ps_ret (pe_and (pe_callB call_isi (by rfl) B.isi (by decide +kernel) (pa_cons (pv 1) (pa_cons (pe_glob (v := .ref C) (by rfl) T.g rfl) pa_nil)))
      (pe_and (pe_cmpR op_eq (pe_fld (pv 0) rfl) (pe_fld (pv 1) rfl) (nomark _)) (pe_and (pe_cmpR op_eq (pe_fld (pv 0) rfl) (pe_fld (pv 1) rfl) (nomark _))
      (pe_one (pe_cmpR (op_eqD hr.units) (pe_fld (pv 0) rfl) (pe_fld (pv 1) rfl) (nomark _))))))), ?_⟩
    refine ⟨_, rfl, .ref b, .ref C, _, _, true, rfl, .own C, .base (.ins p2.at_ T.cl T.ca T.cg T.ct T.mo), T.me, true, rfl, iteT ?_⟩
    refine ⟨_, rfl, a, C, dx, _, _, rfl, p.at_, T.cl, T.nw, pf_w _ _ _, _, rfl, b, C, dy, _, _, rfl, p2.at_, T.cl, T.nw, pf_w _ _ _, rfl, _, rfl, ?_⟩
    have e1 : decide (V.int w = V.int w2) = decide (w = w2) := by simp
    have e2 : decide (V.int h = V.int h2) = decide (h = h2) := by simp
    rw [e1]
    cases c1 : decide (w = w2) with
    | false =>
      rw [c1] at q
      exact iteF q
    | true =>
      rw [c1, Bool.true_and] at q
      refine iteT ⟨_, rfl, a, C, dx, _, _, rfl, p.at_, T.cl, T.nh, pf_h _ _ _, _, rfl, b, C, dy, _, _, rfl, p2.at_, T.cl, T.nh, pf_h _ _ _, rfl, _, rfl, ?_⟩
      rw [e2]
      cases c2 : decide (h = h2) with
      | false =>
        rw [c2] at q
        exact iteF q
      | true =>
        rw [c2, Bool.true_and] at q
        refine iteT ⟨_, rfl, a, C, dx, _, _, rfl, p.at_, T.cl, T.ns, pf_s _ _ _, _, rfl, b, C, dy, _, _, rfl, p2.at_, T.cl, T.ns, pf_s _ _ _,
          .tuple (l.map PyData.str), .tuple (l2.map PyData.str), .tup p.tup (Kn.dp_texts l), .tup p2.tup (Kn.dp_texts l2), Kn.shaped_texts l (okc_of p.ok), Kn.shaped_texts l2 (okc_of p2.ok), ?_⟩
        rw [Kn.eqv_tuple]
        exact q
end
end Pg

/-! Packets, read: attributes, len, ==, and making them. -/
namespace Pg
open PySem PySem.Spec L2 Ev Kw PyProof.Rows
theorem toStrs_map : ∀ l : List Str, toStrs (l.map D.str) = some l
  | [] => rfl
  | z :: l => by
    show (toStrs (l.map D.str)).map (z :: ·) = _
    rw [toStrs_map l]
    rfl
def attN (f : Str) : Bool := decide (f = "width") || decide (f = "height") || decide (f = "sheets") || decide (f = "cells")
def attP (f : Str) : D → T D
  | .obj _ [.int w, .int h, .tup l] => if f = "width" then .ret (.int w) else if f = "height" then .ret (.int h) else if f = "sheets" then .ret (.tup l) else if f = "cells" then .ret (.int (w * h)) else .fail
  | _ => .fail
def lenP : D → T D
  | .obj _ [.int _, .int _, .tup l] => .ret (.int l.length)
  | _ => .fail
def eqP : D → D → T D
  | .obj _ [.int w, .int h, .tup l], .obj _ [.int w2, .int h2, .tup l2] => (ofO (toStrs l)).bind fun a => (ofO (toStrs l2)).bind fun b => .ret (.bl (decide (w = w2) && (decide (h = h2) && decide (a = b))))
  | _, _ => .fail
theorem att_pk (f : Str) (w h : Int) (l : List Str) : attP f (pkD w h l) = if f = "width" then .ret (.int w) else if f = "height" then .ret (.int h) else if f = "sheets" then .ret (.tup (l.map D.str)) else if f = "cells" then .ret (.int (w * h)) else .fail := rfl
theorem eq_pk (w h : Int) (l : List Str) (w2 h2 : Int) (l2 : List Str) : eqP (pkD w h l) (pkD w2 h2 l2) = .ret (.bl (decide (w = w2) && (decide (h = h2) && decide (l = l2)))) := by
  show (ofO (toStrs (l.map D.str))).bind _ = _
  rw [toStrs_map]
  show (ofO (toStrs (l2.map D.str))).bind _ = _
  rw [toStrs_map]
  rfl
/-- attributes raise nothing -/
theorem attP_E (f : Str) (d : D) (P' : D → Prop) (E1 : Str → List D → Prop) (h : wpT (attP f d) P' E1) : wpT (attP f d) P' (fun _ _ => False) := by
  unfold attP at h ⊢
  split
  · change wpT (ite _ _ _) P' E1 at h
    repeat' split at h
    all_goals first | exact h.elim | skip
    all_goals simp_all [wpT]
  · rename_i z
    split at h
    · exact (z _ _ _ _ rfl).elim
    · exact h.elim
/-- all that the text tells of packets -/
structure PkAll (P : Program) (w : World) (K : PySem.W.Frag) (mg : Str → Option Value) (base : Heap) (C : Addr) : Prop where
  T : Kn.PkC K mg C
  pw : Kn.Prp P w K mg base C "width" (spW K C)
  ph : Kn.Prp P w K mg base C "height" (spH K C)
  ps : Kn.Prp P w K mg base C "sheets" (spS K C)
  pc : Kn.Prp P w K mg base C "cells" (spC K C)
  pl : Kn.Lnn P w K mg base C (spLen K C)
  pe : Kn.Eqq P w K mg base C (spEq K C)
section
variable {P : Program} {w : World} {K : PySem.W.Frag} {mg : Str → Option Value} {base : Heap} {r scr C : Addr} {ns : List Int} {er : ErT} {k : Nat} {C0 : Sc0} {E : XK} {X : Cx}
theorem att_ok (A : PkAll P w K mg base C) (hk : 2 ≤ k) (c : CxIs (PS K r scr ns C er) P w mg base k C0 E X) {o : Expr} {f : Str} {pos : Pos} {σ : L2.St} {H : Hp} {Q : VK} (hn : attN f = true) (hc : isCall o = false)
    (h : W X o σ H (fun v H1 => ∃ B1 d, Ok (PS K r scr ns C er) H1 B1 ∧ Dr (PS K r scr ns C er) B1 v d ∧ wpT (attP f d) (Aft (PS K r scr ns C er) H1 B1 Q) (fun _ _ => False))) : W X (.Attribute o f pos) σ H Q := by
  obtain ⟨e1, e2, e3, e4, e5, eN, nd, esc, fn, calm, room, pass, tk, po⟩ := c
  have e3 : X.K = K := e3
  subst e1 e2 e3 e4 e5
  have key : ∀ (Q' : V → Hp → Prop) (G : V → Hp → Prop), (∀ v H1 B1 a dx w h t l, v = .ref a → Ok (PS X.K r scr ns C er) H1 B1 → Pk X.K B1 C a dx w h t l → wpT (attP f (pkD w h l)) (Aft (PS X.K r scr ns C er) H1 B1 Q) (fun _ _ => False) → G v H1) → W X o σ H G := fun _ G hG => by
    refine W_mono h fun v H1 ⟨B1, d, ok, dr, hw⟩ => ?_
    cases dr with
    | obj q =>
      obtain ⟨rfl, a, dx, w, h, t, l, rfl, rfl, p⟩ := q
      exact hG _ H1 B1 a dx w h t l rfl ok p hw
    | _ => exact hw.elim
  have up : ∀ {H1 B1 a dx w h t l}, Ok (PS X.K r scr ns C er) H1 B1 → Pk X.K B1 C a dx w h t l → Pk X.K H1 C a dx w h t l := fun ok p => ⟨ok.sub _ _ p.at_, Same.tupK ok.sub p.tup, p.ok⟩
  unfold attN at hn
  simp only [Bool.or_eq_true, decide_eq_true_eq] at hn
  rcases hn with ((rfl | rfl) | rfl) | rfl
  · refine ⟨_, Kn.pe_prp A.pw A.T.cl room hk peW (base_call hc), ?_⟩
    refine key Q _ fun v H1 B1 a dx w h t l hv ok p hw => ⟨a, dx, _, hv, ok.sub _ _ p.at_, a, dx, w, h, t, l, rfl, up ok p, ?_⟩
    exact Aft.here ok hw (.int _)
  · refine ⟨_, Kn.pe_prp A.ph A.T.cl room hk peW (base_call hc), ?_⟩
    refine key Q _ fun v H1 B1 a dx w h t l hv ok p hw => ⟨a, dx, _, hv, ok.sub _ _ p.at_, a, dx, w, h, t, l, rfl, up ok p, ?_⟩
    exact Aft.here ok hw (.int _)
  · refine ⟨_, Kn.pe_prp A.ps A.T.cl room hk peW (base_call hc), ?_⟩
    refine key Q _ fun v H1 B1 a dx w h t l hv ok p hw => ⟨a, dx, _, hv, ok.sub _ _ p.at_, a, dx, w, h, t, l, rfl, up ok p, ?_⟩
    exact Aft.here ok hw (.tup p.tup (drAll_strs l))
  · refine ⟨_, Kn.pe_prp A.pc A.T.cl room hk peW (base_call hc), ?_⟩
    refine key Q _ fun v H1 B1 a dx w h t l hv ok p hw => ⟨a, dx, _, hv, ok.sub _ _ p.at_, a, dx, w, h, t, l, rfl, up ok p, ?_⟩
    exact Aft.here ok hw (.int _)
end
end Pg

/-! len and == of packets; making them. -/
namespace Pg
open PySem PySem.Spec L2 Ev Kw PyProof.Rows
section
variable {P : Program} {w : World} {K : PySem.W.Frag} {mg : Str → Option Value} {base : Heap} {r scr C CP : Addr} {ns : List Int} {er : ErT} {k : Nat} {C0 : Sc0} {E : XK} {X : Cx} {f : Addr} {fd : FuncData}
theorem up_pk {H B : Hp} {a dx : Addr} {w h : Int} {t : Addr} {l : List Str} (ok : Ok (PS K r scr ns C er) H B) (p : Pk K B C a dx w h t l) : Pk K H C a dx w h t l := ⟨ok.sub _ _ p.at_, Same.tupK ok.sub p.tup, p.ok⟩
theorem hooks_ok {G : Info} (gl : G.lenO = lenP) (ge : G.eqO = eqP) (A : PkAll P w K mg base C) (hk : 2 ≤ k) (c : CxIs (PS K r scr ns C er) P w mg base k C0 E X) : Hooks (PS K r scr ns C er) G X := by
  obtain ⟨e1, e2, e3, e4, e5, eN, nd, esc, fn, calm, room, pass, tk, po⟩ := c
  have e3 : X.K = K := e3
  subst e1 e2 e3 e4 e5
  refine ⟨fun h => ?_, fun {H B v c fs Q E'} ok h hw => ?_, fun {H B v u c c' fs fs' Q E'} ok h h' hw => ?_, fun {H B v u c c' fs fs' Q E'} ok h h' hw => ?_⟩
  · obtain ⟨_, a, dx, w, h, t, l, rfl, _⟩ := h
    exact ⟨a, rfl⟩
  · obtain ⟨rfl, a, dx, w, h, t, l, rfl, rfl, p⟩ := h
    rw [gl] at hw
    have hw : Aft (PS X.K r scr ns C er) H B Q (.int (l.map D.str).length) := hw
    have g := good_of p.ok
    refine ⟨_, Kn.call_lnn A.pl room hk, a, dx, _, rfl, ok.sub _ _ p.at_, a, dx, w, h, t, l, rfl, up_pk ok p, l.length, rfl, by omega, by have := g.l4; omega, ?_⟩
    rw [List.length_map] at hw
    exact Aft.here ok hw (.int _)
  · obtain ⟨rfl, a, dx, w, h, t, l, rfl, rfl, p⟩ := h
    obtain ⟨rfl, a2, dx2, w2, h2, t2, l2, rfl, rfl, p2⟩ := h'
    rw [ge] at hw
    change wpT (eqP (pkD w h l) (pkD w2 h2 l2)) _ _ at hw
    rw [eq_pk] at hw
    obtain ⟨g, fd, n, F, b⟩ := A.pe.ex
    exact ⟨_, op_eqO n F (room.mono (by omega)) b, a, a2, dx, _, dx2, _, rfl, rfl, ok.sub _ _ p.at_, ok.sub _ _ p2.at_, a, dx, w, h, t, l, a2, dx2, w2, h2, t2, l2, rfl, up_pk ok p, up_pk ok p2, _, rfl, Aft.here ok hw (.bl _)⟩
  · obtain ⟨rfl, a, dx, w, h, t, l, rfl, rfl, p⟩ := h
    obtain ⟨rfl, a2, dx2, w2, h2, t2, l2, rfl, rfl, p2⟩ := h'
    rw [ge] at hw
    change wpT ((eqP (pkD w h l) (pkD w2 h2 l2)).bind _) _ _ at hw
    rw [eq_pk] at hw
    exact ⟨_, Kn.op_eqq A.pe room hk, a, a2, dx, _, dx2, _, rfl, rfl, ok.sub _ _ p.at_, ok.sub _ _ p2.at_, a, dx, w, h, t, l, a2, dx2, w2, h2, t2, l2, rfl, up_pk ok p, up_pk ok p2, _, rfl, Aft.here ok hw (.bl _)⟩
/-! ### making a packet; wp tells what is wrong with its parts -/
def spInit (S : Sem0) (C CP : Addr) (wp : List D → T D) : Sp := fun vs H Q E => ∃ x dx B v u t dv du dt, vs = [.ref x, v, u, t] ∧ H x = some (.ins C dx []) ∧ Ok S H B ∧ B x = none ∧ x ≠ S.r ∧ DrAll S B [v, u, t] [dv, du, dt] ∧
  wpT (wp [dv, du, dt]) (fun d => ∀ H1 B1, Grow S H B H1 B1 → (d = .non → Q .non (upd H1 x (.ins C dx (pf v u t)))) ∧ (∀ z, d = .str z → z.length ≤ 1000 ∧ ∀ dd, H1 dd = none → E (.ref CP) (some dd) (upd H1 dd (.xd [(Xp.F1, .str z)]))) ∧ (d = .non ∨ ∃ z, d = .str z)) (AftE S H B E)
theorem ok_init {S : Sem0} {fP : Addr} {wp : List D → T D} {k : Nat} (hK : S.K = K) (F : Fun K "__init__" "Packet.__init__" Kn.sInit f fd) (T : Kn.PkC K mg C) (TP : Xp.PTxt P K mg "InvalidPacket" CP fP) (G : PrimT S P w mg base k "wrong_part" wp) :
    FnOk P w K mg base (L2.CX P w) (k + 1) f fd ["self", "width", "height", "sheets"] (spInit S C CP wp) := by
  subst hK
  refine F.okX Kn.scInit (fun vs H Q E h => ?_) (fun cdv A outer s H vs Q E hr h => ?_)
  · obtain ⟨x, dx, B, v, u, t, dv, du, dt, rfl, _⟩ := h
    rfl
  · obtain ⟨x, dx, B, v, u, t, dv, du, dt, rfl, hx, ok, hB, hxr, hd, hw⟩ := h
    obtain ⟨a, fd', ps, sp, F1, hm, hk, hb, hsp⟩ := G.ex
    refine ⟨_, pss_cons (ps_set (i := 4) Kn.scInit.nd rfl (Or.inl rfl) (pe_call F1 hr (by rfl) hm hk hb .nil (passes_call (takes_of rfl rfl rfl rfl) (fun _ _ _ _ h => h)) (pa_cons (pv 1) (pa_cons (pv 2) (pa_cons (pv 3) pa_nil)))))
      (pss_cons (ps_if (pt_cmpR op_notN (pv 4) pe_non (nomark _)) (pss_one (ps_raisePart (W := fun cls d _ H => E cls d H) rfl TP hr (takes_of rfl rfl rfl rfl) (by exact (pa_cons (pv 4) pa_nil)))) pss_nil)
      (pss_cons (ps_fld (pv 0) (pv 1) rfl) (pss_cons (ps_fld (pv 0) (pv 2) rfl) (pss_one (ps_fld (pv 0) (pv 3) rfl))))), ?_⟩
    refine ⟨v, rfl, u, rfl, t, rfl, ?_⟩
    show sp ([v, u, t] ++ []) H _ _
    rw [List.append_nil]
    refine hsp _ _ _ B _ _ ok hd (wpT_mono hw (fun d hd' => ?_) fun _ _ a => a)
    intro pv' H1 B1 g rd
    obtain ⟨q1, q2, q3⟩ := hd' H1 B1 g
    have hx1 : H1 x = some (.ins C dx []) := g.kp _ _ hxr hx
    refine ⟨_, rfl, rfl, _, rfl, ?_⟩
    rcases q3 with rfl | ⟨z, rfl⟩
    · cases rd
      refine iteF ?_
      refine ⟨v, rfl, _, rfl, x, C, dx, [], rfl, hx1, T.cl, T.nw, by decide, ?_⟩
      refine ⟨u, rfl, _, rfl, x, C, dx, _, rfl, upd_same, T.cl, T.nh, by show 1 < 1000; decide, ?_⟩
      refine ⟨t, rfl, _, rfl, x, C, dx, _, rfl, upd_same, T.cl, T.ns, ?_, ?_⟩
      · have n1 : ("_width" : Str) ≠ "_height" := by decide +kernel
        simp only [putF, if_neg n1]
        show 2 < 1000
        decide
      · rw [pf_put, upd_upd, upd_upd]
        exact q1 rfl
    · cases rd
      obtain ⟨hz, q2⟩ := q2 z rfl
      exact iteT ⟨_, rfl, .str z, rfl, hz, fun d hd => q2 d hd⟩
end
end Pg

/-! Packet(..), a form. -/
namespace Pg
open PySem PySem.Spec L2 Ev Kw PyProof.Rows
def newP (wp : List D → T D) : List D → T D
  | [a, b, c] => (wp [a, b, c]).bind fun d => match d, a, b, c with
    | .non, .int w, .int h, .tup l => (ofO (toStrs l)).bind fun zs => if wrongP w h zs = none then .ret (pkD w h zs) else .fail
    | .str z, _, _, _ => if z.length ≤ 1000 then .exc "InvalidPacket" [.str z] else .fail
    | _, _, _, _ => .fail
  | _ => .fail
def fNew (wp : List D → T D) : Form := fun sc e => match e with
  | .Call (.Name x _) [a, b, c] [] _ => if x = "Packet" ∧ isGlo sc x = true ∧ [a, b, c].any isStar = false then some fun fe => (mapT fe [a, b, c]).bind (newP wp) else none
  | _ => none
/-- Packet can be made, j deep -/
structure PkNew (S : Sem0) (P : Program) (w : World) (mg : Str → Option Value) (base : Heap) (C CP : Addr) (wp : List D → T D) (j : Nat) : Prop where
  ex : ∃ (f : Addr) (fd : FuncData), Mk S.K C f ∧ FnOk P w S.K mg base (L2.CX P w) j f fd ["self", "width", "height", "sheets"] (spInit S C CP wp) ∧ Binds S.K fd ["self", "width", "height", "sheets"] []
  g : mg "Packet" = some (.ref C)
section
variable {P : Program} {w : World} {K : PySem.W.Frag} {mg : Str → Option Value} {base : Heap} {r scr C CP : Addr} {ns : List Int} {er : ErT} {k : Nat} {C0 : Sc0} {E : XK} {X : Cx} {f : Addr} {fd : FuncData}
theorem drAll_three {S : Sem0} {B : Hp} {vs : List V} {a b c : D} (h : DrAll S B vs [a, b, c]) : ∃ x y z, vs = [x, y, z] ∧ Dr S B x a ∧ Dr S B y b ∧ Dr S B z c := by
  cases h with
  | cons h1 r => cases r with
    | cons h2 r => cases r with
      | cons h3 r => cases r; exact ⟨_, _, _, rfl, h1, h2, h3⟩
theorem mapT3 {fe : Expr → T D} {a b c : Expr} {α : Type} {g : List D → T α} : (mapT fe [a, b, c]).bind g = (fe a).bind fun x => (fe b).bind fun y => (fe c).bind fun z => g [x, y, z] := by
  show ((fe a).bind fun x => ((fe b).bind fun y => ((fe c).bind fun z => (T.ret []).bind fun l => .ret (z :: l)).bind fun l => .ret (y :: l)).bind fun l => .ret (x :: l)).bind g = _
  simp only [bind_assoc, bind_ret]
theorem spc_new {wp : List D → T D} {j : Nat} (M : PkNew (PS K r scr ns C er) P w mg base C CP wp j) (hj : j + 1 ≤ k) (he : er "InvalidPacket" = some (CP, some Xp.F1)) : Spc (PS K r scr ns C er) P w mg base k (fNew wp) := fun C0 E X c e f hf ρ fe hfe => by
  unfold fNew at hf
  split at hf
  · rename_i x p1 a b d pos
    split at hf
    · rename_i hc
      obtain ⟨rfl, hg, hs⟩ := hc
      cases hf
      intro H0 B0 H B σ Q p h
      obtain ⟨fI, fdI, mk, F, hb⟩ := M.ex
      have gC := M.g
      have hs' : isStar a = false ∧ [b, d].any isStar = false := by rw [List.any_cons, Bool.or_eq_false_iff] at hs; exact hs
      have hgl := c.glo hg
      have c' := c
      obtain ⟨e1, e2, e3, e4, e5, eN, nd, esc, fn, calm, room, pass, tk, po⟩ := c
      have e3 : X.K = K := e3
      subst e1 e2 e3 e4 e5
      refine ⟨_, pe_make mk F (room.mono hj) hgl gC hb .nil pass paW (by decide +kernel) (star_cons hs'.1) (star_any hs'.2), ?_⟩
      refine sndA_then (snd_args hs fun e _ => hfe e) p h fun ds vs H1 B1 g1 r1 h2 => ?_
      unfold newP at h2
      split at h2
      case h_2 => exact h2.elim
      rename_i da db dc
      obtain ⟨v, u, t, rfl, rv, ru, rt⟩ := drAll_three r1
      intro x dx nx ndx ne
      have o1 := g1.ok
      have G1 : Grow (PS X.K r scr ns C er) H1 B1 (upd H1 dx (.own x)) B1 := Grow.open_ o1 ndx _
      have nx2 : (upd H1 dx (.own x)) x = none := by rw [upd_ne (Ne.symm ne)]; exact nx
      have G2 := G1.trans (Grow.open_ G1.ok nx2 (.ins C dx []))
      have xr : x ≠ r := o1.ne nx
      have bx : B1 x = none := o1.free nx
      rw [wpT_bind] at h2
      refine ⟨x, dx, B1, v, u, t, da, db, dc, rfl, upd_same, G2.ok, bx, xr, r1, wpT_mono h2 (fun dd hdd H3 B3 g => ?_) fun cc fs a => a.grow G2⟩
      have G3 := G2.trans g
      have b3 : B3 x = none := g.fr x _ upd_same bx
      split at hdd
      · -- good
        rename_i w1 h1 l
        refine ⟨fun _ => ⟨rfl, ?_⟩, fun z hz => (by cases hz), .inl rfl⟩
        rw [wpT_bind] at hdd
        obtain ⟨zs, ez, hdd⟩ := wp_ofO hdd
        split at hdd
        · rename_i hw
          cases rv
          cases ru
          cases rt with
          | tup k1 q1 =>
            have ev := q1.strs ez
            subst ev
            rename_i ta
            have O := G3.ok.put b3 xr (.ins C dx (pf (.int w1) (.int h1) (.ref ta)))
            obtain ⟨O2, sb⟩ := Grow.freeze O upd_same b3 xr
            have GF : Grow (PS X.K r scr ns C er) H1 B1 (upd H3 x (.ins C dx (pf (.int w1) (.int h1) (.ref ta)))) (upd B3 x (.ins C dx (pf (.int w1) (.int h1) (.ref ta)))) := by
              refine ⟨G3.bb.trans sb, fun y o hy hb => ?_, fun y o n hy => ?_, O2⟩
              · rw [upd_ne (ne_of_none hy nx)]
                exact G3.fr y o hy hb
              · rw [upd_ne (ne_of_none hy nx)]
                exact G3.kp y o n hy
            refine hdd (.ref x) _ _ (g1.trans GF) (.obj ⟨rfl, x, dx, w1, h1, ta, zs, rfl, rfl, upd_same, ?_, hw⟩)
            exact Same.tupK (G3.bb.trans sb) k1
        · exact hdd.elim
      · rename_i z _ _ _
        split at hdd
        · rename_i hz
          refine ⟨fun q => (by cases q), fun z' hz' => ?_, .inr ⟨_, rfl⟩⟩
          cases hz'
          refine ⟨hz, fun d2 hd2 => ?_⟩
          exact hdd (.ref CP) (some d2) _ B3 (G3.trans (Grow.open_ G3.ok hd2 _)) ⟨CP, some Xp.F1, he, rfl, .inl ⟨d2, _, _, rfl, rfl, .str _, upd_same⟩⟩
        · exact hdd.elim
      · exact hdd.elim
    · cases hf
  · cases hf
end
end Pg

/-! Raises; the whole base of the reader. -/
namespace Pg
open PySem PySem.Spec L2 Ev Kw PyProof.Rows
/-- an own error without an __init__ -/
structure PlainE (K : PySem.W.Frag) (mg : Str → Option Value) (x : Str) (A : Addr) : Prop where
  ex : ∃ (B newId initId : String) (bm : List Value), ExcBaseFacts B newId initId bm ∧ PySem.W.excIn K A bm newId = true
  g : mg x = some (.ref A)
  kp : PySem.W.keepIn K (.ref A) = true
  sub : PySem.W.subIn K (.ref A) (.type "BaseException") = some true
  ty : PySem.W.typeIn K (.ref A) = some (.type "type")
/-- the errors that er names are there -/
inductive ErOk (P : Program) (K : PySem.W.Frag) (mg : Str → Option Value) (x : Str) (A : Addr) : Option Str → Prop
  | plain : PlainE K mg x A → ErOk P K mg x A none
  | part (fI : Addr) : Xp.PTxt P K mg x A fI → ErOk P K mg x A (some Xp.F1)
  | idx (fI : Addr) : Xi.PTxt P K mg x A fI → ErOk P K mg x A (some Xi.F1)
  | off (fI : Addr) : Xo.PTxt P K mg x A fI → ErOk P K mg x A (some Xo.F1)
  | two (fI : Addr) : Xw.PTxt P K mg x A fI → ErOk P K mg x A (some F12)
def smallI (i : Int) : Bool := decide (0 ≤ i) && decide (i < 200)
def plnF : List D → Option (List D)
  | [.str _] => some []
  | _ => none
def fldF : List D → Option (List D)
  | [.str z] => if z.length ≤ 1000 then some [.str z] else none
  | [.int i] => if smallI i then some [.int i] else none
  | _ => none
def fld2F : List D → Option (List D)
  | [.int i, .int j] => if smallI i && smallI j then some [.int i, .int j] else none
  | _ => none
def errP (er : ErT) : ErrF := fun x n => match er x with
  | some (_, none) => if n = 1 then some plnF else none
  | some (_, some f) => if f = F12 then (if n = 2 then some fld2F else none) else if n = 1 then some fldF else none
  | none => none
theorem msg_small {i : Int} (h : smallI i = true) : i.natAbs.log2 < 1000 ∧ (Str.ofString (toString i)).length ≤ 1000 := by
  unfold smallI at h
  rw [Bool.and_eq_true, decide_eq_true_eq, decide_eq_true_eq] at h
  have k : ∀ i, i < 200 → (((i : Nat) : Int).natAbs.log2 < 1000 ∧ (Str.ofString (toString ((i : Nat) : Int))).length ≤ 1000) := by decide +kernel
  have e : i = ((i.toNat : Nat) : Int) := by omega
  rw [e]
  exact k _ (by omega)
theorem WA_mono {X : Cx} {es : List Expr} {σ : L2.St} {H : Hp} {Q Q' : List V → Hp → Prop} (h : WA X es σ H Q) (hq : ∀ v H, Q v H → Q' v H) : WA X es σ H Q' :=
  ⟨fun σ H Q' => ∃ Q, WA X es σ H Q ∧ ∀ v H, Q v H → Q' v H, ⟨fun pos pins s σ H Q' I ⟨Q, h, hq⟩ => wpAny_mono (paW.run pos pins s σ H Q I h) (fun u s' ⟨v, H', I', r, q⟩ => ⟨v, H', I', r, hq v H' q⟩) fun _ _ z => z⟩, Q, h, hq⟩
section
variable {P : Program} {w : World} {K : PySem.W.Frag} {mg : Str → Option Value} {base : Heap} {r scr C CP : Addr} {ns : List Int} {er : ErT} {k : Nat} {C0 : Sc0} {E : XK} {X : Cx}
theorem rai_ok (he : ∀ x A fo, er x = some (A, fo) → ErOk P K mg x A fo) (c : CxIs (PS K r scr ns C er) P w mg base k C0 E X) (x : Str) (args : List Expr) (f : List D → Option (List D)) (hf : errP er x args.length = some f) (p pos pos' : Pos) (D : Ends) (σ : L2.St) (H : Hp)
    (hg : isGlo C0.sc x = true) (hd : dbg x = false) (hs : args.any isStar = false)
    (h : WA X args σ H (fun vs H1 => ∃ ds B1 fs, Ok (PS K r scr ns C er) H1 B1 ∧ DrAll (PS K r scr ns C er) B1 vs ds ∧ f ds = some fs ∧ AftE (PS K r scr ns C er) H1 B1 E x fs)) : WS X (.Raise (some (.Call (.Name x p) args [] pos)) none pos') D σ H := by
  have hgl := c.glo hg
  have hdb : (x == ("__debug__" : Str)) = false := by
    unfold dbg at hd
    rw [Bool.or_eq_false_iff] at hd
    exact hd.1
  have tk := c.tk
  obtain ⟨e1, e2, e3, e4, e5, eN, nd, esc, fn, calm, room, pass, _, po⟩ := c
  have e3 : X.K = K := e3
  subst e1 e2 e3 e4 e5
  unfold errP at hf
  split at hf
  · -- plain
    rename_i A hx
    split at hf
    · rename_i hn
      cases hf
      cases args with
      | nil => cases hn
      | cons a es =>
        have hs' : isStar a = false ∧ es.any isStar = false := by rw [List.any_cons, Bool.or_eq_false_iff] at hs; exact hs
        have o := he x A none hx
        cases o with
        | plain o =>
          obtain ⟨Bn, newId, initId, bm, F, q⟩ := o.ex
          refine ⟨_, ps_raise calm tk (pmk_ownA F q o.g o.kp (raises_own o.sub o.ty) hgl paW hdb (star_cons hs'.1) (star_any hs'.2)), ?_⟩
          show WA X (a :: es) σ H fun vs H1 => vs.length ≤ sizeLine ∧ E (.ref A) none H1
          refine WA_mono h fun vs H1 ⟨ds, B1, fs, ok, rd, hds, ha⟩ => ?_
          unfold plnF at hds
          split at hds
          · cases hds
            obtain ⟨v, rfl, _⟩ := drAll_one rd
            exact ⟨by show 1 ≤ sizeLine; decide, ha (.ref A) none H1 B1 (Grow.refl ok) ⟨A, none, hx, rfl, rfl⟩⟩
          · cases hds
    · cases hf
  · -- a field
    rename_i A fd hx
    split at hf
    · rename_i h12
      subst h12
      split at hf
      · rename_i hn
        cases hf
        match args, hn with
        | [a, b], _ =>
          have hs' : isStar a = false ∧ isStar b = false := by
            rw [List.any_cons, List.any_cons, Bool.or_eq_false_iff, Bool.or_eq_false_iff] at hs
            exact ⟨hs.1, hs.2.1⟩
          have o := he x A (some F12) hx
          generalize hF : some F12 = fo at o
          cases o with
          | plain o => cases hF
          | part fI T => exact absurd (Option.some.inj hF) (by decide +kernel)
          | idx fI T => exact absurd (Option.some.inj hF) (by decide +kernel)
          | off fI T => exact absurd (Option.some.inj hF) (by decide +kernel)
          | two fI T =>
            refine ⟨_, ps_raiseTwo (W := fun cls d _ H => E cls d H) calm T room tk paW hgl hdb (star_cons hs'.1) (star_any (by rw [List.any_cons, hs'.2]; rfl)), ?_⟩
            refine WA_mono h fun vs H1 ⟨ds, B1, fs, ok, rd, hds, ha⟩ => ?_
            unfold fld2F at hds
            split at hds
            · split at hds
              · rename_i hz
                rw [Bool.and_eq_true] at hz
                cases hds
                obtain ⟨v, u, rfl, hv, hu⟩ := drAll_two rd
                cases hv
                cases hu
                exact ⟨_, _, rfl, msg_small hz.1, msg_small hz.2, fun d hd => ha (.ref A) (some d) _ B1 (Grow.open_ ok hd _) ⟨A, some _, hx, rfl, .inr ⟨rfl, d, _, _, rfl, rfl, upd_same⟩⟩⟩
              · cases hds
            · cases hds
      · cases hf
    rename_i h12
    split at hf
    · rename_i hn
      cases hf
      match args, hn with
      | [a], _ =>
        have hs' : isStar a = false := by rw [List.any_cons, Bool.or_eq_false_iff] at hs; exact hs.1
        have key : ∀ (F : Str), some fd = some F → ∀ vs H1, (∃ ds B1 fs, Ok (PS X.K r scr ns C er) H1 B1 ∧ DrAll (PS X.K r scr ns C er) B1 vs ds ∧ fldF ds = some fs ∧ AftE (PS X.K r scr ns C er) H1 B1 E x fs) → ∃ v, vs = [v] ∧ MsgV v ∧ ∀ d, H1 d = none → E (.ref A) (some d) (upd H1 d (.xd [(F, v)])) := fun F eF vs H1 ⟨ds, B1, fs, ok, rd, hds, ha⟩ => by
          cases eF
          unfold fldF at hds
          split at hds
          · split at hds
            · rename_i hz
              cases hds
              obtain ⟨v, rfl, hv⟩ := drAll_one rd
              cases hv
              exact ⟨_, rfl, hz, fun d hd => ha (.ref A) (some d) _ B1 (Grow.open_ ok hd _) ⟨A, some _, hx, rfl, .inl ⟨d, _, _, rfl, rfl, .str _, upd_same⟩⟩⟩
            · cases hds
          · split at hds
            · rename_i hz
              cases hds
              obtain ⟨v, rfl, hv⟩ := drAll_one rd
              cases hv
              exact ⟨_, rfl, msg_small hz, fun d hd => ha (.ref A) (some d) _ B1 (Grow.open_ ok hd _) ⟨A, some _, hx, rfl, .inl ⟨d, _, _, rfl, rfl, .int _, upd_same⟩⟩⟩
            · cases hds
          · cases hds
        have o := he x A (some fd) hx
        cases o with
        | two fI T => exact absurd rfl h12
        | part fI T =>
          refine ⟨_, ps_raisePart (W := fun cls d _ H => E cls d H) calm T room tk paW hgl hdb (star_cons hs') (star_any rfl), ?_⟩
          exact WA_mono h fun vs H1 q => key _ rfl vs H1 q
        | idx fI T =>
          refine ⟨_, ps_raiseIdx (W := fun cls d _ H => E cls d H) calm T room tk paW hgl hdb (star_cons hs') (star_any rfl), ?_⟩
          exact WA_mono h fun vs H1 q => by
            obtain ⟨v, e1, e2, e3⟩ := key _ rfl vs H1 q
            refine ⟨v, e1, ?_, e3⟩
            cases v <;> exact e2
        | off fI T =>
          refine ⟨_, ps_raiseOff (W := fun cls d _ H => E cls d H) calm T room tk paW hgl hdb (star_cons hs') (star_any rfl), ?_⟩
          exact WA_mono h fun vs H1 q => by
            obtain ⟨v, e1, e2, e3⟩ := key _ rfl vs H1 q
            refine ⟨v, e1, ?_, e3⟩
            cases v <;> exact e2
    · cases hf
  · cases hf
end
end Pg

/-! The base, and the law's end. -/
namespace Pg
open PySem PySem.Spec L2 Ev Kw PyProof.Rows
def infoP (cst : Str → Option D) (own : Str → Bool) (spc : (Str → List D → T D) → Form) (spi : (Str → List D → T D) → Scope → Expr → Expr → Option ((Expr → T D) → T (List D))) : Info :=
  { cst := cst, own := own, attN := attN, att := fun f d => attP f d, lenO := lenP, eqO := eqP, spc := spc, spi := spi }
/-- the built-in names stay as they are -/
def Stay (mg : Str → Option Value) : Prop := ∀ x : Str, x ∈ (["len", "int", "tuple", "list", "all", "any", "max", "min", "sum", "sorted", "range", "enumerate", "zip", "isinstance", "bool", "str", "set"] : List Str) → mg x = none
theorem Stay.blt {mg : Str → Option Value} (h : Stay mg) : ∀ f w, bltV f = some w → mg f = none := fun f w e => by
  unfold bltV at e
  repeat' split at e
  all_goals first | (cases e; done) | (subst_vars; exact h _ (by simp))
theorem Stay.ty {mg : Str → Option Value} (h : Stay mg) : ∀ t, isTyN t = true → mg t = none := fun t e => by
  unfold isTyN at e
  simp only [Bool.or_eq_true, decide_eq_true_eq] at e
  rcases e with (((e | e) | e) | e) | e <;> (subst e; exact h _ (by simp))
/-- the forms that any text has -/
def form0 : Form := orF fIsi (orF fSortSet (orF fTupRg fMth))
section
variable {P : Program} {w : World} {K : PySem.W.Frag} {mg : Str → Option Value} {base : Heap} {r scr C CP : Addr} {ns : List Int} {er : ErT} {k : Nat}
theorem spc_form0 {S : Sem0} (st : Stay mg) : Spc S P w mg base k form0 :=
  spc_or (spc_isi (st _ (by simp)) st.ty) (spc_or (spc_sortSet (st _ (by simp)) (st _ (by simp))) (spc_or (spc_tupRg (st _ (by simp)) (st _ (by simp))) spc_mth))
theorem base_mk {cst : Str → Option D} {own : Str → Bool} {spc : (Str → List D → T D) → Form} {spi : (Str → List D → T D) → Scope → Expr → Expr → Option ((Expr → T D) → T (List D))} {prim : Str → Option (List D → T D)} {tbl : Str → Option Fn} {k0 : Nat} (hk : 2 ≤ k0) (A : PkAll P w K mg base C) (st : Stay mg) (he : ∀ x A fo, er x = some (A, fo) → ErOk P K mg x A fo)
    (own_ok : ∀ f, own f = true → (prim f).isSome = true ∨ (tbl f).isSome = true) (prims : ∀ f p, prim f = some p → PrimT (PS K r scr ns C er) P w mg base k0 f p) (defs : ∀ f fn, tbl f = some fn → FnT (PS K r scr ns C er) mg f fn)
    (csts : ∀ x d, cst x = some d → ∃ (v : V) (u : Value), mg x = some u ∧ RelV v u ∧ ∀ B, Dr (PS K r scr ns C er) B v d)
    (hspc : ∀ k call, k0 ≤ k → Spc (PS K r scr ns C er) P w mg base k (spc call)) (hspi : ∀ k call, k0 ≤ k → Spi (PS K r scr ns C er) P w mg base k (spi call)) :
    Base (PS K r scr ns C er) (infoP cst own spc spi) P w mg base k0 (errP er) prim tbl where
  own := own_ok
  prims := prims
  defs := defs
  spc := fun k call h _ => hspc k call h
  spi := fun k call h _ => hspi k call h
  cst := csts
  blt := st.blt
  rng := st _ (by simp)
  enm := st _ (by simp)
  zip := st _ (by simp)
  ob := fun k h C0 E X c => hooks_ok rfl rfl A (Nat.le_trans hk h) c
  attE := attP_E
  att := fun k h C0 E X c o f pos σ H Q hn hc hh => att_ok A (Nat.le_trans hk h) c hn hc hh
  rai := fun k h C0 E X c x args f hf p pos pos' D σ H hg hd hs hh => rai_ok he c x args f hf p pos pos' D σ H hg hd hs hh
theorem spi_none {S : Sem0} : Spi S P w mg base k fun _ _ _ => none := fun C E X c tg e f hf => by cases hf
/-- what a text's own def tells, as something known -/
theorem primT_of {S : Sem0} {G : Info} {call : Str → List D → T D} (h : Fns S G P w mg base k call) {f : Str} (hf : G.own f = true) : PrimT S P w mg base k f (call f) := by
  obtain ⟨a, fd, ps, sp, F, hm, hk, hb, hs⟩ := h f hf
  exact ⟨⟨a, fd, ps, sp, F, hm, hk, hb, hs⟩⟩
theorem primT_mono {S : Sem0} {f : Str} {p : List D → T D} {j : Nat} (h : PrimT S P w mg base j f p) (hj : j ≤ k) : PrimT S P w mg base k f p := by
  obtain ⟨a, fd, ps, sp, F, hm, hk, hb, hs⟩ := h.ex
  exact ⟨⟨a, fd, ps, sp, F.mono hj, hm, hk, hb, hs⟩⟩
/-! ### the law -/
def spLaw (K : PySem.W.Frag) : Sp := fun vs H Q _ => ∃ (a : Addr) (ns : List Int), vs = [.ref a] ∧ SqL K H a (ns.map V.int) ∧ ns.length ≤ 63 ∧ ∀ H', Q (.bl true) H'
/-- _law_row = [_law_script, 0, 0, 0] -/
def rowSt (x s : Str) (p1 p2 p3 p4 p5 p6 p7 : Pos) (j1 j2 j3 : Nat) : Stmt := .Assign [.Name x p1] (.List [.Name s p2, .Constant (.int 0) j1 p3, .Constant (.int 0) j2 p4, .Constant (.int 0) j3 p5] p6) p7
theorem ok_law {N : List Str} {G : Info} {f : Addr} {fd : FuncData} {st : Stmt} {rest : List Stmt} {mu : List Str} {m : Nat} {call : Str → List D → T D} {err : ErrF} {x : Str} {p1 p2 p3 p4 p5 p6 p7 : Pos} {j1 j2 j3 : Nat}
    (F : Fun K "law" "law" st f fd) (sc : FnScope N ["_law_script"] (defScope st)) (hb : defBody st = rowSt x "_law_script" p1 p2 p3 p4 p5 p6 p7 j1 j2 j3 :: rest) (h0 : ixOf "_law_script" N = some 0) (h1 : ixOf x N = some 1) (hv0 : isVis (defScope st) "_law_script" = true) (hx : isLoc ⟨N, defScope st, fun _ => true⟩ x = true)
    (tx : ∀ r scr ns, TextS (PS K r scr ns C er) G P w mg base k call err)
    (hrun : wpT (exB G call err ⟨N, defScope st, fun _ => true⟩ mu m (.emp :: .dat .row :: List.replicate (N.length - 2) .emp) rest) (fun fl => fl = .rt (.bl true)) (fun _ _ => False)) :
    FnOk P w K mg base (L2.CX P w) (k + 1) f fd ["_law_script"] (spLaw K) := by
  refine F.okX sc (fun vs H Q E h => ?_) fun cdv A outer s H vs Q E hr h => ?_
  · obtain ⟨a, ns, rfl, _⟩ := h
    rfl
  · obtain ⟨a, ns, rfl, hS, hlen, q⟩ := h
    have cx : ∀ r, CxIs (PS K r a ns C er) P w mg base k ⟨N, defScope st, fun _ => true⟩ E (cxOf (L2.CX P w) P w K mg base N "law" (defScope st) f cdv A outer s H E) := fun r =>
      ⟨rfl, rfl, rfl, rfl, rfl, rfl, sc.nd, rfl, fun x _ => rfl, rfl, hr, passes_call (takes_of rfl rfl rfl rfl) (fun _ _ _ _ h => h), takes_of rfl rfl rfl rfl, passes_of rfl⟩
    have hN : 2 ≤ N.length := by
      have := (List.getElem?_eq_some_iff.mp (ixOf_at h1)).1
      omega
    obtain ⟨n, hn⟩ : ∃ n, N.length = n + 2 := ⟨N.length - 2, by omega⟩
    refine ⟨WSs _ (defBody st), pssW, ?_⟩
    rw [hb]
    refine ⟨_, pss_cons psW pssW, ?_⟩
    refine ws_set (cx 0) hx h1 ?_ (fun z => by cases z) (fun z => by cases z)
    refine ⟨_, pe_lst (pa_cons (pe_var (i := 0) (ixOf_at h0) (vis_of hv0) (by decide +kernel) (by decide +kernel)) (pa_cons pe_int (pa_cons pe_int (pa_cons pe_int pa_nil)))), ?_⟩
    refine ⟨.ref a, ?_, by show 4 ≤ sizeLine; decide, fun r hr0 => ?_⟩
    · show (L2.start N [.ref a])[0]? = _
      rfl
    have ok : Ok (PS K r a ns C er) (upd H r (rowO a 0 0 0)) H := by
      refine ⟨fun c u e => by rw [upd_ne (ne_of_none e hr0)]; exact e, ⟨⟨0, 0, 0, upd_same, by omega, by omega, by omega, by omega⟩, ?_, hlen⟩, hr0, ⟨_, upd_same⟩⟩
      rcases hS with h | h
      · refine .inl ⟨fun z => ?_, h⟩
        subst z
        rcases h with h | ⟨o, h⟩ <;> (rw [hr0] at h; cases h)
      · exact .inr h
    have es : (L2.start N [.ref a]).set 1 (some (.ref r)) = some (.ref a) :: some (.ref r) :: List.replicate n none := by
      unfold L2.start
      rw [hn]
      rfl
    dsimp only
    rw [es]
    have rp : Rep (PS K r a ns C er) (upd H r (rowO a 0 0 0)) H (.emp :: .dat .row :: List.replicate (N.length - 2) .emp) (some (.ref a) :: some (.ref r) :: List.replicate n none) (upd H r (rowO a 0 0 0)) H := by
      refine ⟨Grow.refl ok, by simp [hn], fun i d e => ?_, fun i l e => ?_, fun i j b l m e => ?_⟩
      · match i, e with
        | 0, e => cases e
        | 1, e =>
          cases e
          exact ⟨.ref r, rfl, .row⟩
        | i + 2, e =>
          have e : (List.replicate (N.length - 2) Sl.emp)[i]? = some (.dat d) := e
          rw [List.getElem?_replicate] at e
          split at e <;> cases e
      · exfalso
        match i, e with
        | 0, e => cases e
        | 1, e => cases e
        | i + 2, e =>
          have e : (List.replicate (N.length - 2) Sl.emp)[i]? = some (.own l) := e
          rw [List.getElem?_replicate] at e
          split at e <;> cases e
      · exfalso
        match i, e with
        | 0, e => cases e
        | 1, e => cases e
        | i + 2, e =>
          have e : (List.replicate (N.length - 2) Sl.emp)[i]? = some (.own l) := e
          rw [List.getElem?_replicate] at e
          split at e <;> cases e
    refine (sound_s (tx r a ns) m).2 ⟨N, defScope st, fun _ => true⟩ E _ (cx r) sc.kind _ mu rest _ _ _ _ _ _ rp (wpT_mono hrun (fun fl hfl => ?_) fun _ _ z => z.elim)
    subst hfl
    intro v H' B' g rd
    cases rd
    exact q H'
end
end Pg

/-! Both texts: the checks alone, then all. -/
namespace Pg
open PySem PySem.Spec L2 Ev Kw PyProof.Rows
/-- the defs of a table stand in the text -/
def DefsOk (K : PySem.W.Frag) (mg : Str → Option Value) (tab : List (Str × Stmt)) : Prop := ∀ f st, tab.lookup f = some st → ∃ (x qual : Str) (a : Addr) (fd : FuncData), Fun K x qual st a fd ∧ fnGood st = true ∧ mg f = some (.ref a) ∧ Binds K fd (fnSt st).ps []
def cstP : Str → Option D := fun x => if x = "LONGEST_SIDE" then some (.int 4) else if x = "MOST_CELLS" then some (.int 9) else if x = "MOST_SHEETS" then some (.int 4) else none
structure CstOk (mg : Str → Option Value) : Prop where
  side : ∃ t, mg "LONGEST_SIDE" = some (.int 4 t)
  cells : ∃ t, mg "MOST_CELLS" = some (.int 9 t)
  sheets : ∃ t, mg "MOST_SHEETS" = some (.int 4 t)
theorem cst_ok {S : Sem0} {mg : Str → Option Value} (h : CstOk mg) : ∀ x d, cstP x = some d → ∃ (v : V) (u : Value), mg x = some u ∧ RelV v u ∧ ∀ B, Dr S B v d := fun x d e => by
  unfold cstP at e
  obtain ⟨t1, h1⟩ := h.side
  obtain ⟨t2, h2⟩ := h.cells
  obtain ⟨t3, h3⟩ := h.sheets
  split at e
  · rename_i q
    subst q
    cases e
    exact ⟨.int 4, _, h1, ⟨t1, rfl⟩, fun B => .int 4⟩
  · split at e
    · rename_i q
      subst q
      cases e
      exact ⟨.int 9, _, h2, ⟨t2, rfl⟩, fun B => .int 9⟩
    · split at e
      · rename_i q
        subst q
        cases e
        exact ⟨.int 4, _, h3, ⟨t3, rfl⟩, fun B => .int 4⟩
      · cases e
/-- the checks -/
def infoC (tab : List (Str × Stmt)) : Info := infoP cstP (fun f => (tblOf tab f).isSome) (fun _ => form0) fun _ _ _ _ => none
def wpC (er : ErT) (tab : List (Str × Stmt)) (fuel : Nat) : List D → T D := callN (infoC tab) (errP er) (fun _ => none) (tblOf tab) fuel 8 "wrong_part"
def primL : Str → Option (List D → T D) := fun f => if f = "_law_taken" then some takenP else none
/-- all -/
def infoA (er : ErT) (tab0 tab : List (Str × Stmt)) (fuel : Nat) : Info := infoP cstP (fun f => (primL f).isSome || (tblOf tab f).isSome) (fun _ => orF (fNew (wpC er tab0 fuel)) form0) fun _ _ _ _ => none
def callA (er : ErT) (tab0 tab : List (Str × Stmt)) (fuel n : Nat) : Str → List D → T D := callN (infoA er tab0 tab fuel) (errP er) primL (tblOf tab) fuel n
section
variable {P : Program} {w : World} {K : PySem.W.Frag} {mg : Str → Option Value} {base : Heap} {r scr C CP fP : Addr} {ns : List Int} {er : ErT} {fuel : Nat} {tab0 tab : List (Str × Stmt)}
theorem defs_of {S : Sem0} (h : DefsOk S.K mg tab) : ∀ f fn, tblOf tab f = some fn → FnT S mg f fn := fun f fn e => by
  unfold tblOf at e
  cases q : tab.lookup f with
  | none => rw [q] at e; cases e
  | some st =>
    rw [q] at e
    cases e
    obtain ⟨x, qual, a, fd, F, g, hm, hb⟩ := h f st q
    exact fnT_mk F g hm hb
/-- what a program's end has to bring -/
structure Facts (P : Program) (w : World) (K : PySem.W.Frag) (mg : Str → Option Value) (base : Heap) (C CP fP : Addr) (er : ErT) (tab0 tab : List (Str × Stmt)) : Prop where
  A : PkAll P w K mg base C
  st : Stay mg
  he : ∀ x A fo, er x = some (A, fo) → ErOk P K mg x A fo
  hP : er "InvalidPacket" = some (CP, some Xp.F1)
  tp : Xp.PTxt P K mg "InvalidPacket" CP fP
  cs : CstOk mg
  d0 : DefsOk K mg tab0
  d1 : DefsOk K mg tab
  w0 : (tblOf tab0 "wrong_part").isSome = true
  ini : ∃ (f : Addr) (fd : FuncData), Fun K "__init__" "Packet.__init__" Kn.sInit f fd ∧ Mk K C f ∧ Binds K fd ["self", "width", "height", "sheets"] []
  tk : Has P w K mg base CX0 1 "_law_taken" ["_law_row", "_law_many"] (Kn.spTaken K)
theorem text_mk (h : Facts P w K mg base C CP fP er tab0 tab) (n : Nat) : TextS (PS K r scr ns C er) (infoA er tab0 tab fuel) P w mg base (12 + n) (callA er tab0 tab fuel n) (errP er) := by
  have b0 : Base (PS K r scr ns C er) (infoC tab0) P w mg base 2 (errP er) (fun _ => none) (tblOf tab0) :=
    base_mk (Nat.le_refl 2) h.A h.st h.he (fun f hf => .inr hf) (fun f p e => by cases e) (defs_of h.d0) (cst_ok h.cs) (fun k call hk => spc_form0 h.st) fun k call hk => spi_none
  have t0 := text_n (fuel := fuel) b0 tbl_fn 8
  have W : PrimT (PS K r scr ns C er) P w mg base 10 "wrong_part" (wpC er tab0 fuel) := primT_of t0.tx.fns (f := "wrong_part") h.w0
  obtain ⟨fI, fdI, FI, mk, bI⟩ := h.ini
  have N : PkNew (PS K r scr ns C er) P w mg base C CP (wpC er tab0 fuel) 11 := ⟨⟨fI, fdI, mk, ok_init rfl FI h.A.T h.tp W, bI⟩, h.A.T.g⟩
  have b1 : Base (PS K r scr ns C er) (infoA er tab0 tab fuel) P w mg base 12 (errP er) primL (tblOf tab) :=
    base_mk (by decide) h.A h.st h.he (fun f hf => by
      rw [Bool.or_eq_true] at hf
      exact hf) (fun f p e => by
      unfold primL at e
      split at e
      · rename_i q
        subst q
        cases e
        exact primT_mono (prim_taken h.tk) (by decide)
      · cases e) (defs_of h.d1) (cst_ok h.cs) (fun k call hk => spc_or (spc_new N hk h.hP) (spc_form0 h.st)) fun k call hk => spi_none
  exact text_n b1 tbl_fn n
end
end Pg

/-! The text of a law without pieces, its constants from a table. -/
namespace Pg
open PySem PySem.Spec L2 Ev Kw PyProof.Rows
def cstL (l : List (Str × D)) : Str → Option D := fun x => l.lookup x
/-- the constants are there -/
def CstOkL (mg : Str → Option Value) (l : List (Str × D)) : Prop := ∀ x d, l.lookup x = some d → (∃ i t, d = .int i ∧ mg x = some (.int i t)) ∨ (∃ z t, d = .str z ∧ mg x = some (.str z t))
theorem cst_okL {S : Sem0} {mg : Str → Option Value} {l : List (Str × D)} (h : CstOkL mg l) : ∀ x d, cstL l x = some d → ∃ (v : V) (u : Value), mg x = some u ∧ RelV v u ∧ ∀ B, Dr S B v d := fun x d e => by
  rcases h x d e with ⟨i, t, rfl, hm⟩ | ⟨z, t, rfl, hm⟩
  · exact ⟨.int i, _, hm, ⟨t, rfl⟩, fun B => .int i⟩
  · exact ⟨.str z, _, hm, ⟨t, rfl⟩, fun B => .str z⟩
def form1 : Form := orF fSIx (orF fStar form0)
def infoC1 (cst : List (Str × D)) (tab0 : List (Str × Stmt)) : Info := infoP (cstL cst) (fun f => (tblOf tab0 f).isSome) (fun _ => form1) fun _ => iRg3
def wpK (er : ErT) (cst : List (Str × D)) (tab0 : List (Str × Stmt)) (fuel : Nat) : List D → T D := callN (infoC1 cst tab0) (errP er) (fun _ => none) (tblOf tab0) fuel 8 "wrong_part"
def infoK (er : ErT) (cst : List (Str × D)) (tab0 tab : List (Str × Stmt)) (fuel : Nat) : Info := infoP (cstL cst) (fun f => (primL f).isSome || (tblOf tab f).isSome) (fun _ => orF (fNew (wpK er cst tab0 fuel)) form1) fun _ => iRg3
def callK (er : ErT) (cst : List (Str × D)) (tab0 tab : List (Str × Stmt)) (fuel n : Nat) : Str → List D → T D := callN (infoK er cst tab0 tab fuel) (errP er) primL (tblOf tab) fuel n
section
variable {P : Program} {w : World} {K : PySem.W.Frag} {mg : Str → Option Value} {base : Heap} {r scr C CP fP : Addr} {ns : List Int} {er : ErT} {fuel : Nat} {cst : List (Str × D)} {tab0 tab : List (Str × Stmt)}
/-- what a program's end has to bring -/
structure FactsK (P : Program) (w : World) (K : PySem.W.Frag) (mg : Str → Option Value) (base : Heap) (C CP fP : Addr) (er : ErT) (cst : List (Str × D)) (tab0 tab : List (Str × Stmt)) : Prop where
  A : PkAll P w K mg base C
  st : Stay mg
  he : ∀ x A fo, er x = some (A, fo) → ErOk P K mg x A fo
  hP : er "InvalidPacket" = some (CP, some Xp.F1)
  tp : Xp.PTxt P K mg "InvalidPacket" CP fP
  cs : CstOkL mg cst
  d0 : DefsOk K mg tab0
  d1 : DefsOk K mg tab
  w0 : (tblOf tab0 "wrong_part").isSome = true
  ini : ∃ (f : Addr) (fd : FuncData), Fun K "__init__" "Packet.__init__" Kn.sInit f fd ∧ Mk K C f ∧ Binds K fd ["self", "width", "height", "sheets"] []
  tk : Has P w K mg base CX0 1 "_law_taken" ["_law_row", "_law_many"] (Kn.spTaken K)
theorem spc_form1 {S : Sem0} {k : Nat} (st : Stay mg) : Spc S P w mg base k form1 := spc_or spc_six (spc_or spc_star (spc_form0 st))
theorem text_mkK (h : FactsK P w K mg base C CP fP er cst tab0 tab) (n : Nat) : TextS (PS K r scr ns C er) (infoK er cst tab0 tab fuel) P w mg base (12 + n) (callK er cst tab0 tab fuel n) (errP er) := by
  have b0 : Base (PS K r scr ns C er) (infoC1 cst tab0) P w mg base 2 (errP er) (fun _ => none) (tblOf tab0) :=
    base_mk (Nat.le_refl 2) h.A h.st h.he (fun f hf => .inr hf) (fun f p e => by cases e) (defs_of h.d0) (cst_okL h.cs) (fun k call hk => spc_form1 h.st) fun k call hk => spi_rg3 (h.st _ (by simp))
  have t0 := text_n (fuel := fuel) b0 tbl_fn 8
  have W : PrimT (PS K r scr ns C er) P w mg base 10 "wrong_part" (wpK er cst tab0 fuel) := primT_of t0.tx.fns (f := "wrong_part") h.w0
  obtain ⟨fI, fdI, FI, mk, bI⟩ := h.ini
  have N : PkNew (PS K r scr ns C er) P w mg base C CP (wpK er cst tab0 fuel) 11 := ⟨⟨fI, fdI, mk, ok_init rfl FI h.A.T h.tp W, bI⟩, h.A.T.g⟩
  have b1 : Base (PS K r scr ns C er) (infoK er cst tab0 tab fuel) P w mg base 12 (errP er) primL (tblOf tab) :=
    base_mk (by decide) h.A h.st h.he (fun f hf => by
      rw [Bool.or_eq_true] at hf
      exact hf) (fun f p e => by
      unfold primL at e
      split at e
      · rename_i q
        subst q
        cases e
        exact primT_mono (prim_taken h.tk) (by decide)
      · cases e) (defs_of h.d1) (cst_okL h.cs) (fun k call hk => spc_or (spc_new N hk h.hP) (spc_form1 h.st)) fun k call hk => spi_rg3 (h.st _ (by simp))
  exact text_n b1 tbl_fn n
end
end Pg

/-! The text of a law without pieces, with more forms: split, int(text), enumerate with a start. -/
namespace Pg
open PySem PySem.Spec L2 Ev Kw PyProof.Rows
def form2 : Form := orF fSplit (orF fInt form1)
def iW2 : FormI := orI iEnS iRg3
def infoV (er : ErT) (cst : List (Str × D)) (tab0 tab : List (Str × Stmt)) (fuel : Nat) : Info := infoP (cstL cst) (fun f => (primL f).isSome || (tblOf tab f).isSome) (fun _ => orF (fNew (wpK er cst tab0 fuel)) form2) fun _ => iW2
def callV (er : ErT) (cst : List (Str × D)) (tab0 tab : List (Str × Stmt)) (fuel n : Nat) : Str → List D → T D := callN (infoV er cst tab0 tab fuel) (errP er) primL (tblOf tab) fuel n
section
variable {P : Program} {w : World} {K : PySem.W.Frag} {mg : Str → Option Value} {base : Heap} {r scr C CP fP : Addr} {ns : List Int} {er : ErT} {fuel : Nat} {cst : List (Str × D)} {tab0 tab : List (Str × Stmt)}
theorem spc_form2 {S : Sem0} {k : Nat} (st : Stay mg) : Spc S P w mg base k form2 := spc_or spc_split (spc_or (spc_int (st _ (by simp))) (spc_form1 st))
theorem spi_w2 {S : Sem0} {k : Nat} (st : Stay mg) : Spi S P w mg base k iW2 := spi_or (spi_ens (st _ (by simp))) (spi_rg3 (st _ (by simp)))
theorem text_mkV (h : FactsK P w K mg base C CP fP er cst tab0 tab) (n : Nat) : TextS (PS K r scr ns C er) (infoV er cst tab0 tab fuel) P w mg base (12 + n) (callV er cst tab0 tab fuel n) (errP er) := by
  have b0 : Base (PS K r scr ns C er) (infoC1 cst tab0) P w mg base 2 (errP er) (fun _ => none) (tblOf tab0) :=
    base_mk (Nat.le_refl 2) h.A h.st h.he (fun f hf => .inr hf) (fun f p e => by cases e) (defs_of h.d0) (cst_okL h.cs) (fun k call hk => spc_form1 h.st) fun k call hk => spi_rg3 (h.st _ (by simp))
  have t0 := text_n (fuel := fuel) b0 tbl_fn 8
  have W : PrimT (PS K r scr ns C er) P w mg base 10 "wrong_part" (wpK er cst tab0 fuel) := primT_of t0.tx.fns (f := "wrong_part") h.w0
  obtain ⟨fI, fdI, FI, mk, bI⟩ := h.ini
  have N : PkNew (PS K r scr ns C er) P w mg base C CP (wpK er cst tab0 fuel) 11 := ⟨⟨fI, fdI, mk, ok_init rfl FI h.A.T h.tp W, bI⟩, h.A.T.g⟩
  have b1 : Base (PS K r scr ns C er) (infoV er cst tab0 tab fuel) P w mg base 12 (errP er) primL (tblOf tab) :=
    base_mk (by decide) h.A h.st h.he (fun f hf => by
      rw [Bool.or_eq_true] at hf
      exact hf) (fun f p e => by
      unfold primL at e
      split at e
      · rename_i q
        subst q
        cases e
        exact primT_mono (prim_taken h.tk) (by decide)
      · cases e) (defs_of h.d1) (cst_okL h.cs) (fun k call hk => spc_or (spc_new N hk h.hP) (spc_form2 h.st)) fun k call hk => spi_w2 h.st
  exact text_n b1 tbl_fn n
end
end Pg

/-! A text's parts by name; what is read, step by step. -/
namespace Ev
open PySem PySem.Spec L2 PyProof.Rows
def dE : Expr := .Constant .none 0 ⟨0, 0, 0, 0⟩
def stAt (l : List Stmt) (i : Nat) : Stmt := l.getD i (.Pass ⟨0, 0, 0, 0⟩)
def xA : Expr → Expr
  | .BinOp a _ _ _ => a
  | .UnaryOp _ a _ => a
  | .Compare a _ _ _ => a
  | .IfExp c _ _ _ => c
  | .Attribute o _ _ => o
  | .Subscript a _ _ => a
  | .Call f _ _ _ => f
  | .ListComp e _ _ _ => e
  | .Starred e _ => e
  | _ => dE
def xB : Expr → Expr
  | .BinOp _ _ b _ => b
  | .IfExp _ a _ _ => a
  | .Subscript _ b _ => b
  | _ => dE
def xC : Expr → Expr
  | .IfExp _ _ c _ => c
  | _ => dE
def xN (i : Nat) : Expr → Expr
  | .BoolOp _ vs _ => vs.getD i dE
  | .Compare _ _ bs _ => bs.getD i dE
  | .Tuple es _ _ => es.getD i dE
  | .List es _ => es.getD i dE
  | .Call _ args _ _ => args.getD i dE
  | _ => dE
def xLo : Expr → Expr
  | .Slice (some a) _ _ _ => a
  | _ => dE
def xHi : Expr → Expr
  | .Slice _ (some a) _ _ => a
  | _ => dE
def xIt : Expr → Expr
  | .ListComp _ (g :: _) _ _ => g.iter
  | _ => dE
def xTg : Expr → Expr
  | .ListComp _ (g :: _) _ _ => g.target
  | _ => dE
def xIf : Expr → Expr
  | .ListComp _ (g :: _) _ _ => g.ifs.getD 0 dE
  | _ => dE
def xSc (C : Sc0) : Expr → Sc0
  | .ListComp _ _ sc _ => C.blk sc
  | _ => C
def sE : Stmt → Expr
  | .Return (some e) _ => e
  | .Expr e _ => e
  | .Assign _ e _ => e
  | .If c _ _ _ => c
  | .While c _ _ _ => c
  | .For _ it _ _ _ => it
  | .Raise (some e) _ _ => e
  | _ => dE
def sT : Stmt → Expr
  | .Assign ts _ _ => ts.getD 0 dE
  | .For t _ _ _ _ => t
  | _ => dE
def sA : Stmt → List Stmt
  | .If _ a _ _ => a
  | .While _ a _ _ => a
  | .For _ _ a _ _ => a
  | _ => []
def sB : Stmt → List Stmt
  | .If _ _ b _ => b
  | _ => []
/-! ### what is read -/
theorem bindc {α β : Type} {t t' : T α} {f : α → T β} (h : t = t') : t.bind f = t'.bind f := by rw [h]
def seqF (k : List Sl → T Fl) : Fl → T Fl
  | .nx ρ => k ρ
  | fl => .ret fl
/-- a list taken by a name that is written -/
def takeL (ρ ρf : List Sl) : D → T (Sl × List Sl)
  | .lst l => .ret (.own l, if l.all D.flat then ρ else ρf)
  | _ => .fail
def ownS (ρ : List Sl) (i : Nat) : Option (List D) := match ρ[i]? with
  | some (.own l) => some l
  | _ => none
def appK (C : Sc0) (x : Str) (r : D × List Sl) : T Fl := match ownAt C r.2 x with
  | some (i', l') => if l'.length < most then .ret (.nx (r.2.set i' (.own (l' ++ [r.1])))) else .fail
  | none => .fail
def extK (C : Sc0) (x : Str) (r : D × List Sl) : T Fl := match ownAt C r.2 x with
  | some (i', l') => (match r.1 with
    | .lst l2 => if l'.length + l2.length ≤ most then .ret (.nx (r.2.set i' (.own (l' ++ l2)))) else .fail
    | _ => .fail)
  | none => .fail
section
variable {G : Info} {call : Str → List D → T D} {err : ErrF} {C : Sc0} {mu : List Str} {m : Nat} {ρ : List Sl}
theorem exB_nil : exB G call err C mu (m + 1) ρ [] = .ret (.nx ρ) := rfl
theorem exB_one {st : Stmt} : exB G call err C mu (m + 1) ρ [st] = exS G call err C mu m ρ st := rfl
theorem exB_cons {st b : Stmt} {r : List Stmt} : exB G call err C mu (m + 1) ρ (st :: b :: r) = (exS G call err C mu m ρ st).bind (seqF fun ρ' => exB G call err C mu m ρ' (b :: r)) := by
  show (exS G call err C mu m ρ st).bind _ = _
  refine congrArg _ (funext fun fl => ?_)
  cases fl <;> rfl
theorem seqF_nx {k : List Sl → T Fl} : seqF k (.nx ρ) = k ρ := rfl
theorem seqF_rt {k : List Sl → T Fl} {d : D} : seqF k (.rt d) = .ret (.rt d) := rfl
theorem seqF_bk {k : List Sl → T Fl} : seqF k (.bk ρ) = .ret (.bk ρ) := rfl
theorem seqF_ct {k : List Sl → T Fl} : seqF k (.ct ρ) = .ret (.ct ρ) := rfl
theorem ofFl_rt {d : D} : ofFl (.rt d) = .ret d := rfl
theorem ofFl_nx : ofFl (.nx ρ) = .ret .non := rfl
theorem frz_nil {xs : List Str} : frzR xs [] ρ = ρ := by cases ρ <;> rfl
theorem frz_dat' {xs N : List Str} {n : Str} {d : D} : frzR xs (n :: N) (.dat d :: ρ) = .dat d :: frzR xs N ρ := rfl
theorem frz_emp {xs N : List Str} {n : Str} : frzR xs (n :: N) (.emp :: ρ) = .emp :: frzR xs N ρ := rfl
theorem frz_own' {xs N : List Str} {n : Str} {l : List D} : frzR xs (n :: N) (.own l :: ρ) = (if xs.contains n then .dat (.lst l) else .own l) :: frzR xs N ρ := rfl
theorem slot_0 {d : D} : slotD (.dat d :: ρ) 0 = .ret d := rfl
theorem slot_s {s : Sl} {k : Nat} : slotD (s :: ρ) (k + 1) = slotD ρ k := rfl
theorem set_0 {s t : Sl} : (s :: ρ).set 0 t = t :: ρ := rfl
theorem set_s {s t : Sl} {k : Nat} : (s :: ρ).set (k + 1) t = s :: ρ.set k t := rfl
theorem ownS_0 {l : List D} : ownS (.own l :: ρ) 0 = some l := rfl
theorem ownS_s {s : Sl} {k : Nat} : ownS (s :: ρ) (k + 1) = ownS ρ k := rfl
theorem ownAt_ix {y : Str} {i : Nat} (h : ixOf y C.N = some i) : ownAt C ρ y = (ownS ρ i).map fun l => (i, l) := by
  unfold ownAt ownS
  rw [h]
  dsimp only
  cases ρ[i]? with
  | none => rfl
  | some s => cases s <;> rfl
theorem asBl_bl {b : Bool} : asBl (.bl b) = .ret b := rfl
theorem asInt_int {b : Int} : asInt (.int b) = .ret b := rfl
theorem mapT_nil {α β : Type} {f : α → T β} : mapT f [] = .ret [] := rfl
theorem mapT_cons {α β : Type} {f : α → T β} {a : α} {l : List α} : mapT f (a :: l) = (f a).bind fun b => (mapT f l).bind fun bs => .ret (b :: bs) := rfl
theorem known_ret {α : Type} {d : D} {f : D → T α} : known (.ret d) f = f d := rfl
theorem sure_ret {α : Type} {d : D} {f : D → T α} : sure (.ret d) f = f d := rfl
theorem known_c {α : Type} {t t' : T D} {f : D → T α} (h : t = t') : known t f = known t' f := by rw [h]
theorem sure_c {α : Type} {t t' : T D} {f : D → T α} (h : t = t') : sure t f = sure t' f := by rw [h]
theorem evV_eq {e : Expr} : evV G call C m ρ e = (evE G call m C (frzR (nmE m e) C.N ρ) e).bind fun d => .ret (d, if d.flat then ρ else frzR (nmE m e) C.N ρ) := rfl
theorem evTV_eq {e : Expr} : evTV G call C m ρ e = evT G call m C (frzR (nmE m e) C.N ρ) e := rfl
theorem takeL_lst {ρf : List Sl} {l : List D} : takeL ρ ρf (.lst l) = .ret (.own l, if l.all D.flat then ρ else ρf) := rfl
theorem exS_app {st : Stmt} {x : Str} {xp apos cpos pos : Pos} {a : Expr} {i : Nat} (hst : st = .Expr (.Call (.Attribute (.Name x xp) "append" apos) [a] [] cpos) pos) (hv : (isVis C.sc x && !dbg x && !isStar a && (apos.endLine == cpos.line)) = true) (hi : ixOf x C.N = some i) (ho' : (ownS ρ i).isSome = true) :
    exS G call err C mu (m + 1) ρ st = (evP G call C m ρ a).bind (appK C x) := by
  subst hst
  obtain ⟨l, ho⟩ := Option.isSome_iff_exists.mp ho'
  simp only [Bool.and_eq_true, Bool.not_eq_true'] at hv
  have e : appOf C ρ (.Call (.Attribute (.Name x xp) "append" apos) [a] [] cpos) = some (x, a) := if_pos ⟨rfl, hv.1.1.1, hv.1.1.2, hv.1.2, hv.2, by rw [ownAt_ix hi, ho]; rfl⟩
  rw [exS, e]
  rfl
theorem exS_ext {st : Stmt} {x : Str} {xp apos cpos pos : Pos} {a : Expr} {i : Nat} (hst : st = .Expr (.Call (.Attribute (.Name x xp) "extend" apos) [a] [] cpos) pos) (hv : (isVis C.sc x && !dbg x && !isStar a && (apos.endLine == cpos.line)) = true) (hi : ixOf x C.N = some i) (ho' : (ownS ρ i).isSome = true) :
    exS G call err C mu (m + 1) ρ st = (evP G call C m ρ a).bind (extK C x) := by
  subst hst
  obtain ⟨l, ho⟩ := Option.isSome_iff_exists.mp ho'
  simp only [Bool.and_eq_true, Bool.not_eq_true'] at hv
  have e0 : appOf C ρ (.Call (.Attribute (.Name x xp) "extend" apos) [a] [] cpos) = none := by
    unfold appOf
    exact if_neg fun z => absurd z.1 (by decide +kernel)
  have e : extOf C ρ (.Call (.Attribute (.Name x xp) "extend" apos) [a] [] cpos) = some (x, a) := if_pos ⟨rfl, hv.1.1.1, hv.1.1.2, hv.1.2, hv.2, by rw [ownAt_ix hi, ho]; rfl⟩
  rw [exS, e0]
  dsimp only
  rw [e]
  rfl
theorem appK_own {x : Str} {d : D} {i : Nat} (hi : ixOf x C.N = some i) : appK C x (d, ρ) = (ofO (ownS ρ i)).bind fun l => if l.length < most then .ret (.nx (ρ.set i (.own (l ++ [d])))) else .fail := by
  unfold appK
  rw [ownAt_ix hi]
  cases ownS ρ i <;> rfl
theorem extK_own {x : Str} {l2 : List D} {i : Nat} (hi : ixOf x C.N = some i) : extK C x (.lst l2, ρ) = (ofO (ownS ρ i)).bind fun l => if l.length + l2.length ≤ most then .ret (.nx (ρ.set i (.own (l ++ l2)))) else .fail := by
  unfold extK
  rw [ownAt_ix hi]
  cases ownS ρ i <;> rfl
/-- a comprehension over a list whose items are told -/
theorem compT_map {α : Type} {f : D → T (Option D)} {g h : α → D} : ∀ {l : List α}, (∀ x ∈ l, f (g x) = .ret (some (h x))) → compT f (l.map g) = .ret (l.map h)
  | [], _ => rfl
  | x :: l, hf => by
    show (f (g x)).bind _ = _
    rw [hf x List.mem_cons_self]
    show (compT f (l.map g)).bind _ = _
    rw [compT_map fun y hy => hf y (List.mem_cons_of_mem _ hy)]
    rfl
theorem safe_bind_ret {α β : Type} {a : α} {f : α → T β} : ((T.ret a).bind f).safe = (f a).safe := rfl
/-- no list that is still written -/
def Plain (s : Sl) : Prop := ∀ l, s ≠ .own l
theorem plain_emp : Plain .emp := fun l h => by cases h
theorem plain_dat {d : D} : Plain (.dat d) := fun l h => by cases h
theorem frz_pl {s : Sl} (h : Plain s) {xs N : List Str} {n : Str} : frzR xs (n :: N) (s :: ρ) = s :: frzR xs N ρ := by
  cases s with
  | own l => exact absurd rfl (h l)
  | _ => rfl
end
end Ev

/-! What operators and built-ins tell of data. -/
namespace Ev
open PySem PySem.Spec L2 PyProof.Rows
theorem fl_non : D.flat .non = true := rfl
theorem fl_bl {b : Bool} : D.flat (.bl b) = true := rfl
theorem fl_int {b : Int} : D.flat (.int b) = true := rfl
theorem fl_str {b : Str} : D.flat (.str b) = true := rfl
theorem fl_lst {b : List D} : D.flat (.lst b) = false := rfl
theorem fl_tup {b : List D} : D.flat (.tup b) = false := rfl
theorem fl_obj {c : Str} {b : List D} : D.flat (.obj c b) = false := rfl
theorem fl_row : D.flat .row = false := rfl
theorem bind_ite {α β : Type} {c : Prop} [Decidable c] {a b : T α} {f : α → T β} : (if c then a else b).bind f = if c then a.bind f else b.bind f := by split <;> rfl
theorem le_m0 : (0 ≤ most) = True := eq_true (by decide)
theorem le_m1 : (1 ≤ most) = True := eq_true (by decide)
theorem le_m2 : (2 ≤ most) = True := eq_true (by decide)
theorem le_m3 : (3 ≤ most) = True := eq_true (by decide)
theorem le_m4 : (4 ≤ most) = True := eq_true (by decide)
theorem le_m5 : (5 ≤ most) = True := eq_true (by decide)
theorem le_m6 : (6 ≤ most) = True := eq_true (by decide)
theorem le_m7 : (7 ≤ most) = True := eq_true (by decide)
theorem le_m8 : (8 ≤ most) = True := eq_true (by decide)
theorem le_m9 : (9 ≤ most) = True := eq_true (by decide)
theorem le_m10 : (10 ≤ most) = True := eq_true (by decide)
theorem le_m11 : (11 ≤ most) = True := eq_true (by decide)
theorem le_m12 : (12 ≤ most) = True := eq_true (by decide)
theorem le_m13 : (13 ≤ most) = True := eq_true (by decide)
theorem le_m14 : (14 ≤ most) = True := eq_true (by decide)
theorem le_m15 : (15 ≤ most) = True := eq_true (by decide)
theorem le_m16 : (16 ≤ most) = True := eq_true (by decide)
theorem le_m17 : (17 ≤ most) = True := eq_true (by decide)
theorem le_m18 : (18 ≤ most) = True := eq_true (by decide)
theorem le_m19 : (19 ≤ most) = True := eq_true (by decide)
theorem le_m20 : (20 ≤ most) = True := eq_true (by decide)
theorem le_m21 : (21 ≤ most) = True := eq_true (by decide)
theorem le_m22 : (22 ≤ most) = True := eq_true (by decide)
theorem le_m23 : (23 ≤ most) = True := eq_true (by decide)
theorem le_m24 : (24 ≤ most) = True := eq_true (by decide)
theorem le_most_ {n : Nat} (h : n ≤ 100000) : n ≤ most := h
theorem ty_int_non  : tyD "int" .non = some false := by kernel_rfl
theorem ty_bool_non  : tyD "bool" .non = some false := by kernel_rfl
theorem ty_str_non  : tyD "str" .non = some false := by kernel_rfl
theorem ty_list_non  : tyD "list" .non = some false := by kernel_rfl
theorem ty_tuple_non  : tyD "tuple" .non = some false := by kernel_rfl
theorem ty_int_bl {b : Bool} : tyD "int" (.bl b) = some true := by kernel_rfl
theorem ty_bool_bl {b : Bool} : tyD "bool" (.bl b) = some true := by kernel_rfl
theorem ty_str_bl {b : Bool} : tyD "str" (.bl b) = some false := by kernel_rfl
theorem ty_list_bl {b : Bool} : tyD "list" (.bl b) = some false := by kernel_rfl
theorem ty_tuple_bl {b : Bool} : tyD "tuple" (.bl b) = some false := by kernel_rfl
theorem ty_int_int {i : Int} : tyD "int" (.int i) = some true := by kernel_rfl
theorem ty_bool_int {i : Int} : tyD "bool" (.int i) = some false := by kernel_rfl
theorem ty_str_int {i : Int} : tyD "str" (.int i) = some false := by kernel_rfl
theorem ty_list_int {i : Int} : tyD "list" (.int i) = some false := by kernel_rfl
theorem ty_tuple_int {i : Int} : tyD "tuple" (.int i) = some false := by kernel_rfl
theorem ty_int_str {z : Str} : tyD "int" (.str z) = some false := by kernel_rfl
theorem ty_bool_str {z : Str} : tyD "bool" (.str z) = some false := by kernel_rfl
theorem ty_str_str {z : Str} : tyD "str" (.str z) = some true := by kernel_rfl
theorem ty_list_str {z : Str} : tyD "list" (.str z) = some false := by kernel_rfl
theorem ty_tuple_str {z : Str} : tyD "tuple" (.str z) = some false := by kernel_rfl
theorem ty_int_lst {l : List D} : tyD "int" (.lst l) = some false := by kernel_rfl
theorem ty_bool_lst {l : List D} : tyD "bool" (.lst l) = some false := by kernel_rfl
theorem ty_str_lst {l : List D} : tyD "str" (.lst l) = some false := by kernel_rfl
theorem ty_list_lst {l : List D} : tyD "list" (.lst l) = some true := by kernel_rfl
theorem ty_tuple_lst {l : List D} : tyD "tuple" (.lst l) = some false := by kernel_rfl
theorem ty_int_tup {l : List D} : tyD "int" (.tup l) = some false := by kernel_rfl
theorem ty_bool_tup {l : List D} : tyD "bool" (.tup l) = some false := by kernel_rfl
theorem ty_str_tup {l : List D} : tyD "str" (.tup l) = some false := by kernel_rfl
theorem ty_list_tup {l : List D} : tyD "list" (.tup l) = some false := by kernel_rfl
theorem ty_tuple_tup {l : List D} : tyD "tuple" (.tup l) = some true := by kernel_rfl
theorem ofO_some {α : Type} {a : α} : ofO (some a) = .ret a := rfl
section
variable {eqO : D → D → T D} {lenO : D → T D}
theorem c_lt {i j : Int} : cmpD eqO .Lt (.int i) (.int j) = .ret (.bl (decide (i < j))) := rfl
theorem c_le {i j : Int} : cmpD eqO .LtE (.int i) (.int j) = .ret (.bl (decide (i ≤ j))) := rfl
theorem c_gt {i j : Int} : cmpD eqO .Gt (.int i) (.int j) = .ret (.bl (decide (j < i))) := rfl
theorem c_ge {i j : Int} : cmpD eqO .GtE (.int i) (.int j) = .ret (.bl (decide (j ≤ i))) := rfl
theorem c_lts {i j : Str} : cmpD eqO .Lt (.str i) (.str j) = .ret (.bl (ltS i j)) := rfl
theorem c_les {i j : Str} : cmpD eqO .LtE (.str i) (.str j) = .ret (.bl (!ltS j i)) := rfl
theorem c_eqi {i j : Int} : cmpD eqO .Eq (.int i) (.int j) = .ret (.bl (decide (i = j))) := rfl
theorem c_nei {i j : Int} : cmpD eqO .NotEq (.int i) (.int j) = .ret (.bl (!decide (i = j))) := rfl
theorem c_isN : ∀ {d : D}, cmpD eqO .Is d .non = .ret (.bl (isNon d))
  | .non => rfl | .bl _ => rfl | .int _ => rfl | .str _ => rfl | .lst _ => rfl | .tup _ => rfl | .obj _ _ => rfl | .row => rfl
theorem c_isnN : ∀ {d : D}, cmpD eqO .IsNot d .non = .ret (.bl (!isNon d))
  | .non => rfl | .bl _ => rfl | .int _ => rfl | .str _ => rfl | .lst _ => rfl | .tup _ => rfl | .obj _ _ => rfl | .row => rfl
theorem c_eqo {c c' : Str} {a b : List D} : cmpD eqO .Eq (.obj c a) (.obj c' b) = eqO (.obj c a) (.obj c' b) := rfl
theorem c_neo {c c' : Str} {a b : List D} : cmpD eqO .NotEq (.obj c a) (.obj c' b) = (eqO (.obj c a) (.obj c' b)).bind fun r => match r with
    | .bl r => .ret (.bl (!r))
    | _ => .fail := rfl
theorem ok_ints {n : Nat} (l : List Int) : (l.map D.int).all (D.ok n) = true := by
  induction l with
  | nil => rfl
  | cons x l ih => rw [List.map_cons, List.all_cons, ih]; cases n <;> rfl
theorem beq_ints {n : Nat} : ∀ l m : List Int, all2 (D.beq n) (l.map D.int) (m.map D.int) = decide (l = m)
  | [], [] => by simp [all2]
  | [], _ :: _ => by simp [all2]
  | _ :: _, [] => by simp [all2]
  | x :: l, y :: m => by
    have ih := beq_ints (n := n) l m
    have e : D.beq n (.int x) (.int y) = decide (x = y) := by cases n <;> rfl
    show (D.beq n (.int x) (.int y) && all2 (D.beq n) (l.map D.int) (m.map D.int)) = _
    rw [ih, e]
    simp [List.cons.injEq]
theorem c_eql {l m : List Int} : cmpD eqO .Eq (.lst (l.map .int)) (.lst (m.map .int)) = .ret (.bl (decide (l = m))) := by
  show eqD _ _ = _
  unfold eqD
  have e : ∀ l : List Int, D.ok 6 (.lst (l.map D.int)) = true := fun l => ok_ints (n := 5) l
  rw [e, e]
  show T.ret (D.bl (all2 (D.beq 5) (l.map D.int) (m.map D.int))) = _
  rw [beq_ints]
theorem c_nel {l m : List Int} : cmpD eqO .NotEq (.lst (l.map .int)) (.lst (m.map .int)) = .ret (.bl (!decide (l = m))) := by
  show (cmpD eqO .Eq (.lst (l.map .int)) (.lst (m.map .int))).bind _ = _
  rw [c_eql]
  rfl
theorem c_eqt {l m : List Int} : cmpD eqO .Eq (.tup (l.map .int)) (.tup (m.map .int)) = .ret (.bl (decide (l = m))) := by
  show eqD _ _ = _
  unfold eqD
  have e : ∀ l : List Int, D.ok 6 (.tup (l.map D.int)) = true := fun l => ok_ints (n := 5) l
  rw [e, e]
  show T.ret (D.bl (all2 (D.beq 5) (l.map D.int) (m.map D.int))) = _
  rw [beq_ints]
theorem c_net {l m : List Int} : cmpD eqO .NotEq (.tup (l.map .int)) (.tup (m.map .int)) = .ret (.bl (!decide (l = m))) := by
  show (cmpD eqO .Eq (.tup (l.map .int)) (.tup (m.map .int))).bind _ = _
  rw [c_eqt]
  rfl
theorem b_add {i j : Int} : binD .Add (.int i) (.int j) = .ret (.int (i + j)) := rfl
theorem b_sub {i j : Int} : binD .Sub (.int i) (.int j) = .ret (.int (i - j)) := rfl
theorem b_mul {i j : Int} : binD .Mult (.int i) (.int j) = if -(2 ^ 64) < i ∧ i < 2 ^ 64 then .ret (.int (i * j)) else .fail := rfl
theorem b_div {i j : Int} : binD .FloorDiv (.int i) (.int j) = if 0 < j ∧ j < 1073741824 then .ret (.int (i / j)) else .fail := rfl
theorem b_mod {i j : Int} : binD .Mod (.int i) (.int j) = if 0 < j then .ret (.int (i % j)) else .fail := rfl
theorem b_addl {a b : List D} : binD .Add (.lst a) (.lst b) = if a.length + b.length ≤ most then .ret (.lst (a ++ b)) else .fail := rfl
theorem b_addt {a b : List D} : binD .Add (.tup a) (.tup b) = if a.length + b.length ≤ most then .ret (.tup (a ++ b)) else .fail := rfl
theorem b_adds {a b : Str} : binD .Add (.str a) (.str b) = if a.length + b.length ≤ most then .ret (.str (a ++ b)) else .fail := rfl
theorem s_lst {l : List D} {i : Int} : subD (.lst l) (.int i) = ofO (atZ l i) := rfl
theorem s_tup {l : List D} {i : Int} : subD (.tup l) (.int i) = ofO (atZ l i) := rfl
theorem s_str {z : Str} {i : Int} : subD (.str z) (.int i) = if z.length ≤ most then (ofO (atZ z.cps.toList i)).bind fun c => .ret (sign c) else .fail := rfl
theorem slc_lst {l : List D} {lo hi : Option Int} : sliceD lo hi (.lst l) = .ret (.lst (cutL l lo hi)) := rfl
theorem slc_tup {l : List D} {lo hi : Option Int} : sliceD lo hi (.tup l) = .ret (.tup (cutL l lo hi)) := rfl
theorem slc_str {z : Str} {lo hi : Option Int} : sliceD lo hi (.str z) = if z.length ≤ most then .ret (.str ⟨(cutL z.cps.toList lo hi).toArray⟩) else .fail := rfl
theorem l_lst {l : List D} : bltD lenO "len" [.lst l] = .ret (.int l.length) := by kernel_rfl
theorem l_tup {l : List D} : bltD lenO "len" [.tup l] = .ret (.int l.length) := by kernel_rfl
theorem l_str {z : Str} : bltD lenO "len" [.str z] = if z.length ≤ most then .ret (.int z.length) else .fail := by kernel_rfl
theorem l_obj {c : Str} {l : List D} : bltD lenO "len" [.obj c l] = lenO (.obj c l) := by kernel_rfl
theorem i_int {i : Int} : bltD lenO "int" [.int i] = .ret (.int i) := by kernel_rfl
theorem t_lst {l : List D} : bltD lenO "tuple" [.lst l] = .ret (.tup l) := by kernel_rfl
theorem t_tup {l : List D} : bltD lenO "tuple" [.tup l] = .ret (.tup l) := by kernel_rfl
theorem li_lst {l : List D} : bltD lenO "list" [.lst l] = .ret (.lst l) := by kernel_rfl
theorem li_tup {l : List D} : bltD lenO "list" [.tup l] = .ret (.lst l) := by kernel_rfl
theorem a_lst {l : List D} : bltD lenO "all" [.lst l] = (ofO (toBls l)).bind fun bs => .ret (.bl (bs.all id)) := by kernel_rfl
theorem n_lst {l : List D} : bltD lenO "any" [.lst l] = (ofO (toBls l)).bind fun bs => .ret (.bl (bs.any id)) := by kernel_rfl
end
theorem toBls_map {α : Type} (f : α → Bool) : ∀ l : List α, toBls (l.map fun x => D.bl (f x)) = some (l.map f)
  | [] => rfl
  | x :: l => by
    show (toBls (l.map fun x => D.bl (f x))).map (f x :: ·) = _
    rw [toBls_map f l]
    rfl
theorem toInts_map : ∀ l : List Int, toInts (l.map D.int) = some l
  | [] => rfl
  | x :: l => by
    show (toInts (l.map D.int)).map (x :: ·) = _
    rw [toInts_map l]
    rfl
theorem toStrs_m : ∀ l : List Str, toStrs (l.map D.str) = some l
  | [] => rfl
  | z :: l => by
    show (toStrs (l.map D.str)).map (z :: ·) = _
    rw [toStrs_m l]
    rfl
theorem hasM_str {z : Str} : hasM (.str z) "join" = true := by kernel_rfl
theorem j_lst {z : Str} {l : List Str} : mthD (.str z) "join" [.lst (l.map .str)] = if sumLen l + l.length * z.length ≤ most then .ret (.str (Str.join z l)) else .fail := by
  have e : mthD (.str z) "join" [.lst (l.map .str)] = ((ofO (toStrs (l.map .str))).bind fun zs => if sumLen zs + zs.length * z.length ≤ most then .ret (.str (Str.join z zs)) else .fail) := by kernel_rfl
  rw [e, toStrs_m]
  rfl
theorem j_tup {z : Str} {l : List Str} : mthD (.str z) "join" [.tup (l.map .str)] = if sumLen l + l.length * z.length ≤ most then .ret (.str (Str.join z l)) else .fail := by
  have e : mthD (.str z) "join" [.tup (l.map .str)] = ((ofO (toStrs (l.map .str))).bind fun zs => if sumLen zs + zs.length * z.length ≤ most then .ret (.str (Str.join z zs)) else .fail) := by kernel_rfl
  rw [e, toStrs_m]
  rfl
theorem w_lst {l : List D} : walkD (.lst l) = .ret l := rfl
theorem w_tup {l : List D} : walkD (.tup l) = .ret l := rfl
theorem w_str {z : Str} : walkD (.str z) = .ret (signsD z) := rfl
theorem it_lst {l : List D} : itemsOf (.lst l) = .ret l := rfl
theorem it_tup {l : List D} : itemsOf (.tup l) = .ret l := rfl
theorem atZ_of {α : Type} {l : List α} {o : Int} {x : α} (h0 : 0 ≤ o) (h : l[o.toNat]? = some x) : atZ l o = some x := by
  have hl : o.toNat < l.length := (List.getElem?_eq_some_iff.mp h).1
  unfold atZ ixZ
  rw [if_pos h0, if_pos (by omega)]
  exact h
theorem atZ_map {α β : Type} {l : List α} {o : Int} {x : α} (f : α → β) (h0 : 0 ≤ o) (h : l[o.toNat]? = some x) : atZ (l.map f) o = some (f x) := atZ_of h0 (by rw [List.getElem?_map, h]; rfl)
theorem sumLen_eq (l : List Str) : sumLen l = (l.map (·.length)).sum := rfl
/-! ### loops -/
/-- a for whose turns end without a jump: what it keeps -/
theorem forT_fold {α β : Type} {bnd : List Sl → D → T (List Sl)} {body : List Sl → T Fl} {g : α → D} {st : β → List Sl} {f : β → α → β} : ∀ {l : List α} {b : β}, (∀ b x, x ∈ l → (bnd (st b) (g x)).bind body = .ret (.nx (st (f b x)))) → forT bnd body (l.map g) (st b) = .ret (.nx (st (l.foldl f b)))
  | [], b, _ => rfl
  | x :: l, b, h => by
    have e : forT bnd body ((x :: l).map g) (st b) = ((bnd (st b) (g x)).bind body).bind fun fl => match fl with
      | .nx ρ' => forT bnd body (l.map g) ρ'
      | .ct ρ' => forT bnd body (l.map g) ρ'
      | .bk ρ' => .ret (.nx ρ')
      | .rt d => .ret (.rt d) := by
      rw [bind_assoc]
      rfl
    rw [e, h b x List.mem_cons_self]
    exact forT_fold fun b y hy => h b y (List.mem_cons_of_mem _ hy)
/-- a for, by what its turns keep -/
theorem forT_wp {bnd : List Sl → D → T (List Sl)} {body : List Sl → T Fl} {I : List Sl → Prop} {P : Fl → Prop} {E : Str → List D → Prop} : ∀ {l : List D} {ρ : List Sl}, (∀ ρ d, d ∈ l → I ρ → wpT ((bnd ρ d).bind body) (fun fl => match fl with | .nx ρ' => I ρ' | .ct ρ' => I ρ' | .bk ρ' => P (.nx ρ') | .rt d => P (.rt d)) E) → I ρ → (∀ ρ, I ρ → P (.nx ρ)) → wpT (forT bnd body l ρ) P E
  | [], ρ, _, i, h => h ρ i
  | d :: l, ρ, hb, i, h => by
    have e : forT bnd body (d :: l) ρ = ((bnd ρ d).bind body).bind fun fl => match fl with
      | .nx ρ' => forT bnd body l ρ'
      | .ct ρ' => forT bnd body l ρ'
      | .bk ρ' => .ret (.nx ρ')
      | .rt d => .ret (.rt d) := by
      rw [bind_assoc]
      rfl
    rw [e, wpT_bind]
    refine wpT_mono (hb ρ d List.mem_cons_self i) (fun fl hf => ?_) fun _ _ a => a
    cases fl with
    | nx ρ' => exact forT_wp (fun ρ d hd => hb ρ d (List.mem_cons_of_mem _ hd)) hf h
    | ct ρ' => exact forT_wp (fun ρ d hd => hb ρ d (List.mem_cons_of_mem _ hd)) hf h
    | bk ρ' => exact hf
    | rt d => exact hf
/-- a for, by what its turns keep, counted -/
theorem forT_wpi {bnd : List Sl → D → T (List Sl)} {body : List Sl → T Fl} {I : Nat → List Sl → Prop} {P : Fl → Prop} {E : Str → List D → Prop} : ∀ {l : List D} {ρ : List Sl} {i : Nat}, (∀ j ρ d, i ≤ j → j < i + l.length → l[j - i]? = some d → I j ρ → wpT ((bnd ρ d).bind body) (fun fl => match fl with | .nx ρ' => I (j + 1) ρ' | .ct ρ' => I (j + 1) ρ' | .bk ρ' => P (.nx ρ') | .rt d => P (.rt d)) E) → I i ρ → (∀ ρ, I (i + l.length) ρ → P (.nx ρ)) → wpT (forT bnd body l ρ) P E
  | [], ρ, i, _, a, h => h ρ a
  | d :: l, ρ, i, hb, a, h => by
    have e : forT bnd body (d :: l) ρ = ((bnd ρ d).bind body).bind fun fl => match fl with
      | .nx ρ' => forT bnd body l ρ'
      | .ct ρ' => forT bnd body l ρ'
      | .bk ρ' => .ret (.nx ρ')
      | .rt d => .ret (.rt d) := by
      rw [bind_assoc]
      rfl
    rw [e, wpT_bind]
    have hb' : ∀ j ρ d', i + 1 ≤ j → j < i + 1 + l.length → l[j - (i + 1)]? = some d' → I j ρ → wpT ((bnd ρ d').bind body) (fun fl => match fl with | .nx ρ' => I (j + 1) ρ' | .ct ρ' => I (j + 1) ρ' | .bk ρ' => P (.nx ρ') | .rt d => P (.rt d)) E := fun j ρ d' h1 h2 h3 h4 => by
      refine hb j ρ d' (by omega) (by rw [List.length_cons]; omega) ?_ h4
      have e : j - i = (j - (i + 1)) + 1 := by omega
      rw [e, List.getElem?_cons_succ]
      exact h3
    have h' : ∀ ρ, I (i + 1 + l.length) ρ → P (.nx ρ) := fun ρ q => h ρ (by rw [List.length_cons, show i + (l.length + 1) = i + 1 + l.length by omega]; exact q)
    refine wpT_mono (hb i ρ d (Nat.le_refl _) (by rw [List.length_cons]; omega) (by rw [Nat.sub_self]; rfl) a) (fun fl hf => ?_) fun _ _ a => a
    cases fl with
    | nx ρ' => exact forT_wpi hb' hf h'
    | ct ρ' => exact forT_wpi hb' hf h'
    | bk ρ' => exact hf
    | rt d => exact hf
/-- the same, the names' values given by a state -/
theorem forT_ws {σ : Type} {bnd : List Sl → D → T (List Sl)} {body : List Sl → T Fl} (st : σ → List Sl) (I : Nat → σ → Prop) {P : Fl → Prop} {E : Str → List D → Prop} {l : List D} {s : σ}
    (hb : ∀ (j : Nat) (s : σ) (d : D), l[j]? = some d → I j s → wpT ((bnd (st s) d).bind body) (fun fl => ∃ s', fl = .nx (st s') ∧ I (j + 1) s') E) (h0 : I 0 s) (h : ∀ s, I l.length s → P (.nx (st s))) : wpT (forT bnd body l (st s)) P E := by
  refine forT_wpi (i := 0) (I := fun j ρ => ∃ s, ρ = st s ∧ I j s) (fun j ρ d _ hj hd hI => ?_) ⟨s, rfl, h0⟩ (fun ρ hI => ?_)
  · obtain ⟨s, rfl, hI⟩ := hI
    refine wpT_mono (hb j s d hd hI) (fun fl hf => ?_) fun _ _ a => a
    obtain ⟨s', rfl, hI'⟩ := hf
    exact ⟨s', rfl, hI'⟩
  · obtain ⟨s, rfl, hI⟩ := hI
    rw [Nat.zero_add] at hI
    exact h s hI
/-- a for in which the turn for x raises -/
theorem forT_exc {α β : Type} {bnd : List Sl → D → T (List Sl)} {body : List Sl → T Fl} {g : α → D} {st : β → List Sl} {f : β → α → β} {c : Str} {fs : List D} : ∀ {l : List α} {b : β} {j : Nat} {x : α}, l[j]? = some x → (∀ b y i, i < j → l[i]? = some y → (bnd (st b) (g y)).bind body = .ret (.nx (st (f b y)))) → (∀ b, (bnd (st b) (g x)).bind body = .exc c fs) → forT bnd body (l.map g) (st b) = .exc c fs
  | [], _, _, _, h, _, _ => by simp at h
  | y :: l, b, j, x, hj, h, hx => by
    have e : forT bnd body ((y :: l).map g) (st b) = ((bnd (st b) (g y)).bind body).bind fun fl => match fl with
      | .nx ρ' => forT bnd body (l.map g) ρ'
      | .ct ρ' => forT bnd body (l.map g) ρ'
      | .bk ρ' => .ret (.nx ρ')
      | .rt d => .ret (.rt d) := by
      rw [bind_assoc]
      rfl
    rw [e]
    cases j with
    | zero =>
      rw [List.getElem?_cons_zero] at hj
      cases hj
      rw [hx b]
      rfl
    | succ j =>
      rw [List.getElem?_cons_succ] at hj
      rw [h b y 0 (Nat.succ_pos j) rfl]
      exact forT_exc hj (fun b z i hi hz => h b z (i + 1) (Nat.succ_lt_succ hi) (by rw [List.getElem?_cons_succ]; exact hz)) hx
end Ev

/-! Texts as lists of signs. -/
namespace Ev
open PySem PySem.Spec L2 PyProof.Rows
def cp (z : Str) : List Nat := z.cps.toList
theorem str_ext {a b : Str} (h : cp a = cp b) : a = b := by
  obtain ⟨a⟩ := a
  obtain ⟨b⟩ := b
  exact congrArg Str.mk (Array.toList_inj.mp h)
theorem cp_app (a b : Str) : cp (a ++ b) = cp a ++ cp b := by
  show (a.cps ++ b.cps).toList = _
  rw [Array.toList_append]
  rfl
theorem len_cp (z : Str) : z.length = (cp z).length := (Array.length_toList).symm
theorem cp_mk (l : List Nat) : cp ⟨l.toArray⟩ = l := rfl
theorem join0 : ∀ zs : List Str, cp (Str.join "" zs) = (zs.map cp).flatten
  | [] => rfl
  | [x] => by
    show cp x = _
    simp
  | x :: y :: r => by
    have ih := join0 (y :: r)
    have e : cp "" = [] := by decide +kernel
    show cp (x ++ "" ++ Str.join "" (y :: r)) = _
    rw [cp_app, cp_app, ih, e, List.append_nil]
    rfl
theorem len_sum (zs : List Str) : ((zs.map cp).flatten).length = sumLen zs := by
  rw [List.length_flatten, List.map_map]
  exact congrArg List.sum (List.map_congr_left fun z _ => (len_cp z).symm)
theorem signsD_eq (z : Str) : signsD z = (cp z).map sign := rfl
theorem flat_len {α : Type} {k : Nat} : ∀ {L : List (List α)}, (∀ x ∈ L, x.length = k) → L.flatten.length = L.length * k
  | [], _ => by simp
  | x :: L, h => by
    rw [List.flatten_cons, List.length_append, h x List.mem_cons_self, flat_len fun y hy => h y (List.mem_cons_of_mem _ hy), List.length_cons, Nat.succ_mul]
    omega
theorem flat_cut {α : Type} {k : Nat} : ∀ {L : List (List α)} {i : Nat} {x : List α}, (∀ x ∈ L, x.length = k) → L[i]? = some x → (L.flatten.drop (i * k)).take k = x
  | [], _, _, _, h => by simp at h
  | y :: L, 0, x, h, e => by
    simp only [List.getElem?_cons_zero, Option.some.injEq] at e
    subst e
    rw [Nat.zero_mul, List.drop_zero, List.flatten_cons]
    have := h y List.mem_cons_self
    rw [← this, List.take_left']
    rfl
  | y :: L, i + 1, x, h, e => by
    rw [List.getElem?_cons_succ] at e
    have hy := h y List.mem_cons_self
    rw [List.flatten_cons, Nat.succ_mul]
    have e2 : i * k + k = y.length + i * k := by omega
    rw [e2, ← List.drop_drop, List.drop_left]
    exact flat_cut (fun z hz => h z (List.mem_cons_of_mem _ hz)) e
theorem ixS_some {n d : Nat} {i : Nat} : ixS n d (some ((i : Nat) : Int)) = min i n := by
  unfold ixS
  dsimp only
  rw [if_neg (by omega)]
  rfl
theorem cut_to {α : Type} {xs : List α} {b : Nat} (hb : b ≤ xs.length) : cutL xs none (some ((b : Nat) : Int)) = xs.take b := by
  unfold cutL
  rw [ixS_some, Nat.min_eq_left hb]
  rfl
theorem cut_ft {α : Type} {xs : List α} {a b : Nat} (hb : b ≤ xs.length) (ha : a ≤ b) : cutL xs (some ((a : Nat) : Int)) (some ((b : Nat) : Int)) = (xs.drop a).take (b - a) := by
  unfold cutL
  rw [ixS_some, ixS_some, Nat.min_eq_left hb, Nat.min_eq_left (Nat.le_trans ha hb)]
theorem len_nil : ("" : Str).length = 0 := by decide +kernel
theorem j0_tup {l : List Str} (h : sumLen l ≤ most) : mthD (.str "") "join" [.tup (l.map .str)] = .ret (.str (Str.join "" l)) := by
  rw [j_tup, len_nil, Nat.mul_zero, Nat.add_zero, if_pos h]
theorem j0_lst {l : List Str} (h : sumLen l ≤ most) : mthD (.str "") "join" [.lst (l.map .str)] = .ret (.str (Str.join "" l)) := by
  rw [j_lst, len_nil, Nat.mul_zero, Nat.add_zero, if_pos h]
theorem flat_one {α β : Type} (f : α → β) : ∀ l : List α, (l.map fun c => [f c]).flatten = l.map f
  | [] => rfl
  | c :: l => by
    show f c :: (l.map fun c => [f c]).flatten = _
    rw [flat_one f l]
    rfl
/-- signs, put together -/
def glue (l : List Nat) : List Str := l.map fun c => ⟨#[c]⟩
theorem glue_map (l : List Nat) : l.map sign = (glue l).map D.str := by unfold glue; rw [List.map_map]; rfl
theorem glue_cp (l : List Nat) : cp (Str.join "" (glue l)) = l := by
  rw [join0]
  unfold glue
  rw [List.map_map]
  exact (flat_one id l).trans (List.map_id l)
theorem glue_len (l : List Nat) : sumLen (glue l) = l.length := by
  rw [← len_sum, ← join0, glue_cp]
theorem fold_dat {α : Type} (f : α → D) : ∀ (l : List α) (b : Sl), l ≠ [] → ∃ d, l.foldl (fun _ i => Sl.dat (f i)) b = .dat d
  | [], _, h => absurd rfl h
  | [x], _, _ => ⟨f x, rfl⟩
  | x :: y :: l, b, _ => fold_dat f (y :: l) (.dat (f x)) (by simp)
/-- a comprehension, by what each turn tells -/
theorem compT_wp {f : D → T (Option D)} {P : D → Prop} {E : Str → List D → Prop} : ∀ {l : List D}, (∀ d, d ∈ l → wpT (f d) (fun o => ∃ x, o = some x ∧ P x) E) → wpT (compT f l) (fun xs => xs.length = l.length ∧ ∀ x ∈ xs, P x) E
  | [], _ => ⟨rfl, fun _ h => by cases h⟩
  | d :: l, h => by
    show wpT ((f d).bind fun b => (compT f l).bind fun bs => .ret (match b with
      | some b => b :: bs
      | none => bs)) _ _
    rw [wpT_bind]
    refine wpT_mono (h d List.mem_cons_self) (fun o ho => ?_) fun _ _ a => a
    obtain ⟨x, rfl, hx⟩ := ho
    rw [wpT_bind]
    refine wpT_mono (compT_wp fun e he => h e (List.mem_cons_of_mem _ he)) (fun xs hxs => ?_) fun _ _ a => a
    refine ⟨by show xs.length + 1 = l.length + 1; rw [hxs.1], fun y hy => ?_⟩
    rcases List.mem_cons.mp hy with rfl | hy
    · exact hx
    · exact hxs.2 y hy
theorem all_map {α : Type} {g : α → D} : ∀ {xs : List D}, (∀ x ∈ xs, ∃ a, x = g a) → ∃ as : List α, xs = as.map g
  | [], _ => ⟨[], rfl⟩
  | x :: xs, h => by
    obtain ⟨a, rfl⟩ := h x List.mem_cons_self
    obtain ⟨as, rfl⟩ := all_map fun y hy => h y (List.mem_cons_of_mem _ hy)
    exact ⟨a :: as, rfl⟩
theorem all_mapP {α : Type} {g : α → D} {p : α → Prop} : ∀ {xs : List D}, (∀ x ∈ xs, ∃ a, x = g a ∧ p a) → ∃ as : List α, xs = as.map g ∧ ∀ a ∈ as, p a
  | [], _ => ⟨[], rfl, fun _ h => by cases h⟩
  | x :: xs, h => by
    obtain ⟨a, rfl, ha⟩ := h x List.mem_cons_self
    obtain ⟨as, rfl, hs⟩ := all_mapP fun y hy => h y (List.mem_cons_of_mem _ hy)
    refine ⟨a :: as, rfl, fun b hb => ?_⟩
    rcases List.mem_cons.mp hb with rfl | hb
    · exact ha
    · exact hs b hb
theorem wpT_draw {α : Type} {n : Int} {k : Int → T α} {P : α → Prop} {E : Str → List D → Prop} : wpT (.draw n k) P E = (0 < n ∧ ∀ i : Int, 0 ≤ i → i < n → wpT (k i) P E) := rfl
theorem safe_draw {α : Type} {n : Int} {k : Int → T α} : (T.draw n k).safe = .draw n fun i => (k i).safe := rfl
theorem ints_len {a : Int} {n : Nat} : (intsD a n).length = n := by unfold intsD; rw [List.length_map, List.length_range]
end Ev

/-! What is told of packets. -/
namespace Pg
open PySem PySem.Spec L2 Ev Kw PyProof.Rows
theorem fl_pk {w h : Int} {l : List Str} : D.flat (pkD w h l) = false := rfl
theorem att_w {w h : Int} {l : List Str} : attP "width" (pkD w h l) = .ret (.int w) := by kernel_rfl
theorem att_h {w h : Int} {l : List Str} : attP "height" (pkD w h l) = .ret (.int h) := by kernel_rfl
theorem att_s {w h : Int} {l : List Str} : attP "sheets" (pkD w h l) = .ret (.tup (l.map .str)) := by kernel_rfl
theorem att_c {w h : Int} {l : List Str} : attP "cells" (pkD w h l) = .ret (.int (w * h)) := by kernel_rfl
theorem len_pk {w h : Int} {l : List Str} : bltD lenP "len" [pkD w h l] = .ret (.int (l.length : Nat)) := by
  show bltD lenP "len" [.obj _ _] = _
  rw [l_obj]
  show T.ret (D.int ((l.map D.str).length : Nat)) = _
  rw [List.length_map]
theorem c_eqpk {w h : Int} {l : List Str} {w2 h2 : Int} {l2 : List Str} : cmpD eqP .Eq (pkD w h l) (pkD w2 h2 l2) = .ret (.bl (decide (w = w2) && (decide (h = h2) && decide (l = l2)))) := eq_pk w h l w2 h2 l2
theorem c_nepk {w h : Int} {l : List Str} {w2 h2 : Int} {l2 : List Str} : cmpD eqP .NotEq (pkD w h l) (pkD w2 h2 l2) = .ret (.bl (!(decide (w = w2) && (decide (h = h2) && decide (l = l2))))) := by
  show (eqP (pkD w h l) (pkD w2 h2 l2)).bind _ = _
  rw [eq_pk]
  rfl
theorem new_pk {wp : List D → T D} {w h : Int} {l : List Str} (hw : wp [.int w, .int h, .tup (l.map .str)] = .ret .non) (hg : wrongP w h l = none) : newP wp [.int w, .int h, .tup (l.map .str)] = .ret (pkD w h l) := by
  show (wp [.int w, .int h, .tup (l.map .str)]).bind _ = _
  rw [hw]
  show (ofO (toStrs (l.map D.str))).bind _ = _
  rw [toStrs_map]
  exact if_pos hg
end Pg

/-! A law's text over a program's text: the program's defs are known to it; try with clauses. -/
namespace Pg
open PySem PySem.Spec L2 Ev Kw PyProof.Rows
/-! ### caught -/
def catchT {α β : Type} : T α → (α → T β) → (Str → List D → T β) → T β
  | .ret a, k, _ => k a
  | .fail, _, _ => .fail
  | .exc c fs, _, h => h c fs
  | .draw n q, k, h => .draw n fun i => catchT (q i) k h
theorem wpT_catch {α β : Type} (t : T α) (k : α → T β) (h : Str → List D → T β) (P : β → Prop) (E : Str → List D → Prop) : wpT (catchT t k h) P E ↔ wpT t (fun a => wpT (k a) P E) (fun c fs => wpT (h c fs) P E) := by
  induction t with
  | ret a => exact Iff.rfl
  | fail => exact Iff.rfl
  | exc c fs => exact Iff.rfl
  | draw n q ih => exact ⟨fun z => ⟨z.1, fun i a b => (ih i).mp (z.2 i a b)⟩, fun z => ⟨z.1, fun i a b => (ih i).mpr (z.2 i a b)⟩⟩
/-! ### a law's text -/
def infoT (cst : List (Str × D)) (prims : Str → Option (List D → T D)) (tab : List (Str × Stmt)) (wp : List D → T D) : Info := infoP (cstL cst) (fun f => (prims f).isSome || (tblOf tab f).isSome) (fun _ => orF (fNew wp) form1) fun _ => iRg3
def callT (er : ErT) (cst : List (Str × D)) (prims : Str → Option (List D → T D)) (tab : List (Str × Stmt)) (wp : List D → T D) (fuel n : Nat) : Str → List D → T D := callN (infoT cst prims tab wp) (errP er) prims (tblOf tab) fuel n
section
variable {P : Program} {w : World} {K : PySem.W.Frag} {mg : Str → Option Value} {base : Heap} {r scr C CP fP : Addr} {ns : List Int} {er : ErT} {fuel : Nat} {cst : List (Str × D)} {tab0 tab tab2 : List (Str × Stmt)} {prims : Str → Option (List D → T D)}
theorem text_mkT {k0 : Nat} (h : FactsK P w K mg base C CP fP er cst tab0 tab) (hk0 : 12 ≤ k0) (hp : ∀ f p, prims f = some p → PrimT (PS K r scr ns C er) P w mg base k0 f p) (d2 : DefsOk K mg tab2) (n : Nat) :
    TextS (PS K r scr ns C er) (infoT cst prims tab2 (wpK er cst tab0 fuel)) P w mg base (k0 + n) (callT er cst prims tab2 (wpK er cst tab0 fuel) fuel n) (errP er) := by
  have b0 : Base (PS K r scr ns C er) (infoC1 cst tab0) P w mg base 2 (errP er) (fun _ => none) (tblOf tab0) :=
    base_mk (Nat.le_refl 2) h.A h.st h.he (fun f hf => .inr hf) (fun f p e => by cases e) (defs_of h.d0) (cst_okL h.cs) (fun k call hk => spc_form1 h.st) fun k call hk => spi_rg3 (h.st _ (by simp))
  have t0 := text_n (fuel := fuel) b0 tbl_fn 8
  have W : PrimT (PS K r scr ns C er) P w mg base 10 "wrong_part" (wpK er cst tab0 fuel) := primT_of t0.tx.fns (f := "wrong_part") h.w0
  obtain ⟨fI, fdI, FI, mk, bI⟩ := h.ini
  have N : PkNew (PS K r scr ns C er) P w mg base C CP (wpK er cst tab0 fuel) 11 := ⟨⟨fI, fdI, mk, ok_init rfl FI h.A.T h.tp W, bI⟩, h.A.T.g⟩
  have b1 : Base (PS K r scr ns C er) (infoT cst prims tab2 (wpK er cst tab0 fuel)) P w mg base k0 (errP er) prims (tblOf tab2) :=
    base_mk (Nat.le_trans (by decide) hk0) h.A h.st h.he (fun f hf => by
      rw [Bool.or_eq_true] at hf
      exact hf) hp (defs_of d2) (cst_okL h.cs) (fun k call hk => spc_or (spc_new N (Nat.le_trans hk0 hk) h.hP) (spc_form1 h.st)) fun k call hk => spi_rg3 (h.st _ (by simp))
  exact text_n b1 tbl_fn n
end
/-! ### an exception's field, read in its clause -/
/-- what is known of an error class for a clause: its field f -/
structure ErCl (K : PySem.W.Frag) (A : Addr) (f : Str) : Prop where
  xf : XfC K A
  no : PySem.W.findIn K (.ref A) f = some none
end Pg

/-! _law_place: where parse_packet says that a text is wrong. -/
namespace Kn
open PySem PySem.Spec L2 Ev Pg PyProof.Rows
def hPl (c : Str) (fs : List D) : T D :=
  if c = "InvalidText" then (match fs with
    | [.int i, .int j] => .ret (.tup [.int i, .int j])
    | _ => .fail)
  else if c = "InvalidPacket" then (match fs with
    | [.str z] => .ret (.tup [.str "packet", .str z])
    | _ => .fail)
  else .fail
def placeP (pp : List D → T D) (ds : List D) : T D := match ds with
  | [.lst l] => (match toStrs l with
    | some zs => if sumLen zs + zs.length * ("\n" : Str).length ≤ most then catchT (pp [.str (Str.join "\n" zs)]) (fun _ => .ret .non) hPl else .fail
    | none => .fail)
  | _ => .fail
abbrev nPl : List Str := ["_law_rows", "e"]
theorem scPl : FnScope nPl ["_law_rows"] (defScope sPlace) := ⟨rfl, rfl, rfl, by decide +kernel, rfl, by decide +kernel, by decide +kernel⟩
def rJn (K : PySem.W.Frag) : V → List V → Hp → VK → Prop := fun x xs H Q => ∃ a p, ∃ ys : List Str, x = .str a ∧ xs = [.ref p] ∧ (SqL K H p (ys.map V.str) ∨ SqT K H p (ys.map V.str)) ∧ (ys.map (·.length)).sum + ys.length * a.length ≤ 16777216 ∧ Q (.str (Txt.join a ys)) H
theorem pe_joinK {X : Cx} {K : PySem.W.Frag} {o e : Expr} {to te : TE} {apos pos : Pos} (hK : X.K = K) (ho : PE X o to) (he : PE X e te) (hs : starEach [e] X.env = [(false, eval e X.env)] := by rfl) (hbase : attributeBase o "join" X.env (eval o X.env) = eval o X.env := by rfl) (hline : (apos.endLine == pos.line) = true := by rfl) :
    PE X (.Call (.Attribute o "join" apos) [e] [] pos) (tM1 (rJn K) to te) := by
  subst hK
  exact pe_join ho he hs hbase hline
theorem lkp2 {x y : V} : List.lookup (Str.ofString "word") [(Str.ofString "row", x), (Str.ofString "word", y)] = some y := by
  have n : ((Str.ofString "word") == (Str.ofString "row")) = false := by decide +kernel
  simp [List.lookup, n]
section
variable {P : Program} {w : World} {K : PySem.W.Frag} {mg : Str → Option Value} {base : Heap} {r scr C CP CD f : Addr} {fd : FuncData} {ns : List Int} {er : ErT} {k : Nat} {pp : List D → T D}
theorem prim_place (F : Fun K "_law_place" "_law_place" sPlace f fd) (hm : mg "_law_place" = some (.ref f)) (hk : PySem.W.keepIn K (.ref f) = true) (hb : Binds K fd ["_law_rows"] [])
    (hd : PrimT (PS K r scr ns C er) P w mg base k "parse_packet" pp) (e1 : er "InvalidText" = some (CD, some F12)) (e2 : er "InvalidPacket" = some (CP, some Xp.F1))
    (g1 : mg "InvalidText" = some (.ref CD)) (g2 : mg "InvalidPacket" = some (.ref CP)) (c1 : ErCl K CD "row") (c3 : ErCl K CD "word") (c2 : ErCl K CP Xp.F1)
    (m1 : PySem.W.exmOne K (.ref CD) (.ref CD) = some true) (m2 : PySem.W.exmOne K (.ref CP) (.ref CD) = some false) (m3 : PySem.W.exmOne K (.ref CP) (.ref CP) = some true) :
    PrimT (PS K r scr ns C er) P w mg base (k + 1) "_law_place" (placeP pp) := by
  obtain ⟨a, fda, psa, spa, Fa, ma, ka, ba, ha⟩ := hd.ex
  refine ⟨⟨f, fd, ["_law_rows"], fun vs H Q E => ∃ p zs B, Ok (PS K r scr ns C er) H B ∧ vs = [.ref p] ∧ B p = some (.lst (zs.map V.str)) ∧ sumLen zs + zs.length * ("\n" : Str).length ≤ most ∧ wpT (catchT (pp [.str (Str.join "\n" zs)]) (fun _ => .ret .non) hPl) (Aft (PS K r scr ns C er) H B Q) (AftE (PS K r scr ns C er) H B E), F.okX scPl (fun vs H Q E h => ?_) (fun cdv A outer s H vs Q E hr h => ?_), hm, hk, hb, fun vs ds H B Q E o rd h => ?_⟩⟩
  · obtain ⟨p, zs, B, _, rfl, _⟩ := h
    rfl
  · obtain ⟨p, zs, B, o, rfl, hp, hz, h⟩ := h
    refine ⟨_, pss_cons (XTry.ps_tryCls (out := fun _ _ _ _ => False) rfl rfl scPl.nd L2.takes0 (fun W pn xe tk _ => pss_one (ps_expr (pe_callS Fa hr (by rfl) ma ka ba (fun σ => passAt tk σ) (pa_cons (pe_joinK (K := K) (by rfl) pe_str (pv 0)) pa_nil))))
      (.cons (i := 1) ⟨by rfl, by decide +kernel, .inl g1⟩ rfl rfl (fun e ob cls d pn hz hf => pss_one (ps_ret (pe_tup (pa_cons (pe_xf c1.xf c1.no hz hf (pv 1)) (pa_cons (pe_xf c3.xf c3.no hz hf (pv 1)) pa_nil)))))
        (.cons (i := 1) ⟨by rfl, by decide +kernel, .inl g2⟩ rfl rfl (fun e ob cls d pn hz hf => pss_one (ps_ret (pe_tup (pa_cons pe_str (pa_cons (pe_xf c2.xf c2.no hz hf (pv 1)) pa_nil))))) .nil)))
      (pss_one (ps_ret pe_non)), ?_⟩
    rw [wpT_catch] at h
    refine ⟨⟨_, rfl⟩, .ref p, rfl, "\n", p, zs, rfl, rfl, .inl (SqL.of (o.sub _ _ hp)), Nat.le_trans (m := most) hz (by decide), ?_⟩
    rw [TL.join_eq]
    refine ha [.str (Str.join "\n" zs)] [.str (Str.join "\n" zs)] H B _ _ o (.cons (.str _) .nil) (wpT_mono h (fun d hd => ?_) fun c fs hc => ?_)
    · intro v' H' B' g' r'
      exact hd .non H' B' g' .non
    · intro cls oe H' B' g' x
      obtain ⟨A', fo, ha', rfl, hfo⟩ := x
      unfold hPl at hc
      split at hc
      · rename_i ec
        subst ec
        rw [e1] at ha'
        cases ha'
        rcases hfo with ⟨d, x, y, rfl, rfl, fl, hx⟩ | ⟨_, d, i, j, rfl, rfl, hx⟩
        · cases fl <;> exact hc.elim
        · refine ⟨true, m1, fun _ e he => ⟨.ref e, rfl, rfl, rfl, d, _, .int i, rfl, hx, by simp [List.lookup], .ref e, rfl, rfl, rfl, d, _, .int j, rfl, hx, lkp2, by show 2 ≤ sizeLine; decide, ?_⟩, (fun q => by cases q)⟩
          exact Aft.newT g'.ok (Aft.grow g' hc) (.cons (.int _) (.cons (.int _) .nil))
      · split at hc
        · rename_i ec
          subst ec
          rw [e2] at ha'
          cases ha'
          rcases hfo with ⟨d, x, y, rfl, rfl, fl, hx⟩ | ⟨hf, _⟩
          · cases fl with
            | int z => exact hc.elim
            | str z =>
              refine ⟨false, m2, (fun q => by cases q), fun _ => ⟨true, m3, fun _ e he => ⟨.ref e, rfl, rfl, rfl, d, _, .str z, rfl, hx, by simp [List.lookup], by show 2 ≤ sizeLine; decide, ?_⟩, (fun q => by cases q)⟩⟩
              exact Aft.newT g'.ok (Aft.grow g' hc) (.cons (.str _) (.cons (.str _) .nil))
          · exact absurd hf (by decide +kernel)
        · exact hc.elim
  · unfold placeP at h
    split at h
    · rename_i l
      split at h
      · rename_i zs ez
        split at h
        · rename_i hz
          obtain ⟨v, rfl, hv⟩ := drAll_one rd
          cases hv with
          | lst hp r1 =>
            exact ⟨_, zs, B, o, rfl, by rw [← r1.strs ez]; exact hp, hz, h⟩
        · exact h.elim
      · exact h.elim
    · exact h.elim
end
end Kn

namespace Kn
open PySem PySem.Spec L2 Ev Pg
def tab0 : List (Str × Stmt) := [("is_number", sNum), ("is_from_to", sFromTo), ("is_side", sSide), ("is_size", sSize), ("is_sheet", sSheet), ("are_sheets", sSheets), ("wrong_part", sWrong)]
def tab : List (Str × Stmt) := [("is_sheet", sSheet), ("is_size_word", sIsSW), ("check_words", sChkW), ("size_of", sSzOf), ("sheet_of", sShOf), ("parse_packet", sParse)]
def cst : List (Str × D) := [("DIGITS", .str "0123456789"), ("LONGEST_SIDE", .int 4), ("MOST_CELLS", .int 9), ("MOST_SHEETS", .int 4)]
/-- the errors: InvalidPacket, InvalidText -/
def erE (A B : Addr) : ErT := fun x => if x = "InvalidPacket" then some (A, some Xp.F1) else if x = "InvalidText" then some (B, some F12) else none
theorem goods : ((tab0 ++ tab).all fun x => fnGood x.2) = true := by decide +kernel
end Kn

/-! The law's text, turn by turn. -/
namespace Kn
open PySem PySem.Spec L2 Ev Pg
section
variable {G : Info} {call : Str → List D → T D} {err : ErrF} {C : Sc0} {mu : List Str} {m : Nat}
/-- some statements, one behind the other -/
def preB (G : Info) (call : Str → List D → T D) (err : ErrF) (C : Sc0) (mu : List Str) : Nat → List Stmt → List Sl → T Fl
  | _, [], ρ => .ret (.nx ρ)
  | 0, _ :: _, _ => .fail
  | n + 1, s :: A, ρ => (exS G call err C mu n ρ s).bind (seqF fun ρ' => preB G call err C mu n A ρ')
theorem exB_app {b : Stmt} {B : List Stmt} : ∀ (A : List Stmt) (ρ : List Sl), exB G call err C mu (m + A.length) ρ (A ++ b :: B) = (preB G call err C mu (m + A.length) A ρ).bind (seqF fun ρ' => exB G call err C mu m ρ' (b :: B))
  | [], ρ => by
    have z : preB G call err C mu m [] ρ = .ret (.nx ρ) := by cases m <;> rfl
    show exB G call err C mu m ρ (b :: B) = (preB G call err C mu m [] ρ).bind _
    rw [z]
    rfl
  | s :: A, ρ => by
    have e : ∃ c R, A ++ b :: B = c :: R := by
      cases A with
      | nil => exact ⟨b, B, rfl⟩
      | cons c R => exact ⟨c, R ++ b :: B, rfl⟩
    obtain ⟨c, R, e⟩ := e
    show exB G call err C mu (m + A.length + 1) ρ (s :: (A ++ b :: B)) = ((exS G call err C mu (m + A.length) ρ s).bind (seqF fun ρ' => preB G call err C mu (m + A.length) A ρ')).bind _
    rw [e, exB_cons, bind_assoc, ← e]
    refine congrArg _ (funext fun fl => ?_)
    cases fl with
    | nx ρ' => exact exB_app A ρ'
    | _ => rfl
def unD {α : Type} : T α → Int → T α
  | .draw _ q, i => q i
  | _, _ => .fail
end
def primZ (er : ErT) : Str → Option (List D → T D) := fun f => if f = "_law_taken" then some takenP else if f = "_law_place" then some (placeP (callV er cst tab0 tab 60 6 "parse_packet")) else none
def GL (er : ErT) : Info := infoT cst (primZ er) [] (wpK er cst tab0 60)
def cL (er : ErT) (n : Nat) : Str → List D → T D := callT er cst (primZ er) [] (wpK er cst tab0 60) 60 n
abbrev nLaw : List Str := ["_law_script", "_law_row", "_law_good", "_law_early", "_law_late", "_law_turn", "_law_line", "_law_word", "_law_k", "_law_many"]
def lawC : Sc0 := ⟨nLaw, defScope sLaw, fun _ => true⟩
def lawMu : List Str := ["_law_late"]
def lawB : List Stmt := (defBody sLaw).drop 1
def stL (i : Nat) : Stmt := lawB.getD i (.Pass ⟨0, 0, 0, 0⟩)
def bdL : List Stmt := match stL 7 with
  | .For _ _ b _ _ => b
  | _ => []
def tgL : Expr := match stL 7 with
  | .For t _ _ _ _ => t
  | _ => .Constant .none 0 ⟨0, 0, 0, 0⟩
def sbL (i : Nat) : Stmt := bdL.getD i (.Pass ⟨0, 0, 0, 0⟩)
def goodD : D := .lst [.str "packet 2 2", .str "sheet ab cd", .str "sheet aa bb"]
def earlyD : D := .lst [.tup [.str "", .int 0], .tup [.str "packets 2 2", .int 0], .tup [.str "packet", .int 1], .tup [.str "packet 2", .int 2], .tup [.str "packet 0 2", .int 1], .tup [.str "packet 2 5", .int 2], .tup [.str "packet 2 2 2", .int 3], .tup [.str "packet 02 2", .int 1], .tup [.str "packet  2", .int 1], .tup [.str "packet 2 2 ", .int 3], .tup [.str "sheet ab cd", .int 0]]
def lateL : List D := [.tup [.str "", .int 0], .tup [.str "sheets ab cd", .int 0], .tup [.str "sheet", .int 1], .tup [.str "sheet ab", .int 2], .tup [.str "sheet abc cd", .int 1], .tup [.str "sheet ab c", .int 2], .tup [.str "sheet aB cd", .int 1], .tup [.str "sheet ab cd ef", .int 3], .tup [.str "sheet ab cd ", .int 3], .tup [.str "sheet  ab cd", .int 1], .tup [.str "packet 2 2", .int 0]]
def lateS : Bool → Sl
  | true => .dat (.lst lateL)
  | false => .own lateL
def stA (b : Bool) (t l w k m : Sl) : List Sl := [.emp, .dat .row, .dat goodD, .dat earlyD, lateS b, t, l, w, k, m]
variable {A B : Addr}
@[irreducible] def PB (A B : Addr) (n : Nat) (l : List Stmt) (ρ : List Sl) : T Fl := preB (GL (erE A B)) (cL (erE A B) 4) (errP (erE A B)) lawC lawMu n l ρ
@[irreducible] def EB (A B : Addr) (n : Nat) (l : List Stmt) (ρ : List Sl) : T Fl := exB (GL (erE A B)) (cL (erE A B) 4) (errP (erE A B)) lawC lawMu n ρ l
@[irreducible] def ES (A B : Addr) (n : Nat) (s : Stmt) (ρ : List Sl) : T Fl := exS (GL (erE A B)) (cL (erE A B) 4) (errP (erE A B)) lawC lawMu n ρ s
theorem l_pre : PB A B 60 [stL 0, stL 1, stL 2, stL 3, stL 4, stL 5, stL 6] [.emp, .dat .row, .emp, .emp, .emp, .emp, .emp, .emp, .emp, .emp] = .ret (.nx (stA false .emp .emp .emp .emp .emp)) := by kernel_rfl
theorem gA1_e {t : D} : PB A B 51 [sbL 0, sbL 1] (stA false (.dat t) .emp .emp .emp .emp) = .draw 11 (unD (PB A B 51 [sbL 0, sbL 1] (stA false (.dat t) .emp .emp .emp .emp))) := by kernel_rfl
theorem gA1_0 {t : D} : unD (PB A B 51 [sbL 0, sbL 1] (stA false (.dat t) .emp .emp .emp .emp)) 0 = .ret (.nx (stA false (.dat t) (.dat (.str "")) (.dat (.int 0)) .emp .emp)) := by kernel_rfl
theorem gA1_1 {t : D} : unD (PB A B 51 [sbL 0, sbL 1] (stA false (.dat t) .emp .emp .emp .emp)) 1 = .ret (.nx (stA false (.dat t) (.dat (.str "packets 2 2")) (.dat (.int 0)) .emp .emp)) := by kernel_rfl
theorem gA1_2 {t : D} : unD (PB A B 51 [sbL 0, sbL 1] (stA false (.dat t) .emp .emp .emp .emp)) 2 = .ret (.nx (stA false (.dat t) (.dat (.str "packet")) (.dat (.int 1)) .emp .emp)) := by kernel_rfl
theorem gA1_3 {t : D} : unD (PB A B 51 [sbL 0, sbL 1] (stA false (.dat t) .emp .emp .emp .emp)) 3 = .ret (.nx (stA false (.dat t) (.dat (.str "packet 2")) (.dat (.int 2)) .emp .emp)) := by kernel_rfl
theorem gA1_4 {t : D} : unD (PB A B 51 [sbL 0, sbL 1] (stA false (.dat t) .emp .emp .emp .emp)) 4 = .ret (.nx (stA false (.dat t) (.dat (.str "packet 0 2")) (.dat (.int 1)) .emp .emp)) := by kernel_rfl
theorem gA1_5 {t : D} : unD (PB A B 51 [sbL 0, sbL 1] (stA false (.dat t) .emp .emp .emp .emp)) 5 = .ret (.nx (stA false (.dat t) (.dat (.str "packet 2 5")) (.dat (.int 2)) .emp .emp)) := by kernel_rfl
theorem gA1_6 {t : D} : unD (PB A B 51 [sbL 0, sbL 1] (stA false (.dat t) .emp .emp .emp .emp)) 6 = .ret (.nx (stA false (.dat t) (.dat (.str "packet 2 2 2")) (.dat (.int 3)) .emp .emp)) := by kernel_rfl
theorem gA1_7 {t : D} : unD (PB A B 51 [sbL 0, sbL 1] (stA false (.dat t) .emp .emp .emp .emp)) 7 = .ret (.nx (stA false (.dat t) (.dat (.str "packet 02 2")) (.dat (.int 1)) .emp .emp)) := by kernel_rfl
theorem gA1_8 {t : D} : unD (PB A B 51 [sbL 0, sbL 1] (stA false (.dat t) .emp .emp .emp .emp)) 8 = .ret (.nx (stA false (.dat t) (.dat (.str "packet  2")) (.dat (.int 1)) .emp .emp)) := by kernel_rfl
theorem gA1_9 {t : D} : unD (PB A B 51 [sbL 0, sbL 1] (stA false (.dat t) .emp .emp .emp .emp)) 9 = .ret (.nx (stA false (.dat t) (.dat (.str "packet 2 2 ")) (.dat (.int 3)) .emp .emp)) := by kernel_rfl
theorem gA1_10 {t : D} : unD (PB A B 51 [sbL 0, sbL 1] (stA false (.dat t) .emp .emp .emp .emp)) 10 = .ret (.nx (stA false (.dat t) (.dat (.str "sheet ab cd")) (.dat (.int 0)) .emp .emp)) := by kernel_rfl
theorem gB1_e {t l w : D} : PB A B 49 [sbL 2, sbL 3, sbL 4] (stA false (.dat t) (.dat l) (.dat w) .emp .emp) = .draw 2 (unD (PB A B 49 [sbL 2, sbL 3, sbL 4] (stA false (.dat t) (.dat l) (.dat w) .emp .emp))) := by kernel_rfl
theorem gB1_0 {t l w : D} : unD (PB A B 49 [sbL 2, sbL 3, sbL 4] (stA false (.dat t) (.dat l) (.dat w) .emp .emp)) 0 = .draw 11 (unD (unD (PB A B 49 [sbL 2, sbL 3, sbL 4] (stA false (.dat t) (.dat l) (.dat w) .emp .emp)) 0)) := by kernel_rfl
theorem gB1_0_0 {t l w : D} : unD (unD (PB A B 49 [sbL 2, sbL 3, sbL 4] (stA false (.dat t) (.dat l) (.dat w) .emp .emp)) 0) 0 = .ret (.nx (stA true (.dat t) (.dat (.str "")) (.dat (.int 0)) (.dat (.int 1)) .emp)) := by kernel_rfl
theorem gB1_0_1 {t l w : D} : unD (unD (PB A B 49 [sbL 2, sbL 3, sbL 4] (stA false (.dat t) (.dat l) (.dat w) .emp .emp)) 0) 1 = .ret (.nx (stA true (.dat t) (.dat (.str "sheets ab cd")) (.dat (.int 0)) (.dat (.int 1)) .emp)) := by kernel_rfl
theorem gB1_0_2 {t l w : D} : unD (unD (PB A B 49 [sbL 2, sbL 3, sbL 4] (stA false (.dat t) (.dat l) (.dat w) .emp .emp)) 0) 2 = .ret (.nx (stA true (.dat t) (.dat (.str "sheet")) (.dat (.int 1)) (.dat (.int 1)) .emp)) := by kernel_rfl
theorem gB1_0_3 {t l w : D} : unD (unD (PB A B 49 [sbL 2, sbL 3, sbL 4] (stA false (.dat t) (.dat l) (.dat w) .emp .emp)) 0) 3 = .ret (.nx (stA true (.dat t) (.dat (.str "sheet ab")) (.dat (.int 2)) (.dat (.int 1)) .emp)) := by kernel_rfl
theorem gB1_0_4 {t l w : D} : unD (unD (PB A B 49 [sbL 2, sbL 3, sbL 4] (stA false (.dat t) (.dat l) (.dat w) .emp .emp)) 0) 4 = .ret (.nx (stA true (.dat t) (.dat (.str "sheet abc cd")) (.dat (.int 1)) (.dat (.int 1)) .emp)) := by kernel_rfl
theorem gB1_0_5 {t l w : D} : unD (unD (PB A B 49 [sbL 2, sbL 3, sbL 4] (stA false (.dat t) (.dat l) (.dat w) .emp .emp)) 0) 5 = .ret (.nx (stA true (.dat t) (.dat (.str "sheet ab c")) (.dat (.int 2)) (.dat (.int 1)) .emp)) := by kernel_rfl
theorem gB1_0_6 {t l w : D} : unD (unD (PB A B 49 [sbL 2, sbL 3, sbL 4] (stA false (.dat t) (.dat l) (.dat w) .emp .emp)) 0) 6 = .ret (.nx (stA true (.dat t) (.dat (.str "sheet aB cd")) (.dat (.int 1)) (.dat (.int 1)) .emp)) := by kernel_rfl
theorem gB1_0_7 {t l w : D} : unD (unD (PB A B 49 [sbL 2, sbL 3, sbL 4] (stA false (.dat t) (.dat l) (.dat w) .emp .emp)) 0) 7 = .ret (.nx (stA true (.dat t) (.dat (.str "sheet ab cd ef")) (.dat (.int 3)) (.dat (.int 1)) .emp)) := by kernel_rfl
theorem gB1_0_8 {t l w : D} : unD (unD (PB A B 49 [sbL 2, sbL 3, sbL 4] (stA false (.dat t) (.dat l) (.dat w) .emp .emp)) 0) 8 = .ret (.nx (stA true (.dat t) (.dat (.str "sheet ab cd ")) (.dat (.int 3)) (.dat (.int 1)) .emp)) := by kernel_rfl
theorem gB1_0_9 {t l w : D} : unD (unD (PB A B 49 [sbL 2, sbL 3, sbL 4] (stA false (.dat t) (.dat l) (.dat w) .emp .emp)) 0) 9 = .ret (.nx (stA true (.dat t) (.dat (.str "sheet  ab cd")) (.dat (.int 1)) (.dat (.int 1)) .emp)) := by kernel_rfl
theorem gB1_0_10 {t l w : D} : unD (unD (PB A B 49 [sbL 2, sbL 3, sbL 4] (stA false (.dat t) (.dat l) (.dat w) .emp .emp)) 0) 10 = .ret (.nx (stA true (.dat t) (.dat (.str "packet 2 2")) (.dat (.int 0)) (.dat (.int 1)) .emp)) := by kernel_rfl
theorem gB1_1 {t l w : D} : unD (PB A B 49 [sbL 2, sbL 3, sbL 4] (stA false (.dat t) (.dat l) (.dat w) .emp .emp)) 1 = .draw 11 (unD (unD (PB A B 49 [sbL 2, sbL 3, sbL 4] (stA false (.dat t) (.dat l) (.dat w) .emp .emp)) 1)) := by kernel_rfl
theorem gB1_1_0 {t l w : D} : unD (unD (PB A B 49 [sbL 2, sbL 3, sbL 4] (stA false (.dat t) (.dat l) (.dat w) .emp .emp)) 1) 0 = .ret (.nx (stA true (.dat t) (.dat (.str "")) (.dat (.int 0)) (.dat (.int 2)) .emp)) := by kernel_rfl
theorem gB1_1_1 {t l w : D} : unD (unD (PB A B 49 [sbL 2, sbL 3, sbL 4] (stA false (.dat t) (.dat l) (.dat w) .emp .emp)) 1) 1 = .ret (.nx (stA true (.dat t) (.dat (.str "sheets ab cd")) (.dat (.int 0)) (.dat (.int 2)) .emp)) := by kernel_rfl
theorem gB1_1_2 {t l w : D} : unD (unD (PB A B 49 [sbL 2, sbL 3, sbL 4] (stA false (.dat t) (.dat l) (.dat w) .emp .emp)) 1) 2 = .ret (.nx (stA true (.dat t) (.dat (.str "sheet")) (.dat (.int 1)) (.dat (.int 2)) .emp)) := by kernel_rfl
theorem gB1_1_3 {t l w : D} : unD (unD (PB A B 49 [sbL 2, sbL 3, sbL 4] (stA false (.dat t) (.dat l) (.dat w) .emp .emp)) 1) 3 = .ret (.nx (stA true (.dat t) (.dat (.str "sheet ab")) (.dat (.int 2)) (.dat (.int 2)) .emp)) := by kernel_rfl
theorem gB1_1_4 {t l w : D} : unD (unD (PB A B 49 [sbL 2, sbL 3, sbL 4] (stA false (.dat t) (.dat l) (.dat w) .emp .emp)) 1) 4 = .ret (.nx (stA true (.dat t) (.dat (.str "sheet abc cd")) (.dat (.int 1)) (.dat (.int 2)) .emp)) := by kernel_rfl
theorem gB1_1_5 {t l w : D} : unD (unD (PB A B 49 [sbL 2, sbL 3, sbL 4] (stA false (.dat t) (.dat l) (.dat w) .emp .emp)) 1) 5 = .ret (.nx (stA true (.dat t) (.dat (.str "sheet ab c")) (.dat (.int 2)) (.dat (.int 2)) .emp)) := by kernel_rfl
theorem gB1_1_6 {t l w : D} : unD (unD (PB A B 49 [sbL 2, sbL 3, sbL 4] (stA false (.dat t) (.dat l) (.dat w) .emp .emp)) 1) 6 = .ret (.nx (stA true (.dat t) (.dat (.str "sheet aB cd")) (.dat (.int 1)) (.dat (.int 2)) .emp)) := by kernel_rfl
theorem gB1_1_7 {t l w : D} : unD (unD (PB A B 49 [sbL 2, sbL 3, sbL 4] (stA false (.dat t) (.dat l) (.dat w) .emp .emp)) 1) 7 = .ret (.nx (stA true (.dat t) (.dat (.str "sheet ab cd ef")) (.dat (.int 3)) (.dat (.int 2)) .emp)) := by kernel_rfl
theorem gB1_1_8 {t l w : D} : unD (unD (PB A B 49 [sbL 2, sbL 3, sbL 4] (stA false (.dat t) (.dat l) (.dat w) .emp .emp)) 1) 8 = .ret (.nx (stA true (.dat t) (.dat (.str "sheet ab cd ")) (.dat (.int 3)) (.dat (.int 2)) .emp)) := by kernel_rfl
theorem gB1_1_9 {t l w : D} : unD (unD (PB A B 49 [sbL 2, sbL 3, sbL 4] (stA false (.dat t) (.dat l) (.dat w) .emp .emp)) 1) 9 = .ret (.nx (stA true (.dat t) (.dat (.str "sheet  ab cd")) (.dat (.int 1)) (.dat (.int 2)) .emp)) := by kernel_rfl
theorem gB1_1_10 {t l w : D} : unD (unD (PB A B 49 [sbL 2, sbL 3, sbL 4] (stA false (.dat t) (.dat l) (.dat w) .emp .emp)) 1) 10 = .ret (.nx (stA true (.dat t) (.dat (.str "packet 2 2")) (.dat (.int 0)) (.dat (.int 2)) .emp)) := by kernel_rfl
theorem gC1_e {t l w k : D} : EB A B 46 [sbL 5, sbL 6] (stA true (.dat t) (.dat l) (.dat w) (.dat k) .emp) = .draw 6 (unD (EB A B 46 [sbL 5, sbL 6] (stA true (.dat t) (.dat l) (.dat w) (.dat k) .emp))) := by kernel_rfl
theorem gC1_0 {t l w k : D} : unD (EB A B 46 [sbL 5, sbL 6] (stA true (.dat t) (.dat l) (.dat w) (.dat k) .emp)) 0 = .ret (.nx (stA true (.dat t) (.dat l) (.dat w) (.dat k) (.dat (.int 1)))) := by kernel_rfl
theorem gC1_1 {t l w k : D} : unD (EB A B 46 [sbL 5, sbL 6] (stA true (.dat t) (.dat l) (.dat w) (.dat k) .emp)) 1 = .ret (.nx (stA true (.dat t) (.dat l) (.dat w) (.dat k) (.dat (.int 2)))) := by kernel_rfl
theorem gC1_2 {t l w k : D} : unD (EB A B 46 [sbL 5, sbL 6] (stA true (.dat t) (.dat l) (.dat w) (.dat k) .emp)) 2 = .ret (.nx (stA true (.dat t) (.dat l) (.dat w) (.dat k) (.dat (.int 3)))) := by kernel_rfl
theorem gC1_3 {t l w k : D} : unD (EB A B 46 [sbL 5, sbL 6] (stA true (.dat t) (.dat l) (.dat w) (.dat k) .emp)) 3 = .ret (.nx (stA true (.dat t) (.dat l) (.dat w) (.dat k) (.dat (.int 4)))) := by kernel_rfl
theorem gC1_4 {t l w k : D} : unD (EB A B 46 [sbL 5, sbL 6] (stA true (.dat t) (.dat l) (.dat w) (.dat k) .emp)) 4 = .ret (.nx (stA true (.dat t) (.dat l) (.dat w) (.dat k) (.dat (.int 5)))) := by kernel_rfl
theorem gC1_5 {t l w k : D} : unD (EB A B 46 [sbL 5, sbL 6] (stA true (.dat t) (.dat l) (.dat w) (.dat k) .emp)) 5 = .ret (.nx (stA true (.dat t) (.dat l) (.dat w) (.dat k) (.dat (.int 6)))) := by kernel_rfl
theorem gA2_e {t l w k m : D} : PB A B 51 [sbL 0, sbL 1] (stA true (.dat t) (.dat l) (.dat w) (.dat k) (.dat m)) = .draw 11 (unD (PB A B 51 [sbL 0, sbL 1] (stA true (.dat t) (.dat l) (.dat w) (.dat k) (.dat m)))) := by kernel_rfl
theorem gA2_0 {t l w k m : D} : unD (PB A B 51 [sbL 0, sbL 1] (stA true (.dat t) (.dat l) (.dat w) (.dat k) (.dat m))) 0 = .ret (.nx (stA true (.dat t) (.dat (.str "")) (.dat (.int 0)) (.dat k) (.dat m))) := by kernel_rfl
theorem gA2_1 {t l w k m : D} : unD (PB A B 51 [sbL 0, sbL 1] (stA true (.dat t) (.dat l) (.dat w) (.dat k) (.dat m))) 1 = .ret (.nx (stA true (.dat t) (.dat (.str "packets 2 2")) (.dat (.int 0)) (.dat k) (.dat m))) := by kernel_rfl
theorem gA2_2 {t l w k m : D} : unD (PB A B 51 [sbL 0, sbL 1] (stA true (.dat t) (.dat l) (.dat w) (.dat k) (.dat m))) 2 = .ret (.nx (stA true (.dat t) (.dat (.str "packet")) (.dat (.int 1)) (.dat k) (.dat m))) := by kernel_rfl
theorem gA2_3 {t l w k m : D} : unD (PB A B 51 [sbL 0, sbL 1] (stA true (.dat t) (.dat l) (.dat w) (.dat k) (.dat m))) 3 = .ret (.nx (stA true (.dat t) (.dat (.str "packet 2")) (.dat (.int 2)) (.dat k) (.dat m))) := by kernel_rfl
theorem gA2_4 {t l w k m : D} : unD (PB A B 51 [sbL 0, sbL 1] (stA true (.dat t) (.dat l) (.dat w) (.dat k) (.dat m))) 4 = .ret (.nx (stA true (.dat t) (.dat (.str "packet 0 2")) (.dat (.int 1)) (.dat k) (.dat m))) := by kernel_rfl
theorem gA2_5 {t l w k m : D} : unD (PB A B 51 [sbL 0, sbL 1] (stA true (.dat t) (.dat l) (.dat w) (.dat k) (.dat m))) 5 = .ret (.nx (stA true (.dat t) (.dat (.str "packet 2 5")) (.dat (.int 2)) (.dat k) (.dat m))) := by kernel_rfl
theorem gA2_6 {t l w k m : D} : unD (PB A B 51 [sbL 0, sbL 1] (stA true (.dat t) (.dat l) (.dat w) (.dat k) (.dat m))) 6 = .ret (.nx (stA true (.dat t) (.dat (.str "packet 2 2 2")) (.dat (.int 3)) (.dat k) (.dat m))) := by kernel_rfl
theorem gA2_7 {t l w k m : D} : unD (PB A B 51 [sbL 0, sbL 1] (stA true (.dat t) (.dat l) (.dat w) (.dat k) (.dat m))) 7 = .ret (.nx (stA true (.dat t) (.dat (.str "packet 02 2")) (.dat (.int 1)) (.dat k) (.dat m))) := by kernel_rfl
theorem gA2_8 {t l w k m : D} : unD (PB A B 51 [sbL 0, sbL 1] (stA true (.dat t) (.dat l) (.dat w) (.dat k) (.dat m))) 8 = .ret (.nx (stA true (.dat t) (.dat (.str "packet  2")) (.dat (.int 1)) (.dat k) (.dat m))) := by kernel_rfl
theorem gA2_9 {t l w k m : D} : unD (PB A B 51 [sbL 0, sbL 1] (stA true (.dat t) (.dat l) (.dat w) (.dat k) (.dat m))) 9 = .ret (.nx (stA true (.dat t) (.dat (.str "packet 2 2 ")) (.dat (.int 3)) (.dat k) (.dat m))) := by kernel_rfl
theorem gA2_10 {t l w k m : D} : unD (PB A B 51 [sbL 0, sbL 1] (stA true (.dat t) (.dat l) (.dat w) (.dat k) (.dat m))) 10 = .ret (.nx (stA true (.dat t) (.dat (.str "sheet ab cd")) (.dat (.int 0)) (.dat k) (.dat m))) := by kernel_rfl
theorem gB2_e {t l w k m : D} : PB A B 49 [sbL 2, sbL 3, sbL 4] (stA true (.dat t) (.dat l) (.dat w) (.dat k) (.dat m)) = .draw 2 (unD (PB A B 49 [sbL 2, sbL 3, sbL 4] (stA true (.dat t) (.dat l) (.dat w) (.dat k) (.dat m)))) := by kernel_rfl
theorem gB2_0 {t l w k m : D} : unD (PB A B 49 [sbL 2, sbL 3, sbL 4] (stA true (.dat t) (.dat l) (.dat w) (.dat k) (.dat m))) 0 = .draw 11 (unD (unD (PB A B 49 [sbL 2, sbL 3, sbL 4] (stA true (.dat t) (.dat l) (.dat w) (.dat k) (.dat m))) 0)) := by kernel_rfl
theorem gB2_0_0 {t l w k m : D} : unD (unD (PB A B 49 [sbL 2, sbL 3, sbL 4] (stA true (.dat t) (.dat l) (.dat w) (.dat k) (.dat m))) 0) 0 = .ret (.nx (stA true (.dat t) (.dat (.str "")) (.dat (.int 0)) (.dat (.int 1)) (.dat m))) := by kernel_rfl
theorem gB2_0_1 {t l w k m : D} : unD (unD (PB A B 49 [sbL 2, sbL 3, sbL 4] (stA true (.dat t) (.dat l) (.dat w) (.dat k) (.dat m))) 0) 1 = .ret (.nx (stA true (.dat t) (.dat (.str "sheets ab cd")) (.dat (.int 0)) (.dat (.int 1)) (.dat m))) := by kernel_rfl
theorem gB2_0_2 {t l w k m : D} : unD (unD (PB A B 49 [sbL 2, sbL 3, sbL 4] (stA true (.dat t) (.dat l) (.dat w) (.dat k) (.dat m))) 0) 2 = .ret (.nx (stA true (.dat t) (.dat (.str "sheet")) (.dat (.int 1)) (.dat (.int 1)) (.dat m))) := by kernel_rfl
theorem gB2_0_3 {t l w k m : D} : unD (unD (PB A B 49 [sbL 2, sbL 3, sbL 4] (stA true (.dat t) (.dat l) (.dat w) (.dat k) (.dat m))) 0) 3 = .ret (.nx (stA true (.dat t) (.dat (.str "sheet ab")) (.dat (.int 2)) (.dat (.int 1)) (.dat m))) := by kernel_rfl
theorem gB2_0_4 {t l w k m : D} : unD (unD (PB A B 49 [sbL 2, sbL 3, sbL 4] (stA true (.dat t) (.dat l) (.dat w) (.dat k) (.dat m))) 0) 4 = .ret (.nx (stA true (.dat t) (.dat (.str "sheet abc cd")) (.dat (.int 1)) (.dat (.int 1)) (.dat m))) := by kernel_rfl
theorem gB2_0_5 {t l w k m : D} : unD (unD (PB A B 49 [sbL 2, sbL 3, sbL 4] (stA true (.dat t) (.dat l) (.dat w) (.dat k) (.dat m))) 0) 5 = .ret (.nx (stA true (.dat t) (.dat (.str "sheet ab c")) (.dat (.int 2)) (.dat (.int 1)) (.dat m))) := by kernel_rfl
theorem gB2_0_6 {t l w k m : D} : unD (unD (PB A B 49 [sbL 2, sbL 3, sbL 4] (stA true (.dat t) (.dat l) (.dat w) (.dat k) (.dat m))) 0) 6 = .ret (.nx (stA true (.dat t) (.dat (.str "sheet aB cd")) (.dat (.int 1)) (.dat (.int 1)) (.dat m))) := by kernel_rfl
theorem gB2_0_7 {t l w k m : D} : unD (unD (PB A B 49 [sbL 2, sbL 3, sbL 4] (stA true (.dat t) (.dat l) (.dat w) (.dat k) (.dat m))) 0) 7 = .ret (.nx (stA true (.dat t) (.dat (.str "sheet ab cd ef")) (.dat (.int 3)) (.dat (.int 1)) (.dat m))) := by kernel_rfl
theorem gB2_0_8 {t l w k m : D} : unD (unD (PB A B 49 [sbL 2, sbL 3, sbL 4] (stA true (.dat t) (.dat l) (.dat w) (.dat k) (.dat m))) 0) 8 = .ret (.nx (stA true (.dat t) (.dat (.str "sheet ab cd ")) (.dat (.int 3)) (.dat (.int 1)) (.dat m))) := by kernel_rfl
theorem gB2_0_9 {t l w k m : D} : unD (unD (PB A B 49 [sbL 2, sbL 3, sbL 4] (stA true (.dat t) (.dat l) (.dat w) (.dat k) (.dat m))) 0) 9 = .ret (.nx (stA true (.dat t) (.dat (.str "sheet  ab cd")) (.dat (.int 1)) (.dat (.int 1)) (.dat m))) := by kernel_rfl
theorem gB2_0_10 {t l w k m : D} : unD (unD (PB A B 49 [sbL 2, sbL 3, sbL 4] (stA true (.dat t) (.dat l) (.dat w) (.dat k) (.dat m))) 0) 10 = .ret (.nx (stA true (.dat t) (.dat (.str "packet 2 2")) (.dat (.int 0)) (.dat (.int 1)) (.dat m))) := by kernel_rfl
theorem gB2_1 {t l w k m : D} : unD (PB A B 49 [sbL 2, sbL 3, sbL 4] (stA true (.dat t) (.dat l) (.dat w) (.dat k) (.dat m))) 1 = .draw 11 (unD (unD (PB A B 49 [sbL 2, sbL 3, sbL 4] (stA true (.dat t) (.dat l) (.dat w) (.dat k) (.dat m))) 1)) := by kernel_rfl
theorem gB2_1_0 {t l w k m : D} : unD (unD (PB A B 49 [sbL 2, sbL 3, sbL 4] (stA true (.dat t) (.dat l) (.dat w) (.dat k) (.dat m))) 1) 0 = .ret (.nx (stA true (.dat t) (.dat (.str "")) (.dat (.int 0)) (.dat (.int 2)) (.dat m))) := by kernel_rfl
theorem gB2_1_1 {t l w k m : D} : unD (unD (PB A B 49 [sbL 2, sbL 3, sbL 4] (stA true (.dat t) (.dat l) (.dat w) (.dat k) (.dat m))) 1) 1 = .ret (.nx (stA true (.dat t) (.dat (.str "sheets ab cd")) (.dat (.int 0)) (.dat (.int 2)) (.dat m))) := by kernel_rfl
theorem gB2_1_2 {t l w k m : D} : unD (unD (PB A B 49 [sbL 2, sbL 3, sbL 4] (stA true (.dat t) (.dat l) (.dat w) (.dat k) (.dat m))) 1) 2 = .ret (.nx (stA true (.dat t) (.dat (.str "sheet")) (.dat (.int 1)) (.dat (.int 2)) (.dat m))) := by kernel_rfl
theorem gB2_1_3 {t l w k m : D} : unD (unD (PB A B 49 [sbL 2, sbL 3, sbL 4] (stA true (.dat t) (.dat l) (.dat w) (.dat k) (.dat m))) 1) 3 = .ret (.nx (stA true (.dat t) (.dat (.str "sheet ab")) (.dat (.int 2)) (.dat (.int 2)) (.dat m))) := by kernel_rfl
theorem gB2_1_4 {t l w k m : D} : unD (unD (PB A B 49 [sbL 2, sbL 3, sbL 4] (stA true (.dat t) (.dat l) (.dat w) (.dat k) (.dat m))) 1) 4 = .ret (.nx (stA true (.dat t) (.dat (.str "sheet abc cd")) (.dat (.int 1)) (.dat (.int 2)) (.dat m))) := by kernel_rfl
theorem gB2_1_5 {t l w k m : D} : unD (unD (PB A B 49 [sbL 2, sbL 3, sbL 4] (stA true (.dat t) (.dat l) (.dat w) (.dat k) (.dat m))) 1) 5 = .ret (.nx (stA true (.dat t) (.dat (.str "sheet ab c")) (.dat (.int 2)) (.dat (.int 2)) (.dat m))) := by kernel_rfl
theorem gB2_1_6 {t l w k m : D} : unD (unD (PB A B 49 [sbL 2, sbL 3, sbL 4] (stA true (.dat t) (.dat l) (.dat w) (.dat k) (.dat m))) 1) 6 = .ret (.nx (stA true (.dat t) (.dat (.str "sheet aB cd")) (.dat (.int 1)) (.dat (.int 2)) (.dat m))) := by kernel_rfl
theorem gB2_1_7 {t l w k m : D} : unD (unD (PB A B 49 [sbL 2, sbL 3, sbL 4] (stA true (.dat t) (.dat l) (.dat w) (.dat k) (.dat m))) 1) 7 = .ret (.nx (stA true (.dat t) (.dat (.str "sheet ab cd ef")) (.dat (.int 3)) (.dat (.int 2)) (.dat m))) := by kernel_rfl
theorem gB2_1_8 {t l w k m : D} : unD (unD (PB A B 49 [sbL 2, sbL 3, sbL 4] (stA true (.dat t) (.dat l) (.dat w) (.dat k) (.dat m))) 1) 8 = .ret (.nx (stA true (.dat t) (.dat (.str "sheet ab cd ")) (.dat (.int 3)) (.dat (.int 2)) (.dat m))) := by kernel_rfl
theorem gB2_1_9 {t l w k m : D} : unD (unD (PB A B 49 [sbL 2, sbL 3, sbL 4] (stA true (.dat t) (.dat l) (.dat w) (.dat k) (.dat m))) 1) 9 = .ret (.nx (stA true (.dat t) (.dat (.str "sheet  ab cd")) (.dat (.int 1)) (.dat (.int 2)) (.dat m))) := by kernel_rfl
theorem gB2_1_10 {t l w k m : D} : unD (unD (PB A B 49 [sbL 2, sbL 3, sbL 4] (stA true (.dat t) (.dat l) (.dat w) (.dat k) (.dat m))) 1) 10 = .ret (.nx (stA true (.dat t) (.dat (.str "packet 2 2")) (.dat (.int 0)) (.dat (.int 2)) (.dat m))) := by kernel_rfl
theorem gC2_e {t l w k m : D} : EB A B 46 [sbL 5, sbL 6] (stA true (.dat t) (.dat l) (.dat w) (.dat k) (.dat m)) = .draw 6 (unD (EB A B 46 [sbL 5, sbL 6] (stA true (.dat t) (.dat l) (.dat w) (.dat k) (.dat m)))) := by kernel_rfl
theorem gC2_0 {t l w k m : D} : unD (EB A B 46 [sbL 5, sbL 6] (stA true (.dat t) (.dat l) (.dat w) (.dat k) (.dat m))) 0 = .ret (.nx (stA true (.dat t) (.dat l) (.dat w) (.dat k) (.dat (.int 1)))) := by kernel_rfl
theorem gC2_1 {t l w k m : D} : unD (EB A B 46 [sbL 5, sbL 6] (stA true (.dat t) (.dat l) (.dat w) (.dat k) (.dat m))) 1 = .ret (.nx (stA true (.dat t) (.dat l) (.dat w) (.dat k) (.dat (.int 2)))) := by kernel_rfl
theorem gC2_2 {t l w k m : D} : unD (EB A B 46 [sbL 5, sbL 6] (stA true (.dat t) (.dat l) (.dat w) (.dat k) (.dat m))) 2 = .ret (.nx (stA true (.dat t) (.dat l) (.dat w) (.dat k) (.dat (.int 3)))) := by kernel_rfl
theorem gC2_3 {t l w k m : D} : unD (EB A B 46 [sbL 5, sbL 6] (stA true (.dat t) (.dat l) (.dat w) (.dat k) (.dat m))) 3 = .ret (.nx (stA true (.dat t) (.dat l) (.dat w) (.dat k) (.dat (.int 4)))) := by kernel_rfl
theorem gC2_4 {t l w k m : D} : unD (EB A B 46 [sbL 5, sbL 6] (stA true (.dat t) (.dat l) (.dat w) (.dat k) (.dat m))) 4 = .ret (.nx (stA true (.dat t) (.dat l) (.dat w) (.dat k) (.dat (.int 5)))) := by kernel_rfl
theorem gC2_5 {t l w k m : D} : unD (EB A B 46 [sbL 5, sbL 6] (stA true (.dat t) (.dat l) (.dat w) (.dat k) (.dat m))) 5 = .ret (.nx (stA true (.dat t) (.dat l) (.dat w) (.dat k) (.dat (.int 6)))) := by kernel_rfl
end Kn

namespace Kn
open PySem PySem.Spec L2 Ev Pg
variable {A B : Addr}
def PostT (fl : Fl) : Prop := ∃ t l w k m, fl = .nx (stA true (.dat t) (.dat l) (.dat w) (.dat k) (.dat m))
abbrev NoE : Str → List D → Prop := fun _ _ => False
theorem exB_ap {G : Info} {call : Str → List D → T D} {err : ErrF} {C : Sc0} {mu : List Str} {ρ : List Sl} {n : Nat} {L : List Stmt} (m : Nat) (l : List Stmt) (b : Stmt) (r : List Stmt) (hn : n = m + l.length) (hL : L = l ++ b :: r) : exB G call err C mu n ρ L = (preB G call err C mu n l ρ).bind (seqF fun ρ' => exB G call err C mu m ρ' (b :: r)) := by
  subst hn
  subst hL
  exact exB_app l ρ
theorem spl {ρ : List Sl} (n m : Nat) (L l : List Stmt) (b : Stmt) (r : List Stmt) (hn : n = m + l.length) (hL : L = l ++ b :: r) : EB A B n L ρ = (PB A B n l ρ).bind (seqF fun ρ' => EB A B m (b :: r) ρ') := by
  unfold EB PB
  exact exB_ap m l b r hn hL
theorem spl1 {ρ : List Sl} (m : Nat) (s b : Stmt) (r : List Stmt) : EB A B (m + 1) (s :: b :: r) ρ = (ES A B m s ρ).bind (seqF fun ρ' => EB A B m (b :: r) ρ') := by
  unfold EB ES
  exact exB_cons
theorem turnC1 {t l w k : D} : wpT (EB A B 46 [sbL 5, sbL 6] (stA true (.dat t) (.dat l) (.dat w) (.dat k) .emp)) PostT NoE := by
  rw [gC1_e, wpT_draw]
  refine ⟨by decide, fun i i0 i1 => ?_⟩
  have c : i = 0 ∨ i = 1 ∨ i = 2 ∨ i = 3 ∨ i = 4 ∨ i = 5 := by omega
  rcases c with rfl | rfl | rfl | rfl | rfl | rfl
  · rw [gC1_0]; exact ⟨_, _, _, _, _, rfl⟩
  · rw [gC1_1]; exact ⟨_, _, _, _, _, rfl⟩
  · rw [gC1_2]; exact ⟨_, _, _, _, _, rfl⟩
  · rw [gC1_3]; exact ⟨_, _, _, _, _, rfl⟩
  · rw [gC1_4]; exact ⟨_, _, _, _, _, rfl⟩
  · rw [gC1_5]; exact ⟨_, _, _, _, _, rfl⟩
theorem turnB1 {t l w : D} : wpT (EB A B 49 (sbL 2 :: [sbL 3, sbL 4, sbL 5, sbL 6]) (stA false (.dat t) (.dat l) (.dat w) .emp .emp)) PostT NoE := by
  rw [spl 49 46 [sbL 2, sbL 3, sbL 4, sbL 5, sbL 6] [sbL 2, sbL 3, sbL 4] (sbL 5) [sbL 6] rfl rfl, wpT_bind]
  rw [gB1_e, wpT_draw]
  refine ⟨by decide, fun i i0 i1 => ?_⟩
  have c : i = 0 ∨ i = 1 := by omega
  rcases c with rfl | rfl
  · rw [gB1_0, wpT_draw]
    refine ⟨by decide, fun j j0 j1 => ?_⟩
    have c : j = 0 ∨ j = 1 ∨ j = 2 ∨ j = 3 ∨ j = 4 ∨ j = 5 ∨ j = 6 ∨ j = 7 ∨ j = 8 ∨ j = 9 ∨ j = 10 := by omega
    rcases c with rfl | rfl | rfl | rfl | rfl | rfl | rfl | rfl | rfl | rfl | rfl
    · rw [gB1_0_0, wpT_ret, seqF_nx]; exact turnC1
    · rw [gB1_0_1, wpT_ret, seqF_nx]; exact turnC1
    · rw [gB1_0_2, wpT_ret, seqF_nx]; exact turnC1
    · rw [gB1_0_3, wpT_ret, seqF_nx]; exact turnC1
    · rw [gB1_0_4, wpT_ret, seqF_nx]; exact turnC1
    · rw [gB1_0_5, wpT_ret, seqF_nx]; exact turnC1
    · rw [gB1_0_6, wpT_ret, seqF_nx]; exact turnC1
    · rw [gB1_0_7, wpT_ret, seqF_nx]; exact turnC1
    · rw [gB1_0_8, wpT_ret, seqF_nx]; exact turnC1
    · rw [gB1_0_9, wpT_ret, seqF_nx]; exact turnC1
    · rw [gB1_0_10, wpT_ret, seqF_nx]; exact turnC1
  · rw [gB1_1, wpT_draw]
    refine ⟨by decide, fun j j0 j1 => ?_⟩
    have c : j = 0 ∨ j = 1 ∨ j = 2 ∨ j = 3 ∨ j = 4 ∨ j = 5 ∨ j = 6 ∨ j = 7 ∨ j = 8 ∨ j = 9 ∨ j = 10 := by omega
    rcases c with rfl | rfl | rfl | rfl | rfl | rfl | rfl | rfl | rfl | rfl | rfl
    · rw [gB1_1_0, wpT_ret, seqF_nx]; exact turnC1
    · rw [gB1_1_1, wpT_ret, seqF_nx]; exact turnC1
    · rw [gB1_1_2, wpT_ret, seqF_nx]; exact turnC1
    · rw [gB1_1_3, wpT_ret, seqF_nx]; exact turnC1
    · rw [gB1_1_4, wpT_ret, seqF_nx]; exact turnC1
    · rw [gB1_1_5, wpT_ret, seqF_nx]; exact turnC1
    · rw [gB1_1_6, wpT_ret, seqF_nx]; exact turnC1
    · rw [gB1_1_7, wpT_ret, seqF_nx]; exact turnC1
    · rw [gB1_1_8, wpT_ret, seqF_nx]; exact turnC1
    · rw [gB1_1_9, wpT_ret, seqF_nx]; exact turnC1
    · rw [gB1_1_10, wpT_ret, seqF_nx]; exact turnC1
theorem turnA1 {t : D} : wpT (EB A B 51 bdL (stA false (.dat t) .emp .emp .emp .emp)) PostT NoE := by
  have e : bdL = [sbL 0, sbL 1, sbL 2, sbL 3, sbL 4, sbL 5, sbL 6] := by kernel_rfl
  rw [e]
  rw [spl 51 49 [sbL 0, sbL 1, sbL 2, sbL 3, sbL 4, sbL 5, sbL 6] [sbL 0, sbL 1] (sbL 2) [sbL 3, sbL 4, sbL 5, sbL 6] rfl rfl, wpT_bind]
  rw [gA1_e, wpT_draw]
  refine ⟨by decide, fun i i0 i1 => ?_⟩
  have c : i = 0 ∨ i = 1 ∨ i = 2 ∨ i = 3 ∨ i = 4 ∨ i = 5 ∨ i = 6 ∨ i = 7 ∨ i = 8 ∨ i = 9 ∨ i = 10 := by omega
  rcases c with rfl | rfl | rfl | rfl | rfl | rfl | rfl | rfl | rfl | rfl | rfl
  · rw [gA1_0, wpT_ret, seqF_nx]; exact turnB1
  · rw [gA1_1, wpT_ret, seqF_nx]; exact turnB1
  · rw [gA1_2, wpT_ret, seqF_nx]; exact turnB1
  · rw [gA1_3, wpT_ret, seqF_nx]; exact turnB1
  · rw [gA1_4, wpT_ret, seqF_nx]; exact turnB1
  · rw [gA1_5, wpT_ret, seqF_nx]; exact turnB1
  · rw [gA1_6, wpT_ret, seqF_nx]; exact turnB1
  · rw [gA1_7, wpT_ret, seqF_nx]; exact turnB1
  · rw [gA1_8, wpT_ret, seqF_nx]; exact turnB1
  · rw [gA1_9, wpT_ret, seqF_nx]; exact turnB1
  · rw [gA1_10, wpT_ret, seqF_nx]; exact turnB1
theorem turnC2 {t l w k m : D} : wpT (EB A B 46 [sbL 5, sbL 6] (stA true (.dat t) (.dat l) (.dat w) (.dat k) (.dat m))) PostT NoE := by
  rw [gC2_e, wpT_draw]
  refine ⟨by decide, fun i i0 i1 => ?_⟩
  have c : i = 0 ∨ i = 1 ∨ i = 2 ∨ i = 3 ∨ i = 4 ∨ i = 5 := by omega
  rcases c with rfl | rfl | rfl | rfl | rfl | rfl
  · rw [gC2_0]; exact ⟨_, _, _, _, _, rfl⟩
  · rw [gC2_1]; exact ⟨_, _, _, _, _, rfl⟩
  · rw [gC2_2]; exact ⟨_, _, _, _, _, rfl⟩
  · rw [gC2_3]; exact ⟨_, _, _, _, _, rfl⟩
  · rw [gC2_4]; exact ⟨_, _, _, _, _, rfl⟩
  · rw [gC2_5]; exact ⟨_, _, _, _, _, rfl⟩
theorem turnB2 {t l w k m : D} : wpT (EB A B 49 (sbL 2 :: [sbL 3, sbL 4, sbL 5, sbL 6]) (stA true (.dat t) (.dat l) (.dat w) (.dat k) (.dat m))) PostT NoE := by
  rw [spl 49 46 [sbL 2, sbL 3, sbL 4, sbL 5, sbL 6] [sbL 2, sbL 3, sbL 4] (sbL 5) [sbL 6] rfl rfl, wpT_bind]
  rw [gB2_e, wpT_draw]
  refine ⟨by decide, fun i i0 i1 => ?_⟩
  have c : i = 0 ∨ i = 1 := by omega
  rcases c with rfl | rfl
  · rw [gB2_0, wpT_draw]
    refine ⟨by decide, fun j j0 j1 => ?_⟩
    have c : j = 0 ∨ j = 1 ∨ j = 2 ∨ j = 3 ∨ j = 4 ∨ j = 5 ∨ j = 6 ∨ j = 7 ∨ j = 8 ∨ j = 9 ∨ j = 10 := by omega
    rcases c with rfl | rfl | rfl | rfl | rfl | rfl | rfl | rfl | rfl | rfl | rfl
    · rw [gB2_0_0, wpT_ret, seqF_nx]; exact turnC2
    · rw [gB2_0_1, wpT_ret, seqF_nx]; exact turnC2
    · rw [gB2_0_2, wpT_ret, seqF_nx]; exact turnC2
    · rw [gB2_0_3, wpT_ret, seqF_nx]; exact turnC2
    · rw [gB2_0_4, wpT_ret, seqF_nx]; exact turnC2
    · rw [gB2_0_5, wpT_ret, seqF_nx]; exact turnC2
    · rw [gB2_0_6, wpT_ret, seqF_nx]; exact turnC2
    · rw [gB2_0_7, wpT_ret, seqF_nx]; exact turnC2
    · rw [gB2_0_8, wpT_ret, seqF_nx]; exact turnC2
    · rw [gB2_0_9, wpT_ret, seqF_nx]; exact turnC2
    · rw [gB2_0_10, wpT_ret, seqF_nx]; exact turnC2
  · rw [gB2_1, wpT_draw]
    refine ⟨by decide, fun j j0 j1 => ?_⟩
    have c : j = 0 ∨ j = 1 ∨ j = 2 ∨ j = 3 ∨ j = 4 ∨ j = 5 ∨ j = 6 ∨ j = 7 ∨ j = 8 ∨ j = 9 ∨ j = 10 := by omega
    rcases c with rfl | rfl | rfl | rfl | rfl | rfl | rfl | rfl | rfl | rfl | rfl
    · rw [gB2_1_0, wpT_ret, seqF_nx]; exact turnC2
    · rw [gB2_1_1, wpT_ret, seqF_nx]; exact turnC2
    · rw [gB2_1_2, wpT_ret, seqF_nx]; exact turnC2
    · rw [gB2_1_3, wpT_ret, seqF_nx]; exact turnC2
    · rw [gB2_1_4, wpT_ret, seqF_nx]; exact turnC2
    · rw [gB2_1_5, wpT_ret, seqF_nx]; exact turnC2
    · rw [gB2_1_6, wpT_ret, seqF_nx]; exact turnC2
    · rw [gB2_1_7, wpT_ret, seqF_nx]; exact turnC2
    · rw [gB2_1_8, wpT_ret, seqF_nx]; exact turnC2
    · rw [gB2_1_9, wpT_ret, seqF_nx]; exact turnC2
    · rw [gB2_1_10, wpT_ret, seqF_nx]; exact turnC2
theorem turnA2 {t l w k m : D} : wpT (EB A B 51 bdL (stA true (.dat t) (.dat l) (.dat w) (.dat k) (.dat m))) PostT NoE := by
  have e : bdL = [sbL 0, sbL 1, sbL 2, sbL 3, sbL 4, sbL 5, sbL 6] := by kernel_rfl
  rw [e]
  rw [spl 51 49 [sbL 0, sbL 1, sbL 2, sbL 3, sbL 4, sbL 5, sbL 6] [sbL 0, sbL 1] (sbL 2) [sbL 3, sbL 4, sbL 5, sbL 6] rfl rfl, wpT_bind]
  rw [gA2_e, wpT_draw]
  refine ⟨by decide, fun i i0 i1 => ?_⟩
  have c : i = 0 ∨ i = 1 ∨ i = 2 ∨ i = 3 ∨ i = 4 ∨ i = 5 ∨ i = 6 ∨ i = 7 ∨ i = 8 ∨ i = 9 ∨ i = 10 := by omega
  rcases c with rfl | rfl | rfl | rfl | rfl | rfl | rfl | rfl | rfl | rfl | rfl
  · rw [gA2_0, wpT_ret, seqF_nx]; exact turnB2
  · rw [gA2_1, wpT_ret, seqF_nx]; exact turnB2
  · rw [gA2_2, wpT_ret, seqF_nx]; exact turnB2
  · rw [gA2_3, wpT_ret, seqF_nx]; exact turnB2
  · rw [gA2_4, wpT_ret, seqF_nx]; exact turnB2
  · rw [gA2_5, wpT_ret, seqF_nx]; exact turnB2
  · rw [gA2_6, wpT_ret, seqF_nx]; exact turnB2
  · rw [gA2_7, wpT_ret, seqF_nx]; exact turnB2
  · rw [gA2_8, wpT_ret, seqF_nx]; exact turnB2
  · rw [gA2_9, wpT_ret, seqF_nx]; exact turnB2
  · rw [gA2_10, wpT_ret, seqF_nx]; exact turnB2
def InvL (ρ : List Sl) : Prop := ρ = stA false .emp .emp .emp .emp .emp ∨ ∃ t l w k m, ρ = stA true (.dat t) (.dat l) (.dat w) (.dat k) (.dat m)
theorem l_for : ES A B 52 (stL 7) (stA false .emp .emp .emp .emp .emp) = forT (fun ρ d => bindT lawC ρ tgL d) (fun ρ => EB A B 51 bdL ρ) (intsD 0 8) (stA false .emp .emp .emp .emp .emp) := by kernel_rfl
theorem l_bn1 {d : D} : bindT lawC (stA false .emp .emp .emp .emp .emp) tgL d = .ret (stA false (.dat d) .emp .emp .emp .emp) := by kernel_rfl
theorem l_bn2 {d t l w k m : D} : bindT lawC (stA true (.dat t) (.dat l) (.dat w) (.dat k) (.dat m)) tgL d = .ret (stA true (.dat d) (.dat l) (.dat w) (.dat k) (.dat m)) := by kernel_rfl
theorem l_end1 : EB A B 52 [stL 8, stL 9] (stA false .emp .emp .emp .emp .emp) = .ret (.rt (.bl true)) := by kernel_rfl
theorem l_end2 {t l w k m : D} : EB A B 52 [stL 8, stL 9] (stA true (.dat t) (.dat l) (.dat w) (.dat k) (.dat m)) = .ret (.rt (.bl true)) := by kernel_rfl
theorem m_law : wpT (EB A B 60 lawB [.emp, .dat .row, .emp, .emp, .emp, .emp, .emp, .emp, .emp, .emp]) (fun fl => fl = .rt (.bl true)) NoE := by
  have e : lawB = [stL 0, stL 1, stL 2, stL 3, stL 4, stL 5, stL 6, stL 7, stL 8, stL 9] := by kernel_rfl
  rw [e]
  rw [spl 60 53 [stL 0, stL 1, stL 2, stL 3, stL 4, stL 5, stL 6, stL 7, stL 8, stL 9] [stL 0, stL 1, stL 2, stL 3, stL 4, stL 5, stL 6] (stL 7) [stL 8, stL 9] rfl rfl, wpT_bind]
  rw [l_pre, wpT_ret, seqF_nx, spl1 52, wpT_bind]
  rw [l_for]
  refine forT_wp (I := InvL) (fun ρ d _ hI => ?_) (.inl rfl) (fun ρ hI => ?_)
  · rcases hI with rfl | ⟨t, l, w, k, m, rfl⟩
    · rw [l_bn1, bind_ret]
      refine wpT_mono turnA1 (fun fl hf => ?_) fun _ _ a => a
      obtain ⟨t, l, w, k, m, rfl⟩ := hf
      exact .inr ⟨t, l, w, k, m, rfl⟩
    · rw [l_bn2, bind_ret]
      refine wpT_mono turnA2 (fun fl hf => ?_) fun _ _ a => a
      obtain ⟨t, l, w, k, m, rfl⟩ := hf
      exact .inr ⟨t, l, w, k, m, rfl⟩
  · rcases hI with rfl | ⟨t, l, w, k, m, rfl⟩
    · rw [seqF_nx]
      rw [l_end1, wpT_ret]
    · rw [seqF_nx]
      rw [l_end2, wpT_ret]
end Kn

namespace Kn
open PySem PySem.Spec L2 Kw
abbrev sErrI : Stmt := inClass sErrC 0
abbrev sErrJ : Stmt := inClass (topS 14) 0

theorem lk_cons {α : Type} {x y : Str} {a b : α} {l : List (Str × α)} {p : Str → α → Prop} (h : ((x, a) :: l).lookup y = some b) (h1 : y = x → p x a) (h2 : l.lookup y = some b → p y b) : p y b := by
  rw [List.lookup_cons] at h
  by_cases e : y = x
  · subst e
    rw [beq_self_eq_true] at h
    cases h
    exact h1 rfl
  · rw [beq_eq_false_iff_ne.mpr e] at h
    exact h2 h
theorem scLaw : FnScope lawC.N ["_law_script"] (defScope sLaw) := by
  have h : FnScope (Ev.fnSt sLaw).C.N (Ev.fnSt sLaw).ps (defScope sLaw) := Ev.fnScope_of (by decide +kernel)
  have e : lawC.N = (Ev.fnSt sLaw).C.N := by kernel_rfl
  have e2 : (["_law_script"] : List Str) = (Ev.fnSt sLaw).ps := by kernel_rfl
  rw [e, e2]
  exact h
theorem law_body0 : ∃ (p1 p2 p3 p4 p5 p6 p7 : Pos) (j1 j2 j3 : Nat), (defBody sLaw).getD 0 (.Pass ⟨0, 0, 0, 0⟩) = Pg.rowSt "_law_row" "_law_script" p1 p2 p3 p4 p5 p6 p7 j1 j2 j3 := ⟨_, _, _, _, _, _, _, _, _, _, rfl⟩
theorem law_body1 : defBody sLaw = (defBody sLaw).getD 0 (.Pass ⟨0, 0, 0, 0⟩) :: lawB := by kernel_rfl
theorem law_runs {A B : Addr} : Ev.wpT (Ev.exB (Pg.infoT cst (primZ (erE A B)) [] (Pg.wpK (erE A B) cst tab0 60)) (Pg.callT (erE A B) cst (primZ (erE A B)) [] (Pg.wpK (erE A B) cst tab0 60) 60 4) (Pg.errP (erE A B)) ⟨lawC.N, defScope sLaw, fun _ => true⟩ lawMu 60 (.emp :: .dat .row :: List.replicate (lawC.N.length - 2) .emp) lawB) (fun fl => fl = .rt (.bl true)) (fun _ _ => False) := by
  have e1 : Pg.infoT cst (primZ (erE A B)) [] (Pg.wpK (erE A B) cst tab0 60) = GL (erE A B) := by kernel_rfl
  have e2 : Pg.callT (erE A B) cst (primZ (erE A B)) [] (Pg.wpK (erE A B) cst tab0 60) 60 4 = cL (erE A B) 4 := by kernel_rfl
  have e3 : (⟨lawC.N, defScope sLaw, fun _ => true⟩ : Ev.Sc0) = lawC := by kernel_rfl
  have e4 : (Ev.Sl.emp :: Ev.Sl.dat .row :: List.replicate (lawC.N.length - 2) Ev.Sl.emp) = [.emp, .dat .row, .emp, .emp, .emp, .emp, .emp, .emp, .emp, .emp] := by kernel_rfl
  rw [e1, e2, e3, e4]
  have z := m_law (A := A) (B := B)
  unfold EB at z
  exact z

theorem all_mk {l : PySem.W.OpenLaw} {w : World} {K : PySem.W.Frag} {h : Heap} {mg : Str → Option Value} {fa : Addr} (X : K.In h) (G : h.Ns mainGlobals mg) (hfa : mg "law" = some (.ref fa))
    {C CP SE f1 f2 f3 f4 f5 f6 f7 f8 f9 f10 f11 f12 f13 f14 fL f201 f202 f203 p301 f301 p302 f302 p303 f303 p304 f304 fI cdI ceI CD gI cdJ ceJ : Addr}
    {od1 an1 od2 an2 od3 an3 od4 an4 od5 an5 od6 an6 od7 an7 od8 an8 od9 an9 od10 an10 od11 an11 od12 an12 od13 an13 od14 an14 odL anL od201 an201 od202 an202 od203 an203 od301 an301 od302 an302 od303 an303 od304 an304 odI anI dd cddI cldI odJ anJ dd2 cddJ cldJ : Option Addr} {sl1 sl2 sl3 sl4 sl5 sl6 sl7 sl8 sl9 sl10 sl11 sl12 sl13 sl14 slL sl201 sl202 sl203 sl301 sl302 sl303 sl304 slI ccsI cslI slJ ccsJ cslJ : Array (Option Value)}
    {oc1 kV1 dc1 pm1 ct1 cd1 oc2 kV2 dc2 pm2 ct2 cd2 oc3 kV3 dc3 pm3 ct3 cd3 oc4 kV4 dc4 pm4 ct4 cd4 oc5 kV5 dc5 pm5 ct5 cd5 oc6 kV6 dc6 pm6 ct6 cd6 oc7 kV7 dc7 pm7 ct7 cd7 oc8 kV8 dc8 pm8 ct8 cd8 oc9 kV9 dc9 pm9 ct9 cd9 oc10 kV10 dc10 pm10 ct10 cd10 oc11 kV11 dc11 pm11 ct11 cd11 oc12 kV12 dc12 pm12 ct12 cd12 oc13 kV13 dc13 pm13 ct13 cd13 oc14 kV14 dc14 pm14 ct14 cd14 ocL kVL dcL pmL ctL cdL oc201 kV201 dc201 pm201 ct201 cd201 oc202 kV202 dc202 pm202 ct202 cd202 oc203 kV203 dc203 pm203 ct203 cd203 oc301 kV301 dc301 pm301 ct301 cd301 oc302 kV302 dc302 pm302 ct302 cd302 oc303 kV303 dc303 pm303 ct303 cd303 oc304 kV304 dc304 pm304 ct304 cd304 ocI kVI dcI pmI ctI ccI clI ocJ kVJ dcJ pmJ ctJ ccJ clJ : Value} {rest301 rest302 rest303 rest304 : List Value}
    {nm q : Str} {N : Addr} {bs : List Value} {sn : List Str} {sub : List Value} {ab : Bool} {col : Option Bool} {m0 m1 m2 m3 m5 : Option Value} {vsI : Array Value} {fileI : Str} {tfI tk1 tk2 tk3 tk4 : Tok}
    {nm2 q2 : Str} {N2 : Addr} {bs2 : List Value} {sn2 : List Str} {sub2 : List Value} {ab2 : Bool} {col2 : Option Bool} {o0 o1 o2 o3 o5 : Option Value} {vsJ : Array Value} {fileJ : Str} {tfJ : Tok}
    (aC : PySem.W.nsIn K mainGlobals "Packet" = some (some (.ref C)))
    (aCP : PySem.W.nsIn K mainGlobals "InvalidPacket" = some (some (.ref CP)))
    (aSE : PySem.W.nsIn K mainGlobals "SheetError" = some (some (.ref SE)))
    (a1 : PySem.W.nsIn K mainGlobals "is_number" = some (some (.ref f1)))
    (l1 : K.lookup f1 = some ⟨oc1, od1, .func (PySem.W.fnOf "is_number" "is_number" (defArgs sNum) (defBody sNum) (defScope sNum) .none kV1 dc1 pm1 an1 cd1 ct1), sl1⟩)
    (c1 : PySem.W.codeIn K cd1 "is_number" = true)
    (k1 : PySem.W.keepIn K (.ref f1) = true)
    (a2 : PySem.W.nsIn K mainGlobals "is_from_to" = some (some (.ref f2)))
    (l2 : K.lookup f2 = some ⟨oc2, od2, .func (PySem.W.fnOf "is_from_to" "is_from_to" (defArgs sFromTo) (defBody sFromTo) (defScope sFromTo) .none kV2 dc2 pm2 an2 cd2 ct2), sl2⟩)
    (c2 : PySem.W.codeIn K cd2 "is_from_to" = true)
    (k2 : PySem.W.keepIn K (.ref f2) = true)
    (a3 : PySem.W.nsIn K mainGlobals "is_side" = some (some (.ref f3)))
    (l3 : K.lookup f3 = some ⟨oc3, od3, .func (PySem.W.fnOf "is_side" "is_side" (defArgs sSide) (defBody sSide) (defScope sSide) .none kV3 dc3 pm3 an3 cd3 ct3), sl3⟩)
    (c3 : PySem.W.codeIn K cd3 "is_side" = true)
    (k3 : PySem.W.keepIn K (.ref f3) = true)
    (a4 : PySem.W.nsIn K mainGlobals "is_size" = some (some (.ref f4)))
    (l4 : K.lookup f4 = some ⟨oc4, od4, .func (PySem.W.fnOf "is_size" "is_size" (defArgs sSize) (defBody sSize) (defScope sSize) .none kV4 dc4 pm4 an4 cd4 ct4), sl4⟩)
    (c4 : PySem.W.codeIn K cd4 "is_size" = true)
    (k4 : PySem.W.keepIn K (.ref f4) = true)
    (a5 : PySem.W.nsIn K mainGlobals "is_sheet" = some (some (.ref f5)))
    (l5 : K.lookup f5 = some ⟨oc5, od5, .func (PySem.W.fnOf "is_sheet" "is_sheet" (defArgs sSheet) (defBody sSheet) (defScope sSheet) .none kV5 dc5 pm5 an5 cd5 ct5), sl5⟩)
    (c5 : PySem.W.codeIn K cd5 "is_sheet" = true)
    (k5 : PySem.W.keepIn K (.ref f5) = true)
    (a6 : PySem.W.nsIn K mainGlobals "are_sheets" = some (some (.ref f6)))
    (l6 : K.lookup f6 = some ⟨oc6, od6, .func (PySem.W.fnOf "are_sheets" "are_sheets" (defArgs sSheets) (defBody sSheets) (defScope sSheets) .none kV6 dc6 pm6 an6 cd6 ct6), sl6⟩)
    (c6 : PySem.W.codeIn K cd6 "are_sheets" = true)
    (k6 : PySem.W.keepIn K (.ref f6) = true)
    (a7 : PySem.W.nsIn K mainGlobals "wrong_part" = some (some (.ref f7)))
    (l7 : K.lookup f7 = some ⟨oc7, od7, .func (PySem.W.fnOf "wrong_part" "wrong_part" (defArgs sWrong) (defBody sWrong) (defScope sWrong) .none kV7 dc7 pm7 an7 cd7 ct7), sl7⟩)
    (c7 : PySem.W.codeIn K cd7 "wrong_part" = true)
    (k7 : PySem.W.keepIn K (.ref f7) = true)
    (a8 : PySem.W.nsIn K mainGlobals "is_size_word" = some (some (.ref f8)))
    (l8 : K.lookup f8 = some ⟨oc8, od8, .func (PySem.W.fnOf "is_size_word" "is_size_word" (defArgs sIsSW) (defBody sIsSW) (defScope sIsSW) .none kV8 dc8 pm8 an8 cd8 ct8), sl8⟩)
    (c8 : PySem.W.codeIn K cd8 "is_size_word" = true)
    (k8 : PySem.W.keepIn K (.ref f8) = true)
    (a9 : PySem.W.nsIn K mainGlobals "check_words" = some (some (.ref f9)))
    (l9 : K.lookup f9 = some ⟨oc9, od9, .func (PySem.W.fnOf "check_words" "check_words" (defArgs sChkW) (defBody sChkW) (defScope sChkW) .none kV9 dc9 pm9 an9 cd9 ct9), sl9⟩)
    (c9 : PySem.W.codeIn K cd9 "check_words" = true)
    (k9 : PySem.W.keepIn K (.ref f9) = true)
    (a10 : PySem.W.nsIn K mainGlobals "size_of" = some (some (.ref f10)))
    (l10 : K.lookup f10 = some ⟨oc10, od10, .func (PySem.W.fnOf "size_of" "size_of" (defArgs sSzOf) (defBody sSzOf) (defScope sSzOf) .none kV10 dc10 pm10 an10 cd10 ct10), sl10⟩)
    (c10 : PySem.W.codeIn K cd10 "size_of" = true)
    (k10 : PySem.W.keepIn K (.ref f10) = true)
    (a11 : PySem.W.nsIn K mainGlobals "sheet_of" = some (some (.ref f11)))
    (l11 : K.lookup f11 = some ⟨oc11, od11, .func (PySem.W.fnOf "sheet_of" "sheet_of" (defArgs sShOf) (defBody sShOf) (defScope sShOf) .none kV11 dc11 pm11 an11 cd11 ct11), sl11⟩)
    (c11 : PySem.W.codeIn K cd11 "sheet_of" = true)
    (k11 : PySem.W.keepIn K (.ref f11) = true)
    (a12 : PySem.W.nsIn K mainGlobals "parse_packet" = some (some (.ref f12)))
    (l12 : K.lookup f12 = some ⟨oc12, od12, .func (PySem.W.fnOf "parse_packet" "parse_packet" (defArgs sParse) (defBody sParse) (defScope sParse) .none kV12 dc12 pm12 an12 cd12 ct12), sl12⟩)
    (c12 : PySem.W.codeIn K cd12 "parse_packet" = true)
    (k12 : PySem.W.keepIn K (.ref f12) = true)
    (a13 : PySem.W.nsIn K mainGlobals "_law_taken" = some (some (.ref f13)))
    (l13 : K.lookup f13 = some ⟨oc13, od13, .func (PySem.W.fnOf "_law_taken" "_law_taken" (defArgs sTaken) (defBody sTaken) (defScope sTaken) .none kV13 dc13 pm13 an13 cd13 ct13), sl13⟩)
    (c13 : PySem.W.codeIn K cd13 "_law_taken" = true)
    (k13 : PySem.W.keepIn K (.ref f13) = true)
    (a14 : PySem.W.nsIn K mainGlobals "_law_place" = some (some (.ref f14)))
    (l14 : K.lookup f14 = some ⟨oc14, od14, .func (PySem.W.fnOf "_law_place" "_law_place" (defArgs sPlace) (defBody sPlace) (defScope sPlace) .none kV14 dc14 pm14 an14 cd14 ct14), sl14⟩)
    (c14 : PySem.W.codeIn K cd14 "_law_place" = true)
    (k14 : PySem.W.keepIn K (.ref f14) = true)
    (aL : PySem.W.nsIn K mainGlobals "law" = some (some (.ref fL)))
    (lL : K.lookup fL = some ⟨ocL, odL, .func (PySem.W.fnOf "law" "law" (defArgs sLaw) (defBody sLaw) (defScope sLaw) .none kVL dcL pmL anL cdL ctL), slL⟩)
    (cL : PySem.W.codeIn K cdL "law" = true)
    (kL : PySem.W.keepIn K (.ref fL) = true)
    (a201 : PySem.W.findIn K (.ref C) "__init__" = some (some (.ref f201)))
    (i201 : PySem.W.isFn K (.ref f201) = true)
    (l201 : K.lookup f201 = some ⟨oc201, od201, .func (PySem.W.fnOf "__init__" "Packet.__init__" (defArgs sInit) (defBody sInit) (defScope sInit) .none kV201 dc201 pm201 an201 cd201 ct201), sl201⟩)
    (c201 : PySem.W.codeIn K cd201 "Packet.__init__" = true)
    (k201 : PySem.W.keepIn K (.ref f201) = true)
    (a202 : PySem.W.findIn K (.ref C) "__len__" = some (some (.ref f202)))
    (i202 : PySem.W.isFn K (.ref f202) = true)
    (l202 : K.lookup f202 = some ⟨oc202, od202, .func (PySem.W.fnOf "__len__" "Packet.__len__" (defArgs sLen) (defBody sLen) (defScope sLen) .none kV202 dc202 pm202 an202 cd202 ct202), sl202⟩)
    (c202 : PySem.W.codeIn K cd202 "Packet.__len__" = true)
    (k202 : PySem.W.keepIn K (.ref f202) = true)
    (a203 : PySem.W.findIn K (.ref C) "__eq__" = some (some (.ref f203)))
    (i203 : PySem.W.isFn K (.ref f203) = true)
    (l203 : K.lookup f203 = some ⟨oc203, od203, .func (PySem.W.fnOf "__eq__" "Packet.__eq__" (defArgs sEq) (defBody sEq) (defScope sEq) .none kV203 dc203 pm203 an203 cd203 ct203), sl203⟩)
    (c203 : PySem.W.codeIn K cd203 "Packet.__eq__" = true)
    (k203 : PySem.W.keepIn K (.ref f203) = true)
    (a301 : PySem.W.findIn K (.ref C) "width" = some (some (.ref p301)))
    (g301 : PySem.W.specialIn K (.ref p301) "__get__" = some (some (.builtin "property.__get__")))
    (t301 : PySem.W.takesIn K (.ref p301) = some true)
    (r301 : PySem.W.recIn K p301 "property" = some (.ref f301 :: rest301))
    (l301 : K.lookup f301 = some ⟨oc301, od301, .func (PySem.W.fnOf "width" "Packet.width" (defArgs sW) (defBody sW) (defScope sW) .none kV301 dc301 pm301 an301 cd301 ct301), sl301⟩)
    (c301 : PySem.W.codeIn K cd301 "Packet.width" = true)
    (k301 : PySem.W.keepIn K (.ref f301) = true)
    (a302 : PySem.W.findIn K (.ref C) "height" = some (some (.ref p302)))
    (g302 : PySem.W.specialIn K (.ref p302) "__get__" = some (some (.builtin "property.__get__")))
    (t302 : PySem.W.takesIn K (.ref p302) = some true)
    (r302 : PySem.W.recIn K p302 "property" = some (.ref f302 :: rest302))
    (l302 : K.lookup f302 = some ⟨oc302, od302, .func (PySem.W.fnOf "height" "Packet.height" (defArgs sH) (defBody sH) (defScope sH) .none kV302 dc302 pm302 an302 cd302 ct302), sl302⟩)
    (c302 : PySem.W.codeIn K cd302 "Packet.height" = true)
    (k302 : PySem.W.keepIn K (.ref f302) = true)
    (a303 : PySem.W.findIn K (.ref C) "sheets" = some (some (.ref p303)))
    (g303 : PySem.W.specialIn K (.ref p303) "__get__" = some (some (.builtin "property.__get__")))
    (t303 : PySem.W.takesIn K (.ref p303) = some true)
    (r303 : PySem.W.recIn K p303 "property" = some (.ref f303 :: rest303))
    (l303 : K.lookup f303 = some ⟨oc303, od303, .func (PySem.W.fnOf "sheets" "Packet.sheets" (defArgs sS) (defBody sS) (defScope sS) .none kV303 dc303 pm303 an303 cd303 ct303), sl303⟩)
    (c303 : PySem.W.codeIn K cd303 "Packet.sheets" = true)
    (k303 : PySem.W.keepIn K (.ref f303) = true)
    (a304 : PySem.W.findIn K (.ref C) "cells" = some (some (.ref p304)))
    (g304 : PySem.W.specialIn K (.ref p304) "__get__" = some (some (.builtin "property.__get__")))
    (t304 : PySem.W.takesIn K (.ref p304) = some true)
    (r304 : PySem.W.recIn K p304 "property" = some (.ref f304 :: rest304))
    (l304 : K.lookup f304 = some ⟨oc304, od304, .func (PySem.W.fnOf "cells" "Packet.cells" (defArgs sC) (defBody sC) (defScope sC) .none kV304 dc304 pm304 an304 cd304 ct304), sl304⟩)
    (c304 : PySem.W.codeIn K cd304 "Packet.cells" = true)
    (k304 : PySem.W.keepIn K (.ref f304) = true)
    (pgC : PySem.W.plainGet K C Str.empty = true)
    (hdC : PySem.W.hasDictIn K C = true)
    (poC : PySem.W.plainOver K C = true)
    (saC : PySem.W.findIn K (.ref C) "__setattr__" = some (some (.builtin "object.__setattr__")))
    (mkC : PySem.W.makesIn K C = true)
    (kcC : PySem.W.keepIn K (.ref C) = true)
    (nw : PySem.W.findIn K (.ref C) "_width" = some none)
    (nh : PySem.W.findIn K (.ref C) "_height" = some none)
    (ns : PySem.W.findIn K (.ref C) "_sheets" = some none)
    (cca : PySem.W.findIn K (.ref C) "__class__" = some (some (.builtin "object.__class__")))
    (ccg : PySem.W.specialIn K (.builtin "object.__class__") "__get__" = some (some (.builtin "getset_descriptor.__get__")))
    (cct : PySem.W.takesIn K (.builtin "object.__class__") = some true)
    (cmo : PySem.W.mroIn K C (.type "object") = some true)
    (cme : PySem.W.kitOne K (.ref C) (.ref C) = some true)
    (cne : PySem.W.findIn K (.ref C) "__ne__" = some (some (.builtin "object.__ne__")))
    (xP : K.lookup CP = some (excClassObj nm q CP N bs [.ref SE, .type "ValueError", .type "Exception", .type "BaseException", .type "object"] true sn sub ab col dd m0 m1 m2 m3 m5 "ValueError.__new__"))
    (psa : PySem.W.findIn K (.ref CP) "__setattr__" = some (some (.builtin "object.__setattr__")))
    (pga : PySem.W.findIn K (.ref CP) "__getattribute__" = some (some (.builtin "BaseException.__getattribute__")))
    (pgg : PySem.W.findIn K (.ref CP) "__getattr__" = some none)
    (pnp : PySem.W.findIn K (.ref CP) "part" = some none)
    (pin : PySem.W.findIn K (.ref CP) "__init__" = some (some (.ref fI)))
    (ptf : PySem.W.typeIn K (.ref fI) = some (.type "function"))
    (pkc : PySem.W.keepIn K (.ref CP) = true)
    (pex : PySem.W.subIn K (.ref CP) (.type "BaseException") = some true)
    (pve : PySem.W.subIn K (.ref CP) (.type "ValueError") = some true)
    (pty : PySem.W.typeIn K (.ref CP) = some (.type "type"))
    (phd : PySem.W.hasDictIn K CP = true)
    (pmr : PySem.W.mroIn K CP (.ref CP) = some true)
    (psu : PySem.W.ks_superIn K CP CP "__init__" = some (some (.builtin "ValueError.__init__")))
    (pop : PySem.W.nsIn K cStatics "thirdparty.any" = some none)
    (pgs : PySem.W.nsIn K mainGlobals "super" = some none)
    (pln : K.lookup fI = some ⟨ocI, odI, .func (PySem.W.ksFn "__init__" "InvalidPacket.__init__" (defArgs sErrI) (defBody sErrI) (defScope sErrI) .none kVI dcI pmI anI (.ref cdI) ctI ceI), slI⟩)
    (pcd : PySem.W.codeIn K (.ref cdI) "InvalidPacket.__init__" = true)
    (pco : K.lookup cdI = some ⟨ccI, cddI, .fields vsI, ccsI⟩)
    (pfi : vsI[2]? = some (.str fileI tfI))
    (pce : K.lookup ceI = some ⟨clI, cldI, .cell (some (.ref CP)), cslI⟩)
    (aCD : PySem.W.nsIn K mainGlobals "InvalidText" = some (some (.ref CD)))
    (yP : K.lookup CD = some (excClassObj nm2 q2 CD N2 bs2 [.ref SE, .type "ValueError", .type "Exception", .type "BaseException", .type "object"] true sn2 sub2 ab2 col2 dd2 o0 o1 o2 o3 o5 "ValueError.__new__"))
    (dsa : PySem.W.findIn K (.ref CD) "__setattr__" = some (some (.builtin "object.__setattr__")))
    (dga : PySem.W.findIn K (.ref CD) "__getattribute__" = some (some (.builtin "BaseException.__getattribute__")))
    (dgg : PySem.W.findIn K (.ref CD) "__getattr__" = some none)
    (dnp : PySem.W.findIn K (.ref CD) "row" = some none)
    (dnm : PySem.W.findIn K (.ref CD) "word" = some none)
    (din : PySem.W.findIn K (.ref CD) "__init__" = some (some (.ref gI)))
    (dtf : PySem.W.typeIn K (.ref gI) = some (.type "function"))
    (dkc : PySem.W.keepIn K (.ref CD) = true)
    (dex : PySem.W.subIn K (.ref CD) (.type "BaseException") = some true)
    (dve : PySem.W.subIn K (.ref CD) (.type "ValueError") = some true)
    (dty : PySem.W.typeIn K (.ref CD) = some (.type "type"))
    (dhd : PySem.W.hasDictIn K CD = true)
    (dmr : PySem.W.mroIn K CD (.ref CD) = some true)
    (dsu : PySem.W.ks_superIn K CD CD "__init__" = some (some (.builtin "ValueError.__init__")))
    (dln : K.lookup gI = some ⟨ocJ, odJ, .func (PySem.W.ksFn "__init__" "InvalidText.__init__" (defArgs sErrJ) (defBody sErrJ) (defScope sErrJ) .none kVJ dcJ pmJ anJ (.ref cdJ) ctJ ceJ), slJ⟩)
    (dcd : PySem.W.codeIn K (.ref cdJ) "InvalidText.__init__" = true)
    (dco : K.lookup cdJ = some ⟨ccJ, cddJ, .fields vsJ, ccsJ⟩)
    (dfi : vsJ[2]? = some (.str fileJ tfJ))
    (dce : K.lookup ceJ = some ⟨clJ, cldJ, .cell (some (.ref CD)), cslJ⟩)
    (em1 : PySem.W.exmOne K (.ref CD) (.ref CD) = some true)
    (em2 : PySem.W.exmOne K (.ref CP) (.ref CD) = some false)
    (em3 : PySem.W.exmOne K (.ref CP) (.ref CP) = some true)
    (z1 : PySem.W.nsIn K mainGlobals "len" = some none)
    (z2 : PySem.W.nsIn K mainGlobals "int" = some none)
    (z3 : PySem.W.nsIn K mainGlobals "tuple" = some none)
    (z4 : PySem.W.nsIn K mainGlobals "list" = some none)
    (z5 : PySem.W.nsIn K mainGlobals "all" = some none)
    (z6 : PySem.W.nsIn K mainGlobals "any" = some none)
    (z7 : PySem.W.nsIn K mainGlobals "max" = some none)
    (z8 : PySem.W.nsIn K mainGlobals "min" = some none)
    (z9 : PySem.W.nsIn K mainGlobals "sum" = some none)
    (z10 : PySem.W.nsIn K mainGlobals "sorted" = some none)
    (z11 : PySem.W.nsIn K mainGlobals "range" = some none)
    (z12 : PySem.W.nsIn K mainGlobals "enumerate" = some none)
    (z13 : PySem.W.nsIn K mainGlobals "zip" = some none)
    (z14 : PySem.W.nsIn K mainGlobals "isinstance" = some none)
    (z15 : PySem.W.nsIn K mainGlobals "bool" = some none)
    (z16 : PySem.W.nsIn K mainGlobals "str" = some none)
    (z17 : PySem.W.nsIn K mainGlobals "set" = some none)
    (y1 : PySem.W.nsIn K mainGlobals "DIGITS" = some (some (.str "0123456789" tk1)))
    (y2 : PySem.W.nsIn K mainGlobals "LONGEST_SIDE" = some (some (.int 4 tk2)))
    (y3 : PySem.W.nsIn K mainGlobals "MOST_CELLS" = some (some (.int 9 tk3)))
    (y4 : PySem.W.nsIn K mainGlobals "MOST_SHEETS" = some (some (.int 4 tk4)))
    (pfl : ((l.prog.main.file : Str) == fileI) = true) (dfl : ((l.prog.main.file : Str) == fileJ) = true) (ptp : (l.prog.main.scope.names.lookup ("super" : Str)).isSome = false) :
    ∃ fd : FuncData, (∀ (s : Shared) (u : Value), BindsTo s fd ⟨[u], []⟩ [("_law_script", u)]) ∧ ∀ base : Heap, K.In base → base.Ns mainGlobals mg → FnOk l.prog w K mg base (L2.CX l.prog w) 24 fa fd ["_law_script"] (Pg.spLaw K) := by
  have e := hfa.symm.trans (PySem.W.mg_of X G aL)
  cases e
  have B : Blt mg := ⟨PySem.W.mg_none_of X G z14, PySem.W.mg_none_of X G z2, PySem.W.mg_none_of X G z15, PySem.W.mg_none_of X G z16, PySem.W.mg_none_of X G z3, PySem.W.mg_none_of X G z1, PySem.W.mg_none_of X G z5, PySem.W.mg_none_of X G z11⟩
  have St : Pg.Stay mg := by
    intro x hx
    simp only [List.mem_cons, List.not_mem_nil, or_false] at hx
    rcases hx with rfl | rfl | rfl | rfl | rfl | rfl | rfl | rfl | rfl | rfl | rfl | rfl | rfl | rfl | rfl | rfl | rfl
    · exact PySem.W.mg_none_of X G z1
    · exact PySem.W.mg_none_of X G z2
    · exact PySem.W.mg_none_of X G z3
    · exact PySem.W.mg_none_of X G z4
    · exact PySem.W.mg_none_of X G z5
    · exact PySem.W.mg_none_of X G z6
    · exact PySem.W.mg_none_of X G z7
    · exact PySem.W.mg_none_of X G z8
    · exact PySem.W.mg_none_of X G z9
    · exact PySem.W.mg_none_of X G z10
    · exact PySem.W.mg_none_of X G z11
    · exact PySem.W.mg_none_of X G z12
    · exact PySem.W.mg_none_of X G z13
    · exact PySem.W.mg_none_of X G z14
    · exact PySem.W.mg_none_of X G z15
    · exact PySem.W.mg_none_of X G z16
    · exact PySem.W.mg_none_of X G z17
  have T : PkC K mg C := ⟨PySem.W.mg_of X G aC, ⟨pgC, hdC, poC, saC⟩, nw, nh, ns, cca, ccg, cct, cmo, cme⟩
  have TP : Xp.PTxt l.prog K mg "InvalidPacket" CP fI := { gC := PySem.W.mg_of X G aCP, cls := ⟨nm, q, N, bs, _, sn, sub, ab, col, dd, m0, m1, m2, m3, m5, xP, rfl⟩, sa := psa, ga := pga, gg := pgg, noN := pnp, iC := pin, tC := ptf, kC := pkc, exC := pex, veC := pve, tyC := pty, hdC := phd, mC := pmr, su := psu, op := pop, gs := PySem.W.mg_none_of X G pgs, top := ptp, fn := ⟨_, _, _, _, _, _, _, _, _, _, _, _, _, _, _, _, _, _, _, _, _, _, _, _, _, _, _, by decide +kernel, rfl, pln, pcd, ⟨_, _, _, _, _, _, pco, pfi, pfl⟩, _, _, _, pce⟩ }
  have TD : Xw.PTxt l.prog K mg "InvalidText" CD gI := { gC := PySem.W.mg_of X G aCD, cls := ⟨nm2, q2, N2, bs2, _, sn2, sub2, ab2, col2, dd2, o0, o1, o2, o3, o5, yP, rfl⟩, sa := dsa, ga := dga, gg := dgg, noN := dnp, noM := dnm, iC := din, tC := dtf, kC := dkc, exC := dex, veC := dve, tyC := dty, hdC := dhd, mC := dmr, su := dsu, op := pop, gs := PySem.W.mg_none_of X G pgs, top := ptp, fn := ⟨_, _, _, _, _, _, _, _, _, _, _, _, _, _, _, _, _, _, _, _, _, _, _, _, _, _, _, _, _, _, _, _, _, _, _, _, by decide +kernel, by decide +kernel, rfl, dln, dcd, ⟨_, _, _, _, _, _, dco, dfi, dfl⟩, _, _, _, dce⟩ }
  have F1 := fun_mk (st := sNum) l1 c1 k1
  have b1 := F1.binds (ps := ["value"]) fun _ _ _ _ _ _ us hl => match us, hl with | [_], _ => rfl
  have F2 := fun_mk (st := sFromTo) l2 c2 k2
  have b2 := F2.binds (ps := ["value", "least", "most"]) fun _ _ _ _ _ _ us hl => match us, hl with | [_, _, _], _ => rfl
  have F3 := fun_mk (st := sSide) l3 c3 k3
  have b3 := F3.binds (ps := ["value"]) fun _ _ _ _ _ _ us hl => match us, hl with | [_], _ => rfl
  have F4 := fun_mk (st := sSize) l4 c4 k4
  have b4 := F4.binds (ps := ["width", "height"]) fun _ _ _ _ _ _ us hl => match us, hl with | [_, _], _ => rfl
  have F5 := fun_mk (st := sSheet) l5 c5 k5
  have b5 := F5.binds (ps := ["value", "cells"]) fun _ _ _ _ _ _ us hl => match us, hl with | [_, _], _ => rfl
  have F6 := fun_mk (st := sSheets) l6 c6 k6
  have b6 := F6.binds (ps := ["value", "cells"]) fun _ _ _ _ _ _ us hl => match us, hl with | [_, _], _ => rfl
  have F7 := fun_mk (st := sWrong) l7 c7 k7
  have b7 := F7.binds (ps := ["width", "height", "sheets"]) fun _ _ _ _ _ _ us hl => match us, hl with | [_, _, _], _ => rfl
  have F8 := fun_mk (st := sIsSW) l8 c8 k8
  have b8 := F8.binds (ps := ["word"]) fun _ _ _ _ _ _ us hl => match us, hl with | [_], _ => rfl
  have F9 := fun_mk (st := sChkW) l9 c9 k9
  have b9 := F9.binds (ps := ["row", "words", "good"]) fun _ _ _ _ _ _ us hl => match us, hl with | [_, _, _], _ => rfl
  have F10 := fun_mk (st := sSzOf) l10 c10 k10
  have b10 := F10.binds (ps := ["words"]) fun _ _ _ _ _ _ us hl => match us, hl with | [_], _ => rfl
  have F11 := fun_mk (st := sShOf) l11 c11 k11
  have b11 := F11.binds (ps := ["row", "words", "width", "height"]) fun _ _ _ _ _ _ us hl => match us, hl with | [_, _, _, _], _ => rfl
  have F12 := fun_mk (st := sParse) l12 c12 k12
  have b12 := F12.binds (ps := ["text"]) fun _ _ _ _ _ _ us hl => match us, hl with | [_], _ => rfl
  have F13 := fun_mk (st := sTaken) l13 c13 k13
  have b13 := F13.binds (ps := ["_law_row", "_law_many"]) fun _ _ _ _ _ _ us hl => match us, hl with | [_, _], _ => rfl
  have F14 := fun_mk (st := sPlace) l14 c14 k14
  have b14 := F14.binds (ps := ["_law_rows"]) fun _ _ _ _ _ _ us hl => match us, hl with | [_], _ => rfl
  have F201 := fun_mk (st := sInit) l201 c201 k201
  have b201 := F201.binds (ps := ["self", "width", "height", "sheets"]) fun _ _ _ _ _ _ us hl => match us, hl with | [_, _, _, _], _ => rfl
  have F202 := fun_mk (st := sLen) l202 c202 k202
  have b202 := F202.binds (ps := ["self"]) fun _ _ _ _ _ _ us hl => match us, hl with | [_], _ => rfl
  have F203 := fun_mk (st := sEq) l203 c203 k203
  have b203 := F203.binds (ps := ["self", "other"]) fun _ _ _ _ _ _ us hl => match us, hl with | [_, _], _ => rfl
  have F301 := fun_mk (st := sW) l301 c301 k301
  have b301 := F301.binds (ps := ["self"]) fun _ _ _ _ _ _ us hl => match us, hl with | [_], _ => rfl
  have F302 := fun_mk (st := sH) l302 c302 k302
  have b302 := F302.binds (ps := ["self"]) fun _ _ _ _ _ _ us hl => match us, hl with | [_], _ => rfl
  have F303 := fun_mk (st := sS) l303 c303 k303
  have b303 := F303.binds (ps := ["self"]) fun _ _ _ _ _ _ us hl => match us, hl with | [_], _ => rfl
  have F304 := fun_mk (st := sC) l304 c304 k304
  have b304 := F304.binds (ps := ["self"]) fun _ _ _ _ _ _ us hl => match us, hl with | [_], _ => rfl
  refine ⟨PySem.W.fnOf "law" "law" (defArgs sLaw) (defBody sLaw) (defScope sLaw) .none kVL dcL pmL anL cdL ctL, fun s v => .of_eq rfl, fun base kin gl => ?_⟩
  have FL := fun_mk (st := sLaw) lL cL kL
  have M7 : Has l.prog w K mg base CX0 1 "_law_taken" ["_law_row", "_law_many"] (spTaken K) := ⟨f13, _, ok_taken F13 B, PySem.W.mg_of X G a13, k13, b13⟩
  have A : Pg.PkAll l.prog w K mg base C := ⟨T, ⟨p301, f301, _, ⟨a301, g301, t301, _, r301⟩, Pg.ok_w F301 T, b301⟩, ⟨p302, f302, _, ⟨a302, g302, t302, _, r302⟩, Pg.ok_h F302 T, b302⟩, ⟨p303, f303, _, ⟨a303, g303, t303, _, r303⟩, Pg.ok_s F303 T, b303⟩, ⟨p304, f304, _, ⟨a304, g304, t304, _, r304⟩, Pg.ok_c F304 T, b304⟩, ⟨f202, _, a202, i202, Pg.ok_len F202 T B, b202⟩, ⟨f203, _, ⟨cmo, cne, a203, i203⟩, Pg.ok_eq F203 T B, b203⟩⟩
  have d0 : Pg.DefsOk K mg tab0 := by
    intro f st hf
    unfold tab0 at hf
    refine lk_cons (p := fun f st => ∃ (x qual : Str) (a : Addr) (fd : FuncData), Fun K x qual st a fd ∧ Ev.fnGood st = true ∧ mg f = some (.ref a) ∧ Binds K fd (Ev.fnSt st).ps []) hf (fun _ => ⟨_, _, f1, _, F1, by decide +kernel, PySem.W.mg_of X G a1, b1⟩) fun hf => ?_
    refine lk_cons (p := fun f st => ∃ (x qual : Str) (a : Addr) (fd : FuncData), Fun K x qual st a fd ∧ Ev.fnGood st = true ∧ mg f = some (.ref a) ∧ Binds K fd (Ev.fnSt st).ps []) hf (fun _ => ⟨_, _, f2, _, F2, by decide +kernel, PySem.W.mg_of X G a2, b2⟩) fun hf => ?_
    refine lk_cons (p := fun f st => ∃ (x qual : Str) (a : Addr) (fd : FuncData), Fun K x qual st a fd ∧ Ev.fnGood st = true ∧ mg f = some (.ref a) ∧ Binds K fd (Ev.fnSt st).ps []) hf (fun _ => ⟨_, _, f3, _, F3, by decide +kernel, PySem.W.mg_of X G a3, b3⟩) fun hf => ?_
    refine lk_cons (p := fun f st => ∃ (x qual : Str) (a : Addr) (fd : FuncData), Fun K x qual st a fd ∧ Ev.fnGood st = true ∧ mg f = some (.ref a) ∧ Binds K fd (Ev.fnSt st).ps []) hf (fun _ => ⟨_, _, f4, _, F4, by decide +kernel, PySem.W.mg_of X G a4, b4⟩) fun hf => ?_
    refine lk_cons (p := fun f st => ∃ (x qual : Str) (a : Addr) (fd : FuncData), Fun K x qual st a fd ∧ Ev.fnGood st = true ∧ mg f = some (.ref a) ∧ Binds K fd (Ev.fnSt st).ps []) hf (fun _ => ⟨_, _, f5, _, F5, by decide +kernel, PySem.W.mg_of X G a5, b5⟩) fun hf => ?_
    refine lk_cons (p := fun f st => ∃ (x qual : Str) (a : Addr) (fd : FuncData), Fun K x qual st a fd ∧ Ev.fnGood st = true ∧ mg f = some (.ref a) ∧ Binds K fd (Ev.fnSt st).ps []) hf (fun _ => ⟨_, _, f6, _, F6, by decide +kernel, PySem.W.mg_of X G a6, b6⟩) fun hf => ?_
    refine lk_cons (p := fun f st => ∃ (x qual : Str) (a : Addr) (fd : FuncData), Fun K x qual st a fd ∧ Ev.fnGood st = true ∧ mg f = some (.ref a) ∧ Binds K fd (Ev.fnSt st).ps []) hf (fun _ => ⟨_, _, f7, _, F7, by decide +kernel, PySem.W.mg_of X G a7, b7⟩) fun hf => ?_
    cases hf
  have d1 : Pg.DefsOk K mg tab := by
    intro f st hf
    unfold tab at hf
    refine lk_cons (p := fun f st => ∃ (x qual : Str) (a : Addr) (fd : FuncData), Fun K x qual st a fd ∧ Ev.fnGood st = true ∧ mg f = some (.ref a) ∧ Binds K fd (Ev.fnSt st).ps []) hf (fun _ => ⟨_, _, f5, _, F5, by decide +kernel, PySem.W.mg_of X G a5, b5⟩) fun hf => ?_
    refine lk_cons (p := fun f st => ∃ (x qual : Str) (a : Addr) (fd : FuncData), Fun K x qual st a fd ∧ Ev.fnGood st = true ∧ mg f = some (.ref a) ∧ Binds K fd (Ev.fnSt st).ps []) hf (fun _ => ⟨_, _, f8, _, F8, by decide +kernel, PySem.W.mg_of X G a8, b8⟩) fun hf => ?_
    refine lk_cons (p := fun f st => ∃ (x qual : Str) (a : Addr) (fd : FuncData), Fun K x qual st a fd ∧ Ev.fnGood st = true ∧ mg f = some (.ref a) ∧ Binds K fd (Ev.fnSt st).ps []) hf (fun _ => ⟨_, _, f9, _, F9, by decide +kernel, PySem.W.mg_of X G a9, b9⟩) fun hf => ?_
    refine lk_cons (p := fun f st => ∃ (x qual : Str) (a : Addr) (fd : FuncData), Fun K x qual st a fd ∧ Ev.fnGood st = true ∧ mg f = some (.ref a) ∧ Binds K fd (Ev.fnSt st).ps []) hf (fun _ => ⟨_, _, f10, _, F10, by decide +kernel, PySem.W.mg_of X G a10, b10⟩) fun hf => ?_
    refine lk_cons (p := fun f st => ∃ (x qual : Str) (a : Addr) (fd : FuncData), Fun K x qual st a fd ∧ Ev.fnGood st = true ∧ mg f = some (.ref a) ∧ Binds K fd (Ev.fnSt st).ps []) hf (fun _ => ⟨_, _, f11, _, F11, by decide +kernel, PySem.W.mg_of X G a11, b11⟩) fun hf => ?_
    refine lk_cons (p := fun f st => ∃ (x qual : Str) (a : Addr) (fd : FuncData), Fun K x qual st a fd ∧ Ev.fnGood st = true ∧ mg f = some (.ref a) ∧ Binds K fd (Ev.fnSt st).ps []) hf (fun _ => ⟨_, _, f12, _, F12, by decide +kernel, PySem.W.mg_of X G a12, b12⟩) fun hf => ?_
    cases hf
  have cs : Pg.CstOkL mg cst := by
    intro f st hf
    unfold cst at hf
    refine lk_cons (p := fun x d => (∃ i t, d = Ev.D.int i ∧ mg x = some (.int i t)) ∨ (∃ z t, d = Ev.D.str z ∧ mg x = some (.str z t))) hf (fun _ => .inr ⟨_, _, rfl, PySem.W.mg_of X G y1⟩) fun hf => ?_
    refine lk_cons (p := fun x d => (∃ i t, d = Ev.D.int i ∧ mg x = some (.int i t)) ∨ (∃ z t, d = Ev.D.str z ∧ mg x = some (.str z t))) hf (fun _ => .inl ⟨_, _, rfl, PySem.W.mg_of X G y2⟩) fun hf => ?_
    refine lk_cons (p := fun x d => (∃ i t, d = Ev.D.int i ∧ mg x = some (.int i t)) ∨ (∃ z t, d = Ev.D.str z ∧ mg x = some (.str z t))) hf (fun _ => .inl ⟨_, _, rfl, PySem.W.mg_of X G y3⟩) fun hf => ?_
    refine lk_cons (p := fun x d => (∃ i t, d = Ev.D.int i ∧ mg x = some (.int i t)) ∨ (∃ z t, d = Ev.D.str z ∧ mg x = some (.str z t))) hf (fun _ => .inl ⟨_, _, rfl, PySem.W.mg_of X G y4⟩) fun hf => ?_
    cases hf
  have d2 : Pg.DefsOk K mg [] := by
    intro f st hf
    cases hf
  have fx : Pg.FactsK l.prog w K mg base C CP fI (erE CP CD) cst tab0 tab := ⟨A, St, fun x A fo h => ?_, if_pos rfl, TP, cs, d0, d1, by decide +kernel, ⟨f201, _, F201, ⟨mkC, a201, i201, kcC⟩, b201⟩, M7⟩
  · obtain ⟨p1, p2, p3, p4, p5, p6, p7, j1, j2, j3, hb⟩ := law_body0
    have law_body := law_body1
    rw [hb] at law_body
    have er2 : erE CP CD "InvalidText" = some (CD, some Pg.F12) := by kernel_rfl
    have pz : ∀ (r scr : Addr) (ns : List Int) (f : Str) (p : List Ev.D → Ev.T Ev.D), primZ (erE CP CD) f = some p → Ev.PrimT (Pg.PS K r scr ns C (erE CP CD)) l.prog w mg base 19 f p := fun r scr ns f p hp => by
      have t6 := Pg.text_mkV (r := r) (scr := scr) (ns := ns) (fuel := 60) fx 6
      have pd := Pg.primT_of t6.tx.fns (f := "parse_packet") (by kernel_rfl)
      unfold primZ at hp
      split at hp
      · rename_i q
        subst q
        cases hp
        exact Pg.primT_mono (Pg.prim_taken M7) (by decide)
      · split at hp
        · rename_i q
          subst q
          cases hp
          exact prim_place F14 (PySem.W.mg_of X G a14) k14 b14 pd er2 (if_pos rfl) (PySem.W.mg_of X G aCD) (PySem.W.mg_of X G aCP) ⟨⟨dga, dgg, dex, dhd⟩, dnp⟩ ⟨⟨dga, dgg, dex, dhd⟩, dnm⟩ ⟨⟨pga, pgg, pex, phd⟩, pnp⟩ em1 em2 em3
        · cases hp
    refine Pg.ok_law (N := lawC.N) (m := 60) (mu := lawMu) (rest := lawB) (x := "_law_row") FL scLaw law_body (by decide +kernel) (by decide +kernel) (by decide +kernel) (by decide +kernel) (fun r scr ns => Pg.text_mkT (fuel := 60) (k0 := 19) fx (by decide) (pz r scr ns) d2 4) ?_
    exact law_runs
  · unfold erE at h
    split at h
    · rename_i hx
      cases h
      subst hx
      exact .part fI TP
    · split at h
      · rename_i hx
        cases h
        subst hx
        exact .two gI TD
      · cases h
end Kn
open PySem PySem.W PyProof.Rows
set_option maxRecDepth 100000 in
set_option maxHeartbeats 0 in
theorem PySem.Challenge.cw_sawnsheets_k43_texts_rejected_holds : PySem.Challenge.rw_sawnsheets_k43_texts_rejected.Holds := by
  w_on; o_law; k_head; (case hw => w_witness2)
  k_fill
  refine L2.walk_of (l := PySem.Challenge.rw_sawnsheets_k43_texts_rejected) (n := 63) (k := 24) (x := "_law_script") (CX := fun w => L2.CX (PySem.Challenge.rw_sawnsheets_k43_texts_rejected).prog w) (sp := fun w => Pg.spLaw _) rfl (by decide) rfl ⟨rfl, by decide, by decide⟩ (fun w h Y => Y) ?F (fun w H a ns hl _ hS => ⟨a, ns, rfl, hS, hl, fun _ => rfl⟩) (fun w H s e s' z => by
    obtain ⟨_, _, _, _, _, _, _, _, _, _, _, _, z⟩ := z
    exact z)
  case F =>
    intro w mg fa h KX G hmg
    refine' Kn.all_mk (l := PySem.Challenge.rw_sawnsheets_k43_texts_rejected) KX G hmg ?aC ?aCP ?aSE ?a1 ?l1 ?c1 ?k1 ?a2 ?l2 ?c2 ?k2 ?a3 ?l3 ?c3 ?k3 ?a4 ?l4 ?c4 ?k4 ?a5 ?l5 ?c5 ?k5 ?a6 ?l6 ?c6 ?k6 ?a7 ?l7 ?c7 ?k7 ?a8 ?l8 ?c8 ?k8 ?a9 ?l9 ?c9 ?k9 ?a10 ?l10 ?c10 ?k10 ?a11 ?l11 ?c11 ?k11 ?a12 ?l12 ?c12 ?k12 ?a13 ?l13 ?c13 ?k13 ?a14 ?l14 ?c14 ?k14 ?aL ?lL ?cL ?kL ?a201 ?i201 ?l201 ?c201 ?k201 ?a202 ?i202 ?l202 ?c202 ?k202 ?a203 ?i203 ?l203 ?c203 ?k203 ?a301 ?g301 ?t301 ?r301 ?l301 ?c301 ?k301 ?a302 ?g302 ?t302 ?r302 ?l302 ?c302 ?k302 ?a303 ?g303 ?t303 ?r303 ?l303 ?c303 ?k303 ?a304 ?g304 ?t304 ?r304 ?l304 ?c304 ?k304 ?pgC ?hdC ?poC ?saC ?mkC ?kcC ?nw ?nh ?ns ?cca ?ccg ?cct ?cmo ?cme ?cne ?xP ?psa ?pga ?pgg ?pnp ?pin ?ptf ?pkc ?pex ?pve ?pty ?phd ?pmr ?psu ?pop ?pgs ?pln ?pcd ?pco ?pfi ?pce ?aCD ?yP ?dsa ?dga ?dgg ?dnp ?dnm ?din ?dtf ?dkc ?dex ?dve ?dty ?dhd ?dmr ?dsu ?dln ?dcd ?dco ?dfi ?dce ?em1 ?em2 ?em3 ?z1 ?z2 ?z3 ?z4 ?z5 ?z6 ?z7 ?z8 ?z9 ?z10 ?z11 ?z12 ?z13 ?z14 ?z15 ?z16 ?z17 ?y1 ?y2 ?y3 ?y4 ?pfl ?dfl ?ptp
    (case aC => k_is)
    (case aCP => k_is)
    (case aSE => k_is)
    (case a1 => k_is)
    (case l1 => k_is)
    (case c1 => k_is)
    (case k1 => k_is)
    (case a2 => k_is)
    (case l2 => k_is)
    (case c2 => k_is)
    (case k2 => k_is)
    (case a3 => k_is)
    (case l3 => k_is)
    (case c3 => k_is)
    (case k3 => k_is)
    (case a4 => k_is)
    (case l4 => k_is)
    (case c4 => k_is)
    (case k4 => k_is)
    (case a5 => k_is)
    (case l5 => k_is)
    (case c5 => k_is)
    (case k5 => k_is)
    (case a6 => k_is)
    (case l6 => k_is)
    (case c6 => k_is)
    (case k6 => k_is)
    (case a7 => k_is)
    (case l7 => k_is)
    (case c7 => k_is)
    (case k7 => k_is)
    (case a8 => k_is)
    (case l8 => k_is)
    (case c8 => k_is)
    (case k8 => k_is)
    (case a9 => k_is)
    (case l9 => k_is)
    (case c9 => k_is)
    (case k9 => k_is)
    (case a10 => k_is)
    (case l10 => k_is)
    (case c10 => k_is)
    (case k10 => k_is)
    (case a11 => k_is)
    (case l11 => k_is)
    (case c11 => k_is)
    (case k11 => k_is)
    (case a12 => k_is)
    (case l12 => k_is)
    (case c12 => k_is)
    (case k12 => k_is)
    (case a13 => k_is)
    (case l13 => k_is)
    (case c13 => k_is)
    (case k13 => k_is)
    (case a14 => k_is)
    (case l14 => k_is)
    (case c14 => k_is)
    (case k14 => k_is)
    (case aL => k_is)
    (case lL => k_is)
    (case cL => k_is)
    (case kL => k_is)
    (case a201 => k_is)
    (case i201 => k_is)
    (case l201 => k_is)
    (case c201 => k_is)
    (case k201 => k_is)
    (case a202 => k_is)
    (case i202 => k_is)
    (case l202 => k_is)
    (case c202 => k_is)
    (case k202 => k_is)
    (case a203 => k_is)
    (case i203 => k_is)
    (case l203 => k_is)
    (case c203 => k_is)
    (case k203 => k_is)
    (case a301 => k_is)
    (case g301 => k_is)
    (case t301 => k_is)
    (case r301 => k_is)
    (case l301 => k_is)
    (case c301 => k_is)
    (case k301 => k_is)
    (case a302 => k_is)
    (case g302 => k_is)
    (case t302 => k_is)
    (case r302 => k_is)
    (case l302 => k_is)
    (case c302 => k_is)
    (case k302 => k_is)
    (case a303 => k_is)
    (case g303 => k_is)
    (case t303 => k_is)
    (case r303 => k_is)
    (case l303 => k_is)
    (case c303 => k_is)
    (case k303 => k_is)
    (case a304 => k_is)
    (case g304 => k_is)
    (case t304 => k_is)
    (case r304 => k_is)
    (case l304 => k_is)
    (case c304 => k_is)
    (case k304 => k_is)
    (case pgC => k_is)
    (case hdC => k_is)
    (case poC => k_is)
    (case saC => k_is)
    (case mkC => k_is)
    (case kcC => k_is)
    (case nw => k_is)
    (case nh => k_is)
    (case ns => k_is)
    (case cca => k_is)
    (case ccg => k_is)
    (case cct => k_is)
    (case cmo => k_is)
    (case cme => kernel_rfl)
    (case cne => k_is)
    (case xP => k_is)
    (case psa => k_is)
    (case pga => k_is)
    (case pgg => k_is)
    (case pnp => k_is)
    (case pin => k_is)
    (case ptf => k_is)
    (case pkc => k_is)
    (case pex => k_is)
    (case pve => k_is)
    (case pty => k_is)
    (case phd => k_is)
    (case pmr => k_is)
    (case psu => first | k_is | ks_is)
    (case pop => k_is)
    (case pgs => k_is)
    (case pln => k_is)
    (case pcd => k_is)
    (case pco => k_is)
    (case pfi => exact rfl)
    (case pce => k_is)
    (case aCD => k_is)
    (case yP => k_is)
    (case dsa => k_is)
    (case dga => k_is)
    (case dgg => k_is)
    (case dnp => k_is)
    (case dnm => k_is)
    (case din => k_is)
    (case dtf => k_is)
    (case dkc => k_is)
    (case dex => k_is)
    (case dve => k_is)
    (case dty => k_is)
    (case dhd => k_is)
    (case dmr => k_is)
    (case dsu => first | k_is | ks_is)
    (case dln => k_is)
    (case dcd => k_is)
    (case dco => k_is)
    (case dfi => exact rfl)
    (case dce => k_is)
    (case em1 => kernel_rfl)
    (case em2 => kernel_rfl)
    (case em3 => kernel_rfl)
    (case z1 => k_is)
    (case z2 => k_is)
    (case z3 => k_is)
    (case z4 => k_is)
    (case z5 => k_is)
    (case z6 => k_is)
    (case z7 => k_is)
    (case z8 => k_is)
    (case z9 => k_is)
    (case z10 => k_is)
    (case z11 => k_is)
    (case z12 => k_is)
    (case z13 => k_is)
    (case z14 => k_is)
    (case z15 => k_is)
    (case z16 => k_is)
    (case z17 => k_is)
    (case y1 => k_is)
    (case y2 => k_is)
    (case y3 => k_is)
    (case y4 => k_is)
    (case pfl => first | k_is | kernel_rfl | rfl | decide +kernel)
    (case dfl => first | k_is | kernel_rfl | rfl | decide +kernel)
    (case ptp => first | k_is | kernel_rfl | rfl | decide +kernel)

